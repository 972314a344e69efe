import PyProof.Rows.All
import Wide.All
import OpenK.AllK
import Wide.FinOn
import HandS.ForMost
import PySem.Challenge.RW_meanpace_k01_lowest_terms
import KE.KSortKeyAny
import HandS.Conv
import HandS.Lambda
import HandS.ExcOwn
import HandS.IsInst
import HandS.Wide
import HandS.Gcd
/-! ## T0 -/
set_option linter.all false
namespace Mp
open PySem PySem.Spec PyProof.Rows L2
/-! ### the text by places -/
def top (i : Nat) : Stmt := PySem.Challenge.pw_meanpace_k01_lowest_terms.main.body.getD i (.Pass ⟨0, 0, 0, 0⟩)
abbrev sLowest : Stmt := top 2
abbrev sCell : Stmt := top 4
abbrev sLawWhole : Stmt := top 5
abbrev sLawNumberBy : Stmt := top 6
abbrev sLawCommon : Stmt := top 7
abbrev sLaw : Stmt := top 8
end Mp
/-! ## Gen1 -/
set_option Elab.async false
set_option linter.all false
set_option maxRecDepth 100000
set_option maxHeartbeats 2000000
namespace Mp
open PySem PySem.Spec PyProof.Rows L2

/-- 0, 1, .. below n -/
def upto (n : Nat) : List Int := (List.range n).map Int.ofNat
theorem upto_len (n : Nat) : (upto n).length = n := by unfold upto; simp
theorem ints_of_items {acc : Array Value} {n : Nat} (h : ItemsOf (fun i v => ∃ t, v = Value.int (0 + i * 1) t) acc n) : IntsAre acc.toList (upto n) := by
  have hl : acc.toList.length = n := by rw [Array.length_toList]; exact h.1
  have key : ∀ (l : List Value) (k : Nat), (∀ j v, l[j]? = some v → ∃ t, v = Value.int ((k + j : Nat) : Int) t) → IntsAre l ((List.range' k l.length).map Int.ofNat) := by
    intro l
    induction l with
    | nil => intro k _; exact IntsAre.nil
    | cons x r ih =>
      intro k hk
      obtain ⟨t, e0⟩ := hk 0 x rfl
      subst e0
      rw [List.length_cons, List.range'_succ, List.map_cons]
      exact IntsAre.cons _ t (ih (k + 1) fun j v e => by
        obtain ⟨t', e'⟩ := hk (j + 1) v e
        exact ⟨t', by rw [e']; congr 1; omega⟩)
  have q := key acc.toList 0 fun j v e => by
    obtain ⟨t, e'⟩ := h.2 j v (by rw [← e, Array.getElem?_toList])
    exact ⟨t, by rw [e']; congr 1; omega⟩
  rw [hl] at q
  unfold upto
  rw [List.range_eq_range']
  exact q

section
variable {prog : Program} {w : World} {A : Around} {E : Value → Shared → Prop} {s : Shared} {h₀ : Heap} {L r : Addr} {m : Str → Option Value} {news : List (Addr × Obj)} {Q : Value → Shared → Prop}
theorem sorted_rg {hi : Int} {n : Nat} {t u v : Tok} {f : Value} {kw : List (Str × Value)} (g : Int → Int) (F : Fr h₀ L s.heap m) (N : News h₀ L s.heap news) (hh : A.handled = none)
    (hr : IsRange s.heap r 0 hi 1 t u v) (hsm : Builtin.Range.small 0 hi 1 = true) (hn : Builtin.Range.rangeSize 0 hi 1 = n) (hlen : n ≤ 2 ^ 24)
    (ha1 : argsOk "sorted" ⟨[.ref r], kw⟩) (ha2 : ∀ x, argsOk "list.sort" ⟨[.ref x], kw⟩) (ht : ∀ x, Builtin.«list.sort» ⟨[.ref x], kw⟩ = ksk_tree x f false)
    (turn : ∀ (k : Int) (tt : Tok) (h : Heap) (tk : Nat) (own : List (Addr × Obj)), Fr h₀ L h m → News h₀ L h (news ++ own) →
      wpAny (model prog w) A.in1.in1 (call f [.int k tt]) (KskEnd h₀ L m (news ++ own) (g k) { s with heap := h, toks := tk }) (fun _ _ => False) { s with heap := h, toks := tk })
    (done : ∀ (D : Addr) (h' : Heap) (tk : Nat) (out : List Value) (ns : List Int) (c : Nat), Fr h₀ L h' m → News h₀ L h' ((D, seqObj "list" out.toArray c) :: news) → s.heap.get? D = none → L < D → IntsAre out ns → ns.Perm (upto n) →
      Q (.ref D) { s with heap := h', toks := tk }) :
    wpAny (model prog w) A (call (.builtin "sorted") [.ref r] kw) Q E s := by
  refine call_function_entry_kw kind_sorted plain_sorted entry_sorted ha1 ?_
  unfold Builtin.«sorted»
  refine wpAny_bind (m := checkCount "sorted" 1 1 _) (wpAny_pure ?_)
  have hh1 : A.in1.handled = none := hh
  refine wpAny_bind (collect_range hh1 hr hsm hn hlen fun h1 tk1 acc old1 its => ?_)
  have vsz : acc.toList.length = n := by rw [Array.length_toList]; exact its.1
  have small : acc.toList.length ≤ sizeLine := by rw [vsz, sizeLine_eq]; exact hlen
  refine wpAny_bind (wpAny_newList ?_ small)
  have atL : (h1.push (seqObj "list" acc.toList.toArray 0)).get? h1.objs.size = some (seqObj "list" acc.toList.toArray 0) := Heap.get?_push_size _ rfl
  have old2 : ∀ b o, s.heap.get? b = some o → (h1.push (seqObj "list" acc.toList.toArray 0)).get? b = some o := fun b o q => Heap.get?_push_of_some _ (old1 b o q)
  have F1 := F.kept old1
  have hL : L < h1.objs.size := F1.ns.lt
  have dead : s.heap.get? h1.objs.size = none := by
    cases q : s.heap.get? h1.objs.size with
    | none => rfl
    | some o => exact absurd (Heap.lt_size (old1 _ _ q)) (Nat.lt_irrefl _)
  have intsV := ints_of_items its
  refine wpAny_bind (wpAny_holding (wpAny_call_entry_kw slot_list_sort ⟨_, atL, rfl⟩ entry_list_sort ?body (ha2 _)))
  case body =>
    show wpAny (model prog w) A.in1.in1 (Builtin.«list.sort» ⟨[.ref h1.objs.size], kw⟩) _ _ _
    rw [ht h1.objs.size]
    refine ksk_sortAny (kz := (upto n).map g) (s := { s with heap := h1.push (seqObj "list" acc.toList.toArray 0), toks := tk1 }) (F.kept old2) (N.grown old2) atL (Nat.ne_of_gt hL)
      (Heap.get?_none_of_le (Nat.le_trans F1.above (Nat.le_of_lt hL))) (fun p hp => fun z => by
        have q := old1 _ _ (N p hp).1
        rw [z] at q
        exact absurd (Heap.lt_size q) (Nat.lt_irrefl _)) (by simp [vsz, upto_len]) small (fun i x k hx hk h tk own F' N' => ?_) fun h' tk out c F' N' ko => ⟨_, rfl, ?_⟩
    · obtain ⟨j, ej, ek⟩ : ∃ j : Int, (upto n)[i]? = some j ∧ g j = k := by
        rw [List.getElem?_map] at hk
        cases q : (upto n)[i]? with
        | none => rw [q] at hk; simp at hk
        | some j => rw [q] at hk; exact ⟨j, rfl, Option.some.inj hk⟩
      obtain ⟨t', et⟩ := intsV.get i j ej
      rw [et] at hx
      cases hx
      rw [← ek]
      exact turn j t' h tk own F' N'
    · obtain ⟨ps, hp, ho, _⟩ := ko
      have pv : out.toList.Perm acc.toList := by
        rw [ho]
        have q := hp.map Prod.snd
        rw [List.map_snd_zip (by simp [vsz, upto_len])] at q
        exact q
      have mem : ∀ x ∈ out.toList, ∃ i t, x = Value.int i t := fun x hx => intsV.all x (pv.mem_iff.mp hx)
      have iI : IntsAre out.toList (out.toList.map numOf) := by
        have z := intsAre_map out.toList mem
        exact z
      have pI : (out.toList.map numOf).Perm (upto n) := by
        have q := pv.map numOf
        rw [intsV.nums] at q
        exact q
      exact wpAny_pure ⟨_, rfl, done h1.objs.size h' tk out.toList _ c F' (by rw [Array.toArray_toList]; exact N') dead hL iI pI⟩
end
end Mp
/-! ## Gen2 -/
set_option Elab.async false
set_option linter.all false
set_option maxRecDepth 100000
set_option maxHeartbeats 2000000
namespace Mp
open PySem PySem.Spec PyProof.Rows L2 LamX

/-- the code of the key: (k + 1) * (1 + cell % 12) % 13 -/
def keyOf (z k : Int) : Int := ((k + 1) * (1 + z.fmod 12)).fmod 13
theorem key_body {prog : Program} {w : World} {A : Around} {env : Env} {s : Shared} {E : Value → Shared → Prop} {Q : Value → Shared → Prop} {x y : Str} {j1 j2 j3 j4 : Nat} {p1 p2 p3 p4 p5 p6 p7 p8 p9 p10 p11 : Pos} {m : Str → Option Value} {k z : Int} {t tz : Tok} {c : Addr}
    (hk : env.scope.kind = .function) (hx : env.kindOf x = some .local) (hy : env.kindOf y = some .free) (hn : s.heap.Ns env.locals m) (hv : m x = some (.int k t)) (hc : env.cells.lookup y = some c) (hcell : s.heap.IsCell c (some (.int z tz)))
    (dx : (x == ("__debug__" : Str)) = false) (dy : (y == ("__debug__" : Str)) = false) (cy : (y == ("__classdict__" : Str)) = false) (q : ∀ tk t', Q (.int (keyOf z k) t') { s with toks := tk }) :
    wpAny (model prog w) A (eval (.BinOp (.BinOp (.BinOp (.Name x p1) .Add (.Constant (.int 1) j1 p2) p3) .Mult (.BinOp (.Constant (.int 1) j2 p4) .Add (.BinOp (.Name y p5) .Mod (.Constant (.int 12) j3 p6) p7) p8) p9) .Mod (.Constant (.int 13) j4 p10) p11) env) Q E s := by
  refine wpAny_BinOp (wpAny_BinOp (wpAny_BinOp (wpAny_Name (wpAny_loadName_local hk hx hn hv (wpAny_Constant_int (add_int ?_))) dx)))
  refine wpAny_BinOp (wpAny_Constant_int (wpAny_BinOp (wpAny_Name (wpAny_loadName_free hk hy hc hcell (wpAny_Constant_int (mod_int' (by decide) (add_int (mul_int ?_ ?_)))) cy) dy)))
  · refine wpAny_Constant_int (mod_int' (by decide) ?_)
    exact q _ _
  · have h1 := Int.fmod_nonneg_of_pos z (show (0 : Int) < 12 by decide)
    have h2 := Int.fmod_lt_of_pos z (show (0 : Int) < 12 by decide)
    exact (show CMul _ _ from .inr ⟨by omega, by omega⟩).ok

section
variable {X : Cx} {pins : List (Addr × Obj)} {σ : L2.St} {H : Hp} {s : Shared} {h' : Heap}
theorem kept_all {g h h2 : Heap} {L : Addr} {m : Str → Option Value} {own : List (Addr × Obj)} (k : ∀ b o, g.get? b = some o → h.get? b = some o) (F : Fr g L h2 m) (N : News g L h2 (allNews g h L ++ own)) :
    ∀ b o, b ≠ L → h.get? b = some o → h2.get? b = some o := fun b o hb e => by
  cases q : g.get? b with
  | some u =>
    have z := k b u q
    rw [e] at z
    cases z
    exact F.keep b _ q
  | none => exact (N (b, o) (List.mem_append_left _ (mem_allNews hb q e))).1
theorem ns_same {h : Heap} {L : Addr} {m1 m2 : Str → Option Value} (a : h.Ns L m1) (b : h.Ns L m2) : m1 = m2 := by
  obtain ⟨o, es, ep, e, d, k, f⟩ := a
  obtain ⟨o', es', ep', e', d', k', f'⟩ := b
  rw [e] at e'
  cases e'
  rw [d] at d'
  cases d'
  first
  | (funext x; rw [f x, f' x])
  | (funext x; have := f x; have := f' x; simp_all)
theorem Inv.grownAt {D : Addr} {o : HO} {m : Str → Option Value} {tk : Nat} (I : Inv X pins σ H s) (h0 : s.heap.Ns X.env.locals m) (h1 : h'.Ns X.env.locals m)
    (k : ∀ b u, b ≠ X.env.locals → s.heap.get? b = some u → h'.get? b = some u) (dead : s.heap.get? D = none) (new : ObjOk X.prog X.w (upd H D o) h' D o) : Inv X pins σ (upd H D o) { s with heap := h', toks := tk } := by
  have nD : H D = none := by
    cases q : H D with
    | none => rfl
    | some u =>
      obtain ⟨v, e⟩ := objOk_get (I.hok D u q)
      rw [dead] at e
      cases e
  have ne : ∀ b u, s.heap.get? b = some u → b ≠ D := fun b u e z => by rw [z, dead] at e; cases e
  have nh : ∀ b u, H b = some u → b ≠ D := fun b u e => ne_of_none e nD
  have kL : ∀ b u, s.heap.get? b = some u → H b = none ∨ h'.get? b = some u := fun b u e => by
    by_cases hb : b = X.env.locals
    · rw [hb]; exact .inl I.free
    · exact .inr (k b u hb e)
  refine I.step (g' := s.gens) (d' := s.drawn) (ch := []) (fun b hb => absurd hb (by simp)) (fun b u h1 _ _ e _ => k b u h1 e) (fun b u h1 _ _ e _ => ⟨u.slots, k b u h1 e⟩) (fun b u _ e n => by rw [upd_ne (ne b u e)]; exact n) (fun b u _ e => ?_)
    (fun b xs e => by rw [upd_ne (nh b _ e)]; exact e) (fun b u v e => by rw [upd_ne (nh b _ e)]; exact e) (fun b ps e => ⟨#[], by rw [upd_ne (nh b _ e), e]; simp⟩) (fun m' hm => ?_) (fun b u e => ?_) I.bare
  · by_cases hb : b = X.env.locals
    · obtain ⟨o', _, _, e', _⟩ := h1
      exact ⟨o', by rw [hb]; exact e'⟩
    · exact ⟨u, k b u hb e⟩
  · rw [ns_same hm h0]
    exact h1
  · by_cases hb : b = D
    · rw [hb, upd_same] at e
      cases e
      rw [hb]
      exact new
    · rw [upd_ne hb] at e
      refine (I.hok b u e).stay (fun c v hc q => k c v ?_ q) (fun c q => by rw [upd_ne (nh c _ q)]; exact q) fun c xs q => by rw [upd_ne (nh c _ q)]; exact q
      rintro rfl
      rcases hc with z | z
      · rw [← z, I.free] at e; cases e
      · rw [I.free] at z; cases z
end

/-! ### range(n) as a value, sorted(range(n), key=lambda ..) -/
section
variable {X : Cx}
def tRngV (te : TE) : TE := fun σ H Q => te σ H fun x H1 => ∃ n : Int, x = .int n ∧ ∀ r, H1 r = none → Q (.ref r) (upd H1 r (.rng 0 n))
theorem pe_rngV {ne : Expr} {te : TE} {p pos : Pos} (hg : Gl X "range") (hm : X.mg "range" = none) (ha : PE X ne te) (na : starEach [ne] X.env = (false, eval ne X.env) :: starEach [] X.env := by rfl) :
    PE X (.Call (.Name "range" p) [ne] [] pos) (tRngV te) := by
  refine ⟨fun pins s σ H Q I h => ?_⟩
  refine Call_ (ld_blt I hg hm boot_range (PyProof.Rows.callWith_type1 (one_arg ha I h (fun v s2 x H2 I2 r q => ?_) na) na))
  obtain ⟨n, rfl, q⟩ := q
  obtain ⟨t, rfl⟩ := r
  refine call_range_1 ⟨.ref s2.heap.objs.size, upd H2 s2.heap.objs.size (.rng 0 n), I2.laid (fun b o e => Heap.get?_push_of_some _ e) (Nat.le_refl _) ?_, rfl, q _ (I2.hok.fresh (Nat.le_refl _))⟩
  exact ⟨_, _, _, Heap.get?_push_size _ rfl⟩
/-- what the sort asks and tells, r the range object -/
def qSort (T : List (Addr × Str)) (ic : Nat) (σ : L2.St) (Q : VK) (x : V) (H : Hp) : Prop := ∃ (r : Addr) (n z : Int), x = .ref r ∧ H r = some (.rng 0 n) ∧ 0 ≤ n ∧ n ≤ 1000 ∧ Tabs T H ∧ σ[ic]? = some (some (.int z)) ∧
  ∀ (H2 : Hp) (D : Addr) (ns : List Int), ExtN H H2 → Tabs T H2 → ns.Perm (upto n.toNat) → H2 D = none → Q (.ref D) (upd H2 D (.lst (ns.map V.int)))
def tSortLam (T : List (Addr × Str)) (ic : Nat) (te : TE) : TE := fun σ H Q => tRngV te σ H (qSort T ic σ Q)
abbrev keyExpr (x y : Str) (j1 j2 j3 j4 : Nat) (p1 p2 p3 p4 p5 p6 p7 p8 p9 p10 p11 : Pos) : Expr :=
  .BinOp (.BinOp (.BinOp (.Name x p1) .Add (.Constant (.int 1) j1 p2) p3) .Mult (.BinOp (.Constant (.int 1) j2 p4) .Add (.BinOp (.Name y p5) .Mod (.Constant (.int 12) j3 p6) p7) p8) p9) .Mod (.Constant (.int 13) j4 p10) p11
theorem pe_sortedLam {T : List (Addr × Str)} {c P : Addr} {ne : Expr} {te : TE} {x y : Str} {q1 q2 q3 q4 q5 q6 : Pos} {j1 j2 j3 j4 : Nat} {p1 p2 p3 p4 p5 p6 p7 p8 p9 p10 p11 : Pos} {params : Arguments} {scope : Scope} {ic : Nat}
    (hc : X.calm = true) (hgs : Gl X "sorted") (hms : X.mg "sorted" = none) (hgr : Gl X "range") (hmr : X.mg "range" = none) (TB : TabB X.base X.mg c P) (hcode : X.env.code = .ref c) (hmT : (P, X.env.qual ++ "<lambda>") ∈ T) (hu : ∀ p ∈ T, p.1 = P → p.2 = X.env.qual ++ "<lambda>") (hr : Room 1 X.A)
    (hne : PE X ne te) (hN : X.N[ic]? = some y) (hcl : X.env.scope.names.lookup y = some .cell) (hdef : defaultsOf params X.env = ([], [])) (hfree : ∀ z ∈ scope.names, z.2 = .free → z.1 = y) (hk : scope.kind = .function) (hco : scope.isCoroutine = false) (hgen : scope.isGenerator = false)
    (hxl : scope.names.lookup x = some .local) (hyl : scope.names.lookup y = some .free) (hnc : ∀ z ∈ scope.names, z.2 ≠ .cell) (dx : (x == ("__debug__" : Str)) = false) (dy : (y == ("__debug__" : Str)) = false) (cy : (y == ("__classdict__" : Str)) = false)
    (hbind : ∀ (q : Str) (cl : List (Str × Addr)) (pm cv ctv u : Value), bindArgs (PySem.W.kla_fn "<lambda>" q params (keyExpr x y j1 j2 j3 j4 p1 p2 p3 p4 p5 p6 p7 p8 p9 p10 p11) scope cl pm cv ctv) ⟨[u], []⟩ = pure [(x, u)])
    (na : starEach [ne] X.env = (false, eval ne X.env) :: starEach [] X.env := by rfl) :
    PE X (.Call (.Name "sorted" q1) [.Call (.Name "range" q2) [ne] [] q3] [⟨some "key", .Lambda params (keyExpr x y j1 j2 j3 j4 p1 p2 p3 p4 p5 p6 p7 p8 p9 p10 p11) scope q4, q5⟩] q6) (tSortLam T ic te) := by
  refine ⟨fun pins s σ H Q I h => ?_⟩
  refine wpAny_Call_Name_kw (ld_blt I hgs hms boot_sorted ?_)
  refine PyProof.Rows.callWith_kw ?_ rfl rfl rfl rfl
  refine one_arg (pe_rngV (p := q2) (pos := q3) hgr hmr hne na) I h (fun v s1 xv H1 I1 r1 q => ?_) rfl
  obtain ⟨r, n, z, rfl, hR, n0, n1, hT, hz, q⟩ := q
  obtain rfl : v = Value.ref r := r1
  have hfr : ∀ w ∈ scope.names, w.2 = .free → ∃ c, X.env.cells.lookup w.1 = some c := fun w hw e => by
    rw [hfree w hw e]
    exact I1.ok.has _ (.inl hcl)
  show wpAny _ _ (evalAll ((do let v ← eval (.Lambda params (keyExpr x y j1 j2 j3 j4 p1 p2 p3 p4 p5 p6 p7 p8 p9 p10 p11) scope q4) X.env; standAt q6; pure v) :: [])) _ _ s1
  refine wpAny_evalAll_cons (wpAny_bind (lam_make2 I1 TB hcode hmT hu hT hdef hfr fun f c' pm ctv H2 s2 I2 eN T2 hf hfn hfs hco' => wpAny_bind (wpAny_standAt (wpAny_pure (wpAny_evalAll_nil ?_)))))
  show wpAny _ _ (call (.builtin "sorted") [.ref r] [(Str.ofString "key", .ref f)]) _ _ s2
  have hR2 := eN r _ hR (fun ps e => by cases e)
  obtain ⟨t1, t2, t3, hrg⟩ : ∃ t u v, s2.heap.get? r = some { cls := .type "range", data := .fields #[.int 0 t, .int n u, .int 1 v] } := I2.hok r _ hR2
  obtain ⟨m, hns, hloc⟩ := I2.loc
  have F : Fr X.base X.env.locals s2.heap m := ⟨hns, I2.bk, Nat.le_trans I2.ok.bsz I2.ok.above⟩
  -- the captured cell
  obtain ⟨u, ru, lk⟩ := hloc ic y (.int z) hN hz (.inr (.inl hcl))
  obtain ⟨tz, rfl⟩ := ru
  obtain ⟨cc, hcc, hcell⟩ : ∃ cc, X.env.cells.lookup y = some cc ∧ s2.heap.IsCell cc (some (.int z tz)) := by
    rcases lk with ⟨k, _⟩ | ⟨_, cc, e1, e2⟩
    · have k' : X.env.scope.names.lookup y = some .local := k
      rw [hcl] at k'
      cases k'
    · exact ⟨cc, e1, e2⟩
  have hclo : (cloFrom X.env.cells scope.names []).lookup y = some cc := by
    obtain ⟨c1, h1⟩ := mem_lookup (cloFrom_has (cells := X.env.cells) (acc := []) (PySem.mem_of_lookup hyl))
    rcases cloFrom_mem (PySem.mem_of_lookup h1) with hm | ⟨h2, h3⟩
    · cases hm
    · rw [h1, h3, hcc] <;> rfl
  have fL : f ≠ X.env.locals := fun e => by
    obtain ⟨o, es, ep, e1, e2, _⟩ := hns
    rw [← e, hf] at e1
    cases e1
    cases e2
  have cL : c' ≠ X.env.locals := fun e => by
    rw [e, I2.free] at hco'
    cases hco'
  have ccL := I2.cne y cc hcc
  refine sorted_rg (keyOf z) F news_all (I2.ok.hd hc) hrg (small_one (by omega) (by omega) (by omega) (by omega)) (n := n.toNat) (by rw [rangeSize_one]; split <;> omega) (by omega) (PyProof.Rows.ksk_s1 _ _) (fun _ => PyProof.Rows.ksk_l1 _ _) (fun _ => PyProof.Rows.ksk_t1 _ _)
    (fun k tt h3 tk own F3 N3 => ?_) fun D h3 tk out ns e F3 N3 dead lD hI hP => ?_
  · have kp := kept_all I2.bk F3 N3
    have ho : h3.get? f = some _ := kp f _ fL hf
    refine wpAny_call (PySem.W.kla_callFunE (A := X.A.in1.in1) (by have := hr.dp; show X.A.depth < recursionLimit; omega) ho rfl hco hgen rfl ?_ ?_)
    · obtain ⟨⟨oc, vs, t, e1, e2, e3⟩, _, _⟩ := I2.hok c' _ hco'
      exact ⟨c', oc, vs, t, rfl, kp c' oc cL e1, e2, e3⟩
    · rw [hbind]
      refine wpAny_pure (wpAny_newFunctionEnv hnc (fun w hw => by rw [List.mem_singleton.mp hw]; exact hxl) (fun h4 hns4 hsb => ⟨(I2.ok.mod.nolimit.keeps F3.keep).fresh _ hsb, ?_⟩) hk)
      have kp4 : ∀ b o, h3.get? b = some o → h4.get? b = some o := fun b o e => hsb.extBut b o (Nat.ne_of_lt (Heap.lt_size e)) (Heap.get?_push_of_some _ e)
      refine PySem.W.kla_codeExpr (key_body (x := x) (y := y) (c := cc) (k := k) (t := tt) (z := z) (tz := tz) hk hxl hyl hns4 ?_ hclo ?_ dx dy cy fun tk' t' => ?_)
      · simp
      · obtain ⟨oc, e1, e2⟩ := hcell
        exact ⟨oc, kp4 _ _ (kp cc oc ccL e1), e2⟩
      · exact KskEnd.intro (F3.kept kp4) (N3.grown kp4) fun p hp => hp
  · have N' : News X.base X.env.locals h3 (allNews X.base s2.heap X.env.locals) := fun p hp => N3 p (List.mem_cons_of_mem _ hp)
    have kp := kept_all (own := []) I2.bk F3 (by rw [List.append_nil]; exact N')
    have at_ := (N3 _ List.mem_cons_self).1
    have hl : ns.length = n.toNat := by rw [hP.length_eq, upto_len]
    refine ⟨.ref D, upd H2 D (.lst (ns.map V.int)), Inv.grownAt I2 hns F3.ns kp dead ⟨?_, out, e, vals_ints hI, at_⟩, rfl, q H2 D ns eN T2 hP ?_⟩
    · rw [List.length_map, hl, sizeLine_eq]; omega
    · cases e : H2 D with
      | none => rfl
      | some u =>
        obtain ⟨v, e'⟩ := objOk_get (I2.hok D u e)
        rw [dead] at e'
        cases e'
end
end Mp
/-! ## K1 -/
set_option Elab.async false
set_option linter.all false
set_option maxRecDepth 100000
set_option maxHeartbeats 4000000
namespace Mp
open PySem PySem.Spec PyProof.Rows L2
structure NamesK (mg : Str → Option Value) : Prop where
  len : mg "len" = none
  isin : mg "isinstance" = none
  int : mg "int" = none
  bool : mg "bool" = none
  tuple : mg "tuple" = none
theorem same_new {H H' : Hp} {p : Addr} {o : HO} (s : Same H H') (hp : H' p = none) : Same H (upd H' p o) := fun b u e => by rw [upd_ne (ne_of_none (s b u e) hp)]; exact s b u e
theorem gcd_step {a b : Int} (ha : 0 ≤ a) (hb : 0 < b) : Int.gcd b (a % b) = Int.gcd a b := by
  have h1 : (a % b).natAbs = a.natAbs % b.natAbs := by
    obtain ⟨x, rfl⟩ : ∃ x : Nat, a = x := ⟨a.toNat, by omega⟩
    obtain ⟨y, rfl⟩ : ∃ y : Nat, b = y := ⟨b.toNat, by omega⟩
    rw [← Int.natCast_emod, Int.natAbs_natCast, Int.natAbs_natCast, Int.natAbs_natCast]
  unfold Int.gcd
  rw [h1, Nat.gcd_comm b.natAbs, ← Nat.gcd_rec b.natAbs a.natAbs, Nat.gcd_comm]
theorem gcd_end {a : Int} (ha : 0 ≤ a) : (Int.gcd a 0 : Int) = a := by
  unfold Int.gcd
  simp
  omega
section
variable {P : Program} {w : World} {K : PySem.W.Frag} {mg : Str → Option Value} {base : Heap}
def spCell (K : PySem.W.Frag) : Sp := fun vs H Q _ => ∃ (a : Addr) (k : Int) (ns : List Int), vs = [.ref a, .int k] ∧ SqL K H a (ns.map V.int) ∧ 0 ≤ k ∧ ∀ z : Int, Q (.int z) H
theorem scCe : FnScope ["_law_script", "_law_k"] ["_law_script", "_law_k"] (defScope sCell) := ⟨rfl, rfl, rfl, by decide +kernel, rfl, by decide +kernel, by decide +kernel⟩
theorem ok_cell {f : Addr} {fd : FuncData} (F : Fun K "_law_cell_at" "_law_cell_at" sCell f fd) (Z : NamesK mg) : FnOk P w K mg base CX0 1 f fd ["_law_script", "_law_k"] (spCell K) := by
  refine F.ok scCe (fun vs H Q E h => ?_) (fun cdv A outer s H vs Q E hr h => ?_)
  · obtain ⟨a, k, ns, rfl, _⟩ := h
    rfl
  · obtain ⟨a, k, ns, rfl, hS, h0, hQ⟩ := h
    refine ⟨_, pss_cons (ps_if (pt_cmpR op_lt (pv 1) (pe_callB call_len_seq (by rfl) Z.len PySem.boot_len (pa_cons (pv 0) pa_nil)) (nomark _)) (pss_one (ps_ret (pe_ix ix_list (pv 0) (pv 1) (fun _ _ => rfl)))) pss_nil) (pss_one (ps_ret pe_int)), ?_⟩
    refine ⟨_, rfl, _, rfl, a, _, rfl, .inl hS, _, _, rfl, rfl, _, rfl, ?_⟩
    rw [List.length_map]
    by_cases c : k < (ns.length : Int)
    · rw [decide_eq_true c]
      refine iteT ?_
      obtain ⟨z, hz⟩ : ∃ z, ns[k.toNat]? = some z := ⟨_, List.getElem?_eq_getElem (by omega)⟩
      refine ⟨_, rfl, _, rfl, a, _, k, .int z, rfl, rfl, hS, ?_, hQ z⟩
      have e : k = ((k.toNat : Nat) : Int) := by omega
      rw [e]
      exact atI_nat (by rw [List.getElem?_map, hz]; rfl)
    · rw [decide_eq_false c]
      exact iteF (hQ 0)
def spWhole : Sp := fun vs H Q _ => ∃ z : Int, vs = [.int z] ∧ Q (.bl true) H
theorem scWh : FnScope ["_law_found"] ["_law_found"] (defScope sLawWhole) := ⟨rfl, rfl, rfl, by decide +kernel, rfl, by decide +kernel, by decide +kernel⟩
theorem ok_whole {f : Addr} {fd : FuncData} (F : Fun K "_law_whole" "_law_whole" sLawWhole f fd) (Z : NamesK mg) : FnOk P w K mg base CX0 1 f fd ["_law_found"] spWhole := by
  refine F.ok scWh (fun vs H Q E h => ?_) (fun cdv A outer s H vs Q E hr h => ?_)
  · obtain ⟨z, rfl, _⟩ := h
    rfl
  · obtain ⟨z, rfl, hQ⟩ := h
    refine ⟨_, pss_one (ps_ret (pe_and (pe_callB call_isi (by rfl) Z.isin (by decide +kernel) (pa_cons (pv 0) (pa_cons (pe_bltn (v := .ty "int") rfl Z.int (by decide +kernel) rfl) pa_nil)))
      (pe_one (pe_not (pe_callB call_isi (by rfl) Z.isin (by decide +kernel) (pa_cons (pv 0) (pa_cons (pe_bltn (v := .ty "bool") rfl Z.bool (by decide +kernel) rfl) pa_nil))))))), ?_⟩
    refine ⟨_, rfl, .int z, .ty "int", .type "int", .type "int", true, rfl, .ty _, .base (.int _), kit_ty (by decide +kernel), true, rfl, iteT ?_⟩
    exact ⟨_, rfl, .int z, .ty "bool", .type "int", .type "bool", false, rfl, .ty _, .base (.int _), kit_ty (by decide +kernel), false, rfl, hQ⟩
/-- a number below 10 ** 40 -/
def spNumBy : Sp := fun vs H Q _ => ∃ c k : Int, vs = [.int c, .int k] ∧ ∀ (z : Int) (H' : Hp), 0 ≤ z → z < 10 ^ 40 → Same H H' → Q (.int z) H'
theorem scNb : FnScope ["_law_cell", "_law_way"] ["_law_cell", "_law_way"] (defScope sLawNumberBy) := ⟨rfl, rfl, rfl, by decide +kernel, rfl, by decide +kernel, by decide +kernel⟩
theorem ok_numby {f : Addr} {fd : FuncData} (F : Fun K "_law_number_by" "_law_number_by" sLawNumberBy f fd) : FnOk P w K mg base CX0 1 f fd ["_law_cell", "_law_way"] spNumBy := by
  refine F.ok scNb (fun vs H Q E h => ?_) (fun cdv A outer s H vs Q E hr h => ?_)
  · obtain ⟨c, k, rfl, _⟩ := h
    rfl
  · obtain ⟨c, k, rfl, hQ⟩ := h
    refine ⟨_, pss_one (ps_ret (pe_op op_mod (pv 0) (pe_ix ix_list (pe_lst (pa_cons pe_int (pa_cons pe_int (pa_cons (pe_op op_pow pe_int pe_int) pa_nil)))) (pe_op op_mod (pv 1) pe_int) (fun _ _ => rfl)))), ?_⟩
    refine ⟨_, rfl, _, _, rfl, rfl, ⟨by decide, by decide, by decide⟩, (by show 3 ≤ sizeLine; decide), fun p np => ?_⟩
    have sm := same_new (o := .lst [V.int 13, V.int 1000, V.int (10 ^ (40 : Int).toNat)]) (Same.refl H) np
    have c3 : k % 3 = ((0 : Nat) : Int) ∨ k % 3 = ((1 : Nat) : Int) ∨ k % 3 = ((2 : Nat) : Int) := by omega
    have fin : ∀ d : Int, 0 < d → d ≤ 10 ^ 40 → Q (.int (c % d)) (upd H p (.lst [V.int 13, V.int 1000, V.int (10 ^ (40 : Int).toNat)])) := fun d d0 d1 => hQ _ _ (Int.emod_nonneg _ (by omega)) (Int.lt_of_lt_of_le (Int.emod_lt_of_pos _ d0) d1) sm
    refine ⟨_, rfl, _, _, rfl, rfl, (by show (0 : Int) < 3; decide), p, [V.int 13, V.int 1000, V.int (10 ^ (40 : Int).toNat)], k % 3, ?_⟩
    rcases c3 with e | e | e
    · exact ⟨.int 13, rfl, rfl, SqL.of upd_same, (by rw [e]; exact atI_nat rfl), _, _, rfl, rfl, (by show (0 : Int) < 13; decide), fin 13 (by decide) (by decide)⟩
    · exact ⟨.int 1000, rfl, rfl, SqL.of upd_same, (by rw [e]; exact atI_nat rfl), _, _, rfl, rfl, (by show (0 : Int) < 1000; decide), fin 1000 (by decide) (by decide)⟩
    · exact ⟨.int (10 ^ (40 : Int).toNat), rfl, rfl, SqL.of upd_same, (by rw [e]; exact atI_nat rfl), _, _, rfl, rfl, (by show (0 : Int) < 10 ^ (40 : Int).toNat; decide), fin _ (by decide) (by decide)⟩
def spCommon : Sp := fun vs H Q _ => ∃ a b : Int, vs = [.int a, .int b] ∧ 0 ≤ a ∧ 0 ≤ b ∧ Q (.int (Int.gcd a b)) H
theorem scCo : FnScope ["_law_one", "_law_other", "_law_rest"] ["_law_one", "_law_other"] (defScope sLawCommon) := ⟨rfl, rfl, rfl, by decide +kernel, rfl, by decide +kernel, by decide +kernel⟩
theorem ok_common {f : Addr} {fd : FuncData} (F : Fun K "_law_common" "_law_common" sLawCommon f fd) : FnOk P w K mg base CX0 1 f fd ["_law_one", "_law_other"] spCommon := by
  refine F.ok scCo (fun vs H Q E h => ?_) (fun cdv A outer s H vs Q E hr h => ?_)
  · obtain ⟨a, b, rfl, _⟩ := h
    rfl
  · obtain ⟨a, b, rfl, ha, hb, hQ⟩ := h
    refine ⟨_, pss_cons (ps_while PassesOwn.never (pt_cmpR op_gt (pv 1) pe_int (nomark _))
        (pss_cons (ps_set (i := 2) scCo.nd rfl (.inl rfl) (pe_op op_mod (pv 0) (pv 1)))
        (pss_cons (ps_set (i := 0) scCo.nd rfl (.inl rfl) (pv 1))
        (pss_one (ps_set (i := 1) scCo.nd rfl (.inl rfl) (pv 2))))))
      (pss_one (ps_ret (pv 0))), ?_⟩
    refine ⟨fun n σ H' => ∃ (x y : Int) (r : Option V), σ = [some (.int x), some (.int y), r] ∧ H' = H ∧ 0 ≤ x ∧ 0 ≤ y ∧ Int.gcd x y = Int.gcd a b ∧ n = y.toNat, ⟨_, a, b, _, rfl, rfl, ha, hb, rfl, rfl⟩, ?_⟩
    rintro n σ H' ⟨x, y, r, rfl, rfl, hx, hy, hg, hn⟩
    refine ⟨_, rfl, _, _, rfl, rfl, _, rfl, ?_⟩
    by_cases c : 0 < y
    · rw [decide_eq_true c]
      have l := Int.emod_lt_of_pos x c
      have g0 := Int.emod_nonneg x (show y ≠ 0 by omega)
      refine iteT ⟨fun σ' H'' => ∃ m' < n, ∃ (x y : Int) (r : Option V), σ' = [some (.int x), some (.int y), r] ∧ H'' = H' ∧ 0 ≤ x ∧ 0 ≤ y ∧ Int.gcd x y = Int.gcd a b ∧ m' = y.toNat, fun _ _ h => h, ?_⟩
      exact ⟨_, rfl, _, rfl, _, _, rfl, rfl, c, _, rfl, _, rfl, (x % y).toNat, (by omega), _, _, _, rfl, rfl, hy, g0, (gcd_step hx c).trans hg, rfl⟩
    · rw [decide_eq_false c]
      have y0 : y = 0 := by omega
      subst y0
      refine iteF ⟨_, rfl, ?_⟩
      have e : (Int.gcd a b : Int) = x := by rw [← hg]; exact gcd_end hx
      rw [e] at hQ
      exact hQ
end
end Mp
/-! ## K2 -/
set_option Elab.async false
set_option linter.all false
set_option maxRecDepth 100000
set_option maxHeartbeats 4000000
set_option exponentiation.threshold 2000
namespace Mp
open PySem PySem.Spec PyProof.Rows L2
/-- in lowest terms -/
def spLowest : Sp := fun vs H Q _ => ∃ n d : Int, vs = [.int n, .int d] ∧ 0 ≤ n ∧ 1 ≤ d ∧ n ≤ 10 ^ 80 ∧ d ≤ 10 ^ 80 ∧
  ∀ (T : Addr) (a b : Int) (H' : Hp), Same H H' → H' T = some (.tup [.int a, .int b]) → 0 ≤ a → 1 ≤ b → a ≤ n → b ≤ d → a * d = n * b → Int.gcd a b = 1 → Q (.ref T) H'
theorem nat_lt {i : Int} (h0 : 0 ≤ i) (h1 : i ≤ 10 ^ 80) : i.natAbs < 2 ^ 300 := by
  have e : (10 : Int) ^ 80 < 2 ^ 300 := by decide
  have e2 : ((i.natAbs : Nat) : Int) = i := by omega
  have : ((i.natAbs : Nat) : Int) < ((2 ^ 300 : Nat) : Int) := by
    rw [e2]
    have e3 : ((2 ^ 300 : Nat) : Int) = (2 : Int) ^ 300 := by decide
    rw [e3]
    omega
  omega
theorem mul_ok {i j : Int} (h0 : 0 ≤ i) (h1 : i ≤ 10 ^ 80) (g0 : 0 ≤ j) (g1 : j ≤ 10 ^ 80) : CMulW i j := wide_mul (nat_lt h0 h1) (nat_lt g0 g1) (by decide) (by decide) (by decide)
theorem prod_le {i j : Int} (h0 : 0 ≤ i) (h1 : i ≤ 10 ^ 40) (g0 : 0 ≤ j) (g1 : j ≤ 10 ^ 40) : 0 ≤ i * j ∧ i * j ≤ 10 ^ 80 := by
  refine ⟨Int.mul_nonneg h0 g0, ?_⟩
  have e : (10 : Int) ^ 80 = 10 ^ 40 * 10 ^ 40 := by decide
  rw [e]
  exact Int.mul_le_mul h1 g1 g0 (by decide)
section
variable {P : Program} {w : World} {K : PySem.W.Frag} {mg : Str → Option Value} {base : Heap}
def spLaw1 (K : PySem.W.Frag) : Sp := fun vs H Q _ => ∃ (a : Addr) (ns : List Int), vs = [.ref a] ∧ SqL K H a (ns.map V.int) ∧ ∀ H', Q (.bl true) H'
theorem scL1 : FnScope ["_law_script", "_law_number", "_law_divisor", "_law_more", "_law_found"] ["_law_script"] (defScope sLaw) := ⟨rfl, rfl, rfl, by decide +kernel, rfl, by decide +kernel, by decide +kernel⟩
theorem ok_law1 {f fC fN fW fO fL : Addr} {fd dC dN dW dO dL : FuncData} {CX : CXT} {kl : Nat} (F : Fun K "law" "law" sLaw f fd) (FC : Fun K "_law_cell_at" "_law_cell_at" sCell fC dC) (FN : Fun K "_law_number_by" "_law_number_by" sLawNumberBy fN dN) (FW : Fun K "_law_whole" "_law_whole" sLawWhole fW dW) (FO : Fun K "_law_common" "_law_common" sLawCommon fO dO)
    (GL : FnOk P w K mg base CX0 kl fL dL ["number", "divisor"] spLowest) (gL : mg "lowest" = some (.ref fL)) (kL : PySem.W.keepIn K (.ref fL) = true) (bL : Binds K dL ["number", "divisor"] []) (h1 : 1 ≤ kl)
    (gC : mg "_law_cell_at" = some (.ref fC)) (gN : mg "_law_number_by" = some (.ref fN)) (gW : mg "_law_whole" = some (.ref fW)) (gO : mg "_law_common" = some (.ref fO)) (bC : Binds K dC ["_law_script", "_law_k"] []) (bN : Binds K dN ["_law_cell", "_law_way"] []) (bW : Binds K dW ["_law_found"] []) (bO : Binds K dO ["_law_one", "_law_other"] []) (Z : NamesK mg) :
    FnOk P w K mg base CX0 (kl + 1) f fd ["_law_script"] (spLaw1 K) := by
  have GC : FnOk P w K mg base CX0 1 fC dC ["_law_script", "_law_k"] (spCell K) := ok_cell FC Z
  have GN : FnOk P w K mg base CX0 1 fN dN ["_law_cell", "_law_way"] spNumBy := ok_numby FN
  have GW : FnOk P w K mg base CX0 1 fW dW ["_law_found"] spWhole := ok_whole FW Z
  have GO : FnOk P w K mg base CX0 1 fO dO ["_law_one", "_law_other"] spCommon := ok_common FO
  refine F.ok scL1 (fun vs H Q E h => ?_) (fun cdv A outer s H vs Q E hr h => ?_)
  · obtain ⟨a, ns, rfl, _⟩ := h
    rfl
  · obtain ⟨a, ns, rfl, hS, hQ⟩ := h
    have hr1 : Room 1 _ := hr.mono h1
    have hrL : Room kl _ := hr
    refine ⟨_, pss_cons (ps_set (i := 1) scL1.nd rfl (.inl rfl) (pe_call GN hr1 rfl gN FN.kp bN .nil pass0 (pa_cons (pe_call GC hr1 rfl gC FC.kp bC .nil pass0 (pa_cons (pv 0) (pa_cons pe_int pa_nil))) (pa_cons (pe_call GC hr1 rfl gC FC.kp bC .nil pass0 (pa_cons (pv 0) (pa_cons pe_int pa_nil))) pa_nil))))
      (pss_cons (ps_set (i := 2) scL1.nd rfl (.inl rfl) (pe_op op_add pe_int (pe_call GN hr1 rfl gN FN.kp bN .nil pass0 (pa_cons (pe_call GC hr1 rfl gC FC.kp bC .nil pass0 (pa_cons (pv 0) (pa_cons pe_int pa_nil))) (pa_cons (pe_op op_fdiv (pe_call GC hr1 rfl gC FC.kp bC .nil pass0 (pa_cons (pv 0) (pa_cons pe_int pa_nil))) pe_int) pa_nil)))))
      (C8.pss_cut (ps_if (pt_cmpR op_eq (pe_op op_mod (pe_op op_fdiv (pe_call GC hr1 rfl gC FC.kp bC .nil pass0 (pa_cons (pv 0) (pa_cons pe_int pa_nil))) pe_int) pe_int) pe_int (nomark _))
        (pss_cons (ps_set (i := 3) scL1.nd rfl (.inl rfl) (pe_op op_add pe_int (pe_call GN hr1 rfl gN FN.kp bN .nil pass0 (pa_cons (pe_call GC hr1 rfl gC FC.kp bC .nil pass0 (pa_cons (pv 0) (pa_cons pe_int pa_nil))) (pa_cons (pe_op op_fdiv (pe_call GC hr1 rfl gC FC.kp bC .nil pass0 (pa_cons (pv 0) (pa_cons pe_int pa_nil))) pe_int) pa_nil)))))
        (pss_cons (ps_set (i := 1) scL1.nd rfl (.inl rfl) (pe_op op_mulW (pv 1) (pv 3)))
        (pss_one (ps_set (i := 2) scL1.nd rfl (.inl rfl) (pe_op op_mulW (pv 2) (pv 3)))))) pss_nil)
      (pss_cons (ps_set (i := 4) scL1.nd rfl (.inl rfl) (pe_call GL hrL rfl gL kL bL .nil pass0 (pa_cons (pv 1) (pa_cons (pv 2) pa_nil))))
      (pss_cons (ps_if (PW.pt (pw_or (pt_not (pt_val (pe_callB call_isi (by rfl) Z.isin (by decide +kernel) (pa_cons (pv 4) (pa_cons (pe_bltn (v := .ty "tuple") rfl Z.tuple (by decide +kernel) rfl) pa_nil))))) (pw_or (pt_cmpR op_ne (pe_callB call_len_seq (by rfl) Z.len PySem.boot_len (pa_cons (pv 4) pa_nil)) pe_int (nomark _))
          (pw_or (pt_not (pt_val (pe_call GW hr1 rfl gW FW.kp bW .nil pass0 (pa_cons (pe_ix (r := rIxT K) ix_tup (pv 4) pe_int (fun _ _ => rfl)) pa_nil)))) (pw_or1 (pt_not (pt_val (pe_call GW hr1 rfl gW FW.kp bW .nil pass0 (pa_cons (pe_ix (r := rIxT K) ix_tup (pv 4) pe_int (fun _ _ => rfl)) pa_nil)))))))))
        (pss_one (ps_ret pe_bl)) pss_nil)
      (pss_cons (ps_if (PW.pt (pw_or (pt_cmpR op_lt (pe_ix (r := rIxT K) ix_tup (pv 4) pe_int (fun _ _ => rfl)) pe_int (nomark _)) (pw_or1 (pt_cmpR op_ne (pe_op op_mulW (pe_ix (r := rIxT K) ix_tup (pv 4) pe_int (fun _ _ => rfl)) (pv 2)) (pe_op op_mulW (pv 1) (pe_ix (r := rIxT K) ix_tup (pv 4) pe_int (fun _ _ => rfl))) (nomark _))))) (pss_one (ps_ret pe_bl)) pss_nil)
      (pss_one (ps_ret (pe_cmpR op_eq (pe_call GO hr1 rfl gO FO.kp bO .nil pass0 (pa_cons (pe_ix (r := rIxT K) ix_tup (pv 4) pe_int (fun _ _ => rfl)) (pa_cons (pe_ix (r := rIxT K) ix_tup (pv 4) pe_int (fun _ _ => rfl)) pa_nil))) pe_int (nomark _))))))))), ?_⟩
    refine ⟨_, rfl, a, 0, ns, rfl, hS, (by decide), fun z0 => ⟨_, rfl, a, 3, ns, rfl, hS, (by decide), fun z3 => ⟨_, _, rfl, fun n H1 n0 n1 s1 => ?_⟩⟩⟩
    have hS1 := s1.seq hS
    refine ⟨_, rfl, a, 1, ns, rfl, hS1, (by decide), fun z1 => ⟨_, rfl, a, 3, ns, rfl, hS1, (by decide), fun z3' => ⟨_, _, rfl, rfl, ⟨by decide, by decide⟩, _, _, rfl, fun d H2 d0 d1 s2 => ⟨_, _, rfl, rfl, ?_⟩⟩⟩⟩
    have s12 := s1.trans s2
    have hS2 := s12.seq hS
    refine ⟨fun σ' H' => ∃ (N D : Int) (o : Option V), σ' = [some (.ref a), some (.int N), some (.int D), o, none] ∧ Same H H' ∧ 0 ≤ N ∧ N ≤ 10 ^ 80 ∧ 1 ≤ D ∧ D ≤ 10 ^ 80, ?_, ?_⟩
    · refine ⟨_, rfl, a, 3, ns, rfl, hS2, (by decide), fun z4 => ⟨_, _, rfl, rfl, ⟨by decide, by decide⟩, _, _, rfl, rfl, (by show (0 : Int) < 2; decide), rfl, _, rfl, ite2 (fun _ => ?_) (fun _ => ⟨n, 1 + d, none, rfl, s12, n0, by omega, by omega, by omega⟩)⟩⟩
      refine ⟨_, rfl, a, 2, ns, rfl, hS2, (by decide), fun z5 => ⟨_, rfl, a, 3, ns, rfl, hS2, (by decide), fun z6 => ⟨_, _, rfl, rfl, ⟨by decide, by decide⟩, _, _, rfl, fun e H3 e0 e1 s3 => ⟨_, _, rfl, rfl, ?_⟩⟩⟩⟩
      have p1 := prod_le (i := n) (j := 1 + e) n0 (by omega) (by omega) (by omega)
      have p2 := prod_le (i := 1 + d) (j := 1 + e) (by omega) (by omega) (by omega) (by omega)
      have p3 : 1 ≤ (1 + d) * (1 + e) := Int.mul_pos (by omega) (by omega)
      exact ⟨_, rfl, _, rfl, _, _, rfl, rfl, mul_ok n0 (by omega) (by omega) (by omega), _, rfl, _, rfl, _, _, rfl, rfl, mul_ok (by omega) (by omega) (by omega) (by omega), _, _, _, rfl, s12.trans s3, p1.1, p1.2, p3, p2.2⟩
    rintro σ' H3 ⟨N, D, o, rfl, s3, N0, N1, D0, D1⟩
    refine ⟨_, rfl, _, rfl, N, D, rfl, N0, D0, N1, D1, fun T p q H4 s4 hT p0 q0 pN qD eq hg => ?_⟩
    have hSt := SqT.of (K := K) hT
    refine ⟨_, rfl, .ref T, .ty "tuple", .type "tuple", .type "tuple", true, rfl, .ty _, .base (.tup hT), kit_ty (by decide +kernel), _, rfl, iteF ?_⟩
    refine ⟨_, rfl, T, _, rfl, .inr hSt, rfl, _, rfl, iteF ?_⟩
    refine ⟨_, rfl, T, _, 0, .int p, rfl, rfl, hSt, atI_nat (j := 0) rfl, p, rfl, _, rfl, iteF ?_⟩
    refine ⟨_, rfl, T, _, 1, .int q, rfl, rfl, hSt, atI_nat (j := 1) rfl, q, rfl, _, rfl, iteF ?_⟩
    refine ⟨_, rfl, T, _, 1, .int q, rfl, rfl, hSt, atI_nat (j := 1) rfl, _, _, rfl, rfl, _, rfl, ?_⟩
    rw [decide_eq_false (by omega)]
    refine iteF ⟨_, rfl, T, _, 0, .int p, rfl, rfl, hSt, atI_nat (j := 0) rfl, _, rfl, _, _, rfl, rfl, mul_ok p0 (by omega) (by omega) D1, _, rfl, _, rfl, T, _, 1, .int q, rfl, rfl, hSt, atI_nat (j := 1) rfl, _, _, rfl, rfl, mul_ok N0 N1 (by omega) (by omega), rfl, _, rfl, ?_⟩
    rw [decide_eq_true (show V.int (p * D) = V.int (N * q) by rw [eq])]
    refine iteF ⟨_, rfl, T, _, 0, .int p, rfl, rfl, hSt, atI_nat (j := 0) rfl, _, rfl, T, _, 1, .int q, rfl, rfl, hSt, atI_nat (j := 1) rfl, p, q, rfl, p0, (by omega), rfl, ?_⟩
    rw [decide_eq_true (show V.int ((Int.gcd p q : Nat) : Int) = V.int 1 by rw [hg]; rfl)]
    exact hQ _
end
end Mp
/-! ## Low -/
set_option Elab.async false
set_option linter.all false
set_option maxRecDepth 100000
set_option maxHeartbeats 4000000
set_option exponentiation.threshold 2000
namespace Mp
open PySem PySem.Spec PyProof.Rows L2
/-! ### lowest -/
/-- in lowest terms: what is told -/
def spLow : Sp := fun vs H Q _ => ∃ n d : Int, vs = [.int n, .int d] ∧ 0 ≤ n ∧ 1 ≤ d ∧ d ≤ 10 ^ 80 ∧
  ∀ (T : Addr) (a b : Int) (H' : Hp), Same H H' → H T = none → H' T = some (.tup [.int a, .int b]) → 0 ≤ a → 1 ≤ b → a ≤ n → b ≤ d → a * d = n * b → Int.gcd a b = 1 → Q (.ref T) H'
theorem low_facts {n d : Int} (n0 : 0 ≤ n) (d1 : 1 ≤ d) : 1 ≤ ((Nat.gcd n.natAbs d.natAbs : Nat) : Int) ∧ ((Nat.gcd n.natAbs d.natAbs : Nat) : Int) ≤ d ∧ 0 ≤ n / ((Nat.gcd n.natAbs d.natAbs : Nat) : Int) ∧ 1 ≤ d / ((Nat.gcd n.natAbs d.natAbs : Nat) : Int) ∧ n / ((Nat.gcd n.natAbs d.natAbs : Nat) : Int) ≤ n ∧ d / ((Nat.gcd n.natAbs d.natAbs : Nat) : Int) ≤ d ∧
    n / ((Nat.gcd n.natAbs d.natAbs : Nat) : Int) * d = n * (d / ((Nat.gcd n.natAbs d.natAbs : Nat) : Int)) ∧ Int.gcd (n / ((Nat.gcd n.natAbs d.natAbs : Nat) : Int)) (d / ((Nat.gcd n.natAbs d.natAbs : Nat) : Int)) = 1 := by
  obtain ⟨N, rfl⟩ : ∃ N : Nat, n = N := ⟨n.toNat, by omega⟩
  obtain ⟨D, rfl⟩ : ∃ D : Nat, d = D := ⟨d.toNat, by omega⟩
  rw [Int.natAbs_natCast, Int.natAbs_natCast]
  have D1 : 0 < D := by omega
  have g0 : 0 < Nat.gcd N D := Nat.gcd_pos_of_pos_right _ D1
  have gN := Nat.gcd_dvd_left N D
  have gD := Nat.gcd_dvd_right N D
  have gle := Nat.le_of_dvd D1 gD
  have dq : 0 < D / Nat.gcd N D := Nat.div_pos gle g0
  have n1 := Nat.div_le_self N (Nat.gcd N D)
  have n2 := Nat.div_le_self D (Nat.gcd N D)
  have e1 : ((N : Nat) : Int) / ((Nat.gcd N D : Nat) : Int) = ((N / Nat.gcd N D : Nat) : Int) := rfl
  have e2 : ((D : Nat) : Int) / ((Nat.gcd N D : Nat) : Int) = ((D / Nat.gcd N D : Nat) : Int) := rfl
  rw [e1, e2]
  refine ⟨Int.ofNat_le.mpr g0, Int.ofNat_le.mpr gle, Int.natCast_nonneg _, Int.ofNat_le.mpr dq, Int.ofNat_le.mpr n1, Int.ofNat_le.mpr n2, ?_, ?_⟩
  · rw [← Int.natCast_mul, ← Int.natCast_mul]
    congr 1
    obtain ⟨x, hx⟩ := gN
    obtain ⟨y, hy⟩ := gD
    have ex : N / Nat.gcd N D = x := by
      conv => lhs; lhs; rw [hx]
      exact Nat.mul_div_cancel_left x g0
    have ey : D / Nat.gcd N D = y := by
      conv => lhs; lhs; rw [hy]
      exact Nat.mul_div_cancel_left y g0
    rw [ex, ey]
    conv => lhs; rw [hy]
    conv => rhs; lhs; rw [hx]
    simp only [Nat.mul_assoc, Nat.mul_comm, Nat.mul_left_comm]
  · show Nat.gcd _ _ = 1
    rw [Int.natAbs_natCast, Int.natAbs_natCast, Nat.gcd_div gN gD]
    exact Nat.div_self g0
theorem low_new {H : Hp} {p : Addr} {o : HO} (hp : H p = none) : Same H (upd H p o) := fun b u e => by rw [upd_ne (ne_of_none e hp)]; exact e
section
variable {P : Program} {w : World} {K : PySem.W.Frag} {mg : Str → Option Value} {base : Heap}
theorem scLo : FnScope ["number", "divisor", "common"] ["number", "divisor"] (defScope sLowest) := ⟨rfl, rfl, rfl, by decide +kernel, rfl, by decide +kernel, by decide +kernel⟩
theorem div_ok {g d : Int} (h1 : 1 ≤ g) (h2 : g ≤ d) (h3 : d ≤ 10 ^ 80) : CDivW 0 g := by
  refine wide_div (b := 300) (by omega) ?_ (by decide) (by decide)
  have e : (10 : Int) ^ 80 < 2 ^ 300 := by decide
  have e2 : ((g.natAbs : Nat) : Int) = g := by omega
  have e3 : ((2 ^ 300 : Nat) : Int) = (2 : Int) ^ 300 := by decide
  have : ((g.natAbs : Nat) : Int) < ((2 ^ 300 : Nat) : Int) := by rw [e2, e3]; omega
  omega
theorem ok_lowest {f : Addr} {fd : FuncData} (F : Fun K "lowest" "lowest" sLowest f fd) (gg : mg "gcd" = some (.builtin "math.gcd")) : FnOk P w K mg base CX0 1 f fd ["number", "divisor"] spLow := by
  refine F.ok scLo (fun vs H Q E h => ?_) (fun cdv A outer s H vs Q E hr h => ?_)
  · obtain ⟨n, d, rfl, _⟩ := h
    rfl
  · obtain ⟨n, d, rfl, n0, d1, dm, hQ⟩ := h
    refine ⟨_, pss_cons (ps_set (i := 2) scLo.nd rfl (.inl rfl) (pe_callBfun cr_gcd (by rfl) gg (pa_cons (pv 0) (pa_cons (pv 1) pa_nil))))
      (pss_one (ps_ret (pe_tup (pa_cons (pe_op op_fdivW (pv 0) (pv 2)) (pa_cons (pe_op op_fdivW (pv 1) (pv 2)) pa_nil))))), ?_⟩
    obtain ⟨f1, f2, f3, f4, f5, f6, f7, f8⟩ := low_facts n0 d1
    refine ⟨_, rfl, _, rfl, n, d, rfl, ?_⟩
    refine ⟨_, rfl, _, rfl, _, _, rfl, rfl, div_ok f1 f2 dm, _, rfl, _, rfl, _, _, rfl, rfl, div_ok f1 f2 dm, (by show 2 ≤ sizeLine; decide), fun T nT => ?_⟩
    exact hQ T _ _ _ (low_new nT) nT upd_same f3 f4 f5 f6 f7 f8
end
end Mp
/-! ## End -/
set_option Elab.async false
set_option linter.all false
set_option maxRecDepth 100000
set_option maxHeartbeats 8000000
namespace Mp
open PySem PySem.Spec PyProof.Rows L2
theorem all_mk {l : PySem.W.OpenLaw} {w : World} {K : PySem.W.Frag} {h : Heap} {mg : Str → Option Value} {fa : Addr} (X : K.In h) (G : h.Ns mainGlobals mg) (hfa : mg "law" = some (.ref fa))
    {f_lowest f_law_cell_at f_law_whole f_law_number_by f_law_common f_law : Addr} {od_lowest an_lowest od_law_cell_at an_law_cell_at od_law_whole an_law_whole od_law_number_by an_law_number_by od_law_common an_law_common od_law an_law : Option Addr} {sl_lowest sl_law_cell_at sl_law_whole sl_law_number_by sl_law_common sl_law : Array (Option Value)} {oc_lowest kV_lowest dc_lowest pm_lowest cd_lowest ct_lowest oc_law_cell_at kV_law_cell_at dc_law_cell_at pm_law_cell_at cd_law_cell_at ct_law_cell_at oc_law_whole kV_law_whole dc_law_whole pm_law_whole cd_law_whole ct_law_whole oc_law_number_by kV_law_number_by dc_law_number_by pm_law_number_by cd_law_number_by ct_law_number_by oc_law_common kV_law_common dc_law_common pm_law_common cd_law_common ct_law_common oc_law kV_law dc_law pm_law cd_law ct_law : Value}
    (a_lowest : PySem.W.nsIn K mainGlobals "lowest" = some (some (.ref f_lowest)))
    (l_lowest : K.lookup f_lowest = some ⟨oc_lowest, od_lowest, .func (PySem.W.fnOf "lowest" "lowest" (defArgs sLowest) (defBody sLowest) (defScope sLowest) .none kV_lowest dc_lowest pm_lowest an_lowest cd_lowest ct_lowest), sl_lowest⟩)
    (c_lowest : PySem.W.codeIn K cd_lowest "lowest" = true)
    (k_lowest : PySem.W.keepIn K (.ref f_lowest) = true)
    (a_law_cell_at : PySem.W.nsIn K mainGlobals "_law_cell_at" = some (some (.ref f_law_cell_at)))
    (l_law_cell_at : K.lookup f_law_cell_at = some ⟨oc_law_cell_at, od_law_cell_at, .func (PySem.W.fnOf "_law_cell_at" "_law_cell_at" (defArgs sCell) (defBody sCell) (defScope sCell) .none kV_law_cell_at dc_law_cell_at pm_law_cell_at an_law_cell_at cd_law_cell_at ct_law_cell_at), sl_law_cell_at⟩)
    (c_law_cell_at : PySem.W.codeIn K cd_law_cell_at "_law_cell_at" = true)
    (k_law_cell_at : PySem.W.keepIn K (.ref f_law_cell_at) = true)
    (a_law_whole : PySem.W.nsIn K mainGlobals "_law_whole" = some (some (.ref f_law_whole)))
    (l_law_whole : K.lookup f_law_whole = some ⟨oc_law_whole, od_law_whole, .func (PySem.W.fnOf "_law_whole" "_law_whole" (defArgs sLawWhole) (defBody sLawWhole) (defScope sLawWhole) .none kV_law_whole dc_law_whole pm_law_whole an_law_whole cd_law_whole ct_law_whole), sl_law_whole⟩)
    (c_law_whole : PySem.W.codeIn K cd_law_whole "_law_whole" = true)
    (k_law_whole : PySem.W.keepIn K (.ref f_law_whole) = true)
    (a_law_number_by : PySem.W.nsIn K mainGlobals "_law_number_by" = some (some (.ref f_law_number_by)))
    (l_law_number_by : K.lookup f_law_number_by = some ⟨oc_law_number_by, od_law_number_by, .func (PySem.W.fnOf "_law_number_by" "_law_number_by" (defArgs sLawNumberBy) (defBody sLawNumberBy) (defScope sLawNumberBy) .none kV_law_number_by dc_law_number_by pm_law_number_by an_law_number_by cd_law_number_by ct_law_number_by), sl_law_number_by⟩)
    (c_law_number_by : PySem.W.codeIn K cd_law_number_by "_law_number_by" = true)
    (k_law_number_by : PySem.W.keepIn K (.ref f_law_number_by) = true)
    (a_law_common : PySem.W.nsIn K mainGlobals "_law_common" = some (some (.ref f_law_common)))
    (l_law_common : K.lookup f_law_common = some ⟨oc_law_common, od_law_common, .func (PySem.W.fnOf "_law_common" "_law_common" (defArgs sLawCommon) (defBody sLawCommon) (defScope sLawCommon) .none kV_law_common dc_law_common pm_law_common an_law_common cd_law_common ct_law_common), sl_law_common⟩)
    (c_law_common : PySem.W.codeIn K cd_law_common "_law_common" = true)
    (k_law_common : PySem.W.keepIn K (.ref f_law_common) = true)
    (a_law : PySem.W.nsIn K mainGlobals "law" = some (some (.ref f_law)))
    (l_law : K.lookup f_law = some ⟨oc_law, od_law, .func (PySem.W.fnOf "law" "law" (defArgs sLaw) (defBody sLaw) (defScope sLaw) .none kV_law dc_law pm_law an_law cd_law ct_law), sl_law⟩)
    (c_law : PySem.W.codeIn K cd_law "law" = true)
    (k_law : PySem.W.keepIn K (.ref f_law) = true)
    (z_bool : PySem.W.nsIn K mainGlobals "bool" = some none)
    (z_int : PySem.W.nsIn K mainGlobals "int" = some none)
    (z_isinstance : PySem.W.nsIn K mainGlobals "isinstance" = some none)
    (z_len : PySem.W.nsIn K mainGlobals "len" = some none)
    (z_tuple : PySem.W.nsIn K mainGlobals "tuple" = some none)
    (gl_gcd : PySem.W.nsIn K mainGlobals "gcd" = some (some (.builtin "math.gcd")))
    : ∃ fd : FuncData, (∀ (s : Shared) (v : Value), BindsTo s fd ⟨[v], []⟩ [("_law_script", v)]) ∧ ∀ base : Heap, K.In base → base.Ns mainGlobals mg → FnOk l.prog w K mg base CX0 2 fa fd ["_law_script"] (spLaw1 K) := by
  have e := hfa.symm.trans (PySem.W.mg_of X G a_law)
  cases e
  have F_lowest := fun_mk (st := sLowest) l_lowest c_lowest k_lowest
  have B_lowest := F_lowest.binds (ps := ["number", "divisor"]) fun _ _ _ _ _ _ us hl => match us, hl with | [_, _], _ => rfl
  have G_lowest := PySem.W.mg_of X G a_lowest
  have F_law_cell_at := fun_mk (st := sCell) l_law_cell_at c_law_cell_at k_law_cell_at
  have B_law_cell_at := F_law_cell_at.binds (ps := ["_law_script", "_law_k"]) fun _ _ _ _ _ _ us hl => match us, hl with | [_, _], _ => rfl
  have G_law_cell_at := PySem.W.mg_of X G a_law_cell_at
  have F_law_whole := fun_mk (st := sLawWhole) l_law_whole c_law_whole k_law_whole
  have B_law_whole := F_law_whole.binds (ps := ["_law_found"]) fun _ _ _ _ _ _ us hl => match us, hl with | [_], _ => rfl
  have G_law_whole := PySem.W.mg_of X G a_law_whole
  have F_law_number_by := fun_mk (st := sLawNumberBy) l_law_number_by c_law_number_by k_law_number_by
  have B_law_number_by := F_law_number_by.binds (ps := ["_law_cell", "_law_way"]) fun _ _ _ _ _ _ us hl => match us, hl with | [_, _], _ => rfl
  have G_law_number_by := PySem.W.mg_of X G a_law_number_by
  have F_law_common := fun_mk (st := sLawCommon) l_law_common c_law_common k_law_common
  have B_law_common := F_law_common.binds (ps := ["_law_one", "_law_other"]) fun _ _ _ _ _ _ us hl => match us, hl with | [_, _], _ => rfl
  have G_law_common := PySem.W.mg_of X G a_law_common
  have F_law := fun_mk (st := sLaw) l_law c_law k_law
  have Z_bool := PySem.W.mg_none_of X G z_bool
  have Z_int := PySem.W.mg_none_of X G z_int
  have Z_isinstance := PySem.W.mg_none_of X G z_isinstance
  have Z_len := PySem.W.mg_none_of X G z_len
  have Z_tuple := PySem.W.mg_none_of X G z_tuple
  have L_gcd := PySem.W.mg_of X G gl_gcd
  refine ⟨PySem.W.fnOf "law" "law" (defArgs sLaw) (defBody sLaw) (defScope sLaw) .none kV_law dc_law pm_law an_law cd_law ct_law, fun s v => .of_eq rfl, fun base _ _ => ?_⟩
  exact ok_law1 (CX := CX0) F_law F_law_cell_at F_law_number_by F_law_whole F_law_common ((ok_lowest F_lowest L_gcd).imp fun vs H Q E ⟨n, d, e, n0, d1, nm, dm, q⟩ => ⟨n, d, e, n0, d1, dm, fun T a b H' s _ => q T a b H' s⟩) G_lowest k_lowest B_lowest (by decide) G_law_cell_at G_law_number_by G_law_whole G_law_common B_law_cell_at B_law_number_by B_law_whole B_law_common { len := Z_len, isin := Z_isinstance, int := Z_int, bool := Z_bool, tuple := Z_tuple }
end Mp
set_option maxRecDepth 100000
open PySem PySem.W PyProof.Rows
set_option maxHeartbeats 0 in
theorem PySem.Challenge.cw_meanpace_k01_lowest_terms_holds : PySem.Challenge.rw_meanpace_k01_lowest_terms.Holds := by
  w_on; o_law; k_head; (case hw => w_witness2)
  k_fill
  refine L2.walk_ofK (l := PySem.Challenge.rw_meanpace_k01_lowest_terms) (n := 63) (k := 2) (x := "_law_script") (CX := L2.CX0) (sp := Mp.spLaw1) rfl (by decide) rfl ⟨rfl, by decide, by decide⟩ (fun w h Y => PySem.W.kIn_of Y) ?F (fun _ _ a ns hl _ hS => ⟨a, ns, rfl, hS, fun _ => rfl⟩) fun _ _ _ _ z => z
  case F =>
    intro w mg fa h KX G hmg
    refine' Mp.all_mk KX G hmg ?a_lowest ?l_lowest ?c_lowest ?k_lowest ?a_law_cell_at ?l_law_cell_at ?c_law_cell_at ?k_law_cell_at ?a_law_whole ?l_law_whole ?c_law_whole ?k_law_whole ?a_law_number_by ?l_law_number_by ?c_law_number_by ?k_law_number_by ?a_law_common ?l_law_common ?c_law_common ?k_law_common ?a_law ?l_law ?c_law ?k_law ?z_bool ?z_int ?z_isinstance ?z_len ?z_tuple ?gl_gcd
    (case a_lowest => k_is)
    (case a_law_cell_at => k_is)
    (case a_law_whole => k_is)
    (case a_law_number_by => k_is)
    (case a_law_common => k_is)
    (case a_law => k_is)
    (case z_bool => k_is)
    (case z_int => k_is)
    (case z_isinstance => k_is)
    (case z_len => k_is)
    (case z_tuple => k_is)
    (case gl_gcd => k_is)
    (case l_lowest => k_is)
    (case c_lowest => k_is)
    (case k_lowest => k_is)
    (case l_law_cell_at => k_is)
    (case c_law_cell_at => k_is)
    (case k_law_cell_at => k_is)
    (case l_law_whole => k_is)
    (case c_law_whole => k_is)
    (case k_law_whole => k_is)
    (case l_law_number_by => k_is)
    (case c_law_number_by => k_is)
    (case k_law_number_by => k_is)
    (case l_law_common => k_is)
    (case c_law_common => k_is)
    (case k_law_common => k_is)
    (case l_law => k_is)
    (case c_law => k_is)
    (case k_law => k_is)
