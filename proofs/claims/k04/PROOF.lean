import PyProof.Rows.All
import Wide.All
import OpenK.AllK
import Wide.FinOn
import KE.KSortKeyAny
import HandS.ForMost
import HandS.Conv
import HandS.Lambda
import HandS.ExcOwn
import HandS.HotCalls
import HandS.ExcIs
import HandS.WordsExc
import HandS.ExcCtx
import HandS.FStr
import HandS.NoneIn
import HandS.EndTab
import PySem.Challenge.RW_meanpace_k04_webs_refused
import KE.RegKIsAll
/-! ## Gen1 -/
set_option Elab.async false
set_option linter.all false
set_option maxRecDepth 100000
set_option maxHeartbeats 2000000
namespace Mp
open PySem PySem.Spec PyProof.Rows L2

/-- 0, 1, .. below n -/
def upto (n : Nat) : List Int := (List.range n).map Int.ofNat
theorem upto_len (n : Nat) : (upto n).length = n := by unfold upto; simp
theorem ints_of_items {acc : Array Value} {n : Nat} (h : ItemsOf (fun i v => ∃ t, v = Value.int (0 + i * 1) t) acc n) : IntsAre acc.toList (upto n) := by
  have hl : acc.toList.length = n := by rw [Array.length_toList]; exact h.1
  have key : ∀ (l : List Value) (k : Nat), (∀ j v, l[j]? = some v → ∃ t, v = Value.int ((k + j : Nat) : Int) t) → IntsAre l ((List.range' k l.length).map Int.ofNat) := by
    intro l
    induction l with
    | nil => intro k _; exact IntsAre.nil
    | cons x r ih =>
      intro k hk
      obtain ⟨t, e0⟩ := hk 0 x rfl
      subst e0
      rw [List.length_cons, List.range'_succ, List.map_cons]
      exact IntsAre.cons _ t (ih (k + 1) fun j v e => by
        obtain ⟨t', e'⟩ := hk (j + 1) v e
        exact ⟨t', by rw [e']; congr 1; omega⟩)
  have q := key acc.toList 0 fun j v e => by
    obtain ⟨t, e'⟩ := h.2 j v (by rw [← e, Array.getElem?_toList])
    exact ⟨t, by rw [e']; congr 1; omega⟩
  rw [hl] at q
  unfold upto
  rw [List.range_eq_range']
  exact q

section
variable {prog : Program} {w : World} {A : Around} {E : Value → Shared → Prop} {s : Shared} {h₀ : Heap} {L r : Addr} {m : Str → Option Value} {news : List (Addr × Obj)} {Q : Value → Shared → Prop}
theorem sorted_rg {hi : Int} {n : Nat} {t u v : Tok} {f : Value} {kw : List (Str × Value)} (g : Int → Int) (F : Fr h₀ L s.heap m) (N : News h₀ L s.heap news) (hh : A.handled = none)
    (hr : IsRange s.heap r 0 hi 1 t u v) (hsm : Builtin.Range.small 0 hi 1 = true) (hn : Builtin.Range.rangeSize 0 hi 1 = n) (hlen : n ≤ 2 ^ 24)
    (ha1 : argsOk "sorted" ⟨[.ref r], kw⟩) (ha2 : ∀ x, argsOk "list.sort" ⟨[.ref x], kw⟩) (ht : ∀ x, Builtin.«list.sort» ⟨[.ref x], kw⟩ = ksk_tree x f false)
    (turn : ∀ (k : Int) (tt : Tok) (h : Heap) (tk : Nat) (own : List (Addr × Obj)), Fr h₀ L h m → News h₀ L h (news ++ own) →
      wpAny (model prog w) A.in1.in1 (call f [.int k tt]) (KskEnd h₀ L m (news ++ own) (g k) { s with heap := h, toks := tk }) (fun _ _ => False) { s with heap := h, toks := tk })
    (done : ∀ (D : Addr) (h' : Heap) (tk : Nat) (out : List Value) (ns : List Int) (c : Nat), Fr h₀ L h' m → News h₀ L h' ((D, seqObj "list" out.toArray c) :: news) → s.heap.get? D = none → L < D → IntsAre out ns → ns.Perm (upto n) →
      Q (.ref D) { s with heap := h', toks := tk }) :
    wpAny (model prog w) A (call (.builtin "sorted") [.ref r] kw) Q E s := by
  refine call_function_entry_kw kind_sorted plain_sorted entry_sorted ha1 ?_
  unfold Builtin.«sorted»
  refine wpAny_bind (m := checkCount "sorted" 1 1 _) (wpAny_pure ?_)
  have hh1 : A.in1.handled = none := hh
  refine wpAny_bind (collect_range hh1 hr hsm hn hlen fun h1 tk1 acc old1 its => ?_)
  have vsz : acc.toList.length = n := by rw [Array.length_toList]; exact its.1
  have small : acc.toList.length ≤ sizeLine := by rw [vsz, sizeLine_eq]; exact hlen
  refine wpAny_bind (wpAny_newList ?_ small)
  have atL : (h1.push (seqObj "list" acc.toList.toArray 0)).get? h1.objs.size = some (seqObj "list" acc.toList.toArray 0) := Heap.get?_push_size _ rfl
  have old2 : ∀ b o, s.heap.get? b = some o → (h1.push (seqObj "list" acc.toList.toArray 0)).get? b = some o := fun b o q => Heap.get?_push_of_some _ (old1 b o q)
  have F1 := F.kept old1
  have hL : L < h1.objs.size := F1.ns.lt
  have dead : s.heap.get? h1.objs.size = none := by
    cases q : s.heap.get? h1.objs.size with
    | none => rfl
    | some o => exact absurd (Heap.lt_size (old1 _ _ q)) (Nat.lt_irrefl _)
  have intsV := ints_of_items its
  refine wpAny_bind (wpAny_holding (wpAny_call_entry_kw slot_list_sort ⟨_, atL, rfl⟩ entry_list_sort ?body (ha2 _)))
  case body =>
    show wpAny (model prog w) A.in1.in1 (Builtin.«list.sort» ⟨[.ref h1.objs.size], kw⟩) _ _ _
    rw [ht h1.objs.size]
    refine ksk_sortAny (kz := (upto n).map g) (s := { s with heap := h1.push (seqObj "list" acc.toList.toArray 0), toks := tk1 }) (F.kept old2) (N.grown old2) atL (Nat.ne_of_gt hL)
      (Heap.get?_none_of_le (Nat.le_trans F1.above (Nat.le_of_lt hL))) (fun p hp => fun z => by
        have q := old1 _ _ (N p hp).1
        rw [z] at q
        exact absurd (Heap.lt_size q) (Nat.lt_irrefl _)) (by simp [vsz, upto_len]) small (fun i x k hx hk h tk own F' N' => ?_) fun h' tk out c F' N' ko => ⟨_, rfl, ?_⟩
    · obtain ⟨j, ej, ek⟩ : ∃ j : Int, (upto n)[i]? = some j ∧ g j = k := by
        rw [List.getElem?_map] at hk
        cases q : (upto n)[i]? with
        | none => rw [q] at hk; simp at hk
        | some j => rw [q] at hk; exact ⟨j, rfl, Option.some.inj hk⟩
      obtain ⟨t', et⟩ := intsV.get i j ej
      rw [et] at hx
      cases hx
      rw [← ek]
      exact turn j t' h tk own F' N'
    · obtain ⟨ps, hp, ho, _⟩ := ko
      have pv : out.toList.Perm acc.toList := by
        rw [ho]
        have q := hp.map Prod.snd
        rw [List.map_snd_zip (by simp [vsz, upto_len])] at q
        exact q
      have mem : ∀ x ∈ out.toList, ∃ i t, x = Value.int i t := fun x hx => intsV.all x (pv.mem_iff.mp hx)
      have iI : IntsAre out.toList (out.toList.map numOf) := by
        have z := intsAre_map out.toList mem
        exact z
      have pI : (out.toList.map numOf).Perm (upto n) := by
        have q := pv.map numOf
        rw [intsV.nums] at q
        exact q
      exact wpAny_pure ⟨_, rfl, done h1.objs.size h' tk out.toList _ c F' (by rw [Array.toArray_toList]; exact N') dead hL iI pI⟩
end
end Mp
/-! ## Gen2 -/
set_option Elab.async false
set_option linter.all false
set_option maxRecDepth 100000
set_option maxHeartbeats 2000000
namespace Mp
open PySem PySem.Spec PyProof.Rows L2 LamX

/-- the code of the key: (k + 1) * (1 + cell % 12) % 13 -/
def keyOf (z k : Int) : Int := ((k + 1) * (1 + z.fmod 12)).fmod 13
theorem key_body {prog : Program} {w : World} {A : Around} {env : Env} {s : Shared} {E : Value → Shared → Prop} {Q : Value → Shared → Prop} {x y : Str} {j1 j2 j3 j4 : Nat} {p1 p2 p3 p4 p5 p6 p7 p8 p9 p10 p11 : Pos} {m : Str → Option Value} {k z : Int} {t tz : Tok} {c : Addr}
    (hk : env.scope.kind = .function) (hx : env.kindOf x = some .local) (hy : env.kindOf y = some .free) (hn : s.heap.Ns env.locals m) (hv : m x = some (.int k t)) (hc : env.cells.lookup y = some c) (hcell : s.heap.IsCell c (some (.int z tz)))
    (dx : (x == ("__debug__" : Str)) = false) (dy : (y == ("__debug__" : Str)) = false) (cy : (y == ("__classdict__" : Str)) = false) (q : ∀ tk t', Q (.int (keyOf z k) t') { s with toks := tk }) :
    wpAny (model prog w) A (eval (.BinOp (.BinOp (.BinOp (.Name x p1) .Add (.Constant (.int 1) j1 p2) p3) .Mult (.BinOp (.Constant (.int 1) j2 p4) .Add (.BinOp (.Name y p5) .Mod (.Constant (.int 12) j3 p6) p7) p8) p9) .Mod (.Constant (.int 13) j4 p10) p11) env) Q E s := by
  refine wpAny_BinOp (wpAny_BinOp (wpAny_BinOp (wpAny_Name (wpAny_loadName_local hk hx hn hv (wpAny_Constant_int (add_int ?_))) dx)))
  refine wpAny_BinOp (wpAny_Constant_int (wpAny_BinOp (wpAny_Name (wpAny_loadName_free hk hy hc hcell (wpAny_Constant_int (mod_int' (by decide) (add_int (mul_int ?_ ?_)))) cy) dy)))
  · refine wpAny_Constant_int (mod_int' (by decide) ?_)
    exact q _ _
  · have h1 := Int.fmod_nonneg_of_pos z (show (0 : Int) < 12 by decide)
    have h2 := Int.fmod_lt_of_pos z (show (0 : Int) < 12 by decide)
    exact (show CMul _ _ from .inr ⟨by omega, by omega⟩).ok

section
variable {X : Cx} {pins : List (Addr × Obj)} {σ : L2.St} {H : Hp} {s : Shared} {h' : Heap}
theorem kept_all {g h h2 : Heap} {L : Addr} {m : Str → Option Value} {own : List (Addr × Obj)} (k : ∀ b o, g.get? b = some o → h.get? b = some o) (F : Fr g L h2 m) (N : News g L h2 (allNews g h L ++ own)) :
    ∀ b o, b ≠ L → h.get? b = some o → h2.get? b = some o := fun b o hb e => by
  cases q : g.get? b with
  | some u =>
    have z := k b u q
    rw [e] at z
    cases z
    exact F.keep b _ q
  | none => exact (N (b, o) (List.mem_append_left _ (mem_allNews hb q e))).1
theorem ns_same {h : Heap} {L : Addr} {m1 m2 : Str → Option Value} (a : h.Ns L m1) (b : h.Ns L m2) : m1 = m2 := by
  obtain ⟨o, es, ep, e, d, k, f⟩ := a
  obtain ⟨o', es', ep', e', d', k', f'⟩ := b
  rw [e] at e'
  cases e'
  rw [d] at d'
  cases d'
  first
  | (funext x; rw [f x, f' x])
  | (funext x; have := f x; have := f' x; simp_all)
theorem Inv.grownAt {D : Addr} {o : HO} {m : Str → Option Value} {tk : Nat} (I : Inv X pins σ H s) (h0 : s.heap.Ns X.env.locals m) (h1 : h'.Ns X.env.locals m)
    (k : ∀ b u, b ≠ X.env.locals → s.heap.get? b = some u → h'.get? b = some u) (dead : s.heap.get? D = none) (new : ObjOk X.prog X.w (upd H D o) h' D o) : Inv X pins σ (upd H D o) { s with heap := h', toks := tk } := by
  have nD : H D = none := by
    cases q : H D with
    | none => rfl
    | some u =>
      obtain ⟨v, e⟩ := objOk_get (I.hok D u q)
      rw [dead] at e
      cases e
  have ne : ∀ b u, s.heap.get? b = some u → b ≠ D := fun b u e z => by rw [z, dead] at e; cases e
  have nh : ∀ b u, H b = some u → b ≠ D := fun b u e => ne_of_none e nD
  have kL : ∀ b u, s.heap.get? b = some u → H b = none ∨ h'.get? b = some u := fun b u e => by
    by_cases hb : b = X.env.locals
    · rw [hb]; exact .inl I.free
    · exact .inr (k b u hb e)
  refine I.step (g' := s.gens) (d' := s.drawn) (ch := []) (fun b hb => absurd hb (by simp)) (fun b u h1 _ _ e _ => k b u h1 e) (fun b u h1 _ _ e _ => ⟨u.slots, k b u h1 e⟩) (fun b u _ e n => by rw [upd_ne (ne b u e)]; exact n) (fun b u _ e => ?_)
    (fun b xs e => by rw [upd_ne (nh b _ e)]; exact e) (fun b u v e => by rw [upd_ne (nh b _ e)]; exact e) (fun b ps e => ⟨#[], by rw [upd_ne (nh b _ e), e]; simp⟩) (fun m' hm => ?_) (fun b u e => ?_) I.bare
  · by_cases hb : b = X.env.locals
    · obtain ⟨o', _, _, e', _⟩ := h1
      exact ⟨o', by rw [hb]; exact e'⟩
    · exact ⟨u, k b u hb e⟩
  · rw [ns_same hm h0]
    exact h1
  · by_cases hb : b = D
    · rw [hb, upd_same] at e
      cases e
      rw [hb]
      exact new
    · rw [upd_ne hb] at e
      refine (I.hok b u e).stay (fun c v hc q => k c v ?_ q) (fun c q => by rw [upd_ne (nh c _ q)]; exact q) fun c xs q => by rw [upd_ne (nh c _ q)]; exact q
      rintro rfl
      rcases hc with z | z
      · rw [← z, I.free] at e; cases e
      · rw [I.free] at z; cases z
end

/-! ### range(n) as a value, sorted(range(n), key=lambda ..) -/
section
variable {X : Cx}
def tRngV (te : TE) : TE := fun σ H Q => te σ H fun x H1 => ∃ n : Int, x = .int n ∧ ∀ r, H1 r = none → Q (.ref r) (upd H1 r (.rng 0 n))
theorem pe_rngV {ne : Expr} {te : TE} {p pos : Pos} (hg : Gl X "range") (hm : X.mg "range" = none) (ha : PE X ne te) (na : starEach [ne] X.env = (false, eval ne X.env) :: starEach [] X.env := by rfl) :
    PE X (.Call (.Name "range" p) [ne] [] pos) (tRngV te) := by
  refine ⟨fun pins s σ H Q I h => ?_⟩
  refine Call_ (ld_blt I hg hm boot_range (PyProof.Rows.callWith_type1 (one_arg ha I h (fun v s2 x H2 I2 r q => ?_) na) na))
  obtain ⟨n, rfl, q⟩ := q
  obtain ⟨t, rfl⟩ := r
  refine call_range_1 ⟨.ref s2.heap.objs.size, upd H2 s2.heap.objs.size (.rng 0 n), I2.laid (fun b o e => Heap.get?_push_of_some _ e) (Nat.le_refl _) ?_, rfl, q _ (I2.hok.fresh (Nat.le_refl _))⟩
  exact ⟨_, _, _, Heap.get?_push_size _ rfl⟩
/-- what the sort asks and tells, r the range object -/
def qSort (T : List (Addr × Str)) (ic : Nat) (σ : L2.St) (Q : VK) (x : V) (H : Hp) : Prop := ∃ (r : Addr) (n z : Int), x = .ref r ∧ H r = some (.rng 0 n) ∧ 0 ≤ n ∧ n ≤ 1000 ∧ Tabs T H ∧ σ[ic]? = some (some (.int z)) ∧
  ∀ (H2 : Hp) (D : Addr) (ns : List Int), ExtN H H2 → Tabs T H2 → ns.Perm (upto n.toNat) → H2 D = none → Q (.ref D) (upd H2 D (.lst (ns.map V.int)))
def tSortLam (T : List (Addr × Str)) (ic : Nat) (te : TE) : TE := fun σ H Q => tRngV te σ H (qSort T ic σ Q)
abbrev keyExpr (x y : Str) (j1 j2 j3 j4 : Nat) (p1 p2 p3 p4 p5 p6 p7 p8 p9 p10 p11 : Pos) : Expr :=
  .BinOp (.BinOp (.BinOp (.Name x p1) .Add (.Constant (.int 1) j1 p2) p3) .Mult (.BinOp (.Constant (.int 1) j2 p4) .Add (.BinOp (.Name y p5) .Mod (.Constant (.int 12) j3 p6) p7) p8) p9) .Mod (.Constant (.int 13) j4 p10) p11
theorem pe_sortedLam {T : List (Addr × Str)} {c P : Addr} {ne : Expr} {te : TE} {x y : Str} {q1 q2 q3 q4 q5 q6 : Pos} {j1 j2 j3 j4 : Nat} {p1 p2 p3 p4 p5 p6 p7 p8 p9 p10 p11 : Pos} {params : Arguments} {scope : Scope} {ic : Nat}
    (hc : X.calm = true) (hgs : Gl X "sorted") (hms : X.mg "sorted" = none) (hgr : Gl X "range") (hmr : X.mg "range" = none) (TB : TabB X.base X.mg c P) (hcode : X.env.code = .ref c) (hmT : (P, X.env.qual ++ "<lambda>") ∈ T) (hu : ∀ p ∈ T, p.1 = P → p.2 = X.env.qual ++ "<lambda>") (hr : Room 1 X.A)
    (hne : PE X ne te) (hN : X.N[ic]? = some y) (hcl : X.env.scope.names.lookup y = some .cell) (hdef : defaultsOf params X.env = ([], [])) (hfree : ∀ z ∈ scope.names, z.2 = .free → z.1 = y) (hk : scope.kind = .function) (hco : scope.isCoroutine = false) (hgen : scope.isGenerator = false)
    (hxl : scope.names.lookup x = some .local) (hyl : scope.names.lookup y = some .free) (hnc : ∀ z ∈ scope.names, z.2 ≠ .cell) (dx : (x == ("__debug__" : Str)) = false) (dy : (y == ("__debug__" : Str)) = false) (cy : (y == ("__classdict__" : Str)) = false)
    (hbind : ∀ (q : Str) (cl : List (Str × Addr)) (pm cv ctv u : Value), bindArgs (PySem.W.kla_fn "<lambda>" q params (keyExpr x y j1 j2 j3 j4 p1 p2 p3 p4 p5 p6 p7 p8 p9 p10 p11) scope cl pm cv ctv) ⟨[u], []⟩ = pure [(x, u)])
    (na : starEach [ne] X.env = (false, eval ne X.env) :: starEach [] X.env := by rfl) :
    PE X (.Call (.Name "sorted" q1) [.Call (.Name "range" q2) [ne] [] q3] [⟨some "key", .Lambda params (keyExpr x y j1 j2 j3 j4 p1 p2 p3 p4 p5 p6 p7 p8 p9 p10 p11) scope q4, q5⟩] q6) (tSortLam T ic te) := by
  refine ⟨fun pins s σ H Q I h => ?_⟩
  refine wpAny_Call_Name_kw (ld_blt I hgs hms boot_sorted ?_)
  refine PyProof.Rows.callWith_kw ?_ rfl rfl rfl rfl
  refine one_arg (pe_rngV (p := q2) (pos := q3) hgr hmr hne na) I h (fun v s1 xv H1 I1 r1 q => ?_) rfl
  obtain ⟨r, n, z, rfl, hR, n0, n1, hT, hz, q⟩ := q
  obtain rfl : v = Value.ref r := r1
  have hfr : ∀ w ∈ scope.names, w.2 = .free → ∃ c, X.env.cells.lookup w.1 = some c := fun w hw e => by
    rw [hfree w hw e]
    exact I1.ok.has _ (.inl hcl)
  show wpAny _ _ (evalAll ((do let v ← eval (.Lambda params (keyExpr x y j1 j2 j3 j4 p1 p2 p3 p4 p5 p6 p7 p8 p9 p10 p11) scope q4) X.env; standAt q6; pure v) :: [])) _ _ s1
  refine wpAny_evalAll_cons (wpAny_bind (lam_make2 I1 TB hcode hmT hu hT hdef hfr fun f c' pm ctv H2 s2 I2 eN T2 hf hfn hfs hco' => wpAny_bind (wpAny_standAt (wpAny_pure (wpAny_evalAll_nil ?_)))))
  show wpAny _ _ (call (.builtin "sorted") [.ref r] [(Str.ofString "key", .ref f)]) _ _ s2
  have hR2 := eN r _ hR (fun ps e => by cases e)
  obtain ⟨t1, t2, t3, hrg⟩ : ∃ t u v, s2.heap.get? r = some { cls := .type "range", data := .fields #[.int 0 t, .int n u, .int 1 v] } := I2.hok r _ hR2
  obtain ⟨m, hns, hloc⟩ := I2.loc
  have F : Fr X.base X.env.locals s2.heap m := ⟨hns, I2.bk, Nat.le_trans I2.ok.bsz I2.ok.above⟩
  -- the captured cell
  obtain ⟨u, ru, lk⟩ := hloc ic y (.int z) hN hz (.inr (.inl hcl))
  obtain ⟨tz, rfl⟩ := ru
  obtain ⟨cc, hcc, hcell⟩ : ∃ cc, X.env.cells.lookup y = some cc ∧ s2.heap.IsCell cc (some (.int z tz)) := by
    rcases lk with ⟨k, _⟩ | ⟨_, cc, e1, e2⟩
    · have k' : X.env.scope.names.lookup y = some .local := k
      rw [hcl] at k'
      cases k'
    · exact ⟨cc, e1, e2⟩
  have hclo : (cloFrom X.env.cells scope.names []).lookup y = some cc := by
    obtain ⟨c1, h1⟩ := mem_lookup (cloFrom_has (cells := X.env.cells) (acc := []) (PySem.mem_of_lookup hyl))
    rcases cloFrom_mem (PySem.mem_of_lookup h1) with hm | ⟨h2, h3⟩
    · cases hm
    · rw [h1, h3, hcc] <;> rfl
  have fL : f ≠ X.env.locals := fun e => by
    obtain ⟨o, es, ep, e1, e2, _⟩ := hns
    rw [← e, hf] at e1
    cases e1
    cases e2
  have cL : c' ≠ X.env.locals := fun e => by
    rw [e, I2.free] at hco'
    cases hco'
  have ccL := I2.cne y cc hcc
  refine sorted_rg (keyOf z) F news_all (I2.ok.hd hc) hrg (small_one (by omega) (by omega) (by omega) (by omega)) (n := n.toNat) (by rw [rangeSize_one]; split <;> omega) (by omega) (PyProof.Rows.ksk_s1 _ _) (fun _ => PyProof.Rows.ksk_l1 _ _) (fun _ => PyProof.Rows.ksk_t1 _ _)
    (fun k tt h3 tk own F3 N3 => ?_) fun D h3 tk out ns e F3 N3 dead lD hI hP => ?_
  · have kp := kept_all I2.bk F3 N3
    have ho : h3.get? f = some _ := kp f _ fL hf
    refine wpAny_call (PySem.W.kla_callFunE (A := X.A.in1.in1) (by have := hr.dp; show X.A.depth < recursionLimit; omega) ho rfl hco hgen rfl ?_ ?_)
    · obtain ⟨⟨oc, vs, t, e1, e2, e3⟩, _, _⟩ := I2.hok c' _ hco'
      exact ⟨c', oc, vs, t, rfl, kp c' oc cL e1, e2, e3⟩
    · rw [hbind]
      refine wpAny_pure (wpAny_newFunctionEnv hnc (fun w hw => by rw [List.mem_singleton.mp hw]; exact hxl) (fun h4 hns4 hsb => ⟨(I2.ok.mod.nolimit.keeps F3.keep).fresh _ hsb, ?_⟩) hk)
      have kp4 : ∀ b o, h3.get? b = some o → h4.get? b = some o := fun b o e => hsb.extBut b o (Nat.ne_of_lt (Heap.lt_size e)) (Heap.get?_push_of_some _ e)
      refine PySem.W.kla_codeExpr (key_body (x := x) (y := y) (c := cc) (k := k) (t := tt) (z := z) (tz := tz) hk hxl hyl hns4 ?_ hclo ?_ dx dy cy fun tk' t' => ?_)
      · simp
      · obtain ⟨oc, e1, e2⟩ := hcell
        exact ⟨oc, kp4 _ _ (kp cc oc ccL e1), e2⟩
      · exact KskEnd.intro (F3.kept kp4) (N3.grown kp4) fun p hp => hp
  · have N' : News X.base X.env.locals h3 (allNews X.base s2.heap X.env.locals) := fun p hp => N3 p (List.mem_cons_of_mem _ hp)
    have kp := kept_all (own := []) I2.bk F3 (by rw [List.append_nil]; exact N')
    have at_ := (N3 _ List.mem_cons_self).1
    have hl : ns.length = n.toNat := by rw [hP.length_eq, upto_len]
    refine ⟨.ref D, upd H2 D (.lst (ns.map V.int)), Inv.grownAt I2 hns F3.ns kp dead ⟨?_, out, e, vals_ints hI, at_⟩, rfl, q H2 D ns eN T2 hP ?_⟩
    · rw [List.length_map, hl, sizeLine_eq]; omega
    · cases e : H2 D with
      | none => rfl
      | some u =>
        obtain ⟨v, e'⟩ := objOk_get (I2.hok D u e)
        rw [dead] at e'
        cases e'
end
end Mp
/-! ## Gen3 -/
set_option Elab.async false
set_option linter.all false
set_option maxRecDepth 100000
set_option maxHeartbeats 2000000
namespace Mp
open PySem PySem.Spec PyProof.Rows L2 L2H HotX

section
variable {prog : Program} {w : World} {A : Around} {E : Value → Shared → Prop} {s : Shared}
/-- StopIteration is raised where another exception is handled -/
theorem stop_raised {α : Type} {x1 : Addr} {Q : α → Shared → Prop} {E2 : Value → Shared → Prop} (hot : HotAt A x1 s.heap)
    (hE : ∀ (h' : Heap) (a : Addr) (oe : Obj), (∀ b o, s.heap.get? b = some o → h'.get? b = some o) → h'.get? a = some oe → oe.cls = .type "StopIteration" → E2 (.ref a) { s with heap := h' }) :
    wpAny (model prog w) A (newExc (.type "StopIteration") [] >>= fun e => (raiseNew e : Sem α)) Q E2 s := by
  obtain ⟨hh, o1, vs1, g1, d1, c1⟩ := hot
  refine wpAny_bind ?_
  simp only [newExc, newTuple]
  refine wpAny_bind (wpAny_newObj_type ?_ (by size_fits))
  refine wpAny_bind (m := firstArgMember _ _) (wpAny_of_eq (a := Value.none) (by first | rfl | (simp only [firstArgMember]; rfl)) ?_)
  refine wpAny_newObj_type ?_ (by size_fits)
  have g1' := Heap.get?_push_of_some ({ cls := .type "tuple", data := .seq ([] : List Value).toArray } : Obj) g1
  refine raiseNew_hot (x1 := x1) ⟨hh, o1, vs1, Heap.get?_push_of_some _ (Heap.get?_push_of_some _ g1), d1, c1⟩ (Nat.ne_of_lt (Heap.lt_size (Heap.get?_push_of_some _ g1))) (Heap.get?_push_size _ rfl) rfl (by first | (simp; done) | (simp; omega) | (simp only [Array.size_append]; simp; omega)) ?_
  refine hE _ _ _ (fun b o e => ?_) (Heap.get?_update_self _ (Heap.get?_push_size _ rfl) rfl) rfl
  rw [Heap.get?_update_other _ _ (Nat.ne_of_gt (Heap.lt_size (Heap.get?_push_of_some _ e)))]
  exact Heap.get?_push_of_some _ (Heap.get?_push_of_some _ e)
theorem hot_upd {x1 it : Addr} {h : Heap} {f : Obj → Obj} (hot : HotAt A x1 h) (hne : x1 ≠ it) : HotAt A x1 (h.update it f) := by
  obtain ⟨hh, o1, vs1, g1, d1, c1⟩ := hot
  exact ⟨hh, o1, vs1, by rw [Heap.get?_update_other _ _ (Ne.symm hne)]; exact g1, d1, c1⟩
/-- a list's iterator is at its end -/
theorem list_end_hot {it l x1 : Addr} {i : Nat} {items : Array Value} {Q : Option Value → Shared → Prop} (hot : HotAt A x1 s.heap) (hne : x1 ≠ it) (hit : s.heap.IsListIter it l i) (hl : s.heap.IsList l items) (hx : items[i]? = none)
    (hQ : ∀ h', (∀ b o, b ≠ it → s.heap.get? b = some o → h'.get? b = some o) → Q none { s with heap := h' }) : wpAny (model prog w) A (pyNext (.ref it)) Q E s := by
  have hT := hit.typeIs
  obtain ⟨o, ho, hc, hd⟩ := hit
  obtain ⟨ol, hol, _, nl, hdl⟩ := hl
  unfold pyNext
  refine wpAny_bind (wpAny_attempt (wpAny_callSpecial?_slot (name := Str.ofString "__next__") hT slot_listiter_next (wpAny_call_entry slot_listiter_next hT entry_listiter_next ?_ (args_listiter_next _))))
  show wpAny _ _ (field (.ref it) 0 >>= _) _ _ s
  refine wpAny_bind (wpAny_field ho hd (x := .ref l) rfl ?_)
  show wpAny _ _ (if (Value.ref l == Value.none) = true then _ else _) _ _ s
  rw [if_neg (show ¬ ((Value.ref l == Value.none) = true) from Bool.false_ne_true)]
  show wpAny _ _ (field (.ref it) 1 >>= _) _ _ s
  refine wpAny_bind (wpAny_field ho hd (x := .int i 0) rfl ?_)
  show wpAny _ _ (seqItems? (.ref l) >>= _) _ _ s
  refine wpAny_bind (wpAny_seqItems hol hdl ?_)
  simp only [Int.toNat_natCast, hx]
  refine wpAny_bind (wpAny_rule (wpAny_bind (wpAny_setField ho hd (by simp) ?_)))
  refine stop_raised (x1 := x1) (hot_upd hot hne) fun h' a oe k e1 e2 => ?_
  refine wpAny_bind (wpAny_isInstance (T := "StopIteration") (b := true) ⟨oe, e1, e2⟩ isSubtype_stop ?_)
  exact wpAny_pure (hQ _ fun b u hb e => k b u (by rw [Heap.get?_update_other _ _ (Ne.symm hb)]; exact e))
/-- .. a tuple's -/
theorem tuple_end_hot {it t x1 : Addr} {i : Nat} {items : Array Value} {Q : Option Value → Shared → Prop} (hot : HotAt A x1 s.heap) (hne : x1 ≠ it) (hit : IsTupIter s.heap it t i) (ht : IsTup s.heap t items) (hx : items[i]? = none)
    (hQ : ∀ h', (∀ b o, b ≠ it → s.heap.get? b = some o → h'.get? b = some o) → Q none { s with heap := h' }) : wpAny (model prog w) A (pyNext (.ref it)) Q E s := by
  have hT := hit.typeIs
  obtain ⟨o, ho, hc, hd⟩ := hit
  obtain ⟨ol, hol, _, nl, hdl⟩ := ht
  unfold pyNext
  refine wpAny_bind (wpAny_attempt (wpAny_callSpecial?_slot (name := Str.ofString "__next__") hT slot_tupleiter_next (wpAny_call_entry slot_tupleiter_next hT entry_tupleiter_next ?_ (args_tupleiter_next _))))
  show wpAny _ _ (field (.ref it) 0 >>= _) _ _ s
  refine wpAny_bind (wpAny_field ho hd (x := .ref t) rfl ?_)
  show wpAny _ _ (if (Value.ref t == Value.none) = true then _ else _) _ _ s
  rw [if_neg (show ¬ ((Value.ref t == Value.none) = true) from Bool.false_ne_true)]
  show wpAny _ _ (field (.ref it) 1 >>= _) _ _ s
  refine wpAny_bind (wpAny_field ho hd (x := .int i 0) rfl ?_)
  show wpAny _ _ (seqItems? (.ref t) >>= _) _ _ s
  refine wpAny_bind (wpAny_seqItems hol hdl ?_)
  simp only [Int.toNat_natCast, hx]
  refine wpAny_bind (wpAny_rule (wpAny_bind (wpAny_setField ho hd (by simp) ?_)))
  refine stop_raised (x1 := x1) (hot_upd hot hne) fun h' a oe k e1 e2 => ?_
  refine wpAny_bind (wpAny_isInstance (T := "StopIteration") (b := true) ⟨oe, e1, e2⟩ isSubtype_stop ?_)
  exact wpAny_pure (hQ _ fun b u hb e => k b u (by rw [Heap.get?_update_other _ _ (Ne.symm hb)]; exact e))
/-- a tuple unpacked -/
theorem unpack_hot {t x1 : Addr} {items : Array Value} {targets : List (Bool × (Value → Sem Unit))} {Q : Unit → Shared → Prop} (hot : HotAt A x1 s.heap) (ht : IsTup s.heap t items)
    (hn : targets.length = items.size) (hstar : targets.findIdx? (·.1) = none)
    (h : ∀ h', (∀ b o, s.heap.get? b = some o → h'.get? b = some o) → wpAny (model prog w) A (assignInOrder (targets.map (·.2)) items.toList) Q E { s with heap := h' }) :
    wpAny (model prog w) A (unpack (.ref t) targets) Q E s := by
  have tne : t ≠ s.heap.objs.size := by
    obtain ⟨o, ho, _⟩ := ht
    exact Nat.ne_of_lt (Heap.lt_size ho)
  unfold unpack
  rw [hn, hstar]
  refine wpAny_bind (wpAny_holding ?_)
  unfold unpackItems
  refine wpAny_bind ?_
  unfold notIterableAtAll
  refine wpAny_bind (wpAny_specialOf ht.typeIs slot_tuple_iter.lookup (wpAny_pure ?_))
  simp only [Bool.false_eq_true, if_false]
  refine wpAny_bind (wpAny_holding (iter_tuple ht ?_))
  refine wpAny_bind (wpAny_holding (draw_tuple tne items.size 0 _ _ ⟨_, Heap.get?_push_size _ rfl, rfl, rfl⟩ (ht.push _) (by omega) fun h1 hit1 hs1 => ?_))
  have all : List.take items.size (List.drop 0 items.toList) = items.toList := by
    rw [List.drop_zero]
    exact List.take_of_length_le (by simp)
  rw [all, if_neg (by simp)]
  have ht1 : IsTup h1 t items := (ht.push _).extBut hs1.extBut tne
  obtain ⟨hh, o1, vs1, g1, d1, c1⟩ := hot
  have xne : x1 ≠ s.heap.objs.size := Nat.ne_of_lt (Heap.lt_size g1)
  refine wpAny_bind (wpAny_holding (tuple_end_hot (x1 := x1) ⟨hh, o1, vs1, hs1.extBut x1 o1 xne (Heap.get?_push_of_some _ g1), d1, c1⟩ xne hit1 ht1 (by simp) fun h2 k2 => ?_))
  simp only [Option.isSome_none, Bool.false_eq_true, if_false]
  exact wpAny_pure (h h2 fun b o e => k2 b o (Nat.ne_of_lt (Heap.lt_size e)) (hs1.extBut b o (Nat.ne_of_lt (Heap.lt_size e)) (Heap.get?_push_of_some _ e)))
end

section
variable {X : Cx} {tg : Expr}
/-- (a, b, ..) = a tuple, within an except suite's calls -/
theorem pg_tupH {es : List Expr} {k : Nat} {t : TGs} {n : Nat} {pos : Pos} (hc : HotC X) (h : PGs X es t) (hn : (assignEach es X.env).length = n := by rfl) (hst : (assignEach es X.env).findIdx? (·.1) = none := by rfl) : PG X (.Tuple es k pos) (gTup X.K n t) := by
  refine ⟨fun pins s σ H v u Q I r hw => ?_⟩
  obtain ⟨a, xs, rfl, hq, hl, hw⟩ := hw
  cases r
  obtain ⟨its, rv, ht, hz⟩ := I.tuple hq
  obtain ⟨x1, hot⟩ := hc.at I
  rw [PyProof.Rows.assign_Tuple]
  refine wpAny_bind (wpAny_standAt (unpack_hot hot ht (by simp [hn, ← hl, rv.length]) hst fun h' k' => ?_))
  exact h.run pins _ σ H xs _ Q (I.kept (t' := s.toks) k') (by simpa using rv) hw
theorem turn_listH {P : Program} {w : World} {K : PySem.W.Frag} (a it : Addr) : TurnH P w K tg (Itl K a) [it] it (fun i h => h.IsListIter it a i) where
  mem := by simp
  obj := fun i h st b hb => by
    obtain rfl : b = it := by simpa using hb
    obtain ⟨o, e, c, d⟩ := st
    exact ⟨o, e, fun v z => by rw [d] at z; cases z⟩
  keep := fun i h h' st k => by
    obtain ⟨o, e, c, d⟩ := st
    exact ⟨o, k it (by simp) o e, c, d⟩
  item := by
    intro X hP hw hK hc i pins s σ H E I hf st hg
    subst hP hw hK
    obtain ⟨xs, x, hq, hx⟩ := hg
    obtain ⟨its, rv, p, hz⟩ := I.list hq
    obtain ⟨u, hu, ru⟩ := rv.get hx
    obtain ⟨f0, f1, f2, f3, f4, f5⟩ := hf it (by simp)
    refine wpAny_pyNext_list_item st p.isList (x := u) (by simpa using hu) fun h' st' sb => ?_
    have J : Inv X pins σ H { s with heap := h' } := I.turned (t' := s.toks) (fun b o hb e => (sb.2 b hb).trans e) f0 f1 f3 f4 f5
    obtain ⟨o, e, c, d⟩ := id st'
    exact ⟨u, rfl, go_of (s := { s with heap := h' }) e c d (by decide) ⟨x, H, J, ru, ⟨rfl, fun ys hy => by rw [I.list_inj hy hq]; exact hx⟩, st', fun b hb => (hf b hb).1⟩⟩
  done := by
    intro X hP hw hK hc i pins s σ H E I hf st hg
    subst hP hw hK
    obtain ⟨xs, hq, hx⟩ := hg
    obtain ⟨its, rv, p, hz⟩ := I.list hq
    obtain ⟨f0, f1, f2, f3, f4, f5⟩ := hf it (by simp)
    have hl := rv.length
    obtain ⟨⟨x1, ox⟩, ⟨hh, vs, d1, c1⟩, hp⟩ := hc
    have g1 := (I.pin _ (List.mem_append_left _ hp)).1
    exact list_end_hot (x1 := x1) ⟨hh, ox, vs, g1, d1, c1⟩ (f5 _ (List.mem_append_left _ hp)) st p.isList (by simp; omega) fun h' eb => ⟨rfl, I.turned (t' := s.toks) (fun b o hb e => eb b o hb e) f0 f1 f3 f4 f5⟩
  self := fun _ _ _ _ _ st h => wpAny_pyIter_listiter st h
theorem pi_listH {l : Expr} {tl : TE} (hl : PE X l tl) : PIH X tg l (iList X.K tl) := by
  refine ⟨fun pins s σ H R I h => ?_⟩
  refine thn (hl.run pins s σ H _ I h) fun v s1 ⟨x, H1, I1, r1, a, e, ⟨xs, hq⟩, q⟩ => ?_
  subst e
  cases r1
  obtain ⟨its, rv, p, hz⟩ := I1.list hq
  refine wpAny_pyIter_list p.isList ⟨s1.heap.objs.size, [s1.heap.objs.size], _, _, H1, rfl, I1.kept (t' := s1.toks) fun b o e => Heap.get?_push_of_some _ e, turn_listH a _, ⟨_, Heap.get?_push_size _ rfl, rfl, rfl⟩, fun b hb => ?_, q⟩
  obtain rfl : b = s1.heap.objs.size := by simpa using hb
  exact I1.fpOk (Nat.le_refl _) (I1.hok.fresh (Nat.le_refl _))
end
end Mp
/-! ## Gen4 -/
set_option Elab.async false
set_option linter.all false
set_option maxRecDepth 100000
set_option maxHeartbeats 2000000
namespace Mp
open PySem PySem.Spec PyProof.Rows L2 L2H HotX

/-- a comprehension's block that keeps the pins (the exception that is handled) -/
abbrev blkH (X : Cx) (s : Shared) (H : Hp) (scope : Scope) (cenv : Env) (fp : List Addr) : Cx := (X.blk s H scope cenv fp).tr X.pn (fun _ _ => False)
section
variable {X : Cx}
theorem pe_lcH {elt tg iter : Expr} {ifs : List Expr} {scope : Scope} {own : List (Str × Nat)} {pos : Pos} {wi : TI} {g : TG} {tt : TT} {te : TE} (hc : HotC X) (hN : X.N.Nodup) (hi : PIH X tg iter wi) (ok : BlkOk X.N X.env.scope scope own)
    (hg : ∀ (s : Shared) (H : Hp) (C : Addr) (cl : List (Str × Addr)) (fp : List Addr), PG (blkH X s H scope (compEnvC scope cl C X.env) fp) tg g) (ht : ∀ (s : Shared) (H : Hp) (C : Addr) (cl : List (Str × Addr)) (fp : List Addr), PTs (blkH X s H scope (compEnvC scope cl C X.env) fp) ifs tt)
    (he : ∀ (s : Shared) (H : Hp) (C : Addr) (cl : List (Str × Addr)) (fp : List Addr), PE (blkH X s H scope (compEnvC scope cl C X.env) fp) elt te) (hs : ∀ x, foldedSetIterable iter X.env x = pure x := by intro _; rfl) :
    PE X (.ListComp elt [⟨tg, iter, ifs, 0⟩] scope pos) (tLc wi g tt te (own.map (·.2))) := by
  refine ⟨fun pins s σ H Q I h => ?_⟩
  rw [eval_ListComp]
  have free : ∀ y ∈ scope.names, y.2 = .free → ∃ c, X.env.cells.lookup y.1 = some c := fun y hy e => (ok.free y hy e).elim (fun k => I.ok.has _ (.inl k)) fun k => I.ok.has _ (.inr k)
  refine wpAny_comprehension_free (use := none) rfl hs (closure_ok free) ok.kind (fun y hy e => by rw [ok.uniq y hy, e]) (thn (hi.run pins s σ H _ I h) fun xv s1 hx => thn hx fun itv s2 h2 => ?_)
  obtain ⟨it, fp, tn, J, H2, rfl, I2, T, st2, f2, q⟩ := h2
  refine wpAny_newObj_type (newEnv_comp ?_) (by show 0 ≤ sizeLine; decide)
  obtain ⟨D, hD⟩ : ∃ D, D = s2.heap.objs.size := ⟨_, rfl⟩
  rw [← hD]
  have nD : H2 D = none := I2.hok.fresh (Nat.le_of_eq hD.symm)
  obtain ⟨W, ⟨m0, w0⟩, turn⟩ := q D nD
  obtain ⟨s3, hs3⟩ : ∃ s3 : Shared, s3 = { s2 with heap := s2.heap.push { cls := .type "list", data := .seq ([] : List Value).toArray } } := ⟨_, rfl⟩
  have e3 : s3.heap = s2.heap.push { cls := .type "list", data := .seq ([] : List Value).toArray } := by rw [hs3]
  have I3 : Inv X pins σ (upd H2 D (.lst [])) s3 := by
    rw [hs3]
    refine I2.laid (t' := s2.toks) (fun b o e => Heap.get?_push_of_some _ e) (Nat.le_of_eq hD.symm) ⟨Nat.zero_le _, [], 0, .nil, ?_⟩
    rw [hD]
    exact Heap.get?_push_size _ rfl
  have f3 : ∀ b ∈ fp, FpOk X pins (upd H2 D (.lst [])) b ∧ b < s3.heap.objs.size := fun b hb => by
    obtain ⟨o, e, _⟩ := T.obj _ _ st2 b hb
    have lt := Heap.lt_size e
    refine ⟨⟨?_, (f2 b hb).2⟩, by rw [e3, Heap.size_push]; exact Nat.lt_succ_of_lt lt⟩
    rw [upd_ne (by rw [hD]; exact Nat.ne_of_lt lt)]
    exact (f2 b hb).1
  have st3 : tn 0 s3.heap := T.keep _ _ _ st2 fun b _ o e => by rw [e3]; exact Heap.get?_push_of_some _ e
  have B3 := block_start I3 ok hN f3
  obtain ⟨cl, hcl⟩ : ∃ cl, cl = cellsFrom (s3.heap.objs.size + 1) scope.names (cloFrom X.env.cells scope.names []) := ⟨_, rfl⟩
  rw [← hcl] at B3
  have PG' := hg s3 (upd H2 D (.lst [])) s3.heap.objs.size cl fp
  have PT' := ht s3 (upd H2 D (.lst [])) s3.heap.objs.size cl fp
  have PE' := he s3 (upd H2 D (.lst [])) s3.heap.objs.size cl fp
  have goal' : codeAny (model X.prog X.w) X.A (.compStart (.ListComp elt [⟨tg, iter, ifs, 0⟩] scope pos) 0 (.ref it) (.ref D) (compEnvC scope cl s3.heap.objs.size X.env)) (compPost (model X.prog X.w) X.A X.xe none (EP X pins σ Q) (.ref D) s3.heap.objs.size) { s3 with heap := pushCells (s3.heap.push { cls := .type "dict", data := .dict #[] }) scope.names } := by
    obtain ⟨ce, hce⟩ : ∃ ce, ce = compEnvC scope cl s3.heap.objs.size X.env := ⟨_, rfl⟩
    rw [← hce] at B3 PG' PT' PE' ⊢
    have cL : ce.locals = s3.heap.objs.size := by rw [hce]; rfl
    obtain ⟨H3, hH3⟩ : ∃ H3, H3 = upd H2 D (.lst []) := ⟨_, rfl⟩
    rw [← hH3] at I3 B3 PG' PT' PE' w0 f3
    obtain ⟨s4, hs4⟩ : ∃ s4 : Shared, s4 = { s3 with heap := pushCells (s3.heap.push { cls := .type "dict", data := .dict #[] }) scope.names } := ⟨_, rfl⟩
    rw [← hs4] at B3 ⊢
    have k4 : ∀ b o, s3.heap.get? b = some o → s4.heap.get? b = some o := fun b o e => by rw [hs4]; exact pushCells_keeps _ _ _ _ (Heap.get?_push_of_some _ e)
    have st4 : tn 0 s4.heap := T.keep _ _ _ st3 fun b _ o e => k4 b o e
    -- the block's invariant, with the pins
    have I4 : Inv (blkH X s3 H3 scope ce fp) [] (wipe σ (own.map (·.2))) H3 s4 := by
      refine ⟨B3.ok.toTry _ _, B3.os, B3.bare, B3.base, B3.loc, B3.cell, B3.free, B3.freeC, fun p hp => ?_, B3.hok, B3.len⟩
      have hp' : p ∈ X.pn := by
        have z : p ∈ X.pn ++ [] := hp
        simpa using z
      obtain ⟨g1, g2, g3, g4, g5⟩ := I3.pin p (List.mem_append_left _ hp')
      refine ⟨k4 _ _ g1, g2, ?_, fun z => ?_, g5⟩
      · show p.1 ≠ ce.locals
        rw [cL]
        exact Nat.ne_of_lt (Heap.lt_size g1)
      · exact (List.mem_cons.mp (I3.stkSub _ z)).elim g3 g4
    have stat : ∀ {σ' : L2.St} {H' : Hp} {s' : Shared}, Inv (blkH X s3 H3 scope ce fp) [] σ' H' s' → (∀ b ∈ fp, H' b = none) → ∀ b ∈ fp, FpOk (blkH X s3 H3 scope ce fp) [] H' b := fun {σ' H' s'} I' hn b hb => by
      refine ⟨hn b hb, (I'.ok.exf b hb).1, I'.ok.exfs b hb, .inl hb, fun x c e => (I'.ok.exf b hb).2 x c e, fun p hp => ?_⟩
      have hp' : p ∈ X.pn := by
        have z : p ∈ X.pn ++ [] := hp
        simpa using z
      exact (f3 b hb).1.2.2.2.2.2 p (List.mem_append_left _ hp')
    have hcB : HotC (blkH X s3 H3 scope ce fp) := hc
    have loop : codeAny (model X.prog X.w) X.A (.compLoop (.ListComp elt [⟨tg, iter, ifs, 0⟩] scope pos) 0 (.ref it) (.ref D) ce) (compPost (model X.prog X.w) X.A X.xe none (EP X pins σ Q) (.ref D) s3.heap.objs.size) s4 := by
      refine compLoop_any (fun n s' => ∃ i H', Inv (blkH X s3 H3 scope ce fp) [] (wipe σ (own.map (·.2))) H' s' ∧ tn i s'.heap ∧ (∀ b ∈ fp, H' b = none) ∧ W i n H') ?_ m0 ⟨0, H3, I4, st4, fun b hb => (f3 b hb).1.1, w0⟩
      rintro n s5 ⟨i, H5, I5, st5, n5, w5⟩
      rcases turn i n H5 w5 with ⟨stop, qq⟩ | ⟨go, Nx, hNx, step⟩
      · refine thnF (T.done (blkH X s3 H3 scope ce fp) rfl rfl rfl hcB i [] s5 _ H5 (fun _ _ => False) I5 (stat I5 n5) st5 stop) fun r s6 ⟨hr, I6⟩ => ?_
        subst hr
        have I7 : Inv X pins σ H5 s6 := I3.call' (ch := fp) I6.os I6.base I6.hok I6.bare fun b hb => ⟨(f3 b hb).1.2.2.2.1, (f3 b hb).1.2.1, (f3 b hb).1.2.2.2.2.1, (f3 b hb).1.2.2.2.2.2⟩
        have nC : H5 s3.heap.objs.size = none := by
          have z : H5 ce.locals = none := I6.free
          rw [cL] at z
          exact z
        obtain ⟨m, hn, _⟩ := I6.loc
        have hn' : s6.heap.Ns s3.heap.objs.size m := by
          have z : s6.heap.Ns ce.locals m := hn
          rw [cL] at z
          exact z
        obtain ⟨p0, p1, p2, p3, p4, p5⟩ := I3.fpOk (Nat.le_refl _) nC
        exact ⟨m, hn', fun h2 sb => ⟨.ref D, H5, I7.turned (t' := s6.toks) (fun b o hb e => (sb.2 b hb).trans e) p0 p1 p3 p4 p5, rfl, qq⟩⟩
      · refine thnF (T.item (blkH X s3 H3 scope ce fp) rfl rfl rfl hcB i [] s5 _ H5 (fun _ _ => False) I5 (stat I5 n5) st5 go) fun r s6 ⟨u, hr, h6⟩ => ?_
        subst hr
        refine thnF h6 fun _ s7 ⟨x, H7, I7, r7, y7, st7, n7⟩ => ?_
        refine thnF (PG'.run _ s7 _ H7 x u _ (I7.pinned (stat I7 n7) (T.obj _ _ st7)) r7 (step x H7 y7)) fun _ s8 ⟨σ8, H8, I8, hw8, q8⟩ => ?_
        refine thnF (PT'.run _ s8 σ8 H8 _ I8 q8) fun b s9 ⟨H9, I9, q9⟩ => ?_
        have fin : ∀ {s' : Shared} {H' : Hp}, Inv (blkH X s3 H3 scope ce fp) ([] ++ pinsAt fp s7.heap) σ8 H' s' → Nx H' → ∃ m, m < n ∧ ∃ i H', Inv (blkH X s3 H3 scope ce fp) [] (wipe σ (own.map (·.2))) H' s' ∧ tn i s'.heap ∧ (∀ b ∈ fp, H' b = none) ∧ W i m H' := fun {s' H'} I' nx => by
          obtain ⟨m', hm, w'⟩ := hNx H' nx
          have pin' : ∀ b ∈ fp, ∀ o, s7.heap.get? b = some o → s'.heap.get? b = some o ∧ H' b = none := fun b hb o e => by
            have z := I'.pin (b, o) (List.mem_append_right _ (List.mem_append_right _ (mem_pinsAt hb e)))
            exact ⟨z.1, z.2.1⟩
          have hl : (wipe σ (own.map (·.2))).length = σ8.length := by rw [← hw8, wipe_length]
          refine ⟨m', hm, i + 1, H', (I'.unpinned (pins := [])).weak hl (fun j v e => ?_), T.keep _ _ _ st7 fun b hb o e => (pin' b hb o e).1, fun b hb => ?_, w'⟩
          · rw [← hw8] at e
            exact (wipe_some e).1
          · obtain ⟨o, e, _⟩ := T.obj _ _ st7 b hb
            exact (pin' b hb o e).2
        cases b with
        | false =>
          simp only [Bool.false_eq_true, if_false] at q9 ⊢
          exact fin I9 q9
        | true =>
          simp only [if_true] at q9 ⊢
          refine thnF (PE'.run _ s9 σ8 H9 _ I9 q9) fun z s10 ⟨yv, H10, I10, r10, acc, hD10, hz10, nx⟩ => ?_
          exact app_ok (X := blkH X s3 H3 scope ce fp) I10 hD10 hz10 r10 fun s11 I11 => fin I11 nx
    exact codeAny_compStart_list loop (T.self X.A 0 _ _ _ st4 loop)
  rw [hcl] at goal'
  rw [hs3] at goal'
  exact goal'
end
end Mp
/-! ## Gen5 -/
set_option Elab.async false
set_option linter.all false
set_option maxRecDepth 100000
set_option maxHeartbeats 2000000
namespace Mp
open PySem PySem.Spec PyProof.Rows L2 L2H HotX

/-! ### a def called within an except suite, by a promise that knows the error (at a, of the class at C) -/
structure FnE (P : Program) (w : World) (K : PySem.W.Frag) (mg : Str → Option Value) (base : Heap) (CX : CXT) (k : Nat) (f : Addr) (fd : FuncData) (ps : List Str) (sp : Addr → Addr → Sp) : Prop where
  len : ∀ a C vs H Q E, sp a C vs H Q E → vs.length = ps.length
  run : ∀ (A : Around) (outer : List Env) (s : Shared) (H : Hp) (us : List Value) (vs : List V) (Q : VK) (E : XK) (p : Addr × Obj) (C : Addr), RoomH k A → Hot1 A p → L2N.Zn (.ref C) none p.2 → PinOk outer H s p → Env0 P w K mg base A outer s H → BindsTo s fd ⟨us, []⟩ (ps.zip us) → Vals vs us → sp p.1 C vs H Q E →
    codeAny (model P w) A (.call (.ref f) ⟨us, []⟩) (CR CX outer P w H s Q E) s
theorem Fun.okE {P : Program} {w : World} {K : PySem.W.Frag} {mg : Str → Option Value} {base : Heap} {CX : CXT} {x qual : Str} {st : Stmt} {f : Addr} {fd : FuncData} {N ps : List Str} {k : Nat} {sp : Addr → Addr → Sp} (F : Fun K x qual st f fd) (S : FnScope N ps (defScope st)) (len : ∀ a C vs H Q E, sp a C vs H Q E → vs.length = ps.length)
    (hbody : ∀ (cdv : Value) (A : Around) (outer : List Env) (s : Shared) (H : Hp) (vs : List V) (Q : VK) (E : XK) (p : Addr × Obj) (C : Addr), Hot1 A p → L2N.Zn (.ref C) none p.2 → RoomH k (A.deeper (envOfC qual (defScope st) s.heap.objs.size f cdv)) → sp p.1 C vs H Q E →
      ∃ t, PSs (cxH CX P w K mg base N qual (defScope st) f cdv A outer s H E p) (defBody st) t ∧ t { nx := fun _ H' => Q .non H', rt := Q } (L2.start N vs) H) : FnE P w K mg base CX (k + 1) f fd ps sp := by
  obtain ⟨oc, od, kV, doc, pm, an, cdv, ct, osl, rfl, lk, hcd⟩ := F.ex
  refine ⟨len, fun A outer s H us vs Q E p C hr hot hz hpin e0 hb r hsp => ?_⟩
  have hl := len _ _ _ _ _ _ hsp
  have KX : K.In s.heap := e0.mod.kin.keeps fun b o e => (e0.bs b o e).1
  have lim : s.heap.NoLimit := e0.mod.nolimit.keeps fun b o e => (e0.bs b o e).1
  have kinds : ∀ y ∈ ps.zip us, (defScope st).names.lookup y.1 = some .local ∨ ((defScope st).names.lookup y.1 = some .cell ∧ ((cellsFrom (s.heap.objs.size + 1) (defScope st).names []).lookup y.1).isSome = true) := fun ⟨n, v⟩ hy => by
    rcases S.par n (List.of_mem_zip hy).1 with q | q
    · exact .inl q
    · exact .inr ⟨q, PySem.W.cellsFrom_some _ _ _ (.inl q)⟩
  refine codeAny_call_function hr.depth (KX _ _ lk) rfl S.co S.gen rfl (PySem.W.codeRec_of KX hcd) (hb _ _ _ _ ?_)
  refine wpAny_newFunctionEnv_cells S.kind kinds fun env he s1 xx => ?_
  subst he
  refine ⟨lim.keeps xx.toInCall.keep, codeAny_func ?_⟩
  obtain ⟨t, ht, hq⟩ := hbody cdv A outer s H vs Q E p C hot hz (hr.deeper _) hsp
  have J : Inv (cxH CX P w K mg base N qual (defScope st) f cdv A outer s H E p) [] (L2.start N vs) H s1 := inv_startH S hpin e0 hl r xx
  refine wpAny_mono (ht.run [] s1 (L2.start N vs) H _ J hq) (fun fl s' hs => ?_) fun e s' hs => hs
  cases fl with
  | ret u =>
    obtain ⟨v, σ', H', J', rv, q⟩ := hs
    exact ⟨v, H', J'.os, J'.bare, J'.base, J'.hok, rv, q⟩
  | next =>
    obtain ⟨σ', H', J', q⟩ := hs
    exact ⟨.non, H', J'.os, J'.bare, J'.base, J'.hok, rfl, q⟩
  | brk =>
    obtain ⟨_, _, _, q⟩ := hs
    exact False.elim q
  | cont =>
    obtain ⟨_, _, _, q⟩ := hs
    exact False.elim q
def tCallE (sp : Addr → Addr → Sp) (a : Addr) (cls : Value) (d : Option Addr) (t : TA) : TE := fun σ H Q => ∃ C : Addr, cls = .ref C ∧ d = none ∧ t σ H fun vs H1 => sp a C vs H1 Q fun _ _ _ => False
section
variable {X : Cx} {k : Nat} {f a : Addr} {fd : FuncData} {ps : List Str} {sp : Addr → Addr → Sp} {x : Str} {q pos : Pos} {e : Expr} {es : List Expr} {t : TA} {oe : Obj} {cls : Value} {d : Option Addr} {pn : List (Addr × Obj)}
theorem pe_callE (F : FnE X.prog X.w X.K X.mg X.base CX0 k f fd ps sp) (hr : RoomH k X.A) (hz : L2N.Zn cls d oe) (hf : ∃ vs, oe.data = .fields vs) (hg : Gl (X.suite a ((a, oe) :: pn)) x) (hm : X.mg x = some (.ref f)) (hk : PySem.W.keepIn X.K (.ref f) = true) (hb : Binds X.K fd ps [])
    (ha : PA (X.suite a ((a, oe) :: pn)) (e :: es) t) (hdb : (x == ("__debug__" : Str)) = false := by decide) (he : starEach (e :: es) X.env = (false, eval e X.env) :: starEach es X.env := by rfl) (hpl : (backTo pos (starEach es X.env)).any (·.1) = false := by rfl) :
    PE (X.suite a ((a, oe) :: pn)) (.Call (.Name x q) (e :: es) [] pos) (tCallE sp a cls d t) := by
  refine ⟨fun pins s σ H Q I h => ?_⟩
  obtain ⟨C, rfl, rfl, h⟩ := h
  refine wpAny_Call_Name_kw (ld_glob (X := X.suite a ((a, oe) :: pn)) I hg hm ?_ hdb)
  refine PySem.W.callWith_K (h₀ := X.base) I.ok.mod.kin hk (thn (ha.run pos pins s σ H _ I h) fun us s1 ⟨vs, H1, I1, r, qq⟩ => ⟨I1.kIn, ?_⟩) he hpl
  have hl : us.length = ps.length := by rw [← r.length]; exact F.len _ _ _ _ _ _ qq
  have b := hb s1 us I1.kIn (by rw [List.append_nil]; exact hl)
  rw [List.append_nil] at b
  have P1 := I1.pin (a, oe) (List.mem_append_left _ List.mem_cons_self)
  have pin : PinOk X.stack H1 s1 (a, oe) := ⟨P1.1, P1.2.1, fun hm => (List.mem_cons.mp (I1.stkSub a hm)).elim P1.2.2.1 P1.2.2.2.1, P1.2.2.2.2⟩
  obtain ⟨fv, hfv⟩ := hf
  have hot : Hot1 (X.suite a ((a, oe) :: pn)).A (a, oe) := ⟨rfl, fv, hfv, hz.2.2 fv hfv⟩
  show wpAny _ _ (call (.ref f) us) _ _ s1
  refine wpAny_call (codeAny_mono (F.run _ _ s1 H1 us vs Q (fun _ _ _ => False) (a, oe) C ⟨hr.dp, hr.un⟩ hot hz pin I1.env0 b r qq) fun r s' hq => ?_)
  cases r with
  | error e => exact (show False from hq).elim
  | ok fl =>
    cases fl with
    | ret u => exact I1.after hq
    | next => exact False.elim hq
    | brk => exact False.elim hq
    | cont => exact False.elim hq
end
/-- isinstance(e, c), e the error that is handled -/
theorem call_isEH {X : Cx} {D : Addr} {p : Addr × Obj} (C : ExcC X.K D) (hz : L2N.Zn (.ref D) none p.2) (hot : Hot1 X.A p) (hp : p ∈ X.pn) : CallR X (.builtin "isinstance") (rIsE X.K D p.1) := by
  intro pins s σ H xs us Q I r h
  obtain ⟨c, cv, b, rfl, hcv, e, q⟩ := h
  cases r with
  | cons rx rr =>
    cases rr with
    | cons rt rr =>
      cases rr
      cases rx
      obtain rfl := hcv _ rt
      have hget := (I.pin p (List.mem_append_left _ hp)).1
      obtain ⟨_, vs, hv, _⟩ := hot
      have J : PySem.W.InstAt s.heap p.1 p.2 D none := by
        obtain ⟨a, oc, od, oda, osl⟩ := p
        obtain ⟨h1, h2, _⟩ := hz
        dsimp only at h1 h2 hv
        subst h1 h2 hv
        exact ⟨hget, rfl, rfl, trivial⟩
      exact PySem.W.kia_one (PySem.W.handS_kitx_exc C.hg C.hk C.hs C.hd C.ha C.hn C.ht C.hm) I.kIn J e (fun z => nomatch z) fun tk => ⟨.bl b, H, I.kept (t' := tk) fun _ _ z => z, rfl, q⟩
/-- X(e), an own error of one argument; its context is None -/
theorem pmk_own1N {X : Cx} {C : Addr} {bmB : List Value} {B newId initId : String} {x : Str} {e : Expr} {ta : TE} {p pos : Pos} (F : ExcBaseFacts B newId initId bmB) (q : PySem.W.excIn X.K C bmB newId = true) (gC : X.mg x = some (.ref C)) (kC : PySem.W.keepIn X.K (.ref C) = true) (r : Raises X (.ref C)) (hg : Gl X x)
    (he : PE X e ta) (hs : starEach [e] X.env = (false, eval e X.env) :: starEach [] X.env := by rfl) (hdb : (x == ("__debug__" : Str)) = false := by decide) :
    L2N.PMk X (.Call (.Name x p) [e] [] pos) (fun σ H Q => ta σ H fun _ H1 => Q (.ref C) none H1) := by
  intro pins s σ H Q I h
  refine wpAny_Call_Name_kw (ld_glob I hg gC ?_ hdb)
  refine PySem.W.callWith_K (h₀ := X.base) I.ok.mod.kin kC ?_ hs (by rfl)
  rw [hs]
  show wpAny _ _ (spliced ((false, eval e X.env) :: backTo pos (starEach [] X.env))) _ _ s
  refine Calls.spliced_cons (thn (he.run pins s σ H _ I h) fun u s1 ⟨v, H1, I1, r1, q1⟩ => Calls.spliced_nil ⟨I1.kIn, ?_⟩)
  show wpAny _ _ (call (.ref C) [u]) _ _ _
  obtain ⟨bm, N, nm, qn, bs, hdct, sn, sub, ab, col, dd, k0, k1, k2, k3, k5, mN, hC, hN, hni, T⟩ := exc_obj I1.kIn q
  refine wpAny_call_exc_subT F T hC hN hni (fun h' e hm => ?_) (by show 1 ≤ sizeLine; rw [sizeLine_eq]; omega)
  exact L2N.mk_of I1 hm r q1 (I1.hok.gone hm.new)
theorem takes0N {X : Cx} : L2N.Takes X (fun _ _ _ _ => False) := fun _ _ x => by
  obtain ⟨_, _, _, _, _, _, _, _, _, _, _, _, _, _, _, _, z⟩ := x
  exact z.elim
/-- as Fun.okX, what is let out is told with its context -/
theorem Fun.okN {P : Program} {w : World} {K : PySem.W.Frag} {mg : Str → Option Value} {base : Heap} {x qual : Str} {st : Stmt} {f : Addr} {fd : FuncData} {N ps : List Str} {k : Nat} {sp : Sp} (F : Fun K x qual st f fd) (S : FnScope N ps (defScope st)) (len : ∀ vs H Q E, sp vs H Q E → vs.length = ps.length)
    (hbody : ∀ (cdv : Value) (A : Around) (outer : List Env) (s : Shared) (H : Hp) (vs : List V) (Q : VK) (E : XK), Room k (A.deeper (envOfC qual (defScope st) s.heap.objs.size f cdv)) → sp vs H Q E →
      ∃ t, PSs (cxOf (L2N.CX P w) P w K mg base N qual (defScope st) f cdv A outer s H E) (defBody st) t ∧ t { nx := fun _ H' => Q .non H', rt := Q } (L2.start N vs) H) : FnOk P w K mg base (L2N.CX P w) (k + 1) f fd ps sp := by
  obtain ⟨oc, od, kV, doc, pm, an, cdv, ct, osl, rfl, lk, hcd⟩ := F.ex
  exact fn_of lk hcd S len fun A outer s H vs Q E hr hsp => hbody cdv A outer s H vs Q E hr hsp
end Mp
/-! ## Gen6 -/
set_option Elab.async false
set_option linter.all false
set_option maxRecDepth 100000
set_option maxHeartbeats 2000000
namespace Mp
open PySem PySem.Spec PyProof.Rows L2
/-- C(e, ..) whose making may raise, wished for at the caller's slots -/
def tMakeS (C : Addr) (sp : Sp) (E : L2.St → XK) (t : TA) : TE := fun σ H Q => t σ H fun vs H1 => ∀ x dx, H1 x = none → H1 dx = none → dx ≠ x → sp (.ref x :: vs) (upd (upd H1 dx (.own x)) x (.ins C dx [])) (fun v H2 => v = .non ∧ Q (.ref x) H2) (E σ)
section
variable {X : Cx} {CX : CXT} {k : Nat} {f C : Addr} {fd : FuncData} {ps : List Str} {sp : Sp} {E : L2.St → XK} {x m : Str} {p pos apos : Pos} {e o : Expr} {es : List Expr} {ta : TE} {t : TA}
theorem pe_makeS (M : Mk X.K C f) (F : FnOk X.prog X.w X.K X.mg X.base CX k f fd ps sp) (hr : Room (k + 1) X.A) (hg : Gl X x) (hm : X.mg x = some (.ref C)) (hb : Binds X.K fd ps []) (hx : ∀ σ, PassesAt CX X σ (E σ))
    (ha : PA X (e :: es) t) (hdb : (x == ("__debug__" : Str)) = false := by decide) (he : starEach (e :: es) X.env = (false, eval e X.env) :: starEach es X.env := by rfl) (hpl : (backTo pos (starEach es X.env)).any (·.1) = false := by rfl) :
    PE X (.Call (.Name x p) (e :: es) [] pos) (tMakeS C sp E t) := by
  refine ⟨fun pins s σ H Q I h => ?_⟩
  refine wpAny_Call_Name_kw (ld_glob I hg hm ?_ hdb)
  refine PySem.W.callWith_K (h₀ := X.base) I.ok.mod.kin M.kp (thn (ha.run pos pins s σ H _ I h) fun us s1 ⟨vs, H1, I1, r, q⟩ => ⟨I1.kIn, ?_⟩) he hpl
  have h0 := q (s1.heap.objs.size + 1) s1.heap.objs.size (I1.hok.fresh (Nat.le_succ _)) (I1.hok.fresh (Nat.le_refl _)) (Nat.ne_of_lt (Nat.lt_succ_self _))
  have J := Inv.made (C := C) I1
  have r2 : Vals (V.ref (s1.heap.objs.size + 1) :: vs) (Value.ref (s1.heap.objs.size + 1) :: us) := .cons rfl r
  have hl : (Value.ref (s1.heap.objs.size + 1) :: us).length = ps.length := by
    have e := r2.length
    rw [F.len _ _ _ _ h0] at e
    exact e.symm
  have b := hb _ (Value.ref (s1.heap.objs.size + 1) :: us) J.kIn (by rw [List.append_nil]; exact hl)
  rw [List.append_nil] at b
  refine wpAny_call (make_map (f := f) I1.kIn M.makes M.init (beq_iff_eq.mp M.fn) (codeAny_mono (F.run _ X.stack _ _ ⟨Value.ref (s1.heap.objs.size + 1) :: us, []⟩ (Value.ref (s1.heap.objs.size + 1) :: us) _ _ (E σ) (hr.make C us []) (J.env0.make C us []) b r2 h0) fun r s' hq' => ?_))
  cases r with
  | error e => exact hx σ pins _ _ e s' J hq'
  | ok fl =>
    cases fl with
    | ret u =>
      obtain ⟨v, H', I3, rv, ev, q3⟩ := J.after hq'
      subst ev
      exact ⟨rv, ⟨V.ref (s1.heap.objs.size + 1), H', I3, rfl, q3⟩⟩
    | next => exact False.elim hq'
    | brk => exact False.elim hq'
    | cont => exact False.elim hq'
/-- o.m(e, ..) that may raise, wished for at the caller's slots -/
def tMethS0 (C : Addr) (m : Str) (sp : Sp) (E : L2.St → XK) (ta : TE) (t : TA) : TE := fun σ H Q => ta σ H fun x H1 => ∃ a dx fs, x = .ref a ∧ H1 a = some (.ins C dx fs) ∧ fs.lookup m = none ∧ t σ H1 fun vs H2 => sp (x :: vs) H2 Q (E σ)
theorem pe_methS0 {pl : Sem Bool} (he : PE X o ta) (c : Cls X.K C) (hm : Meth X.K C m f) (F : FnOk X.prog X.w X.K X.mg X.base CX k f fd ps sp) (hr : Room k X.A) (hb : Binds X.K fd ps []) (hx : ∀ σ, PassesAt CX X σ (E σ)) (ha : PA X (e :: es) t)
    (hst : starEach (e :: es) X.env = (false, eval e X.env) :: starEach es X.env := by rfl) (hpl : (backTo pos (starEach es X.env)).any (·.1) = false := by rfl)
    (ht : eval (.Call (.Attribute o m apos) (e :: es) [] pos) X.env = (do
      let ov ← eval o X.env
      standAt apos.atName
      let (f, first) ← holding [ov] (getMethod ov m pl)
      callWith pos f first (backTo pos (starEach (e :: es) X.env)) (backToKw pos (keywordEach [] X.env))) := by rfl) :
    PE X (.Call (.Attribute o m apos) (e :: es) [] pos) (tMethS0 C m sp E ta t) := by
  refine ⟨fun pins s σ H Q I h => ?_⟩
  refine PySem.W.methodCall_KW (pl := pl) (thn (he.run pins s σ H _ I h) fun u s1 ⟨x, H1, I1, rx, a, dx, fs, ex, ea, l, q⟩ => ?_) ht
  subst ex
  obtain rfl : u = Value.ref a := rx
  refine getmeth_ok I1 ea c hm l ?_
  refine PySem.W.callWith_K (first := [.ref a]) (h₀ := X.base) I.ok.mod.kin hm.kp (thn (ha.run pos pins s1 σ H1 _ I1 q) fun us s2 ⟨vs, H2, I2, r, q2⟩ => ⟨I2.kIn, ?_⟩) hst hpl
  exact run_fnS (us := .ref a :: us) (vs := .ref a :: vs) F hr hb (hx σ) I2 (.cons rfl r) q2
end
end Mp
/-! ## M1 -/
set_option linter.all false
namespace Mp
/-! Plain mathematics: ways, going along them -/
abbrev Way := Int × Int × Int
def EndsOk (m : Int) (w : Way) : Prop := (0 ≤ w.1 ∧ w.1 < m) ∧ (0 ≤ w.2.1 ∧ w.2.1 < m)
def DelayOk (w : Way) : Prop := 0 ≤ w.2.2 ∧ w.2.2 ≤ 9999
instance (m : Int) (w : Way) : Decidable (EndsOk m w) := by unfold EndsOk; exact inferInstance
instance (w : Way) : Decidable (DelayOk w) := by unfold DelayOk; exact inferInstance
/-- along ways, one at least -/
inductive Go (ws : List Way) : Int → Int → Prop
  | one {w : Way} : w ∈ ws → Go ws w.1 w.2.1
  | more {a : Int} {w : Way} : Go ws a w.1 → w ∈ ws → Go ws a w.2.1
theorem Go.trans {ws : List Way} {a b c : Int} (h : Go ws a b) (k : Go ws b c) : Go ws a c := by
  induction k with
  | one hw => exact .more h hw
  | more _ hw ih => exact .more (ih h) hw
def Piece (m : Int) (ws : List Way) : Prop := ∀ s t : Int, 0 ≤ s → s < m → 0 ≤ t → t < m → Go ws s t
/-- a list without doubles within 0 .. n - 1 -/
theorem nodup_le : ∀ (n : Nat) (l : List Int), l.Nodup → (∀ x ∈ l, 0 ≤ x ∧ x < n) → l.length ≤ n
  | 0, l, _, h => by
    cases l with
    | nil => exact Nat.le_refl _
    | cons x r => have := h x List.mem_cons_self; omega
  | n + 1, l, hn, h => by
    have he : (l.erase (n : Int)).Nodup := hn.erase _
    have hl := nodup_le n (l.erase (n : Int)) he (fun x hx => by
      have hm := (hn.mem_erase_iff.mp hx)
      have := h x hm.2
      have := hm.1
      omega)
    have : l.length ≤ (l.erase (n : Int)).length + 1 := by
      by_cases hm : (n : Int) ∈ l
      · rw [List.length_erase_of_mem hm]; omega
      · rw [List.erase_of_not_mem hm]; omega
    omega
theorem nodup_full {n : Nat} {l : List Int} (hn : l.Nodup) (h : ∀ x ∈ l, 0 ≤ x ∧ x < n) (hl : n ≤ l.length) (x : Int) (h0 : 0 ≤ x) (h1 : x < n) : x ∈ l := by
  apply Classical.byContradiction
  intro hx
  have := nodup_le n (x :: l) (List.nodup_cons.mpr ⟨hx, hn⟩) (fun y hy => by
    rcases List.mem_cons.mp hy with e | e
    · subst e; exact ⟨h0, h1⟩
    · exact h y e)
  simp at this
  omega
theorem sub_len {α : Type} [DecidableEq α] : ∀ (a b : List α), a.Nodup → (∀ x ∈ a, x ∈ b) → a.length ≤ b.length
  | [], _, _, _ => Nat.zero_le _
  | x :: r, b, hn, h => by
    have hx := h x List.mem_cons_self
    have q := List.nodup_cons.mp hn
    have := sub_len r (b.erase x) q.2 (fun y hy => (List.mem_erase_of_ne (fun (e : y = x) => q.1 (by rw [← e]; exact hy))).mpr (h y (List.mem_cons_of_mem _ hy)))
    rw [List.length_erase_of_mem hx] at this
    have : 0 < b.length := List.length_pos_of_mem hx
    simp
    omega
def seqI (n : Nat) : List Int := (List.range n).map Int.ofNat
theorem seqI_len (n : Nat) : (seqI n).length = n := by unfold seqI; simp
theorem mem_seqI {n : Nat} {x : Int} : x ∈ seqI n ↔ 0 ≤ x ∧ x < n := by
  unfold seqI
  rw [List.mem_map]
  constructor
  · rintro ⟨k, hk, rfl⟩
    have := List.mem_range.mp hk
    exact ⟨Int.natCast_nonneg k, by show (k : Int) < n; omega⟩
  · rintro ⟨h0, h1⟩
    exact ⟨x.toNat, List.mem_range.mpr (by omega), by show ((x.toNat : Nat) : Int) = x; omega⟩
theorem nodup_seqI (n : Nat) : (seqI n).Nodup := by
  unfold seqI
  refine List.Pairwise.map _ (fun a b h => ?_) List.nodup_range
  intro e
  exact h (Int.ofNat.inj e)
/-- what is closed under the ways is what one reaches -/
theorem go_closed {ws : List Way} {st : Int} {F : List Int} (h0 : ∀ w ∈ ws, w.1 = st → w.2.1 ∈ F) (h1 : ∀ w ∈ ws, w.1 ∈ F → w.2.1 ∈ F) {x : Int} (g : Go ws st x) : x ∈ F := by
  have key : ∀ a b, Go ws a b → a = st → b ∈ F := by
    intro a b g
    induction g with
    | one hw => exact fun e => h0 _ hw e
    | more _ hw ih => exact fun e => h1 _ hw (ih e)
  exact key _ _ g rfl
theorem Go.ends {ws : List Way} {m a b : Int} (he : ∀ w ∈ ws, EndsOk m w) (g : Go ws a b) : (0 ≤ a ∧ a < m) ∧ 0 ≤ b ∧ b < m := by
  induction g with
  | one hw => exact he _ hw
  | more _ hw ih => exact ⟨ih.1, (he _ hw).2⟩
/-- going one way back and forth from nought -/
def Star (ws : List Way) (a b : Int) : Prop := a = b ∨ Go ws a b
theorem Star.step {ws : List Way} {a : Int} {w : Way} (h : Star ws a w.1) (hw : w ∈ ws) : Star ws a w.2.1 := by
  rcases h with e | g
  · subst e; exact .inr (.one hw)
  · exact .inr (.more g hw)
def flipW (w : Way) : Way := (w.2.1, w.1, w.2.2)
theorem go_flip {ws : List Way} {a b : Int} (g : Go (ws.map flipW) a b) : Go ws b a := by
  induction g with
  | @one w hw =>
    obtain ⟨v, hv, e⟩ := List.mem_map.mp hw
    subst e
    exact .one (w := v) hv
  | @more a w _ hw ih =>
    obtain ⟨v, hv, e⟩ := List.mem_map.mp hw
    subst e
    exact Go.trans (.one (w := v) hv) ih
theorem flip_flip (w : Way) : flipW (flipW w) = w := rfl
theorem flip_map (ws : List Way) : (ws.map flipW).map flipW = ws := by
  rw [List.map_map]
  have : flipW ∘ flipW = id := rfl
  rw [this]
  simp
theorem go_flip' {ws : List Way} {a b : Int} (g : Go ws a b) : Go (ws.map flipW) b a := by
  apply go_flip
  rw [flip_map]
  exact g
theorem star_flip {ws : List Way} {a b : Int} (g : Star (ws.map flipW) a b) : Star ws b a := by
  rcases g with e | g
  · exact .inl e.symm
  · exact .inr (go_flip g)
/-- of one piece: some way, all from nought, nought from all -/
theorem piece_iff {m : Int} {ws : List Way} (hm : 1 ≤ m) (he : ∀ w ∈ ws, EndsOk m w) :
    Piece m ws ↔ (ws ≠ [] ∧ (∀ x, 0 ≤ x → x < m → Star ws 0 x) ∧ ∀ x, 0 ≤ x → x < m → Star (ws.map flipW) 0 x) := by
  constructor
  · intro p
    refine ⟨fun e => ?_, fun x h0 h1 => .inr (p 0 x (by omega) (by omega) h0 h1), fun x h0 h1 => .inr (go_flip' (p x 0 h0 h1 (by omega) (by omega)))⟩
    subst e
    have g := p 0 0 (by omega) (by omega) (by omega) (by omega)
    have key : ∀ a b, Go ([] : List Way) a b → False := by
      intro a b g
      induction g with
      | one hw => cases hw
      | more _ hw _ => cases hw
    exact key _ _ g
  · rintro ⟨hne, hf, hb⟩ s t s0 s1 t0 t1
    have cyc : Go ws 0 0 := by
      cases ws with
      | nil => exact absurd rfl hne
      | cons w r =>
        have e := he w List.mem_cons_self
        have f1 := hf w.1 e.1.1 e.1.2
        have f2 := star_flip (hb w.2.1 e.2.1 e.2.2)
        have g1 : Go (w :: r) 0 w.2.1 := by
          rcases f1 with e1 | g
          · rw [e1]; exact .one List.mem_cons_self
          · exact .more g List.mem_cons_self
        rcases f2 with e2 | g
        · rw [e2] at g1; exact g1
        · exact g1.trans g
    have a := star_flip (hb s s0 s1)
    have b := hf t t0 t1
    rcases a with e | g
    · subst e
      rcases b with e | g
      · subst e; exact cyc
      · exact g
    · rcases b with e | k
      · subst e; exact g
      · exact g.trans k
end Mp
/-! ## P1 -/
set_option Elab.async false
set_option linter.all false
set_option maxRecDepth 100000
set_option maxHeartbeats 4000000
namespace Mp
open PySem PySem.Spec PyProof.Rows L2
/-! ### the text by places -/
def top (i : Nat) : Stmt := PySem.Challenge.pw_meanpace_k04_webs_refused.main.body.getD i (.Pass ⟨0, 0, 0, 0⟩)
abbrev sRefMeet : Stmt := top 13
abbrev sReached : Stmt := top 14
abbrev sRefCnt : Stmt := top 15
abbrev sRefWays : Stmt := top 16
abbrev sRefApart : Stmt := top 17
abbrev sInit : Stmt := inClass (top 18) 0
abbrev bmV : List Value := [.type "ValueError", .type "Exception", .type "BaseException", .type "object"]
/-- an own error's class, made by X('..') -/
structure ErrT (K : PySem.W.Frag) (mg : Str → Option Value) (x : Str) (C : Addr) : Prop where
  g : mg x = some (.ref C)
  q : PySem.W.excIn K C bmV "ValueError.__new__" = true
  kp : PySem.W.keepIn K (.ref C) = true
  b : PySem.W.subIn K (.ref C) (.type "BaseException") = some true
  t : PySem.W.typeIn K (.ref C) = some (.type "type")
theorem ErrT.r {X : Cx} {x : Str} {C : Addr} (T : ErrT X.K X.mg x C) : Raises X (.ref C) := raises_own T.b T.t
/-- the names that the program finds -/
structure Names0 (mg : Str → Option Value) : Prop where
  len : mg "len" = none
  range : mg "range" = none
  list : mg "list" = none
  tuple : mg "tuple" = none
section
variable {P : Program} {w : World} {K : PySem.W.Frag} {mg : Str → Option Value} {base : Heap}
/-! ### _refuse_meeting -/
def spRefMeet (CM : Addr) : Sp := fun vs H Q E => ∃ m x : Int, vs = [.int m, .int x] ∧ (0 ≤ x ∧ x < m → Q .non H) ∧ (¬ (0 ≤ x ∧ x < m) → E (.ref CM) none H)
theorem scRM : FnScope ["many", "meeting"] ["many", "meeting"] (defScope sRefMeet) := ⟨rfl, rfl, rfl, by decide +kernel, rfl, by decide +kernel, by decide +kernel⟩
theorem ok_refmeet {f CM : Addr} {fd : FuncData} (F : Fun K "_refuse_meeting" "_refuse_meeting" sRefMeet f fd) (T : ErrT K mg "NoMeeting" CM) : FnOk P w K mg base (L2N.CX P w) 1 f fd ["many", "meeting"] (spRefMeet CM) := by
  refine Fun.okN F scRM (fun vs H Q E h => ?_) (fun cdv A outer s H vs Q E hr h => ?_)
  · obtain ⟨m, x, rfl, _⟩ := h
    rfl
  · obtain ⟨m, x, rfl, hY, hN⟩ := h
    refine ⟨_, pss_one (ps_if (pt_not (pt_chain op_le op_lt pe_int (pv 1) (pv 0))) (pss_one (L2N.ps_raise rfl (L2N.takes_of rfl rfl rfl rfl) (L2N.pmk_own PySem.F.excBase_ValueError T.q T.g T.kp T.r rfl))) pss_nil), ?_⟩
    refine ⟨_, rfl, _, _, rfl, rfl, _, rfl, ?_⟩
    by_cases h1 : 0 ≤ x
    · rw [decide_eq_true h1]
      refine iteT ⟨_, rfl, _, _, rfl, rfl, _, rfl, ?_⟩
      by_cases h2 : x < m
      · rw [decide_eq_true h2]
        exact iteF (hY ⟨h1, h2⟩)
      · rw [decide_eq_false h2]
        exact iteT (hN fun z => h2 z.2)
    · rw [decide_eq_false h1]
      exact iteF ⟨_, rfl, iteT (hN fun z => h1 z.1)⟩
/-! ### _refuse_counts -/
def spRefCnt (CB : Addr) : Sp := fun vs H Q E => ∃ (m : Int) (a : Addr) (xs : List V), vs = [.int m, .ref a] ∧ H a = some (.lst xs) ∧ (1 ≤ m ∧ m ≤ 12 ∧ xs.length ≤ 60 → Q .non H) ∧ (¬ (1 ≤ m ∧ m ≤ 12 ∧ xs.length ≤ 60) → E (.ref CB) none H)
theorem scRC : FnScope ["many", "ways"] ["many", "ways"] (defScope sRefCnt) := ⟨rfl, rfl, rfl, by decide +kernel, rfl, by decide +kernel, by decide +kernel⟩
theorem ok_refcnt {f CB : Addr} {fd : FuncData} (F : Fun K "_refuse_counts" "_refuse_counts" sRefCnt f fd) (T : ErrT K mg "BadCount" CB) (Z : Names0 mg) {t1 t2 : Tok} (g1 : mg "MOST_MEETINGS" = some (.int 12 t1)) (g2 : mg "MOST_WAYS" = some (.int 60 t2)) :
    FnOk P w K mg base (L2N.CX P w) 1 f fd ["many", "ways"] (spRefCnt CB) := by
  refine Fun.okN F scRC (fun vs H Q E h => ?_) (fun cdv A outer s H vs Q E hr h => ?_)
  · obtain ⟨m, a, xs, rfl, _⟩ := h
    rfl
  · obtain ⟨m, a, xs, rfl, ha, hY, hN⟩ := h
    refine ⟨_, pss_cons (ps_if (pt_not (pt_chain op_le op_le pe_int (pv 0) (pe_glob (v := .int 12) rfl g1 ⟨_, rfl⟩))) (pss_one (L2N.ps_raise rfl (L2N.takes_of rfl rfl rfl rfl) (pmk_own1N PySem.F.excBase_ValueError T.q T.g T.kp T.r rfl
        (pe_joined (.cons pe_str (.cons (pe_fmt (pe_glob (v := .int 12) rfl g1 ⟨_, rfl⟩)) (.cons pe_str .nil))))))) pss_nil)
      (pss_one (ps_if (pt_cmpR op_gt (pe_callB call_len_seq (by rfl) Z.len PySem.boot_len (pa_cons (pv 1) pa_nil)) (pe_glob (v := .int 60) rfl g2 ⟨_, rfl⟩) (nomark _)) (pss_one (L2N.ps_raise rfl (L2N.takes_of rfl rfl rfl rfl) (pmk_own1N PySem.F.excBase_ValueError T.q T.g T.kp T.r rfl
        (pe_joined (.cons pe_str (.cons (pe_fmt (pe_glob (v := .int 60) rfl g2 ⟨_, rfl⟩)) (.cons pe_str .nil))))))) pss_nil)), ?_⟩
    refine ⟨_, rfl, _, _, rfl, rfl, _, rfl, ?_⟩
    have msg1 : ∀ c : ¬ (1 ≤ m ∧ m ≤ 12 ∧ xs.length ≤ 60), tJs [tC (.str "a web has 1 to "), tFmt (tC (.int 12)), tC (.str " meetings")] Str.empty [some (.int m), some (.ref a)] H (fun out H1 => E (.ref CB) none H1) := fun c =>
      ⟨_, rfl, by decide +kernel, .inr ⟨12, rfl, by decide, _, rfl, by decide +kernel, _, rfl, by decide +kernel, hN c⟩⟩
    have msg2 : ∀ c : ¬ (1 ≤ m ∧ m ≤ 12 ∧ xs.length ≤ 60), tJs [tC (.str "a web has at most "), tFmt (tC (.int 60)), tC (.str " ways")] Str.empty [some (.int m), some (.ref a)] H (fun out H1 => E (.ref CB) none H1) := fun c =>
      ⟨_, rfl, by decide +kernel, .inr ⟨60, rfl, by decide, _, rfl, by decide +kernel, _, rfl, by decide +kernel, hN c⟩⟩
    by_cases h1 : 1 ≤ m
    · rw [decide_eq_true h1]
      refine iteT ⟨_, _, rfl, rfl, _, rfl, ?_⟩
      by_cases h2 : m ≤ 12
      · rw [decide_eq_true h2]
        refine iteF ⟨_, rfl, _, _, rfl, .inl (SqL.of ha), _, _, rfl, rfl, _, rfl, ?_⟩
        by_cases h3 : xs.length ≤ 60
        · rw [decide_eq_false (by omega)]
          exact iteF (hY ⟨h1, h2, h3⟩)
        · rw [decide_eq_true (by omega)]
          exact iteT (msg2 fun z => h3 z.2.2)
      · rw [decide_eq_false h2]
        exact iteT (msg1 fun z => h2 z.2.1)
    · rw [decide_eq_false h1]
      exact iteF ⟨_, rfl, iteT (msg1 fun z => h1 z.1)⟩
end
end Mp
/-! ## P2 -/
set_option Elab.async false
set_option linter.all false
set_option maxRecDepth 100000
set_option maxHeartbeats 4000000
namespace Mp
open PySem PySem.Spec PyProof.Rows L2
/-! ### ways in the heap -/
def tv (w : Way) : List V := [.int w.1, .int w.2.1, .int w.2.2]
def Tups (H : Hp) (ts : List Addr) (ws : List Way) : Prop := ts.length = ws.length ∧ ∀ (i : Nat) (t : Addr) (w : Way), ts[i]? = some t → ws[i]? = some w → H t = some (.tup (tv w))
def WList (H : Hp) (a : Addr) (ts : List Addr) (ws : List Way) : Prop := H a = some (.lst (ts.map V.ref)) ∧ Tups H ts ws
theorem Tups.at {H : Hp} {ts : List Addr} {ws : List Way} (T : Tups H ts ws) {i : Nat} {x : V} (h : (ts.map V.ref)[i]? = some x) : ∃ t w, x = .ref t ∧ ts[i]? = some t ∧ ws[i]? = some w ∧ w ∈ ws ∧ H t = some (.tup (tv w)) := by
  rw [List.getElem?_map] at h
  cases e : ts[i]? with
  | none => rw [e] at h; cases h
  | some t =>
    rw [e] at h
    have hi := (List.getElem?_eq_some_iff.mp e).1
    have hl : i < ws.length := by have := T.1; omega
    obtain ⟨w, hw⟩ : ∃ w, ws[i]? = some w := ⟨_, List.getElem?_eq_getElem hl⟩
    exact ⟨t, w, (Option.some.inj h).symm, rfl, hw, List.mem_of_getElem? hw, T.2 i t w e hw⟩
theorem Tups.same {H H' : Hp} {ts : List Addr} {ws : List Way} (T : Tups H ts ws) (s : ∀ b xs, H b = some (.tup xs) → H' b = some (.tup xs)) : Tups H' ts ws := ⟨T.1, fun i t w a b => s _ _ (T.2 i t w a b)⟩
theorem same_tups {H H' : Hp} (s : Same H H') : ∀ b xs, H b = some (.tup xs) → H' b = some (.tup xs) := fun b xs e => s b _ e
theorem mem_upto {α : Type} {l : List α} {n : Nat} {x : α} (h : x ∈ l.take (n + 1)) {y : α} (hy : l[n]? = some y) : x ∈ l.take n ∨ x = y := by
  rw [List.take_add_one, hy] at h
  rcases List.mem_append.mp h with h | h
  · exact .inl h
  · exact .inr (by simpa using h)
section
variable {P : Program} {w : World} {K : PySem.W.Frag} {mg : Str → Option Value} {base : Heap}
/-! ### _refuse_ways -/
def spRefWays (CM CD : Addr) : Sp := fun vs H Q E => ∃ (m : Int) (a : Addr) (ts : List Addr) (ws : List Way), vs = [.int m, .ref a] ∧ WList H a ts ws ∧
  ((¬ ∀ w ∈ ws, EndsOk m w) → E (.ref CM) none H) ∧ ((∀ w ∈ ws, EndsOk m w) → (¬ ∀ w ∈ ws, DelayOk w) → E (.ref CD) none H) ∧ ((∀ w ∈ ws, EndsOk m w) → (∀ w ∈ ws, DelayOk w) → Q .non H)
theorem scRW : FnScope ["many", "ways", "one", "other", "_", "delay"] ["many", "ways"] (defScope sRefWays) := ⟨rfl, rfl, rfl, by decide +kernel, rfl, by decide +kernel, by decide +kernel⟩
theorem ok_refways {f fM CM CD : Addr} {fd fdM : FuncData} (F : Fun K "_refuse_ways" "_refuse_ways" sRefWays f fd) (FM : Fun K "_refuse_meeting" "_refuse_meeting" sRefMeet fM fdM) (TM : ErrT K mg "NoMeeting" CM) (TD : ErrT K mg "BadDelay" CD)
    (gM : mg "_refuse_meeting" = some (.ref fM)) (bM : Binds K fdM ["many", "meeting"] []) {t1 : Tok} (g1 : mg "MOST_DELAY" = some (.int 9999 t1)) : FnOk P w K mg base (L2N.CX P w) 2 f fd ["many", "ways"] (spRefWays CM CD) := by
  have GM : FnOk P w K mg base (L2N.CX P w) 1 fM fdM ["many", "meeting"] (spRefMeet CM) := ok_refmeet FM TM
  refine Fun.okN F scRW (fun vs H Q E h => ?_) (fun cdv A outer s H vs Q E hr h => ?_)
  · obtain ⟨m, a, ts, ws, rfl, _⟩ := h
    rfl
  · obtain ⟨m, a, ts, ws, rfl, ⟨ha, hT⟩, hM, hD, hQ⟩ := h
    have hr1 : Room 1 _ := hr
    refine ⟨_, pss_cons (ps_for (passes_of rfl) rfl (pi_list (pv 1)) (pg_tup rfl (pgs_cons (pg_name (i := 2) scRW.nd rfl (.inl rfl)) (pgs_cons (pg_name (i := 3) scRW.nd rfl (.inl rfl)) (pgs_cons (pg_name (i := 4) scRW.nd rfl (.inl rfl)) pgs_nil))))
        (pss_cons (ps_expr (pe_call GM hr1 rfl gM FM.kp bM .nil (L2N.passes_call (L2N.takes_of rfl rfl rfl rfl) fun _ _ _ _ h => h) (pa_cons (pv 0) (pa_cons (pv 2) pa_nil))))
          (pss_one (ps_expr (pe_call GM hr1 rfl gM FM.kp bM .nil (L2N.passes_call (L2N.takes_of rfl rfl rfl rfl) fun _ _ _ _ h => h) (pa_cons (pv 0) (pa_cons (pv 3) pa_nil)))))))
      (pss_one (ps_for (passes_of rfl) rfl (pi_list (pv 1)) (pg_tup rfl (pgs_cons (pg_name (i := 4) scRW.nd rfl (.inl rfl)) (pgs_cons (pg_name (i := 4) scRW.nd rfl (.inl rfl)) (pgs_cons (pg_name (i := 5) scRW.nd rfl (.inl rfl)) pgs_nil))))
        (pss_one (ps_if (pt_not (pt_chain op_le op_le pe_int (pv 5) (pe_glob (v := .int 9999) rfl g1 ⟨_, rfl⟩))) (pss_one (L2N.ps_raise rfl (L2N.takes_of rfl rfl rfl rfl) (pmk_own1N PySem.F.excBase_ValueError TD.q TD.g TD.kp TD.r rfl
        (pe_joined (.cons pe_str (.cons (pe_fmt (pe_glob (v := .int 9999) rfl g1 ⟨_, rfl⟩)) .nil)))))) pss_nil)))), ?_⟩
    -- for one, other, _ in ways
    refine ⟨_, rfl, a, rfl, ⟨_, SqL.of ha⟩, for_list (K := K) (a := a) (xs := ts.map V.ref) (fun i σ H' => H' = H ∧ (∃ x y z, σ = [some (.int m), some (.ref a), x, y, z, none]) ∧ ∀ w ∈ ws.take i, EndsOk m w)
      ⟨rfl, ⟨none, none, none, rfl⟩, fun w hw => by simp at hw⟩ (fun i σ H' _ ⟨e, _, _⟩ => by rw [e]; exact SqL.of ha) ?_ ?_⟩
    · rintro i x σ H' hi ⟨rfl, ⟨x0, y0, z0, rfl⟩, hb⟩
      obtain ⟨t, w, rfl, _, hw, hmem, ht⟩ := hT.at hi
      refine ⟨t, _, rfl, SqT.of ht, rfl, _, _, rfl, _, _, rfl, _, _, rfl, rfl, ?_⟩
      refine ⟨_, rfl, _, rfl, _, _, rfl, fun h1 => ?_, fun h1 => hM fun z => h1 (z w hmem).1⟩
      refine ⟨_, rfl, _, rfl, _, _, rfl, fun h2 => ⟨rfl, ⟨_, _, _, rfl⟩, fun v hv => ?_⟩, fun h2 => hM fun z => h2 (z w hmem).2⟩
      rcases mem_upto hv hw with h | h
      · exact hb v h
      · subst h
        exact ⟨h1, h2⟩
    · rintro σ H' ⟨eH, ⟨x0, y0, z0, rfl⟩, hb⟩
      subst eH
      have hE : ∀ w ∈ ws, EndsOk m w := by
        rw [List.length_map, hT.1, List.take_length] at hb
        exact hb
      refine ⟨_, rfl, a, rfl, ⟨_, SqL.of ha⟩, for_list (K := K) (a := a) (xs := ts.map V.ref) (fun i σ H'' => H'' = H' ∧ (∃ x y z u, σ = [some (.int m), some (.ref a), x, y, z, u]) ∧ ∀ w ∈ ws.take i, DelayOk w)
        ⟨rfl, ⟨_, _, _, _, rfl⟩, fun w hw => by simp at hw⟩ (fun i σ H' _ ⟨e, _, _⟩ => by rw [e]; exact SqL.of ha) ?_ ?_⟩
      · rintro i x σ H' hi ⟨rfl, ⟨x1, y1, z1, u1, rfl⟩, hb2⟩
        obtain ⟨t, w, rfl, _, hw, hmem, ht⟩ := hT.at hi
        refine ⟨t, _, rfl, SqT.of ht, rfl, _, _, rfl, _, _, rfl, _, _, rfl, rfl, ?_⟩
        have bad : ¬ DelayOk w → tJs [tC (.str "a delay is 0 to "), tFmt (tC (.int 9999))] Str.empty [some (.int m), some (.ref a), x1, y1, some (.int w.2.1), some (.int w.2.2)] H' (fun out H1 => E (.ref CD) none H1) := fun c =>
          ⟨_, rfl, by decide +kernel, .inr ⟨9999, rfl, by decide, _, rfl, by decide +kernel, hD hE fun z => c (z w hmem)⟩⟩
        have good : DelayOk w → ∀ v ∈ ws.take (i + 1), DelayOk v := fun c v hv => by
          rcases mem_upto hv hw with h | h
          · exact hb2 v h
          · subst h; exact c
        refine ⟨_, rfl, _, _, rfl, rfl, _, rfl, ?_⟩
        by_cases h1 : 0 ≤ w.2.2
        · rw [decide_eq_true h1]
          refine iteT ⟨_, _, rfl, rfl, _, rfl, ?_⟩
          by_cases h2 : w.2.2 ≤ 9999
          · rw [decide_eq_true h2]
            exact iteF ⟨rfl, ⟨_, _, _, _, rfl⟩, good ⟨h1, h2⟩⟩
          · rw [decide_eq_false h2]
            exact iteT (bad fun z => h2 z.2)
        · rw [decide_eq_false h1]
          exact iteF ⟨_, rfl, iteT (bad fun z => h1 z.1)⟩
      · rintro σ H' ⟨rfl, _, hb2⟩
        rw [List.length_map, hT.1, List.take_length] at hb2
        exact hQ hE hb2
end
end Mp
/-! ## P3 -/
set_option Elab.async false
set_option linter.all false
set_option maxRecDepth 100000
set_option maxHeartbeats 4000000
namespace Mp
open PySem PySem.Spec PyProof.Rows L2
theorem any_int (b : Int) (F : List Int) : inV (.int b) (F.map V.int) = decide (b ∈ F) := by
  unfold inV
  induction F with
  | nil => simp
  | cons x r ih =>
    rw [List.map_cons, List.any_cons, ih]
    by_cases e : x = b
    · subst e; simp [eqV]
    · have e' : ¬ b = x := fun z => e z.symm
      simp [eqV, e, e']
theorem flat_ints (F : List Int) : (F.map V.int).all flatV = true := by
  induction F with
  | nil => rfl
  | cons x r ih => rw [List.map_cons, List.all_cons, ih]; rfl
theorem last_int {l : List Int} (h : l ≠ []) : ∃ (z : Int) (r : List Int), l = r ++ [z] := ⟨l.getLast h, l.dropLast, (List.dropLast_concat_getLast h).symm⟩
section
variable {P : Program} {w : World} {K : PySem.W.Frag} {mg : Str → Option Value} {base : Heap}
/-! ### _reached -/
def spReached : Sp := fun vs H Q _ => ∃ (a : Addr) (st m : Int) (ts : List Addr) (ws : List Way), vs = [.ref a, .int st] ∧ WList H a ts ws ∧ m ≤ 12 ∧ (∀ w ∈ ws, EndsOk m w) ∧
  ∀ (p : Addr) (F : List Int) (H' : Hp), Same H H' → H' p = some (.lst (F.map V.int)) → F.Nodup → (∀ x ∈ F, Go ws st x) → (∀ x, Go ws st x → x ∈ F) → Q (.ref p) H'
theorem scRe : FnScope ["ways", "start", "found", "waiting", "at", "one", "other", "_"] ["ways", "start"] (defScope sReached) := ⟨rfl, rfl, rfl, by decide +kernel, rfl, by decide +kernel, by decide +kernel⟩
theorem ok_reached {f : Addr} {fd : FuncData} (F : Fun K "_reached" "_reached" sReached f fd) : FnOk P w K mg base CX0 1 f fd ["ways", "start"] spReached := by
  refine F.ok scRe (fun vs H Q E h => ?_) (fun cdv A outer s H vs Q E hr h => ?_)
  · obtain ⟨a, st, m, ts, ws, rfl, _⟩ := h
    rfl
  · obtain ⟨a, st, m, ts, ws, rfl, ⟨ha, hT⟩, hm, hE, hQ⟩ := h
    refine ⟨_, pss_cons (ps_set (i := 2) scRe.nd rfl (.inl rfl) (pe_lst pa_nil))
      (pss_cons (ps_set (i := 3) scRe.nd rfl (.inl rfl) (pe_lst (pa_cons (pv 1) pa_nil)))
      (pss_cons (ps_while PassesOwn.never (pt_truth (pv 3) (by intro _; rfl))
        (pss_cons (ps_set (i := 4) scRe.nd rfl (.inl rfl) (pe_bm0 PySem.F.plainAttrs_list PySem.F.slot_list_pop PySem.F.type_list_pop mt_pop (pv 3)))
        (pss_one (ps_for PassesOwn.never rfl (pi_list (pv 0)) (pg_tup rfl (pgs_cons (pg_name (i := 5) scRe.nd rfl (.inl rfl)) (pgs_cons (pg_name (i := 6) scRe.nd rfl (.inl rfl)) (pgs_cons (pg_name (i := 7) scRe.nd rfl (.inl rfl)) pgs_nil))))
          (pss_one (ps_if (PW.pt (pw_and (pt_cmpR op_eq (pv 5) (pv 4) (nomark _)) (pw_and1 (pt_cmpR op_notIn_seq (pv 6) (pv 2) (by rfl)))))
            (pss_cons (ps_expr (pe_bm PySem.F.plainAttrs_list PySem.F.slot_list_append PySem.F.type_list_append mt_append (pv 2) (pa_cons (pv 6) pa_nil)))
              (pss_one (ps_expr (pe_bm PySem.F.plainAttrs_list PySem.F.slot_list_append PySem.F.type_list_append mt_append (pv 3) (pa_cons (pv 6) pa_nil))))) pss_nil))))))
      (pss_one (ps_ret (pv 2))))), ?_⟩
    -- found = []; waiting = [start]
    refine ⟨Nat.zero_le _, fun pf nf => ⟨_, rfl, (by show 1 ≤ sizeLine; decide), fun pw nw => ?_⟩⟩
    have npf : H pf = none := nf
    have nwf : pw ≠ pf := fun z => by rw [z, upd_same] at nw; cases nw
    have npw : H pw = none := by rw [upd_ne nwf] at nw; exact nw
    have apf : a ≠ pf := ne_of_none ha npf
    have apw : a ≠ pw := ne_of_none ha npw
    have le12 : ∀ F : List Int, F.Nodup → (∀ x ∈ F, Go ws st x) → F.length ≤ 12 := fun F nd hg => nodup_le 12 F nd fun x hx => by
      have := (hg x hx).ends hE
      omega
    -- while waiting
    refine ⟨fun n σ H' => ∃ (F Wt : List Int) (x y z u : Option V), σ = [some (.ref a), some (.int st), some (.ref pf), some (.ref pw), x, y, z, u] ∧ H' pf = some (.lst (F.map V.int)) ∧ H' pw = some (.lst (Wt.map V.int)) ∧ Same H H' ∧ F.Nodup ∧ (∀ x ∈ F, Go ws st x) ∧ n ≤ 25 ∧
        (∀ x ∈ Wt, x = st ∨ x ∈ F) ∧ (∀ b, (b = st ∨ b ∈ F) → b ∈ Wt ∨ ∀ w ∈ ws, w.1 = b → w.2.1 ∈ F) ∧ n = 2 * (12 - F.length) + Wt.length, ⟨_, [], [st], none, none, none, none, rfl, ?_, ?_, ?_, List.nodup_nil, ?_, ?_, ?_, ?_, rfl⟩, ?_⟩
    · rw [upd_ne nwf.symm, upd_same]; rfl
    · exact upd_same
    · intro b o e
      rw [upd_ne (ne_of_none e npw), upd_ne (ne_of_none e npf)]
      exact e
    · intro x hx; cases hx
    · simp
    · intro x hx; exact .inl (by simpa using hx)
    · intro b hb
      rcases hb with e | e
      · exact .inl (by simp [e])
      · cases e
    · rintro n σ H' ⟨F, Wt, x0, y0, z0, u0, rfl, hF, hW, sm, nd, hg, hwl, hwt, hcl, hn⟩
      refine ⟨_, rfl, _, .inl ⟨_, SqL.of hW, rfl⟩, ?_⟩
      cases hWe : Wt with
      | nil =>
        refine iteF ?_
        refine ⟨_, rfl, hQ pf F H' sm hF nd hg fun x gx => go_closed (fun w hw e => ?_) (fun w hw e => ?_) gx⟩
        · rcases hcl st (.inl rfl) with h | h
          · rw [hWe] at h; cases h
          · exact h w hw e
        · rcases hcl w.1 (.inr e) with h | h
          · rw [hWe] at h; cases h
          · exact h w hw rfl
      | cons w0 r0 =>
        refine iteT ?_
        obtain ⟨at_, Wr, eW⟩ := last_int (l := Wt) (by rw [hWe]; exact List.cons_ne_nil _ _)
        have eM : Wt.map V.int = Wr.map V.int ++ [V.int at_] := by rw [eW, List.map_append]; rfl
        have hlen : Wt.length = Wr.length + 1 := by rw [eW]; simp
        have hat : at_ = st ∨ at_ ∈ F := hwt at_ (by rw [eW]; simp)
        refine ⟨fun σ' H2 => ∃ m', m' < n ∧ _, fun σ' H2 h => h, ?_⟩
        -- at = waiting.pop()
        refine ⟨_, rfl, .inl ⟨rfl, _, SqL.of hW⟩, _, _, .int at_, rfl, rfl, hW, ?_, ?_⟩
        · rw [eM]; simp
        have hW2 : (Wt.map V.int).dropLast = Wr.map V.int := by rw [eM, List.dropLast_concat]
        rw [hW2]
        refine ⟨_, rfl, a, rfl, ⟨_, SqL.of (by rw [upd_ne apw]; exact sm _ _ ha)⟩, for_list (K := K) (a := a) (xs := ts.map V.ref) (fun i σ H2 => ∃ (F2 W2 : List Int) (y z u : Option V), σ = [some (.ref a), some (.int st), some (.ref pf), some (.ref pw), some (.int at_), y, z, u] ∧
            H2 pf = some (.lst (F2.map V.int)) ∧ H2 pw = some (.lst (W2.map V.int)) ∧ Same H H2 ∧ F2.Nodup ∧ (∀ x ∈ F2, Go ws st x) ∧ (at_ = st ∨ at_ ∈ F2) ∧ (∀ x ∈ W2, x = st ∨ x ∈ F2) ∧
            (∀ b, (b = st ∨ b ∈ F2) → b ∈ W2 ∨ b = at_ ∨ ∀ w ∈ ws, w.1 = b → w.2.1 ∈ F2) ∧ (∀ w ∈ ws.take i, w.1 = at_ → w.2.1 ∈ F2) ∧ 2 * (12 - F2.length) + W2.length < n)
          ⟨F, Wr, _, _, _, rfl, ?_, upd_same, ?_, nd, hg, hat, ?_, ?_, ?_, ?_⟩ (fun i σ H2 _ ⟨_, _, _, _, _, _, _, _, s2, _⟩ => SqL.of (s2 _ _ ha)) ?_ ?_⟩
        · rw [upd_ne nwf.symm]; exact hF
        · intro b o e
          rw [upd_ne (ne_of_none e npw)]
          exact sm b o e
        · intro x hx; exact hwt x (by rw [eW]; exact List.mem_append_left _ hx)
        · intro b hb
          rcases hcl b hb with h | h
          · rw [eW] at h
            rcases List.mem_append.mp h with h | h
            · exact .inl h
            · exact .inr (.inl (by simpa using h))
          · exact .inr (.inr h)
        · intro w hw; simp at hw
        · omega
        · -- a turn
          rintro i x σ H2 hi ⟨F2, W2, y, z, u, rfl, h1, h2, s2, nd2, hg2, hat2, hwt2, hcl2, htk, hms⟩
          obtain ⟨t, w, rfl, _, hw, hmem, ht⟩ := hT.at hi
          refine ⟨t, _, rfl, SqT.of (s2 _ _ ht), rfl, _, _, rfl, _, _, rfl, _, _, rfl, rfl, ?_⟩
          refine ⟨_, rfl, _, rfl, rfl, _, rfl, ?_⟩
          have skip : (w.1 = at_ → w.2.1 ∈ F2) → ∀ v ∈ ws.take (i + 1), v.1 = at_ → v.2.1 ∈ F2 := fun c v hv e => by
            rcases mem_upto hv hw with h | h
            · exact htk v h e
            · subst h; exact c e
          by_cases e1 : w.1 = at_
          · rw [decide_eq_true (by rw [e1])]
            refine iteT ?_
            refine ⟨_, rfl, _, rfl, pf, _, rfl, .inl (SqL.of h1), rfl, flat_ints F2, _, rfl, ?_⟩
            rw [if_pos rfl, any_int]
            by_cases e2 : w.2.1 ∈ F2
            · rw [decide_eq_true e2]
              exact iteF ⟨F2, W2, _, _, _, rfl, h1, h2, s2, nd2, hg2, hat2, hwt2, hcl2, skip fun _ => e2, hms⟩
            · rw [decide_eq_false e2]
              refine iteT ?_
              have l12 := le12 F2 nd2 hg2
              have gnew : Go ws st w.2.1 := by
                rcases hat2 with e | e
                · rw [← e, ← e1]; exact .one hmem
                · exact .more (by rw [e1]; exact hg2 _ e) hmem
              have nd3 : (F2 ++ [w.2.1]).Nodup := by
                rw [List.nodup_append]
                exact ⟨nd2, by simp, fun x hx y hy => by
                  have : y = w.2.1 := by simpa using hy
                  subst this
                  exact fun z => e2 (z ▸ hx)⟩
              have hg3 : ∀ x ∈ F2 ++ [w.2.1], Go ws st x := fun x hx => by
                rcases List.mem_append.mp hx with h | h
                · exact hg2 x h
                · have : x = w.2.1 := by simpa using h
                  subst this; exact gnew
              have l12' := le12 _ nd3 hg3
              have l3 : (F2 ++ [w.2.1]).length = F2.length + 1 := by simp
              have lw3 : (W2 ++ [w.2.1]).length = W2.length + 1 := by simp
              refine ⟨_, rfl, .inl ⟨rfl, _, SqL.of h1⟩, _, rfl, pf, _, _, rfl, rfl, h1, (by rw [List.length_map]; exact small1000 (by omega)), ?_⟩
              have h2' : (upd H2 pf (.lst (F2.map V.int ++ [V.int w.2.1]))) pw = some (.lst (W2.map V.int)) := by rw [upd_ne nwf]; exact h2
              refine ⟨_, rfl, .inl ⟨rfl, _, SqL.of h2'⟩, _, rfl, pw, _, _, rfl, rfl, h2', (by rw [List.length_map]; exact small1000 (by omega)), ?_⟩
              refine ⟨F2 ++ [w.2.1], W2 ++ [w.2.1], _, _, _, rfl, ?_, ?_, ?_, nd3, hg3, ?_, ?_, ?_, ?_, ?_⟩
              · rw [upd_ne nwf.symm, upd_same, List.map_append]; rfl
              · rw [upd_same, List.map_append]; rfl
              · intro b o e
                rw [upd_ne (ne_of_none e npw), upd_ne (ne_of_none e npf)]
                exact s2 b o e
              · exact hat2.imp id (List.mem_append_left _)
              · intro x hx
                rcases List.mem_append.mp hx with h | h
                · exact (hwt2 x h).imp id (List.mem_append_left _)
                · exact .inr (List.mem_append_right _ h)
              · intro b hb
                by_cases hb2 : b = st ∨ b ∈ F2
                · rcases hcl2 b hb2 with h | h | h
                  · exact .inl (List.mem_append_left _ h)
                  · exact .inr (.inl h)
                  · exact .inr (.inr fun v hv e => List.mem_append_left _ (h v hv e))
                · refine .inl (List.mem_append_right _ ?_)
                  rcases hb with h | h
                  · exact absurd (.inl h) hb2
                  · rcases List.mem_append.mp h with h | h
                    · exact absurd (.inr h) hb2
                    · exact h
              · intro v hv e
                rcases mem_upto hv hw with h | h
                · exact List.mem_append_left _ (htk v h e)
                · subst h; exact List.mem_append_right _ (by simp)
              · omega
          · rw [decide_eq_false (fun z => e1 (V.int.inj z))]
            exact iteF ⟨F2, W2, _, _, _, rfl, h1, h2, s2, nd2, hg2, hat2, hwt2, hcl2, skip fun e => absurd e e1, hms⟩
        · -- behind the ways
          rintro σ H2 ⟨F2, W2, y, z, u, rfl, h1, h2, s2, nd2, hg2, hat2, hwt2, hcl2, htk, hms⟩
          rw [List.length_map, hT.1, List.take_length] at htk
          have l12 := le12 F2 nd2 hg2
          refine ⟨_, hms, F2, W2, _, _, _, _, rfl, h1, h2, s2, nd2, hg2, by omega, hwt2, fun b hb => ?_, rfl⟩
          rcases hcl2 b hb with h | h | h
          · exact .inl h
          · exact .inr (by rw [h]; exact htk)
          · exact .inr h
end
end Mp
/-! ## P4 -/
set_option Elab.async false
set_option linter.all false
set_option maxRecDepth 100000
set_option maxHeartbeats 4000000
namespace Mp
open PySem PySem.Spec PyProof.Rows L2
section
variable {P : Program} {w : World} {K : PySem.W.Frag} {mg : Str → Option Value} {base : Heap}
/-! ### _refuse_apart -/
def spRefApart (CA : Addr) : Sp := fun vs H Q E => ∃ (m : Int) (a : Addr) (ts : List Addr) (ws : List Way), vs = [.int m, .ref a] ∧ WList H a ts ws ∧ 1 ≤ m ∧ m ≤ 12 ∧ (∀ w ∈ ws, EndsOk m w) ∧
  (¬ Piece m ws → ∀ H', Same H H' → E (.ref CA) none H') ∧ (Piece m ws → ∀ H', Same H H' → Q .non H')
theorem scRA : FnScope ["many", "ways", "start"] ["many", "ways"] (defScope sRefApart) := ⟨rfl, rfl, rfl, by decide +kernel, rfl, by decide +kernel, by decide +kernel⟩
theorem ok_refapart {f fR CA : Addr} {fd fdR : FuncData} (F : Fun K "_refuse_apart" "_refuse_apart" sRefApart f fd) (FR : Fun K "_reached" "_reached" sReached fR fdR) (TA : ErrT K mg "Apart" CA) (Z : Names0 mg)
    (gR : mg "_reached" = some (.ref fR)) (bR : Binds K fdR ["ways", "start"] []) : FnOk P w K mg base (L2N.CX P w) 2 f fd ["many", "ways"] (spRefApart CA) := by
  have GR : FnOk P w K mg base CX0 1 fR fdR ["ways", "start"] spReached := ok_reached FR
  refine Fun.okN F scRA (fun vs H Q E h => ?_) (fun cdv A outer s H vs Q E hr h => ?_)
  · obtain ⟨m, a, ts, ws, rfl, _⟩ := h
    rfl
  · obtain ⟨m, a, ts, ws, rfl, ⟨ha, hT⟩, m1, m12, hE, hN, hY⟩ := h
    have hr1 : Room 1 _ := hr
    refine ⟨_, pss_one (ps_for (passes_of rfl) rfl (pi_range1 rfl Z.range (pa_cons (pv 0) pa_nil)) (pg_name (i := 2) scRA.nd rfl (.inl rfl))
      (pss_one (ps_if (pt_cmpR op_lt (pe_callB call_len_seq (by rfl) Z.len PySem.boot_len (pa_cons (pe_call GR hr1 rfl gR FR.kp bR .nil pass0 (pa_cons (pv 1) (pa_cons (pv 2) pa_nil))) pa_nil)) (pv 0) (nomark _))
        (pss_one (L2N.ps_raise rfl (L2N.takes_of rfl rfl rfl rfl) (L2N.pmk_own PySem.F.excBase_ValueError TA.q TA.g TA.kp TA.r rfl))) pss_nil))), ?_⟩
    refine ⟨_, rfl, m, rfl, by omega, by omega, for_range (lo := 0) (n := m.toNat) (fun i σ H' => Same H H' ∧ (∃ x, σ = [some (.int m), some (.ref a), x]) ∧ ∀ s t : Int, 0 ≤ s → s < i → 0 ≤ t → t < m → Go ws s t)
      ⟨Same.refl H, ⟨_, rfl⟩, fun s t h0 h1 => by omega⟩ ?_ ?_⟩
    · rintro i σ H' hi ⟨sm, ⟨x, rfl⟩, hg⟩
      refine ⟨_, rfl, _, rfl, a, _, m, ts, ws, rfl, ⟨sm _ _ ha, hT.same (same_tups sm)⟩, m12, hE, fun p F H2 sm2 hp nd hF hC => ?_⟩
      refine ⟨p, _, rfl, .inl (SqL.of hp), _, rfl, _, _, rfl, rfl, _, rfl, ?_⟩
      have e0 : (0 : Int) + (i : Int) = i := by omega
      rw [e0] at hF hC
      rw [List.length_map]
      have inF : ∀ x ∈ F, 0 ≤ x ∧ x < (m.toNat : Int) := fun x hx => by
        have := (hF x hx).ends hE
        omega
      by_cases c : (F.length : Int) < m
      · rw [decide_eq_true c]
        refine iteT (hN (fun pc => ?_) H2 (sm.trans sm2))
        have := sub_len (seqI m.toNat) F (nodup_seqI _) fun x hx => by
          have q := mem_seqI.mp hx
          exact hC x (pc i x (by omega) (by omega) q.1 (by omega))
        rw [seqI_len] at this
        omega
      · rw [decide_eq_false c]
        refine iteF ⟨sm.trans sm2, ⟨_, rfl⟩, fun s t h0 h1 t0 t1 => ?_⟩
        by_cases hs : s < i
        · exact hg s t h0 hs t0 t1
        · have : s = i := by omega
          subst this
          exact hF t (nodup_full nd inF (by omega) t t0 (by omega))
    · rintro σ H' ⟨sm, _, hg⟩
      exact hY (fun s t h0 h1 t0 t1 => hg s t h0 (by omega) t0 t1) H' sm
end
end Mp
/-! ## P5 -/
set_option Elab.async false
set_option linter.all false
set_option maxRecDepth 100000
set_option maxHeartbeats 4000000
namespace Mp
open PySem PySem.Spec PyProof.Rows L2
/-! ### Web -/
def webF (m : Int) (b c : Addr) : List (Str × V) := putF "_ways" (.ref c) (putF "ways" (.ref b) (putF "many" (.int m) []))
theorem ne_mw : ¬ ("many" : Str) = "ways" := by decide +kernel
theorem ne_mu : ¬ ("many" : Str) = "_ways" := by decide +kernel
theorem ne_wu : ¬ ("ways" : Str) = "_ways" := by decide +kernel
theorem webF_many (m : Int) (b c : Addr) : (webF m b c).lookup ("many" : Str) = some (.int m) := by
  unfold webF
  rw [lookup_putF, if_neg ne_mu, lookup_putF, if_neg ne_mw, lookup_putF, if_pos rfl]
theorem webF_ways (m : Int) (b c : Addr) : (webF m b c).lookup ("ways" : Str) = some (.ref b) := by
  unfold webF
  rw [lookup_putF, if_neg ne_wu, lookup_putF, if_pos rfl]
theorem webF_own (m : Int) (b c : Addr) : (webF m b c).lookup ("_ways" : Str) = some (.ref c) := by
  unfold webF
  rw [lookup_putF, if_pos rfl]
theorem webF_no (m : Int) (b c : Addr) {x : Str} (h1 : ¬ x = "many") (h2 : ¬ x = "ways") (h3 : ¬ x = "_ways") : (webF m b c).lookup x = none := by
  unfold webF
  rw [lookup_putF, if_neg h3, lookup_putF, if_neg h2, lookup_putF, if_neg h1]
  rfl
def WebAt (C : Addr) (H : Hp) (p : Addr) (m : Int) (ts : List Addr) (ws : List Way) : Prop :=
  ∃ dx b c, H p = some (.ins C dx (webF m b c)) ∧ H b = some (.lst (ts.map V.ref)) ∧ H c = some (.tup (ts.map V.ref)) ∧ Tups H ts ws
structure WebT (K : PySem.W.Frag) (mg : Str → Option Value) (C : Addr) : Prop where
  cl : Cls K C
  nM : NoAttr K C "many"
  nW : NoAttr K C "ways"
  nU : NoAttr K C "_ways"
  mgC : mg "Web" = some (.ref C)
def spWeb (C CB CM CD CA : Addr) : Sp := fun vs H Q E => ∃ (p dx a : Addr) (m : Int) (ts : List Addr) (ws : List Way), vs = [.ref p, .int m, .ref a] ∧ H p = some (.ins C dx []) ∧ WList H a ts ws ∧
  (¬ (1 ≤ m ∧ m ≤ 12 ∧ ws.length ≤ 60) → E (.ref CB) none H) ∧
  (1 ≤ m ∧ m ≤ 12 ∧ ws.length ≤ 60 → (¬ ∀ w ∈ ws, EndsOk m w) → E (.ref CM) none H) ∧
  (1 ≤ m ∧ m ≤ 12 ∧ ws.length ≤ 60 → (∀ w ∈ ws, EndsOk m w) → (¬ ∀ w ∈ ws, DelayOk w) → E (.ref CD) none H) ∧
  (1 ≤ m ∧ m ≤ 12 ∧ ws.length ≤ 60 → (∀ w ∈ ws, EndsOk m w) → (∀ w ∈ ws, DelayOk w) → ¬ Piece m ws → ∀ H', Same H H' → E (.ref CA) none H') ∧
  (1 ≤ m ∧ m ≤ 12 ∧ ws.length ≤ 60 → (∀ w ∈ ws, EndsOk m w) → (∀ w ∈ ws, DelayOk w) → Piece m ws → ∀ H', (∀ b o, H b = some o → b ≠ p → H' b = some o) → WebAt C H' p m ts ws → Q .non H')
section
variable {P : Program} {w : World} {K : PySem.W.Frag} {mg : Str → Option Value} {base : Heap}
theorem scIn : FnScope ["self", "many", "ways"] ["self", "many", "ways"] (defScope sInit) := ⟨rfl, rfl, rfl, by decide +kernel, rfl, by decide +kernel, by decide +kernel⟩
theorem ok_web {f fB fM fW fA fR C CB CM CD CA : Addr} {fd fdB fdM fdW fdA fdR : FuncData} (F : Fun K "__init__" "Web.__init__" sInit f fd) (W : WebT K mg C) (Z : Names0 mg)
    (FB : Fun K "_refuse_counts" "_refuse_counts" sRefCnt fB fdB) (FM : Fun K "_refuse_meeting" "_refuse_meeting" sRefMeet fM fdM) (FW : Fun K "_refuse_ways" "_refuse_ways" sRefWays fW fdW) (FA : Fun K "_refuse_apart" "_refuse_apart" sRefApart fA fdA) (FR : Fun K "_reached" "_reached" sReached fR fdR)
    (TB : ErrT K mg "BadCount" CB) (TM : ErrT K mg "NoMeeting" CM) (TD : ErrT K mg "BadDelay" CD) (TA : ErrT K mg "Apart" CA)
    (gB : mg "_refuse_counts" = some (.ref fB)) (gM : mg "_refuse_meeting" = some (.ref fM)) (gW : mg "_refuse_ways" = some (.ref fW)) (gA : mg "_refuse_apart" = some (.ref fA)) (gR : mg "_reached" = some (.ref fR))
    (bB : Binds K fdB ["many", "ways"] []) (bM : Binds K fdM ["many", "meeting"] []) (bW : Binds K fdW ["many", "ways"] []) (bA : Binds K fdA ["many", "ways"] []) (bR : Binds K fdR ["ways", "start"] [])
    {t1 t2 t3 : Tok} (g1 : mg "MOST_MEETINGS" = some (.int 12 t1)) (g2 : mg "MOST_WAYS" = some (.int 60 t2)) (g3 : mg "MOST_DELAY" = some (.int 9999 t3)) :
    FnOk P w K mg base (L2N.CX P w) 3 f fd ["self", "many", "ways"] (spWeb C CB CM CD CA) := by
  have GB : FnOk P w K mg base (L2N.CX P w) 1 fB fdB ["many", "ways"] (spRefCnt CB) := ok_refcnt FB TB Z g1 g2
  have GW : FnOk P w K mg base (L2N.CX P w) 2 fW fdW ["many", "ways"] (spRefWays CM CD) := ok_refways FW FM TM TD gM bM g3
  have GA : FnOk P w K mg base (L2N.CX P w) 2 fA fdA ["many", "ways"] (spRefApart CA) := ok_refapart FA FR TA Z gR bR
  refine Fun.okN F scIn (fun vs H Q E h => ?_) (fun cdv A outer s H vs Q E hr h => ?_)
  · obtain ⟨p, dx, a, m, ts, ws, rfl, _⟩ := h
    rfl
  · obtain ⟨p, dx, a, m, ts, ws, rfl, hp, ⟨ha, hT⟩, h1, h2, h3, h4, h5⟩ := h
    have hr1 : Room 1 _ := hr.mono (by decide)
    have hr2 : Room 2 _ := hr
    refine ⟨_, pss_cons (ps_expr (pe_call GB hr1 rfl gB FB.kp bB .nil (L2N.passes_call (L2N.takes_of rfl rfl rfl rfl) fun _ _ _ _ h => h) (pa_cons (pv 1) (pa_cons (pv 2) pa_nil))))
      (pss_cons (ps_expr (pe_call GW hr2 rfl gW FW.kp bW .nil (L2N.passes_call (L2N.takes_of rfl rfl rfl rfl) fun _ _ _ _ h => h) (pa_cons (pv 1) (pa_cons (pv 2) pa_nil))))
      (pss_cons (ps_expr (pe_call GA hr2 rfl gA FA.kp bA .nil (L2N.passes_call (L2N.takes_of rfl rfl rfl rfl) fun _ _ _ _ h => h) (pa_cons (pv 1) (pa_cons (pv 2) pa_nil))))
      (pss_cons (ps_fld (pv 0) (pv 1) rfl)
      (pss_cons (ps_fld (pv 0) (pe_callTy call_list_of (by rfl) Z.list (by decide +kernel) (pa_cons (pv 2) pa_nil)) rfl)
      (pss_one (ps_fld (pv 0) (pe_callTy call_tuple_of (by rfl) Z.tuple (by decide +kernel) (pa_cons (pv 2) pa_nil)) rfl)))))), ?_⟩
    have ln : (ts.map V.ref).length = ws.length := by rw [List.length_map, hT.1]
    refine ⟨_, rfl, _, rfl, m, a, _, rfl, ha, fun cc => ?_, fun cc => h1 (by rw [← ln]; exact cc)⟩
    rw [ln] at cc
    refine ⟨_, rfl, _, rfl, m, a, ts, ws, rfl, ⟨ha, hT⟩, fun n => h2 cc n, fun e n => h3 cc e n, fun e d => ?_⟩
    refine ⟨_, rfl, _, rfl, m, a, ts, ws, rfl, ⟨ha, hT⟩, cc.1, cc.2.1, e, fun n H' sm => h4 cc e d n H' sm, fun pc H' sm => ?_⟩
    have hp' := sm _ _ hp
    have ha' := sm _ _ ha
    have apn : a ≠ p := ne_of ha hp (by intro z; cases z)
    -- self.many = many
    refine ⟨_, rfl, _, rfl, p, C, dx, _, rfl, hp', W.cl, W.nM, (by show 0 < 1000; decide), ?_⟩
    have ha2 : (upd H' p (.ins C dx (putF "many" (.int m) []))) a = some (.lst (ts.map V.ref)) := by rw [upd_ne apn]; exact ha'
    -- self.ways = list(ways)
    refine ⟨_, rfl, a, _, rfl, .inl (SqL.of ha2), fun b nb => ?_⟩
    have pb : p ≠ b := ne_of_none upd_same nb
    have nb' : H' b = none := by rw [upd_ne pb.symm] at nb; exact nb
    have ab : a ≠ b := ne_of_none ha' nb'
    refine ⟨_, rfl, p, C, dx, _, rfl, (by rw [upd_ne pb, upd_same]), W.cl, W.nW, (by show 1 < 1000; decide), ?_⟩
    have ha3 : (upd (upd (upd H' p (.ins C dx (putF "many" (.int m) []))) b (.lst (ts.map V.ref))) p (.ins C dx (putF "ways" (.ref b) (putF "many" (.int m) [])))) a = some (.lst (ts.map V.ref)) := by
      rw [upd_ne apn, upd_ne ab]; exact ha2
    -- self._ways = tuple(ways)
    refine ⟨_, rfl, a, _, rfl, .inl ⟨SqL.of ha3, fun c nc => ?_⟩⟩
    have pc' : p ≠ c := ne_of_none upd_same nc
    have nc1 : (upd (upd H' p (.ins C dx (putF "many" (.int m) []))) b (.lst (ts.map V.ref))) c = none := by rw [upd_ne pc'.symm] at nc; exact nc
    have bc : b ≠ c := ne_of_none upd_same nc1
    have nc' : H' c = none := by rw [upd_ne bc.symm, upd_ne pc'.symm] at nc1; exact nc1
    refine ⟨_, rfl, p, C, dx, _, rfl, (by rw [upd_ne pc', upd_same]), W.cl, W.nU, (by show 2 < 1000; decide), ?_⟩
    have keep : ∀ b' o, H b' = some o → b' ≠ p → (upd (upd (upd (upd (upd H' p (.ins C dx (putF "many" (.int m) []))) b (.lst (ts.map V.ref))) p (.ins C dx (putF "ways" (.ref b) (putF "many" (.int m) [])))) c (.tup (ts.map V.ref))) p (.ins C dx (webF m b c))) b' = some o := fun b' o e n => by
      have e' := sm _ _ e
      rw [upd_ne n, upd_ne (ne_of_none e' nc'), upd_ne n, upd_ne (ne_of_none e' nb'), upd_ne n]
      exact e'
    refine h5 cc e d pc _ keep ⟨dx, b, c, upd_same, ?_, ?_, hT.1, fun i t v x y => ?_⟩
    · rw [upd_ne pb.symm, upd_ne bc, upd_ne pb.symm, upd_same]
    · rw [upd_ne pc'.symm, upd_same]
    · have q := hT.2 i t v x y
      exact keep _ _ q (ne_of q hp (by intro z; cases z))
end
end Mp
/-! ## L1 -/
set_option Elab.async false
set_option linter.all false
set_option maxRecDepth 100000
set_option maxHeartbeats 4000000
namespace Mp
open PySem PySem.Spec PyProof.Rows L2
abbrev sCell : Stmt := top 20
abbrev sMixed : Stmt := top 21
abbrev sDelay : Stmt := top 22
abbrev sMany : Stmt := top 23
abbrev sWays : Stmt := top 24
abbrev sBent : Stmt := top 25
abbrev sMet : Stmt := top 26
abbrev sDue : Stmt := top 27
abbrev sWord : Stmt := top 28
abbrev sLaw : Stmt := top 29
section
variable {P : Program} {w : World} {K : PySem.W.Frag} {mg : Str → Option Value} {base : Heap}
/-! ### the law's draws: what they may be, whatever the script is -/
def spCell (K : PySem.W.Frag) : Sp := fun vs H Q _ => ∃ (a : Addr) (k : Int) (ns : List Int), vs = [.ref a, .int k] ∧ SqL K H a (ns.map V.int) ∧ 0 ≤ k ∧ ∀ z : Int, Q (.int z) H
theorem scCe : FnScope ["_law_script", "_law_k"] ["_law_script", "_law_k"] (defScope sCell) := ⟨rfl, rfl, rfl, by decide +kernel, rfl, by decide +kernel, by decide +kernel⟩
theorem ok_cell {f : Addr} {fd : FuncData} (F : Fun K "_law_cell_at" "_law_cell_at" sCell f fd) (Z : Names0 mg) : FnOk P w K mg base CX0 1 f fd ["_law_script", "_law_k"] (spCell K) := by
  refine F.ok scCe (fun vs H Q E h => ?_) (fun cdv A outer s H vs Q E hr h => ?_)
  · obtain ⟨a, k, ns, rfl, _⟩ := h
    rfl
  · obtain ⟨a, k, ns, rfl, hS, h0, hQ⟩ := h
    refine ⟨_, pss_cons (ps_if (pt_cmpR op_lt (pv 1) (pe_callB call_len_seq (by rfl) Z.len PySem.boot_len (pa_cons (pv 0) pa_nil)) (nomark _)) (pss_one (ps_ret (pe_ix ix_list (pv 0) (pv 1) (fun _ _ => rfl)))) pss_nil) (pss_one (ps_ret pe_int)), ?_⟩
    refine ⟨_, rfl, _, rfl, a, _, rfl, .inl hS, _, _, rfl, rfl, _, rfl, ?_⟩
    rw [List.length_map]
    by_cases c : k < (ns.length : Int)
    · rw [decide_eq_true c]
      refine iteT ?_
      obtain ⟨z, hz⟩ : ∃ z, ns[k.toNat]? = some z := ⟨_, List.getElem?_eq_getElem (by omega)⟩
      refine ⟨_, rfl, _, rfl, a, _, k, .int z, rfl, rfl, hS, ?_, hQ z⟩
      have e : k = ((k.toNat : Nat) : Int) := by omega
      rw [e]
      exact atI_nat (by rw [List.getElem?_map, hz]; rfl)
    · rw [decide_eq_false c]
      exact iteF (hQ 0)
def spMixed : Sp := fun vs H Q _ => ∃ c k : Int, vs = [.int c, .int k] ∧ ∀ z : Int, 0 ≤ z → Q (.int z) H
theorem scMi : FnScope ["_law_cell", "_law_k"] ["_law_cell", "_law_k"] (defScope sMixed) := ⟨rfl, rfl, rfl, by decide +kernel, rfl, by decide +kernel, by decide +kernel⟩
theorem ok_mixed {f : Addr} {fd : FuncData} (F : Fun K "_law_mixed" "_law_mixed" sMixed f fd) : FnOk P w K mg base CX0 1 f fd ["_law_cell", "_law_k"] spMixed := by
  refine F.ok scMi (fun vs H Q E h => ?_) (fun cdv A outer s H vs Q E hr h => ?_)
  · obtain ⟨c, k, rfl, _⟩ := h
    rfl
  · obtain ⟨c, k, rfl, hQ⟩ := h
    refine ⟨_, pss_one (ps_ret (pe_op op_mod (pe_op op_mul (pe_op op_add (pe_op op_add (pv 0) (pe_op op_mul pe_int (pv 1))) pe_int) pe_int) pe_int)), ?_⟩
    exact ⟨_, rfl, _, rfl, _, _, rfl, rfl, .inl ⟨by decide, by decide⟩, _, _, rfl, rfl, _, _, rfl, rfl, _, _, rfl, rfl, .inr ⟨by decide, by decide⟩, _, _, rfl, rfl, (by show (0 : Int) < 2147483647; decide), hQ _ (Int.emod_nonneg _ (by decide))⟩
def spDelay : Sp := fun vs H Q _ => ∃ n : Int, vs = [.int n] ∧ ∀ (d : Int) (H' : Hp), 0 ≤ d → d ≤ 9999 → Same H H' → Q (.int d) H'
theorem scDl : FnScope ["_law_number"] ["_law_number"] (defScope sDelay) := ⟨rfl, rfl, rfl, by decide +kernel, rfl, by decide +kernel, by decide +kernel⟩
theorem ok_delay {f : Addr} {fd : FuncData} (F : Fun K "_law_delay_by" "_law_delay_by" sDelay f fd) : FnOk P w K mg base CX0 1 f fd ["_law_number"] spDelay := by
  refine F.ok scDl (fun vs H Q E h => ?_) (fun cdv A outer s H vs Q E hr h => ?_)
  · obtain ⟨n, rfl, _⟩ := h
    rfl
  · obtain ⟨n, rfl, hQ⟩ := h
    refine ⟨_, pss_one (ps_ret (pe_ix ix_list (pe_lst (pa_cons (pe_op op_mod (pe_op op_fdiv (pv 0) pe_int) pe_int) (pa_cons (pe_op op_mod (pe_op op_fdiv (pv 0) pe_int) pe_int) (pa_cons (pe_op op_mod (pe_op op_fdiv (pv 0) pe_int) pe_int) pa_nil)))) (pe_op op_mod (pv 0) pe_int) (fun _ _ => rfl))), ?_⟩
    refine ⟨_, rfl, _, _, rfl, rfl, ⟨by decide, by decide⟩, _, _, rfl, rfl, (by show (0 : Int) < 5; decide), _, rfl, _, _, rfl, rfl, ⟨by decide, by decide⟩, _, _, rfl, rfl, (by show (0 : Int) < 100; decide), _, rfl, _, _, rfl, rfl, ⟨by decide, by decide⟩, _, _, rfl, rfl, (by show (0 : Int) < 10000; decide), (by show 3 ≤ sizeLine; decide), fun p hp => ?_⟩
    refine ⟨_, rfl, _, _, rfl, rfl, (by show (0 : Int) < 3; decide), p, [.int (n / 3 % 5), .int (n / 3 % 100), .int (n / 3 % 10000)], n % 3, ?_⟩
    have sm : Same H (upd H p (.lst [.int (n / 3 % 5), .int (n / 3 % 100), .int (n / 3 % 10000)])) := fun b o e => by rw [upd_ne (ne_of_none e hp)]; exact e
    have c3 : n % 3 = ((0 : Nat) : Int) ∨ n % 3 = ((1 : Nat) : Int) ∨ n % 3 = ((2 : Nat) : Int) := by omega
    rcases c3 with e | e | e
    · exact ⟨_, rfl, rfl, SqL.of upd_same, (by rw [e]; exact atI_nat rfl), hQ _ _ (by omega) (by omega) sm⟩
    · exact ⟨_, rfl, rfl, SqL.of upd_same, (by rw [e]; exact atI_nat rfl), hQ _ _ (by omega) (by omega) sm⟩
    · exact ⟨_, rfl, rfl, SqL.of upd_same, (by rw [e]; exact atI_nat rfl), hQ _ _ (by omega) (by omega) sm⟩
def spMany (K : PySem.W.Frag) : Sp := fun vs H Q _ => ∃ (a : Addr) (ns : List Int), vs = [.ref a] ∧ SqL K H a (ns.map V.int) ∧ ∀ m : Int, 1 ≤ m → m ≤ 12 → Q (.int m) H
theorem scMa : FnScope ["_law_script", "_law_cell"] ["_law_script"] (defScope sMany) := ⟨rfl, rfl, rfl, by decide +kernel, rfl, by decide +kernel, by decide +kernel⟩
theorem ok_many {f fC : Addr} {fd fdC : FuncData} (F : Fun K "_law_many" "_law_many" sMany f fd) (FC : Fun K "_law_cell_at" "_law_cell_at" sCell fC fdC) (Z : Names0 mg) (gC : mg "_law_cell_at" = some (.ref fC)) (bC : Binds K fdC ["_law_script", "_law_k"] []) :
    FnOk P w K mg base CX0 2 f fd ["_law_script"] (spMany K) := by
  have GC : FnOk P w K mg base CX0 1 fC fdC ["_law_script", "_law_k"] (spCell K) := ok_cell FC Z
  refine F.ok scMa (fun vs H Q E h => ?_) (fun cdv A outer s H vs Q E hr h => ?_)
  · obtain ⟨a, ns, rfl, _⟩ := h
    rfl
  · obtain ⟨a, ns, rfl, hS, hQ⟩ := h
    refine ⟨_, pss_cons (ps_set (i := 1) scMa.nd rfl (.inl rfl) (pe_call GC hr rfl gC FC.kp bC .nil pass0 (pa_cons (pv 0) (pa_cons pe_int pa_nil))))
      (pss_cons (ps_if (pt_cmpR op_eq (pe_op op_mod (pe_op op_fdiv (pv 1) pe_int) pe_int) pe_int (nomark _)) (pss_one (ps_ret (pe_op op_add pe_int (pe_op op_mod (pe_op op_fdiv (pv 1) pe_int) pe_int)))) pss_nil)
      (pss_one (ps_ret (pe_op op_add pe_int (pe_op op_mod (pv 1) pe_int))))), ?_⟩
    refine ⟨_, rfl, a, 0, ns, rfl, hS, (by decide), fun z => ?_⟩
    refine ⟨_, rfl, _, _, rfl, rfl, ⟨by decide, by decide⟩, _, _, rfl, rfl, (by show (0 : Int) < 8; decide), rfl, _, rfl, ?_⟩
    refine ite2 (fun _ => ?_) (fun _ => ?_)
    · exact ⟨_, rfl, _, _, rfl, rfl, ⟨by decide, by decide⟩, _, _, rfl, rfl, (by show (0 : Int) < 6; decide), _, _, rfl, rfl, hQ _ (by omega) (by omega)⟩
    · exact ⟨_, rfl, _, _, rfl, rfl, (by show (0 : Int) < 6; decide), _, _, rfl, rfl, hQ _ (by omega) (by omega)⟩
end
end Mp
/-! ## L2 -/
set_option Elab.async false
set_option linter.all false
set_option maxRecDepth 100000
set_option maxHeartbeats 4000000
namespace Mp
open PySem PySem.Spec PyProof.Rows L2 LamX
/-! ### values that are ways -/
def Tup3 (H : Hp) (v : V) : Prop := ∃ (t : Addr) (w : Way), v = .ref t ∧ H t = some (.tup (tv w))
theorem Tup3.same {H H' : Hp} {v : V} (h : Tup3 H v) (s : ∀ b xs, H b = some (.tup xs) → H' b = some (.tup xs)) : Tup3 H' v := by
  obtain ⟨t, w, e, h⟩ := h
  exact ⟨t, w, e, s _ _ h⟩
theorem tups_of {H : Hp} : ∀ {xs : List V}, (∀ v ∈ xs, Tup3 H v) → ∃ ts ws, xs = ts.map V.ref ∧ Tups H ts ws
  | [], _ => ⟨[], [], rfl, rfl, fun i t w h => by cases h⟩
  | v :: r, h => by
    obtain ⟨ts, ws, e, T⟩ := tups_of (xs := r) fun u hu => h u (List.mem_cons_of_mem _ hu)
    obtain ⟨t, w, e1, h1⟩ := h v List.mem_cons_self
    refine ⟨t :: ts, w :: ws, by rw [e1, e]; rfl, by simp [T.1], fun i t' w' h2 h3 => ?_⟩
    cases i with
    | zero =>
      cases h2
      cases h3
      exact h1
    | succ i => exact T.2 i t' w' h2 h3
theorem of_tups {H : Hp} {ts : List Addr} {ws : List Way} (T : Tups H ts ws) : ∀ v ∈ ts.map V.ref, Tup3 H v := fun v hv => by
  obtain ⟨i, hi⟩ := List.getElem?_of_mem hv
  obtain ⟨t, w, e, _, _, _, h⟩ := T.at hi
  exact ⟨t, w, e, h⟩
theorem cut_sub {xs : List V} {lo hi : Option Int} {v : V} (h : v ∈ cutV xs lo hi) : v ∈ xs := by
  unfold cutV at h
  exact List.mem_of_mem_drop (List.mem_of_mem_take h)
theorem cut_len {xs : List V} {i : Int} (h0 : 0 ≤ i) (h1 : i ≤ xs.length) : (cutV xs (some i) none).length + (cutV xs none (some i)).length = xs.length := by
  obtain ⟨k, rfl⟩ : ∃ k : Nat, i = k := ⟨i.toNat, by omega⟩
  unfold cutV
  rw [HT.sIx_nat, HT.sIx_none, HT.sIx_none, HT.sIx_nat]
  simp only [List.length_take, List.length_drop]
  omega
theorem same_new {H H' : Hp} {p : Addr} {o : HO} (s : Same H H') (hp : H' p = none) : Same H (upd H' p o) := fun b u e => by rw [upd_ne (ne_of_none (s b u e) hp)]; exact s b u e
theorem same_put {H H' : Hp} {p : Addr} {o : HO} (s : Same H H') (hp : H p = none) : Same H (upd H' p o) := fun b u e => by rw [upd_ne (ne_of_none e hp)]; exact s b u e
theorem Same.extN {H H' : Hp} (s : Same H H') : ExtN H H' := fun b o e _ => s b o e
theorem ord_at {ord : List Int} {i : Int} {n : Nat} (h : ord.length = n) (h0 : 0 ≤ i) (h1 : i < n) : ∃ v, atI (ord.map V.int) i = some (.int v) := by
  obtain ⟨k, rfl⟩ : ∃ k : Nat, i = k := ⟨i.toNat, by omega⟩
  have hk : k < ord.length := by omega
  exact ⟨ord[k], atI_nat (by rw [List.getElem?_map, List.getElem?_eq_getElem hk]; rfl)⟩
/-- as Fun.ok, where the def's code object is known -/
theorem Fun.okC {P : Program} {w : World} {K : PySem.W.Frag} {mg : Str → Option Value} {base : Heap} {x qual : Str} {st : Stmt} {f c : Addr} {fd : FuncData} {N ps : List Str} {k : Nat} {sp : Sp} (F : Fun K x qual st f fd) (hc : fd.code = .ref c) (S : FnScope N ps (defScope st)) (len : ∀ vs H Q E, sp vs H Q E → vs.length = ps.length)
    (hbody : ∀ (A : Around) (outer : List Env) (s : Shared) (H : Hp) (vs : List V) (Q : VK) (E : XK), Room k (A.deeper (envOfC qual (defScope st) s.heap.objs.size f (.ref c))) → sp vs H Q E →
      ∃ t, PSs (cxOf CX0 P w K mg base N qual (defScope st) f (.ref c) A outer s H E).nox (defBody st) t ∧ t { nx := fun _ H' => Q .non H', rt := Q } (L2.start N vs) H) : FnOk P w K mg base CX0 (k + 1) f fd ps sp := by
  obtain ⟨oc, od, kV, doc, pm, an, cdv, ct, osl, rfl, lk, hcd⟩ := F.ex
  have e : cdv = .ref c := hc
  subst e
  refine fn_of lk hcd S len fun A outer s H vs Q E hr hsp => ?_
  obtain ⟨t, h, q⟩ := hbody A outer s H vs Q E hr hsp
  exact ⟨t, h.nox, q⟩
theorem extN_seq {K : PySem.W.Frag} {H H' : Hp} {a : Addr} {xs : List V} (e : ExtN H H') (h : SqL K H a xs) : SqL K H' a xs := by
  rcases h with (h | ⟨o, h⟩) | h
  · exact .inl (.inl (e _ _ h (by intro ps z; cases z)))
  · exact .inl (.inr ⟨o, e _ _ h (by intro ps z; cases z)⟩)
  · exact .inr h
/-- a new way's tuple, put behind the list at pl -/
theorem grow {Ho H' Hd : Hp} {pl t : Addr} {xs : List V} {w : Way} (s0 : Same Ho H') (npl : Ho pl = none) (hL : H' pl = some (.lst xs)) (hx : ∀ v ∈ xs, Tup3 H' v) (sd : Same H' Hd) (nt : Hd t = none) :
    (upd Hd t (.tup (tv w))) pl = some (.lst xs) ∧ Same Ho (upd (upd Hd t (.tup (tv w))) pl (.lst (xs ++ [.ref t]))) ∧ (upd (upd Hd t (.tup (tv w))) pl (.lst (xs ++ [.ref t]))) pl = some (.lst (xs ++ [.ref t])) ∧
      ∀ v ∈ xs ++ [.ref t], Tup3 (upd (upd Hd t (.tup (tv w))) pl (.lst (xs ++ [.ref t]))) v := by
  have hL' := sd _ _ hL
  have tp : pl ≠ t := ne_of_none hL' nt
  refine ⟨by rw [upd_ne tp]; exact hL', same_put (same_new (s0.trans sd) nt) npl, upd_same, fun v hv => ?_⟩
  rcases List.mem_append.mp hv with h | h
  · refine (hx v h).same fun b ys e => ?_
    have e' := sd _ _ e
    rw [upd_ne (ne_of e' hL' (by intro z; cases z)), upd_ne (ne_of_none e' nt)]
    exact e'
  · have e : v = .ref t := by simpa using h
    exact ⟨t, w, e, by rw [upd_ne tp.symm, upd_same]⟩
def lamQ : Str := ("_law_ways" ++ ".<locals>." : Str) ++ "<lambda>"
structure Names1 (mg : Str → Option Value) : Prop extends Names0 mg where
  sorted : mg "sorted" = none
section
variable {P : Program} {w : World} {K : PySem.W.Frag} {mg : Str → Option Value} {base : Heap}
def spWays (K : PySem.W.Frag) (T : List (Addr × Str)) : Sp := fun vs H Q _ => ∃ (a : Addr) (ns : List Int) (m : Int), vs = [.ref a, .int m] ∧ SqL K H a (ns.map V.int) ∧ 1 ≤ m ∧ m ≤ 12 ∧ Tabs T H ∧
  ∀ (p : Addr) (xs : List V) (H' : Hp), ExtN H H' → Tabs T H' → H' p = some (.lst xs) → (∀ v ∈ xs, Tup3 H' v) → 1 ≤ xs.length → xs.length ≤ 40 → Q (.ref p) H'
theorem scWa : FnScope ["_law_script", "_law_many_here", "_law_order", "_law_ways_here", "_law_k", "_law_number", "_law_turn", "_law_cell"] ["_law_script", "_law_many_here"] (defScope sWays) := ⟨rfl, rfl, rfl, by decide +kernel, rfl, by decide +kernel, by decide +kernel⟩
theorem ok_ways {f fC fX fD c TP : Addr} {fd fdC fdX fdD : FuncData} (F : Fun K "_law_ways" "_law_ways" sWays f fd) (hc : fd.code = .ref c) (TB : TabB base mg c TP) (FC : Fun K "_law_cell_at" "_law_cell_at" sCell fC fdC) (FX : Fun K "_law_mixed" "_law_mixed" sMixed fX fdX) (FD : Fun K "_law_delay_by" "_law_delay_by" sDelay fD fdD) (Z : Names1 mg)
    (gC : mg "_law_cell_at" = some (.ref fC)) (gX : mg "_law_mixed" = some (.ref fX)) (gD : mg "_law_delay_by" = some (.ref fD)) (bC : Binds K fdC ["_law_script", "_law_k"] []) (bX : Binds K fdX ["_law_cell", "_law_k"] []) (bD : Binds K fdD ["_law_number"] []) :
    FnOk P w K mg base CX0 2 f fd ["_law_script", "_law_many_here"] (spWays K [(TP, lamQ)]) := by
  have GC : FnOk P w K mg base CX0 1 fC fdC ["_law_script", "_law_k"] (spCell K) := ok_cell FC Z.toNames0
  have GX : FnOk P w K mg base CX0 1 fX fdX ["_law_cell", "_law_k"] spMixed := ok_mixed FX
  have GD : FnOk P w K mg base CX0 1 fD fdD ["_law_number"] spDelay := ok_delay FD
  refine Fun.okC F hc scWa (fun vs H Q E h => ?_) (fun A outer s H vs Q E hr h => ?_)
  · obtain ⟨a, ns, m, rfl, _⟩ := h
    rfl
  · obtain ⟨a, ns, m, rfl, hS, m1, m12, hT, hQ⟩ := h
    refine ⟨_, pss_cons (ps_set (i := 7) scWa.nd rfl (.inr rfl) (pe_call GC hr rfl gC FC.kp bC .nil pass0 (pa_cons (pv 0) (pa_cons pe_int pa_nil))))
      (pss_cons (ps_set (i := 2) scWa.nd rfl (.inl rfl) (pe_sortedLam (T := [(TP, lamQ)]) (ic := 7) rfl rfl Z.sorted rfl Z.range TB rfl (by exact List.mem_singleton.mpr rfl) (fun p hp _ => by rw [List.mem_singleton.mp hp]; rfl) hr (pv 1) rfl rfl rfl (by decide +kernel) rfl rfl rfl rfl rfl (by decide +kernel) (by decide +kernel) (by decide +kernel) (by decide +kernel) (fun _ _ _ _ _ _ => rfl)))
      (pss_cons (ps_set (i := 3) scWa.nd rfl (.inl rfl) (pe_lst pa_nil))
      (pss_cons (ps_for PassesOwn.never rfl (pi_range1 rfl Z.range (pa_cons (pv 1) pa_nil)) (pg_name (i := 4) scWa.nd rfl (.inl rfl))
        (pss_cons (ps_set (i := 5) scWa.nd rfl (.inl rfl) (pe_call GX hr rfl gX FX.kp bX .nil pass0 (pa_cons (pe_call GC hr rfl gC FC.kp bC .nil pass0 (pa_cons (pv 0) (pa_cons pe_int pa_nil))) (pa_cons (pv 4) pa_nil))))
        (pss_one (ps_if (PW.pt (pw_or (pt_cmpR op_eq (pv 1) pe_int (nomark _)) (pw_or1 (pt_cmpR op_eq (pe_op op_mod (pe_op op_fdiv (pv 7) pe_int) pe_int) pe_int (nomark _)))))
          (pss_one (ps_expr (pe_bm PySem.F.plainAttrs_list PySem.F.slot_list_append PySem.F.type_list_append mt_append (pv 3) (pa_cons (pe_tup (pa_cons (pe_ix ix_list (pv 2) (pv 4) (fun _ _ => rfl)) (pa_cons (pe_ix ix_list (pv 2) (pe_op op_mod (pe_op op_add (pv 4) pe_int) (pv 1)) (fun _ _ => rfl))
            (pa_cons (pe_call GD hr rfl gD FD.kp bD .nil pass0 (pa_cons (pv 5) pa_nil)) pa_nil)))) pa_nil))))
          (pss_one (ps_if (pt_cmpR op_gt (pv 4) pe_int (nomark _))
            (pss_cons (ps_expr (pe_bm PySem.F.plainAttrs_list PySem.F.slot_list_append PySem.F.type_list_append mt_append (pv 3) (pa_cons (pe_tup (pa_cons (pe_ix ix_list (pv 2) (pe_op op_mod (pe_op op_fdiv (pv 5) pe_int) (pv 4)) (fun _ _ => rfl)) (pa_cons (pe_ix ix_list (pv 2) (pv 4) (fun _ _ => rfl))
              (pa_cons (pe_call GD hr rfl gD FD.kp bD .nil pass0 (pa_cons (pe_op op_fdiv (pv 5) pe_int) pa_nil)) pa_nil)))) pa_nil)))
            (pss_one (ps_expr (pe_bm PySem.F.plainAttrs_list PySem.F.slot_list_append PySem.F.type_list_append mt_append (pv 3) (pa_cons (pe_tup (pa_cons (pe_ix ix_list (pv 2) (pv 4) (fun _ _ => rfl)) (pa_cons (pe_ix ix_list (pv 2) (pe_op op_mod (pe_op op_fdiv (pv 5) pe_int) (pv 4)) (fun _ _ => rfl))
              (pa_cons (pe_call GD hr rfl gD FD.kp bD .nil pass0 (pa_cons (pe_op op_fdiv (pv 5) pe_int) pa_nil)) pa_nil)))) pa_nil)))))
            pss_nil))))))
      (pss_cons (ps_for PassesOwn.never rfl (pi_range1 rfl Z.range (pa_cons (pe_op op_mod (pe_op op_fdiv (pv 7) pe_int) pe_int) pa_nil)) (pg_name (i := 4) scWa.nd rfl (.inl rfl))
        (pss_cons (ps_set (i := 5) scWa.nd rfl (.inl rfl) (pe_call GX hr rfl gX FX.kp bX .nil pass0 (pa_cons (pe_call GC hr rfl gC FC.kp bC .nil pass0 (pa_cons (pv 0) (pa_cons (pe_op op_add pe_int (pe_op op_mod (pv 4) pe_int)) pa_nil))) (pa_cons (pv 4) pa_nil))))
        (pss_one (ps_expr (pe_bm PySem.F.plainAttrs_list PySem.F.slot_list_append PySem.F.type_list_append mt_append (pv 3) (pa_cons (pe_tup (pa_cons (pe_op op_mod (pv 5) (pv 1)) (pa_cons (pe_op op_mod (pe_op op_fdiv (pv 5) pe_int) (pv 1))
              (pa_cons (pe_call GD hr rfl gD FD.kp bD .nil pass0 (pa_cons (pe_op op_fdiv (pv 5) pe_int) pa_nil)) pa_nil)))) pa_nil))))))
      (pss_cons (ps_set (i := 6) scWa.nd rfl (.inl rfl) (pe_op op_mod (pe_call GC hr rfl gC FC.kp bC .nil pass0 (pa_cons (pv 0) (pa_cons pe_int pa_nil))) (pe_callB call_len_seq (by rfl) Z.len PySem.boot_len (pa_cons (pv 3) pa_nil))))
      (pss_one (ps_ret (pe_op op_cat (pe_slice sl_list (pv 3) (po_some (pv 6)) po_none) (pe_slice sl_list (pv 3) po_none (po_some (pv 6))))))))))), ?_⟩
    -- _law_cell, _law_order, _law_ways_here
    refine ⟨_, rfl, a, 1, ns, rfl, hS, (by decide), fun z => ?_⟩
    refine ⟨_, rfl, m, rfl, fun r nr => ⟨r, m, z, rfl, upd_same, by omega, by omega, hT.ext (fun b o e => by rw [upd_ne (ne_of_none e nr)]; exact e), rfl, fun H2 po ord eN T2 hP npo => ?_⟩⟩
    refine ⟨Nat.zero_le _, fun pl npl => ?_⟩
    obtain ⟨Ho, hHo⟩ : ∃ Ho, Ho = upd H2 po (.lst (ord.map V.int)) := ⟨_, rfl⟩
    rw [← hHo] at npl ⊢
    have hO : Ho po = some (.lst (ord.map V.int)) := by rw [hHo]; exact upd_same
    have s2o : Same H2 Ho := by rw [hHo]; exact same_new (Same.refl _) npo
    have eHo : ExtN H Ho := (Same.extN (same_new (Same.refl _) nr)).trans (eN.trans (Same.extN s2o))
    have lenO : ord.length = m.toNat := by rw [hP.length_eq, upto_len]
    have T0 : Tabs [(TP, lamQ)] Ho := T2.ext s2o
    have seqA : ∀ {H' : Hp}, Same Ho H' → SqL K H' a (ns.map V.int) := fun s => extN_seq (eHo.trans (Same.extN s)) hS
    have at_ : ∀ i : Int, 0 ≤ i → i < m → ∃ v, atI (ord.map V.int) i = some (.int v) := fun i h0 h1 => ord_at (n := m.toNat) lenO h0 (by omega)
    -- the first loop
    refine ⟨_, rfl, m, rfl, by omega, by omega, for_range (lo := 0) (n := m.toNat) (fun i σ H' => ∃ (xs : List V) (y u : Option V), σ = [some (.ref a), some (.int m), some (.ref po), some (.ref pl), y, u, none, some (.int z)] ∧ Same Ho H' ∧ H' pl = some (.lst xs) ∧ (∀ v ∈ xs, Tup3 H' v) ∧
        (if m = 1 ∨ z / 12 % 2 = 0 then xs.length = i else xs.length = 2 * i - 2)) ⟨[], _, _, rfl, same_new (Same.refl _) npl, upd_same, (fun v hv => by cases hv), by split <;> rfl⟩ ?_ ?_⟩
    · rintro i σ H' hi ⟨xs, y, u, rfl, sH, hL, hx, hlen⟩
      have hO' := sH _ _ hO
      have e0 : (0 : Int) + (i : Int) = i := by omega
      refine ⟨_, rfl, a, 2, ns, rfl, seqA sH, (by decide), fun z1 => ⟨_, rfl, _, _, rfl, fun q q0 => ?_⟩⟩
      refine ⟨_, rfl, rfl, _, rfl, ?_⟩
      have small : xs.length < sizeLine := small1000 (by split at hlen <;> omega)
      by_cases ring : m = 1 ∨ z / 12 % 2 = 0
      · rw [if_pos ring] at hlen
        by_cases hm : m = 1
        · rw [decide_eq_true (by rw [hm])]
          refine iteT (iteT ?_)
          obtain ⟨v1, a1⟩ := at_ i (by omega) (by omega)
          obtain ⟨v2, a2⟩ := at_ ((i + 1) % m) (Int.emod_nonneg _ (by omega)) (Int.emod_lt_of_pos _ (by omega))
          refine ⟨_, rfl, .inl ⟨rfl, _, SqL.of hL⟩, _, rfl, _, rfl, po, _, _, .int v1, rfl, rfl, SqL.of hO', (by rw [e0]; exact a1), _, rfl, _, rfl, _, _, rfl, rfl, _, rfl, _, _, rfl, rfl, (by show (0 : Int) < m; omega), po, _, _, .int v2, rfl, rfl, SqL.of hO', (by rw [e0]; exact a2), ?_⟩
          refine ⟨_, rfl, _, rfl, fun d Hd d0 d1 sd => ⟨(by show 3 ≤ sizeLine; decide), fun t nt => ?_⟩⟩
          obtain ⟨g1, g2, g3, g4⟩ := grow (w := (v1, v2, d)) sH npl hL hx sd nt
          exact ⟨pl, xs, _, rfl, rfl, g1, small, _, _, _, rfl, g2, g3, g4, by rw [if_pos ring, List.length_append, hlen]; rfl⟩
        · have hz : z / 12 % 2 = 0 := ring.resolve_left hm
          rw [decide_eq_false (fun e => hm (V.int.inj e))]
          refine iteF ⟨_, rfl, _, _, rfl, rfl, ⟨by decide, by decide⟩, _, _, rfl, rfl, (by show (0 : Int) < 2; decide), rfl, _, rfl, ?_⟩
          rw [decide_eq_true (show V.int (z / 12 % 2) = V.int 0 by rw [hz])]
          refine iteT ?_
          obtain ⟨v1, a1⟩ := at_ i (by omega) (by omega)
          obtain ⟨v2, a2⟩ := at_ ((i + 1) % m) (Int.emod_nonneg _ (by omega)) (Int.emod_lt_of_pos _ (by omega))
          refine ⟨_, rfl, .inl ⟨rfl, _, SqL.of hL⟩, _, rfl, _, rfl, po, _, _, .int v1, rfl, rfl, SqL.of hO', (by rw [e0]; exact a1), _, rfl, _, rfl, _, _, rfl, rfl, _, rfl, _, _, rfl, rfl, (by show (0 : Int) < m; omega), po, _, _, .int v2, rfl, rfl, SqL.of hO', (by rw [e0]; exact a2), ?_⟩
          refine ⟨_, rfl, _, rfl, fun d Hd d0 d1 sd => ⟨(by show 3 ≤ sizeLine; decide), fun t nt => ?_⟩⟩
          obtain ⟨g1, g2, g3, g4⟩ := grow (w := (v1, v2, d)) sH npl hL hx sd nt
          exact ⟨pl, xs, _, rfl, rfl, g1, small, _, _, _, rfl, g2, g3, g4, by rw [if_pos ring, List.length_append, hlen]; rfl⟩
      · rw [if_neg ring] at hlen
        have hm : ¬ m = 1 := fun e => ring (.inl e)
        have hz : ¬ z / 12 % 2 = 0 := fun e => ring (.inr e)
        rw [decide_eq_false (fun e => hm (V.int.inj e))]
        refine iteF ⟨_, rfl, _, _, rfl, rfl, ⟨by decide, by decide⟩, _, _, rfl, rfl, (by show (0 : Int) < 2; decide), rfl, _, rfl, ?_⟩
        rw [decide_eq_false (fun e => hz (V.int.inj e))]
        refine iteF ⟨_, rfl, _, _, rfl, rfl, _, rfl, ?_⟩
        by_cases hi0 : 0 < i
        · rw [decide_eq_true (by omega)]
          refine iteT ?_
          obtain ⟨v1, a1⟩ := at_ (q / 7 % i) (Int.emod_nonneg _ (by omega)) (by have := Int.emod_lt_of_pos (q / 7) (show (0 : Int) < i by omega); omega)
          obtain ⟨v2, a2⟩ := at_ i (by omega) (by omega)
          obtain ⟨v3, a3⟩ := at_ (q / 512 % i) (Int.emod_nonneg _ (by omega)) (by have := Int.emod_lt_of_pos (q / 512) (show (0 : Int) < i by omega); omega)
          refine ⟨_, rfl, .inl ⟨rfl, _, SqL.of hL⟩, _, rfl, _, rfl, _, _, rfl, rfl, ⟨by decide, by decide⟩, _, rfl, _, _, rfl, rfl, (by show (0 : Int) < 0 + i; omega), po, _, _, .int v1, rfl, rfl, SqL.of hO', (by rw [e0]; exact a1), _, rfl, _, rfl, po, _, _, .int v2, rfl, rfl, SqL.of hO', (by rw [e0]; exact a2), ?_⟩
          refine ⟨_, rfl, _, _, rfl, rfl, ⟨by decide, by decide⟩, _, rfl, fun d Hd d0 d1 sd => ⟨(by show 3 ≤ sizeLine; decide), fun t nt => ?_⟩⟩
          obtain ⟨g1, g2, g3, g4⟩ := grow (w := (v1, v2, d)) sH npl hL hx sd nt
          refine ⟨pl, xs, _, rfl, rfl, g1, small, ?_⟩
          have hO2 := g2 _ _ hO
          refine ⟨_, rfl, .inl ⟨rfl, _, SqL.of g3⟩, _, rfl, _, rfl, po, _, _, .int v2, rfl, rfl, SqL.of hO2, (by rw [e0]; exact a2), _, rfl, _, rfl, _, _, rfl, rfl, ⟨by decide, by decide⟩, _, rfl, _, _, rfl, rfl, (by show (0 : Int) < 0 + i; omega), po, _, _, .int v3, rfl, rfl, SqL.of hO2, (by rw [e0]; exact a3), ?_⟩
          refine ⟨_, rfl, _, _, rfl, rfl, ⟨by decide, by decide⟩, _, rfl, fun d' Hd' d0' d1' sd' => ⟨(by show 3 ≤ sizeLine; decide), fun t' nt' => ?_⟩⟩
          obtain ⟨k1, k2, k3, k4⟩ := grow (w := (v2, v3, d')) g2 npl g3 g4 sd' nt'
          exact ⟨pl, _, _, rfl, rfl, k1, (by rw [List.length_append]; exact small1000 (by show xs.length + 1 ≤ 1000; omega)), _, _, _, rfl, k2, k3, k4, by rw [if_neg ring, List.length_append, List.length_append, hlen]; show 2 * i - 2 + 1 + 1 = _; omega⟩
        · rw [decide_eq_false (by omega)]
          exact iteF ⟨xs, _, _, rfl, sH, hL, hx, by rw [if_neg ring]; omega⟩
    · rintro σ H1 ⟨xs0, y0, u0, rfl, s1, hL1, hx1, hlen1⟩
      have l1 : 1 ≤ xs0.length := by split at hlen1 <;> omega
      have l2 : xs0.length ≤ 22 := by split at hlen1 <;> omega
      -- the second loop
      have b13 := Int.emod_lt_of_pos (z / 24) (show (0 : Int) < 13 by decide)
      have b0 := Int.emod_nonneg (z / 24) (show (13 : Int) ≠ 0 by decide)
      refine ⟨_, rfl, _, _, rfl, rfl, ⟨by decide, by decide⟩, _, _, rfl, rfl, (by show (0 : Int) < 13; decide), z / 24 % 13, rfl, by omega, by omega, for_range (lo := 0) (n := (z / 24 % 13).toNat) (fun i σ H' => ∃ (xs : List V) (y u : Option V), σ = [some (.ref a), some (.int m), some (.ref po), some (.ref pl), y, u, none, some (.int z)] ∧ Same Ho H' ∧ H' pl = some (.lst xs) ∧ (∀ v ∈ xs, Tup3 H' v) ∧
        1 ≤ xs.length ∧ xs.length ≤ 22 + i) ⟨xs0, _, _, rfl, s1, hL1, hx1, l1, l2⟩ ?_ ?_⟩
      · rintro i σ H' hi ⟨xs, y, u, rfl, sH, hL, hx, k1, k2⟩
        refine ⟨_, rfl, _, rfl, _, _, rfl, rfl, (by show (0 : Int) < 6; decide), _, _, rfl, rfl, a, _, ns, rfl, seqA sH, (by have := Int.emod_nonneg ((0 : Int) + i) (show (6 : Int) ≠ 0 by decide); omega), fun z1 => ⟨_, rfl, _, _, rfl, fun q q0 => ?_⟩⟩
        refine ⟨_, rfl, .inl ⟨rfl, _, SqL.of hL⟩, _, rfl, _, rfl, _, _, rfl, rfl, (by show (0 : Int) < m; omega), _, rfl, _, _, rfl, rfl, ⟨by decide, by decide⟩, _, rfl, _, _, rfl, rfl, (by show (0 : Int) < m; omega), ?_⟩
        refine ⟨_, rfl, _, _, rfl, rfl, ⟨by decide, by decide⟩, _, rfl, fun d Hd d0 d1 sd => ⟨(by show 3 ≤ sizeLine; decide), fun t nt => ?_⟩⟩
        obtain ⟨g1, g2, g3, g4⟩ := grow (w := (q % m, q / 16 % m, d)) sH npl hL hx sd nt
        exact ⟨pl, xs, _, rfl, rfl, g1, small1000 (by omega), _, _, _, rfl, g2, g3, g4, by rw [List.length_append]; omega, by rw [List.length_append]; show xs.length + 1 ≤ _; omega⟩
      · rintro σ H' ⟨xs, y, u, rfl, sH, hL, hx, k1, k2⟩
        -- _law_turn, the rotation
        refine ⟨_, rfl, a, 2, ns, rfl, seqA sH, (by decide), fun z1 => ⟨_, rfl, pl, _, rfl, .inl (SqL.of hL), _, _, rfl, rfl, (by show (0 : Int) < xs.length; omega), ?_⟩⟩
        have t0 := Int.emod_nonneg z1 (show (xs.length : Int) ≠ 0 by omega)
        have t1 := Int.emod_lt_of_pos z1 (show (0 : Int) < xs.length by omega)
        have cl := cut_len (xs := xs) t0 (by omega)
        refine ⟨_, rfl, _, rfl, _, rfl, pl, xs, rfl, SqL.of hL, fun p1 n1 => ?_⟩
        have hL2 : (upd H' p1 (.lst (cutV xs (some (z1 % xs.length)) none))) pl = some (.lst xs) := by rw [upd_ne (ne_of_none hL n1)]; exact hL
        refine ⟨_, rfl, _, rfl, _, rfl, pl, xs, rfl, SqL.of hL2, fun p2 n2 => ?_⟩
        have p12 : p1 ≠ p2 := ne_of_none upd_same n2
        refine ⟨p1, p2, _, _, rfl, rfl, (by rw [upd_ne p12, upd_same]), upd_same, (by rw [cl, sizeLine_eq]; omega), fun p n3 => ?_⟩
        have sF : Same H' (upd (upd (upd H' p1 (.lst (cutV xs (some (z1 % xs.length)) none))) p2 (.lst (cutV xs none (some (z1 % xs.length))))) p (.lst (cutV xs (some (z1 % xs.length)) none ++ cutV xs none (some (z1 % xs.length))))) := same_new (same_new (same_new (Same.refl _) n1) n2) n3
        refine hQ p _ _ (eHo.trans (Same.extN (sH.trans sF))) (T0.ext (sH.trans sF)) upd_same (fun v hv => ?_) (by rw [List.length_append, cl]; exact k1) (by rw [List.length_append, cl]; omega)
        refine (hx v ?_).same (same_tups sF)
        rcases List.mem_append.mp hv with h | h
        · exact cut_sub h
        · exact cut_sub h
end
end Mp
/-! ## L3 -/
set_option Elab.async false
set_option linter.all false
set_option maxRecDepth 100000
set_option maxHeartbeats 4000000
namespace Mp
open PySem PySem.Spec PyProof.Rows L2 LamX
theorem four_at {w x y z : Int} {i : Int} (h0 : 0 ≤ i) (h1 : i < 4) : ∃ v, atI [V.int w, .int x, .int y, .int z] i = some (.int v) := ord_at (ord := [w, x, y, z]) (n := 4) rfl h0 h1
theorem six_at {u v w x y z : Int} {i : Int} (h0 : 0 ≤ i) (h1 : i < 6) (hm : ∀ s ∈ [u, v, w, x, y, z], (0 : Int) ≤ s ∧ s ≤ 66) : ∃ s : Int, atI [V.int u, .int v, .int w, .int x, .int y, .int z] i = some (.int s) ∧ 0 ≤ s ∧ s ≤ 66 := by
  obtain ⟨k, rfl⟩ : ∃ k : Nat, i = k := ⟨i.toNat, by omega⟩
  have hk : k < [u, v, w, x, y, z].length := by simp; omega
  refine ⟨[u, v, w, x, y, z][k], ?_, hm _ (List.getElem_mem hk)⟩
  have e : ([u, v, w, x, y, z].map V.int)[k]? = some (V.int [u, v, w, x, y, z][k]) := by rw [List.getElem?_map, List.getElem?_eq_getElem hk]; rfl
  exact atI_nat e
theorem cut_pre {xs : List V} {i : Int} (h0 : 0 ≤ i) (h1 : i ≤ xs.length) : (cutV xs none (some i)).length = i.toNat := by
  obtain ⟨k, rfl⟩ : ∃ k : Nat, i = k := ⟨i.toNat, by omega⟩
  unfold cutV
  rw [HT.sIx_none, HT.sIx_nat]
  simp only [List.length_take, List.length_drop]
  omega
theorem cut_post {xs : List V} {i : Int} (h0 : 0 ≤ i) (h1 : i ≤ xs.length) : (cutV xs (some i) none).length = xs.length - i.toNat := by
  have := cut_len h0 h1
  have := cut_pre h0 h1
  omega
theorem mem_flat_rep {n : Nat} {x v : V} (h : v ∈ (List.replicate n [x]).flatten) : v = x := by
  obtain ⟨l, hl, hv⟩ := List.mem_flatten.mp h
  rw [List.eq_of_mem_replicate hl] at hv
  simpa using hv
theorem len_flat_rep (n : Nat) (x : V) : ((List.replicate n [x]).flatten).length = n := by
  rw [List.length_flatten]
  simp
section
variable {P : Program} {w : World} {K : PySem.W.Frag} {mg : Str → Option Value} {base : Heap}
def spBent (K : PySem.W.Frag) : Sp := fun vs H Q _ => ∃ (a b : Addr) (ns : List Int) (m : Int) (xs : List V), vs = [.ref a, .ref b, .int m] ∧ SqL K H a (ns.map V.int) ∧ H b = some (.lst xs) ∧ (∀ v ∈ xs, Tup3 H v) ∧ 1 ≤ xs.length ∧ xs.length ≤ 40 ∧
  ∀ (p : Addr) (ys : List V) (H' : Hp), Same H H' → H' p = some (.lst ys) → (∀ v ∈ ys, Tup3 H' v) → ys.length ≤ 110 → Q (.ref p) H'
theorem scBe : FnScope ["_law_script", "_law_ways_here", "_law_many_here", "_law_made", "_law_far", "_law_k", "_law_at", "_law_one", "_law_other", "_law_delay", "_law_number", "_law_size"] ["_law_script", "_law_ways_here", "_law_many_here"] (defScope sBent) := ⟨rfl, rfl, rfl, by decide +kernel, rfl, by decide +kernel, by decide +kernel⟩
theorem ok_bent {f fC fX : Addr} {fd fdC fdX : FuncData} (F : Fun K "_law_bent" "_law_bent" sBent f fd) (FC : Fun K "_law_cell_at" "_law_cell_at" sCell fC fdC) (FX : Fun K "_law_mixed" "_law_mixed" sMixed fX fdX) (Z : Names0 mg)
    (gC : mg "_law_cell_at" = some (.ref fC)) (gX : mg "_law_mixed" = some (.ref fX)) (bC : Binds K fdC ["_law_script", "_law_k"] []) (bX : Binds K fdX ["_law_cell", "_law_k"] []) :
    FnOk P w K mg base CX0 2 f fd ["_law_script", "_law_ways_here", "_law_many_here"] (spBent K) := by
  have GC : FnOk P w K mg base CX0 1 fC fdC ["_law_script", "_law_k"] (spCell K) := ok_cell FC Z
  have GX : FnOk P w K mg base CX0 1 fX fdX ["_law_cell", "_law_k"] spMixed := ok_mixed FX
  refine F.ok scBe (fun vs H Q E h => ?_) (fun cdv A outer s H vs Q E hr h => ?_)
  · obtain ⟨a, b, ns, m, xs, rfl, _⟩ := h
    rfl
  · obtain ⟨a, b, ns, m, xs, rfl, hS, hb, hx, l1, l40, hQ⟩ := h
    refine ⟨_, pss_cons (ps_set (i := 3) scBe.nd rfl (.inl rfl) (pe_callTy call_list_of (by rfl) Z.list (by decide +kernel) (pa_cons (pv 1) pa_nil)))
      (pss_cons (ps_set (i := 4) scBe.nd rfl (.inl rfl) (pe_op op_mod (pe_call GC hr rfl gC FC.kp bC .nil pass0 (pa_cons (pv 0) (pa_cons pe_int pa_nil))) (pe_op op_pow pe_int pe_int)))
      (pss_cons (ps_for PassesOwn.never rfl (pi_range1 rfl Z.range (pa_cons (pe_op op_mod (pe_call GC hr rfl gC FC.kp bC .nil pass0 (pa_cons (pv 0) (pa_cons pe_int pa_nil))) pe_int) pa_nil)) (pg_name (i := 5) scBe.nd rfl (.inl rfl))
        (pss_cons (ps_set (i := 6) scBe.nd rfl (.inl rfl) (pe_op op_mod (pe_call GC hr rfl gC FC.kp bC .nil pass0 (pa_cons (pv 0) (pa_cons (pe_op op_add pe_int (pv 5)) pa_nil))) (pe_callB call_len_seq (by rfl) Z.len PySem.boot_len (pa_cons (pv 3) pa_nil))))
        (pss_cons (ps_asg (pe_ix ix_list (pv 3) (pv 6) (fun _ _ => rfl)) (pg_tup rfl (pgs_cons (pg_name (i := 7) scBe.nd rfl (.inl rfl)) (pgs_cons (pg_name (i := 8) scBe.nd rfl (.inl rfl)) (pgs_cons (pg_name (i := 9) scBe.nd rfl (.inl rfl)) pgs_nil)))))
        (pss_cons (ps_set (i := 10) scBe.nd rfl (.inl rfl) (pe_call GX hr rfl gX FX.kp bX .nil pass0 (pa_cons (pe_call GC hr rfl gC FC.kp bC .nil pass0 (pa_cons (pv 0) (pa_cons (pe_op op_add pe_int (pv 5)) pa_nil))) (pa_cons (pv 5) pa_nil))))
        (C8.pss_cut (ps_if (pt_cmpR op_eq (pe_op op_mod (pv 10) pe_int) pe_int (nomark _)) (pss_one (ps_set (i := 7) scBe.nd rfl (.inl rfl) (pe_ix ix_list (pe_lst (pa_cons (pe_un un_neg pe_int) (pa_cons (pv 2) (pa_cons (pe_op op_add (pv 2) (pv 4)) (pa_cons (pe_op op_sub (pe_un un_neg pe_int) (pv 4)) pa_nil))))) (pe_op op_mod (pe_op op_fdiv (pv 10) pe_int) pe_int) (fun _ _ => rfl)))) pss_nil)
        (C8.pss_cut (ps_if (pt_cmpR op_eq (pe_op op_mod (pv 10) pe_int) pe_int (nomark _)) (pss_one (ps_set (i := 8) scBe.nd rfl (.inl rfl) (pe_ix ix_list (pe_lst (pa_cons (pe_un un_neg pe_int) (pa_cons (pv 2) (pa_cons (pe_op op_add (pv 2) (pv 4)) (pa_cons (pe_op op_sub (pe_un un_neg pe_int) (pv 4)) pa_nil))))) (pe_op op_mod (pe_op op_fdiv (pv 10) pe_int) pe_int) (fun _ _ => rfl)))) pss_nil)
        (C8.pss_cut (ps_if (pt_cmpR op_eq (pe_op op_mod (pv 10) pe_int) pe_int (nomark _)) (pss_one (ps_set (i := 9) scBe.nd rfl (.inl rfl) (pe_ix ix_list (pe_lst (pa_cons (pe_un un_neg pe_int) (pa_cons pe_int (pa_cons pe_int (pa_cons (pe_op op_add pe_int (pv 4)) pa_nil))))) (pe_op op_mod (pe_op op_fdiv (pv 10) pe_int) pe_int) (fun _ _ => rfl)))) pss_nil)
        (pss_one (ps_if (pt_cmpR op_lt (pe_op op_mod (pv 10) pe_int) pe_int (nomark _))
          (pss_one (ps_set (i := 3) scBe.nd rfl (.inl rfl) (pe_op op_cat (pe_op op_cat (pe_slice sl_list (pv 3) po_none (po_some (pv 6))) (pe_lst (pa_cons (pe_tup (pa_cons (pv 7) (pa_cons (pv 8) (pa_cons (pv 9) pa_nil)))) pa_nil))) (pe_slice sl_list (pv 3) (po_some (pe_op op_add (pv 6) pe_int)) po_none))))
          (pss_one (ps_if (pt_cmpR op_gt (pe_callB call_len_seq (by rfl) Z.len PySem.boot_len (pa_cons (pv 3) pa_nil)) pe_int (nomark _))
            (pss_one (ps_set (i := 3) scBe.nd rfl (.inl rfl) (pe_op op_cat (pe_slice sl_list (pv 3) po_none (po_some (pv 6))) (pe_slice sl_list (pv 3) (po_some (pe_op op_add (pv 6) pe_int)) po_none)))) pss_nil)))))))))))
      (C8.pss_cut (ps_if (pt_cmpR op_eq (pe_op op_mod (pe_call GC hr rfl gC FC.kp bC .nil pass0 (pa_cons (pv 0) (pa_cons pe_int pa_nil))) pe_int) pe_int (nomark _))
        (pss_cons (ps_set (i := 11) scBe.nd rfl (.inl rfl) (pe_ix ix_list (pe_lst (pa_cons pe_int (pa_cons pe_int (pa_cons pe_int (pa_cons pe_int (pa_cons pe_int (pa_cons pe_int pa_nil))))))) (pe_op op_mod (pe_op op_fdiv (pe_call GC hr rfl gC FC.kp bC .nil pass0 (pa_cons (pv 0) (pa_cons pe_int pa_nil))) pe_int) pe_int) (fun _ _ => rfl)))
        (pss_one (ps_set (i := 3) scBe.nd rfl (.inl rfl) (pe_op op_cat (pv 3) (pe_op op_rep (pe_lst (pa_cons (pe_ix ix_list (pv 3) pe_int (fun _ _ => rfl)) pa_nil)) (pe_op op_sub (pv 11) (pe_callB call_len_seq (by rfl) Z.len PySem.boot_len (pa_cons (pv 3) pa_nil)))))))) pss_nil)
      (C8.pss_cut (ps_if (pt_cmpR op_eq (pe_op op_mod (pe_call GC hr rfl gC FC.kp bC .nil pass0 (pa_cons (pv 0) (pa_cons pe_int pa_nil))) pe_int) pe_int (nomark _))
        (pss_one (ps_set (i := 3) scBe.nd rfl (.inl rfl) (pe_slice sl_list (pv 3) po_none (po_some (pe_op op_mod (pe_op op_fdiv (pe_call GC hr rfl gC FC.kp bC .nil pass0 (pa_cons (pv 0) (pa_cons pe_int pa_nil))) pe_int) (pe_op op_add (pe_callB call_len_seq (by rfl) Z.len PySem.boot_len (pa_cons (pv 3) pa_nil)) pe_int)))))) pss_nil)
      (pss_one (ps_ret (pv 3))))))), ?_⟩
    refine ⟨_, rfl, b, xs, rfl, .inl (SqL.of hb), fun ml nml => ?_⟩
    have s1 : Same H (upd H ml (.lst xs)) := same_new (Same.refl _) nml
    refine ⟨_, rfl, a, 9, ns, rfl, s1.seq hS, (by decide), fun z => ⟨_, _, rfl, rfl, ⟨by decide, by decide, by decide⟩, _, _, rfl, rfl, (by show (0 : Int) < 10 ^ (20 : Int).toNat; decide), ?_⟩⟩
    refine ⟨_, rfl, a, 10, ns, rfl, s1.seq hS, (by decide), fun z2 => ⟨_, _, rfl, rfl, (by show (0 : Int) < 3; decide), ?_⟩⟩
    have z20 := Int.emod_nonneg z2 (show (3 : Int) ≠ 0 by decide)
    have z21 := Int.emod_lt_of_pos z2 (show (0 : Int) < 3 by decide)
    refine ⟨_, rfl, by omega, by omega, for_range (lo := 0) (n := (z2 % 3).toNat) (fun i σ H' => ∃ (far : Int) (ml : Addr) (ys : List V) (o5 o6 o7 o8 o9 o10 : Option V), σ = [some (.ref a), some (.ref b), some (.int m), some (.ref ml), some (.int far), o5, o6, o7, o8, o9, o10, none] ∧ Same H H' ∧ H' ml = some (.lst ys) ∧ (∀ v ∈ ys, Tup3 H' v) ∧ 1 ≤ ys.length ∧ ys.length ≤ 40)
      ⟨_, ml, xs, _, _, _, _, _, _, rfl, s1, upd_same, (fun v hv => (hx v hv).same (same_tups s1)), l1, l40⟩ ?_ ?_⟩
    · rintro i σ H' hi ⟨far, ml, ys, o5, o6, o7, o8, o9, o10, rfl, sH, hL, hy, k1, k2⟩
      refine ⟨_, rfl, _, rfl, _, _, rfl, rfl, a, _, ns, rfl, sH.seq hS, (by omega), fun z3 => ⟨_, rfl, ml, _, rfl, .inl (SqL.of hL), _, _, rfl, rfl, (by show (0 : Int) < ys.length; omega), ?_⟩⟩
      have q0 := Int.emod_nonneg z3 (show (ys.length : Int) ≠ 0 by omega)
      have q1 := Int.emod_lt_of_pos z3 (show (0 : Int) < ys.length by omega)
      obtain ⟨qn, hq⟩ : ∃ k : Nat, z3 % (ys.length : Int) = k := ⟨(z3 % (ys.length : Int)).toNat, by omega⟩
      have hqn : qn < ys.length := by omega
      obtain ⟨v, hv⟩ : ∃ v, ys[qn]? = some v := ⟨_, List.getElem?_eq_getElem hqn⟩
      obtain ⟨t0, w0, rfl, ht0⟩ := hy v (List.mem_of_getElem? hv)
      refine ⟨_, rfl, _, rfl, ml, _, _, .ref t0, rfl, rfl, SqL.of hL, (by show atI ys (z3 % (ys.length : Int)) = _; rw [hq]; exact atI_nat hv), t0, _, rfl, SqT.of ht0, rfl, _, _, rfl, _, _, rfl, _, _, rfl, rfl, ?_⟩
      refine ⟨_, rfl, _, rfl, _, _, rfl, rfl, a, _, ns, rfl, sH.seq hS, (by omega), fun z4 => ⟨_, rfl, _, _, rfl, fun num num0 => ?_⟩⟩
      -- one of the three is bent, or none
      have mid : ∀ (o t d : Int) (H2 : Hp), Same H' H2 → ∃ o t d : Int, [some (V.ref a), some (.ref b), some (.int m), some (.ref ml), some (.int far), some (.int (0 + i)), some (.int (z3 % (ys.length : Int))), some (.int o), some (.int t), some (.int d), some (.int num), none] = [some (V.ref a), some (.ref b), some (.int m), some (.ref ml), some (.int far), some (.int (0 + i)), some (.int (z3 % (ys.length : Int))), some (.int o), some (.int t), some (.int d), some (.int num), none] ∧ Same H' H2 := fun o t d H2 s => ⟨o, t, d, rfl, s⟩
      have m4 : 0 ≤ num / 4 % 4 ∧ num / 4 % 4 < 4 := ⟨Int.emod_nonneg _ (by decide), Int.emod_lt_of_pos _ (by decide)⟩
      refine ⟨fun σ' H2 => ∃ o t d : Int, σ' = [some (V.ref a), some (.ref b), some (.int m), some (.ref ml), some (.int far), some (.int (0 + i)), some (.int (z3 % (ys.length : Int))), some (.int o), some (.int t), some (.int d), some (.int num), none] ∧ Same H' H2, ⟨_, rfl, _, _, rfl, rfl, (by show (0 : Int) < 4; decide), rfl, _, rfl, ite2 (fun _ => ?_) fun _ => ⟨_, _, _, rfl, Same.refl _⟩⟩, ?_⟩
      · obtain ⟨v, hv⟩ := four_at (w := -1) (x := m) (y := m + far) (z := -1 - far) m4.1 m4.2
        exact ⟨_, rfl, _, rfl, _, rfl, _, rfl, _, _, rfl, rfl, _, rfl, _, rfl, _, _, rfl, rfl, (by show 4 ≤ sizeLine; decide), fun p np => ⟨_, rfl, _, _, rfl, rfl, ⟨by decide, by decide⟩, _, _, rfl, rfl, (by show (0 : Int) < 4; decide), p, _, _, .int v, rfl, rfl, SqL.of upd_same, hv, _, _, _, rfl, same_new (Same.refl _) np⟩⟩
      rintro σ' H2 ⟨o, t, d, rfl, s2⟩
      refine ⟨fun σ' H2 => ∃ o t d : Int, σ' = [some (V.ref a), some (.ref b), some (.int m), some (.ref ml), some (.int far), some (.int (0 + i)), some (.int (z3 % (ys.length : Int))), some (.int o), some (.int t), some (.int d), some (.int num), none] ∧ Same H' H2, ⟨_, rfl, _, _, rfl, rfl, (by show (0 : Int) < 4; decide), rfl, _, rfl, ite2 (fun _ => ?_) fun _ => ⟨_, _, _, rfl, s2⟩⟩, ?_⟩
      · obtain ⟨v, hv⟩ := four_at (w := -1) (x := m) (y := m + far) (z := -1 - far) m4.1 m4.2
        exact ⟨_, rfl, _, rfl, _, rfl, _, rfl, _, _, rfl, rfl, _, rfl, _, rfl, _, _, rfl, rfl, (by show 4 ≤ sizeLine; decide), fun p np => ⟨_, rfl, _, _, rfl, rfl, ⟨by decide, by decide⟩, _, _, rfl, rfl, (by show (0 : Int) < 4; decide), p, _, _, .int v, rfl, rfl, SqL.of upd_same, hv, _, _, _, rfl, same_new s2 np⟩⟩
      clear s2
      rintro σ' H2 ⟨o, t, d, rfl, s2⟩
      refine ⟨fun σ' H2 => ∃ o t d : Int, σ' = [some (V.ref a), some (.ref b), some (.int m), some (.ref ml), some (.int far), some (.int (0 + i)), some (.int (z3 % (ys.length : Int))), some (.int o), some (.int t), some (.int d), some (.int num), none] ∧ Same H' H2, ⟨_, rfl, _, _, rfl, rfl, (by show (0 : Int) < 4; decide), rfl, _, rfl, ite2 (fun _ => ?_) fun _ => ⟨_, _, _, rfl, s2⟩⟩, ?_⟩
      · obtain ⟨v, hv⟩ := four_at (w := -1) (x := 10000) (y := 9999) (z := 10000 + far) m4.1 m4.2
        exact ⟨_, rfl, _, rfl, _, _, rfl, rfl, (by show 4 ≤ sizeLine; decide), fun p np => ⟨_, rfl, _, _, rfl, rfl, ⟨by decide, by decide⟩, _, _, rfl, rfl, (by show (0 : Int) < 4; decide), p, _, _, .int v, rfl, rfl, SqL.of upd_same, hv, _, _, _, rfl, same_new s2 np⟩⟩
      clear s2
      rintro σ' H2 ⟨o, t, d, rfl, s2⟩
      have sH2 := sH.trans s2
      have hL2 := s2 _ _ hL
      have hy2 : ∀ v ∈ ys, Tup3 H2 v := fun v hv => (hy v hv).same (same_tups s2)
      have c1 := cut_pre (xs := ys) (i := z3 % (ys.length : Int)) (by omega) (by omega)
      have c2 := cut_post (xs := ys) (i := z3 % (ys.length : Int) + 1) (by omega) (by omega)
      refine ⟨_, rfl, _, _, rfl, rfl, (by show (0 : Int) < 4; decide), _, _, rfl, rfl, _, rfl, ite2 (fun _ => ?_) fun _ => ?_⟩
      · refine ⟨_, rfl, _, rfl, _, rfl, ml, ys, rfl, SqL.of hL2, fun p1 n1 => ?_⟩
        refine ⟨_, rfl, _, rfl, _, rfl, (by show 3 ≤ sizeLine; decide), fun t1 nt => ⟨(by show 1 ≤ sizeLine; decide), fun p2 n2 => ?_⟩⟩
        have S1 := same_new (o := .lst (cutV ys none (some (z3 % (ys.length : Int))))) (Same.refl H2) n1
        have S2 := same_new (o := .tup [.int o, .int t, .int d]) (Same.refl _) nt
        have S3 := same_new (o := .lst [.ref t1]) (Same.refl _) n2
        refine ⟨p1, p2, _, _, rfl, rfl, S3 _ _ (S2 _ _ upd_same), upd_same, (by rw [c1, sizeLine_eq]; show _ + 1 ≤ _; omega), fun p3 n3 => ?_⟩
        have S4 := same_new (o := .lst (cutV ys none (some (z3 % (ys.length : Int))) ++ [.ref t1])) (Same.refl _) n3
        have S := ((S1.trans S2).trans S3).trans S4
        refine ⟨_, rfl, _, rfl, _, _, rfl, rfl, _, rfl, ml, ys, rfl, SqL.of (S _ _ hL2), fun p4 n4 => ?_⟩
        have S5 := same_new (o := .lst (cutV ys (some (z3 % (ys.length : Int) + 1)) none)) (Same.refl _) n4
        refine ⟨p3, p4, _, _, rfl, rfl, S5 _ _ upd_same, upd_same, (by rw [List.length_append, c1, c2, sizeLine_eq]; show _ + 1 + _ ≤ _; omega), fun p5 n5 => ?_⟩
        have S6 := same_new (o := .lst ((cutV ys none (some (z3 % (ys.length : Int))) ++ [.ref t1]) ++ cutV ys (some (z3 % (ys.length : Int) + 1)) none)) (Same.refl _) n5
        have S7 := (S.trans S5).trans S6
        refine ⟨far, p5, _, _, _, _, _, _, _, rfl, sH2.trans S7, upd_same, fun v hv => ?_, ?_, ?_⟩
        · rcases List.mem_append.mp hv with h | h
          · rcases List.mem_append.mp h with h | h
            · exact (hy2 v (cut_sub h)).same (same_tups S7)
            · have e : v = .ref t1 := by simpa using h
              exact ⟨t1, (o, t, d), e, S6 _ _ (S5 _ _ (S4 _ _ (S3 _ _ upd_same)))⟩
          · exact (hy2 v (cut_sub h)).same (same_tups S7)
        · rw [List.length_append, List.length_append]; show 1 ≤ _ + 1 + _; omega
        · rw [List.length_append, List.length_append, c1, c2]; show _ + 1 + _ ≤ _; omega
      · refine ⟨_, rfl, ml, _, rfl, .inl (SqL.of hL2), _, _, rfl, rfl, _, rfl, ite2 (fun c => ?_) fun _ => ⟨far, ml, ys, _, _, _, _, _, _, rfl, sH2, hL2, hy2, k1, k2⟩⟩
        have c' : 1 < ys.length := by have := of_decide_eq_true c; omega
        refine ⟨_, rfl, _, rfl, _, rfl, ml, ys, rfl, SqL.of hL2, fun p1 n1 => ?_⟩
        have S1 := same_new (o := .lst (cutV ys none (some (z3 % (ys.length : Int))))) (Same.refl H2) n1
        refine ⟨_, rfl, _, rfl, _, _, rfl, rfl, _, rfl, ml, ys, rfl, SqL.of (S1 _ _ hL2), fun p4 n4 => ?_⟩
        have S5 := same_new (o := .lst (cutV ys (some (z3 % (ys.length : Int) + 1)) none)) (Same.refl _) n4
        refine ⟨p1, p4, _, _, rfl, rfl, S5 _ _ upd_same, upd_same, (by rw [c1, c2, sizeLine_eq]; omega), fun p5 n5 => ?_⟩
        have S6 := same_new (o := .lst (cutV ys none (some (z3 % (ys.length : Int))) ++ cutV ys (some (z3 % (ys.length : Int) + 1)) none)) (Same.refl _) n5
        have S7 := (S1.trans S5).trans S6
        refine ⟨far, p5, _, _, _, _, _, _, _, rfl, sH2.trans S7, upd_same, fun v hv => ?_, ?_, ?_⟩
        · rcases List.mem_append.mp hv with h | h
          · exact (hy2 v (cut_sub h)).same (same_tups S7)
          · exact (hy2 v (cut_sub h)).same (same_tups S7)
        · rw [List.length_append, c1, c2]; omega
        · rw [List.length_append, c1, c2]; omega
    · rintro σ H' ⟨far, ml, ys, o5, o6, o7, o8, o9, o10, rfl, sH, hL, hy, k1, k2⟩
      -- more of the first one
      refine ⟨fun σ' H2 => ∃ (ml : Addr) (ys : List V) (o11 : Option V), σ' = [some (.ref a), some (.ref b), some (.int m), some (.ref ml), some (.int far), o5, o6, o7, o8, o9, o10, o11] ∧ Same H H2 ∧ H2 ml = some (.lst ys) ∧ (∀ v ∈ ys, Tup3 H2 v) ∧ ys.length ≤ 110,
        ⟨_, rfl, a, 15, ns, rfl, sH.seq hS, (by decide), fun z5 => ⟨_, _, rfl, rfl, (by show (0 : Int) < 6; decide), rfl, _, rfl, ite2 (fun _ => ?_) fun _ => ⟨ml, ys, _, rfl, sH, hL, hy, by omega⟩⟩⟩, ?_⟩
      · refine ⟨(by show 6 ≤ sizeLine; decide), fun p1 n1 => ⟨_, rfl, a, 15, ns, rfl, (same_new sH n1).seq hS, (by decide), fun z6 => ⟨_, _, rfl, rfl, ⟨by decide, by decide⟩, _, _, rfl, rfl, (by show (0 : Int) < 6; decide), ?_⟩⟩⟩
        obtain ⟨sz, hsz, sz0, sz1⟩ := six_at (u := 60) (v := 61) (w := 60) (x := 55) (y := 59) (z := 66) (i := z6 / 6 % 6) (Int.emod_nonneg _ (by decide)) (Int.emod_lt_of_pos _ (by decide)) (by decide)
        refine ⟨p1, _, _, .int sz, rfl, rfl, SqL.of upd_same, hsz, ?_⟩
        have S1 := same_new (o := .lst [.int 60, .int 61, .int 60, .int 55, .int 59, .int 66]) (Same.refl H') n1
        obtain ⟨v0, hv0⟩ : ∃ v, ys[0]? = some v := ⟨_, List.getElem?_eq_getElem (by omega)⟩
        refine ⟨_, rfl, _, rfl, ml, _, _, v0, rfl, rfl, SqL.of (S1 _ _ hL), atI_nat (j := 0) hv0, (by show 1 ≤ sizeLine; decide), fun p2 n2 => ?_⟩
        have S2 := same_new (o := .lst [v0]) (Same.refl _) n2
        have S12 := S1.trans S2
        refine ⟨_, rfl, _, rfl, ml, _, rfl, .inl (SqL.of (S12 _ _ hL)), _, _, rfl, rfl, p2, sz - ys.length, [v0], rfl, rfl, upd_same, by omega, by omega, (by rw [sizeLine_eq]; show 1 * _ ≤ _; omega), fun p3 n3 => ?_⟩
        have S3 := same_new (o := .lst (List.replicate (sz - ys.length).toNat [v0]).flatten) (Same.refl _) n3
        refine ⟨ml, p3, _, _, rfl, rfl, S3 _ _ (S12 _ _ hL), upd_same, (by rw [len_flat_rep, sizeLine_eq]; omega), fun p4 n4 => ?_⟩
        have S4 := same_new (o := .lst (ys ++ (List.replicate (sz - ys.length).toNat [v0]).flatten)) (Same.refl _) n4
        have S := (S12.trans S3).trans S4
        refine ⟨p4, _, _, rfl, sH.trans S, upd_same, fun v hv => ?_, ?_⟩
        · rcases List.mem_append.mp hv with h | h
          · exact (hy v h).same (same_tups S)
          · rw [mem_flat_rep h]
            exact (hy v0 (List.mem_of_getElem? hv0)).same (same_tups S)
        · rw [List.length_append, len_flat_rep]; omega
      · clear hL hy k1 k2 sH ys ml
        rintro σ' H2 ⟨ml, ys, o11, rfl, sH, hL, hy, k2⟩
        refine ⟨fun σ' H2 => ∃ (ml : Addr) (ys : List V) (o11 : Option V), σ' = [some (.ref a), some (.ref b), some (.int m), some (.ref ml), some (.int far), o5, o6, o7, o8, o9, o10, o11] ∧ Same H H2 ∧ H2 ml = some (.lst ys) ∧ (∀ v ∈ ys, Tup3 H2 v) ∧ ys.length ≤ 110,
          ⟨_, rfl, a, 15, ns, rfl, sH.seq hS, (by decide), fun z5 => ⟨_, _, rfl, rfl, (by show (0 : Int) < 6; decide), rfl, _, rfl, ite2 (fun _ => ?_) fun _ => ⟨ml, ys, _, rfl, sH, hL, hy, by omega⟩⟩⟩, ?_⟩
        · refine ⟨_, rfl, _, rfl, a, 15, ns, rfl, sH.seq hS, (by decide), fun z6 => ⟨_, _, rfl, rfl, ⟨by decide, by decide⟩, _, rfl, ml, _, rfl, .inl (SqL.of hL), _, _, rfl, rfl, _, _, rfl, rfl, (by show (0 : Int) < ys.length + 1; omega), _, rfl, ml, ys, rfl, SqL.of hL, fun p1 n1 => ?_⟩⟩
          have S := same_new (o := .lst (cutV ys none (some (z6 / 6 % (ys.length + 1))))) (Same.refl H2) n1
          exact ⟨p1, _, _, rfl, sH.trans S, upd_same, (fun v hv => (hy v (cut_sub hv)).same (same_tups S)), Nat.le_trans (cutV_length _ _ _) k2⟩
        · clear hL hy k2 sH ys ml
          rintro σ'' H3 ⟨ml, ys, o12, rfl, sH, hL, hy, k2⟩
          exact ⟨_, rfl, hQ ml ys H3 sH hL hy k2⟩
end
end Mp
/-! ## L4 -/
set_option Elab.async false
set_option linter.all false
set_option maxRecDepth 100000
set_option maxHeartbeats 4000000
namespace Mp
open PySem PySem.Spec PyProof.Rows L2 LamX
/-! ### a dict of meetings -/
def dS (S : List Int) : List (Key × V) := S.map fun n => ((Sum.inl n : Key), V.bl true)
theorem valS (S : List Int) (n : Int) : valV (dS S) (Sum.inl n : Key) = if n ∈ S then some (.bl true) else none := by
  induction S with
  | nil => simp [dS, valV]
  | cons x r ih =>
    by_cases e : x = n
    · subst e
      rw [if_pos List.mem_cons_self]
      exact valV_pos (p := ((Sum.inl x : Key), V.bl true)) rfl
    · have q : valV (dS (x :: r)) (Sum.inl n : Key) = valV (dS r) (Sum.inl n) := valV_neg (p := ((Sum.inl x : Key), V.bl true)) (r := dS r) (fun z => e (Sum.inl.inj z))
      rw [q, ih]
      have m : (n ∈ x :: r) ↔ n ∈ r := by
        constructor
        · intro h
          rcases List.mem_cons.mp h with h | h
          · exact absurd h.symm e
          · exact h
        · exact List.mem_cons_of_mem _
      by_cases h : n ∈ r
      · rw [if_pos h, if_pos (m.mpr h)]
      · rw [if_neg h, if_neg fun z => h (m.mp z)]
theorem putS_old {S : List Int} {n : Int} (h : n ∈ S) : putK (dS S) (Sum.inl n : Key) (.bl true) = dS S := by
  have a : ((dS S).any fun kv => decide (kv.1 = (Sum.inl n : Key))) = true := by
    rw [valV_any, valS, if_pos h]
    rfl
  unfold putK
  rw [if_pos a]
  have key : ∀ kv ∈ dS S, (if kv.1 = (Sum.inl n : Key) then (kv.1, V.bl true) else kv) = kv := fun kv hk => by
    obtain ⟨x, _, rfl⟩ := List.mem_map.mp hk
    split <;> rfl
  exact (List.map_congr_left key).trans (List.map_id _)
theorem putS_new {S : List Int} {n : Int} (h : ¬ n ∈ S) : putK (dS S) (Sum.inl n : Key) (.bl true) = dS (S ++ [n]) := by
  rw [putK_new _ (by rw [valS, if_neg h])]
  unfold dS
  rw [List.map_append]
  rfl
theorem dS_len (S : List Int) : (dS S).length = S.length := by unfold dS; simp
/-- pairs: the ends of ways -/
def Pairs (H : Hp) (b : Addr) (ts : List Addr) (ws : List Way) : Prop := H b = some (.lst (ts.map V.ref)) ∧ ts.length = ws.length ∧ ∀ (i : Nat) (t : Addr) (w : Way), ts[i]? = some t → ws[i]? = some w → H t = some (.tup [.int w.1, .int w.2.1])
theorem Pairs.at {H : Hp} {b : Addr} {ts : List Addr} {ws : List Way} (T : Pairs H b ts ws) {i : Nat} {x : V} (h : (ts.map V.ref)[i]? = some x) : ∃ t w, x = .ref t ∧ ws[i]? = some w ∧ w ∈ ws ∧ H t = some (.tup [.int w.1, .int w.2.1]) := by
  rw [List.getElem?_map] at h
  cases e : ts[i]? with
  | none => rw [e] at h; cases h
  | some t =>
    rw [e] at h
    have hi := (List.getElem?_eq_some_iff.mp e).1
    have hl : i < ws.length := by have := T.2.1; omega
    obtain ⟨w, hw⟩ : ∃ w, ws[i]? = some w := ⟨_, List.getElem?_eq_getElem hl⟩
    exact ⟨t, w, (Option.some.inj h).symm, hw, List.mem_of_getElem? hw, T.2.2 i t w e hw⟩
def Closed (ws : List Way) (S : List Int) : Prop := ∀ w ∈ ws, w.1 ∈ S → w.2.1 ∈ S
section
variable {P : Program} {w : World} {K : PySem.W.Frag} {mg : Str → Option Value} {base : Heap}
def spMet : Sp := fun vs H Q _ => ∃ (m : Int) (b : Addr) (ts : List Addr) (ws : List Way), vs = [.int m, .ref b] ∧ Pairs H b ts ws ∧ 1 ≤ m ∧ m ≤ 12 ∧ (∀ w ∈ ws, EndsOk m w) ∧
  ∀ (n : Nat) (H' : Hp), Same H H' → ((n : Int) < m ↔ ¬ ∀ x, 0 ≤ x → x < m → Star ws 0 x) → Q (.int n) H'
theorem scMe : FnScope ["_law_many_here", "_law_pairs", "_law_met_here", "_law_turn", "_law_one", "_law_other"] ["_law_many_here", "_law_pairs"] (defScope sMet) := ⟨rfl, rfl, rfl, by decide +kernel, rfl, by decide +kernel, by decide +kernel⟩
theorem ok_met {f : Addr} {fd : FuncData} (F : Fun K "_law_met" "_law_met" sMet f fd) (Z : Names0 mg) : FnOk P w K mg base CX0 1 f fd ["_law_many_here", "_law_pairs"] spMet := by
  refine F.ok scMe (fun vs H Q E h => ?_) (fun cdv A outer s H vs Q E hr h => ?_)
  · obtain ⟨m, b, ts, ws, rfl, _⟩ := h
    rfl
  · obtain ⟨m, b, ts, ws, rfl, hP, m1, m12, hE, hQ⟩ := h
    have hu := hu_of hr
    refine ⟨_, pss_cons (ps_set (i := 2) scMe.nd rfl (.inl rfl) (pe_disp (pps_cons pe_int pe_bl pps_nil) (by rfl) (by rfl) (fun z => by cases z) (by decide)))
      (pss_cons (ps_for PassesOwn.never rfl (pi_range1 rfl Z.range (pa_cons (pv 0) pa_nil)) (pg_name (i := 3) scMe.nd rfl (.inl rfl))
        (pss_one (ps_for PassesOwn.never rfl (pi_list (pv 1)) (pg_tup rfl (pgs_cons (pg_name (i := 4) scMe.nd rfl (.inl rfl)) (pgs_cons (pg_name (i := 5) scMe.nd rfl (.inl rfl)) pgs_nil)))
          (pss_one (ps_if (pt_cmp (pc_din hu (pv 4) (pv 2))) (pss_one (ps_dput hu (pv 2) (pv 5) pe_bl rfl)) pss_nil)))))
      (pss_one (ps_ret (pe_callB call_lenD (by rfl) Z.len PySem.boot_len (pa_cons (pv 2) pa_nil))))), ?_⟩
    refine fun pd nd => ⟨upd_same, [((Sum.inl 0 : Key), V.bl true)], rfl, by decide, ?_⟩
    have hPb := hP.1
    have e1 : upd (upd H pd (.dK [])) pd (.dK (mergeK [] [((Sum.inl 0 : Key), V.bl true)])) = upd H pd (.dK (dS [0])) := by rw [upd_upd]; rfl
    rw [e1]
    have range : ∀ S : List Int, S.Nodup → (∀ x ∈ S, (0 ≤ x ∧ x < m) ∧ Star ws 0 x) → S.length ≤ m.toNat := fun S h1 h2 => nodup_le m.toNat S h1 fun x hx => by
      have := (h2 x hx).1
      omega
    refine ⟨_, rfl, m, rfl, by omega, by omega, for_range (lo := 0) (n := m.toNat) (fun i σ H' => ∃ (S : List Int) (y z u : Option V), σ = [some (.int m), some (.ref b), some (.ref pd), y, z, u] ∧ Same H H' ∧ H' pd = some (.dK (dS S)) ∧ S.Nodup ∧ (0 : Int) ∈ S ∧ (∀ x ∈ S, (0 ≤ x ∧ x < m) ∧ Star ws 0 x) ∧ (Closed ws S ∨ i + 1 ≤ S.length))
      ⟨[0], _, _, _, rfl, same_new (Same.refl _) nd, upd_same, by simp, by simp, (fun x hx => by
        have e : x = 0 := by simpa using hx
        subst e
        exact ⟨⟨by omega, by omega⟩, .inl rfl⟩), .inr (by simp)⟩ ?_ ?_⟩
    · rintro i σ H' hi ⟨S0, y, z, u, rfl, sH, hD, nd0, z0, st0, pr0⟩
      refine ⟨_, rfl, b, rfl, ⟨_, SqL.of (sH _ _ hPb)⟩, for_list (K := K) (a := b) (xs := ts.map V.ref) (fun j σ H2 => ∃ (S : List Int) (z u : Option V), σ = [some (.int m), some (.ref b), some (.ref pd), some (.int (0 + i)), z, u] ∧ Same H H2 ∧ H2 pd = some (.dK (dS S)) ∧ S.Nodup ∧ (∀ x ∈ S, (0 ≤ x ∧ x < m) ∧ Star ws 0 x) ∧
          (∀ x ∈ S0, x ∈ S) ∧ (∀ w ∈ ws.take j, w.1 ∈ S0 → w.2.1 ∈ S) ∧ (Closed ws S0 → S = S0))
        ⟨S0, _, _, rfl, sH, hD, nd0, st0, fun x h => h, (fun w hw => by simp at hw), fun _ => rfl⟩ (fun j σ H2 _ ⟨_, _, _, _, s2, _⟩ => SqL.of (s2 _ _ hPb)) ?_ ?_⟩
      · rintro j x σ H2 hj ⟨S, z, u, rfl, s2, hD2, nd2, st2, sub, tk, cl⟩
        obtain ⟨t, w, rfl, hw, hmem, ht⟩ := hP.at hj
        refine ⟨t, _, rfl, SqT.of (s2 _ _ ht), rfl, _, _, rfl, _, _, rfl, rfl, ?_⟩
        refine ⟨_, rfl, _, rfl, pd, _, rfl, DGet.k (k := Sum.inl w.1) hD2, _, rfl, ?_⟩
        rw [valS]
        by_cases h1 : w.1 ∈ S
        · rw [if_pos h1]
          refine iteT ⟨_, rfl, _, rfl, pd, _, rfl, DPut.k (k := Sum.inl w.2.1) hD2 (by rw [dS_len]; have := range S nd2 st2; exact small1000 (by omega)), ?_⟩
          by_cases h2 : w.2.1 ∈ S
          · rw [putS_old h2]
            refine ⟨S, _, _, rfl, same_put s2 nd, upd_same, nd2, st2, sub, fun v hv e => ?_, cl⟩
            rcases mem_upto hv hw with h | h
            · exact tk v h e
            · subst h; exact h2
          · rw [putS_new h2]
            refine ⟨S ++ [w.2.1], _, _, rfl, same_put s2 nd, upd_same, ?_, fun x hx => ?_, fun x hx => List.mem_append_left _ (sub x hx), fun v hv e => ?_, fun c => ?_⟩
            · rw [List.nodup_append]
              exact ⟨nd2, by simp, fun x hx y hy => by
                have : y = w.2.1 := by simpa using hy
                subst this
                exact fun z => h2 (z ▸ hx)⟩
            · rcases List.mem_append.mp hx with h | h
              · exact st2 x h
              · have e : x = w.2.1 := by simpa using h
                subst e
                exact ⟨(hE w hmem).2, (st2 w.1 h1).2.step hmem⟩
            · rcases mem_upto hv hw with h | h
              · exact List.mem_append_left _ (tk v h e)
              · subst h; exact List.mem_append_right _ (by simp)
            · have e := cl c
              subst e
              exact absurd (c w hmem h1) h2
        · rw [if_neg h1]
          refine iteF ⟨S, _, _, rfl, s2, hD2, nd2, st2, sub, fun v hv e => ?_, cl⟩
          rcases mem_upto hv hw with h | h
          · exact tk v h e
          · subst h; exact absurd (sub _ e) h1
      · rintro σ H2 ⟨S, z, u, rfl, s2, hD2, nd2, st2, sub, tk, cl⟩
        rw [List.length_map, hP.2.1, List.take_length] at tk
        refine ⟨S, _, _, _, rfl, s2, hD2, nd2, sub 0 z0, st2, ?_⟩
        by_cases c : Closed ws S0
        · have e := cl c
          subst e
          exact .inl c
        · rcases pr0 with h | h
          · exact absurd h c
          · right
            apply Classical.byContradiction
            intro hc
            refine c fun w hw h1 => ?_
            apply Classical.byContradiction
            intro h2
            have := sub_len (w.2.1 :: S0) S (List.nodup_cons.mpr ⟨h2, nd0⟩) fun x hx => by
              rcases List.mem_cons.mp hx with e | e
              · subst e; exact tk w hw h1
              · exact sub x e
            simp at this
            omega
    · rintro σ H' ⟨S, y, z, u, rfl, sH, hD, nd0, z0, st0, pr0⟩
      have hl := range S nd0 st0
      have c : Closed ws S := by
        rcases pr0 with h | h
        · exact h
        · omega
      have all : ∀ x, Star ws 0 x → x ∈ S := fun x hx => by
        rcases hx with e | g
        · subst e; exact z0
        · exact go_closed (st := 0) (F := S) (fun w hw e => c w hw (by rw [e]; exact z0)) (fun w hw e => c w hw e) g
      refine ⟨_, rfl, pd, _, rfl, hD, ?_⟩
      rw [dS_len]
      refine hQ S.length H' sH ⟨fun h1 h2 => ?_, fun h1 => ?_⟩
      · have := sub_len (seqI m.toNat) S (nodup_seqI _) fun x hx => by
          have q := mem_seqI.mp hx
          exact all x (h2 x q.1 (by omega))
        rw [seqI_len] at this
        omega
      · apply Classical.byContradiction
        intro h2
        exact h1 fun x x0 x1 => (st0 x (nodup_full (n := m.toNat) nd0 (fun y hy => by have := (st0 y hy).1; omega) (by omega) x x0 (by omega))).2
end
end Mp
/-! ## L5 -/
set_option Elab.async false
set_option linter.all false
set_option maxRecDepth 100000
set_option maxHeartbeats 4000000
namespace Mp
open PySem PySem.Spec PyProof.Rows L2 LamX
/-! ### ways as data -/
def dataW (w : Way) : PyData := .tuple [.int w.1, .int w.2.1, .int w.2.2]
def listW (ws : List Way) : PyData := .list (ws.map dataW)
theorem lay_ways : ∀ ws : List Way, PyData.canLayAll0 (ws.map dataW) = true
  | [] => rfl
  | w :: r => by simp [PyData.canLayAll0, PyData.canLay0, dataW, lay_ways r]
theorem depth_ways : ∀ ws : List Way, PyData.depthAll (ws.map dataW) ≤ 5
  | [] => by simp [PyData.depthAll]
  | w :: r => by
    have := depth_ways r
    simp [PyData.depthAll, PyData.depth, dataW]
    first | omega | (simp_all; done) | (constructor <;> omega)
theorem shaped_ways (ws : List Way) : SeqAt.shaped (listW ws) = true := by
  have h := depth_ways ws
  have : PyData.depth (listW ws) ≤ 64 := by
    simp only [listW, PyData.depth]
    omega
  unfold SeqAt.shaped
  rw [decide_eq_true this]
  simp [listW, PyData.canLay0, lay_ways]
theorem eqv_ways (ws : List Way) : PyData.eqv (listW ws) (listW ws) = true := SeqAt.eqv_refl _ (by simp [listW, PyData.canLay0, lay_ways])
theorem eqv_nil (ws : List Way) : PyData.eqv (listW ws) (.list []) = decide (ws = []) := by
  cases ws with
  | nil => simp [listW, PyData.eqv, PyData.eqvAll]
  | cons w r => simp [listW, PyData.eqv, PyData.eqvAll]
theorem dp_all {K : PySem.W.Frag} {H : Hp} : ∀ {ts : List Addr} {ws : List Way}, Tups H ts ws → DpAll K H (ts.map V.ref) (ws.map dataW)
  | [], [], _ => .nil
  | [], _ :: _, T => by have := T.1; simp at this
  | _ :: _, [], T => by have := T.1; simp at this
  | t :: ts, w :: ws, T => .cons (.tup (SqT.of (T.2 0 t w rfl rfl)) (.cons (.int _) (.cons (.int _) (.cons (.int _) .nil)))) (dp_all ⟨by have := T.1; simpa using this, fun i t' w' h1 h2 => T.2 (i + 1) t' w' h1 h2⟩)
theorem dp_ways {K : PySem.W.Frag} {H : Hp} {a : Addr} {ts : List Addr} {ws : List Way} (W : WList H a ts ws) : Dp K H (.ref a) (listW ws) := .lst (SqL.of W.1) (dp_all W.2)
theorem shaped_nil : SeqAt.shaped (.list []) = true := by simp [SeqAt.shaped, PyData.canLay0, PyData.canLayAll0, PyData.depth, PyData.depthAll]
section
variable {P : Program} {w : World} {K : PySem.W.Frag} {mg : Str → Option Value} {base : Heap}
/-- a list of ways is compared with [] -/
theorem ne_nil_at {X : V} {H : Hp} {D p : Addr} {acc : List V} (hD : H D = some (.lst acc)) (hx : ∀ v ∈ acc, Tup3 H v) (np : H p = none) {Q : V → Hp → Prop} (q : Q (.bl (!decide (acc = []))) (upd H p (.lst []))) : rNeD K (.ref D) (.ref p) (upd H p (.lst [])) Q := by
  obtain ⟨ts, ws, e, T⟩ := tups_of hx
  subst e
  have s := same_new (o := .lst []) (Same.refl H) np
  refine ⟨listW ws, .list [], dp_ways ⟨s _ _ hD, T.same (same_tups s)⟩, .lst (SqL.of upd_same) .nil, shaped_ways _, shaped_nil, ?_⟩
  rw [eqv_nil]
  have e : decide (ws = []) = decide (ts.map V.ref = []) := by
    have := T.1
    cases ws <;> cases ts <;> simp_all
  rw [e]
  exact q
theorem pairs_of {H : Hp} : ∀ {b : Addr} {xs : List V} {ws : List Way}, H b = some (.lst xs) → xs.length = ws.length → (∀ (i : Nat) (v : V) (w : Way), xs[i]? = some v → ws[i]? = some w → ∃ t, v = .ref t ∧ H t = some (.tup [.int w.1, .int w.2.1])) → ∃ ts, Pairs H b ts ws := by
  intro b xs ws hb hl h
  have key : ∀ (xs : List V) (ws : List Way), xs.length = ws.length → (∀ (i : Nat) (v : V) (w : Way), xs[i]? = some v → ws[i]? = some w → ∃ t, v = .ref t ∧ H t = some (.tup [.int w.1, .int w.2.1])) →
      ∃ ts : List Addr, xs = ts.map V.ref ∧ ts.length = ws.length ∧ ∀ (i : Nat) (t : Addr) (w : Way), ts[i]? = some t → ws[i]? = some w → H t = some (.tup [.int w.1, .int w.2.1]) := by
    intro xs
    induction xs with
    | nil =>
      intro ws hl h
      exact ⟨[], rfl, by simpa using hl, fun i t w h1 => by cases h1⟩
    | cons v r ih =>
      intro ws hl h
      cases ws with
      | nil => simp at hl
      | cons w ws =>
        obtain ⟨ts, e, l, q⟩ := ih ws (by simpa using hl) fun i v' w' h1 h2 => h (i + 1) v' w' h1 h2
        obtain ⟨t, e1, h1⟩ := h 0 v w rfl rfl
        refine ⟨t :: ts, by rw [e1, e]; rfl, by simp [l], fun i t' w' h2 h3 => ?_⟩
        cases i with
        | zero => cases h2; cases h3; exact h1
        | succ i => exact q i t' w' h2 h3
  obtain ⟨ts, e, l, q⟩ := key xs ws hl h
  exact ⟨ts, by rw [hb, e], l, q⟩
def spDue : Sp := fun vs H Q _ => ∃ (m : Int) (a : Addr) (ts : List Addr) (ws : List Way), vs = [.int m, .ref a] ∧ WList H a ts ws ∧ ws.length ≤ 500 ∧
  (∀ H', Same H H' → ¬ (1 ≤ m ∧ m ≤ 12 ∧ ws.length ≤ 60) → Q (.str "count") H') ∧
  (∀ H', Same H H' → 1 ≤ m ∧ m ≤ 12 ∧ ws.length ≤ 60 → (¬ ∀ w ∈ ws, EndsOk m w) → Q (.str "meeting") H') ∧
  (∀ H', Same H H' → 1 ≤ m ∧ m ≤ 12 ∧ ws.length ≤ 60 → (∀ w ∈ ws, EndsOk m w) → (¬ ∀ w ∈ ws, DelayOk w) → Q (.str "delay") H') ∧
  (∀ H', Same H H' → 1 ≤ m ∧ m ≤ 12 ∧ ws.length ≤ 60 → (∀ w ∈ ws, EndsOk m w) → (∀ w ∈ ws, DelayOk w) → ¬ Piece m ws → Q (.str "apart") H') ∧
  (∀ H', Same H H' → 1 ≤ m ∧ m ≤ 12 ∧ ws.length ≤ 60 → (∀ w ∈ ws, EndsOk m w) → (∀ w ∈ ws, DelayOk w) → Piece m ws → Q (.str "") H')
theorem scDu : FnScope ["_law_many_here", "_law_ways_here", "_law_way"] ["_law_many_here", "_law_ways_here"] (defScope sDue) := ⟨rfl, rfl, rfl, by decide +kernel, rfl, by decide +kernel, by decide +kernel⟩
theorem ok_due {f fM : Addr} {fd fdM : FuncData} (F : Fun K "_law_due" "_law_due" sDue f fd) (FM : Fun K "_law_met" "_law_met" sMet fM fdM) (Z : Names0 mg) (gM : mg "_law_met" = some (.ref fM)) (bM : Binds K fdM ["_law_many_here", "_law_pairs"] []) :
    FnOk P w K mg base CX0 2 f fd ["_law_many_here", "_law_ways_here"] spDue := by
  have GM : FnOk P w K mg base CX0 1 fM fdM ["_law_many_here", "_law_pairs"] spMet := ok_met FM Z
  refine F.ok scDu (fun vs H Q E h => ?_) (fun cdv A outer s H vs Q E hr h => ?_)
  · obtain ⟨m, a, ts, ws, rfl, _⟩ := h
    rfl
  · obtain ⟨m, a, ts, ws, rfl, hW, hlen, h1, h2, h3, h4, h5⟩ := h
    refine ⟨_, pss_cons (ps_if (PW.pt (pw_or (pt_cmpR op_lt (pv 0) pe_int (nomark _)) (pw_or (pt_cmpR op_gt (pv 0) pe_int (nomark _)) (pw_or1 (pt_cmpR op_gt (pe_callB call_len_seq (by rfl) Z.len PySem.boot_len (pa_cons (pv 1) pa_nil)) pe_int (nomark _)))))) (pss_one (ps_ret pe_str)) pss_nil)
      (C8.pss_cut (ps_if (pt_cmpR (op_neD hr.units) (pe_lc (own := [("_law_way", 2)]) (g := gName 2) rfl scDu.nd (pi_list (pv 1)) (blkOk_by (own := [("_law_way", 2)]) (N := ["_law_many_here", "_law_ways_here", "_law_way"]) (sc := defScope sDue) (by decide +kernel)) (fun _ _ _ _ _ => pg_name (i := 2) scDu.nd rfl (.inl rfl))
          (fun _ _ _ _ _ => pts_one (PW.pt (pw_or (pt_not (pt_chain op_le op_lt pe_int (pe_ix (r := rIxT K) ix_tup (pv 2) pe_int (fun _ _ => rfl)) (pv 0))) (pw_or1 (pt_not (pt_chain op_le op_lt pe_int (pe_ix (r := rIxT K) ix_tup (pv 2) pe_int (fun _ _ => rfl)) (pv 0)))))))
          (fun _ _ _ _ _ => pv 2)) (pe_lst pa_nil) (nomark _)) (pss_one (ps_ret pe_str)) pss_nil)
      (C8.pss_cut (ps_if (pt_cmpR (op_neD hr.units) (pe_lc (own := [("_law_way", 2)]) (g := gName 2) rfl scDu.nd (pi_list (pv 1)) (blkOk_by (own := [("_law_way", 2)]) (N := ["_law_many_here", "_law_ways_here", "_law_way"]) (sc := defScope sDue) (by decide +kernel)) (fun _ _ _ _ _ => pg_name (i := 2) scDu.nd rfl (.inl rfl))
          (fun _ _ _ _ _ => pts_one (pt_not (pt_chain op_le op_le pe_int (pe_ix (r := rIxT K) ix_tup (pv 2) pe_int (fun _ _ => rfl)) pe_int)))
          (fun _ _ _ _ _ => pv 2)) (pe_lst pa_nil) (nomark _)) (pss_one (ps_ret pe_str)) pss_nil)
      (C8.pss_cut (ps_if (PW.pt (pw_or (pt_cmpR (op_eqD hr.units) (pv 1) (pe_lst pa_nil) (nomark _)) (pw_or1 (pt_cmpR op_lt (pe_call GM hr rfl gM FM.kp bM .nil pass0 (pa_cons (pv 0) (pa_cons
          (pe_lc (own := [("_law_way", 2)]) (g := gName 2) rfl scDu.nd (pi_list (pv 1)) (blkOk_by (own := [("_law_way", 2)]) (N := ["_law_many_here", "_law_ways_here", "_law_way"]) (sc := defScope sDue) (by decide +kernel)) (fun _ _ _ _ _ => pg_name (i := 2) scDu.nd rfl (.inl rfl)) (fun _ _ _ _ _ => pts_nil)
            (fun _ _ _ _ _ => pe_tup (pa_cons (pe_ix (r := rIxT K) ix_tup (pv 2) pe_int (fun _ _ => rfl)) (pa_cons (pe_ix (r := rIxT K) ix_tup (pv 2) pe_int (fun _ _ => rfl)) pa_nil)))) pa_nil))) (pv 0) (nomark _))))) (pss_one (ps_ret pe_str)) pss_nil)
      (pss_cons (ps_if (pt_cmpR op_lt (pe_call GM hr rfl gM FM.kp bM .nil pass0 (pa_cons (pv 0) (pa_cons
          (pe_lc (own := [("_law_way", 2)]) (g := gName 2) rfl scDu.nd (pi_list (pv 1)) (blkOk_by (own := [("_law_way", 2)]) (N := ["_law_many_here", "_law_ways_here", "_law_way"]) (sc := defScope sDue) (by decide +kernel)) (fun _ _ _ _ _ => pg_name (i := 2) scDu.nd rfl (.inl rfl)) (fun _ _ _ _ _ => pts_nil)
            (fun _ _ _ _ _ => pe_tup (pa_cons (pe_ix (r := rIxT K) ix_tup (pv 2) pe_int (fun _ _ => rfl)) (pa_cons (pe_ix (r := rIxT K) ix_tup (pv 2) pe_int (fun _ _ => rfl)) pa_nil)))) pa_nil))) (pv 0) (nomark _)) (pss_one (ps_ret pe_str)) pss_nil)
      (pss_one (ps_ret pe_str)))))), ?_⟩
    obtain ⟨ha, hT⟩ := hW
    have ln : (ts.map V.ref).length = ws.length := by rw [List.length_map, hT.1]
    have S0 := Same.refl H
    -- the counts
    refine ⟨_, rfl, _, _, rfl, rfl, _, rfl, ite2 (fun c => iteT (h1 H S0 (by have := of_decide_eq_true c; omega))) fun c1 => ?_⟩
    refine ⟨_, rfl, _, _, rfl, rfl, _, rfl, ite2 (fun c => iteT (h1 H S0 (by have := of_decide_eq_true c; omega))) fun c2 => ?_⟩
    refine ⟨_, rfl, a, _, rfl, .inl (SqL.of ha), _, _, rfl, rfl, _, rfl, ite2 (fun c => h1 H S0 (by have := of_decide_eq_true c; rw [ln] at this; omega)) fun c3 => ?_⟩
    have cc : 1 ≤ m ∧ m ≤ 12 ∧ ws.length ≤ 60 := by
      have a1 : ¬ m < 1 := fun z => c1 (decide_eq_true z)
      have a2 : ¬ 12 < m := fun z => c2 (decide_eq_true z)
      have a3 : ¬ 60 < ((ts.map V.ref).length : Int) := fun z => c3 (decide_eq_true z)
      rw [ln] at a3
      omega
    clear c1 c2 c3
    -- the ends
    refine ⟨fun σ' H' => σ' = [some (.int m), some (.ref a), none] ∧ Same H H' ∧ ∀ w ∈ ws, EndsOk m w, ⟨_, rfl, a, rfl, ⟨_, SqL.of ha⟩, fun D nD => lc_list (K := K) (a := a) (xs := ts.map V.ref) (fun i H' => ∃ acc, H' D = some (.lst acc) ∧ Same H H' ∧ (∀ v ∈ acc, Tup3 H' v) ∧ acc.length ≤ i ∧ (acc = [] ↔ ∀ w ∈ ws.take i, EndsOk m w))
        ⟨[], upd_same, same_new S0 nD, (fun v hv => by cases hv), Nat.le_refl _, by simp⟩ (fun i H' _ ⟨_, _, sm, _⟩ => SqL.of (sm _ _ ha)) ?_ ?_⟩, ?_⟩
    · rintro i x H' hi ⟨acc, hD, sm, hx, hl, hg⟩
      obtain ⟨t, w, rfl, _, hw, hmem, ht⟩ := hT.at hi
      have hil : i < ws.length := (List.getElem?_eq_some_iff.mp hw).1
      have bad : ¬ EndsOk m w → ∃ acc', (upd H' D (.lst (acc ++ [V.ref t]))) D = some (.lst acc') ∧ Same H (upd H' D (.lst (acc ++ [V.ref t]))) ∧ (∀ v ∈ acc', Tup3 (upd H' D (.lst (acc ++ [V.ref t]))) v) ∧ acc'.length ≤ i + 1 ∧ (acc' = [] ↔ ∀ w ∈ ws.take (i + 1), EndsOk m w) := fun b => by
        have tup : ∀ b xs, H' b = some (.tup xs) → (upd H' D (.lst (acc ++ [V.ref t]))) b = some (.tup xs) := fun b xs e => by rw [upd_ne (ne_of e hD (by intro z; cases z))]; exact e
        refine ⟨_, upd_same, same_put sm nD, fun v hv => ?_, by simp; omega, ⟨fun z => by simp at z, fun z => ?_⟩⟩
        · rcases List.mem_append.mp hv with h | h
          · exact (hx v h).same tup
          · exact ⟨t, w, by simpa using h, tup _ _ (sm _ _ ht)⟩
        · exact absurd (z w (by rw [List.take_add_one, hw]; simp)) b
      have good : EndsOk m w → ∃ acc', H' D = some (.lst acc') ∧ Same H H' ∧ (∀ v ∈ acc', Tup3 H' v) ∧ acc'.length ≤ i + 1 ∧ (acc' = [] ↔ ∀ w ∈ ws.take (i + 1), EndsOk m w) := fun g =>
        ⟨acc, hD, sm, hx, by omega, hg.trans ⟨fun z v hv => by
          rcases mem_upto hv hw with h | h
          · exact z v h
          · subst h; exact g, fun z v hv => z v (by rw [List.take_add_one]; exact List.mem_append_left _ hv)⟩⟩
      have small : acc.length < sizeLine := small1000 (by omega)
      refine ⟨rfl, ?_⟩
      have hS := SqT.of (K := K) (sm _ _ ht)
      refine ⟨_, rfl, t, _, 0, .int w.1, rfl, rfl, hS, atI_nat (j := 0) rfl, _, _, rfl, rfl, _, rfl, ?_⟩
      by_cases k1 : 0 ≤ w.1
      · rw [decide_eq_true k1]
        refine iteT ⟨_, rfl, _, _, rfl, rfl, _, rfl, ?_⟩
        by_cases k2 : w.1 < m
        · rw [decide_eq_true k2]
          refine iteF ⟨_, rfl, t, _, 1, .int w.2.1, rfl, rfl, hS, atI_nat (j := 1) rfl, _, _, rfl, rfl, _, rfl, ?_⟩
          by_cases k3 : 0 ≤ w.2.1
          · rw [decide_eq_true k3]
            refine iteT ⟨_, rfl, _, _, rfl, rfl, _, rfl, ?_⟩
            by_cases k4 : w.2.1 < m
            · rw [decide_eq_true k4]
              exact iteF (good ⟨⟨k1, k2⟩, k3, k4⟩)
            · rw [decide_eq_false k4]
              exact iteT ⟨_, rfl, acc, hD, small, bad fun z => k4 z.2.2⟩
          · rw [decide_eq_false k3]
            exact iteF ⟨_, rfl, iteT ⟨_, rfl, acc, hD, small, bad fun z => k3 z.2.1⟩⟩
        · rw [decide_eq_false k2]
          exact iteT (iteT ⟨_, rfl, acc, hD, small, bad fun z => k2 z.1.2⟩)
      · rw [decide_eq_false k1]
        exact iteF ⟨_, rfl, iteT (iteT ⟨_, rfl, acc, hD, small, bad fun z => k1 z.1.1⟩)⟩
    · rintro H' ⟨acc, hD, sm, hx, hl, hg⟩
      rw [ln, List.take_length] at hg
      refine ⟨Nat.zero_le _, fun p np => ne_nil_at (X := .non) hD hx np ⟨_, rfl, ?_⟩⟩
      have sm2 := same_new (o := .lst []) sm np
      by_cases e : acc = []
      · rw [decide_eq_true e]
        exact iteF ⟨rfl, sm2, hg.mp e⟩
      · rw [decide_eq_false e]
        exact iteT (h2 _ sm2 cc fun z => e (hg.mpr z))
    rintro σ' H1 ⟨rfl, sm1, hE⟩
    have ha1 := sm1 _ _ ha
    -- the delays
    refine ⟨fun σ' H' => σ' = [some (.int m), some (.ref a), none] ∧ Same H H' ∧ ∀ w ∈ ws, DelayOk w, ⟨_, rfl, a, rfl, ⟨_, SqL.of ha1⟩, fun D nD => lc_list (K := K) (a := a) (xs := ts.map V.ref) (fun i H' => ∃ acc, H' D = some (.lst acc) ∧ Same H H' ∧ Same H1 H' ∧ (∀ v ∈ acc, Tup3 H' v) ∧ acc.length ≤ i ∧ (acc = [] ↔ ∀ w ∈ ws.take i, DelayOk w))
        ⟨[], upd_same, same_new sm1 nD, same_new (Same.refl _) nD, (fun v hv => by cases hv), Nat.le_refl _, by simp⟩ (fun i H' _ ⟨_, _, sm, _⟩ => SqL.of (sm _ _ ha)) ?_ ?_⟩, ?_⟩
    · rintro i x H' hi ⟨acc, hD, sm, sm', hx, hl, hg⟩
      obtain ⟨t, w, rfl, _, hw, hmem, ht⟩ := hT.at hi
      have hil : i < ws.length := (List.getElem?_eq_some_iff.mp hw).1
      have bad : ¬ DelayOk w → ∃ acc', (upd H' D (.lst (acc ++ [V.ref t]))) D = some (.lst acc') ∧ Same H (upd H' D (.lst (acc ++ [V.ref t]))) ∧ Same H1 (upd H' D (.lst (acc ++ [V.ref t]))) ∧ (∀ v ∈ acc', Tup3 (upd H' D (.lst (acc ++ [V.ref t]))) v) ∧ acc'.length ≤ i + 1 ∧ (acc' = [] ↔ ∀ w ∈ ws.take (i + 1), DelayOk w) := fun b => by
        have tup : ∀ b xs, H' b = some (.tup xs) → (upd H' D (.lst (acc ++ [V.ref t]))) b = some (.tup xs) := fun b xs e => by rw [upd_ne (ne_of e hD (by intro z; cases z))]; exact e
        refine ⟨_, upd_same, fun b o e => by rw [upd_ne (ne_of_none (sm1 b o e) nD)]; exact sm b o e, same_put sm' nD, fun v hv => ?_, by simp; omega, ⟨fun z => by simp at z, fun z => ?_⟩⟩
        · rcases List.mem_append.mp hv with h | h
          · exact (hx v h).same tup
          · exact ⟨t, w, by simpa using h, tup _ _ (sm _ _ ht)⟩
        · exact absurd (z w (by rw [List.take_add_one, hw]; simp)) b
      have good : DelayOk w → ∃ acc', H' D = some (.lst acc') ∧ Same H H' ∧ Same H1 H' ∧ (∀ v ∈ acc', Tup3 H' v) ∧ acc'.length ≤ i + 1 ∧ (acc' = [] ↔ ∀ w ∈ ws.take (i + 1), DelayOk w) := fun g =>
        ⟨acc, hD, sm, sm', hx, by omega, hg.trans ⟨fun z v hv => by
          rcases mem_upto hv hw with h | h
          · exact z v h
          · subst h; exact g, fun z v hv => z v (by rw [List.take_add_one]; exact List.mem_append_left _ hv)⟩⟩
      have small : acc.length < sizeLine := small1000 (by omega)
      refine ⟨rfl, ?_⟩
      have hS := SqT.of (K := K) (sm _ _ ht)
      refine ⟨_, rfl, t, _, 2, .int w.2.2, rfl, rfl, hS, atI_nat (j := 2) rfl, _, _, rfl, rfl, _, rfl, ?_⟩
      by_cases k1 : 0 ≤ w.2.2
      · rw [decide_eq_true k1]
        refine iteT ⟨_, _, rfl, rfl, _, rfl, ?_⟩
        by_cases k2 : w.2.2 ≤ 9999
        · rw [decide_eq_true k2]
          exact iteF (good ⟨k1, k2⟩)
        · rw [decide_eq_false k2]
          exact iteT ⟨_, rfl, acc, hD, small, bad fun z => k2 z.2⟩
      · rw [decide_eq_false k1]
        exact iteF ⟨_, rfl, iteT ⟨_, rfl, acc, hD, small, bad fun z => k1 z.1⟩⟩
    · rintro H' ⟨acc, hD, sm, sm', hx, hl, hg⟩
      rw [ln, List.take_length] at hg
      refine ⟨Nat.zero_le _, fun p np => ne_nil_at (X := .non) hD hx np ⟨_, rfl, ?_⟩⟩
      have sm2 := same_new (o := .lst []) sm np
      by_cases e : acc = []
      · rw [decide_eq_true e]
        exact iteF ⟨rfl, sm2, hg.mp e⟩
      · rw [decide_eq_false e]
        exact iteT (h3 _ sm2 cc hE fun z => e (hg.mpr z))
    clear sm1 ha1 H1
    rintro σ' H1 ⟨rfl, sm1, hD⟩
    have ha1 := sm1 _ _ ha
    have T1 := hT.same (same_tups sm1)
    have pieces := piece_iff (m := m) (ws := ws) cc.1 hE
    -- some way, all from nought
    refine ⟨fun σ' H' => σ' = [some (.int m), some (.ref a), none] ∧ Same H H' ∧ ws ≠ [] ∧ ∀ x, 0 ≤ x → x < m → Star ws 0 x, ⟨_, rfl, Nat.zero_le _, fun p np => ?_⟩, ?_⟩
    · have s2 := same_new (o := .lst []) (Same.refl H1) np
      refine ⟨listW ws, .list [], dp_ways ⟨s2 _ _ ha1, T1.same (same_tups s2)⟩, .lst (SqL.of upd_same) .nil, shaped_ways _, shaped_nil, _, rfl, ?_⟩
      rw [eqv_nil]
      have sm2 := sm1.trans s2
      have ha2 := sm2 _ _ ha
      generalize upd H1 p (.lst []) = H2 at s2 sm2 ha2
      by_cases e : ws = []
      · rw [decide_eq_true e]
        exact iteT (iteT (h4 _ sm2 cc hE hD fun z => (pieces.mp z).1 e))
      · rw [decide_eq_false e]
        refine iteF ⟨_, rfl, _, rfl, a, rfl, ⟨_, SqL.of ha2⟩, fun D nD => lc_list (K := K) (a := a) (xs := ts.map V.ref) (fun i H' => ∃ acc, H' D = some (.lst acc) ∧ Same H2 H' ∧ acc.length = i ∧ ∀ (j : Nat) (v : V) (w : Way), acc[j]? = some v → ws[j]? = some w → ∃ t, v = .ref t ∧ H' t = some (.tup [.int w.1, .int w.2.1]))
          ⟨[], upd_same, same_new (Same.refl _) nD, rfl, fun j v w h => by cases h⟩ (fun i H' _ ⟨_, _, sm, _⟩ => SqL.of (sm _ _ ha2)) ?_ ?_⟩
        · rintro i x H' hi ⟨acc, hDa, sm, hl, hp⟩
          obtain ⟨t, w, rfl, _, hw, hmem, ht⟩ := hT.at hi
          have hil : i < ws.length := (List.getElem?_eq_some_iff.mp hw).1
          have hS := SqT.of (K := K) (sm _ _ (sm2 _ _ ht))
          refine ⟨rfl, ?_⟩
          refine ⟨_, rfl, t, _, 0, .int w.1, rfl, rfl, hS, atI_nat (j := 0) rfl, _, rfl, t, _, 1, .int w.2.1, rfl, rfl, hS, atI_nat (j := 1) rfl, (by show 2 ≤ sizeLine; decide), fun q nq => ?_⟩
          have Dq : D ≠ q := ne_of_none hDa nq
          refine ⟨acc, by rw [upd_ne Dq]; exact hDa, small1000 (by omega), acc ++ [V.ref q], upd_same, same_put (same_new sm nq) nD, by simp [hl], fun j v w' h1 h2 => ?_⟩
          by_cases hj : j < acc.length
          · rw [List.getElem?_append_left hj] at h1
            obtain ⟨t', e', h'⟩ := hp j v w' h1 h2
            refine ⟨t', e', ?_⟩
            rw [upd_ne (ne_of h' hDa (by intro z; cases z)), upd_ne (ne_of_none h' nq)]
            exact h'
          · have hj2 : j = i := by
              have := (List.getElem?_eq_some_iff.mp h1).1
              simp at this
              omega
            subst hj2
            rw [List.getElem?_append_right (by omega), hl, Nat.sub_self] at h1
            rw [hw] at h2
            cases h1
            cases h2
            exact ⟨q, rfl, by rw [upd_ne Dq.symm, upd_same]⟩
        · rintro H' ⟨acc, hDa, sm, hl, hp⟩
          obtain ⟨ps, hP⟩ := pairs_of (ws := ws) hDa (by rw [hl, ln]) hp
          refine ⟨m, D, ps, ws, rfl, hP, cc.1, cc.2.1, hE, fun n H3 s3 hn => ⟨_, rfl, _, _, rfl, rfl, _, rfl, ?_⟩⟩
          have S3 := (sm2.trans sm).trans s3
          by_cases c : (n : Int) < m
          · rw [decide_eq_true c]
            exact iteT (h4 _ S3 cc hE hD fun z => hn.mp c (pieces.mp z).2.1)
          · rw [decide_eq_false c]
            exact iteF ⟨rfl, S3, e, Classical.byContradiction fun z => c (hn.mpr z)⟩
    clear ha1 T1 sm1 H1
    rintro σ' H2 ⟨rfl, sm2, hne, hfw⟩
    have ha2 := sm2 _ _ ha
    have hEf : ∀ w ∈ ws.map flipW, EndsOk m w := fun w hw => by
      obtain ⟨v, hv, rfl⟩ := List.mem_map.mp hw
      exact ⟨(hE v hv).2, (hE v hv).1⟩
    refine ⟨_, rfl, _, rfl, a, rfl, ⟨_, SqL.of ha2⟩, fun D nD => lc_list (K := K) (a := a) (xs := ts.map V.ref) (fun i H' => ∃ acc, H' D = some (.lst acc) ∧ Same H2 H' ∧ acc.length = i ∧ ∀ (j : Nat) (v : V) (w : Way), acc[j]? = some v → (ws.map flipW)[j]? = some w → ∃ t, v = .ref t ∧ H' t = some (.tup [.int w.1, .int w.2.1]))
          ⟨[], upd_same, same_new (Same.refl _) nD, rfl, fun j v w h => by cases h⟩ (fun i H' _ ⟨_, _, sm, _⟩ => SqL.of (sm _ _ ha2)) ?_ ?_⟩
    · rintro i x H' hi ⟨acc, hDa, sm, hl, hp⟩
      obtain ⟨t, w, rfl, _, hw, hmem, ht⟩ := hT.at hi
      have hil : i < ws.length := (List.getElem?_eq_some_iff.mp hw).1
      have hS := SqT.of (K := K) (sm _ _ (sm2 _ _ ht))
      refine ⟨rfl, ?_⟩
      refine ⟨_, rfl, t, _, 1, .int w.2.1, rfl, rfl, hS, atI_nat (j := 1) rfl, _, rfl, t, _, 0, .int w.1, rfl, rfl, hS, atI_nat (j := 0) rfl, (by show 2 ≤ sizeLine; decide), fun q nq => ?_⟩
      have Dq : D ≠ q := ne_of_none hDa nq
      refine ⟨acc, by rw [upd_ne Dq]; exact hDa, small1000 (by omega), acc ++ [V.ref q], upd_same, same_put (same_new sm nq) nD, by simp [hl], fun j v w' h1 h2 => ?_⟩
      by_cases hj : j < acc.length
      · rw [List.getElem?_append_left hj] at h1
        obtain ⟨t', e', h'⟩ := hp j v w' h1 h2
        refine ⟨t', e', ?_⟩
        rw [upd_ne (ne_of h' hDa (by intro z; cases z)), upd_ne (ne_of_none h' nq)]
        exact h'
      · have hj2 : j = i := by
          have := (List.getElem?_eq_some_iff.mp h1).1
          simp at this
          omega
        subst hj2
        rw [List.getElem?_append_right (by omega), hl, Nat.sub_self] at h1
        rw [List.getElem?_map, hw] at h2
        cases h1
        cases h2
        exact ⟨q, rfl, by rw [upd_ne Dq.symm, upd_same]; rfl⟩
    · rintro H' ⟨acc, hDa, sm, hl, hp⟩
      obtain ⟨ps, hP⟩ := pairs_of (ws := ws.map flipW) hDa (by rw [hl, ln, List.length_map]) hp
      refine ⟨m, D, ps, ws.map flipW, rfl, hP, cc.1, cc.2.1, hEf, fun n H3 s3 hn => ⟨_, rfl, _, _, rfl, rfl, _, rfl, ?_⟩⟩
      have S3 := (sm2.trans sm).trans s3
      by_cases c : (n : Int) < m
      · rw [decide_eq_true c]
        exact iteT (h4 _ S3 cc hE hD fun z => hn.mp c (pieces.mp z).2.2)
      · rw [decide_eq_false c]
        exact iteF (h5 _ S3 cc hE hD (pieces.mpr ⟨hne, hfw, Classical.byContradiction fun z => c (hn.mpr z)⟩))
end
end Mp
/-! ## L6 -/
set_option Elab.async false
set_option linter.all false
set_option maxRecDepth 100000
set_option maxHeartbeats 4000000
namespace Mp
open PySem PySem.Spec PyProof.Rows L2 LamX L2H HotX
/-- what isinstance says of the class C and the six others -/
structure Kit4 (K : PySem.W.Frag) (C CB CM CD CA CN CP : Addr) : Prop where
  ex : ExcC K C
  v : PySem.W.kitOne K (.ref C) (.type "ValueError") = some true
  b : PySem.W.kitOne K (.ref C) (.ref CB) = some (decide (C = CB))
  m : PySem.W.kitOne K (.ref C) (.ref CM) = some (decide (C = CM))
  d : PySem.W.kitOne K (.ref C) (.ref CD) = some (decide (C = CD))
  a : PySem.W.kitOne K (.ref C) (.ref CA) = some (decide (C = CA))
  n : PySem.W.kitOne K (.ref C) (.ref CN) = some false
  p : PySem.W.kitOne K (.ref C) (.ref CP) = some false
structure NamesW (mg : Str → Option Value) (CB CM CD CA CN CP : Addr) : Prop where
  isin : mg "isinstance" = none
  ve : mg "ValueError" = none
  b : mg "BadCount" = some (.ref CB)
  m : mg "NoMeeting" = some (.ref CM)
  d : mg "BadDelay" = some (.ref CD)
  a : mg "Apart" = some (.ref CA)
  n : mg "NoRing" = some (.ref CN)
  p : mg "BadPace" = some (.ref CP)
def Fit (H : Hp) (v : V) (s : Str) (b : Bool) : Prop := ∃ t : Addr, v = .ref t ∧ H t = some (.tup [.str s, .bl b])
theorem Fit.same {H H' : Hp} {v : V} {s : Str} {b : Bool} (h : Fit H v s b) (S : Same H H') : Fit H' v s b := by
  obtain ⟨t, e, h⟩ := h
  exact ⟨t, e, S _ _ h⟩
def Fits (H : Hp) : List V → List (Str × Bool) → Prop
  | [], [] => True
  | v :: r, (s, b) :: q => Fit H v s b ∧ Fits H r q
  | _, _ => False
theorem Fits.same {H H' : Hp} : ∀ {xs : List V} {L : List (Str × Bool)}, Fits H xs L → Same H H' → Fits H' xs L
  | [], [], _, _ => trivial
  | _ :: _, (_, _) :: _, h, S => ⟨h.1.same S, Fits.same h.2 S⟩
  | [], _ :: _, h, _ => h.elim
  | _ :: _, [], h, _ => h.elim
theorem Fits.at {H : Hp} : ∀ {xs : List V} {L : List (Str × Bool)} {i : Nat} {x : V}, Fits H xs L → xs[i]? = some x → ∃ s b, L[i]? = some (s, b) ∧ Fit H x s b
  | v :: r, (s, b) :: q, 0, x, h, e => by
    cases e
    exact ⟨s, b, rfl, h.1⟩
  | v :: r, (s, b) :: q, i + 1, x, h, e => Fits.at (xs := r) (L := q) h.2 e
  | [], _, i, x, h, e => by cases e
  | _ :: _, [], _, _, h, _ => h.elim
theorem Fits.len {H : Hp} : ∀ {xs : List V} {L : List (Str × Bool)}, Fits H xs L → xs.length = L.length
  | [], [], _ => rfl
  | _ :: _, (_, _) :: _, h => by rw [List.length_cons, List.length_cons, Fits.len h.2]
  | [], _ :: _, h => h.elim
  | _ :: _, [], h => h.elim
theorem Fits.app {H : Hp} : ∀ {xs ys : List V} {L M : List (Str × Bool)}, Fits H xs L → Fits H ys M → Fits H (xs ++ ys) (L ++ M)
  | [], _, [], _, _, g => g
  | _ :: _, _, (_, _) :: _, _, h, g => ⟨h.1, Fits.app h.2 g⟩
  | [], _, _ :: _, _, h, _ => h.elim
  | _ :: _, _, [], _, h, _ => h.elim
def got (L : List (Str × Bool)) : List Str := (L.filter (·.2)).map (·.1)
theorem got_add (L : List (Str × Bool)) (i : Nat) (s : Str) (b : Bool) (h : L[i]? = some (s, b)) : got (L.take (i + 1)) = got (L.take i) ++ (if b = true then [s] else []) := by
  rw [List.take_add_one, h]
  unfold got
  rw [List.filter_append, List.map_append]
  cases b <;> simp
theorem two {H : Hp} {p1 p2 q : Addr} {s1 s2 : Str} {b1 b2 : Bool} (n1 : H p1 = none) (n2 : (upd H p1 (.tup [.str s1, .bl b1])) p2 = none) (n3 : (upd (upd H p1 (.tup [.str s1, .bl b1])) p2 (.tup [.str s2, .bl b2])) q = none) :
    Same H (upd (upd (upd H p1 (.tup [.str s1, .bl b1])) p2 (.tup [.str s2, .bl b2])) q (.lst [.ref p1, .ref p2])) ∧ (upd (upd (upd H p1 (.tup [.str s1, .bl b1])) p2 (.tup [.str s2, .bl b2])) q (.lst [.ref p1, .ref p2])) q = some (.lst [.ref p1, .ref p2]) ∧
      Fits (upd (upd (upd H p1 (.tup [.str s1, .bl b1])) p2 (.tup [.str s2, .bl b2])) q (.lst [.ref p1, .ref p2])) [.ref p1, .ref p2] [(s1, b1), (s2, b2)] := by
  have e12 : p1 ≠ p2 := ne_of_none upd_same n2
  have h2 : (upd (upd H p1 (.tup [.str s1, .bl b1])) p2 (.tup [.str s2, .bl b2])) p1 = some (.tup [.str s1, .bl b1]) := by rw [upd_ne e12, upd_same]
  refine ⟨same_new (same_new (same_new (Same.refl _) n1) n2) n3, upd_same, ⟨p1, rfl, ?_⟩, ⟨p2, rfl, ?_⟩, trivial⟩
  · rw [upd_ne (ne_of_none h2 n3)]; exact h2
  · rw [upd_ne (ne_of_none upd_same n3), upd_same]
section
variable {P : Program} {w : World} {K : PySem.W.Frag} {mg : Str → Option Value} {base : Heap}
def fits6 (C CB CM CD CA : Addr) : List (Str × Bool) := [(("count" : Str), decide (C = CB)), (("meeting" : Str), decide (C = CM))] ++ [(("delay" : Str), decide (C = CD)), (("apart" : Str), decide (C = CA))] ++ [(("ring" : Str), false), (("pace" : Str), false)]
def spWord (K : PySem.W.Frag) (CB CM CD CA CN CP : Addr) : Addr → Addr → Sp := fun e C vs H Q _ => vs = [.ref e] ∧ Kit4 K C CB CM CD CA CN CP ∧ ∃ s : Str, s.length ≤ 100 ∧ Txt.join " " (got (fits6 C CB CM CD CA)) = s ∧ ((got (fits6 C CB CM CD CA)).map (·.length)).sum ≤ 100 ∧ ∀ H', Same H H' → Q (.str (("refused " : Str) ++ s)) H'
theorem scWo : FnScope ["_law_error", "_law_some", "_law_word", "_law_fits"] ["_law_error"] (defScope sWord) := ⟨rfl, rfl, rfl, by decide +kernel, rfl, by decide +kernel, by decide +kernel⟩
theorem ok_word {f CB CM CD CA CN CP : Addr} {fd : FuncData} (F : Fun K "_law_word_of" "_law_word_of" sWord f fd) (Z : NamesW mg CB CM CD CA CN CP) : FnE P w K mg base CX0 1 f fd ["_law_error"] (spWord K CB CM CD CA CN CP) := by
  refine Fun.okE F scWo (fun e C vs H Q E h => ?_) (fun cdv A outer s H vs Q E p C hot hz hr h => ?_)
  · obtain ⟨rfl, _⟩ := h
    rfl
  · obtain ⟨rfl, k4, s', hs1, hs2, hs3, hQ⟩ := h
    have hotc : HotC (cxH CX0 P w K mg base ["_law_error", "_law_some", "_law_word", "_law_fits"] "_law_word_of" (defScope sWord) f cdv A outer s H E p) := ⟨p, ⟨hot.1, hot.2⟩, List.mem_singleton.mpr rfl⟩
    have hotb : ∀ s1 H1 scope cenv fp, HotC (blkH (cxH CX0 P w K mg base ["_law_error", "_law_some", "_law_word", "_law_fits"] "_law_word_of" (defScope sWord) f cdv A outer s H E p) s1 H1 scope cenv fp) := fun _ _ _ _ _ => hotc
    have isi : CallR (cxH CX0 P w K mg base ["_law_error", "_law_some", "_law_word", "_law_fits"] "_law_word_of" (defScope sWord) f cdv A outer s H E p) (.builtin "isinstance") (rIsE K C p.1) := call_isEH k4.ex hz hot (List.mem_singleton.mpr rfl)
    refine ⟨_, pss_cons (ps_if (pt_not (pt_val (pe_callB isi (by rfl) Z.isin (by decide +kernel) (pa_cons (pv 0) (pa_cons (pe_bltn (v := .ty "ValueError") rfl Z.ve (by decide +kernel) rfl) pa_nil))))) (pss_one (ps_ret pe_str)) pss_nil)
      (pss_cons (ps_set (i := 1) scWo.nd rfl (.inl rfl) (pe_lst (pa_cons (pe_tup (pa_cons pe_str (pa_cons (pe_callB isi (by rfl) Z.isin (by decide +kernel) (pa_cons (pv 0) (pa_cons (pe_glob (v := .ref CB) rfl Z.b rfl) pa_nil))) pa_nil)))
        (pa_cons (pe_tup (pa_cons pe_str (pa_cons (pe_callB isi (by rfl) Z.isin (by decide +kernel) (pa_cons (pv 0) (pa_cons (pe_glob (v := .ref CM) rfl Z.m rfl) pa_nil))) pa_nil))) pa_nil))))
      (pss_cons (ps_set (i := 1) scWo.nd rfl (.inl rfl) (pe_op op_cat (pv 1) (pe_lst (pa_cons (pe_tup (pa_cons pe_str (pa_cons (pe_callB isi (by rfl) Z.isin (by decide +kernel) (pa_cons (pv 0) (pa_cons (pe_glob (v := .ref CD) rfl Z.d rfl) pa_nil))) pa_nil)))
        (pa_cons (pe_tup (pa_cons pe_str (pa_cons (pe_callB isi (by rfl) Z.isin (by decide +kernel) (pa_cons (pv 0) (pa_cons (pe_glob (v := .ref CA) rfl Z.a rfl) pa_nil))) pa_nil))) pa_nil)))))
      (pss_cons (ps_set (i := 1) scWo.nd rfl (.inl rfl) (pe_op op_cat (pv 1) (pe_lst (pa_cons (pe_tup (pa_cons pe_str (pa_cons (pe_callB isi (by rfl) Z.isin (by decide +kernel) (pa_cons (pv 0) (pa_cons (pe_glob (v := .ref CN) rfl Z.n rfl) pa_nil))) pa_nil)))
        (pa_cons (pe_tup (pa_cons pe_str (pa_cons (pe_callB isi (by rfl) Z.isin (by decide +kernel) (pa_cons (pv 0) (pa_cons (pe_glob (v := .ref CP) rfl Z.p rfl) pa_nil))) pa_nil))) pa_nil)))))
      (pss_one (ps_ret (pe_op op_add_str pe_str (pe_join pe_str
        (pe_lcH (g := gTup K 2 (gCons (gName 2) (gCons (gName 3) gNil))) (own := [("_law_word", 2), ("_law_fits", 3)]) hotc scWo.nd (pi_listH (pv 1)) (blkOk_by (own := [("_law_word", 2), ("_law_fits", 3)]) (N := ["_law_error", "_law_some", "_law_word", "_law_fits"]) (sc := defScope sWord) (by decide +kernel))
          (by intro s1 H1 C1 cl fp; exact pg_tupH hotc (pgs_cons (pg_name (i := 2) scWo.nd rfl (.inl rfl)) (pgs_cons (pg_name (i := 3) scWo.nd rfl (.inl rfl)) pgs_nil))) (fun _ _ _ _ _ => pts_one (pt_val (pv 3))) (fun _ _ _ _ _ => pv 2))))))))), ?_⟩
    refine ⟨_, rfl, .ty "ValueError", .type "ValueError", true, rfl, (fun u e => e), k4.v, _, rfl, iteF ?_⟩
    refine ⟨_, rfl, .ref CB, .ref CB, _, rfl, (fun u e => e), k4.b, (by show 2 ≤ sizeLine; decide), fun p1 n1 => ⟨_, rfl, .ref CM, .ref CM, _, rfl, (fun u e => e), k4.m, (by show 2 ≤ sizeLine; decide), fun p2 n2 => ⟨(by show 2 ≤ sizeLine; decide), fun q1 m1 => ?_⟩⟩⟩
    obtain ⟨S1, hq1, F1⟩ := two n1 n2 m1
    obtain ⟨H1, hH1⟩ : ∃ H1, H1 = (upd (upd (upd H p1 (.tup [.str "count", .bl (decide (C = CB))])) p2 (.tup [.str "meeting", .bl (decide (C = CM))])) q1 (.lst [.ref p1, .ref p2])) := ⟨_, rfl⟩
    rw [← hH1] at S1 hq1 F1 ⊢
    refine ⟨_, rfl, _, rfl, .ref CD, .ref CD, _, rfl, (fun u e => e), k4.d, (by show 2 ≤ sizeLine; decide), fun p3 n3 => ⟨_, rfl, .ref CA, .ref CA, _, rfl, (fun u e => e), k4.a, (by show 2 ≤ sizeLine; decide), fun p4 n4 => ⟨(by show 2 ≤ sizeLine; decide), fun q2 m2 => ?_⟩⟩⟩
    obtain ⟨S2, hq2, F2⟩ := two n3 n4 m2
    obtain ⟨H2, hH2⟩ : ∃ H2, H2 = (upd (upd (upd H1 p3 (.tup [.str "delay", .bl (decide (C = CD))])) p4 (.tup [.str "apart", .bl (decide (C = CA))])) q2 (.lst [.ref p3, .ref p4])) := ⟨_, rfl⟩
    rw [← hH2] at S2 hq2 F2 ⊢
    refine ⟨q1, q2, _, _, rfl, rfl, S2 _ _ hq1, hq2, (by show 4 ≤ sizeLine; decide), fun l3 nl3 => ?_⟩
    have G3 := (Fits.app (F1.same S2) F2).same (same_new (o := .lst ([V.ref p1, V.ref p2] ++ [V.ref p3, V.ref p4])) (Same.refl _) nl3)
    have S3 := same_new (o := .lst ([V.ref p1, V.ref p2] ++ [V.ref p3, V.ref p4])) (S1.trans S2) nl3
    obtain ⟨H3, hH3⟩ : ∃ H3, H3 = upd H2 l3 (.lst ([V.ref p1, V.ref p2] ++ [V.ref p3, V.ref p4])) := ⟨_, rfl⟩
    have hl3 : H3 l3 = some (.lst ([V.ref p1, V.ref p2] ++ [V.ref p3, V.ref p4])) := by rw [hH3]; exact upd_same
    rw [← hH3] at S3 G3 ⊢
    refine ⟨_, rfl, _, rfl, .ref CN, .ref CN, _, rfl, (fun u e => e), k4.n, (by show 2 ≤ sizeLine; decide), fun p5 n5 => ⟨_, rfl, .ref CP, .ref CP, _, rfl, (fun u e => e), k4.p, (by show 2 ≤ sizeLine; decide), fun p6 n6 => ⟨(by show 2 ≤ sizeLine; decide), fun q4 m4 => ?_⟩⟩⟩
    obtain ⟨S4, hq4, F4⟩ := two n5 n6 m4
    obtain ⟨H4, hH4⟩ : ∃ H4, H4 = (upd (upd (upd H3 p5 (.tup [.str "ring", .bl false])) p6 (.tup [.str "pace", .bl false])) q4 (.lst [.ref p5, .ref p6])) := ⟨_, rfl⟩
    rw [← hH4] at S4 hq4 F4 ⊢
    refine ⟨l3, q4, _, _, rfl, rfl, S4 _ _ hl3, hq4, (by show 6 ≤ sizeLine; decide), fun l5 nl5 => ?_⟩
    have G5 := (Fits.app (G3.same S4) F4).same (same_new (o := .lst (([V.ref p1, V.ref p2] ++ [V.ref p3, V.ref p4]) ++ [V.ref p5, V.ref p6])) (Same.refl _) nl5)
    have S5 := same_new (o := .lst (([V.ref p1, V.ref p2] ++ [V.ref p3, V.ref p4]) ++ [V.ref p5, V.ref p6])) (S3.trans S4) nl5
    obtain ⟨H5, hH5⟩ : ∃ H5, H5 = upd H4 l5 (.lst (([V.ref p1, V.ref p2] ++ [V.ref p3, V.ref p4]) ++ [V.ref p5, V.ref p6])) := ⟨_, rfl⟩
    have hl5 : H5 l5 = some (.lst (([V.ref p1, V.ref p2] ++ [V.ref p3, V.ref p4]) ++ [V.ref p5, V.ref p6])) := by rw [hH5]; exact upd_same
    rw [← hH5] at S5 G5 ⊢
    clear hH1 hH2 hH3 hH4 hH5
    have G6 : Fits H5 (([V.ref p1, V.ref p2] ++ [V.ref p3, V.ref p4]) ++ [V.ref p5, V.ref p6]) (fits6 C CB CM CD CA) := G5
    refine ⟨⟨_, rfl⟩, _, rfl, l5, rfl, ⟨_, SqL.of hl5⟩, fun D nD => lc_list (K := K) (a := l5) (xs := ([V.ref p1, V.ref p2] ++ [V.ref p3, V.ref p4]) ++ [V.ref p5, V.ref p6]) (fun i H' => Same H5 H' ∧ H' D = some (.lst ((got ((fits6 C CB CM CD CA).take i)).map V.str)))
      ⟨same_new (Same.refl _) nD, upd_same⟩ (fun i H' _ hh => SqL.of (hh.1 _ _ hl5)) ?_ ?_⟩
    · rintro i x H' hi ⟨sm, hD⟩
      obtain ⟨s, b, hs, hf⟩ := (G6.same sm).at hi
      obtain ⟨t, rfl, ht⟩ := hf
      refine ⟨t, _, rfl, SqT.of ht, rfl, _, _, rfl, _, _, rfl, rfl, rfl, _, rfl, b, rfl, ?_⟩
      have ga := got_add _ _ _ _ hs
      have il : i < 6 := (List.getElem?_eq_some_iff.mp hi).1
      have gl : (got ((fits6 C CB CM CD CA).take i)).length ≤ 6 := by
        unfold got
        rw [List.length_map]
        refine Nat.le_trans (List.length_filter_le _ _) ?_
        rw [List.length_take]
        show min i 6 ≤ 6
        omega
      cases b with
      | true =>
        refine iteT ⟨_, rfl, _, hD, small1000 (by rw [List.length_map]; omega), ?_⟩
        refine ⟨same_put sm nD, ?_⟩
        rw [upd_same, ga, List.map_append]
        rfl
      | false =>
        refine iteF ⟨sm, ?_⟩
        rw [ga, hD]
        simp
    · rintro H' ⟨sm, hD⟩
      have e : (fits6 C CB CM CD CA).take ((([V.ref p1, V.ref p2] ++ [V.ref p3, V.ref p4]) ++ [V.ref p5, V.ref p6]).length) = fits6 C CB CM CD CA := rfl
      rw [e] at hD
      have gl : (got (fits6 C CB CM CD CA)).length ≤ 6 := by
        unfold got
        rw [List.length_map]
        exact Nat.le_trans (List.length_filter_le _ _) (by show 6 ≤ 6; decide)
      refine ⟨_, _, _, rfl, rfl, .inl (SqL.of hD), ?_, ?_⟩
      · have : ((" " : Str)).length = 1 := by decide +kernel
        rw [this]
        omega
      · rw [hs2]
        refine ⟨_, _, rfl, rfl, ?_, hQ _ (S5.trans sm)⟩
        have : (("refused " : Str)).length = 8 := by decide +kernel
        rw [this, sizeLine_eq]
        omega
end
end Mp
/-! ## L7 -/
set_option Elab.async false
set_option linter.all false
set_option maxRecDepth 100000
set_option maxHeartbeats 4000000
namespace Mp
open PySem PySem.Spec PyProof.Rows L2 LamX L2H HotX
def Cnt (m : Int) (ws : List Way) : Prop := 1 ≤ m ∧ m ≤ 12 ∧ ws.length ≤ 60
/-- the word that the document asks for -/
def WordOk (m : Int) (ws : List Way) (s : Str) : Prop :=
  (¬ Cnt m ws → s = "refused count") ∧ (Cnt m ws → (¬ ∀ w ∈ ws, EndsOk m w) → s = "refused meeting") ∧ (Cnt m ws → (∀ w ∈ ws, EndsOk m w) → (¬ ∀ w ∈ ws, DelayOk w) → s = "refused delay") ∧
  (Cnt m ws → (∀ w ∈ ws, EndsOk m w) → (∀ w ∈ ws, DelayOk w) → ¬ Piece m ws → s = "refused apart") ∧ (Cnt m ws → (∀ w ∈ ws, EndsOk m w) → (∀ w ∈ ws, DelayOk w) → Piece m ws → s = "")
theorem cat_c : ("refused " : Str) ++ ("count" : Str) = "refused count" := by decide +kernel
theorem cat_m : ("refused " : Str) ++ ("meeting" : Str) = "refused meeting" := by decide +kernel
theorem cat_d : ("refused " : Str) ++ ("delay" : Str) = "refused delay" := by decide +kernel
theorem cat_a : ("refused " : Str) ++ ("apart" : Str) = "refused apart" := by decide +kernel
structure Apart4 (CB CM CD CA : Addr) : Prop where
  bm : CB ≠ CM
  bd : CB ≠ CD
  ba : CB ≠ CA
  md : CM ≠ CD
  ma : CM ≠ CA
  da : CD ≠ CA
section
variable {CB CM CD CA : Addr}
theorem fit_b (A : Apart4 CB CM CD CA) : Txt.join " " (got (fits6 CB CB CM CD CA)) = "count" ∧ ((got (fits6 CB CB CM CD CA)).map (·.length)).sum ≤ 100 := by
  unfold fits6
  rw [decide_eq_true (rfl : CB = CB), decide_eq_false A.bm, decide_eq_false A.bd, decide_eq_false A.ba]
  decide +kernel
theorem fit_m (A : Apart4 CB CM CD CA) : Txt.join " " (got (fits6 CM CB CM CD CA)) = "meeting" ∧ ((got (fits6 CM CB CM CD CA)).map (·.length)).sum ≤ 100 := by
  unfold fits6
  rw [decide_eq_true (rfl : CM = CM), decide_eq_false A.bm.symm, decide_eq_false A.md, decide_eq_false A.ma]
  decide +kernel
theorem fit_d (A : Apart4 CB CM CD CA) : Txt.join " " (got (fits6 CD CB CM CD CA)) = "delay" ∧ ((got (fits6 CD CB CM CD CA)).map (·.length)).sum ≤ 100 := by
  unfold fits6
  rw [decide_eq_true (rfl : CD = CD), decide_eq_false A.bd.symm, decide_eq_false A.md.symm, decide_eq_false A.da]
  decide +kernel
theorem fit_a (A : Apart4 CB CM CD CA) : Txt.join " " (got (fits6 CA CB CM CD CA)) = "apart" ∧ ((got (fits6 CA CB CM CD CA)).map (·.length)).sum ≤ 100 := by
  unfold fits6
  rw [decide_eq_true (rfl : CA = CA), decide_eq_false A.ba.symm, decide_eq_false A.ma.symm, decide_eq_false A.da.symm]
  decide +kernel
end
section
variable {P : Program} {w : World} {K : PySem.W.Frag} {mg : Str → Option Value} {base : Heap}
/-- as pe_fld and op_neD, the texts known by K -/
theorem pe_fldK {X : Cx} {K : PySem.W.Frag} {e : Expr} {f : Str} {pos : Pos} {ta : TE} (hK : X.K = K) (he : PE X e ta) (hb : attributeBase e f X.env (eval e X.env) = eval e X.env) : PE X (.Attribute e f pos) (tFld K ta f) := by
  subst hK
  exact pe_fld he hb
theorem op_neDK {X : Cx} {K : PySem.W.Frag} (hK : X.K = K) (hu : X.A.units + 64 < cLine) : OpR X (compareOp .NotEq) (rNeD K) := by
  subst hK
  exact op_neD hu
def spLaw (K : PySem.W.Frag) (T : List (Addr × Str)) : Sp := fun vs H Q _ => ∃ (a : Addr) (ns : List Int), vs = [.ref a] ∧ SqL K H a (ns.map V.int) ∧ Tabs T H ∧ ∀ H', Q (.bl true) H'
theorem scLa : FnScope ["_law_script", "_law_many_here", "_law_ways_here", "_law_handed", "_law_found", "_law_web", "e", "_law_due_here"] ["_law_script"] (defScope sLaw) := ⟨rfl, rfl, rfl, by decide +kernel, rfl, by decide +kernel, by decide +kernel⟩
/-- the functions that the law calls, and their promises -/
structure Calls7 (P : Program) (w : World) (K : PySem.W.Frag) (mg : Str → Option Value) (base : Heap) (T : List (Addr × Str)) (CP0 CB CM CD CA CN CP C fI fMa fBe fWa fCe fDu fWo : Addr) (dI dMa dBe dWa dCe dDu dWo : FuncData) : Prop where
  GMa : FnOk P w K mg base CX0 2 fMa dMa ["_law_script"] (spMany K)
  gMa : mg "_law_many" = some (.ref fMa)
  kMa : PySem.W.keepIn K (.ref fMa) = true
  bMa : Binds K dMa ["_law_script"] []
  GBe : FnOk P w K mg base CX0 2 fBe dBe ["_law_script", "_law_ways_here", "_law_many_here"] (spBent K)
  gBe : mg "_law_bent" = some (.ref fBe)
  kBe : PySem.W.keepIn K (.ref fBe) = true
  bBe : Binds K dBe ["_law_script", "_law_ways_here", "_law_many_here"] []
  GWa : FnOk P w K mg base CX0 2 fWa dWa ["_law_script", "_law_many_here"] (spWays K T)
  gWa : mg "_law_ways" = some (.ref fWa)
  kWa : PySem.W.keepIn K (.ref fWa) = true
  bWa : Binds K dWa ["_law_script", "_law_many_here"] []
  GCe : FnOk P w K mg base CX0 1 fCe dCe ["_law_script", "_law_k"] (spCell K)
  gCe : mg "_law_cell_at" = some (.ref fCe)
  kCe : PySem.W.keepIn K (.ref fCe) = true
  bCe : Binds K dCe ["_law_script", "_law_k"] []
  GDu : FnOk P w K mg base CX0 2 fDu dDu ["_law_many_here", "_law_ways_here"] spDue
  gDu : mg "_law_due" = some (.ref fDu)
  kDu : PySem.W.keepIn K (.ref fDu) = true
  bDu : Binds K dDu ["_law_many_here", "_law_ways_here"] []
  GWo : FnE P w K mg base CX0 1 fWo dWo ["_law_error"] (spWord K CB CM CD CA CN CP)
  gWo : mg "_law_word_of" = some (.ref fWo)
  kWo : PySem.W.keepIn K (.ref fWo) = true
  bWo : Binds K dWo ["_law_error"] []
  GWe : FnOk P w K mg base (L2N.CX P w) 3 fI dI ["self", "many", "ways"] (spWeb C CB CM CD CA)
  bWe : Binds K dI ["self", "many", "ways"] []
  M : Mk K C fI
  W : WebT K mg C
  gP : mg "PaceError" = some (.ref CP0)
  xB : PySem.W.exmOne K (.ref CB) (.ref CP0) = some true
  xM : PySem.W.exmOne K (.ref CM) (.ref CP0) = some true
  xD : PySem.W.exmOne K (.ref CD) (.ref CP0) = some true
  xA : PySem.W.exmOne K (.ref CA) (.ref CP0) = some true
  kB : Kit4 K CB CB CM CD CA CN CP
  kM : Kit4 K CM CB CM CD CA CN CP
  kD : Kit4 K CD CB CM CD CA CN CP
  kA : Kit4 K CA CB CM CD CA CN CP
  ap : Apart4 CB CM CD CA
theorem ok_law {f : Addr} {fd : FuncData} {T : List (Addr × Str)} {CP0 CB CM CD CA CN CP C fI fMa fBe fWa fCe fDu fWo : Addr} {dI dMa dBe dWa dCe dDu dWo : FuncData} (F : Fun K "law" "law" sLaw f fd) (Z : Names0 mg)
    (Y : Calls7 P w K mg base T CP0 CB CM CD CA CN CP C fI fMa fBe fWa fCe fDu fWo dI dMa dBe dWa dCe dDu dWo) : FnOk P w K mg base CX0 5 f fd ["_law_script"] (spLaw K T) := by
  refine F.ok scLa (fun vs H Q E h => ?_) (fun cdv A outer s H vs Q E hr h => ?_)
  · obtain ⟨a, ns, rfl, _⟩ := h
    rfl
  · obtain ⟨a, ns, rfl, hS, hT, hQ⟩ := h
    have hr1 : Room 1 _ := hr.mono (by decide)
    have hr2 : Room 2 _ := hr.mono (by decide)
    have hr4 : Room 4 _ := hr
    have hrE : RoomH 1 _ := roomH_of hr1
    refine ⟨_, pss_cons (ps_set (i := 1) scLa.nd rfl (.inl rfl) (pe_call Y.GMa hr2 rfl Y.gMa Y.kMa Y.bMa .nil pass0 (pa_cons (pv 0) pa_nil)))
      (pss_cons (ps_set (i := 2) scLa.nd rfl (.inl rfl) (pe_call Y.GBe hr2 rfl Y.gBe Y.kBe Y.bBe .nil pass0 (pa_cons (pv 0) (pa_cons (pe_call Y.GWa hr2 rfl Y.gWa Y.kWa Y.bWa .nil pass0 (pa_cons (pv 0) (pa_cons (pv 1) pa_nil))) (pa_cons (pv 1) pa_nil)))))
      (C8.pss_cut (ps_if (pt_cmpR op_eq (pe_op op_mod (pe_call Y.GCe hr1 rfl Y.gCe Y.kCe Y.bCe .nil pass0 (pa_cons (pv 0) (pa_cons pe_int pa_nil))) pe_int) pe_int (nomark _))
          (pss_one (ps_set (i := 1) scLa.nd rfl (.inl rfl) (pe_op op_sub (pe_op op_mod (pe_op op_fdiv (pe_call Y.GCe hr1 rfl Y.gCe Y.kCe Y.bCe .nil pass0 (pa_cons (pv 0) (pa_cons pe_int pa_nil))) pe_int) pe_int) pe_int))) pss_nil)
      (pss_cons (ps_set (i := 3) scLa.nd rfl (.inl rfl) (pe_callTy call_list_of (by rfl) Z.list (by decide +kernel) (pa_cons (pv 2) pa_nil)))
      (pss_cons (ps_set (i := 4) scLa.nd rfl (.inl rfl) pe_str)
      (C8.pss_cut (L2N.ps_try_as (c := .ref CP0) (i := 6) rfl rfl scLa.nd rfl rfl ⟨rfl, by decide, .inl Y.gP⟩ takes0N
        (fun W pn xe tk _ => pss_cons (ps_set (i := 5) scLa.nd rfl (.inl rfl) (pe_makeS (E := WE W) Y.M Y.GWe hr4 rfl Y.W.mgC Y.bWe (L2N.passAt tk) (pa_cons (pv 1) (pa_cons (pv 3) pa_nil))))
          (pss_one (ps_if (PW.pt (pw_or (pt_cmpR op_ne (pe_fldK (K := K) rfl (pv 5) (by rfl)) (pv 1) (nomark _)) (pw_or1 (pt_cmpR (op_neDK (K := K) rfl hr.units) (pe_fldK (K := K) rfl (pv 5) (by rfl)) (pv 2) (nomark _))))) (pss_one (ps_ret pe_bl)) pss_nil)))
        (fun e oe cls d pn hz hf => pss_one (ps_set (i := 4) scLa.nd rfl (.inl rfl) (pe_callE Y.GWo hrE hz hf rfl Y.gWo Y.kWo Y.bWo (pa_cons (pv 6) pa_nil)))))
      (pss_cons (ps_set (i := 7) scLa.nd rfl (.inl rfl) (pe_call Y.GDu hr2 rfl Y.gDu Y.kDu Y.bDu .nil pass0 (pa_cons (pv 1) (pa_cons (pv 2) pa_nil))))
      (C8.pss_cut (ps_if (pt_cmpR op_ne (pv 7) pe_str (nomark _)) (pss_one (ps_set (i := 7) scLa.nd rfl (.inl rfl) (pe_op op_add_str pe_str (pv 7)))) pss_nil)
      (pss_one (ps_ret (pe_and (pe_cmpR op_eq (pv 4) (pv 7) (nomark _)) (pe_one (pe_cmpR (op_eqD hr.units) (pv 3) (pv 2) (nomark _))))))))))))), ?_⟩
    -- the draws
    refine ⟨_, rfl, a, ns, rfl, hS, fun m0 m1 m12 => ?_⟩
    refine ⟨_, rfl, _, rfl, _, rfl, a, ns, m0, rfl, hS, m1, m12, hT, fun p xs H1 eN T1 hp hx l1 l2 => ?_⟩
    have hS1 := extN_seq eN hS
    refine ⟨_, rfl, a, p, ns, m0, xs, rfl, hS1, hp, hx, l1, l2, fun b ys H2 s2 hb hy ly => ?_⟩
    have hS2 := s2.seq hS1
    obtain ⟨ts, ws, e, T2⟩ := tups_of hy
    rw [e] at hb ly
    have hW2 : WList H2 b ts ws := ⟨hb, T2⟩
    have lw : ws.length ≤ 110 := by rw [List.length_map] at ly; rw [← T2.1]; exact ly
    refine ⟨fun σ' H' => ∃ m : Int, σ' = [some (.ref a), some (.int m), some (.ref b), none, none, none, none, none] ∧ H' = H2, ?_, ?_⟩
    · refine ⟨_, rfl, a, 16, ns, rfl, hS2, (by decide), fun z => ⟨_, _, rfl, rfl, (by show (0 : Int) < 5; decide), rfl, _, rfl, ite2 (fun _ => ?_) (fun _ => ⟨m0, rfl, rfl⟩)⟩⟩
      exact ⟨_, rfl, a, 16, ns, rfl, hS2, (by decide), fun z => ⟨_, _, rfl, rfl, ⟨by decide, by decide⟩, _, _, rfl, rfl, (by show (0 : Int) < 18; decide), _, _, rfl, rfl, _, rfl, rfl⟩⟩
    rintro σ' H' ⟨m, rfl, rfl⟩
    -- _law_handed, _law_found
    refine ⟨_, rfl, b, _, rfl, .inl (SqL.of hb), fun h nh => ?_⟩
    obtain ⟨H3, hH3⟩ : ∃ H3, H3 = upd H' h (.lst (ts.map V.ref)) := ⟨_, rfl⟩
    have s3 : Same H' H3 := by rw [hH3]; exact same_new (Same.refl _) nh
    have hh3 : H3 h = some (.lst (ts.map V.ref)) := by rw [hH3]; exact upd_same
    have T3 : Tups H3 ts ws := T2.same (same_tups s3)
    rw [← hH3]
    clear hH3
    have ev : ∀ {H4 : Hp}, Same H3 H4 → WList H4 b ts ws ∧ WList H4 h ts ws := fun s4 => ⟨⟨s4 _ _ (s3 _ _ hb), T3.same (same_tups s4)⟩, s4 _ _ hh3, T3.same (same_tups s4)⟩
    refine ⟨fun σ' H4 => ∃ (s : Str) (u : Option V), σ' = [some (.ref a), some (.int m), some (.ref b), some (.ref h), some (.str s), u, none, none] ∧ Same H3 H4 ∧ WordOk m ws s, ?_, ?_⟩
    · refine ⟨_, rfl, _, rfl, fun x dx nx ndx ne => ?_⟩
      obtain ⟨H5, hH5⟩ : ∃ H5, H5 = upd (upd H3 dx (.own x)) x (.ins C dx []) := ⟨_, rfl⟩
      have s5 : Same H3 H5 := by
        rw [hH5]
        exact fun b o e => by rw [upd_ne (ne_of_none e nx), upd_ne (ne_of_none e ndx)]; exact e
      have hx5 : H5 x = some (.ins C dx []) := by rw [hH5]; exact upd_same
      rw [← hH5]
      clear hH5
      refine ⟨x, dx, h, m, ts, ws, rfl, hx5, (ev s5).2, fun n => ?_, fun c n => ?_, fun c e n => ?_, fun c e d n H6 s6 => ?_, fun c e d pc H6 k6 w6 => ?_⟩
      · refine ⟨true, Y.xB, fun _ ea na => ?_, nofun⟩
        have ft := fit_b Y.ap
        exact ⟨CB, rfl, rfl, _, rfl, rfl, Y.kB, "count", (by decide +kernel), ft.1, ft.2, fun H7 s7 => ⟨_, _, by rw [cat_c]; rfl, s5.trans s7, fun _ => rfl, fun z => absurd z n, fun z => absurd z n, fun z => absurd z n, fun z => absurd z n⟩⟩
      · refine ⟨true, Y.xM, fun _ ea na => ?_, nofun⟩
        have ft := fit_m Y.ap
        exact ⟨CM, rfl, rfl, _, rfl, rfl, Y.kM, "meeting", (by decide +kernel), ft.1, ft.2, fun H7 s7 => ⟨_, _, by rw [cat_m]; rfl, s5.trans s7, fun z => absurd c z, fun _ _ => rfl, fun _ z => absurd z n, fun _ z => absurd z n, fun _ z => absurd z n⟩⟩
      · refine ⟨true, Y.xD, fun _ ea na => ?_, nofun⟩
        have ft := fit_d Y.ap
        exact ⟨CD, rfl, rfl, _, rfl, rfl, Y.kD, "delay", (by decide +kernel), ft.1, ft.2, fun H7 s7 => ⟨_, _, by rw [cat_d]; rfl, s5.trans s7, fun z => absurd c z, fun _ z => absurd e z, fun _ _ _ => rfl, fun _ _ z => absurd z n, fun _ _ z => absurd z n⟩⟩
      · refine ⟨true, Y.xA, fun _ ea na => ?_, nofun⟩
        have ft := fit_a Y.ap
        exact ⟨CA, rfl, rfl, _, rfl, rfl, Y.kA, "apart", (by decide +kernel), ft.1, ft.2, fun H7 s7 => ⟨_, _, by rw [cat_a]; rfl, (s5.trans s6).trans s7, fun z => absurd c z, fun _ z => absurd e z, fun _ _ z => absurd d z, fun _ _ _ _ => rfl, fun _ _ _ z => absurd z n⟩⟩
      · obtain ⟨dx', b', c', hx6, hb6, hc6, T6⟩ := w6
        have s6 : Same H3 H6 := fun b o e => k6 _ _ (s5 _ _ e) (ne_of_none e nx)
        refine ⟨rfl, ?_⟩
        refine ⟨_, rfl, x, C, dx', _, _, rfl, hx6, Y.W.cl, Y.W.nM, webF_many _ _ _, _, rfl, rfl, _, rfl, ?_⟩
        rw [decide_eq_true (rfl : V.int m = V.int m)]
        refine iteF ⟨_, rfl, x, C, dx', _, _, rfl, hx6, Y.W.cl, Y.W.nW, webF_ways _ _ _, _, rfl, listW ws, listW ws, dp_ways ⟨hb6, T6⟩, dp_ways (ev s6).1, shaped_ways ws, shaped_ways ws, _, rfl, ?_⟩
        rw [eqv_ways]
        exact iteF ⟨"", _, rfl, s6, fun z => absurd c z, fun _ z => absurd e z, fun _ _ z => absurd d z, fun _ _ _ z => absurd pc z, fun _ _ _ _ => rfl⟩
    rintro σ' H4 ⟨s, u, rfl, s4, hs⟩
    have lw5 : ws.length ≤ 500 := by omega
    refine ⟨_, rfl, _, rfl, m, b, ts, ws, rfl, (ev s4).1, lw5, ?_⟩
    refine ⟨?_, ?_, ?_, ?_, ?_⟩
    · intro H5 s5 n
      have es := hs.1 n
      subst es
      refine ⟨fun σ' H' => σ' = [some (.ref a), some (.int m), some (.ref b), some (.ref h), some (.str "refused count"), u, none, some (.str "refused count")] ∧ Same H4 H', ⟨_, rfl, rfl, _, rfl, ?_⟩, ?_⟩
      · rw [decide_eq_false (by intro z; exact absurd (V.str.inj z) (by decide +kernel))]
        exact iteT ⟨_, rfl, _, _, rfl, rfl, (by rw [sizeLine_eq]; decide +kernel), (by rw [cat_c]; rfl), s5⟩
      · rintro σ' H6 ⟨rfl, s6⟩
        refine ⟨_, rfl, _, rfl, rfl, _, rfl, ?_⟩
        rw [decide_eq_true (rfl : V.str "refused count" = V.str "refused count")]
        refine iteT ⟨_, rfl, _, rfl, listW ws, listW ws, dp_ways (ev (s4.trans s6)).2, dp_ways (ev (s4.trans s6)).1, shaped_ways ws, shaped_ways ws, ?_⟩
        rw [eqv_ways]
        exact hQ _
    · intro H5 s5 c n
      have es := hs.2.1 c n
      subst es
      refine ⟨fun σ' H' => σ' = [some (.ref a), some (.int m), some (.ref b), some (.ref h), some (.str "refused meeting"), u, none, some (.str "refused meeting")] ∧ Same H4 H', ⟨_, rfl, rfl, _, rfl, ?_⟩, ?_⟩
      · rw [decide_eq_false (by intro z; exact absurd (V.str.inj z) (by decide +kernel))]
        exact iteT ⟨_, rfl, _, _, rfl, rfl, (by rw [sizeLine_eq]; decide +kernel), (by rw [cat_m]; rfl), s5⟩
      · rintro σ' H6 ⟨rfl, s6⟩
        refine ⟨_, rfl, _, rfl, rfl, _, rfl, ?_⟩
        rw [decide_eq_true (rfl : V.str "refused meeting" = V.str "refused meeting")]
        refine iteT ⟨_, rfl, _, rfl, listW ws, listW ws, dp_ways (ev (s4.trans s6)).2, dp_ways (ev (s4.trans s6)).1, shaped_ways ws, shaped_ways ws, ?_⟩
        rw [eqv_ways]
        exact hQ _
    · intro H5 s5 c e n
      have es := hs.2.2.1 c e n
      subst es
      refine ⟨fun σ' H' => σ' = [some (.ref a), some (.int m), some (.ref b), some (.ref h), some (.str "refused delay"), u, none, some (.str "refused delay")] ∧ Same H4 H', ⟨_, rfl, rfl, _, rfl, ?_⟩, ?_⟩
      · rw [decide_eq_false (by intro z; exact absurd (V.str.inj z) (by decide +kernel))]
        exact iteT ⟨_, rfl, _, _, rfl, rfl, (by rw [sizeLine_eq]; decide +kernel), (by rw [cat_d]; rfl), s5⟩
      · rintro σ' H6 ⟨rfl, s6⟩
        refine ⟨_, rfl, _, rfl, rfl, _, rfl, ?_⟩
        rw [decide_eq_true (rfl : V.str "refused delay" = V.str "refused delay")]
        refine iteT ⟨_, rfl, _, rfl, listW ws, listW ws, dp_ways (ev (s4.trans s6)).2, dp_ways (ev (s4.trans s6)).1, shaped_ways ws, shaped_ways ws, ?_⟩
        rw [eqv_ways]
        exact hQ _
    · intro H5 s5 c e d n
      have es := hs.2.2.2.1 c e d n
      subst es
      refine ⟨fun σ' H' => σ' = [some (.ref a), some (.int m), some (.ref b), some (.ref h), some (.str "refused apart"), u, none, some (.str "refused apart")] ∧ Same H4 H', ⟨_, rfl, rfl, _, rfl, ?_⟩, ?_⟩
      · rw [decide_eq_false (by intro z; exact absurd (V.str.inj z) (by decide +kernel))]
        exact iteT ⟨_, rfl, _, _, rfl, rfl, (by rw [sizeLine_eq]; decide +kernel), (by rw [cat_a]; rfl), s5⟩
      · rintro σ' H6 ⟨rfl, s6⟩
        refine ⟨_, rfl, _, rfl, rfl, _, rfl, ?_⟩
        rw [decide_eq_true (rfl : V.str "refused apart" = V.str "refused apart")]
        refine iteT ⟨_, rfl, _, rfl, listW ws, listW ws, dp_ways (ev (s4.trans s6)).2, dp_ways (ev (s4.trans s6)).1, shaped_ways ws, shaped_ways ws, ?_⟩
        rw [eqv_ways]
        exact hQ _
    · intro H5 s5 c e d pc
      have es := hs.2.2.2.2 c e d pc
      subst es
      refine ⟨fun σ' H' => σ' = [some (.ref a), some (.int m), some (.ref b), some (.ref h), some (.str ""), u, none, some (.str "")] ∧ Same H4 H', ⟨_, rfl, rfl, _, rfl, ?_⟩, ?_⟩
      · rw [decide_eq_true (rfl : V.str "" = V.str "")]
        exact iteF ⟨rfl, s5⟩
      · rintro σ' H6 ⟨rfl, s6⟩
        refine ⟨_, rfl, _, rfl, rfl, _, rfl, ?_⟩
        rw [decide_eq_true (rfl : V.str "" = V.str "")]
        refine iteT ⟨_, rfl, _, rfl, listW ws, listW ws, dp_ways (ev (s4.trans s6)).2, dp_ways (ev (s4.trans s6)).1, shaped_ways ws, shaped_ways ws, ?_⟩
        rw [eqv_ways]
        exact hQ _
end
end Mp
/-! ## End -/
set_option Elab.async false
set_option linter.all false
set_option maxRecDepth 100000
set_option maxHeartbeats 4000000
namespace Mp
open PySem PySem.Spec PyProof.Rows L2 LamX L2H HotX
theorem kit4_of {K : PySem.W.Frag} {C CB CM CD CA CN CP : Addr} (ex : ExcC K C) (v : PySem.W.kitOne K (.ref C) (.type "ValueError") = some true) {b1 b2 b3 b4 : Bool}
    (b : PySem.W.kitOne K (.ref C) (.ref CB) = some b1) (m : PySem.W.kitOne K (.ref C) (.ref CM) = some b2) (d : PySem.W.kitOne K (.ref C) (.ref CD) = some b3) (a : PySem.W.kitOne K (.ref C) (.ref CA) = some b4)
    (n : PySem.W.kitOne K (.ref C) (.ref CN) = some false) (p : PySem.W.kitOne K (.ref C) (.ref CP) = some false) (h1 : b1 = decide (C = CB)) (h2 : b2 = decide (C = CM)) (h3 : b3 = decide (C = CD)) (h4 : b4 = decide (C = CA)) : Kit4 K C CB CM CD CA CN CP := by
  subst h1 h2 h3 h4
  exact ⟨ex, v, b, m, d, a, n, p⟩
theorem all_mk {l : PySem.W.OpenLaw} {w : World} {K : PySem.W.Frag} {h : Heap} {mg : Str → Option Value} {fa TP cW C CP0 CB CM CD CA CN CP : Addr} (X : K.In h) (G : h.Ns mainGlobals mg) (hfa : mg "law" = some (.ref fa))
    {f_rm f_re f_rc f_rw f_ra f_in f_ce f_mi f_dl f_ma f_wa f_be f_me f_du f_wo f_la : Addr} {od_rm an_rm od_re an_re od_rc an_rc od_rw an_rw od_ra an_ra od_in an_in od_ce an_ce od_mi an_mi od_dl an_dl od_ma an_ma od_wa an_wa od_be an_be od_me an_me od_du an_du od_wo an_wo od_la an_la : Option Addr} {sl_rm sl_re sl_rc sl_rw sl_ra sl_in sl_ce sl_mi sl_dl sl_ma sl_wa sl_be sl_me sl_du sl_wo sl_la : Array (Option Value)} {oc_rm kV_rm dc_rm pm_rm cd_rm ct_rm oc_re kV_re dc_re pm_re cd_re ct_re oc_rc kV_rc dc_rc pm_rc cd_rc ct_rc oc_rw kV_rw dc_rw pm_rw cd_rw ct_rw oc_ra kV_ra dc_ra pm_ra cd_ra ct_ra oc_in kV_in dc_in pm_in cd_in ct_in oc_ce kV_ce dc_ce pm_ce cd_ce ct_ce oc_mi kV_mi dc_mi pm_mi cd_mi ct_mi oc_dl kV_dl dc_dl pm_dl cd_dl ct_dl oc_ma kV_ma dc_ma pm_ma cd_ma ct_ma oc_wa kV_wa dc_wa pm_wa ct_wa oc_be kV_be dc_be pm_be cd_be ct_be oc_me kV_me dc_me pm_me cd_me ct_me oc_du kV_du dc_du pm_du cd_du ct_du oc_wo kV_wo dc_wo pm_wo cd_wo ct_wo oc_la kV_la dc_la pm_la cd_la ct_la : Value} {tk0 tk1 tk2 : Tok}
    (a_rm : PySem.W.nsIn K mainGlobals "_refuse_meeting" = some (some (.ref f_rm)))
    (l_rm : K.lookup f_rm = some ⟨oc_rm, od_rm, .func (PySem.W.fnOf "_refuse_meeting" "_refuse_meeting" (defArgs sRefMeet) (defBody sRefMeet) (defScope sRefMeet) .none kV_rm dc_rm pm_rm an_rm cd_rm ct_rm), sl_rm⟩)
    (c_rm : PySem.W.codeIn K cd_rm "_refuse_meeting" = true)
    (k_rm : PySem.W.keepIn K (.ref f_rm) = true)
    (a_re : PySem.W.nsIn K mainGlobals "_reached" = some (some (.ref f_re)))
    (l_re : K.lookup f_re = some ⟨oc_re, od_re, .func (PySem.W.fnOf "_reached" "_reached" (defArgs sReached) (defBody sReached) (defScope sReached) .none kV_re dc_re pm_re an_re cd_re ct_re), sl_re⟩)
    (c_re : PySem.W.codeIn K cd_re "_reached" = true)
    (k_re : PySem.W.keepIn K (.ref f_re) = true)
    (a_rc : PySem.W.nsIn K mainGlobals "_refuse_counts" = some (some (.ref f_rc)))
    (l_rc : K.lookup f_rc = some ⟨oc_rc, od_rc, .func (PySem.W.fnOf "_refuse_counts" "_refuse_counts" (defArgs sRefCnt) (defBody sRefCnt) (defScope sRefCnt) .none kV_rc dc_rc pm_rc an_rc cd_rc ct_rc), sl_rc⟩)
    (c_rc : PySem.W.codeIn K cd_rc "_refuse_counts" = true)
    (k_rc : PySem.W.keepIn K (.ref f_rc) = true)
    (a_rw : PySem.W.nsIn K mainGlobals "_refuse_ways" = some (some (.ref f_rw)))
    (l_rw : K.lookup f_rw = some ⟨oc_rw, od_rw, .func (PySem.W.fnOf "_refuse_ways" "_refuse_ways" (defArgs sRefWays) (defBody sRefWays) (defScope sRefWays) .none kV_rw dc_rw pm_rw an_rw cd_rw ct_rw), sl_rw⟩)
    (c_rw : PySem.W.codeIn K cd_rw "_refuse_ways" = true)
    (k_rw : PySem.W.keepIn K (.ref f_rw) = true)
    (a_ra : PySem.W.nsIn K mainGlobals "_refuse_apart" = some (some (.ref f_ra)))
    (l_ra : K.lookup f_ra = some ⟨oc_ra, od_ra, .func (PySem.W.fnOf "_refuse_apart" "_refuse_apart" (defArgs sRefApart) (defBody sRefApart) (defScope sRefApart) .none kV_ra dc_ra pm_ra an_ra cd_ra ct_ra), sl_ra⟩)
    (c_ra : PySem.W.codeIn K cd_ra "_refuse_apart" = true)
    (k_ra : PySem.W.keepIn K (.ref f_ra) = true)
    (a_in : PySem.W.findIn K (.ref C) "__init__" = some (some (.ref f_in)))
    (i_in : PySem.W.isFn K (.ref f_in) = true)
    (l_in : K.lookup f_in = some ⟨oc_in, od_in, .func (PySem.W.fnOf "__init__" "Web.__init__" (defArgs sInit) (defBody sInit) (defScope sInit) .none kV_in dc_in pm_in an_in cd_in ct_in), sl_in⟩)
    (c_in : PySem.W.codeIn K cd_in "Web.__init__" = true)
    (k_in : PySem.W.keepIn K (.ref f_in) = true)
    (a_ce : PySem.W.nsIn K mainGlobals "_law_cell_at" = some (some (.ref f_ce)))
    (l_ce : K.lookup f_ce = some ⟨oc_ce, od_ce, .func (PySem.W.fnOf "_law_cell_at" "_law_cell_at" (defArgs sCell) (defBody sCell) (defScope sCell) .none kV_ce dc_ce pm_ce an_ce cd_ce ct_ce), sl_ce⟩)
    (c_ce : PySem.W.codeIn K cd_ce "_law_cell_at" = true)
    (k_ce : PySem.W.keepIn K (.ref f_ce) = true)
    (a_mi : PySem.W.nsIn K mainGlobals "_law_mixed" = some (some (.ref f_mi)))
    (l_mi : K.lookup f_mi = some ⟨oc_mi, od_mi, .func (PySem.W.fnOf "_law_mixed" "_law_mixed" (defArgs sMixed) (defBody sMixed) (defScope sMixed) .none kV_mi dc_mi pm_mi an_mi cd_mi ct_mi), sl_mi⟩)
    (c_mi : PySem.W.codeIn K cd_mi "_law_mixed" = true)
    (k_mi : PySem.W.keepIn K (.ref f_mi) = true)
    (a_dl : PySem.W.nsIn K mainGlobals "_law_delay_by" = some (some (.ref f_dl)))
    (l_dl : K.lookup f_dl = some ⟨oc_dl, od_dl, .func (PySem.W.fnOf "_law_delay_by" "_law_delay_by" (defArgs sDelay) (defBody sDelay) (defScope sDelay) .none kV_dl dc_dl pm_dl an_dl cd_dl ct_dl), sl_dl⟩)
    (c_dl : PySem.W.codeIn K cd_dl "_law_delay_by" = true)
    (k_dl : PySem.W.keepIn K (.ref f_dl) = true)
    (a_ma : PySem.W.nsIn K mainGlobals "_law_many" = some (some (.ref f_ma)))
    (l_ma : K.lookup f_ma = some ⟨oc_ma, od_ma, .func (PySem.W.fnOf "_law_many" "_law_many" (defArgs sMany) (defBody sMany) (defScope sMany) .none kV_ma dc_ma pm_ma an_ma cd_ma ct_ma), sl_ma⟩)
    (c_ma : PySem.W.codeIn K cd_ma "_law_many" = true)
    (k_ma : PySem.W.keepIn K (.ref f_ma) = true)
    (a_wa : PySem.W.nsIn K mainGlobals "_law_ways" = some (some (.ref f_wa)))
    (l_wa : K.lookup f_wa = some ⟨oc_wa, od_wa, .func (PySem.W.fnOf "_law_ways" "_law_ways" (defArgs sWays) (defBody sWays) (defScope sWays) .none kV_wa dc_wa pm_wa an_wa (.ref cW) ct_wa), sl_wa⟩)
    (c_wa : PySem.W.codeIn K (.ref cW) "_law_ways" = true)
    (k_wa : PySem.W.keepIn K (.ref f_wa) = true)
    (a_be : PySem.W.nsIn K mainGlobals "_law_bent" = some (some (.ref f_be)))
    (l_be : K.lookup f_be = some ⟨oc_be, od_be, .func (PySem.W.fnOf "_law_bent" "_law_bent" (defArgs sBent) (defBody sBent) (defScope sBent) .none kV_be dc_be pm_be an_be cd_be ct_be), sl_be⟩)
    (c_be : PySem.W.codeIn K cd_be "_law_bent" = true)
    (k_be : PySem.W.keepIn K (.ref f_be) = true)
    (a_me : PySem.W.nsIn K mainGlobals "_law_met" = some (some (.ref f_me)))
    (l_me : K.lookup f_me = some ⟨oc_me, od_me, .func (PySem.W.fnOf "_law_met" "_law_met" (defArgs sMet) (defBody sMet) (defScope sMet) .none kV_me dc_me pm_me an_me cd_me ct_me), sl_me⟩)
    (c_me : PySem.W.codeIn K cd_me "_law_met" = true)
    (k_me : PySem.W.keepIn K (.ref f_me) = true)
    (a_du : PySem.W.nsIn K mainGlobals "_law_due" = some (some (.ref f_du)))
    (l_du : K.lookup f_du = some ⟨oc_du, od_du, .func (PySem.W.fnOf "_law_due" "_law_due" (defArgs sDue) (defBody sDue) (defScope sDue) .none kV_du dc_du pm_du an_du cd_du ct_du), sl_du⟩)
    (c_du : PySem.W.codeIn K cd_du "_law_due" = true)
    (k_du : PySem.W.keepIn K (.ref f_du) = true)
    (a_wo : PySem.W.nsIn K mainGlobals "_law_word_of" = some (some (.ref f_wo)))
    (l_wo : K.lookup f_wo = some ⟨oc_wo, od_wo, .func (PySem.W.fnOf "_law_word_of" "_law_word_of" (defArgs sWord) (defBody sWord) (defScope sWord) .none kV_wo dc_wo pm_wo an_wo cd_wo ct_wo), sl_wo⟩)
    (c_wo : PySem.W.codeIn K cd_wo "_law_word_of" = true)
    (k_wo : PySem.W.keepIn K (.ref f_wo) = true)
    (a_la : PySem.W.nsIn K mainGlobals "law" = some (some (.ref f_la)))
    (l_la : K.lookup f_la = some ⟨oc_la, od_la, .func (PySem.W.fnOf "law" "law" (defArgs sLaw) (defBody sLaw) (defScope sLaw) .none kV_la dc_la pm_la an_la cd_la ct_la), sl_la⟩)
    (c_la : PySem.W.codeIn K cd_la "law" = true)
    (k_la : PySem.W.keepIn K (.ref f_la) = true)
    (a_CP0 : PySem.W.nsIn K mainGlobals "PaceError" = some (some (.ref CP0)))
    (a_CB : PySem.W.nsIn K mainGlobals "BadCount" = some (some (.ref CB)))
    (a_CM : PySem.W.nsIn K mainGlobals "NoMeeting" = some (some (.ref CM)))
    (a_CD : PySem.W.nsIn K mainGlobals "BadDelay" = some (some (.ref CD)))
    (a_CA : PySem.W.nsIn K mainGlobals "Apart" = some (some (.ref CA)))
    (a_CN : PySem.W.nsIn K mainGlobals "NoRing" = some (some (.ref CN)))
    (a_CP : PySem.W.nsIn K mainGlobals "BadPace" = some (some (.ref CP)))
    (q_CB : PySem.W.excIn K CB bmV "ValueError.__new__" = true)
    (kp_CB : PySem.W.keepIn K (.ref CB) = true)
    (b_CB : PySem.W.subIn K (.ref CB) (.type "BaseException") = some true)
    (t_CB : PySem.W.typeIn K (.ref CB) = some (.type "type"))
    (eg_CB : PySem.W.findIn K (.ref CB) "__getattribute__" = some (some (.builtin "BaseException.__getattribute__")))
    (ek_CB : PySem.W.findIn K (.ref CB) "__getattr__" = some none)
    (ed_CB : PySem.W.hasDictIn K CB = true)
    (ea_CB : PySem.W.findIn K (.ref CB) "__class__" = some (some (.builtin "object.__class__")))
    (em_CB : PySem.W.mroIn K CB (.type "object") = some true)
    (v_CB : PySem.W.kitOne K (.ref CB) (.type "ValueError") = some true)
    (x_CB_CB : PySem.W.kitOne K (.ref CB) (.ref CB) = some true)
    (x_CB_CM : PySem.W.kitOne K (.ref CB) (.ref CM) = some false)
    (x_CB_CD : PySem.W.kitOne K (.ref CB) (.ref CD) = some false)
    (x_CB_CA : PySem.W.kitOne K (.ref CB) (.ref CA) = some false)
    (x_CB_CN : PySem.W.kitOne K (.ref CB) (.ref CN) = some false)
    (x_CB_CP : PySem.W.kitOne K (.ref CB) (.ref CP) = some false)
    (p_CB : PySem.W.subIn K (.ref CB) (.ref CP0) = some true)
    (q_CM : PySem.W.excIn K CM bmV "ValueError.__new__" = true)
    (kp_CM : PySem.W.keepIn K (.ref CM) = true)
    (b_CM : PySem.W.subIn K (.ref CM) (.type "BaseException") = some true)
    (t_CM : PySem.W.typeIn K (.ref CM) = some (.type "type"))
    (eg_CM : PySem.W.findIn K (.ref CM) "__getattribute__" = some (some (.builtin "BaseException.__getattribute__")))
    (ek_CM : PySem.W.findIn K (.ref CM) "__getattr__" = some none)
    (ed_CM : PySem.W.hasDictIn K CM = true)
    (ea_CM : PySem.W.findIn K (.ref CM) "__class__" = some (some (.builtin "object.__class__")))
    (em_CM : PySem.W.mroIn K CM (.type "object") = some true)
    (v_CM : PySem.W.kitOne K (.ref CM) (.type "ValueError") = some true)
    (x_CM_CB : PySem.W.kitOne K (.ref CM) (.ref CB) = some false)
    (x_CM_CM : PySem.W.kitOne K (.ref CM) (.ref CM) = some true)
    (x_CM_CD : PySem.W.kitOne K (.ref CM) (.ref CD) = some false)
    (x_CM_CA : PySem.W.kitOne K (.ref CM) (.ref CA) = some false)
    (x_CM_CN : PySem.W.kitOne K (.ref CM) (.ref CN) = some false)
    (x_CM_CP : PySem.W.kitOne K (.ref CM) (.ref CP) = some false)
    (p_CM : PySem.W.subIn K (.ref CM) (.ref CP0) = some true)
    (q_CD : PySem.W.excIn K CD bmV "ValueError.__new__" = true)
    (kp_CD : PySem.W.keepIn K (.ref CD) = true)
    (b_CD : PySem.W.subIn K (.ref CD) (.type "BaseException") = some true)
    (t_CD : PySem.W.typeIn K (.ref CD) = some (.type "type"))
    (eg_CD : PySem.W.findIn K (.ref CD) "__getattribute__" = some (some (.builtin "BaseException.__getattribute__")))
    (ek_CD : PySem.W.findIn K (.ref CD) "__getattr__" = some none)
    (ed_CD : PySem.W.hasDictIn K CD = true)
    (ea_CD : PySem.W.findIn K (.ref CD) "__class__" = some (some (.builtin "object.__class__")))
    (em_CD : PySem.W.mroIn K CD (.type "object") = some true)
    (v_CD : PySem.W.kitOne K (.ref CD) (.type "ValueError") = some true)
    (x_CD_CB : PySem.W.kitOne K (.ref CD) (.ref CB) = some false)
    (x_CD_CM : PySem.W.kitOne K (.ref CD) (.ref CM) = some false)
    (x_CD_CD : PySem.W.kitOne K (.ref CD) (.ref CD) = some true)
    (x_CD_CA : PySem.W.kitOne K (.ref CD) (.ref CA) = some false)
    (x_CD_CN : PySem.W.kitOne K (.ref CD) (.ref CN) = some false)
    (x_CD_CP : PySem.W.kitOne K (.ref CD) (.ref CP) = some false)
    (p_CD : PySem.W.subIn K (.ref CD) (.ref CP0) = some true)
    (q_CA : PySem.W.excIn K CA bmV "ValueError.__new__" = true)
    (kp_CA : PySem.W.keepIn K (.ref CA) = true)
    (b_CA : PySem.W.subIn K (.ref CA) (.type "BaseException") = some true)
    (t_CA : PySem.W.typeIn K (.ref CA) = some (.type "type"))
    (eg_CA : PySem.W.findIn K (.ref CA) "__getattribute__" = some (some (.builtin "BaseException.__getattribute__")))
    (ek_CA : PySem.W.findIn K (.ref CA) "__getattr__" = some none)
    (ed_CA : PySem.W.hasDictIn K CA = true)
    (ea_CA : PySem.W.findIn K (.ref CA) "__class__" = some (some (.builtin "object.__class__")))
    (em_CA : PySem.W.mroIn K CA (.type "object") = some true)
    (v_CA : PySem.W.kitOne K (.ref CA) (.type "ValueError") = some true)
    (x_CA_CB : PySem.W.kitOne K (.ref CA) (.ref CB) = some false)
    (x_CA_CM : PySem.W.kitOne K (.ref CA) (.ref CM) = some false)
    (x_CA_CD : PySem.W.kitOne K (.ref CA) (.ref CD) = some false)
    (x_CA_CA : PySem.W.kitOne K (.ref CA) (.ref CA) = some true)
    (x_CA_CN : PySem.W.kitOne K (.ref CA) (.ref CN) = some false)
    (x_CA_CP : PySem.W.kitOne K (.ref CA) (.ref CP) = some false)
    (p_CA : PySem.W.subIn K (.ref CA) (.ref CP0) = some true)
    (b_CP0 : PySem.W.subIn K (.ref CP0) (.type "BaseException") = some true)
    (d_CP0 : PySem.W.hasDictIn K CP0 = true)
    (t_CP0 : PySem.W.typeIn K (.ref CP0) = some (.type "type"))
    (en : PySem.W.specialIn K (.builtin "object.__class__") "__get__" = some (some (.builtin "getset_descriptor.__get__")))
    (et : PySem.W.takesIn K (.builtin "object.__class__") = some true)
    (aC : PySem.W.nsIn K mainGlobals "Web" = some (some (.ref C)))
    (pg : PySem.W.plainGet K C Str.empty = true)
    (hd : PySem.W.hasDictIn K C = true)
    (po : PySem.W.plainOver K C = true)
    (sa : PySem.W.findIn K (.ref C) "__setattr__" = some (some (.builtin "object.__setattr__")))
    (mk : PySem.W.makesIn K C = true)
    (kc : PySem.W.keepIn K (.ref C) = true)
    (nM : PySem.W.findIn K (.ref C) "many" = some none)
    (nW : PySem.W.findIn K (.ref C) "ways" = some none)
    (nU : PySem.W.findIn K (.ref C) "_ways" = some none)
    (z0 : PySem.W.nsIn K mainGlobals "len" = some none)
    (z1 : PySem.W.nsIn K mainGlobals "range" = some none)
    (z2 : PySem.W.nsIn K mainGlobals "list" = some none)
    (z3 : PySem.W.nsIn K mainGlobals "tuple" = some none)
    (z4 : PySem.W.nsIn K mainGlobals "sorted" = some none)
    (z5 : PySem.W.nsIn K mainGlobals "isinstance" = some none)
    (z6 : PySem.W.nsIn K mainGlobals "ValueError" = some none)
    (gi0 : PySem.W.nsIn K mainGlobals "MOST_MEETINGS" = some (some (.int 12 tk0)))
    (gi1 : PySem.W.nsIn K mainGlobals "MOST_WAYS" = some (some (.int 60 tk1)))
    (gi2 : PySem.W.nsIn K mainGlobals "MOST_DELAY" = some (some (.int 9999 tk2)))
    (ne_CB_CM : CB ≠ CM)
    (ne_CB_CD : CB ≠ CD)
    (ne_CB_CA : CB ≠ CA)
    (ne_CM_CD : CM ≠ CD)
    (ne_CM_CA : CM ≠ CA)
    (ne_CD_CA : CD ≠ CA)
    (hK : K.lookup TP = none)
    (hcd : PySem.W.codeHdIn K cW TP = true)
    (hT : h.get? TP = some { cls := .none, data := .fields #[] }) : LawAtS l w K CX0 5 63 "_law_script" mg fa h := by
  have e := hfa.symm.trans (PySem.W.mg_of X G a_la)
  cases e
  have F_rm := fun_mk (st := sRefMeet) l_rm c_rm k_rm
  have B_rm := F_rm.binds (ps := ["many", "meeting"]) fun _ _ _ _ _ _ us hl => match us, hl with | [_, _], _ => rfl
  have G_rm := PySem.W.mg_of X G a_rm
  have F_re := fun_mk (st := sReached) l_re c_re k_re
  have B_re := F_re.binds (ps := ["ways", "start"]) fun _ _ _ _ _ _ us hl => match us, hl with | [_, _], _ => rfl
  have G_re := PySem.W.mg_of X G a_re
  have F_rc := fun_mk (st := sRefCnt) l_rc c_rc k_rc
  have B_rc := F_rc.binds (ps := ["many", "ways"]) fun _ _ _ _ _ _ us hl => match us, hl with | [_, _], _ => rfl
  have G_rc := PySem.W.mg_of X G a_rc
  have F_rw := fun_mk (st := sRefWays) l_rw c_rw k_rw
  have B_rw := F_rw.binds (ps := ["many", "ways"]) fun _ _ _ _ _ _ us hl => match us, hl with | [_, _], _ => rfl
  have G_rw := PySem.W.mg_of X G a_rw
  have F_ra := fun_mk (st := sRefApart) l_ra c_ra k_ra
  have B_ra := F_ra.binds (ps := ["many", "ways"]) fun _ _ _ _ _ _ us hl => match us, hl with | [_, _], _ => rfl
  have G_ra := PySem.W.mg_of X G a_ra
  have F_in := fun_mk (st := sInit) l_in c_in k_in
  have B_in := F_in.binds (ps := ["self", "many", "ways"]) fun _ _ _ _ _ _ us hl => match us, hl with | [_, _, _], _ => rfl
  have F_ce := fun_mk (st := sCell) l_ce c_ce k_ce
  have B_ce := F_ce.binds (ps := ["_law_script", "_law_k"]) fun _ _ _ _ _ _ us hl => match us, hl with | [_, _], _ => rfl
  have G_ce := PySem.W.mg_of X G a_ce
  have F_mi := fun_mk (st := sMixed) l_mi c_mi k_mi
  have B_mi := F_mi.binds (ps := ["_law_cell", "_law_k"]) fun _ _ _ _ _ _ us hl => match us, hl with | [_, _], _ => rfl
  have G_mi := PySem.W.mg_of X G a_mi
  have F_dl := fun_mk (st := sDelay) l_dl c_dl k_dl
  have B_dl := F_dl.binds (ps := ["_law_number"]) fun _ _ _ _ _ _ us hl => match us, hl with | [_], _ => rfl
  have G_dl := PySem.W.mg_of X G a_dl
  have F_ma := fun_mk (st := sMany) l_ma c_ma k_ma
  have B_ma := F_ma.binds (ps := ["_law_script"]) fun _ _ _ _ _ _ us hl => match us, hl with | [_], _ => rfl
  have G_ma := PySem.W.mg_of X G a_ma
  have F_wa := fun_mk (st := sWays) l_wa c_wa k_wa
  have B_wa := F_wa.binds (ps := ["_law_script", "_law_many_here"]) fun _ _ _ _ _ _ us hl => match us, hl with | [_, _], _ => rfl
  have G_wa := PySem.W.mg_of X G a_wa
  have F_be := fun_mk (st := sBent) l_be c_be k_be
  have B_be := F_be.binds (ps := ["_law_script", "_law_ways_here", "_law_many_here"]) fun _ _ _ _ _ _ us hl => match us, hl with | [_, _, _], _ => rfl
  have G_be := PySem.W.mg_of X G a_be
  have F_me := fun_mk (st := sMet) l_me c_me k_me
  have B_me := F_me.binds (ps := ["_law_many_here", "_law_pairs"]) fun _ _ _ _ _ _ us hl => match us, hl with | [_, _], _ => rfl
  have G_me := PySem.W.mg_of X G a_me
  have F_du := fun_mk (st := sDue) l_du c_du k_du
  have B_du := F_du.binds (ps := ["_law_many_here", "_law_ways_here"]) fun _ _ _ _ _ _ us hl => match us, hl with | [_, _], _ => rfl
  have G_du := PySem.W.mg_of X G a_du
  have F_wo := fun_mk (st := sWord) l_wo c_wo k_wo
  have B_wo := F_wo.binds (ps := ["_law_error"]) fun _ _ _ _ _ _ us hl => match us, hl with | [_], _ => rfl
  have G_wo := PySem.W.mg_of X G a_wo
  have F_la := fun_mk (st := sLaw) l_la c_la k_la
  have G_CP0 := PySem.W.mg_of X G a_CP0
  have G_CB := PySem.W.mg_of X G a_CB
  have G_CM := PySem.W.mg_of X G a_CM
  have G_CD := PySem.W.mg_of X G a_CD
  have G_CA := PySem.W.mg_of X G a_CA
  have G_CN := PySem.W.mg_of X G a_CN
  have G_CP := PySem.W.mg_of X G a_CP
  have Z : Names1 mg := { len := PySem.W.mg_none_of X G z0, range := PySem.W.mg_none_of X G z1, list := PySem.W.mg_none_of X G z2, tuple := PySem.W.mg_none_of X G z3, sorted := PySem.W.mg_none_of X G z4 }
  have ZW : NamesW mg CB CM CD CA CN CP := ⟨PySem.W.mg_none_of X G z5, PySem.W.mg_none_of X G z6, G_CB, G_CM, G_CD, G_CA, G_CN, G_CP⟩
  have T_CB : ErrT K mg "BadCount" CB := ⟨G_CB, q_CB, kp_CB, b_CB, t_CB⟩
  have K_CB : Kit4 K CB CB CM CD CA CN CP := kit4_of ⟨eg_CB, ek_CB, b_CB, ed_CB, ea_CB, en, et, em_CB⟩ v_CB x_CB_CB x_CB_CM x_CB_CD x_CB_CA x_CB_CN x_CB_CP (decide_eq_true rfl).symm (decide_eq_false ne_CB_CM).symm (decide_eq_false ne_CB_CD).symm (decide_eq_false ne_CB_CA).symm
  have X_CB := PySem.W.exm_ref b_CP0 d_CP0 t_CP0 p_CB
  have T_CM : ErrT K mg "NoMeeting" CM := ⟨G_CM, q_CM, kp_CM, b_CM, t_CM⟩
  have K_CM : Kit4 K CM CB CM CD CA CN CP := kit4_of ⟨eg_CM, ek_CM, b_CM, ed_CM, ea_CM, en, et, em_CM⟩ v_CM x_CM_CB x_CM_CM x_CM_CD x_CM_CA x_CM_CN x_CM_CP (decide_eq_false (Ne.symm ne_CB_CM)).symm (decide_eq_true rfl).symm (decide_eq_false ne_CM_CD).symm (decide_eq_false ne_CM_CA).symm
  have X_CM := PySem.W.exm_ref b_CP0 d_CP0 t_CP0 p_CM
  have T_CD : ErrT K mg "BadDelay" CD := ⟨G_CD, q_CD, kp_CD, b_CD, t_CD⟩
  have K_CD : Kit4 K CD CB CM CD CA CN CP := kit4_of ⟨eg_CD, ek_CD, b_CD, ed_CD, ea_CD, en, et, em_CD⟩ v_CD x_CD_CB x_CD_CM x_CD_CD x_CD_CA x_CD_CN x_CD_CP (decide_eq_false (Ne.symm ne_CB_CD)).symm (decide_eq_false (Ne.symm ne_CM_CD)).symm (decide_eq_true rfl).symm (decide_eq_false ne_CD_CA).symm
  have X_CD := PySem.W.exm_ref b_CP0 d_CP0 t_CP0 p_CD
  have T_CA : ErrT K mg "Apart" CA := ⟨G_CA, q_CA, kp_CA, b_CA, t_CA⟩
  have K_CA : Kit4 K CA CB CM CD CA CN CP := kit4_of ⟨eg_CA, ek_CA, b_CA, ed_CA, ea_CA, en, et, em_CA⟩ v_CA x_CA_CB x_CA_CM x_CA_CD x_CA_CA x_CA_CN x_CA_CP (decide_eq_false (Ne.symm ne_CB_CA)).symm (decide_eq_false (Ne.symm ne_CM_CA)).symm (decide_eq_false (Ne.symm ne_CD_CA)).symm (decide_eq_true rfl).symm
  have X_CA := PySem.W.exm_ref b_CP0 d_CP0 t_CP0 p_CA
  have WT : WebT K mg C := ⟨⟨pg, hd, po, sa⟩, nM, nW, nU, PySem.W.mg_of X G aC⟩
  have g0 := PySem.W.mg_of X G gi0
  have g1 := PySem.W.mg_of X G gi1
  have g2 := PySem.W.mg_of X G gi2
  refine ⟨PySem.W.fnOf "law" "law" (defArgs sLaw) (defBody sLaw) (defScope sLaw) .none kV_la dc_la pm_la an_la cd_la ct_la, [(cW, TP)], spLaw K [(TP, lamQ)], ?_, ?_, ?_, fun s v => .of_eq rfl, ?_, ?_⟩
  · intro p hp
    rw [List.mem_singleton.mp hp]
    exact hT
  · intro p hp
    rw [List.mem_singleton.mp hp]
    exact hK
  · intro p hp
    rw [List.mem_singleton.mp hp]
    exact PySem.W.codeHd_of_K X hcd
  · intro H a ns hl hb ht hS
    refine ⟨a, ns, rfl, hS, fun p hp => ?_, fun _ => rfl⟩
    rw [List.mem_singleton.mp hp]
    exact TabS.nil (ht (cW, TP) (List.mem_singleton.mpr rfl))
  · intro base KB GB TB
    have TBw : TabB base mg cW TP := TB (cW, TP) (List.mem_singleton.mpr rfl)
    exact ok_law F_la Z.toNames0 {
      GMa := ok_many F_ma F_ce Z.toNames0 G_ce B_ce, gMa := G_ma, kMa := k_ma, bMa := B_ma
      GBe := ok_bent F_be F_ce F_mi Z.toNames0 G_ce G_mi B_ce B_mi, gBe := G_be, kBe := k_be, bBe := B_be
      GWa := ok_ways F_wa rfl TBw F_ce F_mi F_dl Z G_ce G_mi G_dl B_ce B_mi B_dl, gWa := G_wa, kWa := k_wa, bWa := B_wa
      GCe := ok_cell F_ce Z.toNames0, gCe := G_ce, kCe := k_ce, bCe := B_ce
      GDu := ok_due F_du F_me Z.toNames0 G_me B_me, gDu := G_du, kDu := k_du, bDu := B_du
      GWo := ok_word F_wo ZW, gWo := G_wo, kWo := k_wo, bWo := B_wo
      GWe := ok_web F_in WT Z.toNames0 F_rc F_rm F_rw F_ra F_re T_CB T_CM T_CD T_CA G_rc G_rm G_rw G_ra G_re B_rc B_rm B_rw B_ra B_re g0 g1 g2, bWe := B_in
      M := ⟨mk, a_in, i_in, kc⟩, W := WT, gP := G_CP0, xB := X_CB, xM := X_CM, xD := X_CD, xA := X_CA, kB := K_CB, kM := K_CM, kD := K_CD, kA := K_CA
      ap := ⟨ne_CB_CM, ne_CB_CD, ne_CB_CA, ne_CM_CD, ne_CM_CA, ne_CD_CA⟩ }
end Mp
set_option maxRecDepth 100000
open PySem PySem.W PyProof.Rows
set_option maxHeartbeats 0 in
theorem PySem.Challenge.cw_meanpace_k04_webs_refused_holds : PySem.Challenge.rw_meanpace_k04_webs_refused.Holds := by
  w_on; o_law; k_head; (case hw => w_witness2)
  k_fill
  refine LamX.walk_ofTs (l := PySem.Challenge.rw_meanpace_k04_webs_refused) (n := 63) (k := 5) (x := "_law_script") (CX := fun _ => L2.CX0) rfl (by decide) rfl ⟨rfl, by decide, by decide⟩ (fun w h Y => PySem.W.km_in_of Y) ?F fun _ _ _ _ _ z => z
  case F =>
    intro w mg fa h Y KX G hmg
    have hTab := PySem.W.km_tabs_of Y
    refine' Mp.all_mk (TP := 230) KX G hmg ?a_rm ?l_rm ?c_rm ?k_rm ?a_re ?l_re ?c_re ?k_re ?a_rc ?l_rc ?c_rc ?k_rc ?a_rw ?l_rw ?c_rw ?k_rw ?a_ra ?l_ra ?c_ra ?k_ra ?a_in ?i_in ?l_in ?c_in ?k_in ?a_ce ?l_ce ?c_ce ?k_ce ?a_mi ?l_mi ?c_mi ?k_mi ?a_dl ?l_dl ?c_dl ?k_dl ?a_ma ?l_ma ?c_ma ?k_ma ?a_wa ?l_wa ?c_wa ?k_wa ?a_be ?l_be ?c_be ?k_be ?a_me ?l_me ?c_me ?k_me ?a_du ?l_du ?c_du ?k_du ?a_wo ?l_wo ?c_wo ?k_wo ?a_la ?l_la ?c_la ?k_la ?a_CP0 ?a_CB ?a_CM ?a_CD ?a_CA ?a_CN ?a_CP ?q_CB ?kp_CB ?b_CB ?t_CB ?eg_CB ?ek_CB ?ed_CB ?ea_CB ?em_CB ?v_CB ?x_CB_CB ?x_CB_CM ?x_CB_CD ?x_CB_CA ?x_CB_CN ?x_CB_CP ?p_CB ?q_CM ?kp_CM ?b_CM ?t_CM ?eg_CM ?ek_CM ?ed_CM ?ea_CM ?em_CM ?v_CM ?x_CM_CB ?x_CM_CM ?x_CM_CD ?x_CM_CA ?x_CM_CN ?x_CM_CP ?p_CM ?q_CD ?kp_CD ?b_CD ?t_CD ?eg_CD ?ek_CD ?ed_CD ?ea_CD ?em_CD ?v_CD ?x_CD_CB ?x_CD_CM ?x_CD_CD ?x_CD_CA ?x_CD_CN ?x_CD_CP ?p_CD ?q_CA ?kp_CA ?b_CA ?t_CA ?eg_CA ?ek_CA ?ed_CA ?ea_CA ?em_CA ?v_CA ?x_CA_CB ?x_CA_CM ?x_CA_CD ?x_CA_CA ?x_CA_CN ?x_CA_CP ?p_CA ?b_CP0 ?d_CP0 ?t_CP0 ?en ?et ?aC ?pg ?hd ?po ?sa ?mk ?kc ?nM ?nW ?nU ?z0 ?z1 ?z2 ?z3 ?z4 ?z5 ?z6 ?gi0 ?gi1 ?gi2 ?ne_CB_CM ?ne_CB_CD ?ne_CB_CA ?ne_CM_CD ?ne_CM_CA ?ne_CD_CA ?hK ?hcd ?hT
    (case a_rm => k_is)
    (case a_re => k_is)
    (case a_rc => k_is)
    (case a_rw => k_is)
    (case a_ra => k_is)
    (case a_ce => k_is)
    (case a_mi => k_is)
    (case a_dl => k_is)
    (case a_ma => k_is)
    (case a_wa => k_is)
    (case a_be => k_is)
    (case a_me => k_is)
    (case a_du => k_is)
    (case a_wo => k_is)
    (case a_la => k_is)
    (case a_CP0 => k_is)
    (case a_CB => k_is)
    (case a_CM => k_is)
    (case a_CD => k_is)
    (case a_CA => k_is)
    (case a_CN => k_is)
    (case a_CP => k_is)
    (case aC => k_is)
    (case z0 => k_is)
    (case z1 => k_is)
    (case z2 => k_is)
    (case z3 => k_is)
    (case z4 => k_is)
    (case z5 => k_is)
    (case z6 => k_is)
    (case gi0 => k_is)
    (case gi1 => k_is)
    (case gi2 => k_is)
    (case l_rm => k_is)
    (case c_rm => k_is)
    (case k_rm => k_is)
    (case l_re => k_is)
    (case c_re => k_is)
    (case k_re => k_is)
    (case l_rc => k_is)
    (case c_rc => k_is)
    (case k_rc => k_is)
    (case l_rw => k_is)
    (case c_rw => k_is)
    (case k_rw => k_is)
    (case l_ra => k_is)
    (case c_ra => k_is)
    (case k_ra => k_is)
    (case a_in => k_is)
    (case i_in => k_is)
    (case l_in => k_is)
    (case c_in => k_is)
    (case k_in => k_is)
    (case l_ce => k_is)
    (case c_ce => k_is)
    (case k_ce => k_is)
    (case l_mi => k_is)
    (case c_mi => k_is)
    (case k_mi => k_is)
    (case l_dl => k_is)
    (case c_dl => k_is)
    (case k_dl => k_is)
    (case l_ma => k_is)
    (case c_ma => k_is)
    (case k_ma => k_is)
    (case l_wa => k_is)
    (case c_wa => k_is)
    (case k_wa => k_is)
    (case l_be => k_is)
    (case c_be => k_is)
    (case k_be => k_is)
    (case l_me => k_is)
    (case c_me => k_is)
    (case k_me => k_is)
    (case l_du => k_is)
    (case c_du => k_is)
    (case k_du => k_is)
    (case l_wo => k_is)
    (case c_wo => k_is)
    (case k_wo => k_is)
    (case l_la => k_is)
    (case c_la => k_is)
    (case k_la => k_is)
    (case q_CB => k_exc)
    (case kp_CB => k_is)
    (case b_CB => k_is)
    (case t_CB => k_is)
    (case eg_CB => k_is)
    (case ek_CB => k_is)
    (case ed_CB => k_is)
    (case ea_CB => k_is)
    (case em_CB => k_is)
    (case v_CB => kit_is)
    (case x_CB_CB => kit_is)
    (case x_CB_CM => kit_is)
    (case x_CB_CD => kit_is)
    (case x_CB_CA => kit_is)
    (case x_CB_CN => kit_is)
    (case x_CB_CP => kit_is)
    (case p_CB => k_is)
    (case q_CM => k_exc)
    (case kp_CM => k_is)
    (case b_CM => k_is)
    (case t_CM => k_is)
    (case eg_CM => k_is)
    (case ek_CM => k_is)
    (case ed_CM => k_is)
    (case ea_CM => k_is)
    (case em_CM => k_is)
    (case v_CM => kit_is)
    (case x_CM_CB => kit_is)
    (case x_CM_CM => kit_is)
    (case x_CM_CD => kit_is)
    (case x_CM_CA => kit_is)
    (case x_CM_CN => kit_is)
    (case x_CM_CP => kit_is)
    (case p_CM => k_is)
    (case q_CD => k_exc)
    (case kp_CD => k_is)
    (case b_CD => k_is)
    (case t_CD => k_is)
    (case eg_CD => k_is)
    (case ek_CD => k_is)
    (case ed_CD => k_is)
    (case ea_CD => k_is)
    (case em_CD => k_is)
    (case v_CD => kit_is)
    (case x_CD_CB => kit_is)
    (case x_CD_CM => kit_is)
    (case x_CD_CD => kit_is)
    (case x_CD_CA => kit_is)
    (case x_CD_CN => kit_is)
    (case x_CD_CP => kit_is)
    (case p_CD => k_is)
    (case q_CA => k_exc)
    (case kp_CA => k_is)
    (case b_CA => k_is)
    (case t_CA => k_is)
    (case eg_CA => k_is)
    (case ek_CA => k_is)
    (case ed_CA => k_is)
    (case ea_CA => k_is)
    (case em_CA => k_is)
    (case v_CA => kit_is)
    (case x_CA_CB => kit_is)
    (case x_CA_CM => kit_is)
    (case x_CA_CD => kit_is)
    (case x_CA_CA => kit_is)
    (case x_CA_CN => kit_is)
    (case x_CA_CP => kit_is)
    (case p_CA => k_is)
    (case b_CP0 => k_is)
    (case d_CP0 => k_is)
    (case t_CP0 => k_is)
    (case en => k_is)
    (case et => k_is)
    (case pg => k_is)
    (case hd => k_is)
    (case po => k_is)
    (case sa => k_is)
    (case mk => k_is)
    (case kc => k_is)
    (case nM => k_is)
    (case nW => k_is)
    (case nU => k_is)
    (case ne_CB_CM => decide)
    (case ne_CB_CD => decide)
    (case ne_CB_CA => decide)
    (case ne_CM_CD => decide)
    (case ne_CM_CA => decide)
    (case ne_CD_CA => decide)
    (case hK => kernel_rfl)
    (case hcd => kernel_rfl)
    (case hT => exact hTab 230 (by first | decide | simp | k_mem))
