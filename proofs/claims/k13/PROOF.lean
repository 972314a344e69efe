import PyProof.Rows.All
import Wide.All
import OpenK.AllK
import Wide.FinOn
import HandS.ForMost
import PySem.Challenge.RW_meanpace_k13_whole_paces_of_other_webs
import KE.KSortKeyAny
import HandS.Conv
import HandS.Lambda
import HandS.ExcOwn
import HandS.HotCalls
import HandS.ExcIs
import HandS.WordsExc
import HandS.FStr
import HandS.NoneIn
import HandS.EndTab
import KE.KMinKey
import HandS.SortKw
import HandS.Gcd
import HandS.Wide
import HandS.Zip
import HandS.Walk
import HandS.Style
import HandS.RevRange
import HandS.ExcCtx
import HandS.IsInst
import HandS.TupAny
import KE.RegKIsAll
/-! ## T0 -/
set_option linter.all false
namespace Mp
open PySem PySem.Spec PyProof.Rows L2
/-! ### the text by places -/
def top (i : Nat) : Stmt := PySem.Challenge.pw_meanpace_k13_whole_paces_of_other_webs.main.body.getD i (.Pass ⟨0, 0, 0, 0⟩)
abbrev sWall : Stmt := top 1
abbrev sLowest : Stmt := top 11
abbrev sMean : Stmt := top 12
abbrev sSteps : Stmt := top 14
abbrev sLift : Stmt := top 15
abbrev sRingBehind : Stmt := top 16
abbrev sSomeRing : Stmt := top 17
abbrev sSlower : Stmt := top 18
abbrev sPace : Stmt := top 19
abbrev sRefMeet : Stmt := top 24
abbrev sReached : Stmt := top 25
abbrev sRefCnt : Stmt := top 26
abbrev sRefWays : Stmt := top 27
abbrev sRefApart : Stmt := top 28
abbrev sInit : Stmt := inClass (top 29) 0
abbrev sInto : Stmt := inClass (top 29) 1
abbrev sDelayM : Stmt := inClass (top 29) 2
abbrev sAhead : Stmt := inClass (top 29) 3
abbrev sTurns : Stmt := inClass (top 29) 4
abbrev sTurned : Stmt := inClass (top 29) 5
abbrev sRefTimes : Stmt := inClass (top 29) 6
abbrev sCell : Stmt := top 31
abbrev sLawWhole : Stmt := top 32
abbrev sMixed : Stmt := top 33
abbrev sDelay : Stmt := top 34
abbrev sWays : Stmt := top 35
abbrev sLawPace : Stmt := top 36
abbrev sLaw : Stmt := top 37
end Mp
/-! ## Gen1 -/
set_option Elab.async false
set_option linter.all false
set_option maxRecDepth 100000
set_option maxHeartbeats 2000000
namespace Mp
open PySem PySem.Spec PyProof.Rows L2

/-- 0, 1, .. below n -/
def upto (n : Nat) : List Int := (List.range n).map Int.ofNat
theorem upto_len (n : Nat) : (upto n).length = n := by unfold upto; simp
theorem ints_of_items {acc : Array Value} {n : Nat} (h : ItemsOf (fun i v => ∃ t, v = Value.int (0 + i * 1) t) acc n) : IntsAre acc.toList (upto n) := by
  have hl : acc.toList.length = n := by rw [Array.length_toList]; exact h.1
  have key : ∀ (l : List Value) (k : Nat), (∀ j v, l[j]? = some v → ∃ t, v = Value.int ((k + j : Nat) : Int) t) → IntsAre l ((List.range' k l.length).map Int.ofNat) := by
    intro l
    induction l with
    | nil => intro k _; exact IntsAre.nil
    | cons x r ih =>
      intro k hk
      obtain ⟨t, e0⟩ := hk 0 x rfl
      subst e0
      rw [List.length_cons, List.range'_succ, List.map_cons]
      exact IntsAre.cons _ t (ih (k + 1) fun j v e => by
        obtain ⟨t', e'⟩ := hk (j + 1) v e
        exact ⟨t', by rw [e']; congr 1; omega⟩)
  have q := key acc.toList 0 fun j v e => by
    obtain ⟨t, e'⟩ := h.2 j v (by rw [← e, Array.getElem?_toList])
    exact ⟨t, by rw [e']; congr 1; omega⟩
  rw [hl] at q
  unfold upto
  rw [List.range_eq_range']
  exact q

section
variable {prog : Program} {w : World} {A : Around} {E : Value → Shared → Prop} {s : Shared} {h₀ : Heap} {L r : Addr} {m : Str → Option Value} {news : List (Addr × Obj)} {Q : Value → Shared → Prop}
theorem sorted_rg {hi : Int} {n : Nat} {t u v : Tok} {f : Value} {kw : List (Str × Value)} (g : Int → Int) (F : Fr h₀ L s.heap m) (N : News h₀ L s.heap news) (hh : A.handled = none)
    (hr : IsRange s.heap r 0 hi 1 t u v) (hsm : Builtin.Range.small 0 hi 1 = true) (hn : Builtin.Range.rangeSize 0 hi 1 = n) (hlen : n ≤ 2 ^ 24)
    (ha1 : argsOk "sorted" ⟨[.ref r], kw⟩) (ha2 : ∀ x, argsOk "list.sort" ⟨[.ref x], kw⟩) (ht : ∀ x, Builtin.«list.sort» ⟨[.ref x], kw⟩ = ksk_tree x f false)
    (turn : ∀ (k : Int) (tt : Tok) (h : Heap) (tk : Nat) (own : List (Addr × Obj)), Fr h₀ L h m → News h₀ L h (news ++ own) →
      wpAny (model prog w) A.in1.in1 (call f [.int k tt]) (KskEnd h₀ L m (news ++ own) (g k) { s with heap := h, toks := tk }) (fun _ _ => False) { s with heap := h, toks := tk })
    (done : ∀ (D : Addr) (h' : Heap) (tk : Nat) (out : List Value) (ns : List Int) (c : Nat), Fr h₀ L h' m → News h₀ L h' ((D, seqObj "list" out.toArray c) :: news) → s.heap.get? D = none → L < D → IntsAre out ns → ns.Perm (upto n) →
      Q (.ref D) { s with heap := h', toks := tk }) :
    wpAny (model prog w) A (call (.builtin "sorted") [.ref r] kw) Q E s := by
  refine call_function_entry_kw kind_sorted plain_sorted entry_sorted ha1 ?_
  unfold Builtin.«sorted»
  refine wpAny_bind (m := checkCount "sorted" 1 1 _) (wpAny_pure ?_)
  have hh1 : A.in1.handled = none := hh
  refine wpAny_bind (collect_range hh1 hr hsm hn hlen fun h1 tk1 acc old1 its => ?_)
  have vsz : acc.toList.length = n := by rw [Array.length_toList]; exact its.1
  have small : acc.toList.length ≤ sizeLine := by rw [vsz, sizeLine_eq]; exact hlen
  refine wpAny_bind (wpAny_newList ?_ small)
  have atL : (h1.push (seqObj "list" acc.toList.toArray 0)).get? h1.objs.size = some (seqObj "list" acc.toList.toArray 0) := Heap.get?_push_size _ rfl
  have old2 : ∀ b o, s.heap.get? b = some o → (h1.push (seqObj "list" acc.toList.toArray 0)).get? b = some o := fun b o q => Heap.get?_push_of_some _ (old1 b o q)
  have F1 := F.kept old1
  have hL : L < h1.objs.size := F1.ns.lt
  have dead : s.heap.get? h1.objs.size = none := by
    cases q : s.heap.get? h1.objs.size with
    | none => rfl
    | some o => exact absurd (Heap.lt_size (old1 _ _ q)) (Nat.lt_irrefl _)
  have intsV := ints_of_items its
  refine wpAny_bind (wpAny_holding (wpAny_call_entry_kw slot_list_sort ⟨_, atL, rfl⟩ entry_list_sort ?body (ha2 _)))
  case body =>
    show wpAny (model prog w) A.in1.in1 (Builtin.«list.sort» ⟨[.ref h1.objs.size], kw⟩) _ _ _
    rw [ht h1.objs.size]
    refine ksk_sortAny (kz := (upto n).map g) (s := { s with heap := h1.push (seqObj "list" acc.toList.toArray 0), toks := tk1 }) (F.kept old2) (N.grown old2) atL (Nat.ne_of_gt hL)
      (Heap.get?_none_of_le (Nat.le_trans F1.above (Nat.le_of_lt hL))) (fun p hp => fun z => by
        have q := old1 _ _ (N p hp).1
        rw [z] at q
        exact absurd (Heap.lt_size q) (Nat.lt_irrefl _)) (by simp [vsz, upto_len]) small (fun i x k hx hk h tk own F' N' => ?_) fun h' tk out c F' N' ko => ⟨_, rfl, ?_⟩
    · obtain ⟨j, ej, ek⟩ : ∃ j : Int, (upto n)[i]? = some j ∧ g j = k := by
        rw [List.getElem?_map] at hk
        cases q : (upto n)[i]? with
        | none => rw [q] at hk; simp at hk
        | some j => rw [q] at hk; exact ⟨j, rfl, Option.some.inj hk⟩
      obtain ⟨t', et⟩ := intsV.get i j ej
      rw [et] at hx
      cases hx
      rw [← ek]
      exact turn j t' h tk own F' N'
    · obtain ⟨ps, hp, ho, _⟩ := ko
      have pv : out.toList.Perm acc.toList := by
        rw [ho]
        have q := hp.map Prod.snd
        rw [List.map_snd_zip (by simp [vsz, upto_len])] at q
        exact q
      have mem : ∀ x ∈ out.toList, ∃ i t, x = Value.int i t := fun x hx => intsV.all x (pv.mem_iff.mp hx)
      have iI : IntsAre out.toList (out.toList.map numOf) := by
        have z := intsAre_map out.toList mem
        exact z
      have pI : (out.toList.map numOf).Perm (upto n) := by
        have q := pv.map numOf
        rw [intsV.nums] at q
        exact q
      exact wpAny_pure ⟨_, rfl, done h1.objs.size h' tk out.toList _ c F' (by rw [Array.toArray_toList]; exact N') dead hL iI pI⟩
end
end Mp
/-! ## Gen2 -/
set_option Elab.async false
set_option linter.all false
set_option maxRecDepth 100000
set_option maxHeartbeats 2000000
namespace Mp
open PySem PySem.Spec PyProof.Rows L2 LamX

/-- the code of the key: (k + 1) * (1 + cell % 12) % 13 -/
def keyOf (z k : Int) : Int := ((k + 1) * (1 + z.fmod 12)).fmod 13
theorem key_body {prog : Program} {w : World} {A : Around} {env : Env} {s : Shared} {E : Value → Shared → Prop} {Q : Value → Shared → Prop} {x y : Str} {j1 j2 j3 j4 : Nat} {p1 p2 p3 p4 p5 p6 p7 p8 p9 p10 p11 : Pos} {m : Str → Option Value} {k z : Int} {t tz : Tok} {c : Addr}
    (hk : env.scope.kind = .function) (hx : env.kindOf x = some .local) (hy : env.kindOf y = some .free) (hn : s.heap.Ns env.locals m) (hv : m x = some (.int k t)) (hc : env.cells.lookup y = some c) (hcell : s.heap.IsCell c (some (.int z tz)))
    (dx : (x == ("__debug__" : Str)) = false) (dy : (y == ("__debug__" : Str)) = false) (cy : (y == ("__classdict__" : Str)) = false) (q : ∀ tk t', Q (.int (keyOf z k) t') { s with toks := tk }) :
    wpAny (model prog w) A (eval (.BinOp (.BinOp (.BinOp (.Name x p1) .Add (.Constant (.int 1) j1 p2) p3) .Mult (.BinOp (.Constant (.int 1) j2 p4) .Add (.BinOp (.Name y p5) .Mod (.Constant (.int 12) j3 p6) p7) p8) p9) .Mod (.Constant (.int 13) j4 p10) p11) env) Q E s := by
  refine wpAny_BinOp (wpAny_BinOp (wpAny_BinOp (wpAny_Name (wpAny_loadName_local hk hx hn hv (wpAny_Constant_int (add_int ?_))) dx)))
  refine wpAny_BinOp (wpAny_Constant_int (wpAny_BinOp (wpAny_Name (wpAny_loadName_free hk hy hc hcell (wpAny_Constant_int (mod_int' (by decide) (add_int (mul_int ?_ ?_)))) cy) dy)))
  · refine wpAny_Constant_int (mod_int' (by decide) ?_)
    exact q _ _
  · have h1 := Int.fmod_nonneg_of_pos z (show (0 : Int) < 12 by decide)
    have h2 := Int.fmod_lt_of_pos z (show (0 : Int) < 12 by decide)
    exact (show CMul _ _ from .inr ⟨by omega, by omega⟩).ok

section
variable {X : Cx} {pins : List (Addr × Obj)} {σ : L2.St} {H : Hp} {s : Shared} {h' : Heap}
theorem kept_all {g h h2 : Heap} {L : Addr} {m : Str → Option Value} {own : List (Addr × Obj)} (k : ∀ b o, g.get? b = some o → h.get? b = some o) (F : Fr g L h2 m) (N : News g L h2 (allNews g h L ++ own)) :
    ∀ b o, b ≠ L → h.get? b = some o → h2.get? b = some o := fun b o hb e => by
  cases q : g.get? b with
  | some u =>
    have z := k b u q
    rw [e] at z
    cases z
    exact F.keep b _ q
  | none => exact (N (b, o) (List.mem_append_left _ (mem_allNews hb q e))).1
theorem ns_same {h : Heap} {L : Addr} {m1 m2 : Str → Option Value} (a : h.Ns L m1) (b : h.Ns L m2) : m1 = m2 := by
  obtain ⟨o, es, ep, e, d, k, f⟩ := a
  obtain ⟨o', es', ep', e', d', k', f'⟩ := b
  rw [e] at e'
  cases e'
  rw [d] at d'
  cases d'
  first
  | (funext x; rw [f x, f' x])
  | (funext x; have := f x; have := f' x; simp_all)
theorem Inv.grownAt {D : Addr} {o : HO} {m : Str → Option Value} {tk : Nat} (I : Inv X pins σ H s) (h0 : s.heap.Ns X.env.locals m) (h1 : h'.Ns X.env.locals m)
    (k : ∀ b u, b ≠ X.env.locals → s.heap.get? b = some u → h'.get? b = some u) (dead : s.heap.get? D = none) (new : ObjOk X.prog X.w (upd H D o) h' D o) : Inv X pins σ (upd H D o) { s with heap := h', toks := tk } := by
  have nD : H D = none := by
    cases q : H D with
    | none => rfl
    | some u =>
      obtain ⟨v, e⟩ := objOk_get (I.hok D u q)
      rw [dead] at e
      cases e
  have ne : ∀ b u, s.heap.get? b = some u → b ≠ D := fun b u e z => by rw [z, dead] at e; cases e
  have nh : ∀ b u, H b = some u → b ≠ D := fun b u e => ne_of_none e nD
  have kL : ∀ b u, s.heap.get? b = some u → H b = none ∨ h'.get? b = some u := fun b u e => by
    by_cases hb : b = X.env.locals
    · rw [hb]; exact .inl I.free
    · exact .inr (k b u hb e)
  refine I.step (g' := s.gens) (d' := s.drawn) (ch := []) (fun b hb => absurd hb (by simp)) (fun b u h1 _ _ e _ => k b u h1 e) (fun b u h1 _ _ e _ => ⟨u.slots, k b u h1 e⟩) (fun b u _ e n => by rw [upd_ne (ne b u e)]; exact n) (fun b u _ e => ?_)
    (fun b xs e => by rw [upd_ne (nh b _ e)]; exact e) (fun b u v e => by rw [upd_ne (nh b _ e)]; exact e) (fun b ps e => ⟨#[], by rw [upd_ne (nh b _ e), e]; simp⟩) (fun m' hm => ?_) (fun b u e => ?_) I.bare
  · by_cases hb : b = X.env.locals
    · obtain ⟨o', _, _, e', _⟩ := h1
      exact ⟨o', by rw [hb]; exact e'⟩
    · exact ⟨u, k b u hb e⟩
  · rw [ns_same hm h0]
    exact h1
  · by_cases hb : b = D
    · rw [hb, upd_same] at e
      cases e
      rw [hb]
      exact new
    · rw [upd_ne hb] at e
      refine (I.hok b u e).stay (fun c v hc q => k c v ?_ q) (fun c q => by rw [upd_ne (nh c _ q)]; exact q) fun c xs q => by rw [upd_ne (nh c _ q)]; exact q
      rintro rfl
      rcases hc with z | z
      · rw [← z, I.free] at e; cases e
      · rw [I.free] at z; cases z
end

/-! ### range(n) as a value, sorted(range(n), key=lambda ..) -/
section
variable {X : Cx}
def tRngV (te : TE) : TE := fun σ H Q => te σ H fun x H1 => ∃ n : Int, x = .int n ∧ ∀ r, H1 r = none → Q (.ref r) (upd H1 r (.rng 0 n))
theorem pe_rngV {ne : Expr} {te : TE} {p pos : Pos} (hg : Gl X "range") (hm : X.mg "range" = none) (ha : PE X ne te) (na : starEach [ne] X.env = (false, eval ne X.env) :: starEach [] X.env := by rfl) :
    PE X (.Call (.Name "range" p) [ne] [] pos) (tRngV te) := by
  refine ⟨fun pins s σ H Q I h => ?_⟩
  refine Call_ (ld_blt I hg hm boot_range (PyProof.Rows.callWith_type1 (one_arg ha I h (fun v s2 x H2 I2 r q => ?_) na) na))
  obtain ⟨n, rfl, q⟩ := q
  obtain ⟨t, rfl⟩ := r
  refine call_range_1 ⟨.ref s2.heap.objs.size, upd H2 s2.heap.objs.size (.rng 0 n), I2.laid (fun b o e => Heap.get?_push_of_some _ e) (Nat.le_refl _) ?_, rfl, q _ (I2.hok.fresh (Nat.le_refl _))⟩
  exact ⟨_, _, _, Heap.get?_push_size _ rfl⟩
/-- what the sort asks and tells, r the range object -/
def qSort (T : List (Addr × Str)) (ic : Nat) (σ : L2.St) (Q : VK) (x : V) (H : Hp) : Prop := ∃ (r : Addr) (n z : Int), x = .ref r ∧ H r = some (.rng 0 n) ∧ 0 ≤ n ∧ n ≤ 1000 ∧ Tabs T H ∧ σ[ic]? = some (some (.int z)) ∧
  ∀ (H2 : Hp) (D : Addr) (ns : List Int), ExtN H H2 → Tabs T H2 → ns.Perm (upto n.toNat) → H2 D = none → Q (.ref D) (upd H2 D (.lst (ns.map V.int)))
def tSortLam (T : List (Addr × Str)) (ic : Nat) (te : TE) : TE := fun σ H Q => tRngV te σ H (qSort T ic σ Q)
abbrev keyExpr (x y : Str) (j1 j2 j3 j4 : Nat) (p1 p2 p3 p4 p5 p6 p7 p8 p9 p10 p11 : Pos) : Expr :=
  .BinOp (.BinOp (.BinOp (.Name x p1) .Add (.Constant (.int 1) j1 p2) p3) .Mult (.BinOp (.Constant (.int 1) j2 p4) .Add (.BinOp (.Name y p5) .Mod (.Constant (.int 12) j3 p6) p7) p8) p9) .Mod (.Constant (.int 13) j4 p10) p11
theorem pe_sortedLam {T : List (Addr × Str)} {c P : Addr} {ne : Expr} {te : TE} {x y : Str} {q1 q2 q3 q4 q5 q6 : Pos} {j1 j2 j3 j4 : Nat} {p1 p2 p3 p4 p5 p6 p7 p8 p9 p10 p11 : Pos} {params : Arguments} {scope : Scope} {ic : Nat}
    (hc : X.calm = true) (hgs : Gl X "sorted") (hms : X.mg "sorted" = none) (hgr : Gl X "range") (hmr : X.mg "range" = none) (TB : TabB X.base X.mg c P) (hcode : X.env.code = .ref c) (hmT : (P, X.env.qual ++ "<lambda>") ∈ T) (hu : ∀ p ∈ T, p.1 = P → p.2 = X.env.qual ++ "<lambda>") (hr : Room 1 X.A)
    (hne : PE X ne te) (hN : X.N[ic]? = some y) (hcl : X.env.scope.names.lookup y = some .cell) (hdef : defaultsOf params X.env = ([], [])) (hfree : ∀ z ∈ scope.names, z.2 = .free → z.1 = y) (hk : scope.kind = .function) (hco : scope.isCoroutine = false) (hgen : scope.isGenerator = false)
    (hxl : scope.names.lookup x = some .local) (hyl : scope.names.lookup y = some .free) (hnc : ∀ z ∈ scope.names, z.2 ≠ .cell) (dx : (x == ("__debug__" : Str)) = false) (dy : (y == ("__debug__" : Str)) = false) (cy : (y == ("__classdict__" : Str)) = false)
    (hbind : ∀ (q : Str) (cl : List (Str × Addr)) (pm cv ctv u : Value), bindArgs (PySem.W.kla_fn "<lambda>" q params (keyExpr x y j1 j2 j3 j4 p1 p2 p3 p4 p5 p6 p7 p8 p9 p10 p11) scope cl pm cv ctv) ⟨[u], []⟩ = pure [(x, u)])
    (na : starEach [ne] X.env = (false, eval ne X.env) :: starEach [] X.env := by rfl) :
    PE X (.Call (.Name "sorted" q1) [.Call (.Name "range" q2) [ne] [] q3] [⟨some "key", .Lambda params (keyExpr x y j1 j2 j3 j4 p1 p2 p3 p4 p5 p6 p7 p8 p9 p10 p11) scope q4, q5⟩] q6) (tSortLam T ic te) := by
  refine ⟨fun pins s σ H Q I h => ?_⟩
  refine wpAny_Call_Name_kw (ld_blt I hgs hms boot_sorted ?_)
  refine PyProof.Rows.callWith_kw ?_ rfl rfl rfl rfl
  refine one_arg (pe_rngV (p := q2) (pos := q3) hgr hmr hne na) I h (fun v s1 xv H1 I1 r1 q => ?_) rfl
  obtain ⟨r, n, z, rfl, hR, n0, n1, hT, hz, q⟩ := q
  obtain rfl : v = Value.ref r := r1
  have hfr : ∀ w ∈ scope.names, w.2 = .free → ∃ c, X.env.cells.lookup w.1 = some c := fun w hw e => by
    rw [hfree w hw e]
    exact I1.ok.has _ (.inl hcl)
  show wpAny _ _ (evalAll ((do let v ← eval (.Lambda params (keyExpr x y j1 j2 j3 j4 p1 p2 p3 p4 p5 p6 p7 p8 p9 p10 p11) scope q4) X.env; standAt q6; pure v) :: [])) _ _ s1
  refine wpAny_evalAll_cons (wpAny_bind (lam_make2 I1 TB hcode hmT hu hT hdef hfr fun f c' pm ctv H2 s2 I2 eN T2 hf hfn hfs hco' => wpAny_bind (wpAny_standAt (wpAny_pure (wpAny_evalAll_nil ?_)))))
  show wpAny _ _ (call (.builtin "sorted") [.ref r] [(Str.ofString "key", .ref f)]) _ _ s2
  have hR2 := eN r _ hR (fun ps e => by cases e)
  obtain ⟨t1, t2, t3, hrg⟩ : ∃ t u v, s2.heap.get? r = some { cls := .type "range", data := .fields #[.int 0 t, .int n u, .int 1 v] } := I2.hok r _ hR2
  obtain ⟨m, hns, hloc⟩ := I2.loc
  have F : Fr X.base X.env.locals s2.heap m := ⟨hns, I2.bk, Nat.le_trans I2.ok.bsz I2.ok.above⟩
  -- the captured cell
  obtain ⟨u, ru, lk⟩ := hloc ic y (.int z) hN hz (.inr (.inl hcl))
  obtain ⟨tz, rfl⟩ := ru
  obtain ⟨cc, hcc, hcell⟩ : ∃ cc, X.env.cells.lookup y = some cc ∧ s2.heap.IsCell cc (some (.int z tz)) := by
    rcases lk with ⟨k, _⟩ | ⟨_, cc, e1, e2⟩
    · have k' : X.env.scope.names.lookup y = some .local := k
      rw [hcl] at k'
      cases k'
    · exact ⟨cc, e1, e2⟩
  have hclo : (cloFrom X.env.cells scope.names []).lookup y = some cc := by
    obtain ⟨c1, h1⟩ := mem_lookup (cloFrom_has (cells := X.env.cells) (acc := []) (PySem.mem_of_lookup hyl))
    rcases cloFrom_mem (PySem.mem_of_lookup h1) with hm | ⟨h2, h3⟩
    · cases hm
    · rw [h1, h3, hcc] <;> rfl
  have fL : f ≠ X.env.locals := fun e => by
    obtain ⟨o, es, ep, e1, e2, _⟩ := hns
    rw [← e, hf] at e1
    cases e1
    cases e2
  have cL : c' ≠ X.env.locals := fun e => by
    rw [e, I2.free] at hco'
    cases hco'
  have ccL := I2.cne y cc hcc
  refine sorted_rg (keyOf z) F news_all (I2.ok.hd hc) hrg (small_one (by omega) (by omega) (by omega) (by omega)) (n := n.toNat) (by rw [rangeSize_one]; split <;> omega) (by omega) (PyProof.Rows.ksk_s1 _ _) (fun _ => PyProof.Rows.ksk_l1 _ _) (fun _ => PyProof.Rows.ksk_t1 _ _)
    (fun k tt h3 tk own F3 N3 => ?_) fun D h3 tk out ns e F3 N3 dead lD hI hP => ?_
  · have kp := kept_all I2.bk F3 N3
    have ho : h3.get? f = some _ := kp f _ fL hf
    refine wpAny_call (PySem.W.kla_callFunE (A := X.A.in1.in1) (by have := hr.dp; show X.A.depth < recursionLimit; omega) ho rfl hco hgen rfl ?_ ?_)
    · obtain ⟨⟨oc, vs, t, e1, e2, e3⟩, _, _⟩ := I2.hok c' _ hco'
      exact ⟨c', oc, vs, t, rfl, kp c' oc cL e1, e2, e3⟩
    · rw [hbind]
      refine wpAny_pure (wpAny_newFunctionEnv hnc (fun w hw => by rw [List.mem_singleton.mp hw]; exact hxl) (fun h4 hns4 hsb => ⟨(I2.ok.mod.nolimit.keeps F3.keep).fresh _ hsb, ?_⟩) hk)
      have kp4 : ∀ b o, h3.get? b = some o → h4.get? b = some o := fun b o e => hsb.extBut b o (Nat.ne_of_lt (Heap.lt_size e)) (Heap.get?_push_of_some _ e)
      refine PySem.W.kla_codeExpr (key_body (x := x) (y := y) (c := cc) (k := k) (t := tt) (z := z) (tz := tz) hk hxl hyl hns4 ?_ hclo ?_ dx dy cy fun tk' t' => ?_)
      · simp
      · obtain ⟨oc, e1, e2⟩ := hcell
        exact ⟨oc, kp4 _ _ (kp cc oc ccL e1), e2⟩
      · exact KskEnd.intro (F3.kept kp4) (N3.grown kp4) fun p hp => hp
  · have N' : News X.base X.env.locals h3 (allNews X.base s2.heap X.env.locals) := fun p hp => N3 p (List.mem_cons_of_mem _ hp)
    have kp := kept_all (own := []) I2.bk F3 (by rw [List.append_nil]; exact N')
    have at_ := (N3 _ List.mem_cons_self).1
    have hl : ns.length = n.toNat := by rw [hP.length_eq, upto_len]
    refine ⟨.ref D, upd H2 D (.lst (ns.map V.int)), Inv.grownAt I2 hns F3.ns kp dead ⟨?_, out, e, vals_ints hI, at_⟩, rfl, q H2 D ns eN T2 hP ?_⟩
    · rw [List.length_map, hl, sizeLine_eq]; omega
    · cases e : H2 D with
      | none => rfl
      | some u =>
        obtain ⟨v, e'⟩ := objOk_get (I2.hok D u e)
        rw [dead] at e'
        cases e'
end
end Mp
/-! ## Gen3 -/
set_option Elab.async false
set_option linter.all false
set_option maxRecDepth 100000
set_option maxHeartbeats 2000000
namespace Mp
open PySem PySem.Spec PyProof.Rows L2 L2H HotX

section
variable {prog : Program} {w : World} {A : Around} {E : Value → Shared → Prop} {s : Shared}
/-- StopIteration is raised where another exception is handled -/
theorem stop_raised {α : Type} {x1 : Addr} {Q : α → Shared → Prop} {E2 : Value → Shared → Prop} (hot : HotAt A x1 s.heap)
    (hE : ∀ (h' : Heap) (a : Addr) (oe : Obj), (∀ b o, s.heap.get? b = some o → h'.get? b = some o) → h'.get? a = some oe → oe.cls = .type "StopIteration" → E2 (.ref a) { s with heap := h' }) :
    wpAny (model prog w) A (newExc (.type "StopIteration") [] >>= fun e => (raiseNew e : Sem α)) Q E2 s := by
  obtain ⟨hh, o1, vs1, g1, d1, c1⟩ := hot
  refine wpAny_bind ?_
  simp only [newExc, newTuple]
  refine wpAny_bind (wpAny_newObj_type ?_ (by size_fits))
  refine wpAny_bind (m := firstArgMember _ _) (wpAny_of_eq (a := Value.none) (by first | rfl | (simp only [firstArgMember]; rfl)) ?_)
  refine wpAny_newObj_type ?_ (by size_fits)
  have g1' := Heap.get?_push_of_some ({ cls := .type "tuple", data := .seq ([] : List Value).toArray } : Obj) g1
  refine raiseNew_hot (x1 := x1) ⟨hh, o1, vs1, Heap.get?_push_of_some _ (Heap.get?_push_of_some _ g1), d1, c1⟩ (Nat.ne_of_lt (Heap.lt_size (Heap.get?_push_of_some _ g1))) (Heap.get?_push_size _ rfl) rfl (by first | (simp; done) | (simp; omega) | (simp only [Array.size_append]; simp; omega)) ?_
  refine hE _ _ _ (fun b o e => ?_) (Heap.get?_update_self _ (Heap.get?_push_size _ rfl) rfl) rfl
  rw [Heap.get?_update_other _ _ (Nat.ne_of_gt (Heap.lt_size (Heap.get?_push_of_some _ e)))]
  exact Heap.get?_push_of_some _ (Heap.get?_push_of_some _ e)
theorem hot_upd {x1 it : Addr} {h : Heap} {f : Obj → Obj} (hot : HotAt A x1 h) (hne : x1 ≠ it) : HotAt A x1 (h.update it f) := by
  obtain ⟨hh, o1, vs1, g1, d1, c1⟩ := hot
  exact ⟨hh, o1, vs1, by rw [Heap.get?_update_other _ _ (Ne.symm hne)]; exact g1, d1, c1⟩
/-- a list's iterator is at its end -/
theorem list_end_hot {it l x1 : Addr} {i : Nat} {items : Array Value} {Q : Option Value → Shared → Prop} (hot : HotAt A x1 s.heap) (hne : x1 ≠ it) (hit : s.heap.IsListIter it l i) (hl : s.heap.IsList l items) (hx : items[i]? = none)
    (hQ : ∀ h', (∀ b o, b ≠ it → s.heap.get? b = some o → h'.get? b = some o) → Q none { s with heap := h' }) : wpAny (model prog w) A (pyNext (.ref it)) Q E s := by
  have hT := hit.typeIs
  obtain ⟨o, ho, hc, hd⟩ := hit
  obtain ⟨ol, hol, _, nl, hdl⟩ := hl
  unfold pyNext
  refine wpAny_bind (wpAny_attempt (wpAny_callSpecial?_slot (name := Str.ofString "__next__") hT slot_listiter_next (wpAny_call_entry slot_listiter_next hT entry_listiter_next ?_ (args_listiter_next _))))
  show wpAny _ _ (field (.ref it) 0 >>= _) _ _ s
  refine wpAny_bind (wpAny_field ho hd (x := .ref l) rfl ?_)
  show wpAny _ _ (if (Value.ref l == Value.none) = true then _ else _) _ _ s
  rw [if_neg (show ¬ ((Value.ref l == Value.none) = true) from Bool.false_ne_true)]
  show wpAny _ _ (field (.ref it) 1 >>= _) _ _ s
  refine wpAny_bind (wpAny_field ho hd (x := .int i 0) rfl ?_)
  show wpAny _ _ (seqItems? (.ref l) >>= _) _ _ s
  refine wpAny_bind (wpAny_seqItems hol hdl ?_)
  simp only [Int.toNat_natCast, hx]
  refine wpAny_bind (wpAny_rule (wpAny_bind (wpAny_setField ho hd (by simp) ?_)))
  refine stop_raised (x1 := x1) (hot_upd hot hne) fun h' a oe k e1 e2 => ?_
  refine wpAny_bind (wpAny_isInstance (T := "StopIteration") (b := true) ⟨oe, e1, e2⟩ isSubtype_stop ?_)
  exact wpAny_pure (hQ _ fun b u hb e => k b u (by rw [Heap.get?_update_other _ _ (Ne.symm hb)]; exact e))
/-- .. a tuple's -/
theorem tuple_end_hot {it t x1 : Addr} {i : Nat} {items : Array Value} {Q : Option Value → Shared → Prop} (hot : HotAt A x1 s.heap) (hne : x1 ≠ it) (hit : IsTupIter s.heap it t i) (ht : IsTup s.heap t items) (hx : items[i]? = none)
    (hQ : ∀ h', (∀ b o, b ≠ it → s.heap.get? b = some o → h'.get? b = some o) → Q none { s with heap := h' }) : wpAny (model prog w) A (pyNext (.ref it)) Q E s := by
  have hT := hit.typeIs
  obtain ⟨o, ho, hc, hd⟩ := hit
  obtain ⟨ol, hol, _, nl, hdl⟩ := ht
  unfold pyNext
  refine wpAny_bind (wpAny_attempt (wpAny_callSpecial?_slot (name := Str.ofString "__next__") hT slot_tupleiter_next (wpAny_call_entry slot_tupleiter_next hT entry_tupleiter_next ?_ (args_tupleiter_next _))))
  show wpAny _ _ (field (.ref it) 0 >>= _) _ _ s
  refine wpAny_bind (wpAny_field ho hd (x := .ref t) rfl ?_)
  show wpAny _ _ (if (Value.ref t == Value.none) = true then _ else _) _ _ s
  rw [if_neg (show ¬ ((Value.ref t == Value.none) = true) from Bool.false_ne_true)]
  show wpAny _ _ (field (.ref it) 1 >>= _) _ _ s
  refine wpAny_bind (wpAny_field ho hd (x := .int i 0) rfl ?_)
  show wpAny _ _ (seqItems? (.ref t) >>= _) _ _ s
  refine wpAny_bind (wpAny_seqItems hol hdl ?_)
  simp only [Int.toNat_natCast, hx]
  refine wpAny_bind (wpAny_rule (wpAny_bind (wpAny_setField ho hd (by simp) ?_)))
  refine stop_raised (x1 := x1) (hot_upd hot hne) fun h' a oe k e1 e2 => ?_
  refine wpAny_bind (wpAny_isInstance (T := "StopIteration") (b := true) ⟨oe, e1, e2⟩ isSubtype_stop ?_)
  exact wpAny_pure (hQ _ fun b u hb e => k b u (by rw [Heap.get?_update_other _ _ (Ne.symm hb)]; exact e))
/-- a tuple unpacked -/
theorem unpack_hot {t x1 : Addr} {items : Array Value} {targets : List (Bool × (Value → Sem Unit))} {Q : Unit → Shared → Prop} (hot : HotAt A x1 s.heap) (ht : IsTup s.heap t items)
    (hn : targets.length = items.size) (hstar : targets.findIdx? (·.1) = none)
    (h : ∀ h', (∀ b o, s.heap.get? b = some o → h'.get? b = some o) → wpAny (model prog w) A (assignInOrder (targets.map (·.2)) items.toList) Q E { s with heap := h' }) :
    wpAny (model prog w) A (unpack (.ref t) targets) Q E s := by
  have tne : t ≠ s.heap.objs.size := by
    obtain ⟨o, ho, _⟩ := ht
    exact Nat.ne_of_lt (Heap.lt_size ho)
  unfold unpack
  rw [hn, hstar]
  refine wpAny_bind (wpAny_holding ?_)
  unfold unpackItems
  refine wpAny_bind ?_
  unfold notIterableAtAll
  refine wpAny_bind (wpAny_specialOf ht.typeIs slot_tuple_iter.lookup (wpAny_pure ?_))
  simp only [Bool.false_eq_true, if_false]
  refine wpAny_bind (wpAny_holding (iter_tuple ht ?_))
  refine wpAny_bind (wpAny_holding (draw_tuple tne items.size 0 _ _ ⟨_, Heap.get?_push_size _ rfl, rfl, rfl⟩ (ht.push _) (by omega) fun h1 hit1 hs1 => ?_))
  have all : List.take items.size (List.drop 0 items.toList) = items.toList := by
    rw [List.drop_zero]
    exact List.take_of_length_le (by simp)
  rw [all, if_neg (by simp)]
  have ht1 : IsTup h1 t items := (ht.push _).extBut hs1.extBut tne
  obtain ⟨hh, o1, vs1, g1, d1, c1⟩ := hot
  have xne : x1 ≠ s.heap.objs.size := Nat.ne_of_lt (Heap.lt_size g1)
  refine wpAny_bind (wpAny_holding (tuple_end_hot (x1 := x1) ⟨hh, o1, vs1, hs1.extBut x1 o1 xne (Heap.get?_push_of_some _ g1), d1, c1⟩ xne hit1 ht1 (by simp) fun h2 k2 => ?_))
  simp only [Option.isSome_none, Bool.false_eq_true, if_false]
  exact wpAny_pure (h h2 fun b o e => k2 b o (Nat.ne_of_lt (Heap.lt_size e)) (hs1.extBut b o (Nat.ne_of_lt (Heap.lt_size e)) (Heap.get?_push_of_some _ e)))
end

section
variable {X : Cx} {tg : Expr}
/-- (a, b, ..) = a tuple, within an except suite's calls -/
theorem pg_tupH {es : List Expr} {k : Nat} {t : TGs} {n : Nat} {pos : Pos} (hc : HotC X) (h : PGs X es t) (hn : (assignEach es X.env).length = n := by rfl) (hst : (assignEach es X.env).findIdx? (·.1) = none := by rfl) : PG X (.Tuple es k pos) (gTup X.K n t) := by
  refine ⟨fun pins s σ H v u Q I r hw => ?_⟩
  obtain ⟨a, xs, rfl, hq, hl, hw⟩ := hw
  cases r
  obtain ⟨its, rv, ht, hz⟩ := I.tuple hq
  obtain ⟨x1, hot⟩ := hc.at I
  rw [PyProof.Rows.assign_Tuple]
  refine wpAny_bind (wpAny_standAt (unpack_hot hot ht (by simp [hn, ← hl, rv.length]) hst fun h' k' => ?_))
  exact h.run pins _ σ H xs _ Q (I.kept (t' := s.toks) k') (by simpa using rv) hw
theorem turn_listH {P : Program} {w : World} {K : PySem.W.Frag} (a it : Addr) : TurnH P w K tg (Itl K a) [it] it (fun i h => h.IsListIter it a i) where
  mem := by simp
  obj := fun i h st b hb => by
    obtain rfl : b = it := by simpa using hb
    obtain ⟨o, e, c, d⟩ := st
    exact ⟨o, e, fun v z => by rw [d] at z; cases z⟩
  keep := fun i h h' st k => by
    obtain ⟨o, e, c, d⟩ := st
    exact ⟨o, k it (by simp) o e, c, d⟩
  item := by
    intro X hP hw hK hc i pins s σ H E I hf st hg
    subst hP hw hK
    obtain ⟨xs, x, hq, hx⟩ := hg
    obtain ⟨its, rv, p, hz⟩ := I.list hq
    obtain ⟨u, hu, ru⟩ := rv.get hx
    obtain ⟨f0, f1, f2, f3, f4, f5⟩ := hf it (by simp)
    refine wpAny_pyNext_list_item st p.isList (x := u) (by simpa using hu) fun h' st' sb => ?_
    have J : Inv X pins σ H { s with heap := h' } := I.turned (t' := s.toks) (fun b o hb e => (sb.2 b hb).trans e) f0 f1 f3 f4 f5
    obtain ⟨o, e, c, d⟩ := id st'
    exact ⟨u, rfl, go_of (s := { s with heap := h' }) e c d (by decide) ⟨x, H, J, ru, ⟨rfl, fun ys hy => by rw [I.list_inj hy hq]; exact hx⟩, st', fun b hb => (hf b hb).1⟩⟩
  done := by
    intro X hP hw hK hc i pins s σ H E I hf st hg
    subst hP hw hK
    obtain ⟨xs, hq, hx⟩ := hg
    obtain ⟨its, rv, p, hz⟩ := I.list hq
    obtain ⟨f0, f1, f2, f3, f4, f5⟩ := hf it (by simp)
    have hl := rv.length
    obtain ⟨⟨x1, ox⟩, ⟨hh, vs, d1, c1⟩, hp⟩ := hc
    have g1 := (I.pin _ (List.mem_append_left _ hp)).1
    exact list_end_hot (x1 := x1) ⟨hh, ox, vs, g1, d1, c1⟩ (f5 _ (List.mem_append_left _ hp)) st p.isList (by simp; omega) fun h' eb => ⟨rfl, I.turned (t' := s.toks) (fun b o hb e => eb b o hb e) f0 f1 f3 f4 f5⟩
  self := fun _ _ _ _ _ st h => wpAny_pyIter_listiter st h
theorem pi_listH {l : Expr} {tl : TE} (hl : PE X l tl) : PIH X tg l (iList X.K tl) := by
  refine ⟨fun pins s σ H R I h => ?_⟩
  refine thn (hl.run pins s σ H _ I h) fun v s1 ⟨x, H1, I1, r1, a, e, ⟨xs, hq⟩, q⟩ => ?_
  subst e
  cases r1
  obtain ⟨its, rv, p, hz⟩ := I1.list hq
  refine wpAny_pyIter_list p.isList ⟨s1.heap.objs.size, [s1.heap.objs.size], _, _, H1, rfl, I1.kept (t' := s1.toks) fun b o e => Heap.get?_push_of_some _ e, turn_listH a _, ⟨_, Heap.get?_push_size _ rfl, rfl, rfl⟩, fun b hb => ?_, q⟩
  obtain rfl : b = s1.heap.objs.size := by simpa using hb
  exact I1.fpOk (Nat.le_refl _) (I1.hok.fresh (Nat.le_refl _))
end
end Mp
/-! ## Gen4 -/
set_option Elab.async false
set_option linter.all false
set_option maxRecDepth 100000
set_option maxHeartbeats 2000000
namespace Mp
open PySem PySem.Spec PyProof.Rows L2 L2H HotX

/-- a comprehension's block that keeps the pins (the exception that is handled) -/
abbrev blkH (X : Cx) (s : Shared) (H : Hp) (scope : Scope) (cenv : Env) (fp : List Addr) : Cx := (X.blk s H scope cenv fp).tr X.pn (fun _ _ => False)
section
variable {X : Cx}
theorem lcH_core {pins : List (Addr × Obj)} {s : Shared} {σ : L2.St} {H : Hp} {Q : VK} {elt tg iter : Expr} {ifs : List Expr} {scope : Scope} {own : List (Str × Nat)} {pos pos' : Pos} {wi : TI} {g : TG} {tt : TT} {te : TE} {use : Option (Value → Sem Unit)} {Qf : Value → Shared → Prop} (hc : HotC X) (hN : X.N.Nodup) (I : Inv X pins σ H s) (hi : PIH X tg iter wi) (ok : BlkOk X.N X.env.scope scope own)
    (hg : ∀ (s : Shared) (H : Hp) (C : Addr) (cl : List (Str × Addr)) (fp : List Addr), PG (blkH X s H scope (compEnvC scope cl C X.env) fp) tg g) (ht : ∀ (s : Shared) (H : Hp) (C : Addr) (cl : List (Str × Addr)) (fp : List Addr), PTs (blkH X s H scope (compEnvC scope cl C X.env) fp) ifs tt)
    (he : ∀ (s : Shared) (H : Hp) (C : Addr) (cl : List (Str × Addr)) (fp : List Addr), PE (blkH X s H scope (compEnvC scope cl C X.env) fp) elt te) (hs : ∀ x, foldedSetIterable iter X.env x = pure x)
    (h : tLc wi g tt te (own.map (·.2)) σ H Q)
    (hRR : ∀ D C s' m H', Inv X pins σ H' s' → Q (.ref D) H' → s'.heap.Ns C m → FpOk X pins H' C → compPost (model X.prog X.w) X.A X.xe use Qf (.ref D) C (.ok .next) s') :
    wpAny (model X.prog X.w) X.A (comprehension (.ListComp elt [⟨tg, iter, ifs, 0⟩] scope pos) scope X.env pos' (newList []) false (eval iter X.env) use) Qf X.xe s := by
  have free : ∀ y ∈ scope.names, y.2 = .free → ∃ c, X.env.cells.lookup y.1 = some c := fun y hy e => (ok.free y hy e).elim (fun k => I.ok.has _ (.inl k)) fun k => I.ok.has _ (.inr k)
  refine wpAny_comprehension_free (use := use) rfl hs (closure_ok free) ok.kind (fun y hy e => by rw [ok.uniq y hy, e]) (thn (hi.run pins s σ H _ I h) fun xv s1 hx => thn hx fun itv s2 h2 => ?_)
  obtain ⟨it, fp, tn, J, H2, rfl, I2, T, st2, f2, q⟩ := h2
  refine wpAny_newObj_type (newEnv_comp ?_) (by show 0 ≤ sizeLine; decide)
  obtain ⟨D, hD⟩ : ∃ D, D = s2.heap.objs.size := ⟨_, rfl⟩
  rw [← hD]
  have nD : H2 D = none := I2.hok.fresh (Nat.le_of_eq hD.symm)
  obtain ⟨W, ⟨m0, w0⟩, turn⟩ := q D nD
  obtain ⟨s3, hs3⟩ : ∃ s3 : Shared, s3 = { s2 with heap := s2.heap.push { cls := .type "list", data := .seq ([] : List Value).toArray } } := ⟨_, rfl⟩
  have e3 : s3.heap = s2.heap.push { cls := .type "list", data := .seq ([] : List Value).toArray } := by rw [hs3]
  have I3 : Inv X pins σ (upd H2 D (.lst [])) s3 := by
    rw [hs3]
    refine I2.laid (t' := s2.toks) (fun b o e => Heap.get?_push_of_some _ e) (Nat.le_of_eq hD.symm) ⟨Nat.zero_le _, [], 0, .nil, ?_⟩
    rw [hD]
    exact Heap.get?_push_size _ rfl
  have f3 : ∀ b ∈ fp, FpOk X pins (upd H2 D (.lst [])) b ∧ b < s3.heap.objs.size := fun b hb => by
    obtain ⟨o, e, _⟩ := T.obj _ _ st2 b hb
    have lt := Heap.lt_size e
    refine ⟨⟨?_, (f2 b hb).2⟩, by rw [e3, Heap.size_push]; exact Nat.lt_succ_of_lt lt⟩
    rw [upd_ne (by rw [hD]; exact Nat.ne_of_lt lt)]
    exact (f2 b hb).1
  have st3 : tn 0 s3.heap := T.keep _ _ _ st2 fun b _ o e => by rw [e3]; exact Heap.get?_push_of_some _ e
  have B3 := block_start I3 ok hN f3
  obtain ⟨cl, hcl⟩ : ∃ cl, cl = cellsFrom (s3.heap.objs.size + 1) scope.names (cloFrom X.env.cells scope.names []) := ⟨_, rfl⟩
  rw [← hcl] at B3
  have PG' := hg s3 (upd H2 D (.lst [])) s3.heap.objs.size cl fp
  have PT' := ht s3 (upd H2 D (.lst [])) s3.heap.objs.size cl fp
  have PE' := he s3 (upd H2 D (.lst [])) s3.heap.objs.size cl fp
  have goal' : codeAny (model X.prog X.w) X.A (.compStart (.ListComp elt [⟨tg, iter, ifs, 0⟩] scope pos) 0 (.ref it) (.ref D) (compEnvC scope cl s3.heap.objs.size X.env)) (compPost (model X.prog X.w) X.A X.xe use Qf (.ref D) s3.heap.objs.size) { s3 with heap := pushCells (s3.heap.push { cls := .type "dict", data := .dict #[] }) scope.names } := by
    obtain ⟨ce, hce⟩ : ∃ ce, ce = compEnvC scope cl s3.heap.objs.size X.env := ⟨_, rfl⟩
    rw [← hce] at B3 PG' PT' PE' ⊢
    have cL : ce.locals = s3.heap.objs.size := by rw [hce]; rfl
    obtain ⟨H3, hH3⟩ : ∃ H3, H3 = upd H2 D (.lst []) := ⟨_, rfl⟩
    rw [← hH3] at I3 B3 PG' PT' PE' w0 f3
    obtain ⟨s4, hs4⟩ : ∃ s4 : Shared, s4 = { s3 with heap := pushCells (s3.heap.push { cls := .type "dict", data := .dict #[] }) scope.names } := ⟨_, rfl⟩
    rw [← hs4] at B3 ⊢
    have k4 : ∀ b o, s3.heap.get? b = some o → s4.heap.get? b = some o := fun b o e => by rw [hs4]; exact pushCells_keeps _ _ _ _ (Heap.get?_push_of_some _ e)
    have st4 : tn 0 s4.heap := T.keep _ _ _ st3 fun b _ o e => k4 b o e
    -- the block's invariant, with the pins
    have I4 : Inv (blkH X s3 H3 scope ce fp) [] (wipe σ (own.map (·.2))) H3 s4 := by
      refine ⟨B3.ok.toTry _ _, B3.os, B3.bare, B3.base, B3.loc, B3.cell, B3.free, B3.freeC, fun p hp => ?_, B3.hok, B3.len⟩
      have hp' : p ∈ X.pn := by
        have z : p ∈ X.pn ++ [] := hp
        simpa using z
      obtain ⟨g1, g2, g3, g4, g5⟩ := I3.pin p (List.mem_append_left _ hp')
      refine ⟨k4 _ _ g1, g2, ?_, fun z => ?_, g5⟩
      · show p.1 ≠ ce.locals
        rw [cL]
        exact Nat.ne_of_lt (Heap.lt_size g1)
      · exact (List.mem_cons.mp (I3.stkSub _ z)).elim g3 g4
    have stat : ∀ {σ' : L2.St} {H' : Hp} {s' : Shared}, Inv (blkH X s3 H3 scope ce fp) [] σ' H' s' → (∀ b ∈ fp, H' b = none) → ∀ b ∈ fp, FpOk (blkH X s3 H3 scope ce fp) [] H' b := fun {σ' H' s'} I' hn b hb => by
      refine ⟨hn b hb, (I'.ok.exf b hb).1, I'.ok.exfs b hb, .inl hb, fun x c e => (I'.ok.exf b hb).2 x c e, fun p hp => ?_⟩
      have hp' : p ∈ X.pn := by
        have z : p ∈ X.pn ++ [] := hp
        simpa using z
      exact (f3 b hb).1.2.2.2.2.2 p (List.mem_append_left _ hp')
    have hcB : HotC (blkH X s3 H3 scope ce fp) := hc
    have loop : codeAny (model X.prog X.w) X.A (.compLoop (.ListComp elt [⟨tg, iter, ifs, 0⟩] scope pos) 0 (.ref it) (.ref D) ce) (compPost (model X.prog X.w) X.A X.xe use Qf (.ref D) s3.heap.objs.size) s4 := by
      refine compLoop_any (fun n s' => ∃ i H', Inv (blkH X s3 H3 scope ce fp) [] (wipe σ (own.map (·.2))) H' s' ∧ tn i s'.heap ∧ (∀ b ∈ fp, H' b = none) ∧ W i n H') ?_ m0 ⟨0, H3, I4, st4, fun b hb => (f3 b hb).1.1, w0⟩
      rintro n s5 ⟨i, H5, I5, st5, n5, w5⟩
      rcases turn i n H5 w5 with ⟨stop, qq⟩ | ⟨go, Nx, hNx, step⟩
      · refine thnF (T.done (blkH X s3 H3 scope ce fp) rfl rfl rfl hcB i [] s5 _ H5 (fun _ _ => False) I5 (stat I5 n5) st5 stop) fun r s6 ⟨hr, I6⟩ => ?_
        subst hr
        have I7 : Inv X pins σ H5 s6 := I3.call' (ch := fp) I6.os I6.base I6.hok I6.bare fun b hb => ⟨(f3 b hb).1.2.2.2.1, (f3 b hb).1.2.1, (f3 b hb).1.2.2.2.2.1, (f3 b hb).1.2.2.2.2.2⟩
        have nC : H5 s3.heap.objs.size = none := by
          have z : H5 ce.locals = none := I6.free
          rw [cL] at z
          exact z
        obtain ⟨m, hn, _⟩ := I6.loc
        have hn' : s6.heap.Ns s3.heap.objs.size m := by
          have z : s6.heap.Ns ce.locals m := hn
          rw [cL] at z
          exact z
        exact hRR D s3.heap.objs.size s6 m H5 I7 qq hn' (I3.fpOk (Nat.le_refl _) nC)
      · refine thnF (T.item (blkH X s3 H3 scope ce fp) rfl rfl rfl hcB i [] s5 _ H5 (fun _ _ => False) I5 (stat I5 n5) st5 go) fun r s6 ⟨u, hr, h6⟩ => ?_
        subst hr
        refine thnF h6 fun _ s7 ⟨x, H7, I7, r7, y7, st7, n7⟩ => ?_
        refine thnF (PG'.run _ s7 _ H7 x u _ (I7.pinned (stat I7 n7) (T.obj _ _ st7)) r7 (step x H7 y7)) fun _ s8 ⟨σ8, H8, I8, hw8, q8⟩ => ?_
        refine thnF (PT'.run _ s8 σ8 H8 _ I8 q8) fun b s9 ⟨H9, I9, q9⟩ => ?_
        have fin : ∀ {s' : Shared} {H' : Hp}, Inv (blkH X s3 H3 scope ce fp) ([] ++ pinsAt fp s7.heap) σ8 H' s' → Nx H' → ∃ m, m < n ∧ ∃ i H', Inv (blkH X s3 H3 scope ce fp) [] (wipe σ (own.map (·.2))) H' s' ∧ tn i s'.heap ∧ (∀ b ∈ fp, H' b = none) ∧ W i m H' := fun {s' H'} I' nx => by
          obtain ⟨m', hm, w'⟩ := hNx H' nx
          have pin' : ∀ b ∈ fp, ∀ o, s7.heap.get? b = some o → s'.heap.get? b = some o ∧ H' b = none := fun b hb o e => by
            have z := I'.pin (b, o) (List.mem_append_right _ (List.mem_append_right _ (mem_pinsAt hb e)))
            exact ⟨z.1, z.2.1⟩
          have hl : (wipe σ (own.map (·.2))).length = σ8.length := by rw [← hw8, wipe_length]
          refine ⟨m', hm, i + 1, H', (I'.unpinned (pins := [])).weak hl (fun j v e => ?_), T.keep _ _ _ st7 fun b hb o e => (pin' b hb o e).1, fun b hb => ?_, w'⟩
          · rw [← hw8] at e
            exact (wipe_some e).1
          · obtain ⟨o, e, _⟩ := T.obj _ _ st7 b hb
            exact (pin' b hb o e).2
        cases b with
        | false =>
          simp only [Bool.false_eq_true, if_false] at q9 ⊢
          exact fin I9 q9
        | true =>
          simp only [if_true] at q9 ⊢
          refine thnF (PE'.run _ s9 σ8 H9 _ I9 q9) fun z s10 ⟨yv, H10, I10, r10, acc, hD10, hz10, nx⟩ => ?_
          exact app_ok (X := blkH X s3 H3 scope ce fp) I10 hD10 hz10 r10 fun s11 I11 => fin I11 nx
    exact codeAny_compStart_list loop (T.self X.A 0 _ _ _ st4 loop)
  rw [hcl] at goal'
  rw [hs3] at goal'
  exact goal'
theorem pe_lcH {elt tg iter : Expr} {ifs : List Expr} {scope : Scope} {own : List (Str × Nat)} {pos : Pos} {wi : TI} {g : TG} {tt : TT} {te : TE} (hc : HotC X) (hN : X.N.Nodup) (hi : PIH X tg iter wi) (ok : BlkOk X.N X.env.scope scope own)
    (hg : ∀ (s : Shared) (H : Hp) (C : Addr) (cl : List (Str × Addr)) (fp : List Addr), PG (blkH X s H scope (compEnvC scope cl C X.env) fp) tg g) (ht : ∀ (s : Shared) (H : Hp) (C : Addr) (cl : List (Str × Addr)) (fp : List Addr), PTs (blkH X s H scope (compEnvC scope cl C X.env) fp) ifs tt)
    (he : ∀ (s : Shared) (H : Hp) (C : Addr) (cl : List (Str × Addr)) (fp : List Addr), PE (blkH X s H scope (compEnvC scope cl C X.env) fp) elt te) (hs : ∀ x, foldedSetIterable iter X.env x = pure x := by intro _; rfl) :
    PE X (.ListComp elt [⟨tg, iter, ifs, 0⟩] scope pos) (tLc wi g tt te (own.map (·.2))) := by
  refine ⟨fun pins s σ H Q I h => ?_⟩
  rw [eval_ListComp]
  refine lcH_core hc hN I hi ok hg ht he hs h fun D C s' m H' I' q hn f => ⟨m, hn, fun h2 sb => ?_⟩
  obtain ⟨p0, p1, p2, p3, p4, p5⟩ := f
  exact ⟨.ref D, H', I'.turned (t' := s'.toks) (fun b o hb e => (sb.2 b hb).trans e) p0 p1 p3 p4 p5, rfl, q⟩
/-- name = [..] on one line, the name a local -/
theorem ps_setLcH {i : Nat} {y : Str} {py : Pos} {elt tg iter : Expr} {ifs : List Expr} {scope : Scope} {own : List (Str × Nat)} {pos spos : Pos} {wi : TI} {g : TG} {tt : TT} {te : TE} (hc : HotC X) (hN : X.N.Nodup) (hy : X.N[i]? = some y) (hyl : X.env.scope.names.lookup y = some .local)
    (hsw : swapsWith (.ListComp elt [⟨tg, iter, ifs, 0⟩] scope pos) (some (.Name y py)) spos.line X.env = pure true) (hi : PIH X tg iter wi) (ok : BlkOk X.N X.env.scope scope own)
    (hg : ∀ (s : Shared) (H : Hp) (C : Addr) (cl : List (Str × Addr)) (fp : List Addr), PG (blkH X s H scope (compEnvC scope cl C X.env) fp) tg g) (ht : ∀ (s : Shared) (H : Hp) (C : Addr) (cl : List (Str × Addr)) (fp : List Addr), PTs (blkH X s H scope (compEnvC scope cl C X.env) fp) ifs tt)
    (he : ∀ (s : Shared) (H : Hp) (C : Addr) (cl : List (Str × Addr)) (fp : List Addr), PE (blkH X s H scope (compEnvC scope cl C X.env) fp) elt te) (hs : ∀ x, foldedSetIterable iter X.env x = pure x := by intro _; rfl) :
    PS X (.Assign [.Name y py] (.ListComp elt [⟨tg, iter, ifs, 0⟩] scope pos) spos) (tAsg (tLc wi g tt te (own.map (·.2))) (gName i)) := by
  refine ⟨fun pins s σ H D I h => ?_⟩
  rw [exec_Assign_Name_used _ _ _ _ hsw]
  refine wpAny_bind (wpAny_standAt (wpAny_bind ?_))
  show wpAny _ X.A (do let _ ← comprehension (.ListComp elt [⟨tg, iter, ifs, 0⟩] scope pos) scope X.env (firstIterPos [⟨tg, iter, ifs, 0⟩] pos) (newList []) false (eval iter X.env) (some (assign (.Name y py) X.env))) _ _ s
  have h : tLc wi g tt te (own.map (·.2)) σ H (fun x H1 => gName i x σ H1 D.nx) := h
  refine wpAny_bind (thn (lcH_core (Qf := fun _ s' => SP X pins D .next s') hc hN I hi ok hg ht he hs h fun L C s' m H' I' q hn f => ?_) fun _ s' hq => wpAny_pure (wpAny_pure hq))
  show wpAny _ _ (assign (.Name y py) X.env (.ref L)) _ _ _
  refine wpAny_assign_Name (store_ok2 (v := V.ref L) I' hN hy (.inl hyl) rfl (fun s2 I2 ⟨a, sb, ha⟩ => ?_) (.inr hyl))
  obtain ⟨f0, f1, f2, f3, f4, f5⟩ := f
  have haC : C ≠ a := by
    rcases ha with z | z
    · rw [z]; exact f1
    · exact fun e => f4 y a z e.symm
  exact ⟨m, hn.sameBut sb haC, fun h3 sb3 => ⟨_, H', I2.turned (t' := s2.toks) (fun b o hb e => (sb3.2 b hb).trans e) f0 f1 f3 f4 f5, q⟩⟩
end
end Mp
/-! ## Gen5 -/
set_option Elab.async false
set_option linter.all false
set_option maxRecDepth 100000
set_option maxHeartbeats 2000000
namespace Mp
open PySem PySem.Spec PyProof.Rows L2 L2H HotX

/-! ### a def called within an except suite, by a promise that knows the error (at a, of the class at C) -/
structure FnE (P : Program) (w : World) (K : PySem.W.Frag) (mg : Str → Option Value) (base : Heap) (CX : CXT) (k : Nat) (f : Addr) (fd : FuncData) (ps : List Str) (sp : Addr → Addr → Sp) : Prop where
  len : ∀ a C vs H Q E, sp a C vs H Q E → vs.length = ps.length
  run : ∀ (A : Around) (outer : List Env) (s : Shared) (H : Hp) (us : List Value) (vs : List V) (Q : VK) (E : XK) (p : Addr × Obj) (C : Addr), RoomH k A → Hot1 A p → L2N.Zn (.ref C) none p.2 → PinOk outer H s p → Env0 P w K mg base A outer s H → BindsTo s fd ⟨us, []⟩ (ps.zip us) → Vals vs us → sp p.1 C vs H Q E →
    codeAny (model P w) A (.call (.ref f) ⟨us, []⟩) (CR CX outer P w H s Q E) s
theorem Fun.okE {P : Program} {w : World} {K : PySem.W.Frag} {mg : Str → Option Value} {base : Heap} {CX : CXT} {x qual : Str} {st : Stmt} {f : Addr} {fd : FuncData} {N ps : List Str} {k : Nat} {sp : Addr → Addr → Sp} (F : Fun K x qual st f fd) (S : FnScope N ps (defScope st)) (len : ∀ a C vs H Q E, sp a C vs H Q E → vs.length = ps.length)
    (hbody : ∀ (cdv : Value) (A : Around) (outer : List Env) (s : Shared) (H : Hp) (vs : List V) (Q : VK) (E : XK) (p : Addr × Obj) (C : Addr), Hot1 A p → L2N.Zn (.ref C) none p.2 → RoomH k (A.deeper (envOfC qual (defScope st) s.heap.objs.size f cdv)) → sp p.1 C vs H Q E →
      ∃ t, PSs (cxH CX P w K mg base N qual (defScope st) f cdv A outer s H E p) (defBody st) t ∧ t { nx := fun _ H' => Q .non H', rt := Q } (L2.start N vs) H) : FnE P w K mg base CX (k + 1) f fd ps sp := by
  obtain ⟨oc, od, kV, doc, pm, an, cdv, ct, osl, rfl, lk, hcd⟩ := F.ex
  refine ⟨len, fun A outer s H us vs Q E p C hr hot hz hpin e0 hb r hsp => ?_⟩
  have hl := len _ _ _ _ _ _ hsp
  have KX : K.In s.heap := e0.mod.kin.keeps fun b o e => (e0.bs b o e).1
  have lim : s.heap.NoLimit := e0.mod.nolimit.keeps fun b o e => (e0.bs b o e).1
  have kinds : ∀ y ∈ ps.zip us, (defScope st).names.lookup y.1 = some .local ∨ ((defScope st).names.lookup y.1 = some .cell ∧ ((cellsFrom (s.heap.objs.size + 1) (defScope st).names []).lookup y.1).isSome = true) := fun ⟨n, v⟩ hy => by
    rcases S.par n (List.of_mem_zip hy).1 with q | q
    · exact .inl q
    · exact .inr ⟨q, PySem.W.cellsFrom_some _ _ _ (.inl q)⟩
  refine codeAny_call_function hr.depth (KX _ _ lk) rfl S.co S.gen rfl (PySem.W.codeRec_of KX hcd) (hb _ _ _ _ ?_)
  refine wpAny_newFunctionEnv_cells S.kind kinds fun env he s1 xx => ?_
  subst he
  refine ⟨lim.keeps xx.toInCall.keep, codeAny_func ?_⟩
  obtain ⟨t, ht, hq⟩ := hbody cdv A outer s H vs Q E p C hot hz (hr.deeper _) hsp
  have J : Inv (cxH CX P w K mg base N qual (defScope st) f cdv A outer s H E p) [] (L2.start N vs) H s1 := inv_startH S hpin e0 hl r xx
  refine wpAny_mono (ht.run [] s1 (L2.start N vs) H _ J hq) (fun fl s' hs => ?_) fun e s' hs => hs
  cases fl with
  | ret u =>
    obtain ⟨v, σ', H', J', rv, q⟩ := hs
    exact ⟨v, H', J'.os, J'.bare, J'.base, J'.hok, rv, q⟩
  | next =>
    obtain ⟨σ', H', J', q⟩ := hs
    exact ⟨.non, H', J'.os, J'.bare, J'.base, J'.hok, rfl, q⟩
  | brk =>
    obtain ⟨_, _, _, q⟩ := hs
    exact False.elim q
  | cont =>
    obtain ⟨_, _, _, q⟩ := hs
    exact False.elim q
def tCallE (sp : Addr → Addr → Sp) (a : Addr) (cls : Value) (d : Option Addr) (t : TA) : TE := fun σ H Q => ∃ C : Addr, cls = .ref C ∧ d = none ∧ t σ H fun vs H1 => sp a C vs H1 Q fun _ _ _ => False
section
variable {X : Cx} {k : Nat} {f a : Addr} {fd : FuncData} {ps : List Str} {sp : Addr → Addr → Sp} {x : Str} {q pos : Pos} {e : Expr} {es : List Expr} {t : TA} {oe : Obj} {cls : Value} {d : Option Addr} {pn : List (Addr × Obj)}
theorem pe_callE (F : FnE X.prog X.w X.K X.mg X.base CX0 k f fd ps sp) (hr : RoomH k X.A) (hz : L2N.Zn cls d oe) (hf : ∃ vs, oe.data = .fields vs) (hg : Gl (X.suite a ((a, oe) :: pn)) x) (hm : X.mg x = some (.ref f)) (hk : PySem.W.keepIn X.K (.ref f) = true) (hb : Binds X.K fd ps [])
    (ha : PA (X.suite a ((a, oe) :: pn)) (e :: es) t) (hdb : (x == ("__debug__" : Str)) = false := by decide) (he : starEach (e :: es) X.env = (false, eval e X.env) :: starEach es X.env := by rfl) (hpl : (backTo pos (starEach es X.env)).any (·.1) = false := by rfl) :
    PE (X.suite a ((a, oe) :: pn)) (.Call (.Name x q) (e :: es) [] pos) (tCallE sp a cls d t) := by
  refine ⟨fun pins s σ H Q I h => ?_⟩
  obtain ⟨C, rfl, rfl, h⟩ := h
  refine wpAny_Call_Name_kw (ld_glob (X := X.suite a ((a, oe) :: pn)) I hg hm ?_ hdb)
  refine PySem.W.callWith_K (h₀ := X.base) I.ok.mod.kin hk (thn (ha.run pos pins s σ H _ I h) fun us s1 ⟨vs, H1, I1, r, qq⟩ => ⟨I1.kIn, ?_⟩) he hpl
  have hl : us.length = ps.length := by rw [← r.length]; exact F.len _ _ _ _ _ _ qq
  have b := hb s1 us I1.kIn (by rw [List.append_nil]; exact hl)
  rw [List.append_nil] at b
  have P1 := I1.pin (a, oe) (List.mem_append_left _ List.mem_cons_self)
  have pin : PinOk X.stack H1 s1 (a, oe) := ⟨P1.1, P1.2.1, fun hm => (List.mem_cons.mp (I1.stkSub a hm)).elim P1.2.2.1 P1.2.2.2.1, P1.2.2.2.2⟩
  obtain ⟨fv, hfv⟩ := hf
  have hot : Hot1 (X.suite a ((a, oe) :: pn)).A (a, oe) := ⟨rfl, fv, hfv, hz.2.2 fv hfv⟩
  show wpAny _ _ (call (.ref f) us) _ _ s1
  refine wpAny_call (codeAny_mono (F.run _ _ s1 H1 us vs Q (fun _ _ _ => False) (a, oe) C ⟨hr.dp, hr.un⟩ hot hz pin I1.env0 b r qq) fun r s' hq => ?_)
  cases r with
  | error e => exact (show False from hq).elim
  | ok fl =>
    cases fl with
    | ret u => exact I1.after hq
    | next => exact False.elim hq
    | brk => exact False.elim hq
    | cont => exact False.elim hq
end
/-- isinstance(e, c), e the error that is handled -/
theorem call_isEH {X : Cx} {D : Addr} {p : Addr × Obj} (C : ExcC X.K D) (hz : L2N.Zn (.ref D) none p.2) (hot : Hot1 X.A p) (hp : p ∈ X.pn) : CallR X (.builtin "isinstance") (rIsE X.K D p.1) := by
  intro pins s σ H xs us Q I r h
  obtain ⟨c, cv, b, rfl, hcv, e, q⟩ := h
  cases r with
  | cons rx rr =>
    cases rr with
    | cons rt rr =>
      cases rr
      cases rx
      obtain rfl := hcv _ rt
      have hget := (I.pin p (List.mem_append_left _ hp)).1
      obtain ⟨_, vs, hv, _⟩ := hot
      have J : PySem.W.InstAt s.heap p.1 p.2 D none := by
        obtain ⟨a, oc, od, oda, osl⟩ := p
        obtain ⟨h1, h2, _⟩ := hz
        dsimp only at h1 h2 hv
        subst h1 h2 hv
        exact ⟨hget, rfl, rfl, trivial⟩
      exact PySem.W.kia_one (PySem.W.handS_kitx_exc C.hg C.hk C.hs C.hd C.ha C.hn C.ht C.hm) I.kIn J e (fun z => nomatch z) fun tk => ⟨.bl b, H, I.kept (t' := tk) fun _ _ z => z, rfl, q⟩
/-- X(e), an own error of one argument; its context is None -/
theorem pmk_own1N {X : Cx} {C : Addr} {bmB : List Value} {B newId initId : String} {x : Str} {e : Expr} {ta : TE} {p pos : Pos} (F : ExcBaseFacts B newId initId bmB) (q : PySem.W.excIn X.K C bmB newId = true) (gC : X.mg x = some (.ref C)) (kC : PySem.W.keepIn X.K (.ref C) = true) (r : Raises X (.ref C)) (hg : Gl X x)
    (he : PE X e ta) (hs : starEach [e] X.env = (false, eval e X.env) :: starEach [] X.env := by rfl) (hdb : (x == ("__debug__" : Str)) = false := by decide) :
    L2N.PMk X (.Call (.Name x p) [e] [] pos) (fun σ H Q => ta σ H fun _ H1 => Q (.ref C) none H1) := by
  intro pins s σ H Q I h
  refine wpAny_Call_Name_kw (ld_glob I hg gC ?_ hdb)
  refine PySem.W.callWith_K (h₀ := X.base) I.ok.mod.kin kC ?_ hs (by rfl)
  rw [hs]
  show wpAny _ _ (spliced ((false, eval e X.env) :: backTo pos (starEach [] X.env))) _ _ s
  refine Calls.spliced_cons (thn (he.run pins s σ H _ I h) fun u s1 ⟨v, H1, I1, r1, q1⟩ => Calls.spliced_nil ⟨I1.kIn, ?_⟩)
  show wpAny _ _ (call (.ref C) [u]) _ _ _
  obtain ⟨bm, N, nm, qn, bs, hdct, sn, sub, ab, col, dd, k0, k1, k2, k3, k5, mN, hC, hN, hni, T⟩ := exc_obj I1.kIn q
  refine wpAny_call_exc_subT F T hC hN hni (fun h' e hm => ?_) (by show 1 ≤ sizeLine; rw [sizeLine_eq]; omega)
  exact L2N.mk_of I1 hm r q1 (I1.hok.gone hm.new)
theorem takes0N {X : Cx} : L2N.Takes X (fun _ _ _ _ => False) := fun _ _ x => by
  obtain ⟨_, _, _, _, _, _, _, _, _, _, _, _, _, _, _, _, z⟩ := x
  exact z.elim
/-- as Fun.okX, what is let out is told with its context -/
theorem Fun.okN {P : Program} {w : World} {K : PySem.W.Frag} {mg : Str → Option Value} {base : Heap} {x qual : Str} {st : Stmt} {f : Addr} {fd : FuncData} {N ps : List Str} {k : Nat} {sp : Sp} (F : Fun K x qual st f fd) (S : FnScope N ps (defScope st)) (len : ∀ vs H Q E, sp vs H Q E → vs.length = ps.length)
    (hbody : ∀ (cdv : Value) (A : Around) (outer : List Env) (s : Shared) (H : Hp) (vs : List V) (Q : VK) (E : XK), Room k (A.deeper (envOfC qual (defScope st) s.heap.objs.size f cdv)) → sp vs H Q E →
      ∃ t, PSs (cxOf (L2N.CX P w) P w K mg base N qual (defScope st) f cdv A outer s H E) (defBody st) t ∧ t { nx := fun _ H' => Q .non H', rt := Q } (L2.start N vs) H) : FnOk P w K mg base (L2N.CX P w) (k + 1) f fd ps sp := by
  obtain ⟨oc, od, kV, doc, pm, an, cdv, ct, osl, rfl, lk, hcd⟩ := F.ex
  exact fn_of lk hcd S len fun A outer s H vs Q E hr hsp => hbody cdv A outer s H vs Q E hr hsp
end Mp
/-! ## P1 -/
set_option Elab.async false
set_option linter.all false
set_option maxRecDepth 100000
set_option maxHeartbeats 4000000
namespace Mp
open PySem PySem.Spec PyProof.Rows L2
abbrev bmV : List Value := [.type "ValueError", .type "Exception", .type "BaseException", .type "object"]
/-- an own error's class, made by X('..') -/
structure ErrT (K : PySem.W.Frag) (mg : Str → Option Value) (x : Str) (C : Addr) : Prop where
  g : mg x = some (.ref C)
  q : PySem.W.excIn K C bmV "ValueError.__new__" = true
  kp : PySem.W.keepIn K (.ref C) = true
  b : PySem.W.subIn K (.ref C) (.type "BaseException") = some true
  t : PySem.W.typeIn K (.ref C) = some (.type "type")
theorem ErrT.r {X : Cx} {x : Str} {C : Addr} (T : ErrT X.K X.mg x C) : Raises X (.ref C) := raises_own T.b T.t
/-- the names that the program finds -/
structure Names0 (mg : Str → Option Value) : Prop where
  len : mg "len" = none
  range : mg "range" = none
  list : mg "list" = none
  tuple : mg "tuple" = none
section
variable {P : Program} {w : World} {K : PySem.W.Frag} {mg : Str → Option Value} {base : Heap}
/-! ### _refuse_meeting -/
def spRefMeet (CM : Addr) : Sp := fun vs H Q E => ∃ m x : Int, vs = [.int m, .int x] ∧ (0 ≤ x ∧ x < m → Q .non H) ∧ (¬ (0 ≤ x ∧ x < m) → E (.ref CM) none H)
theorem scRM : FnScope ["many", "meeting"] ["many", "meeting"] (defScope sRefMeet) := ⟨rfl, rfl, rfl, by decide +kernel, rfl, by decide +kernel, by decide +kernel⟩
theorem ok_refmeet {f CM : Addr} {fd : FuncData} (F : Fun K "_refuse_meeting" "_refuse_meeting" sRefMeet f fd) (T : ErrT K mg "NoMeeting" CM) : FnOk P w K mg base (L2N.CX P w) 1 f fd ["many", "meeting"] (spRefMeet CM) := by
  refine Fun.okN F scRM (fun vs H Q E h => ?_) (fun cdv A outer s H vs Q E hr h => ?_)
  · obtain ⟨m, x, rfl, _⟩ := h
    rfl
  · obtain ⟨m, x, rfl, hY, hN⟩ := h
    refine ⟨_, pss_one (ps_if (pt_not (pt_chain op_le op_lt pe_int (pv 1) (pv 0))) (pss_one (L2N.ps_raise rfl (L2N.takes_of rfl rfl rfl rfl) (L2N.pmk_own PySem.F.excBase_ValueError T.q T.g T.kp T.r rfl))) pss_nil), ?_⟩
    refine ⟨_, rfl, _, _, rfl, rfl, _, rfl, ?_⟩
    by_cases h1 : 0 ≤ x
    · rw [decide_eq_true h1]
      refine iteT ⟨_, rfl, _, _, rfl, rfl, _, rfl, ?_⟩
      by_cases h2 : x < m
      · rw [decide_eq_true h2]
        exact iteF (hY ⟨h1, h2⟩)
      · rw [decide_eq_false h2]
        exact iteT (hN fun z => h2 z.2)
    · rw [decide_eq_false h1]
      exact iteF ⟨_, rfl, iteT (hN fun z => h1 z.1)⟩
/-! ### _refuse_counts -/
def spRefCnt (CB : Addr) : Sp := fun vs H Q E => ∃ (m : Int) (a : Addr) (xs : List V), vs = [.int m, .ref a] ∧ H a = some (.lst xs) ∧ (1 ≤ m ∧ m ≤ 12 ∧ xs.length ≤ 60 → Q .non H) ∧ (¬ (1 ≤ m ∧ m ≤ 12 ∧ xs.length ≤ 60) → E (.ref CB) none H)
theorem scRC : FnScope ["many", "ways"] ["many", "ways"] (defScope sRefCnt) := ⟨rfl, rfl, rfl, by decide +kernel, rfl, by decide +kernel, by decide +kernel⟩
theorem ok_refcnt {f CB : Addr} {fd : FuncData} (F : Fun K "_refuse_counts" "_refuse_counts" sRefCnt f fd) (T : ErrT K mg "BadCount" CB) (Z : Names0 mg) {t1 t2 : Tok} (g1 : mg "MOST_MEETINGS" = some (.int 12 t1)) (g2 : mg "MOST_WAYS" = some (.int 60 t2)) :
    FnOk P w K mg base (L2N.CX P w) 1 f fd ["many", "ways"] (spRefCnt CB) := by
  refine Fun.okN F scRC (fun vs H Q E h => ?_) (fun cdv A outer s H vs Q E hr h => ?_)
  · obtain ⟨m, a, xs, rfl, _⟩ := h
    rfl
  · obtain ⟨m, a, xs, rfl, ha, hY, hN⟩ := h
    refine ⟨_, pss_cons (ps_if (pt_not (pt_chain op_le op_le pe_int (pv 0) (pe_glob (v := .int 12) rfl g1 ⟨_, rfl⟩))) (pss_one (L2N.ps_raise rfl (L2N.takes_of rfl rfl rfl rfl) (pmk_own1N PySem.F.excBase_ValueError T.q T.g T.kp T.r rfl
        (pe_joined (.cons pe_str (.cons (pe_fmt (pe_glob (v := .int 12) rfl g1 ⟨_, rfl⟩)) (.cons pe_str .nil))))))) pss_nil)
      (pss_one (ps_if (pt_cmpR op_gt (pe_callB call_len_seq (by rfl) Z.len PySem.boot_len (pa_cons (pv 1) pa_nil)) (pe_glob (v := .int 60) rfl g2 ⟨_, rfl⟩) (nomark _)) (pss_one (L2N.ps_raise rfl (L2N.takes_of rfl rfl rfl rfl) (pmk_own1N PySem.F.excBase_ValueError T.q T.g T.kp T.r rfl
        (pe_joined (.cons pe_str (.cons (pe_fmt (pe_glob (v := .int 60) rfl g2 ⟨_, rfl⟩)) (.cons pe_str .nil))))))) pss_nil)), ?_⟩
    refine ⟨_, rfl, _, _, rfl, rfl, _, rfl, ?_⟩
    have msg1 : ∀ c : ¬ (1 ≤ m ∧ m ≤ 12 ∧ xs.length ≤ 60), tJs [tC (.str "a web has 1 to "), tFmt (tC (.int 12)), tC (.str " meetings")] Str.empty [some (.int m), some (.ref a)] H (fun out H1 => E (.ref CB) none H1) := fun c =>
      ⟨_, rfl, by decide +kernel, .inr ⟨12, rfl, by decide, _, rfl, by decide +kernel, _, rfl, by decide +kernel, hN c⟩⟩
    have msg2 : ∀ c : ¬ (1 ≤ m ∧ m ≤ 12 ∧ xs.length ≤ 60), tJs [tC (.str "a web has at most "), tFmt (tC (.int 60)), tC (.str " ways")] Str.empty [some (.int m), some (.ref a)] H (fun out H1 => E (.ref CB) none H1) := fun c =>
      ⟨_, rfl, by decide +kernel, .inr ⟨60, rfl, by decide, _, rfl, by decide +kernel, _, rfl, by decide +kernel, hN c⟩⟩
    by_cases h1 : 1 ≤ m
    · rw [decide_eq_true h1]
      refine iteT ⟨_, _, rfl, rfl, _, rfl, ?_⟩
      by_cases h2 : m ≤ 12
      · rw [decide_eq_true h2]
        refine iteF ⟨_, rfl, _, _, rfl, .inl (SqL.of ha), _, _, rfl, rfl, _, rfl, ?_⟩
        by_cases h3 : xs.length ≤ 60
        · rw [decide_eq_false (by omega)]
          exact iteF (hY ⟨h1, h2, h3⟩)
        · rw [decide_eq_true (by omega)]
          exact iteT (msg2 fun z => h3 z.2.2)
      · rw [decide_eq_false h2]
        exact iteT (msg1 fun z => h2 z.2.1)
    · rw [decide_eq_false h1]
      exact iteF ⟨_, rfl, iteT (msg1 fun z => h1 z.1)⟩
end
end Mp
/-! ## M1 -/
set_option linter.all false
namespace Mp
/-! Plain mathematics: ways, going along them -/
abbrev Way := Int × Int × Int
def EndsOk (m : Int) (w : Way) : Prop := (0 ≤ w.1 ∧ w.1 < m) ∧ (0 ≤ w.2.1 ∧ w.2.1 < m)
def DelayOk (w : Way) : Prop := 0 ≤ w.2.2 ∧ w.2.2 ≤ 9999
instance (m : Int) (w : Way) : Decidable (EndsOk m w) := by unfold EndsOk; exact inferInstance
instance (w : Way) : Decidable (DelayOk w) := by unfold DelayOk; exact inferInstance
/-- along ways, one at least -/
inductive Go (ws : List Way) : Int → Int → Prop
  | one {w : Way} : w ∈ ws → Go ws w.1 w.2.1
  | more {a : Int} {w : Way} : Go ws a w.1 → w ∈ ws → Go ws a w.2.1
theorem Go.trans {ws : List Way} {a b c : Int} (h : Go ws a b) (k : Go ws b c) : Go ws a c := by
  induction k with
  | one hw => exact .more h hw
  | more _ hw ih => exact .more (ih h) hw
def Piece (m : Int) (ws : List Way) : Prop := ∀ s t : Int, 0 ≤ s → s < m → 0 ≤ t → t < m → Go ws s t
/-- a list without doubles within 0 .. n - 1 -/
theorem nodup_le : ∀ (n : Nat) (l : List Int), l.Nodup → (∀ x ∈ l, 0 ≤ x ∧ x < n) → l.length ≤ n
  | 0, l, _, h => by
    cases l with
    | nil => exact Nat.le_refl _
    | cons x r => have := h x List.mem_cons_self; omega
  | n + 1, l, hn, h => by
    have he : (l.erase (n : Int)).Nodup := hn.erase _
    have hl := nodup_le n (l.erase (n : Int)) he (fun x hx => by
      have hm := (hn.mem_erase_iff.mp hx)
      have := h x hm.2
      have := hm.1
      omega)
    have : l.length ≤ (l.erase (n : Int)).length + 1 := by
      by_cases hm : (n : Int) ∈ l
      · rw [List.length_erase_of_mem hm]; omega
      · rw [List.erase_of_not_mem hm]; omega
    omega
theorem nodup_full {n : Nat} {l : List Int} (hn : l.Nodup) (h : ∀ x ∈ l, 0 ≤ x ∧ x < n) (hl : n ≤ l.length) (x : Int) (h0 : 0 ≤ x) (h1 : x < n) : x ∈ l := by
  apply Classical.byContradiction
  intro hx
  have := nodup_le n (x :: l) (List.nodup_cons.mpr ⟨hx, hn⟩) (fun y hy => by
    rcases List.mem_cons.mp hy with e | e
    · subst e; exact ⟨h0, h1⟩
    · exact h y e)
  simp at this
  omega
theorem sub_len {α : Type} [DecidableEq α] : ∀ (a b : List α), a.Nodup → (∀ x ∈ a, x ∈ b) → a.length ≤ b.length
  | [], _, _, _ => Nat.zero_le _
  | x :: r, b, hn, h => by
    have hx := h x List.mem_cons_self
    have q := List.nodup_cons.mp hn
    have := sub_len r (b.erase x) q.2 (fun y hy => (List.mem_erase_of_ne (fun (e : y = x) => q.1 (by rw [← e]; exact hy))).mpr (h y (List.mem_cons_of_mem _ hy)))
    rw [List.length_erase_of_mem hx] at this
    have : 0 < b.length := List.length_pos_of_mem hx
    simp
    omega
def seqI (n : Nat) : List Int := (List.range n).map Int.ofNat
theorem seqI_len (n : Nat) : (seqI n).length = n := by unfold seqI; simp
theorem mem_seqI {n : Nat} {x : Int} : x ∈ seqI n ↔ 0 ≤ x ∧ x < n := by
  unfold seqI
  rw [List.mem_map]
  constructor
  · rintro ⟨k, hk, rfl⟩
    have := List.mem_range.mp hk
    exact ⟨Int.natCast_nonneg k, by show (k : Int) < n; omega⟩
  · rintro ⟨h0, h1⟩
    exact ⟨x.toNat, List.mem_range.mpr (by omega), by show ((x.toNat : Nat) : Int) = x; omega⟩
theorem nodup_seqI (n : Nat) : (seqI n).Nodup := by
  unfold seqI
  refine List.Pairwise.map _ (fun a b h => ?_) List.nodup_range
  intro e
  exact h (Int.ofNat.inj e)
/-- what is closed under the ways is what one reaches -/
theorem go_closed {ws : List Way} {st : Int} {F : List Int} (h0 : ∀ w ∈ ws, w.1 = st → w.2.1 ∈ F) (h1 : ∀ w ∈ ws, w.1 ∈ F → w.2.1 ∈ F) {x : Int} (g : Go ws st x) : x ∈ F := by
  have key : ∀ a b, Go ws a b → a = st → b ∈ F := by
    intro a b g
    induction g with
    | one hw => exact fun e => h0 _ hw e
    | more _ hw ih => exact fun e => h1 _ hw (ih e)
  exact key _ _ g rfl
theorem Go.ends {ws : List Way} {m a b : Int} (he : ∀ w ∈ ws, EndsOk m w) (g : Go ws a b) : (0 ≤ a ∧ a < m) ∧ 0 ≤ b ∧ b < m := by
  induction g with
  | one hw => exact he _ hw
  | more _ hw ih => exact ⟨ih.1, (he _ hw).2⟩
/-- going one way back and forth from nought -/
def Star (ws : List Way) (a b : Int) : Prop := a = b ∨ Go ws a b
theorem Star.step {ws : List Way} {a : Int} {w : Way} (h : Star ws a w.1) (hw : w ∈ ws) : Star ws a w.2.1 := by
  rcases h with e | g
  · subst e; exact .inr (.one hw)
  · exact .inr (.more g hw)
def flipW (w : Way) : Way := (w.2.1, w.1, w.2.2)
theorem go_flip {ws : List Way} {a b : Int} (g : Go (ws.map flipW) a b) : Go ws b a := by
  induction g with
  | @one w hw =>
    obtain ⟨v, hv, e⟩ := List.mem_map.mp hw
    subst e
    exact .one (w := v) hv
  | @more a w _ hw ih =>
    obtain ⟨v, hv, e⟩ := List.mem_map.mp hw
    subst e
    exact Go.trans (.one (w := v) hv) ih
theorem flip_flip (w : Way) : flipW (flipW w) = w := rfl
theorem flip_map (ws : List Way) : (ws.map flipW).map flipW = ws := by
  rw [List.map_map]
  have : flipW ∘ flipW = id := rfl
  rw [this]
  simp
theorem go_flip' {ws : List Way} {a b : Int} (g : Go ws a b) : Go (ws.map flipW) b a := by
  apply go_flip
  rw [flip_map]
  exact g
theorem star_flip {ws : List Way} {a b : Int} (g : Star (ws.map flipW) a b) : Star ws b a := by
  rcases g with e | g
  · exact .inl e.symm
  · exact .inr (go_flip g)
/-- of one piece: some way, all from nought, nought from all -/
theorem piece_iff {m : Int} {ws : List Way} (hm : 1 ≤ m) (he : ∀ w ∈ ws, EndsOk m w) :
    Piece m ws ↔ (ws ≠ [] ∧ (∀ x, 0 ≤ x → x < m → Star ws 0 x) ∧ ∀ x, 0 ≤ x → x < m → Star (ws.map flipW) 0 x) := by
  constructor
  · intro p
    refine ⟨fun e => ?_, fun x h0 h1 => .inr (p 0 x (by omega) (by omega) h0 h1), fun x h0 h1 => .inr (go_flip' (p x 0 h0 h1 (by omega) (by omega)))⟩
    subst e
    have g := p 0 0 (by omega) (by omega) (by omega) (by omega)
    have key : ∀ a b, Go ([] : List Way) a b → False := by
      intro a b g
      induction g with
      | one hw => cases hw
      | more _ hw _ => cases hw
    exact key _ _ g
  · rintro ⟨hne, hf, hb⟩ s t s0 s1 t0 t1
    have cyc : Go ws 0 0 := by
      cases ws with
      | nil => exact absurd rfl hne
      | cons w r =>
        have e := he w List.mem_cons_self
        have f1 := hf w.1 e.1.1 e.1.2
        have f2 := star_flip (hb w.2.1 e.2.1 e.2.2)
        have g1 : Go (w :: r) 0 w.2.1 := by
          rcases f1 with e1 | g
          · rw [e1]; exact .one List.mem_cons_self
          · exact .more g List.mem_cons_self
        rcases f2 with e2 | g
        · rw [e2] at g1; exact g1
        · exact g1.trans g
    have a := star_flip (hb s s0 s1)
    have b := hf t t0 t1
    rcases a with e | g
    · subst e
      rcases b with e | g
      · subst e; exact cyc
      · exact g
    · rcases b with e | k
      · subst e; exact g
      · exact g.trans k
end Mp
/-! ## P2 -/
set_option Elab.async false
set_option linter.all false
set_option maxRecDepth 100000
set_option maxHeartbeats 4000000
namespace Mp
open PySem PySem.Spec PyProof.Rows L2
/-! ### ways in the heap -/
def tv (w : Way) : List V := [.int w.1, .int w.2.1, .int w.2.2]
def Tups (H : Hp) (ts : List Addr) (ws : List Way) : Prop := ts.length = ws.length ∧ ∀ (i : Nat) (t : Addr) (w : Way), ts[i]? = some t → ws[i]? = some w → H t = some (.tup (tv w))
def WList (H : Hp) (a : Addr) (ts : List Addr) (ws : List Way) : Prop := H a = some (.lst (ts.map V.ref)) ∧ Tups H ts ws
theorem Tups.at {H : Hp} {ts : List Addr} {ws : List Way} (T : Tups H ts ws) {i : Nat} {x : V} (h : (ts.map V.ref)[i]? = some x) : ∃ t w, x = .ref t ∧ ts[i]? = some t ∧ ws[i]? = some w ∧ w ∈ ws ∧ H t = some (.tup (tv w)) := by
  rw [List.getElem?_map] at h
  cases e : ts[i]? with
  | none => rw [e] at h; cases h
  | some t =>
    rw [e] at h
    have hi := (List.getElem?_eq_some_iff.mp e).1
    have hl : i < ws.length := by have := T.1; omega
    obtain ⟨w, hw⟩ : ∃ w, ws[i]? = some w := ⟨_, List.getElem?_eq_getElem hl⟩
    exact ⟨t, w, (Option.some.inj h).symm, rfl, hw, List.mem_of_getElem? hw, T.2 i t w e hw⟩
theorem Tups.same {H H' : Hp} {ts : List Addr} {ws : List Way} (T : Tups H ts ws) (s : ∀ b xs, H b = some (.tup xs) → H' b = some (.tup xs)) : Tups H' ts ws := ⟨T.1, fun i t w a b => s _ _ (T.2 i t w a b)⟩
theorem same_tups {H H' : Hp} (s : Same H H') : ∀ b xs, H b = some (.tup xs) → H' b = some (.tup xs) := fun b xs e => s b _ e
theorem mem_upto {α : Type} {l : List α} {n : Nat} {x : α} (h : x ∈ l.take (n + 1)) {y : α} (hy : l[n]? = some y) : x ∈ l.take n ∨ x = y := by
  rw [List.take_add_one, hy] at h
  rcases List.mem_append.mp h with h | h
  · exact .inl h
  · exact .inr (by simpa using h)
section
variable {P : Program} {w : World} {K : PySem.W.Frag} {mg : Str → Option Value} {base : Heap}
/-! ### _refuse_ways -/
def spRefWays (CM CD : Addr) : Sp := fun vs H Q E => ∃ (m : Int) (a : Addr) (ts : List Addr) (ws : List Way), vs = [.int m, .ref a] ∧ WList H a ts ws ∧
  ((¬ ∀ w ∈ ws, EndsOk m w) → E (.ref CM) none H) ∧ ((∀ w ∈ ws, EndsOk m w) → (¬ ∀ w ∈ ws, DelayOk w) → E (.ref CD) none H) ∧ ((∀ w ∈ ws, EndsOk m w) → (∀ w ∈ ws, DelayOk w) → Q .non H)
theorem scRW : FnScope ["many", "ways", "one", "other", "_", "delay"] ["many", "ways"] (defScope sRefWays) := ⟨rfl, rfl, rfl, by decide +kernel, rfl, by decide +kernel, by decide +kernel⟩
theorem ok_refways {f fM CM CD : Addr} {fd fdM : FuncData} (F : Fun K "_refuse_ways" "_refuse_ways" sRefWays f fd) (FM : Fun K "_refuse_meeting" "_refuse_meeting" sRefMeet fM fdM) (TM : ErrT K mg "NoMeeting" CM) (TD : ErrT K mg "BadDelay" CD)
    (gM : mg "_refuse_meeting" = some (.ref fM)) (bM : Binds K fdM ["many", "meeting"] []) {t1 : Tok} (g1 : mg "MOST_DELAY" = some (.int 9999 t1)) : FnOk P w K mg base (L2N.CX P w) 2 f fd ["many", "ways"] (spRefWays CM CD) := by
  have GM : FnOk P w K mg base (L2N.CX P w) 1 fM fdM ["many", "meeting"] (spRefMeet CM) := ok_refmeet FM TM
  refine Fun.okN F scRW (fun vs H Q E h => ?_) (fun cdv A outer s H vs Q E hr h => ?_)
  · obtain ⟨m, a, ts, ws, rfl, _⟩ := h
    rfl
  · obtain ⟨m, a, ts, ws, rfl, ⟨ha, hT⟩, hM, hD, hQ⟩ := h
    have hr1 : Room 1 _ := hr
    refine ⟨_, pss_cons (ps_for (passes_of rfl) rfl (pi_list (pv 1)) (pg_tup rfl (pgs_cons (pg_name (i := 2) scRW.nd rfl (.inl rfl)) (pgs_cons (pg_name (i := 3) scRW.nd rfl (.inl rfl)) (pgs_cons (pg_name (i := 4) scRW.nd rfl (.inl rfl)) pgs_nil))))
        (pss_cons (ps_expr (pe_call GM hr1 rfl gM FM.kp bM .nil (L2N.passes_call (L2N.takes_of rfl rfl rfl rfl) fun _ _ _ _ h => h) (pa_cons (pv 0) (pa_cons (pv 2) pa_nil))))
          (pss_one (ps_expr (pe_call GM hr1 rfl gM FM.kp bM .nil (L2N.passes_call (L2N.takes_of rfl rfl rfl rfl) fun _ _ _ _ h => h) (pa_cons (pv 0) (pa_cons (pv 3) pa_nil)))))))
      (pss_one (ps_for (passes_of rfl) rfl (pi_list (pv 1)) (pg_tup rfl (pgs_cons (pg_name (i := 4) scRW.nd rfl (.inl rfl)) (pgs_cons (pg_name (i := 4) scRW.nd rfl (.inl rfl)) (pgs_cons (pg_name (i := 5) scRW.nd rfl (.inl rfl)) pgs_nil))))
        (pss_one (ps_if (pt_not (pt_chain op_le op_le pe_int (pv 5) (pe_glob (v := .int 9999) rfl g1 ⟨_, rfl⟩))) (pss_one (L2N.ps_raise rfl (L2N.takes_of rfl rfl rfl rfl) (pmk_own1N PySem.F.excBase_ValueError TD.q TD.g TD.kp TD.r rfl
        (pe_joined (.cons pe_str (.cons (pe_fmt (pe_glob (v := .int 9999) rfl g1 ⟨_, rfl⟩)) .nil)))))) pss_nil)))), ?_⟩
    -- for one, other, _ in ways
    refine ⟨_, rfl, a, rfl, ⟨_, SqL.of ha⟩, for_list (K := K) (a := a) (xs := ts.map V.ref) (fun i σ H' => H' = H ∧ (∃ x y z, σ = [some (.int m), some (.ref a), x, y, z, none]) ∧ ∀ w ∈ ws.take i, EndsOk m w)
      ⟨rfl, ⟨none, none, none, rfl⟩, fun w hw => by simp at hw⟩ (fun i σ H' _ ⟨e, _, _⟩ => by rw [e]; exact SqL.of ha) ?_ ?_⟩
    · rintro i x σ H' hi ⟨rfl, ⟨x0, y0, z0, rfl⟩, hb⟩
      obtain ⟨t, w, rfl, _, hw, hmem, ht⟩ := hT.at hi
      refine ⟨t, _, rfl, SqT.of ht, rfl, _, _, rfl, _, _, rfl, _, _, rfl, rfl, ?_⟩
      refine ⟨_, rfl, _, rfl, _, _, rfl, fun h1 => ?_, fun h1 => hM fun z => h1 (z w hmem).1⟩
      refine ⟨_, rfl, _, rfl, _, _, rfl, fun h2 => ⟨rfl, ⟨_, _, _, rfl⟩, fun v hv => ?_⟩, fun h2 => hM fun z => h2 (z w hmem).2⟩
      rcases mem_upto hv hw with h | h
      · exact hb v h
      · subst h
        exact ⟨h1, h2⟩
    · rintro σ H' ⟨eH, ⟨x0, y0, z0, rfl⟩, hb⟩
      subst eH
      have hE : ∀ w ∈ ws, EndsOk m w := by
        rw [List.length_map, hT.1, List.take_length] at hb
        exact hb
      refine ⟨_, rfl, a, rfl, ⟨_, SqL.of ha⟩, for_list (K := K) (a := a) (xs := ts.map V.ref) (fun i σ H'' => H'' = H' ∧ (∃ x y z u, σ = [some (.int m), some (.ref a), x, y, z, u]) ∧ ∀ w ∈ ws.take i, DelayOk w)
        ⟨rfl, ⟨_, _, _, _, rfl⟩, fun w hw => by simp at hw⟩ (fun i σ H' _ ⟨e, _, _⟩ => by rw [e]; exact SqL.of ha) ?_ ?_⟩
      · rintro i x σ H' hi ⟨rfl, ⟨x1, y1, z1, u1, rfl⟩, hb2⟩
        obtain ⟨t, w, rfl, _, hw, hmem, ht⟩ := hT.at hi
        refine ⟨t, _, rfl, SqT.of ht, rfl, _, _, rfl, _, _, rfl, _, _, rfl, rfl, ?_⟩
        have bad : ¬ DelayOk w → tJs [tC (.str "a delay is 0 to "), tFmt (tC (.int 9999))] Str.empty [some (.int m), some (.ref a), x1, y1, some (.int w.2.1), some (.int w.2.2)] H' (fun out H1 => E (.ref CD) none H1) := fun c =>
          ⟨_, rfl, by decide +kernel, .inr ⟨9999, rfl, by decide, _, rfl, by decide +kernel, hD hE fun z => c (z w hmem)⟩⟩
        have good : DelayOk w → ∀ v ∈ ws.take (i + 1), DelayOk v := fun c v hv => by
          rcases mem_upto hv hw with h | h
          · exact hb2 v h
          · subst h; exact c
        refine ⟨_, rfl, _, _, rfl, rfl, _, rfl, ?_⟩
        by_cases h1 : 0 ≤ w.2.2
        · rw [decide_eq_true h1]
          refine iteT ⟨_, _, rfl, rfl, _, rfl, ?_⟩
          by_cases h2 : w.2.2 ≤ 9999
          · rw [decide_eq_true h2]
            exact iteF ⟨rfl, ⟨_, _, _, _, rfl⟩, good ⟨h1, h2⟩⟩
          · rw [decide_eq_false h2]
            exact iteT (bad fun z => h2 z.2)
        · rw [decide_eq_false h1]
          exact iteF ⟨_, rfl, iteT (bad fun z => h1 z.1)⟩
      · rintro σ H' ⟨rfl, _, hb2⟩
        rw [List.length_map, hT.1, List.take_length] at hb2
        exact hQ hE hb2
end
end Mp
/-! ## P3 -/
set_option Elab.async false
set_option linter.all false
set_option maxRecDepth 100000
set_option maxHeartbeats 4000000
namespace Mp
open PySem PySem.Spec PyProof.Rows L2
theorem any_int (b : Int) (F : List Int) : inV (.int b) (F.map V.int) = decide (b ∈ F) := by
  unfold inV
  induction F with
  | nil => simp
  | cons x r ih =>
    rw [List.map_cons, List.any_cons, ih]
    by_cases e : x = b
    · subst e; simp [eqV]
    · have e' : ¬ b = x := fun z => e z.symm
      simp [eqV, e, e']
theorem flat_ints (F : List Int) : (F.map V.int).all flatV = true := by
  induction F with
  | nil => rfl
  | cons x r ih => rw [List.map_cons, List.all_cons, ih]; rfl
theorem last_int {l : List Int} (h : l ≠ []) : ∃ (z : Int) (r : List Int), l = r ++ [z] := ⟨l.getLast h, l.dropLast, (List.dropLast_concat_getLast h).symm⟩
section
variable {P : Program} {w : World} {K : PySem.W.Frag} {mg : Str → Option Value} {base : Heap}
/-! ### _reached -/
def spReached : Sp := fun vs H Q _ => ∃ (a : Addr) (st m : Int) (ts : List Addr) (ws : List Way), vs = [.ref a, .int st] ∧ WList H a ts ws ∧ m ≤ 12 ∧ (∀ w ∈ ws, EndsOk m w) ∧
  ∀ (p : Addr) (F : List Int) (H' : Hp), Same H H' → H' p = some (.lst (F.map V.int)) → F.Nodup → (∀ x ∈ F, Go ws st x) → (∀ x, Go ws st x → x ∈ F) → Q (.ref p) H'
theorem scRe : FnScope ["ways", "start", "found", "waiting", "at", "one", "other", "_"] ["ways", "start"] (defScope sReached) := ⟨rfl, rfl, rfl, by decide +kernel, rfl, by decide +kernel, by decide +kernel⟩
theorem ok_reached {f : Addr} {fd : FuncData} (F : Fun K "_reached" "_reached" sReached f fd) : FnOk P w K mg base CX0 1 f fd ["ways", "start"] spReached := by
  refine F.ok scRe (fun vs H Q E h => ?_) (fun cdv A outer s H vs Q E hr h => ?_)
  · obtain ⟨a, st, m, ts, ws, rfl, _⟩ := h
    rfl
  · obtain ⟨a, st, m, ts, ws, rfl, ⟨ha, hT⟩, hm, hE, hQ⟩ := h
    refine ⟨_, pss_cons (ps_set (i := 2) scRe.nd rfl (.inl rfl) (pe_lst pa_nil))
      (pss_cons (ps_set (i := 3) scRe.nd rfl (.inl rfl) (pe_lst (pa_cons (pv 1) pa_nil)))
      (pss_cons (ps_while PassesOwn.never (pt_truth (pv 3) (by intro _; rfl))
        (pss_cons (ps_set (i := 4) scRe.nd rfl (.inl rfl) (pe_bm0 PySem.F.plainAttrs_list PySem.F.slot_list_pop PySem.F.type_list_pop mt_pop (pv 3)))
        (pss_one (ps_for PassesOwn.never rfl (pi_list (pv 0)) (pg_tup rfl (pgs_cons (pg_name (i := 5) scRe.nd rfl (.inl rfl)) (pgs_cons (pg_name (i := 6) scRe.nd rfl (.inl rfl)) (pgs_cons (pg_name (i := 7) scRe.nd rfl (.inl rfl)) pgs_nil))))
          (pss_one (ps_if (PW.pt (pw_and (pt_cmpR op_eq (pv 5) (pv 4) (nomark _)) (pw_and1 (pt_cmpR op_notIn_seq (pv 6) (pv 2) (by rfl)))))
            (pss_cons (ps_expr (pe_bm PySem.F.plainAttrs_list PySem.F.slot_list_append PySem.F.type_list_append mt_append (pv 2) (pa_cons (pv 6) pa_nil)))
              (pss_one (ps_expr (pe_bm PySem.F.plainAttrs_list PySem.F.slot_list_append PySem.F.type_list_append mt_append (pv 3) (pa_cons (pv 6) pa_nil))))) pss_nil))))))
      (pss_one (ps_ret (pv 2))))), ?_⟩
    -- found = []; waiting = [start]
    refine ⟨Nat.zero_le _, fun pf nf => ⟨_, rfl, (by show 1 ≤ sizeLine; decide), fun pw nw => ?_⟩⟩
    have npf : H pf = none := nf
    have nwf : pw ≠ pf := fun z => by rw [z, upd_same] at nw; cases nw
    have npw : H pw = none := by rw [upd_ne nwf] at nw; exact nw
    have apf : a ≠ pf := ne_of_none ha npf
    have apw : a ≠ pw := ne_of_none ha npw
    have le12 : ∀ F : List Int, F.Nodup → (∀ x ∈ F, Go ws st x) → F.length ≤ 12 := fun F nd hg => nodup_le 12 F nd fun x hx => by
      have := (hg x hx).ends hE
      omega
    -- while waiting
    refine ⟨fun n σ H' => ∃ (F Wt : List Int) (x y z u : Option V), σ = [some (.ref a), some (.int st), some (.ref pf), some (.ref pw), x, y, z, u] ∧ H' pf = some (.lst (F.map V.int)) ∧ H' pw = some (.lst (Wt.map V.int)) ∧ Same H H' ∧ F.Nodup ∧ (∀ x ∈ F, Go ws st x) ∧ n ≤ 25 ∧
        (∀ x ∈ Wt, x = st ∨ x ∈ F) ∧ (∀ b, (b = st ∨ b ∈ F) → b ∈ Wt ∨ ∀ w ∈ ws, w.1 = b → w.2.1 ∈ F) ∧ n = 2 * (12 - F.length) + Wt.length, ⟨_, [], [st], none, none, none, none, rfl, ?_, ?_, ?_, List.nodup_nil, ?_, ?_, ?_, ?_, rfl⟩, ?_⟩
    · rw [upd_ne nwf.symm, upd_same]; rfl
    · exact upd_same
    · intro b o e
      rw [upd_ne (ne_of_none e npw), upd_ne (ne_of_none e npf)]
      exact e
    · intro x hx; cases hx
    · simp
    · intro x hx; exact .inl (by simpa using hx)
    · intro b hb
      rcases hb with e | e
      · exact .inl (by simp [e])
      · cases e
    · rintro n σ H' ⟨F, Wt, x0, y0, z0, u0, rfl, hF, hW, sm, nd, hg, hwl, hwt, hcl, hn⟩
      refine ⟨_, rfl, _, .inl ⟨_, SqL.of hW, rfl⟩, ?_⟩
      cases hWe : Wt with
      | nil =>
        refine iteF ?_
        refine ⟨_, rfl, hQ pf F H' sm hF nd hg fun x gx => go_closed (fun w hw e => ?_) (fun w hw e => ?_) gx⟩
        · rcases hcl st (.inl rfl) with h | h
          · rw [hWe] at h; cases h
          · exact h w hw e
        · rcases hcl w.1 (.inr e) with h | h
          · rw [hWe] at h; cases h
          · exact h w hw rfl
      | cons w0 r0 =>
        refine iteT ?_
        obtain ⟨at_, Wr, eW⟩ := last_int (l := Wt) (by rw [hWe]; exact List.cons_ne_nil _ _)
        have eM : Wt.map V.int = Wr.map V.int ++ [V.int at_] := by rw [eW, List.map_append]; rfl
        have hlen : Wt.length = Wr.length + 1 := by rw [eW]; simp
        have hat : at_ = st ∨ at_ ∈ F := hwt at_ (by rw [eW]; simp)
        refine ⟨fun σ' H2 => ∃ m', m' < n ∧ _, fun σ' H2 h => h, ?_⟩
        -- at = waiting.pop()
        refine ⟨_, rfl, .inl ⟨rfl, _, SqL.of hW⟩, _, _, .int at_, rfl, rfl, hW, ?_, ?_⟩
        · rw [eM]; simp
        have hW2 : (Wt.map V.int).dropLast = Wr.map V.int := by rw [eM, List.dropLast_concat]
        rw [hW2]
        refine ⟨_, rfl, a, rfl, ⟨_, SqL.of (by rw [upd_ne apw]; exact sm _ _ ha)⟩, for_list (K := K) (a := a) (xs := ts.map V.ref) (fun i σ H2 => ∃ (F2 W2 : List Int) (y z u : Option V), σ = [some (.ref a), some (.int st), some (.ref pf), some (.ref pw), some (.int at_), y, z, u] ∧
            H2 pf = some (.lst (F2.map V.int)) ∧ H2 pw = some (.lst (W2.map V.int)) ∧ Same H H2 ∧ F2.Nodup ∧ (∀ x ∈ F2, Go ws st x) ∧ (at_ = st ∨ at_ ∈ F2) ∧ (∀ x ∈ W2, x = st ∨ x ∈ F2) ∧
            (∀ b, (b = st ∨ b ∈ F2) → b ∈ W2 ∨ b = at_ ∨ ∀ w ∈ ws, w.1 = b → w.2.1 ∈ F2) ∧ (∀ w ∈ ws.take i, w.1 = at_ → w.2.1 ∈ F2) ∧ 2 * (12 - F2.length) + W2.length < n)
          ⟨F, Wr, _, _, _, rfl, ?_, upd_same, ?_, nd, hg, hat, ?_, ?_, ?_, ?_⟩ (fun i σ H2 _ ⟨_, _, _, _, _, _, _, _, s2, _⟩ => SqL.of (s2 _ _ ha)) ?_ ?_⟩
        · rw [upd_ne nwf.symm]; exact hF
        · intro b o e
          rw [upd_ne (ne_of_none e npw)]
          exact sm b o e
        · intro x hx; exact hwt x (by rw [eW]; exact List.mem_append_left _ hx)
        · intro b hb
          rcases hcl b hb with h | h
          · rw [eW] at h
            rcases List.mem_append.mp h with h | h
            · exact .inl h
            · exact .inr (.inl (by simpa using h))
          · exact .inr (.inr h)
        · intro w hw; simp at hw
        · omega
        · -- a turn
          rintro i x σ H2 hi ⟨F2, W2, y, z, u, rfl, h1, h2, s2, nd2, hg2, hat2, hwt2, hcl2, htk, hms⟩
          obtain ⟨t, w, rfl, _, hw, hmem, ht⟩ := hT.at hi
          refine ⟨t, _, rfl, SqT.of (s2 _ _ ht), rfl, _, _, rfl, _, _, rfl, _, _, rfl, rfl, ?_⟩
          refine ⟨_, rfl, _, rfl, rfl, _, rfl, ?_⟩
          have skip : (w.1 = at_ → w.2.1 ∈ F2) → ∀ v ∈ ws.take (i + 1), v.1 = at_ → v.2.1 ∈ F2 := fun c v hv e => by
            rcases mem_upto hv hw with h | h
            · exact htk v h e
            · subst h; exact c e
          by_cases e1 : w.1 = at_
          · rw [decide_eq_true (by rw [e1])]
            refine iteT ?_
            refine ⟨_, rfl, _, rfl, pf, _, rfl, .inl (SqL.of h1), rfl, flat_ints F2, _, rfl, ?_⟩
            rw [if_pos rfl, any_int]
            by_cases e2 : w.2.1 ∈ F2
            · rw [decide_eq_true e2]
              exact iteF ⟨F2, W2, _, _, _, rfl, h1, h2, s2, nd2, hg2, hat2, hwt2, hcl2, skip fun _ => e2, hms⟩
            · rw [decide_eq_false e2]
              refine iteT ?_
              have l12 := le12 F2 nd2 hg2
              have gnew : Go ws st w.2.1 := by
                rcases hat2 with e | e
                · rw [← e, ← e1]; exact .one hmem
                · exact .more (by rw [e1]; exact hg2 _ e) hmem
              have nd3 : (F2 ++ [w.2.1]).Nodup := by
                rw [List.nodup_append]
                exact ⟨nd2, by simp, fun x hx y hy => by
                  have : y = w.2.1 := by simpa using hy
                  subst this
                  exact fun z => e2 (z ▸ hx)⟩
              have hg3 : ∀ x ∈ F2 ++ [w.2.1], Go ws st x := fun x hx => by
                rcases List.mem_append.mp hx with h | h
                · exact hg2 x h
                · have : x = w.2.1 := by simpa using h
                  subst this; exact gnew
              have l12' := le12 _ nd3 hg3
              have l3 : (F2 ++ [w.2.1]).length = F2.length + 1 := by simp
              have lw3 : (W2 ++ [w.2.1]).length = W2.length + 1 := by simp
              refine ⟨_, rfl, .inl ⟨rfl, _, SqL.of h1⟩, _, rfl, pf, _, _, rfl, rfl, h1, (by rw [List.length_map]; exact small1000 (by omega)), ?_⟩
              have h2' : (upd H2 pf (.lst (F2.map V.int ++ [V.int w.2.1]))) pw = some (.lst (W2.map V.int)) := by rw [upd_ne nwf]; exact h2
              refine ⟨_, rfl, .inl ⟨rfl, _, SqL.of h2'⟩, _, rfl, pw, _, _, rfl, rfl, h2', (by rw [List.length_map]; exact small1000 (by omega)), ?_⟩
              refine ⟨F2 ++ [w.2.1], W2 ++ [w.2.1], _, _, _, rfl, ?_, ?_, ?_, nd3, hg3, ?_, ?_, ?_, ?_, ?_⟩
              · rw [upd_ne nwf.symm, upd_same, List.map_append]; rfl
              · rw [upd_same, List.map_append]; rfl
              · intro b o e
                rw [upd_ne (ne_of_none e npw), upd_ne (ne_of_none e npf)]
                exact s2 b o e
              · exact hat2.imp id (List.mem_append_left _)
              · intro x hx
                rcases List.mem_append.mp hx with h | h
                · exact (hwt2 x h).imp id (List.mem_append_left _)
                · exact .inr (List.mem_append_right _ h)
              · intro b hb
                by_cases hb2 : b = st ∨ b ∈ F2
                · rcases hcl2 b hb2 with h | h | h
                  · exact .inl (List.mem_append_left _ h)
                  · exact .inr (.inl h)
                  · exact .inr (.inr fun v hv e => List.mem_append_left _ (h v hv e))
                · refine .inl (List.mem_append_right _ ?_)
                  rcases hb with h | h
                  · exact absurd (.inl h) hb2
                  · rcases List.mem_append.mp h with h | h
                    · exact absurd (.inr h) hb2
                    · exact h
              · intro v hv e
                rcases mem_upto hv hw with h | h
                · exact List.mem_append_left _ (htk v h e)
                · subst h; exact List.mem_append_right _ (by simp)
              · omega
          · rw [decide_eq_false (fun z => e1 (V.int.inj z))]
            exact iteF ⟨F2, W2, _, _, _, rfl, h1, h2, s2, nd2, hg2, hat2, hwt2, hcl2, skip fun e => absurd e e1, hms⟩
        · -- behind the ways
          rintro σ H2 ⟨F2, W2, y, z, u, rfl, h1, h2, s2, nd2, hg2, hat2, hwt2, hcl2, htk, hms⟩
          rw [List.length_map, hT.1, List.take_length] at htk
          have l12 := le12 F2 nd2 hg2
          refine ⟨_, hms, F2, W2, _, _, _, _, rfl, h1, h2, s2, nd2, hg2, by omega, hwt2, fun b hb => ?_, rfl⟩
          rcases hcl2 b hb with h | h | h
          · exact .inl h
          · exact .inr (by rw [h]; exact htk)
          · exact .inr h
end
end Mp
/-! ## P4 -/
set_option Elab.async false
set_option linter.all false
set_option maxRecDepth 100000
set_option maxHeartbeats 4000000
namespace Mp
open PySem PySem.Spec PyProof.Rows L2
section
variable {P : Program} {w : World} {K : PySem.W.Frag} {mg : Str → Option Value} {base : Heap}
/-! ### _refuse_apart -/
def spRefApart (CA : Addr) : Sp := fun vs H Q E => ∃ (m : Int) (a : Addr) (ts : List Addr) (ws : List Way), vs = [.int m, .ref a] ∧ WList H a ts ws ∧ 1 ≤ m ∧ m ≤ 12 ∧ (∀ w ∈ ws, EndsOk m w) ∧
  (¬ Piece m ws → ∀ H', Same H H' → E (.ref CA) none H') ∧ (Piece m ws → ∀ H', Same H H' → Q .non H')
theorem scRA : FnScope ["many", "ways", "start"] ["many", "ways"] (defScope sRefApart) := ⟨rfl, rfl, rfl, by decide +kernel, rfl, by decide +kernel, by decide +kernel⟩
theorem ok_refapart {f fR CA : Addr} {fd fdR : FuncData} (F : Fun K "_refuse_apart" "_refuse_apart" sRefApart f fd) (FR : Fun K "_reached" "_reached" sReached fR fdR) (TA : ErrT K mg "Apart" CA) (Z : Names0 mg)
    (gR : mg "_reached" = some (.ref fR)) (bR : Binds K fdR ["ways", "start"] []) : FnOk P w K mg base (L2N.CX P w) 2 f fd ["many", "ways"] (spRefApart CA) := by
  have GR : FnOk P w K mg base CX0 1 fR fdR ["ways", "start"] spReached := ok_reached FR
  refine Fun.okN F scRA (fun vs H Q E h => ?_) (fun cdv A outer s H vs Q E hr h => ?_)
  · obtain ⟨m, a, ts, ws, rfl, _⟩ := h
    rfl
  · obtain ⟨m, a, ts, ws, rfl, ⟨ha, hT⟩, m1, m12, hE, hN, hY⟩ := h
    have hr1 : Room 1 _ := hr
    refine ⟨_, pss_one (ps_for (passes_of rfl) rfl (pi_range1 rfl Z.range (pa_cons (pv 0) pa_nil)) (pg_name (i := 2) scRA.nd rfl (.inl rfl))
      (pss_one (ps_if (pt_cmpR op_lt (pe_callB call_len_seq (by rfl) Z.len PySem.boot_len (pa_cons (pe_call GR hr1 rfl gR FR.kp bR .nil pass0 (pa_cons (pv 1) (pa_cons (pv 2) pa_nil))) pa_nil)) (pv 0) (nomark _))
        (pss_one (L2N.ps_raise rfl (L2N.takes_of rfl rfl rfl rfl) (L2N.pmk_own PySem.F.excBase_ValueError TA.q TA.g TA.kp TA.r rfl))) pss_nil))), ?_⟩
    refine ⟨_, rfl, m, rfl, by omega, by omega, for_range (lo := 0) (n := m.toNat) (fun i σ H' => Same H H' ∧ (∃ x, σ = [some (.int m), some (.ref a), x]) ∧ ∀ s t : Int, 0 ≤ s → s < i → 0 ≤ t → t < m → Go ws s t)
      ⟨Same.refl H, ⟨_, rfl⟩, fun s t h0 h1 => by omega⟩ ?_ ?_⟩
    · rintro i σ H' hi ⟨sm, ⟨x, rfl⟩, hg⟩
      refine ⟨_, rfl, _, rfl, a, _, m, ts, ws, rfl, ⟨sm _ _ ha, hT.same (same_tups sm)⟩, m12, hE, fun p F H2 sm2 hp nd hF hC => ?_⟩
      refine ⟨p, _, rfl, .inl (SqL.of hp), _, rfl, _, _, rfl, rfl, _, rfl, ?_⟩
      have e0 : (0 : Int) + (i : Int) = i := by omega
      rw [e0] at hF hC
      rw [List.length_map]
      have inF : ∀ x ∈ F, 0 ≤ x ∧ x < (m.toNat : Int) := fun x hx => by
        have := (hF x hx).ends hE
        omega
      by_cases c : (F.length : Int) < m
      · rw [decide_eq_true c]
        refine iteT (hN (fun pc => ?_) H2 (sm.trans sm2))
        have := sub_len (seqI m.toNat) F (nodup_seqI _) fun x hx => by
          have q := mem_seqI.mp hx
          exact hC x (pc i x (by omega) (by omega) q.1 (by omega))
        rw [seqI_len] at this
        omega
      · rw [decide_eq_false c]
        refine iteF ⟨sm.trans sm2, ⟨_, rfl⟩, fun s t h0 h1 t0 t1 => ?_⟩
        by_cases hs : s < i
        · exact hg s t h0 hs t0 t1
        · have : s = i := by omega
          subst this
          exact hF t (nodup_full nd inF (by omega) t t0 (by omega))
    · rintro σ H' ⟨sm, _, hg⟩
      exact hY (fun s t h0 h1 t0 t1 => hg s t h0 (by omega) t0 t1) H' sm
end
end Mp
/-! ## P5 -/
set_option Elab.async false
set_option linter.all false
set_option maxRecDepth 100000
set_option maxHeartbeats 4000000
namespace Mp
open PySem PySem.Spec PyProof.Rows L2
/-! ### Web -/
def webF (m : Int) (b c : Addr) : List (Str × V) := putF "_ways" (.ref c) (putF "ways" (.ref b) (putF "many" (.int m) []))
theorem ne_mw : ¬ ("many" : Str) = "ways" := by decide +kernel
theorem ne_mu : ¬ ("many" : Str) = "_ways" := by decide +kernel
theorem ne_wu : ¬ ("ways" : Str) = "_ways" := by decide +kernel
theorem webF_many (m : Int) (b c : Addr) : (webF m b c).lookup ("many" : Str) = some (.int m) := by
  unfold webF
  rw [lookup_putF, if_neg ne_mu, lookup_putF, if_neg ne_mw, lookup_putF, if_pos rfl]
theorem webF_ways (m : Int) (b c : Addr) : (webF m b c).lookup ("ways" : Str) = some (.ref b) := by
  unfold webF
  rw [lookup_putF, if_neg ne_wu, lookup_putF, if_pos rfl]
theorem webF_own (m : Int) (b c : Addr) : (webF m b c).lookup ("_ways" : Str) = some (.ref c) := by
  unfold webF
  rw [lookup_putF, if_pos rfl]
theorem webF_no (m : Int) (b c : Addr) {x : Str} (h1 : ¬ x = "many") (h2 : ¬ x = "ways") (h3 : ¬ x = "_ways") : (webF m b c).lookup x = none := by
  unfold webF
  rw [lookup_putF, if_neg h3, lookup_putF, if_neg h2, lookup_putF, if_neg h1]
  rfl
def WebAt (C : Addr) (H : Hp) (p : Addr) (m : Int) (ts : List Addr) (ws : List Way) : Prop :=
  ∃ dx b c, H p = some (.ins C dx (webF m b c)) ∧ H b = some (.lst (ts.map V.ref)) ∧ H c = some (.tup (ts.map V.ref)) ∧ Tups H ts ws
/-- a web that was just made: its own list and tuple are new -/
def WebNew (C : Addr) (H H' : Hp) (p : Addr) (m : Int) (ts : List Addr) (ws : List Way) : Prop :=
  ∃ dx b c, H' p = some (.ins C dx (webF m b c)) ∧ H' b = some (.lst (ts.map V.ref)) ∧ H' c = some (.tup (ts.map V.ref)) ∧ Tups H' ts ws ∧ H b = none ∧ H c = none
theorem WebNew.at {C : Addr} {H H' : Hp} {p : Addr} {m : Int} {ts : List Addr} {ws : List Way} (W : WebNew C H H' p m ts ws) : WebAt C H' p m ts ws := by
  obtain ⟨dx, b, c, h1, h2, h3, h4, _, _⟩ := W
  exact ⟨dx, b, c, h1, h2, h3, h4⟩
structure WebT (K : PySem.W.Frag) (mg : Str → Option Value) (C : Addr) : Prop where
  cl : Cls K C
  nM : NoAttr K C "many"
  nW : NoAttr K C "ways"
  nU : NoAttr K C "_ways"
  mgC : mg "Web" = some (.ref C)
def spWeb (C CB CM CD CA : Addr) : Sp := fun vs H Q E => ∃ (p dx a : Addr) (m : Int) (ts : List Addr) (ws : List Way), vs = [.ref p, .int m, .ref a] ∧ H p = some (.ins C dx []) ∧ WList H a ts ws ∧
  (¬ (1 ≤ m ∧ m ≤ 12 ∧ ws.length ≤ 60) → E (.ref CB) none H) ∧
  (1 ≤ m ∧ m ≤ 12 ∧ ws.length ≤ 60 → (¬ ∀ w ∈ ws, EndsOk m w) → E (.ref CM) none H) ∧
  (1 ≤ m ∧ m ≤ 12 ∧ ws.length ≤ 60 → (∀ w ∈ ws, EndsOk m w) → (¬ ∀ w ∈ ws, DelayOk w) → E (.ref CD) none H) ∧
  (1 ≤ m ∧ m ≤ 12 ∧ ws.length ≤ 60 → (∀ w ∈ ws, EndsOk m w) → (∀ w ∈ ws, DelayOk w) → ¬ Piece m ws → ∀ H', Same H H' → E (.ref CA) none H') ∧
  (1 ≤ m ∧ m ≤ 12 ∧ ws.length ≤ 60 → (∀ w ∈ ws, EndsOk m w) → (∀ w ∈ ws, DelayOk w) → Piece m ws → ∀ H', (∀ b o, H b = some o → b ≠ p → H' b = some o) → WebNew C H H' p m ts ws → Q .non H')
section
variable {P : Program} {w : World} {K : PySem.W.Frag} {mg : Str → Option Value} {base : Heap}
theorem scIn : FnScope ["self", "many", "ways"] ["self", "many", "ways"] (defScope sInit) := ⟨rfl, rfl, rfl, by decide +kernel, rfl, by decide +kernel, by decide +kernel⟩
theorem ok_web {f fB fM fW fA fR C CB CM CD CA : Addr} {fd fdB fdM fdW fdA fdR : FuncData} (F : Fun K "__init__" "Web.__init__" sInit f fd) (W : WebT K mg C) (Z : Names0 mg)
    (FB : Fun K "_refuse_counts" "_refuse_counts" sRefCnt fB fdB) (FM : Fun K "_refuse_meeting" "_refuse_meeting" sRefMeet fM fdM) (FW : Fun K "_refuse_ways" "_refuse_ways" sRefWays fW fdW) (FA : Fun K "_refuse_apart" "_refuse_apart" sRefApart fA fdA) (FR : Fun K "_reached" "_reached" sReached fR fdR)
    (TB : ErrT K mg "BadCount" CB) (TM : ErrT K mg "NoMeeting" CM) (TD : ErrT K mg "BadDelay" CD) (TA : ErrT K mg "Apart" CA)
    (gB : mg "_refuse_counts" = some (.ref fB)) (gM : mg "_refuse_meeting" = some (.ref fM)) (gW : mg "_refuse_ways" = some (.ref fW)) (gA : mg "_refuse_apart" = some (.ref fA)) (gR : mg "_reached" = some (.ref fR))
    (bB : Binds K fdB ["many", "ways"] []) (bM : Binds K fdM ["many", "meeting"] []) (bW : Binds K fdW ["many", "ways"] []) (bA : Binds K fdA ["many", "ways"] []) (bR : Binds K fdR ["ways", "start"] [])
    {t1 t2 t3 : Tok} (g1 : mg "MOST_MEETINGS" = some (.int 12 t1)) (g2 : mg "MOST_WAYS" = some (.int 60 t2)) (g3 : mg "MOST_DELAY" = some (.int 9999 t3)) :
    FnOk P w K mg base (L2N.CX P w) 3 f fd ["self", "many", "ways"] (spWeb C CB CM CD CA) := by
  have GB : FnOk P w K mg base (L2N.CX P w) 1 fB fdB ["many", "ways"] (spRefCnt CB) := ok_refcnt FB TB Z g1 g2
  have GW : FnOk P w K mg base (L2N.CX P w) 2 fW fdW ["many", "ways"] (spRefWays CM CD) := ok_refways FW FM TM TD gM bM g3
  have GA : FnOk P w K mg base (L2N.CX P w) 2 fA fdA ["many", "ways"] (spRefApart CA) := ok_refapart FA FR TA Z gR bR
  refine Fun.okN F scIn (fun vs H Q E h => ?_) (fun cdv A outer s H vs Q E hr h => ?_)
  · obtain ⟨p, dx, a, m, ts, ws, rfl, _⟩ := h
    rfl
  · obtain ⟨p, dx, a, m, ts, ws, rfl, hp, ⟨ha, hT⟩, h1, h2, h3, h4, h5⟩ := h
    have hr1 : Room 1 _ := hr.mono (by decide)
    have hr2 : Room 2 _ := hr
    refine ⟨_, pss_cons (ps_expr (pe_call GB hr1 rfl gB FB.kp bB .nil (L2N.passes_call (L2N.takes_of rfl rfl rfl rfl) fun _ _ _ _ h => h) (pa_cons (pv 1) (pa_cons (pv 2) pa_nil))))
      (pss_cons (ps_expr (pe_call GW hr2 rfl gW FW.kp bW .nil (L2N.passes_call (L2N.takes_of rfl rfl rfl rfl) fun _ _ _ _ h => h) (pa_cons (pv 1) (pa_cons (pv 2) pa_nil))))
      (pss_cons (ps_expr (pe_call GA hr2 rfl gA FA.kp bA .nil (L2N.passes_call (L2N.takes_of rfl rfl rfl rfl) fun _ _ _ _ h => h) (pa_cons (pv 1) (pa_cons (pv 2) pa_nil))))
      (pss_cons (ps_fld (pv 0) (pv 1) rfl)
      (pss_cons (ps_fld (pv 0) (pe_callTy call_list_of (by rfl) Z.list (by decide +kernel) (pa_cons (pv 2) pa_nil)) rfl)
      (pss_one (ps_fld (pv 0) (pe_callTy call_tuple_of (by rfl) Z.tuple (by decide +kernel) (pa_cons (pv 2) pa_nil)) rfl)))))), ?_⟩
    have ln : (ts.map V.ref).length = ws.length := by rw [List.length_map, hT.1]
    refine ⟨_, rfl, _, rfl, m, a, _, rfl, ha, fun cc => ?_, fun cc => h1 (by rw [← ln]; exact cc)⟩
    rw [ln] at cc
    refine ⟨_, rfl, _, rfl, m, a, ts, ws, rfl, ⟨ha, hT⟩, fun n => h2 cc n, fun e n => h3 cc e n, fun e d => ?_⟩
    refine ⟨_, rfl, _, rfl, m, a, ts, ws, rfl, ⟨ha, hT⟩, cc.1, cc.2.1, e, fun n H' sm => h4 cc e d n H' sm, fun pc H' sm => ?_⟩
    have hp' := sm _ _ hp
    have ha' := sm _ _ ha
    have apn : a ≠ p := ne_of ha hp (by intro z; cases z)
    -- self.many = many
    refine ⟨_, rfl, _, rfl, p, C, dx, _, rfl, hp', W.cl, W.nM, (by show 0 < 1000; decide), ?_⟩
    have ha2 : (upd H' p (.ins C dx (putF "many" (.int m) []))) a = some (.lst (ts.map V.ref)) := by rw [upd_ne apn]; exact ha'
    -- self.ways = list(ways)
    refine ⟨_, rfl, a, _, rfl, .inl (SqL.of ha2), fun b nb => ?_⟩
    have pb : p ≠ b := ne_of_none upd_same nb
    have nb' : H' b = none := by rw [upd_ne pb.symm] at nb; exact nb
    have ab : a ≠ b := ne_of_none ha' nb'
    refine ⟨_, rfl, p, C, dx, _, rfl, (by rw [upd_ne pb, upd_same]), W.cl, W.nW, (by show 1 < 1000; decide), ?_⟩
    have ha3 : (upd (upd (upd H' p (.ins C dx (putF "many" (.int m) []))) b (.lst (ts.map V.ref))) p (.ins C dx (putF "ways" (.ref b) (putF "many" (.int m) [])))) a = some (.lst (ts.map V.ref)) := by
      rw [upd_ne apn, upd_ne ab]; exact ha2
    -- self._ways = tuple(ways)
    refine ⟨_, rfl, a, _, rfl, .inl ⟨SqL.of ha3, fun c nc => ?_⟩⟩
    have pc' : p ≠ c := ne_of_none upd_same nc
    have nc1 : (upd (upd H' p (.ins C dx (putF "many" (.int m) []))) b (.lst (ts.map V.ref))) c = none := by rw [upd_ne pc'.symm] at nc; exact nc
    have bc : b ≠ c := ne_of_none upd_same nc1
    have nc' : H' c = none := by rw [upd_ne bc.symm, upd_ne pc'.symm] at nc1; exact nc1
    refine ⟨_, rfl, p, C, dx, _, rfl, (by rw [upd_ne pc', upd_same]), W.cl, W.nU, (by show 2 < 1000; decide), ?_⟩
    have keep : ∀ b' o, H b' = some o → b' ≠ p → (upd (upd (upd (upd (upd H' p (.ins C dx (putF "many" (.int m) []))) b (.lst (ts.map V.ref))) p (.ins C dx (putF "ways" (.ref b) (putF "many" (.int m) [])))) c (.tup (ts.map V.ref))) p (.ins C dx (webF m b c))) b' = some o := fun b' o e n => by
      have e' := sm _ _ e
      rw [upd_ne n, upd_ne (ne_of_none e' nc'), upd_ne n, upd_ne (ne_of_none e' nb'), upd_ne n]
      exact e'
    refine h5 cc e d pc _ keep ⟨dx, b, c, upd_same, ?_, ?_, ⟨hT.1, fun i t v x y => ?_⟩, sm.free nb', sm.free nc'⟩
    · rw [upd_ne pb.symm, upd_ne bc, upd_ne pb.symm, upd_same]
    · rw [upd_ne pc'.symm, upd_same]
    · have q := hT.2 i t v x y
      exact keep _ _ q (ne_of q hp (by intro z; cases z))
end
end Mp
/-! ## L1 -/
set_option Elab.async false
set_option linter.all false
set_option maxRecDepth 100000
set_option maxHeartbeats 4000000
namespace Mp
open PySem PySem.Spec PyProof.Rows L2
section
variable {P : Program} {w : World} {K : PySem.W.Frag} {mg : Str → Option Value} {base : Heap}
/-! ### the law's draws: what they may be, whatever the script is -/
def spCell (K : PySem.W.Frag) : Sp := fun vs H Q _ => ∃ (a : Addr) (k : Int) (ns : List Int), vs = [.ref a, .int k] ∧ SqL K H a (ns.map V.int) ∧ 0 ≤ k ∧ ∀ z : Int, Q (.int z) H
theorem scCe : FnScope ["_law_script", "_law_k"] ["_law_script", "_law_k"] (defScope sCell) := ⟨rfl, rfl, rfl, by decide +kernel, rfl, by decide +kernel, by decide +kernel⟩
theorem ok_cell {f : Addr} {fd : FuncData} (F : Fun K "_law_cell_at" "_law_cell_at" sCell f fd) (Z : Names0 mg) : FnOk P w K mg base CX0 1 f fd ["_law_script", "_law_k"] (spCell K) := by
  refine F.ok scCe (fun vs H Q E h => ?_) (fun cdv A outer s H vs Q E hr h => ?_)
  · obtain ⟨a, k, ns, rfl, _⟩ := h
    rfl
  · obtain ⟨a, k, ns, rfl, hS, h0, hQ⟩ := h
    refine ⟨_, pss_cons (ps_if (pt_cmpR op_lt (pv 1) (pe_callB call_len_seq (by rfl) Z.len PySem.boot_len (pa_cons (pv 0) pa_nil)) (nomark _)) (pss_one (ps_ret (pe_ix ix_list (pv 0) (pv 1) (fun _ _ => rfl)))) pss_nil) (pss_one (ps_ret pe_int)), ?_⟩
    refine ⟨_, rfl, _, rfl, a, _, rfl, .inl hS, _, _, rfl, rfl, _, rfl, ?_⟩
    rw [List.length_map]
    by_cases c : k < (ns.length : Int)
    · rw [decide_eq_true c]
      refine iteT ?_
      obtain ⟨z, hz⟩ : ∃ z, ns[k.toNat]? = some z := ⟨_, List.getElem?_eq_getElem (by omega)⟩
      refine ⟨_, rfl, _, rfl, a, _, k, .int z, rfl, rfl, hS, ?_, hQ z⟩
      have e : k = ((k.toNat : Nat) : Int) := by omega
      rw [e]
      exact atI_nat (by rw [List.getElem?_map, hz]; rfl)
    · rw [decide_eq_false c]
      exact iteF (hQ 0)
def spMixed : Sp := fun vs H Q _ => ∃ c k : Int, vs = [.int c, .int k] ∧ ∀ z : Int, 0 ≤ z → Q (.int z) H
theorem scMi : FnScope ["_law_cell", "_law_k"] ["_law_cell", "_law_k"] (defScope sMixed) := ⟨rfl, rfl, rfl, by decide +kernel, rfl, by decide +kernel, by decide +kernel⟩
theorem ok_mixed {f : Addr} {fd : FuncData} (F : Fun K "_law_mixed" "_law_mixed" sMixed f fd) : FnOk P w K mg base CX0 1 f fd ["_law_cell", "_law_k"] spMixed := by
  refine F.ok scMi (fun vs H Q E h => ?_) (fun cdv A outer s H vs Q E hr h => ?_)
  · obtain ⟨c, k, rfl, _⟩ := h
    rfl
  · obtain ⟨c, k, rfl, hQ⟩ := h
    refine ⟨_, pss_one (ps_ret (pe_op op_mod (pe_op op_mul (pe_op op_add (pe_op op_add (pv 0) (pe_op op_mul pe_int (pv 1))) pe_int) pe_int) pe_int)), ?_⟩
    exact ⟨_, rfl, _, rfl, _, _, rfl, rfl, .inl ⟨by decide, by decide⟩, _, _, rfl, rfl, _, _, rfl, rfl, _, _, rfl, rfl, .inr ⟨by decide, by decide⟩, _, _, rfl, rfl, (by show (0 : Int) < 2147483647; decide), hQ _ (Int.emod_nonneg _ (by decide))⟩
end
end Mp
/-! ## L2 -/
set_option Elab.async false
set_option linter.all false
set_option maxRecDepth 100000
set_option maxHeartbeats 4000000
namespace Mp
open PySem PySem.Spec PyProof.Rows L2 LamX
/-! ### values that are ways -/
def Tup3 (H : Hp) (v : V) : Prop := ∃ (t : Addr) (w : Way), v = .ref t ∧ H t = some (.tup (tv w))
theorem Tup3.same {H H' : Hp} {v : V} (h : Tup3 H v) (s : ∀ b xs, H b = some (.tup xs) → H' b = some (.tup xs)) : Tup3 H' v := by
  obtain ⟨t, w, e, h⟩ := h
  exact ⟨t, w, e, s _ _ h⟩
theorem tups_of {H : Hp} : ∀ {xs : List V}, (∀ v ∈ xs, Tup3 H v) → ∃ ts ws, xs = ts.map V.ref ∧ Tups H ts ws
  | [], _ => ⟨[], [], rfl, rfl, fun i t w h => by cases h⟩
  | v :: r, h => by
    obtain ⟨ts, ws, e, T⟩ := tups_of (xs := r) fun u hu => h u (List.mem_cons_of_mem _ hu)
    obtain ⟨t, w, e1, h1⟩ := h v List.mem_cons_self
    refine ⟨t :: ts, w :: ws, by rw [e1, e]; rfl, by simp [T.1], fun i t' w' h2 h3 => ?_⟩
    cases i with
    | zero =>
      cases h2
      cases h3
      exact h1
    | succ i => exact T.2 i t' w' h2 h3
theorem of_tups {H : Hp} {ts : List Addr} {ws : List Way} (T : Tups H ts ws) : ∀ v ∈ ts.map V.ref, Tup3 H v := fun v hv => by
  obtain ⟨i, hi⟩ := List.getElem?_of_mem hv
  obtain ⟨t, w, e, _, _, _, h⟩ := T.at hi
  exact ⟨t, w, e, h⟩
theorem cut_sub {xs : List V} {lo hi : Option Int} {v : V} (h : v ∈ cutV xs lo hi) : v ∈ xs := by
  unfold cutV at h
  exact List.mem_of_mem_drop (List.mem_of_mem_take h)
theorem cut_len {xs : List V} {i : Int} (h0 : 0 ≤ i) (h1 : i ≤ xs.length) : (cutV xs (some i) none).length + (cutV xs none (some i)).length = xs.length := by
  obtain ⟨k, rfl⟩ : ∃ k : Nat, i = k := ⟨i.toNat, by omega⟩
  unfold cutV
  rw [HT.sIx_nat, HT.sIx_none, HT.sIx_none, HT.sIx_nat]
  simp only [List.length_take, List.length_drop]
  omega
theorem same_new {H H' : Hp} {p : Addr} {o : HO} (s : Same H H') (hp : H' p = none) : Same H (upd H' p o) := fun b u e => by rw [upd_ne (ne_of_none (s b u e) hp)]; exact s b u e
theorem same_put {H H' : Hp} {p : Addr} {o : HO} (s : Same H H') (hp : H p = none) : Same H (upd H' p o) := fun b u e => by rw [upd_ne (ne_of_none e hp)]; exact s b u e
theorem Same.extN {H H' : Hp} (s : Same H H') : ExtN H H' := fun b o e _ => s b o e
theorem ord_at {ord : List Int} {i : Int} {n : Nat} (h : ord.length = n) (h0 : 0 ≤ i) (h1 : i < n) : ∃ v, atI (ord.map V.int) i = some (.int v) := by
  obtain ⟨k, rfl⟩ : ∃ k : Nat, i = k := ⟨i.toNat, by omega⟩
  have hk : k < ord.length := by omega
  exact ⟨ord[k], atI_nat (by rw [List.getElem?_map, List.getElem?_eq_getElem hk]; rfl)⟩
/-- as Fun.ok, where the def's code object is known -/
theorem Fun.okC {P : Program} {w : World} {K : PySem.W.Frag} {mg : Str → Option Value} {base : Heap} {x qual : Str} {st : Stmt} {f c : Addr} {fd : FuncData} {N ps : List Str} {k : Nat} {sp : Sp} (F : Fun K x qual st f fd) (hc : fd.code = .ref c) (S : FnScope N ps (defScope st)) (len : ∀ vs H Q E, sp vs H Q E → vs.length = ps.length)
    (hbody : ∀ (A : Around) (outer : List Env) (s : Shared) (H : Hp) (vs : List V) (Q : VK) (E : XK), Room k (A.deeper (envOfC qual (defScope st) s.heap.objs.size f (.ref c))) → sp vs H Q E →
      ∃ t, PSs (cxOf CX0 P w K mg base N qual (defScope st) f (.ref c) A outer s H E).nox (defBody st) t ∧ t { nx := fun _ H' => Q .non H', rt := Q } (L2.start N vs) H) : FnOk P w K mg base CX0 (k + 1) f fd ps sp := by
  obtain ⟨oc, od, kV, doc, pm, an, cdv, ct, osl, rfl, lk, hcd⟩ := F.ex
  have e : cdv = .ref c := hc
  subst e
  refine fn_of lk hcd S len fun A outer s H vs Q E hr hsp => ?_
  obtain ⟨t, h, q⟩ := hbody A outer s H vs Q E hr hsp
  exact ⟨t, h.nox, q⟩
theorem extN_seq {K : PySem.W.Frag} {H H' : Hp} {a : Addr} {xs : List V} (e : ExtN H H') (h : SqL K H a xs) : SqL K H' a xs := by
  rcases h with (h | ⟨o, h⟩) | h
  · exact .inl (.inl (e _ _ h (by intro ps z; cases z)))
  · exact .inl (.inr ⟨o, e _ _ h (by intro ps z; cases z)⟩)
  · exact .inr h
/-- a new way's tuple, put behind the list at pl -/
theorem grow {Ho H' Hd : Hp} {pl t : Addr} {xs : List V} {w : Way} (s0 : Same Ho H') (npl : Ho pl = none) (hL : H' pl = some (.lst xs)) (hx : ∀ v ∈ xs, Tup3 H' v) (sd : Same H' Hd) (nt : Hd t = none) :
    (upd Hd t (.tup (tv w))) pl = some (.lst xs) ∧ Same Ho (upd (upd Hd t (.tup (tv w))) pl (.lst (xs ++ [.ref t]))) ∧ (upd (upd Hd t (.tup (tv w))) pl (.lst (xs ++ [.ref t]))) pl = some (.lst (xs ++ [.ref t])) ∧
      ∀ v ∈ xs ++ [.ref t], Tup3 (upd (upd Hd t (.tup (tv w))) pl (.lst (xs ++ [.ref t]))) v := by
  have hL' := sd _ _ hL
  have tp : pl ≠ t := ne_of_none hL' nt
  refine ⟨by rw [upd_ne tp]; exact hL', same_put (same_new (s0.trans sd) nt) npl, upd_same, fun v hv => ?_⟩
  rcases List.mem_append.mp hv with h | h
  · refine (hx v h).same fun b ys e => ?_
    have e' := sd _ _ e
    rw [upd_ne (ne_of e' hL' (by intro z; cases z)), upd_ne (ne_of_none e' nt)]
    exact e'
  · have e : v = .ref t := by simpa using h
    exact ⟨t, w, e, by rw [upd_ne tp.symm, upd_same]⟩
def lamQ : Str := ("_law_ways" ++ ".<locals>." : Str) ++ "<lambda>"
structure Names1 (mg : Str → Option Value) : Prop extends Names0 mg where
  sorted : mg "sorted" = none
end Mp
/-! ## M2 -/
set_option linter.all false
set_option maxHeartbeats 2000000
namespace Mp
/-! the ways that the law draws hang together -/
def OrdAt (ord : List Int) (i v : Int) : Prop := ord[i.toNat]? = some v
theorem ord_in {ord : List Int} {n : Nat} (hP : ord.Perm (upto n)) {v : Int} : v ∈ ord ↔ 0 ≤ v ∧ v < n := by
  rw [hP.mem_iff]
  unfold upto
  rw [List.mem_map]
  constructor
  · rintro ⟨k, hk, rfl⟩
    have := List.mem_range.mp hk
    show (0 : Int) ≤ (k : Int) ∧ (k : Int) < n
    omega
  · intro h
    exact ⟨v.toNat, List.mem_range.mpr (by omega), by show ((v.toNat : Nat) : Int) = v; omega⟩
theorem ord_len {ord : List Int} {n : Nat} (hP : ord.Perm (upto n)) : ord.length = n := by rw [hP.length_eq, upto_len]
theorem ord_get {ord : List Int} {n : Nat} (hP : ord.Perm (upto n)) {i : Int} (h0 : 0 ≤ i) (h1 : i < n) : ∃ v, OrdAt ord i v ∧ 0 ≤ v ∧ v < n := by
  have hl := ord_len hP
  have hk : i.toNat < ord.length := by omega
  exact ⟨ord[i.toNat], List.getElem?_eq_getElem hk, (ord_in hP).mp (List.getElem_mem hk)⟩
theorem ord_ix {ord : List Int} {n : Nat} (hP : ord.Perm (upto n)) {v : Int} (h0 : 0 ≤ v) (h1 : v < n) : ∃ i : Int, 0 ≤ i ∧ i < n ∧ OrdAt ord i v := by
  obtain ⟨k, hk, e⟩ := List.getElem_of_mem ((ord_in hP).mpr ⟨h0, h1⟩)
  have hl := ord_len hP
  exact ⟨k, by omega, by omega, by unfold OrdAt; rw [Int.toNat_natCast, List.getElem?_eq_getElem hk, e]⟩
theorem OrdAt.eq {ord : List Int} {i v u : Int} (a : OrdAt ord i v) (b : OrdAt ord i u) : v = u := Option.some.inj (a.symm.trans b)
/-- a ring through all of them -/
def RingTo (m : Int) (ord : List Int) (ws : List Way) (i : Int) : Prop := ∀ j : Int, 0 ≤ j → j < i → ∃ v u d, OrdAt ord j v ∧ OrdAt ord ((j + 1) % m) u ∧ (v, u, d) ∈ ws
/-- two ways for each but the first, from and to one ahead of it -/
def TreeTo (ord : List Int) (ws : List Way) (i : Int) : Prop := ∀ j : Int, 0 < j → j < i → ∃ a b va vb v d d', 0 ≤ a ∧ a < j ∧ 0 ≤ b ∧ b < j ∧ OrdAt ord a va ∧ OrdAt ord b vb ∧ OrdAt ord j v ∧ (va, v, d) ∈ ws ∧ (v, vb, d') ∈ ws
theorem RingTo.sub {m : Int} {ord : List Int} {ws us : List Way} {i : Int} (R : RingTo m ord ws i) (s : ∀ w ∈ ws, w ∈ us) : RingTo m ord us i := fun j h0 h1 => by
  obtain ⟨v, u, d, a, b, c⟩ := R j h0 h1
  exact ⟨v, u, d, a, b, s _ c⟩
theorem TreeTo.sub {ord : List Int} {ws us : List Way} {i : Int} (R : TreeTo ord ws i) (s : ∀ w ∈ ws, w ∈ us) : TreeTo ord us i := fun j h0 h1 => by
  obtain ⟨a, b, va, vb, v, d, d', p1, p2, p3, p4, p5, p6, p7, p8, p9⟩ := R j h0 h1
  exact ⟨a, b, va, vb, v, d, d', p1, p2, p3, p4, p5, p6, p7, s _ p8, s _ p9⟩
theorem RingTo.piece {n : Nat} {ord : List Int} {ws : List Way} (hn : 1 ≤ n) (hP : ord.Perm (upto n)) (R : RingTo n ord ws n) : Piece n ws := by
  have go : ∀ (k : Nat) (i v u : Int), 0 ≤ i → i < n → OrdAt ord i v → OrdAt ord ((i + (k : Int) + 1) % n) u → Go ws v u := by
    intro k
    induction k with
    | zero =>
      intro i v u h0 h1 a b
      obtain ⟨v', u', d, a', b', c⟩ := R i h0 h1
      have e0 : i + ((0 : Nat) : Int) + 1 = i + 1 := by omega
      rw [e0] at b
      rw [a.eq a', b.eq b']
      exact .one c
    | succ k ih =>
      intro i v u h0 h1 a b
      have z0 := Int.emod_nonneg (i + (k : Int) + 1) (show (n : Int) ≠ 0 by omega)
      have z1 := Int.emod_lt_of_pos (i + (k : Int) + 1) (show (0 : Int) < n by omega)
      obtain ⟨x, hx, _⟩ := ord_get hP z0 z1
      obtain ⟨v', u', d, a', b', c⟩ := R _ z0 z1
      have e : ((i + (k : Int) + 1) % n + 1) % n = (i + ((k + 1 : Nat) : Int) + 1) % n := by
        rw [Int.emod_add_emod]
        congr 1
        omega
      rw [e] at b'
      have g := ih i v x h0 h1 a hx
      rw [hx.eq a'] at g
      rw [b.eq b']
      exact .more (w := (v', u', d)) g c
  intro s t s0 s1 t0 t1
  obtain ⟨i, i0, i1, hi⟩ := ord_ix hP s0 s1
  obtain ⟨j, j0, j1, hj⟩ := ord_ix hP t0 t1
  by_cases c : i < j
  · refine go (j - i - 1).toNat i s t i0 i1 hi ?_
    have e : i + (((j - i - 1).toNat : Nat) : Int) + 1 = j := by omega
    rw [e, Int.emod_eq_of_lt j0 j1]
    exact hj
  · refine go ((n : Int) + j - i - 1).toNat i s t i0 i1 hi ?_
    have e : i + ((((n : Int) + j - i - 1).toNat : Nat) : Int) + 1 = j + n := by omega
    rw [e, Int.add_emod_right, Int.emod_eq_of_lt j0 j1]
    exact hj
theorem Star.trans {ws : List Way} {a b c : Int} (g : Star ws a b) (k : Star ws b c) : Star ws a c := by
  rcases g with e | g
  · subst e; exact k
  · rcases k with e | k
    · subst e; exact .inr g
    · exact .inr (g.trans k)
theorem TreeTo.piece {n : Nat} {ord : List Int} {ws : List Way} (hn : 2 ≤ n) (hP : ord.Perm (upto n)) (R : TreeTo ord ws n) : Piece n ws := by
  obtain ⟨r, hr, r0, r1⟩ := ord_get hP (i := 0) (by omega) (by omega)
  have key : ∀ (k : Nat), (k : Int) < n → ∀ v, OrdAt ord k v → Star ws r v ∧ Star ws v r := by
    intro k
    induction k using Nat.strongRecOn with
    | _ k ih =>
      intro hk v hv
      by_cases k0 : k = 0
      · subst k0
        have e := hr.eq hv
        subst e
        exact ⟨.inl rfl, .inl rfl⟩
      · obtain ⟨a, b, va, vb, v', d, d', a0, a1, b0, b1, ha, hb, hv', h1, h2⟩ := R k (by omega) hk
        have e := hv.eq hv'
        subst e
        have ea : ((a.toNat : Nat) : Int) = a := by omega
        have eb : ((b.toNat : Nat) : Int) = b := by omega
        have ga := ih a.toNat (by omega) (by omega) va (by rw [ea]; exact ha)
        have gb := ih b.toNat (by omega) (by omega) vb (by rw [eb]; exact hb)
        exact ⟨ga.1.step h1, (Star.trans (.inr (.one h2)) gb.2)⟩
  have all : ∀ x : Int, 0 ≤ x → x < n → Star ws r x ∧ Star ws x r := fun x h0 h1 => by
    obtain ⟨i, i0, i1, hi⟩ := ord_ix hP h0 h1
    have e : ((i.toNat : Nat) : Int) = i := by omega
    exact key i.toNat (by omega) x (by rw [e]; exact hi)
  have any : ∀ x y : Int, 0 ≤ x → x < n → 0 ≤ y → y < n → Star ws x y := fun x y h0 h1 h2 h3 => (all x h0 h1).2.trans (all y h2 h3).1
  intro s t s0 s1 t0 t1
  by_cases e : s = t
  · subst e
    obtain ⟨u, u0, u1, une⟩ : ∃ u : Int, 0 ≤ u ∧ u < n ∧ u ≠ s := by
      by_cases z : s = 0
      · exact ⟨1, by omega, by omega, by omega⟩
      · exact ⟨0, by omega, by omega, fun q => z q.symm⟩
    rcases any s u s0 s1 u0 u1 with q | g
    · exact absurd q.symm une
    · rcases any u s u0 u1 s0 s1 with q | k
      · exact absurd q une
      · exact g.trans k
  · rcases any s t s0 s1 t0 t1 with q | g
    · exact absurd q e
    · exact g
theorem Go.sub {ws us : List Way} {a b : Int} (s : ∀ w ∈ ws, w ∈ us) (g : Go ws a b) : Go us a b := by
  induction g with
  | one h => exact .one (s _ h)
  | more _ h ih => exact .more ih (s _ h)
theorem Piece.sub {m : Int} {ws us : List Way} (p : Piece m ws) (s : ∀ w ∈ ws, w ∈ us) : Piece m us := fun a b h0 h1 h2 h3 => (p a b h0 h1 h2 h3).sub s
/-- a web that the document takes, and of no more than 40 ways -/
structure WebOk (m : Int) (ws : List Way) : Prop where
  ends : ∀ w ∈ ws, EndsOk m w
  delays : ∀ w ∈ ws, DelayOk w
  piece : Piece m ws
theorem WebOk.perm {m : Int} {ws us : List Way} (h : WebOk m ws) (s : ∀ w, w ∈ ws ↔ w ∈ us) : WebOk m us := ⟨fun w hw => h.ends w ((s w).mpr hw), fun w hw => h.delays w ((s w).mpr hw), h.piece.sub fun w hw => (s w).mp hw⟩
end Mp
/-! ## WaysB -/
set_option Elab.async false
set_option linter.all false
set_option maxRecDepth 100000
set_option maxHeartbeats 4000000
namespace Mp
open PySem PySem.Spec PyProof.Rows L2 LamX
/-! ### the ways that the law draws: a web of one piece -/
theorem Tups.snoc {H : Hp} {ts : List Addr} {ws : List Way} {t : Addr} {w : Way} (T : Tups H ts ws) (h : H t = some (.tup (tv w))) : Tups H (ts ++ [t]) (ws ++ [w]) := by
  refine ⟨by simp [T.1], fun i t' w' h1 h2 => ?_⟩
  by_cases c : i < ts.length
  · rw [List.getElem?_append_left c] at h1
    rw [List.getElem?_append_left (by have := T.1; omega)] at h2
    exact T.2 i t' w' h1 h2
  · have hl := T.1
    rw [List.getElem?_append_right (by omega)] at h1
    rw [List.getElem?_append_right (by omega)] at h2
    have e : i - ts.length = 0 := by
      have := (List.getElem?_eq_some_iff.mp h1).1
      simp at this
      omega
    rw [e] at h1
    rw [show i - ws.length = 0 by omega] at h2
    cases h1
    cases h2
    exact h
theorem growW {Ho H' Hd : Hp} {pl t : Addr} {ts : List Addr} {ws : List Way} {w : Way} (s0 : Same Ho H') (npl : Ho pl = none) (hL : H' pl = some (.lst (ts.map V.ref))) (hx : Tups H' ts ws) (sd : Same H' Hd) (nt : Hd t = none) :
    (upd Hd t (.tup (tv w))) pl = some (.lst (ts.map V.ref)) ∧ Same Ho (upd (upd Hd t (.tup (tv w))) pl (.lst (ts.map V.ref ++ [.ref t]))) ∧ (upd (upd Hd t (.tup (tv w))) pl (.lst (ts.map V.ref ++ [.ref t]))) pl = some (.lst ((ts ++ [t]).map V.ref)) ∧
      Tups (upd (upd Hd t (.tup (tv w))) pl (.lst (ts.map V.ref ++ [.ref t]))) (ts ++ [t]) (ws ++ [w]) := by
  have hL' := sd _ _ hL
  have tp : pl ≠ t := ne_of_none hL' nt
  refine ⟨by rw [upd_ne tp]; exact hL', same_put (same_new (s0.trans sd) nt) npl, by rw [upd_same, List.map_append]; rfl, Tups.snoc (hx.same fun b ys e => ?_) (by rw [upd_ne tp.symm, upd_same])⟩
  have e' := sd _ _ e
  rw [upd_ne (ne_of e' hL' (by intro z; cases z)), upd_ne (ne_of_none e' nt)]
  exact e'
/-- what the ways drawn so far are -/
structure Drawn (m : Int) (ws : List Way) : Prop where
  ends : ∀ w ∈ ws, EndsOk m w
  delays : ∀ w ∈ ws, DelayOk w
theorem Drawn.nil {m : Int} : Drawn m [] := ⟨nofun, nofun⟩
theorem Drawn.snoc {m : Int} {ws : List Way} {w : Way} (D : Drawn m ws) (e : EndsOk m w) (d : DelayOk w) : Drawn m (ws ++ [w]) :=
  ⟨fun v hv => by
    rcases List.mem_append.mp hv with h | h
    · exact D.ends v h
    · have q : v = w := by simpa using h
      rw [q]; exact e, fun v hv => by
    rcases List.mem_append.mp hv with h | h
    · exact D.delays v h
    · have q : v = w := by simpa using h
      rw [q]; exact d⟩
theorem in_left {ws : List Way} {us : List Way} : ∀ w ∈ ws, w ∈ ws ++ us := fun w h => List.mem_append_left _ h
theorem in_last {ws : List Way} {w : Way} : w ∈ ws ++ [w] := List.mem_append_right _ List.mem_cons_self
theorem RingTo.snoc {m : Int} {ord : List Int} {ws : List Way} {i v u d : Int} (R : RingTo m ord ws i) (a : OrdAt ord i v) (b : OrdAt ord ((i + 1) % m) u) : RingTo m ord (ws ++ [(v, u, d)]) (i + 1) := fun j h0 h1 => by
  by_cases c : j < i
  · exact R.sub in_left j h0 c
  · have e : j = i := by omega
    rw [e]
    exact ⟨v, u, d, a, b, in_last⟩
theorem TreeTo.snoc {ord : List Int} {ws : List Way} {i a b va v vb d d' : Int} (R : TreeTo ord ws i) (a0 : 0 ≤ a) (a1 : a < i) (b0 : 0 ≤ b) (b1 : b < i) (ha : OrdAt ord a va) (hb : OrdAt ord b vb) (hv : OrdAt ord i v) : TreeTo ord ((ws ++ [(va, v, d)]) ++ [(v, vb, d')]) (i + 1) := fun j h0 h1 => by
  by_cases c : j < i
  · exact (R.sub in_left).sub in_left j h0 c
  · have e : j = i := by omega
    rw [e]
    exact ⟨a, b, va, vb, v, d, d', a0, a1, b0, b1, ha, hb, hv, in_left _ in_last, in_last⟩
theorem cut_map {ts : List Addr} {i : Int} (h0 : 0 ≤ i) (h1 : i ≤ ts.length) : cutV (ts.map V.ref) (some i) none ++ cutV (ts.map V.ref) none (some i) = (ts.drop i.toNat ++ ts.take i.toNat).map V.ref := by
  obtain ⟨k, rfl⟩ : ∃ k : Nat, i = k := ⟨i.toNat, by omega⟩
  have hk : k ≤ ts.length := by omega
  unfold cutV
  rw [HT.sIx_nat, HT.sIx_none, HT.sIx_none, HT.sIx_nat, Int.toNat_natCast, List.length_map, List.map_append, List.map_drop, List.map_take]
  have e1 : min k ts.length = k := by omega
  first
  | (rw [e1, Nat.sub_zero, List.drop_zero, List.take_of_length_le (by rw [List.length_drop, List.length_map]; omega)])
  | (simp [e1, List.take_of_length_le])
/-- a list turned -/
theorem Tups.turn {H : Hp} {ts : List Addr} {ws : List Way} (T : Tups H ts ws) (k : Nat) : Tups H (ts.drop k ++ ts.take k) (ws.drop k ++ ws.take k) := by
  have hl := T.1
  refine ⟨by simp only [List.length_append, List.length_drop, List.length_take]; omega, fun i t w h1 h2 => ?_⟩
  by_cases c : i < ts.length - k
  · rw [List.getElem?_append_left (by rw [List.length_drop]; omega), List.getElem?_drop] at h1
    rw [List.getElem?_append_left (by rw [List.length_drop]; omega), List.getElem?_drop] at h2
    exact T.2 _ t w h1 h2
  · rw [List.getElem?_append_right (by rw [List.length_drop]; omega), List.length_drop] at h1
    rw [List.getElem?_append_right (by rw [List.length_drop]; omega), List.length_drop, ← hl] at h2
    have z := (List.getElem?_eq_some_iff.mp h1).1
    rw [List.length_take] at z
    rw [List.getElem?_take_of_lt (by omega)] at h1
    rw [List.getElem?_take_of_lt (by omega)] at h2
    exact T.2 _ t w h1 h2
theorem mem_turn {ws : List Way} {k : Nat} {w : Way} : w ∈ ws ↔ w ∈ ws.drop k ++ ws.take k := by
  have e : ws = ws.take k ++ ws.drop k := (List.take_append_drop k ws).symm
  constructor
  · intro h
    rw [e] at h
    rcases List.mem_append.mp h with h | h
    · exact List.mem_append_right _ h
    · exact List.mem_append_left _ h
  · intro h
    rcases List.mem_append.mp h with h | h
    · exact List.mem_of_mem_drop h
    · exact List.mem_of_mem_take h
end Mp
/-! ## WaysN -/
set_option Elab.async false
set_option linter.all false
set_option maxRecDepth 100000
set_option maxHeartbeats 4000000
namespace Mp
open PySem PySem.Spec PyProof.Rows L2 LamX
/-- what the ways drawn so far are, their delays bounded -/
structure DrawnB (m : Int) (ws : List Way) : Prop where
  ends : ∀ w ∈ ws, EndsOk m w
  delays : ∀ w ∈ ws, 0 ≤ w.2.2 ∧ w.2.2 ≤ 1999
theorem DrawnB.nil {m : Int} : DrawnB m [] := ⟨nofun, nofun⟩
theorem DrawnB.snoc {m : Int} {ws : List Way} {w : Way} (D : DrawnB m ws) (e : EndsOk m w) (d : 0 ≤ w.2.2 ∧ w.2.2 ≤ 1999) : DrawnB m (ws ++ [w]) :=
  ⟨fun v hv => (List.mem_append.mp hv).elim (D.ends v) fun h => by rw [List.mem_singleton.mp h]; exact e, fun v hv => (List.mem_append.mp hv).elim (D.delays v) fun h => by rw [List.mem_singleton.mp h]; exact d⟩
theorem DrawnB.ok {m : Int} {ws : List Way} (D : DrawnB m ws) : ∀ w ∈ ws, DelayOk w := fun w hw => ⟨(D.delays w hw).1, by have := (D.delays w hw).2; omega⟩
section
variable {P : Program} {w : World} {K : PySem.W.Frag} {mg : Str → Option Value} {base : Heap}
def spDelayB : Sp := fun vs H Q _ => ∃ n : Int, vs = [.int n] ∧ ∀ (d : Int) (H' : Hp), 0 ≤ d → d ≤ 1999 → Same H H' → Q (.int d) H'
theorem scDlB : FnScope ["_law_number"] ["_law_number"] (defScope sDelay) := ⟨rfl, rfl, rfl, by decide +kernel, rfl, by decide +kernel, by decide +kernel⟩
theorem ok_delayB {f : Addr} {fd : FuncData} (F : Fun K "_law_delay_by" "_law_delay_by" sDelay f fd) : FnOk P w K mg base CX0 1 f fd ["_law_number"] spDelayB := by
  refine F.ok scDlB (fun vs H Q E h => ?_) (fun cdv A outer s H vs Q E hr h => ?_)
  · obtain ⟨n, rfl, _⟩ := h
    rfl
  · obtain ⟨n, rfl, hQ⟩ := h
    refine ⟨_, pss_one (ps_ret (pe_ix ix_list (pe_lst (pa_cons (pe_op op_mod (pe_op op_fdiv (pv 0) pe_int) pe_int) (pa_cons (pe_op op_mod (pe_op op_fdiv (pv 0) pe_int) pe_int) (pa_cons (pe_op op_mod (pe_op op_fdiv (pv 0) pe_int) pe_int) pa_nil)))) (pe_op op_mod (pv 0) pe_int) (fun _ _ => rfl))), ?_⟩
    refine ⟨_, rfl, _, _, rfl, rfl, ⟨by decide, by decide⟩, _, _, rfl, rfl, (by show (0 : Int) < 5; decide), _, rfl, _, _, rfl, rfl, ⟨by decide, by decide⟩, _, _, rfl, rfl, (by show (0 : Int) < 100; decide), _, rfl, _, _, rfl, rfl, ⟨by decide, by decide⟩, _, _, rfl, rfl, (by show (0 : Int) < 2000; decide), (by show 3 ≤ sizeLine; decide), fun p hp => ?_⟩
    refine ⟨_, rfl, _, _, rfl, rfl, (by show (0 : Int) < 3; decide), p, [.int (n / 3 % 5), .int (n / 3 % 100), .int (n / 3 % 2000)], n % 3, ?_⟩
    have sm : Same H (upd H p (.lst [.int (n / 3 % 5), .int (n / 3 % 100), .int (n / 3 % 2000)])) := fun b o e => by rw [upd_ne (ne_of_none e hp)]; exact e
    have c3 : n % 3 = ((0 : Nat) : Int) ∨ n % 3 = ((1 : Nat) : Int) ∨ n % 3 = ((2 : Nat) : Int) := by omega
    rcases c3 with e | e | e
    · exact ⟨_, rfl, rfl, SqL.of upd_same, (by rw [e]; exact atI_nat rfl), hQ _ _ (by omega) (by omega) sm⟩
    · exact ⟨_, rfl, rfl, SqL.of upd_same, (by rw [e]; exact atI_nat rfl), hQ _ _ (by omega) (by omega) sm⟩
    · exact ⟨_, rfl, rfl, SqL.of upd_same, (by rw [e]; exact atI_nat rfl), hQ _ _ (by omega) (by omega) sm⟩
end
section
variable {P : Program} {w : World} {K : PySem.W.Frag} {mg : Str → Option Value} {base : Heap}
def spWaysN (K : PySem.W.Frag) (T : List (Addr × Str)) : Sp := fun vs H Q _ => ∃ (a : Addr) (ns : List Int) (m : Int), vs = [.ref a, .int m] ∧ SqL K H a (ns.map V.int) ∧ 1 ≤ m ∧ m ≤ 12 ∧ Tabs T H ∧
  ∀ (p : Addr) (ts : List Addr) (ws : List Way) (H' : Hp), ExtN H H' → Tabs T H' → WList H' p ts ws → WebOk m ws → (∀ w ∈ ws, w.2.2 ≤ 1999) → 1 ≤ ws.length → ws.length ≤ 40 → Q (.ref p) H'
theorem scWa : FnScope ["_law_script", "_law_many", "_law_order", "_law_ways_here", "_law_k", "_law_number", "_law_cell"] ["_law_script", "_law_many"] (defScope sWays) := ⟨rfl, rfl, rfl, by decide +kernel, rfl, by decide +kernel, by decide +kernel⟩
theorem ok_waysN {f fC fX fD c TP : Addr} {fd fdC fdX fdD : FuncData} (F : Fun K "_law_ways" "_law_ways" sWays f fd) (hc : fd.code = .ref c) (TB : TabB base mg c TP) (FC : Fun K "_law_cell_at" "_law_cell_at" sCell fC fdC) (FX : Fun K "_law_mixed" "_law_mixed" sMixed fX fdX) (FD : Fun K "_law_delay_by" "_law_delay_by" sDelay fD fdD) (Z : Names1 mg)
    (gC : mg "_law_cell_at" = some (.ref fC)) (gX : mg "_law_mixed" = some (.ref fX)) (gD : mg "_law_delay_by" = some (.ref fD)) (bC : Binds K fdC ["_law_script", "_law_k"] []) (bX : Binds K fdX ["_law_cell", "_law_k"] []) (bD : Binds K fdD ["_law_number"] []) :
    FnOk P w K mg base CX0 2 f fd ["_law_script", "_law_many"] (spWaysN K [(TP, lamQ)]) := by
  have GC : FnOk P w K mg base CX0 1 fC fdC ["_law_script", "_law_k"] (spCell K) := ok_cell FC Z.toNames0
  have GX : FnOk P w K mg base CX0 1 fX fdX ["_law_cell", "_law_k"] spMixed := ok_mixed FX
  have GD : FnOk P w K mg base CX0 1 fD fdD ["_law_number"] spDelayB := ok_delayB FD
  refine Fun.okC F hc scWa (fun vs H Q E h => ?_) (fun A outer s H vs Q E hr h => ?_)
  · obtain ⟨a, ns, m, rfl, _⟩ := h
    rfl
  · obtain ⟨a, ns, m, rfl, hS, m1, m12, hT, hQ⟩ := h
    refine ⟨_, pss_cons (ps_set (i := 6) scWa.nd rfl (.inr rfl) (pe_call GC hr rfl gC FC.kp bC .nil pass0 (pa_cons (pv 0) (pa_cons pe_int pa_nil))))
      (pss_cons (ps_set (i := 2) scWa.nd rfl (.inl rfl) (pe_sortedLam (T := [(TP, lamQ)]) (ic := 6) rfl rfl Z.sorted rfl Z.range TB rfl (by exact List.mem_singleton.mpr rfl) (fun p hp _ => by rw [List.mem_singleton.mp hp]; rfl) hr (pv 1) rfl rfl rfl (by decide +kernel) rfl rfl rfl rfl rfl (by decide +kernel) (by decide +kernel) (by decide +kernel) (by decide +kernel) (fun _ _ _ _ _ _ => rfl)))
      (pss_cons (ps_set (i := 3) scWa.nd rfl (.inl rfl) (pe_lst pa_nil))
      (pss_cons (ps_for PassesOwn.never rfl (pi_range1 rfl Z.range (pa_cons (pv 1) pa_nil)) (pg_name (i := 4) scWa.nd rfl (.inl rfl))
        (pss_cons (ps_set (i := 5) scWa.nd rfl (.inl rfl) (pe_call GX hr rfl gX FX.kp bX .nil pass0 (pa_cons (pe_call GC hr rfl gC FC.kp bC .nil pass0 (pa_cons (pv 0) (pa_cons pe_int pa_nil))) (pa_cons (pv 4) pa_nil))))
        (pss_one (ps_if (PW.pt (pw_or (pt_cmpR op_eq (pv 1) pe_int (nomark _)) (pw_or1 (pt_cmpR op_eq (pe_op op_mod (pe_op op_fdiv (pv 6) pe_int) pe_int) pe_int (nomark _)))))
          (pss_one (ps_expr (pe_bm PySem.F.plainAttrs_list PySem.F.slot_list_append PySem.F.type_list_append mt_append (pv 3) (pa_cons (pe_tup (pa_cons (pe_ix ix_list (pv 2) (pv 4) (fun _ _ => rfl)) (pa_cons (pe_ix ix_list (pv 2) (pe_op op_mod (pe_op op_add (pv 4) pe_int) (pv 1)) (fun _ _ => rfl))
            (pa_cons (pe_call GD hr rfl gD FD.kp bD .nil pass0 (pa_cons (pv 5) pa_nil)) pa_nil)))) pa_nil))))
          (pss_one (ps_if (pt_cmpR op_gt (pv 4) pe_int (nomark _))
            (pss_cons (ps_expr (pe_bm PySem.F.plainAttrs_list PySem.F.slot_list_append PySem.F.type_list_append mt_append (pv 3) (pa_cons (pe_tup (pa_cons (pe_ix ix_list (pv 2) (pe_op op_mod (pe_op op_fdiv (pv 5) pe_int) (pv 4)) (fun _ _ => rfl)) (pa_cons (pe_ix ix_list (pv 2) (pv 4) (fun _ _ => rfl))
              (pa_cons (pe_call GD hr rfl gD FD.kp bD .nil pass0 (pa_cons (pe_op op_fdiv (pv 5) pe_int) pa_nil)) pa_nil)))) pa_nil)))
            (pss_one (ps_expr (pe_bm PySem.F.plainAttrs_list PySem.F.slot_list_append PySem.F.type_list_append mt_append (pv 3) (pa_cons (pe_tup (pa_cons (pe_ix ix_list (pv 2) (pv 4) (fun _ _ => rfl)) (pa_cons (pe_ix ix_list (pv 2) (pe_op op_mod (pe_op op_fdiv (pv 5) pe_int) (pv 4)) (fun _ _ => rfl))
              (pa_cons (pe_call GD hr rfl gD FD.kp bD .nil pass0 (pa_cons (pe_op op_fdiv (pv 5) pe_int) pa_nil)) pa_nil)))) pa_nil)))))
            pss_nil))))))
      (pss_cons (ps_for PassesOwn.never rfl (pi_range1 rfl Z.range (pa_cons (pe_op op_mod (pe_op op_fdiv (pv 6) pe_int) pe_int) pa_nil)) (pg_name (i := 4) scWa.nd rfl (.inl rfl))
        (pss_cons (ps_set (i := 5) scWa.nd rfl (.inl rfl) (pe_call GX hr rfl gX FX.kp bX .nil pass0 (pa_cons (pe_call GC hr rfl gC FC.kp bC .nil pass0 (pa_cons (pv 0) (pa_cons (pe_op op_add pe_int (pe_op op_mod (pv 4) pe_int)) pa_nil))) (pa_cons (pv 4) pa_nil))))
        (pss_one (ps_expr (pe_bm PySem.F.plainAttrs_list PySem.F.slot_list_append PySem.F.type_list_append mt_append (pv 3) (pa_cons (pe_tup (pa_cons (pe_op op_mod (pv 5) (pv 1)) (pa_cons (pe_op op_mod (pe_op op_fdiv (pv 5) pe_int) (pv 1))
              (pa_cons (pe_call GD hr rfl gD FD.kp bD .nil pass0 (pa_cons (pe_op op_fdiv (pv 5) pe_int) pa_nil)) pa_nil)))) pa_nil))))))
      (pss_one (ps_ret (pv 3))))))), ?_⟩
    -- _law_cell, _law_order, _law_ways_here
    refine ⟨_, rfl, a, 1, ns, rfl, hS, (by decide), fun z => ?_⟩
    refine ⟨_, rfl, m, rfl, fun r nr => ⟨r, m, z, rfl, upd_same, by omega, by omega, hT.ext (fun b o e => by rw [upd_ne (ne_of_none e nr)]; exact e), rfl, fun H2 po ord eN T2 hP npo => ?_⟩⟩
    refine ⟨Nat.zero_le _, fun pl npl => ?_⟩
    obtain ⟨Ho, hHo⟩ : ∃ Ho, Ho = upd H2 po (.lst (ord.map V.int)) := ⟨_, rfl⟩
    rw [← hHo] at npl ⊢
    have hO : Ho po = some (.lst (ord.map V.int)) := by rw [hHo]; exact upd_same
    have s2o : Same H2 Ho := by rw [hHo]; exact same_new (Same.refl _) npo
    have eHo : ExtN H Ho := (Same.extN (same_new (Same.refl _) nr)).trans (eN.trans (Same.extN s2o))
    have lenO : ord.length = m.toNat := by rw [hP.length_eq, upto_len]
    have T0 : Tabs [(TP, lamQ)] Ho := T2.ext s2o
    have seqA : ∀ {H' : Hp}, Same Ho H' → SqL K H' a (ns.map V.int) := fun s => extN_seq (eHo.trans (Same.extN s)) hS
    have em : ((m.toNat : Nat) : Int) = m := by omega
    have at_ : ∀ i : Int, 0 ≤ i → i < m → ∃ v, atI (ord.map V.int) i = some (.int v) ∧ OrdAt ord i v ∧ 0 ≤ v ∧ v < m := fun i h0 h1 => by
      obtain ⟨v, a, b, c⟩ := ord_get hP h0 (by rw [em]; exact h1)
      refine ⟨v, ?_, a, b, by rw [em] at c; exact c⟩
      have e : i = ((i.toNat : Nat) : Int) := by omega
      rw [e]
      exact atI_nat (by rw [List.getElem?_map, a]; rfl)
    have m0 : m ≠ 0 := by omega
    have mp : (0 : Int) < m := by omega
    -- the first loop
    refine ⟨_, rfl, m, rfl, by omega, by omega, for_range (lo := 0) (n := m.toNat) (fun i σ H' => ∃ (ts : List Addr) (ws : List Way) (y u : Option V), σ = [some (.ref a), some (.int m), some (.ref po), some (.ref pl), y, u, some (.int z)] ∧ Same Ho H' ∧ H' pl = some (.lst (ts.map V.ref)) ∧ Tups H' ts ws ∧ DrawnB m ws ∧
        (if m = 1 ∨ z / 12 % 2 = 0 then ws.length = i ∧ RingTo m ord ws i else ws.length = 2 * i - 2 ∧ TreeTo ord ws i)) ⟨[], [], _, _, rfl, same_new (Same.refl _) npl, upd_same, ⟨rfl, fun i t w h => by cases h⟩, DrawnB.nil, ?_⟩ ?_ ?_⟩
    · split
      · exact ⟨rfl, fun j h0 h1 => by omega⟩
      · exact ⟨rfl, fun j h0 h1 => by omega⟩
    · rintro i σ H' hi ⟨ts, ws, y, u, rfl, sH, hL, hx, hD, hlen⟩
      have hO' := sH _ _ hO
      have e0 : (0 : Int) + (i : Int) = i := by omega
      have lts := hx.1
      refine ⟨_, rfl, a, 2, ns, rfl, seqA sH, (by decide), fun z1 => ⟨_, rfl, _, _, rfl, fun q q0 => ?_⟩⟩
      refine ⟨_, rfl, rfl, _, rfl, ?_⟩
      have small : (ts.map V.ref).length < sizeLine := small1000 (by rw [List.length_map]; split at hlen <;> omega)
      by_cases ring : m = 1 ∨ z / 12 % 2 = 0
      · rw [if_pos ring] at hlen
        obtain ⟨v1, a1, o1, b1, c1⟩ := at_ i (by omega) (by omega)
        obtain ⟨v2, a2, o2, b2, c2⟩ := at_ ((i + 1) % m) (Int.emod_nonneg _ m0) (Int.emod_lt_of_pos _ mp)
        have fin : ∀ d : Int, 0 ≤ d → d ≤ 1999 → DrawnB m (ws ++ [(v1, v2, d)]) ∧ (if m = 1 ∨ z / 12 % 2 = 0 then (ws ++ [(v1, v2, d)]).length = i + 1 ∧ RingTo m ord (ws ++ [(v1, v2, d)]) ((i + 1 : Nat) : Int) else (ws ++ [(v1, v2, d)]).length = 2 * (i + 1) - 2 ∧ TreeTo ord (ws ++ [(v1, v2, d)]) ((i + 1 : Nat) : Int)) := fun d d0 d1 => by
          refine ⟨hD.snoc ⟨⟨b1, c1⟩, b2, c2⟩ ⟨d0, d1⟩, ?_⟩
          rw [if_pos ring]
          exact ⟨by rw [List.length_append, hlen.1]; rfl, hlen.2.snoc o1 o2⟩
        by_cases hm : m = 1
        · rw [decide_eq_true (by rw [hm])]
          refine iteT (iteT ?_)
          refine ⟨_, rfl, .inl ⟨rfl, _, SqL.of hL⟩, _, rfl, _, rfl, po, _, _, .int v1, rfl, rfl, SqL.of hO', (by rw [e0]; exact a1), _, rfl, _, rfl, _, _, rfl, rfl, _, rfl, _, _, rfl, rfl, mp, po, _, _, .int v2, rfl, rfl, SqL.of hO', (by rw [e0]; exact a2), ?_⟩
          refine ⟨_, rfl, _, rfl, fun d Hd d0 d1 sd => ⟨(by show 3 ≤ sizeLine; decide), fun t nt => ?_⟩⟩
          obtain ⟨g1, g2, g3, g4⟩ := growW (w := (v1, v2, d)) sH npl hL hx sd nt
          exact ⟨pl, _, _, rfl, rfl, g1, small, _, _, _, _, rfl, g2, g3, g4, fin d d0 d1⟩
        · have hz : z / 12 % 2 = 0 := ring.resolve_left hm
          rw [decide_eq_false (fun e => hm (V.int.inj e))]
          refine iteF ⟨_, rfl, _, _, rfl, rfl, ⟨by decide, by decide⟩, _, _, rfl, rfl, (by show (0 : Int) < 2; decide), rfl, _, rfl, ?_⟩
          rw [decide_eq_true (show V.int (z / 12 % 2) = V.int 0 by rw [hz])]
          refine iteT ?_
          refine ⟨_, rfl, .inl ⟨rfl, _, SqL.of hL⟩, _, rfl, _, rfl, po, _, _, .int v1, rfl, rfl, SqL.of hO', (by rw [e0]; exact a1), _, rfl, _, rfl, _, _, rfl, rfl, _, rfl, _, _, rfl, rfl, mp, po, _, _, .int v2, rfl, rfl, SqL.of hO', (by rw [e0]; exact a2), ?_⟩
          refine ⟨_, rfl, _, rfl, fun d Hd d0 d1 sd => ⟨(by show 3 ≤ sizeLine; decide), fun t nt => ?_⟩⟩
          obtain ⟨g1, g2, g3, g4⟩ := growW (w := (v1, v2, d)) sH npl hL hx sd nt
          exact ⟨pl, _, _, rfl, rfl, g1, small, _, _, _, _, rfl, g2, g3, g4, fin d d0 d1⟩
      · rw [if_neg ring] at hlen
        have hm : ¬ m = 1 := fun e => ring (.inl e)
        have hz : ¬ z / 12 % 2 = 0 := fun e => ring (.inr e)
        rw [decide_eq_false (fun e => hm (V.int.inj e))]
        refine iteF ⟨_, rfl, _, _, rfl, rfl, ⟨by decide, by decide⟩, _, _, rfl, rfl, (by show (0 : Int) < 2; decide), rfl, _, rfl, ?_⟩
        rw [decide_eq_false (fun e => hz (V.int.inj e))]
        refine iteF ⟨_, rfl, _, _, rfl, rfl, _, rfl, ?_⟩
        by_cases hi0 : 0 < i
        · rw [decide_eq_true (by omega)]
          refine iteT ?_
          have k0 := Int.emod_nonneg (q / 7) (show (i : Int) ≠ 0 by omega)
          have k1 := Int.emod_lt_of_pos (q / 7) (show (0 : Int) < i by omega)
          have j0 := Int.emod_nonneg (q / 512) (show (i : Int) ≠ 0 by omega)
          have j1 := Int.emod_lt_of_pos (q / 512) (show (0 : Int) < i by omega)
          obtain ⟨v1, a1, o1, b1, c1⟩ := at_ (q / 7 % i) k0 (by omega)
          obtain ⟨v2, a2, o2, b2, c2⟩ := at_ i (by omega) (by omega)
          obtain ⟨v3, a3, o3, b3, c3⟩ := at_ (q / 512 % i) j0 (by omega)
          refine ⟨_, rfl, .inl ⟨rfl, _, SqL.of hL⟩, _, rfl, _, rfl, _, _, rfl, rfl, ⟨by decide, by decide⟩, _, rfl, _, _, rfl, rfl, (by show (0 : Int) < 0 + i; omega), po, _, _, .int v1, rfl, rfl, SqL.of hO', (by rw [e0]; exact a1), _, rfl, _, rfl, po, _, _, .int v2, rfl, rfl, SqL.of hO', (by rw [e0]; exact a2), ?_⟩
          refine ⟨_, rfl, _, _, rfl, rfl, ⟨by decide, by decide⟩, _, rfl, fun d Hd d0 d1 sd => ⟨(by show 3 ≤ sizeLine; decide), fun t nt => ?_⟩⟩
          obtain ⟨g1, g2, g3, g4⟩ := growW (w := (v1, v2, d)) sH npl hL hx sd nt
          refine ⟨pl, _, _, rfl, rfl, g1, small, ?_⟩
          have hO2 := g2 _ _ hO
          refine ⟨_, rfl, .inl ⟨rfl, _, SqL.of g3⟩, _, rfl, _, rfl, po, _, _, .int v2, rfl, rfl, SqL.of hO2, (by rw [e0]; exact a2), _, rfl, _, rfl, _, _, rfl, rfl, ⟨by decide, by decide⟩, _, rfl, _, _, rfl, rfl, (by show (0 : Int) < 0 + i; omega), po, _, _, .int v3, rfl, rfl, SqL.of hO2, (by rw [e0]; exact a3), ?_⟩
          refine ⟨_, rfl, _, _, rfl, rfl, ⟨by decide, by decide⟩, _, rfl, fun d' Hd' d0' d1' sd' => ⟨(by show 3 ≤ sizeLine; decide), fun t' nt' => ?_⟩⟩
          obtain ⟨k1', k2', k3', k4'⟩ := growW (w := (v2, v3, d')) g2 npl g3 g4 sd' nt'
          refine ⟨pl, _, _, rfl, rfl, k1', (by rw [List.length_map, List.length_append]; exact small1000 (by show ts.length + 1 ≤ 1000; omega)), _, _, _, _, rfl, k2', k3', k4', (hD.snoc ⟨⟨b1, c1⟩, b2, c2⟩ ⟨d0, d1⟩).snoc ⟨⟨b2, c2⟩, b3, c3⟩ ⟨d0', d1'⟩, ?_⟩
          rw [if_neg ring]
          exact ⟨by rw [List.length_append, List.length_append, hlen.1]; show 2 * i - 2 + 1 + 1 = _; omega, hlen.2.snoc k0 k1 j0 j1 o1 o3 o2⟩
        · rw [decide_eq_false (by omega)]
          refine iteF ⟨ts, ws, _, _, rfl, sH, hL, hx, hD, ?_⟩
          rw [if_neg ring]
          exact ⟨by omega, fun j h0 h1 => by omega⟩
    · rintro σ H1 ⟨ts0, ws0, y0, u0, rfl, s1, hL1, hx1, hD1, hlen1⟩
      have l1 : 1 ≤ ws0.length := by split at hlen1 <;> omega
      have l2 : ws0.length ≤ 22 := by split at hlen1 <;> omega
      have pc : Piece m ws0 := by
        by_cases ring : m = 1 ∨ z / 12 % 2 = 0
        · rw [if_pos ring, ← em] at hlen1
          have r := RingTo.piece (by omega) hP hlen1.2
          rw [em] at r
          exact r
        · rw [if_neg ring, ← em] at hlen1
          have r := TreeTo.piece (by omega) hP hlen1.2
          rw [em] at r
          exact r
      -- the second loop
      have b13 := Int.emod_lt_of_pos (z / 24) (show (0 : Int) < 8 by decide)
      have b0 := Int.emod_nonneg (z / 24) (show (8 : Int) ≠ 0 by decide)
      refine ⟨_, rfl, _, _, rfl, rfl, ⟨by decide, by decide⟩, _, _, rfl, rfl, (by show (0 : Int) < 8; decide), z / 24 % 8, rfl, by omega, by omega, for_range (lo := 0) (n := (z / 24 % 8).toNat) (fun i σ H' => ∃ (ts : List Addr) (ws : List Way) (y u : Option V), σ = [some (.ref a), some (.int m), some (.ref po), some (.ref pl), y, u, some (.int z)] ∧ Same Ho H' ∧ H' pl = some (.lst (ts.map V.ref)) ∧ Tups H' ts ws ∧ DrawnB m ws ∧ Piece m ws ∧
        1 ≤ ws.length ∧ ws.length ≤ 22 + i) ⟨ts0, ws0, _, _, rfl, s1, hL1, hx1, hD1, pc, l1, l2⟩ ?_ ?_⟩
      · rintro i σ H' hi ⟨ts, ws, y, u, rfl, sH, hL, hx, hD, hp, k1, k2⟩
        have lts := hx.1
        refine ⟨_, rfl, _, rfl, _, _, rfl, rfl, (by show (0 : Int) < 6; decide), _, _, rfl, rfl, a, _, ns, rfl, seqA sH, (by have := Int.emod_nonneg ((0 : Int) + i) (show (6 : Int) ≠ 0 by decide); omega), fun z1 => ⟨_, rfl, _, _, rfl, fun q q0 => ?_⟩⟩
        refine ⟨_, rfl, .inl ⟨rfl, _, SqL.of hL⟩, _, rfl, _, rfl, _, _, rfl, rfl, mp, _, rfl, _, _, rfl, rfl, ⟨by decide, by decide⟩, _, rfl, _, _, rfl, rfl, mp, ?_⟩
        refine ⟨_, rfl, _, _, rfl, rfl, ⟨by decide, by decide⟩, _, rfl, fun d Hd d0 d1 sd => ⟨(by show 3 ≤ sizeLine; decide), fun t nt => ?_⟩⟩
        obtain ⟨g1, g2, g3, g4⟩ := growW (w := (q % m, q / 16 % m, d)) sH npl hL hx sd nt
        exact ⟨pl, _, _, rfl, rfl, g1, small1000 (by rw [List.length_map]; omega), _, _, _, _, rfl, g2, g3, g4, hD.snoc ⟨⟨Int.emod_nonneg _ m0, Int.emod_lt_of_pos _ mp⟩, Int.emod_nonneg _ m0, Int.emod_lt_of_pos _ mp⟩ ⟨d0, d1⟩, hp.sub in_left, by rw [List.length_append]; omega, by rw [List.length_append]; show ws.length + 1 ≤ _; omega⟩
      · rintro σ H' ⟨ts, ws, y, u, rfl, sH, hL, hx, hD, hp, k1, k2⟩
        have lts := hx.1
        exact ⟨_, rfl, hQ pl ts ws H' (eHo.trans (Same.extN sH)) (T0.ext sH) ⟨hL, hx⟩ ⟨hD.ends, hD.ok, hp⟩ (fun w hw => (hD.delays w hw).2) k1 (by omega)⟩
end
end Mp
/-! ## Gen7 -/
set_option Elab.async false
set_option linter.all false
set_option maxRecDepth 100000
set_option maxHeartbeats 2000000
namespace Mp
open PySem PySem.Spec PyProof.Rows L2
/-! ### max(ints, default=d) -/
theorem args_maxD (a v : Value) : argsOk "max" ⟨[a], [(Str.ofString "default", v)]⟩ := by unfold argsOk; kernel_rfl
section
variable {prog : Program} {w : World} {A : Around} {R : Result → Shared → Prop} {I : Addr} {fp wr : List Addr} {n : Nat} {P : Nat → Value → Prop} {St : Nat → Heap → Prop} {d : Value}
/-- the best so far stands twice in the list at S, behind j + 1 turns -/
theorem maxD_loop (W : Walks prog w A.in1 I fp wr n P St) (bt : Nat → Nat → Bool) (hcmp : CmpOf prog w A.in1 .Gt P bt) (S : Addr) (hSf : S ∉ fp) :
    ∀ (left j : Nat) (s : Shared) (best : Value) (c : Nat), j + 1 + left = n → St (j + 1) s.heap → P (argBest bt j) best →
    s.heap.get? S = some { cls := .type "list", dict := none, data := .seq #[best, best] c, slots := #[] } →
    (∀ v h' tk, P (argBest bt (n - 1)) v → (∀ b o, b ∉ wr → b ≠ S → s.heap.get? b = some o → h'.get? b = some o) → R (.ok (.ret v)) { s with heap := h', toks := tk }) →
    codeAny (model prog w) A (.builtin "max.loop" ⟨[.ref I, .none, .ref S], [(Str.ofString "default", d)]⟩) R s := by
  have nw : S ∉ wr := fun h => hSf (W.sub _ h)
  have nm : (toString "max" ++ toString ".loop" : String) = "max.loop" := by decide
  intro left
  induction left with
  | zero =>
    intro j s best c hk hst hb hS hR
    have hin : j + 1 = n := by omega
    refine codeAny_builtin F.entry_max_loop ?_
    rw [Around.under_plainId F.plain_max_loop _]
    show wpAny _ A.in1 (seqItems? (.ref S) >>= _) _ _ s
    refine wpAny_bind (wpAny_seqItems hS rfl ?_)
    show wpAny _ A.in1 (tryCatch (pyNext (.ref I)) _ >>= _) _ _ s
    refine wpAny_bind (wpAny_tryCatch (W.done s _ _ (hin ▸ hst) fun h' tk keep => ?_))
    show wpAny _ A.in1 (updateSeq S (fun _ => #[]) >>= _) _ _ _
    refine wpAny_bind (wpAny_updateSeq (keep S _ nw hS) rfl (wpAny_bind (wpAny_letGo (wpAny_pure ?_))))
    exact hR best _ tk (by rw [← hin]; exact hb) fun b o h1 h2 e => (Heap.get?_update_other _ _ (Ne.symm h2)).trans (keep b o h1 e)
  | succ left ih =>
    intro j s best c hk hst hb hS hR
    refine codeAny_builtin F.entry_max_loop ?_
    rw [Around.under_plainId F.plain_max_loop _]
    show wpAny _ A.in1 (seqItems? (.ref S) >>= _) _ _ s
    refine wpAny_bind (wpAny_seqItems hS rfl ?_)
    show wpAny _ A.in1 (tryCatch (pyNext (.ref I)) _ >>= _) _ _ s
    refine wpAny_bind (wpAny_tryCatch (W.item (j + 1) s _ _ (by omega) hst fun v h' tk hv hst' keep => ?_))
    have hS' := keep S _ nw hS
    show wpAny _ A.in1 (tryCatch (holding [v, v] (richCompare .Gt v best >>= _)) _ >>= _) _ _ _
    refine wpAny_bind (wpAny_tryCatch (wpAny_holding (wpAny_bind (hcmp (j + 1) (argBest bt j) v best _ _ _ hv hb ?_))))
    refine wpAny_bind (wpAny_holding (wpAny_truthy_bool (wpAny_bind (wpAny_letGo (wpAny_pure ?_)))))
    cases e : bt (j + 1) (argBest bt j) with
    | true =>
      simp only [if_true]
      refine wpAny_bind (wpAny_updateSeq hS' rfl (wpAny_bind (wpAny_letGo ?_)))
      rw [nm]
      refine wpAny_pure ⟨plainId_quiet F.plain_max_loop _, ih (j + 1) _ v _ (by omega) (W.frame _ _ _ hst' fun b hbf o q => (Heap.get?_update_other _ _ (fun h : S = b => hSf (by rw [h]; exact hbf))).trans q) (by simp only [argBest, e, if_true]; exact hv)
        (Heap.get?_update_self _ hS' rfl) fun v' h2 tk2 hP' keep2 => hR v' h2 tk2 hP' fun b o h1 h2 q => keep2 b o h1 h2 ((Heap.get?_update_other _ _ (Ne.symm h2)).trans (keep b o h1 q))⟩
    | false =>
      simp only [Bool.false_eq_true, if_false]
      refine wpAny_bind (wpAny_letGo ?_)
      rw [nm]
      exact wpAny_pure ⟨plainId_quiet F.plain_max_loop _, ih (j + 1) _ best c (by omega) hst' (by simp only [argBest, e, Bool.false_eq_true, if_false]; exact hb) hS' fun v' h2 tk2 hP' keep2 => hR v' h2 tk2 hP' fun b o h1 h2 q => keep2 b o h1 h2 (keep b o h1 q)⟩
/-- from the start; where there is nothing, d is told -/
theorem maxD_start (W : Walks prog w A.in1 I fp wr n P St) (bt : Nat → Nat → Bool) (hcmp : CmpOf prog w A.in1 .Gt P bt) (S : Addr) (hSf : S ∉ fp) {s : Shared} {c : Nat} (hst : St 0 s.heap)
    (hS : s.heap.get? S = some { cls := .type "list", dict := none, data := .seq #[] c, slots := #[] })
    (h0 : n = 0 → ∀ h' tk, (∀ b o, b ∉ wr → b ≠ S → s.heap.get? b = some o → h'.get? b = some o) → R (.ok (.ret d)) { s with heap := h', toks := tk })
    (hR : 0 < n → ∀ v h' tk, P (argBest bt (n - 1)) v → (∀ b o, b ∉ wr → b ≠ S → s.heap.get? b = some o → h'.get? b = some o) → R (.ok (.ret v)) { s with heap := h', toks := tk }) :
    codeAny (model prog w) A (.builtin "max.loop" ⟨[.ref I, .none, .ref S], [(Str.ofString "default", d)]⟩) R s := by
  have nw : S ∉ wr := fun h => hSf (W.sub _ h)
  have nm : (toString "max" ++ toString ".loop" : String) = "max.loop" := by decide
  refine codeAny_builtin F.entry_max_loop ?_
  rw [Around.under_plainId F.plain_max_loop _]
  show wpAny _ A.in1 (seqItems? (.ref S) >>= _) _ _ s
  refine wpAny_bind (wpAny_seqItems hS rfl ?_)
  show wpAny _ A.in1 (tryCatch (pyNext (.ref I)) _ >>= _) _ _ s
  by_cases hn : n = 0
  · refine wpAny_bind (wpAny_tryCatch (W.done s _ _ (by rw [hn]; exact hst) fun h' tk keep => ?_))
    show wpAny _ A.in1 (rule _ >>= _) _ _ _
    refine wpAny_bind (wpAny_rule (wpAny_pure ?_))
    exact h0 hn h' tk fun b o h1 _ e => keep b o h1 e
  · refine wpAny_bind (wpAny_tryCatch (W.item 0 s _ _ (by omega) hst fun v h' tk hv hst' keep => ?_))
    have hS' := keep S _ nw hS
    show wpAny _ A.in1 (updateSeq S (fun _ => #[v, v]) >>= _) _ _ _
    refine wpAny_bind (wpAny_updateSeq hS' rfl ?_)
    rw [nm]
    exact wpAny_pure ⟨plainId_quiet F.plain_max_loop _, maxD_loop W bt hcmp S hSf (n - 1) 0 _ v _ (by omega) (W.frame _ _ _ hst' fun b hbf o e => (Heap.get?_update_other _ _ (fun h : S = b => hSf (by rw [h]; exact hbf))).trans e) hv (Heap.get?_update_self _ hS' rfl)
      fun v' h2 tk2 hP' keep2 => hR (by omega) v' h2 tk2 hP' fun b o h1 h2 e => keep2 b o h1 h2 ((Heap.get?_update_other _ _ (Ne.symm h2)).trans (keep b o h1 e))⟩
end
section
variable {prog : Program} {w : World} {A : Around} {E : Value → Shared → Prop} {s : Shared} {l : Addr} {its : List Value} {ns : List Int} {Q : Value → Shared → Prop} {d : Value}
theorem maxD_raw (hh : A.handled = none) (hl : s.heap.IsList l its.toArray) (hi : IntsAre its ns)
    (h0 : ns = [] → ∀ h' tk, (∀ b o, s.heap.get? b = some o → h'.get? b = some o) → Q d { s with heap := h', toks := tk })
    (h : ∀ h' tk M t', (∀ b o, s.heap.get? b = some o → h'.get? b = some o) → M ∈ ns → (∀ a, a ∈ ns → a ≤ M) → Q (.int M t') { s with heap := h', toks := tk }) :
    wpAny (model prog w) A (call (.builtin "max") [.ref l] [(Str.ofString "default", d)]) Q E s := by
  obtain ⟨xs, e⟩ := hi.allInts.items
  have hn : numsOf (intItems xs).toList = ns := by rw [← e]; exact hi.numsOf
  rw [nums_intItems] at hn
  subst hn
  rw [e] at hl
  have nm : (toString "max" ++ toString ".loop" : String) = "max.loop" := by decide
  refine kmk_tree F.kind_max F.plain_max F.entry_max (args_maxD _ _) ?_
  show wpAny _ A.in1 (Builtin.Builtins.bindParams "max" ["key", "default"] 0 ⟨[], [(Str.ofString "default", d)]⟩ >>= _) _ _ s
  refine wpAny_bind (wpAny_of_eq (show Builtin.Builtins.bindParams "max" ["key", "default"] 0 ⟨[], [(Str.ofString "default", d)]⟩ = pure [none, some d] from rfl) ?_)
  refine wpAny_bind (wpAny_pure ?_)
  refine wpAny_bind (iter_intList hl fun s₂ e2 st hfp hlI => ?_)
  subst e2
  refine wpAny_bind (wpAny_newObj_type ?_)
  have nS : (s.heap.push { cls := .type "list_iterator", data := .fields #[.ref l, .int 0 0] }).objs.size ∉ [s.heap.objs.size, l] := fun hm => Nat.lt_irrefl _ (hfp _ hm)
  rw [nm]
  have old : ∀ {h' : Heap}, (∀ b o, b ∉ [s.heap.objs.size] → b ≠ (s.heap.push { cls := .type "list_iterator", data := .fields #[.ref l, .int 0 0] }).objs.size → (((s.heap.push { cls := .type "list_iterator", data := .fields #[.ref l, .int 0 0] }).push { cls := .type "list", dict := none, data := .seq #[] 0, slots := #[] }).get? b = some o → h'.get? b = some o)) →
      ∀ b o, s.heap.get? b = some o → h'.get? b = some o := fun {h'} k b o q => by
    have lt := Heap.lt_size q
    refine k b o (fun hm => ?_) (fun z => ?_) (Heap.get?_push_of_some _ (Heap.get?_push_of_some _ q))
    · rw [List.mem_singleton.mp hm] at lt
      exact Nat.lt_irrefl _ lt
    · rw [z, Heap.size_push] at lt
      exact Nat.lt_irrefl _ (Nat.lt_of_succ_lt lt)
  refine wpAny_pure ⟨plainId_quiet F.plain_max_loop _, maxD_start (Walks.list (A := A.in1) hh _ l hlI (intItems xs)) (fun i j => decide (numAt xs i > numAt xs j)) (CmpOf.ints_gt (numAt xs) (fun _ _ => intItems_at)) _ nS ?_ (Heap.get?_push_size _ rfl) (fun hz h' tk k => ?_) (fun hp v h' tk hv k => ?_)⟩
  · obtain ⟨o, g, c, dd⟩ := st.1
    exact ⟨⟨o, Heap.get?_push_of_some _ g, c, dd⟩, st.2.push _⟩
  · refine h0 ?_ h' tk (old k)
    have z : xs.size = 0 := by simpa [intItems] using hz
    rw [List.map_eq_nil_iff, ← List.length_eq_zero_iff, Array.length_toList]
    exact z
  · have hp' : 0 < xs.size := by simpa [intItems] using hp
    have hv' : (intItems xs)[argBest (fun i j => decide (numAt xs i > numAt xs j)) (xs.size - 1)]? = some v := by simpa [intItems] using hv
    obtain ⟨t, rfl⟩ := intItems_at hv'
    obtain ⟨h1, h2⟩ := argBest_gt (numAt xs) (xs.size - 1)
    refine h h' tk _ t (old k) ?_ fun a ha => ?_
    · rw [numAt_eq]; exact PySem.getD_mem (by rw [List.length_map, Array.length_toList]; omega)
    · obtain ⟨j, hj, rfl⟩ := mem_getD ha
      rw [List.length_map, Array.length_toList] at hj
      rw [← numAt_eq]; exact h2 j (by omega)
end
/-- max(xs, default=d) of a list of ints -/
def rMaxDef (K : PySem.W.Frag) : List V → List V → Hp → VK → Prop := fun vs zs H Q => ∃ (a : Addr) (ns : List Int) (x : V), vs = [V.ref a] ∧ zs = [x] ∧ SqL K H a (ns.map V.int) ∧ (ns = [] → Q x H) ∧ ∀ m, m ∈ ns → (∀ y, y ∈ ns → y ≤ m) → Q (.int m) H
theorem crk_maxD {X : Cx} (hc : X.calm = true) : CallRK X (.builtin "max") [Str.ofString "default"] (rMaxDef X.K) := by
  intro pins s σ H vs zs us ws Q I r rz h
  obtain ⟨a, ns, x, rfl, rfl, hs, q0, q⟩ := h
  obtain ⟨its, rv, hl, _⟩ := I.list hs
  rw [Vals.ref1 r]
  cases rz with
  | cons rx rr =>
    cases rr
    exact maxD_raw (I.ok.hd hc) hl.isList rv.ints (fun e h' tk hk => ⟨x, H, I.kept hk, rx, q0 e⟩) fun h' tk m t' hk h1 h2 => ⟨.int _, H, I.kept hk, ⟨_, rfl⟩, q m h1 h2⟩
end Mp
/-! ## P6 -/
set_option Elab.async false
set_option linter.all false
set_option maxRecDepth 100000
set_option maxHeartbeats 4000000
namespace Mp
open PySem PySem.Spec PyProof.Rows L2
/-! ### what a web's methods read -/
/-- of the web at p: its own tuple of ways at c, its list at b -/
structure WebIs (C : Addr) (H : Hp) (p : Addr) (m : Int) (ts : List Addr) (ws : List Way) (dx b c : Addr) : Prop where
  o : H p = some (.ins C dx (webF m b c))
  l : H b = some (.lst (ts.map V.ref))
  t : H c = some (.tup (ts.map V.ref))
  T : Tups H ts ws
theorem WebAt.is {C : Addr} {H : Hp} {p : Addr} {m : Int} {ts : List Addr} {ws : List Way} (W : WebAt C H p m ts ws) : ∃ dx b c, WebIs C H p m ts ws dx b c := by
  obtain ⟨dx, b, c, h1, h2, h3, h4⟩ := W
  exact ⟨dx, b, c, h1, h2, h3, h4⟩
theorem WebIs.at {C : Addr} {H : Hp} {p : Addr} {m : Int} {ts : List Addr} {ws : List Way} {dx b c : Addr} (W : WebIs C H p m ts ws dx b c) : WebAt C H p m ts ws := ⟨dx, b, c, W.o, W.l, W.t, W.T⟩
theorem WebIs.same {C : Addr} {H H' : Hp} {p : Addr} {m : Int} {ts : List Addr} {ws : List Way} {dx b c : Addr} (W : WebIs C H p m ts ws dx b c) (s : Same H H') : WebIs C H' p m ts ws dx b c := ⟨s _ _ W.o, s _ _ W.l, s _ _ W.t, W.T.same (same_tups s)⟩
theorem WebAt.same {C : Addr} {H H' : Hp} {p : Addr} {m : Int} {ts : List Addr} {ws : List Way} (W : WebAt C H p m ts ws) (s : Same H H') : WebAt C H' p m ts ws := by
  obtain ⟨dx, b, c, w⟩ := W.is
  exact (w.same s).at
/-- pairs of whole numbers -/
def Pairs2 (H : Hp) (ps : List Addr) (qs : List (Int × Int)) : Prop := ps.length = qs.length ∧ ∀ (i : Nat) (t : Addr) (q : Int × Int), ps[i]? = some t → qs[i]? = some q → H t = some (.tup [.int q.1, .int q.2])
theorem Pairs2.same {H H' : Hp} {ps : List Addr} {qs : List (Int × Int)} (P : Pairs2 H ps qs) (s : ∀ b xs, H b = some (.tup xs) → H' b = some (.tup xs)) : Pairs2 H' ps qs := ⟨P.1, fun i t q h1 h2 => s _ _ (P.2 i t q h1 h2)⟩
theorem Pairs2.snoc {H : Hp} {ps : List Addr} {qs : List (Int × Int)} {t : Addr} {q : Int × Int} (P : Pairs2 H ps qs) (h : H t = some (.tup [.int q.1, .int q.2])) : Pairs2 H (ps ++ [t]) (qs ++ [q]) := by
  refine ⟨by simp [P.1], fun i t' q' h1 h2 => ?_⟩
  have hl := P.1
  by_cases c : i < ps.length
  · rw [List.getElem?_append_left c] at h1
    rw [List.getElem?_append_left (by omega)] at h2
    exact P.2 i t' q' h1 h2
  · rw [List.getElem?_append_right (by omega)] at h1
    rw [List.getElem?_append_right (by omega)] at h2
    have e : i - ps.length = 0 := by
      have := (List.getElem?_eq_some_iff.mp h1).1
      simp at this
      omega
    rw [e] at h1
    rw [show i - qs.length = 0 by omega] at h2
    cases h1
    cases h2
    exact h
theorem Pairs2.at {H : Hp} {ps : List Addr} {qs : List (Int × Int)} (P : Pairs2 H ps qs) {i : Nat} {x : V} (h : (ps.map V.ref)[i]? = some x) : ∃ t q, x = .ref t ∧ qs[i]? = some q ∧ H t = some (.tup [.int q.1, .int q.2]) := by
  rw [List.getElem?_map] at h
  cases e : ps[i]? with
  | none => rw [e] at h; cases h
  | some t =>
    rw [e] at h
    have hi := (List.getElem?_eq_some_iff.mp e).1
    have hl : i < qs.length := by have := P.1; omega
    obtain ⟨q, hq⟩ : ∃ q, qs[i]? = some q := ⟨_, List.getElem?_eq_getElem hl⟩
    exact ⟨t, q, (Option.some.inj h).symm, hq, P.2 i t q e hq⟩
/-- the pairs (from, delay) of the ways that lead to x -/
def intoW (ws : List Way) (x : Int) : List (Int × Int) := (ws.filter fun w => decide (w.2.1 = x)).map fun w => (w.1, w.2.2)
theorem intoW_next {ws : List Way} {x : Int} {i : Nat} {w : Way} (h : ws[i]? = some w) : intoW (ws.take (i + 1)) x = intoW (ws.take i) x ++ (if w.2.1 = x then [(w.1, w.2.2)] else []) := by
  rw [List.take_add_one, h]
  unfold intoW
  rw [List.filter_append, List.map_append]
  congr 1
  by_cases c : w.2.1 = x <;> simp [c]
theorem intoW_len (ws : List Way) (x : Int) : (intoW ws x).length ≤ ws.length := by
  unfold intoW
  rw [List.length_map]
  exact List.length_filter_le _ _
/-- the delays of the ways from one to x -/
def fromW (qs : List (Int × Int)) (one : Int) : List Int := (qs.filter fun q => decide (q.1 = one)).map fun q => q.2
theorem fromW_next {qs : List (Int × Int)} {x : Int} {i : Nat} {q : Int × Int} (h : qs[i]? = some q) : fromW (qs.take (i + 1)) x = fromW (qs.take i) x ++ (if q.1 = x then [q.2] else []) := by
  rw [List.take_add_one, h]
  unfold fromW
  rw [List.filter_append, List.map_append]
  congr 1
  by_cases c : q.1 = x <;> simp [c]
/-- the names that the methods find -/
structure NamesM (mg : Str → Option Value) : Prop extends Names0 mg where
  max : mg "max" = none
section
variable {P : Program} {w : World} {K : PySem.W.Frag} {mg : Str → Option Value} {base : Heap}
/-! ### into -/
def spInto (C CM : Addr) : Sp := fun vs H Q E => ∃ (p : Addr) (x m : Int) (ts : List Addr) (ws : List Way), vs = [.ref p, .int x] ∧ WebAt C H p m ts ws ∧ ws.length ≤ 100 ∧ (¬ (0 ≤ x ∧ x < m) → E (.ref CM) none H) ∧
  (0 ≤ x ∧ x < m → ∀ (D : Addr) (ps : List Addr) (H' : Hp), Same H H' → H D = none → H' D = some (.lst (ps.map V.ref)) → Pairs2 H' ps (intoW ws x) → Q (.ref D) H')
theorem scIo : FnScope ["self", "meeting", "one", "other", "delay"] ["self", "meeting"] (defScope sInto) := ⟨rfl, rfl, rfl, by decide +kernel, rfl, by decide +kernel, by decide +kernel⟩
theorem ok_into {f fM C CM : Addr} {fd fdM : FuncData} (F : Fun K "into" "Web.into" sInto f fd) (FM : Fun K "_refuse_meeting" "_refuse_meeting" sRefMeet fM fdM) (W : WebT K mg C) (TM : ErrT K mg "NoMeeting" CM)
    (gM : mg "_refuse_meeting" = some (.ref fM)) (bM : Binds K fdM ["many", "meeting"] []) : FnOk P w K mg base (L2N.CX P w) 2 f fd ["self", "meeting"] (spInto C CM) := by
  have GM : FnOk P w K mg base (L2N.CX P w) 1 fM fdM ["many", "meeting"] (spRefMeet CM) := ok_refmeet FM TM
  refine Fun.okN F scIo (fun vs H Q E h => ?_) (fun cdv A outer s H vs Q E hr h => ?_)
  · obtain ⟨p, x, m, ts, ws, rfl, _⟩ := h
    rfl
  · obtain ⟨p, x, m, ts, ws, rfl, hW, hl, hN, hY⟩ := h
    obtain ⟨dx, b, c, w0⟩ := hW.is
    have hr1 : Room 1 _ := hr
    refine ⟨_, pss_cons (ps_expr (pe_call GM hr1 rfl gM FM.kp bM .nil (L2N.passes_call (L2N.takes_of rfl rfl rfl rfl) fun _ _ _ _ h => h) (pa_cons (pe_fld (pv 0) rfl) (pa_cons (pv 1) pa_nil))))
      (pss_one (ps_ret (pe_lc (own := [("one", 2), ("other", 3), ("delay", 4)]) (g := gTup K 3 (gCons (gName 2) (gCons (gName 3) (gCons (gName 4) gNil)))) rfl scIo.nd (pi_tup (pe_fld (pv 0) rfl))
        (blkOk_by (own := [("one", 2), ("other", 3), ("delay", 4)]) (N := ["self", "meeting", "one", "other", "delay"]) (sc := defScope sInto) (by decide +kernel))
        (by intro s1 H1 C1 cl fp; exact pg_tup rfl (pgs_cons (pg_name (i := 2) scIo.nd rfl (.inl rfl)) (pgs_cons (pg_name (i := 3) scIo.nd rfl (.inl rfl)) (pgs_cons (pg_name (i := 4) scIo.nd rfl (.inl rfl)) pgs_nil))))
        (fun _ _ _ _ _ => pts_one (pt_cmpR op_eq (pv 3) (pv 1) (nomark _))) (fun _ _ _ _ _ => pe_tup (pa_cons (pv 2) (pa_cons (pv 4) pa_nil)))))), ?_⟩
    have lts := w0.T.1
    refine ⟨_, rfl, p, C, dx, _, _, rfl, w0.o, W.cl, W.nM, webF_many _ _ _, _, rfl, m, x, rfl, fun hx => ?_, fun hx => hN hx⟩
    refine ⟨_, rfl, p, C, dx, _, _, rfl, w0.o, W.cl, W.nU, webF_own _ _ _, c, rfl, ⟨_, SqT.of w0.t⟩, fun D nD => lc_tup (K := K) (a := c) (xs := ts.map V.ref) (fun i H' => ∃ ps, Same H H' ∧ H' D = some (.lst (ps.map V.ref)) ∧ Pairs2 H' ps (intoW (ws.take i) x))
      ⟨[], same_new (Same.refl _) nD, upd_same, ⟨by simp [intoW], fun i t q h => by cases h⟩⟩ (fun i H' _ ⟨_, s, _, _⟩ => SqT.of (s _ _ w0.t)) ?_ ?_⟩
    · rintro i y H' hi ⟨ps, sm, hD, hP⟩
      obtain ⟨t, v, rfl, _, hv, hmem, ht⟩ := (w0.T.same (same_tups sm)).at hi
      have il : i < ws.length := (List.getElem?_eq_some_iff.mp hv).1
      have nx := intoW_next (x := x) hv
      have pl : ps.length ≤ 100 := by
        rw [hP.1]
        have := intoW_len (ws.take i) x
        rw [List.length_take] at this
        omega
      refine ⟨t, _, rfl, SqT.of ht, rfl, _, _, rfl, _, _, rfl, _, _, rfl, rfl, rfl, _, rfl, _, rfl, rfl, _, rfl, ?_⟩
      by_cases e : v.2.1 = x
      · rw [decide_eq_true (by rw [e])]
        refine iteT ⟨_, rfl, _, rfl, (by show 2 ≤ sizeLine; decide), fun q nq => ?_⟩
        have Dq : D ≠ q := ne_of_none hD nq
        refine ⟨_, by rw [upd_ne Dq]; exact hD, small1000 (by rw [List.length_map]; omega), ps ++ [q], same_put (same_new sm nq) nD, by rw [upd_same, List.map_append]; rfl, ?_⟩
        rw [nx, if_pos e]
        refine (hP.same fun b xs eb => ?_).snoc (by rw [upd_ne Dq.symm, upd_same])
        rw [upd_ne (ne_of eb hD (by intro z; cases z)), upd_ne (ne_of_none eb nq)]
        exact eb
      · rw [decide_eq_false (fun z => e (V.int.inj z))]
        refine iteF ⟨ps, sm, hD, ?_⟩
        rw [nx, if_neg e, List.append_nil]
        exact hP
    · rintro H' ⟨ps, sm, hD, hP⟩
      rw [List.length_map, lts, List.take_length] at hP
      exact hY hx D ps H' sm nD hD hP
/-! ### delay -/
def spDelayM (C CM : Addr) : Sp := fun vs H Q E => ∃ (p : Addr) (one x m : Int) (ts : List Addr) (ws : List Way), vs = [.ref p, .int one, .int x] ∧ WebAt C H p m ts ws ∧ ws.length ≤ 100 ∧ (¬ ((0 ≤ one ∧ one < m) ∧ 0 ≤ x ∧ x < m) → E (.ref CM) none H) ∧
  ((0 ≤ one ∧ one < m) ∧ 0 ≤ x ∧ x < m → ∀ (H' : Hp), Same H H' → (fromW (intoW ws x) one = [] → Q .non H') ∧ ∀ d, d ∈ fromW (intoW ws x) one → (∀ y ∈ fromW (intoW ws x) one, y ≤ d) → Q (.int d) H')
theorem scDm : FnScope ["self", "one", "other", "pairs", "source", "delay"] ["self", "one", "other"] (defScope sDelayM) := ⟨rfl, rfl, rfl, by decide +kernel, rfl, by decide +kernel, by decide +kernel⟩
theorem ok_delayM {f fM fI C CM : Addr} {fd fdM fdI : FuncData} (F : Fun K "delay" "Web.delay" sDelayM f fd) (FM : Fun K "_refuse_meeting" "_refuse_meeting" sRefMeet fM fdM) (FI : Fun K "into" "Web.into" sInto fI fdI) (mI : Meth K C "into" fI) (bI : Binds K fdI ["self", "meeting"] []) (W : WebT K mg C) (nI : ¬ ("into" : Str) = "many" ∧ ¬ ("into" : Str) = "ways" ∧ ¬ ("into" : Str) = "_ways") (TM : ErrT K mg "NoMeeting" CM)
    (gM : mg "_refuse_meeting" = some (.ref fM)) (bM : Binds K fdM ["many", "meeting"] []) (Z : NamesM mg) : FnOk P w K mg base (L2N.CX P w) 3 f fd ["self", "one", "other"] (spDelayM C CM) := by
  have GM : FnOk P w K mg base (L2N.CX P w) 1 fM fdM ["many", "meeting"] (spRefMeet CM) := ok_refmeet FM TM
  have GI : FnOk P w K mg base (L2N.CX P w) 2 fI fdI ["self", "meeting"] (spInto C CM) := ok_into FI FM W TM gM bM
  refine Fun.okN F scDm (fun vs H Q E h => ?_) (fun cdv A outer s H vs Q E hr h => ?_)
  · obtain ⟨p, one, x, m, ts, ws, rfl, _⟩ := h
    rfl
  · obtain ⟨p, one, x, m, ts, ws, rfl, hW, hl, hN, hY⟩ := h
    obtain ⟨dx, b, c, w0⟩ := hW.is
    have hr1 : Room 1 _ := hr.mono (by decide)
    have hr2 : Room 2 _ := hr
    refine ⟨_, pss_cons (ps_expr (pe_call GM hr1 rfl gM FM.kp bM .nil (L2N.passes_call (L2N.takes_of rfl rfl rfl rfl) fun _ _ _ _ h => h) (pa_cons (pe_fld (pv 0) rfl) (pa_cons (pv 1) pa_nil))))
      (pss_cons (ps_set (i := 3) scDm.nd rfl (.inl rfl) (pe_meth (pv 0) W.cl mI GI hr2 bI .nil (L2N.passes_call (L2N.takes_of rfl rfl rfl rfl) fun _ _ _ _ h => h) (pa_cons (pv 2) pa_nil)))
      (pss_one (ps_ret (pe_callBK (crk_maxD rfl) (by rfl) Z.max (by decide +kernel) (pa_cons (pe_lc (own := [("delay", 5), ("source", 4)]) (g := gTup K 2 (gCons (gName 4) (gCons (gName 5) gNil))) rfl scDm.nd (pi_list (pv 3))
        (blkOk_by (own := [("delay", 5), ("source", 4)]) (N := ["self", "one", "other", "pairs", "source", "delay"]) (sc := defScope sDelayM) (by decide +kernel))
        (by intro s1 H1 C1 cl fp; exact pg_tup rfl (pgs_cons (pg_name (i := 4) scDm.nd rfl (.inl rfl)) (pgs_cons (pg_name (i := 5) scDm.nd rfl (.inl rfl)) pgs_nil)))
        (fun _ _ _ _ _ => pts_one (pt_cmpR op_eq (pv 4) (pv 1) (nomark _))) (fun _ _ _ _ _ => pv 5)) pa_nil) (pk_cons pe_non pk_nil))))), ?_⟩
    have nI1 : (webF m b c).lookup ("into" : Str) = none := webF_no _ _ _ nI.1 nI.2.1 nI.2.2
    refine ⟨_, rfl, p, C, dx, _, _, rfl, w0.o, W.cl, W.nM, webF_many _ _ _, _, rfl, m, one, rfl, fun h1 => ?_, fun h1 => hN fun z => h1 z.1⟩
    refine ⟨_, rfl, p, dx, _, rfl, w0.o, nI1, _, rfl, p, x, m, ts, ws, rfl, hW, hl, fun h2 => hN fun z => h2 z.2, fun h2 D ps H1 s1 nD hD hP => ?_⟩
    refine ⟨_, rfl, D, rfl, ⟨_, SqL.of hD⟩, fun E' nE => lc_list (K := K) (a := D) (xs := ps.map V.ref) (fun i H' => Same H1 H' ∧ H' E' = some (.lst ((fromW ((intoW ws x).take i) one).map V.int)))
      ⟨same_new (Same.refl _) nE, by rw [upd_same]; rfl⟩ (fun i H' _ hh => SqL.of (hh.1 _ _ hD)) ?_ ?_⟩
    · rintro i y H' hi ⟨sm, hE⟩
      obtain ⟨t, q, rfl, hq, ht⟩ := (hP.same (same_tups sm)).at hi
      have il : i < (intoW ws x).length := (List.getElem?_eq_some_iff.mp hq).1
      have ilw := intoW_len ws x
      have nx := fromW_next (x := one) hq
      have fl : (fromW ((intoW ws x).take i) one).length ≤ 100 := by
        unfold fromW
        rw [List.length_map]
        refine Nat.le_trans (List.length_filter_le _ _) ?_
        rw [List.length_take]
        omega
      refine ⟨t, _, rfl, SqT.of ht, rfl, _, _, rfl, _, _, rfl, rfl, rfl, _, rfl, _, rfl, rfl, _, rfl, ?_⟩
      by_cases e : q.1 = one
      · rw [decide_eq_true (by rw [e])]
        refine iteT ⟨_, rfl, _, hE, small1000 (by rw [List.length_map]; omega), same_put sm nE, ?_⟩
        rw [upd_same, nx, if_pos e, List.map_append]
        rfl
      · rw [decide_eq_false (fun z => e (V.int.inj z))]
        refine iteF ⟨sm, ?_⟩
        rw [nx, if_neg e, List.append_nil]
        exact hE
    · rintro H' ⟨sm, hE⟩
      rw [List.length_map, hP.1, List.take_length] at hE
      have hh := hY ⟨h1, h2⟩ H' (s1.trans sm)
      exact ⟨E', _, .non, rfl, rfl, SqL.of hE, fun e0 => hh.1 e0, fun d hd hm => hh.2 d hd hm⟩
end
end Mp
/-! ## P9W -/
set_option Elab.async false
set_option linter.all false
set_option maxRecDepth 100000
set_option maxHeartbeats 4000000
namespace Mp
open PySem PySem.Spec PyProof.Rows L2
/-! ### turned about -/
theorem WebOk.flip {m : Int} {ws : List Way} (h : WebOk m ws) : WebOk m (ws.map flipW) := by
  refine ⟨fun v hv => ?_, fun v hv => ?_, fun s t s0 s1 t0 t1 => go_flip' (h.piece t s t0 t1 s0 s1)⟩
  · obtain ⟨u, hu, rfl⟩ := List.mem_map.mp hv
    exact ⟨(h.ends u hu).2, (h.ends u hu).1⟩
  · obtain ⟨u, hu, rfl⟩ := List.mem_map.mp hv
    exact h.delays u hu
theorem WebNew.older {C : Addr} {H H0 H' : Hp} {p : Addr} {m : Int} {ts : List Addr} {ws : List Way} (W : WebNew C H H' p m ts ws) (s : Same H0 H) : WebNew C H0 H' p m ts ws := by
  obtain ⟨dx, b, c, h1, h2, h3, h4, h5, h6⟩ := W
  exact ⟨dx, b, c, h1, h2, h3, h4, s.free h5, s.free h6⟩
section
variable {P : Program} {w : World} {K : PySem.W.Frag} {mg : Str → Option Value} {base : Heap}
/-- a web made of ways that the document takes -/
theorem spWeb_ok {C CB CM CD CA p dx a : Addr} {m : Int} {ts : List Addr} {ws : List Way} {H : Hp} {Q : VK} {E : XK} (hp : H p = some (.ins C dx [])) (hW : WList H a ts ws) (h1 : 1 ≤ m) (h2 : m ≤ 12) (h3 : ws.length ≤ 60) (ok : WebOk m ws)
    (q : ∀ H', (∀ b o, H b = some o → b ≠ p → H' b = some o) → WebNew C H H' p m ts ws → Q .non H') : spWeb C CB CM CD CA [.ref p, .int m, .ref a] H Q E :=
  ⟨p, dx, a, m, ts, ws, rfl, hp, hW, fun n => absurd ⟨h1, h2, h3⟩ n, fun _ n => absurd ok.ends n, fun _ _ n => absurd ok.delays n, fun _ _ _ n => absurd ok.piece n, fun _ _ _ _ H' k w => q H' k w⟩
end
end Mp
/-! ## N1 -/
set_option linter.all false
namespace Mp
/-! Plain mathematics: rings, their sums, starts -/
def rsum (f : Nat → Int) : Nat → Int
  | 0 => 0
  | k + 1 => rsum f k + f k
theorem rsum_le {f g : Nat → Int} : ∀ {n : Nat}, (∀ k, k < n → f k ≤ g k) → rsum f n ≤ rsum g n
  | 0, _ => Int.le_refl _
  | n + 1, h => by
    have a := rsum_le (n := n) fun k hk => h k (by omega)
    have b := h n (by omega)
    show rsum f n + f n ≤ rsum g n + g n
    omega
theorem rsum_congr {f g : Nat → Int} : ∀ {n : Nat}, (∀ k, k < n → f k = g k) → rsum f n = rsum g n
  | 0, _ => rfl
  | n + 1, h => by
    show rsum f n + f n = rsum g n + g n
    rw [rsum_congr (n := n) fun k hk => h k (by omega), h n (by omega)]
theorem rsum_lt {f g : Nat → Int} : ∀ {n : Nat}, (∀ k, k < n → f k ≤ g k) → (∃ k, k < n ∧ f k < g k) → rsum f n < rsum g n
  | 0, _, ⟨_, h, _⟩ => absurd h (Nat.not_lt_zero _)
  | n + 1, h, ⟨k, hk, hl⟩ => by
    show rsum f n + f n < rsum g n + g n
    by_cases e : k = n
    · subst e
      have a := rsum_le (n := k) fun j hj => h j (by omega)
      omega
    · have a := rsum_lt (n := n) (fun j hj => h j (by omega)) ⟨k, by omega, hl⟩
      have b := h n (by omega)
      omega
theorem rsum_tele (h : Nat → Int) : ∀ n, rsum (fun k => h (k + 1) - h k) n = h n - h 0
  | 0 => by show (0 : Int) = _; omega
  | n + 1 => by
    show rsum (fun k => h (k + 1) - h k) n + (h (n + 1) - h n) = _
    rw [rsum_tele h n]
    omega
theorem rsum_lin (d c : Int) (f : Nat → Int) : ∀ n : Nat, rsum (fun k => d * f k - c) n = d * rsum f n - c * n
  | 0 => by show (0 : Int) = d * 0 - c * ((0 : Nat) : Int); simp
  | n + 1 => by
    show rsum (fun k => d * f k - c) n + (d * f n - c) = d * (rsum f n + f n) - c * ((n + 1 : Nat) : Int)
    rw [rsum_lin d c f n, Int.mul_add, Int.natCast_add, Int.mul_add]
    simp
    omega
theorem rsum_bd {f : Nat → Int} {b : Int} : ∀ {n : Nat}, (∀ k, k < n → 0 ≤ f k ∧ f k ≤ b) → 0 ≤ rsum f n ∧ rsum f n ≤ b * n
  | 0, _ => by show (0 : Int) ≤ 0 ∧ (0 : Int) ≤ b * ((0 : Nat) : Int); simp
  | n + 1, h => by
    have a := rsum_bd (n := n) fun k hk => h k (by omega)
    have c := h n (by omega)
    show 0 ≤ rsum f n + f n ∧ rsum f n + f n ≤ b * ((n + 1 : Nat) : Int)
    rw [Int.natCast_add, Int.mul_add]
    simp
    omega
/-- the k-th meeting of a ring, round and round -/
def cyc (c : List Int) (k : Nat) : Int := c.getD (k % c.length) 0
theorem cyc_at {c : List Int} {k : Nat} (h : k < c.length) : c[k]? = some (cyc c k) := by
  unfold cyc
  rw [Nat.mod_eq_of_lt h, List.getD_eq_getElem?_getD, List.getElem?_eq_getElem h]
  rfl
theorem cyc_of {c : List Int} {k : Nat} {x : Int} (h : c[k]? = some x) : cyc c k = x := by
  have hk := (List.getElem?_eq_some_iff.mp h).1
  rw [cyc_at hk] at h
  exact Option.some.inj h
theorem cyc_round (c : List Int) : cyc c c.length = cyc c 0 := by
  unfold cyc
  rw [Nat.mod_self, Nat.zero_mod]
theorem cyc_mem {c : List Int} (h : c ≠ []) (k : Nat) : cyc c k ∈ c := by
  have hl : 0 < c.length := List.length_pos_iff.mpr h
  have hk := Nat.mod_lt k hl
  unfold cyc
  rw [List.getD_eq_getElem?_getD, List.getElem?_eq_getElem hk]
  exact List.getElem_mem hk
theorem cyc_add (c : List Int) (k : Nat) : cyc c (k + c.length) = cyc c k := by
  unfold cyc
  rw [Nat.add_mod_right]
theorem cyc_mod (c : List Int) (k : Nat) : cyc c (k % c.length) = cyc c k := by
  unfold cyc
  rw [Nat.mod_mod]
theorem cyc_ix {c : List Int} {x : Int} (h : x ∈ c) : ∃ j, j < c.length ∧ cyc c j = x := by
  obtain ⟨j, hj, e⟩ := List.getElem_of_mem h
  exact ⟨j, hj, cyc_of (by rw [List.getElem?_eq_getElem hj, e])⟩
theorem nodup_rev {l : List Int} (h : l.Nodup) : l.reverse.Nodup := List.pairwise_reverse.mpr (h.imp fun h e => h e.symm)
/-- the delays of the ways straight from u to v -/
def dl (ws : List Way) (u v : Int) : List Int := (ws.filter fun w => decide (w.1 = u ∧ w.2.1 = v)).map fun w => w.2.2
theorem mem_dl {ws : List Way} {u v d : Int} : d ∈ dl ws u v ↔ (u, v, d) ∈ ws := by
  unfold dl
  rw [List.mem_map]
  constructor
  · rintro ⟨⟨a, b, c⟩, h, rfl⟩
    obtain ⟨h1, h2⟩ := List.mem_filter.mp h
    obtain ⟨rfl, rfl⟩ := of_decide_eq_true h2
    exact h1
  · intro h
    exact ⟨(u, v, d), List.mem_filter.mpr ⟨h, decide_eq_true ⟨rfl, rfl⟩⟩, rfl⟩
def IsMax (l : List Int) (d : Int) : Prop := d ∈ l ∧ ∀ y ∈ l, y ≤ d
theorem IsMax.one {l : List Int} {a b : Int} (h : IsMax l a) (k : IsMax l b) : a = b := by
  have := h.2 b k.1
  have := k.2 a h.1
  omega
theorem isMax_ex : ∀ {l : List Int}, l ≠ [] → ∃ d, IsMax l d
  | [], h => absurd rfl h
  | [x], _ => ⟨x, List.mem_cons_self, fun y hy => by rw [List.mem_singleton.mp hy]; exact Int.le_refl _⟩
  | x :: y :: r, _ => by
    obtain ⟨d, h1, h2⟩ := isMax_ex (l := y :: r) (List.cons_ne_nil _ _)
    by_cases c : d ≤ x
    · refine ⟨x, List.mem_cons_self, fun z hz => ?_⟩
      rcases List.mem_cons.mp hz with e | e
      · omega
      · have := h2 z e; omega
    · refine ⟨d, List.mem_cons_of_mem _ h1, fun z hz => ?_⟩
      rcases List.mem_cons.mp hz with e | e
      · omega
      · exact h2 z e
/-- the delay of the document's point 4 -/
noncomputable def gd (ws : List Way) (u v : Int) : Int := if h : dl ws u v ≠ [] then (isMax_ex h).choose else 0
theorem gd_max {ws : List Way} {u v : Int} (h : dl ws u v ≠ []) : IsMax (dl ws u v) (gd ws u v) := by
  unfold gd
  rw [dif_pos h]
  exact (isMax_ex h).choose_spec
theorem gd_eq {ws : List Way} {u v d : Int} (h : IsMax (dl ws u v) d) : gd ws u v = d := (gd_max (fun e => by rw [e] at h; exact nomatch h.1)).one h
structure RingOk (m : Int) (ws : List Way) (c : List Int) : Prop where
  ne : c ≠ []
  nd : c.Nodup
  rg : ∀ x ∈ c, 0 ≤ x ∧ x < m
  way : ∀ k, k < c.length → dl ws (cyc c k) (cyc c (k + 1)) ≠ []
noncomputable def total (ws : List Way) (c : List Int) : Int := rsum (fun k => gd ws (cyc c k) (cyc c (k + 1))) c.length
theorem RingOk.pos {m : Int} {ws : List Way} {c : List Int} (R : RingOk m ws c) : 1 ≤ c.length := List.length_pos_iff.mpr R.ne
theorem RingOk.len {n : Nat} {ws : List Way} {c : List Int} (R : RingOk n ws c) : c.length ≤ n := nodup_le n c R.nd R.rg
theorem RingOk.mem {m : Int} {ws : List Way} {c : List Int} (R : RingOk m ws c) {k : Nat} (h : k < c.length) : (cyc c k, cyc c (k + 1), gd ws (cyc c k) (cyc c (k + 1))) ∈ ws := mem_dl.mp (gd_max (R.way k h)).1
theorem RingOk.total_bd {m : Int} {ws : List Way} {c : List Int} (R : RingOk m ws c) (hd : ∀ w ∈ ws, DelayOk w) : 0 ≤ total ws c ∧ total ws c ≤ 9999 * c.length :=
  rsum_bd fun k hk => hd _ (R.mem hk)
/-- a start for a pace -/
def StartOk (ws : List Way) (n d : Int) (s : Int → Int) : Prop := ∀ w ∈ ws, s w.1 + d * w.2.2 - n ≤ s w.2.1
theorem start_bound {m : Int} {ws : List Way} {c : List Int} {n d : Int} {s : Int → Int} (R : RingOk m ws c) (S : StartOk ws n d s) : d * total ws c ≤ n * c.length := by
  have h : rsum (fun k => d * gd ws (cyc c k) (cyc c (k + 1)) - n) c.length ≤ rsum (fun k => s (cyc c (k + 1)) - s (cyc c k)) c.length := rsum_le fun k hk => by
    have := S _ (R.mem hk)
    dsimp only at this
    omega
  rw [rsum_lin, rsum_tele (fun k => s (cyc c k)), cyc_round] at h
  show d * rsum _ _ ≤ _
  omega
/-- a ring whose ways all rise by what the heights allow at the most, and somewhere by more -/
theorem ring_gain {m : Int} {ws : List Way} {c : List Int} {n d : Int} {s : Int → Int} (R : RingOk m ws c) (h0 : ∀ k, k < c.length → s (cyc c (k + 1)) ≤ s (cyc c k) + d * gd ws (cyc c k) (cyc c (k + 1)) - n)
    (h1 : ∃ k, k < c.length ∧ s (cyc c (k + 1)) < s (cyc c k) + d * gd ws (cyc c k) (cyc c (k + 1)) - n) : n * c.length < d * total ws c := by
  have h : rsum (fun k => s (cyc c (k + 1)) - s (cyc c k)) c.length < rsum (fun k => d * gd ws (cyc c k) (cyc c (k + 1)) - n) c.length := rsum_lt (fun k hk => by have := h0 k hk; omega) (by
    obtain ⟨k, hk, h⟩ := h1
    exact ⟨k, hk, by omega⟩)
  rw [rsum_lin, rsum_tele (fun k => s (cyc c k)), cyc_round] at h
  show _ < d * rsum _ _
  omega
/-! ### what goes back from meeting to meeting -/
/-- the ring goes forward where b goes back -/
def Back (b : Int → Option Int) (c : List Int) : Prop := ∀ k, k < c.length → b (cyc c (k + 1)) = some (cyc c k)
theorem cyc_drop {t : List Int} {j k : Nat} (h : j + k < t.length) : cyc (t.drop j) k = cyc t (j + k) := by
  refine cyc_of ?_
  rw [List.getElem?_drop]
  exact cyc_at h
theorem back_of_trail {b : Int → Option Int} {t : List Int} {j : Nat} (hj : j < t.length) (h1 : ∀ k, k + 1 < t.length → b (cyc t k) = some (cyc t (k + 1))) (h2 : b (cyc t (t.length - 1)) = some (cyc t j)) : Back b (t.drop j).reverse := by
  have ll : (t.drop j).reverse.length = t.length - j := by rw [List.length_reverse, List.length_drop]
  have at_ : ∀ k, k < t.length - j → cyc (t.drop j).reverse k = cyc t (t.length - 1 - k) := fun k hk => by
    refine cyc_of ?_
    rw [List.getElem?_reverse (by rw [List.length_drop]; exact hk), List.length_drop, List.getElem?_drop, show j + (t.length - j - 1 - k) = t.length - 1 - k by omega]
    exact cyc_at (by omega)
  intro k hk
  rw [ll] at hk
  by_cases e : k + 1 < t.length - j
  · rw [at_ k hk, at_ (k + 1) e]
    have := h1 (t.length - 1 - (k + 1)) (by omega)
    rw [show t.length - 1 - (k + 1) + 1 = t.length - 1 - k by omega] at this
    exact this
  · have ek : k + 1 = t.length - j := by omega
    have e0 : cyc (t.drop j).reverse (k + 1) = cyc (t.drop j).reverse 0 := by rw [ek, ← ll]; exact cyc_round _
    rw [e0, at_ 0 (by omega), at_ k hk, show t.length - 1 - k = j by omega, show t.length - 1 - 0 = t.length - 1 by omega]
    exact h2
theorem cyc_rot {c : List Int} {i : Nat} (hi : i < c.length) (k : Nat) : cyc (c.drop i ++ c.take i) k = cyc c (k + i) := by
  have ll : (c.drop i ++ c.take i).length = c.length := by rw [List.length_append, List.length_drop, List.length_take]; omega
  have key : ∀ k, k < c.length → cyc (c.drop i ++ c.take i) k = cyc c (k + i) := fun k hk => by
    refine cyc_of ?_
    by_cases e : k < c.length - i
    · rw [List.getElem?_append_left (by rw [List.length_drop]; exact e), List.getElem?_drop, show i + k = k + i by omega]
      exact cyc_at (by omega)
    · rw [List.getElem?_append_right (by rw [List.length_drop]; omega), List.length_drop, List.getElem?_take_of_lt (by omega)]
      have e2 : k + i = (k - (c.length - i)) + c.length := by omega
      rw [e2, cyc_add]
      exact cyc_at (by omega)
  have hl : 0 < c.length := by omega
  rw [← cyc_mod (c.drop i ++ c.take i), ll, key _ (Nat.mod_lt _ hl)]
  unfold cyc
  rw [Nat.add_mod, Nat.mod_mod, ← Nat.add_mod]
theorem back_rot {b : Int → Option Int} {c : List Int} {i : Nat} (hi : i < c.length) (h : Back b c) : Back b (c.drop i ++ c.take i) := by
  have ll : (c.drop i ++ c.take i).length = c.length := by rw [List.length_append, List.length_drop, List.length_take]; omega
  have hl : 0 < c.length := by omega
  intro k _
  rw [cyc_rot hi, cyc_rot hi, ← cyc_mod c (k + i), show k + 1 + i = (k + i) + 1 by omega]
  have := h ((k + i) % c.length) (Nat.mod_lt _ hl)
  rw [← this]
  congr 1
  unfold cyc
  congr 1
  rw [Nat.add_mod ((k + i) % c.length) 1, Nat.mod_mod, ← Nat.add_mod]
end Mp
/-! ## N2 -/
set_option linter.all false
namespace Mp
/-! Plain mathematics: lifting along ways -/
def fset {α : Type} (f : Int → α) (x : Int) (v : α) : Int → α := fun y => if y = x then v else f y
theorem fset_same {α : Type} {f : Int → α} {x : Int} {v : α} : fset f x v x = v := if_pos rfl
theorem fset_ne {α : Type} {f : Int → α} {x y : Int} {v : α} (h : y ≠ x) : fset f x v y = f y := if_neg h
structure LiftInv (S : List Way) (k i T : Nat) (h : Int → Int) (b : Int → Option Int) (t r : Int → Nat) (lifted : Option Int) : Prop where
  edge : ∀ v u, b v = some u → ∃ rise, (u, v, rise) ∈ S ∧ h v ≤ h u + rise ∧ (t v ≤ t u → h v < h u + rise)
  clk : ∀ v, t v ≤ T
  rk : ∀ v, r v ≤ k
  back : ∀ v, 1 ≤ r v → ∃ u, b v = some u
  down : ∀ v u, b v = some u → r v ≤ r u + 1
  rest : ∀ j w, S[j]? = some w → h w.1 + w.2.2 ≤ h w.2.1 ∨ (j < i ∧ k ≤ r w.1) ∨ (i ≤ j ∧ k ≤ r w.1 + 1)
  non : lifted = none → ∀ v, r v < k
  som : ∀ x, lifted = some x → r x = k
theorem LiftInv.first (S : List Way) : LiftInv S 1 0 0 (fun _ => 0) (fun _ => none) (fun _ => 0) (fun _ => 0) none where
  edge := fun v u e => nomatch e
  clk := fun _ => Nat.le_refl _
  rk := fun _ => Nat.zero_le _
  back := fun v e => nomatch e
  down := fun v u e => nomatch e
  rest := fun j w _ => .inr (.inr ⟨Nat.zero_le _, Nat.le_refl _⟩)
  non := fun _ _ => Nat.zero_lt_one
  som := fun x e => nomatch e
section
variable {S : List Way} {k i T : Nat} {h : Int → Int} {b : Int → Option Int} {t r : Int → Nat} {l : Option Int}
theorem LiftInv.skip (I : LiftInv S k i T h b t r l) {w : Way} (e : S[i]? = some w) (c : ¬ h w.2.1 < h w.1 + w.2.2) : LiftInv S k (i + 1) T h b t r l :=
  ⟨I.edge, I.clk, I.rk, I.back, I.down, fun j w' e' => by
    rcases I.rest j w' e' with q | ⟨q, p⟩ | ⟨q, p⟩
    · exact .inl q
    · exact .inr (.inl ⟨by omega, p⟩)
    · by_cases z : j = i
      · subst z
        rw [e] at e'
        cases e'
        exact .inl (by omega)
      · exact .inr (.inr ⟨by omega, p⟩), I.non, I.som⟩
theorem LiftInv.lift (k1 : 1 ≤ k) (I : LiftInv S k i T h b t r l) {w : Way} (e : S[i]? = some w) (c : h w.2.1 < h w.1 + w.2.2) : LiftInv S k (i + 1) (T + 1) (fset h w.2.1 (h w.1 + w.2.2)) (fset b w.2.1 (some w.1)) (fset t w.2.1 (T + 1)) (fset r w.2.1 k) (some w.2.1) := by
  obtain ⟨u, v, ri⟩ := w
  dsimp only at c e ⊢
  have hm : (u, v, ri) ∈ S := List.mem_of_getElem? e
  have ru : k ≤ r u + 1 := by
    rcases I.rest i _ e with q | ⟨q, p⟩ | ⟨q, p⟩
    · dsimp only at q; omega
    · omega
    · exact p
  refine ⟨fun y x ey => ?_, fun y => ?_, fun y => ?_, fun y hy => ?_, fun y x ey => ?_, fun j w' e' => ?_, nofun, fun x ex => ?_⟩
  · by_cases z : y = v
    · subst z
      rw [fset_same] at ey
      cases ey
      refine ⟨ri, hm, ?_, fun ht => ?_⟩
      · by_cases z : u = y
        · subst z
          rw [fset_same]
          omega
        · rw [fset_same, fset_ne z]
          exact Int.le_refl _
      · by_cases z : u = y
        · subst z
          rw [fset_same]
          omega
        · rw [fset_same, fset_ne z] at ht
          have := I.clk u
          omega
    · rw [fset_ne z] at ey
      obtain ⟨rise, h1, h2, h3⟩ := I.edge y x ey
      refine ⟨rise, h1, ?_, fun ht => ?_⟩
      · by_cases z2 : x = v
        · subst z2
          rw [fset_same, fset_ne z]
          omega
        · rw [fset_ne z, fset_ne z2]
          exact h2
      · by_cases z2 : x = v
        · subst z2
          rw [fset_same, fset_ne z]
          omega
        · rw [fset_ne z, fset_ne z2] at ht
          rw [fset_ne z, fset_ne z2]
          exact h3 ht
  · by_cases z : y = v
    · subst z; rw [fset_same]; exact Nat.le_refl _
    · rw [fset_ne z]; have := I.clk y; omega
  · by_cases z : y = v
    · subst z; rw [fset_same]; exact Nat.le_refl _
    · rw [fset_ne z]; exact I.rk y
  · by_cases z : y = v
    · subst z; exact ⟨u, fset_same⟩
    · rw [fset_ne z] at hy
      rw [fset_ne z]
      exact I.back y hy
  · by_cases z : y = v
    · subst z
      rw [fset_same] at ey
      cases ey
      rw [fset_same]
      by_cases z2 : u = y
      · subst z2; rw [fset_same]; omega
      · rw [fset_ne z2]; exact ru
    · rw [fset_ne z] at ey
      have := I.down y x ey
      rw [fset_ne z]
      by_cases z2 : x = v
      · subst z2
        rw [fset_same]
        have := I.rk y
        omega
      · rw [fset_ne z2]; exact this
  · obtain ⟨u', v', ri'⟩ := w'
    dsimp only
    by_cases zu : u' = v
    · subst zu
      rw [fset_same (f := r)]
      by_cases zj : j < i + 1
      · exact .inr (.inl ⟨zj, Nat.le_refl _⟩)
      · exact .inr (.inr ⟨by omega, by omega⟩)
    · rw [fset_ne zu, fset_ne (f := r) zu]
      by_cases z : j = i
      · subst z
        rw [e] at e'
        cases e'
        rw [fset_same]
        exact .inl (Int.le_refl _)
      · rcases I.rest j _ e' with q | ⟨q, p⟩ | ⟨q, p⟩
        · dsimp only at q
          by_cases zv : v' = v
          · subst zv; rw [fset_same]; exact .inl (by omega)
          · rw [fset_ne zv]; exact .inl q
        · exact .inr (.inl ⟨by omega, p⟩)
        · exact .inr (.inr ⟨by omega, p⟩)
  · cases ex
    exact fset_same
theorem LiftInv.round (I : LiftInv S k S.length T h b t r l) : LiftInv S (k + 1) 0 T h b t r none where
  edge := I.edge
  clk := I.clk
  rk := fun v => by have := I.rk v; omega
  back := I.back
  down := I.down
  rest := fun j w e => by
    have hj := (List.getElem?_eq_some_iff.mp e).1
    rcases I.rest j w e with q | ⟨q, p⟩ | ⟨q, p⟩
    · exact .inl q
    · exact .inr (.inr ⟨Nat.zero_le _, by omega⟩)
    · exact absurd q (by omega)
  non := fun _ v => by have := I.rk v; omega
  som := nofun
theorem LiftInv.done (I : LiftInv S k S.length T h b t r none) : ∀ w ∈ S, h w.1 + w.2.2 ≤ h w.2.1 := fun w hw => by
  obtain ⟨j, hj, e⟩ := List.getElem_of_mem hw
  rcases I.rest j w (by rw [List.getElem?_eq_getElem hj, e]) with q | ⟨q, p⟩ | ⟨q, p⟩
  · exact q
  · have := I.non rfl w.1; omega
  · exact absurd q (by omega)
/-- what the steps are -/
def StepsOf (ws S : List Way) (N D : Int) : Prop := ∀ u v x, (u, v, x) ∈ S ↔ ∃ d, (u, v, d) ∈ ws ∧ x = D * d - N
theorem LiftInv.start {ws : List Way} {N D : Int} (hS : StepsOf ws S N D) (I : LiftInv S k S.length T h b t r none) : StartOk ws N D h := fun w hw => by
  have := I.done (w.1, w.2.1, D * w.2.2 - N) ((hS _ _ _).mpr ⟨w.2.2, hw, rfl⟩)
  dsimp only at this
  omega
theorem LiftInv.ring {m : Int} {ws : List Way} {N D : Int} (hD : 0 ≤ D) (hS : StepsOf ws S N D) (I : LiftInv S k i T h b t r l) {c : List Int} (ne : c ≠ []) (nd : c.Nodup) (rg : ∀ x ∈ c, 0 ≤ x ∧ x < m) (B : Back b c) : RingOk m ws c ∧ N * c.length < D * total ws c := by
  have hl : 0 < c.length := List.length_pos_iff.mpr ne
  have ed : ∀ j, j < c.length → ∃ d, (cyc c j, cyc c (j + 1), d) ∈ ws ∧ h (cyc c (j + 1)) ≤ h (cyc c j) + (D * d - N) ∧ (t (cyc c (j + 1)) ≤ t (cyc c j) → h (cyc c (j + 1)) < h (cyc c j) + (D * d - N)) := fun j hj => by
    obtain ⟨rise, h1, h2, h3⟩ := I.edge _ _ (B j hj)
    obtain ⟨d, hd, rfl⟩ := (hS _ _ _).mp h1
    exact ⟨d, hd, h2, h3⟩
  have R : RingOk m ws c := ⟨ne, nd, rg, fun j hj e => by
    obtain ⟨d, hd, _⟩ := ed j hj
    have := mem_dl.mpr hd
    rw [e] at this
    cases this⟩
  have up : ∀ j, j < c.length → ∀ d, (cyc c j, cyc c (j + 1), d) ∈ ws → D * d ≤ D * gd ws (cyc c j) (cyc c (j + 1)) := fun j hj d hd =>
    Int.mul_le_mul_of_nonneg_left ((gd_max (R.way j hj)).2 d (mem_dl.mpr hd)) hD
  refine ⟨R, ring_gain R (s := h) (fun j hj => ?_) ?_⟩
  · obtain ⟨d, hd, h1, _⟩ := ed j hj
    have := up j hj d hd
    omega
  · apply Classical.byContradiction
    intro no
    have inc : ∀ j, j < c.length → t (cyc c j) < t (cyc c (j + 1)) := fun j hj => by
      apply Classical.byContradiction
      intro hn
      obtain ⟨d, hd, _, h1⟩ := ed j hj
      have := up j hj d hd
      have := h1 (by omega)
      exact no ⟨j, hj, by omega⟩
    have all : ∀ j, j ≤ c.length → t (cyc c 0) + j ≤ t (cyc c j) := by
      intro j
      induction j with
      | zero => intro _; exact Nat.le_refl _
      | succ j ih =>
        intro hj
        have := ih (by omega)
        have := inc j (by omega)
        omega
    have := all c.length (Nat.le_refl _)
    rw [cyc_round] at this
    omega
end
/-- going back from x by b stays within meetings for as many steps as r says -/
structure Behind (m : Nat) (b : Int → Option Int) (r : Int → Nat) : Prop where
  some : ∀ v : Int, 0 ≤ v → v < m → 1 ≤ r v → ∃ u : Int, b v = some u ∧ 0 ≤ u ∧ u < m ∧ r v ≤ r u + 1
theorem LiftInv.behind {S : List Way} {m k i T : Nat} {h : Int → Int} {b : Int → Option Int} {t r : Int → Nat} {l : Option Int} (hE : ∀ w ∈ S, EndsOk m w) (I : LiftInv S k i T h b t r l) : Behind m b r := ⟨fun v v0 v1 hv => by
  obtain ⟨u, hu⟩ := I.back v hv
  obtain ⟨rise, h1, _⟩ := I.edge v u hu
  have := hE _ h1
  exact ⟨u, hu, this.1.1, this.1.2, I.down v u hu⟩⟩
/-! ### the pace: each ring has a greater mean than the one before -/
theorem div27720 : ∀ k : Nat, k < 13 → 1 ≤ k → ∃ q : Nat, 1 ≤ q ∧ k * q = 27720 := by
  intro k h1 h2
  rcases (show k = 1 ∨ k = 2 ∨ k = 3 ∨ k = 4 ∨ k = 5 ∨ k = 6 ∨ k = 7 ∨ k = 8 ∨ k = 9 ∨ k = 10 ∨ k = 11 ∨ k = 12 by omega) with e | e | e | e | e | e | e | e | e | e | e | e <;> subst e
  · exact ⟨27720, by decide, by decide⟩
  · exact ⟨13860, by decide, by decide⟩
  · exact ⟨9240, by decide, by decide⟩
  · exact ⟨6930, by decide, by decide⟩
  · exact ⟨5544, by decide, by decide⟩
  · exact ⟨4620, by decide, by decide⟩
  · exact ⟨3960, by decide, by decide⟩
  · exact ⟨3465, by decide, by decide⟩
  · exact ⟨3080, by decide, by decide⟩
  · exact ⟨2772, by decide, by decide⟩
  · exact ⟨2520, by decide, by decide⟩
  · exact ⟨2310, by decide, by decide⟩
/-- 27720 times the mean -/
noncomputable def score (ws : List Way) (c : List Int) : Int := total ws c * (27720 / c.length : Nat)
theorem score_lt {m : Nat} {ws : List Way} {c e : List Int} (hm : m ≤ 12) (R : RingOk m ws c) (R' : RingOk m ws e) (h : total ws c * e.length < total ws e * c.length) : score ws c < score ws e := by
  have l1 := R.len
  have l2 := R'.len
  have p1 := R.pos
  have p2 := R'.pos
  obtain ⟨q, q1, hq⟩ := div27720 c.length (by omega) p1
  obtain ⟨q', q1', hq'⟩ := div27720 e.length (by omega) p2
  unfold score
  rw [← hq]
  rw [show c.length * q / c.length = q from Nat.mul_div_cancel_left q (by omega)]
  rw [hq, ← hq', show e.length * q' / e.length = q' from Nat.mul_div_cancel_left q' (by omega)]
  have hc : (c.length : Int) * q = e.length * q' := by rw [← Int.natCast_mul, ← Int.natCast_mul, hq, hq']
  have pos : (0 : Int) < (q : Int) * q' := Int.mul_pos (by omega) (by omega)
  have a := Int.mul_lt_mul_of_pos_right h pos
  have e1 : total ws c * (e.length : Int) * ((q : Int) * q') = (total ws c * q) * (e.length * q') := by
    simp only [Int.mul_assoc, Int.mul_comm, Int.mul_left_comm]
  have e2 : total ws e * (c.length : Int) * ((q : Int) * q') = (total ws e * q') * (c.length * q) := by
    simp only [Int.mul_assoc, Int.mul_comm, Int.mul_left_comm]
  rw [e1, e2, hc] at a
  exact Int.lt_of_mul_lt_mul_right a (Int.mul_nonneg (by omega) (by omega))
theorem score_bd {m : Nat} {ws : List Way} {c : List Int} (hm : m ≤ 12) (hd : ∀ w ∈ ws, DelayOk w) (R : RingOk m ws c) : 0 ≤ score ws c ∧ score ws c ≤ 277172280 := by
  have l1 := R.len
  have p1 := R.pos
  have b := R.total_bd hd
  obtain ⟨q, q1, hq⟩ := div27720 c.length (by omega) p1
  unfold score
  have ed : 27720 / c.length = q := by
    rw [← hq]
    exact Nat.mul_div_cancel_left q (by omega)
  rw [ed]
  refine ⟨Int.mul_nonneg b.1 (by omega), ?_⟩
  have a := Int.mul_le_mul_of_nonneg_right b.2 (show (0 : Int) ≤ (q : Int) by omega)
  have e1 : (9999 : Int) * (c.length : Int) * q = 9999 * 27720 := by
    rw [Int.mul_assoc, ← Int.natCast_mul, hq]
    rfl
  rw [e1] at a
  omega
end Mp
/-! ## Low -/
set_option Elab.async false
set_option linter.all false
set_option maxRecDepth 100000
set_option maxHeartbeats 4000000
set_option exponentiation.threshold 2000
namespace Mp
open PySem PySem.Spec PyProof.Rows L2
/-! ### lowest -/
/-- in lowest terms: what is told -/
def spLow : Sp := fun vs H Q _ => ∃ n d : Int, vs = [.int n, .int d] ∧ 0 ≤ n ∧ 1 ≤ d ∧ d ≤ 10 ^ 80 ∧
  ∀ (T : Addr) (a b : Int) (H' : Hp), Same H H' → H T = none → H' T = some (.tup [.int a, .int b]) → 0 ≤ a → 1 ≤ b → a ≤ n → b ≤ d → a * d = n * b → Int.gcd a b = 1 → Q (.ref T) H'
theorem low_facts {n d : Int} (n0 : 0 ≤ n) (d1 : 1 ≤ d) : 1 ≤ ((Nat.gcd n.natAbs d.natAbs : Nat) : Int) ∧ ((Nat.gcd n.natAbs d.natAbs : Nat) : Int) ≤ d ∧ 0 ≤ n / ((Nat.gcd n.natAbs d.natAbs : Nat) : Int) ∧ 1 ≤ d / ((Nat.gcd n.natAbs d.natAbs : Nat) : Int) ∧ n / ((Nat.gcd n.natAbs d.natAbs : Nat) : Int) ≤ n ∧ d / ((Nat.gcd n.natAbs d.natAbs : Nat) : Int) ≤ d ∧
    n / ((Nat.gcd n.natAbs d.natAbs : Nat) : Int) * d = n * (d / ((Nat.gcd n.natAbs d.natAbs : Nat) : Int)) ∧ Int.gcd (n / ((Nat.gcd n.natAbs d.natAbs : Nat) : Int)) (d / ((Nat.gcd n.natAbs d.natAbs : Nat) : Int)) = 1 := by
  obtain ⟨N, rfl⟩ : ∃ N : Nat, n = N := ⟨n.toNat, by omega⟩
  obtain ⟨D, rfl⟩ : ∃ D : Nat, d = D := ⟨d.toNat, by omega⟩
  rw [Int.natAbs_natCast, Int.natAbs_natCast]
  have D1 : 0 < D := by omega
  have g0 : 0 < Nat.gcd N D := Nat.gcd_pos_of_pos_right _ D1
  have gN := Nat.gcd_dvd_left N D
  have gD := Nat.gcd_dvd_right N D
  have gle := Nat.le_of_dvd D1 gD
  have dq : 0 < D / Nat.gcd N D := Nat.div_pos gle g0
  have n1 := Nat.div_le_self N (Nat.gcd N D)
  have n2 := Nat.div_le_self D (Nat.gcd N D)
  have e1 : ((N : Nat) : Int) / ((Nat.gcd N D : Nat) : Int) = ((N / Nat.gcd N D : Nat) : Int) := rfl
  have e2 : ((D : Nat) : Int) / ((Nat.gcd N D : Nat) : Int) = ((D / Nat.gcd N D : Nat) : Int) := rfl
  rw [e1, e2]
  refine ⟨Int.ofNat_le.mpr g0, Int.ofNat_le.mpr gle, Int.natCast_nonneg _, Int.ofNat_le.mpr dq, Int.ofNat_le.mpr n1, Int.ofNat_le.mpr n2, ?_, ?_⟩
  · rw [← Int.natCast_mul, ← Int.natCast_mul]
    congr 1
    obtain ⟨x, hx⟩ := gN
    obtain ⟨y, hy⟩ := gD
    have ex : N / Nat.gcd N D = x := by
      conv => lhs; lhs; rw [hx]
      exact Nat.mul_div_cancel_left x g0
    have ey : D / Nat.gcd N D = y := by
      conv => lhs; lhs; rw [hy]
      exact Nat.mul_div_cancel_left y g0
    rw [ex, ey]
    conv => lhs; rw [hy]
    conv => rhs; lhs; rw [hx]
    simp only [Nat.mul_assoc, Nat.mul_comm, Nat.mul_left_comm]
  · show Nat.gcd _ _ = 1
    rw [Int.natAbs_natCast, Int.natAbs_natCast, Nat.gcd_div gN gD]
    exact Nat.div_self g0
theorem low_new {H : Hp} {p : Addr} {o : HO} (hp : H p = none) : Same H (upd H p o) := fun b u e => by rw [upd_ne (ne_of_none e hp)]; exact e
section
variable {P : Program} {w : World} {K : PySem.W.Frag} {mg : Str → Option Value} {base : Heap}
theorem scLo : FnScope ["number", "divisor", "common"] ["number", "divisor"] (defScope sLowest) := ⟨rfl, rfl, rfl, by decide +kernel, rfl, by decide +kernel, by decide +kernel⟩
theorem div_ok {g d : Int} (h1 : 1 ≤ g) (h2 : g ≤ d) (h3 : d ≤ 10 ^ 80) : CDivW 0 g := by
  refine wide_div (b := 300) (by omega) ?_ (by decide) (by decide)
  have e : (10 : Int) ^ 80 < 2 ^ 300 := by decide
  have e2 : ((g.natAbs : Nat) : Int) = g := by omega
  have e3 : ((2 ^ 300 : Nat) : Int) = (2 : Int) ^ 300 := by decide
  have : ((g.natAbs : Nat) : Int) < ((2 ^ 300 : Nat) : Int) := by rw [e2, e3]; omega
  omega
theorem ok_lowest {f : Addr} {fd : FuncData} (F : Fun K "lowest" "lowest" sLowest f fd) (gg : mg "gcd" = some (.builtin "math.gcd")) : FnOk P w K mg base CX0 1 f fd ["number", "divisor"] spLow := by
  refine F.ok scLo (fun vs H Q E h => ?_) (fun cdv A outer s H vs Q E hr h => ?_)
  · obtain ⟨n, d, rfl, _⟩ := h
    rfl
  · obtain ⟨n, d, rfl, n0, d1, dm, hQ⟩ := h
    refine ⟨_, pss_cons (ps_set (i := 2) scLo.nd rfl (.inl rfl) (pe_callBfun cr_gcd (by rfl) gg (pa_cons (pv 0) (pa_cons (pv 1) pa_nil))))
      (pss_one (ps_ret (pe_tup (pa_cons (pe_op op_fdivW (pv 0) (pv 2)) (pa_cons (pe_op op_fdivW (pv 1) (pv 2)) pa_nil))))), ?_⟩
    obtain ⟨f1, f2, f3, f4, f5, f6, f7, f8⟩ := low_facts n0 d1
    refine ⟨_, rfl, _, rfl, n, d, rfl, ?_⟩
    refine ⟨_, rfl, _, rfl, _, _, rfl, rfl, div_ok f1 f2 dm, _, rfl, _, rfl, _, _, rfl, rfl, div_ok f1 f2 dm, (by show 2 ≤ sizeLine; decide), fun T nT => ?_⟩
    exact hQ T _ _ _ (low_new nT) nT upd_same f3 f4 f5 f6 f7 f8
end
end Mp
/-! ## Gen8 -/
set_option Elab.async false
set_option linter.all false
set_option maxRecDepth 100000
set_option maxHeartbeats 2000000
namespace Mp
open PySem PySem.Spec PyProof.Rows L2
/-! ### len(set(xs)) of any list of ints: as many as the list has, or fewer where one comes twice -/
theorem met_less {val : Nat → Int} {i j : Nat} (hij : i < j) (e : val i = val j) : ∀ k, j < k → (firstMet val k).length < k
  | 0, h => absurd h (Nat.not_lt_zero _)
  | k + 1, h => by
    rw [firstMet_succ]
    unfold step_dedup
    by_cases q : j = k
    · subst q
      have hin : (firstMet val j).any (· == val j) = true := by
        rw [firstMet_any, List.any_eq_true]
        exact ⟨val i, List.mem_map.mpr ⟨i, List.mem_range.mpr hij, rfl⟩, by rw [e]; exact beq_self_eq_true _⟩
      rw [if_pos hin]
      exact Nat.lt_succ_of_le (firstMet_length_le val j)
    · have ih := met_less hij e k (by omega)
      split
      · omega
      · rw [List.length_append]
        show (firstMet val k).length + 1 < k + 1
        omega
theorem twice_of {ns : List Int} (h : ¬ ns.Nodup) : ∃ i j, i < j ∧ j < ns.length ∧ ns.getD i 0 = ns.getD j 0 := by
  unfold List.Nodup at h
  rw [List.pairwise_iff_getElem] at h
  simp only [Classical.not_forall, Classical.not_not] at h
  obtain ⟨i, j, hi, hj, hij, e⟩ := h
  refine ⟨i, j, hij, hj, ?_⟩
  rw [List.getD_eq_getElem?_getD, List.getD_eq_getElem?_getD, List.getElem?_eq_getElem hi, List.getElem?_eq_getElem hj, e]
def tLenSetN (K : PySem.W.Frag) (ta : TE) : TE := fun σ H Q => ta σ H fun x H1 => ∃ (l : Addr) (ns : List Int), x = V.ref l ∧ SqL K H1 l (ns.map V.int) ∧ ns.length < 64 ∧ ∀ n : Nat, (ns.Nodup → n = ns.length) → (¬ ns.Nodup → n < ns.length) → Q (.int n) H1
theorem pe_lenSetN {X : Cx} {a : Expr} {ta : TE} {p p2 q pos : Pos} (hg : Gl X "len") (hm : X.mg "len" = none) (hg2 : Gl X "set") (hm2 : X.mg "set" = none) (ha : PE X a ta) (hc : X.calm = true := by rfl)
    (na : starEach [a] X.env = (false, eval a X.env) :: starEach [] X.env := by rfl) : PE X (.Call (.Name "len" p) [.Call (.Name "set" p2) [a] [] q] [] pos) (tLenSetN X.K ta) := by
  refine ⟨fun pins s σ H Q I h => Call_ (ld_blt I hg hm boot_len (callWith_builtin1 (args_cons ?_ rfl) rfl rfl))⟩
  refine Call_ (ld_blt I hg2 hm2 boot_set (callWith_type1 (args_cons (thn (ha.run pins s σ H _ I h) fun v s1 ⟨x, H1, I1, r1, q1⟩ => args_nil ?_) na) na rfl))
  obtain ⟨l, ns, e, hq, hl, q1⟩ := q1
  subst e
  cases r1
  obtain ⟨its, rv, lp, _⟩ := I1.list hq
  have hsz : its.toArray.size = ns.length := by rw [List.size_toArray, ← rv.length, List.length_map]
  refine call_set_list (I1.ok.hd hc) lp.isList (by simpa using rv.ints) (by rw [hsz]; unfold scanBound; omega) fun h' tk hS hk => args_nil ?_
  rw [hsz] at hS
  have le := firstMet_length_le (fun i => ns.getD i 0) ns.length
  obtain ⟨so, es, ep, ty, ho, hex, hd, _, _, _, hf, hn⟩ := hS
  have J2 : Inv X pins σ H1 { s1 with heap := h', toks := tk } := I1.kept fun b o z => hk b o (Heap.lt_size z) z
  refine call_len_set ho hex hd hf (by rw [hn] <;> omega) ⟨.int ((firstMet (fun i => ns.getD i 0) ns.length).length : Nat), H1, J2.tok _, ⟨_, by rw [hn]⟩, q1 _ (fun nd => ?_) (fun nd => ?_)⟩
  · rw [RZ.firstMet_nodup nd _ (Nat.le_refl _), List.take_length]
  · obtain ⟨i, j, hij, hj, e⟩ := twice_of nd
    exact met_less (val := fun i => ns.getD i 0) hij e _ hj
end Mp
/-! ## PMean -/
set_option Elab.async false
set_option linter.all false
set_option maxRecDepth 100000
set_option maxHeartbeats 4000000
set_option exponentiation.threshold 2000
namespace Mp
open PySem PySem.Spec PyProof.Rows L2
/-! ### rings in the heap, their means -/
theorem fromW_dl (ws : List Way) (u v : Int) : fromW (intoW ws v) u = dl ws u v := by
  unfold fromW intoW dl
  rw [List.filter_map, List.map_map, List.filter_filter]
  congr 1
  refine List.filter_congr fun w _ => ?_
  show (decide (w.1 = u) && decide (w.2.1 = v)) = decide (w.1 = u ∧ w.2.1 = v)
  rw [Bool.decide_and]
/-- a web that may be asked -/
structure Askable (C : Addr) (H : Hp) (p : Addr) (m : Int) (ts : List Addr) (ws : List Way) : Prop where
  web : WebAt C H p m ts ws
  ok : WebOk m ws
  m1 : 1 ≤ m
  m12 : m ≤ 12
  l : ws.length ≤ 60
theorem Askable.same {C : Addr} {H H' : Hp} {p : Addr} {m : Int} {ts : List Addr} {ws : List Way} (a : Askable C H p m ts ws) (s : Same H H') : Askable C H' p m ts ws := ⟨a.web.same s, a.ok, a.m1, a.m12, a.l⟩
theorem Askable.nat {C : Addr} {H : Hp} {p : Addr} {m : Int} {ts : List Addr} {ws : List Way} (a : Askable C H p m ts ws) : ∃ n : Nat, m = n ∧ 1 ≤ n ∧ n ≤ 12 := ⟨m.toNat, by have := a.m1; omega, by have := a.m1; omega, by have := a.m12; omega⟩
theorem pass0N {X : Cx} : Passes (L2N.CX X.prog X.w) X (fun _ _ _ => False) := fun pins σ H s e s' I c => L2N.passAt takes0N σ pins H s e s' I c
def nexts (c : List Int) : List Int := c.drop 1 ++ c.take 1
theorem nexts_len (c : List Int) : (nexts c).length = c.length := by
  unfold nexts
  rw [List.length_append, List.length_drop, List.length_take]
  omega
theorem nexts_at {c : List Int} {k : Nat} (h : k < c.length) : (nexts c)[k]? = some (cyc c (k + 1)) := by
  have e := cyc_rot (c := c) (i := 1 % c.length) (Nat.mod_lt _ (by omega)) k
  by_cases h1 : c.length = 1
  · have k0 : k = 0 := by omega
    subst k0
    obtain ⟨x, rfl⟩ : ∃ x, c = [x] := by
      match c, h1 with
      | [x], _ => exact ⟨x, rfl⟩
    simp [nexts, cyc]
  · rw [Nat.mod_eq_of_lt (by omega)] at e
    rw [← e]
    exact cyc_at (c := c.drop 1 ++ c.take 1) (k := k) (by have := nexts_len c; unfold nexts at this; omega)
theorem cut_from (xs : List V) (k : Nat) : cutV xs (some (k : Int)) none = xs.drop k := by
  unfold cutV
  rw [HT.sIx_nat, HT.sIx_none]
  by_cases h : k ≤ xs.length
  · rw [Nat.min_eq_left h, List.take_of_length_le (by rw [List.length_drop]; exact Nat.le_refl _)]
  · rw [Nat.min_eq_right (by omega), List.drop_of_length_le (Nat.le_refl _), List.drop_of_length_le (by omega), List.take_nil]
theorem cut_to (xs : List V) (k : Nat) : cutV xs none (some (k : Int)) = xs.take k := by
  unfold cutV
  rw [HT.sIx_nat, HT.sIx_none, List.drop_zero, Nat.sub_zero]
  by_cases h : k ≤ xs.length
  · rw [Nat.min_eq_left h]
  · rw [Nat.min_eq_right (by omega), List.take_of_length_le (Nat.le_refl _), List.take_of_length_le (by omega)]
/-- the names that rings.py finds -/
structure NamesR (mg : Str → Option Value) : Prop extends NamesM mg where
  set : mg "set" = none
  zip : mg "zip" = none
  sum : mg "sum" = none
  gcd : mg "gcd" = some (.builtin "math.gcd")
theorem rsum_map (f : Nat → Int) : ∀ n, ((List.range n).map f).sum = rsum f n
  | 0 => rfl
  | n + 1 => by
    rw [List.range_succ, List.map_append, List.sum_append, rsum_map f n]
    show rsum f n + (f n + 0) = _
    rw [Int.add_zero]
    rfl
section
variable {P : Program} {w : World} {K : PySem.W.Frag} {mg : Str → Option Value} {base : Heap}
/-- the mean of a ring -/
def spMean (K : PySem.W.Frag) (C : Addr) : Sp := fun vs H Q _ => ∃ (p a : Addr) (m : Int) (ts : List Addr) (ws : List Way) (c : List Int), vs = [.ref p, .ref a] ∧ Askable C H p m ts ws ∧ SqL K H a (c.map V.int) ∧ RingOk m ws c ∧
  ∀ (T : Addr) (n d : Int) (H' : Hp), Same H H' → H T = none → H' T = some (.tup [.int n, .int d]) → 0 ≤ n → n ≤ 9999 * 12 → 1 ≤ d → d ≤ 12 → n * c.length = total ws c * d → Int.gcd n d = 1 → Q (.ref T) H'
theorem scMe : FnScope ["web", "ring", "delays", "one", "other"] ["web", "ring"] (defScope sMean) := ⟨rfl, rfl, rfl, by decide +kernel, rfl, by decide +kernel, by decide +kernel⟩
theorem ok_mean {f fD fL C CM CN : Addr} {fd fdD fdL : FuncData} (F : Fun K "mean" "mean" sMean f fd) (FL : Fun K "lowest" "lowest" sLowest fL fdL) (W : WebT K mg C) (Z : NamesR mg) (TN : ErrT K mg "NoRing" CN)
    (GD : FnOk P w K mg base (L2N.CX P w) 3 fD fdD ["self", "one", "other"] (spDelayM C CM)) (mD : Meth K C "delay" fD) (bD : Binds K fdD ["self", "one", "other"] []) (gL : mg "lowest" = some (.ref fL)) (bL : Binds K fdL ["number", "divisor"] []) :
    FnOk P w K mg base (L2N.CX P w) 4 f fd ["web", "ring"] (spMean K C) := by
  have GL : FnOk P w K mg base CX0 1 fL fdL ["number", "divisor"] spLow := ok_lowest FL Z.gcd
  refine Fun.okN F scMe (fun vs H Q E h => ?_) (fun cdv A outer s H vs Q E hr h => ?_)
  · obtain ⟨p, a, m, ts, ws, c, rfl, _⟩ := h
    rfl
  · obtain ⟨p, a, m, ts, ws, c, rfl, hA, hS, hR, hQ⟩ := h
    obtain ⟨dx, b, tt, w0⟩ := hA.web.is
    have hr3 : Room 3 _ := hr
    have hr1 : Room 1 _ := hr.mono (by decide)
    have nD1 : (webF m b tt).lookup ("delay" : Str) = none := webF_no _ _ _ (by decide +kernel) (by decide +kernel) (by decide +kernel)
    refine ⟨_, pss_cons (ps_setLc (i := 2) (own := [("one", 3), ("other", 4)]) (g := gTup K 2 (gCons (gName 3) (gCons (gName 4) gNil))) rfl scMe.nd rfl rfl (sw_true rfl rfl rfl (by decide +kernel)) (pi_zip (by rfl) Z.zip (pa_cons (pv 1) (pa_cons (pe_op op_cat (pe_slice sl_list (pv 1) (po_some pe_int) po_none) (pe_slice sl_list (pv 1) po_none (po_some pe_int))) pa_nil)))
        (blkOk_by (own := [("one", 3), ("other", 4)]) (N := ["web", "ring", "delays", "one", "other"]) (sc := defScope sMean) (by decide +kernel))
        (by intro s1 H1 C1 cl fp; exact pg_tup rfl (pgs_cons (pg_name (i := 3) scMe.nd rfl (.inl rfl)) (pgs_cons (pg_name (i := 4) scMe.nd rfl (.inl rfl)) pgs_nil)))
        (fun _ _ _ _ _ => pts_nil) (fun _ _ _ _ _ => pe_meth (pv 0) W.cl mD GD hr3 bD .nil pass0N (pa_cons (pv 3) (pa_cons (pv 4) pa_nil))))
      (pss_cons (ps_if (pt_not (pt_truth (pv 1) (by intro _; rfl))) (pss_one (L2N.ps_raise rfl (L2N.takes_of rfl rfl rfl rfl) (L2N.pmk_own PySem.F.excBase_ValueError TN.q TN.g TN.kp TN.r rfl))) pss_nil)
      (pss_cons (ps_if (pt_cmpR op_lt (pe_lenSetN (by rfl) Z.len (by rfl) Z.set (pv 1)) (pe_callB call_len_seq (by rfl) Z.len PySem.boot_len (pa_cons (pv 1) pa_nil)) (nomark _)) (pss_one (L2N.ps_raise rfl (L2N.takes_of rfl rfl rfl rfl) (L2N.pmk_own PySem.F.excBase_ValueError TN.q TN.g TN.kp TN.r rfl))) pss_nil)
      (pss_cons (ps_if (pt_cmpR op_in_seq pe_non (pv 2) (by rfl)) (pss_one (L2N.ps_raise rfl (L2N.takes_of rfl rfl rfl rfl) (L2N.pmk_own PySem.F.excBase_ValueError TN.q TN.g TN.kp TN.r rfl))) pss_nil)
      (pss_one (ps_ret (pe_call GL hr1 rfl gL FL.kp bL .nil pass0 (pa_cons (pe_callB (cr_sum rfl) (by rfl) Z.sum (by decide +kernel) (pa_cons (pv 2) pa_nil)) (pa_cons (pe_callB call_len_seq (by rfl) Z.len PySem.boot_len (pa_cons (pv 1) pa_nil)) pa_nil)))))))), ?_⟩
    have cl : c.length ≤ 12 := by
      obtain ⟨n, e, _, n12⟩ := hA.nat
      subst e
      exact Nat.le_trans hR.len n12
    have cp := hR.pos
    have nx : cutV (c.map V.int) (some 1) none ++ cutV (c.map V.int) none (some 1) = (nexts c).map V.int := by
      have e1 := cut_from (c.map V.int) 1
      have e2 := cut_to (c.map V.int) 1
      unfold nexts
      rw [List.map_append, List.map_drop, List.map_take]
      rw [← e1, ← e2]
      rfl
    refine ⟨_, rfl, _, rfl, _, rfl, a, _, rfl, hS, fun p1 n1 => ⟨_, rfl, _, rfl, a, _, rfl, (same_new (Same.refl _) n1).seq hS, fun p2 n2 => ?_⟩⟩
    have p12 : p1 ≠ p2 := ne_of_none upd_same n2
    refine ⟨p1, p2, _, _, rfl, rfl, (by rw [upd_ne p12, upd_same]), upd_same, ?_, fun p3 n3 => ?_⟩
    · have e1 := cutV_length (c.map V.int) (some 1) none
      have e2 := cutV_length (c.map V.int) none (some 1)
      rw [List.length_map] at e1 e2
      rw [sizeLine_eq]
      omega
    rw [nx]
    have s3 : Same H (upd (upd (upd H p1 (.lst (cutV (c.map V.int) (some 1) none))) p2 (.lst (cutV (c.map V.int) none (some 1)))) p3 (.lst ((nexts c).map V.int))) := same_new (same_new (same_new (Same.refl _) n1) n2) n3
    obtain ⟨H3, hH3⟩ : ∃ H3, H3 = upd (upd (upd H p1 (.lst (cutV (c.map V.int) (some 1) none))) p2 (.lst (cutV (c.map V.int) none (some 1)))) p3 (.lst ((nexts c).map V.int)) := ⟨_, rfl⟩
    have hp3 : H3 p3 = some (.lst ((nexts c).map V.int)) := by rw [hH3]; exact upd_same
    rw [← hH3] at s3 ⊢
    clear hH3
    refine ⟨a, p3, _, _, rfl, s3.seq hS, SqL.of hp3, fun D nD => lc_it (walk_zip (xs := c.map V.int) (ys := (nexts c).map V.int) (n := c.length) (by rw [List.length_map, List.length_map, nexts_len, Nat.min_self])) (fun i H' => Same H3 H' ∧ H' D = some (.lst (((List.range i).map fun k => gd ws (cyc c k) (cyc c (k + 1))).map V.int))) ⟨same_new (Same.refl _) nD, upd_same⟩ (fun i H' _ hh => ⟨hh.1.seq (s3.seq hS), SqL.of (hh.1 _ _ hp3)⟩) ?_ ?_⟩
    · rintro i x H' H'' hi ⟨sm, hD⟩ ⟨T, y1, y2, rfl, nT, rfl, h1, h2⟩
      have e1 : (c.map V.int)[i]? = some (.int (cyc c i)) := by rw [List.getElem?_map, cyc_at hi]; rfl
      have e2 : ((nexts c).map V.int)[i]? = some (.int (cyc c (i + 1))) := by rw [List.getElem?_map, nexts_at hi]; rfl
      obtain rfl : V.int (cyc c i) = y1 := Option.some.inj (e1.symm.trans h1)
      obtain rfl : V.int (cyc c (i + 1)) = y2 := Option.some.inj (e2.symm.trans h2)
      have sT := same_new (o := .tup [.int (cyc c i), .int (cyc c (i + 1))]) (Same.refl H') nT
      have sA := (s3.trans sm).trans sT
      refine ⟨T, _, rfl, SqT.of upd_same, rfl, _, _, rfl, _, _, rfl, rfl, rfl, ?_⟩
      refine ⟨_, rfl, p, dx, _, rfl, sA _ _ w0.o, nD1, _, rfl, _, rfl, ?_⟩
      have r1 := hR.rg _ (cyc_mem hR.ne i)
      have r2 := hR.rg _ (cyc_mem hR.ne (i + 1))
      refine ⟨p, _, _, m, ts, ws, rfl, hA.web.same sA, (by have := hA.l; omega), fun z => absurd ⟨r1, r2⟩ z, fun _ H4 s4 => ?_⟩
      rw [fromW_dl]
      have mx := gd_max (hR.way i hi)
      refine ⟨fun z => absurd z (hR.way i hi), fun d hd hm => ?_⟩
      obtain rfl : d = gd ws (cyc c i) (cyc c (i + 1)) := IsMax.one ⟨hd, hm⟩ mx
      have hD4 := (sT.trans s4) _ _ hD
      refine ⟨_, hD4, small1000 (by rw [List.length_map, List.length_map, List.length_range]; omega), same_put (sm.trans (sT.trans s4)) nD, ?_⟩
      rw [upd_same, List.range_succ, List.map_append, List.map_append]
      rfl
    · rintro H4 ⟨sm, hD⟩
      have sA := s3.trans sm
      have hS4 := sA.seq hS
      have fl : ((((List.range c.length).map fun k => gd ws (cyc c k) (cyc c (k + 1))).map V.int)).all flatV = true := flat_ints _
      have ni : inV .non (((List.range c.length).map fun k => gd ws (cyc c k) (cyc c (k + 1))).map V.int) = false := by
        unfold inV
        rw [List.any_eq_false]
        intro x hx
        obtain ⟨z, _, rfl⟩ := List.mem_map.mp hx
        exact fun h => nomatch h
      refine ⟨_, rfl, _, .inl ⟨_, hS4, rfl⟩, ?_⟩
      rw [show (c.map V.int).isEmpty = false by rw [List.isEmpty_eq_false_iff]; exact fun e => hR.ne (List.map_eq_nil_iff.mp e)]
      refine iteF ?_
      refine ⟨_, rfl, a, c, rfl, hS4, (by omega), fun n e1 _ => ?_⟩
      obtain rfl := e1 hR.nd
      refine ⟨_, rfl, a, _, rfl, .inl hS4, _, _, rfl, rfl, _, rfl, ?_⟩
      rw [List.length_map, decide_eq_false (by omega)]
      refine iteF ⟨_, rfl, D, _, rfl, .inl (SqL.of hD), rfl, fl, _, rfl, ?_⟩
      rw [if_neg (by decide), ni]
      refine iteF ⟨_, rfl, D, _, rfl, SqL.of hD, _, rfl, a, _, rfl, .inl hS4, ?_⟩
      rw [List.length_map, rsum_map]
      have tb := hR.total_bd hA.ok.delays
      refine ⟨_, _, rfl, tb.1, (by omega), (by omega), fun T n d H5 s5 nT hT n0 d1 nle dle eq hg => hQ T n d H5 (sA.trans s5) (sA.free nT) hT n0 (by have := tb.2; show n ≤ 9999 * 12; have e : total ws c = rsum _ c.length := rfl; omega) d1 (by omega) ?_ hg⟩
      exact eq
end
end Mp
/-! ## P7D -/
set_option Elab.async false
set_option linter.all false
set_option maxRecDepth 100000
set_option maxHeartbeats 4000000
namespace Mp
open PySem PySem.Spec PyProof.Rows L2
/-! ### the next times -/
/-- over the ways us, from the times ns: what stands at meeting j -/
def NextAt (us : List Way) (ns : List Int) (j r : Int) : Prop := (∃ v ∈ us, v.2.1 = j ∧ ∃ t, ns[v.1.toNat]? = some t ∧ r = t + v.2.2) ∧ ∀ v ∈ us, v.2.1 = j → ∀ t, ns[v.1.toNat]? = some t → t + v.2.2 ≤ r
def NextI (m : Int) (ws : List Way) (ns rs : List Int) : Prop := (rs.length : Int) = m ∧ ∀ (j : Nat) (r : Int), rs[j]? = some r → NextAt ws ns j r
theorem NextAt.one {us : List Way} {ns : List Int} {j r s : Int} (a : NextAt us ns j r) (b : NextAt us ns j s) : r = s := by
  obtain ⟨⟨v, hv, e, t, ht, hr⟩, ha⟩ := a
  obtain ⟨⟨u, hu, e', t', ht', hs⟩, hb⟩ := b
  have h1 := ha u hu e' t' ht'
  have h2 := hb v hv e t ht
  omega
theorem NextI.one {m : Int} {ws : List Way} {ns rs qs : List Int} (a : NextI m ws ns rs) (b : NextI m ws ns qs) : rs = qs := by
  have hl : rs.length = qs.length := by have := a.1; have := b.1; omega
  refine List.ext_getElem? fun j => ?_
  cases e : rs[j]? with
  | none =>
    have := List.getElem?_eq_none_iff.mp e
    exact (List.getElem?_eq_none_iff.mpr (by omega)).symm
  | some r =>
    have hj := (List.getElem?_eq_some_iff.mp e).1
    obtain ⟨s, hs⟩ : ∃ s, qs[j]? = some s := ⟨_, List.getElem?_eq_getElem (by omega)⟩
    rw [hs, (a.2 j r e).one (b.2 j s hs)]
/-- what the list found holds behind some ways -/
def FoundAt (us : List Way) (ns : List Int) (j : Int) (v : V) : Prop := (v = .non ∧ ∀ w ∈ us, w.2.1 ≠ j) ∨ ∃ r, v = .int r ∧ NextAt us ns j r
theorem FoundAt.skip {us : List Way} {ns : List Int} {j : Int} {v : V} {w : Way} (h : FoundAt us ns j v) (e : w.2.1 ≠ j) : FoundAt (us ++ [w]) ns j v := by
  rcases h with ⟨h1, h2⟩ | ⟨r, h1, ⟨u, hu, h2⟩, h3⟩
  · refine .inl ⟨h1, fun u hu => ?_⟩
    rcases List.mem_append.mp hu with h | h
    · exact h2 u h
    · rw [show u = w by simpa using h]; exact e
  · refine .inr ⟨r, h1, ⟨u, List.mem_append_left _ hu, h2⟩, fun u' hu' eu => ?_⟩
    rcases List.mem_append.mp hu' with h | h
    · exact h3 u' h eu
    · rw [show u' = w by simpa using h] at eu; exact absurd eu e
theorem FoundAt.keep {us : List Way} {ns : List Int} {j r t : Int} {w : Way} (h : NextAt us ns j r) (ht : ns[w.1.toNat]? = some t) (le : t + w.2.2 ≤ r) : NextAt (us ++ [w]) ns j r := by
  obtain ⟨⟨u, hu, h2⟩, h3⟩ := h
  refine ⟨⟨u, List.mem_append_left _ hu, h2⟩, fun u' hu' eu t' ht' => ?_⟩
  rcases List.mem_append.mp hu' with h | h
  · exact h3 u' h eu t' ht'
  · have e : u' = w := by simpa using h
    subst e
    rw [ht] at ht'
    cases ht'
    exact le
theorem FoundAt.put {us : List Way} {ns : List Int} {j t : Int} {v : V} {w : Way} (h : FoundAt us ns j v) (e : w.2.1 = j) (ht : ns[w.1.toNat]? = some t) (lt : ∀ r, v = .int r → r < t + w.2.2) : NextAt (us ++ [w]) ns j (t + w.2.2) := by
  refine ⟨⟨w, List.mem_append_right _ List.mem_cons_self, e, t, ht, rfl⟩, fun u hu eu t' ht' => ?_⟩
  rcases List.mem_append.mp hu with hu | hu
  · rcases h with ⟨_, h2⟩ | ⟨r, h1, _, h3⟩
    · exact absurd eu (h2 u hu)
    · have := h3 u hu eu t' ht'
      have := lt r h1
      omega
  · have q : u = w := by simpa using hu
    subst q
    rw [ht] at ht'
    cases ht'
    exact Int.le_refl _
theorem flat_rep {n : Nat} : (List.replicate n [V.non]).flatten = List.replicate n V.non := by
  induction n with
  | zero => rfl
  | succ n ih => rw [List.replicate_succ, List.flatten_cons, ih]; rfl
theorem ix_n {n : Nat} {i : Int} (h0 : 0 ≤ i) (h1 : i < n) : ixN n i = some i.toNat := by
  unfold ixN
  rw [if_pos h0, if_pos h1]
theorem at_i {xs : List V} {i : Int} {v : V} (h0 : 0 ≤ i) (h : xs[i.toNat]? = some v) : atI xs i = some v := by
  have e : i = ((i.toNat : Nat) : Int) := by omega
  rw [e]
  exact atI_nat h
theorem all_ints {xs : List V} (h : ∀ (j : Nat) (v : V), xs[j]? = some v → ∃ r : Int, v = .int r) : ∃ rs : List Int, xs = rs.map V.int := by
  induction xs with
  | nil => exact ⟨[], rfl⟩
  | cons v r ih =>
    obtain ⟨rs, e⟩ := ih fun j u hu => h (j + 1) u hu
    obtain ⟨x, hx⟩ := h 0 v rfl
    exact ⟨x :: rs, by rw [hx, e]; rfl⟩
end Mp
/-! ## PBehind -/
set_option Elab.async false
set_option linter.all false
set_option maxRecDepth 100000
set_option maxHeartbeats 4000000
namespace Mp
open PySem PySem.Spec PyProof.Rows L2
/-! ### walks, whatever stands in their body -/
theorem it_gen {J : It} {n : Nat} {G : Hp → Prop} {Y : Nat → Hp → V → Hp → Prop} (w : Walk J n G Y) {body : (Hp → Prop) → V → Hp → Prop} {H0 : Hp} {Qd : Hp → Prop} (Pv : Nat → Hp → Prop) (h0 : Pv 0 H0) (hG : ∀ i H, i ≤ n → Pv i H → G H)
    (hs : ∀ i x H H', i < n → Pv i H → Y i H x H' → body (Pv (i + 1)) x H') (hd : ∀ H, Pv n H → Qd H) :
    ∃ W : Nat → Nat → Hp → Prop, (∃ m, W 0 m H0) ∧ ∀ i m H, W i m H → (J.stop i H ∧ Qd H) ∨ (J.go i H ∧ ∃ N : Hp → Prop, (∀ H', N H' → ∃ m', m' < m ∧ W (i + 1) m' H') ∧ ∀ x H', J.yld i H x H' → body N x H') := by
  refine ⟨fun i m H => m = n - i ∧ i ≤ n ∧ Pv i H, ⟨n - 0, rfl, Nat.zero_le _, h0⟩, fun i m H ⟨em, hi, p⟩ => ?_⟩
  subst em
  have g := hG i H hi p
  rcases Nat.lt_or_ge i n with h | h
  · exact .inr ⟨w.goes i H h g, Pv (i + 1), fun H' p' => ⟨n - (i + 1), by omega, rfl, h, p'⟩, fun x H' y => hs i x H H' h p (w.yields i H x H' h g y)⟩
  · obtain rfl : i = n := by omega
    exact .inl ⟨w.stops H g, hd H p⟩
/-! ### lists by meeting -/
def optV : Option Int → V
  | none => .non
  | some x => .int x
def hl (m : Nat) (h : Int → Int) : List V := (List.range m).map fun i : Nat => V.int (h (i : Int))
def bl (m : Nat) (b : Int → Option Int) : List V := (List.range m).map fun i : Nat => optV (b (i : Int))
theorem map_set {α : Type} (m i : Nat) (f : Nat → α) (v : α) : ((List.range m).map f).set i v = (List.range m).map fun j => if j = i then v else f j := by
  refine List.ext_getElem? fun k => ?_
  by_cases hk : k < m
  · rw [List.getElem?_map, List.getElem?_range hk]
    by_cases e : k = i
    · subst e
      rw [List.getElem?_set_self (by rw [List.length_map, List.length_range]; exact hk)]
      simp
    · rw [List.getElem?_set_ne (fun z => e z.symm), List.getElem?_map, List.getElem?_range hk]
      simp [e]
  · rw [List.getElem?_eq_none (by rw [List.length_set, List.length_map, List.length_range]; omega), List.getElem?_eq_none (by rw [List.length_map, List.length_range]; omega)]
theorem hl_len (m : Nat) (h : Int → Int) : (hl m h).length = m := by unfold hl; rw [List.length_map, List.length_range]
theorem bl_len (m : Nat) (b : Int → Option Int) : (bl m b).length = m := by unfold bl; rw [List.length_map, List.length_range]
theorem map_at {α : Type} {m : Nat} {x : Int} (f : Nat → α) (h0 : 0 ≤ x) (h1 : x < m) : ((List.range m).map f)[x.toNat]? = some (f x.toNat) := by
  rw [List.getElem?_map, List.getElem?_range (by omega)]
  rfl
theorem hl_at {m : Nat} {x : Int} (h : Int → Int) (h0 : 0 ≤ x) (h1 : x < m) : atI (hl m h) x = some (.int (h x)) := by
  refine at_i h0 ?_
  have := map_at (fun i : Nat => V.int (h (i : Int))) h0 h1
  rw [show (((x.toNat : Nat) : Int)) = x by omega] at this
  exact this
theorem bl_at {m : Nat} {x : Int} (b : Int → Option Int) (h0 : 0 ≤ x) (h1 : x < m) : atI (bl m b) x = some (optV (b x)) := by
  refine at_i h0 ?_
  have := map_at (fun i : Nat => optV (b (i : Int))) h0 h1
  rw [show (((x.toNat : Nat) : Int)) = x by omega] at this
  exact this
theorem hl_set {m : Nat} {x : Int} (h : Int → Int) (v : Int) (h0 : 0 ≤ x) : (hl m h).set x.toNat (.int v) = hl m (fset h x v) := by
  unfold hl
  rw [map_set]
  refine List.map_congr_left fun j _ => ?_
  by_cases e : j = x.toNat
  · have : (j : Int) = x := by omega
    rw [if_pos e, this, fset_same]
  · rw [if_neg e, fset_ne (by omega)]
theorem bl_set {m : Nat} {x : Int} (b : Int → Option Int) (v : Int) (h0 : 0 ≤ x) : (bl m b).set x.toNat (.int v) = bl m (fset b x (some v)) := by
  unfold bl
  rw [map_set]
  refine List.map_congr_left fun j _ => ?_
  by_cases e : j = x.toNat
  · have : (j : Int) = x := by omega
    rw [if_pos e, this, fset_same]
    rfl
  · rw [if_neg e, fset_ne (by omega)]
theorem hl_ints (m : Nat) (h : Int → Int) : ∃ ss : List Int, hl m h = ss.map V.int ∧ ss.length = m ∧ ∀ x : Int, 0 ≤ x → x < m → ss.getD x.toNat 0 = h x := by
  refine ⟨(List.range m).map fun i : Nat => h (i : Int), by unfold hl; rw [List.map_map]; rfl, by rw [List.length_map, List.length_range], fun x h0 h1 => ?_⟩
  rw [List.getD_eq_getElem?_getD, map_at _ h0 h1]
  show h ((x.toNat : Nat) : Int) = h x
  rw [show (((x.toNat : Nat) : Int)) = x by omega]
/-- the names that paces.py finds -/
structure NamesQ (mg : Str → Option Value) : Prop extends NamesR mg where
  min : mg "min" = none
theorem ints_at {c : List Int} {k : Nat} (h : k < c.length) : (c.map V.int)[k]? = some (.int (cyc c k)) := by rw [List.getElem?_map, cyc_at h]; rfl
theorem cyc_snoc {t : List Int} {x : Int} {k : Nat} (h : k < t.length) : cyc (t ++ [x]) k = cyc t k := cyc_of (by rw [List.getElem?_append_left h]; exact cyc_at h)
theorem cyc_last {t : List Int} {x : Int} : cyc (t ++ [x]) t.length = x := cyc_of (by rw [List.getElem?_append_right (Nat.le_refl _), Nat.sub_self]; rfl)
theorem eqV_int (x y : Int) : eqV (.int x) (.int y) = decide (x = y) := by
  by_cases e : x = y
  · subst e; simp [eqV]
  · simp [eqV, e]
/-- the first place of x -/
theorem first_ix {c : List Int} {x : Int} (h : x ∈ c) : ∃ j, j < c.length ∧ cyc c j = x ∧ ∀ k, k < j → cyc c k ≠ x := by
  obtain ⟨j, hj, e⟩ := cyc_ix h
  have key : ∀ n, n < c.length → cyc c n = x → ∃ j, j < c.length ∧ cyc c j = x ∧ ∀ k, k < j → cyc c k ≠ x := by
    intro n
    induction n using Nat.strongRecOn with
    | _ n ih =>
      intro hn en
      by_cases q : ∃ k, k < n ∧ cyc c k = x
      · obtain ⟨k, hk, ek⟩ := q
        exact ih k hk (by omega) ek
      · exact ⟨n, hn, en, fun k hk ek => q ⟨k, hk, ek⟩⟩
  exact key j hj e
section
variable {P : Program} {w : World} {K : PySem.W.Frag} {mg : Str → Option Value} {base : Heap}
/-- going back -/
def spBehind : Sp := fun vs H Q _ => ∃ (a : Addr) (x : Int) (m : Nat) (b : Int → Option Int) (r : Int → Nat), vs = [.ref a, .int x] ∧ H a = some (.lst (bl m b)) ∧ m ≤ 12 ∧ Behind m b r ∧ 0 ≤ x ∧ x < m ∧ m ≤ r x ∧
  ∀ (D : Addr) (c : List Int) (H' : Hp), Same H H' → H D = none → H' D = some (.lst (c.map V.int)) → c ≠ [] → c.Nodup → (∀ y ∈ c, 0 ≤ y ∧ y < m) → Back b c → (∀ y ∈ c, cyc c 0 ≤ y) → Q (.ref D) H'
theorem scBe : FnScope ["before", "meeting", "trail", "ring", "least"] ["before", "meeting"] (defScope sRingBehind) := ⟨rfl, rfl, rfl, by decide +kernel, rfl, by decide +kernel, by decide +kernel⟩
theorem ok_behind {f : Addr} {fd : FuncData} (F : Fun K "_ring_behind" "_ring_behind" sRingBehind f fd) (Z : NamesQ mg) : FnOk P w K mg base CX0 1 f fd ["before", "meeting"] spBehind := by
  refine F.ok scBe (fun vs H Q E h => ?_) (fun cdv A outer s H vs Q E hr h => ?_)
  · obtain ⟨a, x, m, b, r, rfl, _⟩ := h
    rfl
  · obtain ⟨a, x, m, b, r, rfl, hS, m12, hB, x0, x1, hrx, hQ⟩ := h
    refine ⟨_, pss_cons (ps_set (i := 2) scBe.nd rfl (.inl rfl) (pe_lst pa_nil))
      (pss_cons (ps_while PassesOwn.never (pt_cmpR op_notIn_seq (pv 1) (pv 2) (by rfl))
        (pss_cons (ps_expr (pe_bm PySem.F.plainAttrs_list PySem.F.slot_list_append PySem.F.type_list_append mt_append (pv 2) (pa_cons (pv 1) pa_nil)))
          (pss_one (ps_set (i := 1) scBe.nd rfl (.inl rfl) (pe_ix ix_list (pv 0) (pv 1) (fun _ _ => rfl))))))
      (pss_cons (ps_set (i := 3) scBe.nd rfl (.inl rfl) (pe_revL (pe_slice sl_list (pv 2) (po_some (pe_bm PySem.F.plainAttrs_list PySem.F.slot_list_index PySem.F.type_list_index mt_index (pv 2) (pa_cons (pv 1) pa_nil))) po_none)))
      (pss_cons (ps_set (i := 4) scBe.nd rfl (.inl rfl) (pe_bm PySem.F.plainAttrs_list PySem.F.slot_list_index PySem.F.type_list_index mt_index (pv 3) (pa_cons (pe_callB (cr_min rfl) (by rfl) Z.min (by decide +kernel) (pa_cons (pv 3) pa_nil)) pa_nil)))
      (pss_one (ps_ret (pe_op op_cat (pe_slice sl_list (pv 3) (po_some (pv 4)) po_none) (pe_slice sl_list (pv 3) po_none (po_some (pv 4))))))))), ?_⟩
    refine ⟨Nat.zero_le _, fun D nD => ?_⟩
    have nDH : H D = none := nD
    have aD : a ≠ D := ne_of_none hS nD
    refine while_by (fun σ H' => ∃ (t : List Int) (y : Int), σ = [some (.ref a), some (.int y), some (.ref D), none, none] ∧ Same H H' ∧ H' D = some (.lst (t.map V.int)) ∧ t.Nodup ∧ (∀ z ∈ t, 0 ≤ z ∧ z < m) ∧ 0 ≤ y ∧ y < m ∧ m ≤ r y + t.length ∧ (∀ k, k + 1 < t.length → b (cyc t k) = some (cyc t (k + 1))) ∧ (t ≠ [] → b (cyc t (t.length - 1)) = some y))
      (fun σ H' => 12 - (match H' D with | some (.lst xs) => xs.length | _ => 0)) ⟨[], x, rfl, same_new (Same.refl _) nD, upd_same, List.nodup_nil, nofun, x0, x1, by simpa using hrx, fun k hk => absurd hk (by simp), fun z => absurd rfl z⟩ ?_ ?_
    · rintro σ H' ⟨t, y, rfl, sm, hD, nd, rg, y0, y1, hy, hed, hlast⟩
      have tl : t.length ≤ m := nodup_le m t nd rg
      refine ⟨_, rfl, _, rfl, D, _, rfl, .inl (SqL.of hD), rfl, flat_ints t, _, rfl, ?_⟩
      rw [if_pos rfl, any_int]
      by_cases hin : y ∈ t
      · rw [decide_eq_true hin]
        refine iteF ?_
        obtain ⟨j, hj, ej, hfirst⟩ := first_ix hin
        have lastB : b (cyc t (t.length - 1)) = some (cyc t j) := by rw [ej]; exact hlast (fun e => by rw [e] at hin; cases hin)
        have eq1 : eqV (.int (cyc t j)) (.int y) = true := by rw [eqV_int, ej]; exact decide_eq_true rfl
        refine ⟨_, rfl, _, rfl, .inl ⟨rfl, _, SqL.of hD⟩, _, rfl, D, _, .int y, j, .int (cyc t j), rfl, rfl, SqL.of hD, rfl, flat_ints t, ints_at hj, eq1, fun k z hk hz => ?_, _, rfl, D, _, rfl, SqL.of hD, fun p1 n1 => ?_⟩
        · rw [ints_at (by omega)] at hz
          cases hz
          rw [eqV_int]
          exact decide_eq_false (hfirst k hk)
        rw [cut_from, ← List.map_drop]
        refine ⟨p1, _, rfl, SqL.of upd_same, fun p2 n2 => ?_⟩
        rw [← List.map_reverse]
        have B := back_of_trail hj hed lastB
        obtain ⟨c, hc⟩ : ∃ c, c = (t.drop j).reverse := ⟨_, rfl⟩
        rw [← hc] at B ⊢
        have cne : c ≠ [] := fun e => by
          have := congrArg List.length (hc.symm.trans e)
          rw [List.length_reverse, List.length_drop, List.length_nil] at this
          omega
        have cnd : c.Nodup := by rw [hc]; exact nodup_rev (nd.sublist (List.drop_sublist _ _))
        have crg : ∀ z ∈ c, 0 ≤ z ∧ z < m := fun z hz => rg z (by rw [hc] at hz; exact List.mem_of_mem_drop (List.mem_reverse.mp hz))
        clear hc
        have s2 : Same H (upd (upd H' p1 (.lst ((t.drop j).map V.int))) p2 (.lst (c.map V.int))) := same_new (same_new sm n1) n2
        obtain ⟨H2, hH2⟩ : ∃ H2, H2 = upd (upd H' p1 (.lst ((t.drop j).map V.int))) p2 (.lst (c.map V.int)) := ⟨_, rfl⟩
        have hp2 : H2 p2 = some (.lst (c.map V.int)) := by rw [hH2]; exact upd_same
        rw [← hH2] at s2 ⊢
        clear hH2
        refine ⟨_, rfl, .inl ⟨rfl, _, SqL.of hp2⟩, _, rfl, p2, c, rfl, SqL.of hp2, List.length_pos_iff.mpr cne, fun lo hlo hle => ?_⟩
        obtain ⟨i, hi, ei, hfi⟩ := first_ix hlo
        have eq2 : eqV (.int (cyc c i)) (.int lo) = true := by rw [eqV_int, ei]; exact decide_eq_true rfl
        refine ⟨p2, _, .int lo, i, .int (cyc c i), rfl, rfl, SqL.of hp2, rfl, flat_ints c, ints_at hi, eq2, fun k z hk hz => ?_, ?_⟩
        · rw [ints_at (by omega)] at hz
          cases hz
          rw [eqV_int]
          exact decide_eq_false (hfi k hk)
        refine ⟨_, rfl, _, rfl, _, rfl, p2, _, rfl, SqL.of hp2, fun p3 n3 => ?_⟩
        rw [cut_from, ← List.map_drop]
        have hp2' : (upd H2 p3 (.lst ((c.drop i).map V.int))) p2 = some (.lst (c.map V.int)) := by rw [upd_ne (ne_of_none hp2 n3)]; exact hp2
        refine ⟨_, rfl, _, rfl, _, rfl, p2, _, rfl, SqL.of hp2', fun p4 n4 => ?_⟩
        rw [cut_to, ← List.map_take]
        have p34 : p3 ≠ p4 := ne_of_none upd_same n4
        have cl : c.length ≤ m := nodup_le m c cnd crg
        refine ⟨p3, p4, _, _, rfl, rfl, (by rw [upd_ne p34, upd_same]), upd_same, ?_, fun q nq => ?_⟩
        · rw [List.length_map, List.length_map, List.length_drop, List.length_take, sizeLine_eq]
          omega
        rw [← List.map_append]
        have mem : ∀ z, z ∈ c.drop i ++ c.take i ↔ z ∈ c := fun z => by
          rw [List.mem_append, Or.comm, ← List.mem_append, List.take_append_drop]
        have pm : (c.drop i ++ c.take i).Perm c := by
          have := List.perm_append_comm (l₁ := c.drop i) (l₂ := c.take i)
          rw [List.take_append_drop] at this
          exact this
        refine hQ q (c.drop i ++ c.take i) _ (same_new (same_new (same_new s2 n3) n4) nq) ?_ upd_same (fun e => ?_) (pm.nodup_iff.mpr cnd) (fun z hz => crg z ((mem z).mp hz)) (back_rot hi B) fun z hz => ?_
        · exact (same_new (same_new s2 n3) n4).free nq
        · have := pm.length_eq
          rw [e, List.length_nil] at this
          omega
        · rw [cyc_rot hi, Nat.zero_add, ei]
          exact hle z ((mem z).mp hz)
      · rw [decide_eq_false hin]
        refine iteT ?_
        have nd' : (t ++ [y]).Nodup := by
          rw [List.nodup_append]
          exact ⟨nd, by simp, fun z hz u hu e => hin (by rw [← List.mem_singleton.mp hu, ← e]; exact hz)⟩
        have rg' : ∀ z ∈ t ++ [y], 0 ≤ z ∧ z < m := fun z hz => by
          rcases List.mem_append.mp hz with h | h
          · exact rg z h
          · rw [List.mem_singleton.mp h]; exact ⟨y0, y1⟩
        have tl' := nodup_le m (t ++ [y]) nd' rg'
        have ll : (t ++ [y]).length = t.length + 1 := by rw [List.length_append]; rfl
        obtain ⟨u, hu, u0, u1, ru⟩ := hB.some y y0 y1 (by omega)
        refine ⟨_, rfl, .inl ⟨rfl, _, SqL.of hD⟩, _, rfl, D, _, _, rfl, rfl, hD, small1000 (by rw [List.length_map]; omega), ?_⟩
        have hS2 : (upd H' D (.lst (t.map V.int ++ [V.int y]))) a = some (.lst (bl m b)) := by rw [upd_ne aD]; exact sm _ _ hS
        refine ⟨_, rfl, _, rfl, a, _, _, _, rfl, rfl, SqL.of hS2, bl_at b y0 y1, ?_⟩
        rw [hu]
        refine ⟨⟨t ++ [y], u, rfl, same_put sm nDH, by rw [upd_same, List.map_append]; rfl, nd', rg', u0, u1, by omega, fun k hk => ?_, fun _ => ?_⟩, ?_⟩
        · rw [ll] at hk
          by_cases e : k + 1 < t.length
          · rw [cyc_snoc (by omega), cyc_snoc e]
            exact hed k e
          · have ek : k + 1 = t.length := by omega
            rw [cyc_snoc (by omega), ek, cyc_last]
            have := hlast (fun z => by rw [z] at ek; cases ek)
            rw [show t.length - 1 = k by omega] at this
            exact this
        · rw [ll, Nat.add_sub_cancel, cyc_last]
          exact hu
        · show 12 - (match upd H' D _ D with | some (.lst xs) => xs.length | _ => 0) < 12 - (match H' D with | some (.lst xs) => xs.length | _ => 0)
          rw [hD, upd_same]
          show 12 - (t.map V.int ++ [V.int y]).length < 12 - (t.map V.int).length
          rw [List.length_append, List.length_map]
          show 12 - (t.length + 1) < _
          omega
    · rintro σ H Q Q' h ⟨x1, h1, x2, h2, p, xs, e1, e2, e3, e4, z, ez, q⟩
      exact ⟨x1, h1, x2, h2, p, xs, e1, e2, e3, e4, z, ez, h _ _ q⟩
end
end Mp
/-! ## PSteps -/
set_option Elab.async false
set_option linter.all false
set_option maxRecDepth 100000
set_option maxHeartbeats 4000000
namespace Mp
open PySem PySem.Spec PyProof.Rows L2
/-! ### the steps for a pace -/
def stepsI (ws : List Way) (N D : Int) (o : Nat) (k : Nat) : List Way := ((intoW ws (o : Int)).take k).map fun q => (q.1, (o : Int), D * q.2 - N)
def stepsU (ws : List Way) (N D : Int) (n : Nat) : List Way := (List.range n).flatMap fun o => stepsI ws N D o (intoW ws (o : Int)).length
theorem stepsU_succ (ws : List Way) (N D : Int) (n : Nat) : stepsU ws N D (n + 1) = stepsU ws N D n ++ stepsI ws N D n (intoW ws (n : Int)).length := by
  unfold stepsU
  rw [List.range_succ, List.flatMap_append]
  simp
theorem stepsI_succ {ws : List Way} {N D : Int} {o k : Nat} {q : Int × Int} (h : (intoW ws (o : Int))[k]? = some q) : stepsI ws N D o (k + 1) = stepsI ws N D o k ++ [(q.1, (o : Int), D * q.2 - N)] := by
  unfold stepsI
  rw [List.take_add_one, h, List.map_append]
  rfl
theorem stepsI_len (ws : List Way) (N D : Int) (o k : Nat) : (stepsI ws N D o k).length ≤ ws.length := by
  unfold stepsI
  rw [List.length_map, List.length_take]
  have := intoW_len ws (o : Int)
  omega
theorem stepsU_len (ws : List Way) (N D : Int) : ∀ n, (stepsU ws N D n).length ≤ n * ws.length
  | 0 => by unfold stepsU; simp
  | n + 1 => by
    rw [stepsU_succ, List.length_append, Nat.succ_mul]
    have := stepsU_len ws N D n
    have := stepsI_len ws N D n (intoW ws (n : Int)).length
    omega
theorem mem_intoW {ws : List Way} {x : Int} {q : Int × Int} : q ∈ intoW ws x ↔ (q.1, x, q.2) ∈ ws := by
  unfold intoW
  rw [List.mem_map]
  constructor
  · rintro ⟨⟨a, b, c⟩, h, rfl⟩
    obtain ⟨h1, h2⟩ := List.mem_filter.mp h
    have e : b = x := of_decide_eq_true h2
    subst e
    exact h1
  · intro h
    exact ⟨(q.1, x, q.2), List.mem_filter.mpr ⟨h, decide_eq_true rfl⟩, rfl⟩
theorem stepsU_of {ws : List Way} {N D : Int} {n : Nat} (hE : ∀ w ∈ ws, EndsOk n w) : StepsOf ws (stepsU ws N D n) N D := fun u v x => by
  unfold stepsU stepsI
  rw [List.mem_flatMap]
  constructor
  · rintro ⟨o, _, h⟩
    rw [List.take_length, List.mem_map] at h
    obtain ⟨q, hq, e⟩ := h
    cases e
    exact ⟨q.2, mem_intoW.mp hq, rfl⟩
  · rintro ⟨d, hd, rfl⟩
    have hv := (hE _ hd).2
    dsimp only at hv
    have e : ((v.toNat : Nat) : Int) = v := by omega
    refine ⟨v.toNat, List.mem_range.mpr (by omega), ?_⟩
    rw [List.take_length, List.mem_map, e]
    exact ⟨(u, d), mem_intoW.mpr hd, rfl⟩
theorem stepsU_ends {ws : List Way} {N D : Int} {n : Nat} (hE : ∀ w ∈ ws, EndsOk n w) : ∀ w ∈ stepsU ws N D n, EndsOk n w := fun w hw => by
  obtain ⟨d, hd, _⟩ := (stepsU_of (N := N) (D := D) hE w.1 w.2.1 w.2.2).mp hw
  exact hE (w.1, w.2.1, d) hd
section
variable {P : Program} {w : World} {K : PySem.W.Frag} {mg : Str → Option Value} {base : Heap}
def spSteps (C : Addr) : Sp := fun vs H Q _ => ∃ (p : Addr) (N D : Int) (n : Nat) (ts : List Addr) (ws : List Way), vs = [.ref p, .int N, .int D] ∧ Askable C H p n ts ws ∧
  ∀ (L : Addr) (ps : List Addr) (H' : Hp), Same H H' → H L = none → WList H' L ps (stepsU ws N D n) → Q (.ref L) H'
theorem scSs : FnScope ["web", "number", "divisor", "one", "other", "delay"] ["web", "number", "divisor"] (defScope sSteps) := ⟨rfl, rfl, rfl, by decide +kernel, rfl, by decide +kernel, by decide +kernel⟩
theorem ok_steps {f fI C CM : Addr} {fd fdI : FuncData} (F : Fun K "_steps" "_steps" sSteps f fd) (W : WebT K mg C) (Z : Names0 mg) (GI : FnOk P w K mg base (L2N.CX P w) 2 fI fdI ["self", "meeting"] (spInto C CM)) (mI : Meth K C "into" fI) (bI : Binds K fdI ["self", "meeting"] []) :
    FnOk P w K mg base CX0 3 f fd ["web", "number", "divisor"] (spSteps C) := by
  refine F.ok scSs (fun vs H Q E h => ?_) (fun cdv A outer s H vs Q E hr h => ?_)
  · obtain ⟨p, N, D, n, ts, ws, rfl, _⟩ := h
    rfl
  · obtain ⟨p, N, D, n, ts, ws, rfl, hA, hQ⟩ := h
    obtain ⟨dx, b, c, w0⟩ := hA.web.is
    have n1 : 1 ≤ n := by have := hA.m1; omega
    have n12 : n ≤ 12 := by have := hA.m12; omega
    have wl := hA.l
    have hr2 : Room 2 _ := hr
    have nI1 : (webF (n : Int) b c).lookup ("into" : Str) = none := webF_no _ _ _ (by decide +kernel) (by decide +kernel) (by decide +kernel)
    refine ⟨_, pss_one (ps_ret (pe_lc2 (own := [("one", 3), ("other", 4), ("delay", 5)]) (vs1 := [3, 5]) (g := gName 4) (wi1 := iList K (tMeth C "into" (spInto C CM) [] (fun _ _ _ => False) (tVar 0) (tCons (tVar 4) tNil))) (g1 := gTup K 2 (gCons (gName 3) (gCons (gName 5) gNil))) rfl scSs.nd (pi_range1 rfl Z.range (pa_cons (pe_fld (pv 0) rfl) pa_nil))
      (blkOk_by (own := [("one", 3), ("other", 4), ("delay", 5)]) (N := ["web", "number", "divisor", "one", "other", "delay"]) (sc := defScope sSteps) (by decide +kernel)) (by decide)
      (fun _ _ _ _ _ => pg_name (i := 4) scSs.nd rfl (.inl rfl)) (fun _ _ _ _ _ => pts_nil)
      (by intro s1 H1 C1 cl fp; exact pi_list (pe_meth (pv 0) W.cl mI GI hr2 bI .nil pass0N (pa_cons (pv 4) pa_nil)))
      (by intro s1 H1 C1 cl fp; exact pg_tup rfl (pgs_cons (pg_name (i := 3) scSs.nd rfl (.inl rfl)) (pgs_cons (pg_name (i := 5) scSs.nd rfl (.inl rfl)) pgs_nil))) (fun _ _ _ _ _ => pts_nil)
      (fun _ _ _ _ _ => pe_tup (pa_cons (pv 3) (pa_cons (pv 4) (pa_cons (pe_op op_sub (pe_op op_mul (pv 2) (pv 5)) (pv 1)) pa_nil)))))), ?_⟩
    refine ⟨_, rfl, p, C, dx, _, _, rfl, w0.o, W.cl, W.nM, webF_many _ _ _, n, rfl, by omega, by omega, fun L nL => ?_⟩
    rw [Int.toNat_natCast]
    refine it_gen walk_range (fun i H' => ∃ ps, Same H H' ∧ WList H' L ps (stepsU ws N D i)) ⟨[], same_new (Same.refl _) nL, upd_same, rfl, fun i t q h => by cases h⟩ (fun _ _ _ _ => trivial) ?_ ?_
    · rintro i x H1 H2 hi ⟨ps, sm, hL, hT⟩ ⟨rfl, rfl⟩
      refine ⟨rfl, ?_⟩
      refine ⟨_, rfl, p, dx, _, rfl, sm _ _ w0.o, nI1, _, rfl, p, _, n, ts, ws, rfl, hA.web.same sm, by omega, fun z => absurd ⟨by omega, by omega⟩ z, fun _ Li qs H3 s3 nLi hLi hP => ?_⟩
      rw [show (0 : Int) + (i : Nat) = (i : Int) by omega] at hP
      have LLi : L ≠ Li := ne_of_none hL nLi
      refine ⟨Li, rfl, ⟨_, SqL.of hLi⟩, it_gen (walk_list (xs := qs.map V.ref)) (fun j H' => ∃ ps, Same H H' ∧ WList H' L ps (stepsU ws N D i ++ stepsI ws N D i j) ∧ H' Li = some (.lst (qs.map V.ref)) ∧ Pairs2 H' qs (intoW ws (i : Int))) ⟨ps, sm.trans s3, ⟨s3 _ _ hL, ?_⟩, hLi, hP⟩ (fun j H' _ hh => SqL.of hh.choose_spec.2.2.1) ?_ ?_⟩
      · unfold stepsI
        rw [List.take_zero, List.map_nil, List.append_nil]
        exact hT.same (same_tups s3)
      · rintro j x H4 H5 hj ⟨us, s4, ⟨hL4, hT4⟩, hLi4, hP4⟩ ⟨rfl, hx⟩
        obtain ⟨t, q, rfl, hq, ht⟩ := hP4.at hx
        refine ⟨t, _, rfl, SqT.of ht, rfl, _, _, rfl, _, _, rfl, rfl, rfl, ?_⟩
        have hq2 : 0 ≤ q.2 ∧ q.2 ≤ 9999 := hA.ok.delays _ (mem_intoW.mp (List.mem_of_getElem? hq))
        refine ⟨_, rfl, _, rfl, _, rfl, _, rfl, _, _, rfl, rfl, .inr ⟨by omega, by omega⟩, _, rfl, _, _, rfl, rfl, (by show 3 ≤ sizeLine; decide), fun T nT => ?_⟩
        have hL5 : (upd H5 T (.tup [.int q.1, .int ((0 : Int) + (i : Nat)), .int (D * q.2 - N)])) L = some (.lst (us.map V.ref)) := by rw [upd_ne (ne_of_none hL4 nT)]; exact hL4
        have ul : us.length ≤ 1000 := by
          have h1 := hT4.1
          have h2 := stepsU_len ws N D i
          have h3 := stepsI_len ws N D i j
          have h4 : i * ws.length ≤ 12 * 60 := Nat.mul_le_mul (by omega) (by omega)
          rw [List.length_append] at h1
          omega
        have LT : L ≠ T := ne_of_none hL4 nT
        have keepT : ∀ b xs, H5 b = some (.tup xs) → (upd (upd H5 T (.tup [.int q.1, .int ((0 : Int) + (i : Nat)), .int (D * q.2 - N)])) L (.lst (us.map V.ref ++ [V.ref T]))) b = some (.tup xs) := fun b xs e => by
          rw [upd_ne (ne_of e hL4 (by intro z; cases z)), upd_ne (ne_of_none e nT)]
          exact e
        refine ⟨_, hL5, small1000 (by rw [List.length_map]; exact ul), us ++ [T], same_put (same_new s4 nT) nL, ⟨by rw [upd_same, List.map_append]; rfl, ?_⟩, ?_, ?_⟩
        · rw [stepsI_succ hq, ← List.append_assoc]
          exact Tups.snoc (hT4.same keepT) (by rw [upd_ne LT.symm, upd_same]; show some (HO.tup [V.int q.1, V.int ((0 : Int) + (i : Nat)), V.int (D * q.2 - N)]) = _; rw [Int.zero_add]; rfl)
        · rw [upd_ne LLi.symm, upd_ne (ne_of_none hLi4 nT)]
          exact hLi4
        · exact hP4.same keepT
      · rintro H4 ⟨us, s4, hW4, hLi4, hP4⟩
        refine ⟨us, s4, ?_⟩
        rw [List.length_map, hP.1] at hW4
        rw [stepsU_succ]
        exact hW4
    · rintro H' ⟨ps, sm, hW⟩
      exact hQ L ps H' sm nL hW
end
end Mp
/-! ## PLift -/
set_option Elab.async false
set_option linter.all false
set_option maxRecDepth 100000
set_option maxHeartbeats 4000000
namespace Mp
open PySem PySem.Spec PyProof.Rows L2
/-- all but what stands at a and b is as it was -/
def But2 (H H' : Hp) (a b : Addr) : Prop := ∀ c o, H c = some o → c ≠ a → c ≠ b → H' c = some o
section
variable {P : Program} {w : World} {K : PySem.W.Frag} {mg : Str → Option Value} {base : Heap}
def spLift : Sp := fun vs H Q _ => ∃ (a hh bb : Addr) (m k T : Nat) (ps : List Addr) (S : List Way) (h : Int → Int) (b : Int → Option Int) (t r : Int → Nat), vs = [.ref a, .ref hh, .ref bb] ∧ WList H a ps S ∧ H hh = some (.lst (hl m h)) ∧ H bb = some (.lst (bl m b)) ∧ a ≠ hh ∧ a ≠ bb ∧ hh ≠ bb ∧ m ≤ 12 ∧ (∀ w ∈ S, EndsOk m w) ∧ 1 ≤ k ∧ LiftInv S k 0 T h b t r none ∧
  ∀ (H' : Hp) (T' : Nat) (h' : Int → Int) (b' : Int → Option Int) (t' r' : Int → Nat) (l : Option Int), But2 H H' hh bb → (∀ c, H c = none → H' c = none) → H' hh = some (.lst (hl m h')) → H' bb = some (.lst (bl m b')) → LiftInv S k S.length T' h' b' t' r' l → (∀ x, l = some x → 0 ≤ x ∧ x < m) → Q (optV l) H'
theorem scLi : FnScope ["steps", "heights", "before", "lifted", "one", "other", "rise", "height"] ["steps", "heights", "before"] (defScope sLift) := ⟨rfl, rfl, rfl, by decide +kernel, rfl, by decide +kernel, by decide +kernel⟩
theorem ok_lift {f : Addr} {fd : FuncData} (F : Fun K "_lift" "_lift" sLift f fd) : FnOk P w K mg base CX0 1 f fd ["steps", "heights", "before"] spLift := by
  refine F.ok scLi (fun vs H Q E h => ?_) (fun cdv A outer s H vs Q E hr h => ?_)
  · obtain ⟨a, hh, bb, m, k, T, ps, S, h, b, t, r, rfl, _⟩ := h
    rfl
  · obtain ⟨a, hh, bb, m, k, T, ps, S, h, b, t, r, rfl, ⟨ha, hT⟩, hhh, hbb, ah, ab, hb, m12, hE, k1, hI, hQ⟩ := h
    refine ⟨_, pss_cons (ps_set (i := 3) scLi.nd rfl (.inl rfl) pe_non)
      (pss_cons (ps_for PassesOwn.never rfl (pi_list (pv 0)) (pg_tup rfl (pgs_cons (pg_name (i := 4) scLi.nd rfl (.inl rfl)) (pgs_cons (pg_name (i := 5) scLi.nd rfl (.inl rfl)) (pgs_cons (pg_name (i := 6) scLi.nd rfl (.inl rfl)) pgs_nil))))
        (pss_cons (ps_set (i := 7) scLi.nd rfl (.inl rfl) (pe_op op_add (pe_ix ix_list (pv 1) (pv 4) (fun _ _ => rfl)) (pv 6)))
          (pss_one (ps_if (pt_cmpR op_lt (pe_ix ix_list (pv 1) (pv 5) (fun _ _ => rfl)) (pv 7) (nomark _))
            (pss_cons (ps_asg (pv 7) (pg_sub (pv 1) (pv 5) set_list))
              (pss_cons (ps_asg (pv 4) (pg_sub (pv 2) (pv 5) set_list))
                (pss_one (ps_set (i := 3) scLi.nd rfl (.inl rfl) (pv 5))))) pss_nil))))
      (pss_one (ps_ret (pv 3)))), ?_⟩
    refine ⟨_, rfl, a, rfl, ⟨_, SqL.of ha⟩, for_list (K := K) (a := a) (xs := ps.map V.ref) (fun i σ H' => ∃ (T' : Nat) (h' : Int → Int) (b' : Int → Option Int) (t' r' : Int → Nat) (l : Option Int) (x y z u : Option V), σ = [some (.ref a), some (.ref hh), some (.ref bb), some (optV l), x, y, z, u] ∧ But2 H H' hh bb ∧ (∀ c, H c = none → H' c = none) ∧ H' hh = some (.lst (hl m h')) ∧ H' bb = some (.lst (bl m b')) ∧ LiftInv S k i T' h' b' t' r' l ∧ (∀ x, l = some x → 0 ≤ x ∧ x < m))
      ⟨T, h, b, t, r, none, none, none, none, none, rfl, fun c o e _ _ => e, fun c e => e, hhh, hbb, hI, nofun⟩ (fun i σ H' _ ⟨_, _, _, _, _, _, _, _, _, _, _, s, _⟩ => SqL.of (s _ _ ha ah ab)) ?_ ?_⟩
    · rintro i x σ H' hi ⟨T', h', b', t', r', l, x0, y0, z0, u0, rfl, sm, fr, hh', hb', I, hl'⟩
      obtain ⟨tt, v, rfl, _, hv, hmem, ht⟩ := hT.at hi
      obtain ⟨⟨e1, e2⟩, e3, e4⟩ := hE v hmem
      have ht' : H' tt = some (.tup (tv v)) := sm _ _ ht (ne_of ht hhh (by intro z; cases z)) (ne_of ht hbb (by intro z; cases z))
      refine ⟨tt, _, rfl, SqT.of ht', rfl, _, _, rfl, _, _, rfl, _, _, rfl, rfl, ?_⟩
      refine ⟨_, rfl, _, rfl, hh, _, _, _, rfl, rfl, SqL.of hh', hl_at h' e1 e2, _, rfl, _, _, rfl, rfl, ?_⟩
      refine ⟨_, rfl, _, rfl, hh, _, _, _, rfl, rfl, SqL.of hh', hl_at h' e3 e4, _, rfl, _, _, rfl, rfl, _, rfl, ?_⟩
      by_cases c : h' v.2.1 < h' v.1 + v.2.2
      · rw [decide_eq_true c]
        refine iteT ?_
        refine ⟨_, rfl, _, rfl, _, rfl, hh, _, _, _, rfl, rfl, hh', ix_n e3 (by rw [hl_len]; exact e4), ?_⟩
        rw [hl_set h' _ e3]
        have hb2 : (upd H' hh (.lst (hl m (fset h' v.2.1 (h' v.1 + v.2.2))))) bb = some (.lst (bl m b')) := by rw [upd_ne hb.symm]; exact hb'
        refine ⟨_, rfl, _, rfl, _, rfl, bb, _, _, _, rfl, rfl, hb2, ix_n e3 (by rw [bl_len]; exact e4), ?_⟩
        rw [bl_set b' _ e3]
        refine ⟨_, rfl, T' + 1, fset h' v.2.1 (h' v.1 + v.2.2), fset b' v.2.1 (some v.1), fset t' v.2.1 (T' + 1), fset r' v.2.1 k, some v.2.1, _, _, _, _, rfl, fun c o e n1 n2 => ?_, fun c e => ?_, ?_, upd_same, I.lift k1 hv c, fun x ex => ?_⟩
        · rw [upd_ne n2, upd_ne n1]
          exact sm c o e n1 n2
        · rw [upd_ne (fun z => by rw [z, hbb] at e; cases e), upd_ne (fun z => by rw [z, hhh] at e; cases e)]
          exact fr c e
        · rw [upd_ne hb, upd_same]
        · cases ex
          exact ⟨e3, e4⟩
      · rw [decide_eq_false c]
        exact iteF ⟨T', h', b', t', r', l, _, _, _, _, rfl, sm, fr, hh', hb', I.skip hv c, hl'⟩
    · rintro σ H' ⟨T', h', b', t', r', l, x0, y0, z0, u0, rfl, sm, fr, hh', hb', I, hl'⟩
      rw [List.length_map, hT.1] at I
      exact ⟨_, rfl, hQ H' T' h' b' t' r' l sm fr hh' hb' I hl'⟩
end
end Mp
/-! ## PSlower -/
set_option Elab.async false
set_option linter.all false
set_option maxRecDepth 100000
set_option maxHeartbeats 4000000
namespace Mp
open PySem PySem.Spec PyProof.Rows L2
theorem But2.same {H0 H H' : Hp} {a b : Addr} (s : Same H0 H) (k : But2 H H' a b) (na : H0 a = none) (nb : H0 b = none) : Same H0 H' := fun c o e => k c o (s c o e) (ne_of_none e na) (ne_of_none e nb)
theorem flat_repV {n : Nat} {v : V} : (List.replicate n [v]).flatten = List.replicate n v := by
  induction n with
  | zero => rfl
  | succ n ih => rw [List.replicate_succ, List.flatten_cons, ih]; rfl
theorem hl_zero (n : Nat) : List.replicate n (V.int 0) = hl n fun _ => 0 := by
  unfold hl
  refine List.ext_getElem? fun i => ?_
  by_cases h : i < n
  · rw [List.getElem?_replicate, if_pos h, List.getElem?_map, List.getElem?_range h]
    rfl
  · rw [List.getElem?_replicate, if_neg h, List.getElem?_eq_none (by rw [List.length_map, List.length_range]; omega)]
theorem bl_none (n : Nat) : List.replicate n V.non = bl n fun _ => none := by
  unfold bl
  refine List.ext_getElem? fun i => ?_
  by_cases h : i < n
  · rw [List.getElem?_replicate, if_pos h, List.getElem?_map, List.getElem?_range h]
    rfl
  · rw [List.getElem?_replicate, if_neg h, List.getElem?_eq_none (by rw [List.length_map, List.length_range]; omega)]
/-- a start's list -/
def stL (ss : List Int) : Int → Int := fun x => ss.getD x.toNat 0
section
variable {P : Program} {w : World} {K : PySem.W.Frag} {mg : Str → Option Value} {base : Heap}
def spSlower (C CP : Addr) : Sp := fun vs H Q E => ∃ (p : Addr) (N D : Int) (n : Nat) (ts : List Addr) (ws : List Way), vs = [.ref p, .int N, .int D] ∧ Askable C H p n ts ws ∧ (¬ (0 ≤ N ∧ 1 ≤ D) → E (.ref CP) none H) ∧
  (0 ≤ N ∧ 1 ≤ D → (∀ (T r : Addr) (c : List Int) (H' : Hp), Same H H' → H T = none → H r = none → T ≠ r → H' T = some (.tup [.ref r, .non]) → H' r = some (.lst (c.map V.int)) → RingOk n ws c → (∀ y ∈ c, cyc c 0 ≤ y) → N * c.length < D * total ws c → Q (.ref T) H') ∧
    (∀ (T r : Addr) (ss : List Int) (H' : Hp), Same H H' → H T = none → H r = none → T ≠ r → H' T = some (.tup [.non, .ref r]) → H' r = some (.lst (ss.map V.int)) → ss.length = n → StartOk ws N D (stL ss) → Q (.ref T) H'))
theorem scSl : FnScope ["web", "number", "divisor", "steps", "heights", "before", "_", "lifted"] ["web", "number", "divisor"] (defScope sSlower) := ⟨rfl, rfl, rfl, by decide +kernel, rfl, by decide +kernel, by decide +kernel⟩
theorem ok_slower {f fS fL fB C CP : Addr} {fd dS dL dB : FuncData} (F : Fun K "slower" "slower" sSlower f fd) (W : WebT K mg C) (Z : NamesQ mg) (TP : ErrT K mg "BadPace" CP)
    (GS : FnOk P w K mg base CX0 3 fS dS ["web", "number", "divisor"] (spSteps C)) (gS : mg "_steps" = some (.ref fS)) (kS : PySem.W.keepIn K (.ref fS) = true) (bS : Binds K dS ["web", "number", "divisor"] [])
    (GL : FnOk P w K mg base CX0 1 fL dL ["steps", "heights", "before"] spLift) (gL : mg "_lift" = some (.ref fL)) (kL : PySem.W.keepIn K (.ref fL) = true) (bL : Binds K dL ["steps", "heights", "before"] [])
    (GB : FnOk P w K mg base CX0 1 fB dB ["before", "meeting"] spBehind) (gB : mg "_ring_behind" = some (.ref fB)) (kB : PySem.W.keepIn K (.ref fB) = true) (bB : Binds K dB ["before", "meeting"] []) :
    FnOk P w K mg base (L2N.CX P w) 4 f fd ["web", "number", "divisor"] (spSlower C CP) := by
  refine Fun.okN F scSl (fun vs H Q E h => ?_) (fun cdv A outer s H vs Q E hr h => ?_)
  · obtain ⟨p, N, D, n, ts, ws, rfl, _⟩ := h
    rfl
  · obtain ⟨p, N, D, n, ts, ws, rfl, hA, hBad, hGood⟩ := h
    obtain ⟨dx, b, c, w0⟩ := hA.web.is
    have n1 : 1 ≤ n := by have := hA.m1; omega
    have n12 : n ≤ 12 := by have := hA.m12; omega
    have hr3 : Room 3 _ := hr
    have hr1 : Room 1 _ := hr.mono (by decide)
    refine ⟨_, pss_cons (ps_if (PW.pt (pw_or (pt_cmpR op_lt (pv 1) pe_int (nomark _)) (pw_or1 (pt_cmpR op_lt (pv 2) pe_int (nomark _))))) (pss_one (L2N.ps_raise rfl (L2N.takes_of rfl rfl rfl rfl) (L2N.pmk_own PySem.F.excBase_ValueError TP.q TP.g TP.kp TP.r rfl))) pss_nil)
      (pss_cons (ps_set (i := 3) scSl.nd rfl (.inl rfl) (pe_call GS hr3 rfl gS kS bS .nil pass0 (pa_cons (pv 0) (pa_cons (pv 1) (pa_cons (pv 2) pa_nil)))))
      (pss_cons (ps_set (i := 4) scSl.nd rfl (.inl rfl) (pe_op op_rep (pe_lst (pa_cons pe_int pa_nil)) (pe_fld (pv 0) rfl)))
      (pss_cons (ps_set (i := 5) scSl.nd rfl (.inl rfl) (pe_op op_rep (pe_lst (pa_cons pe_non pa_nil)) (pe_fld (pv 0) rfl)))
      (pss_cons (ps_for (passes_of rfl) rfl (pi_range1 rfl Z.range (pa_cons (pe_fld (pv 0) rfl) pa_nil)) (pg_name (i := 6) scSl.nd rfl (.inl rfl))
        (pss_cons (ps_set (i := 7) scSl.nd rfl (.inl rfl) (pe_call GL hr1 rfl gL kL bL .nil pass0 (pa_cons (pv 3) (pa_cons (pv 4) (pa_cons (pv 5) pa_nil)))))
          (pss_one (ps_if (pt_cmpR op_isN (pv 7) pe_non (nomark _)) (pss_one (ps_ret (pe_tup (pa_cons pe_non (pa_cons (pv 4) pa_nil))))) pss_nil))))
      (pss_one (ps_ret (pe_tup (pa_cons (pe_call GB hr1 rfl gB kB bB .nil pass0 (pa_cons (pv 5) (pa_cons (pv 7) pa_nil))) (pa_cons pe_non pa_nil))))))))), ?_⟩
    refine ⟨_, rfl, _, _, rfl, rfl, _, rfl, ?_⟩
    by_cases hN : N < 0
    · rw [decide_eq_true hN]
      exact iteT (iteT (hBad fun z => by omega))
    rw [decide_eq_false hN]
    refine iteF ⟨_, rfl, _, _, rfl, rfl, _, rfl, ?_⟩
    by_cases hD : D < 1
    · rw [decide_eq_true hD]
      exact iteT (hBad fun z => by omega)
    rw [decide_eq_false hD]
    obtain ⟨hRing, hStart⟩ := hGood ⟨by omega, by omega⟩
    clear hGood hBad
    refine iteF ⟨_, rfl, _, rfl, _, rfl, p, N, D, n, ts, ws, rfl, hA, fun L ps H1 s1 nL hWL => ?_⟩
    obtain ⟨S, hS⟩ : ∃ S, S = stepsU ws N D n := ⟨_, rfl⟩
    have hSt : StepsOf ws S N D := by rw [hS]; exact stepsU_of hA.ok.ends
    have hSe : ∀ w ∈ S, EndsOk n w := by rw [hS]; exact stepsU_ends hA.ok.ends
    rw [← hS] at hWL
    clear hS
    -- heights
    refine ⟨(by show 1 ≤ sizeLine; decide), fun l0 nl0 => ?_⟩
    have s2 : Same H1 (upd H1 l0 (.lst [V.int 0])) := same_new (Same.refl _) nl0
    refine ⟨_, rfl, p, C, dx, _, _, rfl, (s1.trans s2) _ _ w0.o, W.cl, W.nM, webF_many _ _ _, l0, n, _, rfl, rfl, upd_same, (by omega), (by omega), (by show 1 * (n : Int).toNat ≤ sizeLine; rw [sizeLine_eq]; omega), fun hh nhh => ?_⟩
    rw [flat_repV, Int.toNat_natCast, hl_zero]
    obtain ⟨H2, hH2⟩ : ∃ H2, H2 = upd (upd H1 l0 (.lst [V.int 0])) hh (.lst (hl n fun _ => 0)) := ⟨_, rfl⟩
    have s3 : Same H1 H2 := by rw [hH2]; exact same_new s2 nhh
    have hhh : H2 hh = some (.lst (hl n fun _ => 0)) := by rw [hH2]; exact upd_same
    have nhh1 : H1 hh = none := s2.free nhh
    rw [← hH2]
    clear hH2
    -- before
    refine ⟨(by show 1 ≤ sizeLine; decide), fun l1 nl1 => ?_⟩
    have s4 : Same H2 (upd H2 l1 (.lst [V.non])) := same_new (Same.refl _) nl1
    refine ⟨_, rfl, p, C, dx, _, _, rfl, ((s1.trans s3).trans s4) _ _ w0.o, W.cl, W.nM, webF_many _ _ _, l1, n, _, rfl, rfl, upd_same, (by omega), (by omega), (by show 1 * (n : Int).toNat ≤ sizeLine; rw [sizeLine_eq]; omega), fun bb nbb => ?_⟩
    rw [flat_repV, Int.toNat_natCast, bl_none]
    obtain ⟨H3, hH3⟩ : ∃ H3, H3 = upd (upd H2 l1 (.lst [V.non])) bb (.lst (bl n fun _ => none)) := ⟨_, rfl⟩
    have s5 : Same H2 H3 := by rw [hH3]; exact same_new s4 nbb
    have hbb : H3 bb = some (.lst (bl n fun _ => none)) := by rw [hH3]; exact upd_same
    have nbb2 : H2 bb = none := s4.free nbb
    rw [← hH3]
    clear hH3
    have hhh3 := s5 _ _ hhh
    have nhh0 : H hh = none := s1.free nhh1
    have nbb0 : H bb = none := (s1.trans s3).free nbb2
    have nbb1 : H1 bb = none := s3.free nbb2
    have hb : hh ≠ bb := ne_of_none hhh nbb2
    have Lh : L ≠ hh := ne_of_none hWL.1 nhh1
    have Lb : L ≠ bb := ne_of_none hWL.1 nbb1
    have sA : Same H H3 := (s1.trans s3).trans s5
    have sB : Same H1 H3 := s3.trans s5
    refine ⟨_, rfl, p, C, dx, _, _, rfl, sA _ _ w0.o, W.cl, W.nM, webF_many _ _ _, n, rfl, by omega, by omega, for_range (lo := 0) (n := (n : Int).toNat) (fun i σ H' => ∃ (T : Nat) (h : Int → Int) (b : Int → Option Int) (t r : Int → Nat) (y : Option V) (x : Option V), σ = [some (.ref p), some (.int N), some (.int D), some (.ref L), some (.ref hh), some (.ref bb), y, x] ∧ Same H H' ∧ Same H1 H' ∧ H' hh = some (.lst (hl n h)) ∧ H' bb = some (.lst (bl n b)) ∧ LiftInv S (i + 1) 0 T h b t r none ∧ (1 ≤ i → ∃ z : Int, x = some (.int z) ∧ 0 ≤ z ∧ z < n ∧ r z = i))
      ⟨0, _, _, _, _, none, none, rfl, sA, sB, hhh3, hbb, LiftInv.first S, fun h => absurd h (by decide)⟩ ?_ ?_⟩
    · rintro i σ H' hi ⟨T, h, b', t, r, y, x, rfl, sm, sm1, eh, eb, I, hx⟩
      refine ⟨_, rfl, _, rfl, _, rfl, L, hh, bb, n, i + 1, T, ps, S, h, b', t, r, rfl, ⟨sm1 _ _ hWL.1, hWL.2.same (same_tups sm1)⟩, eh, eb, Lh, Lb, hb, n12, hSe, by omega, I, ?_⟩
      intro H4 T4 h4 b4 t4 r4 l bt fr eh4 eb4 I4 hl
      have sm4 : Same H H4 := bt.same sm nhh0 nbb0
      have sm5 : Same H1 H4 := bt.same sm1 nhh1 nbb1
      refine ⟨_, rfl, rfl, _, rfl, ?_⟩
      cases l with
      | none =>
        rw [decide_eq_true (show optV none = V.non from rfl)]
        refine iteT ⟨_, rfl, (by show 2 ≤ sizeLine; decide), fun TT nTT => ?_⟩
        obtain ⟨ss, e1, e2, e3⟩ := hl_ints n h4
        have hT := ne_of_none eh4 nTT
        refine hStart TT hh ss _ (same_new sm4 nTT) (sm4.free nTT) nhh0 hT.symm upd_same (by rw [upd_ne hT, eh4, e1]) e2 fun v hv => ?_
        have := I4.start hSt v hv
        have en := hA.ok.ends v hv
        unfold stL
        rw [e3 _ en.1.1 en.1.2, e3 _ en.2.1 en.2.2]
        exact this
      | some z =>
        rw [decide_eq_false (show ¬ optV (some z) = V.non from fun e => nomatch e)]
        have hz := hl z rfl
        exact iteF ⟨T4, h4, b4, t4, r4, _, _, rfl, sm4, sm5, eh4, eb4, I4.round, fun _ => ⟨z, rfl, hz.1, hz.2, I4.som z rfl⟩⟩
    · rintro σ H' ⟨T, h, b', t, r, y, x, rfl, sm, sm1, eh, eb, I, hx⟩
      rw [Int.toNat_natCast] at hx
      obtain ⟨z, rfl, z0, z1, rz⟩ := hx n1
      refine ⟨_, rfl, _, rfl, bb, z, n, b', r, rfl, eb, n12, I.behind hSe, z0, z1, by omega, fun R c' H4 s6 nR hR cne cnd crg cB cl => ⟨(by show 2 ≤ sizeLine; decide), fun TT nTT => ?_⟩⟩
      obtain ⟨r1, r2⟩ := I.ring (by omega) hSt cne cnd crg cB
      have hT := ne_of_none hR nTT
      exact hRing TT R c' _ (same_new (sm.trans s6) nTT) ((sm.trans s6).free nTT) (sm.free nR) hT.symm upd_same (by rw [upd_ne hT]; exact hR) r1 cl r2
end
end Mp
/-! ## PPace -/
set_option Elab.async false
set_option linter.all false
set_option maxRecDepth 100000
set_option maxHeartbeats 4000000
namespace Mp
open PySem PySem.Spec PyProof.Rows L2
theorem into_ne {m : Int} {ws : List Way} (ok : WebOk m ws) {x : Int} (h0 : 0 ≤ x) (h1 : x < m) : ∃ q r, intoW ws x = q :: r := by
  have key : ∀ a y, Go ws a y → ∃ v ∈ ws, v.2.1 = y := fun a y g => by
    cases g with
    | one h => exact ⟨_, h, rfl⟩
    | more _ h => exact ⟨_, h, rfl⟩
  obtain ⟨v, hv, e⟩ := key x x (ok.piece x x h0 h1 h0 h1)
  have : (v.1, v.2.2) ∈ intoW ws x := mem_intoW.mpr (by rw [← e]; exact hv)
  cases hq : intoW ws x with
  | nil => rw [hq] at this; cases this
  | cons q r => exact ⟨q, r, rfl⟩
/-- whence the first way to each meeting comes -/
def firstB (ws : List Way) (x : Int) : Option Int := (intoW ws x).head?.map (·.1)
theorem firstB_some {ws : List Way} {x u : Int} (h : firstB ws x = some u) : ∃ d, (u, x, d) ∈ ws := by
  unfold firstB at h
  cases hq : intoW ws x with
  | nil => rw [hq] at h; cases h
  | cons q r =>
    rw [hq] at h
    have e : q.1 = u := Option.some.inj h
    have : q ∈ intoW ws x := by rw [hq]; exact List.mem_cons_self
    exact ⟨q.2, by rw [← e]; exact mem_intoW.mp this⟩
theorem firstB_ring {m : Int} {ws : List Way} {c : List Int} (ne : c ≠ []) (nd : c.Nodup) (rg : ∀ x ∈ c, 0 ≤ x ∧ x < m) (B : Back (firstB ws) c) : RingOk m ws c := ⟨ne, nd, rg, fun k hk e => by
  obtain ⟨d, hd⟩ := firstB_some (B k hk)
  have := mem_dl.mpr hd
  rw [e] at this
  cases this⟩
/-- a mean is whole in lowest terms; what is slower has a greater score -/
theorem score_up {m : Nat} {ws : List Way} {c e : List Int} {N D : Int} (hm : m ≤ 12) (R : RingOk m ws c) (R' : RingOk m ws e) (D1 : 1 ≤ D) (hc : N * c.length = total ws c * D) (he : N * e.length < D * total ws e) : score ws c < score ws e := by
  refine score_lt hm R R' ?_
  have lc : (0 : Int) < c.length := by have := R.pos; omega
  have a := Int.mul_lt_mul_of_pos_right he lc
  have e1 : N * (e.length : Int) * c.length = (total ws c * e.length) * D := by
    rw [Int.mul_right_comm, hc, Int.mul_right_comm]
  have e2 : D * total ws e * (c.length : Int) = (total ws e * c.length) * D := by
    rw [Int.mul_assoc, Int.mul_comm]
  rw [e1, e2] at a
  exact Int.lt_of_mul_lt_mul_right a (by omega)
section
variable {P : Program} {w : World} {K : PySem.W.Frag} {mg : Str → Option Value} {base : Heap}
def spSomeRing (C : Addr) : Sp := fun vs H Q _ => ∃ (p : Addr) (n : Nat) (ts : List Addr) (ws : List Way), vs = [.ref p] ∧ Askable C H p n ts ws ∧
  ∀ (r : Addr) (c : List Int) (H' : Hp), Same H H' → H r = none → H' r = some (.lst (c.map V.int)) → RingOk n ws c → (∀ y ∈ c, cyc c 0 ≤ y) → Q (.ref r) H'
theorem scSr : FnScope ["web", "before", "meeting"] ["web"] (defScope sSomeRing) := ⟨rfl, rfl, rfl, by decide +kernel, rfl, by decide +kernel, by decide +kernel⟩
theorem ok_somering {f fI fB C CM : Addr} {fd dI dB : FuncData} (F : Fun K "_some_ring" "_some_ring" sSomeRing f fd) (W : WebT K mg C) (Z : Names0 mg) (GI : FnOk P w K mg base (L2N.CX P w) 2 fI dI ["self", "meeting"] (spInto C CM)) (mI : Meth K C "into" fI) (bI : Binds K dI ["self", "meeting"] [])
    (GB : FnOk P w K mg base CX0 1 fB dB ["before", "meeting"] spBehind) (gB : mg "_ring_behind" = some (.ref fB)) (kB : PySem.W.keepIn K (.ref fB) = true) (bB : Binds K dB ["before", "meeting"] []) :
    FnOk P w K mg base CX0 3 f fd ["web"] (spSomeRing C) := by
  refine F.ok scSr (fun vs H Q E h => ?_) (fun cdv A outer s H vs Q E hr h => ?_)
  · obtain ⟨p, n, ts, ws, rfl, _⟩ := h
    rfl
  · obtain ⟨p, n, ts, ws, rfl, hA, hQ⟩ := h
    obtain ⟨dx, b, c, w0⟩ := hA.web.is
    have n1 : 1 ≤ n := by have := hA.m1; omega
    have n12 : n ≤ 12 := by have := hA.m12; omega
    have wl := hA.l
    have hr2 : Room 2 _ := hr
    have hr1 : Room 1 _ := hr.mono (by decide)
    have nI1 : (webF (n : Int) b c).lookup ("into" : Str) = none := webF_no _ _ _ (by decide +kernel) (by decide +kernel) (by decide +kernel)
    refine ⟨_, pss_cons (ps_setLc (i := 1) (own := [("meeting", 2)]) (g := gName 2) rfl scSr.nd rfl rfl (sw_true rfl rfl rfl (by decide +kernel)) (pi_range1 rfl Z.range (pa_cons (pe_fld (pv 0) rfl) pa_nil)) (blkOk_by (own := [("meeting", 2)]) (N := ["web", "before", "meeting"]) (sc := defScope sSomeRing) (by decide +kernel))
        (fun _ _ _ _ _ => pg_name (i := 2) scSr.nd rfl (.inl rfl)) (fun _ _ _ _ _ => pts_nil) (fun _ _ _ _ _ => pe_ix (r := rIxT K) ix_tup (pe_ix (r := rIxL K) ix_list (pe_meth (pv 0) W.cl mI GI hr2 bI .nil pass0N (pa_cons (pv 2) pa_nil)) pe_int (fun _ _ => rfl)) pe_int (fun _ _ => rfl)))
      (pss_one (ps_ret (pe_call GB hr1 rfl gB kB bB .nil pass0 (pa_cons (pv 1) (pa_cons pe_int pa_nil))))), ?_⟩
    refine ⟨_, rfl, p, C, dx, _, _, rfl, w0.o, W.cl, W.nM, webF_many _ _ _, n, rfl, by omega, by omega, fun L nL => ?_⟩
    rw [Int.toNat_natCast]
    refine it_gen walk_range (fun i H' => Same H H' ∧ H' L = some (.lst (bl i (firstB ws)))) ⟨same_new (Same.refl _) nL, upd_same⟩ (fun _ _ _ _ => trivial) ?_ ?_
    · rintro i x H1 H2 hi ⟨sm, hL⟩ ⟨rfl, rfl⟩
      refine ⟨rfl, ?_⟩
      obtain ⟨q, qr, hq⟩ := into_ne hA.ok (x := (0 : Int) + (i : Nat)) (by omega) (by omega)
      refine ⟨_, rfl, p, dx, _, rfl, sm _ _ w0.o, nI1, _, rfl, p, _, n, ts, ws, rfl, hA.web.same sm, by omega, fun z => absurd ⟨by omega, by omega⟩ z, fun _ Li qs H3 s3 nLi hLi hP => ?_⟩
      rw [hq] at hP
      obtain ⟨t, e⟩ : ∃ t, qs[0]? = some t := ⟨_, List.getElem?_eq_getElem (by have := hP.1; simp at this; omega)⟩
      have ht := hP.2 0 t q e rfl
      refine ⟨Li, _, _, .ref t, rfl, rfl, SqL.of hLi, atI_nat (j := 0) (by rw [List.getElem?_map, e]; rfl), t, _, _, .int q.1, rfl, rfl, SqT.of ht, atI_nat (j := 0) rfl, ?_⟩
      refine ⟨_, s3 _ _ hL, small1000 (by rw [bl_len]; omega), same_put (sm.trans s3) nL, ?_⟩
      rw [upd_same]
      unfold bl
      rw [List.range_succ, List.map_append]
      have eb : optV (firstB ws (i : Int)) = V.int q.1 := by
        rw [show (0 : Int) + (i : Nat) = (i : Int) by omega] at hq
        unfold firstB
        rw [hq]
        rfl
      rw [← eb]
      rfl
    · rintro H' ⟨sm, hL⟩
      refine ⟨_, rfl, L, 0, n, firstB ws, fun _ => n, rfl, hL, n12, ⟨fun v v0 v1 _ => ?_⟩, by omega, by omega, Nat.le_refl _, fun R c' H4 s4 nR hR cne cnd crg cB cl => hQ R c' H4 (sm.trans s4) (sm.free nR) hR (firstB_ring cne cnd crg cB) cl⟩
      obtain ⟨q, qr, hq⟩ := into_ne hA.ok v0 v1
      have hm : (q.1, v, q.2) ∈ ws := mem_intoW.mp (by rw [hq]; exact List.mem_cons_self)
      have he := (hA.ok.ends _ hm).1
      exact ⟨q.1, by unfold firstB; rw [hq]; rfl, he.1, he.2, Nat.le_succ _⟩
def spPace (C : Addr) : Sp := fun vs H Q _ => ∃ (p : Addr) (n : Nat) (ts : List Addr) (ws : List Way), vs = [.ref p] ∧ Askable C H p n ts ws ∧
  ∀ (T r st : Addr) (N D : Int) (c ss : List Int) (H' : Hp), Same H H' → H T = none → H r = none → H st = none → r ≠ st → T ≠ r → T ≠ st → H' T = some (.tup [.int N, .int D, .ref r, .ref st]) → H' r = some (.lst (c.map V.int)) → H' st = some (.lst (ss.map V.int)) →
    RingOk n ws c → (∀ y ∈ c, cyc c 0 ≤ y) → 0 ≤ N → N ≤ 9999 * 12 → 1 ≤ D → D ≤ 12 → N * c.length = total ws c * D → Int.gcd N D = 1 → ss.length = n → StartOk ws N D (stL ss) → Q (.ref T) H'
theorem scPa : FnScope ["web", "slow", "ring", "number", "divisor", "start"] ["web"] (defScope sPace) := ⟨rfl, rfl, rfl, by decide +kernel, rfl, by decide +kernel, by decide +kernel⟩
theorem ok_pace {f fO fM fL C CP : Addr} {fd dO dM dL : FuncData} (F : Fun K "pace" "pace" sPace f fd)
    (GO : FnOk P w K mg base CX0 3 fO dO ["web"] (spSomeRing C)) (gO : mg "_some_ring" = some (.ref fO)) (kO : PySem.W.keepIn K (.ref fO) = true) (bO : Binds K dO ["web"] [])
    (GM : FnOk P w K mg base (L2N.CX P w) 4 fM dM ["web", "ring"] (spMean K C)) (gM : mg "mean" = some (.ref fM)) (kM : PySem.W.keepIn K (.ref fM) = true) (bM : Binds K dM ["web", "ring"] [])
    (GL : FnOk P w K mg base (L2N.CX P w) 4 fL dL ["web", "number", "divisor"] (spSlower C CP)) (gL : mg "slower" = some (.ref fL)) (kL : PySem.W.keepIn K (.ref fL) = true) (bL : Binds K dL ["web", "number", "divisor"] []) :
    FnOk P w K mg base CX0 5 f fd ["web"] (spPace C) := by
  refine F.ok scPa (fun vs H Q E h => ?_) (fun cdv A outer s H vs Q E hr h => ?_)
  · obtain ⟨p, n, ts, ws, rfl, _⟩ := h
    rfl
  · obtain ⟨p, n, ts, ws, rfl, hA, hQ⟩ := h
    have n1 : 1 ≤ n := by have := hA.m1; omega
    have n12 : n ≤ 12 := by have := hA.m12; omega
    have hr4 : Room 4 _ := hr
    have hr3 : Room 3 _ := hr.mono (by decide)
    refine ⟨_, pss_cons (ps_set (i := 1) scPa.nd rfl (.inl rfl) (pe_call GO hr3 rfl gO kO bO .nil pass0 (pa_cons (pv 0) pa_nil)))
      (pss_cons (ps_while PassesOwn.never (pt_cmpR op_notN (pv 1) pe_non (nomark _))
        (pss_cons (ps_set (i := 2) scPa.nd rfl (.inl rfl) (pv 1))
        (pss_cons (ps_asg (pe_call GM hr4 rfl gM kM bM .nil pass0N (pa_cons (pv 0) (pa_cons (pv 2) pa_nil))) (pg_tup rfl (pgs_cons (pg_name (i := 3) scPa.nd rfl (.inl rfl)) (pgs_cons (pg_name (i := 4) scPa.nd rfl (.inl rfl)) pgs_nil))))
        (pss_one (ps_asg (pe_call GL hr4 rfl gL kL bL .nil pass0N (pa_cons (pv 0) (pa_cons (pv 3) (pa_cons (pv 4) pa_nil)))) (pg_tup rfl (pgs_cons (pg_name (i := 1) scPa.nd rfl (.inl rfl)) (pgs_cons (pg_name (i := 5) scPa.nd rfl (.inl rfl)) pgs_nil))))))))
      (pss_one (ps_ret (pe_tup (pa_cons (pv 3) (pa_cons (pv 4) (pa_cons (pv 2) (pa_cons (pv 5) pa_nil)))))))), ?_⟩
    refine ⟨_, rfl, p, n, ts, ws, rfl, hA, fun r0 c0 H0 s0 nr0 hr0 R0 l0 => ?_⟩
    refine ⟨fun μ σ H' => (∃ (r : Addr) (c : List Int) (x y z u : Option V), σ = [some (.ref p), some (.ref r), x, y, z, u] ∧ Same H H' ∧ H r = none ∧ H' r = some (.lst (c.map V.int)) ∧ RingOk n ws c ∧ (∀ y ∈ c, cyc c 0 ≤ y) ∧ μ = (277172280 - score ws c).toNat + 1) ∨
      (∃ (r st : Addr) (N D : Int) (c ss : List Int), σ = [some (.ref p), some .non, some (.ref r), some (.int N), some (.int D), some (.ref st)] ∧ Same H H' ∧ H r = none ∧ H st = none ∧ r ≠ st ∧ H' r = some (.lst (c.map V.int)) ∧ H' st = some (.lst (ss.map V.int)) ∧ RingOk n ws c ∧ (∀ y ∈ c, cyc c 0 ≤ y) ∧ 0 ≤ N ∧ N ≤ 9999 * 12 ∧ 1 ≤ D ∧ D ≤ 12 ∧ N * c.length = total ws c * D ∧ Int.gcd N D = 1 ∧ ss.length = n ∧ StartOk ws N D (stL ss) ∧ μ = 0),
      ⟨_, .inl ⟨r0, c0, none, none, none, none, rfl, s0, nr0, hr0, R0, l0, rfl⟩⟩, ?_⟩
    rintro μ σ H1 (⟨r, c, x, y, z, u, rfl, sm, nr, er, R, lr, rfl⟩ | ⟨r, st, N, D, c, ss, rfl, sm, nr, nst, rs, er, es, R, lr, N0, N1, D0, D1, eq, hg, ls, hs, rfl⟩)
    · refine ⟨_, rfl, rfl, _, rfl, ?_⟩
      rw [decide_eq_false (show ¬ V.ref r = V.non from fun e => nomatch e)]
      refine iteT ⟨fun σ' H2 => ∃ m', m' < (277172280 - score ws c).toNat + 1 ∧ _, fun σ' H2 h => h, ?_⟩
      refine ⟨_, rfl, ?_⟩
      refine ⟨_, rfl, _, rfl, p, r, n, ts, ws, c, rfl, hA.same sm, SqL.of er, R, fun T N D H2 s2 nT hT N0 N1 D0 D1 eq hg => ?_⟩
      refine ⟨T, _, rfl, SqT.of hT, rfl, _, _, rfl, _, _, rfl, rfl, ?_⟩
      have er2 := s2 _ _ er
      refine ⟨_, rfl, _, rfl, _, rfl, p, N, D, n, ts, ws, rfl, hA.same (sm.trans s2), fun bad => absurd ⟨N0, D0⟩ bad, fun _ => ⟨fun T3 r3 c3 H3 s3 nT3 nr3 _ hT3 hr3' R3 l3 lt => ?_, fun T3 st ss H3 s3 nT3 nst _ hT3 hst ls hs => ?_⟩⟩
      · refine ⟨T3, _, rfl, SqT.of hT3, rfl, _, _, rfl, _, _, rfl, rfl, ?_⟩
        have up := score_up n12 R R3 D0 eq lt
        have b1 := score_bd n12 hA.ok.delays R3
        exact ⟨_, by omega, .inl ⟨r3, c3, _, _, _, _, rfl, (sm.trans s2).trans s3, (sm.trans s2).free nr3, hr3', R3, l3, rfl⟩⟩
      · refine ⟨T3, _, rfl, SqT.of hT3, rfl, _, _, rfl, _, _, rfl, rfl, ?_⟩
        exact ⟨0, by omega, .inr ⟨r, st, N, D, c, ss, rfl, (sm.trans s2).trans s3, nr, (sm.trans s2).free nst, ne_of_none er2 nst, s3 _ _ er2, hst, R, lr, N0, N1, D0, D1, eq, hg, ls, hs, rfl⟩⟩
    · refine ⟨_, rfl, rfl, _, rfl, ?_⟩
      rw [decide_eq_true (show V.non = V.non from rfl)]
      refine iteF ⟨_, rfl, _, rfl, _, rfl, _, rfl, (by show 4 ≤ sizeLine; decide), fun T nT => ?_⟩
      have h1 := ne_of_none er nT
      have h2 := ne_of_none es nT
      exact hQ T r st N D c ss _ (same_new sm nT) (sm.free nT) nr nst rs h1.symm h2.symm upd_same (by rw [upd_ne h1]; exact er) (by rw [upd_ne h2]; exact es) R lr N0 N1 D0 D1 eq hg ls hs
end
end Mp
/-! ## Gen6 -/
set_option Elab.async false
set_option linter.all false
set_option maxRecDepth 100000
set_option maxHeartbeats 2000000
namespace Mp
open PySem PySem.Spec PyProof.Rows L2
/-- C(e, ..) whose making may raise, wished for at the caller's slots -/
def tMakeS (C : Addr) (sp : Sp) (E : L2.St → XK) (t : TA) : TE := fun σ H Q => t σ H fun vs H1 => ∀ x dx, H1 x = none → H1 dx = none → dx ≠ x → sp (.ref x :: vs) (upd (upd H1 dx (.own x)) x (.ins C dx [])) (fun v H2 => v = .non ∧ Q (.ref x) H2) (E σ)
section
variable {X : Cx} {CX : CXT} {k : Nat} {f C : Addr} {fd : FuncData} {ps : List Str} {sp : Sp} {E : L2.St → XK} {x m : Str} {p pos apos : Pos} {e o : Expr} {es : List Expr} {ta : TE} {t : TA}
theorem pe_makeS (M : Mk X.K C f) (F : FnOk X.prog X.w X.K X.mg X.base CX k f fd ps sp) (hr : Room (k + 1) X.A) (hg : Gl X x) (hm : X.mg x = some (.ref C)) (hb : Binds X.K fd ps []) (hx : ∀ σ, PassesAt CX X σ (E σ))
    (ha : PA X (e :: es) t) (hdb : (x == ("__debug__" : Str)) = false := by decide) (he : starEach (e :: es) X.env = (false, eval e X.env) :: starEach es X.env := by rfl) (hpl : (backTo pos (starEach es X.env)).any (·.1) = false := by rfl) :
    PE X (.Call (.Name x p) (e :: es) [] pos) (tMakeS C sp E t) := by
  refine ⟨fun pins s σ H Q I h => ?_⟩
  refine wpAny_Call_Name_kw (ld_glob I hg hm ?_ hdb)
  refine PySem.W.callWith_K (h₀ := X.base) I.ok.mod.kin M.kp (thn (ha.run pos pins s σ H _ I h) fun us s1 ⟨vs, H1, I1, r, q⟩ => ⟨I1.kIn, ?_⟩) he hpl
  have h0 := q (s1.heap.objs.size + 1) s1.heap.objs.size (I1.hok.fresh (Nat.le_succ _)) (I1.hok.fresh (Nat.le_refl _)) (Nat.ne_of_lt (Nat.lt_succ_self _))
  have J := Inv.made (C := C) I1
  have r2 : Vals (V.ref (s1.heap.objs.size + 1) :: vs) (Value.ref (s1.heap.objs.size + 1) :: us) := .cons rfl r
  have hl : (Value.ref (s1.heap.objs.size + 1) :: us).length = ps.length := by
    have e := r2.length
    rw [F.len _ _ _ _ h0] at e
    exact e.symm
  have b := hb _ (Value.ref (s1.heap.objs.size + 1) :: us) J.kIn (by rw [List.append_nil]; exact hl)
  rw [List.append_nil] at b
  refine wpAny_call (make_map (f := f) I1.kIn M.makes M.init (beq_iff_eq.mp M.fn) (codeAny_mono (F.run _ X.stack _ _ ⟨Value.ref (s1.heap.objs.size + 1) :: us, []⟩ (Value.ref (s1.heap.objs.size + 1) :: us) _ _ (E σ) (hr.make C us []) (J.env0.make C us []) b r2 h0) fun r s' hq' => ?_))
  cases r with
  | error e => exact hx σ pins _ _ e s' J hq'
  | ok fl =>
    cases fl with
    | ret u =>
      obtain ⟨v, H', I3, rv, ev, q3⟩ := J.after hq'
      subst ev
      exact ⟨rv, ⟨V.ref (s1.heap.objs.size + 1), H', I3, rfl, q3⟩⟩
    | next => exact False.elim hq'
    | brk => exact False.elim hq'
    | cont => exact False.elim hq'
/-- o.m(e, ..) that may raise, wished for at the caller's slots -/
def tMethS0 (C : Addr) (m : Str) (sp : Sp) (E : L2.St → XK) (ta : TE) (t : TA) : TE := fun σ H Q => ta σ H fun x H1 => ∃ a dx fs, x = .ref a ∧ H1 a = some (.ins C dx fs) ∧ fs.lookup m = none ∧ t σ H1 fun vs H2 => sp (x :: vs) H2 Q (E σ)
theorem pe_methS0 {pl : Sem Bool} (he : PE X o ta) (c : Cls X.K C) (hm : Meth X.K C m f) (F : FnOk X.prog X.w X.K X.mg X.base CX k f fd ps sp) (hr : Room k X.A) (hb : Binds X.K fd ps []) (hx : ∀ σ, PassesAt CX X σ (E σ)) (ha : PA X (e :: es) t)
    (hst : starEach (e :: es) X.env = (false, eval e X.env) :: starEach es X.env := by rfl) (hpl : (backTo pos (starEach es X.env)).any (·.1) = false := by rfl)
    (ht : eval (.Call (.Attribute o m apos) (e :: es) [] pos) X.env = (do
      let ov ← eval o X.env
      standAt apos.atName
      let (f, first) ← holding [ov] (getMethod ov m pl)
      callWith pos f first (backTo pos (starEach (e :: es) X.env)) (backToKw pos (keywordEach [] X.env))) := by rfl) :
    PE X (.Call (.Attribute o m apos) (e :: es) [] pos) (tMethS0 C m sp E ta t) := by
  refine ⟨fun pins s σ H Q I h => ?_⟩
  refine PySem.W.methodCall_KW (pl := pl) (thn (he.run pins s σ H _ I h) fun u s1 ⟨x, H1, I1, rx, a, dx, fs, ex, ea, l, q⟩ => ?_) ht
  subst ex
  obtain rfl : u = Value.ref a := rx
  refine getmeth_ok I1 ea c hm l ?_
  refine PySem.W.callWith_K (first := [.ref a]) (h₀ := X.base) I.ok.mod.kin hm.kp (thn (ha.run pos pins s1 σ H1 _ I1 q) fun us s2 ⟨vs, H2, I2, r, q2⟩ => ⟨I2.kIn, ?_⟩) hst hpl
  exact run_fnS (us := .ref a :: us) (vs := .ref a :: vs) F hr hb (hx σ) I2 (.cons rfl r) q2
end
end Mp
/-! ## P9 -/
set_option Elab.async false
set_option linter.all false
set_option maxRecDepth 100000
set_option maxHeartbeats 4000000
namespace Mp
open PySem PySem.Spec PyProof.Rows L2
section
variable {P : Program} {w : World} {K : PySem.W.Frag} {mg : Str → Option Value} {base : Heap}
def spTurned (C : Addr) : Sp := fun vs H Q _ => ∃ (p : Addr) (m : Int) (ts : List Addr) (ws : List Way), vs = [.ref p] ∧ WebAt C H p m ts ws ∧ WebOk m ws ∧ 1 ≤ m ∧ m ≤ 12 ∧ ws.length ≤ 60 ∧
  ∀ (p' : Addr) (ts' : List Addr) (H' : Hp), Same H H' → H p' = none → WebNew C H H' p' m ts' (ws.map flipW) → Q (.ref p') H'
theorem scTd : FnScope ["self", "one", "other", "delay"] ["self"] (defScope sTurned) := ⟨rfl, rfl, rfl, by decide +kernel, rfl, by decide +kernel, by decide +kernel⟩
theorem ok_turned {f fI C CB CM CD CA : Addr} {fd fdI : FuncData} (F : Fun K "turned" "Web.turned" sTurned f fd) (W : WebT K mg C) (M : Mk K C fI) (bI : Binds K fdI ["self", "many", "ways"] []) (GW : FnOk P w K mg base (L2N.CX P w) 3 fI fdI ["self", "many", "ways"] (spWeb C CB CM CD CA)) :
    FnOk P w K mg base (L2N.CX P w) 5 f fd ["self"] (spTurned C) := by
  refine Fun.okN F scTd (fun vs H Q E h => ?_) (fun cdv A outer s H vs Q E hr h => ?_)
  · obtain ⟨p, m, ts, ws, rfl, _⟩ := h
    rfl
  · obtain ⟨p, m, ts, ws, rfl, hW, hok, m1, m12, hl, hQ⟩ := h
    obtain ⟨dx, b, c, w0⟩ := hW.is
    have hr4 : Room 4 _ := hr
    refine ⟨_, pss_one (ps_ret (pe_makeS (E := fun _ => E) M GW hr4 rfl W.mgC bI (fun σ pins H s e s' I c => L2N.passes_call (L2N.takes_of rfl rfl rfl rfl) (fun _ _ _ _ h => h) pins σ H s e s' I c) (pa_cons (pe_fld (pv 0) rfl) (pa_cons
      (pe_lc (own := [("one", 1), ("other", 2), ("delay", 3)]) (g := gTup K 3 (gCons (gName 1) (gCons (gName 2) (gCons (gName 3) gNil)))) rfl scTd.nd (pi_tup (pe_fld (pv 0) rfl))
        (blkOk_by (own := [("one", 1), ("other", 2), ("delay", 3)]) (N := ["self", "one", "other", "delay"]) (sc := defScope sTurned) (by decide +kernel))
        (by intro s1 H1 C1 cl fp; exact pg_tup rfl (pgs_cons (pg_name (i := 1) scTd.nd rfl (.inl rfl)) (pgs_cons (pg_name (i := 2) scTd.nd rfl (.inl rfl)) (pgs_cons (pg_name (i := 3) scTd.nd rfl (.inl rfl)) pgs_nil))))
        (fun _ _ _ _ _ => pts_nil) (fun _ _ _ _ _ => pe_tup (pa_cons (pv 2) (pa_cons (pv 1) (pa_cons (pv 3) pa_nil))))) pa_nil)))), ?_⟩
    have lts := w0.T.1
    refine ⟨_, rfl, p, C, dx, _, _, rfl, w0.o, W.cl, W.nM, webF_many _ _ _, _, rfl, p, C, dx, _, _, rfl, w0.o, W.cl, W.nU, webF_own _ _ _, c, rfl, ⟨_, SqT.of w0.t⟩, fun D nD => lc_tup (K := K) (a := c) (xs := ts.map V.ref) (fun i H' => ∃ ps, Same H H' ∧ H' D = some (.lst (ps.map V.ref)) ∧ Tups H' ps ((ws.take i).map flipW))
      ⟨[], same_new (Same.refl _) nD, upd_same, ⟨by simp, fun i t q h => by cases h⟩⟩ (fun i H' _ ⟨_, s, _, _⟩ => SqT.of (s _ _ w0.t)) ?_ ?_⟩
    · rintro i y H' hi ⟨ps, sm, hD, hP⟩
      obtain ⟨t, v, rfl, _, hv, hmem, ht⟩ := (w0.T.same (same_tups sm)).at hi
      have il : i < ws.length := (List.getElem?_eq_some_iff.mp hv).1
      have pl : ps.length ≤ 100 := by
        rw [hP.1, List.length_map, List.length_take]
        omega
      refine ⟨t, _, rfl, SqT.of ht, rfl, _, _, rfl, _, _, rfl, _, _, rfl, rfl, rfl, ?_⟩
      refine ⟨_, rfl, _, rfl, _, rfl, (by show 3 ≤ sizeLine; decide), fun q nq => ?_⟩
      have Dq : D ≠ q := ne_of_none hD nq
      refine ⟨_, by rw [upd_ne Dq]; exact hD, small1000 (by rw [List.length_map]; omega), ps ++ [q], same_put (same_new sm nq) nD, by rw [upd_same, List.map_append]; rfl, ?_⟩
      rw [List.take_add_one, hv, List.map_append]
      refine (hP.same fun b xs eb => ?_).snoc (w := flipW v) (by rw [upd_ne Dq.symm, upd_same]; rfl)
      rw [upd_ne (ne_of eb hD (by intro z; cases z)), upd_ne (ne_of_none eb nq)]
      exact eb
    · rintro H' ⟨ps, sm, hD, hP⟩
      rw [List.length_map, lts, List.take_length] at hP
      intro x dx' nx ndx ne
      have s1 : Same H' (upd (upd H' dx' (.own x)) x (.ins C dx' [])) := fun b o e => by rw [upd_ne (ne_of_none e nx), upd_ne (ne_of_none e ndx)]; exact e
      refine spWeb_ok upd_same ⟨s1 _ _ hD, hP.same (same_tups s1)⟩ m1 m12 (by rw [List.length_map]; exact hl) hok.flip fun H2 k2 w2 => ⟨rfl, hQ x ps H2 (fun b o e => k2 _ _ (s1 _ _ (sm _ _ e)) (ne_of_none (sm _ _ e) nx)) (sm.free nx) (w2.older (sm.trans s1))⟩
end
end Mp
/-! ## LW -/
set_option Elab.async false
set_option linter.all false
set_option maxRecDepth 100000
set_option maxHeartbeats 4000000
namespace Mp
open PySem PySem.Spec PyProof.Rows L2
structure NamesI (mg : Str → Option Value) : Prop where
  isin : mg "isinstance" = none
  int : mg "int" = none
  bool : mg "bool" = none
section
variable {P : Program} {w : World} {K : PySem.W.Frag} {mg : Str → Option Value} {base : Heap}
def spWhole : Sp := fun vs H Q _ => ∃ z : Int, vs = [.int z] ∧ Q (.bl true) H
theorem scWh : FnScope ["_law_found"] ["_law_found"] (defScope sLawWhole) := ⟨rfl, rfl, rfl, by decide +kernel, rfl, by decide +kernel, by decide +kernel⟩
theorem ok_whole {f : Addr} {fd : FuncData} (F : Fun K "_law_whole" "_law_whole" sLawWhole f fd) (Z : NamesI mg) : FnOk P w K mg base CX0 1 f fd ["_law_found"] spWhole := by
  refine F.ok scWh (fun vs H Q E h => ?_) (fun cdv A outer s H vs Q E hr h => ?_)
  · obtain ⟨z, rfl, _⟩ := h
    rfl
  · obtain ⟨z, rfl, hQ⟩ := h
    refine ⟨_, pss_one (ps_ret (pe_and (pe_callB call_isi (by rfl) Z.isin (by decide +kernel) (pa_cons (pv 0) (pa_cons (pe_bltn (v := .ty "int") rfl Z.int (by decide +kernel) rfl) pa_nil)))
      (pe_one (pe_not (pe_callB call_isi (by rfl) Z.isin (by decide +kernel) (pa_cons (pv 0) (pa_cons (pe_bltn (v := .ty "bool") rfl Z.bool (by decide +kernel) rfl) pa_nil))))))), ?_⟩
    refine ⟨_, rfl, .int z, .ty "int", .type "int", .type "int", true, rfl, .ty _, .base (.int _), kit_ty (by decide +kernel), true, rfl, iteT ?_⟩
    exact ⟨_, rfl, .int z, .ty "bool", .type "int", .type "bool", false, rfl, .ty _, .base (.int _), kit_ty (by decide +kernel), false, rfl, hQ⟩
end
end Mp
/-! ## LMake -/
set_option Elab.async false
set_option linter.all false
set_option maxRecDepth 100000
set_option maxHeartbeats 4000000
namespace Mp
open PySem PySem.Spec PyProof.Rows L2
/-- a web is made of a list of ways that the document takes -/
theorem make_web {C CB CM CD CA a : Addr} {m : Int} {ts : List Addr} {ws : List Way} {H : Hp} {Q : Addr → Hp → Prop} {E : XK} (hW : WList H a ts ws) (h1 : 1 ≤ m) (h2 : m ≤ 12) (h3 : ws.length ≤ 60) (ok : WebOk m ws)
    (q : ∀ x H', Same H H' → H x = none → Askable C H' x m ts ws → Q x H') : ∀ x dx : Addr, H x = none → H dx = none → dx ≠ x → spWeb C CB CM CD CA [.ref x, .int m, .ref a] (upd (upd H dx (.own x)) x (.ins C dx [])) (fun v H2 => v = .non ∧ Q x H2) E := by
  intro x dx nx ndx ne
  have s3 : Same H (upd (upd H dx (.own x)) x (.ins C dx [])) := fun b o e => by rw [upd_ne (ne_of_none e nx), upd_ne (ne_of_none e ndx)]; exact e
  refine spWeb_ok upd_same ⟨s3 _ _ hW.1, hW.2.same (same_tups s3)⟩ h1 h2 h3 ok fun H4 k4 w4 => ⟨rfl, q x H4 (fun c o e => k4 _ _ (s3 _ _ e) (ne_of_none e nx)) nx ⟨w4.at, ok, h1, h2, h3⟩⟩
/-- two whole numbers as data -/
theorem tup2_lay (a b : Int) : PyData.canLay0 (.tuple [.int a, .int b]) = true := by simp [PyData.canLay0, PyData.canLayAll0]
theorem tup2_shaped (a b : Int) : SeqAt.shaped (.tuple [.int a, .int b]) = true := by
  unfold SeqAt.shaped
  rw [tup2_lay, decide_eq_true (by simp [PyData.depth, PyData.depthAll])]
  rfl
theorem tup2_eqv (a b : Int) : PyData.eqv (.tuple [.int a, .int b]) (.tuple [.int a, .int b]) = true := SeqAt.eqv_refl _ (tup2_lay a b)
theorem dp_tup2 {K : PySem.W.Frag} {H : Hp} {t : Addr} {a b : Int} (h : H t = some (.tup [.int a, .int b])) : Dp K H (.ref t) (.tuple [.int a, .int b]) := .tup (SqT.of h) (.cons (.int a) (.cons (.int b) .nil))
end Mp
/-! ## N3 -/
set_option linter.all false
namespace Mp
/-! Plain mathematics: a run of times along ways of no positive weight comes again within at most sixty turns -/
def In (m : Nat) (x : Int) : Prop := 0 ≤ x ∧ x < m
structure Run (m : Nat) (E : List Way) (Y : Nat → Int → Int) : Prop where
  up : ∀ k, ∀ w ∈ E, Y k w.1 + w.2.2 ≤ Y (k + 1) w.2.1
  hit : ∀ k j, In m j → ∃ w ∈ E, w.2.1 = j ∧ Y (k + 1) j = Y k w.1 + w.2.2
theorem Run.shift {m : Nat} {E : List Way} {Y : Nat → Int → Int} (R : Run m E Y) (i : Nat) : Run m E fun k => Y (i + k) := ⟨fun k => R.up (i + k), fun k => R.hit (i + k)⟩
theorem Run.det {m : Nat} {E : List Way} {Y Z : Nat → Int → Int} (hE : ∀ w ∈ E, EndsOk m w) (R : Run m E Y) (R' : Run m E Z) {i k : Nat} (h : ∀ j, In m j → Y i j = Z k j) : ∀ j, In m j → Y (i + 1) j = Z (k + 1) j := fun j hj => by
  obtain ⟨w, hw, ew, e⟩ := R.hit i j hj
  obtain ⟨u, hu, eu, e'⟩ := R'.hit k j hj
  have a := R.up i u hu
  have b := R'.up k w hw
  rw [eu] at a
  rw [ew] at b
  have h1 := h w.1 (hE w hw).1
  have h2 := h u.1 (hE u hu).1
  omega
theorem Run.dets {m : Nat} {E : List Way} {Y Z : Nat → Int → Int} (hE : ∀ w ∈ E, EndsOk m w) (R : Run m E Y) (R' : Run m E Z) {i k : Nat} (h : ∀ j, In m j → Y i j = Z k j) : ∀ t j, In m j → Y (i + t) j = Z (k + t) j
  | 0 => h
  | t + 1 => Run.det hE R R' (R.dets hE R' h t)
/-- a ring whose ways weigh nothing -/
structure ZeroC (m : Nat) (E : List Way) (c : List Int) : Prop where
  ne : c ≠ []
  nd : c.Nodup
  rg : ∀ x ∈ c, In m x
  way : ∀ k, k < c.length → (cyc c k, cyc c (k + 1), 0) ∈ E
theorem ZeroC.all {m : Nat} {E : List Way} {c : List Int} (Z : ZeroC m E c) (k : Nat) : (cyc c k, cyc c (k + 1), 0) ∈ E := by
  have hl : 0 < c.length := List.length_pos_iff.mpr Z.ne
  have := Z.way (k % c.length) (Nat.mod_lt _ hl)
  rw [cyc_mod] at this
  rw [show cyc c (k + 1) = cyc c (k % c.length + 1) by unfold cyc; rw [Nat.add_mod (k % c.length) 1, Nat.mod_mod, ← Nat.add_mod]]
  exact this
theorem ZeroC.go {m : Nat} {E : List Way} {c : List Int} {Y : Nat → Int → Int} (R : Run m E Y) (Z : ZeroC m E c) (k j : Nat) : ∀ i, Y k (cyc c j) ≤ Y (k + i) (cyc c (j + i))
  | 0 => Int.le_refl _
  | i + 1 => by
    have a := ZeroC.go R Z k j i
    have b := R.up (k + i) _ (Z.all (j + i))
    dsimp only at b
    have e1 : k + (i + 1) = k + i + 1 := by omega
    have e2 : j + (i + 1) = j + i + 1 := by omega
    rw [e1, e2]
    omega
theorem cyc_mul (c : List Int) (j : Nat) : ∀ q, cyc c (j + q * c.length) = cyc c j
  | 0 => by rw [Nat.zero_mul, Nat.add_zero]
  | q + 1 => by
    rw [Nat.succ_mul, ← Nat.add_assoc, cyc_add]
    exact cyc_mul c j q
theorem ZeroC.again {m : Nat} {E : List Way} {c : List Int} {Y : Nat → Int → Int} (R : Run m E Y) (Z : ZeroC m E c) {x : Int} (hx : x ∈ c) (k q : Nat) : Y k x ≤ Y (k + q * c.length) x := by
  obtain ⟨j, _, rfl⟩ := cyc_ix hx
  have := Z.go R k j (q * c.length)
  rw [cyc_mul] at this
  exact this
theorem Run.top {m : Nat} {E : List Way} {Y : Nat → Int → Int} (hE : ∀ w ∈ E, EndsOk m w) (hW : ∀ w ∈ E, w.2.2 ≤ 0) (R : Run m E Y) {k : Nat} {M : Int} (h : ∀ j, In m j → Y k j ≤ M) : ∀ t j, In m j → Y (k + t) j ≤ M
  | 0 => h
  | t + 1 => fun j hj => by
    obtain ⟨w, hw, ew, e⟩ := R.hit (k + t) j hj
    have a := Run.top hE hW R h t w.1 (hE w hw).1
    have b := hW w hw
    rw [show k + (t + 1) = k + t + 1 by omega]
    omega
/-! ### trails that go back -/
def BackR (r : Int → Int → Prop) (c : List Int) : Prop := ∀ k, k < c.length → r (cyc c (k + 1)) (cyc c k)
theorem backR_of_trail {r : Int → Int → Prop} {t : List Int} {j : Nat} (hj : j < t.length) (h1 : ∀ k, k + 1 < t.length → r (cyc t k) (cyc t (k + 1))) (h2 : r (cyc t (t.length - 1)) (cyc t j)) : BackR r (t.drop j).reverse := by
  have ll : (t.drop j).reverse.length = t.length - j := by rw [List.length_reverse, List.length_drop]
  have at_ : ∀ k, k < t.length - j → cyc (t.drop j).reverse k = cyc t (t.length - 1 - k) := fun k hk => by
    refine cyc_of ?_
    rw [List.getElem?_reverse (by rw [List.length_drop]; exact hk), List.length_drop, List.getElem?_drop, show j + (t.length - j - 1 - k) = t.length - 1 - k by omega]
    exact cyc_at (by omega)
  intro k hk
  rw [ll] at hk
  by_cases e : k + 1 < t.length - j
  · rw [at_ k hk, at_ (k + 1) e]
    have := h1 (t.length - 1 - (k + 1)) (by omega)
    rw [show t.length - 1 - (k + 1) + 1 = t.length - 1 - k by omega] at this
    exact this
  · have ek : k + 1 = t.length - j := by omega
    have e0 : cyc (t.drop j).reverse (k + 1) = cyc (t.drop j).reverse 0 := by rw [ek, ← ll]; exact cyc_round _
    rw [e0, at_ 0 (by omega), at_ k hk, show t.length - 1 - k = j by omega, show t.length - 1 - 0 = t.length - 1 by omega]
    exact h2
/-! ### the least common multiple of lengths that add up to twelve at most -/
def lands : Nat → List Nat
  | 0 => [1]
  | 1 => [1]
  | 2 => [1, 2]
  | 3 => [1, 2, 3]
  | 4 => [1, 2, 3, 4]
  | 5 => [1, 2, 3, 4, 5, 6]
  | 6 => [1, 2, 3, 4, 5, 6]
  | 7 => [1, 2, 3, 4, 5, 6, 7, 10, 12]
  | 8 => [1, 2, 3, 4, 5, 6, 7, 8, 10, 12, 15]
  | 9 => [1, 2, 3, 4, 5, 6, 7, 8, 9, 10, 12, 14, 15, 20]
  | 10 => [1, 2, 3, 4, 5, 6, 7, 8, 9, 10, 12, 14, 15, 20, 21, 30]
  | 11 => [1, 2, 3, 4, 5, 6, 7, 8, 9, 10, 11, 12, 14, 15, 18, 20, 21, 24, 28, 30]
  | _ => [1, 2, 3, 4, 5, 6, 7, 8, 9, 10, 11, 12, 14, 15, 18, 20, 21, 24, 28, 30, 35, 42, 60]
theorem lands_step : ∀ s : Fin 13, ∀ l : Fin 13, 1 ≤ l.val → l.val ≤ s.val → ∀ x ∈ lands (s.val - l.val), Nat.lcm l.val x ∈ lands s.val := by decide +kernel
theorem lands_mono : ∀ s : Fin 13, ∀ u : Fin 13, s.val ≤ u.val → ∀ x ∈ lands s.val, x ∈ lands u.val := by decide +kernel
theorem lands_12 : ∀ x ∈ lands 12, 1 ≤ x ∧ x ≤ 60 := by decide +kernel
theorem land_ex : ∀ (ls : List Nat) (s : Nat), s ≤ 12 → (∀ l ∈ ls, 1 ≤ l) → ls.sum ≤ s → ∃ L ∈ lands s, ∀ l ∈ ls, l ∣ L
  | [], s, hs, _, _ => ⟨1, lands_mono ⟨0, by omega⟩ ⟨s, by omega⟩ (Nat.zero_le _) 1 (by show 1 ∈ lands 0; decide), fun l h => nomatch h⟩
  | l :: r, s, hs, h1, h2 => by
    rw [List.sum_cons] at h2
    have hl := h1 l List.mem_cons_self
    obtain ⟨x, hx, hd⟩ := land_ex r (s - l) (by omega) (fun y hy => h1 y (List.mem_cons_of_mem _ hy)) (by omega)
    refine ⟨Nat.lcm l x, lands_step ⟨s, by omega⟩ ⟨l, by omega⟩ hl (by show l ≤ s; omega) x hx, fun y hy => ?_⟩
    rcases List.mem_cons.mp hy with e | e
    · subst e; exact Nat.dvd_lcm_left _ _
    · exact Nat.dvd_trans (hd y e) (Nat.dvd_lcm_right _ _)
theorem land60 {ls : List Nat} (h1 : ∀ l ∈ ls, 1 ≤ l) (h2 : ls.sum ≤ 12) : ∃ L, 1 ≤ L ∧ L ≤ 60 ∧ ∀ l ∈ ls, l ∣ L := by
  obtain ⟨L, hL, hd⟩ := land_ex ls 12 (Nat.le_refl _) h1 h2
  exact ⟨L, (lands_12 L hL).1, (lands_12 L hL).2, hd⟩
/-! ### as many rings of no weight as there are without a meeting in common -/
structure Fam (m : Nat) (E : List Way) (Cs : List (List Int)) : Prop where
  zero : ∀ c ∈ Cs, ZeroC m E c
  nd : Cs.flatten.Nodup
theorem Fam.rg {m : Nat} {E : List Way} {Cs : List (List Int)} (F : Fam m E Cs) : ∀ x ∈ Cs.flatten, In m x := fun x hx => by
  obtain ⟨c, hc, h⟩ := List.mem_flatten.mp hx
  exact (F.zero c hc).rg x h
theorem fam_ex (m : Nat) (E : List Way) : ∀ (f : Nat) (Cs : List (List Int)), Fam m E Cs → m + 1 ≤ Cs.flatten.length + f → ∃ Ds, Fam m E Ds ∧ ∀ c, ZeroC m E c → ∃ x ∈ c, x ∈ Ds.flatten
  | 0, Cs, F, h => by
    have := nodup_le m _ F.nd F.rg
    omega
  | f + 1, Cs, F, h => by
    by_cases q : ∀ c, ZeroC m E c → ∃ x ∈ c, x ∈ Cs.flatten
    · exact ⟨Cs, F, q⟩
    · simp only [Classical.not_forall] at q
      obtain ⟨c, hc, q⟩ := q
      refine fam_ex m E f (c :: Cs) ⟨fun d hd => ?_, ?_⟩ ?_
      · rcases List.mem_cons.mp hd with e | e
        · subst e; exact hc
        · exact F.zero d e
      · rw [List.flatten_cons, List.nodup_append]
        exact ⟨hc.nd, F.nd, fun a ha b hb e => q ⟨a, ha, by rw [e]; exact hb⟩⟩
      · rw [List.flatten_cons, List.length_append]
        have : 0 < c.length := List.length_pos_iff.mpr hc.ne
        omega
/-! ### what comes again comes again within sixty turns -/
section
variable {m : Nat} {E : List Way} {Y : Nat → Int → Int}
def Short (m : Nat) (Y : Nat → Int → Int) (L k : Nat) (j : Int) : Prop := In m j ∧ Y (k + L) j < Y k j
theorem short_back (hE : ∀ w ∈ E, EndsOk m w) (R : Run m E Y) {L k : Nat} {j : Int} (h : Short m Y L (k + 1) j) : ∃ w ∈ E, w.2.1 = j ∧ Short m Y L k w.1 ∧ Y (k + 1) j = Y k w.1 + w.2.2 := by
  obtain ⟨w, hw, ew, e⟩ := R.hit k j h.1
  have a := R.up (k + L) w hw
  have b := h.2
  rw [ew] at a
  rw [show k + 1 + L = k + L + 1 by omega] at b
  exact ⟨w, hw, ew, ⟨(hE w hw).1, by omega⟩, e⟩
/-- from a pair that falls short, and than which none that does is higher, back to a ring of no weight -/
theorem short_ring (hE : ∀ w ∈ E, EndsOk m w) (hW : ∀ w ∈ E, w.2.2 ≤ 0) (R : Run m E Y) {L k : Nat} {j : Int} {v : Int} (h : Short m Y L (k + m) j) (hv : Y (k + m) j = v) (top : ∀ k' j', Short m Y L k' j' → Y k' j' ≤ v) :
    ∃ c, ZeroC m E c ∧ ∀ x ∈ c, ∃ k', Short m Y L k' x := by
  have key : ∀ s, s ≤ m → (∃ c, ZeroC m E c ∧ ∀ x ∈ c, ∃ k', Short m Y L k' x) ∨ ∃ us : List Int, us.length = s + 1 ∧ us.Nodup ∧ (∀ x ∈ us, ∃ k', Short m Y L k' x) ∧ (∀ i, i + 1 < us.length → (cyc us (i + 1), cyc us i, 0) ∈ E) ∧ Short m Y L (k + m - s) (cyc us s) ∧ Y (k + m - s) (cyc us s) = v := by
    intro s
    induction s with
    | zero =>
      intro _
      refine .inr ⟨[j], rfl, by simp, fun x hx => ⟨k + m, by rw [List.mem_singleton.mp hx]; exact h⟩, fun i hi => absurd hi (by simp), ?_, ?_⟩
      · exact h
      · exact hv
    | succ s ih =>
      intro hs
      rcases ih (by omega) with q | ⟨us, hl, nd, hsh, hed, h1, h2⟩
      · exact .inl q
      · rw [show k + m - s = (k + m - (s + 1)) + 1 by omega] at h1 h2
        obtain ⟨w, hw, ew, h3, e⟩ := short_back hE R h1
        have w0 := hW w hw
        have t := top _ _ h3
        have e0 : w.2.2 = 0 := by omega
        have hw' : (w.1, cyc us s, 0) ∈ E := by rw [← e0, ← ew]; exact hw
        have hls : us.length - 1 = s := by omega
        by_cases z : w.1 ∈ us
        · obtain ⟨i, hi, ei⟩ := cyc_ix z
          left
          have B := backR_of_trail (r := fun x y => (y, x, 0) ∈ E) hi hed (by rw [hls, ei]; exact hw')
          have sub : ∀ x ∈ (us.drop i).reverse, x ∈ us := fun x hx => List.mem_of_mem_drop (List.mem_reverse.mp hx)
          refine ⟨(us.drop i).reverse, ⟨fun e => ?_, ?_, fun x hx => ?_, fun a ha => B a ha⟩, fun x hx => hsh x (sub x hx)⟩
          · have := congrArg List.length e
            rw [List.length_reverse, List.length_drop, List.length_nil] at this
            omega
          · exact nodup_rev (nd.sublist (List.drop_sublist _ _))
          · obtain ⟨k', hk'⟩ := hsh x (sub x hx)
            exact hk'.1
        · right
          have c1 : ∀ i, i < us.length → cyc (us ++ [w.1]) i = cyc us i := fun i hi => cyc_of (by rw [List.getElem?_append_left hi]; exact cyc_at hi)
          have c2 : cyc (us ++ [w.1]) (s + 1) = w.1 := cyc_of (by rw [List.getElem?_append_right (by omega), hl, Nat.sub_self]; rfl)
          refine ⟨us ++ [w.1], by rw [List.length_append, hl]; rfl, ?_, fun x hx => ?_, fun i hi => ?_, ?_, ?_⟩
          · rw [List.nodup_append]
            exact ⟨nd, by simp, fun a ha b hb e => z (by rw [← List.mem_singleton.mp hb, ← e]; exact ha)⟩
          · rcases List.mem_append.mp hx with q | q
            · exact hsh x q
            · rw [List.mem_singleton.mp q]; exact ⟨_, h3⟩
          · rw [List.length_append, hl] at hi
            by_cases ci : i + 1 < us.length
            · rw [c1 i (by omega), c1 (i + 1) ci]
              exact hed i ci
            · have ei : i = s := by
                have : i + 1 < s + 1 + 1 := hi
                omega
              subst ei
              rw [c2, c1 i (by omega)]
              exact hw'
          · rw [c2]; exact h3
          · rw [c2]; omega
  rcases key m (Nat.le_refl _) with q | ⟨us, hl, nd, hsh, _⟩
  · exact q
  · have := nodup_le m us nd fun x hx => by
      obtain ⟨k', hk'⟩ := hsh x hx
      exact hk'.1
    omega
theorem per_mul {P : Nat} (h : ∀ k j, In m j → Y (k + P) j = Y k j) : ∀ (a k : Nat) (j : Int), In m j → Y (k + a * P) j = Y k j
  | 0, k, j, _ => by rw [Nat.zero_mul, Nat.add_zero]
  | a + 1, k, j, hj => by
    rw [Nat.succ_mul, ← Nat.add_assoc, h _ _ hj]
    exact per_mul h a k j hj
theorem no_short (hE : ∀ w ∈ E, EndsOk m w) (hW : ∀ w ∈ E, w.2.2 ≤ 0) (R : Run m E Y) {P L : Nat} (P1 : 1 ≤ P) (per : ∀ k j, In m j → Y (k + P) j = Y k j) {M : Int} (hM : ∀ j, In m j → Y 0 j ≤ M) {Cs : List (List Int)} (F : Fam m E Cs) (mx : ∀ c, ZeroC m E c → ∃ x ∈ c, x ∈ Cs.flatten) (hL : ∀ c ∈ Cs, c.length ∣ L) :
    ∀ (f k : Nat) (j : Int), Short m Y L k j → M < Y k j + f → False
  | 0, k, j, h, hf => by
    have := R.top hE hW hM k j h.1
    rw [Nat.zero_add] at this
    omega
  | f + 1, k, j, h, hf => by
    have sh : Short m Y L (k + m * P) j := ⟨h.1, by
      have a := per_mul per m k j h.1
      have b := per_mul per m (k + L) j h.1
      rw [show k + m * P + L = k + L + m * P by omega, a, b]
      exact h.2⟩
    have eY := per_mul per m k j h.1
    have le : m ≤ k + m * P := by
      have := Nat.mul_le_mul_left m P1
      omega
    obtain ⟨k0, hk0⟩ : ∃ k0, k + m * P = k0 + m := ⟨k + m * P - m, by omega⟩
    rw [hk0] at sh eY
    by_cases top : ∀ k' j', Short m Y L k' j' → Y k' j' ≤ Y k j
    · obtain ⟨c, hc, hx⟩ := short_ring hE hW R sh eY top
      obtain ⟨x, xc, xf⟩ := mx c hc
      obtain ⟨k', hk'⟩ := hx x xc
      obtain ⟨d, hd, xd⟩ := List.mem_flatten.mp xf
      obtain ⟨q, hq⟩ := hL d hd
      have := (F.zero d hd).again R xd k' q
      rw [Nat.mul_comm q, ← hq] at this
      have := hk'.2
      omega
    · simp only [Classical.not_forall] at top
      obtain ⟨k', j', h', hl⟩ := top
      exact no_short hE hW R P1 per hM F mx hL f k' j' h' (by omega)
theorem bound_ex : ∀ (n : Nat) (f : Int → Int), ∃ M, ∀ j, In n j → f j ≤ M
  | 0, _ => ⟨0, fun j h => by have := h.1; have := h.2; omega⟩
  | n + 1, f => by
    obtain ⟨M, h⟩ := bound_ex n f
    by_cases c : f n ≤ M
    · refine ⟨M, fun j hj => ?_⟩
      by_cases e : j = n
      · rw [e]; exact c
      · exact h j ⟨hj.1, by have := hj.2; omega⟩
    · refine ⟨f n, fun j hj => ?_⟩
      by_cases e : j = n
      · rw [e]; exact Int.le_refl _
      · have := h j ⟨hj.1, by have := hj.2; omega⟩
        omega
theorem per60 (m12 : m ≤ 12) (hE : ∀ w ∈ E, EndsOk m w) (hW : ∀ w ∈ E, w.2.2 ≤ 0) (R : Run m E Y) {P : Nat} (P1 : 1 ≤ P) (per : ∀ k j, In m j → Y (k + P) j = Y k j) : ∃ L, 1 ≤ L ∧ L ≤ 60 ∧ ∀ k j, In m j → Y (k + L) j = Y k j := by
  obtain ⟨Cs, F, mx⟩ := fam_ex m E (m + 1) [] ⟨nofun, by simp⟩ (by simp)
  obtain ⟨L, L1, L60, hL⟩ := land60 (ls := Cs.map List.length) (fun l hl => by
    obtain ⟨c, hc, rfl⟩ := List.mem_map.mp hl
    exact List.length_pos_iff.mpr (F.zero c hc).ne) (by
    have := nodup_le m _ F.nd F.rg
    rw [List.length_flatten] at this
    omega)
  obtain ⟨M, hM⟩ := bound_ex m (Y 0)
  have ge : ∀ k j, In m j → Y k j ≤ Y (k + L) j := fun k j hj => by
    apply Classical.byContradiction
    intro c
    exact no_short hE hW R P1 per hM F mx (fun c hc => hL _ (List.mem_map.mpr ⟨c, hc, rfl⟩)) (M - Y k j + 1).toNat k j ⟨hj, by omega⟩ (by omega)
  have ges : ∀ (a k : Nat) (j : Int), In m j → Y k j ≤ Y (k + a * L) j := by
    intro a
    induction a with
    | zero => intro k j _; rw [Nat.zero_mul, Nat.add_zero]; exact Int.le_refl _
    | succ a ih =>
      intro k j hj
      rw [Nat.succ_mul, ← Nat.add_assoc]
      exact Int.le_trans (ih k j hj) (ge _ j hj)
  refine ⟨L, L1, L60, fun k j hj => ?_⟩
  have a := ges (P - 1) (k + L) j hj
  have b := per_mul per L k j hj
  have e : k + L + (P - 1) * L = k + L * P := by
    obtain ⟨p, rfl⟩ : ∃ p, P = p + 1 := ⟨P - 1, by omega⟩
    rw [Nat.add_sub_cancel, Nat.mul_succ, Nat.mul_comm p L]
    omega
  rw [e, b] at a
  have := ge k j hj
  omega
end
end Mp
/-! ## N4 -/
set_option linter.all false
namespace Mp
/-! Plain mathematics: a slower ring or a start; a ring of the greatest mean; paths; runs come again -/
theorem behind_ring {n : Nat} {b : Int → Option Int} {r : Int → Nat} (hB : Behind n b r) {x : Int} (hx : In n x) (hr : n ≤ r x) : ∃ c : List Int, c ≠ [] ∧ c.Nodup ∧ (∀ y ∈ c, In n y) ∧ Back b c := by
  have key : ∀ s, s ≤ n → (∃ c : List Int, c ≠ [] ∧ c.Nodup ∧ (∀ y ∈ c, In n y) ∧ Back b c) ∨ ∃ us : List Int, us.length = s + 1 ∧ us.Nodup ∧ (∀ y ∈ us, In n y) ∧ (∀ k, k + 1 < us.length → b (cyc us k) = some (cyc us (k + 1))) ∧ n ≤ r (cyc us s) + s := by
    intro s
    induction s with
    | zero =>
      intro _
      exact .inr ⟨[x], rfl, by simp, fun y hy => by rw [List.mem_singleton.mp hy]; exact hx, fun k hk => absurd hk (by simp), hr⟩
    | succ s ih =>
      intro hs
      rcases ih (by omega) with q | ⟨us, hl, nd, rg, hed, h1⟩
      · exact .inl q
      · have hm := rg _ (cyc_mem (fun e => by rw [e] at hl; cases hl) s)
        obtain ⟨u, hu, u0, u1, ru⟩ := hB.some _ hm.1 hm.2 (by omega)
        have hls : us.length - 1 = s := by omega
        by_cases z : u ∈ us
        · obtain ⟨i, hi, ei⟩ := cyc_ix z
          left
          have B := back_of_trail hi hed (by rw [hls, ei]; exact hu)
          refine ⟨_, fun e => ?_, nodup_rev (nd.sublist (List.drop_sublist i _)), fun y hy => rg y (List.mem_of_mem_drop (List.mem_reverse.mp hy)), B⟩
          have := congrArg List.length e
          rw [List.length_reverse, List.length_drop, List.length_nil] at this
          omega
        · right
          have c1 : ∀ i, i < us.length → cyc (us ++ [u]) i = cyc us i := fun i hi => cyc_of (by rw [List.getElem?_append_left hi]; exact cyc_at hi)
          have c2 : cyc (us ++ [u]) (s + 1) = u := cyc_of (by rw [List.getElem?_append_right (by omega), hl, Nat.sub_self]; rfl)
          refine ⟨us ++ [u], by rw [List.length_append, hl]; rfl, ?_, fun y hy => ?_, fun i hi => ?_, ?_⟩
          · rw [List.nodup_append]
            exact ⟨nd, by simp, fun a ha b hb e => z (by rw [← List.mem_singleton.mp hb, ← e]; exact ha)⟩
          · rcases List.mem_append.mp hy with q | q
            · exact rg y q
            · rw [List.mem_singleton.mp q]; exact ⟨u0, u1⟩
          · rw [List.length_append, hl] at hi
            by_cases ci : i + 1 < us.length
            · rw [c1 i (by omega), c1 (i + 1) ci]
              exact hed i ci
            · have ei : i = s := by
                have : i + 1 < s + 1 + 1 := hi
                omega
              subst ei
              rw [c2, c1 i (by omega)]
              exact hu
          · rw [c2]; omega
  rcases key n (Nat.le_refl _) with q | ⟨us, hl, nd, rg, _⟩
  · exact q
  · have := nodup_le n us nd rg
    omega
/-- the document's point 10 -/
theorem slower_or_start {n : Nat} {ws : List Way} {N D : Int} (n1 : 1 ≤ n) (hE : ∀ w ∈ ws, EndsOk n w) (hD : 0 ≤ D) : (∃ s, StartOk ws N D s) ∨ ∃ c, RingOk n ws c ∧ N * c.length < D * total ws c := by
  obtain ⟨S, hS⟩ : ∃ S, S = ws.map fun w => (w.1, w.2.1, D * w.2.2 - N) := ⟨_, rfl⟩
  have hSt : StepsOf ws S N D := fun u v x => by
    rw [hS, List.mem_map]
    constructor
    · rintro ⟨w, hw, e⟩
      cases e
      exact ⟨w.2.2, hw, rfl⟩
    · rintro ⟨d, hd, rfl⟩
      exact ⟨_, hd, rfl⟩
  have hSe : ∀ w ∈ S, EndsOk n w := fun w hw => by
    rw [hS] at hw
    obtain ⟨v, hv, rfl⟩ := List.mem_map.mp hw
    exact hE v hv
  clear hS
  have turn : ∀ {k T h b t r}, 1 ≤ k → LiftInv S k 0 T h b t r none → ∀ i, i ≤ S.length → ∃ T h b t r l, LiftInv S k i T h b t r l ∧ ∀ x, l = some x → In n x := by
    intro k T h b t r k1 I i
    induction i with
    | zero => intro _; exact ⟨T, h, b, t, r, none, I, nofun⟩
    | succ i ih =>
      intro hi
      obtain ⟨T, h, b, t, r, l, I, hl⟩ := ih (by omega)
      have e : S[i]? = some S[i] := List.getElem?_eq_getElem (by omega)
      by_cases c : h (S[i]).2.1 < h (S[i]).1 + (S[i]).2.2
      · exact ⟨_, _, _, _, _, _, I.lift k1 e c, fun x ex => by cases ex; exact (hSe _ (List.getElem_mem _)).2⟩
      · exact ⟨_, _, _, _, _, _, I.skip e c, hl⟩
  have rounds : ∀ k, (∃ s, StartOk ws N D s) ∨ ∃ T h b t r, LiftInv S (k + 1) 0 T h b t r none ∧ (1 ≤ k → ∃ x, In n x ∧ r x = k) := by
    intro k
    induction k with
    | zero => exact .inr ⟨_, _, _, _, _, LiftInv.first S, fun h => absurd h (by decide)⟩
    | succ k ih =>
      rcases ih with q | ⟨T, h, b, t, r, I, _⟩
      · exact .inl q
      · obtain ⟨T, h, b, t, r, l, I, hl⟩ := turn (by omega) I S.length (Nat.le_refl _)
        cases l with
        | none => exact .inl ⟨h, I.start hSt⟩
        | some x => exact .inr ⟨T, h, b, t, r, I.round, fun _ => ⟨x, hl x rfl, I.som x rfl⟩⟩
  rcases rounds n with q | ⟨T, h, b, t, r, I, hx⟩
  · exact .inl q
  · obtain ⟨x, ix, rx⟩ := hx n1
    obtain ⟨c, ne, nd, rg, B⟩ := behind_ring (I.behind hSe) ix (by omega)
    exact .inr ⟨c, I.ring hD hSt ne nd rg B⟩
/-- what a web is, as the document takes it -/
structure WebM (n : Nat) (ws : List Way) : Prop where
  n1 : 1 ≤ n
  n12 : n ≤ 12
  ends : ∀ w ∈ ws, EndsOk n w
  delays : ∀ w ∈ ws, DelayOk w
  piece : Piece n ws
theorem WebM.inc {n : Nat} {ws : List Way} (h : WebM n ws) {x : Int} (hx : In n x) : ∃ w ∈ ws, w.2.1 = x := by
  have key : ∀ a y, Go ws a y → ∃ v ∈ ws, v.2.1 = y := fun a y g => by
    cases g with
    | one h => exact ⟨_, h, rfl⟩
    | more _ h => exact ⟨_, h, rfl⟩
  exact key x x (h.piece x x hx.1 hx.2 hx.1 hx.2)
open Classical in
theorem WebM.ring {n : Nat} {ws : List Way} (h : WebM n ws) : ∃ c, RingOk n ws c := by
  obtain ⟨b, hb⟩ : ∃ b : Int → Option Int, ∀ x, In n x → ∃ w ∈ ws, w.2.1 = x ∧ b x = some w.1 := by
    refine ⟨fun x => if q : In n x then some ((h.inc q).choose).1 else none, fun x hx => ⟨(h.inc hx).choose, (h.inc hx).choose_spec.1, (h.inc hx).choose_spec.2, dif_pos hx⟩⟩
  obtain ⟨c, ne, nd, rg, B⟩ := behind_ring (n := n) (b := b) (r := fun _ => n) ⟨fun v v0 v1 _ => by
    obtain ⟨w, hw, _, e⟩ := hb v ⟨v0, v1⟩
    have := (h.ends w hw).1
    exact ⟨w.1, e, this.1, this.2, Nat.le_succ _⟩⟩ (x := 0) ⟨Int.le_refl _, by have := h.n1; omega⟩ (Nat.le_refl _)
  refine ⟨c, ne, nd, rg, fun k hk e => ?_⟩
  obtain ⟨w, hw, ew, e1⟩ := hb _ (rg _ (cyc_mem ne (k + 1)))
  rw [B k hk] at e1
  have e2 := Option.some.inj e1
  have : w.2.2 ∈ dl ws (cyc c k) (cyc c (k + 1)) := mem_dl.mpr (by rw [e2, ← ew]; exact hw)
  rw [e] at this
  cases this
theorem score_up' {m : Nat} {ws : List Way} {c e : List Int} {N D : Int} (hm : m ≤ 12) (R : RingOk m ws c) (R' : RingOk m ws e) (D1 : 1 ≤ D) (hc : N * c.length = total ws c * D) (he : N * e.length < D * total ws e) : score ws c < score ws e := by
  refine score_lt hm R R' ?_
  have lc : (0 : Int) < c.length := by have := R.pos; omega
  have a := Int.mul_lt_mul_of_pos_right he lc
  have e1 : N * (e.length : Int) * c.length = (total ws c * e.length) * D := by
    rw [Int.mul_right_comm, hc, Int.mul_right_comm]
  have e2 : D * total ws e * (c.length : Int) = (total ws e * c.length) * D := by
    rw [Int.mul_assoc, Int.mul_comm]
  rw [e1, e2] at a
  exact Int.lt_of_mul_lt_mul_right a (by omega)
/-- the document's point 11 -/
theorem WebM.pace {n : Nat} {ws : List Way} (h : WebM n ws) : ∃ (c : List Int) (s : Int → Int), RingOk n ws c ∧ StartOk ws (total ws c) c.length s := by
  obtain ⟨c0, R0⟩ := h.ring
  have key : ∀ (f : Nat) (c : List Int), RingOk n ws c → 277172280 < score ws c + f → ∃ (c : List Int) (s : Int → Int), RingOk n ws c ∧ StartOk ws (total ws c) c.length s := by
    intro f
    induction f with
    | zero =>
      intro c R hf
      have := score_bd h.n12 h.delays R
      omega
    | succ f ih =>
      intro c R hf
      rcases slower_or_start (N := total ws c) (D := c.length) h.n1 h.ends (by omega) with ⟨s, hs⟩ | ⟨e, R', lt⟩
      · exact ⟨c, s, R, hs⟩
      · have := score_up' (N := total ws c) (D := c.length) h.n12 R R' (by have := R.pos; omega) rfl lt
        exact ih e R' (by omega)
  have := score_bd h.n12 h.delays R0
  exact key 277172281 c0 R0 (by omega)
/-! ### paths -/
inductive GoN (ws : List Way) : Nat → Int → Int → Prop
  | zero (a : Int) : GoN ws 0 a a
  | more {k : Nat} {a : Int} {w : Way} : GoN ws k a w.1 → w ∈ ws → GoN ws (k + 1) a w.2.1
/-- a path without doubles -/
theorem path_ex {n : Nat} {ws : List Way} (hE : ∀ w ∈ ws, EndsOk n w) {a b : Int} (g : Go ws a b) : ∃ us : List Int, us ≠ [] ∧ us.Nodup ∧ (∀ x ∈ us, In n x) ∧ cyc us 0 = a ∧ cyc us (us.length - 1) = b ∧ ∀ k, k + 1 < us.length → ∃ d, (cyc us k, cyc us (k + 1), d) ∈ ws := by
  have ext : ∀ (us : List Int) (w : Way), w ∈ ws → us ≠ [] → us.Nodup → (∀ x ∈ us, In n x) → cyc us (us.length - 1) = w.1 → (∀ k, k + 1 < us.length → ∃ d, (cyc us k, cyc us (k + 1), d) ∈ ws) →
      ∃ vs : List Int, vs ≠ [] ∧ vs.Nodup ∧ (∀ x ∈ vs, In n x) ∧ cyc vs 0 = cyc us 0 ∧ cyc vs (vs.length - 1) = w.2.1 ∧ ∀ k, k + 1 < vs.length → ∃ d, (cyc vs k, cyc vs (k + 1), d) ∈ ws := by
    intro us w hw ne nd rg hl he
    have pos : 0 < us.length := List.length_pos_iff.mpr ne
    by_cases z : w.2.1 ∈ us
    · obtain ⟨i, hi, ei⟩ := cyc_ix z
      have c1 : ∀ k, k < i + 1 → cyc (us.take (i + 1)) k = cyc us k := fun k hk => cyc_of (by rw [List.getElem?_take_of_lt hk]; exact cyc_at (by omega))
      have ll : (us.take (i + 1)).length = i + 1 := by rw [List.length_take]; omega
      refine ⟨us.take (i + 1), (fun e => by rw [e] at ll; cases ll), nd.sublist (List.take_sublist _ _), fun x hx => rg x (List.mem_of_mem_take hx), c1 0 (by omega), by rw [ll, Nat.add_sub_cancel, c1 i (by omega)]; exact ei, fun k hk => ?_⟩
      rw [ll] at hk
      rw [c1 k (by omega), c1 (k + 1) hk]
      exact he k (by omega)
    · have c1 : ∀ i, i < us.length → cyc (us ++ [w.2.1]) i = cyc us i := fun i hi => cyc_of (by rw [List.getElem?_append_left hi]; exact cyc_at hi)
      have c2 : cyc (us ++ [w.2.1]) us.length = w.2.1 := cyc_of (by rw [List.getElem?_append_right (Nat.le_refl _), Nat.sub_self]; rfl)
      have ll : (us ++ [w.2.1]).length = us.length + 1 := by rw [List.length_append]; rfl
      refine ⟨us ++ [w.2.1], by simp, ?_, fun y hy => ?_, c1 0 pos, by rw [ll, Nat.add_sub_cancel]; exact c2, fun k hk => ?_⟩
      · rw [List.nodup_append]
        exact ⟨nd, by simp, fun a ha b hb e => z (by rw [← List.mem_singleton.mp hb, ← e]; exact ha)⟩
      · rcases List.mem_append.mp hy with q | q
        · exact rg y q
        · rw [List.mem_singleton.mp q]; exact (hE w hw).2
      · rw [ll] at hk
        by_cases ck : k + 1 < us.length
        · rw [c1 k (by omega), c1 (k + 1) ck]
          exact he k ck
        · have ek : k + 1 = us.length := by omega
          rw [ek, c2, c1 k (by omega), show k = us.length - 1 by omega, hl]
          exact ⟨w.2.2, hw⟩
  induction g with
  | @one w hw =>
    exact ext [w.1] w hw (by simp) (by simp) (fun x hx => by rw [List.mem_singleton.mp hx]; exact (hE w hw).1) rfl fun k hk => absurd hk (by simp)
  | @more a w g hw ih =>
    obtain ⟨us, ne, nd, rg, h0, hl, he⟩ := ih
    obtain ⟨vs, p⟩ := ext us w hw ne nd rg hl he
    rw [h0] at p
    exact ⟨vs, p⟩
theorem WebM.path {n : Nat} {ws : List Way} (h : WebM n ws) {a b : Int} (ha : In n a) (hb : In n b) : ∃ t, t ≤ n ∧ GoN ws t a b := by
  obtain ⟨us, ne, nd, rg, h0, hl, he⟩ := path_ex h.ends (h.piece a b ha.1 ha.2 hb.1 hb.2)
  have len := nodup_le n us nd rg
  have key : ∀ k, k < us.length → GoN ws k a (cyc us k) := by
    intro k
    induction k with
    | zero => intro _; rw [h0]; exact .zero a
    | succ k ih =>
      intro hk
      obtain ⟨d, hd⟩ := he k hk
      exact .more (w := (cyc us k, cyc us (k + 1), d)) (ih (by omega)) hd
  have pos : 0 < us.length := List.length_pos_iff.mpr ne
  refine ⟨us.length - 1, by omega, ?_⟩
  have := key (us.length - 1) (by omega)
  rw [hl] at this
  exact this
/-! ### drawers -/
def enc (b : Nat) (f : Nat → Nat) : Nat → Nat
  | 0 => 0
  | n + 1 => enc b f n * b + f n
theorem enc_lt {b : Nat} {f : Nat → Nat} : ∀ {n : Nat}, (∀ i, i < n → f i < b) → enc b f n < b ^ n
  | 0, _ => by show (0 : Nat) < 1; omega
  | n + 1, h => by
    have a := enc_lt (n := n) fun i hi => h i (by omega)
    have c := h n (by omega)
    show enc b f n * b + f n < b ^ n * b
    have : (enc b f n + 1) * b ≤ b ^ n * b := Nat.mul_le_mul_right b a
    rw [Nat.succ_mul] at this
    omega
theorem enc_inj {b : Nat} {f g : Nat → Nat} : ∀ {n : Nat}, (∀ i, i < n → f i < b) → (∀ i, i < n → g i < b) → enc b f n = enc b g n → ∀ i, i < n → f i = g i
  | 0, _, _, _, i, hi => absurd hi (Nat.not_lt_zero _)
  | n + 1, hf, hg, e, i, hi => by
    have e' : enc b f n * b + f n = enc b g n * b + g n := e
    have f1 := hf n (by omega)
    have g1 := hg n (by omega)
    have m1 : (enc b f n * b + f n) % b = f n := by rw [Nat.mul_comm, Nat.mul_add_mod, Nat.mod_eq_of_lt f1]
    have m2 : (enc b g n * b + g n) % b = g n := by rw [Nat.mul_comm, Nat.mul_add_mod, Nat.mod_eq_of_lt g1]
    have ef : f n = g n := by rw [← m1, ← m2, e']
    by_cases z : i = n
    · rw [z]; exact ef
    · refine enc_inj (n := n) (fun j hj => hf j (by omega)) (fun j hj => hg j (by omega)) ?_ i (by omega)
      have : enc b f n * b = enc b g n * b := by omega
      exact Nat.eq_of_mul_eq_mul_right (by omega) this
theorem pigeon {f : Nat → Nat} {L : Nat} (h : ∀ k, f k < L) : ∃ i j, i < j ∧ j ≤ L ∧ f i = f j := by
  apply Classical.byContradiction
  intro no
  have nd : ((List.range (L + 1)).map fun k => ((f k : Nat) : Int)).Nodup := by
    unfold List.Nodup
    rw [List.pairwise_map]
    refine List.Pairwise.imp_of_mem ?_ (List.pairwise_lt_range (n := L + 1))
    intro a b ha hb hab e
    have hb' := List.mem_range.mp hb
    exact no ⟨a, b, hab, by omega, by omega⟩
  have := nodup_le L _ nd fun x hx => by
    obtain ⟨k, _, rfl⟩ := List.mem_map.mp hx
    have := h k
    omega
  rw [List.length_map, List.length_range] at this
  omega
end Mp
/-! ## N5 -/
set_option linter.all false
set_option exponentiation.threshold 4000
namespace Mp
/-! Plain mathematics: whatever times a web begins with, they settle, and the gain is to the step as the pace -/
def slack (N D : Int) (s : Int → Int) (w : Way) : Way := (w.1, w.2.1, D * w.2.2 - N + s w.1 - s w.2.1)
def scaled (N D : Int) (s : Int → Int) (X : Nat → Int → Int) : Nat → Int → Int := fun k j => D * X k j - k * N - s j
section
variable {n : Nat} {ws : List Way} {X : Nat → Int → Int} {N D : Int} {s : Int → Int}
theorem Run.scale (hD : 0 ≤ D) (R : Run n ws X) : Run n (ws.map (slack N D s)) (scaled N D s X) := by
  refine ⟨fun k w hw => ?_, fun k j hj => ?_⟩
  · obtain ⟨v, hv, rfl⟩ := List.mem_map.mp hw
    have a := Int.mul_le_mul_of_nonneg_left (R.up k v hv) hD
    rw [Int.mul_add] at a
    show D * X k v.1 - k * N - s v.1 + (D * v.2.2 - N + s v.1 - s v.2.1) ≤ D * X (k + 1) v.2.1 - ((k + 1 : Nat) : Int) * N - s v.2.1
    rw [Int.natCast_add, Int.add_mul]
    simp only [Int.natCast_one, Int.one_mul]
    omega
  · obtain ⟨v, hv, ev, e⟩ := R.hit k j hj
    refine ⟨slack N D s v, List.mem_map.mpr ⟨v, hv, rfl⟩, ev, ?_⟩
    show D * X (k + 1) j - ((k + 1 : Nat) : Int) * N - s j = D * X k v.1 - k * N - s v.1 + (D * v.2.2 - N + s v.1 - s v.2.1)
    rw [e, ev, Int.mul_add, Int.natCast_add, Int.add_mul]
    simp only [Int.natCast_one, Int.one_mul]
    omega
theorem slack_ends (hE : ∀ w ∈ ws, EndsOk n w) : ∀ w ∈ ws.map (slack N D s), EndsOk n w := fun w hw => by
  obtain ⟨v, hv, rfl⟩ := List.mem_map.mp hw
  exact hE v hv
theorem slack_le (S : StartOk ws N D s) : ∀ w ∈ ws.map (slack N D s), w.2.2 ≤ 0 := fun w hw => by
  obtain ⟨v, hv, rfl⟩ := List.mem_map.mp hw
  have := S v hv
  show D * v.2.2 - N + s v.1 - s v.2.1 ≤ 0
  omega
/-- the ring with the greatest mean weighs nothing -/
theorem zero_ring {c : List Int} (S : StartOk ws N D s) (R : RingOk n ws c) (e : N * c.length = total ws c * D) : ZeroC n (ws.map (slack N D s)) c := by
  refine ⟨R.ne, R.nd, R.rg, fun k hk => ?_⟩
  have le : ∀ j, j < c.length → D * gd ws (cyc c j) (cyc c (j + 1)) - N ≤ s (cyc c (j + 1)) - s (cyc c j) := fun j hj => by
    have := S _ (R.mem hj)
    dsimp only at this
    omega
  have key : D * gd ws (cyc c k) (cyc c (k + 1)) - N = s (cyc c (k + 1)) - s (cyc c k) := by
    apply Classical.byContradiction
    intro ne
    have lt := rsum_lt le ⟨k, hk, by have := le k hk; omega⟩
    rw [rsum_lin, rsum_tele (fun k => s (cyc c k)), cyc_round] at lt
    have e' : D * rsum (fun k => gd ws (cyc c k) (cyc c (k + 1))) c.length = N * c.length := by rw [e, Int.mul_comm]; rfl
    omega
  refine List.mem_map.mpr ⟨_, R.mem hk, ?_⟩
  unfold slack
  dsimp only
  rw [show D * gd ws (cyc c k) (cyc c (k + 1)) - N + s (cyc c k) - s (cyc c (k + 1)) = 0 by omega]
/-- starts differ by no more than so much -/
theorem start_spread (h : WebM n ws) (hN : 0 ≤ N) (hD : 0 ≤ D) (S : StartOk ws N D s) {a b : Int} (ha : In n a) (hb : In n b) : s a - s b ≤ n * N := by
  obtain ⟨t, ht, g⟩ := h.path ha hb
  have key : ∀ t b, GoN ws t a b → s a ≤ s b + t * N := by
    intro t b g
    induction g with
    | zero => rw [Int.natCast_zero, Int.zero_mul]; omega
    | @more k a w g hw ih =>
      have e := ih ha (by assumption)
      have q := S w hw
      have d0 := Int.mul_nonneg hD (h.delays w hw).1
      rw [Int.natCast_add, Int.add_mul]
      simp only [Int.natCast_one, Int.one_mul]
      omega
  have a1 := key t b g
  have a2 : (t : Int) * N ≤ n * N := Int.mul_le_mul_of_nonneg_right (by omega) hN
  omega
/-- a run of no positive weight with a ring of no weight, bounded below -/
theorem run_low (h : WebM n ws) {E : List Way} {Y : Nat → Int → Int} {W M : Int} (hW0 : 0 ≤ W) (hE : ∀ w ∈ ws, ∃ v ∈ E, v.1 = w.1 ∧ v.2.1 = w.2.1 ∧ -W ≤ v.2.2) (R : Run n E Y) {c : List Int} (Z : ZeroC n E c) (h0 : ∀ j, In n j → -M ≤ Y 0 j) (k : Nat) (j : Int) (hj : In n j) : -M - n * W ≤ Y k j := by
  have pos : 0 < c.length := List.length_pos_iff.mpr Z.ne
  -- on the ring
  have ring : ∀ t x, x ∈ c → -M ≤ Y t x := fun t x hx => by
    obtain ⟨i, hi, rfl⟩ := cyc_ix hx
    have le : t ≤ i + t * c.length := by
      have := Nat.mul_le_mul_left t pos
      omega
    have g := Z.go R 0 (i + t * c.length - t) t
    rw [Nat.zero_add, Nat.sub_add_cancel le, cyc_mul] at g
    have := h0 _ (Z.rg _ (cyc_mem Z.ne (i + t * c.length - t)))
    omega
  have walk : ∀ t a b, GoN ws t a b → ∀ k, Y k a - t * W ≤ Y (k + t) b := by
    intro t a b g
    induction g with
    | zero => intro k; rw [Int.natCast_zero, Int.zero_mul]; show Y k _ - 0 ≤ Y k _; omega
    | @more q a w g hw ih =>
      intro k
      obtain ⟨v, hv, e1, e2, e3⟩ := hE w hw
      have u := R.up (k + q) v hv
      rw [e1, e2] at u
      have := ih k
      rw [Int.natCast_add, Int.add_mul, show k + (q + 1) = k + q + 1 by omega]
      simp only [Int.natCast_one, Int.one_mul]
      omega
  obtain ⟨z, hz⟩ : ∃ z, z ∈ c := ⟨_, cyc_mem Z.ne 0⟩
  obtain ⟨t, ht, g⟩ := h.path (Z.rg z hz) hj
  by_cases hk : t ≤ k
  · have a := walk t z j g (k - t)
    rw [Nat.sub_add_cancel hk] at a
    have b := ring (k - t) z hz
    have d : (t : Int) * W ≤ n * W := Int.mul_le_mul_of_nonneg_right (by omega) hW0
    omega
  · have early : ∀ k j, In n j → -M - k * W ≤ Y k j := by
      intro k
      induction k with
      | zero => intro j hj; rw [Int.natCast_zero, Int.zero_mul]; have := h0 j hj; omega
      | succ k ih =>
        intro j hj
        obtain ⟨w, hw, ew⟩ := h.inc hj
        obtain ⟨v, hv, e1, e2, e3⟩ := hE w hw
        have u := R.up k v hv
        rw [e1, e2, ew] at u
        have := ih w.1 (h.ends w hw).1
        rw [Int.natCast_add, Int.add_mul]
        simp only [Int.natCast_one, Int.one_mul]
        omega
    have a := early k j hj
    have d : (k : Int) * W ≤ n * W := Int.mul_le_mul_of_nonneg_right (by omega) hW0
    omega
/-- a bounded run of no positive weight comes again early, and then within sixty turns -/
theorem run_again {E : List Way} {Y : Nat → Int → Int} (n12 : n ≤ 12) (hE : ∀ w ∈ E, EndsOk n w) (hW : ∀ w ∈ E, w.2.2 ≤ 0) (R : Run n E Y) {lo : Int} {b : Nat} (hb : ∀ k j, In n j → lo ≤ Y k j ∧ Y k j < lo + b) :
    ∃ i L, i ≤ b ^ n ∧ 1 ≤ L ∧ L ≤ 60 ∧ ∀ k j, In n j → i ≤ k → Y (k + L) j = Y k j := by
  have f1 : ∀ k i, i < n → (Y k (i : Int) - lo).toNat < b := fun k i hi => by
    have := hb k i ⟨by omega, by omega⟩
    omega
  obtain ⟨i, i', hij, hL, e⟩ := pigeon (f := fun k => enc b (fun i => (Y k (i : Int) - lo).toNat) n) (L := b ^ n) fun k => enc_lt (f1 k)
  have same : ∀ j, In n j → Y i j = Y i' j := fun j hj => by
    have q := enc_inj (f1 i) (f1 i') e j.toNat (by have := hj.1; have := hj.2; omega)
    have ej : ((j.toNat : Nat) : Int) = j := by have := hj.1; omega
    rw [ej] at q
    have := hb i j hj
    have := hb i' j hj
    omega
  have per : ∀ k j, In n j → Y (i + (k + (i' - i))) j = Y (i + k) j := fun k j hj => by
    have := R.dets hE R same k j hj
    rw [this]
    congr 1
    omega
  obtain ⟨L, L1, L60, hper⟩ := per60 n12 hE hW (R.shift i) (P := i' - i) (by omega) per
  refine ⟨i, L, by omega, L1, L60, fun k j hj hk => ?_⟩
  have := hper (k - i) j hj
  rw [show i + (k - i + L) = k + L by omega, show i + (k - i) = k by omega] at this
  exact this
/-- times that are not too far apart settle, with a step of sixty at most, ahead of a certain turn -/
theorem settles (h : WebM n ws) (R : Run n ws X) (hX : ∀ j, In n j → -(10 : Int) ^ 70 ≤ X 0 j ∧ X 0 j ≤ 10 ^ 70) : ∃ L, 1 ≤ L ∧ L ≤ 60 ∧ ∀ k, 2 ^ 3120 ≤ k → ∃ g, ∀ j, In n j → X (k + L) j = X k j + g := by
  obtain ⟨c, s, RC, S⟩ := h.pace
  have tb := RC.total_bd h.delays
  have cl := RC.len
  have cp := RC.pos
  have n12 := h.n12
  obtain ⟨N, hN⟩ : ∃ N, N = total ws c := ⟨_, rfl⟩
  obtain ⟨D, hD⟩ : ∃ D : Int, D = c.length := ⟨_, rfl⟩
  have N0 : 0 ≤ N := by omega
  have N1 : N ≤ 119988 := by omega
  have D0 : 1 ≤ D := by omega
  have D1 : D ≤ 12 := by omega
  rw [← hN, ← hD] at S
  have Z := zero_ring S RC (by rw [← hN, ← hD])
  have RY := R.scale (s := s) (N := N) (D := D) (by omega)
  have hE := slack_ends (n := n) (N := N) (D := D) (s := s) h.ends
  have hW := slack_le S
  have i0 : In n 0 := ⟨Int.le_refl _, by have := h.n1; omega⟩
  have nN0 : 0 ≤ (n : Int) * N := Int.mul_nonneg (by omega) N0
  have nN : (n : Int) * N ≤ 1439856 := by
    have := Int.mul_le_mul_of_nonneg_right (show (n : Int) ≤ 12 by omega) N0
    omega
  -- the weights
  have wt : ∀ w ∈ ws, ∃ v ∈ ws.map (slack N D s), v.1 = w.1 ∧ v.2.1 = w.2.1 ∧ -(1559844 : Int) ≤ v.2.2 := fun w hw => by
    refine ⟨_, List.mem_map.mpr ⟨w, hw, rfl⟩, rfl, rfl, ?_⟩
    have e := start_spread h N0 (by omega) S (h.ends w hw).2 (h.ends w hw).1
    have d0 := Int.mul_nonneg (show 0 ≤ D by omega) (h.delays w hw).1
    show -(1559844 : Int) ≤ D * w.2.2 - N + s w.1 - s w.2.1
    omega
  -- the times ahead
  have b0 : ∀ j, In n j → -(13 * 10 ^ 70 : Int) - s 0 ≤ scaled N D s X 0 j ∧ scaled N D s X 0 j ≤ 13 * 10 ^ 70 - s 0 := fun j hj => by
    have e1 := start_spread h N0 (by omega) S hj i0
    have e2 := start_spread h N0 (by omega) S i0 hj
    obtain ⟨x1, x2⟩ := hX j hj
    have m1 := Int.mul_le_mul_of_nonneg_left x1 (show 0 ≤ D by omega)
    have m2 := Int.mul_le_mul_of_nonneg_left x2 (show 0 ≤ D by omega)
    have m3 := Int.mul_le_mul_of_nonneg_right D1 (show (0 : Int) ≤ 10 ^ 70 by decide)
    have m4 : D * -(10 : Int) ^ 70 = -(D * 10 ^ 70) := Int.mul_neg _ _
    have big : (1439856 : Int) ≤ 10 ^ 70 := by decide
    unfold scaled
    rw [Int.natCast_zero, Int.zero_mul]
    omega
  have low : ∀ k j, In n j → -(13 * 10 ^ 70 + s 0) - n * 1559844 ≤ scaled N D s X k j := run_low h (by decide) wt RY Z fun j hj => by have := (b0 j hj).1; omega
  have top : ∀ k j, In n j → scaled N D s X k j ≤ 13 * 10 ^ 70 - s 0 := fun k j hj => by
    have := RY.top hE hW (k := 0) (fun j hj => (b0 j hj).2) k j hj
    rw [Nat.zero_add] at this
    exact this
  have nW : (n : Int) * 1559844 ≤ 18718128 := by omega
  obtain ⟨i, L, hi, L1, L60, hper⟩ := run_again n12 hE hW RY (lo := -(13 * 10 ^ 70 + s 0) - 18718128) (b := 2 ^ 260) fun k j hj => by
    have a := low k j hj
    have e := top k j hj
    have big : (26 * 10 ^ 70 + 18718128 : Int) < ((2 ^ 260 : Nat) : Int) := by decide +kernel
    omega
  refine ⟨L, L1, L60, fun k hk => ?_⟩
  have hik : i ≤ k := by
    have p1 : (2 ^ 260) ^ n ≤ (2 ^ 260) ^ 12 := Nat.pow_le_pow_right (by decide) n12
    have p2 : (2 ^ 260) ^ 12 = 2 ^ 3120 := by rw [← Nat.pow_mul]
    omega
  have diff : ∀ j, In n j → D * (X (k + L) j - X k j) = L * N := fun j hj => by
    have e := hper k j hj hik
    unfold scaled at e
    rw [Int.natCast_add, Int.add_mul] at e
    rw [Int.mul_sub]
    omega
  refine ⟨X (k + L) 0 - X k 0, fun j hj => ?_⟩
  have e := (diff j hj).trans (diff 0 i0).symm
  have := Int.eq_of_mul_eq_mul_left (show D ≠ 0 by omega) e
  omega
/-- once settled, always so -/
theorem set_on (hE : ∀ w ∈ ws, EndsOk n w) (R : Run n ws X) {k L : Nat} {g : Int} (hL : ∀ j, In n j → X (k + L) j = X k j + g) : ∀ t j, In n j → X (k + t + L) j = X (k + t) j + g := fun t j hj => by
  have R' : Run n ws fun k j => X k j + g := ⟨fun k w hw => by have := R.up k w hw; omega, fun k j hj => by
    obtain ⟨w, hw, ew, e⟩ := R.hit k j hj
    exact ⟨w, hw, ew, by omega⟩⟩
  have := R.dets hE R' (i := k + L) (k := k) hL t j hj
  rw [show k + t + L = k + L + t by omega]
  exact this
theorem set_many (hE : ∀ w ∈ ws, EndsOk n w) (R : Run n ws X) {k L : Nat} {g : Int} (hL : ∀ j, In n j → X (k + L) j = X k j + g) : ∀ (q : Nat) j, In n j → X (k + q * L) j = X k j + q * g
  | 0, j, _ => by rw [Nat.zero_mul, Nat.add_zero, Int.natCast_zero, Int.zero_mul, Int.add_zero]
  | q + 1, j, hj => by
    have a := set_many hE R hL q j hj
    have b := set_on hE R hL (q * L) j hj
    rw [Nat.succ_mul, ← Nat.add_assoc, b, a, Int.natCast_add, Int.add_mul]
    simp only [Int.natCast_one, Int.one_mul]
    omega
theorem max_at : ∀ (n : Nat) (f : Int → Int), 1 ≤ n → ∃ j, In n j ∧ ∀ i, In n i → f i ≤ f j
  | 0, _, h => absurd h (by decide)
  | 1, f, _ => ⟨0, ⟨by decide, by decide⟩, fun i hi => by
      have : i = 0 := by have := hi.1; have := hi.2; omega
      rw [this]; exact Int.le_refl _⟩
  | n + 2, f, _ => by
    obtain ⟨j, hj, h⟩ := max_at (n + 1) f (by omega)
    by_cases c : f j ≤ f ((n + 1 : Nat) : Int)
    · refine ⟨((n + 1 : Nat) : Int), ⟨by omega, by omega⟩, fun i hi => ?_⟩
      by_cases e : i = ((n + 1 : Nat) : Int)
      · rw [e]; exact Int.le_refl _
      · have := h i ⟨hi.1, by have := hi.2; omega⟩
        omega
    · refine ⟨j, ⟨hj.1, by have := hj.2; omega⟩, fun i hi => ?_⟩
      by_cases e : i = ((n + 1 : Nat) : Int)
      · rw [e]; omega
      · exact h i ⟨hi.1, by have := hi.2; omega⟩
/-- the document's point 12 -/
theorem gain_pace (h : WebM n ws) (R : Run n ws X) {c : List Int} (RC : RingOk n ws c) (hD : 1 ≤ D) (S : StartOk ws N D s) (e : N * c.length = total ws c * D) {k L : Nat} {g : Int} (hL : ∀ j, In n j → X (k + L) j = X k j + g) : g * D = L * N := by
  have Z := zero_ring S RC e
  have RY := R.scale (s := s) (N := N) (D := D) (by omega)
  have hE := slack_ends (n := n) (N := N) (D := D) (s := s) h.ends
  have hW := slack_le S
  have up : g * D ≤ L * N := by
    obtain ⟨j, hj, mx⟩ := max_at n (scaled N D s X k) h.n1
    have t := RY.top hE hW mx L j hj
    unfold scaled at t
    rw [hL j hj, Int.mul_add, Int.natCast_add, Int.add_mul] at t
    rw [Int.mul_comm g D]
    omega
  have dn : L * N ≤ g * D := by
    have z := cyc_mem RC.ne 0
    have a := Z.again RY z k L
    have b := set_many h.ends R hL c.length _ (RC.rg _ z)
    unfold scaled at a
    rw [Nat.mul_comm L, b, Int.mul_add, Int.natCast_add, Int.add_mul, Int.natCast_mul] at a
    have pos : (0 : Int) < c.length := by have := RC.pos; omega
    have e1 : D * ((c.length : Int) * g) = (g * D) * c.length := by rw [Int.mul_comm g D, Int.mul_assoc, Int.mul_comm g]
    have e2 : (c.length : Int) * L * N = (L * N) * c.length := by rw [Int.mul_assoc, Int.mul_comm]
    rw [e1, e2] at a
    exact Int.le_of_mul_le_mul_right (by omega) pos
  omega
/-- no time is further on than the pace and the start allow -/
theorem run_top (h : WebM n ws) (R : Run n ws X) (hD : 0 ≤ D) (S : StartOk ws N D s) {M : Int} (hM : ∀ j, In n j → D * X 0 j - s j ≤ M) (k : Nat) {j : Int} (hj : In n j) : D * X k j - k * N - s j ≤ M := by
  have RY := R.scale (s := s) (N := N) (D := D) hD
  have hE := slack_ends (n := n) (N := N) (D := D) (s := s) h.ends
  have hW := slack_le S
  have t := RY.top hE hW (k := 0) (M := M) (fun j hj => by unfold scaled; rw [Int.natCast_zero, Int.zero_mul]; have := hM j hj; omega) k j hj
  rw [Nat.zero_add] at t
  exact t
/-! ### the next times as a function -/
def cand (ws : List Way) (x : Int → Int) (j : Int) : List Int := (ws.filter fun w => decide (w.2.1 = j)).map fun w => x w.1 + w.2.2
theorem mem_cand {ws : List Way} {x : Int → Int} {j y : Int} : y ∈ cand ws x j ↔ ∃ w ∈ ws, w.2.1 = j ∧ y = x w.1 + w.2.2 := by
  unfold cand
  rw [List.mem_map]
  constructor
  · rintro ⟨w, h, rfl⟩
    obtain ⟨h1, h2⟩ := List.mem_filter.mp h
    exact ⟨w, h1, of_decide_eq_true h2, rfl⟩
  · rintro ⟨w, h1, h2, rfl⟩
    exact ⟨w, List.mem_filter.mpr ⟨h1, decide_eq_true h2⟩, rfl⟩
noncomputable def nx (ws : List Way) (x : Int → Int) (j : Int) : Int := if h : cand ws x j ≠ [] then (isMax_ex h).choose else 0
theorem nx_max {ws : List Way} {x : Int → Int} {j : Int} (h : cand ws x j ≠ []) : IsMax (cand ws x j) (nx ws x j) := by
  unfold nx
  rw [dif_pos h]
  exact (isMax_ex h).choose_spec
noncomputable def orb (ws : List Way) (x : Int → Int) : Nat → Int → Int
  | 0 => x
  | k + 1 => nx ws (orb ws x k)
theorem orb_add (ws : List Way) (x : Int → Int) (a : Nat) : ∀ b, orb ws (orb ws x a) b = orb ws x (a + b)
  | 0 => rfl
  | b + 1 => by
    show nx ws (orb ws (orb ws x a) b) = nx ws (orb ws x (a + b))
    rw [orb_add ws x a b]
theorem WebM.cand_ne {n : Nat} {ws : List Way} (h : WebM n ws) (x : Int → Int) {j : Int} (hj : In n j) : cand ws x j ≠ [] := fun e => by
  obtain ⟨w, hw, ew⟩ := h.inc hj
  have := (mem_cand (ws := ws) (x := x) (j := j) (y := x w.1 + w.2.2)).mpr ⟨w, hw, ew, rfl⟩
  rw [e] at this
  cases this
theorem WebM.nx {n : Nat} {ws : List Way} (h : WebM n ws) (x : Int → Int) {j : Int} (hj : In n j) : IsMax (cand ws x j) (nx ws x j) := nx_max (h.cand_ne x hj)
theorem WebM.run {n : Nat} {ws : List Way} (h : WebM n ws) (x : Int → Int) : Run n ws (orb ws x) := by
  refine ⟨fun k w hw => ?_, fun k j hj => ?_⟩
  · exact (h.nx (orb ws x k) (h.ends w hw).2).2 _ (mem_cand.mpr ⟨w, hw, rfl, rfl⟩)
  · obtain ⟨w, hw, ew, e⟩ := mem_cand.mp (h.nx (orb ws x k) hj).1
    exact ⟨w, hw, ew, e⟩
end
end Mp
/-! ## N6 -/
set_option linter.all false
namespace Mp
/-! Plain mathematics: tables of greatest delays over many turns -/
abbrev Row := List (Int × Int)
def valI (r : Row) (u : Int) : Option Int := (r.find? fun q => decide (q.1 = u)).map (·.2)
def putI (r : Row) (u d : Int) : Row := if (r.any fun q => decide (q.1 = u)) = true then r.map (fun q => if q.1 = u then (q.1, d) else q) else r ++ [(u, d)]
theorem valI_some {r : Row} {u d : Int} (h : valI r u = some d) : (u, d) ∈ r := by
  unfold valI at h
  cases e : r.find? fun q => decide (q.1 = u) with
  | none => rw [e] at h; cases h
  | some q =>
    rw [e] at h
    have h1 := List.mem_of_find?_eq_some e
    have h2 : q.1 = u := of_decide_eq_true (List.find?_some (p := fun q : Int × Int => decide (q.1 = u)) e)
    have h3 : q.2 = d := Option.some.inj h
    rw [← h2, ← h3]
    exact h1
theorem valI_none {r : Row} {u : Int} (h : valI r u = none) (d : Int) : (u, d) ∉ r := fun hm => by
  unfold valI at h
  rw [Option.map_eq_none_iff, List.find?_eq_none] at h
  exact h _ hm (decide_eq_true rfl)
theorem any_iff {r : Row} {u : Int} : (r.any fun q => decide (q.1 = u)) = true ↔ ∃ d, (u, d) ∈ r := by
  rw [List.any_eq_true]
  constructor
  · rintro ⟨⟨a, b⟩, h, e⟩
    have : a = u := of_decide_eq_true e
    subst this
    exact ⟨b, h⟩
  · rintro ⟨d, h⟩
    exact ⟨_, h, decide_eq_true rfl⟩
theorem mem_putI {r : Row} {u d v e : Int} : (v, e) ∈ putI r u d ↔ (v = u ∧ e = d) ∨ (v ≠ u ∧ (v, e) ∈ r) := by
  unfold putI
  by_cases h : (r.any fun q => decide (q.1 = u)) = true
  · rw [if_pos h, List.mem_map]
    constructor
    · rintro ⟨⟨a, b⟩, hm, q⟩
      by_cases c : a = u
      · rw [if_pos c] at q
        cases q
        exact .inl ⟨c, rfl⟩
      · rw [if_neg c] at q
        cases q
        exact .inr ⟨c, hm⟩
    · rintro (⟨rfl, rfl⟩ | ⟨c, hm⟩)
      · obtain ⟨d', hd⟩ := any_iff.mp h
        exact ⟨_, hd, if_pos rfl⟩
      · exact ⟨_, hm, if_neg c⟩
  · rw [if_neg h, List.mem_append, List.mem_singleton]
    constructor
    · rintro (hm | q)
      · refine .inr ⟨fun c => h (any_iff.mpr ⟨e, by rw [← c]; exact hm⟩), hm⟩
      · cases q
        exact .inl ⟨rfl, rfl⟩
    · rintro (⟨rfl, rfl⟩ | ⟨c, hm⟩)
      · exact .inr rfl
      · exact .inl hm
theorem keys_putI {r : Row} {u d : Int} (h : (r.map (·.1)).Nodup) : ((putI r u d).map (·.1)).Nodup := by
  unfold putI
  by_cases c : (r.any fun q => decide (q.1 = u)) = true
  · rw [if_pos c, List.map_map]
    have e : (((fun q : Int × Int => q.1) ∘ fun q => if q.1 = u then (q.1, d) else q)) = fun q : Int × Int => q.1 := by
      funext q
      show (if q.1 = u then (q.1, d) else q).1 = q.1
      split <;> rfl
    rw [e]
    exact h
  · rw [if_neg c, List.map_append, List.nodup_append]
    refine ⟨h, by simp, fun a ha b hb e => c (any_iff.mpr ?_)⟩
    obtain ⟨⟨a1, a2⟩, ham, rfl⟩ := List.mem_map.mp ha
    have : b = u := by simpa using hb
    exact ⟨a2, by rw [← this, ← e]; exact ham⟩
structure RowFor (n : Nat) (ws : List Way) (N : Nat) (j : Int) (r : Row) : Prop where
  nd : (r.map (·.1)).Nodup
  rg : ∀ q ∈ r, In n q.1
  val : ∀ x : Int → Int, IsMax (r.map fun q => x q.1 + q.2) (orb ws x N j)
theorem RowFor.len {n : Nat} {ws : List Way} {N : Nat} {j : Int} {r : Row} (h : RowFor n ws N j r) : r.length ≤ n := by
  have := nodup_le n (r.map (·.1)) h.nd fun y hy => by
    obtain ⟨q, hq, rfl⟩ := List.mem_map.mp hy
    exact h.rg q hq
  rw [List.length_map] at this
  exact this
theorem RowFor.ne {n : Nat} {ws : List Way} {N : Nat} {j : Int} {r : Row} (h : RowFor n ws N j r) : r ≠ [] := fun e => by
  have := (h.val fun _ => 0).1
  rw [e] at this
  cases this
/-! ### over one turn -/
structure OneRow (ws : List Way) (j : Int) (us : List Int) (r : Row) : Prop where
  nd : (r.map (·.1)).Nodup
  mem : ∀ v e, (v, e) ∈ r ↔ v ∈ us ∧ e = gd ws v j
theorem OneRow.nil (ws : List Way) (j : Int) : OneRow ws j [] [] := ⟨List.nodup_nil, fun v e => ⟨nofun, fun h => nomatch h.1⟩⟩
theorem OneRow.put {ws : List Way} {j u : Int} {us : List Int} {r : Row} (h : OneRow ws j us r) : OneRow ws j (us ++ [u]) (putI r u (gd ws u j)) := by
  refine ⟨keys_putI h.nd, fun v e => ?_⟩
  rw [mem_putI, List.mem_append, List.mem_singleton]
  constructor
  · rintro (⟨rfl, rfl⟩ | ⟨_, hm⟩)
    · exact ⟨.inr rfl, rfl⟩
    · have := (h.mem v e).mp hm
      exact ⟨.inl this.1, this.2⟩
  · rintro ⟨hm | rfl, rfl⟩
    · by_cases c : v = u
      · subst c; exact .inl ⟨rfl, rfl⟩
      · exact .inr ⟨c, (h.mem _ _).mpr ⟨hm, rfl⟩⟩
    · exact .inl ⟨rfl, rfl⟩
theorem OneRow.row {n : Nat} {ws : List Way} {j : Int} {us : List Int} {r : Row} (hM : WebM n ws) (hj : In n j) (hu : ∀ v, v ∈ us ↔ ∃ d, (v, j, d) ∈ ws) (h : OneRow ws j us r) : RowFor n ws 1 j r := by
  refine ⟨h.nd, fun q hq => ?_, fun x => ?_⟩
  · obtain ⟨d, hd⟩ := (hu q.1).mp ((h.mem q.1 q.2).mp hq).1
    exact (hM.ends _ hd).1
  · have mx := hM.nx x hj
    have mg : ∀ v d, (v, j, d) ∈ ws → IsMax (dl ws v j) (gd ws v j) := fun v d hd => gd_max fun e => by
      have := mem_dl.mpr hd
      rw [e] at this
      cases this
    refine ⟨?_, fun y hy => ?_⟩
    · obtain ⟨⟨a, b, d⟩, hw, ew, e⟩ := mem_cand.mp mx.1
      have ew : b = j := ew
      subst ew
      have g := mg a d hw
      have h1 : (a, gd ws a b) ∈ r := (h.mem _ _).mpr ⟨(hu a).mpr ⟨d, hw⟩, rfl⟩
      have h2 := mx.2 _ (mem_cand.mpr ⟨(a, b, gd ws a b), mem_dl.mp g.1, rfl, rfl⟩)
      have h3 := g.2 d (mem_dl.mpr hw)
      refine List.mem_map.mpr ⟨_, h1, ?_⟩
      show x a + gd ws a b = nx ws x b
      dsimp only at h2 e
      omega
    · obtain ⟨⟨v, e⟩, hm, rfl⟩ := List.mem_map.mp hy
      obtain ⟨h1, rfl⟩ := (h.mem v e).mp hm
      obtain ⟨d, hd⟩ := (hu v).mp h1
      exact mx.2 _ (mem_cand.mpr ⟨(v, j, gd ws v j), mem_dl.mp (mg v d hd).1, rfl, rfl⟩)
/-! ### over twice as many -/
structure Best (Pd r : Row) : Prop where
  nd : (r.map (·.1)).Nodup
  sub : ∀ v e, (v, e) ∈ r → (v, e) ∈ Pd
  top : ∀ v e, (v, e) ∈ Pd → ∃ e', e ≤ e' ∧ (v, e') ∈ r
theorem Best.nil : Best [] [] := ⟨List.nodup_nil, nofun, nofun⟩
theorem Best.put {Pd r : Row} {u b : Int} (h : Best Pd r) (c : ∀ e, valI r u = some e → e < b) : Best (Pd ++ [(u, b)]) (putI r u b) := by
  have keys : ∀ e, (u, e) ∈ r → e < b := fun e he => by
    cases q : valI r u with
    | none => exact absurd he (valI_none q e)
    | some e' =>
      have h1 := c e' q
      have h2 := valI_some q
      have nd := h.nd
      obtain ⟨i, hi, ei⟩ := List.getElem_of_mem he
      obtain ⟨k, hk, ek⟩ := List.getElem_of_mem h2
      have : i = k := by
        refine (List.getElem_inj (xs := r.map (·.1)) (i := i) (j := k) (h₀ := by rw [List.length_map]; exact hi) (h₁ := by rw [List.length_map]; exact hk) nd).mp ?_
        rw [List.getElem_map, List.getElem_map, ei, ek]
      subst this
      rw [ei] at ek
      cases ek
      exact h1
  refine ⟨keys_putI h.nd, fun v e hm => ?_, fun v e hm => ?_⟩
  · rcases mem_putI.mp hm with ⟨rfl, rfl⟩ | ⟨_, q⟩
    · exact List.mem_append_right _ (List.mem_singleton.mpr rfl)
    · exact List.mem_append_left _ (h.sub v e q)
  · rcases List.mem_append.mp hm with q | q
    · obtain ⟨e', le, hr⟩ := h.top v e q
      by_cases z : v = u
      · subst z
        have := keys e' hr
        exact ⟨b, by omega, mem_putI.mpr (.inl ⟨rfl, rfl⟩)⟩
      · exact ⟨e', le, mem_putI.mpr (.inr ⟨z, hr⟩)⟩
    · cases List.mem_singleton.mp q
      exact ⟨b, Int.le_refl _, mem_putI.mpr (.inl ⟨rfl, rfl⟩)⟩
theorem Best.keep {Pd r : Row} {u b e : Int} (h : Best Pd r) (hv : valI r u = some e) (le : b ≤ e) : Best (Pd ++ [(u, b)]) r := by
  refine ⟨h.nd, fun v e hm => List.mem_append_left _ (h.sub v e hm), fun v e' hm => ?_⟩
  rcases List.mem_append.mp hm with q | q
  · exact h.top v e' q
  · cases List.mem_singleton.mp q
    exact ⟨e, le, valI_some hv⟩
/-- what is gone over: late from the middle, early to it -/
def over (rows : Int → Row) (r : Row) : Row := r.flatMap fun q => (rows q.1).map fun e => (e.1, e.2 + q.2)
theorem mem_over {rows : Int → Row} {r : Row} {v b : Int} : (v, b) ∈ over rows r ↔ ∃ m late early, (m, late) ∈ r ∧ (v, early) ∈ rows m ∧ b = early + late := by
  unfold over
  rw [List.mem_flatMap]
  constructor
  · rintro ⟨⟨m, late⟩, hm, h⟩
    obtain ⟨⟨v', early⟩, he, q⟩ := List.mem_map.mp h
    cases q
    exact ⟨m, late, early, hm, he, rfl⟩
  · rintro ⟨m, late, early, h1, h2, rfl⟩
    exact ⟨(m, late), h1, List.mem_map.mpr ⟨(v, early), h2, rfl⟩⟩
theorem Best.row {n : Nat} {ws : List Way} {N : Nat} {j : Int} {rows : Int → Row} {r : Row} (hT : ∀ m, In n m → RowFor n ws N m (rows m)) (hj : In n j) (h : Best (over rows (rows j)) r) : RowFor n ws (N + N) j r := by
  refine ⟨h.nd, fun q hq => ?_, fun x => ?_⟩
  · obtain ⟨m, late, early, h1, h2, _⟩ := mem_over.mp (h.sub q.1 q.2 hq)
    exact (hT m ((hT j hj).rg _ h1)).rg (q.1, early) h2
  · rw [← orb_add]
    have mj := (hT j hj).val (orb ws x N)
    refine ⟨?_, fun y hy => ?_⟩
    · obtain ⟨⟨m, late⟩, h1, e1⟩ := List.mem_map.mp mj.1
      have im := (hT j hj).rg _ h1
      have mm := (hT m im).val x
      obtain ⟨⟨v, early⟩, h2, e2⟩ := List.mem_map.mp mm.1
      obtain ⟨b, le, hb⟩ := h.top v (early + late) (mem_over.mpr ⟨m, late, early, h1, h2, rfl⟩)
      obtain ⟨m', late', early', g1, g2, eb⟩ := mem_over.mp (h.sub v b hb)
      have im' := (hT j hj).rg _ g1
      have u1 := ((hT m' im').val x).2 _ (List.mem_map.mpr ⟨_, g2, rfl⟩)
      have u2 := mj.2 _ (List.mem_map.mpr ⟨_, g1, rfl⟩)
      refine List.mem_map.mpr ⟨_, hb, ?_⟩
      dsimp only at e1 e2 u1 u2 ⊢
      omega
    · obtain ⟨⟨v, b⟩, hb, rfl⟩ := List.mem_map.mp hy
      obtain ⟨m', late', early', g1, g2, eb⟩ := mem_over.mp (h.sub v b hb)
      have im' := (hT j hj).rg _ g1
      have u1 := ((hT m' im').val x).2 _ (List.mem_map.mpr ⟨_, g2, rfl⟩)
      have u2 := mj.2 _ (List.mem_map.mpr ⟨_, g1, rfl⟩)
      dsimp only at u1 u2 ⊢
      omega
end Mp
/-! ## N7 -/
set_option linter.all false
namespace Mp
/-! Plain mathematics: the pace of a web, and of webs made of it -/
structure IsPace (n : Nat) (ws : List Way) (N D : Int) : Prop where
  n0 : 0 ≤ N
  d1 : 1 ≤ D
  co : Int.gcd N D = 1
  ring : ∃ c, RingOk n ws c ∧ N * c.length = total ws c * D
  start : ∃ s, StartOk ws N D s
theorem IsPace.le {n : Nat} {ws : List Way} {N D N' D' : Int} {s : Int → Int} (p : IsPace n ws N D) (h0 : 0 ≤ D') (S : StartOk ws N' D' s) : N * D' ≤ N' * D := by
  obtain ⟨c, R, e⟩ := p.ring
  have b := start_bound R S
  have d1 := p.d1
  have lp : (0 : Int) < c.length := by have := R.pos; omega
  have h1 := Int.mul_le_mul_of_nonneg_right b (show 0 ≤ D by omega)
  have e1 : D' * total ws c * D = (N * D') * c.length := by
    rw [Int.mul_assoc, ← e, Int.mul_comm N D', Int.mul_assoc]
  have e2 : N' * (c.length : Int) * D = (N' * D) * c.length := by rw [Int.mul_right_comm]
  rw [e1, e2] at h1
  exact Int.le_of_mul_le_mul_right h1 lp
theorem frac_eq {N D N' D' : Int} (n0 : 0 ≤ N) (d1 : 1 ≤ D) (co : Int.gcd N D = 1) (n0' : 0 ≤ N') (d1' : 1 ≤ D') (co' : Int.gcd N' D' = 1) (h : N * D' = N' * D) : N = N' ∧ D = D' := by
  obtain ⟨a, rfl⟩ : ∃ a : Nat, N = a := ⟨N.toNat, by omega⟩
  obtain ⟨b, rfl⟩ : ∃ b : Nat, D = b := ⟨D.toNat, by omega⟩
  obtain ⟨a', rfl⟩ : ∃ a : Nat, N' = a := ⟨N'.toNat, by omega⟩
  obtain ⟨b', rfl⟩ : ∃ b : Nat, D' = b := ⟨D'.toNat, by omega⟩
  have h' : a * b' = a' * b := by exact_mod_cast h
  have c1 : Nat.Coprime a b := co
  have c2 : Nat.Coprime a' b' := co'
  have x1 : b ∣ b' := c1.symm.dvd_of_dvd_mul_left ⟨a', by rw [h', Nat.mul_comm]⟩
  have x2 : b' ∣ b := c2.symm.dvd_of_dvd_mul_left ⟨a, by rw [← h', Nat.mul_comm]⟩
  have e : b = b' := Nat.dvd_antisymm x1 x2
  subst e
  have : a = a' := Nat.eq_of_mul_eq_mul_right (by omega) h'
  subst this
  exact ⟨rfl, rfl⟩
theorem IsPace.one {n : Nat} {ws : List Way} {N D N' D' : Int} (p : IsPace n ws N D) (q : IsPace n ws N' D') : N = N' ∧ D = D' := by
  obtain ⟨s, S⟩ := p.start
  obtain ⟨s', S'⟩ := q.start
  have a := p.le (by have := q.d1; omega) S'
  have b := q.le (by have := p.d1; omega) S
  exact frac_eq p.n0 p.d1 p.co q.n0 q.d1 q.co (by omega)
/-- where starts of the one are starts of the other, and the other way about -/
theorem IsPace.both {n m : Nat} {ws us : List Way} {N D N' D' : Int} (p : IsPace n ws N D) (q : IsPace m us N' D') (f : ∀ N D s, StartOk ws N D s → ∃ s', StartOk us N D s') (g : ∀ N D s, StartOk us N D s → ∃ s', StartOk ws N D s') : N = N' ∧ D = D' := by
  obtain ⟨s, S⟩ := p.start
  obtain ⟨s', S'⟩ := q.start
  obtain ⟨t, T⟩ := f _ _ _ S
  obtain ⟨t', T'⟩ := g _ _ _ S'
  have a := p.le (by have := q.d1; omega) T'
  have b := q.le (by have := p.d1; omega) T
  exact frac_eq p.n0 p.d1 p.co q.n0 q.d1 q.co (by omega)
theorem start_flip {ws : List Way} {N D : Int} {s : Int → Int} (S : StartOk ws N D s) : StartOk (ws.map flipW) N D fun x => - s x := fun w hw => by
  obtain ⟨v, hv, rfl⟩ := List.mem_map.mp hw
  have := S v hv
  show - s v.2.1 + D * v.2.2 - N ≤ - s v.1
  omega
theorem IsPace.flip {n : Nat} {ws : List Way} {N D N' D' : Int} (p : IsPace n ws N D) (q : IsPace n (ws.map flipW) N' D') : N = N' ∧ D = D' :=
  p.both q (fun _ _ _ S => ⟨_, start_flip S⟩) fun _ _ _ S => by
    have := start_flip S
    rw [flip_map] at this
    exact ⟨_, this⟩
/-- the meetings by other numbers -/
def renW (m : Int) (w : Way) : Way := (m - 1 - w.1, m - 1 - w.2.1, w.2.2)
theorem IsPace.ren {n : Nat} {ws us : List Way} {N D N' D' m : Int} (p : IsPace n ws N D) (hus : ∀ w, w ∈ us ↔ ∃ v ∈ ws, w = renW m v) (q : IsPace n us N' D') : N = N' ∧ D = D' := by
  refine p.both q (fun N D s S => ⟨fun x => s (m - 1 - x), fun w hw => ?_⟩) fun N D s S => ⟨fun x => s (m - 1 - x), fun v hv => ?_⟩
  · obtain ⟨v, hv, rfl⟩ := (hus w).mp hw
    have := S v hv
    show s (m - 1 - (m - 1 - v.1)) + D * v.2.2 - N ≤ s (m - 1 - (m - 1 - v.2.1))
    rw [show m - 1 - (m - 1 - v.1) = v.1 by omega, show m - 1 - (m - 1 - v.2.1) = v.2.1 by omega]
    exact this
  · exact S _ ((hus _).mpr ⟨v, hv, rfl⟩)
theorem gcd_add {N D M : Int} : Int.gcd (N + M * D) D = Int.gcd N D := by
  rw [Int.gcd_add_mul_right_left]
/-- a number added to each delay -/
theorem IsPace.add {n : Nat} {ws us : List Way} {N D N' D' M : Int} (p : IsPace n ws N D) (M0 : 0 ≤ M) (hus : ∀ w, w ∈ us ↔ ∃ v ∈ ws, w = (v.1, v.2.1, v.2.2 + M)) (q : IsPace n us N' D') : N' = N + M * D ∧ D' = D := by
  obtain ⟨s, S⟩ := p.start
  obtain ⟨s', S'⟩ := q.start
  have T : StartOk us (N + M * D) D s := fun w hw => by
    obtain ⟨v, hv, rfl⟩ := (hus w).mp hw
    have := S v hv
    show s v.1 + D * (v.2.2 + M) - (N + M * D) ≤ s v.2.1
    rw [Int.mul_add, Int.mul_comm D M]
    omega
  have T' : StartOk ws (N' - M * D') D' s' := fun v hv => by
    have := S' _ ((hus _).mpr ⟨v, hv, rfl⟩)
    dsimp only at this
    rw [Int.mul_add, Int.mul_comm D' M] at this
    omega
  have a := p.le (by have := q.d1; omega) T'
  have b := q.le (by have := p.d1; omega) T
  rw [Int.sub_mul] at a
  have e1 : M * D' * D = M * D * D' := Int.mul_right_comm _ _ _
  have e2 : (N + M * D) * D' = N * D' + M * D * D' := Int.add_mul _ _ _
  have d1 := p.d1
  have md : 0 ≤ M * D := Int.mul_nonneg M0 (by omega)
  have := frac_eq q.n0 q.d1 q.co (N' := N + M * D) (D' := D) (by have := p.n0; omega) d1 (by rw [gcd_add]; exact p.co) (by omega)
  exact this
/-- all delays so many times as great -/
theorem IsPace.scale {n : Nat} {ws us : List Way} {N D N' D' f : Int} (p : IsPace n ws N D) (f1 : 1 ≤ f) (hus : ∀ w, w ∈ us ↔ ∃ v ∈ ws, w = (v.1, v.2.1, v.2.2 * f)) (q : IsPace n us N' D') : N' * D = f * N * D' := by
  obtain ⟨s, S⟩ := p.start
  obtain ⟨s', S'⟩ := q.start
  have T : StartOk us (f * N) D fun x => f * s x := fun w hw => by
    obtain ⟨v, hv, rfl⟩ := (hus w).mp hw
    have := Int.mul_le_mul_of_nonneg_left (S v hv) (show 0 ≤ f by omega)
    rw [Int.mul_sub, Int.mul_add] at this
    show f * s v.1 + D * (v.2.2 * f) - f * N ≤ f * s v.2.1
    have e : D * (v.2.2 * f) = f * (D * v.2.2) := by rw [← Int.mul_assoc, Int.mul_comm]
    omega
  have T' : StartOk ws N' (D' * f) s' := fun v hv => by
    have := S' _ ((hus _).mpr ⟨v, hv, rfl⟩)
    dsimp only at this
    have e : D' * (v.2.2 * f) = D' * f * v.2.2 := by rw [Int.mul_assoc, Int.mul_comm f]
    omega
  have a := p.le (Int.mul_nonneg (by have := q.d1; omega) (by omega)) T'
  have b := q.le (by have := p.d1; omega) T
  have e : N * (D' * f) = f * N * D' := by rw [Int.mul_comm D' f, ← Int.mul_assoc, Int.mul_comm N f]
  omega
/-- ways more -/
theorem IsPace.more {n : Nat} {ws us : List Way} {N D N' D' : Int} (p : IsPace n ws N D) (hus : ∀ w ∈ ws, w ∈ us) (q : IsPace n us N' D') : N * D' ≤ N' * D := by
  obtain ⟨s', S'⟩ := q.start
  exact p.le (by have := q.d1; omega) (s := s') fun w hw => S' w (hus w hw)
/-- going, the meetings by other numbers -/
theorem go_map {ws us : List Way} {f : Int → Int} (h : ∀ w ∈ ws, ∃ u ∈ us, u.1 = f w.1 ∧ u.2.1 = f w.2.1) {a b : Int} (g : Go ws a b) : Go us (f a) (f b) := by
  induction g with
  | one hw =>
    obtain ⟨u, hu, e1, e2⟩ := h _ hw
    rw [← e1, ← e2]
    exact .one hu
  | more _ hw ih =>
    obtain ⟨u, hu, e1, e2⟩ := h _ hw
    rw [← e2]
    rw [← e1] at ih
    exact .more ih hu
end Mp
/-! ## K13 -/
set_option Elab.async false
set_option linter.all false
set_option maxRecDepth 100000
set_option maxHeartbeats 4000000
namespace Mp
open PySem PySem.Spec PyProof.Rows L2 LamX
section
variable {P : Program} {w : World} {K : PySem.W.Frag} {mg : Str → Option Value} {base : Heap}
/-! ### _law_pace -/
def spLawPace : Sp := fun vs H Q _ => ∃ (a : Addr) (n : Nat) (ts : List Addr) (ws : List Way), vs = [.int n, .ref a] ∧ WList H a ts ws ∧ 1 ≤ n ∧ n ≤ 12 ∧ ws.length ≤ 60 ∧ WebOk n ws ∧
  ∀ (T : Addr) (N D : Int) (H' : Hp), Same H H' → H T = none → H' T = some (.tup [.int N, .int D]) → N ≤ 9999 * 12 → D ≤ 12 → IsPace n ws N D → Q (.ref T) H'
theorem scLp : FnScope ["_law_many", "_law_ways_here", "_law_found"] ["_law_many", "_law_ways_here"] (defScope sLawPace) := ⟨rfl, rfl, rfl, by decide +kernel, rfl, by decide +kernel, by decide +kernel⟩
theorem ok_lawpace {f fI fP fW C CB CM CD CA : Addr} {fd dI dP dW : FuncData} (F : Fun K "_law_pace" "_law_pace" sLawPace f fd) (W : WebT K mg C) (M : Mk K C fI) (GWe : FnOk P w K mg base (L2N.CX P w) 3 fI dI ["self", "many", "ways"] (spWeb C CB CM CD CA)) (bWe : Binds K dI ["self", "many", "ways"] [])
    (GP : FnOk P w K mg base CX0 5 fP dP ["web"] (spPace C)) (gP : mg "pace" = some (.ref fP)) (kP : PySem.W.keepIn K (.ref fP) = true) (bP : Binds K dP ["web"] [])
    (GW : FnOk P w K mg base CX0 1 fW dW ["_law_found"] spWhole) (gW : mg "_law_whole" = some (.ref fW)) (kW : PySem.W.keepIn K (.ref fW) = true) (bW : Binds K dW ["_law_found"] []) (Z : Names0 mg) (ZI : NamesI mg) :
    FnOk P w K mg base CX0 6 f fd ["_law_many", "_law_ways_here"] spLawPace := by
  refine F.ok scLp (fun vs H Q E h => ?_) (fun cdv A outer s H vs Q E hr h => ?_)
  · obtain ⟨a, n, ts, ws, rfl, _⟩ := h
    rfl
  · obtain ⟨a, n, ts, ws, rfl, hW, n1, n12, wl, ok, hQ⟩ := h
    have hr5 : Room 5 _ := hr
    have hr4 : Room 4 _ := hr.mono (by decide)
    have hr1 : Room 1 _ := hr.mono (by decide)
    refine ⟨_, pss_cons (ps_set (i := 2) scLp.nd rfl (.inl rfl) (pe_call GP hr5 rfl gP kP bP .nil pass0 (pa_cons (pe_makeS (E := WE (fun _ _ _ _ => False)) M GWe hr4 rfl W.mgC bWe (L2N.passAt takes0N) (pa_cons (pv 0) (pa_cons (pv 1) pa_nil))) pa_nil)))
      (pss_cons (ps_if (PW.pt (pw_or (pt_not (pt_val (pe_callB call_isi (by rfl) ZI.isin (by decide +kernel) (pa_cons (pv 2) (pa_cons (pe_bltn (v := .ty "tuple") rfl Z.tuple (by decide +kernel) rfl) pa_nil)))))
          (pw_or (pt_not (pt_val (pe_call GW hr1 rfl gW kW bW .nil pass0 (pa_cons (pe_ix (r := rIxT K) ix_tup (pv 2) pe_int (fun _ _ => rfl)) pa_nil))))
          (pw_or (pt_not (pt_val (pe_call GW hr1 rfl gW kW bW .nil pass0 (pa_cons (pe_ix (r := rIxT K) ix_tup (pv 2) pe_int (fun _ _ => rfl)) pa_nil))))
          (pw_or1 (pt_cmpR op_lt (pe_ix (r := rIxT K) ix_tup (pv 2) pe_int (fun _ _ => rfl)) pe_int (nomark _))))))) (pss_one (ps_ret (pe_tup (pa_cons (pe_un un_neg pe_int) (pa_cons pe_int pa_nil))))) pss_nil)
      (pss_one (ps_ret (pe_tup (pa_cons (pe_ix (r := rIxT K) ix_tup (pv 2) pe_int (fun _ _ => rfl)) (pa_cons (pe_ix (r := rIxT K) ix_tup (pv 2) pe_int (fun _ _ => rfl)) pa_nil)))))), ?_⟩
    refine ⟨_, rfl, _, rfl, make_web hW (by omega) (by omega) wl ok fun x H1 s1 nx hA => ?_⟩
    refine ⟨x, n, ts, ws, rfl, hA, fun T r st N D c ss H2 s2 nT nr nst rs Tr Ts hT hr' hst RC l0 N0 N1 D0 D1 e co ls S => ?_⟩
    have hSt := SqT.of (K := K) hT
    refine ⟨_, rfl, .ref T, .ty "tuple", .type "tuple", .type "tuple", true, rfl, .ty _, .base (.tup hT), kit_ty (by decide +kernel), _, rfl, iteF ?_⟩
    refine ⟨_, rfl, T, _, 0, .int N, rfl, rfl, hSt, atI_nat (j := 0) rfl, N, rfl, _, rfl, iteF ?_⟩
    refine ⟨_, rfl, T, _, 1, .int D, rfl, rfl, hSt, atI_nat (j := 1) rfl, D, rfl, _, rfl, iteF ?_⟩
    refine ⟨_, rfl, T, _, 1, .int D, rfl, rfl, hSt, atI_nat (j := 1) rfl, _, _, rfl, rfl, _, rfl, ?_⟩
    rw [decide_eq_false (by omega)]
    refine iteF ⟨_, rfl, T, _, 0, .int N, rfl, rfl, hSt, atI_nat (j := 0) rfl, _, rfl, T, _, 1, .int D, rfl, rfl, hSt, atI_nat (j := 1) rfl, (by show 2 ≤ sizeLine; decide), fun T2 nT2 => ?_⟩
    exact hQ T2 N D _ (same_new (s1.trans s2) nT2) ((s1.trans s2).free nT2) upd_same N1 D1 ⟨N0, D0, co, ⟨c, RC, e⟩, ⟨_, S⟩⟩
end
end Mp
/-! ## Law13 -/
set_option Elab.async false
set_option linter.all false
set_option maxRecDepth 100000
set_option maxHeartbeats 8000000
namespace Mp
open PySem PySem.Spec PyProof.Rows L2 LamX
/-- the ways, each changed -/
theorem mapped {H H0 H' : Hp} {D T : Addr} {ps : List Addr} {us : List Way} {u : Way} (s0 : Same H0 H) (nD : H0 D = none) (hD : H D = some (.lst (ps.map V.ref))) (hP : Tups H ps us) (sT : Same H H') (nT : H' T = none) : (upd H' T (.tup (tv u))) D = some (.lst (ps.map V.ref)) ∧
    Same H0 (upd (upd H' T (.tup (tv u))) D (.lst (ps.map V.ref ++ [V.ref T]))) ∧ (upd (upd H' T (.tup (tv u))) D (.lst (ps.map V.ref ++ [V.ref T]))) D = some (.lst ((ps ++ [T]).map V.ref)) ∧ Tups (upd (upd H' T (.tup (tv u))) D (.lst (ps.map V.ref ++ [V.ref T]))) (ps ++ [T]) (us ++ [u]) := by
  have hD' := sT _ _ hD
  have DT : D ≠ T := ne_of_none hD' nT
  refine ⟨by rw [upd_ne DT]; exact hD', same_put (same_new (s0.trans sT) nT) nD, by rw [upd_same, List.map_append]; rfl, Tups.snoc (hP.same fun b xs e => ?_) (by rw [upd_ne DT.symm, upd_same])⟩
  have e' := sT _ _ e
  rw [upd_ne (ne_of e' hD' (by intro z; cases z)), upd_ne (ne_of_none e' nT)]
  exact e'
theorem take_map {ws : List Way} {g : Way → Way} {i : Nat} {v : Way} (h : ws[i]? = some v) : (ws.take (i + 1)).map g = (ws.take i).map g ++ [g v] := by
  rw [List.take_add_one, h, List.map_append]
  rfl
theorem webOk_ends {m : Int} {ws : List Way} {g : Way → Way} (h : WebOk m ws) (hg : ∀ w ∈ ws, (g w).1 = w.1 ∧ (g w).2.1 = w.2.1 ∧ DelayOk (g w)) : WebOk m (ws.map g) := by
  refine ⟨fun w hw => ?_, fun w hw => ?_, fun s t s0 s1 t0 t1 => ?_⟩
  · obtain ⟨v, hv, rfl⟩ := List.mem_map.mp hw
    have e := h.ends v hv
    obtain ⟨e1, e2, _⟩ := hg v hv
    unfold EndsOk
    rw [e1, e2]
    exact e
  · obtain ⟨v, hv, rfl⟩ := List.mem_map.mp hw
    exact (hg v hv).2.2
  · exact go_map (f := fun x => x) (fun w hw => ⟨g w, List.mem_map.mpr ⟨w, hw, rfl⟩, (hg w hw).1, (hg w hw).2.1⟩) (h.piece s t s0 s1 t0 t1)
theorem webOk_ren {m : Int} {ws : List Way} (h : WebOk m ws) : WebOk m (ws.map (renW m)) := by
  refine ⟨fun w hw => ?_, fun w hw => ?_, fun s t s0 s1 t0 t1 => ?_⟩
  · obtain ⟨v, hv, rfl⟩ := List.mem_map.mp hw
    have e := h.ends v hv
    obtain ⟨⟨a1, a2⟩, a3, a4⟩ := e
    exact ⟨⟨by show 0 ≤ m - 1 - v.1; omega, by show m - 1 - v.1 < m; omega⟩, by show 0 ≤ m - 1 - v.2.1; omega, by show m - 1 - v.2.1 < m; omega⟩
  · obtain ⟨v, hv, rfl⟩ := List.mem_map.mp hw
    exact h.delays v hv
  · have g := go_map (us := ws.map (renW m)) (f := fun x => m - 1 - x) (fun w hw => ⟨renW m w, List.mem_map.mpr ⟨w, hw, rfl⟩, rfl, rfl⟩) (h.piece (m - 1 - s) (m - 1 - t) (by omega) (by omega) (by omega) (by omega))
    rw [show m - 1 - (m - 1 - s) = s by omega, show m - 1 - (m - 1 - t) = t by omega] at g
    exact g
section
variable {P : Program} {w : World} {K : PySem.W.Frag} {mg : Str → Option Value} {base : Heap}
def spLaw13 (K : PySem.W.Frag) (T : List (Addr × Str)) : Sp := fun vs H Q _ => ∃ (a : Addr) (ns : List Int), vs = [.ref a] ∧ SqL K H a (ns.map V.int) ∧ Tabs T H ∧ ∀ H', Q (.bl true) H'
abbrev N13 : List Str := ["_law_script", "_law_many", "_law_ways_here", "_law_web", "_law_number", "_law_divisor", "_law_turned", "_law_turn", "_law_others", "_law_more", "_law_found", "_law_factor", "_law_way", "_law_one", "_law_other", "_law_delay"]
theorem scL13 : FnScope N13 ["_law_script"] (defScope sLaw) := ⟨rfl, rfl, rfl, by decide +kernel, rfl, by decide +kernel, by decide +kernel⟩
structure Calls13 (P : Program) (w : World) (K : PySem.W.Frag) (mg : Str → Option Value) (base : Heap) (T : List (Addr × Str)) (C CB CM CD CA fI fCe fWa fLp fPa fTd : Addr) (dI dCe dWa dLp dPa dTd : FuncData) : Prop where
  GWe : FnOk P w K mg base (L2N.CX P w) 3 fI dI ["self", "many", "ways"] (spWeb C CB CM CD CA)
  bWe : Binds K dI ["self", "many", "ways"] []
  GCe : FnOk P w K mg base CX0 1 fCe dCe ["_law_script", "_law_k"] (spCell K)
  gCe : mg "_law_cell_at" = some (.ref fCe)
  kCe : PySem.W.keepIn K (.ref fCe) = true
  bCe : Binds K dCe ["_law_script", "_law_k"] []
  GWa : FnOk P w K mg base CX0 2 fWa dWa ["_law_script", "_law_many"] (spWaysN K T)
  gWa : mg "_law_ways" = some (.ref fWa)
  kWa : PySem.W.keepIn K (.ref fWa) = true
  bWa : Binds K dWa ["_law_script", "_law_many"] []
  GLp : FnOk P w K mg base CX0 6 fLp dLp ["_law_many", "_law_ways_here"] spLawPace
  gLp : mg "_law_pace" = some (.ref fLp)
  kLp : PySem.W.keepIn K (.ref fLp) = true
  bLp : Binds K dLp ["_law_many", "_law_ways_here"] []
  GPa : FnOk P w K mg base CX0 5 fPa dPa ["web"] (spPace C)
  gPa : mg "pace" = some (.ref fPa)
  kPa : PySem.W.keepIn K (.ref fPa) = true
  bPa : Binds K dPa ["web"] []
  GTd : FnOk P w K mg base (L2N.CX P w) 5 fTd dTd ["self"] (spTurned C)
  mTd : Meth K C "turned" fTd
  bTd : Binds K dTd ["self"] []
theorem ok_law13 {f : Addr} {fd : FuncData} {T : List (Addr × Str)} {C CB CM CD CA fI fCe fWa fLp fPa fTd : Addr} {dI dCe dWa dLp dPa dTd : FuncData} (F : Fun K "law" "law" sLaw f fd) (Z : Names0 mg) (W : WebT K mg C) (M : Mk K C fI)
    (Y : Calls13 P w K mg base T C CB CM CD CA fI fCe fWa fLp fPa fTd dI dCe dWa dLp dPa dTd) : FnOk P w K mg base CX0 7 f fd ["_law_script"] (spLaw13 K T) := by
  refine F.ok scL13 (fun vs H Q E h => ?_) (fun cdv A outer s H vs Q E hr h => ?_)
  · obtain ⟨a, ns, rfl, _⟩ := h
    rfl
  · obtain ⟨a, ns, rfl, hS, hT, hQ⟩ := h
    have hr1 : Room 1 _ := hr.mono (by decide)
    have hr2 : Room 2 _ := hr.mono (by decide)
    have hr4 : Room 4 _ := hr.mono (by decide)
    have hr5 : Room 5 _ := hr.mono (by decide)
    have hr6 : Room 6 _ := hr
    refine ⟨_, (C8.pss_cut (ps_set (i := 1) scL13.nd rfl (.inr rfl) (pe_op op_add pe_int (pe_op op_mod (pe_call Y.GCe hr1 rfl Y.gCe Y.kCe Y.bCe .nil pass0 (pa_cons (pv 0) (pa_cons pe_int pa_nil))) pe_int)))
    (pss_cons (ps_set (i := 2) scL13.nd rfl (.inl rfl) (pe_call Y.GWa hr2 rfl Y.gWa Y.kWa Y.bWa .nil pass0 (pa_cons (pv 0) (pa_cons (pv 1) pa_nil))))
    (pss_cons (ps_set (i := 3) scL13.nd rfl (.inl rfl) (pe_makeS (E := WE (fun _ _ _ _ => False)) M Y.GWe hr4 rfl W.mgC Y.bWe (L2N.passAt takes0N) (pa_cons (pv 1) (pa_cons (pe_callTy call_list_of (by rfl) Z.list (by decide +kernel) (pa_cons (pv 2) pa_nil)) pa_nil))))
    (pss_cons (ps_asg (pe_call Y.GLp hr6 rfl Y.gLp Y.kLp Y.bLp .nil pass0 (pa_cons (pv 1) (pa_cons (pe_callTy call_list_of (by rfl) Z.list (by decide +kernel) (pa_cons (pv 2) pa_nil)) pa_nil))) (pg_tup rfl (pgs_cons (pg_name (i := 4) scL13.nd rfl (.inl rfl)) (pgs_cons (pg_name (i := 5) scL13.nd rfl (.inl rfl)) pgs_nil))))
    (pss_cons (ps_if (pt_cmpR op_lt (pv 4) pe_int (nomark _))
      (pss_one (ps_ret pe_bl))
      pss_nil)
    (pss_cons (ps_set (i := 6) scL13.nd rfl (.inl rfl) (pe_call Y.GPa hr5 rfl Y.gPa Y.kPa Y.bPa .nil pass0 (pa_cons (pe_meth0 (pv 3) W.cl Y.mTd Y.GTd hr5 Y.bTd .nil pass0N) pa_nil)))
    (pss_cons (ps_if (PW.pt (pw_or (pt_cmpR op_ne (pe_ix (r := rIxT K) ix_tup (pv 6) pe_int (fun _ _ => rfl)) (pv 4) (nomark _)) (pw_or1 (pt_cmpR op_ne (pe_ix (r := rIxT K) ix_tup (pv 6) pe_int (fun _ _ => rfl)) (pv 5) (nomark _)))))
      (pss_one (ps_ret pe_bl))
      pss_nil)
    (pss_cons (ps_set (i := 7) scL13.nd rfl (.inl rfl) (pe_op op_mod (pe_call Y.GCe hr1 rfl Y.gCe Y.kCe Y.bCe .nil pass0 (pa_cons (pv 0) (pa_cons pe_int pa_nil))) (pe_callB call_len_seq (by rfl) Z.len PySem.boot_len (pa_cons (pv 2) pa_nil))))
    (pss_cons (ps_setLc (i := 8) (own := [("_law_one", 13), ("_law_other", 14), ("_law_delay", 15)]) (g := gTup K 3 (gCons (gName 13) (gCons (gName 14) (gCons (gName 15) gNil)))) rfl scL13.nd rfl rfl (sw_true rfl rfl rfl (by decide +kernel)) (pi_list (pe_op op_cat (pe_slice sl_list (pv 2) (po_some (pv 7)) po_none) (pe_slice sl_list (pv 2) po_none (po_some (pv 7)))))
        (blkOk_by (own := [("_law_one", 13), ("_law_other", 14), ("_law_delay", 15)]) (N := N13) (sc := defScope sLaw) (by decide +kernel)) (by intro s1 H1 C1 cl fp; exact pg_tup rfl (pgs_cons (pg_name (i := 13) scL13.nd rfl (.inl rfl)) (pgs_cons (pg_name (i := 14) scL13.nd rfl (.inl rfl)) (pgs_cons (pg_name (i := 15) scL13.nd rfl (.inl rfl)) pgs_nil)))) (fun _ _ _ _ _ => pts_nil)
        (fun _ _ _ _ _ => (pe_tup (pa_cons (pe_op op_sub (pe_op op_sub (pv 1) pe_int) (pv 13)) (pa_cons (pe_op op_sub (pe_op op_sub (pv 1) pe_int) (pv 14)) (pa_cons (pv 15) pa_nil))))))
    (pss_cons (ps_if (pt_cmpR (op_neD hr.units) (pe_call Y.GLp hr6 rfl Y.gLp Y.kLp Y.bLp .nil pass0 (pa_cons (pv 1) (pa_cons (pv 8) pa_nil))) (pe_tup (pa_cons (pv 4) (pa_cons (pv 5) pa_nil))) (nomark _))
      (pss_one (ps_ret pe_bl))
      pss_nil)
    (pss_cons (ps_set (i := 9) scL13.nd rfl (.inr rfl) (pe_op op_mod (pe_call Y.GCe hr1 rfl Y.gCe Y.kCe Y.bCe .nil pass0 (pa_cons (pv 0) (pa_cons pe_int pa_nil))) pe_int))
    (pss_cons (ps_set (i := 10) scL13.nd rfl (.inl rfl) (pe_call Y.GLp hr6 rfl Y.gLp Y.kLp Y.bLp .nil pass0 (pa_cons (pv 1) (pa_cons (pe_lc (own := [("_law_one", 13), ("_law_other", 14), ("_law_delay", 15)]) (g := gTup K 3 (gCons (gName 13) (gCons (gName 14) (gCons (gName 15) gNil)))) rfl scL13.nd (pi_list (pv 2))
          (blkOk_by (own := [("_law_one", 13), ("_law_other", 14), ("_law_delay", 15)]) (N := N13) (sc := defScope sLaw) (by decide +kernel)) (by intro s1 H1 C1 cl fp; exact pg_tup rfl (pgs_cons (pg_name (i := 13) scL13.nd rfl (.inl rfl)) (pgs_cons (pg_name (i := 14) scL13.nd rfl (.inl rfl)) (pgs_cons (pg_name (i := 15) scL13.nd rfl (.inl rfl)) pgs_nil)))) (fun _ _ _ _ _ => pts_nil)
          (fun _ _ _ _ _ => (pe_tup (pa_cons (pv 13) (pa_cons (pv 14) (pa_cons (pe_op op_add (pv 15) (pv 9)) pa_nil)))))) pa_nil))))
    (pss_cons (ps_if (pt_cmpR (op_neD hr.units) (pv 10) (pe_tup (pa_cons (pe_op op_add (pv 4) (pe_op op_mul (pv 9) (pv 5))) (pa_cons (pv 5) pa_nil))) (nomark _))
      (pss_one (ps_ret pe_bl))
      pss_nil)
    (pss_cons (ps_set (i := 11) scL13.nd rfl (.inr rfl) (pe_op op_add pe_int (pe_op op_mod (pe_call Y.GCe hr1 rfl Y.gCe Y.kCe Y.bCe .nil pass0 (pa_cons (pv 0) (pa_cons pe_int pa_nil))) pe_int)))
    (pss_cons (ps_set (i := 10) scL13.nd rfl (.inl rfl) (pe_call Y.GLp hr6 rfl Y.gLp Y.kLp Y.bLp .nil pass0 (pa_cons (pv 1) (pa_cons (pe_lc (own := [("_law_one", 13), ("_law_other", 14), ("_law_delay", 15)]) (g := gTup K 3 (gCons (gName 13) (gCons (gName 14) (gCons (gName 15) gNil)))) rfl scL13.nd (pi_list (pv 2))
          (blkOk_by (own := [("_law_one", 13), ("_law_other", 14), ("_law_delay", 15)]) (N := N13) (sc := defScope sLaw) (by decide +kernel)) (by intro s1 H1 C1 cl fp; exact pg_tup rfl (pgs_cons (pg_name (i := 13) scL13.nd rfl (.inl rfl)) (pgs_cons (pg_name (i := 14) scL13.nd rfl (.inl rfl)) (pgs_cons (pg_name (i := 15) scL13.nd rfl (.inl rfl)) pgs_nil)))) (fun _ _ _ _ _ => pts_nil)
          (fun _ _ _ _ _ => (pe_tup (pa_cons (pv 13) (pa_cons (pv 14) (pa_cons (pe_op op_mul (pv 15) (pv 11)) pa_nil)))))) pa_nil))))
    (pss_cons (ps_if (pt_cmpR op_ne (pe_op op_mul (pe_ix (r := rIxT K) ix_tup (pv 10) pe_int (fun _ _ => rfl)) (pv 5)) (pe_op op_mul (pe_op op_mul (pv 11) (pv 4)) (pe_ix (r := rIxT K) ix_tup (pv 10) pe_int (fun _ _ => rfl))) (nomark _))
      (pss_one (ps_ret pe_bl))
      pss_nil)
    (pss_cons (ps_set (i := 12) scL13.nd rfl (.inl rfl) (pe_tup (pa_cons (pe_op op_mod (pe_call Y.GCe hr1 rfl Y.gCe Y.kCe Y.bCe .nil pass0 (pa_cons (pv 0) (pa_cons pe_int pa_nil))) (pv 1)) (pa_cons (pe_op op_mod (pe_call Y.GCe hr1 rfl Y.gCe Y.kCe Y.bCe .nil pass0 (pa_cons (pv 0) (pa_cons pe_int pa_nil))) (pv 1)) (pa_cons (pe_op op_mod (pe_call Y.GCe hr1 rfl Y.gCe Y.kCe Y.bCe .nil pass0 (pa_cons (pv 0) (pa_cons pe_int pa_nil))) pe_int) pa_nil)))))
    (pss_cons (ps_set (i := 10) scL13.nd rfl (.inl rfl) (pe_call Y.GLp hr6 rfl Y.gLp Y.kLp Y.bLp .nil pass0 (pa_cons (pv 1) (pa_cons (pe_op op_cat (pv 2) (pe_lst (pa_cons (pv 12) pa_nil))) pa_nil))))
    (pss_one (ps_ret (pe_cmpR op_ge (pe_op op_mul (pe_ix (r := rIxT K) ix_tup (pv 10) pe_int (fun _ _ => rfl)) (pv 5)) (pe_op op_mul (pv 4) (pe_ix (r := rIxT K) ix_tup (pv 10) pe_int (fun _ _ => rfl))) (nomark _)))))))))))))))))))))), ?_⟩
    refine ⟨fun σ' H' => ∃ n : Nat, σ' = [some (.ref a), some (.int n), none, none, none, none, none, none, none, none, none, none, none, none, none, none] ∧ H' = H ∧ 1 ≤ n ∧ n ≤ 6, ⟨_, rfl, a, 0, ns, rfl, hS, (by decide), fun z0 => ⟨_, _, rfl, rfl, (by show (0 : Int) < 6; decide), _, _, rfl, rfl, ?_⟩⟩, ?_⟩
    · refine ⟨(1 + z0 % 6).toNat, ?_, rfl, by omega, by omega⟩
      show [some (V.ref a), some (V.int (1 + z0 % 6)), none, none, none, none, none, none, none, none, none, none, none, none, none, none] = _
      rw [show (((1 + z0 % 6).toNat : Nat) : Int) = 1 + z0 % 6 by omega]
    rintro σ' H' ⟨n, rfl, rfl, n1, n6⟩
    refine ⟨_, rfl, _, rfl, a, ns, n, rfl, hS, by omega, by omega, hT, fun b us ws H1 eN T1 hWl ok hsm l1 l40 => ?_⟩
    have hS1 := extN_seq eN hS
    have n12 : n ≤ 12 := by omega
    have wl : ws.length ≤ 60 := by omega
    have lus := hWl.2.1
    -- the web
    refine ⟨_, rfl, _, rfl, b, _, rfl, .inl (SqL.of hWl.1), fun h1 nh1 => ?_⟩
    have sh1 := same_new (o := .lst (us.map V.ref)) (Same.refl H1) nh1
    refine make_web ⟨upd_same, hWl.2.same (same_tups sh1)⟩ (by omega) (by omega) wl ok fun x H2 s2 nx hA => ?_
    have s12 := sh1.trans s2
    -- its pace
    refine ⟨_, rfl, _, rfl, b, _, rfl, .inl (SqL.of (s12 _ _ hWl.1)), fun h2 nh2 => ?_⟩
    have sh2 := same_new (o := .lst (us.map V.ref)) (Same.refl H2) nh2
    have s13 := s12.trans sh2
    refine ⟨h2, n, us, ws, rfl, ⟨upd_same, hWl.2.same (same_tups s13)⟩, n1, n12, wl, ok, fun T1' N D H3 s3 nT hT3 N1 D1 pc => ?_⟩
    have s14 := s13.trans s3
    refine ⟨T1', _, rfl, SqT.of hT3, rfl, _, _, rfl, _, _, rfl, rfl, ?_⟩
    have N0 := pc.n0
    have D0 := pc.d1
    refine ⟨_, rfl, _, _, rfl, rfl, _, rfl, ?_⟩
    rw [decide_eq_false (by omega)]
    refine iteF ?_
    -- turned about
    have hA3 := hA.same (sh2.trans s3)
    obtain ⟨dx, b', c', w0⟩ := hA3.web.is
    have nTd : (webF (n : Int) b' c').lookup ("turned" : Str) = none := webF_no _ _ _ (by decide +kernel) (by decide +kernel) (by decide +kernel)
    refine ⟨_, rfl, x, dx, _, rfl, w0.o, nTd, x, n, us, ws, rfl, hA3.web, ok, by omega, by omega, wl, fun p' ts' H4 s4 np' w4 => ?_⟩
    refine ⟨p', n, ts', ws.map flipW, rfl, ⟨w4.at, ok.flip, by omega, by omega, by rw [List.length_map]; exact wl⟩, fun Tt r st Nt Dt ct st' H5 s5 nTt nr nst _ _ _ hTt hrt hstt RC _ Nt0 Nt1 Dt0 Dt1 et cot lst St => ?_⟩
    have pt : IsPace n (ws.map flipW) Nt Dt := ⟨Nt0, Dt0, cot, ⟨ct, RC, et⟩, ⟨_, St⟩⟩
    obtain ⟨rfl, rfl⟩ := pc.flip pt
    have hSt := SqT.of (K := K) hTt
    refine ⟨_, rfl, Tt, _, 0, .int N, rfl, rfl, hSt, atI_nat (j := 0) rfl, _, rfl, rfl, _, rfl, ?_⟩
    rw [decide_eq_true (rfl : V.int N = V.int N)]
    refine iteF ⟨_, rfl, Tt, _, 1, .int D, rfl, rfl, hSt, atI_nat (j := 1) rfl, _, rfl, rfl, _, rfl, ?_⟩
    rw [decide_eq_true (rfl : V.int D = V.int D)]
    refine iteF ?_
    have s15 := (s14.trans s4).trans s5
    have hW5 : WList H5 b us ws := ⟨s15 _ _ hWl.1, hWl.2.same (same_tups s15)⟩
    have hS5 := s15.seq hS1
    clear hTt hrt hstt hSt hA3 w0 hA
    -- the ways in another order, the meetings by other numbers
    refine ⟨_, rfl, a, 9, ns, rfl, hS5, (by decide), fun z9 => ⟨_, rfl, b, _, rfl, .inl (SqL.of hW5.1), _, _, rfl, rfl, (by show (0 : Int) < ((us.map V.ref).length : Int); rw [List.length_map]; omega), ?_⟩⟩
    show tSeq _ _ _ [some (.ref a), some (.int n), some (.ref b), some (.ref x), some (.int N), some (.int D), some (.ref Tt), some (.int (z9 % ((us.map V.ref).length : Int))), none, none, none, none, none, none, none, none] H5
    have q0 := Int.emod_nonneg z9 (show ((us.map V.ref).length : Int) ≠ 0 by rw [List.length_map]; omega)
    have q1 := Int.emod_lt_of_pos z9 (show (0 : Int) < ((us.map V.ref).length : Int) by rw [List.length_map]; omega)
    have cl := cut_len (xs := us.map V.ref) q0 (by omega)
    have cm := cut_map (ts := us) q0 (by have e : (us.map V.ref).length = us.length := List.length_map _; omega)
    refine ⟨_, rfl, _, rfl, _, rfl, b, _, rfl, SqL.of hW5.1, fun p1 np1 => ?_⟩
    have hb1 : (upd H5 p1 (.lst (cutV (us.map V.ref) (some (z9 % ((us.map V.ref).length : Int))) none))) b = some (.lst (us.map V.ref)) := by rw [upd_ne (ne_of_none hW5.1 np1)]; exact hW5.1
    refine ⟨_, rfl, _, rfl, _, rfl, b, _, rfl, SqL.of hb1, fun p2 np2 => ?_⟩
    have p12 : p1 ≠ p2 := ne_of_none upd_same np2
    refine ⟨p1, p2, _, _, rfl, rfl, (by rw [upd_ne p12, upd_same]), upd_same, (by rw [cl, sizeLine_eq, List.length_map]; omega), fun p3 np3 => ?_⟩
    rw [cm]
    obtain ⟨k, hk⟩ : ∃ k, k = (z9 % ((us.map V.ref).length : Int)).toNat := ⟨_, rfl⟩
    obtain ⟨H6, hH6⟩ : ∃ H6, H6 = upd (upd (upd H5 p1 (.lst (cutV (us.map V.ref) (some (z9 % ((us.map V.ref).length : Int))) none))) p2 (.lst (cutV (us.map V.ref) none (some (z9 % ((us.map V.ref).length : Int)))))) p3 (.lst ((us.drop k ++ us.take k).map V.ref)) := ⟨_, rfl⟩
    have s56 : Same H5 H6 := by rw [hH6]; exact same_new (same_new (same_new (Same.refl _) np1) np2) np3
    have hp3 : H6 p3 = some (.lst ((us.drop k ++ us.take k).map V.ref)) := by rw [hH6]; exact upd_same
    rw [← hk, ← hH6]
    clear hH6 hk
    have hTr : Tups H6 (us.drop k ++ us.take k) (ws.drop k ++ ws.take k) := (hW5.2.turn k).same (same_tups s56)
    have lr : (ws.drop k ++ ws.take k).length = ws.length := by simp only [List.length_append, List.length_drop, List.length_take]; omega
    have mr : ∀ w, w ∈ ws.drop k ++ ws.take k ↔ w ∈ ws := fun w => by rw [List.mem_append, Or.comm, ← List.mem_append, List.take_append_drop]
    refine ⟨p3, rfl, ⟨_, SqL.of hp3⟩, fun D8 nD8 => it_gen (walk_list (xs := (us.drop k ++ us.take k).map V.ref)) (fun i H' => ∃ ps, Same H6 H' ∧ H' D8 = some (.lst (ps.map V.ref)) ∧ Tups H' ps (((ws.drop k ++ ws.take k).take i).map (renW n))) ⟨[], same_new (Same.refl _) nD8, upd_same, rfl, fun i t q h => by cases h⟩ (fun i H' _ hh => SqL.of (hh.choose_spec.1 _ _ hp3)) ?_ ?_⟩
    · rintro i y H' H'' hi ⟨ps, sm, hD, hP⟩ ⟨rfl, hy⟩
      obtain ⟨t, v, rfl, _, hv, hmem, ht⟩ := (hTr.same (same_tups sm)).at hy
      have pl : ps.length ≤ 100 := by rw [hP.1, List.length_map, List.length_take]; omega
      refine ⟨t, _, rfl, SqT.of ht, rfl, _, _, rfl, _, _, rfl, _, _, rfl, rfl, rfl, ?_⟩
      refine ⟨_, rfl, _, _, rfl, rfl, _, rfl, _, _, rfl, rfl, _, rfl, _, _, rfl, rfl, _, rfl, _, _, rfl, rfl, _, rfl, (by show 3 ≤ sizeLine; decide), fun q nq => ?_⟩
      obtain ⟨g1, g2, g3, g4⟩ := mapped (u := renW n v) sm nD8 hD hP (Same.refl _) nq
      exact ⟨_, g1, small1000 (by rw [List.length_map]; omega), ps ++ [q], g2, g3, by rw [take_map hv]; exact g4⟩
    rintro H7 ⟨ps, s67, hD8, hP8⟩
    rw [List.length_map, hTr.1, List.take_length] at hP8
    have okr : WebOk n ((ws.drop k ++ ws.take k).map (renW n)) := webOk_ren (WebOk.perm ok fun w => (mr w).symm)
    refine ⟨_, rfl, _, rfl, D8, n, ps, _, rfl, ⟨hD8, hP8⟩, n1, n12, by rw [List.length_map, lr]; exact wl, okr, fun T8 N8 D8' H8 s78 nT8 hT8 _ _ pc8 => ?_⟩
    have e8 := pc.ren (us := (ws.drop k ++ ws.take k).map (renW n)) (m := n) (fun w => by
      rw [List.mem_map]
      constructor
      · rintro ⟨v, hv, rfl⟩
        exact ⟨v, (mr v).mp hv, rfl⟩
      · rintro ⟨v, hv, rfl⟩
        exact ⟨v, (mr v).mpr hv, rfl⟩) pc8
    obtain ⟨rfl, rfl⟩ := e8
    refine ⟨_, rfl, _, rfl, (by show 2 ≤ sizeLine; decide), fun Te nTe => ?_⟩
    have sTe := same_new (o := .tup [.int N, .int D]) (Same.refl H8) nTe
    refine ⟨_, _, dp_tup2 (sTe _ _ hT8), dp_tup2 upd_same, tup2_shaped _ _, tup2_shaped _ _, _, rfl, ?_⟩
    rw [tup2_eqv]
    refine iteF ?_
    have s58 := (((s56.trans s67).trans s78).trans sTe)
    obtain ⟨H9, hH9⟩ : ∃ H9, H9 = upd H8 Te (.tup [.int N, .int D]) := ⟨_, rfl⟩
    rw [← hH9] at s58 ⊢
    clear hH9 sTe
    have hW9 : WList H9 b us ws := ⟨s58 _ _ hW5.1, hW5.2.same (same_tups s58)⟩
    have hS9 := s58.seq hS5
    -- a number more
    refine ⟨_, rfl, a, 10, ns, rfl, hS9, (by decide), fun z10 => ⟨_, _, rfl, rfl, (by show (0 : Int) < 3001; decide), ?_⟩⟩
    show tSeq _ _ _ [some (.ref a), some (.int n), some (.ref b), some (.ref x), some (.int N), some (.int D), some (.ref Tt), some (.int (z9 % ((us.map V.ref).length : Int))), some (.ref D8), some (.int (z10 % 3001)), none, none, none, none, none, none] H9
    obtain ⟨M, hM⟩ : ∃ M, M = z10 % 3001 := ⟨_, rfl⟩
    have M0 : 0 ≤ M := by rw [hM]; exact Int.emod_nonneg _ (by decide)
    have M1 : M < 3001 := by rw [hM]; exact Int.emod_lt_of_pos _ (by decide)
    refine ⟨_, rfl, _, rfl, b, rfl, ⟨_, SqL.of hW9.1⟩, fun Dm nDm => it_gen (walk_list (xs := us.map V.ref)) (fun i H' => ∃ ps, Same H9 H' ∧ H' Dm = some (.lst (ps.map V.ref)) ∧ Tups H' ps ((ws.take i).map fun w => (w.1, w.2.1, w.2.2 + M))) ⟨[], same_new (Same.refl _) nDm, upd_same, rfl, fun i t q h => by cases h⟩ (fun i H' _ hh => SqL.of (hh.choose_spec.1 _ _ hW9.1)) ?_ ?_⟩
    · rintro i y H' H'' hi ⟨ps, sm, hD, hP⟩ ⟨rfl, hy⟩
      obtain ⟨t, v, rfl, _, hv, hmem, ht⟩ := (hW9.2.same (same_tups sm)).at hy
      have pl : ps.length ≤ 100 := by rw [hP.1, List.length_map, List.length_take]; omega
      refine ⟨t, _, rfl, SqT.of ht, rfl, _, _, rfl, _, _, rfl, _, _, rfl, rfl, rfl, ?_⟩
      refine ⟨_, rfl, _, rfl, _, rfl, _, rfl, _, _, rfl, rfl, (by show 3 ≤ sizeLine; decide), fun q nq => ?_⟩
      obtain ⟨g1, g2, g3, g4⟩ := mapped (u := (v.1, v.2.1, v.2.2 + M)) sm nDm hD hP (Same.refl _) nq
      rw [hM] at g1 g2 g3 g4
      refine ⟨_, g1, small1000 (by rw [List.length_map]; omega), ps ++ [q], g2, g3, ?_⟩
      rw [take_map (g := fun w => (w.1, w.2.1, w.2.2 + M)) hv, hM]
      rw [hM] at hP
      exact g4
    rintro H10 ⟨ps, s910, hDm, hPm⟩
    rw [List.length_map, lus, List.take_length] at hPm
    have okm : WebOk n (ws.map fun w => (w.1, w.2.1, w.2.2 + M)) := webOk_ends ok fun w hw => ⟨rfl, rfl, by have := (ok.delays w hw).1; show 0 ≤ w.2.2 + M; omega, by have := hsm w hw; show w.2.2 + M ≤ 9999; omega⟩
    refine ⟨Dm, n, ps, _, rfl, ⟨hDm, hPm⟩, n1, n12, by rw [List.length_map]; exact wl, okm, fun T10 N10 D10 H11 s1011 nT10 hT10 _ _ pc10 => ?_⟩
    have e10 := pc.add M0 (us := ws.map fun w => (w.1, w.2.1, w.2.2 + M)) (fun w => by
      rw [List.mem_map]
      constructor
      · rintro ⟨v, hv, rfl⟩
        exact ⟨v, hv, rfl⟩
      · rintro ⟨v, hv, rfl⟩
        exact ⟨v, hv, rfl⟩) pc10
    rw [e10.1, e10.2] at hT10
    refine ⟨_, rfl, _, rfl, _, rfl, _, rfl, _, _, rfl, rfl, .inr ⟨by omega, by omega⟩, _, _, rfl, rfl, _, rfl, (by show 2 ≤ sizeLine; decide), fun Tm nTm => ?_⟩
    have sTm := same_new (o := .tup [.int (N + M * D), .int D]) (Same.refl H11) nTm
    rw [hM] at sTm hT10
    refine ⟨_, _, dp_tup2 (sTm _ _ hT10), dp_tup2 upd_same, tup2_shaped _ _, tup2_shaped _ _, _, rfl, ?_⟩
    rw [tup2_eqv]
    refine iteF ?_
    have s911 := (s910.trans s1011).trans sTm
    obtain ⟨H12, hH12⟩ : ∃ H12, H12 = upd H11 Tm (.tup [.int (N + z10 % 3001 * D), .int D]) := ⟨_, rfl⟩
    rw [← hH12] at s911
    have hh12 : upd H11 Tm (.tup [.int (N + z10 % 3001 * D), .int D]) = H12 := hH12.symm
    have hW12 : WList H12 b us ws := ⟨s911 _ _ hW9.1, hW9.2.same (same_tups s911)⟩
    have hS12 := s911.seq hS9
    clear hH12 sTm
    rw [hh12]
    clear hh12
    -- so many times
    refine ⟨_, rfl, a, 11, ns, rfl, hS12, (by decide), fun z11 => ⟨_, _, rfl, rfl, (by show (0 : Int) < 3; decide), _, _, rfl, rfl, ?_⟩⟩
    show tSeq _ _ _ [some (.ref a), some (.int n), some (.ref b), some (.ref x), some (.int N), some (.int D), some (.ref Tt), some (.int (z9 % ((us.map V.ref).length : Int))), some (.ref D8), some (.int (z10 % 3001)), some (.ref T10), some (.int (1 + z11 % 3)), none, none, none, none] H12
    have f0 := Int.emod_nonneg z11 (show (3 : Int) ≠ 0 by decide)
    have f3 := Int.emod_lt_of_pos z11 (show (0 : Int) < 3 by decide)
    refine ⟨_, rfl, _, rfl, b, rfl, ⟨_, SqL.of hW12.1⟩, fun Df nDf => it_gen (walk_list (xs := us.map V.ref)) (fun i H' => ∃ ps, Same H12 H' ∧ H' Df = some (.lst (ps.map V.ref)) ∧ Tups H' ps ((ws.take i).map fun w => (w.1, w.2.1, w.2.2 * (1 + z11 % 3)))) ⟨[], same_new (Same.refl _) nDf, upd_same, rfl, fun i t q h => by cases h⟩ (fun i H' _ hh => SqL.of (hh.choose_spec.1 _ _ hW12.1)) ?_ ?_⟩
    · rintro i y H' H'' hi ⟨ps, sm, hD, hP⟩ ⟨rfl, hy⟩
      obtain ⟨t, v, rfl, _, hv, hmem, ht⟩ := (hW12.2.same (same_tups sm)).at hy
      have pl : ps.length ≤ 100 := by rw [hP.1, List.length_map, List.length_take]; omega
      refine ⟨t, _, rfl, SqT.of ht, rfl, _, _, rfl, _, _, rfl, _, _, rfl, rfl, rfl, ?_⟩
      refine ⟨_, rfl, _, rfl, _, rfl, _, rfl, _, _, rfl, rfl, .inr ⟨by show -(2 : Int) ^ 64 < 1 + z11 % 3; omega, by show 1 + z11 % 3 < (2 : Int) ^ 64; omega⟩, (by show 3 ≤ sizeLine; decide), fun q nq => ?_⟩
      obtain ⟨g1, g2, g3, g4⟩ := mapped (u := (v.1, v.2.1, v.2.2 * (1 + z11 % 3))) sm nDf hD hP (Same.refl _) nq
      exact ⟨_, g1, small1000 (by rw [List.length_map]; omega), ps ++ [q], g2, g3, by rw [take_map (g := fun w => (w.1, w.2.1, w.2.2 * (1 + z11 % 3))) hv]; exact g4⟩
    rintro H13 ⟨ps3, s1213, hDf, hPf⟩
    rw [List.length_map, lus, List.take_length] at hPf
    have okf : WebOk n (ws.map fun w => (w.1, w.2.1, w.2.2 * (1 + z11 % 3))) := webOk_ends ok fun w hw => by
      have d0 := (ok.delays w hw).1
      have d1 := hsm w hw
      have c3 : 1 + z11 % 3 = 1 ∨ 1 + z11 % 3 = 2 ∨ 1 + z11 % 3 = 3 := by omega
      refine ⟨rfl, rfl, ?_⟩
      show 0 ≤ w.2.2 * (1 + z11 % 3) ∧ w.2.2 * (1 + z11 % 3) ≤ 9999
      rcases c3 with e | e | e <;> rw [e] <;> omega
    refine ⟨Df, n, ps3, _, rfl, ⟨hDf, hPf⟩, n1, n12, by rw [List.length_map]; exact wl, okf, fun T13 N13' D13 H14 s1314 nT13 hT13 Nb Db pc13 => ?_⟩
    have e13 := pc.scale (f := 1 + z11 % 3) (by omega) (us := ws.map fun w => (w.1, w.2.1, w.2.2 * (1 + z11 % 3))) (fun w => by
      rw [List.mem_map]
      constructor
      · rintro ⟨v, hv, rfl⟩
        exact ⟨v, hv, rfl⟩
      · rintro ⟨v, hv, rfl⟩
        exact ⟨v, hv, rfl⟩) pc13
    have hSt13 := SqT.of (K := K) hT13
    have b13a := pc13.n0
    have b13b := pc13.d1
    refine ⟨_, rfl, T13, _, 0, .int N13', rfl, rfl, hSt13, atI_nat (j := 0) rfl, _, rfl, _, _, rfl, rfl, .inr ⟨by omega, by omega⟩, _, rfl, _, rfl, _, _, rfl, rfl, .inr ⟨by omega, by omega⟩, _, rfl, T13, _, 1, .int D13, rfl, rfl, hSt13, atI_nat (j := 1) rfl, _, _, rfl, rfl, .inr ⟨by omega, by omega⟩, rfl, _, rfl, ?_⟩
    rw [decide_eq_true (show V.int (N13' * D) = V.int ((1 + z11 % 3) * N * D13) by rw [e13])]
    refine iteF ?_
    have s1214 := s1213.trans s1314
    have hW14 : WList H14 b us ws := ⟨s1214 _ _ hW12.1, hW12.2.same (same_tups s1214)⟩
    have hS14 := s1214.seq hS12
    -- a way more
    refine ⟨_, rfl, a, 12, ns, rfl, hS14, (by decide), fun z12 => ⟨_, rfl, _, _, rfl, rfl, (by omega), ?_⟩⟩
    refine ⟨_, rfl, a, 13, ns, rfl, hS14, (by decide), fun z13 => ⟨_, rfl, _, _, rfl, rfl, (by omega), ?_⟩⟩
    refine ⟨_, rfl, a, 14, ns, rfl, hS14, (by decide), fun z14 => ⟨_, _, rfl, rfl, (by show (0 : Int) < 10000; decide), (by show 3 ≤ sizeLine; decide), fun Tw nTw => ?_⟩⟩
    have w12 := Int.emod_nonneg z12 (show (n : Int) ≠ 0 by omega)
    have w12' := Int.emod_lt_of_pos z12 (show (0 : Int) < n by omega)
    have w13 := Int.emod_nonneg z13 (show (n : Int) ≠ 0 by omega)
    have w13' := Int.emod_lt_of_pos z13 (show (0 : Int) < n by omega)
    have w14 := Int.emod_nonneg z14 (show (10000 : Int) ≠ 0 by decide)
    have w14' := Int.emod_lt_of_pos z14 (show (0 : Int) < 10000 by decide)
    have sTw := same_new (o := .tup [.int (z12 % n), .int (z13 % n), .int (z14 % 10000)]) (Same.refl H14) nTw
    refine ⟨_, rfl, _, rfl, _, rfl, (by show 1 ≤ sizeLine; decide), fun l1 nl1 => ?_⟩
    have sl1 := same_new (o := .lst [V.ref Tw]) sTw nl1
    refine ⟨b, l1, _, _, rfl, rfl, sl1 _ _ hW14.1, upd_same, (by rw [sizeLine_eq, List.length_map]; show us.length + 1 ≤ _; omega), fun l2 nl2 => ?_⟩
    have sl2 := same_new (o := .lst (us.map V.ref ++ [V.ref Tw])) sl1 nl2
    have okw : WebOk n (ws ++ [(z12 % n, z13 % n, z14 % 10000)]) := by
      refine ⟨fun w hw => ?_, fun w hw => ?_, ok.piece.sub fun w hw => List.mem_append_left _ hw⟩
      · rcases List.mem_append.mp hw with h | h
        · exact ok.ends w h
        · rw [List.mem_singleton.mp h]; exact ⟨⟨w12, w12'⟩, w13, w13'⟩
      · rcases List.mem_append.mp hw with h | h
        · exact ok.delays w h
        · rw [List.mem_singleton.mp h]; exact ⟨w14, by show z14 % 10000 ≤ 9999; omega⟩
    have hTw : Tups (upd (upd (upd H14 Tw (.tup [.int (z12 % n), .int (z13 % n), .int (z14 % 10000)])) l1 (.lst [V.ref Tw])) l2 (.lst (us.map V.ref ++ [V.ref Tw]))) (us ++ [Tw]) (ws ++ [(z12 % n, z13 % n, z14 % 10000)]) := by
      refine Tups.snoc (hW14.2.same (same_tups sl2)) ?_
      have e1 : Tw ≠ l1 := ne_of_none upd_same nl1
      have e2 : Tw ≠ l2 := ne_of_none (show (upd (upd H14 Tw (.tup [.int (z12 % n), .int (z13 % n), .int (z14 % 10000)])) l1 (.lst [V.ref Tw])) Tw = some _ by rw [upd_ne e1, upd_same]) nl2
      rw [upd_ne e2, upd_ne e1, upd_same]
      rfl
    refine ⟨l2, n, us ++ [Tw], _, rfl, ⟨by rw [upd_same, List.map_append]; rfl, hTw⟩, n1, n12, by rw [List.length_append]; show ws.length + 1 ≤ 60; omega, okw, fun T15 N15 D15 H15 s15' nT15 hT15 Nc Dc pc15 => ?_⟩
    have e15 := pc.more (fun w hw => List.mem_append_left _ hw) pc15
    have hSt15 := SqT.of (K := K) hT15
    have b15a := pc15.n0
    have b15b := pc15.d1
    refine ⟨_, rfl, T15, _, 0, .int N15, rfl, rfl, hSt15, atI_nat (j := 0) rfl, _, rfl, _, _, rfl, rfl, .inr ⟨by omega, by omega⟩, _, rfl, _, rfl, T15, _, 1, .int D15, rfl, rfl, hSt15, atI_nat (j := 1) rfl, _, _, rfl, rfl, .inr ⟨by omega, by omega⟩, _, _, rfl, rfl, ?_⟩
    show Q (.bl (decide (N * D15 ≤ N15 * D))) H15
    rw [decide_eq_true e15]
    exact hQ _
end
end Mp
/-! ## End -/
set_option Elab.async false
set_option linter.all false
set_option maxRecDepth 100000
set_option maxHeartbeats 8000000
namespace Mp
open PySem PySem.Spec PyProof.Rows L2 LamX L2H HotX
theorem all_mk {l : PySem.W.OpenLaw} {w : World} {K : PySem.W.Frag} {h : Heap} {mg : Str → Option Value} {fa TP cW C C_PaceError C_BadCount C_NoMeeting C_BadDelay C_Apart C_NoRing C_BadPace : Addr} (X : K.In h) (G : h.Ns mainGlobals mg) (hfa : mg "law" = some (.ref fa))
    {f_lowest f_mean f_steps f_lift f_ring_behind f_some_ring f_slower f_pace f_refuse_meeting f_reached f_refuse_counts f_refuse_ways f_refuse_apart f_Web_init f_Web_into f_Web_delay f_Web_ahead f_Web_turns f_Web_turned f_Web_refuse_times f_law_cell_at f_law_whole f_law_mixed f_law_delay_by f_law_ways f_law_pace f_law : Addr} {od_lowest an_lowest od_mean an_mean od_steps an_steps od_lift an_lift od_ring_behind an_ring_behind od_some_ring an_some_ring od_slower an_slower od_pace an_pace od_refuse_meeting an_refuse_meeting od_reached an_reached od_refuse_counts an_refuse_counts od_refuse_ways an_refuse_ways od_refuse_apart an_refuse_apart od_Web_init an_Web_init od_Web_into an_Web_into od_Web_delay an_Web_delay od_Web_ahead an_Web_ahead od_Web_turns an_Web_turns od_Web_turned an_Web_turned od_Web_refuse_times an_Web_refuse_times od_law_cell_at an_law_cell_at od_law_whole an_law_whole od_law_mixed an_law_mixed od_law_delay_by an_law_delay_by od_law_ways an_law_ways od_law_pace an_law_pace od_law an_law : Option Addr} {sl_lowest sl_mean sl_steps sl_lift sl_ring_behind sl_some_ring sl_slower sl_pace sl_refuse_meeting sl_reached sl_refuse_counts sl_refuse_ways sl_refuse_apart sl_Web_init sl_Web_into sl_Web_delay sl_Web_ahead sl_Web_turns sl_Web_turned sl_Web_refuse_times sl_law_cell_at sl_law_whole sl_law_mixed sl_law_delay_by sl_law_ways sl_law_pace sl_law : Array (Option Value)} {oc_lowest kV_lowest dc_lowest pm_lowest cd_lowest ct_lowest oc_mean kV_mean dc_mean pm_mean cd_mean ct_mean oc_steps kV_steps dc_steps pm_steps cd_steps ct_steps oc_lift kV_lift dc_lift pm_lift cd_lift ct_lift oc_ring_behind kV_ring_behind dc_ring_behind pm_ring_behind cd_ring_behind ct_ring_behind oc_some_ring kV_some_ring dc_some_ring pm_some_ring cd_some_ring ct_some_ring oc_slower kV_slower dc_slower pm_slower cd_slower ct_slower oc_pace kV_pace dc_pace pm_pace cd_pace ct_pace oc_refuse_meeting kV_refuse_meeting dc_refuse_meeting pm_refuse_meeting cd_refuse_meeting ct_refuse_meeting oc_reached kV_reached dc_reached pm_reached cd_reached ct_reached oc_refuse_counts kV_refuse_counts dc_refuse_counts pm_refuse_counts cd_refuse_counts ct_refuse_counts oc_refuse_ways kV_refuse_ways dc_refuse_ways pm_refuse_ways cd_refuse_ways ct_refuse_ways oc_refuse_apart kV_refuse_apart dc_refuse_apart pm_refuse_apart cd_refuse_apart ct_refuse_apart oc_Web_init kV_Web_init dc_Web_init pm_Web_init cd_Web_init ct_Web_init oc_Web_into kV_Web_into dc_Web_into pm_Web_into cd_Web_into ct_Web_into oc_Web_delay kV_Web_delay dc_Web_delay pm_Web_delay cd_Web_delay ct_Web_delay oc_Web_ahead kV_Web_ahead dc_Web_ahead pm_Web_ahead cd_Web_ahead ct_Web_ahead oc_Web_turns kV_Web_turns dc_Web_turns pm_Web_turns cd_Web_turns ct_Web_turns oc_Web_turned kV_Web_turned dc_Web_turned pm_Web_turned cd_Web_turned ct_Web_turned oc_Web_refuse_times kV_Web_refuse_times dc_Web_refuse_times pm_Web_refuse_times cd_Web_refuse_times ct_Web_refuse_times oc_law_cell_at kV_law_cell_at dc_law_cell_at pm_law_cell_at cd_law_cell_at ct_law_cell_at oc_law_whole kV_law_whole dc_law_whole pm_law_whole cd_law_whole ct_law_whole oc_law_mixed kV_law_mixed dc_law_mixed pm_law_mixed cd_law_mixed ct_law_mixed oc_law_delay_by kV_law_delay_by dc_law_delay_by pm_law_delay_by cd_law_delay_by ct_law_delay_by oc_law_ways kV_law_ways dc_law_ways pm_law_ways ct_law_ways oc_law_pace kV_law_pace dc_law_pace pm_law_pace cd_law_pace ct_law_pace oc_law kV_law dc_law pm_law cd_law ct_law : Value} {tk_MOST_MEETINGS tk_MOST_WAYS tk_MOST_DELAY : Tok}
    (a_lowest : PySem.W.nsIn K mainGlobals "lowest" = some (some (.ref f_lowest)))
    (l_lowest : K.lookup f_lowest = some ⟨oc_lowest, od_lowest, .func (PySem.W.fnOf "lowest" "lowest" (defArgs sLowest) (defBody sLowest) (defScope sLowest) .none kV_lowest dc_lowest pm_lowest an_lowest cd_lowest ct_lowest), sl_lowest⟩)
    (c_lowest : PySem.W.codeIn K cd_lowest "lowest" = true)
    (k_lowest : PySem.W.keepIn K (.ref f_lowest) = true)
    (a_mean : PySem.W.nsIn K mainGlobals "mean" = some (some (.ref f_mean)))
    (l_mean : K.lookup f_mean = some ⟨oc_mean, od_mean, .func (PySem.W.fnOf "mean" "mean" (defArgs sMean) (defBody sMean) (defScope sMean) .none kV_mean dc_mean pm_mean an_mean cd_mean ct_mean), sl_mean⟩)
    (c_mean : PySem.W.codeIn K cd_mean "mean" = true)
    (k_mean : PySem.W.keepIn K (.ref f_mean) = true)
    (a_steps : PySem.W.nsIn K mainGlobals "_steps" = some (some (.ref f_steps)))
    (l_steps : K.lookup f_steps = some ⟨oc_steps, od_steps, .func (PySem.W.fnOf "_steps" "_steps" (defArgs sSteps) (defBody sSteps) (defScope sSteps) .none kV_steps dc_steps pm_steps an_steps cd_steps ct_steps), sl_steps⟩)
    (c_steps : PySem.W.codeIn K cd_steps "_steps" = true)
    (k_steps : PySem.W.keepIn K (.ref f_steps) = true)
    (a_lift : PySem.W.nsIn K mainGlobals "_lift" = some (some (.ref f_lift)))
    (l_lift : K.lookup f_lift = some ⟨oc_lift, od_lift, .func (PySem.W.fnOf "_lift" "_lift" (defArgs sLift) (defBody sLift) (defScope sLift) .none kV_lift dc_lift pm_lift an_lift cd_lift ct_lift), sl_lift⟩)
    (c_lift : PySem.W.codeIn K cd_lift "_lift" = true)
    (k_lift : PySem.W.keepIn K (.ref f_lift) = true)
    (a_ring_behind : PySem.W.nsIn K mainGlobals "_ring_behind" = some (some (.ref f_ring_behind)))
    (l_ring_behind : K.lookup f_ring_behind = some ⟨oc_ring_behind, od_ring_behind, .func (PySem.W.fnOf "_ring_behind" "_ring_behind" (defArgs sRingBehind) (defBody sRingBehind) (defScope sRingBehind) .none kV_ring_behind dc_ring_behind pm_ring_behind an_ring_behind cd_ring_behind ct_ring_behind), sl_ring_behind⟩)
    (c_ring_behind : PySem.W.codeIn K cd_ring_behind "_ring_behind" = true)
    (k_ring_behind : PySem.W.keepIn K (.ref f_ring_behind) = true)
    (a_some_ring : PySem.W.nsIn K mainGlobals "_some_ring" = some (some (.ref f_some_ring)))
    (l_some_ring : K.lookup f_some_ring = some ⟨oc_some_ring, od_some_ring, .func (PySem.W.fnOf "_some_ring" "_some_ring" (defArgs sSomeRing) (defBody sSomeRing) (defScope sSomeRing) .none kV_some_ring dc_some_ring pm_some_ring an_some_ring cd_some_ring ct_some_ring), sl_some_ring⟩)
    (c_some_ring : PySem.W.codeIn K cd_some_ring "_some_ring" = true)
    (k_some_ring : PySem.W.keepIn K (.ref f_some_ring) = true)
    (a_slower : PySem.W.nsIn K mainGlobals "slower" = some (some (.ref f_slower)))
    (l_slower : K.lookup f_slower = some ⟨oc_slower, od_slower, .func (PySem.W.fnOf "slower" "slower" (defArgs sSlower) (defBody sSlower) (defScope sSlower) .none kV_slower dc_slower pm_slower an_slower cd_slower ct_slower), sl_slower⟩)
    (c_slower : PySem.W.codeIn K cd_slower "slower" = true)
    (k_slower : PySem.W.keepIn K (.ref f_slower) = true)
    (a_pace : PySem.W.nsIn K mainGlobals "pace" = some (some (.ref f_pace)))
    (l_pace : K.lookup f_pace = some ⟨oc_pace, od_pace, .func (PySem.W.fnOf "pace" "pace" (defArgs sPace) (defBody sPace) (defScope sPace) .none kV_pace dc_pace pm_pace an_pace cd_pace ct_pace), sl_pace⟩)
    (c_pace : PySem.W.codeIn K cd_pace "pace" = true)
    (k_pace : PySem.W.keepIn K (.ref f_pace) = true)
    (a_refuse_meeting : PySem.W.nsIn K mainGlobals "_refuse_meeting" = some (some (.ref f_refuse_meeting)))
    (l_refuse_meeting : K.lookup f_refuse_meeting = some ⟨oc_refuse_meeting, od_refuse_meeting, .func (PySem.W.fnOf "_refuse_meeting" "_refuse_meeting" (defArgs sRefMeet) (defBody sRefMeet) (defScope sRefMeet) .none kV_refuse_meeting dc_refuse_meeting pm_refuse_meeting an_refuse_meeting cd_refuse_meeting ct_refuse_meeting), sl_refuse_meeting⟩)
    (c_refuse_meeting : PySem.W.codeIn K cd_refuse_meeting "_refuse_meeting" = true)
    (k_refuse_meeting : PySem.W.keepIn K (.ref f_refuse_meeting) = true)
    (a_reached : PySem.W.nsIn K mainGlobals "_reached" = some (some (.ref f_reached)))
    (l_reached : K.lookup f_reached = some ⟨oc_reached, od_reached, .func (PySem.W.fnOf "_reached" "_reached" (defArgs sReached) (defBody sReached) (defScope sReached) .none kV_reached dc_reached pm_reached an_reached cd_reached ct_reached), sl_reached⟩)
    (c_reached : PySem.W.codeIn K cd_reached "_reached" = true)
    (k_reached : PySem.W.keepIn K (.ref f_reached) = true)
    (a_refuse_counts : PySem.W.nsIn K mainGlobals "_refuse_counts" = some (some (.ref f_refuse_counts)))
    (l_refuse_counts : K.lookup f_refuse_counts = some ⟨oc_refuse_counts, od_refuse_counts, .func (PySem.W.fnOf "_refuse_counts" "_refuse_counts" (defArgs sRefCnt) (defBody sRefCnt) (defScope sRefCnt) .none kV_refuse_counts dc_refuse_counts pm_refuse_counts an_refuse_counts cd_refuse_counts ct_refuse_counts), sl_refuse_counts⟩)
    (c_refuse_counts : PySem.W.codeIn K cd_refuse_counts "_refuse_counts" = true)
    (k_refuse_counts : PySem.W.keepIn K (.ref f_refuse_counts) = true)
    (a_refuse_ways : PySem.W.nsIn K mainGlobals "_refuse_ways" = some (some (.ref f_refuse_ways)))
    (l_refuse_ways : K.lookup f_refuse_ways = some ⟨oc_refuse_ways, od_refuse_ways, .func (PySem.W.fnOf "_refuse_ways" "_refuse_ways" (defArgs sRefWays) (defBody sRefWays) (defScope sRefWays) .none kV_refuse_ways dc_refuse_ways pm_refuse_ways an_refuse_ways cd_refuse_ways ct_refuse_ways), sl_refuse_ways⟩)
    (c_refuse_ways : PySem.W.codeIn K cd_refuse_ways "_refuse_ways" = true)
    (k_refuse_ways : PySem.W.keepIn K (.ref f_refuse_ways) = true)
    (a_refuse_apart : PySem.W.nsIn K mainGlobals "_refuse_apart" = some (some (.ref f_refuse_apart)))
    (l_refuse_apart : K.lookup f_refuse_apart = some ⟨oc_refuse_apart, od_refuse_apart, .func (PySem.W.fnOf "_refuse_apart" "_refuse_apart" (defArgs sRefApart) (defBody sRefApart) (defScope sRefApart) .none kV_refuse_apart dc_refuse_apart pm_refuse_apart an_refuse_apart cd_refuse_apart ct_refuse_apart), sl_refuse_apart⟩)
    (c_refuse_apart : PySem.W.codeIn K cd_refuse_apart "_refuse_apart" = true)
    (k_refuse_apart : PySem.W.keepIn K (.ref f_refuse_apart) = true)
    (a_Web_init : PySem.W.findIn K (.ref C) "__init__" = some (some (.ref f_Web_init)))
    (i_Web_init : PySem.W.isFn K (.ref f_Web_init) = true)
    (l_Web_init : K.lookup f_Web_init = some ⟨oc_Web_init, od_Web_init, .func (PySem.W.fnOf "__init__" "Web.__init__" (defArgs sInit) (defBody sInit) (defScope sInit) .none kV_Web_init dc_Web_init pm_Web_init an_Web_init cd_Web_init ct_Web_init), sl_Web_init⟩)
    (c_Web_init : PySem.W.codeIn K cd_Web_init "Web.__init__" = true)
    (k_Web_init : PySem.W.keepIn K (.ref f_Web_init) = true)
    (a_Web_into : PySem.W.findIn K (.ref C) "into" = some (some (.ref f_Web_into)))
    (i_Web_into : PySem.W.isFn K (.ref f_Web_into) = true)
    (l_Web_into : K.lookup f_Web_into = some ⟨oc_Web_into, od_Web_into, .func (PySem.W.fnOf "into" "Web.into" (defArgs sInto) (defBody sInto) (defScope sInto) .none kV_Web_into dc_Web_into pm_Web_into an_Web_into cd_Web_into ct_Web_into), sl_Web_into⟩)
    (c_Web_into : PySem.W.codeIn K cd_Web_into "Web.into" = true)
    (k_Web_into : PySem.W.keepIn K (.ref f_Web_into) = true)
    (a_Web_delay : PySem.W.findIn K (.ref C) "delay" = some (some (.ref f_Web_delay)))
    (i_Web_delay : PySem.W.isFn K (.ref f_Web_delay) = true)
    (l_Web_delay : K.lookup f_Web_delay = some ⟨oc_Web_delay, od_Web_delay, .func (PySem.W.fnOf "delay" "Web.delay" (defArgs sDelayM) (defBody sDelayM) (defScope sDelayM) .none kV_Web_delay dc_Web_delay pm_Web_delay an_Web_delay cd_Web_delay ct_Web_delay), sl_Web_delay⟩)
    (c_Web_delay : PySem.W.codeIn K cd_Web_delay "Web.delay" = true)
    (k_Web_delay : PySem.W.keepIn K (.ref f_Web_delay) = true)
    (a_Web_ahead : PySem.W.findIn K (.ref C) "ahead" = some (some (.ref f_Web_ahead)))
    (i_Web_ahead : PySem.W.isFn K (.ref f_Web_ahead) = true)
    (l_Web_ahead : K.lookup f_Web_ahead = some ⟨oc_Web_ahead, od_Web_ahead, .func (PySem.W.fnOf "ahead" "Web.ahead" (defArgs sAhead) (defBody sAhead) (defScope sAhead) .none kV_Web_ahead dc_Web_ahead pm_Web_ahead an_Web_ahead cd_Web_ahead ct_Web_ahead), sl_Web_ahead⟩)
    (c_Web_ahead : PySem.W.codeIn K cd_Web_ahead "Web.ahead" = true)
    (k_Web_ahead : PySem.W.keepIn K (.ref f_Web_ahead) = true)
    (a_Web_turns : PySem.W.findIn K (.ref C) "turns" = some (some (.ref f_Web_turns)))
    (i_Web_turns : PySem.W.isFn K (.ref f_Web_turns) = true)
    (l_Web_turns : K.lookup f_Web_turns = some ⟨oc_Web_turns, od_Web_turns, .func (PySem.W.fnOf "turns" "Web.turns" (defArgs sTurns) (defBody sTurns) (defScope sTurns) .none kV_Web_turns dc_Web_turns pm_Web_turns an_Web_turns cd_Web_turns ct_Web_turns), sl_Web_turns⟩)
    (c_Web_turns : PySem.W.codeIn K cd_Web_turns "Web.turns" = true)
    (k_Web_turns : PySem.W.keepIn K (.ref f_Web_turns) = true)
    (a_Web_turned : PySem.W.findIn K (.ref C) "turned" = some (some (.ref f_Web_turned)))
    (i_Web_turned : PySem.W.isFn K (.ref f_Web_turned) = true)
    (l_Web_turned : K.lookup f_Web_turned = some ⟨oc_Web_turned, od_Web_turned, .func (PySem.W.fnOf "turned" "Web.turned" (defArgs sTurned) (defBody sTurned) (defScope sTurned) .none kV_Web_turned dc_Web_turned pm_Web_turned an_Web_turned cd_Web_turned ct_Web_turned), sl_Web_turned⟩)
    (c_Web_turned : PySem.W.codeIn K cd_Web_turned "Web.turned" = true)
    (k_Web_turned : PySem.W.keepIn K (.ref f_Web_turned) = true)
    (a_Web_refuse_times : PySem.W.findIn K (.ref C) "_refuse_times" = some (some (.ref f_Web_refuse_times)))
    (i_Web_refuse_times : PySem.W.isFn K (.ref f_Web_refuse_times) = true)
    (l_Web_refuse_times : K.lookup f_Web_refuse_times = some ⟨oc_Web_refuse_times, od_Web_refuse_times, .func (PySem.W.fnOf "_refuse_times" "Web._refuse_times" (defArgs sRefTimes) (defBody sRefTimes) (defScope sRefTimes) .none kV_Web_refuse_times dc_Web_refuse_times pm_Web_refuse_times an_Web_refuse_times cd_Web_refuse_times ct_Web_refuse_times), sl_Web_refuse_times⟩)
    (c_Web_refuse_times : PySem.W.codeIn K cd_Web_refuse_times "Web._refuse_times" = true)
    (k_Web_refuse_times : PySem.W.keepIn K (.ref f_Web_refuse_times) = true)
    (a_law_cell_at : PySem.W.nsIn K mainGlobals "_law_cell_at" = some (some (.ref f_law_cell_at)))
    (l_law_cell_at : K.lookup f_law_cell_at = some ⟨oc_law_cell_at, od_law_cell_at, .func (PySem.W.fnOf "_law_cell_at" "_law_cell_at" (defArgs sCell) (defBody sCell) (defScope sCell) .none kV_law_cell_at dc_law_cell_at pm_law_cell_at an_law_cell_at cd_law_cell_at ct_law_cell_at), sl_law_cell_at⟩)
    (c_law_cell_at : PySem.W.codeIn K cd_law_cell_at "_law_cell_at" = true)
    (k_law_cell_at : PySem.W.keepIn K (.ref f_law_cell_at) = true)
    (a_law_whole : PySem.W.nsIn K mainGlobals "_law_whole" = some (some (.ref f_law_whole)))
    (l_law_whole : K.lookup f_law_whole = some ⟨oc_law_whole, od_law_whole, .func (PySem.W.fnOf "_law_whole" "_law_whole" (defArgs sLawWhole) (defBody sLawWhole) (defScope sLawWhole) .none kV_law_whole dc_law_whole pm_law_whole an_law_whole cd_law_whole ct_law_whole), sl_law_whole⟩)
    (c_law_whole : PySem.W.codeIn K cd_law_whole "_law_whole" = true)
    (k_law_whole : PySem.W.keepIn K (.ref f_law_whole) = true)
    (a_law_mixed : PySem.W.nsIn K mainGlobals "_law_mixed" = some (some (.ref f_law_mixed)))
    (l_law_mixed : K.lookup f_law_mixed = some ⟨oc_law_mixed, od_law_mixed, .func (PySem.W.fnOf "_law_mixed" "_law_mixed" (defArgs sMixed) (defBody sMixed) (defScope sMixed) .none kV_law_mixed dc_law_mixed pm_law_mixed an_law_mixed cd_law_mixed ct_law_mixed), sl_law_mixed⟩)
    (c_law_mixed : PySem.W.codeIn K cd_law_mixed "_law_mixed" = true)
    (k_law_mixed : PySem.W.keepIn K (.ref f_law_mixed) = true)
    (a_law_delay_by : PySem.W.nsIn K mainGlobals "_law_delay_by" = some (some (.ref f_law_delay_by)))
    (l_law_delay_by : K.lookup f_law_delay_by = some ⟨oc_law_delay_by, od_law_delay_by, .func (PySem.W.fnOf "_law_delay_by" "_law_delay_by" (defArgs sDelay) (defBody sDelay) (defScope sDelay) .none kV_law_delay_by dc_law_delay_by pm_law_delay_by an_law_delay_by cd_law_delay_by ct_law_delay_by), sl_law_delay_by⟩)
    (c_law_delay_by : PySem.W.codeIn K cd_law_delay_by "_law_delay_by" = true)
    (k_law_delay_by : PySem.W.keepIn K (.ref f_law_delay_by) = true)
    (a_law_ways : PySem.W.nsIn K mainGlobals "_law_ways" = some (some (.ref f_law_ways)))
    (l_law_ways : K.lookup f_law_ways = some ⟨oc_law_ways, od_law_ways, .func (PySem.W.fnOf "_law_ways" "_law_ways" (defArgs sWays) (defBody sWays) (defScope sWays) .none kV_law_ways dc_law_ways pm_law_ways an_law_ways (.ref cW) ct_law_ways), sl_law_ways⟩)
    (c_law_ways : PySem.W.codeIn K (.ref cW) "_law_ways" = true)
    (k_law_ways : PySem.W.keepIn K (.ref f_law_ways) = true)
    (a_law_pace : PySem.W.nsIn K mainGlobals "_law_pace" = some (some (.ref f_law_pace)))
    (l_law_pace : K.lookup f_law_pace = some ⟨oc_law_pace, od_law_pace, .func (PySem.W.fnOf "_law_pace" "_law_pace" (defArgs sLawPace) (defBody sLawPace) (defScope sLawPace) .none kV_law_pace dc_law_pace pm_law_pace an_law_pace cd_law_pace ct_law_pace), sl_law_pace⟩)
    (c_law_pace : PySem.W.codeIn K cd_law_pace "_law_pace" = true)
    (k_law_pace : PySem.W.keepIn K (.ref f_law_pace) = true)
    (a_law : PySem.W.nsIn K mainGlobals "law" = some (some (.ref f_law)))
    (l_law : K.lookup f_law = some ⟨oc_law, od_law, .func (PySem.W.fnOf "law" "law" (defArgs sLaw) (defBody sLaw) (defScope sLaw) .none kV_law dc_law pm_law an_law cd_law ct_law), sl_law⟩)
    (c_law : PySem.W.codeIn K cd_law "law" = true)
    (k_law : PySem.W.keepIn K (.ref f_law) = true)
    (a_PaceError : PySem.W.nsIn K mainGlobals "PaceError" = some (some (.ref C_PaceError)))
    (a_BadCount : PySem.W.nsIn K mainGlobals "BadCount" = some (some (.ref C_BadCount)))
    (a_NoMeeting : PySem.W.nsIn K mainGlobals "NoMeeting" = some (some (.ref C_NoMeeting)))
    (a_BadDelay : PySem.W.nsIn K mainGlobals "BadDelay" = some (some (.ref C_BadDelay)))
    (a_Apart : PySem.W.nsIn K mainGlobals "Apart" = some (some (.ref C_Apart)))
    (a_NoRing : PySem.W.nsIn K mainGlobals "NoRing" = some (some (.ref C_NoRing)))
    (a_BadPace : PySem.W.nsIn K mainGlobals "BadPace" = some (some (.ref C_BadPace)))
    (q_BadCount : PySem.W.excIn K C_BadCount bmV "ValueError.__new__" = true)
    (kp_BadCount : PySem.W.keepIn K (.ref C_BadCount) = true)
    (b_BadCount : PySem.W.subIn K (.ref C_BadCount) (.type "BaseException") = some true)
    (t_BadCount : PySem.W.typeIn K (.ref C_BadCount) = some (.type "type"))
    (eg_BadCount : PySem.W.findIn K (.ref C_BadCount) "__getattribute__" = some (some (.builtin "BaseException.__getattribute__")))
    (ek_BadCount : PySem.W.findIn K (.ref C_BadCount) "__getattr__" = some none)
    (ed_BadCount : PySem.W.hasDictIn K C_BadCount = true)
    (ea_BadCount : PySem.W.findIn K (.ref C_BadCount) "__class__" = some (some (.builtin "object.__class__")))
    (em_BadCount : PySem.W.mroIn K C_BadCount (.type "object") = some true)
    (v_BadCount : PySem.W.kitOne K (.ref C_BadCount) (.type "ValueError") = some true)
    (x_BadCount_BadCount : PySem.W.kitOne K (.ref C_BadCount) (.ref C_BadCount) = some true)
    (x_BadCount_NoMeeting : PySem.W.kitOne K (.ref C_BadCount) (.ref C_NoMeeting) = some false)
    (x_BadCount_BadDelay : PySem.W.kitOne K (.ref C_BadCount) (.ref C_BadDelay) = some false)
    (x_BadCount_Apart : PySem.W.kitOne K (.ref C_BadCount) (.ref C_Apart) = some false)
    (x_BadCount_NoRing : PySem.W.kitOne K (.ref C_BadCount) (.ref C_NoRing) = some false)
    (x_BadCount_BadPace : PySem.W.kitOne K (.ref C_BadCount) (.ref C_BadPace) = some false)
    (p_BadCount : PySem.W.subIn K (.ref C_BadCount) (.ref C_PaceError) = some true)
    (q_NoMeeting : PySem.W.excIn K C_NoMeeting bmV "ValueError.__new__" = true)
    (kp_NoMeeting : PySem.W.keepIn K (.ref C_NoMeeting) = true)
    (b_NoMeeting : PySem.W.subIn K (.ref C_NoMeeting) (.type "BaseException") = some true)
    (t_NoMeeting : PySem.W.typeIn K (.ref C_NoMeeting) = some (.type "type"))
    (eg_NoMeeting : PySem.W.findIn K (.ref C_NoMeeting) "__getattribute__" = some (some (.builtin "BaseException.__getattribute__")))
    (ek_NoMeeting : PySem.W.findIn K (.ref C_NoMeeting) "__getattr__" = some none)
    (ed_NoMeeting : PySem.W.hasDictIn K C_NoMeeting = true)
    (ea_NoMeeting : PySem.W.findIn K (.ref C_NoMeeting) "__class__" = some (some (.builtin "object.__class__")))
    (em_NoMeeting : PySem.W.mroIn K C_NoMeeting (.type "object") = some true)
    (v_NoMeeting : PySem.W.kitOne K (.ref C_NoMeeting) (.type "ValueError") = some true)
    (x_NoMeeting_BadCount : PySem.W.kitOne K (.ref C_NoMeeting) (.ref C_BadCount) = some false)
    (x_NoMeeting_NoMeeting : PySem.W.kitOne K (.ref C_NoMeeting) (.ref C_NoMeeting) = some true)
    (x_NoMeeting_BadDelay : PySem.W.kitOne K (.ref C_NoMeeting) (.ref C_BadDelay) = some false)
    (x_NoMeeting_Apart : PySem.W.kitOne K (.ref C_NoMeeting) (.ref C_Apart) = some false)
    (x_NoMeeting_NoRing : PySem.W.kitOne K (.ref C_NoMeeting) (.ref C_NoRing) = some false)
    (x_NoMeeting_BadPace : PySem.W.kitOne K (.ref C_NoMeeting) (.ref C_BadPace) = some false)
    (p_NoMeeting : PySem.W.subIn K (.ref C_NoMeeting) (.ref C_PaceError) = some true)
    (q_BadDelay : PySem.W.excIn K C_BadDelay bmV "ValueError.__new__" = true)
    (kp_BadDelay : PySem.W.keepIn K (.ref C_BadDelay) = true)
    (b_BadDelay : PySem.W.subIn K (.ref C_BadDelay) (.type "BaseException") = some true)
    (t_BadDelay : PySem.W.typeIn K (.ref C_BadDelay) = some (.type "type"))
    (eg_BadDelay : PySem.W.findIn K (.ref C_BadDelay) "__getattribute__" = some (some (.builtin "BaseException.__getattribute__")))
    (ek_BadDelay : PySem.W.findIn K (.ref C_BadDelay) "__getattr__" = some none)
    (ed_BadDelay : PySem.W.hasDictIn K C_BadDelay = true)
    (ea_BadDelay : PySem.W.findIn K (.ref C_BadDelay) "__class__" = some (some (.builtin "object.__class__")))
    (em_BadDelay : PySem.W.mroIn K C_BadDelay (.type "object") = some true)
    (v_BadDelay : PySem.W.kitOne K (.ref C_BadDelay) (.type "ValueError") = some true)
    (x_BadDelay_BadCount : PySem.W.kitOne K (.ref C_BadDelay) (.ref C_BadCount) = some false)
    (x_BadDelay_NoMeeting : PySem.W.kitOne K (.ref C_BadDelay) (.ref C_NoMeeting) = some false)
    (x_BadDelay_BadDelay : PySem.W.kitOne K (.ref C_BadDelay) (.ref C_BadDelay) = some true)
    (x_BadDelay_Apart : PySem.W.kitOne K (.ref C_BadDelay) (.ref C_Apart) = some false)
    (x_BadDelay_NoRing : PySem.W.kitOne K (.ref C_BadDelay) (.ref C_NoRing) = some false)
    (x_BadDelay_BadPace : PySem.W.kitOne K (.ref C_BadDelay) (.ref C_BadPace) = some false)
    (p_BadDelay : PySem.W.subIn K (.ref C_BadDelay) (.ref C_PaceError) = some true)
    (q_Apart : PySem.W.excIn K C_Apart bmV "ValueError.__new__" = true)
    (kp_Apart : PySem.W.keepIn K (.ref C_Apart) = true)
    (b_Apart : PySem.W.subIn K (.ref C_Apart) (.type "BaseException") = some true)
    (t_Apart : PySem.W.typeIn K (.ref C_Apart) = some (.type "type"))
    (eg_Apart : PySem.W.findIn K (.ref C_Apart) "__getattribute__" = some (some (.builtin "BaseException.__getattribute__")))
    (ek_Apart : PySem.W.findIn K (.ref C_Apart) "__getattr__" = some none)
    (ed_Apart : PySem.W.hasDictIn K C_Apart = true)
    (ea_Apart : PySem.W.findIn K (.ref C_Apart) "__class__" = some (some (.builtin "object.__class__")))
    (em_Apart : PySem.W.mroIn K C_Apart (.type "object") = some true)
    (v_Apart : PySem.W.kitOne K (.ref C_Apart) (.type "ValueError") = some true)
    (x_Apart_BadCount : PySem.W.kitOne K (.ref C_Apart) (.ref C_BadCount) = some false)
    (x_Apart_NoMeeting : PySem.W.kitOne K (.ref C_Apart) (.ref C_NoMeeting) = some false)
    (x_Apart_BadDelay : PySem.W.kitOne K (.ref C_Apart) (.ref C_BadDelay) = some false)
    (x_Apart_Apart : PySem.W.kitOne K (.ref C_Apart) (.ref C_Apart) = some true)
    (x_Apart_NoRing : PySem.W.kitOne K (.ref C_Apart) (.ref C_NoRing) = some false)
    (x_Apart_BadPace : PySem.W.kitOne K (.ref C_Apart) (.ref C_BadPace) = some false)
    (p_Apart : PySem.W.subIn K (.ref C_Apart) (.ref C_PaceError) = some true)
    (q_NoRing : PySem.W.excIn K C_NoRing bmV "ValueError.__new__" = true)
    (kp_NoRing : PySem.W.keepIn K (.ref C_NoRing) = true)
    (b_NoRing : PySem.W.subIn K (.ref C_NoRing) (.type "BaseException") = some true)
    (t_NoRing : PySem.W.typeIn K (.ref C_NoRing) = some (.type "type"))
    (eg_NoRing : PySem.W.findIn K (.ref C_NoRing) "__getattribute__" = some (some (.builtin "BaseException.__getattribute__")))
    (ek_NoRing : PySem.W.findIn K (.ref C_NoRing) "__getattr__" = some none)
    (ed_NoRing : PySem.W.hasDictIn K C_NoRing = true)
    (ea_NoRing : PySem.W.findIn K (.ref C_NoRing) "__class__" = some (some (.builtin "object.__class__")))
    (em_NoRing : PySem.W.mroIn K C_NoRing (.type "object") = some true)
    (v_NoRing : PySem.W.kitOne K (.ref C_NoRing) (.type "ValueError") = some true)
    (x_NoRing_BadCount : PySem.W.kitOne K (.ref C_NoRing) (.ref C_BadCount) = some false)
    (x_NoRing_NoMeeting : PySem.W.kitOne K (.ref C_NoRing) (.ref C_NoMeeting) = some false)
    (x_NoRing_BadDelay : PySem.W.kitOne K (.ref C_NoRing) (.ref C_BadDelay) = some false)
    (x_NoRing_Apart : PySem.W.kitOne K (.ref C_NoRing) (.ref C_Apart) = some false)
    (x_NoRing_NoRing : PySem.W.kitOne K (.ref C_NoRing) (.ref C_NoRing) = some true)
    (x_NoRing_BadPace : PySem.W.kitOne K (.ref C_NoRing) (.ref C_BadPace) = some false)
    (p_NoRing : PySem.W.subIn K (.ref C_NoRing) (.ref C_PaceError) = some true)
    (q_BadPace : PySem.W.excIn K C_BadPace bmV "ValueError.__new__" = true)
    (kp_BadPace : PySem.W.keepIn K (.ref C_BadPace) = true)
    (b_BadPace : PySem.W.subIn K (.ref C_BadPace) (.type "BaseException") = some true)
    (t_BadPace : PySem.W.typeIn K (.ref C_BadPace) = some (.type "type"))
    (eg_BadPace : PySem.W.findIn K (.ref C_BadPace) "__getattribute__" = some (some (.builtin "BaseException.__getattribute__")))
    (ek_BadPace : PySem.W.findIn K (.ref C_BadPace) "__getattr__" = some none)
    (ed_BadPace : PySem.W.hasDictIn K C_BadPace = true)
    (ea_BadPace : PySem.W.findIn K (.ref C_BadPace) "__class__" = some (some (.builtin "object.__class__")))
    (em_BadPace : PySem.W.mroIn K C_BadPace (.type "object") = some true)
    (v_BadPace : PySem.W.kitOne K (.ref C_BadPace) (.type "ValueError") = some true)
    (x_BadPace_BadCount : PySem.W.kitOne K (.ref C_BadPace) (.ref C_BadCount) = some false)
    (x_BadPace_NoMeeting : PySem.W.kitOne K (.ref C_BadPace) (.ref C_NoMeeting) = some false)
    (x_BadPace_BadDelay : PySem.W.kitOne K (.ref C_BadPace) (.ref C_BadDelay) = some false)
    (x_BadPace_Apart : PySem.W.kitOne K (.ref C_BadPace) (.ref C_Apart) = some false)
    (x_BadPace_NoRing : PySem.W.kitOne K (.ref C_BadPace) (.ref C_NoRing) = some false)
    (x_BadPace_BadPace : PySem.W.kitOne K (.ref C_BadPace) (.ref C_BadPace) = some true)
    (p_BadPace : PySem.W.subIn K (.ref C_BadPace) (.ref C_PaceError) = some true)
    (b_CP0 : PySem.W.subIn K (.ref C_PaceError) (.type "BaseException") = some true)
    (d_CP0 : PySem.W.hasDictIn K C_PaceError = true)
    (t_CP0 : PySem.W.typeIn K (.ref C_PaceError) = some (.type "type"))
    (en : PySem.W.specialIn K (.builtin "object.__class__") "__get__" = some (some (.builtin "getset_descriptor.__get__")))
    (et : PySem.W.takesIn K (.builtin "object.__class__") = some true)
    (aC : PySem.W.nsIn K mainGlobals "Web" = some (some (.ref C)))
    (pg : PySem.W.plainGet K C Str.empty = true)
    (hd : PySem.W.hasDictIn K C = true)
    (po : PySem.W.plainOver K C = true)
    (sa : PySem.W.findIn K (.ref C) "__setattr__" = some (some (.builtin "object.__setattr__")))
    (mk : PySem.W.makesIn K C = true)
    (kc : PySem.W.keepIn K (.ref C) = true)
    (nM : PySem.W.findIn K (.ref C) "many" = some none)
    (nW : PySem.W.findIn K (.ref C) "ways" = some none)
    (nU : PySem.W.findIn K (.ref C) "_ways" = some none)
    (z_ValueError : PySem.W.nsIn K mainGlobals "ValueError" = some none)
    (z_bool : PySem.W.nsIn K mainGlobals "bool" = some none)
    (z_int : PySem.W.nsIn K mainGlobals "int" = some none)
    (z_isinstance : PySem.W.nsIn K mainGlobals "isinstance" = some none)
    (z_len : PySem.W.nsIn K mainGlobals "len" = some none)
    (z_list : PySem.W.nsIn K mainGlobals "list" = some none)
    (z_max : PySem.W.nsIn K mainGlobals "max" = some none)
    (z_min : PySem.W.nsIn K mainGlobals "min" = some none)
    (z_range : PySem.W.nsIn K mainGlobals "range" = some none)
    (z_set : PySem.W.nsIn K mainGlobals "set" = some none)
    (z_sorted : PySem.W.nsIn K mainGlobals "sorted" = some none)
    (z_sum : PySem.W.nsIn K mainGlobals "sum" = some none)
    (z_tuple : PySem.W.nsIn K mainGlobals "tuple" = some none)
    (z_zip : PySem.W.nsIn K mainGlobals "zip" = some none)
    (gi_MOST_MEETINGS : PySem.W.nsIn K mainGlobals "MOST_MEETINGS" = some (some (.int 12 tk_MOST_MEETINGS)))
    (gi_MOST_WAYS : PySem.W.nsIn K mainGlobals "MOST_WAYS" = some (some (.int 60 tk_MOST_WAYS)))
    (gi_MOST_DELAY : PySem.W.nsIn K mainGlobals "MOST_DELAY" = some (some (.int 9999 tk_MOST_DELAY)))
    (gl_gcd : PySem.W.nsIn K mainGlobals "gcd" = some (some (.builtin "math.gcd")))
    (ne_BadCount_NoMeeting : C_BadCount ≠ C_NoMeeting)
    (ne_BadCount_BadDelay : C_BadCount ≠ C_BadDelay)
    (ne_BadCount_Apart : C_BadCount ≠ C_Apart)
    (ne_BadCount_NoRing : C_BadCount ≠ C_NoRing)
    (ne_BadCount_BadPace : C_BadCount ≠ C_BadPace)
    (ne_NoMeeting_BadDelay : C_NoMeeting ≠ C_BadDelay)
    (ne_NoMeeting_Apart : C_NoMeeting ≠ C_Apart)
    (ne_NoMeeting_NoRing : C_NoMeeting ≠ C_NoRing)
    (ne_NoMeeting_BadPace : C_NoMeeting ≠ C_BadPace)
    (ne_BadDelay_Apart : C_BadDelay ≠ C_Apart)
    (ne_BadDelay_NoRing : C_BadDelay ≠ C_NoRing)
    (ne_BadDelay_BadPace : C_BadDelay ≠ C_BadPace)
    (ne_Apart_NoRing : C_Apart ≠ C_NoRing)
    (ne_Apart_BadPace : C_Apart ≠ C_BadPace)
    (ne_NoRing_BadPace : C_NoRing ≠ C_BadPace)
    (hK : K.lookup TP = none)
    (hcd : PySem.W.codeHdIn K cW TP = true)
    (hT : h.get? TP = some { cls := .none, data := .fields #[] }) : LawAtS l w K CX0 7 63 "_law_script" mg fa h := by
  have e := hfa.symm.trans (PySem.W.mg_of X G a_law)
  cases e
  have F_lowest := fun_mk (st := sLowest) l_lowest c_lowest k_lowest
  have B_lowest := F_lowest.binds (ps := ["number", "divisor"]) fun _ _ _ _ _ _ us hl => match us, hl with | [_, _], _ => rfl
  have G_lowest := PySem.W.mg_of X G a_lowest
  have F_mean := fun_mk (st := sMean) l_mean c_mean k_mean
  have B_mean := F_mean.binds (ps := ["web", "ring"]) fun _ _ _ _ _ _ us hl => match us, hl with | [_, _], _ => rfl
  have G_mean := PySem.W.mg_of X G a_mean
  have F_steps := fun_mk (st := sSteps) l_steps c_steps k_steps
  have B_steps := F_steps.binds (ps := ["web", "number", "divisor"]) fun _ _ _ _ _ _ us hl => match us, hl with | [_, _, _], _ => rfl
  have G_steps := PySem.W.mg_of X G a_steps
  have F_lift := fun_mk (st := sLift) l_lift c_lift k_lift
  have B_lift := F_lift.binds (ps := ["steps", "heights", "before"]) fun _ _ _ _ _ _ us hl => match us, hl with | [_, _, _], _ => rfl
  have G_lift := PySem.W.mg_of X G a_lift
  have F_ring_behind := fun_mk (st := sRingBehind) l_ring_behind c_ring_behind k_ring_behind
  have B_ring_behind := F_ring_behind.binds (ps := ["before", "meeting"]) fun _ _ _ _ _ _ us hl => match us, hl with | [_, _], _ => rfl
  have G_ring_behind := PySem.W.mg_of X G a_ring_behind
  have F_some_ring := fun_mk (st := sSomeRing) l_some_ring c_some_ring k_some_ring
  have B_some_ring := F_some_ring.binds (ps := ["web"]) fun _ _ _ _ _ _ us hl => match us, hl with | [_], _ => rfl
  have G_some_ring := PySem.W.mg_of X G a_some_ring
  have F_slower := fun_mk (st := sSlower) l_slower c_slower k_slower
  have B_slower := F_slower.binds (ps := ["web", "number", "divisor"]) fun _ _ _ _ _ _ us hl => match us, hl with | [_, _, _], _ => rfl
  have G_slower := PySem.W.mg_of X G a_slower
  have F_pace := fun_mk (st := sPace) l_pace c_pace k_pace
  have B_pace := F_pace.binds (ps := ["web"]) fun _ _ _ _ _ _ us hl => match us, hl with | [_], _ => rfl
  have G_pace := PySem.W.mg_of X G a_pace
  have F_refuse_meeting := fun_mk (st := sRefMeet) l_refuse_meeting c_refuse_meeting k_refuse_meeting
  have B_refuse_meeting := F_refuse_meeting.binds (ps := ["many", "meeting"]) fun _ _ _ _ _ _ us hl => match us, hl with | [_, _], _ => rfl
  have G_refuse_meeting := PySem.W.mg_of X G a_refuse_meeting
  have F_reached := fun_mk (st := sReached) l_reached c_reached k_reached
  have B_reached := F_reached.binds (ps := ["ways", "start"]) fun _ _ _ _ _ _ us hl => match us, hl with | [_, _], _ => rfl
  have G_reached := PySem.W.mg_of X G a_reached
  have F_refuse_counts := fun_mk (st := sRefCnt) l_refuse_counts c_refuse_counts k_refuse_counts
  have B_refuse_counts := F_refuse_counts.binds (ps := ["many", "ways"]) fun _ _ _ _ _ _ us hl => match us, hl with | [_, _], _ => rfl
  have G_refuse_counts := PySem.W.mg_of X G a_refuse_counts
  have F_refuse_ways := fun_mk (st := sRefWays) l_refuse_ways c_refuse_ways k_refuse_ways
  have B_refuse_ways := F_refuse_ways.binds (ps := ["many", "ways"]) fun _ _ _ _ _ _ us hl => match us, hl with | [_, _], _ => rfl
  have G_refuse_ways := PySem.W.mg_of X G a_refuse_ways
  have F_refuse_apart := fun_mk (st := sRefApart) l_refuse_apart c_refuse_apart k_refuse_apart
  have B_refuse_apart := F_refuse_apart.binds (ps := ["many", "ways"]) fun _ _ _ _ _ _ us hl => match us, hl with | [_, _], _ => rfl
  have G_refuse_apart := PySem.W.mg_of X G a_refuse_apart
  have F_Web_init := fun_mk (st := sInit) l_Web_init c_Web_init k_Web_init
  have B_Web_init := F_Web_init.binds (ps := ["self", "many", "ways"]) fun _ _ _ _ _ _ us hl => match us, hl with | [_, _, _], _ => rfl
  have F_Web_into := fun_mk (st := sInto) l_Web_into c_Web_into k_Web_into
  have B_Web_into := F_Web_into.binds (ps := ["self", "meeting"]) fun _ _ _ _ _ _ us hl => match us, hl with | [_, _], _ => rfl
  have M_Web_into : Meth K C "into" f_Web_into := ⟨a_Web_into, i_Web_into, k_Web_into⟩
  have F_Web_delay := fun_mk (st := sDelayM) l_Web_delay c_Web_delay k_Web_delay
  have B_Web_delay := F_Web_delay.binds (ps := ["self", "one", "other"]) fun _ _ _ _ _ _ us hl => match us, hl with | [_, _, _], _ => rfl
  have M_Web_delay : Meth K C "delay" f_Web_delay := ⟨a_Web_delay, i_Web_delay, k_Web_delay⟩
  have F_Web_ahead := fun_mk (st := sAhead) l_Web_ahead c_Web_ahead k_Web_ahead
  have B_Web_ahead := F_Web_ahead.binds (ps := ["self", "times"]) fun _ _ _ _ _ _ us hl => match us, hl with | [_, _], _ => rfl
  have M_Web_ahead : Meth K C "ahead" f_Web_ahead := ⟨a_Web_ahead, i_Web_ahead, k_Web_ahead⟩
  have F_Web_turns := fun_mk (st := sTurns) l_Web_turns c_Web_turns k_Web_turns
  have B_Web_turns := F_Web_turns.binds (ps := ["self", "times", "count"]) fun _ _ _ _ _ _ us hl => match us, hl with | [_, _, _], _ => rfl
  have M_Web_turns : Meth K C "turns" f_Web_turns := ⟨a_Web_turns, i_Web_turns, k_Web_turns⟩
  have F_Web_turned := fun_mk (st := sTurned) l_Web_turned c_Web_turned k_Web_turned
  have B_Web_turned := F_Web_turned.binds (ps := ["self"]) fun _ _ _ _ _ _ us hl => match us, hl with | [_], _ => rfl
  have M_Web_turned : Meth K C "turned" f_Web_turned := ⟨a_Web_turned, i_Web_turned, k_Web_turned⟩
  have F_Web_refuse_times := fun_mk (st := sRefTimes) l_Web_refuse_times c_Web_refuse_times k_Web_refuse_times
  have B_Web_refuse_times := F_Web_refuse_times.binds (ps := ["self", "times"]) fun _ _ _ _ _ _ us hl => match us, hl with | [_, _], _ => rfl
  have M_Web_refuse_times : Meth K C "_refuse_times" f_Web_refuse_times := ⟨a_Web_refuse_times, i_Web_refuse_times, k_Web_refuse_times⟩
  have F_law_cell_at := fun_mk (st := sCell) l_law_cell_at c_law_cell_at k_law_cell_at
  have B_law_cell_at := F_law_cell_at.binds (ps := ["_law_script", "_law_k"]) fun _ _ _ _ _ _ us hl => match us, hl with | [_, _], _ => rfl
  have G_law_cell_at := PySem.W.mg_of X G a_law_cell_at
  have F_law_whole := fun_mk (st := sLawWhole) l_law_whole c_law_whole k_law_whole
  have B_law_whole := F_law_whole.binds (ps := ["_law_found"]) fun _ _ _ _ _ _ us hl => match us, hl with | [_], _ => rfl
  have G_law_whole := PySem.W.mg_of X G a_law_whole
  have F_law_mixed := fun_mk (st := sMixed) l_law_mixed c_law_mixed k_law_mixed
  have B_law_mixed := F_law_mixed.binds (ps := ["_law_cell", "_law_k"]) fun _ _ _ _ _ _ us hl => match us, hl with | [_, _], _ => rfl
  have G_law_mixed := PySem.W.mg_of X G a_law_mixed
  have F_law_delay_by := fun_mk (st := sDelay) l_law_delay_by c_law_delay_by k_law_delay_by
  have B_law_delay_by := F_law_delay_by.binds (ps := ["_law_number"]) fun _ _ _ _ _ _ us hl => match us, hl with | [_], _ => rfl
  have G_law_delay_by := PySem.W.mg_of X G a_law_delay_by
  have F_law_ways := fun_mk (st := sWays) l_law_ways c_law_ways k_law_ways
  have B_law_ways := F_law_ways.binds (ps := ["_law_script", "_law_many"]) fun _ _ _ _ _ _ us hl => match us, hl with | [_, _], _ => rfl
  have G_law_ways := PySem.W.mg_of X G a_law_ways
  have F_law_pace := fun_mk (st := sLawPace) l_law_pace c_law_pace k_law_pace
  have B_law_pace := F_law_pace.binds (ps := ["_law_many", "_law_ways_here"]) fun _ _ _ _ _ _ us hl => match us, hl with | [_, _], _ => rfl
  have G_law_pace := PySem.W.mg_of X G a_law_pace
  have F_law := fun_mk (st := sLaw) l_law c_law k_law
  have G_PaceError := PySem.W.mg_of X G a_PaceError
  have G_BadCount := PySem.W.mg_of X G a_BadCount
  have G_NoMeeting := PySem.W.mg_of X G a_NoMeeting
  have G_BadDelay := PySem.W.mg_of X G a_BadDelay
  have G_Apart := PySem.W.mg_of X G a_Apart
  have G_NoRing := PySem.W.mg_of X G a_NoRing
  have G_BadPace := PySem.W.mg_of X G a_BadPace
  have Z_ValueError := PySem.W.mg_none_of X G z_ValueError
  have Z_bool := PySem.W.mg_none_of X G z_bool
  have Z_int := PySem.W.mg_none_of X G z_int
  have Z_isinstance := PySem.W.mg_none_of X G z_isinstance
  have Z_len := PySem.W.mg_none_of X G z_len
  have Z_list := PySem.W.mg_none_of X G z_list
  have Z_max := PySem.W.mg_none_of X G z_max
  have Z_min := PySem.W.mg_none_of X G z_min
  have Z_range := PySem.W.mg_none_of X G z_range
  have Z_set := PySem.W.mg_none_of X G z_set
  have Z_sorted := PySem.W.mg_none_of X G z_sorted
  have Z_sum := PySem.W.mg_none_of X G z_sum
  have Z_tuple := PySem.W.mg_none_of X G z_tuple
  have Z_zip := PySem.W.mg_none_of X G z_zip
  have I_MOST_MEETINGS := PySem.W.mg_of X G gi_MOST_MEETINGS
  have I_MOST_WAYS := PySem.W.mg_of X G gi_MOST_WAYS
  have I_MOST_DELAY := PySem.W.mg_of X G gi_MOST_DELAY
  have L_gcd := PySem.W.mg_of X G gl_gcd
  have T_BadCount : ErrT K mg "BadCount" C_BadCount := ⟨G_BadCount, q_BadCount, kp_BadCount, b_BadCount, t_BadCount⟩
  have X_BadCount := PySem.W.exm_ref b_CP0 d_CP0 t_CP0 p_BadCount
  have EX_BadCount : ExcC K C_BadCount := ⟨eg_BadCount, ek_BadCount, b_BadCount, ed_BadCount, ea_BadCount, en, et, em_BadCount⟩
  have T_NoMeeting : ErrT K mg "NoMeeting" C_NoMeeting := ⟨G_NoMeeting, q_NoMeeting, kp_NoMeeting, b_NoMeeting, t_NoMeeting⟩
  have X_NoMeeting := PySem.W.exm_ref b_CP0 d_CP0 t_CP0 p_NoMeeting
  have EX_NoMeeting : ExcC K C_NoMeeting := ⟨eg_NoMeeting, ek_NoMeeting, b_NoMeeting, ed_NoMeeting, ea_NoMeeting, en, et, em_NoMeeting⟩
  have T_BadDelay : ErrT K mg "BadDelay" C_BadDelay := ⟨G_BadDelay, q_BadDelay, kp_BadDelay, b_BadDelay, t_BadDelay⟩
  have X_BadDelay := PySem.W.exm_ref b_CP0 d_CP0 t_CP0 p_BadDelay
  have EX_BadDelay : ExcC K C_BadDelay := ⟨eg_BadDelay, ek_BadDelay, b_BadDelay, ed_BadDelay, ea_BadDelay, en, et, em_BadDelay⟩
  have T_Apart : ErrT K mg "Apart" C_Apart := ⟨G_Apart, q_Apart, kp_Apart, b_Apart, t_Apart⟩
  have X_Apart := PySem.W.exm_ref b_CP0 d_CP0 t_CP0 p_Apart
  have EX_Apart : ExcC K C_Apart := ⟨eg_Apart, ek_Apart, b_Apart, ed_Apart, ea_Apart, en, et, em_Apart⟩
  have T_NoRing : ErrT K mg "NoRing" C_NoRing := ⟨G_NoRing, q_NoRing, kp_NoRing, b_NoRing, t_NoRing⟩
  have X_NoRing := PySem.W.exm_ref b_CP0 d_CP0 t_CP0 p_NoRing
  have EX_NoRing : ExcC K C_NoRing := ⟨eg_NoRing, ek_NoRing, b_NoRing, ed_NoRing, ea_NoRing, en, et, em_NoRing⟩
  have T_BadPace : ErrT K mg "BadPace" C_BadPace := ⟨G_BadPace, q_BadPace, kp_BadPace, b_BadPace, t_BadPace⟩
  have X_BadPace := PySem.W.exm_ref b_CP0 d_CP0 t_CP0 p_BadPace
  have EX_BadPace : ExcC K C_BadPace := ⟨eg_BadPace, ek_BadPace, b_BadPace, ed_BadPace, ea_BadPace, en, et, em_BadPace⟩
  have WT : WebT K mg C := ⟨⟨pg, hd, po, sa⟩, nM, nW, nU, PySem.W.mg_of X G aC⟩
  have MK : Mk K C f_Web_init := ⟨mk, a_Web_init, i_Web_init, kc⟩
  refine ⟨PySem.W.fnOf "law" "law" (defArgs sLaw) (defBody sLaw) (defScope sLaw) .none kV_law dc_law pm_law an_law cd_law ct_law, [(cW, TP)], spLaw13 K [(TP, lamQ)], ?_, ?_, ?_, fun s v => .of_eq rfl, ?_, ?_⟩
  · intro p hp
    rw [List.mem_singleton.mp hp]
    exact hT
  · intro p hp
    rw [List.mem_singleton.mp hp]
    exact hK
  · intro p hp
    rw [List.mem_singleton.mp hp]
    exact PySem.W.codeHd_of_K X hcd
  · intro H a ns hl hb ht hS
    refine ⟨a, ns, rfl, hS, fun p hp => ?_, fun _ => rfl⟩
    rw [List.mem_singleton.mp hp]
    exact TabS.nil (ht (cW, TP) (List.mem_singleton.mpr rfl))
  · intro base KB GB TB
    have TBw : TabB base mg cW TP := TB (cW, TP) (List.mem_singleton.mpr rfl)
    have Z0 : Names0 mg := ⟨Z_len, Z_range, Z_list, Z_tuple⟩
    have ZM : NamesM mg := { toNames0 := Z0, max := Z_max }
    have Z1 : Names1 mg := { toNames0 := Z0, sorted := Z_sorted }
    have ZI : NamesI mg := ⟨Z_isinstance, Z_int, Z_bool⟩
    have PWeb := ok_web (P := l.prog) (w := w) (base := base) F_Web_init WT Z0 F_refuse_counts F_refuse_meeting F_refuse_ways F_refuse_apart F_reached T_BadCount T_NoMeeting T_BadDelay T_Apart G_refuse_counts G_refuse_meeting G_refuse_ways G_refuse_apart G_reached B_refuse_counts B_refuse_meeting B_refuse_ways B_refuse_apart B_reached I_MOST_MEETINGS I_MOST_WAYS I_MOST_DELAY
    have Pinto := ok_into (P := l.prog) (w := w) (base := base) F_Web_into F_refuse_meeting WT T_NoMeeting G_refuse_meeting B_refuse_meeting
    have Pdelay := ok_delayM (P := l.prog) (w := w) (base := base) F_Web_delay F_refuse_meeting F_Web_into M_Web_into B_Web_into WT ⟨by decide +kernel, by decide +kernel, by decide +kernel⟩ T_NoMeeting G_refuse_meeting B_refuse_meeting ZM
    have Pturned := ok_turned F_Web_turned WT MK B_Web_init PWeb
    have ZR : NamesR mg := { toNamesM := ZM, set := Z_set, zip := Z_zip, sum := Z_sum, gcd := L_gcd }
    have ZQ : NamesQ mg := { toNamesR := ZR, min := Z_min }
    have Pmean := ok_mean F_mean F_lowest WT ZR T_NoRing Pdelay M_Web_delay B_Web_delay G_lowest B_lowest
    have Psteps := ok_steps F_steps WT Z0 Pinto M_Web_into B_Web_into
    have Plift := ok_lift (P := l.prog) (w := w) (base := base) (mg := mg) F_lift
    have Pbehind := ok_behind (P := l.prog) (w := w) (base := base) F_ring_behind ZQ
    have Pslower := ok_slower F_slower WT ZQ T_BadPace Psteps G_steps k_steps B_steps Plift G_lift k_lift B_lift Pbehind G_ring_behind k_ring_behind B_ring_behind
    have Psome := ok_somering F_some_ring WT Z0 Pinto M_Web_into B_Web_into Pbehind G_ring_behind k_ring_behind B_ring_behind
    have Ppace := ok_pace F_pace Psome G_some_ring k_some_ring B_some_ring Pmean G_mean k_mean B_mean Pslower G_slower k_slower B_slower
    have PWh := ok_whole (P := l.prog) (w := w) (base := base) F_law_whole ZI
    exact ok_law13 F_law Z0 WT MK {
        GWe := PWeb, bWe := B_Web_init
        GCe := ok_cell F_law_cell_at Z0, gCe := G_law_cell_at, kCe := k_law_cell_at, bCe := B_law_cell_at
        GWa := ok_waysN F_law_ways rfl TBw F_law_cell_at F_law_mixed F_law_delay_by Z1 G_law_cell_at G_law_mixed G_law_delay_by B_law_cell_at B_law_mixed B_law_delay_by, gWa := G_law_ways, kWa := k_law_ways, bWa := B_law_ways
        GLp := ok_lawpace F_law_pace WT MK PWeb B_Web_init Ppace G_pace k_pace B_pace PWh G_law_whole k_law_whole B_law_whole Z0 ZI, gLp := G_law_pace, kLp := k_law_pace, bLp := B_law_pace
        GPa := Ppace, gPa := G_pace, kPa := k_pace, bPa := B_pace
        GTd := Pturned, mTd := M_Web_turned, bTd := B_Web_turned }
end Mp
set_option maxRecDepth 100000
open PySem PySem.W PyProof.Rows
set_option maxHeartbeats 0 in
theorem PySem.Challenge.cw_meanpace_k13_whole_paces_of_other_webs_holds : PySem.Challenge.rw_meanpace_k13_whole_paces_of_other_webs.Holds := by
  w_on; o_law; k_head; (case hw => w_witness2)
  k_fill
  refine LamX.walk_ofTs (l := PySem.Challenge.rw_meanpace_k13_whole_paces_of_other_webs) (n := 63) (k := 7) (x := "_law_script") (CX := fun _ => L2.CX0) rfl (by decide) rfl ⟨rfl, by decide, by decide⟩ (fun w h Y => PySem.W.km_in_of Y) ?F fun _ _ _ _ _ z => z
  case F =>
    intro w mg fa h Y KX G hmg
    have hTab := PySem.W.km_tabs_of Y
    refine' Mp.all_mk (TP := 306) KX G hmg ?a_lowest ?l_lowest ?c_lowest ?k_lowest ?a_mean ?l_mean ?c_mean ?k_mean ?a_steps ?l_steps ?c_steps ?k_steps ?a_lift ?l_lift ?c_lift ?k_lift ?a_ring_behind ?l_ring_behind ?c_ring_behind ?k_ring_behind ?a_some_ring ?l_some_ring ?c_some_ring ?k_some_ring ?a_slower ?l_slower ?c_slower ?k_slower ?a_pace ?l_pace ?c_pace ?k_pace ?a_refuse_meeting ?l_refuse_meeting ?c_refuse_meeting ?k_refuse_meeting ?a_reached ?l_reached ?c_reached ?k_reached ?a_refuse_counts ?l_refuse_counts ?c_refuse_counts ?k_refuse_counts ?a_refuse_ways ?l_refuse_ways ?c_refuse_ways ?k_refuse_ways ?a_refuse_apart ?l_refuse_apart ?c_refuse_apart ?k_refuse_apart ?a_Web_init ?i_Web_init ?l_Web_init ?c_Web_init ?k_Web_init ?a_Web_into ?i_Web_into ?l_Web_into ?c_Web_into ?k_Web_into ?a_Web_delay ?i_Web_delay ?l_Web_delay ?c_Web_delay ?k_Web_delay ?a_Web_ahead ?i_Web_ahead ?l_Web_ahead ?c_Web_ahead ?k_Web_ahead ?a_Web_turns ?i_Web_turns ?l_Web_turns ?c_Web_turns ?k_Web_turns ?a_Web_turned ?i_Web_turned ?l_Web_turned ?c_Web_turned ?k_Web_turned ?a_Web_refuse_times ?i_Web_refuse_times ?l_Web_refuse_times ?c_Web_refuse_times ?k_Web_refuse_times ?a_law_cell_at ?l_law_cell_at ?c_law_cell_at ?k_law_cell_at ?a_law_whole ?l_law_whole ?c_law_whole ?k_law_whole ?a_law_mixed ?l_law_mixed ?c_law_mixed ?k_law_mixed ?a_law_delay_by ?l_law_delay_by ?c_law_delay_by ?k_law_delay_by ?a_law_ways ?l_law_ways ?c_law_ways ?k_law_ways ?a_law_pace ?l_law_pace ?c_law_pace ?k_law_pace ?a_law ?l_law ?c_law ?k_law ?a_PaceError ?a_BadCount ?a_NoMeeting ?a_BadDelay ?a_Apart ?a_NoRing ?a_BadPace ?q_BadCount ?kp_BadCount ?b_BadCount ?t_BadCount ?eg_BadCount ?ek_BadCount ?ed_BadCount ?ea_BadCount ?em_BadCount ?v_BadCount ?x_BadCount_BadCount ?x_BadCount_NoMeeting ?x_BadCount_BadDelay ?x_BadCount_Apart ?x_BadCount_NoRing ?x_BadCount_BadPace ?p_BadCount ?q_NoMeeting ?kp_NoMeeting ?b_NoMeeting ?t_NoMeeting ?eg_NoMeeting ?ek_NoMeeting ?ed_NoMeeting ?ea_NoMeeting ?em_NoMeeting ?v_NoMeeting ?x_NoMeeting_BadCount ?x_NoMeeting_NoMeeting ?x_NoMeeting_BadDelay ?x_NoMeeting_Apart ?x_NoMeeting_NoRing ?x_NoMeeting_BadPace ?p_NoMeeting ?q_BadDelay ?kp_BadDelay ?b_BadDelay ?t_BadDelay ?eg_BadDelay ?ek_BadDelay ?ed_BadDelay ?ea_BadDelay ?em_BadDelay ?v_BadDelay ?x_BadDelay_BadCount ?x_BadDelay_NoMeeting ?x_BadDelay_BadDelay ?x_BadDelay_Apart ?x_BadDelay_NoRing ?x_BadDelay_BadPace ?p_BadDelay ?q_Apart ?kp_Apart ?b_Apart ?t_Apart ?eg_Apart ?ek_Apart ?ed_Apart ?ea_Apart ?em_Apart ?v_Apart ?x_Apart_BadCount ?x_Apart_NoMeeting ?x_Apart_BadDelay ?x_Apart_Apart ?x_Apart_NoRing ?x_Apart_BadPace ?p_Apart ?q_NoRing ?kp_NoRing ?b_NoRing ?t_NoRing ?eg_NoRing ?ek_NoRing ?ed_NoRing ?ea_NoRing ?em_NoRing ?v_NoRing ?x_NoRing_BadCount ?x_NoRing_NoMeeting ?x_NoRing_BadDelay ?x_NoRing_Apart ?x_NoRing_NoRing ?x_NoRing_BadPace ?p_NoRing ?q_BadPace ?kp_BadPace ?b_BadPace ?t_BadPace ?eg_BadPace ?ek_BadPace ?ed_BadPace ?ea_BadPace ?em_BadPace ?v_BadPace ?x_BadPace_BadCount ?x_BadPace_NoMeeting ?x_BadPace_BadDelay ?x_BadPace_Apart ?x_BadPace_NoRing ?x_BadPace_BadPace ?p_BadPace ?b_CP0 ?d_CP0 ?t_CP0 ?en ?et ?aC ?pg ?hd ?po ?sa ?mk ?kc ?nM ?nW ?nU ?z_ValueError ?z_bool ?z_int ?z_isinstance ?z_len ?z_list ?z_max ?z_min ?z_range ?z_set ?z_sorted ?z_sum ?z_tuple ?z_zip ?gi_MOST_MEETINGS ?gi_MOST_WAYS ?gi_MOST_DELAY ?gl_gcd ?ne_BadCount_NoMeeting ?ne_BadCount_BadDelay ?ne_BadCount_Apart ?ne_BadCount_NoRing ?ne_BadCount_BadPace ?ne_NoMeeting_BadDelay ?ne_NoMeeting_Apart ?ne_NoMeeting_NoRing ?ne_NoMeeting_BadPace ?ne_BadDelay_Apart ?ne_BadDelay_NoRing ?ne_BadDelay_BadPace ?ne_Apart_NoRing ?ne_Apart_BadPace ?ne_NoRing_BadPace ?hK ?hcd ?hT
    (case a_lowest => k_is)
    (case a_mean => k_is)
    (case a_steps => k_is)
    (case a_lift => k_is)
    (case a_ring_behind => k_is)
    (case a_some_ring => k_is)
    (case a_slower => k_is)
    (case a_pace => k_is)
    (case a_refuse_meeting => k_is)
    (case a_reached => k_is)
    (case a_refuse_counts => k_is)
    (case a_refuse_ways => k_is)
    (case a_refuse_apart => k_is)
    (case a_law_cell_at => k_is)
    (case a_law_whole => k_is)
    (case a_law_mixed => k_is)
    (case a_law_delay_by => k_is)
    (case a_law_ways => k_is)
    (case a_law_pace => k_is)
    (case a_law => k_is)
    (case a_PaceError => k_is)
    (case a_BadCount => k_is)
    (case a_NoMeeting => k_is)
    (case a_BadDelay => k_is)
    (case a_Apart => k_is)
    (case a_NoRing => k_is)
    (case a_BadPace => k_is)
    (case aC => k_is)
    (case z_ValueError => k_is)
    (case z_bool => k_is)
    (case z_int => k_is)
    (case z_isinstance => k_is)
    (case z_len => k_is)
    (case z_list => k_is)
    (case z_max => k_is)
    (case z_min => k_is)
    (case z_range => k_is)
    (case z_set => k_is)
    (case z_sorted => k_is)
    (case z_sum => k_is)
    (case z_tuple => k_is)
    (case z_zip => k_is)
    (case gi_MOST_MEETINGS => k_is)
    (case gi_MOST_WAYS => k_is)
    (case gi_MOST_DELAY => k_is)
    (case gl_gcd => k_is)
    (case l_lowest => k_is)
    (case c_lowest => k_is)
    (case k_lowest => k_is)
    (case l_mean => k_is)
    (case c_mean => k_is)
    (case k_mean => k_is)
    (case l_steps => k_is)
    (case c_steps => k_is)
    (case k_steps => k_is)
    (case l_lift => k_is)
    (case c_lift => k_is)
    (case k_lift => k_is)
    (case l_ring_behind => k_is)
    (case c_ring_behind => k_is)
    (case k_ring_behind => k_is)
    (case l_some_ring => k_is)
    (case c_some_ring => k_is)
    (case k_some_ring => k_is)
    (case l_slower => k_is)
    (case c_slower => k_is)
    (case k_slower => k_is)
    (case l_pace => k_is)
    (case c_pace => k_is)
    (case k_pace => k_is)
    (case l_refuse_meeting => k_is)
    (case c_refuse_meeting => k_is)
    (case k_refuse_meeting => k_is)
    (case l_reached => k_is)
    (case c_reached => k_is)
    (case k_reached => k_is)
    (case l_refuse_counts => k_is)
    (case c_refuse_counts => k_is)
    (case k_refuse_counts => k_is)
    (case l_refuse_ways => k_is)
    (case c_refuse_ways => k_is)
    (case k_refuse_ways => k_is)
    (case l_refuse_apart => k_is)
    (case c_refuse_apart => k_is)
    (case k_refuse_apart => k_is)
    (case a_Web_init => k_is)
    (case i_Web_init => k_is)
    (case l_Web_init => k_is)
    (case c_Web_init => k_is)
    (case k_Web_init => k_is)
    (case a_Web_into => k_is)
    (case i_Web_into => k_is)
    (case l_Web_into => k_is)
    (case c_Web_into => k_is)
    (case k_Web_into => k_is)
    (case a_Web_delay => k_is)
    (case i_Web_delay => k_is)
    (case l_Web_delay => k_is)
    (case c_Web_delay => k_is)
    (case k_Web_delay => k_is)
    (case a_Web_ahead => k_is)
    (case i_Web_ahead => k_is)
    (case l_Web_ahead => k_is)
    (case c_Web_ahead => k_is)
    (case k_Web_ahead => k_is)
    (case a_Web_turns => k_is)
    (case i_Web_turns => k_is)
    (case l_Web_turns => k_is)
    (case c_Web_turns => k_is)
    (case k_Web_turns => k_is)
    (case a_Web_turned => k_is)
    (case i_Web_turned => k_is)
    (case l_Web_turned => k_is)
    (case c_Web_turned => k_is)
    (case k_Web_turned => k_is)
    (case a_Web_refuse_times => k_is)
    (case i_Web_refuse_times => k_is)
    (case l_Web_refuse_times => k_is)
    (case c_Web_refuse_times => k_is)
    (case k_Web_refuse_times => k_is)
    (case l_law_cell_at => k_is)
    (case c_law_cell_at => k_is)
    (case k_law_cell_at => k_is)
    (case l_law_whole => k_is)
    (case c_law_whole => k_is)
    (case k_law_whole => k_is)
    (case l_law_mixed => k_is)
    (case c_law_mixed => k_is)
    (case k_law_mixed => k_is)
    (case l_law_delay_by => k_is)
    (case c_law_delay_by => k_is)
    (case k_law_delay_by => k_is)
    (case l_law_ways => k_is)
    (case c_law_ways => k_is)
    (case k_law_ways => k_is)
    (case l_law_pace => k_is)
    (case c_law_pace => k_is)
    (case k_law_pace => k_is)
    (case l_law => k_is)
    (case c_law => k_is)
    (case k_law => k_is)
    (case q_BadCount => k_exc)
    (case kp_BadCount => k_is)
    (case b_BadCount => k_is)
    (case t_BadCount => k_is)
    (case eg_BadCount => k_is)
    (case ek_BadCount => k_is)
    (case ed_BadCount => k_is)
    (case ea_BadCount => k_is)
    (case em_BadCount => k_is)
    (case v_BadCount => kit_is)
    (case x_BadCount_BadCount => kit_is)
    (case x_BadCount_NoMeeting => kit_is)
    (case x_BadCount_BadDelay => kit_is)
    (case x_BadCount_Apart => kit_is)
    (case x_BadCount_NoRing => kit_is)
    (case x_BadCount_BadPace => kit_is)
    (case p_BadCount => k_is)
    (case q_NoMeeting => k_exc)
    (case kp_NoMeeting => k_is)
    (case b_NoMeeting => k_is)
    (case t_NoMeeting => k_is)
    (case eg_NoMeeting => k_is)
    (case ek_NoMeeting => k_is)
    (case ed_NoMeeting => k_is)
    (case ea_NoMeeting => k_is)
    (case em_NoMeeting => k_is)
    (case v_NoMeeting => kit_is)
    (case x_NoMeeting_BadCount => kit_is)
    (case x_NoMeeting_NoMeeting => kit_is)
    (case x_NoMeeting_BadDelay => kit_is)
    (case x_NoMeeting_Apart => kit_is)
    (case x_NoMeeting_NoRing => kit_is)
    (case x_NoMeeting_BadPace => kit_is)
    (case p_NoMeeting => k_is)
    (case q_BadDelay => k_exc)
    (case kp_BadDelay => k_is)
    (case b_BadDelay => k_is)
    (case t_BadDelay => k_is)
    (case eg_BadDelay => k_is)
    (case ek_BadDelay => k_is)
    (case ed_BadDelay => k_is)
    (case ea_BadDelay => k_is)
    (case em_BadDelay => k_is)
    (case v_BadDelay => kit_is)
    (case x_BadDelay_BadCount => kit_is)
    (case x_BadDelay_NoMeeting => kit_is)
    (case x_BadDelay_BadDelay => kit_is)
    (case x_BadDelay_Apart => kit_is)
    (case x_BadDelay_NoRing => kit_is)
    (case x_BadDelay_BadPace => kit_is)
    (case p_BadDelay => k_is)
    (case q_Apart => k_exc)
    (case kp_Apart => k_is)
    (case b_Apart => k_is)
    (case t_Apart => k_is)
    (case eg_Apart => k_is)
    (case ek_Apart => k_is)
    (case ed_Apart => k_is)
    (case ea_Apart => k_is)
    (case em_Apart => k_is)
    (case v_Apart => kit_is)
    (case x_Apart_BadCount => kit_is)
    (case x_Apart_NoMeeting => kit_is)
    (case x_Apart_BadDelay => kit_is)
    (case x_Apart_Apart => kit_is)
    (case x_Apart_NoRing => kit_is)
    (case x_Apart_BadPace => kit_is)
    (case p_Apart => k_is)
    (case q_NoRing => k_exc)
    (case kp_NoRing => k_is)
    (case b_NoRing => k_is)
    (case t_NoRing => k_is)
    (case eg_NoRing => k_is)
    (case ek_NoRing => k_is)
    (case ed_NoRing => k_is)
    (case ea_NoRing => k_is)
    (case em_NoRing => k_is)
    (case v_NoRing => kit_is)
    (case x_NoRing_BadCount => kit_is)
    (case x_NoRing_NoMeeting => kit_is)
    (case x_NoRing_BadDelay => kit_is)
    (case x_NoRing_Apart => kit_is)
    (case x_NoRing_NoRing => kit_is)
    (case x_NoRing_BadPace => kit_is)
    (case p_NoRing => k_is)
    (case q_BadPace => k_exc)
    (case kp_BadPace => k_is)
    (case b_BadPace => k_is)
    (case t_BadPace => k_is)
    (case eg_BadPace => k_is)
    (case ek_BadPace => k_is)
    (case ed_BadPace => k_is)
    (case ea_BadPace => k_is)
    (case em_BadPace => k_is)
    (case v_BadPace => kit_is)
    (case x_BadPace_BadCount => kit_is)
    (case x_BadPace_NoMeeting => kit_is)
    (case x_BadPace_BadDelay => kit_is)
    (case x_BadPace_Apart => kit_is)
    (case x_BadPace_NoRing => kit_is)
    (case x_BadPace_BadPace => kit_is)
    (case p_BadPace => k_is)
    (case b_CP0 => k_is)
    (case d_CP0 => k_is)
    (case t_CP0 => k_is)
    (case en => k_is)
    (case et => k_is)
    (case pg => k_is)
    (case hd => k_is)
    (case po => k_is)
    (case sa => k_is)
    (case mk => k_is)
    (case kc => k_is)
    (case nM => k_is)
    (case nW => k_is)
    (case nU => k_is)
    (case ne_BadCount_NoMeeting => decide)
    (case ne_BadCount_BadDelay => decide)
    (case ne_BadCount_Apart => decide)
    (case ne_BadCount_NoRing => decide)
    (case ne_BadCount_BadPace => decide)
    (case ne_NoMeeting_BadDelay => decide)
    (case ne_NoMeeting_Apart => decide)
    (case ne_NoMeeting_NoRing => decide)
    (case ne_NoMeeting_BadPace => decide)
    (case ne_BadDelay_Apart => decide)
    (case ne_BadDelay_NoRing => decide)
    (case ne_BadDelay_BadPace => decide)
    (case ne_Apart_NoRing => decide)
    (case ne_Apart_BadPace => decide)
    (case ne_NoRing_BadPace => decide)
    (case hK => kernel_rfl)
    (case hcd => kernel_rfl)
    (case hT => exact hTab 306 (by first | decide | simp | k_mem))
