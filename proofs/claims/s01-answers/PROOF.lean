import PyProof.Rows.All
import Wide.All
import OpenK.AllK
import Wide.FinOn
import PyProof.EqAt
import PyProof.EqKinds
import PyProof.TupleCall
import Open.SpecLaws
import KE.OsGo
import KE.SortKeyHeap
import KE.DataMinMax
import HandS.ForSpec
import HandS.ForMost
import HandS.Lambda
import HandS.EndTab
import KE.KNest
import HandS.Walk
import HandS.SortInts
import KE.OsHead
import PySem.Challenge.RW_fairsweets_s01_answers
set_option Elab.async false
set_option maxRecDepth 100000
set_option maxHeartbeats 2000000
namespace Fs
open PySem PySem.Spec PyProof.Rows L2 LamX
/-! ### sorted(e, key=lambda x: c[x[0]]) -/
section
variable {prog : Program} {w : World} {A : Around} {E : Value → Shared → Prop} {s : Shared}
/-- c[x[0]], c captured, x the parameter -/
theorem key_body {env : Env} {cn xn : Str} {c t m : Addr} {mm : Str → Option Value} {items its : Array Value} {i : Int} {u : Tok} {v : Value} {k : Nat} {p1 p2 p3 p4 p5 : Pos} {Q : Value → Shared → Prop}
    (hk : env.scope.kind = .function) (hcn : env.kindOf cn = some .free) (hc : env.cells.lookup cn = some c) (hcell : s.heap.IsCell c (some (.ref m)))
    (hxn : env.kindOf xn = some .local) (hns : s.heap.Ns env.locals mm) (hx : mm xn = some (.ref t)) (ht : IsTup s.heap t items) (h0 : items[0]? = some (.int i u)) (hz : 0 < items.size)
    (hl : s.heap.IsList m its) (hi : 0 ≤ i) (hi2 : i < 2 ^ 63) (hv : its[i.toNat]? = some v) (h : ∀ tk, Q v { s with toks := tk })
    (d1 : (cn == ("__debug__" : Str)) = false) (d2 : (cn == ("__classdict__" : Str)) = false) (d3 : (xn == ("__debug__" : Str)) = false) :
    wpAny (model prog w) A (eval (.Subscript (.Name cn p1) (.Subscript (.Name xn p2) (.Constant (.int 0) k p3) p4) p5) env) Q E s := by
  refine Subscript_ (wpAny_Name (wpAny_loadName_free hk hcn hc hcell ?_ d2) d1)
  refine Subscript_ (wpAny_Name (wpAny_loadName_local hk hxn hns hx ?_) d3)
  refine wpAny_Constant_int ?_
  refine subscriptTail_builtinR (x := .int i u) (s := { s with toks := s.toks + 1 }) (T := "tuple") ht.typeIs slot_tuple_getitem.lookup ?_
  refine getItem_tuple (s := { s with toks := s.toks + 1 }) (j := 0) ht (by decide) (by decide) ?_ h0 ⟨rfl, ?_⟩
  · exact seqIndex_of (k := 0) (by decide) (by exact_mod_cast hz)
  · exact item_listR (s := { s with toks := s.toks + 1 }) hl hi hi2 hv (h _)
end
/-- the lambda's names: one parameter xn, one captured cn -/
structure LamK (sc scope : Scope) (cn xn : Str) : Prop where
  kind : scope.kind = .function
  co : scope.isCoroutine = false
  gen : scope.isGenerator = false
  nocell : ∀ y ∈ scope.names, y.2 ≠ .cell
  par : scope.names.lookup xn = some .local
  cap : scope.names.lookup cn = some .free
  free : ∀ y ∈ scope.names, y.2 = .free → sc.names.lookup y.1 = some .cell ∨ sc.names.lookup y.1 = some .free
section
variable {A : Around} {X : Cx} {pins : List (Addr × Obj)} {σ : L2.St} {H : Hp} {s : Shared}
theorem cell_of {j : Nat} {cn : Str} {m : Addr} (I : Inv X pins σ H s) (hN : X.N[j]? = some cn) (hj : σ[j]? = some (some (.ref m))) (hk : X.env.scope.names.lookup cn = some .cell ∨ X.env.scope.names.lookup cn = some .free) :
    ∃ c, X.env.cells.lookup cn = some c ∧ s.heap.IsCell c (some (.ref m)) := by
  obtain ⟨mm, hn, hl⟩ := I.loc
  have hv : Vis X.env.scope cn := .inr hk
  obtain ⟨u, r, q⟩ := hl j cn _ hN hj hv
  obtain rfl : u = Value.ref m := r
  rcases q with ⟨z, _⟩ | ⟨_, c, e, z⟩
  · have z' : X.env.scope.names.lookup cn = some .local := z
    rcases hk with k | k <;> rw [k] at z' <;> cases z'
  · exact ⟨c, e, z⟩
/-- one call of the lambda, whatever was laid since -/
theorem lam_turn {j : Nat} {cn xn : Str} {params : Arguments} {scope : Scope} {k : Nat} {p1 p2 p3 p4 p5 : Pos} {f c' m t : Addr} {pm ctv : Value} {ms : List V} {i n : Int} {rest : List V}
    (I : Inv X pins σ H s) (L : LamK X.env.scope scope cn xn) (hN : X.N[j]? = some cn) (hj : σ[j]? = some (some (.ref m))) (hroom : A.depth < recursionLimit)
    (hf : s.heap.get? f = some (PySem.W.kla_obj "<lambda>" (X.env.qual ++ "<lambda>") params (.Subscript (.Name cn p1) (.Subscript (.Name xn p2) (.Constant (.int 0) k p3) p4) p5) scope (cloFrom X.env.cells scope.names []) pm c' ctv))
    (hco : H c' = some (CodeO c' (X.env.qual ++ "<lambda>"))) (hbind : ∀ (q : Str) (cl : List (Str × Addr)) (pm cv ctv v : Value), bindArgs (PySem.W.kla_fn "<lambda>" q params (.Subscript (.Name cn p1) (.Subscript (.Name xn p2) (.Constant (.int 0) k p3) p4) p5) scope cl pm cv ctv) ⟨[v], []⟩ = pure [(xn, v)])
    (hm : SqL X.K H m ms) (ht : SqT X.K H t (.int i :: rest)) (hi : 0 ≤ i) (hms : ms[i.toNat]? = some (.int n))
    (d1 : (cn == ("__debug__" : Str)) = false) (d2 : (cn == ("__classdict__" : Str)) = false) (d3 : (xn == ("__debug__" : Str)) = false)
    (h : Heap) (tk : Nat) (kp : ∀ b o, s.heap.get? b = some o → h.get? b = some o) :
    wpAny (model X.prog X.w) A (call (.ref f) [.ref t]) (PySem.W.KeyPure (.int n) { s with heap := h, toks := tk }) (fun _ _ => False) { s with heap := h, toks := tk } := by
  have I2 : Inv X pins σ H { s with heap := h, toks := tk } := I.kept kp
  obtain ⟨c, hc, hcell⟩ := cell_of I2 hN hj (L.free _ (PySem.mem_of_lookup L.cap) rfl)
  obtain ⟨its, rv, pl, hz⟩ := I2.list hm
  obtain ⟨tts, rt, pt, hzt⟩ := I2.tuple ht
  obtain ⟨u0, ttl, rfl, r0, _⟩ : ∃ u0 ttl, tts = u0 :: ttl ∧ RelV (.int i) u0 ∧ Vals rest ttl := by
    cases rt with
    | cons a b => exact ⟨_, _, rfl, a, b⟩
  obtain ⟨tok, rfl⟩ := r0
  obtain ⟨v, ev, rvv⟩ := rv.get hms
  obtain ⟨tok2, rfl⟩ := rvv
  obtain ⟨⟨oc, vs, tc, hoc, hdc, hvc⟩, _, _⟩ := I2.hok c' _ hco
  have hfree : ∀ y ∈ scope.names, y.2 = .free → ∃ c, X.env.cells.lookup y.1 = some c := fun y hy e => by
    rcases L.free y hy e with z | z
    · exact I.ok.has _ (.inl z)
    · exact I.ok.has _ (.inr z)
  have hcl : (cloFrom X.env.cells scope.names []).lookup cn = some c := by
    have hy : (cn, NameKind.free) ∈ scope.names := PySem.mem_of_lookup L.cap
    obtain ⟨c1, h1⟩ := mem_lookup (cloFrom_has (cells := X.env.cells) (acc := []) hy)
    rcases cloFrom_mem (PySem.mem_of_lookup h1) with hm | ⟨a1, a2⟩
    · cases hm
    · have e2 : c1 = c := by
        rw [a2, hc] <;> rfl
      rw [← e2]
      exact h1
  have hlen : (i.toNat : Int) < 2 ^ 63 := by
    have h1 : i.toNat < ms.length := (List.getElem?_eq_some_iff.mp hms).1
    have h2 : sizeLine < 2 ^ 63 := by decide
    omega
  have key : codeAny (model X.prog X.w) A (.call (.ref f) ⟨[.ref t], []⟩) (fun r s' => ∃ v, r = .ok (.ret v) ∧ PySem.W.KeyPure (.int n) { s with heap := h, toks := tk } v s') { s with heap := h, toks := tk } := by
    refine PySem.W.kla_callFunE hroom (kp _ _ hf) rfl L.co L.gen rfl ⟨c', oc, vs, tc, rfl, hoc, hdc, hvc⟩ ?_
    rw [hbind]
    refine wpAny_pure (wpAny_newFunctionEnv L.nocell (fun y hy => ?_) (fun h₁ hns hsb => ⟨I2.nolimit.fresh _ hsb, ?_⟩) L.kind)
    · rw [List.mem_singleton] at hy
      subst hy
      exact L.par
    · have kp1 : ∀ b o, h.get? b = some o → h₁.get? b = some o := fun b o e => hsb.extBut b o (Nat.ne_of_lt (Heap.lt_size e)) (Heap.get?_push_of_some _ e)
      refine PySem.W.kla_codeExpr ?_
      refine key_body (s := { s with heap := h₁, toks := tk + 1 }) (items := (Value.int i tok :: ttl).toArray) (its := its.toArray) (c := c) (m := m) (t := t) (u := tok) L.kind L.cap hcl ?_ L.par hns (by simp) ?_ (by simp) (by simp) ?_ hi (by omega) (by simpa using ev) (fun tk3 => ?_) d1 d2 d3
      · obtain ⟨o, a, b⟩ := hcell
        exact ⟨o, kp1 _ _ a, b⟩
      · obtain ⟨o, a, b⟩ := pt
        exact ⟨o, kp1 _ _ a, b⟩
      · obtain ⟨o, n', a, b, cc, d⟩ := pl
        exact PlainL.isList ⟨o, n', kp1 _ _ a, b, cc, d⟩
      · exact ⟨_, rfl, h₁, tk3, rfl, kp1, .int n tok2⟩
  refine wpAny_call (codeAny_mono key fun r s' hq => ?_)
  obtain ⟨v', rfl, q⟩ := hq
  exact q
theorem vals_each : ∀ {out : List Value} {zs : List V}, PySem.W.EachIs (fun v y => RelV y v) out zs → Vals zs out
  | _, _, .nil => .nil
  | _, _, .cons a b => .cons a (vals_each b)
theorem each_vals : ∀ {zs : List V} {out : List Value}, Vals zs out → PySem.W.EachIs (fun v y => RelV y v) out zs
  | _, _, .nil => .nil
  | _, _, .cons a b => .cons a (each_vals b)
def tSortLam (K : PySem.W.Frag) (T : List (Addr × Str)) (j : Nat) (te : TA) : TE := fun σ H Q => te σ H fun xs H1 => ∃ (a m : Addr) (ys ms : List V) (key : V → Int), xs = [.ref a] ∧ SqL K H1 a ys ∧ σ[j]? = some (some (.ref m)) ∧ SqL K H1 m ms ∧
  (∀ y ∈ ys, ∃ t i rest, y = .ref t ∧ SqT K H1 t (.int i :: rest) ∧ 0 ≤ i ∧ ms[i.toNat]? = some (.int (key y))) ∧ Tabs T H1 ∧
  ∀ H2, ExtN H1 H2 → Tabs T H2 → ∀ p zs, H2 p = none → zs.Perm ys → zs.Pairwise (fun y z => key y ≤ key z) → Q (.ref p) (upd H2 p (.lst zs))
/-- a list stands behind what keeps all but tables -/
theorem extn_sqL {K : PySem.W.Frag} {H H1 : Hp} {a : Addr} {xs : List V} (e : ExtN H H1) (h : SqL K H a xs) : SqL K H1 a xs := by
  rcases h with (h | ⟨o, h⟩) | h
  · exact .inl (.inl (e _ _ h fun ps z => by cases z))
  · exact .inl (.inr ⟨o, e _ _ h fun ps z => by cases z⟩)
  · exact .inr h
theorem extn_sqT {K : PySem.W.Frag} {H H1 : Hp} {a : Addr} {xs : List V} (e : ExtN H H1) (h : SqT K H a xs) : SqT K H1 a xs := by
  rcases h with (h | ⟨o, h⟩) | h
  · exact .inl (.inl (e _ _ h fun ps z => by cases z))
  · exact .inl (.inr ⟨o, e _ _ h fun ps z => by cases z⟩)
  · exact .inr h
theorem pe_sortLam {T : List (Addr × Str)} {c P : Addr} {j kk k : Nat} {cn xn : Str} {params : Arguments} {scope : Scope} {e : Expr} {te : TA} {p p1 p2 p3 p4 p5 lpos kpos pos : Pos}
    (he : PA X [e] te) (hg : Gl X "sorted") (hm : X.mg "sorted" = none) (hr : Room (kk + 1) X.A) (TB : TabB X.base X.mg c P) (hcode : X.env.code = .ref c) (hmT : (P, X.env.qual ++ "<lambda>") ∈ T) (hu : ∀ p ∈ T, p.1 = P → p.2 = X.env.qual ++ "<lambda>")
    (L : LamK X.env.scope scope cn xn) (hN : X.N[j]? = some cn) (hdef : defaultsOf params X.env = ([], []))
    (hbind : ∀ (q : Str) (cl : List (Str × Addr)) (pm cv ctv v : Value), bindArgs (PySem.W.kla_fn "<lambda>" q params (.Subscript (.Name cn p1) (.Subscript (.Name xn p2) (.Constant (.int 0) k p3) p4) p5) scope cl pm cv ctv) ⟨[v], []⟩ = pure [(xn, v)])
    (d1 : (cn == ("__debug__" : Str)) = false := by decide) (d2 : (cn == ("__classdict__" : Str)) = false := by decide) (d3 : (xn == ("__debug__" : Str)) = false := by decide)
    (he2 : backTo pos (starEach [e] X.env) = (false, eval e X.env) :: backTo pos (starEach [] X.env) := by rfl) (hpl : (backTo pos (starEach [e] X.env)).any (·.1) = false := by rfl) :
    PE X (.Call (.Name "sorted" p) [e] [⟨some "key", .Lambda params (.Subscript (.Name cn p1) (.Subscript (.Name xn p2) (.Constant (.int 0) k p3) p4) p5) scope lpos, kpos⟩] pos) (tSortLam X.K T j te) := by
  refine ⟨fun pins s σ H Q I h => ?_⟩
  refine wpAny_Call_Name_kw (ld_blt (u := .builtin "sorted") I hg hm (by decide +kernel) ?_)
  refine PyProof.Rows.callWith_kw (thn (he.run pos pins s σ H _ I h) fun us s1 ⟨vs, H1, I1, r1, q1⟩ => ?_) he2 hpl
  obtain ⟨a, m, ys, ms, key, rfl, hA, hj, hM, hY, hT, q⟩ := q1
  obtain rfl := Vals.ref1 r1
  show wpAny _ _ (evalAll [(do let v ← eval (.Lambda params (.Subscript (.Name cn p1) (.Subscript (.Name xn p2) (.Constant (.int 0) k p3) p4) p5) scope lpos) X.env; standAt pos; pure v)]) _ _ s1
  have hfree : ∀ y ∈ scope.names, y.2 = .free → ∃ c, X.env.cells.lookup y.1 = some c := fun y hy e => by
    rcases L.free y hy e with z | z
    · exact I.ok.has _ (.inl z)
    · exact I.ok.has _ (.inr z)
  refine wpAny_evalAll_cons (wpAny_bind (lam_make2 I1 TB hcode hmT hu hT hdef hfree fun f c' pm ctv H2 s2 I2 eN T2 hf hfn hfr hco => wpAny_bind (wpAny_standAt (wpAny_pure (wpAny_evalAll_nil ?_)))))
  show wpAny _ _ (call (.builtin "sorted") [.ref a] [(Str.ofString "key", .ref f)]) _ _ _
  have hA2 := extn_sqL eN hA
  have hM2 := extn_sqL eN hM
  obtain ⟨its, rv, pl, hz⟩ := I2.list hA2
  refine PySem.W.sorted_key_data (b := false) (bs := ys) (R := fun v y => RelV y v) (fun y : V => .int (key y)) pl.isList (each_vals rv) (PySem.W.AllAlike.of fun _ _ => by simp [PySem.W.alike]) (.inr fun d hd => ?_) hz (fun x _ => ?_) (PyProof.Rows.ksk_s1 _ _) (fun _ => PyProof.Rows.ksk_l1 _ _) (fun _ => PyProof.Rows.ksk_t1 _ _) (fun v x hR hx h tk kp => ?_) (fun out cc h' tk kp fr hD hlen eo => ?_)
  · obtain ⟨y, _, rfl⟩ := List.mem_map.mp hd
    exact ⟨by simp, by simp⟩
  · have := hr.un
    have : (PyData.int (key x)).depth = 0 := by simp [PyData.depth]
    omega
  · obtain ⟨t, i, rest, rfl, ht, hi, hms⟩ := hY x hx
    obtain rfl : v = Value.ref t := hR
    exact lam_turn I2 L hN hj (by have := hr.dp; show X.A.depth < _; omega) hf hco hbind hM2 (extn_sqT eN ht) hi hms d1 d2 d3 h tk kp
  · rw [PySem.W.dataLe_int] at eo
    have pm : (ys.mergeSort fun a b => decide (key a ≤ key b)).Perm ys := List.mergeSort_perm ys _
    have pw : (ys.mergeSort fun a b => decide (key a ≤ key b)).Pairwise (fun y z => key y ≤ key z) :=
      (List.pairwise_mergeSort (le := fun a b => decide (key a ≤ key b)) (fun a b c h1 h2 => by simp only [decide_eq_true_eq] at h1 h2 ⊢; omega) (fun a b => by simp only [Bool.or_eq_true, decide_eq_true_eq]; omega) ys).imp fun h => of_decide_eq_true h
    exact ⟨.ref _, upd H2 (s2.heap.objs.size + 1) (.lst (ys.mergeSort fun a b => decide (key a ≤ key b))), I2.laid (t' := tk) kp (Nat.le_succ _) ⟨by rw [pm.length_eq]; exact hz, out, cc, vals_each eo, hD⟩, rfl, q H2 eN T2 _ _ (I2.hok.fresh (Nat.le_succ _)) pm pw⟩
end
end Fs
set_option Elab.async false
set_option maxRecDepth 100000
set_option maxHeartbeats 2000000
namespace Fs
open PySem PySem.Spec PyProof.Rows L2 LamX
/-! ### min(xs), xs a list of rows of ints -/
abbrev dRow (r : List Int) : PyData := .list (r.map .int)
theorem alike_ints : ∀ xs ys : List Int, PySem.W.alikeAll (xs.map .int) (ys.map .int) = true
  | [], _ => by simp [PySem.W.alikeAll]
  | _ :: _, [] => by simp [PySem.W.alikeAll]
  | x :: xs, y :: ys => by
    have ih := alike_ints xs ys
    simp [PySem.W.alikeAll, PySem.W.alike, ih]
theorem alike_rows (r q : List Int) : PySem.W.alike (dRow r) (dRow q) = true := by
  show PySem.W.alike (.list (r.map .int)) (.list (q.map .int)) = true
  rw [PySem.W.alike]
  exact alike_ints r q
theorem depth_ints : ∀ xs : List Int, PyData.depthAll (xs.map .int) = 0
  | [] => by simp [PyData.depthAll]
  | x :: xs => by
    have ih := depth_ints xs
    simp [PyData.depthAll, PyData.depth, ih]
theorem depth_rows : ∀ l : List (List Int), PyData.depthAll (l.map dRow) ≤ 1
  | [] => by simp [PyData.depthAll]
  | r :: l => by
    have ih := depth_rows l
    have h1 : (dRow r).depth = 1 := by
      show (PyData.list (r.map .int)).depth = 1
      rw [PyData.depth, depth_ints]
    rw [List.map_cons, PyData.depthAll, h1]
    omega
theorem lt_rows (r q : List Int) : PySem.W.dataLt (dRow r) (dRow q) = decide (r < q) := by
  show PySem.W.dataLt (.list (r.map .int)) (.list (q.map .int)) = _
  rw [PySem.W.dataLt_list]
  exact PySem.W.dataLt_ints r q
def minRow (x : List Int) (l : List (List Int)) : List Int := l.foldl (fun a y => if y < a then y else a) x
theorem minD_rows : ∀ (l : List (List Int)) (x : List Int), PySem.W.minD (dRow x) (l.map dRow) = dRow (minRow x l)
  | [], _ => rfl
  | y :: l, x => by
    have ih := minD_rows l
    unfold PySem.W.minD minRow at ih ⊢
    rw [List.map_cons, List.foldl_cons, List.foldl_cons, lt_rows]
    by_cases h : y < x
    · rw [if_pos h, if_pos (decide_eq_true h)]
      exact ih y
    · rw [if_neg h, if_neg (by simp [h])]
      exact ih x
theorem minRow_le : ∀ (l : List (List Int)) (x : List Int), minRow x l ≤ x ∧ ∀ y ∈ l, minRow x l ≤ y
  | [], x => ⟨List.le_refl _, fun y hy => by cases hy⟩
  | y :: l, x => by
    have ih := minRow_le l
    show minRow (if y < x then y else x) l ≤ x ∧ ∀ z ∈ y :: l, minRow (if y < x then y else x) l ≤ z
    by_cases h : y < x
    · rw [if_pos h]
      obtain ⟨h1, h2⟩ := ih y
      refine ⟨List.le_trans h1 (List.le_of_lt h), fun z hz => ?_⟩
      rcases List.mem_cons.mp hz with rfl | hz
      · exact h1
      · exact h2 z hz
    · rw [if_neg h]
      obtain ⟨h1, h2⟩ := ih x
      refine ⟨h1, fun z hz => ?_⟩
      rcases List.mem_cons.mp hz with rfl | hz
      · exact List.le_trans h1 (List.not_lt.mp h)
      · exact h2 z hz
theorem reads_ints {h : Heap} : ∀ {ns : List Int} {us : List Value}, Vals (ns.map V.int) us → ReadsAll h us (ns.map .int) []
  | [], _, .nil => .nil
  | n :: ns, _, .cons a b => by
    obtain ⟨t, rfl⟩ := a
    exact .cons (as := []) (bs := []) (.int n t) (reads_ints b)
section
variable {X : Cx}
def rMinRows (K : PySem.W.Frag) : List V → Hp → VK → Prop := fun vs H Q => ∃ (a : Addr) (ys : List V) (rows : V → List Int), vs = [.ref a] ∧ SqL K H a ys ∧ ys ≠ [] ∧ (∀ y ∈ ys, ∃ t, y = .ref t ∧ SqL K H t ((rows y).map V.int)) ∧
  ∀ y ∈ ys, (∀ z ∈ ys, rows y ≤ rows z) → Q y H
theorem reads_rows {pins : List (Addr × Obj)} {s : Shared} {σ : L2.St} {H : Hp} {rows : V → List Int} (I : Inv X pins σ H s) : ∀ {ys : List V} {us : List Value}, Vals ys us → (∀ y ∈ ys, ∃ t, y = .ref t ∧ SqL X.K H t ((rows y).map V.int)) →
    ∃ as, ReadsAll s.heap us (ys.map fun y => dRow (rows y)) as
  | [], _, .nil, _ => ⟨[], .nil⟩
  | y :: ys, _, .cons (b := u) a b, h => by
    obtain ⟨as, ih⟩ := reads_rows (rows := rows) I b fun z hz => h z (List.mem_cons_of_mem _ hz)
    obtain ⟨t, ey, ht⟩ := h y List.mem_cons_self
    have a' := a
    rw [ey] at a'
    obtain rfl : u = Value.ref t := a'
    obtain ⟨its, rv, ⟨o, n, e1, e2, _, e3⟩, _⟩ := I.list ht
    exact ⟨_, .cons (.list e1 e2 e3 (reads_ints rv)) ih⟩
theorem cr_minRows (hc : X.calm = true) {k : Nat} (hr : Room k X.A) : CallR X (.builtin "min") (rMinRows X.K) := by
  intro pins s σ H xs us Q I r h
  obtain ⟨a, ys, rows, rfl, hA, hne, hY, q⟩ := h
  obtain rfl := Vals.ref1 r
  obtain ⟨its, rv, pl, hz⟩ := I.list hA
  obtain ⟨as, hrd⟩ := reads_rows (rows := rows) I rv hY
  obtain ⟨y0, ys', rfl⟩ : ∃ y0 ys', ys = y0 :: ys' := by
    cases ys with
    | nil => exact absurd rfl hne
    | cons y r => exact ⟨y, r, rfl⟩
  have hal : PySem.W.AlikeAll (dRow (rows y0) :: (ys'.map rows).map dRow) := by
    refine ⟨fun d hd d' hd' => ?_, fun d hd => ?_⟩
    · have f : ∀ d, d ∈ (dRow (rows y0) :: (ys'.map rows).map dRow) → ∃ r, d = dRow r := fun d hd => by
        rcases List.mem_cons.mp hd with rfl | hd
        · exact ⟨_, rfl⟩
        · obtain ⟨r, _, rfl⟩ := List.mem_map.mp hd
          exact ⟨r, rfl⟩
      obtain ⟨r1, rfl⟩ := f d hd
      obtain ⟨r2, rfl⟩ := f d' hd'
      exact alike_rows r1 r2
    · rcases List.mem_cons.mp hd with rfl | hd
      · simp
      · obtain ⟨r, _, rfl⟩ := List.mem_map.mp hd
        simp
  have em : (y0 :: ys').map (fun y => dRow (rows y)) = dRow (rows y0) :: (ys'.map rows).map dRow := by
    rw [List.map_cons, List.map_map]
    rfl
  have hrd' : ReadsAll s.heap its.toArray.toList (dRow (rows y0) :: (ys'.map rows).map dRow) as := by
    rw [← em]
    exact hrd
  refine PySem.W.min_list_data (I.ok.hd hc) pl.isList hrd' hal ?_ fun i v h' tk bs hv hrv kp => ?_
  · have h1 := depth_rows (rows y0 :: ys'.map rows)
    have h2 := hr.un
    rw [List.map_cons] at h1
    omega
  · have hi : i < its.length := by
      have := (Array.getElem?_eq_some_iff.mp hv).1
      simpa using this
    have hiy : i < (y0 :: ys').length := by rw [rv.length]; exact hi
    have hy : (y0 :: ys')[i]? = some (y0 :: ys')[i] := List.getElem?_eq_getElem hiy
    obtain ⟨v', ev, rel⟩ := rv.get hy
    have evv : v' = v := by
      have hv2 : its[i]? = some v := by simpa using hv
      rw [hv2] at ev
      exact (Option.some.inj ev).symm
    subst evv
    have hmem : (y0 :: ys')[i] ∈ y0 :: ys' := List.getElem_mem hiy
    generalize (y0 :: ys')[i] = y at hy rel hmem
    obtain ⟨t, ey, ht⟩ := hY y hmem
    have rel' := rel
    rw [ey] at rel'
    obtain rfl : v' = Value.ref t := rel'
    obtain ⟨its2, rv2, ⟨o, n, e1, e2, _, e3⟩, _⟩ := I.list ht
    have rd2 : Reads h' (.ref t) (dRow (rows y)) (t :: []) := .list (kp _ _ e1) e2 e3 (reads_ints rv2)
    rw [minD_rows] at hrv
    have eq1 := PySem.W.alike_unique _ _ _ _ _ (alike_rows _ _) rd2 hrv
    have hdec := minRow_le (ys'.map rows) (rows y0)
    have hle : ∀ z ∈ y0 :: ys', minRow (rows y0) (ys'.map rows) ≤ rows z := fun z hz => by
      rcases List.mem_cons.mp hz with rfl | hz
      · exact hdec.1
      · exact hdec.2 _ (List.mem_map.mpr ⟨z, hz, rfl⟩)
    have inj : ∀ a b : List Int, dRow a = dRow b → a = b := fun a b e => by
      have e' : a.map PyData.int = b.map PyData.int := PyData.list.inj e
      exact (List.map_inj_right (fun x y h => PyData.int.inj h)).mp e'
    have eq2 := inj _ _ eq1
    exact ⟨y, H, I.kept kp, rel, q y hmem fun z hz => by rw [eq2]; exact hle z hz⟩
end
end Fs
set_option Elab.async false
set_option maxRecDepth 100000
set_option maxHeartbeats 2000000
namespace Fs
open PySem PySem.Spec PyProof.Rows L2 LamX
open PySem.W (Codec OpenSpec WData Well WellAll ReadsW)
/-! ### the end of a row whose program makes lambdas: the tables of the code objects at cs are tracked -/
mutual
theorem dw_mono {K : PySem.W.Frag} {H H' : Hp} (e : ∀ b o, H b = some o → H' b = some o) : ∀ {v : V} {d : WData}, Dw K H v d → Dw K H' v d
  | _, _, .non => .non
  | _, _, .bl b => .bl b
  | _, _, .int i => .int i
  | _, _, .str x => .str x
  | _, _, .byt b => .byt b
  | _, _, .lst h a => .lst (extn_sqL (fun b o q _ => e b o q) h) (dwAll_mono e a)
  | _, _, .tup h a => .tup (extn_sqT (fun b o q _ => e b o q) h) (dwAll_mono e a)
theorem dwAll_mono {K : PySem.W.Frag} {H H' : Hp} (e : ∀ b o, H b = some o → H' b = some o) : ∀ {vs : List V} {ds : List WData}, DwAll K H vs ds → DwAll K H' vs ds
  | _, _, .nil => .nil
  | _, _, .cons a b => .cons (dw_mono e a) (dwAll_mono e b)
end
/-- what is tracked at the call: the tables, and the arguments' objects -/
def tabH (cs : List (Addr × Addr)) (H : Hp) : Hp := fun b => if b ∈ cs.map (·.2) then some (.tbl #[]) else H b
/-- nothing is tracked but tables and what is known to the object -/
def OnlyFT (H : Hp) : Prop := ∀ b, H b = none ∨ (∃ o u, H b = some (.frz o u)) ∨ ∃ ps, H b = some (.tbl ps)
theorem spec_callT {P : Program} {w : World} {K : PySem.W.Frag} {mg mb : Str → Option Value} {CX : CXT} {k : Nat} {fa : Addr} {cs : List (Addr × Addr)} {fd : FuncData} {ps : List Str} {sp : Sp} {s1 : Shared} {vals : List Value} {ds : List WData} {R : PySem.W.WRecords} {cl : Str → Option Addr} {d0 : WData}
    (KX : K.In s1.heap) (gn : s1.heap.Ns mainGlobals mg) (bn : s1.heap.Ns builtinsNs mb) (bb : ∀ x : Str, x ≠ "__name__" → mb x = bootBuiltins x) (lim : s1.heap.NoLimit) (hg : s1.gens = #[])
    (hT : ∀ p ∈ cs, s1.heap.get? p.2 = some { cls := .none, data := .fields #[] }) (nT : ∀ p ∈ cs, K.lookup p.2 = none) (C : ∀ p ∈ cs, PySem.W.CodeHd s1.heap p.1 p.2)
    (hbm : ∃ (bm : Addr) (ob : Obj), mg "__builtins__" = some (.ref bm) ∧ bm ≠ builtinsNs ∧ s1.heap.get? bm = some ob ∧ ob.cls = .type "module" ∧ ob.dict = some builtinsNs ∧ ob.data = .plain)
    (hwl : WellAll w.params s1.heap vals ds) (hpl : plWs ds = true) (hwt : ∀ d ∈ ds, d.weight ≤ 1048576) (hr : Room k callerA)
    (F : ∀ base : Heap, K.In base → base.Ns mainGlobals mg → (∀ p ∈ cs, TabB base mg p.1 p.2) → FnOk P w K mg base CX k fa fd ps sp) (hbind : ∀ (s : Shared) (us : List Value), us.length = ps.length → BindsTo s fd ⟨us, []⟩ (ps.zip us)) (hlen : ds.length = ps.length)
    (hsp : ∀ (H : Hp) (xs : List V), (∀ p ∈ cs, H p.2 = some (.tbl #[])) → OnlyFT H → DwAll K H xs ds → sp xs H (fun v H' => Dw K H' v d0) fun _ _ _ => False)
    (hCX : ∀ H e s', CX [] H s1 (fun _ _ _ => False) e s' → False) :
    codeAny (model P w) callerA (.call (.ref fa) ⟨vals, []⟩) (fun r s' => ∃ u as, r = .ok (.ret u) ∧ ReadsW R cl s'.heap u d0 as ∧ OldK s1.heap s'.heap ∧ s'.os = s1.os ∧ AllBare s'.gens) s1 := by
  obtain ⟨A, ho, ar⟩ := area_all ds vals hwl hpl hwt
  have onlyA : OnlyF (argH K s1.heap A) := argH_only ar
  have okA : HOk P w (argH K s1.heap A) s1.heap := argH_ok ar
  have dwA := dw_all KX ar ds vals hwl hpl ho
  have isT : ∀ b : Addr, b ∈ cs.map (·.2) → s1.heap.get? b = some { cls := .none, data := .fields #[] } := fun b q => by
    obtain ⟨p, hp, rfl⟩ := List.mem_map.mp q
    exact hT p hp
  have memT : ∀ p ∈ cs, p.2 ∈ cs.map (·.2) := fun p hp => List.mem_map.mpr ⟨p, hp, rfl⟩
  -- an argument's object is a list or a tuple
  have seqA : ∀ {b : Addr} {u : HO}, argH K s1.heap A b = some u → K.lookup b = none ∧ ∃ (o : Obj) (vs : Array Value) (n : Nat), s1.heap.get? b = some o ∧ o.data = .seq vs n := fun {b u} q => by
    obtain ⟨z, vs, _, _, ⟨e, _⟩ | ⟨e, _⟩⟩ := argH_is ar q
    · exact ⟨z, _, _, _, e, rfl⟩
    · exact ⟨z, _, _, _, e, rfl⟩
  have apart : ∀ b, b ∈ cs.map (·.2) → argH K s1.heap A b = none := fun b hb => by
    cases q : argH K s1.heap A b with
    | none => rfl
    | some u =>
      obtain ⟨_, o, vs, n, e, d⟩ := seqA q
      rw [isT b hb] at e
      cases e
      cases d
  generalize eH : tabH cs (argH K s1.heap A) = H
  have atT : ∀ b, b ∈ cs.map (·.2) → H b = some (.tbl #[]) := fun b hb => by
    rw [← eH]
    exact if_pos hb
  have atA : ∀ b, b ∉ cs.map (·.2) → H b = argH K s1.heap A b := fun b hb => by
    rw [← eH]
    exact if_neg hb
  have up : ∀ b o, argH K s1.heap A b = some o → H b = some o := fun b o e => by
    rw [atA b fun z => by rw [apart b z] at e; cases e]
    exact e
  have noH : ∀ {b : Addr} {o : Obj}, s1.heap.get? b = some o → (∀ vs n, o.data ≠ .seq vs n) → o.data ≠ .fields #[] → H b = none := fun {b o} e q1 q2 => by
    by_cases hb : b ∈ cs.map (·.2)
    · rw [isT b hb] at e
      cases e
      exact absurd rfl q2
    · rw [atA b hb]
      cases q : argH K s1.heap A b with
      | none => rfl
      | some u =>
        obtain ⟨_, o', vs, n, e', d⟩ := seqA q
        rw [e] at e'
        cases e'
        exact absurd d (q1 vs n)
  have okH : HOk P w H s1.heap := fun b u q => by
    by_cases hb : b ∈ cs.map (·.2)
    · rw [atT b hb] at q
      cases q
      exact isT b hb
    · rw [atA b hb] at q
      refine (okA b u q).stay (fun c v _ r => r) (fun c r => up c _ r) fun c xs r => up c _ r
  have nK : ∀ b o, K.lookup b = some o → H b = none := fun b o e => by
    by_cases hb : b ∈ cs.map (·.2)
    · obtain ⟨p, hp, rfl⟩ := List.mem_map.mp hb
      rw [nT p hp] at e
      cases e
    · rw [atA b hb]
      cases q : argH K s1.heap A b with
      | none => rfl
      | some u =>
        rw [(seqA q).1] at e
        cases e
  have onlyT : OnlyFT H := fun b => by
    by_cases hb : b ∈ cs.map (·.2)
    · exact .inr (.inr ⟨_, atT b hb⟩)
    · rw [atA b hb]
      rcases onlyA b with z | ⟨o, u, z⟩
      · exact .inl z
      · exact .inr (.inl ⟨o, u, z⟩)
  have bas : ∀ {b : Addr} {o : Obj}, s1.heap.get? b = some o → H b = none → (hidT s1.heap H).get? b = some o := fun e n => hidT_get e n
  have nsK : ∀ {b : Addr} {m : Str → Option Value}, s1.heap.Ns b m → (hidT s1.heap H).Ns b m := fun {b m} ⟨o, es, ep, e, d, r⟩ => ⟨o, es, ep, bas e (noH e (fun vs n z => by rw [d] at z; cases z) fun z => by rw [d] at z; cases z), d, r⟩
  have hKb : K.In (hidT s1.heap H) := fun b o e => bas (KX b o e) (nK b o e)
  have hM : L2.Mod K mg (hidT s1.heap H) := ⟨hKb, nsK gn, ⟨mb, nsK bn, bb⟩, let ⟨mc, l1, l2⟩ := lim; ⟨mc, nsK l1, l2⟩⟩
  have TB : ∀ p ∈ cs, TabB (hidT s1.heap H) mg p.1 p.2 := fun p hp => by
    refine ⟨?_, ?_, fun z => ?_⟩
    · obtain ⟨o, us, file, tf, flags, tg, inF, text, tt, e1, r1, r2, r3, r4, r5, r6, r7, r8, hne⟩ := C p hp
      exact ⟨o, us, file, tf, flags, tg, inF, text, tt, bas e1 (noH e1 (fun vs n z => by rw [r2] at z; cases z) fun z => by rw [r2] at z; cases z; simp at r3), r1, r2, r3, r4, r5, r6, r7, r8, hne⟩
    · obtain ⟨bm, ob, b1, b2, b3, b4, b5, b6⟩ := hbm
      refine ⟨bm, ob, b1, b2, fun q => ?_, fun q => ?_, bas b3 (noH b3 (fun vs n z => by rw [b6] at z; cases z) fun z => by rw [b6] at z; cases z), b4, b5, b6⟩
      · obtain ⟨o, es, ep, e, hd, _⟩ := gn
        rw [q, e] at b3
        cases b3
        rw [hd] at b6
        cases b6
      · rw [q, hT p hp] at b3
        cases b3
        cases b6
    · obtain ⟨o, es, ep, e, hd, _⟩ := gn
      rw [z, hT p hp] at e
      cases e
      cases hd
  have e0 : Env0 P w K mg (hidT s1.heap H) callerA [] s1 H := ⟨rfl, hM, fun b o e => of_hidT e, Nat.le_of_eq (hidT_size _ _), trivial, fun b hb => absurd (show b ∈ ([] : List Addr) from hb) (by simp), okH, .of_eq hg⟩
  have lv : vals.length = ps.length := (wellAll_len hwl).trans hlen
  refine codeAny_mono ((F _ hKb (nsK gn) TB).run callerA [] s1 H ⟨vals, []⟩ vals (vals.map toV) _ _ hr e0 (hbind s1 vals lv) (vals_toV ho) (hsp H _ (fun p hp => atT _ (memT p hp)) onlyT (dwAll_mono up dwA))) fun r s' x => ?_
  cases r with
  | error e => exact (hCX H e s' x).elim
  | ok fl =>
    cases fl with
    | next => exact False.elim x
    | brk => exact False.elim x
    | cont => exact False.elim x
    | ret u =>
      obtain ⟨v, H', os, bare, un, okH', rv, q⟩ := x
      have kept : ∀ b o, b ∉ cs.map (·.2) → s1.heap.get? b = some o → s'.heap.get? b = some o := fun b o nb e => by
        cases q2 : H b with
        | none => exact un.keep b o e q2 (by intro z; exact absurd (show b ∈ ([] : List Addr) from z) (by simp)) (by simp)
        | some u2 =>
          rcases onlyA b with z | ⟨ob, u3, z⟩
          · rw [atA b nb, z] at q2
            cases q2
          · have z1 := up b _ z
            obtain ⟨g1, _⟩ := okH b _ z1
            obtain ⟨g2, _⟩ := okH' b _ (un.frzs b ob _ z1)
            rw [e] at g1
            cases g1
            exact g2
      have grown : ∀ b, b ∈ cs.map (·.2) → ∃ more : Array Value, s'.heap.get? b = some { cls := .none, data := .fields more } := fun b hb => by
        obtain ⟨more, z⟩ := un.tbls b #[] (atT b hb)
        exact ⟨_, okH' b _ z⟩
      have KX' : K.In s'.heap := fun b o e => kept b o (fun hb => by have z := nK b o e; rw [atT b hb] at z; cases z) (KX b o e)
      obtain ⟨as, hrd⟩ := Dw.reads (R := R) (cl := cl) okH' KX' d0 v u q rv
      refine ⟨u, as, rfl, hrd, ⟨fun b o e => ?_, fun b o e => ?_⟩, os, bare⟩
      · by_cases hb : b ∈ cs.map (·.2)
        · obtain ⟨p, hp, rfl⟩ := List.mem_map.mp hb
          obtain ⟨more, hm⟩ := grown p.2 hb
          rw [hT p hp] at e
          cases e
          exact .inr (.inl ⟨((C p hp).tab (hT p hp)).isCodeTable, rfl, #[], more, rfl, by rw [Array.empty_append]; exact hm⟩)
        · exact .inl (kept b o hb e)
      · by_cases hb : b ∈ cs.map (·.2)
        · obtain ⟨more, hm⟩ := grown b hb
          exact ⟨_, hm⟩
        · exact ⟨o, kept b o hb e⟩
/-- what is known of the def's promise at the head's heap -/
def SpecAt (r : OpenSpec) (w : World) (K : PySem.W.Frag) (CX : CXT) (k : Nat) (ps : List Str) (mg : Str → Option Value) (fa : Addr) (h : Heap) : Prop :=
  ∃ (fd : FuncData) (cs : List (Addr × Addr)) (sp : Sp), (∀ p ∈ cs, h.get? p.2 = some { cls := .none, data := .fields #[] }) ∧ (∀ p ∈ cs, K.lookup p.2 = none) ∧ (∀ p ∈ cs, PySem.W.CodeHd h p.1 p.2) ∧
    (∀ (s : Shared) (us : List Value), us.length = ps.length → BindsTo s fd ⟨us, []⟩ (ps.zip us)) ∧
    (∀ (H : Hp) (xs : List V) (a : Codec.denoteAll r.args), (∀ p ∈ cs, H p.2 = some (.tbl #[])) → OnlyFT H → Codec.withinAll r.args a = true → Codec.app r.args r.asked a = true → DwAll K H xs (Codec.encAll r.args a) →
      sp xs H (fun v H' => Dw K H' v (r.ret.enc (Codec.app r.args r.f a))) fun _ _ _ => False) ∧
    ∀ base : Heap, K.In base → base.Ns mainGlobals mg → (∀ p ∈ cs, TabB base mg p.1 p.2) → FnOk r.prog w K mg base CX k fa fd ps sp
theorem walk_specT {r : OpenSpec} {k : Nat} {q : Program} {loose : List Str} {XP : (Str → Option Value) → Heap → Prop} {YP : World → Heap → Prop} {d : DefRec} {K : Params → PySem.W.Frag} {CX : World → CXT} {ps : List Str}
    (hwell : r.wellSaid = true) (hdf : d.params.defaults = []) (hlen : r.args.length = ps.length) (hr : Room k callerA) (hY : ∀ (w : World) (h : Heap), YP w h → (K w.params).In h)
    (F : ∀ (w : World) (mg mb : Str → Option Value) (mean : ExcName → Option Value) (fa : Addr) (h : Heap), YP w h → (K w.params).In h → PyProof.Rows.Top q (PySem.W.looseW q loose) mean mg mb h → mg d.name = some (.ref fa) → SpecAt r w (K w.params) (CX w) k ps mg fa h)
    (hCX : ∀ (w : World) (H : Hp) (s : Shared) (e : Value) (s' : Shared), CX w [] H s (fun _ _ _ => False) e s' → False) :
    PySem.W.WalkOS q loose XP YP r d [] (fun f vs => PySem.call f vs) := by
  intro w s0 s1 mg mb G Y fa o pm cd doc dV kV ho hd hcd hD hmg hg args vals as hpre hlay hrd hwl hlo
  obtain ⟨a, e1, e2⟩ := PySem.W.os_pre_some hpre
  obtain ⟨e3, hwi⟩ := Codec.encAll_of_decAll r.args args a e1
  subst e3
  have KX := hY w _ Y
  obtain ⟨fd, cs, sp, t1, t2, t3, hb, hsp, hF⟩ := F w mg mb _ fa _ Y KX G.T hmg
  refine PySem.W.enter_call (codeAny_mono (spec_callT (R := []) (cl := classAt s0.heap) (d0 := r.ret.enc (Codec.app r.args r.f a)) KX G.T.g G.T.b G.T.builtins G.T.nolimit hg t1 t2 t3 G.T.bmain hwl (pl_encAll _ _) (layable_weight hlay) hr hF hb (by rw [encAll_len]; exact hlen)
    (fun H xs hO hF hS => hsp H xs a hO hF hwi e2 hS) fun H e s' => hCX w H s1 e s') fun r' s' hq => ?_)
  obtain ⟨u, as', rfl, h1, h2, h3, h4⟩ := hq
  exact ⟨.inl ⟨u, _, as', rfl, fun _ => rfl, h1, (OpenSpec.post_iff hwell hwi _ _).mpr rfl, fun z => Bool.noConfusion (show false = true from z)⟩, h2, h3, h4⟩
end Fs
namespace Fs
open Mu49
/-! ### most -/
theorem foldl_max (l : List Nat) : ∀ a, l.foldl (fun (a b : Nat) => max a b) a = max a (most l) := by
  unfold most
  induction l with
  | nil => intro a; simp
  | cons x l ih =>
    intro a
    rw [List.foldl_cons, List.foldl_cons, ih (max a x), ih (max 0 x)]
    omega
theorem most_cons (x : Nat) (l : List Nat) : most (x :: l) = max x (most l) := by
  show List.foldl _ (max 0 x) l = _
  rw [foldl_max]
  omega
theorem most_nil : most [] = 0 := rfl
theorem most_snoc (l : List Nat) (x : Nat) : most (l ++ [x]) = max (most l) x := by
  unfold most
  rw [List.foldl_append]
  rfl
theorem le_most {l : List Nat} {x : Nat} (h : x ∈ l) : x ≤ most l := by
  induction l with
  | nil => cases h
  | cons y l ih =>
    rw [most_cons]
    rcases List.mem_cons.mp h with rfl | h
    · omega
    · have := ih h; omega
theorem most_le {l : List Nat} {b : Nat} (h : ∀ x ∈ l, x ≤ b) : most l ≤ b := by
  induction l with
  | nil => exact Nat.zero_le _
  | cons y l ih =>
    rw [most_cons]
    have h1 := h y List.mem_cons_self
    have h2 := ih fun x hx => h x (List.mem_cons_of_mem _ hx)
    omega
theorem most_congr {l m : List Nat} (h : ∀ x, x ∈ l ↔ x ∈ m) : most l = most m :=
  Nat.le_antisymm (most_le fun x hx => le_most ((h x).mp hx)) (most_le fun x hx => le_most ((h x).mpr hx))
theorem most_mem {l : List Nat} (h : most l ≠ 0) : most l ∈ l := by
  induction l with
  | nil => exact absurd rfl h
  | cons y l ih =>
    rw [most_cons] at h ⊢
    by_cases c : most l ≤ y
    · rw [Nat.max_eq_left c]; exact List.mem_cons_self
    · rw [Nat.max_eq_right (by omega)]
      exact List.mem_cons_of_mem _ (ih (by omega))
/-! ### total -/
theorem foldl_add (l : List Nat) : ∀ a, l.foldl (fun (a b : Nat) => a + b) a = a + total l := by
  unfold total
  induction l with
  | nil => intro a; simp
  | cons x l ih =>
    intro a
    rw [List.foldl_cons, List.foldl_cons, ih (a + x), ih (0 + x)]
    omega
theorem total_cons (x : Nat) (l : List Nat) : total (x :: l) = x + total l := by
  show List.foldl _ (0 + x) l = _
  rw [foldl_add]
  omega
theorem total_append : ∀ (l m : List Nat), total (l ++ m) = total l + total m
  | [], m => by simp [total]
  | x :: l, m => by rw [List.cons_append, total_cons, total_cons, total_append l m]; omega
theorem total_sum : ∀ (l : List Nat), ((total l : Nat) : Int) = (l.map fun n : Nat => (n : Int)).sum
  | [] => rfl
  | x :: l => by rw [total_cons, List.map_cons, List.sum_cons, ← total_sum l]; omega
/-! ### worse, rank, due -/
theorem mem_worse {c : Line} {i j : Nat} : j ∈ worse c i ↔ j < many c ∧ beside c i j = true ∧ mark c j < mark c i := by
  unfold worse
  rw [List.mem_filter, List.mem_range, Bool.and_eq_true, decide_eq_true_eq]
def rank (c : Line) (i : Nat) : Nat := ((List.range (many c)).filter fun j => decide (mark c j < mark c i)).length
theorem filter_len_lt {α : Type} {p q : α → Bool} : ∀ {l : List α} {x : α}, x ∈ l → p x = false → q x = true → (∀ y, p y = true → q y = true) → (l.filter p).length < (l.filter q).length
  | [], _, h, _, _, _ => by cases h
  | y :: l, x, h, h1, h2, hs => by
    have mono : (l.filter p).length ≤ (l.filter q).length := by
      clear h
      induction l with
      | nil => simp
      | cons z l ih =>
        rw [List.filter_cons, List.filter_cons]
        by_cases hp : p z = true
        · rw [if_pos hp, if_pos (hs z hp)]; simp; exact ih
        · rw [if_neg hp]
          by_cases hq : q z = true
          · rw [if_pos hq]; simp; omega
          · rw [if_neg hq]; exact ih
    rcases List.mem_cons.mp h with rfl | h
    · rw [List.filter_cons, List.filter_cons, if_neg (by simp [h1]), if_pos h2]
      simp; omega
    · have ih := filter_len_lt h h1 h2 hs
      rw [List.filter_cons, List.filter_cons]
      by_cases hp : p y = true
      · rw [if_pos hp, if_pos (hs y hp)]; simp; exact ih
      · rw [if_neg hp]
        by_cases hq : q y = true
        · rw [if_pos hq]; simp; omega
        · rw [if_neg hq]; exact ih
theorem rank_lt {c : Line} {i j : Nat} (hj : j < many c) (h : mark c j < mark c i) : rank c j < rank c i := by
  refine filter_len_lt (x := j) (List.mem_range.mpr hj) (by simp) (by simp [h]) fun y hy => ?_
  simp only [decide_eq_true_eq] at hy ⊢
  omega
theorem rank_many {c : Line} {i : Nat} (hi : i < many c) : rank c i < many c := by
  have h := filter_len_lt (l := List.range (many c)) (p := fun j => decide (mark c j < mark c i)) (q := fun _ => true) (x := i) (List.mem_range.mpr hi) (by simp) rfl (fun _ _ => rfl)
  have e : ((List.range (many c)).filter fun _ => true).length = many c := by
    rw [List.filter_eq_self.mpr (fun _ _ => rfl), List.length_range]
  rw [e] at h
  exact h
theorem due_fuel {c : Line} : ∀ (f i : Nat), rank c i < f → due c (f + 1) i = due c f i
  | 0, _, h => absurd h (Nat.not_lt_zero _)
  | f + 1, i, h => by
    show most ((worse c i).map fun j => due c (f + 1) j) + 1 = most ((worse c i).map fun j => due c f j) + 1
    congr 2
    refine List.map_congr_left fun j hj => ?_
    obtain ⟨h1, _, h3⟩ := mem_worse.mp hj
    exact due_fuel f j (by have := rank_lt h1 h3; omega)
/-- what a child gets among the fewest -/
def dueOf (c : Line) (i : Nat) : Nat := due c (many c) i
theorem dueOf_eq {c : Line} {i : Nat} (hi : i < many c) : dueOf c i = most ((worse c i).map (dueOf c)) + 1 := by
  unfold dueOf
  rw [← due_fuel (many c) i (rank_many hi)]
  rfl
theorem dueOf_pos {c : Line} {i : Nat} (hi : i < many c) : 1 ≤ dueOf c i := by
  rw [dueOf_eq hi]; omega
theorem due_le {c : Line} : ∀ f i, due c f i ≤ f
  | 0, _ => Nat.le_refl _
  | f + 1, i => by
    show most ((worse c i).map fun j => due c f j) + 1 ≤ f + 1
    have h : most ((worse c i).map fun j => due c f j) ≤ f := most_le fun x hx => by
      obtain ⟨j, _, rfl⟩ := List.mem_map.mp hx
      exact due_le f j
    omega
theorem dueOf_le (c : Line) (i : Nat) : dueOf c i ≤ many c := due_le _ _
theorem fewest_len (c : Line) : (fewest c).length = many c := by simp [fewest]
theorem fewest_get {c : Line} {i : Nat} (hi : i < many c) : (fewest c)[i]? = some (dueOf c i) := by
  unfold fewest dueOf
  rw [List.getElem?_map, List.getElem?_range hi]
  rfl
theorem fewest_getD {c : Line} {i : Nat} (hi : i < many c) : (fewest c).getD i 0 = dueOf c i := by
  rw [List.getD_eq_getElem?_getD, fewest_get hi]; rfl
/-! ### pairs -/
def nbPairs (r n : Nat) : List (Nat × Nat) := (List.range (n - 1)).map (fun i => (i, i + 1)) ++ (if r = 1 then [(0, n - 1)] else [])
def bet1 (ms : List Nat) (p : Nat × Nat) : List (Nat × Nat) :=
  (if ms.getD p.2 0 < ms.getD p.1 0 then [(p.1, p.2)] else []) ++ (if ms.getD p.1 0 < ms.getD p.2 0 then [(p.2, p.1)] else [])
def betPairs (r : Nat) (ms : List Nat) : List (Nat × Nat) := (nbPairs r ms.length).flatMap (bet1 ms)
/-- a line that begin lets stand -/
structure Good (r : Nat) (ms : List Nat) : Prop where
  ring : r ≤ 1
  pos : 1 ≤ ms.length
  six : ms.length ≤ 6
  three : r = 1 → 3 ≤ ms.length
def lin (r : Nat) (ms : List Nat) : Line := ⟨r == 1, ms⟩
theorem mem_nb {r n i j : Nat} : (i, j) ∈ nbPairs r n ↔ (i + 1 = j ∧ j < n) ∨ (r = 1 ∧ i = 0 ∧ j = n - 1) := by
  unfold nbPairs
  rw [List.mem_append, List.mem_map]
  constructor
  · rintro (⟨a, h, e⟩ | h)
    · rw [List.mem_range] at h
      cases e
      exact .inl ⟨rfl, by omega⟩
    · by_cases c : r = 1
      · rw [if_pos c, List.mem_singleton] at h
        cases h
        exact .inr ⟨c, rfl, rfl⟩
      · rw [if_neg c] at h; cases h
  · rintro (⟨h1, h2⟩ | ⟨h1, h2, h3⟩)
    · exact .inl ⟨i, List.mem_range.mpr (by omega), by rw [h1]⟩
    · rw [if_pos h1, h2, h3]; exact .inr List.mem_cons_self
theorem mem_bet1 {ms : List Nat} {p : Nat × Nat} {i j : Nat} : (i, j) ∈ bet1 ms p ↔ ms.getD j 0 < ms.getD i 0 ∧ (p = (i, j) ∨ p = (j, i)) := by
  unfold bet1
  obtain ⟨a, b⟩ := p
  rw [List.mem_append]
  constructor
  · rintro (h | h)
    · by_cases c : ms.getD b 0 < ms.getD a 0
      · rw [if_pos c, List.mem_singleton] at h
        cases h
        exact ⟨c, .inl rfl⟩
      · rw [if_neg c] at h; cases h
    · by_cases c : ms.getD a 0 < ms.getD b 0
      · rw [if_pos c, List.mem_singleton] at h
        cases h
        exact ⟨c, .inr rfl⟩
      · rw [if_neg c] at h; cases h
  · rintro ⟨h, e | e⟩
    · cases e; rw [if_pos h]; exact .inl List.mem_cons_self
    · cases e; rw [if_pos h]; exact .inr List.mem_cons_self
theorem mem_bet {r : Nat} {ms : List Nat} (g : Good r ms) {i j : Nat} : (i, j) ∈ betPairs r ms ↔ i < ms.length ∧ j ∈ worse (lin r ms) i := by
  unfold betPairs
  rw [List.mem_flatMap, mem_worse]
  have g3 := g.three
  have g1 := g.pos
  constructor
  · rintro ⟨⟨a, b⟩, h1, h2⟩
    obtain ⟨h3, e⟩ := mem_bet1.mp h2
    rw [mem_nb] at h1
    have hb : beside (lin r ms) i j = true := by
      simp only [beside, lin, many, Bool.or_eq_true, Bool.and_eq_true, beq_iff_eq]
      rcases e with e | e <;> cases e <;> omega
    rcases e with e | e <;> cases e
    · exact ⟨by omega, by show j < ms.length; omega, hb, h3⟩
    · exact ⟨by omega, by show j < ms.length; omega, hb, h3⟩
  · rintro ⟨hi, hj, hb, hm⟩
    have hj : j < ms.length := hj
    simp only [beside, lin, many, Bool.or_eq_true, Bool.and_eq_true, beq_iff_eq] at hb
    rcases hb with hb | hb | ⟨hr, hb | hb⟩
    · exact ⟨(i, j), mem_nb.mpr (.inl ⟨hb, hj⟩), mem_bet1.mpr ⟨hm, .inl rfl⟩⟩
    · exact ⟨(j, i), mem_nb.mpr (.inl ⟨hb, hi⟩), mem_bet1.mpr ⟨hm, .inr rfl⟩⟩
    · exact ⟨(i, j), mem_nb.mpr (.inr ⟨hr, hb.1, by omega⟩), mem_bet1.mpr ⟨hm, .inl rfl⟩⟩
    · exact ⟨(j, i), mem_nb.mpr (.inr ⟨hr, hb.1, by omega⟩), mem_bet1.mpr ⟨hm, .inr rfl⟩⟩
theorem bet_lt {r : Nat} {ms : List Nat} (g : Good r ms) {i j : Nat} (h : (i, j) ∈ betPairs r ms) : i < ms.length ∧ j < ms.length ∧ ms.getD j 0 < ms.getD i 0 := by
  obtain ⟨h1, h2⟩ := (mem_bet g).mp h
  obtain ⟨h3, _, h4⟩ := mem_worse.mp h2
  exact ⟨h1, h3, h4⟩
/-! ### the loop of the fewest -/
def valAt (c : Line) (pre : List (Nat × Nat)) (x : Nat) : Nat := most ((pre.filter fun p => p.1 == x).map fun p => dueOf c p.2) + 1
def valRow (c : Line) (pre : List (Nat × Nat)) : List Nat := (List.range (many c)).map (valAt c pre)
theorem valRow_nil (c : Line) : valRow c [] = List.replicate (many c) 1 := by
  unfold valRow valAt
  rw [List.eq_replicate_iff]
  refine ⟨by simp, fun b hb => ?_⟩
  obtain ⟨x, _, rfl⟩ := List.mem_map.mp hb
  rfl
theorem valRow_get {c : Line} {pre : List (Nat × Nat)} {x : Nat} (h : x < many c) : (valRow c pre)[x]? = some (valAt c pre x) := by
  unfold valRow
  rw [List.getElem?_map, List.getElem?_range h]; rfl
theorem valRow_len (c : Line) (pre : List (Nat × Nat)) : (valRow c pre).length = many c := by simp [valRow]
theorem val_done {r : Nat} {ms : List Nat} (g : Good r ms) {pre : List (Nat × Nat)} {x : Nat} (hx : x < ms.length) (sub : ∀ p ∈ pre, p ∈ betPairs r ms) (all : ∀ j, (x, j) ∈ betPairs r ms → (x, j) ∈ pre) : valAt (lin r ms) pre x = dueOf (lin r ms) x := by
  rw [dueOf_eq (show x < many (lin r ms) from hx)]
  unfold valAt
  congr 1
  refine most_congr fun v => ?_
  rw [List.mem_map, List.mem_map]
  constructor
  · rintro ⟨⟨a, b⟩, h, rfl⟩
    rw [List.mem_filter, beq_iff_eq] at h
    obtain ⟨h1, h2⟩ := h
    have h2 : a = x := h2
    subst h2
    exact ⟨b, ((mem_bet g).mp (sub _ h1)).2, rfl⟩
  · rintro ⟨j, h, rfl⟩
    exact ⟨(x, j), List.mem_filter.mpr ⟨all j ((mem_bet g).mpr ⟨hx, h⟩), by simp⟩, rfl⟩
/-- one turn -/
theorem val_turn {r : Nat} {ms : List Nat} (g : Good r ms) {zs pre post : List (Nat × Nat)} {b v : Nat} (pm : zs.Perm (betPairs r ms)) (pw : zs.Pairwise fun p q => ms.getD p.1 0 ≤ ms.getD q.1 0) (e : zs = pre ++ (b, v) :: post) :
    (valRow (lin r ms) pre).set b (max (valAt (lin r ms) pre b) (valAt (lin r ms) pre v + 1)) = valRow (lin r ms) (pre ++ [(b, v)]) := by
  have mem : ∀ p, p ∈ zs ↔ p ∈ betPairs r ms := fun p => pm.mem_iff
  have hbv := bet_lt g ((mem (b, v)).mp (by rw [e]; simp))
  have ev : valAt (lin r ms) pre v = dueOf (lin r ms) v := by
    refine val_done g hbv.2.1 (fun p hp => (mem p).mp (by rw [e]; exact List.mem_append_left _ hp)) fun j hj => ?_
    have hz := (mem _).mpr hj
    rw [e, List.mem_append] at hz
    rcases hz with hz | hz
    · exact hz
    · exfalso
      rw [e] at pw
      have p2 := (List.pairwise_append.mp pw).2.1
      rcases List.mem_cons.mp hz with hz | hz
      · cases hz; omega
      · have := (List.pairwise_cons.mp p2).1 _ hz
        have h1 : ms.getD b 0 ≤ ms.getD v 0 := this
        omega
  refine List.ext_getElem? fun x => ?_
  by_cases hx : x < many (lin r ms)
  · rw [valRow_get hx]
    by_cases hb : x = b
    · subst hb
      rw [List.getElem?_set_self (by rw [valRow_len]; exact hx), ev]
      congr 1
      unfold valAt
      rw [List.filter_append, List.map_append]
      have : ([(x, v)].filter fun p : Nat × Nat => p.1 == x).map (fun p => dueOf (lin r ms) p.2) = [dueOf (lin r ms) v] := by simp
      rw [this, most_snoc]
      omega
    · rw [List.getElem?_set_ne (by omega), valRow_get hx]
      congr 1
      unfold valAt
      rw [List.filter_append]
      have : ([(b, v)].filter fun p : Nat × Nat => p.1 == x) = [] := by simp; omega
      rw [this, List.append_nil]
  · rw [List.getElem?_eq_none (by rw [List.length_set, valRow_len]; omega), List.getElem?_eq_none (by rw [valRow_len]; omega)]
theorem val_end {r : Nat} {ms : List Nat} (g : Good r ms) {zs : List (Nat × Nat)} (pm : zs.Perm (betPairs r ms)) : valRow (lin r ms) zs = fewest (lin r ms) := by
  refine List.ext_getElem? fun x => ?_
  by_cases hx : x < many (lin r ms)
  · rw [valRow_get hx, fewest_get hx, val_done g hx (fun p hp => pm.mem_iff.mp hp) fun j hj => pm.mem_iff.mpr hj]
  · rw [List.getElem?_eq_none (by rw [valRow_len]; omega), List.getElem?_eq_none (by rw [fewest_len]; omega)]
end Fs
namespace Fs
open Mu49
/-! ### first of a rising list -/
theorem find_least {p : Nat → Bool} : ∀ {l : List Nat} {j : Nat}, l.Pairwise (· < ·) → j ∈ l → p j = true → (∀ y ∈ l, p y = true → j ≤ y) → l.find? p = some j
  | [], _, _, h, _, _ => by cases h
  | x :: l, j, pw, h, hp, hm => by
    rw [List.pairwise_cons] at pw
    rw [List.find?_cons]
    by_cases hx : p x = true
    · rw [hx]
      have h1 := hm x List.mem_cons_self hx
      rcases List.mem_cons.mp h with rfl | h
      · rfl
      · have := pw.1 j h
        omega
    · rw [Bool.eq_false_iff.mpr hx]
      rcases List.mem_cons.mp h with rfl | h
      · exact absurd hp hx
      · exact find_least pw.2 h hp fun y hy => hm y (List.mem_cons_of_mem _ hy)
theorem range_rising (n : Nat) : (List.range n).Pairwise (· < ·) := List.pairwise_lt_range
theorem worse_rising (c : Line) (i : Nat) : (worse c i).Pairwise (· < ·) := (range_rising _).filter _
/-! ### the chain -/
theorem dueOf_lt {c : Line} {i j : Nat} (hi : i < many c) (h : j ∈ worse c i) : dueOf c j < dueOf c i := by
  rw [dueOf_eq hi]
  have := le_most (List.mem_map.mpr ⟨j, h, rfl⟩ : dueOf c j ∈ (worse c i).map (dueOf c))
  omega
theorem dueOf_step {c : Line} {i : Nat} (hi : i < many c) (h : 1 < dueOf c i) : ∃ j, j ∈ worse c i ∧ dueOf c j + 1 = dueOf c i := by
  rw [dueOf_eq hi] at h ⊢
  obtain ⟨j, hj, e⟩ := List.mem_map.mp (most_mem (l := (worse c i).map (dueOf c)) (by omega))
  exact ⟨j, hj, by omega⟩
theorem chain_last {c : Line} {i f : Nat} (hi : i < many c) (h : dueOf c i = 1) : chain c (f + 1) i = [i] := by
  have e : (worse c i).find? (fun (j : Nat) => (fewest c).getD j 0 + 1 == (fewest c).getD i 0) = none := by
    rw [List.find?_eq_none]
    intro j hj
    exfalso
    have h1 := dueOf_lt hi hj
    have h2 := dueOf_pos (mem_worse.mp hj).1
    omega
  rw [chain, e]
theorem chain_next {c : Line} {i j f : Nat} (hi : i < many c) (hj : j ∈ worse c i) (e : dueOf c j + 1 = dueOf c i) (hm : ∀ y ∈ worse c i, dueOf c y + 1 = dueOf c i → j ≤ y) : chain c (f + 1) i = i :: chain c f j := by
  have e2 : (worse c i).find? (fun (j : Nat) => (fewest c).getD j 0 + 1 == (fewest c).getD i 0) = some j := by
    refine find_least (worse_rising c i) hj ?_ fun y hy hp => hm y hy ?_
    · rw [fewest_getD hi, fewest_getD (mem_worse.mp hj).1, beq_iff_eq]
      exact e
    · rw [fewest_getD hi, fewest_getD (mem_worse.mp hy).1, beq_iff_eq] at hp
      exact hp
  rw [chain, e2]
/-! ### judging -/
theorem fair_least {c : Line} {s : List Nat} (h1 : ∀ i, i < many c → 1 ≤ s.getD i 0) (h2 : ∀ i j, i < many c → j ∈ worse c i → s.getD j 0 < s.getD i 0) : ∀ (k i : Nat), i < many c → rank c i < k → dueOf c i ≤ s.getD i 0
  | 0, _, _, h => absurd h (Nat.not_lt_zero _)
  | k + 1, i, hi, h => by
    rw [dueOf_eq hi]
    have hp := h1 i hi
    by_cases z : most ((worse c i).map (dueOf c)) = 0
    · omega
    · obtain ⟨j, hj, e⟩ := List.mem_map.mp (most_mem z)
      obtain ⟨q1, _, q3⟩ := mem_worse.mp hj
      have ih := fair_least h1 h2 k j q1 (by have := rank_lt q1 q3; omega)
      have := h2 i j hi hj
      omega
theorem total_le : ∀ {l m : List Nat}, l.length = m.length → (∀ i, i < l.length → l.getD i 0 ≤ m.getD i 0) → total l ≤ total m
  | [], [], _, _ => Nat.le_refl _
  | [], _ :: _, h, _ => by simp at h
  | _ :: _, [], h, _ => by simp at h
  | x :: l, y :: m, h, hp => by
    rw [total_cons, total_cons]
    have h0 : x ≤ y := hp 0 (by simp)
    have := total_le (l := l) (m := m) (by simpa using h) fun i hi => hp (i + 1) (by simpa using hi)
    omega
theorem none_iff {c : Line} {s : List Nat} : none_ c s = none ↔ ∀ i, i < many c → 1 ≤ s.getD i 0 := by
  unfold none_
  rw [List.find?_eq_none]
  constructor
  · intro h i hi
    have := h i (List.mem_range.mpr hi)
    simp only [beq_iff_eq] at this
    omega
  · intro h i hi
    have := h i (List.mem_range.mp hi)
    simp only [beq_iff_eq]
    omega
theorem wronged_iff {c : Line} {s : List Nat} : wronged c s = none ↔ ∀ i j, i < many c → j ∈ worse c i → s.getD j 0 < s.getD i 0 := by
  unfold wronged
  rw [List.find?_eq_none]
  constructor
  · intro h i j hi hj
    have := h i (List.mem_range.mpr hi)
    rw [List.any_eq_true] at this
    by_cases q : s.getD i 0 ≤ s.getD j 0
    · exact absurd ⟨j, hj, decide_eq_true q⟩ this
    · omega
  · intro h i hi hc
    rw [List.any_eq_true] at hc
    obtain ⟨j, hj, q⟩ := hc
    have := h i j (List.mem_range.mp hi) hj
    have := of_decide_eq_true q
    omega
theorem cost_le {c : Line} {s : List Nat} (hl : s.length = many c) (h1 : none_ c s = none) (h2 : wronged c s = none) : cost c ≤ total s := by
  refine total_le (by rw [fewest_len, hl]) fun i hi => ?_
  rw [fewest_len] at hi
  rw [fewest_getD hi]
  exact fair_least (none_iff.mp h1) (wronged_iff.mp h2) (rank c i + 1) i hi (Nat.lt_succ_self _)
/-- the places of those who get none, in order -/
def emptyOf (n : Nat) (s : List Nat) : List Nat := (List.range n).filter fun i => s.getD i 0 == 0
theorem empty_head (c : Line) (s : List Nat) : none_ c s = (emptyOf (many c) s).head? := by
  unfold none_ emptyOf
  rw [List.head?_filter]
/-- those who get no more than a worse one, in any order -/
def unfairOf (r : Nat) (ms s : List Nat) : List Nat := ((betPairs r ms).filter fun p => decide (s.getD p.1 0 ≤ s.getD p.2 0)).map (·.1)
theorem mem_unfair {r : Nat} {ms s : List Nat} (g : Good r ms) {i : Nat} : i ∈ unfairOf r ms s ↔ i < ms.length ∧ ((worse (lin r ms) i).any fun j => decide (s.getD i 0 ≤ s.getD j 0)) = true := by
  unfold unfairOf
  rw [List.mem_map, List.any_eq_true]
  constructor
  · rintro ⟨⟨a, b⟩, h, rfl⟩
    rw [List.mem_filter] at h
    obtain ⟨h1, h2⟩ := h
    obtain ⟨q1, q2⟩ := (mem_bet g).mp h1
    exact ⟨q1, b, q2, h2⟩
  · rintro ⟨hi, j, hj, h⟩
    exact ⟨(i, j), List.mem_filter.mpr ⟨(mem_bet g).mpr ⟨hi, hj⟩, h⟩, rfl⟩
theorem unfair_head {r : Nat} {ms s us : List Nat} (g : Good r ms) (pm : us.Perm (unfairOf r ms s)) (pw : us.Pairwise (· ≤ ·)) : wronged (lin r ms) s = us.head? := by
  have mem : ∀ i, i ∈ us ↔ i < ms.length ∧ ((worse (lin r ms) i).any fun j => decide (s.getD i 0 ≤ s.getD j 0)) = true := fun i => pm.mem_iff.trans (mem_unfair g)
  unfold wronged
  cases us with
  | nil =>
    show _ = none
    rw [List.find?_eq_none]
    intro i hi h
    have := (mem i).mpr ⟨List.mem_range.mp hi, h⟩
    cases this
  | cons x us =>
    show _ = some x
    rw [List.pairwise_cons] at pw
    have hx := (mem x).mp List.mem_cons_self
    refine find_least (range_rising _) (List.mem_range.mpr hx.1) hx.2 fun y hy hp => ?_
    have := (mem y).mpr ⟨List.mem_range.mp hy, hp⟩
    rcases List.mem_cons.mp this with rfl | h
    · exact Nat.le_refl _
    · exact pw.1 y h
/-! ### shares -/
def ext1 (n rem : Nat) (s : List Nat) : List (List Nat) := (List.range (n - total s - rem)).map fun x => s ++ [x + 1]
/-- the prefixes after so many places -/
def level (k n : Nat) : Nat → List (List Nat)
  | 0 => [[]]
  | p + 1 => (level k n p).flatMap (ext1 n (k - 1 - p))
def lastOf (n : Nat) (l : List (List Nat)) : List (List Nat) := (l.filter fun s => decide (total s < n)).map fun s => s ++ [n - total s]
theorem shares_short : ∀ (k n : Nat), n < k → shares k n = []
  | 0, n, h => absurd h (Nat.not_lt_zero _)
  | k + 1, n, h => by
    rw [shares]
    refine List.flatMap_eq_nil_iff.mpr fun x hx => ?_
    have := List.mem_range.mp hx
    rw [shares_short k (n - (x + 1)) (by omega)]
    rfl
theorem flatMap_cut {α : Type} {f : Nat → List α} {m : Nat} : ∀ {n : Nat}, m ≤ n → (∀ x, m ≤ x → x < n → f x = []) → (List.range n).flatMap f = (List.range m).flatMap f
  | 0, h, _ => by
    have : m = 0 := by omega
    subst this
    rfl
  | n + 1, h, hf => by
    by_cases e : m = n + 1
    · rw [e]
    · rw [List.range_succ, List.flatMap_append, flatMap_cut (n := n) (by omega) fun x a b => hf x a (by omega)]
      have := hf n (by omega) (by omega)
      simp [this]
theorem shares_one (n : Nat) : shares 1 n = if 0 < n then [[n]] else [] := by
  by_cases h : 0 < n
  · rw [if_pos h, shares]
    obtain ⟨m, rfl⟩ : ∃ m, n = m + 1 := ⟨n - 1, by omega⟩
    rw [List.range_succ, List.flatMap_append]
    have e1 : ((List.range m).flatMap fun x => (shares 0 (m + 1 - (x + 1))).map fun l => (x + 1) :: l) = [] := by
      refine List.flatMap_eq_nil_iff.mpr fun x hx => ?_
      have hx := List.mem_range.mp hx
      obtain ⟨q, hq⟩ : ∃ q, m + 1 - (x + 1) = q + 1 := ⟨m - x - 1, by omega⟩
      rw [hq, shares]
      rfl
    rw [e1]
    simp [shares]
  · rw [if_neg h]
    exact shares_short 1 n (by omega)
theorem shares_more (k n : Nat) : shares (k + 2) n = (List.range (n - (k + 1))).flatMap fun x => (shares (k + 1) (n - (x + 1))).map fun l => (x + 1) :: l := by
  rw [shares]
  refine flatMap_cut (by omega) fun x a b => ?_
  rw [shares_short (k + 1) (n - (x + 1)) (by omega)]
  rfl
theorem flatMap_flatMap' {α β γ : Type} (f : α → List β) (g : β → List γ) : ∀ l : List α, (l.flatMap f).flatMap g = l.flatMap fun x => (f x).flatMap g
  | [] => rfl
  | x :: l => by rw [List.flatMap_cons, List.flatMap_append, List.flatMap_cons, flatMap_flatMap' f g l]
/-- the rest of the places done from the prefixes l: q places are left ahead of the last one -/
def finish (k n : Nat) : Nat → List (List Nat) → List (List Nat)
  | 0, l => lastOf n l
  | q + 1, l => finish k n q (l.flatMap (ext1 n (q + 1)))
theorem finish_eq (k n : Nat) : ∀ (q : Nat) (l : List (List Nat)), finish k n q l = l.flatMap fun s => (shares (q + 1) (n - total s)).map fun t => s ++ t
  | 0, l => by
    show lastOf n l = _
    unfold lastOf
    induction l with
    | nil => rfl
    | cons s l ih =>
      rw [List.flatMap_cons, ← ih, List.filter_cons, shares_one]
      by_cases h : total s < n
      · rw [if_pos (decide_eq_true h), if_pos (by omega)]
        rfl
      · rw [if_neg (by simp [h]), if_neg (by omega)]
        rfl
  | q + 1, l => by
    show finish k n q (l.flatMap (ext1 n (q + 1))) = _
    rw [finish_eq k n q, flatMap_flatMap']
    congr 1
    funext s
    unfold ext1
    rw [shares_more, List.flatMap_map, List.map_flatMap]
    congr 1
    funext x
    rw [total_append, List.map_map]
    have e : n - (total s + total [x + 1]) = n - total s - (x + 1) := by
      rw [total_cons]
      show n - (total s + (x + 1 + 0)) = _
      omega
    rw [e]
    refine List.map_congr_left fun t _ => ?_
    simp
theorem level_finish (k n : Nat) : ∀ (p : Nat), p ≤ k → finish (k + 1) n (k - p) (level (k + 1) n p) = finish (k + 1) n k [[]]
  | 0, _ => rfl
  | p + 1, h => by
    rw [← level_finish k n p (by omega)]
    obtain ⟨q, hq⟩ : ∃ q, k - p = q + 1 := ⟨k - p - 1, by omega⟩
    rw [hq, show k - (p + 1) = q by omega]
    show finish (k + 1) n q ((level (k + 1) n p).flatMap (ext1 n (k + 1 - 1 - p))) = finish (k + 1) n q ((level (k + 1) n p).flatMap (ext1 n (q + 1)))
    rw [show k + 1 - 1 - p = q + 1 by omega]
theorem level_shares {k n : Nat} (h : 1 ≤ k) : lastOf n (level k n (k - 1)) = shares k n := by
  obtain ⟨m, rfl⟩ : ∃ m, k = m + 1 := ⟨k - 1, by omega⟩
  have e := level_finish m n m (Nat.le_refl _)
  rw [Nat.sub_self] at e
  show finish (m + 1) n 0 (level (m + 1) n m) = _
  rw [e, finish_eq]
  simp [total]
theorem ext1_len (n rem : Nat) (s : List Nat) : (ext1 n rem s).length ≤ n := by
  unfold ext1
  rw [List.length_map, List.length_range]
  omega
theorem flatMap_len {α β : Type} {f : α → List β} {b : Nat} : ∀ {l : List α}, (∀ x ∈ l, (f x).length ≤ b) → (l.flatMap f).length ≤ l.length * b
  | [], _ => by simp
  | x :: l, h => by
    rw [List.flatMap_cons, List.length_append, List.length_cons, Nat.add_mul]
    have h1 := h x List.mem_cons_self
    have h2 := flatMap_len (l := l) fun y hy => h y (List.mem_cons_of_mem _ hy)
    omega
theorem level_len (k n : Nat) : ∀ p, (level k n p).length ≤ n ^ p
  | 0 => by simp [level]
  | p + 1 => by
    rw [level, Nat.pow_succ]
    exact Nat.le_trans (flatMap_len fun x _ => ext1_len n _ x) (Nat.mul_le_mul_right _ (level_len k n p))
theorem level_row {k n : Nat} : ∀ {p : Nat} {s : List Nat}, s ∈ level k n p → s.length = p ∧ (∀ x ∈ s, x ≤ n)
  | 0, s, h => by
    rw [level, List.mem_singleton] at h
    subst h
    simp
  | p + 1, s, h => by
    rw [level, List.mem_flatMap] at h
    obtain ⟨t, h1, h2⟩ := h
    obtain ⟨q1, q2⟩ := level_row h1
    unfold ext1 at h2
    obtain ⟨x, hx, rfl⟩ := List.mem_map.mp h2
    have hx := List.mem_range.mp hx
    refine ⟨by simp [q1], fun y hy => ?_⟩
    rcases List.mem_append.mp hy with hy | hy
    · exact q2 y hy
    · rw [List.mem_singleton] at hy
      omega
theorem shares_row : ∀ {k n : Nat} {s : List Nat}, s ∈ shares k n → s.length = k ∧ ∀ x ∈ s, 1 ≤ x
  | 0, 0, s, h => by
    rw [shares, List.mem_singleton] at h
    subst h
    simp
  | 0, n + 1, s, h => by
    rw [shares] at h
    cases h
  | k + 1, n, s, h => by
    rw [shares, List.mem_flatMap] at h
    obtain ⟨x, _, h2⟩ := h
    obtain ⟨t, ht, rfl⟩ := List.mem_map.mp h2
    obtain ⟨q1, q2⟩ := shares_row ht
    refine ⟨by simp [q1], fun y hy => ?_⟩
    rcases List.mem_cons.mp hy with rfl | hy
    · omega
    · exact q2 y hy
def okShare (r : Nat) (ms s : List Nat) : Bool := (betPairs r ms).all fun p => decide (s.getD p.2 0 < s.getD p.1 0)
theorem count_eq {r : Nat} {ms : List Nat} (g : Good r ms) (n : Nat) : count (lin r ms) n = ((shares ms.length n).filter (okShare r ms)).length := by
  unfold count
  congr 1
  refine List.filter_congr fun s hs => ?_
  obtain ⟨q1, q2⟩ := shares_row hs
  have e1 : (s.length == many (lin r ms)) = true := by
    rw [beq_iff_eq]
    exact q1
  have e2 : none_ (lin r ms) s = none := none_iff.mpr fun i hi => by
    have hi' : i < s.length := by rw [q1]; exact hi
    have := q2 (s.getD i 0) (by rw [List.getD_eq_getElem?_getD, List.getElem?_eq_getElem hi']; exact List.getElem_mem hi')
    exact this
  unfold fair
  rw [e1, e2]
  show (true && (true && (wronged (lin r ms) s).isNone)) = _
  rw [Bool.true_and, Bool.true_and, Bool.eq_iff_iff, Option.isNone_iff_eq_none, wronged_iff]
  unfold okShare
  rw [List.all_eq_true]
  constructor
  · rintro h ⟨i, j⟩ hp
    obtain ⟨a, b⟩ := (mem_bet g).mp hp
    exact decide_eq_true (h i j a b)
  · intro h i j hi hj
    exact of_decide_eq_true (h (i, j) ((mem_bet g).mpr ⟨hi, hj⟩))
end Fs
namespace Fs
open Mu49
/-! ### orders -/
def grow (n : Nat) (o : List Nat) : List (List Nat) := ((List.range n).filter fun x => !o.contains x).map fun x => o ++ [x]
def tier (n : Nat) : Nat → List (List Nat)
  | 0 => [[]]
  | k + 1 => (tier n k).flatMap (grow n)
def growAll (n : Nat) : Nat → List (List Nat) → List (List Nat)
  | 0, l => l
  | k + 1, l => growAll n k (l.flatMap (grow n))
theorem growAll_eq (n : Nat) : ∀ (k : Nat) (l : List (List Nat)), growAll n k l = l.flatMap fun o => (orders k ((List.range n).filter fun x => !o.contains x)).map fun t => o ++ t
  | 0, l => by
    show l = _
    induction l with
    | nil => rfl
    | cons o l ih =>
      rw [List.flatMap_cons, ← ih]
      simp [orders]
  | k + 1, l => by
    show growAll n k (l.flatMap (grow n)) = _
    rw [growAll_eq n k, flatMap_flatMap']
    congr 1
    funext o
    unfold grow
    rw [orders, List.flatMap_map, List.map_flatMap]
    congr 1
    funext x
    rw [List.map_map, List.filter_filter]
    have e : ((List.range n).filter fun y => !(o ++ [x]).contains y) = (List.range n).filter fun a => a != x && !o.contains a := by
      refine List.filter_congr fun y _ => ?_
      rw [Bool.eq_iff_iff]
      simp only [Bool.not_eq_true', List.contains_eq_mem, decide_eq_false_iff_not, List.mem_append, List.mem_singleton, Bool.and_eq_true, bne_iff_ne, ne_eq, not_or]
      exact And.comm
    rw [e]
    refine List.map_congr_left fun t _ => ?_
    simp
theorem tier_grow (n : Nat) : ∀ (k j : Nat), growAll n k (tier n j) = tier n (j + k)
  | 0, j => rfl
  | k + 1, j => by
    show growAll n k (tier n (j + 1)) = _
    rw [tier_grow n k (j + 1), show j + 1 + k = j + (k + 1) by omega]
theorem tier_orders (n : Nat) : tier n n = orders n (List.range n) := by
  have e := tier_grow n n 0
  rw [Nat.zero_add] at e
  rw [← e, growAll_eq]
  have e2 : ((List.range n).filter fun x => !([] : List Nat).contains x) = List.range n := by
    rw [List.filter_eq_self]
    intro a _
    rfl
  simp only [tier, List.flatMap_cons, List.flatMap_nil, List.append_nil, e2, List.nil_append, List.map_id']
theorem tier_len (n : Nat) : ∀ k, (tier n k).length ≤ n ^ k
  | 0 => by simp [tier]
  | k + 1 => by
    rw [tier, Nat.pow_succ]
    refine Nat.le_trans (flatMap_len (b := n) fun o _ => ?_) (Nat.mul_le_mul_right _ (tier_len n k))
    unfold grow
    rw [List.length_map]
    exact Nat.le_trans (List.length_filter_le _ _) (by rw [List.length_range]; exact Nat.le_refl _)
theorem tier_row {n : Nat} : ∀ {k : Nat} {o : List Nat}, o ∈ tier n k → o.length = k ∧ ∀ x ∈ o, x < n
  | 0, o, h => by
    rw [tier, List.mem_singleton] at h
    subst h
    simp
  | k + 1, o, h => by
    rw [tier, List.mem_flatMap] at h
    obtain ⟨t, h1, h2⟩ := h
    obtain ⟨q1, q2⟩ := tier_row h1
    unfold grow at h2
    obtain ⟨x, hx, rfl⟩ := List.mem_map.mp h2
    rw [List.mem_filter, List.mem_range] at hx
    refine ⟨by simp [q1], fun y hy => ?_⟩
    rcases List.mem_append.mp hy with hy | hy
    · exact q2 y hy
    · rw [List.mem_singleton] at hy
      omega
/-- the orders stand in order -/
theorem orders_rising : ∀ (k : Nat) (l : List Nat), l.Pairwise (· < ·) → (orders k l).Pairwise (· < ·)
  | 0, _, _ => by simp [orders]
  | k + 1, l, h => by
    rw [orders, List.pairwise_flatMap]
    refine ⟨fun x _ => ?_, h.imp fun {a b} hab => ?_⟩
    · rw [List.pairwise_map]
      exact (orders_rising k _ (h.filter _)).imp fun {s t} q => List.cons_lt_cons_iff.mpr (.inr ⟨rfl, q⟩)
    · intro s hs t ht
      obtain ⟨s', _, rfl⟩ := List.mem_map.mp hs
      obtain ⟨t', _, rfl⟩ := List.mem_map.mp ht
      exact List.cons_lt_cons_iff.mpr (.inl hab)
theorem orders_ne : ∀ (k : Nat) (l : List Nat), l.Nodup → k ≤ l.length → orders k l ≠ []
  | 0, _, _, _ => by simp [orders]
  | k + 1, l, nd, h => by
    cases l with
    | nil => simp at h
    | cons x l =>
      rw [orders, List.flatMap_cons]
      have nd' := List.nodup_cons.mp nd
      have e : ((x :: l).filter fun y => y != x) = l := by
        rw [List.filter_cons]
        simp only [bne_self_eq_false, Bool.false_eq_true, if_false]
        rw [List.filter_eq_self]
        intro y hy
        rw [bne_iff_ne]
        rintro rfl
        exact nd'.1 hy
      have ih := orders_ne k l nd'.2 (by simpa using h)
      rw [e]
      intro z
      rw [List.append_eq_nil_iff] at z
      exact ih (List.map_eq_nil_iff.mp z.1)
/-! ### the cheapest -/
theorem cheapest_from {α : Type} (f : α → Nat) : ∀ (l : List α) (m : Nat × α), ∃ y, l.foldl (fun (m : Option (Nat × α)) (x : α) =>
      let n := f x
      match m with
      | none => some (n, x)
      | some y => if n < y.1 then some (n, x) else some y) (some m) = some y ∧
    ((y = m ∧ ∀ x ∈ l, m.1 ≤ f x) ∨ (∃ a b, l = a ++ y.2 :: b ∧ y.1 = f y.2 ∧ y.1 < m.1 ∧ (∀ x ∈ a, y.1 < f x) ∧ ∀ x ∈ b, y.1 ≤ f x))
  | [], m => ⟨m, rfl, .inl ⟨rfl, fun x h => by cases h⟩⟩
  | x :: l, m => by
    rw [List.foldl_cons]
    by_cases h : f x < m.1
    · simp only [h, if_true]
      obtain ⟨y, e, q⟩ := cheapest_from f l (f x, x)
      refine ⟨y, e, .inr ?_⟩
      rcases q with ⟨rfl, q⟩ | ⟨a, b, e1, e2, e3, e4, e5⟩
      · exact ⟨[], l, rfl, rfl, h, (fun z hz => nomatch hz), q⟩
      · refine ⟨x :: a, b, by rw [e1]; rfl, e2, Nat.lt_trans e3 h, fun z hz => ?_, e5⟩
        rcases List.mem_cons.mp hz with rfl | hz
        · exact e3
        · exact e4 z hz
    · simp only [h, if_false]
      obtain ⟨y, e, q⟩ := cheapest_from f l m
      refine ⟨y, e, ?_⟩
      rcases q with ⟨rfl, q⟩ | ⟨a, b, e1, e2, e3, e4, e5⟩
      · refine .inl ⟨rfl, fun z hz => ?_⟩
        rcases List.mem_cons.mp hz with rfl | hz
        · omega
        · exact q z hz
      · refine .inr ⟨x :: a, b, by rw [e1]; rfl, e2, e3, fun z hz => ?_, e5⟩
        rcases List.mem_cons.mp hz with rfl | hz
        · omega
        · exact e4 z hz
/-- the first of those that cost the least -/
theorem cheapest_is {α : Type} (f : α → Nat) {l : List α} (h : l ≠ []) : ∃ y a b, cheapest f l = some (f y, y) ∧ l = a ++ y :: b ∧ (∀ x ∈ a, f y < f x) ∧ ∀ x ∈ b, f y ≤ f x := by
  cases l with
  | nil => exact absurd rfl h
  | cons x l =>
    unfold cheapest
    rw [List.foldl_cons]
    obtain ⟨y, e, q⟩ := cheapest_from f l (f x, x)
    rcases q with ⟨rfl, q⟩ | ⟨a, b, e1, e2, e3, e4, e5⟩
    · exact ⟨x, [], l, e, rfl, (fun z hz => nomatch hz), q⟩
    · obtain ⟨y1, y2⟩ := y
      have e2 : y1 = f y2 := e2
      subst e2
      refine ⟨y2, x :: a, b, e, by rw [e1]; rfl, fun z hz => ?_, e5⟩
      rcases List.mem_cons.mp hz with rfl | hz
      · exact e3
      · exact e4 z hz
/-! ### rows of whole numbers compared -/
abbrev zi (l : List Nat) : List Int := l.map fun n : Nat => (n : Int)
theorem zi_lt : ∀ {a b : List Nat}, a < b → zi a < zi b
  | [], [], h => absurd h (List.lt_irrefl _)
  | [], y :: b, _ => by simp
  | x :: a, [], h => by simp at h
  | x :: a, y :: b, h => by
    rw [List.cons_lt_cons_iff] at h
    show ((x : Int) :: zi a) < ((y : Int) :: zi b)
    rw [List.cons_lt_cons_iff]
    rcases h with h | ⟨rfl, h⟩
    · exact .inl (by omega)
    · exact .inr ⟨rfl, zi_lt h⟩
/-- a row with its price ahead: the first of the cheapest is the least row -/
theorem least_row {α : Type} {f : α → Nat} {row : α → List Nat} {l a b : List α} {y : α} (pw : l.Pairwise fun s t => row s < row t) (e : l = a ++ y :: b) (ha : ∀ x ∈ a, f y < f x) (hb : ∀ x ∈ b, f y ≤ f x) {z : α} (hz : z ∈ l)
    (hm : ∀ x ∈ l, zi (f z :: row z) ≤ zi (f x :: row x)) : f z :: row z = f y :: row y := by
  have hy : y ∈ l := by rw [e]; simp
  by_cases q : f z :: row z = f y :: row y
  · exact q
  · exfalso
    have h1 : zi (f y :: row y) < zi (f z :: row z) := by
      refine zi_lt (List.cons_lt_cons_iff.mpr ?_)
      rw [e, List.mem_append] at hz
      rcases hz with hz | hz
      · exact .inl (ha z hz)
      · rcases List.mem_cons.mp hz with rfl | hz
        · exact absurd rfl q
        · rcases Nat.lt_or_eq_of_le (hb z hz) with h | h
          · exact .inl h
          · refine .inr ⟨h, ?_⟩
            rw [e] at pw
            exact (List.pairwise_cons.mp (List.pairwise_append.mp pw).2.1).1 z hz
    exact absurd h1 (List.not_lt.mpr (hm y hy))
end Fs
namespace Fs
open Mu49
/-! ### a list of calls, read -/
def enc : Call → List Int
  | .begin_ r m => 0 :: (r : Int) :: (m.length : Int) :: zi m
  | .fewest => [1]
  | .chain i => [2, (i : Int)]
  | .judge s => 3 :: (s.length : Int) :: zi s
  | .count n => [4, (n : Int)]
  | .order => [5]
  | .exchange => [6]
  | .if_ i m => [7, (i : Int), (m : Int)]
  | .mark i m => [8, (i : Int), (m : Int)]
  | .swap i j => [9, (i : Int), (j : Int)]
  | .look => [10]
def CallOk : Call → Prop
  | .begin_ r m => r ≤ 9 ∧ m.length ≤ 8 ∧ ∀ x ∈ m, x ≤ 9
  | .chain i => i ≤ 9
  | .judge s => s.length ≤ 8 ∧ ∀ x ∈ s, x ≤ 20
  | .count n => n ≤ 30
  | .if_ i m => i ≤ 9 ∧ m ≤ 9
  | .mark i m => i ≤ 9 ∧ m ≤ 9
  | .swap i j => i ≤ 9 ∧ j ≤ 9
  | _ => True
def runC : Abs → List Call → List (List Int)
  | _, [] => []
  | s, c :: r => (step s c).2 :: runC (step s c).1 r
theorem within_iff {n lo hi : Int} : NeutralIO.within n lo hi = true ↔ lo ≤ n ∧ n ≤ hi := by
  unfold NeutralIO.within
  rw [Bool.and_eq_true, decide_eq_true_eq, decide_eq_true_eq]
theorem nine_iff {z : Int} : Mu49Neutral.nine z = true ↔ 0 ≤ z ∧ z ≤ 9 := within_iff
theorem nat_of {z b : Int} (h : 0 ≤ z ∧ z ≤ b) : ∃ n : Nat, z = (n : Int) ∧ (n : Int) ≤ b := ⟨z.toNat, by omega, by omega⟩
theorem nats_of {b : Int} : ∀ {l : List Int}, (∀ z ∈ l, 0 ≤ z ∧ z ≤ b) → ∃ m : List Nat, l = zi m ∧ ∀ x ∈ m, (x : Int) ≤ b
  | [], _ => ⟨[], rfl, fun x h => by cases h⟩
  | z :: l, h => by
    obtain ⟨n, e, hn⟩ := nat_of (h z List.mem_cons_self)
    obtain ⟨m, e2, hm⟩ := nats_of (l := l) fun y hy => h y (List.mem_cons_of_mem _ hy)
    refine ⟨n :: m, by rw [e, e2]; rfl, fun x hx => ?_⟩
    rcases List.mem_cons.mp hx with rfl | hx
    · exact hn
    · exact hm x hx
theorem nats_zi (m : List Nat) : Mu49Neutral.nats (zi m) = m := by
  unfold Mu49Neutral.nats zi
  rw [List.map_map]
  have : (Int.toNat ∘ fun n : Nat => (n : Int)) = id := by
    funext n
    simp
  rw [this, List.map_id]
/-- one row is taken off -/
theorem row_of {l x t : List Int} (h : PyFlat.row l = some (x, t)) : l = (x.length : Int) :: x ++ t := by
  cases l with
  | nil => cases h
  | cons n r =>
    have h : (if 0 ≤ n ∧ n.toNat ≤ r.length then some (r.take n.toNat, r.drop n.toNat) else none) = some (x, t) := h
    by_cases c : 0 ≤ n ∧ n.toNat ≤ r.length
    · rw [if_pos c] at h
      cases h
      have e : ((r.take n.toNat).length : Int) = n := by
        rw [List.length_take]
        omega
      rw [e]
      simp
    · rw [if_neg c] at h
      cases h
theorem rows1_of {l : List Int} {xs : List (List Int)} {t : List Int} (h : PyFlat.rows 1 l = some (xs, t)) : ∃ x, xs = [x] ∧ l = (x.length : Int) :: x ++ t := by
  unfold PyFlat.rows at h
  cases e : PyFlat.row l with
  | none =>
    rw [e] at h
    cases h
  | some q =>
    obtain ⟨x, s⟩ := q
    rw [e] at h
    have h' : some ([x], s) = some (xs, t) := h
    cases h'
    exact ⟨x, rfl, row_of e⟩
theorem rows0_of {l : List Int} {xs : List (List Int)} {t : List Int} (h : PyFlat.rows 0 l = some (xs, t)) : xs = [] ∧ l = t := by
  have h' : some ([], l) = some (xs, t) := h
  cases h'
  exact ⟨rfl, rfl⟩
/-- one call is taken off -/
theorem call_of {p : Int} {r : List Int} {c : List (List Int)} {t : List Int} (h : PyFlat.call PyMu49.shape (p :: r) = some (c, t)) :
    ∃ n k xs, PyMu49.shape p = some (n, k) ∧ n ≤ r.length ∧ PyFlat.rows k (r.drop n) = some (xs, t) ∧ c = (p :: r.take n) :: xs := by
  unfold PyFlat.call at h
  cases e : PyMu49.shape p with
  | none =>
    simp only [e] at h
    cases h
  | some q =>
    obtain ⟨n, k⟩ := q
    simp only [e] at h
    by_cases b : r.length < n
    · rw [if_pos b] at h
      cases h
    · rw [if_neg b] at h
      cases e2 : PyFlat.rows k (r.drop n) with
      | none =>
        rw [e2] at h
        cases h
      | some q2 =>
        obtain ⟨xs, t'⟩ := q2
        rw [e2] at h
        have h' : some ((p :: r.take n) :: xs, t') = some (c, t) := h
        cases h'
        exact ⟨n, k, xs, rfl, by omega, e2, rfl⟩
theorem len1 {r : List Int} (h : 1 ≤ r.length) : ∃ x s, r = x :: s := by
  cases r with
  | nil => simp at h
  | cons x s => exact ⟨x, s, rfl⟩
theorem len2 {r : List Int} (h : 2 ≤ r.length) : ∃ x y s, r = x :: y :: s := by
  match r, h with
  | x :: y :: s, _ => exact ⟨x, y, s, rfl⟩
  | [_], h => simp at h
  | [], h => simp at h
theorem one_call {p : Int} {r : List Int} {c : List (List Int)} {t : List Int} (h : PyFlat.call PyMu49.shape (p :: r) = some (c, t)) (ha : Mu49Neutral.asked1 (PyMu49.whole c) = true) :
    ∃ cl, p :: r = enc cl ++ t ∧ CallOk cl ∧ ∀ s, Mu49Neutral.step s (PyMu49.whole c) = step s cl := by
  obtain ⟨n, k, xs, hs, hn, hr, rfl⟩ := call_of h
  unfold PyMu49.shape at hs
  by_cases p0 : p = 0
  · subst p0
    rw [if_pos rfl] at hs
    cases hs
    obtain ⟨x, r', rfl⟩ := len1 hn
    obtain ⟨m, rfl, e⟩ := rows1_of hr
    have e9 : r' = (m.length : Int) :: m ++ t := e
    clear e hr
    have ha : (Mu49Neutral.nine x && (decide (m.length ≤ 8) && m.all Mu49Neutral.nine)) = true := ha
    rw [Bool.and_eq_true, Bool.and_eq_true, nine_iff, decide_eq_true_eq, List.all_eq_true] at ha
    obtain ⟨a, rfl, ha1⟩ := nat_of ha.1
    obtain ⟨ms, rfl, hms⟩ := nats_of (b := 9) fun z hz => nine_iff.mp (ha.2.2 z hz)
    refine ⟨.begin_ a ms, ?_, ⟨by omega, by simpa using ha.2.1, fun y hy => by have := hms y hy; omega⟩, fun s => ?_⟩
    · rw [e9]
      simp [enc]
    · show Mu49.step s (.begin_ ((a : Int).toNat) (Mu49Neutral.nats (zi ms))) = _
      rw [nats_zi, Int.toNat_natCast]
  rw [if_neg p0] at hs
  by_cases p1 : p = 1
  · subst p1
    rw [if_pos rfl] at hs
    cases hs
    obtain ⟨rfl, e⟩ := rows0_of hr
    have e : r = t := e
    subst e
    exact ⟨.fewest, rfl, trivial, fun s => rfl⟩
  rw [if_neg p1] at hs
  by_cases p2 : p = 2
  · subst p2
    rw [if_pos rfl] at hs
    cases hs
    obtain ⟨x, r', rfl⟩ := len1 hn
    obtain ⟨rfl, e⟩ := rows0_of hr
    have e : r' = t := e
    subst e
    obtain ⟨a, rfl, ha1⟩ := nat_of (nine_iff.mp (show Mu49Neutral.nine x = true from ha))
    exact ⟨.chain a, rfl, by show a ≤ 9; omega, fun s => rfl⟩
  rw [if_neg p2] at hs
  by_cases p3 : p = 3
  · subst p3
    rw [if_pos rfl] at hs
    cases hs
    obtain ⟨m, rfl, e⟩ := rows1_of hr
    have e : r = (m.length : Int) :: m ++ t := e
    have ha : (decide (m.length ≤ 8) && m.all fun (z : Int) => NeutralIO.within z 0 20) = true := ha
    rw [Bool.and_eq_true, decide_eq_true_eq, List.all_eq_true] at ha
    obtain ⟨ms, rfl, hms⟩ := nats_of (b := 20) fun z hz => within_iff.mp (ha.2 z hz)
    refine ⟨.judge ms, ?_, ⟨by simpa using ha.1, fun y hy => by have := hms y hy; omega⟩, fun s => ?_⟩
    · rw [e]
      simp [enc]
    · show Mu49.step s (.judge (Mu49Neutral.nats (zi ms))) = _
      rw [nats_zi]
  rw [if_neg p3] at hs
  by_cases p4 : p = 4
  · subst p4
    rw [if_pos rfl] at hs
    cases hs
    obtain ⟨x, r', rfl⟩ := len1 hn
    obtain ⟨rfl, e⟩ := rows0_of hr
    have e : r' = t := e
    subst e
    obtain ⟨a, rfl, ha1⟩ := nat_of (within_iff.mp (show NeutralIO.within x 0 30 = true from ha))
    exact ⟨.count a, rfl, by show a ≤ 30; omega, fun s => rfl⟩
  rw [if_neg p4] at hs
  by_cases p5 : p = 5
  · subst p5
    rw [if_pos rfl] at hs
    cases hs
    obtain ⟨rfl, e⟩ := rows0_of hr
    have e : r = t := e
    subst e
    exact ⟨.order, rfl, trivial, fun s => rfl⟩
  rw [if_neg p5] at hs
  by_cases p6 : p = 6
  · subst p6
    rw [if_pos rfl] at hs
    cases hs
    obtain ⟨rfl, e⟩ := rows0_of hr
    have e : r = t := e
    subst e
    exact ⟨.exchange, rfl, trivial, fun s => rfl⟩
  rw [if_neg p6] at hs
  have two : ∀ {x y : Int}, (Mu49Neutral.nine x && Mu49Neutral.nine y) = true → ∃ a b : Nat, x = a ∧ y = b ∧ a ≤ 9 ∧ b ≤ 9 := fun {x y} h => by
    rw [Bool.and_eq_true, nine_iff, nine_iff] at h
    obtain ⟨a, e1, h1⟩ := nat_of h.1
    obtain ⟨b, e2, h2⟩ := nat_of h.2
    exact ⟨a, b, e1, e2, by omega, by omega⟩
  by_cases p7 : p = 7
  · subst p7
    rw [if_pos rfl] at hs
    cases hs
    obtain ⟨x, y, r', rfl⟩ := len2 hn
    obtain ⟨rfl, e⟩ := rows0_of hr
    have e : r' = t := e
    subst e
    obtain ⟨a, b, rfl, rfl, h1, h2⟩ := two (x := x) (y := y) ha
    exact ⟨.if_ a b, rfl, ⟨h1, h2⟩, fun s => rfl⟩
  rw [if_neg p7] at hs
  by_cases p8 : p = 8
  · subst p8
    rw [if_pos rfl] at hs
    cases hs
    obtain ⟨x, y, r', rfl⟩ := len2 hn
    obtain ⟨rfl, e⟩ := rows0_of hr
    have e : r' = t := e
    subst e
    obtain ⟨a, b, rfl, rfl, h1, h2⟩ := two (x := x) (y := y) ha
    exact ⟨.mark a b, rfl, ⟨h1, h2⟩, fun s => rfl⟩
  rw [if_neg p8] at hs
  by_cases p9 : p = 9
  · subst p9
    rw [if_pos rfl] at hs
    cases hs
    obtain ⟨x, y, r', rfl⟩ := len2 hn
    obtain ⟨rfl, e⟩ := rows0_of hr
    have e : r' = t := e
    subst e
    obtain ⟨a, b, rfl, rfl, h1, h2⟩ := two (x := x) (y := y) ha
    exact ⟨.swap a b, rfl, ⟨h1, h2⟩, fun s => rfl⟩
  rw [if_neg p9] at hs
  by_cases p10 : p = 10
  · subst p10
    rw [if_pos rfl] at hs
    cases hs
    obtain ⟨rfl, e⟩ := rows0_of hr
    have e : r = t := e
    subst e
    exact ⟨.look, rfl, trivial, fun s => rfl⟩
  rw [if_neg p10] at hs
  cases hs
theorem calls_of : ∀ (f : Nat) (l : List Int) (raw : List (List (List Int))), PyFlat.calls PyMu49.shape f l = some raw → (∀ c ∈ raw, Mu49Neutral.asked1 (PyMu49.whole c) = true) →
    ∃ cs, l = cs.flatMap enc ∧ (∀ c ∈ cs, CallOk c) ∧ cs.length = raw.length ∧ ∀ s, PyFlat.played Mu49Neutral.step s (raw.map PyMu49.whole) = runC s cs
  | f, [], raw, h, _ => by
    have h' : some [] = some raw := by
      cases f <;> exact h
    cases h'
    exact ⟨[], rfl, (fun c hc => nomatch hc), rfl, fun s => rfl⟩
  | 0, p :: r, raw, h, _ => by cases h
  | f + 1, p :: r, raw, h, ha => by
    unfold PyFlat.calls at h
    cases e : PyFlat.call PyMu49.shape (p :: r) with
    | none =>
      rw [e] at h
      cases h
    | some q =>
      obtain ⟨c, t⟩ := q
      rw [e] at h
      have h : (match PyFlat.calls PyMu49.shape f t with
        | none => none
        | some cs => some (c :: cs)) = some raw := h
      cases e2 : PyFlat.calls PyMu49.shape f t with
      | none =>
        rw [e2] at h
        cases h
      | some raw' =>
        rw [e2] at h
        have h' : some (c :: raw') = some raw := h
        cases h'
        obtain ⟨cl, h1, h2, h3⟩ := one_call e (ha c List.mem_cons_self)
        obtain ⟨cs, g1, g2, g3, g4⟩ := calls_of f t raw' e2 fun x hx => ha x (List.mem_cons_of_mem _ hx)
        refine ⟨cl :: cs, by rw [h1, g1]; rfl, fun x hx => ?_, by simp [g3], fun s => ?_⟩
        · rcases List.mem_cons.mp hx with rfl | hx
          · exact h2
          · exact g2 x hx
        · show (Mu49Neutral.step s (PyMu49.whole c)).2 :: PyFlat.played Mu49Neutral.step (Mu49Neutral.step s (PyMu49.whole c)).1 (raw'.map PyMu49.whole) = _
          rw [h3, g4]
          rfl
/-- what is asked of a request, in plain words -/
theorem asked_of {l : List Int} (h : PyMu49.answers_asked l = true) : ∃ cs, l = cs.flatMap enc ∧ (∀ c ∈ cs, CallOk c) ∧ cs.length ≤ 60 ∧ PyMu49.answers l = PyFlat.told (runC none cs) := by
  unfold PyMu49.answers_asked at h
  cases e : PyFlat.calls PyMu49.shape l.length l with
  | none =>
    rw [e] at h
    cases h
  | some raw =>
    rw [e] at h
    have h : (!raw.isEmpty && PyFlat.atMost 60 raw && PyInside.calls PyMu49.bound raw && Mu49Neutral.asked (raw.map PyMu49.whole) && PyFlat.short 10000000 (PyMu49.answers l)) = true := h
    simp only [Bool.and_eq_true] at h
    obtain ⟨⟨⟨⟨_, h1⟩, _⟩, h2⟩, _⟩ := h
    have h1 : raw.length ≤ 60 := of_decide_eq_true h1
    unfold Mu49Neutral.asked at h2
    simp only [Bool.and_eq_true, List.all_eq_true] at h2
    obtain ⟨cs, g1, g2, g3, g4⟩ := calls_of _ _ _ e fun c hc => h2.2.2 _ (List.mem_map.mpr ⟨c, hc, rfl⟩)
    refine ⟨cs, g1, g2, by omega, ?_⟩
    unfold PyMu49.answers PyMu49.calls
    rw [e]
    show PyFlat.told (PyFlat.played Mu49Neutral.step Mu49Neutral.start (raw.map PyMu49.whole)) = _
    rw [g4]
    rfl
end Fs
namespace Fs
open Mu49
/-! ### two who change places -/
def twos (n : Nat) : List (Nat × Nat) := (List.range n).flatMap fun (i : Nat) => ((List.range n).filter fun (j : Nat) => decide (i < j)).map fun (j : Nat) => (i, j)
theorem mem_twos {n i j : Nat} : (i, j) ∈ twos n ↔ i < j ∧ j < n := by
  unfold twos
  rw [List.mem_flatMap]
  constructor
  · rintro ⟨a, _, h⟩
    obtain ⟨b, hb, e⟩ := List.mem_map.mp h
    cases e
    rw [List.mem_filter, List.mem_range] at hb
    exact ⟨of_decide_eq_true hb.2, hb.1⟩
  · rintro ⟨h1, h2⟩
    exact ⟨i, List.mem_range.mpr (by omega), List.mem_map.mpr ⟨j, List.mem_filter.mpr ⟨List.mem_range.mpr h2, decide_eq_true h1⟩, rfl⟩⟩
theorem twos_rising (n : Nat) : (twos n).Pairwise fun s t => [s.1, s.2] < [t.1, t.2] := by
  unfold twos
  rw [List.pairwise_flatMap]
  refine ⟨fun x _ => ?_, (range_rising n).imp fun {a b} hab => ?_⟩
  · rw [List.pairwise_map]
    exact ((range_rising n).filter _).imp fun {s t} q => List.cons_lt_cons_iff.mpr (.inr ⟨rfl, List.cons_lt_cons_iff.mpr (.inl q)⟩)
  · intro s hs t ht
    obtain ⟨s', _, rfl⟩ := List.mem_map.mp hs
    obtain ⟨t', _, rfl⟩ := List.mem_map.mp ht
    exact List.cons_lt_cons_iff.mpr (.inl hab)
theorem twos_ne {n : Nat} (h : 2 ≤ n) : twos n ≠ [] := fun z => by
  have : (0, 1) ∈ twos n := mem_twos.mpr ⟨by omega, by omega⟩
  rw [z] at this
  cases this
theorem twos_one {n : Nat} (h : n ≤ 1) : twos n = [] := by
  cases e : twos n with
  | nil => rfl
  | cons p l =>
    obtain ⟨i, j⟩ := p
    have : (i, j) ∈ twos n := by rw [e]; exact List.mem_cons_self
    have := mem_twos.mp this
    omega
theorem swap_one {r : Nat} {ms : List Nat} (h : ms.length ≤ 1) : bestSwap (lin r ms) = none := by
  show cheapest _ (twos ms.length) = none
  rw [twos_one h]
  rfl
/-- the best two, by the least row -/
theorem swap_is {r : Nat} {ms : List Nat} (h : 2 ≤ ms.length) : ∃ y : Nat × Nat, bestSwap (lin r ms) = some (cost (swapped (lin r ms) y.1 y.2), y) ∧ y ∈ twos ms.length ∧
    ∀ z ∈ twos ms.length, (∀ x ∈ twos ms.length, zi [cost (swapped (lin r ms) z.1 z.2), z.1, z.2] ≤ zi [cost (swapped (lin r ms) x.1 x.2), x.1, x.2]) → z = y := by
  obtain ⟨y, a, b, c1, c2, c3, c4⟩ := cheapest_is (fun x : Nat × Nat => cost (swapped (lin r ms) x.1 x.2)) (twos_ne h)
  refine ⟨y, c1, by rw [c2]; simp, fun z hz hm => ?_⟩
  have key := least_row (f := fun x : Nat × Nat => cost (swapped (lin r ms) x.1 x.2)) (row := fun x => [x.1, x.2]) (twos_rising ms.length) c2 c3 c4 hz hm
  have k2 : [z.1, z.2] = [y.1, y.2] := (List.cons.inj key).2
  obtain ⟨z1, z2⟩ := z
  obtain ⟨y1, y2⟩ := y
  have q1 : z1 = y1 := (List.cons.inj k2).1
  have q2 : z2 = y2 := (List.cons.inj (List.cons.inj k2).2).1
  rw [q1, q2]
theorem good_set {r : Nat} {ms : List Nat} (g : Good r ms) (i x : Nat) : Good r (ms.set i x) := ⟨g.ring, by rw [List.length_set]; exact g.pos, by rw [List.length_set]; exact g.six, fun z => by rw [List.length_set]; exact g.three z⟩
theorem swapped_lin (r : Nat) (ms : List Nat) (i j : Nat) : swapped (lin r ms) i j = lin r ((ms.set i (ms.getD j 0)).set j (ms.getD i 0)) := rfl
theorem marked_lin (r : Nat) (ms : List Nat) (i x : Nat) : marked (lin r ms) i x = lin r (ms.set i x) := rfl
end Fs
set_option Elab.async false
set_option maxRecDepth 100000
set_option maxHeartbeats 2000000
namespace Fs
open PySem PySem.Spec PyProof.Rows L2 LamX
def top (i : Nat) : Stmt := PySem.Challenge.pw_fairsweets_s01_answers.main.body.getD i (.Pass ⟨0, 0, 0, 0⟩)
abbrev sNb : Stmt := top 1
/-! ### words -/
abbrev ni (n : Nat) : V := .int (n : Int)
abbrev nv (l : List Nat) : List V := l.map ni
/-- the items stand for pairs of numbers, each a tuple of its own -/
def IsPair (H : Hp) (v : V) (p : Nat × Nat) : Prop := ∃ t, v = .ref t ∧ H t = some (.tup [ni p.1, ni p.2])
def PairsAt (H : Hp) (rs : List V) (ps : List (Nat × Nat)) : Prop := rs.length = ps.length ∧ ∀ (i : Nat) (v : V) (p : Nat × Nat), rs[i]? = some v → ps[i]? = some p → IsPair H v p
theorem IsPair.ext {H H' : Hp} {v : V} {p : Nat × Nat} (h : IsPair H v p) (e : ExtN H H') : IsPair H' v p := by
  obtain ⟨t, a, b⟩ := h
  exact ⟨t, a, e _ _ b fun ps z => by cases z⟩
theorem PairsAt.ext {H H' : Hp} {rs : List V} {ps : List (Nat × Nat)} (h : PairsAt H rs ps) (e : ExtN H H') : PairsAt H' rs ps :=
  ⟨h.1, fun i v p a b => (h.2 i v p a b).ext e⟩
theorem PairsAt.nil {H : Hp} : PairsAt H [] [] := ⟨rfl, fun i v p a _ => by simp at a⟩
theorem PairsAt.snoc {H : Hp} {rs : List V} {ps : List (Nat × Nat)} {v : V} {p : Nat × Nat} (h : PairsAt H rs ps) (x : IsPair H v p) : PairsAt H (rs ++ [v]) (ps ++ [p]) := by
  refine ⟨by simp [h.1], fun i w q a b => ?_⟩
  by_cases hi : i < rs.length
  · rw [List.getElem?_append_left hi] at a
    rw [List.getElem?_append_left (by rw [← h.1]; exact hi)] at b
    exact h.2 i w q a b
  · rw [List.getElem?_append_right (by omega)] at a
    rw [List.getElem?_append_right (by rw [← h.1]; omega), ← h.1] at b
    have h0 : i - rs.length = 0 := by
      have := (List.getElem?_eq_some_iff.mp a).1
      simp at this
      omega
    rw [h0] at a b
    cases a
    cases b
    exact x
theorem extn_upd {H : Hp} {p : Addr} {o : HO} (h : H p = none) : ExtN H (upd H p o) := fun b x e _ => by
  rw [upd_ne (ne_of_none e h)]
  exact e
theorem extn_set {H H' : Hp} {p : Addr} {o : HO} (h : H p = none) (e : ExtN H H') : ExtN H (upd H' p o) := fun b x q n => by
  rw [upd_ne (ne_of_none q h)]
  exact e b x q n
/-- new, and no table lost -/
theorem tabs_upd {T : List (Addr × Str)} {H : Hp} {p : Addr} {o : HO} (h : H p = none) (t : Tabs T H) : Tabs T (upd H p o) := t.ext fun b x e => by
  rw [upd_ne (ne_of_none e h)]
  exact e
theorem tabs_lst {T : List (Addr × Str)} {H : Hp} {p : Addr} {o : HO} {xs : List V} (h : H p = some (.lst xs)) (t : Tabs T H) : Tabs T (upd H p o) := fun q hq => by
  obtain ⟨ps, a1, a2, a3⟩ := t q hq
  have ne : ∀ {b : Addr} {u : HO}, H b = some u → (∀ xs, u ≠ .lst xs) → b ≠ p := fun {b u} e n z => by
    rw [z, h] at e
    exact n xs (Option.some.inj e).symm
  refine ⟨ps, by rw [upd_ne (ne a1 fun xs z => by cases z)]; exact a1, a2, fun pos cv hc => ?_⟩
  obtain ⟨c, e1, e2⟩ := a3 pos cv hc
  exact ⟨c, e1, by rw [upd_ne (ne e2 fun xs z => by unfold CodeO at z; cases z)]; exact e2⟩
section
variable {P : Program} {w : World} {K : PySem.W.Frag} {mg : Str → Option Value} {base : Heap} {T : List (Addr × Str)}
theorem scNb : FnScope ["ring", "size", "pairs", "place"] ["ring", "size"] (defScope sNb) := ⟨rfl, rfl, rfl, by decide +kernel, rfl, by decide +kernel, by decide +kernel⟩
def spNb : Sp := fun vs H Q _ => ∃ (r n : Nat), vs = [ni r, ni n] ∧ 1 ≤ n ∧ n ≤ 6 ∧
  ∀ (H' : Hp) (p : Addr) (rs : List V), Same H H' → H p = none → H' p = some (.lst rs) → PairsAt H' rs (nbPairs r n) → Q (.ref p) H'
theorem same_new {H : Hp} {p : Addr} {o : HO} (h : H p = none) : Same H (upd H p o) := fun b x e => by
  rw [upd_ne (ne_of_none e h)]
  exact e
theorem same_set {H H' : Hp} {p : Addr} {o : HO} (h : H p = none) (e : Same H H') : Same H (upd H' p o) := fun b x q => by
  rw [upd_ne (ne_of_none q h)]
  exact e b x q
theorem PairsAt.same {H H' : Hp} {rs : List V} {ps : List (Nat × Nat)} (h : PairsAt H rs ps) (e : Same H H') : PairsAt H' rs ps := h.ext (ExtN.of e)
/-- the list that grows is none of the pairs' tuples -/
theorem PairsAt.lst {H : Hp} {p : Addr} {xs ys : List V} {rs : List V} {ps : List (Nat × Nat)} (h : PairsAt H rs ps) (e : H p = some (.lst xs)) : PairsAt (upd H p (.lst ys)) rs ps :=
  ⟨h.1, fun i v q a b => by
    obtain ⟨t, z1, z2⟩ := h.2 i v q a b
    refine ⟨t, z1, ?_⟩
    rw [upd_ne (fun z => by rw [z, e] at z2; cases z2)]
    exact z2⟩
theorem ok_nb {f : Addr} {fd : FuncData} {k : Nat} (F : Fun K "neighbour_pairs" "neighbour_pairs" sNb f fd) (mr : mg "range" = none) : FnOk P w K mg base CX0 (k + 1) f fd ["ring", "size"] spNb := by
  refine F.ok scNb (fun vs H Q E h => ?_) (fun cdv A outer s H vs Q E hr h => ?_)
  · obtain ⟨r, n, rfl, _⟩ := h
    rfl
  · obtain ⟨r, n, rfl, h1, h6, q⟩ := h
    refine ⟨_, pss_cons (ps_setLc (i := 2) (own := [("place", 3)]) (g := gName 3) (tt := tYes) rfl scNb.nd rfl rfl (sw_true rfl rfl rfl (by decide +kernel)) (pi_range1 rfl mr (pa_cons (pe_op op_sub (pv 1) pe_int) pa_nil))
        (blkOk_by (own := [("place", 3)]) (N := ["ring", "size", "pairs", "place"]) (sc := defScope sNb) (by decide +kernel)) (fun _ _ _ _ _ => pg_name (i := 3) scNb.nd rfl (Or.inl rfl)) (fun _ _ _ _ _ => pts_nil)
        (fun _ _ _ _ _ => pe_tup (pa_cons (pv 3) (pa_cons (pe_op op_add (pv 3) pe_int) pa_nil))))
      (pss_cons (ps_if (pt_cmpR op_eq (pv 0) pe_int (nomark _))
        (pss_one (ps_expr (pe_bm PySem.F.plainAttrs_list PySem.F.slot_list_append PySem.F.type_list_append mt_append (pv 2) (pa_cons (pe_tup (pa_cons pe_int (pa_cons (pe_op op_sub (pv 1) pe_int) pa_nil))) pa_nil)))) pss_nil)
      (pss_one (ps_ret (pv 2)))), ?_⟩
    refine ⟨_, rfl, _, _, rfl, rfl, (n : Int) - 1, rfl, by omega, by omega, fun D hD => ?_⟩
    have eN : ((n : Int) - 1).toNat = n - 1 := by omega
    rw [eN]
    refine lc_range (lo := 0) (n := n - 1) (fun i H1 => ∃ rs, H1 D = some (.lst rs) ∧ Same H H1 ∧ PairsAt H1 rs ((List.range i).map fun i => (i, i + 1))) ⟨[], upd_same, same_new hD, PairsAt.nil⟩ ?_ ?_
    · rintro i H1 hi ⟨rs, eD, sm, pa⟩
      refine ⟨rfl, ?_⟩
      refine ⟨_, rfl, _, rfl, _, _, rfl, rfl, by show 2 ≤ sizeLine; decide, fun t ht => ?_⟩
      have nD : D ≠ t := ne_of_none eD ht
      refine ⟨rs, by rw [upd_ne nD]; exact eD, ?_, ?_⟩
      · have := pa.1
        rw [this]
        simp only [List.length_map, List.length_range]
        exact small1000 (by omega)
      · have eT : (upd H1 t (.tup [.int (0 + (i : Int)), .int (0 + (i : Int) + 1)])) D = some (.lst rs) := by rw [upd_ne nD]; exact eD
        refine ⟨_, upd_same, same_set hD (fun b x e => same_new ht b x (sm b x e)), ?_⟩
        rw [List.range_succ, List.map_append]
        refine ((pa.same (same_new ht)).snoc ⟨t, rfl, ?_⟩).lst eT
        rw [upd_same]
        show some (HO.tup [.int (0 + (i : Int)), .int (0 + (i : Int) + 1)]) = some (HO.tup [.int (i : Int), .int ((i + 1 : Nat) : Int)])
        rw [show (0 + (i : Int)) = i by omega, show ((i : Int) + 1) = ((i + 1 : Nat) : Int) by omega]
    · rintro H1 ⟨rs, eD, sm, pa⟩
      refine ⟨_, rfl, rfl, _, rfl, ite2 (fun e => ?_) (fun e => ?_)⟩
      · have e1 : r = 1 := by
          have := V.int.inj (of_decide_eq_true e)
          omega
        refine ⟨_, rfl, .inl ⟨rfl, _, SqL.of eD⟩, _, rfl, _, _, rfl, rfl, by show 2 ≤ sizeLine; decide, fun t ht => ?_⟩
        have nD : D ≠ t := ne_of_none eD ht
        have eT : (upd H1 t (.tup [.int 0, .int ((n : Int) - 1)])) D = some (.lst rs) := by rw [upd_ne nD]; exact eD
        refine ⟨D, rs, _, rfl, rfl, eT, ?_, ?_⟩
        · have := pa.1
          rw [this]
          simp only [List.length_map, List.length_range]
          exact small1000 (by omega)
        · refine ⟨_, rfl, q _ D _ (same_set hD (fun b x e => same_new ht b x (sm b x e))) hD upd_same ?_⟩
          unfold nbPairs
          rw [if_pos e1]
          refine ((pa.same (same_new ht)).snoc ⟨t, rfl, ?_⟩).lst eT
          rw [upd_same]
          show some (HO.tup [.int 0, .int ((n : Int) - 1)]) = some (HO.tup [.int ((0 : Nat) : Int), .int ((n - 1 : Nat) : Int)])
          rw [show ((n : Int) - 1) = ((n - 1 : Nat) : Int) by omega]
          rfl
      · have e1 : ¬ r = 1 := fun z => by
          subst z
          exact e (decide_eq_true rfl)
        refine ⟨_, rfl, q _ D _ sm hD eD ?_⟩
        unfold nbPairs
        rw [if_neg e1, List.append_nil]
        exact pa
end
end Fs
set_option Elab.async false
set_option maxRecDepth 100000
set_option maxHeartbeats 2000000
namespace Fs
open PySem PySem.Spec PyProof.Rows L2 LamX
abbrev sBet : Stmt := top 2
theorem bet1_len (ms : List Nat) (p : Nat × Nat) : (bet1 ms p).length ≤ 1 := by
  unfold bet1
  by_cases h : ms.getD p.2 0 < ms.getD p.1 0
  · rw [if_pos h, if_neg (by omega)]
    simp
  · rw [if_neg h]
    by_cases h2 : ms.getD p.1 0 < ms.getD p.2 0
    · rw [if_pos h2]; simp
    · rw [if_neg h2]; simp
theorem bet_len (ms : List Nat) : ∀ l : List (Nat × Nat), (l.flatMap (bet1 ms)).length ≤ l.length
  | [] => by simp
  | p :: l => by
    have h1 := bet1_len ms p
    have h2 := bet_len ms l
    rw [List.flatMap_cons, List.length_append, List.length_cons]
    omega
theorem nb_len (r n : Nat) : (nbPairs r n).length ≤ n - 1 + 1 := by
  unfold nbPairs
  rw [List.length_append, List.length_map, List.length_range]
  split <;> simp
theorem betPairs_len (r : Nat) (ms : List Nat) : (betPairs r ms).length ≤ ms.length - 1 + 1 := Nat.le_trans (bet_len ms _) (nb_len r ms.length)
theorem take_snoc {α : Type} {l : List α} {i : Nat} {x : α} (h : l[i]? = some x) : l.take (i + 1) = l.take i ++ [x] := by
  rw [List.take_add_one, h]
  rfl
theorem getD_some {l : List Nat} {i : Nat} (h : i < l.length) : l[i]? = some (l.getD i 0) := by
  rw [List.getD_eq_getElem?_getD, List.getElem?_eq_getElem h]
  rfl
theorem nv_get {l : List Nat} {i : Nat} (h : i < l.length) : (nv l)[i]? = some (ni (l.getD i 0)) := by
  rw [List.getElem?_map, getD_some h]
  rfl
theorem nv_at {l : List Nat} {i : Nat} (h : i < l.length) : atI (nv l) (i : Int) = some (ni (l.getD i 0)) := atI_nat (nv_get h)
section
variable {P : Program} {w : World} {K : PySem.W.Frag} {mg : Str → Option Value} {base : Heap} {T : List (Addr × Str)}
theorem scBet : FnScope ["ring", "marks", "pairs", "low", "high"] ["ring", "marks"] (defScope sBet) := ⟨rfl, rfl, rfl, by decide +kernel, rfl, by decide +kernel, by decide +kernel⟩
def spBet (K : PySem.W.Frag) : Sp := fun vs H Q _ => ∃ (r : Nat) (m : Addr) (ms : List Nat), vs = [ni r, .ref m] ∧ SqL K H m (nv ms) ∧ Good r ms ∧
  ∀ (H' : Hp) (p : Addr) (rs : List V), Same H H' → H p = none → H' p = some (.lst rs) → PairsAt H' rs (betPairs r ms) → Q (.ref p) H'
theorem ok_bet {f fN : Addr} {fd fdN : FuncData} {k : Nat} (F : Fun K "better_pairs" "better_pairs" sBet f fd) (FN : Fun K "neighbour_pairs" "neighbour_pairs" sNb fN fdN) (bN : Binds K fdN ["ring", "size"] []) (gN : mg "neighbour_pairs" = some (.ref fN)) (mr : mg "range" = none) (ml : mg "len" = none) :
    FnOk P w K mg base CX0 (k + 2) f fd ["ring", "marks"] (spBet K) := by
  have GN : FnOk P w K mg base CX0 (k + 1) fN fdN ["ring", "size"] spNb := ok_nb FN mr
  refine F.ok scBet (fun vs H Q E h => ?_) (fun cdv A outer s H vs Q E hr h => ?_)
  · obtain ⟨r, m, ms, rfl, _⟩ := h
    rfl
  · obtain ⟨r, m, ms, rfl, hM, g, q⟩ := h
    refine ⟨_, pss_cons (ps_set (i := 2) scBet.nd rfl (Or.inl rfl) (pe_lst pa_nil))
      (pss_cons (ps_for PassesOwn.never rfl (pi_list (pe_call GN hr (by rfl) gN FN.kp bN .nil pass0 (pa_cons (pv 0) (pa_cons (pe_callB call_len_seq (by rfl) ml PySem.boot_len (pa_cons (pv 1) pa_nil)) pa_nil))))
          (pg_tup rfl (pgs_cons (pg_name (i := 3) scBet.nd rfl (Or.inl rfl)) (pgs_cons (pg_name (i := 4) scBet.nd rfl (Or.inl rfl)) pgs_nil)))
        (pss_cons (ps_if (pt_cmpR op_gt (pe_ix ix_list (pv 1) (pv 3) (fun _ _ => rfl)) (pe_ix ix_list (pv 1) (pv 4) (fun _ _ => rfl)) (nomark _))
          (pss_one (ps_expr (pe_bm PySem.F.plainAttrs_list PySem.F.slot_list_append PySem.F.type_list_append mt_append (pv 2) (pa_cons (pe_tup (pa_cons (pv 3) (pa_cons (pv 4) pa_nil))) pa_nil)))) pss_nil)
        (pss_one (ps_if (pt_cmpR op_lt (pe_ix ix_list (pv 1) (pv 3) (fun _ _ => rfl)) (pe_ix ix_list (pv 1) (pv 4) (fun _ _ => rfl)) (nomark _))
          (pss_one (ps_expr (pe_bm PySem.F.plainAttrs_list PySem.F.slot_list_append PySem.F.type_list_append mt_append (pv 2) (pa_cons (pe_tup (pa_cons (pv 4) (pa_cons (pv 3) pa_nil))) pa_nil)))) pss_nil))))
      (pss_one (ps_ret (pv 2)))), ?_⟩
    have g6 := g.six
    have g1 := g.pos
    -- pairs = []
    refine ⟨Nat.zero_le _, fun o no => ?_⟩
    have s1 : Same H (upd H o (.lst [])) := same_new no
    -- neighbour_pairs(ring, len(marks))
    refine ⟨_, rfl, .ref m, rfl, m, _, rfl, .inl (s1.seq hM), r, ms.length, ?_, g1, g6, fun H1 a nb sm1 na ea pn => ?_⟩
    · show [ni r, V.int ((nv ms).length : Int)] = _
      rw [List.length_map]
    have s2 : Same H H1 := s1.trans sm1
    have eo1 : H1 o = some (.lst []) := sm1 o _ upd_same
    have nao : a ≠ o := fun z => by rw [z, upd_same] at na; cases na
    have naH : H a = none := by
      rw [upd_ne nao] at na
      exact na
    refine ⟨a, rfl, ⟨_, SqL.of ea⟩, for_list (K := K) (a := a) (xs := nb) (fun i σ H2 => ∃ (y3 y4 : Option V) (rs : List V), σ = [some (ni r), some (.ref m), some (.ref o), y3, y4] ∧ Same H H2 ∧ H2 o = some (.lst rs) ∧ H2 a = some (.lst nb) ∧ PairsAt H2 nb (nbPairs r ms.length) ∧ PairsAt H2 rs (((nbPairs r ms.length).take i).flatMap (bet1 ms)))
      ⟨none, none, [], rfl, s2, eo1, ea, pn, PairsAt.nil⟩ (fun i σ H2 _ ⟨_, _, _, _, _, _, z, _⟩ => SqL.of z) ?_ ?_⟩
    · rintro i x σ H2 hi ⟨y3, y4, rs, rfl, sm, eo, ea2, pn2, pr⟩
      have hil : i < (nbPairs r ms.length).length := by
        rw [← pn2.1]
        exact (List.getElem?_eq_some_iff.mp hi).1
      obtain ⟨p, hp⟩ : ∃ p, (nbPairs r ms.length)[i]? = some p := ⟨_, List.getElem?_eq_getElem hil⟩
      obtain ⟨t, rfl, et⟩ := pn2.2 i x p hi hp
      have hmem : p ∈ nbPairs r ms.length := List.mem_of_getElem? hp
      obtain ⟨lo, hh⟩ := p
      have hb := mem_nb.mp hmem
      have g3 := g.three
      have l1 : lo < ms.length := by omega
      have l2 : hh < ms.length := by omega
      have hM2 : SqL K H2 m (nv ms) := sm.seq hM
      have lenr : rs.length ≤ 7 := by
        have h1 := bet_len ms ((nbPairs r ms.length).take i)
        have h2 := nb_len r ms.length
        rw [pr.1]
        rw [List.length_take] at h1
        omega
      have step : ((nbPairs r ms.length).take (i + 1)).flatMap (bet1 ms) = ((nbPairs r ms.length).take i).flatMap (bet1 ms) ++ bet1 ms (lo, hh) := by
        rw [take_snoc hp, List.flatMap_append]
        simp
      -- low, high = the pair
      refine ⟨t, _, rfl, SqT.of et, rfl, _, _, rfl, _, _, rfl, rfl, ?_⟩
      -- marks[low] > marks[high]
      refine ⟨.ref m, rfl, _, rfl, m, _, _, _, rfl, rfl, hM2, nv_at l1, .ref m, rfl, _, rfl, m, _, _, _, rfl, rfl, hM2, nv_at l2, _, _, rfl, rfl, _, rfl, ite2 (fun e => ?_) (fun e => ?_)⟩
      · have e1 : ms.getD hh 0 < ms.getD lo 0 := Int.ofNat_lt.mp (of_decide_eq_true e)
        refine ⟨_, rfl, .inl ⟨rfl, _, SqL.of eo⟩, _, rfl, _, rfl, by show 2 ≤ sizeLine; decide, fun u hu => ?_⟩
        have nou : o ≠ u := ne_of_none eo hu
        have eo2 : (upd H2 u (.tup [ni lo, ni hh])) o = some (.lst rs) := by rw [upd_ne nou]; exact eo
        refine ⟨o, rs, _, rfl, rfl, eo2, small1000 (by omega), ?_⟩
        have sm3 : Same H (upd (upd H2 u (.tup [ni lo, ni hh])) o (.lst (rs ++ [.ref u]))) := same_set no fun b x e => same_new hu b x (sm b x e)
        have hM3 := sm3.seq hM
        refine ⟨.ref m, rfl, _, rfl, m, _, _, _, rfl, rfl, hM3, nv_at l1, .ref m, rfl, _, rfl, m, _, _, _, rfl, rfl, hM3, nv_at l2, _, _, rfl, rfl, _, rfl, ite2 (fun e2 => ?_) (fun e2 => ?_)⟩
        · exfalso
          have e3 : ms.getD lo 0 < ms.getD hh 0 := Int.ofNat_lt.mp (of_decide_eq_true e2)
          omega
        · refine ⟨_, _, _, rfl, sm3, upd_same, ?_, ?_, ?_⟩
          · rw [upd_ne nao, upd_ne (ne_of_none ea2 hu)]
            exact ea2
          · exact ((pn2.same (same_new hu)).lst eo2)
          · rw [step]
            have eb : bet1 ms (lo, hh) = [(lo, hh)] := by
              unfold bet1
              rw [if_pos e1, if_neg (by show ¬ ms.getD lo 0 < ms.getD hh 0; omega)]
              rfl
            rw [eb]
            exact ((pr.same (same_new hu)).snoc ⟨u, rfl, upd_same⟩).lst eo2
      · have e1 : ¬ ms.getD hh 0 < ms.getD lo 0 := fun z => e (decide_eq_true (Int.ofNat_lt.mpr z))
        refine ⟨.ref m, rfl, _, rfl, m, _, _, _, rfl, rfl, hM2, nv_at l1, .ref m, rfl, _, rfl, m, _, _, _, rfl, rfl, hM2, nv_at l2, _, _, rfl, rfl, _, rfl, ite2 (fun e2 => ?_) (fun e2 => ?_)⟩
        · have e3 : ms.getD lo 0 < ms.getD hh 0 := Int.ofNat_lt.mp (of_decide_eq_true e2)
          refine ⟨_, rfl, .inl ⟨rfl, _, SqL.of eo⟩, _, rfl, _, rfl, by show 2 ≤ sizeLine; decide, fun u hu => ?_⟩
          have nou : o ≠ u := ne_of_none eo hu
          have eo2 : (upd H2 u (.tup [ni hh, ni lo])) o = some (.lst rs) := by rw [upd_ne nou]; exact eo
          refine ⟨o, rs, _, rfl, rfl, eo2, small1000 (by omega), ?_⟩
          refine ⟨_, _, _, rfl, same_set no fun b x e => same_new hu b x (sm b x e), upd_same, ?_, ?_, ?_⟩
          · rw [upd_ne nao, upd_ne (ne_of_none ea2 hu)]
            exact ea2
          · exact ((pn2.same (same_new hu)).lst eo2)
          · rw [step]
            have eb : bet1 ms (lo, hh) = [(hh, lo)] := by
              unfold bet1
              rw [if_neg e1, if_pos e3]
              rfl
            rw [eb]
            exact ((pr.same (same_new hu)).snoc ⟨u, rfl, upd_same⟩).lst eo2
        · have e3 : ¬ ms.getD lo 0 < ms.getD hh 0 := fun z => e2 (decide_eq_true (Int.ofNat_lt.mpr z))
          refine ⟨_, _, _, rfl, sm, eo, ea2, pn2, ?_⟩
          rw [step]
          have eb : bet1 ms (lo, hh) = [] := by
            unfold bet1
            rw [if_neg e1, if_neg e3]
            rfl
          rw [eb, List.append_nil]
          exact pr
    · rintro σ H2 ⟨y3, y4, rs, rfl, sm, eo, ea2, pn2, pr⟩
      refine ⟨_, rfl, q _ o rs sm no eo ?_⟩
      rw [pn2.1, List.take_length] at pr
      exact pr
end
end Fs
set_option Elab.async false
set_option maxRecDepth 100000
set_option maxHeartbeats 2000000
namespace Fs
open PySem PySem.Spec PyProof.Rows L2 LamX
abbrev sFew : Stmt := top 3
/-- a def whose code object is known -/
structure FunC (K : PySem.W.Frag) (x qual : Str) (st : Stmt) (f : Addr) (fd : FuncData) (c : Addr) : Prop where
  ex : ∃ (oc : Value) (od : Option Addr) (kV doc pm : Value) (an : Option Addr) (ct : Value) (osl : Array (Option Value)),
    fd = PySem.W.fnOf x qual (defArgs st) (defBody st) (defScope st) .none kV doc pm an (.ref c) ct ∧ K.lookup f = some ⟨oc, od, .func fd, osl⟩ ∧ PySem.W.codeIn K (.ref c) qual = true
  kp : PySem.W.keepIn K (.ref f) = true
theorem FunC.ok {P : Program} {w : World} {K : PySem.W.Frag} {mg : Str → Option Value} {base : Heap} {x qual : Str} {st : Stmt} {f c : Addr} {fd : FuncData} {N ps : List Str} {k : Nat} {sp : Sp} (F : FunC K x qual st f fd c) (S : FnScope N ps (defScope st)) (len : ∀ vs H Q E, sp vs H Q E → vs.length = ps.length)
    (hb : ∀ (A : Around) (outer : List Env) (s : Shared) (H : Hp) (vs : List V) (Q : VK) (E : XK), Room k (A.deeper (envOfC qual (defScope st) s.heap.objs.size f (.ref c))) → sp vs H Q E →
      ∃ t, PSs (cxOf CX0 P w K mg base N qual (defScope st) f (.ref c) A outer s H E).nox (defBody st) t ∧ t { nx := fun _ H' => Q .non H', rt := Q } (start N vs) H) : FnOk P w K mg base CX0 (k + 1) f fd ps sp := by
  obtain ⟨oc, od, kV, doc, pm, an, ct, osl, rfl, lk, hcd⟩ := F.ex
  refine fn_of lk hcd S len fun A outer s H vs Q E hr hsp => ?_
  obtain ⟨t, h, q⟩ := hb A outer s H vs Q E hr hsp
  exact ⟨t, h.nox, q⟩
def lamKB (sc scope : Scope) (cn xn : Str) : Bool := decide (scope.kind = .function) && (!scope.isCoroutine && (!scope.isGenerator && ((scope.names.all fun y => !decide (y.2 = .cell)) && (decide (scope.names.lookup xn = some .local) && (decide (scope.names.lookup cn = some .free) &&
  (scope.names.all fun y => !decide (y.2 = .free) || (decide (sc.names.lookup y.1 = some .cell) || decide (sc.names.lookup y.1 = some .free))))))))
theorem lamK_by {sc scope : Scope} {cn xn : Str} (h : lamKB sc scope cn xn = true) : LamK sc scope cn xn := by
  unfold lamKB at h
  simp only [Bool.and_eq_true, Bool.or_eq_true, Bool.not_eq_true', decide_eq_true_eq, decide_eq_false_iff_not, List.all_eq_true] at h
  obtain ⟨h1, h2, h3, h4, h5, h6, h7⟩ := h
  refine ⟨h1, h2, h3, h4, h5, h6, fun y hy e => ?_⟩
  rcases h7 y hy with z | z
  · exact absurd e z
  · exact z
/-- the pair that a tuple's address stands for -/
def dec (H : Hp) (v : V) : Nat × Nat := match v with
  | .ref t => (match H t with
    | some (.tup [.int a, .int b]) => (a.toNat, b.toNat)
    | _ => (0, 0))
  | _ => (0, 0)
theorem dec_of {H : Hp} {v : V} {p : Nat × Nat} (h : IsPair H v p) : dec H v = p := by
  obtain ⟨t, rfl, e⟩ := h
  unfold dec
  simp only [e]
  rfl
theorem PairsAt.map {H : Hp} {rs : List V} {ps : List (Nat × Nat)} (h : PairsAt H rs ps) : rs.map (dec H) = ps := by
  refine List.ext_getElem? fun i => ?_
  rw [List.getElem?_map]
  by_cases hi : i < rs.length
  · have h2 : i < ps.length := by rw [← h.1]; exact hi
    rw [List.getElem?_eq_getElem hi, List.getElem?_eq_getElem h2]
    exact congrArg some (dec_of (h.2 i _ _ (List.getElem?_eq_getElem hi) (List.getElem?_eq_getElem h2)))
  · rw [List.getElem?_eq_none (by omega), List.getElem?_eq_none (by rw [← h.1]; omega)]
    rfl
theorem PairsAt.mem {H : Hp} {rs : List V} {ps : List (Nat × Nat)} (h : PairsAt H rs ps) {v : V} (hv : v ∈ rs) : IsPair H v (dec H v) ∧ dec H v ∈ ps := by
  obtain ⟨i, hi, rfl⟩ := List.mem_iff_getElem.mp hv
  have h2 : i < ps.length := by rw [← h.1]; exact hi
  have x := h.2 i _ _ (List.getElem?_eq_getElem hi) (List.getElem?_eq_getElem h2)
  rw [dec_of x]
  exact ⟨x, List.getElem_mem h2⟩
theorem PairsAt.perm {H : Hp} {rs zs : List V} {ps : List (Nat × Nat)} (h : PairsAt H rs ps) (pm : zs.Perm rs) : PairsAt H zs (zs.map (dec H)) := by
  refine ⟨by simp, fun i v p a b => ?_⟩
  rw [List.getElem?_map, a] at b
  have b' : dec H v = p := Option.some.inj b
  rw [← b']
  exact (h.mem (pm.mem_iff.mp (List.mem_of_getElem? a))).1
theorem rep_one (n : Nat) : (List.replicate n [ni 1]).flatten = nv (List.replicate n 1) := by
  induction n with
  | zero => rfl
  | succ n ih =>
    rw [List.replicate_succ, List.flatten_cons, ih, List.replicate_succ]
    rfl
theorem nv_set (l : List Nat) (i x : Nat) : (nv l).set i (ni x) = nv (l.set i x) := by
  unfold nv
  rw [List.map_set]
theorem ixN_of {n i : Nat} (h : i < n) : ixN n (i : Int) = some i := by
  unfold ixN
  simp [h]
section
variable {P : Program} {w : World} {K : PySem.W.Frag} {mg : Str → Option Value} {base : Heap} {T : List (Addr × Str)}
def lamN : Str := ("fewest_share" : Str) ++ ".<locals>." ++ "<lambda>"
theorem scFew : FnScope ["ring", "marks", "share", "better", "worse"] ["ring", "marks"] (defScope sFew) := ⟨rfl, rfl, rfl, by decide +kernel, rfl, by decide +kernel, by decide +kernel⟩
/-- all but the tables stays, the tables are tables -/
def spFew (K : PySem.W.Frag) (T : List (Addr × Str)) : Sp := fun vs H Q _ => ∃ (r : Nat) (m : Addr) (ms : List Nat), vs = [ni r, .ref m] ∧ SqL K H m (nv ms) ∧ Good r ms ∧ Tabs T H ∧
  ∀ (H' : Hp) (p : Addr), ExtN H H' → Tabs T H' → H p = none → H' p = some (.lst (nv (Mu49.fewest (lin r ms)))) → Q (.ref p) H'
theorem ok_few {f fN fB c Pt : Addr} {fd fdN fdB : FuncData} {k : Nat} (F : FunC K "fewest_share" "fewest_share" sFew f fd c) (FN : Fun K "neighbour_pairs" "neighbour_pairs" sNb fN fdN) (bN : Binds K fdN ["ring", "size"] []) (gN : mg "neighbour_pairs" = some (.ref fN))
    (FB : Fun K "better_pairs" "better_pairs" sBet fB fdB) (bB : Binds K fdB ["ring", "marks"] []) (gB : mg "better_pairs" = some (.ref fB)) (mr : mg "range" = none) (ml : mg "len" = none) (mso : mg "sorted" = none) (mmx : mg "max" = none)
    (TB : TabB base mg c Pt) (hT : (Pt, lamN) ∈ T) (hu : ∀ p ∈ T, p.1 = Pt → p.2 = lamN) :
    FnOk P w K mg base CX0 (k + 3) f fd ["ring", "marks"] (spFew K T) := by
  have GB : FnOk P w K mg base CX0 (k + 2) fB fdB ["ring", "marks"] (spBet K) := ok_bet FB FN bN gN mr ml
  refine F.ok scFew (fun vs H Q E h => ?_) (fun A outer s H vs Q E hr h => ?_)
  · obtain ⟨r, m, ms, rfl, _⟩ := h
    rfl
  · obtain ⟨r, m, ms, rfl, hM, g, tab, q⟩ := h
    refine ⟨_, pss_cons (ps_set (i := 2) scFew.nd rfl (Or.inl rfl) (pe_op op_rep (pe_lst (pa_cons pe_int pa_nil)) (pe_callB call_len_seq (by rfl) ml PySem.boot_len (pa_cons (pv 1) pa_nil))))
      (pss_cons (ps_for PassesOwn.never rfl (pi_list (pe_sortLam (T := T) (j := 1) (cn := "marks") (xn := "pair") (pa_cons (pe_call GB hr (by rfl) gB FB.kp bB .nil pass0 (pa_cons (pv 0) (pa_cons (pv 1) pa_nil))) pa_nil) (by rfl) mso (hr.mono (Nat.succ_le_succ (Nat.zero_le _))) TB rfl hT hu
            (lamK_by (sc := defScope sFew) (by decide +kernel)) rfl rfl (fun _ _ _ _ _ _ => rfl)))
          (pg_tup rfl (pgs_cons (pg_name (i := 3) scFew.nd rfl (Or.inl rfl)) (pgs_cons (pg_name (i := 4) scFew.nd rfl (Or.inl rfl)) pgs_nil)))
        (pss_one (ps_asg (pe_callB (call_max2 rfl) (by rfl) mmx (by decide +kernel) (pa_cons (pe_ix ix_list (pv 2) (pv 3) (fun _ _ => rfl)) (pa_cons (pe_op op_add (pe_ix ix_list (pv 2) (pv 4) (fun _ _ => rfl)) pe_int) pa_nil))) (pg_sub (pv 2) (pv 3) set_list))))
      (pss_one (ps_ret (pv 2)))), ?_⟩
    have g6 := g.six
    have g1 := g.pos
    have eL : ((nv ms).length : Int).toNat = ms.length := by simp
    -- share = [1] * len(marks)
    refine ⟨by show 1 ≤ sizeLine; decide, fun l0 n0 => ?_⟩
    have e0 : ExtN H (upd H l0 (.lst [.int 1])) := extn_upd n0
    have t0 := tabs_upd (o := .lst [.int 1]) n0 tab
    refine ⟨.ref m, rfl, m, _, rfl, .inl (extn_sqL e0 hM), l0, _, _, rfl, rfl, upd_same, by omega, by simp only [List.length_map]; omega, ?_, fun o no => ?_⟩
    · rw [eL]
      show 1 * ms.length ≤ sizeLine
      have := small1000 (n := ms.length) (by omega)
      omega
    rw [eL]
    have no0 : o ≠ l0 := fun z => by rw [z, upd_same] at no; cases no
    have noH : H o = none := by
      rw [upd_ne no0] at no
      exact no
    have e1 : ExtN H (upd (upd H l0 (.lst [.int 1])) o (.lst (List.replicate ms.length [ni 1]).flatten)) := extn_set noH e0
    have t1 := tabs_upd (o := .lst (List.replicate ms.length [ni 1]).flatten) no t0
    have eo1 : (upd (upd H l0 (.lst [.int 1])) o (.lst (List.replicate ms.length [ni 1]).flatten)) o = some (.lst (nv (valRow (lin r ms) []))) := by
      rw [upd_same, rep_one, valRow_nil]
      rfl
    revert e1 t1 eo1
    show ∀ (_ : ExtN H (upd (upd H l0 (.lst [.int 1])) o (.lst (List.replicate ms.length [ni 1]).flatten))) (_ : Tabs T (upd (upd H l0 (.lst [.int 1])) o (.lst (List.replicate ms.length [ni 1]).flatten))) (_ : (upd (upd H l0 (.lst [.int 1])) o (.lst (List.replicate ms.length [ni 1]).flatten)) o = some (.lst (nv (valRow (lin r ms) [])))), _
    generalize (upd (upd H l0 (.lst [.int 1])) o (.lst (List.replicate ms.length [ni 1]).flatten)) = H1
    intro e1 t1 eo1
    -- better_pairs(ring, marks)
    refine ⟨_, rfl, .ref m, rfl, r, m, ms, rfl, extn_sqL e1 hM, g, fun H2 a rs sm2 na ea pr => ?_⟩
    have e2 : ExtN H H2 := e1.trans (ExtN.of sm2)
    have t2 : Tabs T H2 := t1.ext sm2
    have eo2 := sm2 _ _ eo1
    -- sorted(.., key=..)
    refine ⟨a, m, rs, nv ms, fun y => ((ms.getD (dec H2 y).1 0 : Nat) : Int), rfl, SqL.of ea, rfl, extn_sqL e2 hM, fun y hy => ?_, t2, fun H3 e3 t3 p zs np pm pw => ?_⟩
    · obtain ⟨⟨t, rfl, et⟩, hm⟩ := pr.mem hy
      have hb := bet_lt g (i := (dec H2 (.ref t)).1) (j := (dec H2 (.ref t)).2) hm
      refine ⟨t, _, _, rfl, SqT.of et, by omega, ?_⟩
      rw [Int.toNat_natCast, nv_get hb.1]
    have e4 : ExtN H (upd H3 p (.lst zs)) := (e2.trans e3).trans (extn_upd np)
    have t4 := tabs_upd (o := .lst zs) np t3
    have eo3 : H3 o = some (.lst (nv (valRow (lin r ms) []))) := e3 _ _ eo2 fun ps z => by cases z
    have nop : o ≠ p := ne_of_none eo3 np
    have prz : PairsAt (upd H3 p (.lst zs)) zs (zs.map (dec H2)) := (pr.perm pm).ext (e3.trans (extn_upd np))
    have pmz : (zs.map (dec H2)).Perm (betPairs r ms) := by
      rw [← pr.map]
      exact pm.map _
    have pwz : (zs.map (dec H2)).Pairwise fun x y => ms.getD x.1 0 ≤ ms.getD y.1 0 := by
      rw [List.pairwise_map]
      exact pw.imp fun h => Int.ofNat_le.mp h
    refine ⟨p, rfl, ⟨_, SqL.of upd_same⟩, for_list (K := K) (a := p) (xs := zs) (fun i σ H5 => ∃ y3 y4, σ = [some (ni r), some (.ref m), some (.ref o), y3, y4] ∧ ExtN H H5 ∧ Tabs T H5 ∧ H5 p = some (.lst zs) ∧ PairsAt H5 zs (zs.map (dec H2)) ∧ H5 o = some (.lst (nv (valRow (lin r ms) ((zs.map (dec H2)).take i)))))
      ⟨none, none, rfl, e4, t4, upd_same, prz, by rw [upd_ne nop]; exact eo3⟩ (fun i σ H5 _ ⟨_, _, _, _, _, z, _⟩ => SqL.of z) ?_ ?_⟩
    · rintro i x σ H5 hi ⟨y3, y4, rfl, e5, t5, ep, pz, eo⟩
      have hil : i < (zs.map (dec H2)).length := by
        rw [List.length_map]
        exact (List.getElem?_eq_some_iff.mp hi).1
      obtain ⟨pq, hp⟩ : ∃ pq, (zs.map (dec H2))[i]? = some pq := ⟨_, List.getElem?_eq_getElem hil⟩
      obtain ⟨t, rfl, et⟩ := pz.2 i x pq hi hp
      obtain ⟨b, v⟩ := pq
      have hbv := bet_lt g (pmz.mem_iff.mp (List.mem_of_getElem? hp))
      have spl : zs.map (dec H2) = (zs.map (dec H2)).take i ++ (b, v) :: (zs.map (dec H2)).drop (i + 1) := by
        have h1 := List.take_append_drop i (zs.map (dec H2))
        rw [List.drop_eq_getElem_cons hil] at h1
        have h2 : (zs.map (dec H2))[i] = (b, v) := by
          rw [List.getElem?_eq_getElem hil] at hp
          exact Option.some.inj hp
        rw [h2] at h1
        exact h1.symm
      have turn := val_turn g pmz pwz spl
      have lb : b < (valRow (lin r ms) ((zs.map (dec H2)).take i)).length := by rw [valRow_len]; exact hbv.1
      have lv : v < (valRow (lin r ms) ((zs.map (dec H2)).take i)).length := by rw [valRow_len]; exact hbv.2.1
      have db : (valRow (lin r ms) ((zs.map (dec H2)).take i)).getD b 0 = valAt (lin r ms) ((zs.map (dec H2)).take i) b := by
        rw [List.getD_eq_getElem?_getD, valRow_get hbv.1]; rfl
      have dv : (valRow (lin r ms) ((zs.map (dec H2)).take i)).getD v 0 = valAt (lin r ms) ((zs.map (dec H2)).take i) v := by
        rw [List.getD_eq_getElem?_getD, valRow_get hbv.2.1]; rfl
      refine ⟨t, _, rfl, SqT.of et, rfl, _, _, rfl, _, _, rfl, rfl, ?_⟩
      refine ⟨.ref o, rfl, _, rfl, o, _, _, _, rfl, rfl, SqL.of eo, nv_at lb, .ref o, rfl, _, rfl, o, _, _, _, rfl, rfl, SqL.of eo, nv_at lv, _, _, rfl, rfl, _, _, rfl, ?_⟩
      refine ⟨.ref o, rfl, _, rfl, o, _, _, b, rfl, rfl, eo, ?_, ?_⟩
      · rw [List.length_map]
        exact ixN_of lb
      refine ⟨_, _, rfl, extn_set noH e5, tabs_lst eo t5, by rw [upd_ne (fun z => by rw [z] at np; rw [np] at eo3; cases eo3)]; exact ep, pz.lst eo, ?_⟩
      rw [upd_same, take_snoc hp, ← turn, ← nv_set, db, dv]
      congr 4
      split <;> omega
    · rintro σ H5 ⟨y3, y4, rfl, e5, t5, ep, pz, eo⟩
      refine ⟨_, rfl, q H5 o e5 t5 noH ?_⟩
      have el : zs.length = (zs.map (dec H2)).length := by simp
      rw [el, List.take_length, val_end g pmz] at eo
      exact eo
end
end Fs
set_option Elab.async false
set_option maxRecDepth 100000
set_option maxHeartbeats 2000000
namespace Fs
open PySem PySem.Spec PyProof.Rows L2 LamX
abbrev sSwt : Stmt := top 4
abbrev sCh : Stmt := top 5
/-- what callers of the fewest hold -/
structure FewCtx (K : PySem.W.Frag) (mg : Str → Option Value) (base : Heap) (T : List (Addr × Str)) (fF fN fB : Addr) (fdF fdN fdB : FuncData) : Prop where
  few : ∀ {P : Program} {w : World} {k : Nat}, FnOk P w K mg base CX0 (k + 3) fF fdF ["ring", "marks"] (spFew K T)
  bet : ∀ {P : Program} {w : World} {k : Nat}, FnOk P w K mg base CX0 (k + 2) fB fdB ["ring", "marks"] (spBet K)
  bF : Binds K fdF ["ring", "marks"] []
  bB : Binds K fdB ["ring", "marks"] []
  gF : mg "fewest_share" = some (.ref fF)
  gB : mg "better_pairs" = some (.ref fB)
  kF : PySem.W.keepIn K (.ref fF) = true
  kB : PySem.W.keepIn K (.ref fB) = true
theorem nv_zi (l : List Nat) : nv l = (zi l).map V.int := by
  unfold nv zi
  rw [List.map_map]
  rfl
theorem nv_snoc (l : List Nat) (x : Nat) : nv (l ++ [x]) = nv l ++ [ni x] := by
  unfold nv
  rw [List.map_append]
  rfl
theorem sum_zi (l : List Nat) : (zi l).sum = ((Mu49.total l : Nat) : Int) := (total_sum l).symm
/-- nothing but a table stood there -/
def New (H : Hp) (p : Addr) : Prop := ∀ u, H p = some u → ∃ ps, u = .tbl ps
theorem New.of {H : Hp} {p : Addr} (h : H p = none) : New H p := fun u e => by rw [h] at e; cases e
theorem New.back {H H' : Hp} {p : Addr} (n : New H' p) (e : ExtN H H') : New H p := fun u q => by
  by_cases h : ∃ ps, u = .tbl ps
  · exact h
  · exact n u (e p u q fun ps z => h ⟨ps, z⟩)
theorem New.ne {H : Hp} {p b : Addr} {u : HO} (n : New H p) (e : H b = some u) (h : ∀ ps, u ≠ .tbl ps) : b ≠ p := fun z => by
  rw [z] at e
  obtain ⟨ps, q⟩ := n u e
  exact h ps q
theorem extn_setN {H H' : Hp} {p : Addr} {o : HO} (h : New H p) (e : ExtN H H') : ExtN H (upd H' p o) := fun b x q n => by
  rw [upd_ne (h.ne q n)]
  exact e b x q n
theorem lst_ne {xs : List V} (ps : Array Value) : HO.lst xs ≠ .tbl ps := fun z => by cases z
theorem tup_ne {xs : List V} (ps : Array Value) : HO.tup xs ≠ .tbl ps := fun z => by cases z
section
variable {P : Program} {w : World} {K : PySem.W.Frag} {mg : Str → Option Value} {base : Heap} {T : List (Addr × Str)} {fF fN fB : Addr} {fdF fdN fdB : FuncData}
theorem scSwt : FnScope ["ring", "marks"] ["ring", "marks"] (defScope sSwt) := ⟨rfl, rfl, rfl, by decide +kernel, rfl, by decide +kernel, by decide +kernel⟩
def spSwt (K : PySem.W.Frag) (T : List (Addr × Str)) : Sp := fun vs H Q _ => ∃ (r : Nat) (m : Addr) (ms : List Nat), vs = [ni r, .ref m] ∧ SqL K H m (nv ms) ∧ Good r ms ∧ Tabs T H ∧
  ∀ (H' : Hp), ExtN H H' → Tabs T H' → Q (ni (Mu49.cost (lin r ms))) H'
theorem ok_swt {f : Addr} {fd : FuncData} {k : Nat} (F : Fun K "fewest_sweets" "fewest_sweets" sSwt f fd) (C : FewCtx K mg base T fF fN fB fdF fdN fdB) (msum : mg "sum" = none) : FnOk P w K mg base CX0 (k + 4) f fd ["ring", "marks"] (spSwt K T) := by
  refine F.ok scSwt (fun vs H Q E h => ?_) (fun cdv A outer s H vs Q E hr h => ?_)
  · obtain ⟨r, m, ms, rfl, _⟩ := h
    rfl
  · obtain ⟨r, m, ms, rfl, hM, g, tab, q⟩ := h
    refine ⟨_, pss_one (ps_ret (pe_callB (cr_sum rfl) (by rfl) msum (by decide +kernel) (pa_cons (pe_call C.few hr (by rfl) C.gF C.kF C.bF .nil pass0 (pa_cons (pv 0) (pa_cons (pv 1) pa_nil))) pa_nil))), ?_⟩
    refine ⟨_, rfl, .ref m, rfl, r, m, ms, rfl, hM, g, tab, fun H1 p e1 t1 np ep => ?_⟩
    refine ⟨p, zi (Mu49.fewest (lin r ms)), rfl, ?_, ?_⟩
    · rw [← nv_zi]
      exact SqL.of ep
    · rw [sum_zi]
      exact q H1 e1 t1
theorem scCh : FnScope ["ring", "marks", "child", "pairs", "share", "chain", "last", "better", "worse"] ["ring", "marks", "child"] (defScope sCh) := ⟨rfl, rfl, rfl, by decide +kernel, rfl, by decide +kernel, by decide +kernel⟩
def spCh (K : PySem.W.Frag) (T : List (Addr × Str)) : Sp := fun vs H Q _ => ∃ (r : Nat) (m : Addr) (ms : List Nat) (i : Nat), vs = [ni r, .ref m, ni i] ∧ SqL K H m (nv ms) ∧ Good r ms ∧ i < ms.length ∧ Tabs T H ∧
  ∀ (H' : Hp) (p : Addr), ExtN H H' → Tabs T H' → New H p → H' p = some (.lst (nv (Mu49.chain (lin r ms) ms.length i))) → Q (.ref p) H'
theorem ok_ch {f : Addr} {fd : FuncData} {k : Nat} (F : Fun K "longest_chain" "longest_chain" sCh f fd) (C : FewCtx K mg base T fF fN fB fdF fdN fdB) (mmin : mg "min" = none) : FnOk P w K mg base CX0 (k + 4) f fd ["ring", "marks", "child"] (spCh K T) := by
  refine F.ok scCh (fun vs H Q E h => ?_) (fun cdv A outer s H vs Q E hr h => ?_)
  · obtain ⟨r, m, ms, i, rfl, _⟩ := h
    rfl
  · obtain ⟨r, m, ms, i0, rfl, hM, g, hi0, tab, q⟩ := h
    refine ⟨_, pss_cons (ps_set (i := 3) scCh.nd rfl (Or.inl rfl) (pe_call (C.bet (k := k)) (hr.mono (by omega)) (by rfl) C.gB C.kB C.bB .nil pass0 (pa_cons (pv 0) (pa_cons (pv 1) pa_nil))))
      (pss_cons (ps_set (i := 4) scCh.nd rfl (Or.inr rfl) (pe_call C.few hr (by rfl) C.gF C.kF C.bF .nil pass0 (pa_cons (pv 0) (pa_cons (pv 1) pa_nil))))
      (pss_cons (ps_set (i := 5) scCh.nd rfl (Or.inl rfl) (pe_lst (pa_cons (pv 2) pa_nil)))
      (pss_cons (ps_while PassesOwn.never (pt_cmpR op_gt (pe_ix ix_list (pv 4) (pe_ix ix_list (pv 5) (pe_un un_neg pe_int) (fun _ _ => rfl)) (fun _ _ => rfl)) pe_int (nomark _))
        (pss_cons (ps_set (i := 6) scCh.nd rfl (Or.inr rfl) (pe_ix ix_list (pv 5) (pe_un un_neg pe_int) (fun _ _ => rfl)))
        (pss_one (ps_expr (pe_bm PySem.F.plainAttrs_list PySem.F.slot_list_append PySem.F.type_list_append mt_append (pv 5) (pa_cons (pe_callB (cr_min rfl) (by rfl) mmin (by decide +kernel) (pa_cons
          (pe_lc (own := [("better", 7), ("worse", 8)]) (g := gTup K 2 (gCons (gName 7) (gCons (gName 8) gNil))) (tt := tAnd (tTest (tOp rEq (tVar 7) (tVar 6))) (tTest (tOp rEq (tOp (rIxL K) (tVar 4) (tVar 8)) (tOp (rI0 fun i j => .int (i - j)) (tOp (rIxL K) (tVar 4) (tVar 6)) (tC (.int 1)))))) (te := tVar 8) rfl scCh.nd (pi_list (pv 3)) (blkOk_by (own := [("better", 7), ("worse", 8)]) (N := ["ring", "marks", "child", "pairs", "share", "chain", "last", "better", "worse"]) (sc := defScope sCh) (by decide +kernel))
            (fun _ _ _ _ _ => pg_tup rfl (pgs_cons (pg_name (i := 7) scCh.nd rfl (Or.inl rfl)) (pgs_cons (pg_name (i := 8) scCh.nd rfl (Or.inl rfl)) pgs_nil)))
            (fun _ _ _ _ _ => pts_one (PW.pt (pw_and (pt_cmpR op_eq (pv 7) (pv 6) (nomark _)) (pw_and1 (pt_cmpR op_eq (pe_ix ix_list (pv 4) (pv 8) (fun _ _ => rfl)) (pe_op op_sub (pe_ix ix_list (pv 4) (pv 6) (fun _ _ => rfl)) pe_int) (nomark _))))))
            (fun _ _ _ _ _ => pv 8)) pa_nil)) pa_nil))))))
      (pss_one (ps_ret (pv 5)))))), ?_⟩
    have g6 := g.six
    -- pairs, share, chain
    refine ⟨_, rfl, .ref m, rfl, r, m, ms, rfl, hM, g, fun H1 a rs sm1 na ea pr => ?_⟩
    refine ⟨_, rfl, .ref m, rfl, r, m, ms, rfl, sm1.seq hM, g, tab.ext sm1, fun H2 p e2 t2 np ep => ?_⟩
    have eH2 : ExtN H H2 := (ExtN.of sm1).trans e2
    have ea2 : H2 a = some (.lst rs) := e2 _ _ ea fun ps z => by cases z
    have nap : a ≠ p := ne_of_none ea np
    refine ⟨_, rfl, by show 1 ≤ sizeLine; decide, fun o no => ?_⟩
    have noa : o ≠ a := fun z => by rw [z, ea2] at no; cases no
    have nop : o ≠ p := fun z => by rw [z, ep] at no; cases no
    have noH : New H o := (New.of no).back eH2
    have g1 := g.pos
    refine ⟨fun m4 σ H4 => ∃ (y6 : Option V) (ch : List Nat) (j f : Nat), σ = [some (ni r), some (.ref m), some (ni i0), some (.ref a), some (.ref p), some (.ref o), y6, none, none] ∧ ExtN H H4 ∧ Tabs T H4 ∧ H4 a = some (.lst rs) ∧ PairsAt H4 rs (betPairs r ms) ∧
        H4 p = some (.lst (nv (Mu49.fewest (lin r ms)))) ∧ H4 o = some (.lst (nv (ch ++ [j]))) ∧ j < ms.length ∧ ch ++ Mu49.chain (lin r ms) f j = Mu49.chain (lin r ms) ms.length i0 ∧ dueOf (lin r ms) j ≤ f ∧ ch.length + f = ms.length ∧ m4 = dueOf (lin r ms) j, ?_, ?_⟩
    · refine ⟨dueOf (lin r ms) i0, none, [], i0, ms.length, rfl, extn_setN noH eH2, tabs_upd no t2, ?_, ?_, ?_, upd_same, hi0, rfl, dueOf_le _ _, by simp, rfl⟩
      · rw [upd_ne (Ne.symm noa)]
        exact ea2
      · exact (pr.ext e2).ext (extn_upd no)
      · rw [upd_ne (Ne.symm nop)]
        exact ep
    · rintro m4 σ H4 ⟨y6, ch, j, f, rfl, e4, t4, ea4, pr4, ep4, eo4, hj, hch, hf, hl, rfl⟩
      have hjm : j < (Mu49.fewest (lin r ms)).length := by rw [fewest_len]; exact hj
      have dj : (Mu49.fewest (lin r ms)).getD j 0 = dueOf (lin r ms) j := fewest_getD hj
      have la : atI (nv (ch ++ [j])) (-1) = some (ni j) := by
        unfold nv
        rw [List.map_append]
        exact atI_last _ _
      refine ⟨.ref p, rfl, .ref o, rfl, _, rfl, o, _, _, _, rfl, rfl, SqL.of eo4, la, p, _, _, _, rfl, rfl, SqL.of ep4, nv_at hjm, _, _, rfl, rfl, _, rfl, ite2 (fun e => ?_) (fun e => ?_)⟩
      · rw [dj] at e
        have hd : 1 < dueOf (lin r ms) j := by
          have := of_decide_eq_true e
          omega
        refine ⟨fun σ' H' => ∃ m', m' < dueOf (lin r ms) j ∧ ∃ (y6 : Option V) (ch : List Nat) (j f : Nat), σ' = [some (ni r), some (.ref m), some (ni i0), some (.ref a), some (.ref p), some (.ref o), y6, none, none] ∧ ExtN H H' ∧ Tabs T H' ∧ H' a = some (.lst rs) ∧ PairsAt H' rs (betPairs r ms) ∧
          H' p = some (.lst (nv (Mu49.fewest (lin r ms)))) ∧ H' o = some (.lst (nv (ch ++ [j]))) ∧ j < ms.length ∧ ch ++ Mu49.chain (lin r ms) f j = Mu49.chain (lin r ms) ms.length i0 ∧ dueOf (lin r ms) j ≤ f ∧ ch.length + f = ms.length ∧ m' = dueOf (lin r ms) j, fun σ' H' z => z, ?_⟩
        -- last = chain[-1]
        refine ⟨.ref o, rfl, _, rfl, o, _, _, _, rfl, rfl, SqL.of eo4, la, ?_⟩
        -- chain.append(min([..]))
        refine ⟨.ref o, rfl, .inl ⟨rfl, _, SqL.of eo4⟩, _, rfl, a, rfl, ⟨_, SqL.of ea4⟩, fun D hD => ?_⟩
        refine lc_list (K := K) (a := a) (xs := rs) (fun i H5 => Same H4 H5 ∧ H5 D = some (.lst (nv ((((betPairs r ms).take i).filter fun q => decide (q.1 = j ∧ dueOf (lin r ms) q.2 + 1 = dueOf (lin r ms) j)).map (·.2)))))
          ⟨same_new hD, upd_same⟩ (fun i H5 _ ⟨z, _⟩ => SqL.of (z _ _ ea4)) ?_ ?_
        · rintro i x H5 hi ⟨sm5, eD⟩
          have hil : i < (betPairs r ms).length := by
            rw [← pr4.1]
            exact (List.getElem?_eq_some_iff.mp hi).1
          obtain ⟨pq, hp⟩ : ∃ pq, (betPairs r ms)[i]? = some pq := ⟨_, List.getElem?_eq_getElem hil⟩
          obtain ⟨t, rfl, et⟩ := (pr4.same sm5).2 i x pq hi hp
          obtain ⟨b, v⟩ := pq
          have hbv := bet_lt g (List.mem_of_getElem? hp)
          have hvm : v < (Mu49.fewest (lin r ms)).length := by rw [fewest_len]; exact hbv.2.1
          have dv : (Mu49.fewest (lin r ms)).getD v 0 = dueOf (lin r ms) v := fewest_getD hbv.2.1
          have ep5 : SqL K H5 p _ := SqL.of (sm5 _ _ ep4)
          have no_t : ¬ (b = j ∧ dueOf (lin r ms) v + 1 = dueOf (lin r ms) j) → Same H4 H5 ∧ H5 D = some (.lst (nv ((((betPairs r ms).take (i + 1)).filter fun q => decide (q.1 = j ∧ dueOf (lin r ms) q.2 + 1 = dueOf (lin r ms) j)).map (·.2)))) := fun z => by
            refine ⟨sm5, ?_⟩
            rw [take_snoc hp, List.filter_append]
            have : ([(b, v)].filter fun q : Nat × Nat => decide (q.1 = j ∧ dueOf (lin r ms) q.2 + 1 = dueOf (lin r ms) j)) = [] := by
              rw [List.filter_cons, if_neg (by simpa using z)]
              rfl
            rw [this, List.append_nil]
            exact eD
          refine ⟨t, _, rfl, SqT.of et, rfl, _, _, rfl, _, _, rfl, rfl, rfl, ?_⟩
          refine ⟨_, rfl, _, rfl, rfl, _, rfl, ite2 (fun e1 => ?_) (fun e1 => ?_)⟩
          · have eb : b = j := by
              have := V.int.inj (of_decide_eq_true e1)
              exact Int.ofNat_inj.mp this
            refine ⟨.ref p, rfl, _, rfl, p, _, _, _, rfl, rfl, ep5, nv_at hvm, .ref p, rfl, _, rfl, p, _, _, _, rfl, rfl, ep5, nv_at hjm, _, _, rfl, rfl, rfl, _, rfl, ite2 (fun e2 => ?_) (fun e2 => ?_)⟩
            · have ed : dueOf (lin r ms) v + 1 = dueOf (lin r ms) j := by
                have z := V.int.inj (of_decide_eq_true e2)
                rw [dv, dj] at z
                omega
              refine ⟨_, rfl, _, eD, ?_, fun c x q => ?_, ?_⟩
              · have h1 : ((((betPairs r ms).take i).filter fun q => decide (q.1 = j ∧ dueOf (lin r ms) q.2 + 1 = dueOf (lin r ms) j))).length ≤ ((betPairs r ms).take i).length := List.length_filter_le _ _
                have h2 := betPairs_len r ms
                rw [List.length_take] at h1
                simp only [List.length_map]
                exact small1000 (by omega)
              · rw [upd_ne (ne_of_none q hD)]
                exact sm5 c x q
              · rw [upd_same, take_snoc hp, List.filter_append]
                have : ([(b, v)].filter fun q : Nat × Nat => decide (q.1 = j ∧ dueOf (lin r ms) q.2 + 1 = dueOf (lin r ms) j)) = [(b, v)] := by
                  rw [List.filter_cons, if_pos (decide_eq_true ⟨eb, ed⟩)]
                  rfl
                rw [this, List.map_append]
                unfold nv
                rw [List.map_append]
                rfl
            · refine no_t fun z => e2 (decide_eq_true ?_)
              obtain ⟨z1, z2⟩ := z
              show ni ((Mu49.fewest (lin r ms)).getD v 0) = V.int (((Mu49.fewest (lin r ms)).getD j 0 : Nat) - 1 : Int)
              rw [dv, dj, ← z2]
              exact congrArg V.int (show ((dueOf (lin r ms) v : Nat) : Int) = ((dueOf (lin r ms) v + 1 : Nat) : Int) - 1 by omega)
          · exact no_t fun z => e1 (decide_eq_true (by rw [z.1]))
        · rintro H5 ⟨sm5, eD⟩
          rw [pr4.1, List.take_length] at eD
          refine ⟨D, zi (((betPairs r ms).filter fun q => decide (q.1 = j ∧ dueOf (lin r ms) q.2 + 1 = dueOf (lin r ms) j)).map (·.2)), rfl, ?_, ?_, fun mn hmn hle => ?_⟩
          · rw [← nv_zi]
            exact SqL.of eD
          · obtain ⟨v, hv, ev⟩ := dueOf_step (c := lin r ms) hj hd
            have : v ∈ ((betPairs r ms).filter fun q => decide (q.1 = j ∧ dueOf (lin r ms) q.2 + 1 = dueOf (lin r ms) j)).map (·.2) :=
              List.mem_map.mpr ⟨(j, v), List.mem_filter.mpr ⟨(mem_bet g).mpr ⟨hj, hv⟩, decide_eq_true ⟨rfl, ev⟩⟩, rfl⟩
            simp only [List.length_map]
            rw [← List.length_map (f := (·.2))]
            exact List.length_pos_of_mem this
          · have cm : ∀ v, v ∈ ((betPairs r ms).filter fun q => decide (q.1 = j ∧ dueOf (lin r ms) q.2 + 1 = dueOf (lin r ms) j)).map (·.2) ↔ v ∈ Mu49.worse (lin r ms) j ∧ dueOf (lin r ms) v + 1 = dueOf (lin r ms) j := fun v => by
              rw [List.mem_map]
              constructor
              · rintro ⟨⟨b, v'⟩, h, rfl⟩
                rw [List.mem_filter] at h
                obtain ⟨h1, h2⟩ := h
                obtain ⟨rfl, h3⟩ := of_decide_eq_true h2
                exact ⟨((mem_bet g).mp h1).2, h3⟩
              · rintro ⟨h1, h2⟩
                exact ⟨(j, v), List.mem_filter.mpr ⟨(mem_bet g).mpr ⟨hj, h1⟩, decide_eq_true ⟨rfl, h2⟩⟩, rfl⟩
            obtain ⟨v, hv, rfl⟩ := List.mem_map.mp hmn
            obtain ⟨w1, w2⟩ := (cm v).mp hv
            have w3 : ∀ y ∈ Mu49.worse (lin r ms) j, dueOf (lin r ms) y + 1 = dueOf (lin r ms) j → v ≤ y := fun y h1 h2 => by
              have := hle (y : Int) (List.mem_map.mpr ⟨y, (cm y).mpr ⟨h1, h2⟩, rfl⟩)
              omega
            obtain ⟨f', rfl⟩ : ∃ f', f = f' + 1 := ⟨f - 1, by omega⟩
            rw [chain_next hj w1 w2 w3] at hch
            have nDo : o ≠ D := ne_of_none eo4 hD
            have eo5 := sm5 _ _ eo4
            refine ⟨o, _, _, rfl, rfl, eo5, ?_, dueOf (lin r ms) v, by omega, some (ni j), ch ++ [j], v, f', rfl, ?_, ?_, ?_, ?_, ?_, ?_, (mem_worse.mp w1).1, ?_, by omega, ?_, rfl⟩
            · simp only [List.length_map, List.length_append]
              exact small1000 (by simp; omega)
            · exact extn_setN noH (e4.trans (ExtN.of sm5))
            · exact tabs_lst eo5 (t4.ext sm5)
            · rw [upd_ne (Ne.symm noa)]
              exact sm5 _ _ ea4
            · exact (pr4.same sm5).lst eo5
            · rw [upd_ne (Ne.symm nop)]
              exact sm5 _ _ ep4
            · rw [upd_same, nv_snoc (ch ++ [j])]
            · rw [← hch]
              simp
            · simp
              omega
      · rw [dj] at e
        have hd : dueOf (lin r ms) j = 1 := by
          have h1 := dueOf_pos (c := lin r ms) hj
          by_cases z : 1 < dueOf (lin r ms) j
          · exact absurd (decide_eq_true (by omega)) e
          · omega
        obtain ⟨f', rfl⟩ : ∃ f', f = f' + 1 := ⟨f - 1, by omega⟩
        rw [chain_last hj hd] at hch
        refine ⟨_, rfl, q H4 o e4 t4 noH ?_⟩
        rw [← hch]
        exact eo4
end
end Fs
set_option Elab.async false
set_option maxRecDepth 100000
set_option maxHeartbeats 2000000
namespace Fs
open PySem PySem.Spec PyProof.Rows L2 LamX
abbrev sWo : Stmt := top 6
abbrev sUn : Stmt := top 7
theorem back_zi {ns : List Int} {l : List Nat} (pm : ns.Perm (zi l)) : ∃ us, ns = zi us ∧ us.Perm l := by
  have e1 : ∀ k : List Nat, (zi k).map Int.toNat = k := fun k => by
    unfold zi
    rw [List.map_map]
    have : (Int.toNat ∘ fun n : Nat => (n : Int)) = id := by
      funext n
      simp
    rw [this, List.map_id]
  refine ⟨ns.map Int.toNat, ?_, ?_⟩
  · unfold zi
    rw [List.map_map]
    have h : ∀ x ∈ ns, ((fun n : Nat => (n : Int)) ∘ Int.toNat) x = x := fun x hx => by
      obtain ⟨n, _, rfl⟩ := List.mem_map.mp (pm.mem_iff.mp hx)
      simp
    exact ((List.map_congr_left h).trans (List.map_id' ns)).symm
  · have := pm.map Int.toNat
    rw [e1] at this
    exact this
section
variable {P : Program} {w : World} {K : PySem.W.Frag} {mg : Str → Option Value} {base : Heap} {T : List (Addr × Str)} {fF fN fB : Addr} {fdF fdN fdB : FuncData}
theorem scWo : FnScope ["share", "place", "sweets"] ["share"] (defScope sWo) := ⟨rfl, rfl, rfl, by decide +kernel, rfl, by decide +kernel, by decide +kernel⟩
def spWo (K : PySem.W.Frag) : Sp := fun vs H Q _ => ∃ (a : Addr) (s : List Nat), vs = [.ref a] ∧ SqL K H a (nv s) ∧ s.length ≤ 8 ∧
  ∀ (H' : Hp) (p : Addr), Same H H' → H p = none → H' p = some (.lst (nv (emptyOf s.length s))) → Q (.ref p) H'
theorem ok_wo {f : Addr} {fd : FuncData} {k : Nat} (F : Fun K "without_sweets" "without_sweets" sWo f fd) (men : mg "enumerate" = none) : FnOk P w K mg base CX0 (k + 1) f fd ["share"] (spWo K) := by
  refine F.ok scWo (fun vs H Q E h => ?_) (fun cdv A outer st H vs Q E hr h => ?_)
  · obtain ⟨a, s, rfl, _⟩ := h
    rfl
  · obtain ⟨a, s, rfl, hS, h8, q⟩ := h
    refine ⟨_, pss_one (ps_ret (pe_lc (own := [("place", 1), ("sweets", 2)]) (g := gTup K 2 (gCons (gName 1) (gCons (gName 2) gNil))) (tt := tTest (tOp (rI0 fun i j => .bl (decide (i < j))) (tVar 2) (tC (.int 1)))) (te := tVar 1) rfl scWo.nd
      (pi_enum (by rfl) men (pa_cons (pv 0) pa_nil)) (blkOk_by (own := [("place", 1), ("sweets", 2)]) (N := ["share", "place", "sweets"]) (sc := defScope sWo) (by decide +kernel))
      (fun _ _ _ _ _ => pg_tup rfl (pgs_cons (pg_name (i := 1) scWo.nd rfl (Or.inl rfl)) (pgs_cons (pg_name (i := 2) scWo.nd rfl (Or.inl rfl)) pgs_nil)))
      (fun _ _ _ _ _ => pts_one (pt_cmpR op_lt (pv 2) pe_int (nomark _))) (fun _ _ _ _ _ => pv 1))), ?_⟩
    refine ⟨_, rfl, a, _, rfl, hS, fun D hD => ?_⟩
    refine lc_it (walk_enum (K := K) (a := a) (xs := nv s)) (fun i H1 => Same H H1 ∧ H1 D = some (.lst (nv ((List.range i).filter fun j => s.getD j 0 == 0)))) ⟨same_new hD, upd_same⟩ (fun i H1 _ ⟨z, _⟩ => z.seq hS) ?_ ?_
    · rintro i x H1 H2 hi ⟨sm, eD⟩ ⟨t, y1, y2, rfl, nt, rfl, z1, z2⟩
      have hi' : i < s.length := by simpa using hi
      have ey1 : y1 = ni i := (Option.some.inj z1).symm
      have ey2 : y2 = ni (s.getD i 0) := by
        have z3 : (nv s)[i]? = some y2 := z2
        rw [nv_get hi'] at z3
        exact (Option.some.inj z3).symm
      subst ey1 ey2
      have nD : D ≠ t := ne_of_none eD nt
      have sm2 : Same H (upd H1 t (.tup [ni i, ni (s.getD i 0)])) := fun b x e => same_new nt b x (sm b x e)
      have eD2 : (upd H1 t (.tup [ni i, ni (s.getD i 0)])) D = some (.lst (nv ((List.range i).filter fun j => s.getD j 0 == 0))) := by
        rw [upd_ne nD]
        exact eD
      refine ⟨t, _, rfl, SqT.of upd_same, rfl, _, _, rfl, _, _, rfl, rfl, rfl, ?_⟩
      refine ⟨_, rfl, _, _, rfl, rfl, _, rfl, ite2 (fun e => ?_) (fun e => ?_)⟩
      · have e0 : s.getD i 0 = 0 := by
          have := of_decide_eq_true e
          omega
        refine ⟨_, rfl, _, eD2, ?_, fun b x e => ?_, ?_⟩
        · have h1 := List.length_filter_le (fun j => s.getD j 0 == 0) (List.range i)
          rw [List.length_range] at h1
          simp only [List.length_map]
          exact small1000 (by omega)
        · rw [upd_ne (ne_of_none e hD)]
          exact sm2 b x e
        · rw [upd_same, List.range_succ, List.filter_append]
          have : ([i].filter fun j => s.getD j 0 == 0) = [i] := by
            rw [List.filter_cons, if_pos (by rw [e0]; rfl)]
            rfl
          rw [this, nv_snoc]
      · have e0 : ¬ s.getD i 0 = 0 := fun z => e (decide_eq_true (by omega))
        refine ⟨sm2, ?_⟩
        rw [eD2, List.range_succ, List.filter_append]
        have : ([i].filter fun j => s.getD j 0 == 0) = [] := by
          rw [List.filter_cons, if_neg (by rw [beq_iff_eq]; exact e0)]
          rfl
        rw [this, List.append_nil]
    · rintro H1 ⟨sm, eD⟩
      refine q H1 D sm hD ?_
      rw [eD, List.length_map]
      rfl
theorem scUn : FnScope ["ring", "marks", "share", "better", "worse"] ["ring", "marks", "share"] (defScope sUn) := ⟨rfl, rfl, rfl, by decide +kernel, rfl, by decide +kernel, by decide +kernel⟩
def spUn (K : PySem.W.Frag) : Sp := fun vs H Q _ => ∃ (r : Nat) (m : Addr) (ms : List Nat) (a : Addr) (s : List Nat), vs = [ni r, .ref m, .ref a] ∧ SqL K H m (nv ms) ∧ Good r ms ∧ SqL K H a (nv s) ∧ s.length = ms.length ∧
  ∀ (H' : Hp) (p : Addr) (us : List Nat), Same H H' → H p = none → H' p = some (.lst (nv us)) → us.Perm (unfairOf r ms s) → us.Pairwise (· ≤ ·) → Q (.ref p) H'
theorem ok_un {f : Addr} {fd : FuncData} {k : Nat} (F : Fun K "treated_unfairly" "treated_unfairly" sUn f fd) (C : FewCtx K mg base T fF fN fB fdF fdN fdB) (mso : mg "sorted" = none) : FnOk P w K mg base CX0 (k + 3) f fd ["ring", "marks", "share"] (spUn K) := by
  refine F.ok scUn (fun vs H Q E h => ?_) (fun cdv A outer st H vs Q E hr h => ?_)
  · obtain ⟨r, m, ms, a, s, rfl, _⟩ := h
    rfl
  · obtain ⟨r, m, ms, a, s, rfl, hM, g, hS, hl, q⟩ := h
    refine ⟨_, pss_one (ps_ret (pe_callB cr_sortedI (by rfl) mso (by decide +kernel) (pa_cons (pe_lc (own := [("better", 3), ("worse", 4)]) (g := gTup K 2 (gCons (gName 3) (gCons (gName 4) gNil))) (tt := tTest (tOp (rI0 fun i j => .bl (decide (i ≤ j))) (tOp (rIxL K) (tVar 2) (tVar 3)) (tOp (rIxL K) (tVar 2) (tVar 4)))) (te := tVar 3) rfl scUn.nd
      (pi_list (pe_call (C.bet (k := k)) hr (by rfl) C.gB C.kB C.bB .nil pass0 (pa_cons (pv 0) (pa_cons (pv 1) pa_nil)))) (blkOk_by (own := [("better", 3), ("worse", 4)]) (N := ["ring", "marks", "share", "better", "worse"]) (sc := defScope sUn) (by decide +kernel))
      (fun _ _ _ _ _ => pg_tup rfl (pgs_cons (pg_name (i := 3) scUn.nd rfl (Or.inl rfl)) (pgs_cons (pg_name (i := 4) scUn.nd rfl (Or.inl rfl)) pgs_nil)))
      (fun _ _ _ _ _ => pts_one (pt_cmpR op_le (pe_ix ix_list (pv 2) (pv 3) (fun _ _ => rfl)) (pe_ix ix_list (pv 2) (pv 4) (fun _ _ => rfl)) (nomark _))) (fun _ _ _ _ _ => pv 3)) pa_nil))), ?_⟩
    have g6 := g.six
    refine ⟨_, rfl, .ref m, rfl, r, m, ms, rfl, hM, g, fun H1 b rs sm1 nb eb pr => ?_⟩
    refine ⟨b, rfl, ⟨_, SqL.of eb⟩, fun D hD => ?_⟩
    refine lc_list (K := K) (a := b) (xs := rs) (fun i H2 => Same H1 H2 ∧ H2 D = some (.lst (nv ((((betPairs r ms).take i).filter fun p => decide (s.getD p.1 0 ≤ s.getD p.2 0)).map (·.1))))) ⟨same_new hD, upd_same⟩ (fun i H2 _ ⟨z, _⟩ => SqL.of (z _ _ eb)) ?_ ?_
    · rintro i x H2 hi ⟨sm, eD⟩
      have hil : i < (betPairs r ms).length := by
        rw [← pr.1]
        exact (List.getElem?_eq_some_iff.mp hi).1
      obtain ⟨pq, hp⟩ : ∃ pq, (betPairs r ms)[i]? = some pq := ⟨_, List.getElem?_eq_getElem hil⟩
      obtain ⟨t, rfl, et⟩ := (pr.same sm).2 i x pq hi hp
      obtain ⟨c, v⟩ := pq
      have hbv := bet_lt g (List.mem_of_getElem? hp)
      have hS2 : SqL K H2 a (nv s) := sm.seq (sm1.seq hS)
      refine ⟨t, _, rfl, SqT.of et, rfl, _, _, rfl, _, _, rfl, rfl, rfl, ?_⟩
      refine ⟨.ref a, rfl, _, rfl, a, _, _, _, rfl, rfl, hS2, nv_at (i := c) (by omega), .ref a, rfl, _, rfl, a, _, _, _, rfl, rfl, hS2, nv_at (i := v) (by omega), _, _, rfl, rfl, _, rfl, ite2 (fun e => ?_) (fun e => ?_)⟩
      · have e0 : s.getD c 0 ≤ s.getD v 0 := Int.ofNat_le.mp (of_decide_eq_true e)
        refine ⟨_, rfl, _, eD, ?_, fun b x e => ?_, ?_⟩
        · have h1 := List.length_filter_le (fun p : Nat × Nat => decide (s.getD p.1 0 ≤ s.getD p.2 0)) ((betPairs r ms).take i)
          have h2 := betPairs_len r ms
          rw [List.length_take] at h1
          simp only [List.length_map]
          exact small1000 (by omega)
        · rw [upd_ne (ne_of_none e hD)]
          exact sm b x e
        · rw [upd_same, take_snoc hp, List.filter_append]
          have : ([(c, v)].filter fun p : Nat × Nat => decide (s.getD p.1 0 ≤ s.getD p.2 0)) = [(c, v)] := by
            rw [List.filter_cons, if_pos (decide_eq_true e0)]
            rfl
          rw [this, List.map_append]
          exact congrArg (fun l => some (HO.lst l)) (nv_snoc _ _).symm
      · have e0 : ¬ s.getD c 0 ≤ s.getD v 0 := fun z => e (decide_eq_true (Int.ofNat_le.mpr z))
        refine ⟨sm, ?_⟩
        rw [take_snoc hp, List.filter_append]
        have : ([(c, v)].filter fun p : Nat × Nat => decide (s.getD p.1 0 ≤ s.getD p.2 0)) = [] := by
          rw [List.filter_cons, if_neg (by simpa using e0)]
          rfl
        rw [this, List.append_nil]
        exact eD
    · rintro H2 ⟨sm, eD⟩
      rw [pr.1, List.take_length] at eD
      have eD2 : H2 D = some (.lst (nv (unfairOf r ms s))) := eD
      refine ⟨D, zi (unfairOf r ms s), rfl, ?_, fun ns' p pm pw np => ?_⟩
      · rw [← nv_zi]
        exact SqL.of eD2
      · obtain ⟨us, rfl, pm2⟩ := back_zi pm
        refine q _ p us (fun b x e => same_new np b x (sm b x (sm1 b x e))) ?_ ?_ pm2 ?_
        · cases z : H p with
          | none => rfl
          | some u =>
            have := sm p _ (sm1 _ _ z)
            rw [np] at this
            cases this
        · rw [upd_same, nv_zi]
        · rw [List.pairwise_map] at pw
          exact pw.imp fun h => Int.ofNat_le.mp h
end
end Fs
set_option Elab.async false
set_option maxRecDepth 100000
set_option maxHeartbeats 2000000
namespace Fs
open PySem PySem.Spec PyProof.Rows L2 LamX
abbrev sSh : Stmt := top 8
abbrev sCt : Stmt := top 9
/-- the items stand for rows of numbers, each a list of its own -/
def IsRow (H : Hp) (v : V) (l : List Nat) : Prop := ∃ t, v = .ref t ∧ H t = some (.lst (nv l))
def RowsAt (H : Hp) (rs : List V) (ls : List (List Nat)) : Prop := rs.length = ls.length ∧ ∀ (i : Nat) (v : V) (l : List Nat), rs[i]? = some v → ls[i]? = some l → IsRow H v l
theorem IsRow.ext {H H' : Hp} {v : V} {l : List Nat} (h : IsRow H v l) (e : ExtN H H') : IsRow H' v l := by
  obtain ⟨t, a, b⟩ := h
  exact ⟨t, a, e _ _ b fun ps z => by cases z⟩
theorem RowsAt.ext {H H' : Hp} {rs : List V} {ls : List (List Nat)} (h : RowsAt H rs ls) (e : ExtN H H') : RowsAt H' rs ls := ⟨h.1, fun i v p a b => (h.2 i v p a b).ext e⟩
theorem RowsAt.same {H H' : Hp} {rs : List V} {ls : List (List Nat)} (h : RowsAt H rs ls) (e : Same H H') : RowsAt H' rs ls := h.ext (ExtN.of e)
theorem RowsAt.nil {H : Hp} : RowsAt H [] [] := ⟨rfl, fun i v p a _ => by simp at a⟩
theorem RowsAt.snoc {H : Hp} {rs : List V} {ls : List (List Nat)} {v : V} {l : List Nat} (h : RowsAt H rs ls) (x : IsRow H v l) : RowsAt H (rs ++ [v]) (ls ++ [l]) := by
  refine ⟨by simp [h.1], fun i w q a b => ?_⟩
  by_cases hi : i < rs.length
  · rw [List.getElem?_append_left hi] at a
    rw [List.getElem?_append_left (by rw [← h.1]; exact hi)] at b
    exact h.2 i w q a b
  · rw [List.getElem?_append_right (by omega)] at a
    rw [List.getElem?_append_right (by rw [← h.1]; omega), ← h.1] at b
    have h0 : i - rs.length = 0 := by
      have := (List.getElem?_eq_some_iff.mp a).1
      simp at this
      omega
    rw [h0] at a b
    cases a
    cases b
    exact x
/-- a list that is none of the rows is written -/
theorem RowsAt.upd {H : Hp} {rs : List V} {ls : List (List Nat)} {L : Addr} {o : HO} (h : RowsAt H rs ls) (n : ∀ v ∈ rs, v ≠ .ref L) : RowsAt (upd H L o) rs ls :=
  ⟨h.1, fun i v q a b => by
    obtain ⟨t, z1, z2⟩ := h.2 i v q a b
    refine ⟨t, z1, ?_⟩
    rw [upd_ne (fun z => n v (List.mem_of_getElem? a) (by rw [z1, z]))]
    exact z2⟩
theorem level_bound {k n p : Nat} (hn : n ≤ 16) (hp : p ≤ 4) : (level k n p).length * n ≤ 1048576 := by
  have h1 := level_len k n p
  have h2 : n ^ p ≤ 16 ^ p := Nat.pow_le_pow_left hn p
  have h3 : 16 ^ p ≤ 16 ^ 4 := Nat.pow_le_pow_right (by omega) hp
  have h4 : (level k n p).length ≤ 65536 := by
    have : (16 : Nat) ^ 4 = 65536 := by decide
    omega
  calc (level k n p).length * n ≤ 65536 * 16 := Nat.mul_le_mul h4 hn
    _ = 1048576 := by decide
theorem million {n : Nat} (h : n ≤ 1048576) : n < sizeLine := Nat.lt_of_le_of_lt h (by decide)
theorem nv_one (x : Nat) : nv [x] = [ni x] := rfl
section
variable {P : Program} {w : World} {K : PySem.W.Frag} {mg : Str → Option Value} {base : Heap} {T : List (Addr × Str)} {fF fN fB : Addr} {fdF fdN fdB : FuncData}
theorem scSh : FnScope ["size", "sweets", "shares", "place", "longer", "share", "most", "given"] ["size", "sweets"] (defScope sSh) := ⟨rfl, rfl, rfl, by decide +kernel, rfl, by decide +kernel, by decide +kernel⟩
def spSh : Sp := fun vs H Q _ => ∃ (k n : Nat), vs = [ni k, ni n] ∧ 1 ≤ k ∧ k ≤ 6 ∧ n ≤ 16 ∧
  ∀ (H' : Hp) (p : Addr) (rs : List V), Same H H' → H p = none → H' p = some (.lst rs) → RowsAt H' rs (Mu49.shares k n) → Q (.ref p) H'
theorem ok_sh {f : Addr} {fd : FuncData} {lv : Nat} (F : Fun K "shares_of" "shares_of" sSh f fd) (mr : mg "range" = none) (msum : mg "sum" = none) : FnOk P w K mg base CX0 (lv + 1) f fd ["size", "sweets"] spSh := by
  refine F.ok scSh (fun vs H Q E h => ?_) (fun cdv A outer st H vs Q E hr h => ?_)
  · obtain ⟨k, n, rfl, _⟩ := h
    rfl
  · obtain ⟨k, n, rfl, k1, k6, n16, q⟩ := h
    refine ⟨_, pss_cons (ps_set (i := 2) scSh.nd rfl (Or.inl rfl) (pe_lst (pa_cons (pe_lst pa_nil) pa_nil)))
      (pss_cons (ps_for PassesOwn.never rfl (pi_range1 rfl mr (pa_cons (pe_op op_sub (pv 0) pe_int) pa_nil)) (pg_name (i := 3) scSh.nd rfl (Or.inl rfl))
        (pss_cons (ps_set (i := 4) scSh.nd rfl (Or.inl rfl) (pe_lst pa_nil))
        (pss_cons (ps_for PassesOwn.never rfl (pi_list (pv 2)) (pg_name (i := 5) scSh.nd rfl (Or.inl rfl))
          (pss_cons (ps_set (i := 6) scSh.nd rfl (Or.inl rfl) (pe_op op_sub (pe_op op_sub (pv 1) (pe_callB (cr_sum rfl) (by rfl) msum (by decide +kernel) (pa_cons (pv 5) pa_nil))) (pe_op op_sub (pe_op op_sub (pv 0) pe_int) (pv 3))))
          (pss_one (ps_for PassesOwn.never rfl (pi_range2 (by rfl) mr (pa_cons pe_int (pa_cons (pe_op op_add (pv 6) pe_int) pa_nil))) (pg_name (i := 7) scSh.nd rfl (Or.inl rfl))
            (pss_one (ps_expr (pe_bm PySem.F.plainAttrs_list PySem.F.slot_list_append PySem.F.type_list_append mt_append (pv 4) (pa_cons (pe_op op_cat (pv 5) (pe_lst (pa_cons (pv 7) pa_nil))) pa_nil))))))))
        (pss_one (ps_set (i := 2) scSh.nd rfl (Or.inl rfl) (pv 4))))))
      (pss_one (ps_ret (pe_lc (own := [("share", 5)]) (g := gName 5) (tt := tTest (tOp (rI0 fun i j => .bl (decide (i < j))) (tCB (rSum K) (tCons (tVar 5) tNil)) (tVar 1))) (te := tOp rCat (tVar 5) (tLst (tCons (tOp (rI0 fun i j => .int (i - j)) (tVar 1) (tCB (rSum K) (tCons (tVar 5) tNil))) tNil))) rfl scSh.nd (pi_list (pv 2))
        (blkOk_by (own := [("share", 5)]) (N := ["size", "sweets", "shares", "place", "longer", "share", "most", "given"]) (sc := defScope sSh) (by decide +kernel)) (fun _ _ _ _ _ => pg_name (i := 5) scSh.nd rfl (Or.inl rfl))
        (fun _ _ _ _ _ => pts_one (pt_cmpR op_lt (pe_callB (cr_sum rfl) (by rfl) msum (by decide +kernel) (pa_cons (pv 5) pa_nil)) (pv 1) (nomark _)))
        (fun _ _ _ _ _ => pe_op op_cat (pv 5) (pe_lst (pa_cons (pe_op op_sub (pv 1) (pe_callB (cr_sum rfl) (by rfl) msum (by decide +kernel) (pa_cons (pv 5) pa_nil))) pa_nil))))))), ?_⟩
    have eN : ((k : Int) - 1).toNat = k - 1 := by omega
    -- shares = [[]]
    refine ⟨Nat.zero_le _, fun z0 nz0 => ⟨by show 1 ≤ sizeLine; decide, fun S0 nS0 => ?_⟩⟩
    have sm0 : Same H (upd (upd H z0 (.lst [])) S0 (.lst [.ref z0])) := (same_new nz0).trans (same_new nS0)
    have hz0 : S0 ≠ z0 := fun z => by rw [z, upd_same] at nS0; cases nS0
    refine ⟨_, rfl, _, _, rfl, rfl, (k : Int) - 1, rfl, by omega, by omega, ?_⟩
    rw [eN]
    refine for_range (lo := 0) (n := k - 1) (fun i σ H1 => ∃ (S : Addr) (rs : List V) (y3 y4 y5 y6 y7 : Option V), σ = [some (ni k), some (ni n), some (.ref S), y3, y4, y5, y6, y7] ∧ Same H H1 ∧ H1 S = some (.lst rs) ∧ RowsAt H1 rs (level k n i)) ?_ ?_ ?_
    · exact ⟨S0, [.ref z0], none, none, none, none, none, rfl, sm0, upd_same, RowsAt.nil.snoc (l := []) ⟨z0, rfl, by rw [upd_ne (Ne.symm hz0), upd_same]; rfl⟩⟩
    · rintro i σ H1 hi ⟨S, rs, y3, y4, y5, y6, y7, rfl, sm, eS, pr⟩
      -- longer = []
      refine ⟨Nat.zero_le _, fun L nL => ?_⟩
      have eS1 : (upd H1 L (.lst [])) S = some (.lst rs) := same_new nL _ _ eS
      refine ⟨.ref S, rfl, S, rfl, ⟨_, SqL.of eS1⟩, for_list (K := K) (a := S) (xs := rs) (fun j σ H2 => ∃ (ls : List V) (y5 y6 y7 : Option V), σ = [some (ni k), some (ni n), some (.ref S), some (.int (0 + (i : Int))), some (.ref L), y5, y6, y7] ∧ Same H1 H2 ∧ H2 L = some (.lst ls) ∧
          RowsAt H2 ls (((level k n i).take j).flatMap (ext1 n (k - 1 - i))) ∧ ∀ v ∈ ls, v ≠ .ref L) ⟨[], y5, y6, y7, rfl, same_new nL, upd_same, RowsAt.nil, fun v hv => by cases hv⟩ (fun j σ H2 _ ⟨_, _, _, _, _, z, _⟩ => SqL.of (z _ _ eS)) ?_ ?_⟩
      · rintro j x σ H2 hj ⟨ls, y5, y6, y7, rfl, sm2, eL, pl, nl⟩
        have hjl : j < (level k n i).length := by
          rw [← pr.1]
          exact (List.getElem?_eq_some_iff.mp hj).1
        obtain ⟨s, hs⟩ : ∃ s, (level k n i)[j]? = some s := ⟨_, List.getElem?_eq_getElem hjl⟩
        obtain ⟨t, rfl, et1⟩ := pr.2 j x s hj hs
        obtain ⟨ls1, ls2⟩ := level_row (List.mem_of_getElem? hs)
        have lb := level_bound (k := k) (p := i) n16 (by omega)
        have et2 := sm2 _ _ et1
        have pl_len : ls.length ≤ j * n := by
          rw [pl.1]
          refine Nat.le_trans (flatMap_len (b := n) fun s _ => ext1_len n _ s) ?_
          rw [List.length_take]
          exact Nat.mul_le_mul_right _ (Nat.min_le_left _ _)
        have jn : j * n + n ≤ 1048576 := by
          have : (j + 1) * n ≤ (level k n i).length * n := Nat.mul_le_mul_right _ hjl
          rw [Nat.add_mul] at this
          omega
        -- most = ..
        refine ⟨_, rfl, _, rfl, t, zi s, rfl, by rw [← nv_zi]; exact SqL.of et2, _, _, rfl, rfl, _, rfl, _, _, rfl, rfl, _, rfl, _, _, rfl, rfl, _, _, rfl, rfl, ?_⟩
        rw [sum_zi]
        -- for given in range(1, most + 1)
        refine ⟨_, rfl, _, _, rfl, rfl, 1, _, rfl, ⟨by omega, by omega, ?_, ?_⟩, ?_⟩
        · have : Mu49.total s ≤ 1000 := by
            have hb : ∀ l : List Nat, (∀ x ∈ l, x ≤ n) → Mu49.total l ≤ l.length * n := fun l => by
              induction l with
              | nil => intro _; exact Nat.zero_le _
              | cons a l ih =>
                intro h
                rw [total_cons, List.length_cons, Nat.add_mul]
                have h1 := h a List.mem_cons_self
                have h2 := ih fun x hx => h x (List.mem_cons_of_mem _ hx)
                omega
            have h1 := hb s ls2
            rw [ls1] at h1
            have h2 : i * n ≤ 6 * 16 := Nat.mul_le_mul (by omega) n16
            omega
          omega
        · omega
        have eX : ((n : Int) - ((Mu49.total s : Nat) : Int) - ((k : Int) - 1 - (0 + (i : Int))) + 1 - 1).toNat = n - Mu49.total s - (k - 1 - i) := by omega
        rw [eX]
        refine for_range (lo := 1) (n := n - Mu49.total s - (k - 1 - i)) (fun x σ H3 => ∃ (ls' : List V) (y7 : Option V), σ = [some (ni k), some (ni n), some (.ref S), some (.int (0 + (i : Int))), some (.ref L), some (.ref t), some (.int ((n : Int) - ((Mu49.total s : Nat) : Int) - ((k : Int) - 1 - (0 + (i : Int))))), y7] ∧ Same H1 H3 ∧ H3 L = some (.lst ls') ∧
          RowsAt H3 ls' ((((level k n i).take j).flatMap (ext1 n (k - 1 - i))) ++ (List.range x).map fun z => s ++ [z + 1]) ∧ ∀ v ∈ ls', v ≠ .ref L) ⟨ls, y7, rfl, sm2, eL, by simpa using pl, nl⟩ ?_ ?_
        · rintro x σ H3 hx ⟨ls', y7, rfl, sm3, eL3, pl3, nl3⟩
          have et3 := sm3 _ _ et1
          refine ⟨.ref L, rfl, .inl ⟨rfl, _, SqL.of eL3⟩, _, rfl, _, rfl, by show 1 ≤ sizeLine; decide, fun e ne => ?_⟩
          have nte : t ≠ e := ne_of_none et3 ne
          refine ⟨t, e, nv s, _, rfl, rfl, by rw [upd_ne nte]; exact et3, upd_same, ?_, fun p np => ?_⟩
          · simp only [List.length_map, List.length_cons, List.length_nil]
            have := million (n := s.length + 1) (by omega)
            omega
          have sm4 : Same H3 (upd (upd H3 e (.lst [.int (1 + (x : Int))])) p (.lst (nv s ++ [.int (1 + (x : Int))]))) := (same_new ne).trans (same_new np)
          have eL4 := sm4 _ _ eL3
          have nLp : L ≠ p := fun z => by
            rw [← z, upd_ne (ne_of_none eL3 ne), eL3] at np
            cases np
          have hls : ls'.length ≤ j * n + x := by
            rw [pl3.1, List.length_append, List.length_map, List.length_range, ← pl.1]
            omega
          refine ⟨L, ls', _, rfl, rfl, eL4, million (by omega), ?_⟩
          refine ⟨_, _, rfl, same_set nL (sm3.trans sm4), upd_same, ?_, fun v hv => ?_⟩
          · rw [List.range_succ, List.map_append, ← List.append_assoc]
            refine RowsAt.upd ((pl3.same sm4).snoc ⟨p, rfl, ?_⟩) fun v hv => ?_
            · rw [upd_same, nv_snoc, show (1 + (x : Int)) = ((x + 1 : Nat) : Int) by omega]
            · rcases List.mem_append.mp hv with hv | hv
              · exact nl3 v hv
              · rw [List.mem_singleton] at hv
                subst hv
                exact fun z => nLp (V.ref.inj z).symm
          · rcases List.mem_append.mp hv with hv | hv
            · exact nl3 v hv
            · rw [List.mem_singleton] at hv
              subst hv
              exact fun z => nLp (V.ref.inj z).symm
        · rintro σ H3 ⟨ls', y7, rfl, sm3, eL3, pl3, nl3⟩
          refine ⟨ls', _, _, _, rfl, sm3, eL3, ?_, nl3⟩
          rw [take_snoc hs, List.flatMap_append, List.flatMap_cons, List.flatMap_nil, List.append_nil]
          exact pl3
      · rintro σ H2 ⟨ls, y5, y6, y7, rfl, sm2, eL, pl, nl⟩
        refine ⟨_, rfl, L, ls, _, _, _, _, _, rfl, sm.trans sm2, eL, ?_⟩
        rw [pr.1, List.take_length] at pl
        exact pl
    · rintro σ H1 ⟨S, rs, y3, y4, y5, y6, y7, rfl, sm, eS, pr⟩
      -- the last one's
      refine ⟨.ref S, rfl, S, rfl, ⟨_, SqL.of eS⟩, fun D nD => ?_⟩
      refine lc_list (K := K) (a := S) (xs := rs) (fun j H2 => ∃ ds : List V, Same H1 H2 ∧ H2 D = some (.lst ds) ∧ RowsAt H2 ds (lastOf n ((level k n (k - 1)).take j)) ∧ ∀ v ∈ ds, v ≠ .ref D) ⟨[], same_new nD, upd_same, RowsAt.nil, fun v hv => by cases hv⟩ (fun j H2 _ ⟨_, z, _⟩ => SqL.of (z _ _ eS)) ?_ ?_
      · rintro j x H2 hj ⟨ds, sm2, eD, pd, nd⟩
        have hjl : j < (level k n (k - 1)).length := by
          rw [← pr.1]
          exact (List.getElem?_eq_some_iff.mp hj).1
        obtain ⟨s, hs⟩ : ∃ s, (level k n (k - 1))[j]? = some s := ⟨_, List.getElem?_eq_getElem hjl⟩
        obtain ⟨t, rfl, et1⟩ := pr.2 j x s hj hs
        obtain ⟨ls1, ls2⟩ := level_row (List.mem_of_getElem? hs)
        have et2 := sm2 _ _ et1
        have et2' : SqL K H2 t ((zi s).map V.int) := by
          rw [← nv_zi]
          exact SqL.of et2
        have hlen : ds.length ≤ j := by
          rw [pd.1]
          unfold lastOf
          rw [List.length_map]
          refine Nat.le_trans (List.length_filter_le _ _) ?_
          rw [List.length_take]
          exact Nat.min_le_left _ _
        have hlev : (level k n (k - 1)).length ≤ 1048576 := by
          have h1 := level_len k n (k - 1)
          have h2 : n ^ (k - 1) ≤ 16 ^ (k - 1) := Nat.pow_le_pow_left n16 _
          have h3 : 16 ^ (k - 1) ≤ 16 ^ 5 := Nat.pow_le_pow_right (by omega) (by omega)
          have h4 : (16 : Nat) ^ 5 = 1048576 := by decide
          omega
        refine ⟨rfl, ?_⟩
        refine ⟨_, rfl, t, zi s, rfl, et2', _, rfl, _, _, rfl, rfl, _, rfl, ite2 (fun e => ?_) (fun e => ?_)⟩
        · rw [sum_zi] at e
          have e0 : Mu49.total s < n := by
            have := of_decide_eq_true e
            omega
          refine ⟨_, rfl, _, rfl, _, rfl, t, zi s, rfl, et2', _, _, rfl, rfl, by show 1 ≤ sizeLine; decide, fun z nz => ?_⟩
          rw [sum_zi]
          have ntz : t ≠ z := ne_of_none et2 nz
          refine ⟨t, z, nv s, _, rfl, rfl, by rw [upd_ne ntz]; exact et2, upd_same, ?_, fun p np => ?_⟩
          · simp only [List.length_map, List.length_cons, List.length_nil]
            have := million (n := s.length + 1) (by omega)
            omega
          have sm4 : Same H2 (upd (upd H2 z (.lst [.int ((n : Int) - ((Mu49.total s : Nat) : Int))])) p (.lst (nv s ++ [.int ((n : Int) - ((Mu49.total s : Nat) : Int))]))) := (same_new nz).trans (same_new np)
          have eD4 := sm4 _ _ eD
          have nDp : D ≠ p := fun z' => by
            rw [← z', upd_ne (ne_of_none eD nz), eD] at np
            cases np
          have nall : ∀ v ∈ ds ++ [V.ref p], v ≠ .ref D := fun v hv => by
            rcases List.mem_append.mp hv with hv | hv
            · exact nd v hv
            · rw [List.mem_singleton] at hv
              subst hv
              exact fun z => nDp (V.ref.inj z).symm
          refine ⟨ds, eD4, million (by omega), _, same_set nD (sm2.trans sm4), upd_same, RowsAt.upd ?_ nall, nall⟩
          have el : lastOf n ((level k n (k - 1)).take (j + 1)) = lastOf n ((level k n (k - 1)).take j) ++ [s ++ [n - Mu49.total s]] := by
            unfold lastOf
            rw [take_snoc hs, List.filter_append, List.map_append]
            congr 1
            rw [List.filter_cons, if_pos (decide_eq_true e0)]
            rfl
          rw [el]
          refine (pd.same sm4).snoc ⟨p, rfl, ?_⟩
          rw [upd_same, nv_snoc, show ((n : Int) - ((Mu49.total s : Nat) : Int)) = ((n - Mu49.total s : Nat) : Int) by omega]
        · rw [sum_zi] at e
          have e0 : ¬ Mu49.total s < n := fun z => e (decide_eq_true (by omega))
          refine ⟨ds, sm2, eD, ?_, nd⟩
          have el : lastOf n ((level k n (k - 1)).take (j + 1)) = lastOf n ((level k n (k - 1)).take j) := by
            unfold lastOf
            rw [take_snoc hs, List.filter_append, List.map_append]
            have : ([s].filter fun s => decide (Mu49.total s < n)) = [] := by
              rw [List.filter_cons, if_neg (by simpa using e0)]
              rfl
            rw [this]
            simp
          rw [el]
          exact pd
      · rintro H2 ⟨ds, sm2, eD, pd, nd⟩
        rw [pr.1, List.take_length, level_shares k1] at pd
        refine q H2 D ds (sm.trans sm2) ?_ eD pd
        cases z : H D with
        | none => rfl
        | some u =>
          have := sm _ _ z
          rw [nD] at this
          cases this
end
end Fs
set_option Elab.async false
set_option maxRecDepth 100000
set_option maxHeartbeats 2000000
namespace Fs
open PySem PySem.Spec PyProof.Rows L2 LamX
section
variable {P : Program} {w : World} {K : PySem.W.Frag} {mg : Str → Option Value} {base : Heap} {T : List (Addr × Str)} {fF fN fB : Addr} {fdF fdN fdB : FuncData}
theorem scCt : FnScope ["ring", "marks", "sweets", "pairs", "fair", "share", "better", "worse"] ["ring", "marks", "sweets"] (defScope sCt) := ⟨rfl, rfl, rfl, by decide +kernel, rfl, by decide +kernel, by decide +kernel⟩
def spCt (K : PySem.W.Frag) : Sp := fun vs H Q _ => ∃ (r : Nat) (m : Addr) (ms : List Nat) (n : Nat), vs = [ni r, .ref m, ni n] ∧ SqL K H m (nv ms) ∧ Good r ms ∧ n ≤ 16 ∧
  ∀ (H' : Hp), Same H H' → Q (ni (Mu49.count (lin r ms) n)) H'
theorem ok_ct {f fS : Addr} {fd fdS : FuncData} {k : Nat} (F : Fun K "count_fair" "count_fair" sCt f fd) (C : FewCtx K mg base T fF fN fB fdF fdN fdB) (FS : Fun K "shares_of" "shares_of" sSh fS fdS) (bS : Binds K fdS ["size", "sweets"] []) (gS : mg "shares_of" = some (.ref fS))
    (mr : mg "range" = none) (msum : mg "sum" = none) (ml : mg "len" = none) (mall : mg "all" = none) : FnOk P w K mg base CX0 (k + 3) f fd ["ring", "marks", "sweets"] (spCt K) := by
  have GS : FnOk P w K mg base CX0 (k + 1) fS fdS ["size", "sweets"] spSh := ok_sh FS mr msum
  refine F.ok scCt (fun vs H Q E h => ?_) (fun cdv A outer st H vs Q E hr h => ?_)
  · obtain ⟨r, m, ms, n, rfl, _⟩ := h
    rfl
  · obtain ⟨r, m, ms, n, rfl, hM, g, n16, q⟩ := h
    refine ⟨_, pss_cons (ps_set (i := 3) scCt.nd rfl (Or.inl rfl) (pe_call (C.bet (k := k)) hr (by rfl) C.gB C.kB C.bB .nil pass0 (pa_cons (pv 0) (pa_cons (pv 1) pa_nil))))
      (pss_cons (ps_set (i := 4) scCt.nd rfl (Or.inl rfl) pe_int)
      (pss_cons (ps_for PassesOwn.never rfl (pi_list (pe_call GS (hr.mono (by omega)) (by rfl) gS FS.kp bS .nil pass0 (pa_cons (pe_callB call_len_seq (by rfl) ml PySem.boot_len (pa_cons (pv 1) pa_nil)) (pa_cons (pv 2) pa_nil)))) (pg_name (i := 5) scCt.nd rfl (Or.inr rfl))
        (pss_one (ps_if (pt_val (pe_callB (cr_all rfl) (by rfl) mall (by decide +kernel) (pa_cons (pe_lc (own := [("better", 6), ("worse", 7)]) (g := gTup K 2 (gCons (gName 6) (gCons (gName 7) gNil))) (tt := tYes) (te := tOp (rI0 fun i j => .bl (decide (j < i))) (tOp (rIxL K) (tVar 5) (tVar 6)) (tOp (rIxL K) (tVar 5) (tVar 7))) rfl scCt.nd
            (pi_list (pv 3)) (blkOk_by (own := [("better", 6), ("worse", 7)]) (N := ["ring", "marks", "sweets", "pairs", "fair", "share", "better", "worse"]) (sc := defScope sCt) (by decide +kernel))
            (fun _ _ _ _ _ => pg_tup rfl (pgs_cons (pg_name (i := 6) scCt.nd rfl (Or.inl rfl)) (pgs_cons (pg_name (i := 7) scCt.nd rfl (Or.inl rfl)) pgs_nil)))
            (fun _ _ _ _ _ => pts_nil) (fun _ _ _ _ _ => pe_cmpR op_gt (pe_ix ix_list (pv 5) (pv 6) (fun _ _ => rfl)) (pe_ix ix_list (pv 5) (pv 7) (fun _ _ => rfl)) (nomark _))) pa_nil)))
          (pss_one (ps_aug (i := 4) scCt.nd rfl (Or.inl rfl) pe_int ip_add)) pss_nil)))
      (pss_one (ps_ret (pv 4))))), ?_⟩
    have g6 := g.six
    have g1 := g.pos
    refine ⟨_, rfl, .ref m, rfl, r, m, ms, rfl, hM, g, fun H1 a rs sm1 na ea pr => ?_⟩
    refine ⟨.ref m, rfl, m, _, rfl, .inl (sm1.seq hM), _, rfl, ms.length, n, ?_, g1, g6, n16, fun H2 b ss sm2 nb eb pb => ?_⟩
    · show [V.int ((nv ms).length : Int), ni n] = _
      rw [List.length_map]
    have sm12 := sm1.trans sm2
    refine ⟨b, rfl, ⟨_, SqL.of eb⟩, for_list (K := K) (a := b) (xs := ss) (fun i σ H3 => ∃ y5 : Option V, σ = [some (ni r), some (.ref m), some (ni n), some (.ref a), some (ni (((Mu49.shares ms.length n).take i).filter (okShare r ms)).length), y5, none, none] ∧ Same H2 H3)
      ⟨none, rfl, fun _ _ e => e⟩ (fun i σ H3 _ ⟨_, _, z⟩ => SqL.of (z _ _ eb)) ?_ ?_⟩
    · rintro i x σ H3 hi ⟨y5, rfl, sm3⟩
      have hil : i < (Mu49.shares ms.length n).length := by
        rw [← pb.1]
        exact (List.getElem?_eq_some_iff.mp hi).1
      obtain ⟨s, hs⟩ : ∃ s, (Mu49.shares ms.length n)[i]? = some s := ⟨_, List.getElem?_eq_getElem hil⟩
      obtain ⟨t, rfl, et⟩ := (pb.same sm3).2 i x s hi hs
      have sl := (shares_row (List.mem_of_getElem? hs)).1
      have ea3 := sm3 _ _ (sm2 _ _ ea)
      have pr3 := (pr.same sm2).same sm3
      refine ⟨.ref a, rfl, a, rfl, ⟨_, SqL.of ea3⟩, fun D nD => ?_⟩
      refine lc_list (K := K) (a := a) (xs := rs) (fun j H4 => Same H3 H4 ∧ H4 D = some (.lst (((betPairs r ms).take j).map fun p => V.bl (decide (s.getD p.2 0 < s.getD p.1 0))))) ⟨same_new nD, upd_same⟩ (fun j H4 _ ⟨z, _⟩ => SqL.of (z _ _ ea3)) ?_ ?_
      · rintro j x H4 hj ⟨sm4, eD⟩
        have hjl : j < (betPairs r ms).length := by
          rw [← pr3.1]
          exact (List.getElem?_eq_some_iff.mp hj).1
        obtain ⟨pq, hp⟩ : ∃ pq, (betPairs r ms)[j]? = some pq := ⟨_, List.getElem?_eq_getElem hjl⟩
        obtain ⟨u, rfl, eu⟩ := (pr3.same sm4).2 j x pq hj hp
        obtain ⟨c, v⟩ := pq
        have hbv := bet_lt g (List.mem_of_getElem? hp)
        have et4 : SqL K H4 t (nv s) := SqL.of (sm4 _ _ et)
        refine ⟨u, _, rfl, SqT.of eu, rfl, _, _, rfl, _, _, rfl, rfl, rfl, ?_⟩
        refine ⟨.ref t, rfl, _, rfl, t, _, _, _, rfl, rfl, et4, nv_at (i := c) (by omega), .ref t, rfl, _, rfl, t, _, _, _, rfl, rfl, et4, nv_at (i := v) (by omega), _, _, rfl, rfl, _, eD, ?_, fun b x e => ?_, ?_⟩
        · have h2 := betPairs_len r ms
          rw [List.length_map, List.length_take]
          exact small1000 (by omega)
        · rw [upd_ne (ne_of_none e nD)]
          exact sm4 b x e
        · rw [upd_same, take_snoc hp, List.map_append]
          congr 4
          show V.bl (decide ((s.getD v 0 : Int) < (s.getD c 0 : Int))) = V.bl (decide (s.getD v 0 < s.getD c 0))
          congr 1
          rw [Bool.eq_iff_iff, decide_eq_true_eq, decide_eq_true_eq]
          omega
      · rintro H4 ⟨sm4, eD⟩
        rw [pr3.1, List.take_length] at eD
        refine ⟨D, (betPairs r ms).map fun p => decide (s.getD p.2 0 < s.getD p.1 0), rfl, ?_, _, rfl, ?_⟩
        · rw [List.map_map]
          exact SqL.of eD
        have eall : (((betPairs r ms).map fun p => decide (s.getD p.2 0 < s.getD p.1 0)).all id) = okShare r ms s := by
          unfold okShare
          rw [List.all_map]
          rfl
        rw [eall]
        have step : ((Mu49.shares ms.length n).take (i + 1)).filter (okShare r ms) = ((Mu49.shares ms.length n).take i).filter (okShare r ms) ++ (if okShare r ms s = true then [s] else []) := by
          rw [take_snoc hs, List.filter_append]
          congr 1
          rw [List.filter_cons]
          rfl
        refine ite2 (fun e => ?_) (fun e => ?_)
        · refine ⟨_, rfl, _, _, rfl, rfl, some (.ref t), ?_, sm3.trans sm4⟩
          rw [step, if_pos e, List.length_append]
          rfl
        · refine ⟨some (.ref t), ?_, sm3.trans sm4⟩
          rw [step, if_neg e, List.append_nil]
          rfl
    · rintro σ H3 ⟨y5, rfl, sm3⟩
      refine ⟨_, rfl, ?_⟩
      rw [pb.1, List.take_length, ← count_eq g]
      exact q H3 (sm12.trans sm3)
end
end Fs
set_option Elab.async false
set_option maxRecDepth 100000
set_option maxHeartbeats 2000000
namespace Fs
open PySem PySem.Spec PyProof.Rows L2 LamX
abbrev sOr : Stmt := top 10
abbrev sBo : Stmt := top 11
theorem all_flat : ∀ l : List Nat, (nv l).all flatV = true
  | [] => rfl
  | x :: l => by
    show (flatV (ni x) && (nv l).all flatV) = true
    rw [all_flat l]
    rfl
theorem inV_nv (x : Nat) : ∀ l : List Nat, inV (ni x) (nv l) = l.contains x
  | [] => rfl
  | y :: l => by
    show (eqV (ni y) (ni x) || inV (ni x) (nv l)) = _
    rw [inV_nv x l, List.contains_cons]
    congr 1
    show decide ((y : Int) = (x : Int)) = (x == y)
    rw [Bool.eq_iff_iff, decide_eq_true_eq, beq_iff_eq]
    omega
theorem six_six : (6 : Nat) ^ 6 ≤ 1048576 := by decide
theorem RowsAt.app {H : Hp} {rs qs : List V} {ls ks : List (List Nat)} (h : RowsAt H rs ls) (x : RowsAt H qs ks) : RowsAt H (rs ++ qs) (ls ++ ks) := by
  refine ⟨by rw [List.length_append, List.length_append, h.1, x.1], fun i w q a b => ?_⟩
  by_cases hi : i < rs.length
  · rw [List.getElem?_append_left hi] at a
    rw [List.getElem?_append_left (by rw [← h.1]; exact hi)] at b
    exact h.2 i w q a b
  · rw [List.getElem?_append_right (by omega)] at a
    rw [List.getElem?_append_right (by rw [← h.1]; omega), ← h.1] at b
    exact x.2 _ w q a b
section
variable {P : Program} {w : World} {K : PySem.W.Frag} {mg : Str → Option Value} {base : Heap} {T : List (Addr × Str)} {fF fN fB : Addr} {fdF fdN fdB : FuncData}
theorem scOr : FnScope ["size", "orders", "length", "longer", "order", "place"] ["size"] (defScope sOr) := ⟨rfl, rfl, rfl, by decide +kernel, rfl, by decide +kernel, by decide +kernel⟩
def spOr : Sp := fun vs H Q _ => ∃ (n : Nat), vs = [ni n] ∧ n ≤ 6 ∧
  ∀ (H' : Hp) (p : Addr) (rs : List V), Same H H' → H p = none → H' p = some (.lst rs) → RowsAt H' rs (Mu49.orders n (List.range n)) → (∀ v ∈ rs, v ≠ .ref p) → Q (.ref p) H'
theorem ok_or {f : Addr} {fd : FuncData} {lv : Nat} (F : Fun K "all_orders" "all_orders" sOr f fd) (mr : mg "range" = none) : FnOk P w K mg base CX0 (lv + 1) f fd ["size"] spOr := by
  refine F.ok scOr (fun vs H Q E h => ?_) (fun cdv A outer st H vs Q E hr h => ?_)
  · obtain ⟨n, rfl, _⟩ := h
    rfl
  · obtain ⟨n, rfl, n6, q⟩ := h
    refine ⟨_, pss_cons (ps_set (i := 1) scOr.nd rfl (Or.inl rfl) (pe_lst (pa_cons (pe_lst pa_nil) pa_nil)))
      (pss_cons (ps_for PassesOwn.never rfl (pi_range1 rfl mr (pa_cons (pv 0) pa_nil)) (pg_name (i := 2) scOr.nd rfl (Or.inl rfl))
        (pss_cons (ps_set (i := 3) scOr.nd rfl (Or.inl rfl) (pe_lst pa_nil))
        (pss_cons (ps_for PassesOwn.never rfl (pi_list (pv 1)) (pg_name (i := 4) scOr.nd rfl (Or.inr rfl))
          (pss_one (ps_expr (pe_bm PySem.F.plainAttrs_list PySem.F.slot_list_extend PySem.F.type_list_extend mt_extend (pv 3) (pa_cons
            (pe_lc (own := [("place", 5)]) (g := gName 5) (tt := tTest (tOp (rIn K true) (tVar 5) (tVar 4))) (te := tOp rCat (tVar 4) (tLst (tCons (tVar 5) tNil))) rfl scOr.nd (pi_range1 rfl mr (pa_cons (pv 0) pa_nil))
              (blkOk_by (own := [("place", 5)]) (N := ["size", "orders", "length", "longer", "order", "place"]) (sc := defScope sOr) (by decide +kernel)) (fun _ _ _ _ _ => pg_name (i := 5) scOr.nd rfl (Or.inl rfl))
              (fun _ _ _ _ _ => pts_one (pt_cmpR op_notIn_seq (pv 5) (pv 4) (by rfl))) (fun _ _ _ _ _ => pe_op op_cat (pv 4) (pe_lst (pa_cons (pv 5) pa_nil)))) pa_nil)))))
        (pss_one (ps_set (i := 1) scOr.nd rfl (Or.inl rfl) (pv 3))))))
      (pss_one (ps_ret (pv 1)))), ?_⟩
    have n36 : ∀ i, i ≤ 6 → (tier n i).length ≤ 46656 := fun i hi => by
      have h1 := tier_len n i
      have h2 : n ^ i ≤ 6 ^ i := Nat.pow_le_pow_left n6 i
      have h3 : 6 ^ i ≤ 6 ^ 6 := Nat.pow_le_pow_right (by omega) hi
      have h4 : (6 : Nat) ^ 6 = 46656 := by decide
      omega
    -- orders = [[]]
    refine ⟨Nat.zero_le _, fun z0 nz0 => ⟨by show 1 ≤ sizeLine; decide, fun S0 nS0 => ?_⟩⟩
    have sm0 : Same H (upd (upd H z0 (.lst [])) S0 (.lst [.ref z0])) := (same_new nz0).trans (same_new nS0)
    have hz0 : S0 ≠ z0 := fun z => by rw [z, upd_same] at nS0; cases nS0
    have nSH : H S0 = none := by
      rw [upd_ne hz0] at nS0
      exact nS0
    refine ⟨_, rfl, (n : Int), rfl, by omega, by omega, ?_⟩
    rw [Int.toNat_natCast]
    refine for_range (lo := 0) (n := n) (fun i σ H1 => ∃ (S : Addr) (rs : List V) (y2 y3 y4 : Option V), σ = [some (ni n), some (.ref S), y2, y3, y4, none] ∧ Same H H1 ∧ H S = none ∧ H1 S = some (.lst rs) ∧ RowsAt H1 rs (tier n i) ∧ ∀ v ∈ rs, v ≠ .ref S) ?_ ?_ ?_
    · refine ⟨S0, [.ref z0], none, none, none, rfl, sm0, nSH, upd_same, RowsAt.nil.snoc (l := []) ⟨z0, rfl, by rw [upd_ne (Ne.symm hz0), upd_same]; rfl⟩, fun v hv => ?_⟩
      rw [List.mem_singleton] at hv
      subst hv
      exact fun z => hz0 (V.ref.inj z).symm
    · rintro i σ H1 hi ⟨S, rs, y2, y3, y4, rfl, sm, nS, eS, pr, _⟩
      refine ⟨Nat.zero_le _, fun L nL => ?_⟩
      have nLH : H L = none := by
        cases z : H L with
        | none => rfl
        | some u =>
          have := sm _ _ z
          rw [nL] at this
          cases this
      have eS1 : (upd H1 L (.lst [])) S = some (.lst rs) := same_new nL _ _ eS
      refine ⟨.ref S, rfl, S, rfl, ⟨_, SqL.of eS1⟩, for_list (K := K) (a := S) (xs := rs) (fun j σ H2 => ∃ (ls : List V) (y4 : Option V), σ = [some (ni n), some (.ref S), some (.int (0 + (i : Int))), some (.ref L), y4, none] ∧ Same H1 H2 ∧ H2 L = some (.lst ls) ∧
          RowsAt H2 ls (((tier n i).take j).flatMap (grow n)) ∧ ∀ v ∈ ls, v ≠ .ref L) ⟨[], y4, rfl, same_new nL, upd_same, RowsAt.nil, fun v hv => by cases hv⟩ (fun j σ H2 _ ⟨_, _, _, z, _⟩ => SqL.of (z _ _ eS)) ?_ ?_⟩
      · rintro j x σ H2 hj ⟨ls, y4, rfl, sm2, eL, pl, nl⟩
        have hjl : j < (tier n i).length := by
          rw [← pr.1]
          exact (List.getElem?_eq_some_iff.mp hj).1
        obtain ⟨o, ho⟩ : ∃ o, (tier n i)[j]? = some o := ⟨_, List.getElem?_eq_getElem hjl⟩
        obtain ⟨t, rfl, et1⟩ := pr.2 j x o hj ho
        obtain ⟨lo1, lo2⟩ := tier_row (List.mem_of_getElem? ho)
        have et2 := sm2 _ _ et1
        have glen : ∀ o, (grow n o).length ≤ n := fun o => by
          unfold grow
          rw [List.length_map]
          exact Nat.le_trans (List.length_filter_le _ _) (by rw [List.length_range]; exact Nat.le_refl _)
        have lsl : ls.length ≤ 46656 * 6 := by
          rw [pl.1]
          refine Nat.le_trans (flatMap_len (b := n) fun o _ => glen o) ?_
          have h1 := n36 i (by omega)
          rw [List.length_take]
          exact Nat.mul_le_mul (by omega) n6
        refine ⟨.ref L, rfl, .inl ⟨rfl, _, SqL.of eL⟩, ?_⟩
        refine ⟨_, rfl, (n : Int), rfl, by omega, by omega, fun D nD => ?_⟩
        rw [Int.toNat_natCast]
        refine lc_range (lo := 0) (n := n) (fun x H3 => ∃ ds : List V, Same H2 H3 ∧ H3 D = some (.lst ds) ∧ RowsAt H3 ds (((List.range x).filter fun x => !o.contains x).map fun x => o ++ [x]) ∧ ∀ v ∈ ds, v ≠ .ref D ∧ v ≠ .ref L) ⟨[], same_new nD, upd_same, RowsAt.nil, fun v hv => by cases hv⟩ ?_ ?_
        · rintro x H3 hx ⟨ds, sm3, eD, pd, nd⟩
          have et3 := sm3 _ _ et2
          have eL3 := sm3 _ _ eL
          have ex : (0 + (x : Int)) = (x : Int) := by omega
          refine ⟨rfl, ?_⟩
          refine ⟨_, rfl, .ref t, rfl, t, _, rfl, .inl (SqL.of et3), rfl, all_flat o, _, rfl, ?_⟩
          rw [ex]
          show if (!inV (ni x) (nv o)) = true then _ else _
          rw [inV_nv]
          have dsl : ds.length ≤ x := by
            rw [pd.1, List.length_map]
            exact Nat.le_trans (List.length_filter_le _ _) (by rw [List.length_range]; exact Nat.le_refl _)
          refine ite2 (fun e => ?_) (fun e => ?_)
          · refine ⟨.ref t, rfl, _, rfl, by show 1 ≤ sizeLine; decide, fun z nz => ?_⟩
            have ntz : t ≠ z := ne_of_none et3 nz
            refine ⟨t, z, nv o, _, rfl, rfl, by rw [upd_ne ntz]; exact et3, upd_same, ?_, fun p np => ?_⟩
            · simp only [List.length_map, List.length_cons, List.length_nil]
              have := million (n := o.length + 1) (by omega)
              omega
            have sm4 : Same H3 (upd (upd H3 z (.lst [ni x])) p (.lst (nv o ++ [ni x]))) := (same_new nz).trans (same_new np)
            have eD4 := sm4 _ _ eD
            have nDp : D ≠ p := fun z' => by
              rw [← z', upd_ne (ne_of_none eD nz), eD] at np
              cases np
            have nLp : L ≠ p := fun z' => by
              rw [← z', upd_ne (ne_of_none eL3 nz), eL3] at np
              cases np
            have nall : ∀ v ∈ ds ++ [V.ref p], v ≠ .ref D ∧ v ≠ .ref L := fun v hv => by
              rcases List.mem_append.mp hv with hv | hv
              · exact nd v hv
              · rw [List.mem_singleton] at hv
                subst hv
                exact ⟨fun z => nDp (V.ref.inj z).symm, fun z => nLp (V.ref.inj z).symm⟩
            refine ⟨ds, eD4, million (by omega), _, same_set nD (sm3.trans sm4), upd_same, RowsAt.upd ?_ fun v hv => (nall v hv).1, nall⟩
            have el : ((List.range (x + 1)).filter fun x => !o.contains x).map (fun x => o ++ [x]) = ((List.range x).filter fun x => !o.contains x).map (fun x => o ++ [x]) ++ [o ++ [x]] := by
              rw [List.range_succ, List.filter_append, List.map_append]
              congr 1
              rw [List.filter_cons, if_pos e]
              rfl
            rw [el]
            refine (pd.same sm4).snoc ⟨p, rfl, ?_⟩
            rw [upd_same, nv_snoc]
          · refine ⟨ds, sm3, eD, ?_, nd⟩
            have el : ((List.range (x + 1)).filter fun x => !o.contains x).map (fun x => o ++ [x]) = ((List.range x).filter fun x => !o.contains x).map (fun x => o ++ [x]) := by
              rw [List.range_succ, List.filter_append, List.map_append]
              have : ([x].filter fun x => !o.contains x) = [] := by
                rw [List.filter_cons, if_neg e]
                rfl
              rw [this]
              simp
            rw [el]
            exact pd
        · rintro H3 ⟨ds, sm3, eD, pd, nd⟩
          have eL3 := sm3 _ _ eL
          have nDL : L ≠ D := ne_of_none eL nD
          have dsl : ds.length ≤ n := by
            rw [pd.1]
            exact glen o
          have nall : ∀ v ∈ ls ++ ds, v ≠ .ref L := fun v hv => by
            rcases List.mem_append.mp hv with hv | hv
            · exact nl v hv
            · exact (nd v hv).2
          refine ⟨L, D, ls, ds, rfl, rfl, eL3, eD, ?_, ls ++ ds, some (.ref t), rfl, same_set nL (sm2.trans sm3), upd_same, RowsAt.upd ?_ nall, nall⟩
          · have := million (n := ls.length + ds.length) (by omega)
            omega
          · rw [take_snoc ho, List.flatMap_append, List.flatMap_cons, List.flatMap_nil, List.append_nil]
            exact (pl.same sm3).app pd
      · rintro σ H2 ⟨ls, y4, rfl, sm2, eL, pl, nl⟩
        refine ⟨_, rfl, L, ls, _, _, _, rfl, sm.trans sm2, nLH, eL, ?_, nl⟩
        rw [pr.1, List.take_length] at pl
        exact pl
    · rintro σ H1 ⟨S, rs, y2, y3, y4, rfl, sm, nS, eS, pr, ns⟩
      refine ⟨_, rfl, q H1 S rs sm nS eS ?_ ns⟩
      rw [← tier_orders]
      exact pr
end
end Fs
set_option Elab.async false
set_option maxRecDepth 100000
set_option maxHeartbeats 2000000
namespace Fs
open PySem PySem.Spec PyProof.Rows L2 LamX
def natV : V → Nat
  | .int i => i.toNat
  | _ => 0
/-- the row that a list's address stands for -/
def decR (H : Hp) (v : V) : List Nat := match v with
  | .ref t => (match H t with
    | some (.lst xs) => xs.map natV
    | _ => [])
  | _ => []
theorem decR_of {H : Hp} {v : V} {l : List Nat} (h : IsRow H v l) : decR H v = l := by
  obtain ⟨t, rfl, e⟩ := h
  unfold decR
  simp only [e]
  unfold nv
  rw [List.map_map]
  have : (natV ∘ ni) = id := by
    funext n
    rfl
  rw [this, List.map_id]
theorem RowsAt.mem {H : Hp} {rs : List V} {ls : List (List Nat)} (h : RowsAt H rs ls) {v : V} (hv : v ∈ rs) : IsRow H v (decR H v) ∧ decR H v ∈ ls := by
  obtain ⟨i, hi, rfl⟩ := List.mem_iff_getElem.mp hv
  have h2 : i < ls.length := by rw [← h.1]; exact hi
  have x := h.2 i _ _ (List.getElem?_eq_getElem hi) (List.getElem?_eq_getElem h2)
  rw [decR_of x]
  exact ⟨x, List.getElem_mem h2⟩
theorem RowsAt.has {H : Hp} {rs : List V} {ls : List (List Nat)} (h : RowsAt H rs ls) {l : List Nat} (hl : l ∈ ls) : ∃ v ∈ rs, decR H v = l := by
  obtain ⟨i, hi, rfl⟩ := List.mem_iff_getElem.mp hl
  have h2 : i < rs.length := by rw [h.1]; exact hi
  exact ⟨_, List.getElem_mem h2, decR_of (h.2 i _ _ (List.getElem?_eq_getElem h2) (List.getElem?_eq_getElem hi))⟩
section
variable {P : Program} {w : World} {K : PySem.W.Frag} {mg : Str → Option Value} {base : Heap} {T : List (Addr × Str)} {fF fN fB : Addr} {fdF fdN fdB : FuncData}
theorem scBo : FnScope ["ring", "marks", "found", "order", "place"] ["ring", "marks"] (defScope sBo) := ⟨rfl, rfl, rfl, by decide +kernel, rfl, by decide +kernel, by decide +kernel⟩
def spBo (K : PySem.W.Frag) (T : List (Addr × Str)) : Sp := fun vs H Q _ => ∃ (r : Nat) (m : Addr) (ms : List Nat), vs = [ni r, .ref m] ∧ SqL K H m (nv ms) ∧ Good r ms ∧ Tabs T H ∧
  ∀ (H' : Hp) (p : Addr) (x : Nat × List Nat), ExtN H H' → Tabs T H' → New H p → Mu49.bestOrder (lin r ms) = some x → H' p = some (.lst (nv (x.1 :: x.2))) → Q (.ref p) H'
theorem ok_bo {f fO fW : Addr} {fd fdO fdW : FuncData} {k : Nat} (F : Fun K "best_order" "best_order" sBo f fd) (C : FewCtx K mg base T fF fN fB fdF fdN fdB) (FO : Fun K "all_orders" "all_orders" sOr fO fdO) (bO : Binds K fdO ["size"] []) (gO : mg "all_orders" = some (.ref fO))
    (FW : Fun K "fewest_sweets" "fewest_sweets" sSwt fW fdW) (bW : Binds K fdW ["ring", "marks"] []) (gW : mg "fewest_sweets" = some (.ref fW)) (mr : mg "range" = none) (msum : mg "sum" = none) (ml : mg "len" = none) (mmin : mg "min" = none) :
    FnOk P w K mg base CX0 (k + 5) f fd ["ring", "marks"] (spBo K T) := by
  have GO : FnOk P w K mg base CX0 (k + 1) fO fdO ["size"] spOr := ok_or FO mr
  have GW : FnOk P w K mg base CX0 (k + 4) fW fdW ["ring", "marks"] (spSwt K T) := ok_swt FW C msum
  refine F.ok scBo (fun vs H Q E h => ?_) (fun cdv A outer st H vs Q E hr h => ?_)
  · obtain ⟨r, m, ms, rfl, _⟩ := h
    rfl
  · obtain ⟨r, m, ms, rfl, hM, g, tab, q⟩ := h
    refine ⟨_, pss_cons (ps_set (i := 2) scBo.nd rfl (Or.inl rfl) (pe_lst pa_nil))
      (pss_cons (ps_for PassesOwn.never rfl (pi_list (pe_call GO (hr.mono (by omega)) (by rfl) gO FO.kp bO .nil pass0 (pa_cons (pe_callB call_len_seq (by rfl) ml PySem.boot_len (pa_cons (pv 1) pa_nil)) pa_nil))) (pg_name (i := 3) scBo.nd rfl (Or.inl rfl))
        (pss_one (ps_expr (pe_bm PySem.F.plainAttrs_list PySem.F.slot_list_append PySem.F.type_list_append mt_append (pv 2) (pa_cons
          (pe_op op_cat (pe_lst (pa_cons (pe_call GW hr (by rfl) gW FW.kp bW .nil pass0 (pa_cons (pv 0) (pa_cons
            (pe_lc (own := [("place", 4)]) (g := gName 4) (tt := tYes) (te := tOp (rIxL K) (tVar 1) (tVar 4)) rfl scBo.nd (pi_list (pv 3)) (blkOk_by (own := [("place", 4)]) (N := ["ring", "marks", "found", "order", "place"]) (sc := defScope sBo) (by decide +kernel))
              (fun _ _ _ _ _ => pg_name (i := 4) scBo.nd rfl (Or.inl rfl)) (fun _ _ _ _ _ => pts_nil) (fun _ _ _ _ _ => pe_ix ix_list (pv 1) (pv 4) (fun _ _ => rfl))) pa_nil))) pa_nil)) (pv 3)) pa_nil)))))
      (pss_one (ps_ret (pe_callB (cr_minRows rfl hr) (by rfl) mmin (by decide +kernel) (pa_cons (pv 2) pa_nil))))), ?_⟩
    have g6 := g.six
    have g1 := g.pos
    have ordR : ∀ o ∈ Mu49.orders ms.length (List.range ms.length), o.length = ms.length ∧ ∀ x ∈ o, x < ms.length := fun o ho => by
      rw [← tier_orders] at ho
      exact tier_row ho
    have ordL : (Mu49.orders ms.length (List.range ms.length)).length ≤ 46656 := by
      rw [← tier_orders]
      have h1 := tier_len ms.length ms.length
      have h2 : ms.length ^ ms.length ≤ 6 ^ ms.length := Nat.pow_le_pow_left g6 _
      have h3 : 6 ^ ms.length ≤ 6 ^ 6 := Nat.pow_le_pow_right (by omega) g6
      have h4 : (6 : Nat) ^ 6 = 46656 := by decide
      omega
    -- found = []
    refine ⟨Nat.zero_le _, fun fo nfo => ?_⟩
    have e0 : ExtN H (upd H fo (.lst [])) := extn_upd nfo
    -- all_orders(len(marks))
    refine ⟨.ref m, rfl, m, _, rfl, .inl (extn_sqL e0 hM), ms.length, ?_, g6, fun H1 S rs sm1 nS eS pr ns => ?_⟩
    · show [V.int ((nv ms).length : Int)] = _
      rw [List.length_map]
    have efo1 : H1 fo = some (.lst []) := sm1 _ _ upd_same
    have nSfo : S ≠ fo := fun z => by rw [z, upd_same] at nS; cases nS
    have nrfo : ∀ v ∈ rs, v ≠ .ref fo := fun v hv z => by
      obtain ⟨⟨t, rfl, et⟩, hm⟩ := pr.mem hv
      have e1 : t = fo := V.ref.inj z
      rw [e1] at hm
      rw [e1, efo1] at et
      have h1 := (ordR _ hm).1
      have h2 := congrArg List.length (HO.lst.inj (Option.some.inj et))
      rw [List.length_map, h1] at h2
      simp at h2
      omega
    refine ⟨S, rfl, ⟨_, SqL.of eS⟩, for_list (K := K) (a := S) (xs := rs) (fun j σ H2 => ∃ (fs : List V) (y3 : Option V), σ = [some (ni r), some (.ref m), some (.ref fo), y3, none] ∧ ExtN H H2 ∧ Tabs T H2 ∧ H2 S = some (.lst rs) ∧ RowsAt H2 rs (Mu49.orders ms.length (List.range ms.length)) ∧ H2 fo = some (.lst fs) ∧
        RowsAt H2 fs (((Mu49.orders ms.length (List.range ms.length)).take j).map fun o => Mu49.cost (Mu49.placed (lin r ms) o) :: o) ∧ ∀ v ∈ fs, v ≠ .ref fo ∧ ∀ t, v = .ref t → New H t)
      ⟨[], none, rfl, e0.trans (ExtN.of sm1), (tabs_upd nfo tab).ext sm1, eS, pr, efo1, RowsAt.nil, fun v hv => by cases hv⟩ (fun j σ H2 _ ⟨_, _, _, _, _, z, _⟩ => SqL.of z) ?_ ?_⟩
    · rintro j x σ H2 hj ⟨fs, y3, rfl, e2, t2, eS2, pr2, efo2, pf2, nf2⟩
      have hjl : j < (Mu49.orders ms.length (List.range ms.length)).length := by
        rw [← pr2.1]
        exact (List.getElem?_eq_some_iff.mp hj).1
      obtain ⟨o, ho⟩ : ∃ o, (Mu49.orders ms.length (List.range ms.length))[j]? = some o := ⟨_, List.getElem?_eq_getElem hjl⟩
      obtain ⟨t, rfl, et2⟩ := pr2.2 j x o hj ho
      obtain ⟨o1, o2⟩ := ordR o (List.mem_of_getElem? ho)
      have hM2 : SqL K H2 m (nv ms) := extn_sqL e2 hM
      have lfs : fs.length ≤ j := by
        rw [pf2.1, List.length_map, List.length_take]
        exact Nat.min_le_left _ _
      refine ⟨.ref fo, rfl, .inl ⟨rfl, _, SqL.of efo2⟩, _, rfl, .ref t, rfl, t, rfl, ⟨_, SqL.of et2⟩, fun D nD => ?_⟩
      refine lc_list (K := K) (a := t) (xs := nv o) (fun i H3 => Same H2 H3 ∧ H3 D = some (.lst (nv ((o.take i).map fun p => ms.getD p 0)))) ⟨same_new nD, upd_same⟩ (fun i H3 _ ⟨z, _⟩ => SqL.of (z _ _ et2)) ?_ ?_
      · rintro i x H3 hi ⟨sm3, eD⟩
        have hio : i < o.length := by
          have := (List.getElem?_eq_some_iff.mp hi).1
          simpa using this
        rw [nv_get hio] at hi
        have ex := Option.some.inj hi
        subst ex
        have hlt : o.getD i 0 < ms.length := o2 _ (by rw [List.getD_eq_getElem?_getD, List.getElem?_eq_getElem hio]; exact List.getElem_mem hio)
        refine ⟨rfl, .ref m, rfl, _, rfl, m, _, _, _, rfl, rfl, sm3.seq hM2, nv_at hlt, _, eD, ?_, fun b x e => ?_, ?_⟩
        · simp only [List.length_map, List.length_take]
          exact small1000 (by omega)
        · rw [upd_ne (ne_of_none e nD)]
          exact sm3 b x e
        · rw [upd_same, take_snoc (getD_some hio), List.map_append]
          exact congrArg (fun l => some (HO.lst l)) (nv_snoc _ _).symm
      · rintro H3 ⟨sm3, eD⟩
        rw [List.length_map, List.take_length] at eD
        have g' : Good r (o.map fun p => ms.getD p 0) := ⟨g.ring, by rw [List.length_map, o1]; exact g1, by rw [List.length_map, o1]; exact g6, fun z => by rw [List.length_map, o1]; exact g.three z⟩
        refine ⟨r, D, o.map fun p => ms.getD p 0, rfl, SqL.of eD, g', t2.ext sm3, fun H4 e4 t4 => ?_⟩
        have ec : lin r (o.map fun p => ms.getD p 0) = Mu49.placed (lin r ms) o := rfl
        rw [ec]
        have e24 : ExtN H2 H4 := (ExtN.of sm3).trans e4
        have et4 : H4 t = some (.lst (nv o)) := e24 _ _ et2 lst_ne
        have efo4 : H4 fo = some (.lst fs) := e24 _ _ efo2 lst_ne
        refine ⟨by show 1 ≤ sizeLine; decide, fun z nz => ?_⟩
        have ntz : t ≠ z := ne_of_none et4 nz
        refine ⟨.ref t, rfl, z, t, _, nv o, rfl, rfl, upd_same, by rw [upd_ne ntz]; exact et4, ?_, fun p np => ?_⟩
        · simp only [List.length_map, List.length_cons, List.length_nil]
          have := million (n := 0 + 1 + o.length) (by omega)
          omega
        generalize hcost : Mu49.cost (Mu49.placed (lin r ms) o) = cst at *
        have sm46 : Same H4 (upd (upd H4 z (.lst [ni cst])) p (.lst ([ni cst] ++ nv o))) := (same_new nz).trans (same_new np)
        have efo6 := sm46 _ _ efo4
        have e6 : ExtN H (upd (upd H4 z (.lst [ni cst])) p (.lst ([ni cst] ++ nv o))) := (e2.trans e24).trans (ExtN.of sm46)
        have nfop : fo ≠ p := fun z' => by
          rw [← z', upd_ne (ne_of_none efo4 nz), efo4] at np
          cases np
        have newp : New H p := (New.of np).back ((e2.trans e24).trans (extn_upd nz))
        refine ⟨fo, fs, _, rfl, rfl, efo6, million (by omega), ?_⟩
        have nall : ∀ v ∈ fs ++ [V.ref p], v ≠ .ref fo ∧ ∀ t, v = .ref t → New H t := fun v hv => by
          rcases List.mem_append.mp hv with hv | hv
          · exact nf2 v hv
          · rw [List.mem_singleton] at hv
            subst hv
            exact ⟨fun z => nfop (V.ref.inj z).symm, fun t z => by rw [← V.ref.inj z]; exact newp⟩
        refine ⟨_, _, rfl, extn_set nfo e6, tabs_lst efo6 (t4.ext sm46), ?_, ?_, upd_same, ?_, nall⟩
        · rw [upd_ne nSfo]
          exact sm46 _ _ (e24 _ _ eS2 lst_ne)
        · exact RowsAt.upd ((pr2.ext e24).same sm46) nrfo
        · refine RowsAt.upd ?_ fun v hv => (nall v hv).1
          rw [take_snoc ho, List.map_append]
          refine ((pf2.ext e24).same sm46).snoc ⟨p, rfl, ?_⟩
          rw [upd_same]
          show some (HO.lst ([ni cst] ++ nv o)) = some (HO.lst (nv (Mu49.cost (Mu49.placed (lin r ms) o) :: o)))
          rw [hcost]
          rfl
    · rintro σ H2 ⟨fs, y3, rfl, e2, t2, eS2, pr2, efo2, pf2, nf2⟩
      rw [pr2.1, List.take_length] at pf2
      have one : Mu49.orders ms.length (List.range ms.length) ≠ [] := orders_ne _ _ List.nodup_range (by rw [List.length_range]; exact Nat.le_refl _)
      obtain ⟨y, a, b, c1, c2, c3, c4⟩ := cheapest_is (fun o => Mu49.cost (Mu49.placed (lin r ms) o)) one
      have hbest : Mu49.bestOrder (lin r ms) = some (Mu49.cost (Mu49.placed (lin r ms) y), y) := c1
      refine ⟨_, rfl, fo, fs, fun v => zi (decR H2 v), rfl, SqL.of efo2, ?_, fun v hv => ?_, fun v hv hle => ?_⟩
      · intro z
        have := pf2.1
        rw [z, List.length_map] at this
        exact one (List.length_eq_zero_iff.mp this.symm)
      · obtain ⟨⟨t, rfl, et⟩, _⟩ := pf2.mem hv
        refine ⟨t, rfl, ?_⟩
        rw [← nv_zi]
        exact SqL.of et
      · obtain ⟨⟨t, rfl, et⟩, hm⟩ := pf2.mem hv
        obtain ⟨o, ho, eo⟩ := List.mem_map.mp hm
        have key := least_row (f := fun o => Mu49.cost (Mu49.placed (lin r ms) o)) (row := fun o => o) (orders_rising ms.length _ (range_rising _)) c2 c3 c4 ho (fun x hx => by
          obtain ⟨v', hv', ev'⟩ := pf2.has (List.mem_map.mpr ⟨x, hx, rfl⟩)
          have h1 : zi (decR H2 (.ref t)) ≤ zi (decR H2 v') := hle v' hv'
          rw [ev', ← eo] at h1
          exact h1)
        refine q H2 t _ e2 t2 ((nf2 _ hv).2 t rfl) hbest ?_
        rw [et, ← eo]
        exact congrArg (fun l => some (HO.lst (nv l))) key
end
end Fs
set_option Elab.async false
set_option maxRecDepth 100000
set_option maxHeartbeats 2000000
namespace Fs
open PySem PySem.Spec PyProof.Rows L2 LamX
abbrev sCls : Stmt := top 37
abbrev mInit : Stmt := inClass sCls 0
abbrev mBeg : Stmt := inClass sCls 1
abbrev mFew : Stmt := inClass sCls 2
abbrev mCh : Stmt := inClass sCls 3
abbrev mJu : Stmt := inClass sCls 4
abbrev mWa : Stmt := inClass sCls 5
abbrev mOr : Stmt := inClass sCls 6
abbrev zv (l : List Int) : List V := l.map V.int
/-! ### the object -/
def chF (r : Nat) (m : Addr) : List (Str × V) := [("ring", ni r), ("marks", .ref m)]
theorem lkHere {k : Str} {v : V} {l : List (Str × V)} : List.lookup k ((k, v) :: l) = some v := by
  have e : (k == k) = true := beq_self_eq_true k
  simp only [List.lookup, e]
theorem lkPast {k g : Str} {v : V} {l : List (Str × V)} (h : (k == g) = false) : List.lookup k ((g, v) :: l) = List.lookup k l := by
  simp only [List.lookup, h]
theorem ch_ring (r : Nat) (m : Addr) : (chF r m).lookup ("ring" : Str) = some (ni r) := lkHere
theorem ch_marks (r : Nat) (m : Addr) : (chF r m).lookup ("marks" : Str) = some (.ref m) := (lkPast (by decide +kernel)).trans lkHere
theorem ch_none {x : Str} (r : Nat) (m : Addr) (h1 : (x == ("ring" : Str)) = false) (h2 : (x == ("marks" : Str)) = false) : (chF r m).lookup x = none := (lkPast h1).trans ((lkPast h2).trans rfl)
theorem putHere {f : Str} {v x : V} {l : List (Str × V)} : putF f v ((f, x) :: l) = (f, v) :: l := if_pos rfl
theorem putPast {f g : Str} {v x : V} {l : List (Str × V)} (h : ¬ g = f) : putF f v ((g, x) :: l) = (g, x) :: putF f v l := if_neg h
theorem ch_putR (r r' : Nat) (m : Addr) : putF "ring" (ni r') (chF r m) = chF r' m := putHere
theorem ch_putM (r : Nat) (m m' : Addr) : putF "marks" (.ref m') (chF r m) = chF r m' := (putPast (by decide +kernel)).trans (congrArg _ putHere)
theorem ch_new (m : Addr) : putF "marks" (.ref m) (putF "ring" (.int 0) []) = chF 0 m := (putPast (by decide +kernel)).trans rfl
structure ChAt (C : Addr) (H : Hp) (a m : Addr) (r : Nat) (ms : List Nat) : Prop where
  ob : ∃ dx, H a = some (.ins C dx (chF r m))
  li : H m = some (.lst (nv ms))
theorem ChAt.ext {C : Addr} {H H' : Hp} {a m : Addr} {r : Nat} {ms : List Nat} (h : ChAt C H a m r ms) (e : ExtN H H') : ChAt C H' a m r ms := by
  obtain ⟨⟨dx, o⟩, k⟩ := h
  exact ⟨⟨dx, e _ _ o fun ps z => by cases z⟩, e _ _ k lst_ne⟩
/-- what the top has written of the class and the constants -/
structure ClsT (K : PySem.W.Frag) (mg : Str → Option Value) (C : Addr) : Prop where
  cl : Cls K C
  nR : NoAttr K C "ring"
  nM : NoAttr K C "marks"
  cRef : ∃ t, mg "REFUSED" = some (.int (-1) t)
  cNo : ∃ t, mg "NO_SUCH_CHILD" = some (.int (-2) t)
  cNone : ∃ t, mg "GETS_NONE" = some (.int (-3) t)
  cFew : ∃ t, mg "GETS_TOO_FEW" = some (.int (-4) t)
  cSix : ∃ t, mg "MOST_CHILDREN" = some (.int 6 t)
  cRing : ∃ t, mg "SMALLEST_RING" = some (.int 3 t)
  cMost : ∃ t, mg "MOST_SWEETS" = some (.int 16 t)
  bLen : mg "len" = none
  bList : mg "list" = none
  bSum : mg "sum" = none
/-- the answer, a new list; all but tables stays -/
def Post (T : List (Addr × Str)) (H : Hp) (Q : VK) (ans : List Int) : Prop := ∀ (H' : Hp) (p : Addr), ExtN H H' → Tabs T H' → New H p → H' p = some (.lst (zv ans)) → Q (.ref p) H'
section
variable {P : Program} {w : World} {K : PySem.W.Frag} {mg : Str → Option Value} {base : Heap} {T : List (Addr × Str)} {C : Addr}
/-! ### __init__ -/
theorem scI : FnScope ["self"] ["self"] (defScope mInit) := ⟨rfl, rfl, rfl, by decide +kernel, rfl, by decide +kernel, by decide +kernel⟩
def spInit (C : Addr) : Sp := fun vs H Q _ => ∃ (p dx : Addr), vs = [.ref p] ∧ H p = some (.ins C dx []) ∧
  ∀ (H' : Hp) (m : Addr), ChAt C H' p m 0 [] → (∀ b o, H b = some o → b ≠ p → H' b = some o) → H m = none → Q .non H'
theorem ok_init {f : Addr} {fd : FuncData} {k : Nat} (F : Fun K "__init__" "Children.__init__" mInit f fd) (X : ClsT K mg C) : FnOk P w K mg base CX0 (k + 1) f fd ["self"] (spInit C) := by
  refine F.ok scI (fun vs H Q E h => ?_) (fun cdv A outer s H vs Q E hr h => ?_)
  · obtain ⟨p, dx, rfl, _⟩ := h
    rfl
  · obtain ⟨p, dx, rfl, hp, q⟩ := h
    refine ⟨_, pss_cons (ps_fld (pv 0) pe_int rfl) (pss_one (ps_fld (pv 0) (pe_lst pa_nil) rfl)), ?_⟩
    refine ⟨_, rfl, p, C, dx, [], rfl, hp, X.cl, X.nR, by show 0 < 1000; decide, ?_⟩
    refine ⟨Nat.zero_le _, fun m nm => ?_⟩
    have nmp : m ≠ p := fun z => by rw [z, upd_same] at nm; cases nm
    refine ⟨_, rfl, p, C, dx, _, rfl, by rw [upd_ne (Ne.symm nmp)]; exact upd_same, X.cl, X.nM, by show 1 < 1000; decide, ?_⟩
    refine q _ m ⟨⟨dx, ?_⟩, ?_⟩ (fun b o e hb => ?_) ?_
    · rw [upd_same]
      exact congrArg (fun l => some (HO.ins C dx l)) (ch_new m)
    · rw [upd_ne nmp, upd_same]
      rfl
    · have hbm : b ≠ m := fun z => by
        rw [z] at e
        rw [upd_ne nmp, e] at nm
        cases nm
      rw [upd_ne hb, upd_ne hbm, upd_ne hb]
      exact e
    · rw [upd_ne nmp] at nm
      exact nm
/-! ### begin -/
theorem scBe : FnScope ["self", "ring", "marks"] ["self", "ring", "marks"] (defScope mBeg) := ⟨rfl, rfl, rfl, by decide +kernel, rfl, by decide +kernel, by decide +kernel⟩
/-- begin: refused, nothing changes; else the object holds a new list -/
def spBeg (C : Addr) (K : PySem.W.Frag) : Sp := fun vs H Q _ => ∃ (a m : Addr) (r : Nat) (ms : List Nat) (b : Addr) (r' : Nat) (ns : List Nat), vs = [.ref a, ni r', .ref b] ∧ ChAt C H a m r ms ∧ SqL K H b (nv ns) ∧ ns.length ≤ 8 ∧
  (∀ (H' : Hp) (p : Addr), ¬ Good r' ns → Same H H' → H p = none → H' p = some (.lst (zv [-1])) → Q (.ref p) H') ∧
  ∀ (H' : Hp) (p m' : Addr), Good r' ns → (∀ b o, H b = some o → b ≠ a → H' b = some o) → ChAt C H' a m' r' ns → H m' = none → H p = none → p ≠ m' → H' p = some (.lst (zv [0])) → Q (.ref p) H'
theorem ok_beg {f : Addr} {fd : FuncData} {k : Nat} (F : Fun K "begin" "Children.begin" mBeg f fd) (X : ClsT K mg C) : FnOk P w K mg base CX0 (k + 1) f fd ["self", "ring", "marks"] (spBeg C K) := by
  refine F.ok scBe (fun vs H Q E h => ?_) (fun cdv A outer s H vs Q E hr h => ?_)
  · obtain ⟨a, m, r, ms, b, r', ns, rfl, _⟩ := h
    rfl
  · obtain ⟨a, m, r, ms, b, r', ns, rfl, ch, hB, h8, q1, q2⟩ := h
    obtain ⟨t1, c1⟩ := X.cRef
    obtain ⟨t2, c2⟩ := X.cSix
    obtain ⟨t3, c3⟩ := X.cRing
    refine ⟨_, pss_cons (ps_if (PW.pt (pw_or (pt_cmpR op_gt (pv 1) pe_int (nomark _)) (pw_or (pt_cmpR op_lt (pe_callB call_len_seq (by rfl) X.bLen PySem.boot_len (pa_cons (pv 2) pa_nil)) pe_int (nomark _))
          (pw_or1 (pt_cmpR op_gt (pe_callB call_len_seq (by rfl) X.bLen PySem.boot_len (pa_cons (pv 2) pa_nil)) (pe_glob (v := .int 6) (by rfl) c2 ⟨_, rfl⟩) (nomark _))))))
        (pss_one (ps_ret (pe_lst (pa_cons (pe_glob (v := .int (-1)) (by rfl) c1 ⟨_, rfl⟩) pa_nil)))) pss_nil)
      (pss_cons (ps_if (PW.pt (pw_and (pt_cmpR op_eq (pv 1) pe_int (nomark _)) (pw_and1 (pt_cmpR op_lt (pe_callB call_len_seq (by rfl) X.bLen PySem.boot_len (pa_cons (pv 2) pa_nil)) (pe_glob (v := .int 3) (by rfl) c3 ⟨_, rfl⟩) (nomark _)))))
        (pss_one (ps_ret (pe_lst (pa_cons (pe_glob (v := .int (-1)) (by rfl) c1 ⟨_, rfl⟩) pa_nil)))) pss_nil)
      (pss_cons (ps_fld (pv 0) (pv 1) rfl)
      (pss_cons (ps_fld (pv 0) (pe_callTy call_list_of (by rfl) X.bList (by decide +kernel) (pa_cons (pv 2) pa_nil)) rfl)
      (pss_one (ps_ret (pe_lst (pa_cons pe_int pa_nil))))))), ?_⟩
    obtain ⟨⟨dx, ob⟩, li⟩ := ch
    have eln : ((nv ns).length : Int) = (ns.length : Int) := by simp
    have bad : ¬ Good r' ns → ∀ (H1 : Hp), H1 = H → ∃ (_ : 1 ≤ sizeLine), ∀ p, H1 p = none → Q (.ref p) (upd H1 p (.lst [.int (-1)])) := fun ng H1 e => by
      subst e
      exact ⟨by decide, fun p np => q1 _ p ng (same_new np) np upd_same⟩
    refine ⟨_, rfl, _, _, rfl, rfl, _, rfl, ite2 (fun e => ?_) (fun e => ?_)⟩
    · obtain ⟨z1, z2⟩ := bad (fun g => by have := g.ring; have := of_decide_eq_true e; omega) H rfl
      exact ⟨z1, z2⟩
    refine ⟨.ref b, rfl, b, _, rfl, .inl hB, _, _, rfl, rfl, _, rfl, ite2 (fun e2 => ?_) (fun e2 => ?_)⟩
    · obtain ⟨z1, z2⟩ := bad (fun g => by have := g.pos; have := of_decide_eq_true e2; omega) H rfl
      exact ⟨z1, z2⟩
    refine ⟨.ref b, rfl, b, _, rfl, .inl hB, _, _, rfl, rfl, _, rfl, ite2 (fun e3 => ?_) (fun e3 => ?_)⟩
    · obtain ⟨z1, z2⟩ := bad (fun g => by have := g.six; have := of_decide_eq_true e3; omega) H rfl
      exact ⟨z1, z2⟩
    have f1 : ¬ 1 < r' := fun z => e (decide_eq_true (by omega))
    have f2 : ¬ ns.length < 1 := fun z => e2 (decide_eq_true (by omega))
    have f3 : ¬ 6 < ns.length := fun z => e3 (decide_eq_true (by omega))
    have tail : Good r' ns → tSeq (sFld K (tVar 0) (tVar 1) "ring") (tSeq (sFld K (tVar 0) (tCB (fun xs H Q => ∃ p ys, xs = [.ref p] ∧ (SqL K H p ys ∨ SqT K H p ys) ∧ ∀ l, H l = none → Q (.ref l) (upd H l (.lst ys))) (tCons (tVar 2) tNil)) "marks") (tRet (tLst (tCons (tC (.int 0)) tNil)))) { nx := fun _ H' => Q .non H', rt := Q } [some (.ref a), some (ni r'), some (.ref b)] H := fun g => by
      refine ⟨_, rfl, _, rfl, a, C, dx, _, rfl, ob, X.cl, X.nR, by show 2 < 1000; decide, ?_⟩
      have naa : ∀ {x : Addr} {xs : List V}, H x = some (.lst xs) → x ≠ a := fun e z => by rw [z, ob] at e; cases e
      have hB1 : SqL K (upd H a (.ins C dx (putF "ring" (ni r') (chF r m)))) b (nv ns) := by
        rcases hB with (h | ⟨o, h⟩) | h
        · exact .inl (.inl (by rw [upd_ne (naa h)]; exact h))
        · exact .inl (.inr ⟨o, by rw [upd_ne (fun z => by rw [z, ob] at h; cases h)]; exact h⟩)
        · exact .inr h
      refine ⟨.ref b, rfl, b, _, rfl, .inl hB1, fun m' nm' => ?_⟩
      have nma : m' ≠ a := fun z => by rw [z, upd_same] at nm'; cases nm'
      refine ⟨_, rfl, a, C, dx, _, rfl, by rw [upd_ne (Ne.symm nma)]; exact upd_same, X.cl, X.nM, by rw [ch_putR]; show 2 < 1000; decide, ?_⟩
      refine ⟨by show 1 ≤ sizeLine; decide, fun p np => ?_⟩
      have npa : p ≠ a := fun z => by rw [z, upd_same] at np; cases np
      have npm : p ≠ m' := fun z => by rw [z, upd_ne nma, upd_same] at np; cases np
      refine q2 _ p m' g (fun c o e hc => ?_) ⟨⟨dx, ?_⟩, ?_⟩ ?_ ?_ npm upd_same
      · have hcm : c ≠ m' := fun z => by
          rw [z] at e
          rw [upd_ne nma, e] at nm'
          cases nm'
        have hcp : c ≠ p := fun z => by
          rw [z] at e
          rw [upd_ne npa, upd_ne npm, upd_ne npa, e] at np
          cases np
        rw [upd_ne hcp, upd_ne hc, upd_ne hcm, upd_ne hc]
        exact e
      · rw [upd_ne (Ne.symm npa), upd_same, ch_putR, ch_putM]
      · rw [upd_ne (Ne.symm npm), upd_ne nma, upd_same]
      · rw [upd_ne nma] at nm'
        exact nm'
      · rw [upd_ne npa, upd_ne npm, upd_ne npa] at np
        exact np
    refine ⟨_, rfl, rfl, _, rfl, ite2 (fun e4 => ?_) (fun e4 => ?_)⟩
    · have f4 : r' = 1 := by
        have := V.int.inj (of_decide_eq_true e4)
        omega
      refine ⟨.ref b, rfl, b, _, rfl, .inl hB, _, _, rfl, rfl, _, rfl, ite2 (fun e5 => ?_) (fun e5 => ?_)⟩
      · obtain ⟨z1, z2⟩ := bad (fun g => by have := g.three f4; have := of_decide_eq_true e5; omega) H rfl
        exact ⟨z1, z2⟩
      · have f5 : ¬ ns.length < 3 := fun z => e5 (decide_eq_true (by omega))
        exact tail ⟨by omega, by omega, by omega, fun _ => by omega⟩
    · have f4 : ¬ r' = 1 := fun z => e4 (decide_eq_true (by rw [z]; rfl))
      exact tail ⟨by omega, by omega, by omega, fun z => absurd z f4⟩
end
end Fs
set_option Elab.async false
set_option maxRecDepth 100000
set_option maxHeartbeats 2000000
namespace Fs
open PySem PySem.Spec PyProof.Rows L2 LamX
abbrev sOm : Stmt := top 12
abbrev sCp : Stmt := top 13
abbrev sBe : Stmt := top 14
/-! ### other_mark -/
section
variable {P : Program} {w : World} {K : PySem.W.Frag} {mg : Str → Option Value} {base : Heap} {T : List (Addr × Str)}
theorem scOm : FnScope ["marks", "child", "new", "changed"] ["marks", "child", "new"] (defScope sOm) := ⟨rfl, rfl, rfl, by decide +kernel, rfl, by decide +kernel, by decide +kernel⟩
def spOm (K : PySem.W.Frag) : Sp := fun vs H Q _ => ∃ (m : Addr) (ms : List Nat) (i x : Nat), vs = [.ref m, ni i, ni x] ∧ SqL K H m (nv ms) ∧ i < ms.length ∧
  ∀ (H' : Hp) (p : Addr), Same H H' → H p = none → H' p = some (.lst (nv (ms.set i x))) → Q (.ref p) H'
theorem ok_om {f : Addr} {fd : FuncData} {k : Nat} (F : Fun K "other_mark" "other_mark" sOm f fd) (mli : mg "list" = none) : FnOk P w K mg base CX0 (k + 1) f fd ["marks", "child", "new"] (spOm K) := by
  refine F.ok scOm (fun vs H Q E h => ?_) (fun cdv A outer st H vs Q E hr h => ?_)
  · obtain ⟨m, ms, i, x, rfl, _⟩ := h
    rfl
  · obtain ⟨m, ms, i, x, rfl, hM, hi, q⟩ := h
    refine ⟨_, pss_cons (ps_set (i := 3) scOm.nd rfl (Or.inl rfl) (pe_callTy call_list_of (by rfl) mli (by decide +kernel) (pa_cons (pv 0) pa_nil)))
      (pss_cons (ps_asg (pv 2) (pg_sub (pv 3) (pv 1) set_list))
      (pss_one (ps_ret (pv 3)))), ?_⟩
    refine ⟨.ref m, rfl, m, _, rfl, .inl hM, fun l nl => ?_⟩
    refine ⟨_, rfl, .ref l, rfl, _, rfl, l, _, _, i, rfl, rfl, upd_same, ?_, ?_⟩
    · rw [List.length_map]
      exact ixN_of hi
    refine ⟨_, rfl, q _ l (same_set nl (same_new nl)) nl ?_⟩
    rw [upd_same, nv_set]
/-! ### changed_places -/
theorem scCp : FnScope ["marks", "child", "other"] ["marks", "child", "other"] (defScope sCp) := ⟨rfl, rfl, rfl, by decide +kernel, rfl, by decide +kernel, by decide +kernel⟩
def spCp (K : PySem.W.Frag) : Sp := fun vs H Q _ => ∃ (m : Addr) (ms : List Nat) (i j : Nat), vs = [.ref m, ni i, ni j] ∧ SqL K H m (nv ms) ∧ i < ms.length ∧ j < ms.length ∧
  ∀ (H' : Hp) (p : Addr), Same H H' → H p = none → H' p = some (.lst (nv ((ms.set i (ms.getD j 0)).set j (ms.getD i 0)))) → Q (.ref p) H'
theorem ok_cp {f fO : Addr} {fd fdO : FuncData} {k : Nat} (F : Fun K "changed_places" "changed_places" sCp f fd) (FO : Fun K "other_mark" "other_mark" sOm fO fdO) (bO : Binds K fdO ["marks", "child", "new"] []) (gO : mg "other_mark" = some (.ref fO)) (mli : mg "list" = none) :
    FnOk P w K mg base CX0 (k + 2) f fd ["marks", "child", "other"] (spCp K) := by
  have GO : FnOk P w K mg base CX0 (k + 1) fO fdO ["marks", "child", "new"] (spOm K) := ok_om FO mli
  refine F.ok scCp (fun vs H Q E h => ?_) (fun cdv A outer st H vs Q E hr h => ?_)
  · obtain ⟨m, ms, i, j, rfl, _⟩ := h
    rfl
  · obtain ⟨m, ms, i, j, rfl, hM, hi, hj, q⟩ := h
    refine ⟨_, pss_one (ps_ret (pe_call GO hr (by rfl) gO FO.kp bO .nil pass0 (pa_cons
      (pe_call GO hr (by rfl) gO FO.kp bO .nil pass0 (pa_cons (pv 0) (pa_cons (pv 1) (pa_cons (pe_ix ix_list (pv 0) (pv 2) (fun _ _ => rfl)) pa_nil))))
      (pa_cons (pv 2) (pa_cons (pe_ix ix_list (pv 0) (pv 1) (fun _ _ => rfl)) pa_nil))))), ?_⟩
    refine ⟨.ref m, rfl, _, rfl, .ref m, rfl, _, rfl, m, _, _, _, rfl, rfl, hM, nv_at hj, m, ms, i, ms.getD j 0, rfl, hM, hi, fun H1 p sm1 np ep => ?_⟩
    refine ⟨_, rfl, .ref m, rfl, _, rfl, m, _, _, _, rfl, rfl, sm1.seq hM, nv_at hi, p, ms.set i (ms.getD j 0), j, ms.getD i 0, rfl, SqL.of ep, by rw [List.length_set]; exact hj, fun H2 p2 sm2 np2 ep2 => ?_⟩
    refine q H2 p2 (sm1.trans sm2) ?_ ep2
    cases z : H p2 with
    | none => rfl
    | some u =>
      have := sm1 _ _ z
      rw [np2] at this
      cases this
end
/-! ### best_exchange -/
def duos (n : Nat) : List (Nat × Nat) := (List.range n).flatMap fun (h : Nat) => (List.range h).map fun (l : Nat) => (l, h)
theorem mem_duos {n i j : Nat} : (i, j) ∈ duos n ↔ i < j ∧ j < n := by
  unfold duos
  rw [List.mem_flatMap]
  constructor
  · rintro ⟨a, ha, h⟩
    obtain ⟨b, hb, e⟩ := List.mem_map.mp h
    cases e
    rw [List.mem_range] at hb ha
    exact ⟨hb, ha⟩
  · rintro ⟨h1, h2⟩
    exact ⟨j, List.mem_range.mpr h2, List.mem_map.mpr ⟨i, List.mem_range.mpr h1, rfl⟩⟩
theorem duos_twos {n : Nat} {x : Nat × Nat} : x ∈ duos n ↔ x ∈ twos n := by
  obtain ⟨i, j⟩ := x
  rw [mem_duos, mem_twos]
theorem duos_succ (n : Nat) : duos (n + 1) = duos n ++ (List.range n).map fun (l : Nat) => (l, n) := by
  unfold duos
  rw [List.range_succ, List.flatMap_append, List.flatMap_cons, List.flatMap_nil, List.append_nil]
theorem duos_len : ∀ n : Nat, (duos n).length ≤ n * n
  | 0 => Nat.le_refl _
  | n + 1 => by
    have h := duos_len n
    rw [duos_succ, List.length_append, List.length_map, List.length_range, Nat.succ_mul, Nat.mul_succ]
    omega
/-- what one exchange costs, and the two -/
def duoRow (r : Nat) (ms : List Nat) (x : Nat × Nat) : List Nat := [Mu49.cost (Mu49.swapped (lin r ms) x.1 x.2), x.1, x.2]
section
variable {P : Program} {w : World} {K : PySem.W.Frag} {mg : Str → Option Value} {base : Heap} {T : List (Addr × Str)} {fF fN fB : Addr} {fdF fdN fdB : FuncData}
theorem scBx : FnScope ["ring", "marks", "found", "high", "low"] ["ring", "marks"] (defScope sBe) := ⟨rfl, rfl, rfl, by decide +kernel, rfl, by decide +kernel, by decide +kernel⟩
def spBx (K : PySem.W.Frag) (T : List (Addr × Str)) : Sp := fun vs H Q _ => ∃ (r : Nat) (m : Addr) (ms : List Nat), vs = [ni r, .ref m] ∧ SqL K H m (nv ms) ∧ Good r ms ∧ 2 ≤ ms.length ∧ Tabs T H ∧
  ∀ (H' : Hp) (p : Addr) (x : Nat × Nat × Nat), ExtN H H' → Tabs T H' → New H p → Mu49.bestSwap (lin r ms) = some x → H' p = some (.lst (nv [x.1, x.2.1, x.2.2])) → Q (.ref p) H'
theorem ok_bx {f fP fO fW : Addr} {fd fdP fdO fdW : FuncData} {k : Nat} (F : Fun K "best_exchange" "best_exchange" sBe f fd) (C : FewCtx K mg base T fF fN fB fdF fdN fdB) (FP : Fun K "changed_places" "changed_places" sCp fP fdP) (bP : Binds K fdP ["marks", "child", "other"] []) (gP : mg "changed_places" = some (.ref fP))
    (FO : Fun K "other_mark" "other_mark" sOm fO fdO) (bO : Binds K fdO ["marks", "child", "new"] []) (gO : mg "other_mark" = some (.ref fO)) (mli : mg "list" = none)
    (FW : Fun K "fewest_sweets" "fewest_sweets" sSwt fW fdW) (bW : Binds K fdW ["ring", "marks"] []) (gW : mg "fewest_sweets" = some (.ref fW)) (mr : mg "range" = none) (msum : mg "sum" = none) (ml : mg "len" = none) (mmin : mg "min" = none) :
    FnOk P w K mg base CX0 (k + 5) f fd ["ring", "marks"] (spBx K T) := by
  have GP : FnOk P w K mg base CX0 (k + 2) fP fdP ["marks", "child", "other"] (spCp K) := ok_cp FP FO bO gO mli
  have GW : FnOk P w K mg base CX0 (k + 4) fW fdW ["ring", "marks"] (spSwt K T) := ok_swt FW C msum
  refine F.ok scBx (fun vs H Q E h => ?_) (fun cdv A outer st H vs Q E hr h => ?_)
  · obtain ⟨r, m, ms, rfl, _⟩ := h
    rfl
  · obtain ⟨r, m, ms, rfl, hM, g, g2, tab, q⟩ := h
    refine ⟨_, pss_cons (ps_set (i := 2) scBx.nd rfl (Or.inl rfl) (pe_lst pa_nil))
      (pss_cons (ps_for PassesOwn.never rfl (pi_range1 rfl mr (pa_cons (pe_callB call_len_seq (by rfl) ml PySem.boot_len (pa_cons (pv 1) pa_nil)) pa_nil)) (pg_name (i := 3) scBx.nd rfl (Or.inl rfl))
        (pss_one (ps_for PassesOwn.never rfl (pi_range1 rfl mr (pa_cons (pv 3) pa_nil)) (pg_name (i := 4) scBx.nd rfl (Or.inl rfl))
          (pss_one (ps_expr (pe_bm PySem.F.plainAttrs_list PySem.F.slot_list_append PySem.F.type_list_append mt_append (pv 2) (pa_cons
            (pe_lst (pa_cons (pe_call GW hr (by rfl) gW FW.kp bW .nil pass0 (pa_cons (pv 0) (pa_cons
              (pe_call GP (hr.mono (by omega)) (by rfl) gP FP.kp bP .nil pass0 (pa_cons (pv 1) (pa_cons (pv 4) (pa_cons (pv 3) pa_nil)))) pa_nil)))
              (pa_cons (pv 4) (pa_cons (pv 3) pa_nil)))) pa_nil)))))))
      (pss_one (ps_ret (pe_callB (cr_minRows rfl hr) (by rfl) mmin (by decide +kernel) (pa_cons (pv 2) pa_nil))))), ?_⟩
    have g6 := g.six
    have g1 := g.pos
    have eN : ((nv ms).length : Int).toNat = ms.length := by simp
    have eln : ((nv ms).length : Int) = (ms.length : Int) := by simp
    -- found = []
    refine ⟨Nat.zero_le _, fun fo nfo => ?_⟩
    have e0 : ExtN H (upd H fo (.lst [])) := extn_upd nfo
    refine ⟨.ref m, rfl, m, _, rfl, .inl (extn_sqL e0 hM), _, rfl, by omega, by omega, ?_⟩
    rw [eN]
    refine for_range (lo := 0) (n := ms.length) (fun i σ H1 => ∃ (fs : List V) (y3 y4 : Option V), σ = [some (ni r), some (.ref m), some (.ref fo), y3, y4] ∧ ExtN H H1 ∧ Tabs T H1 ∧ H1 fo = some (.lst fs) ∧
        RowsAt H1 fs ((duos i).map (duoRow r ms)) ∧ ∀ v ∈ fs, v ≠ .ref fo ∧ ∀ t, v = .ref t → New H t) ?_ ?_ ?_
    · exact ⟨[], none, none, rfl, e0, tabs_upd nfo tab, upd_same, RowsAt.nil, fun v hv => by cases hv⟩
    · rintro i σ H1 hi ⟨fs, y3, y4, rfl, e1, t1, efo1, pf1, nf1⟩
      refine ⟨_, rfl, (0 + (i : Int)), rfl, by omega, by omega, ?_⟩
      rw [show (0 + (i : Int)).toNat = i by omega]
      refine for_range (lo := 0) (n := i) (fun j σ H2 => ∃ (fs : List V) (y4 : Option V), σ = [some (ni r), some (.ref m), some (.ref fo), some (.int (0 + (i : Int))), y4] ∧ ExtN H H2 ∧ Tabs T H2 ∧ H2 fo = some (.lst fs) ∧
          RowsAt H2 fs ((duos i ++ (List.range j).map fun l => (l, i)).map (duoRow r ms)) ∧ ∀ v ∈ fs, v ≠ .ref fo ∧ ∀ t, v = .ref t → New H t) ?_ ?_ ?_
      · refine ⟨fs, y4, rfl, e1, t1, efo1, ?_, nf1⟩
        rw [List.range_zero, List.map_nil, List.append_nil]
        exact pf1
      · rintro j σ H2 hj ⟨fs, y4, rfl, e2, t2, efo2, pf2, nf2⟩
        have hM2 : SqL K H2 m (nv ms) := extn_sqL e2 hM
        have ei : (0 + (i : Int)) = (i : Int) := by omega
        have ej : (0 + (j : Int)) = (j : Int) := by omega
        have lfs : fs.length ≤ 42 := by
          rw [pf2.1, List.length_map, List.length_append, List.length_map, List.length_range]
          have h1 := duos_len i
          have h2 : i * i ≤ 6 * 6 := Nat.mul_le_mul (by omega) (by omega)
          omega
        rw [ei, ej]
        refine ⟨.ref fo, rfl, .inl ⟨rfl, _, SqL.of efo2⟩, _, rfl, .ref m, rfl, _, rfl, _, rfl, m, ms, j, i, rfl, hM2, by omega, hi, fun H3 D sm3 nD eD => ?_⟩
        have g' : Good r ((ms.set j (ms.getD i 0)).set i (ms.getD j 0)) := good_set (good_set g _ _) _ _
        refine ⟨r, D, _, rfl, SqL.of eD, g', t2.ext sm3, fun H4 e4 t4 => ?_⟩
        rw [← swapped_lin]
        have e24 : ExtN H2 H4 := (ExtN.of sm3).trans e4
        have efo4 : H4 fo = some (.lst fs) := e24 _ _ efo2 lst_ne
        refine ⟨_, rfl, _, rfl, by show 3 ≤ sizeLine; decide, fun p np => ?_⟩
        generalize hcost : Mu49.cost (Mu49.swapped (lin r ms) j i) = cst at *
        have e6 : ExtN H (upd H4 p (.lst [ni cst, ni j, ni i])) := (e2.trans e24).trans (extn_upd np)
        have nfop : fo ≠ p := ne_of_none efo4 np
        have newp : New H p := (New.of np).back (e2.trans e24)
        have efo6 : (upd H4 p (.lst [ni cst, ni j, ni i])) fo = some (.lst fs) := by
          rw [upd_ne nfop]
          exact efo4
        refine ⟨fo, fs, _, rfl, rfl, efo6, million (by omega), ?_⟩
        have nall : ∀ v ∈ fs ++ [V.ref p], v ≠ .ref fo ∧ ∀ t, v = .ref t → New H t := fun v hv => by
          rcases List.mem_append.mp hv with hv | hv
          · exact nf2 v hv
          · rw [List.mem_singleton] at hv
            subst hv
            exact ⟨fun z => nfop (V.ref.inj z).symm, fun t z => by rw [← V.ref.inj z]; exact newp⟩
        refine ⟨_, _, rfl, extn_set nfo e6, tabs_lst efo6 (tabs_upd np t4), upd_same, ?_, nall⟩
        refine RowsAt.upd ?_ fun v hv => (nall v hv).1
        have el : (duos i ++ (List.range (j + 1)).map fun l => (l, i)) = (duos i ++ (List.range j).map fun l => (l, i)) ++ [(j, i)] := by
          rw [List.range_succ, List.map_append, List.append_assoc]
          rfl
        rw [el, List.map_append]
        refine ((pf2.ext e24).same (same_new np)).snoc ⟨p, rfl, ?_⟩
        rw [upd_same]
        show some (HO.lst [ni cst, ni j, ni i]) = some (HO.lst (nv [Mu49.cost (Mu49.swapped (lin r ms) j i), j, i]))
        rw [hcost]
        rfl
      · rintro σ H2 ⟨fs, y4, rfl, e2, t2, efo2, pf2, nf2⟩
        refine ⟨fs, _, _, rfl, e2, t2, efo2, ?_, nf2⟩
        rw [duos_succ]
        exact pf2
    · rintro σ H2 ⟨fs, y3, y4, rfl, e2, t2, efo2, pf2, nf2⟩
      obtain ⟨y, c1, c2, c3⟩ := swap_is (r := r) g2
      refine ⟨_, rfl, fo, fs, fun v => zi (decR H2 v), rfl, SqL.of efo2, ?_, fun v hv => ?_, fun v hv hle => ?_⟩
      · intro z
        have := pf2.1
        rw [z, List.length_map] at this
        have hn := duos_twos.mpr c2
        rw [List.length_eq_zero_iff.mp this.symm] at hn
        cases hn
      · obtain ⟨⟨t, rfl, et⟩, _⟩ := pf2.mem hv
        refine ⟨t, rfl, ?_⟩
        rw [← nv_zi]
        exact SqL.of et
      · obtain ⟨⟨t, rfl, et⟩, hm⟩ := pf2.mem hv
        obtain ⟨o, ho, eo⟩ := List.mem_map.mp hm
        have key := c3 o (duos_twos.mp ho) (fun x hx => by
          obtain ⟨v', hv', ev'⟩ := pf2.has (List.mem_map.mpr ⟨x, duos_twos.mpr hx, rfl⟩)
          have h1 : zi (decR H2 (.ref t)) ≤ zi (decR H2 v') := hle v' hv'
          rw [ev', ← eo] at h1
          exact h1)
        refine q H2 t _ e2 t2 ((nf2 _ hv).2 t rfl) c1 ?_
        rw [et, ← eo, key]
        rfl
end
end Fs
set_option Elab.async false
set_option maxRecDepth 100000
set_option maxHeartbeats 2000000
namespace Fs
open PySem PySem.Spec PyProof.Rows L2 LamX
/-- a def of the package, by its promise -/
structure Has (K : PySem.W.Frag) (mg : Str → Option Value) (base : Heap) (x : Str) (lv : Nat) (ps : List Str) (sp : Sp) (f : Addr) (fd : FuncData) : Prop where
  ok : ∀ {P : Program} {w : World} {k : Nat}, FnOk P w K mg base CX0 (k + lv) f fd ps sp
  bd : Binds K fd ps []
  gl : mg x = some (.ref f)
  kp : PySem.W.keepIn K (.ref f) = true
theorem step_few (r : Nat) (ms : List Nat) : (Mu49.step (some (lin r ms)) .fewest).2 = zi (Mu49.cost (lin r ms) :: Mu49.fewest (lin r ms)) := rfl
theorem zv_zi (l : List Nat) : zv (zi l) = nv l := (nv_zi l).symm
theorem three_lt (n : Nat) (h : n ≤ 8) : 1 + n ≤ sizeLine := by
  have := million (n := 1 + n) (by omega)
  omega
section
variable {P : Program} {w : World} {K : PySem.W.Frag} {mg : Str → Option Value} {base : Heap} {T : List (Addr × Str)} {C : Addr}
/-! ### fewest -/
theorem scMF : FnScope ["self", "share"] ["self"] (defScope mFew) := ⟨rfl, rfl, rfl, by decide +kernel, rfl, by decide +kernel, by decide +kernel⟩
def spMF (C : Addr) (T : List (Addr × Str)) : Sp := fun vs H Q _ => ∃ (a m : Addr) (r : Nat) (ms : List Nat), vs = [.ref a] ∧ ChAt C H a m r ms ∧ Good r ms ∧ Tabs T H ∧ Post T H Q (Mu49.step (some (lin r ms)) .fewest).2
theorem ok_mf {f f1 : Addr} {fd fd1 : FuncData} {k : Nat} (F : Fun K "fewest" "Children.fewest" mFew f fd) (X : ClsT K mg C) (G : Has K mg base "fewest_share" 3 ["ring", "marks"] (spFew K T) f1 fd1) : FnOk P w K mg base CX0 (k + 4) f fd ["self"] (spMF C T) := by
  refine F.ok scMF (fun vs H Q E h => ?_) (fun cdv A outer s H vs Q E hr h => ?_)
  · obtain ⟨a, m, r, ms, rfl, _⟩ := h
    rfl
  · obtain ⟨a, m, r, ms, rfl, ch, g, tab, q⟩ := h
    refine ⟨_, pss_cons (ps_set (i := 1) scMF.nd rfl (Or.inl rfl) (pe_call G.ok hr (by rfl) G.gl G.kp G.bd .nil pass0 (pa_cons (pe_fld (pv 0) rfl) (pa_cons (pe_fld (pv 0) rfl) pa_nil))))
      (pss_one (ps_ret (pe_op op_cat (pe_lst (pa_cons (pe_callB (cr_sum rfl) (by rfl) X.bSum (by decide +kernel) (pa_cons (pv 1) pa_nil)) pa_nil)) (pv 1)))), ?_⟩
    obtain ⟨⟨dx, ob⟩, li⟩ := ch
    have g6 := g.six
    refine ⟨_, rfl, a, C, dx, _, _, rfl, ob, X.cl, X.nR, ch_ring r m, _, rfl, a, C, dx, _, _, rfl, ob, X.cl, X.nM, ch_marks r m, r, m, ms, rfl, SqL.of li, g, tab, fun H1 p e1 t1 np ep => ?_⟩
    have ep' : SqL K H1 p ((zi (Mu49.fewest (lin r ms))).map V.int) := by
      rw [← nv_zi]
      exact SqL.of ep
    refine ⟨_, rfl, p, zi (Mu49.fewest (lin r ms)), rfl, ep', by show 1 ≤ sizeLine; decide, fun z nz => ?_⟩
    rw [sum_zi]
    have npz : p ≠ z := ne_of_none ep nz
    refine ⟨_, rfl, z, p, _, nv (Mu49.fewest (lin r ms)), rfl, rfl, upd_same, by rw [upd_ne npz]; exact ep, ?_, fun y ny => ?_⟩
    · show 1 + (nv (Mu49.fewest (lin r ms))).length ≤ sizeLine
      rw [List.length_map, fewest_len]
      exact three_lt _ (by show ms.length ≤ 8; omega)
    · have e2 : ExtN H (upd (upd H1 z (.lst [ni (Mu49.cost (lin r ms))])) y (.lst ([ni (Mu49.cost (lin r ms))] ++ nv (Mu49.fewest (lin r ms))))) := (e1.trans (extn_upd nz)).trans (extn_upd ny)
      refine q _ y e2 (tabs_upd ny (tabs_upd nz t1)) ((New.of ny).back (e1.trans (extn_upd nz))) ?_
      rw [upd_same, step_few, zv_zi]
      rfl
/-! ### chain -/
theorem scMC : FnScope ["self", "child", "places"] ["self", "child"] (defScope mCh) := ⟨rfl, rfl, rfl, by decide +kernel, rfl, by decide +kernel, by decide +kernel⟩
def spMC (C : Addr) (T : List (Addr × Str)) : Sp := fun vs H Q _ => ∃ (a m : Addr) (r : Nat) (ms : List Nat) (i : Nat), vs = [.ref a, ni i] ∧ ChAt C H a m r ms ∧ Good r ms ∧ Tabs T H ∧ Post T H Q (Mu49.step (some (lin r ms)) (.chain i)).2
theorem chain_len (c : Mu49.Line) : ∀ (f i : Nat), (Mu49.chain c f i).length ≤ f
  | 0, _ => Nat.le_refl _
  | f + 1, i => by
    rw [Mu49.chain]
    cases (Mu49.worse c i).find? fun (j : Nat) => (Mu49.fewest c).getD j 0 + 1 == (Mu49.fewest c).getD i 0 with
    | none => simp
    | some j =>
      have := chain_len c f j
      simp
      omega
theorem ok_mc {f f1 : Addr} {fd fd1 : FuncData} {k : Nat} (F : Fun K "chain" "Children.chain" mCh f fd) (X : ClsT K mg C) (G : Has K mg base "longest_chain" 4 ["ring", "marks", "child"] (spCh K T) f1 fd1) : FnOk P w K mg base CX0 (k + 5) f fd ["self", "child"] (spMC C T) := by
  refine F.ok scMC (fun vs H Q E h => ?_) (fun cdv A outer s H vs Q E hr h => ?_)
  · obtain ⟨a, m, r, ms, i, rfl, _⟩ := h
    rfl
  · obtain ⟨a, m, r, ms, i, rfl, ch, g, tab, q⟩ := h
    obtain ⟨t1, c1⟩ := X.cNo
    refine ⟨_, pss_cons (ps_if (pt_cmpR op_ge (pv 1) (pe_callB call_len_seq (by rfl) X.bLen PySem.boot_len (pa_cons (pe_fld (pv 0) rfl) pa_nil)) (nomark _))
        (pss_one (ps_ret (pe_lst (pa_cons (pe_glob (v := .int (-2)) (by rfl) c1 ⟨_, rfl⟩) pa_nil)))) pss_nil)
      (pss_cons (ps_set (i := 2) scMC.nd rfl (Or.inl rfl) (pe_call G.ok hr (by rfl) G.gl G.kp G.bd .nil pass0 (pa_cons (pe_fld (pv 0) rfl) (pa_cons (pe_fld (pv 0) rfl) (pa_cons (pv 1) pa_nil)))))
      (pss_one (ps_ret (pe_op op_cat (pe_lst (pa_cons (pe_callB call_len_seq (by rfl) X.bLen PySem.boot_len (pa_cons (pv 2) pa_nil)) pa_nil)) (pv 2))))), ?_⟩
    obtain ⟨⟨dx, ob⟩, li⟩ := ch
    have g6 := g.six
    have eln : ((nv ms).length : Int) = (ms.length : Int) := by simp
    refine ⟨_, rfl, _, rfl, a, C, dx, _, _, rfl, ob, X.cl, X.nM, ch_marks r m, m, _, rfl, .inl (SqL.of li), _, _, rfl, rfl, _, rfl, ite2 (fun e => ?_) (fun e => ?_)⟩
    · have hi : ms.length ≤ i := by
        have := of_decide_eq_true e
        omega
      refine ⟨by show 1 ≤ sizeLine; decide, fun p np => q _ p (extn_upd np) (tabs_upd np tab) (New.of np) ?_⟩
      rw [upd_same]
      have es : (Mu49.step (some (lin r ms)) (.chain i)).2 = [-2] := by
        show (if Mu49.many (lin r ms) ≤ i then _ else _) = _
        rw [if_pos (show Mu49.many (lin r ms) ≤ i from hi)]
      rw [es]
      rfl
    · have hi : ¬ ms.length ≤ i := fun z => e (decide_eq_true (by omega))
      have es : (Mu49.step (some (lin r ms)) (.chain i)).2 = zi ((Mu49.chain (lin r ms) ms.length i).length :: Mu49.chain (lin r ms) ms.length i) := by
        show (if Mu49.many (lin r ms) ≤ i then _ else _) = _
        rw [if_neg (show ¬ Mu49.many (lin r ms) ≤ i from hi)]
        rfl
      refine ⟨_, rfl, a, C, dx, _, _, rfl, ob, X.cl, X.nR, ch_ring r m, _, rfl, a, C, dx, _, _, rfl, ob, X.cl, X.nM, ch_marks r m, _, rfl, r, m, ms, i, rfl, SqL.of li, g, by omega, tab, fun H1 p e1 tb1 np ep => ?_⟩
      refine ⟨_, rfl, p, _, rfl, .inl (SqL.of ep), by show 1 ≤ sizeLine; decide, fun z nz => ?_⟩
      have npz : p ≠ z := ne_of_none ep nz
      have cl := chain_len (lin r ms) ms.length i
      have ecl : ((nv (Mu49.chain (lin r ms) ms.length i)).length : Int) = ((Mu49.chain (lin r ms) ms.length i).length : Int) := by simp
      rw [ecl]
      refine ⟨_, rfl, z, p, _, nv (Mu49.chain (lin r ms) ms.length i), rfl, rfl, upd_same, by rw [upd_ne npz]; exact ep, ?_, fun y ny => ?_⟩
      · show 1 + (nv (Mu49.chain (lin r ms) ms.length i)).length ≤ sizeLine
        rw [List.length_map]
        exact three_lt _ (by omega)
      · refine q _ y ((e1.trans (extn_upd nz)).trans (extn_upd ny)) (tabs_upd ny (tabs_upd nz tb1)) ((New.of ny).back (e1.trans (extn_upd nz))) ?_
        rw [upd_same, es, zv_zi]
        rfl
/-! ### ways (count) and order -/
theorem scMW : FnScope ["self", "sweets"] ["self", "sweets"] (defScope mWa) := ⟨rfl, rfl, rfl, by decide +kernel, rfl, by decide +kernel, by decide +kernel⟩
def spMW (C : Addr) (T : List (Addr × Str)) : Sp := fun vs H Q _ => ∃ (a m : Addr) (r : Nat) (ms : List Nat) (n : Nat), vs = [.ref a, ni n] ∧ ChAt C H a m r ms ∧ Good r ms ∧ Tabs T H ∧ Post T H Q (Mu49.step (some (lin r ms)) (.count n)).2
theorem ok_mw {f f1 : Addr} {fd fd1 : FuncData} {k : Nat} (F : Fun K "ways" "Children.ways" mWa f fd) (X : ClsT K mg C) (G : Has K mg base "count_fair" 3 ["ring", "marks", "sweets"] (spCt K) f1 fd1) : FnOk P w K mg base CX0 (k + 4) f fd ["self", "sweets"] (spMW C T) := by
  refine F.ok scMW (fun vs H Q E h => ?_) (fun cdv A outer s H vs Q E hr h => ?_)
  · obtain ⟨a, m, r, ms, n, rfl, _⟩ := h
    rfl
  · obtain ⟨a, m, r, ms, n, rfl, ch, g, tab, q⟩ := h
    obtain ⟨t1, c1⟩ := X.cRef
    obtain ⟨t2, c2⟩ := X.cMost
    refine ⟨_, pss_cons (ps_if (pt_cmpR op_gt (pv 1) (pe_glob (v := .int 16) (by rfl) c2 ⟨_, rfl⟩) (nomark _)) (pss_one (ps_ret (pe_lst (pa_cons (pe_glob (v := .int (-1)) (by rfl) c1 ⟨_, rfl⟩) pa_nil)))) pss_nil)
      (pss_one (ps_ret (pe_lst (pa_cons (pe_call G.ok hr (by rfl) G.gl G.kp G.bd .nil pass0 (pa_cons (pe_fld (pv 0) rfl) (pa_cons (pe_fld (pv 0) rfl) (pa_cons (pv 1) pa_nil)))) pa_nil)))), ?_⟩
    obtain ⟨⟨dx, ob⟩, li⟩ := ch
    refine ⟨_, rfl, _, _, rfl, rfl, _, rfl, ite2 (fun e => ?_) (fun e => ?_)⟩
    · have hi : 16 < n := by
        have := of_decide_eq_true e
        omega
      refine ⟨by show 1 ≤ sizeLine; decide, fun p np => q _ p (extn_upd np) (tabs_upd np tab) (New.of np) ?_⟩
      rw [upd_same]
      have es : (Mu49.step (some (lin r ms)) (.count n)).2 = [-1] := by
        show (if Mu49.SWEETS < n then _ else _) = _
        rw [if_pos (show Mu49.SWEETS < n from hi)]
      rw [es]
      rfl
    · have hi : ¬ 16 < n := fun z => e (decide_eq_true (by omega))
      refine ⟨_, rfl, a, C, dx, _, _, rfl, ob, X.cl, X.nR, ch_ring r m, _, rfl, a, C, dx, _, _, rfl, ob, X.cl, X.nM, ch_marks r m, _, rfl, r, m, ms, n, rfl, SqL.of li, g, by omega, fun H1 sm1 => ?_⟩
      refine ⟨by show 1 ≤ sizeLine; decide, fun p np => q _ p ((ExtN.of sm1).trans (extn_upd np)) (tabs_upd np (tab.ext sm1)) ((New.of np).back (ExtN.of sm1)) ?_⟩
      rw [upd_same]
      have es : (Mu49.step (some (lin r ms)) (.count n)).2 = [(Mu49.count (lin r ms) n : Int)] := by
        show (if Mu49.SWEETS < n then _ else _) = _
        rw [if_neg (show ¬ Mu49.SWEETS < n from hi)]
      rw [es]
      rfl
theorem scMO : FnScope ["self"] ["self"] (defScope mOr) := ⟨rfl, rfl, rfl, by decide +kernel, rfl, by decide +kernel, by decide +kernel⟩
def spMO (C : Addr) (T : List (Addr × Str)) : Sp := fun vs H Q _ => ∃ (a m : Addr) (r : Nat) (ms : List Nat), vs = [.ref a] ∧ ChAt C H a m r ms ∧ Good r ms ∧ Tabs T H ∧ Post T H Q (Mu49.step (some (lin r ms)) .order).2
theorem ok_mo {f f1 : Addr} {fd fd1 : FuncData} {k : Nat} (F : Fun K "order" "Children.order" mOr f fd) (X : ClsT K mg C) (G : Has K mg base "best_order" 5 ["ring", "marks"] (spBo K T) f1 fd1) : FnOk P w K mg base CX0 (k + 6) f fd ["self"] (spMO C T) := by
  refine F.ok scMO (fun vs H Q E h => ?_) (fun cdv A outer s H vs Q E hr h => ?_)
  · obtain ⟨a, m, r, ms, rfl, _⟩ := h
    rfl
  · obtain ⟨a, m, r, ms, rfl, ch, g, tab, q⟩ := h
    refine ⟨_, pss_one (ps_ret (pe_call G.ok hr (by rfl) G.gl G.kp G.bd .nil pass0 (pa_cons (pe_fld (pv 0) rfl) (pa_cons (pe_fld (pv 0) rfl) pa_nil)))), ?_⟩
    obtain ⟨⟨dx, ob⟩, li⟩ := ch
    refine ⟨_, rfl, a, C, dx, _, _, rfl, ob, X.cl, X.nR, ch_ring r m, _, rfl, a, C, dx, _, _, rfl, ob, X.cl, X.nM, ch_marks r m, r, m, ms, rfl, SqL.of li, g, tab, fun H1 p x e1 t1 np hb ep => q H1 p e1 t1 np ?_⟩
    have es : (Mu49.step (some (lin r ms)) .order).2 = zi (x.1 :: x.2) := by
      show (match Mu49.bestOrder (lin r ms) with
        | none => [-6]
        | some x => Mu49.nums (x.1 :: x.2)) = _
      rw [hb]
      rfl
    rw [ep, es, zv_zi]
end
end Fs
set_option Elab.async false
set_option maxRecDepth 100000
set_option maxHeartbeats 2000000
namespace Fs
open PySem PySem.Spec PyProof.Rows L2 LamX
section
variable {P : Program} {w : World} {K : PySem.W.Frag} {mg : Str → Option Value} {base : Heap} {T : List (Addr × Str)} {C : Addr}
/-! ### judge -/
theorem scMJ : FnScope ["self", "share", "empty", "unfair"] ["self", "share"] (defScope mJu) := ⟨rfl, rfl, rfl, by decide +kernel, rfl, by decide +kernel, by decide +kernel⟩
def spMJ (C : Addr) (K : PySem.W.Frag) (T : List (Addr × Str)) : Sp := fun vs H Q _ => ∃ (a m : Addr) (r : Nat) (ms : List Nat) (b : Addr) (s : List Nat), vs = [.ref a, .ref b] ∧ ChAt C H a m r ms ∧ Good r ms ∧ SqL K H b (nv s) ∧ s.length ≤ 8 ∧ Tabs T H ∧ Post T H Q (Mu49.step (some (lin r ms)) (.judge s)).2
theorem judge_len {r : Nat} {ms s : List Nat} (h : s.length ≠ ms.length) : (Mu49.step (some (lin r ms)) (.judge s)).2 = [-1] := by
  show (if s.length ≠ Mu49.many (lin r ms) then _ else _) = _
  rw [if_pos (show s.length ≠ Mu49.many (lin r ms) from h)]
theorem judge_none {r : Nat} {ms s : List Nat} {i : Nat} (h : s.length = ms.length) (e : Mu49.none_ (lin r ms) s = some i) : (Mu49.step (some (lin r ms)) (.judge s)).2 = [-3, (i : Int)] := by
  show (if s.length ≠ Mu49.many (lin r ms) then _ else _) = _
  rw [if_neg (show ¬ s.length ≠ Mu49.many (lin r ms) from fun z => z h), e]
theorem judge_wrong {r : Nat} {ms s : List Nat} {i : Nat} (h : s.length = ms.length) (e : Mu49.none_ (lin r ms) s = none) (e2 : Mu49.wronged (lin r ms) s = some i) : (Mu49.step (some (lin r ms)) (.judge s)).2 = [-4, (i : Int)] := by
  show (if s.length ≠ Mu49.many (lin r ms) then _ else _) = _
  rw [if_neg (show ¬ s.length ≠ Mu49.many (lin r ms) from fun z => z h), e, e2]
theorem judge_fair {r : Nat} {ms s : List Nat} (h : s.length = ms.length) (e : Mu49.none_ (lin r ms) s = none) (e2 : Mu49.wronged (lin r ms) s = none) : (Mu49.step (some (lin r ms)) (.judge s)).2 = [((Mu49.total s : Nat) : Int) - ((Mu49.cost (lin r ms) : Nat) : Int)] := by
  show (if s.length ≠ Mu49.many (lin r ms) then _ else _) = _
  rw [if_neg (show ¬ s.length ≠ Mu49.many (lin r ms) from fun z => z h), e, e2]
  have := cost_le (c := lin r ms) h e e2
  show [((Mu49.total s - Mu49.cost (lin r ms) : Nat) : Int)] = _
  congr 1
  omega
theorem ok_mj {f f1 f2 f3 : Addr} {fd fd1 fd2 fd3 : FuncData} {k : Nat} (F : Fun K "judge" "Children.judge" mJu f fd) (X : ClsT K mg C) (G1 : Has K mg base "without_sweets" 1 ["share"] (spWo K) f1 fd1) (G2 : Has K mg base "treated_unfairly" 3 ["ring", "marks", "share"] (spUn K) f2 fd2)
    (G3 : Has K mg base "fewest_sweets" 4 ["ring", "marks"] (spSwt K T) f3 fd3) : FnOk P w K mg base CX0 (k + 5) f fd ["self", "share"] (spMJ C K T) := by
  refine F.ok scMJ (fun vs H Q E h => ?_) (fun cdv A outer st H vs Q E hr h => ?_)
  · obtain ⟨a, m, r, ms, b, s, rfl, _⟩ := h
    rfl
  · obtain ⟨a, m, r, ms, b, s, rfl, ch, g, hB, h8, tab, q⟩ := h
    obtain ⟨t1, c1⟩ := X.cRef
    obtain ⟨t2, c2⟩ := X.cNone
    obtain ⟨t3, c3⟩ := X.cFew
    refine ⟨_, pss_cons (ps_if (pt_cmpR op_ne (pe_callB call_len_seq (by rfl) X.bLen PySem.boot_len (pa_cons (pv 1) pa_nil)) (pe_callB call_len_seq (by rfl) X.bLen PySem.boot_len (pa_cons (pe_fld (pv 0) rfl) pa_nil)) (nomark _))
        (pss_one (ps_ret (pe_lst (pa_cons (pe_glob (v := .int (-1)) (by rfl) c1 ⟨_, rfl⟩) pa_nil)))) pss_nil)
      (pss_cons (ps_set (i := 2) scMJ.nd rfl (Or.inl rfl) (pe_call (G1.ok (k := k)) (hr.mono (by omega)) (by rfl) G1.gl G1.kp G1.bd .nil pass0 (pa_cons (pv 1) pa_nil)))
      (pss_cons (ps_if (pt_cmpR op_gt (pe_callB call_len_seq (by rfl) X.bLen PySem.boot_len (pa_cons (pv 2) pa_nil)) pe_int (nomark _))
        (pss_one (ps_ret (pe_lst (pa_cons (pe_glob (v := .int (-3)) (by rfl) c2 ⟨_, rfl⟩) (pa_cons (pe_ix ix_list (pv 2) pe_int (fun _ _ => rfl)) pa_nil))))) pss_nil)
      (pss_cons (ps_set (i := 3) scMJ.nd rfl (Or.inl rfl) (pe_call (G2.ok (k := k)) (hr.mono (by omega)) (by rfl) G2.gl G2.kp G2.bd .nil pass0 (pa_cons (pe_fld (pv 0) rfl) (pa_cons (pe_fld (pv 0) rfl) (pa_cons (pv 1) pa_nil)))))
      (pss_cons (ps_if (pt_cmpR op_gt (pe_callB call_len_seq (by rfl) X.bLen PySem.boot_len (pa_cons (pv 3) pa_nil)) pe_int (nomark _))
        (pss_one (ps_ret (pe_lst (pa_cons (pe_glob (v := .int (-4)) (by rfl) c3 ⟨_, rfl⟩) (pa_cons (pe_ix ix_list (pv 3) pe_int (fun _ _ => rfl)) pa_nil))))) pss_nil)
      (pss_one (ps_ret (pe_lst (pa_cons (pe_op op_sub (pe_callB (cr_sum rfl) (by rfl) X.bSum (by decide +kernel) (pa_cons (pv 1) pa_nil)) (pe_call G3.ok hr (by rfl) G3.gl G3.kp G3.bd .nil pass0 (pa_cons (pe_fld (pv 0) rfl) (pa_cons (pe_fld (pv 0) rfl) pa_nil)))) pa_nil)))))))), ?_⟩
    obtain ⟨⟨dx, ob⟩, li⟩ := ch
    have g6 := g.six
    have eln : ∀ l : List Nat, ((nv l).length : Int) = (l.length : Int) := fun l => by simp
    refine ⟨_, rfl, b, _, rfl, .inl hB, _, rfl, a, C, dx, _, _, rfl, ob, X.cl, X.nM, ch_marks r m, m, _, rfl, .inl (SqL.of li), rfl, _, rfl, ite2 (fun e => ?_) (fun e => ?_)⟩
    · have hl : s.length ≠ ms.length := fun z => by
        rw [eln, eln, z, decide_eq_true rfl] at e
        cases e
      refine ⟨by show 1 ≤ sizeLine; decide, fun p np => q _ p (extn_upd np) (tabs_upd np tab) (New.of np) ?_⟩
      rw [upd_same, judge_len hl]
      rfl
    have hl : s.length = ms.length := by
      by_cases z : s.length = ms.length
      · exact z
      · exfalso
        refine e ?_
        rw [eln, eln, decide_eq_false (fun y => z (by have := V.int.inj y; omega))]
        rfl
    -- empty = without_sweets(share)
    refine ⟨_, rfl, b, s, rfl, hB, h8, fun H1 p1 sm1 np1 ep1 => ?_⟩
    have hd := empty_head (lin r ms) s
    have em : Mu49.many (lin r ms) = s.length := hl.symm
    rw [em] at hd
    refine ⟨_, rfl, p1, _, rfl, .inl (SqL.of ep1), _, _, rfl, rfl, _, rfl, ite2 (fun e2 => ?_) (fun e2 => ?_)⟩
    · rw [eln] at e2
      have hp : 0 < (emptyOf s.length s).length := by
        have := of_decide_eq_true e2
        omega
      obtain ⟨x, xs, ex⟩ : ∃ x xs, emptyOf s.length s = x :: xs := by
        cases z : emptyOf s.length s with
        | nil =>
          rw [z] at hp
          simp at hp
        | cons x xs => exact ⟨x, xs, rfl⟩
      rw [ex] at ep1 hd
      refine ⟨_, rfl, p1, _, _, _, rfl, rfl, SqL.of ep1, atI_nat (j := 0) rfl, by show 2 ≤ sizeLine; decide, fun p np => q _ p ((ExtN.of sm1).trans (extn_upd np)) (tabs_upd np (tab.ext sm1)) ((New.of np).back (ExtN.of sm1)) ?_⟩
      rw [upd_same, judge_none hl hd]
      rfl
    have en : Mu49.none_ (lin r ms) s = none := by
      rw [hd]
      cases z : emptyOf s.length s with
      | nil => rfl
      | cons x xs =>
        exfalso
        refine e2 (decide_eq_true ?_)
        rw [eln, z]
        simp
    -- unfair = treated_unfairly(..)
    have ob1 := sm1 _ _ ob
    have li1 := sm1 _ _ li
    refine ⟨_, rfl, a, C, dx, _, _, rfl, ob1, X.cl, X.nR, ch_ring r m, _, rfl, a, C, dx, _, _, rfl, ob1, X.cl, X.nM, ch_marks r m, _, rfl, r, m, ms, b, s, rfl, SqL.of li1, g, sm1.seq hB, hl, fun H2 p2 us sm2 np2 ep2 pm pw => ?_⟩
    have sm12 := sm1.trans sm2
    have hw := unfair_head g pm pw
    refine ⟨_, rfl, p2, _, rfl, .inl (SqL.of ep2), _, _, rfl, rfl, _, rfl, ite2 (fun e3 => ?_) (fun e3 => ?_)⟩
    · rw [eln] at e3
      have hp : 0 < us.length := by
        have := of_decide_eq_true e3
        omega
      obtain ⟨x, xs, rfl⟩ : ∃ x xs, us = x :: xs := by
        cases us with
        | nil => simp at hp
        | cons x xs => exact ⟨x, xs, rfl⟩
      refine ⟨_, rfl, p2, _, _, _, rfl, rfl, SqL.of ep2, atI_nat (j := 0) rfl, by show 2 ≤ sizeLine; decide, fun p np => q _ p ((ExtN.of sm12).trans (extn_upd np)) (tabs_upd np (tab.ext sm12)) ((New.of np).back (ExtN.of sm12)) ?_⟩
      rw [upd_same, judge_wrong hl en hw]
      rfl
    have ew : Mu49.wronged (lin r ms) s = none := by
      rw [hw]
      cases us with
      | nil => rfl
      | cons x xs =>
        exfalso
        refine e3 (decide_eq_true ?_)
        rw [eln]
        simp
    have hB2 : SqL K H2 b ((zi s).map V.int) := by
      rw [← nv_zi]
      exact sm12.seq hB
    have ob2 := sm12 _ _ ob
    have li2 := sm12 _ _ li
    refine ⟨_, rfl, b, zi s, rfl, hB2, _, rfl, a, C, dx, _, _, rfl, ob2, X.cl, X.nR, ch_ring r m, _, rfl, a, C, dx, _, _, rfl, ob2, X.cl, X.nM, ch_marks r m, r, m, ms, rfl, SqL.of li2, g, tab.ext sm12, fun H3 e4 t4 => ?_⟩
    rw [sum_zi]
    have e5 : ExtN H H3 := (ExtN.of sm12).trans e4
    refine ⟨_, _, rfl, rfl, by show 1 ≤ sizeLine; decide, fun p np => q _ p (e5.trans (extn_upd np)) (tabs_upd np t4) ((New.of np).back e5) ?_⟩
    rw [upd_same, judge_fair hl en ew]
    rfl
end
end Fs
set_option Elab.async false
set_option maxRecDepth 100000
set_option maxHeartbeats 4000000
namespace Fs
open PySem PySem.Spec PyProof.Rows L2 LamX
abbrev sAns : Stmt := top 39
/-! ### the parts of a call -/
def numOf : Mu49.Call → Nat
  | .begin_ _ _ => 0
  | .fewest => 1
  | .chain _ => 2
  | .judge _ => 3
  | .count _ => 4
  | .order => 5
  | .exchange => 6
  | .if_ _ _ => 7
  | .mark _ _ => 8
  | .swap _ _ => 9
  | .look => 10
def plainOf : Mu49.Call → List Nat
  | .begin_ r _ => [r]
  | .chain i => [i]
  | .count n => [n]
  | .if_ i m => [i, m]
  | .mark i m => [i, m]
  | .swap i j => [i, j]
  | _ => []
def rowOf : Mu49.Call → List Nat
  | .begin_ _ m => m
  | .judge s => s
  | _ => []
def hasRow : Mu49.Call → Bool
  | .begin_ _ _ => true
  | .judge _ => true
  | _ => false
def plainN : List Nat := [1, 0, 1, 0, 1, 0, 0, 2, 2, 2, 0]
def hasN : List Bool := [true, false, false, true, false, false, false, false, false, false, false]
theorem num_lt (c : Mu49.Call) : numOf c < 11 := by cases c <;> simp [numOf]
theorem plain_at (c : Mu49.Call) : (nv plainN)[numOf c]? = some (ni (plainOf c).length) := by cases c <;> rfl
theorem has_at (c : Mu49.Call) : (hasN.map V.bl)[numOf c]? = some (.bl (hasRow c)) := by cases c <;> rfl
theorem enc_parts (c : Mu49.Call) : enc c = (numOf c : Int) :: (zi (plainOf c) ++ if hasRow c = true then ((rowOf c).length : Int) :: zi (rowOf c) else []) := by
  cases c <;> first | rfl | simp [enc, numOf, plainOf, rowOf, hasRow]
theorem row_no {c : Mu49.Call} (h : hasRow c = false) : rowOf c = [] := by
  cases c <;> first | rfl | cases h
/-! ### the state -/
def absOf (r : Nat) (ms : List Nat) : Mu49.Abs := if ms = [] then none else some (lin r ms)
def Wf (r : Nat) (ms : List Nat) : Prop := ms = [] ∨ Good r ms
theorem abs_good {r : Nat} {ms : List Nat} (g : Good r ms) : absOf r ms = some (lin r ms) := by
  unfold absOf
  rw [if_neg]
  intro z
  have := g.pos
  rw [z] at this
  simp at this
theorem best_len {r : Nat} {ms : List Nat} {x : Nat × List Nat} (h : Mu49.bestOrder (lin r ms) = some x) : x.2.length = ms.length := by
  have one : Mu49.orders ms.length (List.range ms.length) ≠ [] := orders_ne _ _ List.nodup_range (by rw [List.length_range]; exact Nat.le_refl _)
  obtain ⟨y, a, b, c1, c2, _, _⟩ := cheapest_is (fun o => Mu49.cost (Mu49.placed (lin r ms) o)) one
  have e : some x = some (Mu49.cost (Mu49.placed (lin r ms) y), y) := h.symm.trans c1
  cases e
  have hm : y ∈ Mu49.orders ms.length (List.range ms.length) := by rw [c2]; simp
  rw [← tier_orders] at hm
  exact (tier_row hm).1
theorem ans_len {r : Nat} {ms : List Nat} (wf : Wf r ms) (c : Mu49.Call) : (Mu49.step (absOf r ms) c).2.length ≤ 8 := by
  rcases wf with rfl | g
  · have e : absOf r [] = none := rfl
    rw [e]
    cases c with
    | begin_ a m =>
      show (if _ then ((none : Mu49.Abs), [(-1 : Int)]) else (_, [0])).2.length ≤ 8
      split <;> simp
    | _ => show (1 : Nat) ≤ 8; decide
  · rw [abs_good g]
    have g6 := g.six
    cases c with
    | begin_ a m =>
      show (if _ then (some (lin r ms), [(-1 : Int)]) else (_, [0])).2.length ≤ 8
      split <;> simp
    | fewest =>
      rw [step_few]
      simp [fewest_len, Mu49.many, lin]
      omega
    | chain i =>
      show (if _ then [(-2 : Int)] else _).length ≤ 8
      split
      · decide
      · have := chain_len (lin r ms) (Mu49.many (lin r ms)) i
        have e : Mu49.many (lin r ms) = ms.length := rfl
        rw [e] at this
        simp [Mu49.nums, e]
        omega
    | judge s =>
      show (if _ then [(-1 : Int)] else _).length ≤ 8
      split
      · decide
      · split <;> simp
    | count n =>
      show (if _ then [(-1 : Int)] else _).length ≤ 8
      split <;> simp
    | order =>
      show (match Mu49.bestOrder (lin r ms) with
        | none => [-6]
        | some x => Mu49.nums (x.1 :: x.2)).length ≤ 8
      cases e : Mu49.bestOrder (lin r ms) with
      | none => show (1 : Nat) ≤ 8; decide
      | some x =>
        have := best_len e
        simp [Mu49.nums]
        omega
    | exchange =>
      show (match Mu49.bestSwap (lin r ms) with
        | none => [-6]
        | some x => Mu49.nums [x.1, x.2.1, x.2.2]).length ≤ 8
      cases Mu49.bestSwap (lin r ms) with
      | none => show (1 : Nat) ≤ 8; decide
      | some x => simp [Mu49.nums]
    | if_ i m =>
      show (if _ then [(-2 : Int)] else _).length ≤ 8
      split
      · decide
      · simp [Mu49.nums]
    | mark i m =>
      show (if _ then (_, [(-2 : Int)]) else _).2.length ≤ 8
      split <;> simp
    | swap i j =>
      show (if _ then (_, [(-2 : Int)]) else _).2.length ≤ 8
      split <;> simp
    | look =>
      show (Mu49.nums ((if (lin r ms).ring = true then 1 else 0) :: Mu49.many (lin r ms) :: ms)).length ≤ 8
      simp [Mu49.nums]
      omega
theorem cut_nat (xs : List V) (i j : Nat) (hj : j ≤ xs.length) : cutV xs (some (i : Int)) (some (j : Int)) = (xs.drop i).take (j - i) := by
  unfold cutV
  rw [HT.sIx_nat, HT.sIx_nat, Nat.min_eq_left hj]
  by_cases h : i ≤ xs.length
  · rw [Nat.min_eq_left h]
  · rw [Nat.min_eq_right (by omega), show j - xs.length = 0 by omega, show j - i = 0 by omega]
    simp
end Fs
set_option Elab.async false
set_option maxRecDepth 100000
set_option maxHeartbeats 4000000
namespace Fs
open PySem PySem.Spec PyProof.Rows L2 LamX
abbrev mEx : Stmt := inClass sCls 7
abbrev mWd : Stmt := inClass sCls 8
abbrev mMk : Stmt := inClass sCls 9
abbrev mSw : Stmt := inClass sCls 10
abbrev mLk : Stmt := inClass sCls 11
/-- the answer, a new list, and the object with a new list of marks; all else but tables stays -/
def PostC (C : Addr) (T : List (Addr × Str)) (a : Addr) (H : Hp) (Q : VK) (r : Nat) (ms' : List Nat) (ans : List Int) : Prop := ∀ (H' : Hp) (p m' : Addr), (∀ b o, b ≠ a → H b = some o → (∀ ps, o ≠ .tbl ps) → H' b = some o) → Tabs T H' → ChAt C H' a m' r ms' → New H m' → New H p → H' p = some (.lst (zv ans)) → Q (.ref p) H'
theorem tabs_ins {T : List (Addr × Str)} {H : Hp} {p C dx : Addr} {fs : List (Str × V)} {o : HO} (h : H p = some (.ins C dx fs)) (t : Tabs T H) : Tabs T (upd H p o) := fun q hq => by
  obtain ⟨ps, a1, a2, a3⟩ := t q hq
  have ne : ∀ {b : Addr} {u : HO}, H b = some u → (∀ fs, u ≠ .ins C dx fs) → b ≠ p := fun {b u} e n z => by
    rw [z, h] at e
    exact n fs (Option.some.inj e).symm
  refine ⟨ps, by rw [upd_ne (ne a1 fun xs z => by cases z)]; exact a1, a2, fun pos cv hc => ?_⟩
  obtain ⟨c, e1, e2⟩ := a3 pos cv hc
  exact ⟨c, e1, by rw [upd_ne (ne e2 fun xs z => by unfold CodeO at z; cases z)]; exact e2⟩
theorem step_mark (r : Nat) (ms : List Nat) (i x : Nat) : Mu49.step (some (lin r ms)) (.mark i x) = if ms.length ≤ i then (some (lin r ms), [-2]) else (some (lin r (ms.set i x)), [((ms.getD i 0 : Nat) : Int)]) := rfl
theorem step_swap (r : Nat) (ms : List Nat) (i j : Nat) : Mu49.step (some (lin r ms)) (.swap i j) = if ms.length ≤ i ∨ ms.length ≤ j then (some (lin r ms), [-2]) else (some (lin r ((ms.set i (ms.getD j 0)).set j (ms.getD i 0))), [((Mu49.cost (lin r ((ms.set i (ms.getD j 0)).set j (ms.getD i 0))) : Nat) : Int)]) := rfl
theorem step_if (r : Nat) (ms : List Nat) (i x : Nat) : (Mu49.step (some (lin r ms)) (.if_ i x)).2 = if ms.length ≤ i then [-2] else zi [Mu49.cost (lin r (ms.set i x)), (Mu49.fewest (lin r (ms.set i x))).getD i 0] := rfl
theorem step_look {r : Nat} {ms : List Nat} (h : r ≤ 1) : (Mu49.step (some (lin r ms)) .look).2 = zi (r :: ms.length :: ms) := by
  have e : (Mu49.step (some (lin r ms)) .look).2 = zi ((if (r == 1) = true then 1 else 0) :: ms.length :: ms) := rfl
  rw [e]
  rcases Nat.lt_or_ge r 1 with h1 | h1
  · have : r = 0 := by omega
    subst this
    rfl
  · have : r = 1 := by omega
    subst this
    rfl
section
variable {P : Program} {w : World} {K : PySem.W.Frag} {mg : Str → Option Value} {base : Heap} {T : List (Addr × Str)} {C : Addr}
/-! ### exchange -/
theorem scME : FnScope ["self"] ["self"] (defScope mEx) := ⟨rfl, rfl, rfl, by decide +kernel, rfl, by decide +kernel, by decide +kernel⟩
def spME (C : Addr) (T : List (Addr × Str)) : Sp := fun vs H Q _ => ∃ (a m : Addr) (r : Nat) (ms : List Nat), vs = [.ref a] ∧ ChAt C H a m r ms ∧ Good r ms ∧ Tabs T H ∧ Post T H Q (Mu49.step (some (lin r ms)) .exchange).2
theorem ok_me {f f1 : Addr} {fd fd1 : FuncData} {k : Nat} (F : Fun K "exchange" "Children.exchange" mEx f fd) (X : ClsT K mg C) (cOne : ∃ t, mg "ONLY_ONE_CHILD" = some (.int (-6) t)) (G : Has K mg base "best_exchange" 5 ["ring", "marks"] (spBx K T) f1 fd1) : FnOk P w K mg base CX0 (k + 6) f fd ["self"] (spME C T) := by
  refine F.ok scME (fun vs H Q E h => ?_) (fun cdv A outer s H vs Q E hr h => ?_)
  · obtain ⟨a, m, r, ms, rfl, _⟩ := h
    rfl
  · obtain ⟨a, m, r, ms, rfl, ch, g, tab, q⟩ := h
    obtain ⟨t1, c1⟩ := cOne
    refine ⟨_, pss_cons (ps_if (pt_cmpR op_eq (pe_callB call_len_seq (by rfl) X.bLen PySem.boot_len (pa_cons (pe_fld (pv 0) rfl) pa_nil)) pe_int (nomark _))
        (pss_one (ps_ret (pe_lst (pa_cons (pe_glob (v := .int (-6)) (by rfl) c1 ⟨_, rfl⟩) pa_nil)))) pss_nil)
      (pss_one (ps_ret (pe_call G.ok hr (by rfl) G.gl G.kp G.bd .nil pass0 (pa_cons (pe_fld (pv 0) rfl) (pa_cons (pe_fld (pv 0) rfl) pa_nil))))), ?_⟩
    obtain ⟨⟨dx, ob⟩, li⟩ := ch
    have g1 := g.pos
    have eln : ((nv ms).length : Int) = (ms.length : Int) := by simp
    have est : (Mu49.step (some (lin r ms)) .exchange).2 = (match Mu49.bestSwap (lin r ms) with
        | none => [-6]
        | some x => Mu49.nums [x.1, x.2.1, x.2.2]) := rfl
    refine ⟨_, rfl, a, C, dx, _, _, rfl, ob, X.cl, X.nM, ch_marks r m, m, _, rfl, .inl (SqL.of li), rfl, _, rfl, ite2 (fun e => ?_) (fun e => ?_)⟩
    · rw [eln] at e
      have hi : ms.length = 1 := by
        have := V.int.inj (of_decide_eq_true e)
        omega
      refine ⟨by show 1 ≤ sizeLine; decide, fun p np => q _ p (extn_upd np) (tabs_upd np tab) (New.of np) ?_⟩
      rw [upd_same, est, swap_one (by omega)]
      rfl
    · rw [eln] at e
      have hi : ¬ ms.length = 1 := fun z => e (decide_eq_true (by rw [z]; rfl))
      refine ⟨_, rfl, a, C, dx, _, _, rfl, ob, X.cl, X.nR, ch_ring r m, _, rfl, a, C, dx, _, _, rfl, ob, X.cl, X.nM, ch_marks r m, r, m, ms, rfl, SqL.of li, g, by omega, tab, fun H1 p x e1 tb1 np hb ep => q H1 p e1 tb1 np ?_⟩
      rw [ep, est, hb]
      exact congrArg (fun l => some (HO.lst l)) (nv_zi [x.1, x.2.1, x.2.2])
/-! ### would -/
theorem scMWd : FnScope ["self", "child", "new", "share"] ["self", "child", "new"] (defScope mWd) := ⟨rfl, rfl, rfl, by decide +kernel, rfl, by decide +kernel, by decide +kernel⟩
def spMWd (C : Addr) (T : List (Addr × Str)) : Sp := fun vs H Q _ => ∃ (a m : Addr) (r : Nat) (ms : List Nat) (i x : Nat), vs = [.ref a, ni i, ni x] ∧ ChAt C H a m r ms ∧ Good r ms ∧ Tabs T H ∧ Post T H Q (Mu49.step (some (lin r ms)) (.if_ i x)).2
theorem ok_mwd {f f1 f2 : Addr} {fd fd1 fd2 : FuncData} {k : Nat} (F : Fun K "would" "Children.would" mWd f fd) (X : ClsT K mg C) (G : Has K mg base "fewest_share" 3 ["ring", "marks"] (spFew K T) f1 fd1) (O : Has K mg base "other_mark" 1 ["marks", "child", "new"] (spOm K) f2 fd2) :
    FnOk P w K mg base CX0 (k + 4) f fd ["self", "child", "new"] (spMWd C T) := by
  refine F.ok scMWd (fun vs H Q E h => ?_) (fun cdv A outer s H vs Q E hr h => ?_)
  · obtain ⟨a, m, r, ms, i, x, rfl, _⟩ := h
    rfl
  · obtain ⟨a, m, r, ms, i, x, rfl, ch, g, tab, q⟩ := h
    obtain ⟨t1, c1⟩ := X.cNo
    refine ⟨_, pss_cons (ps_if (pt_cmpR op_ge (pv 1) (pe_callB call_len_seq (by rfl) X.bLen PySem.boot_len (pa_cons (pe_fld (pv 0) rfl) pa_nil)) (nomark _))
        (pss_one (ps_ret (pe_lst (pa_cons (pe_glob (v := .int (-2)) (by rfl) c1 ⟨_, rfl⟩) pa_nil)))) pss_nil)
      (pss_cons (ps_set (i := 3) scMWd.nd rfl (Or.inl rfl) (pe_call G.ok hr (by rfl) G.gl G.kp G.bd .nil pass0 (pa_cons (pe_fld (pv 0) rfl) (pa_cons
          (pe_call (O.ok (k := k)) (hr.mono (by omega)) (by rfl) O.gl O.kp O.bd .nil pass0 (pa_cons (pe_fld (pv 0) rfl) (pa_cons (pv 1) (pa_cons (pv 2) pa_nil)))) pa_nil))))
      (pss_one (ps_ret (pe_lst (pa_cons (pe_callB (cr_sum rfl) (by rfl) X.bSum (by decide +kernel) (pa_cons (pv 3) pa_nil)) (pa_cons (pe_ix ix_list (pv 3) (pv 1) (fun _ _ => rfl)) pa_nil)))))), ?_⟩
    obtain ⟨⟨dx, ob⟩, li⟩ := ch
    have g6 := g.six
    have eln : ((nv ms).length : Int) = (ms.length : Int) := by simp
    refine ⟨_, rfl, _, rfl, a, C, dx, _, _, rfl, ob, X.cl, X.nM, ch_marks r m, m, _, rfl, .inl (SqL.of li), _, _, rfl, rfl, _, rfl, ite2 (fun e => ?_) (fun e => ?_)⟩
    · have hi : ms.length ≤ i := by
        have := of_decide_eq_true e
        omega
      refine ⟨by show 1 ≤ sizeLine; decide, fun p np => q _ p (extn_upd np) (tabs_upd np tab) (New.of np) ?_⟩
      rw [upd_same, step_if, if_pos hi]
      rfl
    · have hi : ¬ ms.length ≤ i := fun z => e (decide_eq_true (by omega))
      refine ⟨_, rfl, a, C, dx, _, _, rfl, ob, X.cl, X.nR, ch_ring r m, _, rfl, a, C, dx, _, _, rfl, ob, X.cl, X.nM, ch_marks r m, _, rfl, _, rfl, m, ms, i, x, rfl, SqL.of li, by omega, fun H1 D sm1 nD eD => ?_⟩
      refine ⟨r, D, ms.set i x, rfl, SqL.of eD, good_set g i x, tab.ext sm1, fun H2 p e2 t2 np ep => ?_⟩
      have ep' : SqL K H2 p ((zi (Mu49.fewest (lin r (ms.set i x)))).map V.int) := by
        rw [← nv_zi]
        exact SqL.of ep
      have lp : i < (Mu49.fewest (lin r (ms.set i x))).length := by
        rw [fewest_len]
        show i < (ms.set i x).length
        rw [List.length_set]
        omega
      refine ⟨_, rfl, p, zi (Mu49.fewest (lin r (ms.set i x))), rfl, ep', .ref p, rfl, _, rfl, p, _, _, _, rfl, rfl, SqL.of ep, nv_at lp, by show 2 ≤ sizeLine; decide, fun z nz => ?_⟩
      refine q _ z (((ExtN.of sm1).trans e2).trans (extn_upd nz)) (tabs_upd nz t2) ((New.of nz).back ((ExtN.of sm1).trans e2)) ?_
      rw [upd_same, step_if, if_neg hi, sum_zi]
      rfl
/-! ### mark -/
theorem scMMk : FnScope ["self", "child", "new", "old"] ["self", "child", "new"] (defScope mMk) := ⟨rfl, rfl, rfl, by decide +kernel, rfl, by decide +kernel, by decide +kernel⟩
def spMMk (C : Addr) (T : List (Addr × Str)) : Sp := fun vs H Q _ => ∃ (a m : Addr) (r : Nat) (ms : List Nat) (i x : Nat), vs = [.ref a, ni i, ni x] ∧ ChAt C H a m r ms ∧ Good r ms ∧ Tabs T H ∧
  (ms.length ≤ i → Post T H Q [-2]) ∧ (¬ ms.length ≤ i → PostC C T a H Q r (ms.set i x) [((ms.getD i 0 : Nat) : Int)])
theorem ok_mmk {f f2 : Addr} {fd fd2 : FuncData} {k : Nat} (F : Fun K "mark" "Children.mark" mMk f fd) (X : ClsT K mg C) (O : Has K mg base "other_mark" 1 ["marks", "child", "new"] (spOm K) f2 fd2) :
    FnOk P w K mg base CX0 (k + 2) f fd ["self", "child", "new"] (spMMk C T) := by
  refine F.ok scMMk (fun vs H Q E h => ?_) (fun cdv A outer s H vs Q E hr h => ?_)
  · obtain ⟨a, m, r, ms, i, x, rfl, _⟩ := h
    rfl
  · obtain ⟨a, m, r, ms, i, x, rfl, ch, g, tab, q1, q2⟩ := h
    obtain ⟨t1, c1⟩ := X.cNo
    refine ⟨_, pss_cons (ps_if (pt_cmpR op_ge (pv 1) (pe_callB call_len_seq (by rfl) X.bLen PySem.boot_len (pa_cons (pe_fld (pv 0) rfl) pa_nil)) (nomark _))
        (pss_one (ps_ret (pe_lst (pa_cons (pe_glob (v := .int (-2)) (by rfl) c1 ⟨_, rfl⟩) pa_nil)))) pss_nil)
      (pss_cons (ps_set (i := 3) scMMk.nd rfl (Or.inl rfl) (pe_ix ix_list (pe_fld (pv 0) rfl) (pv 1) (fun _ _ => rfl)))
      (pss_cons (ps_fld (pv 0) (pe_call O.ok hr (by rfl) O.gl O.kp O.bd .nil pass0 (pa_cons (pe_fld (pv 0) rfl) (pa_cons (pv 1) (pa_cons (pv 2) pa_nil)))) rfl)
      (pss_one (ps_ret (pe_lst (pa_cons (pv 3) pa_nil)))))), ?_⟩
    obtain ⟨⟨dx, ob⟩, li⟩ := ch
    have g6 := g.six
    have eln : ((nv ms).length : Int) = (ms.length : Int) := by simp
    refine ⟨_, rfl, _, rfl, a, C, dx, _, _, rfl, ob, X.cl, X.nM, ch_marks r m, m, _, rfl, .inl (SqL.of li), _, _, rfl, rfl, _, rfl, ite2 (fun e => ?_) (fun e => ?_)⟩
    · have hi : ms.length ≤ i := by
        have := of_decide_eq_true e
        omega
      refine ⟨by show 1 ≤ sizeLine; decide, fun p np => q1 hi _ p (extn_upd np) (tabs_upd np tab) (New.of np) ?_⟩
      rw [upd_same]
      rfl
    · have hi : ¬ ms.length ≤ i := fun z => e (decide_eq_true (by omega))
      refine ⟨_, rfl, a, C, dx, _, _, rfl, ob, X.cl, X.nM, ch_marks r m, _, rfl, m, _, _, _, rfl, rfl, SqL.of li, nv_at (by omega), ?_⟩
      refine ⟨_, rfl, a, C, dx, _, _, rfl, ob, X.cl, X.nM, ch_marks r m, _, rfl, _, rfl, m, ms, i, x, rfl, SqL.of li, by omega, fun H1 D sm1 nD eD => ?_⟩
      have ob1 := sm1 _ _ ob
      refine ⟨_, rfl, a, C, dx, _, rfl, ob1, X.cl, X.nM, by show 2 < 1000; decide, ?_⟩
      refine ⟨_, rfl, by show 1 ≤ sizeLine; decide, fun p np => ?_⟩
      have npa : p ≠ a := fun z => by rw [z, upd_same] at np; cases np
      have nDa : D ≠ a := fun z => by rw [z, ob] at nD; cases nD
      have np1 : H1 p = none := by
        rw [upd_ne npa] at np
        exact np
      have npD : D ≠ p := ne_of_none eD np1
      refine q2 hi _ p D (fun b o hb e _ => ?_) (tabs_upd np (tabs_ins ob1 (tab.ext sm1))) ⟨⟨dx, ?_⟩, ?_⟩ (New.of nD) ((New.of np1).back (ExtN.of sm1)) upd_same
      · have e1 := sm1 _ _ e
        rw [upd_ne (ne_of_none e1 np1), upd_ne hb]
        exact e1
      · rw [upd_ne (Ne.symm npa), upd_same, ch_putM]
      · rw [upd_ne npD, upd_ne nDa]
        exact eD
/-! ### swap -/
theorem scMSw : FnScope ["self", "child", "other"] ["self", "child", "other"] (defScope mSw) := ⟨rfl, rfl, rfl, by decide +kernel, rfl, by decide +kernel, by decide +kernel⟩
def spMSw (C : Addr) (T : List (Addr × Str)) : Sp := fun vs H Q _ => ∃ (a m : Addr) (r : Nat) (ms : List Nat) (i j : Nat), vs = [.ref a, ni i, ni j] ∧ ChAt C H a m r ms ∧ Good r ms ∧ Tabs T H ∧
  (ms.length ≤ i ∨ ms.length ≤ j → Post T H Q [-2]) ∧ (¬ (ms.length ≤ i ∨ ms.length ≤ j) → PostC C T a H Q r ((ms.set i (ms.getD j 0)).set j (ms.getD i 0)) [((Mu49.cost (lin r ((ms.set i (ms.getD j 0)).set j (ms.getD i 0))) : Nat) : Int)])
theorem ok_msw {f f1 f2 : Addr} {fd fd1 fd2 : FuncData} {k : Nat} (F : Fun K "swap" "Children.swap" mSw f fd) (X : ClsT K mg C) (G : Has K mg base "fewest_sweets" 4 ["ring", "marks"] (spSwt K T) f1 fd1) (O : Has K mg base "changed_places" 2 ["marks", "child", "other"] (spCp K) f2 fd2) :
    FnOk P w K mg base CX0 (k + 5) f fd ["self", "child", "other"] (spMSw C T) := by
  refine F.ok scMSw (fun vs H Q E h => ?_) (fun cdv A outer s H vs Q E hr h => ?_)
  · obtain ⟨a, m, r, ms, i, j, rfl, _⟩ := h
    rfl
  · obtain ⟨a, m, r, ms, i, j, rfl, ch, g, tab, q1, q2⟩ := h
    obtain ⟨t1, c1⟩ := X.cNo
    refine ⟨_, pss_cons (ps_if (PW.pt (pw_or (pt_cmpR op_ge (pv 1) (pe_callB call_len_seq (by rfl) X.bLen PySem.boot_len (pa_cons (pe_fld (pv 0) rfl) pa_nil)) (nomark _))
          (pw_or1 (pt_cmpR op_ge (pv 2) (pe_callB call_len_seq (by rfl) X.bLen PySem.boot_len (pa_cons (pe_fld (pv 0) rfl) pa_nil)) (nomark _)))))
        (pss_one (ps_ret (pe_lst (pa_cons (pe_glob (v := .int (-2)) (by rfl) c1 ⟨_, rfl⟩) pa_nil)))) pss_nil)
      (pss_cons (ps_fld (pv 0) (pe_call (O.ok (k := k)) (hr.mono (by omega)) (by rfl) O.gl O.kp O.bd .nil pass0 (pa_cons (pe_fld (pv 0) rfl) (pa_cons (pv 1) (pa_cons (pv 2) pa_nil)))) rfl)
      (pss_one (ps_ret (pe_lst (pa_cons (pe_call G.ok hr (by rfl) G.gl G.kp G.bd .nil pass0 (pa_cons (pe_fld (pv 0) rfl) (pa_cons (pe_fld (pv 0) rfl) pa_nil))) pa_nil))))), ?_⟩
    obtain ⟨⟨dx, ob⟩, li⟩ := ch
    have g6 := g.six
    have eln : ((nv ms).length : Int) = (ms.length : Int) := by simp
    have bad : (ms.length ≤ i ∨ ms.length ≤ j) → ∃ (_ : 1 ≤ sizeLine), ∀ p, H p = none → Q (.ref p) (upd H p (.lst [.int (-2)])) := fun hi =>
      ⟨by decide, fun p np => q1 hi _ p (extn_upd np) (tabs_upd np tab) (New.of np) (by rw [upd_same]; rfl)⟩
    refine ⟨_, rfl, _, rfl, a, C, dx, _, _, rfl, ob, X.cl, X.nM, ch_marks r m, m, _, rfl, .inl (SqL.of li), _, _, rfl, rfl, _, rfl, ite2 (fun e => ?_) (fun e => ?_)⟩
    · obtain ⟨z1, z2⟩ := bad (.inl (by have := of_decide_eq_true e; omega))
      exact ⟨z1, z2⟩
    refine ⟨_, rfl, _, rfl, a, C, dx, _, _, rfl, ob, X.cl, X.nM, ch_marks r m, m, _, rfl, .inl (SqL.of li), _, _, rfl, rfl, _, rfl, ite2 (fun e2 => ?_) (fun e2 => ?_)⟩
    · obtain ⟨z1, z2⟩ := bad (.inr (by have := of_decide_eq_true e2; omega))
      exact ⟨z1, z2⟩
    have hi : ¬ ms.length ≤ i := fun z => e (decide_eq_true (by omega))
    have hj : ¬ ms.length ≤ j := fun z => e2 (decide_eq_true (by omega))
    refine ⟨_, rfl, a, C, dx, _, _, rfl, ob, X.cl, X.nM, ch_marks r m, _, rfl, _, rfl, m, ms, i, j, rfl, SqL.of li, by omega, by omega, fun H1 D sm1 nD eD => ?_⟩
    have ob1 := sm1 _ _ ob
    refine ⟨_, rfl, a, C, dx, _, rfl, ob1, X.cl, X.nM, by show 2 < 1000; decide, ?_⟩
    rw [ch_putM]
    have nDa : D ≠ a := fun z => by rw [z, ob] at nD; cases nD
    have eD2 : (upd H1 a (.ins C dx (chF r D))) D = some (.lst (nv ((ms.set i (ms.getD j 0)).set j (ms.getD i 0)))) := by
      rw [upd_ne nDa]
      exact eD
    refine ⟨_, rfl, a, C, dx, _, _, rfl, upd_same, X.cl, X.nR, ch_ring r D, _, rfl, a, C, dx, _, _, rfl, upd_same, X.cl, X.nM, ch_marks r D, r, D, _, rfl, SqL.of eD2, good_set (good_set g _ _) _ _, tabs_ins ob1 (tab.ext sm1), fun H3 e3 t3 => ?_⟩
    refine ⟨by show 1 ≤ sizeLine; decide, fun p np => ?_⟩
    have ob3 : H3 a = some (.ins C dx (chF r D)) := e3 _ _ upd_same fun ps z => by cases z
    have eD3 : H3 D = _ := e3 _ _ eD2 lst_ne
    have kp : ∀ b o, b ≠ a → H b = some o → (∀ ps, o ≠ .tbl ps) → H3 b = some o := fun b o hb e n => e3 _ _ (by rw [upd_ne hb]; exact sm1 _ _ e) n
    refine q2 (by omega) _ p D (fun b o hb e n => ?_) (tabs_upd np t3) ⟨⟨dx, ?_⟩, ?_⟩ (New.of nD) (fun u hu => ?_) (by rw [upd_same]; rfl)
    · rw [upd_ne (ne_of_none (kp b o hb e n) np)]
      exact kp b o hb e n
    · rw [upd_ne (ne_of_none ob3 np)]
      exact ob3
    · rw [upd_ne (ne_of_none eD3 np)]
      exact eD3
    · by_cases hn : ∃ ps, u = .tbl ps
      · exact hn
      · exfalso
        have z := kp p u (fun z => by rw [z, ob3] at np; cases np) hu fun ps z => hn ⟨ps, z⟩
        rw [np] at z
        cases z
/-! ### look -/
theorem scMLk : FnScope ["self"] ["self"] (defScope mLk) := ⟨rfl, rfl, rfl, by decide +kernel, rfl, by decide +kernel, by decide +kernel⟩
def spML (C : Addr) (T : List (Addr × Str)) : Sp := fun vs H Q _ => ∃ (a m : Addr) (r : Nat) (ms : List Nat), vs = [.ref a] ∧ ChAt C H a m r ms ∧ Good r ms ∧ Tabs T H ∧ Post T H Q (Mu49.step (some (lin r ms)) .look).2
theorem ok_ml {f : Addr} {fd : FuncData} {k : Nat} (F : Fun K "look" "Children.look" mLk f fd) (X : ClsT K mg C) : FnOk P w K mg base CX0 (k + 1) f fd ["self"] (spML C T) := by
  refine F.ok scMLk (fun vs H Q E h => ?_) (fun cdv A outer s H vs Q E hr h => ?_)
  · obtain ⟨a, m, r, ms, rfl, _⟩ := h
    rfl
  · obtain ⟨a, m, r, ms, rfl, ch, g, tab, q⟩ := h
    refine ⟨_, pss_one (ps_ret (pe_op op_cat (pe_lst (pa_cons (pe_fld (pv 0) rfl) (pa_cons (pe_callB call_len_seq (by rfl) X.bLen PySem.boot_len (pa_cons (pe_fld (pv 0) rfl) pa_nil)) pa_nil))) (pe_fld (pv 0) rfl))), ?_⟩
    obtain ⟨⟨dx, ob⟩, li⟩ := ch
    have g6 := g.six
    have eln : ((nv ms).length : Int) = (ms.length : Int) := by simp
    refine ⟨_, rfl, a, C, dx, _, _, rfl, ob, X.cl, X.nR, ch_ring r m, _, rfl, a, C, dx, _, _, rfl, ob, X.cl, X.nM, ch_marks r m, m, _, rfl, .inl (SqL.of li), by show 2 ≤ sizeLine; decide, fun z nz => ?_⟩
    have naz : a ≠ z := ne_of_none ob nz
    have nmz : m ≠ z := ne_of_none li nz
    refine ⟨_, rfl, a, C, dx, _, _, rfl, by rw [upd_ne naz]; exact ob, X.cl, X.nM, ch_marks r m, z, m, _, nv ms, rfl, rfl, upd_same, by rw [upd_ne nmz]; exact li, ?_, fun y ny => ?_⟩
    · show 2 + (nv ms).length ≤ sizeLine
      rw [List.length_map]
      have := million (n := 2 + ms.length) (by omega)
      omega
    · refine q _ y ((extn_upd nz).trans (extn_upd ny)) (tabs_upd ny (tabs_upd nz tab)) ((New.of ny).back (extn_upd nz)) ?_
      rw [upd_same, step_look g.ring, zv_zi, eln]
      rfl
end
end Fs
set_option Elab.async false
set_option maxRecDepth 100000
set_option maxHeartbeats 4000000
namespace Fs
open PySem PySem.Spec PyProof.Rows L2 LamX
/-- all but the object, its list and the tables stays -/
def ExtBut (a m : Addr) (H H' : Hp) : Prop := ∀ b o, b ≠ a → b ≠ m → H b = some o → (∀ ps, o ≠ .tbl ps) → H' b = some o
theorem ExtBut.of {a m : Addr} {H H' : Hp} (e : ExtN H H') : ExtBut a m H H' := fun b o _ _ h n => e b o h n
/-- the request's list: known to the object, or written -/
def FzL (K : PySem.W.Frag) (H : Hp) (a : Addr) (xs : List V) : Prop := (∃ o, H a = some (.frz o (.lst xs))) ∨
  ∃ (o : Obj) (its : Array Value) (n : Nat), K.lookup a = some o ∧ o.cls = .type "list" ∧ o.dict = none ∧ o.data = .seq its n ∧ its.size ≤ sizeLine ∧ Vals xs its.toList
theorem FzL.seq {K : PySem.W.Frag} {H : Hp} {a : Addr} {xs : List V} (h : FzL K H a xs) : SqL K H a xs := by
  rcases h with ⟨o, h⟩ | h
  · exact .inl (.inr ⟨o, h⟩)
  · exact .inr h
theorem FzL.but {K : PySem.W.Frag} {H H' : Hp} {a m l : Addr} {xs : List V} {C dx : Addr} {fs : List (Str × V)} {ys : List V} (h : FzL K H l xs) (e : ExtBut a m H H') (ha : H a = some (.ins C dx fs)) (hm : H m = some (.lst ys)) : FzL K H' l xs := by
  rcases h with ⟨o, h⟩ | h
  · exact .inl ⟨o, e l _ (fun z => by rw [z, ha] at h; cases h) (fun z => by rw [z, hm] at h; cases h) h fun ps z => by cases z⟩
  · exact .inr h
theorem FzL.ext {K : PySem.W.Frag} {H H' : Hp} {l : Addr} {xs : List V} (h : FzL K H l xs) (e : ExtN H H') : FzL K H' l xs := by
  rcases h with ⟨o, h⟩ | h
  · exact .inl ⟨o, e l _ h fun ps z => by cases z⟩
  · exact .inr h
theorem FzL.set {K : PySem.W.Frag} {H : Hp} {l t : Addr} {xs ys : List V} {o' : HO} (h : FzL K H l xs) (ht : H t = some (.lst ys)) : FzL K (upd H t o') l xs := by
  rcases h with ⟨o, h⟩ | h
  · exact .inl ⟨o, by rw [upd_ne (fun z => by rw [z, ht] at h; cases h)]; exact h⟩
  · exact .inr h
/-- the call that is answered -/
def spCall (C : Addr) (T : List (Addr × Str)) : Sp := fun vs H Q _ => ∃ (a m : Addr) (r : Nat) (ms : List Nat) (b1 b2 : Addr) (cl : Mu49.Call), vs = [.ref a, ni (numOf cl), .ref b1, .ref b2] ∧ ChAt C H a m r ms ∧ Wf r ms ∧ H b1 = some (.lst (nv (plainOf cl))) ∧ H b2 = some (.lst (nv (rowOf cl))) ∧ CallOk cl ∧ Tabs T H ∧
  ∀ (H' : Hp) (p m' : Addr) (r' : Nat) (ms' : List Nat), ExtBut a m H H' → Tabs T H' → ChAt C H' a m' r' ms' → (m' = m ∨ New H m') → Wf r' ms' → absOf r' ms' = (Mu49.step (absOf r ms) cl).1 → New H p → H' p = some (.lst (zv (Mu49.step (absOf r ms) cl).2)) → Q (.ref p) H'
/-- the loop's invariant -/
structure LoopI (C : Addr) (K : PySem.W.Frag) (T : List (Addr × Str)) (l : List Int) (ans : List Int) (la a to : Addr) (cs : List Mu49.Call) (pre out : List Int) (m : Addr) (r : Nat) (ms : List Nat) (H : Hp) : Prop where
  cut : l = pre ++ cs.flatMap enc
  ok : ∀ c ∈ cs, CallOk c
  req : FzL K H la (zv l)
  tab : Tabs T H
  ch : ChAt C H a m r ms
  wf : Wf r ms
  na : to ≠ a
  nm : to ≠ m
  told : H to = some (.lst (zv out))
  eq : out ++ PyFlat.told (runC (absOf r ms) cs) = ans
  len : out.length + 9 * cs.length ≤ 540
def LoopW (C : Addr) (K : PySem.W.Frag) (T : List (Addr × Str)) (l : List Int) (ans : List Int) (la a to : Addr) (k : Nat) (σ : L2.St) (H : Hp) : Prop := ∃ (cs : List Mu49.Call) (pre out : List Int) (m : Addr) (r : Nat) (ms : List Nat) (y4 y5 y6 y7 y8 y9 : Option V),
  σ = [some (.ref la), some (.ref a), some (.ref to), some (ni pre.length), y4, y5, y6, y7, y8, y9] ∧ LoopI C K T l ans la a to cs pre out m r ms H ∧ k = cs.length
def tTail (C : Addr) (K : PySem.W.Frag) (T : List (Addr × Str)) : TS :=
  tSeq (tAsg (tCall (spCall C T) [] E0 (tCons (tVar 1) (tCons (tVar 4) (tCons (tVar 6) (tCons (tVar 7) tNil))))) (gName 9))
    (tSeq (tDrop (tBM K "list" rAppend (tVar 2) (tCons (tCB (fun xs H Q => ∃ p ys, xs = [.ref p] ∧ (SqL K H p ys ∨ SqT K H p ys) ∧ Q (.int ys.length) H) (tCons (tVar 9) tNil)) tNil)))
    (tSeq (tDrop (tBM K "list" rExtend (tVar 2) (tCons (tVar 9) tNil))) (tAsg (tVar 5) (gName 3))))
section
variable {P : Program} {w : World} {K : PySem.W.Frag} {mg : Str → Option Value} {base : Heap} {T : List (Addr × Str)} {C : Addr}
theorem told_cons (c : Mu49.Call) (s : Mu49.Abs) (cs : List Mu49.Call) : PyFlat.told (runC s (c :: cs)) = ((Mu49.step s c).2.length : Int) :: (Mu49.step s c).2 ++ PyFlat.told (runC (Mu49.step s c).1 cs) := rfl
theorem ans_tail {D : Ends} {l ans : List Int} {la a to : Addr} {c : Mu49.Call} {cs : List Mu49.Call} {pre out : List Int} {m : Addr} {r : Nat} {ms : List Nat} {H : Hp} {b1 b2 : Addr} {y3 y8 y9 : Option V} (I : LoopI C K T l ans la a to (c :: cs) pre out m r ms H)
    (h1 : H b1 = some (.lst (nv (plainOf c)))) (h2 : H b2 = some (.lst (nv (rowOf c)))) (hD : ∀ σ' H', LoopW C K T l ans la a to cs.length σ' H' → D.nx σ' H') :
    tTail C K T D [some (.ref la), some (.ref a), some (.ref to), y3, some (ni (numOf c)), some (ni (pre ++ enc c).length), some (.ref b1), some (.ref b2), y8, y9] H := by
  obtain ⟨⟨dx, ob⟩, li⟩ := id I.ch
  refine ⟨_, rfl, _, rfl, _, rfl, _, rfl, a, m, r, ms, b1, b2, c, rfl, I.ch, I.wf, h1, h2, I.ok c List.mem_cons_self, I.tab, fun H1 p m' r' ms' e1 t1 ch1 hm1 wf1 ab1 np ep => ?_⟩
  have eto1 : H1 to = some (.lst (zv out)) := e1 _ _ I.na I.nm I.told lst_ne
  have nto : to ≠ p := np.ne I.told lst_ne
  have nm' : to ≠ m' := by
    rcases hm1 with z | z
    · rw [z]
      exact I.nm
    · exact z.ne I.told lst_ne
  have hlen := I.len
  rw [List.length_cons] at hlen
  have al := ans_len I.wf c
  -- told.append(len(answer))
  refine ⟨_, rfl, .inl ⟨rfl, _, SqL.of eto1⟩, _, rfl, p, _, rfl, .inl (SqL.of ep), to, _, _, rfl, rfl, eto1, ?_, ?_⟩
  · rw [List.length_map]
    exact small1000 (by omega)
  have ep2 : (upd H1 to (.lst (zv out ++ [V.int ((zv (Mu49.step (absOf r ms) c).2).length : Int)]))) p = some (.lst (zv (Mu49.step (absOf r ms) c).2)) := by
    rw [upd_ne (Ne.symm nto)]
    exact ep
  -- told.extend(answer)
  refine ⟨_, rfl, .inl ⟨rfl, _, SqL.of upd_same⟩, _, rfl, to, p, _, _, rfl, rfl, upd_same, ep2, ?_, ?_⟩
  · rw [List.length_append, List.length_map, List.length_map]
    have := million (n := out.length + 1 + (Mu49.step (absOf r ms) c).2.length) (by omega)
    simp only [List.length_cons, List.length_nil]
    omega
  -- at = end
  refine ⟨_, rfl, hD _ _ ⟨cs, pre ++ enc c, out ++ (((Mu49.step (absOf r ms) c).2.length : Int) :: (Mu49.step (absOf r ms) c).2), m', r', ms', _, _, _, _, _, _, rfl, ?_, rfl⟩⟩
  have low : ∀ {b : Addr} {o1 o2 o : HO}, b ≠ to → H1 b = some o → (upd (upd H1 to o1) to o2) b = some o := fun hb e => by
    rw [upd_ne hb, upd_ne hb]
    exact e
  obtain ⟨⟨dx1, ob1⟩, li1⟩ := ch1
  refine ⟨?_, fun x hx => I.ok x (List.mem_cons_of_mem _ hx), ?_, tabs_lst upd_same (tabs_lst eto1 t1), ⟨⟨dx1, low (Ne.symm I.na) ob1⟩, low (Ne.symm nm') li1⟩, wf1, I.na, nm', ?_, ?_, ?_⟩
  · have := I.cut
    rw [List.flatMap_cons] at this
    rw [this, List.append_assoc]
  · exact ((I.req.but e1 ob li).set eto1).set upd_same
  · rw [upd_same]
    unfold zv
    rw [List.map_append, List.map_cons, List.length_map, List.append_assoc]
    rfl
  · have := I.eq
    rw [told_cons, ← ab1] at this
    rw [← this, List.append_assoc]
  · rw [List.length_append, List.length_cons]
    omega
end
end Fs
set_option Elab.async false
set_option maxRecDepth 100000
set_option maxHeartbeats 4000000
namespace Fs
open PySem PySem.Spec PyProof.Rows L2 LamX
section
variable {P : Program} {w : World} {K : PySem.W.Frag} {mg : Str → Option Value} {base : Heap} {T : List (Addr × Str)} {C : Addr}
theorem scA : FnScope ["calls", "children", "told", "at", "number", "end", "plain", "row", "start", "answer"] ["calls"] (defScope sAns) := ⟨rfl, rfl, rfl, by decide +kernel, rfl, by decide +kernel, by decide +kernel⟩
def spAns (K : PySem.W.Frag) (T : List (Addr × Str)) : Sp := fun vs H Q _ => ∃ (la : Addr) (l : List Int) (cs : List Mu49.Call), vs = [.ref la] ∧ FzL K H la (zv l) ∧ l = cs.flatMap enc ∧ (∀ c ∈ cs, CallOk c) ∧ cs.length ≤ 60 ∧ Tabs T H ∧
  ∀ (H' : Hp) (p : Addr), H' p = some (.lst (zv (PyFlat.told (runC none cs)))) → Q (.ref p) H'
/-- the tables of the top -/
structure TopT (K : PySem.W.Frag) (mg : Str → Option Value) (C : Addr) : Prop where
  gC : mg "Children" = some (.ref C)
  cPl : ∃ t, mg "PLAIN_NUMBERS" = some (.ref t) ∧ ∀ H, SqT K H t (nv plainN)
  cHas : ∃ t, mg "HAS_ROW" = some (.ref t) ∧ ∀ H, SqT K H t (hasN.map V.bl)
theorem zv_get {l : List Int} {i : Nat} {z : Int} (h : l[i]? = some z) : (zv l)[i]? = some (.int z) := by
  rw [List.getElem?_map, h]
  rfl
theorem cut_zv {l a b c : List Int} (h : l = a ++ (b ++ c)) : cutV (zv l) (some (a.length : Int)) (some ((a ++ b).length : Int)) = zv b := by
  rw [cut_nat _ _ _ (by rw [List.length_map, h]; simp)]
  unfold zv
  rw [← List.map_drop, ← List.map_take, h, List.drop_left, List.length_append, Nat.add_sub_cancel_left, List.take_left]
theorem ok_ans {f fI fC : Addr} {fd fdI fdC : FuncData} {lv k : Nat} (F : Fun K "answers" "answers" sAns f fd) (X : ClsT K mg C) (Y : TopT K mg C) (M : Mk K C fI) (FI : Fun K "__init__" "Children.__init__" mInit fI fdI) (bI : Binds K fdI ["self"] [])
    (G : Has K mg base "answer_call" lv ["children", "number", "plain", "row"] (spCall C T) fC fdC) (hlv : 2 ≤ lv) : FnOk P w K mg base CX0 (k + lv + 1) f fd ["calls"] (spAns K T) := by
  have GI : FnOk P w K mg base CX0 1 fI fdI ["self"] (spInit C) := ok_init (k := 0) FI X
  refine F.ok scA (fun vs H Q E h => ?_) (fun cdv A outer st H vs Q E hr h => ?_)
  · obtain ⟨la, l, cs, rfl, _⟩ := h
    rfl
  · obtain ⟨la, l, cs, rfl, req, hl, hok, h60, tab, q⟩ := h
    obtain ⟨tp, gp, sp⟩ := Y.cPl
    obtain ⟨th, gh, sh⟩ := Y.cHas
    refine ⟨_, pss_cons (ps_set (i := 1) scA.nd rfl (Or.inl rfl) (pe_make0 M GI (hr.mono (by omega)) (by rfl) Y.gC bI .nil pass0))
      (pss_cons (ps_set (i := 2) scA.nd rfl (Or.inl rfl) (pe_lst pa_nil))
      (pss_cons (ps_set (i := 3) scA.nd rfl (Or.inl rfl) pe_int)
      (pss_cons (ps_while PassesOwn.never (pt_cmpR op_lt (pv 3) (pe_callB call_len_seq (by rfl) X.bLen PySem.boot_len (pa_cons (pv 0) pa_nil)) (nomark _))
        (pss_cons (ps_set (i := 4) scA.nd rfl (Or.inl rfl) (pe_ix ix_list (pv 0) (pv 3) (fun _ _ => rfl)))
        (pss_cons (ps_set (i := 5) scA.nd rfl (Or.inl rfl) (pe_op op_add (pe_op op_add (pv 3) pe_int) (pe_ix ix_tup (pe_glob (v := .ref tp) (by rfl) gp rfl) (pv 4) (fun _ _ => rfl))))
        (pss_cons (ps_set (i := 6) scA.nd rfl (Or.inl rfl) (pe_slice sl_list (pv 0) (po_some (pe_op op_add (pv 3) pe_int)) (po_some (pv 5))))
        (pss_cons (ps_set (i := 7) scA.nd rfl (Or.inl rfl) (pe_lst pa_nil))
        (pss_cons (ps_if (pt_val (pe_ix ix_tup (pe_glob (v := .ref th) (by rfl) gh rfl) (pv 4) (fun _ _ => rfl)))
          (pss_cons (ps_set (i := 8) scA.nd rfl (Or.inl rfl) (pe_op op_add (pv 5) pe_int))
          (pss_cons (ps_set (i := 5) scA.nd rfl (Or.inl rfl) (pe_op op_add (pv 8) (pe_ix ix_list (pv 0) (pv 5) (fun _ _ => rfl))))
          (pss_one (ps_set (i := 7) scA.nd rfl (Or.inl rfl) (pe_slice sl_list (pv 0) (po_some (pv 8)) (po_some (pv 5))))))) pss_nil)
        (pss_cons (ps_set (i := 9) scA.nd rfl (Or.inl rfl) (pe_call (G.ok (k := k)) hr (by rfl) G.gl G.kp G.bd .nil pass0 (pa_cons (pv 1) (pa_cons (pv 4) (pa_cons (pv 6) (pa_cons (pv 7) pa_nil))))))
        (pss_cons (ps_expr (pe_bm PySem.F.plainAttrs_list PySem.F.slot_list_append PySem.F.type_list_append mt_append (pv 2) (pa_cons (pe_callB call_len_seq (by rfl) X.bLen PySem.boot_len (pa_cons (pv 9) pa_nil)) pa_nil)))
        (pss_cons (ps_expr (pe_bm PySem.F.plainAttrs_list PySem.F.slot_list_extend PySem.F.type_list_extend mt_extend (pv 2) (pa_cons (pv 9) pa_nil)))
        (pss_one (ps_set (i := 3) scA.nd rfl (Or.inl rfl) (pv 5))))))))))))
      (pss_one (ps_ret (pv 2)))))), ?_⟩
    -- children = Children()
    intro a dx na nd ne
    refine ⟨a, dx, rfl, upd_same, fun H1 m ch kp nm => ⟨rfl, ?_⟩⟩
    have sm1 : Same H H1 := fun b o e => by
      have hba : b ≠ a := ne_of_none e na
      have hbd : b ≠ dx := ne_of_none e nd
      refine kp b o ?_ hba
      rw [upd_ne hba, upd_ne hbd]
      exact e
    -- told = [], at = 0
    refine ⟨Nat.zero_le _, fun to nto => ?_⟩
    have h0 : LoopI C K T l (PyFlat.told (runC none cs)) la a to cs [] [] m 0 [] (upd H1 to (.lst [])) := by
      obtain ⟨⟨dx1, ob1⟩, li1⟩ := id ch
      exact ⟨hl, hok, (req.ext (ExtN.of sm1)).ext (extn_upd nto), tabs_upd nto (tab.ext sm1), ch.ext (extn_upd nto), .inl rfl, Ne.symm (ne_of_none ob1 nto), Ne.symm (ne_of_none li1 nto), upd_same, rfl, by show 0 + 9 * cs.length ≤ 540; omega⟩
    refine ⟨LoopW C K T l (PyFlat.told (runC none cs)) la a to, ⟨cs.length, cs, [], [], m, 0, [], none, none, none, none, none, none, rfl, h0, rfl⟩, ?_⟩
    clear h0 hok h60 hl sm1 kp ch nm nto
    generalize PyFlat.told (runC none cs) = ans at q ⊢
    rintro k2 σ H2 ⟨cs2, pre, out, m2, r, ms, y4, y5, y6, y7, y8, y9, rfl, I, rfl⟩
    have hll : ((zv l).length : Int) = (l.length : Int) := by simp
    refine ⟨_, rfl, _, rfl, la, _, rfl, .inl I.req.seq, _, _, rfl, rfl, _, rfl, ite2 (fun e => ?_) (fun e => ?_)⟩
    · rw [hll] at e
      have e0 : pre.length < l.length := by
        have := of_decide_eq_true e
        omega
      obtain ⟨c, cs3, rfl⟩ : ∃ c cs3, cs2 = c :: cs3 := by
        cases cs2 with
        | nil =>
          have := I.cut
          rw [this] at e0
          simp at e0
        | cons c cs3 => exact ⟨c, cs3, rfl⟩
      refine ⟨fun σ' H' => ∃ m', m' < (c :: cs3).length ∧ LoopW C K T l ans la a to m' σ' H', fun _ _ z => z, ?_⟩
      have hD : ∀ σ' H', LoopW C K T l ans la a to cs3.length σ' H' → ∃ m', m' < (c :: cs3).length ∧ LoopW C K T l ans la a to m' σ' H' := fun σ' H' z => ⟨cs3.length, Nat.lt_succ_self _, z⟩
      have cut : l = pre ++ ((numOf c : Int) :: (zi (plainOf c) ++ ((if hasRow c = true then ((rowOf c).length : Int) :: zi (rowOf c) else []) ++ cs3.flatMap enc))) := by
        have := I.cut
        rw [List.flatMap_cons, enc_parts] at this
        rw [this]
        simp
      have atN : l[pre.length]? = some (numOf c : Int) := by
        rw [cut, List.getElem?_append_right (Nat.le_refl _), Nat.sub_self]
        rfl
      -- number, end
      refine ⟨.ref la, rfl, _, rfl, la, _, _, _, rfl, rfl, I.req.seq, atI_nat (zv_get atN), ?_⟩
      refine ⟨_, rfl, _, _, rfl, rfl, _, rfl, tp, _, _, _, rfl, rfl, sp _, atI_nat (plain_at c), _, _, rfl, rfl, ?_⟩
      dsimp only
      have en1 : (pre.length : Int) + 1 = ((pre ++ [(numOf c : Int)]).length : Int) := by simp
      have en2 : (pre.length : Int) + 1 + ((plainOf c).length : Int) = ((pre ++ [(numOf c : Int)] ++ zi (plainOf c)).length : Int) := by
        simp only [List.length_append, List.length_map, List.length_cons, List.length_nil]
        omega
      -- plain
      refine ⟨.ref la, rfl, _, rfl, _, _, rfl, rfl, _, rfl, _, rfl, _, rfl, la, _, rfl, I.req.seq, fun b1 nb1 => ?_⟩
      rw [en2, en1, cut_zv (l := l) (a := pre ++ [(numOf c : Int)]) (b := zi (plainOf c)) (c := (if hasRow c = true then ((rowOf c).length : Int) :: zi (rowOf c) else []) ++ cs3.flatMap enc) (by rw [cut]; simp), zv_zi]
      -- row = []
      refine ⟨Nat.zero_le _, fun b2 nb2 => ?_⟩
      have nb12 : b1 ≠ b2 := fun z => by rw [← z, upd_same] at nb2; cases nb2
      have x1 : ExtN H2 (upd H2 b1 (.lst (nv (plainOf c)))) := extn_upd nb1
      have x2 : ExtN H2 (upd (upd H2 b1 (.lst (nv (plainOf c)))) b2 (.lst [])) := x1.trans (extn_upd nb2)
      have up : ∀ {H3 : Hp}, ExtN H2 H3 → Tabs T H3 → LoopI C K T l ans la a to (c :: cs3) pre out m2 r ms H3 := fun {H3} x t => ⟨I.cut, I.ok, I.req.ext x, t, I.ch.ext x, I.wf, I.na, I.nm, x _ _ I.told lst_ne, I.eq, I.len⟩
      have t2 := tabs_upd (o := .lst []) nb2 (tabs_upd (o := .lst (nv (plainOf c))) nb1 I.tab)
      have hb1 : (upd (upd H2 b1 (.lst (nv (plainOf c)))) b2 (.lst [])) b1 = some (.lst (nv (plainOf c))) := by rw [upd_ne nb12, upd_same]
      -- if HAS_ROW[number]
      refine ⟨_, rfl, th, _, _, _, rfl, rfl, sh _, atI_nat (has_at c), _, rfl, ite2 (fun e2 => ?_) (fun e2 => ?_)⟩
      · rw [if_pos e2] at cut
        have en3 : ((pre ++ [(numOf c : Int)] ++ zi (plainOf c)).length : Int) + 1 = ((pre ++ [(numOf c : Int)] ++ zi (plainOf c) ++ [((rowOf c).length : Int)]).length : Int) := by
          simp only [List.length_append, List.length_map, List.length_cons, List.length_nil]
          omega
        have en4 : ((pre ++ [(numOf c : Int)] ++ zi (plainOf c) ++ [((rowOf c).length : Int)]).length : Int) + ((rowOf c).length : Int) = ((pre ++ [(numOf c : Int)] ++ zi (plainOf c) ++ [((rowOf c).length : Int)] ++ zi (rowOf c)).length : Int) := by
          simp only [List.length_append, List.length_map, List.length_cons, List.length_nil]
          omega
        have atR : l[(pre ++ [(numOf c : Int)] ++ zi (plainOf c)).length]? = some ((rowOf c).length : Int) := by
          have : l = (pre ++ [(numOf c : Int)] ++ zi (plainOf c)) ++ (((rowOf c).length : Int) :: (zi (rowOf c) ++ cs3.flatMap enc)) := by
            rw [cut]
            simp
          rw [this, List.getElem?_append_right (Nat.le_refl _), Nat.sub_self]
          rfl
        refine ⟨_, rfl, _, _, rfl, rfl, ?_⟩
        dsimp only
        rw [en3]
        refine ⟨_, rfl, .ref la, rfl, _, rfl, la, _, _, _, rfl, rfl, (I.req.ext x2).seq, atI_nat (zv_get atR), _, _, rfl, rfl, ?_⟩
        dsimp only
        rw [en4]
        refine ⟨.ref la, rfl, _, rfl, _, rfl, _, rfl, _, rfl, la, _, rfl, (I.req.ext x2).seq, fun b3 nb3 => ?_⟩
        rw [cut_zv (l := l) (a := pre ++ [(numOf c : Int)] ++ zi (plainOf c) ++ [((rowOf c).length : Int)]) (b := zi (rowOf c)) (c := cs3.flatMap enc) (by rw [cut]; simp), zv_zi]
        have enE : (pre ++ [(numOf c : Int)] ++ zi (plainOf c) ++ [((rowOf c).length : Int)] ++ zi (rowOf c)) = pre ++ enc c := by
          rw [enc_parts, if_pos e2]
          simp
        rw [enE]
        exact ans_tail (up (x2.trans (extn_upd nb3)) (tabs_upd nb3 t2)) (by rw [upd_ne (ne_of_none hb1 nb3)]; exact hb1) upd_same hD
      · have e3 : hasRow c = false := by
          cases z : hasRow c with
          | false => rfl
          | true => exact absurd z e2
        have enE : (pre ++ [(numOf c : Int)] ++ zi (plainOf c)) = pre ++ enc c := by
          rw [enc_parts, if_neg e2]
          simp
        rw [enE]
        refine ans_tail (up x2 t2) hb1 ?_ hD
        rw [upd_same, row_no e3]
        rfl
    · have e0 : ¬ pre.length < l.length := fun z => e (decide_eq_true (by rw [hll]; omega))
      have hcs : cs2 = [] := by
        cases cs2 with
        | nil => rfl
        | cons c cs3 =>
          exfalso
          have := I.cut
          rw [List.flatMap_cons, enc_parts] at this
          rw [this] at e0
          simp at e0
      refine ⟨_, rfl, q H2 to ?_⟩
      have := I.eq
      rw [hcs] at this
      rw [I.told, ← this]
      simp [PyFlat.told, runC]
end
end Fs
set_option Elab.async false
set_option maxRecDepth 100000
set_option maxHeartbeats 4000000
namespace Fs
open PySem PySem.Spec PyProof.Rows L2 LamX
abbrev sCall : Stmt := top 38
/-- the numbers of the calls -/
structure CallT (mg : Str → Option Value) : Prop where
  c0 : ∃ t, mg "BEGIN" = some (.int 0 t)
  c1 : ∃ t, mg "FEWEST" = some (.int 1 t)
  c2 : ∃ t, mg "CHAIN" = some (.int 2 t)
  c3 : ∃ t, mg "JUDGE" = some (.int 3 t)
  c4 : ∃ t, mg "COUNT" = some (.int 4 t)
  c5 : ∃ t, mg "ORDER" = some (.int 5 t)
  c6 : ∃ t, mg "EXCHANGE" = some (.int 6 t)
  c7 : ∃ t, mg "WOULD" = some (.int 7 t)
  c8 : ∃ t, mg "MARK" = some (.int 8 t)
  c10 : ∃ t, mg "SWAP" = some (.int 9 t)
  c9 : ∃ t, mg "NO_CHILDREN" = some (.int (-9) t)
  one : ∃ t, mg "ONLY_ONE_CHILD" = some (.int (-6) t)
/-- a method by its promise -/
structure HasM (K : PySem.W.Frag) (mg : Str → Option Value) (base : Heap) (C : Addr) (x : Str) (lv : Nat) (ps : List Str) (sp : Sp) (f : Addr) (fd : FuncData) : Prop where
  ok : ∀ {P : Program} {w : World} {k : Nat}, FnOk P w K mg base CX0 (k + lv) f fd ps sp
  bd : Binds K fd ps []
  me : Meth K C x f
theorem pick {c k : Nat} {A B : Prop} (h1 : c = k → A) (h2 : c ≠ k → B) : if decide (ni c = V.int (k : Int)) = true then A else B := by
  by_cases h : c = k
  · rw [if_pos (decide_eq_true (by rw [h]))]
    exact h1 h
  · rw [if_neg (fun z => h (by have := V.int.inj (of_decide_eq_true z); omega))]
    exact h2 h
theorem num0 {c : Mu49.Call} (h : numOf c = 0) : ∃ r m, c = .begin_ r m := by cases c <;> first | exact ⟨_, _, rfl⟩ | simp [numOf] at h
theorem num1 {c : Mu49.Call} (h : numOf c = 1) : c = .fewest := by cases c <;> first | rfl | simp [numOf] at h
theorem num2 {c : Mu49.Call} (h : numOf c = 2) : ∃ i, c = .chain i := by cases c <;> first | exact ⟨_, rfl⟩ | simp [numOf] at h
theorem num3 {c : Mu49.Call} (h : numOf c = 3) : ∃ s, c = .judge s := by cases c <;> first | exact ⟨_, rfl⟩ | simp [numOf] at h
theorem num4 {c : Mu49.Call} (h : numOf c = 4) : ∃ n, c = .count n := by cases c <;> first | exact ⟨_, rfl⟩ | simp [numOf] at h
theorem num5 {c : Mu49.Call} (h : numOf c = 5) : c = .order := by cases c <;> first | rfl | simp [numOf] at h
theorem num6 {c : Mu49.Call} (h : numOf c = 6) : c = .exchange := by cases c <;> first | rfl | simp [numOf] at h
theorem num7 {c : Mu49.Call} (h : numOf c = 7) : ∃ i x, c = .if_ i x := by cases c <;> first | exact ⟨_, _, rfl⟩ | simp [numOf] at h
theorem num8 {c : Mu49.Call} (h : numOf c = 8) : ∃ i x, c = .mark i x := by cases c <;> first | exact ⟨_, _, rfl⟩ | simp [numOf] at h
theorem num9 {c : Mu49.Call} (h : numOf c = 9) : ∃ i j, c = .swap i j := by cases c <;> first | exact ⟨_, _, rfl⟩ | simp [numOf] at h
theorem num10 {c : Mu49.Call} (h : numOf c = 10) : c = .look := by cases c <;> first | rfl | simp [numOf] at h
theorem beg_bad {o : Mu49.Abs} {r : Nat} {m : List Nat} (h : ¬ Good r m) : Mu49.step o (.begin_ r m) = (o, [-1]) := by
  have e : Mu49.step o (.begin_ r m) = if 1 < r ∨ m.isEmpty = true ∨ Mu49.CHILDREN < m.length ∨ (r = 1 ∧ m.length < 3) then (o, [-1]) else (some ⟨r == 1, m⟩, [0]) := by cases o <;> rfl
  rw [e, if_pos]
  by_cases h1 : 1 < r
  · exact .inl h1
  by_cases h2 : m.isEmpty = true
  · exact .inr (.inl h2)
  by_cases h3 : Mu49.CHILDREN < m.length
  · exact .inr (.inr (.inl h3))
  refine .inr (.inr (.inr ?_))
  by_cases h4 : r = 1 ∧ m.length < 3
  · exact h4
  · exfalso
    have hp : 1 ≤ m.length := by
      cases m with
      | nil => simp at h2
      | cons x m => simp
    have h3' : ¬ 6 < m.length := h3
    exact h ⟨by omega, hp, by omega, fun z => by omega⟩
theorem beg_good {o : Mu49.Abs} {r : Nat} {m : List Nat} (g : Good r m) : Mu49.step o (.begin_ r m) = (some (lin r m), [0]) := by
  have e : Mu49.step o (.begin_ r m) = if 1 < r ∨ m.isEmpty = true ∨ Mu49.CHILDREN < m.length ∨ (r = 1 ∧ m.length < 3) then (o, [-1]) else (some ⟨r == 1, m⟩, [0]) := by cases o <;> rfl
  rw [e, if_neg]
  · rfl
  · have g1 := g.ring
    have g2 := g.pos
    have g3 := g.six
    have g4 := g.three
    rintro (h | h | h | h)
    · omega
    · rw [List.isEmpty_iff] at h
      rw [h] at g2
      simp at g2
    · have h : 6 < m.length := h
      omega
    · have := g4 h.1
      omega
theorem nine {c : Mu49.Call} (h : numOf c ≠ 0) : Mu49.step none c = (none, [-9]) := by
  cases c <;> first | rfl | exact absurd rfl h
section
variable {P : Program} {w : World} {K : PySem.W.Frag} {mg : Str → Option Value} {base : Heap} {T : List (Addr × Str)} {C : Addr}
theorem scCa : FnScope ["children", "number", "plain", "row"] ["children", "number", "plain", "row"] (defScope sCall) := ⟨rfl, rfl, rfl, by decide +kernel, rfl, by decide +kernel, by decide +kernel⟩
theorem ok_call {f f0 f1 f2 f3 f4 f5 f6 f7 f8 f9 f10 : Addr} {fd d0 d1 d2 d3 d4 d5 d6 d7 d8 d9 d10 : FuncData} {k : Nat} (F : Fun K "answer_call" "answer_call" sCall f fd) (X : ClsT K mg C) (Y : CallT mg)
    (G0 : HasM K mg base C "begin" 1 ["self", "ring", "marks"] (spBeg C K) f0 d0) (G1 : HasM K mg base C "fewest" 4 ["self"] (spMF C T) f1 d1) (G2 : HasM K mg base C "chain" 5 ["self", "child"] (spMC C T) f2 d2) (G3 : HasM K mg base C "judge" 5 ["self", "share"] (spMJ C K T) f3 d3)
    (G4 : HasM K mg base C "ways" 4 ["self", "sweets"] (spMW C T) f4 d4) (G5 : HasM K mg base C "order" 6 ["self"] (spMO C T) f5 d5) (G6 : HasM K mg base C "exchange" 6 ["self"] (spME C T) f6 d6) (G7 : HasM K mg base C "would" 4 ["self", "child", "new"] (spMWd C T) f7 d7)
    (G8 : HasM K mg base C "mark" 2 ["self", "child", "new"] (spMMk C T) f8 d8) (G9 : HasM K mg base C "swap" 5 ["self", "child", "other"] (spMSw C T) f9 d9) (G10 : HasM K mg base C "look" 1 ["self"] (spML C T) f10 d10) : FnOk P w K mg base CX0 (k + 7) f fd ["children", "number", "plain", "row"] (spCall C T) := by
  refine F.ok scCa (fun vs H Q E h => ?_) (fun cdv A outer st H vs Q E hr h => ?_)
  · obtain ⟨a, m, r, ms, b1, b2, cl, rfl, _⟩ := h
    rfl
  · obtain ⟨a, m, r, ms, b1, b2, cl, rfl, ch, wf, hb1, hb2, ok, tab, q⟩ := h
    obtain ⟨t0, c0⟩ := Y.c0
    obtain ⟨t1, c1⟩ := Y.c1
    obtain ⟨t2, c2⟩ := Y.c2
    obtain ⟨t3, c3⟩ := Y.c3
    obtain ⟨t4, c4⟩ := Y.c4
    obtain ⟨t5, c5⟩ := Y.c5
    obtain ⟨t6, c6⟩ := Y.c6
    obtain ⟨t7, c7⟩ := Y.c7
    obtain ⟨t8, c8⟩ := Y.c8
    obtain ⟨t10, c10⟩ := Y.c10
    obtain ⟨t9, c9⟩ := Y.c9
    refine ⟨_, pss_cons (ps_if (pt_cmpR op_eq (pv 1) (pe_glob (v := .int 0) (by rfl) c0 ⟨_, rfl⟩) (nomark _)) (pss_one (ps_ret (pe_meth (pv 0) X.cl G0.me (G0.ok (k := k)) (hr.mono (by omega)) G0.bd .nil pass0 (pa_cons (pe_ix ix_list (pv 2) pe_int (fun _ _ => rfl)) (pa_cons (pv 3) pa_nil))))) pss_nil)
      (pss_cons (ps_if (pt_cmpR op_eq (pe_callB call_len_seq (by rfl) X.bLen PySem.boot_len (pa_cons (pe_fld (pv 0) rfl) pa_nil)) pe_int (nomark _)) (pss_one (ps_ret (pe_lst (pa_cons (pe_glob (v := .int (-9)) (by rfl) c9 ⟨_, rfl⟩) pa_nil)))) pss_nil)
      (pss_cons (ps_if (pt_cmpR op_eq (pv 1) (pe_glob (v := .int 1) (by rfl) c1 ⟨_, rfl⟩) (nomark _)) (pss_one (ps_ret (pe_meth0 (pv 0) X.cl G1.me (G1.ok (k := k)) (hr.mono (by omega)) G1.bd .nil pass0))) pss_nil)
      (pss_cons (ps_if (pt_cmpR op_eq (pv 1) (pe_glob (v := .int 2) (by rfl) c2 ⟨_, rfl⟩) (nomark _)) (pss_one (ps_ret (pe_meth (pv 0) X.cl G2.me (G2.ok (k := k)) (hr.mono (by omega)) G2.bd .nil pass0 (pa_cons (pe_ix ix_list (pv 2) pe_int (fun _ _ => rfl)) pa_nil)))) pss_nil)
      (pss_cons (ps_if (pt_cmpR op_eq (pv 1) (pe_glob (v := .int 3) (by rfl) c3 ⟨_, rfl⟩) (nomark _)) (pss_one (ps_ret (pe_meth (pv 0) X.cl G3.me (G3.ok (k := k)) (hr.mono (by omega)) G3.bd .nil pass0 (pa_cons (pv 3) pa_nil)))) pss_nil)
      (pss_cons (ps_if (pt_cmpR op_eq (pv 1) (pe_glob (v := .int 4) (by rfl) c4 ⟨_, rfl⟩) (nomark _)) (pss_one (ps_ret (pe_meth (pv 0) X.cl G4.me (G4.ok (k := k)) (hr.mono (by omega)) G4.bd .nil pass0 (pa_cons (pe_ix ix_list (pv 2) pe_int (fun _ _ => rfl)) pa_nil)))) pss_nil)
      (pss_cons (ps_if (pt_cmpR op_eq (pv 1) (pe_glob (v := .int 5) (by rfl) c5 ⟨_, rfl⟩) (nomark _)) (pss_one (ps_ret (pe_meth0 (pv 0) X.cl G5.me (G5.ok (k := k)) (hr.mono (by omega)) G5.bd .nil pass0))) pss_nil)
      (pss_cons (ps_if (pt_cmpR op_eq (pv 1) (pe_glob (v := .int 6) (by rfl) c6 ⟨_, rfl⟩) (nomark _)) (pss_one (ps_ret (pe_meth0 (pv 0) X.cl G6.me (G6.ok (k := k)) (hr.mono (by omega)) G6.bd .nil pass0))) pss_nil)
      (pss_cons (ps_if (pt_cmpR op_eq (pv 1) (pe_glob (v := .int 7) (by rfl) c7 ⟨_, rfl⟩) (nomark _)) (pss_one (ps_ret (pe_meth (pv 0) X.cl G7.me (G7.ok (k := k)) (hr.mono (by omega)) G7.bd .nil pass0 (pa_cons (pe_ix ix_list (pv 2) pe_int (fun _ _ => rfl)) (pa_cons (pe_ix ix_list (pv 2) pe_int (fun _ _ => rfl)) pa_nil))))) pss_nil)
      (pss_cons (ps_if (pt_cmpR op_eq (pv 1) (pe_glob (v := .int 8) (by rfl) c8 ⟨_, rfl⟩) (nomark _)) (pss_one (ps_ret (pe_meth (pv 0) X.cl G8.me (G8.ok (k := k)) (hr.mono (by omega)) G8.bd .nil pass0 (pa_cons (pe_ix ix_list (pv 2) pe_int (fun _ _ => rfl)) (pa_cons (pe_ix ix_list (pv 2) pe_int (fun _ _ => rfl)) pa_nil))))) pss_nil)
      (pss_cons (ps_if (pt_cmpR op_eq (pv 1) (pe_glob (v := .int 9) (by rfl) c10 ⟨_, rfl⟩) (nomark _)) (pss_one (ps_ret (pe_meth (pv 0) X.cl G9.me (G9.ok (k := k)) (hr.mono (by omega)) G9.bd .nil pass0 (pa_cons (pe_ix ix_list (pv 2) pe_int (fun _ _ => rfl)) (pa_cons (pe_ix ix_list (pv 2) pe_int (fun _ _ => rfl)) pa_nil))))) pss_nil)
      (pss_one (ps_ret (pe_meth0 (pv 0) X.cl G10.me (G10.ok (k := k)) (hr.mono (by omega)) G10.bd .nil pass0))))))))))))), ?_⟩
    obtain ⟨dx, ob⟩ := ch.ob
    have li := ch.li
    have eln : ((nv ms).length : Int) = (ms.length : Int) := by simp
    -- a call that only reads
    have rd : ∀ {g : Good r ms}, (Mu49.step (some (lin r ms)) cl).1 = some (lin r ms) → Post T H Q (Mu49.step (some (lin r ms)) cl).2 := fun {g} e H' p x t n ep =>
      q H' p m r ms (ExtBut.of x) t (ch.ext x) (.inl rfl) wf (by rw [abs_good g, e]) n (by rw [abs_good g]; exact ep)
    refine ⟨_, rfl, rfl, _, rfl, pick (k := 0) (fun e => ?_) (fun e => ?_)⟩
    · obtain ⟨r', ns, rfl⟩ := num0 e
      refine ⟨.ref a, rfl, a, dx, _, rfl, ob, ch_none r m (by decide +kernel) (by decide +kernel), .ref b1, rfl, b1, _, _, _, rfl, rfl, SqL.of hb1, atI_nat (j := 0) rfl, _, rfl, a, m, r, ms, b2, r', ns, rfl, ch, SqL.of hb2, ok.2.1, fun H' p ng sm np ep => ?_, fun H' p m' g' kp ch' nm' np npm ep => ?_⟩
      · have es : Mu49.step (absOf r ms) (.begin_ r' ns) = (absOf r ms, [-1]) := beg_bad ng
        exact q H' p m r ms (ExtBut.of (ExtN.of sm)) (tab.ext sm) (ch.ext (ExtN.of sm)) (.inl rfl) wf (by rw [es]) (New.of np) (by rw [es]; exact ep)
      · have es : Mu49.step (absOf r ms) (.begin_ r' ns) = (some (lin r' ns), [0]) := beg_good g'
        refine q H' p m' r' ns (fun b o hba _ e _ => kp b o e hba) (fun x hx => ?_) ch' (.inr (New.of nm')) (.inr g') (by rw [es, abs_good g']) (New.of np) (by rw [es]; exact ep)
        obtain ⟨ps, z1, z2, z3⟩ := tab x hx
        refine ⟨ps, kp _ _ z1 (fun z => by rw [z, ob] at z1; cases z1), z2, fun pos cv hc => ?_⟩
        obtain ⟨c', y1, y2⟩ := z3 pos cv hc
        exact ⟨c', y1, kp _ _ y2 (fun z => by rw [z, ob] at y2; unfold CodeO at y2; cases y2)⟩
    refine ⟨_, rfl, a, C, dx, _, _, rfl, ob, X.cl, X.nM, ch_marks r m, m, _, rfl, .inl (SqL.of li), rfl, _, rfl, ite2 (fun z => ?_) (fun z => ?_)⟩
    · rw [eln] at z
      have hz : ms = [] := by
        have := V.int.inj (of_decide_eq_true z)
        exact List.length_eq_zero_iff.mp (by omega)
      subst hz
      have es : Mu49.step (absOf r []) cl = (none, [-9]) := nine e
      refine ⟨by show 1 ≤ sizeLine; decide, fun p np => q _ p m r [] (ExtBut.of (extn_upd np)) (tabs_upd np tab) (ch.ext (extn_upd np)) (.inl rfl) wf (by rw [es]; rfl) (New.of np) (by rw [es]; exact upd_same)⟩
    have g : Good r ms := by
      rcases wf with w | w
      · exfalso
        rw [w] at z
        exact z (decide_eq_true rfl)
      · exact w
    refine ⟨_, rfl, rfl, _, rfl, pick (k := 1) (fun e1 => ?_) (fun e1 => ?_)⟩
    · obtain rfl := num1 e1
      exact ⟨.ref a, rfl, a, dx, _, rfl, ob, ch_none r m (by decide +kernel) (by decide +kernel), a, m, r, ms, rfl, ch, g, tab, rd (g := g) rfl⟩
    refine ⟨_, rfl, rfl, _, rfl, pick (k := 2) (fun e2 => ?_) (fun e2 => ?_)⟩
    · obtain ⟨i, rfl⟩ := num2 e2
      exact ⟨.ref a, rfl, a, dx, _, rfl, ob, ch_none r m (by decide +kernel) (by decide +kernel), .ref b1, rfl, b1, _, _, _, rfl, rfl, SqL.of hb1, atI_nat (j := 0) rfl, a, m, r, ms, i, rfl, ch, g, tab, rd (g := g) rfl⟩
    refine ⟨_, rfl, rfl, _, rfl, pick (k := 3) (fun e3 => ?_) (fun e3 => ?_)⟩
    · obtain ⟨s, rfl⟩ := num3 e3
      exact ⟨.ref a, rfl, a, dx, _, rfl, ob, ch_none r m (by decide +kernel) (by decide +kernel), .ref b2, rfl, a, m, r, ms, b2, s, rfl, ch, g, SqL.of hb2, ok.1, tab, rd (g := g) rfl⟩
    refine ⟨_, rfl, rfl, _, rfl, pick (k := 4) (fun e4 => ?_) (fun e4 => ?_)⟩
    · obtain ⟨n, rfl⟩ := num4 e4
      exact ⟨.ref a, rfl, a, dx, _, rfl, ob, ch_none r m (by decide +kernel) (by decide +kernel), .ref b1, rfl, b1, _, _, _, rfl, rfl, SqL.of hb1, atI_nat (j := 0) rfl, a, m, r, ms, n, rfl, ch, g, tab, rd (g := g) rfl⟩
    refine ⟨_, rfl, rfl, _, rfl, pick (k := 5) (fun e5 => ?_) (fun e5 => ?_)⟩
    · obtain rfl := num5 e5
      exact ⟨.ref a, rfl, a, dx, _, rfl, ob, ch_none r m (by decide +kernel) (by decide +kernel), a, m, r, ms, rfl, ch, g, tab, rd (g := g) rfl⟩
    refine ⟨_, rfl, rfl, _, rfl, pick (k := 6) (fun e6 => ?_) (fun e6 => ?_)⟩
    · obtain rfl := num6 e6
      exact ⟨.ref a, rfl, a, dx, _, rfl, ob, ch_none r m (by decide +kernel) (by decide +kernel), a, m, r, ms, rfl, ch, g, tab, rd (g := g) rfl⟩
    refine ⟨_, rfl, rfl, _, rfl, pick (k := 7) (fun e7 => ?_) (fun e7 => ?_)⟩
    · obtain ⟨i, x, rfl⟩ := num7 e7
      exact ⟨.ref a, rfl, a, dx, _, rfl, ob, ch_none r m (by decide +kernel) (by decide +kernel), .ref b1, rfl, b1, _, _, _, rfl, rfl, SqL.of hb1, atI_nat (j := 0) rfl, .ref b1, rfl, b1, _, _, _, rfl, rfl, SqL.of hb1, atI_nat (j := 1) rfl, a, m, r, ms, i, x, rfl, ch, g, tab, rd (g := g) rfl⟩
    refine ⟨_, rfl, rfl, _, rfl, pick (k := 8) (fun e8 => ?_) (fun e8 => ?_)⟩
    · obtain ⟨i, x, rfl⟩ := num8 e8
      refine ⟨.ref a, rfl, a, dx, _, rfl, ob, ch_none r m (by decide +kernel) (by decide +kernel), .ref b1, rfl, b1, _, _, _, rfl, rfl, SqL.of hb1, atI_nat (j := 0) rfl, .ref b1, rfl, b1, _, _, _, rfl, rfl, SqL.of hb1, atI_nat (j := 1) rfl, a, m, r, ms, i, x, rfl, ch, g, tab, fun hi H' p ex tb n ep => ?_, fun hi H' p m' kp tb ch' nm np ep => ?_⟩
      · have es : Mu49.step (absOf r ms) (.mark i x) = (some (lin r ms), [-2]) := by rw [abs_good g, step_mark, if_pos hi]
        exact q H' p m r ms (ExtBut.of ex) tb (ch.ext ex) (.inl rfl) wf (by rw [es, abs_good g]) n (by rw [es]; exact ep)
      · have g' := good_set g i x
        have es : Mu49.step (absOf r ms) (.mark i x) = (some (lin r (ms.set i x)), [((ms.getD i 0 : Nat) : Int)]) := by rw [abs_good g, step_mark, if_neg hi]
        exact q H' p m' r _ (fun b o hba _ e n => kp b o hba e n) tb ch' (.inr nm) (.inr g') (by rw [es, abs_good g']) np (by rw [es]; exact ep)
    refine ⟨_, rfl, rfl, _, rfl, pick (k := 9) (fun e9 => ?_) (fun e9 => ?_)⟩
    · obtain ⟨i, j, rfl⟩ := num9 e9
      refine ⟨.ref a, rfl, a, dx, _, rfl, ob, ch_none r m (by decide +kernel) (by decide +kernel), .ref b1, rfl, b1, _, _, _, rfl, rfl, SqL.of hb1, atI_nat (j := 0) rfl, .ref b1, rfl, b1, _, _, _, rfl, rfl, SqL.of hb1, atI_nat (j := 1) rfl, a, m, r, ms, i, j, rfl, ch, g, tab, fun hi H' p ex tb n ep => ?_, fun hi H' p m' kp tb ch' nm np ep => ?_⟩
      · have es : Mu49.step (absOf r ms) (.swap i j) = (some (lin r ms), [-2]) := by rw [abs_good g, step_swap, if_pos hi]
        exact q H' p m r ms (ExtBut.of ex) tb (ch.ext ex) (.inl rfl) wf (by rw [es, abs_good g]) n (by rw [es]; exact ep)
      · have g' := good_set (good_set g i (ms.getD j 0)) j (ms.getD i 0)
        have es : Mu49.step (absOf r ms) (.swap i j) = (some (lin r ((ms.set i (ms.getD j 0)).set j (ms.getD i 0))), [((Mu49.cost (lin r ((ms.set i (ms.getD j 0)).set j (ms.getD i 0))) : Nat) : Int)]) := by rw [abs_good g, step_swap, if_neg hi]
        exact q H' p m' r _ (fun b o hba _ e n => kp b o hba e n) tb ch' (.inr nm) (.inr g') (by rw [es, abs_good g']) np (by rw [es]; exact ep)
    have hlt := num_lt cl
    obtain rfl := num10 (c := cl) (by omega)
    exact ⟨.ref a, rfl, a, dx, _, rfl, ob, ch_none r m (by decide +kernel) (by decide +kernel), a, m, r, ms, rfl, ch, g, tab, rd (g := g) rfl⟩
end
end Fs
set_option Elab.async false
set_option maxRecDepth 100000
set_option maxHeartbeats 4000000
namespace Fs
open PySem PySem.Spec PyProof.Rows L2 LamX
section
variable {K : PySem.W.Frag} {h : Heap} {mg : Str → Option Value} {C : Addr}
/-- a def of the package, found -/
structure Found (K : PySem.W.Frag) (mg : Str → Option Value) (x : Str) (st : Stmt) (f : Addr) (fd : FuncData) : Prop where
  gl : mg x = some (.ref f)
  fn : Fun K x x st f fd
theorem fn_has {x : Str} {st : Stmt} (X : K.In h) (G : h.Ns mainGlobals mg) {f : Addr} {od an : Option Addr} {sl : Array (Option Value)} {oc kV dc pm cd ct : Value} (a : PySem.W.nsIn K mainGlobals x = some (some (.ref f)))
    (l : K.lookup f = some ⟨oc, od, .func (PySem.W.fnOf x x (defArgs st) (defBody st) (defScope st) .none kV dc pm an cd ct), sl⟩) (c : PySem.W.codeIn K cd x = true) (k : PySem.W.keepIn K (.ref f) = true) : ∃ f fd, Found K mg x st f fd :=
  ⟨f, _, PySem.W.mg_of X G a, fun_mk (st := st) l c k⟩
/-- a def that makes lambdas, found with its code object -/
theorem fn_hasC {x : Str} {st : Stmt} (X : K.In h) (G : h.Ns mainGlobals mg) {f cc Pt : Addr} {od an : Option Addr} {sl : Array (Option Value)} {oc kV dc pm cd ct : Value} (ht : PySem.W.tabIn K x = some (cc, Pt)) (a : PySem.W.nsIn K mainGlobals x = some (some (.ref f)))
    (l : K.lookup f = some ⟨oc, od, .func (PySem.W.fnOf x x (defArgs st) (defBody st) (defScope st) .none kV dc pm an cd ct), sl⟩) (c : PySem.W.codeIn K cd x = true) (k : PySem.W.keepIn K (.ref f) = true) : ∃ f fd, mg x = some (.ref f) ∧ FunC K x x st f fd cc := by
  have e := PySem.W.law_code X G ht (PySem.W.mg_of X G a) (X _ _ l) rfl
  have e : cd = .ref cc := e
  subst e
  exact ⟨f, _, PySem.W.mg_of X G a, ⟨⟨_, _, _, _, _, _, _, _, rfl, l, c⟩, k⟩⟩
/-- a method, found -/
structure MFound (K : PySem.W.Frag) (C : Addr) (x q : Str) (st : Stmt) (f : Addr) (fd : FuncData) : Prop where
  me : Meth K C x f
  fn : Fun K x q st f fd
theorem me_has {x q : Str} {st : Stmt} {f : Addr} {od an : Option Addr} {sl : Array (Option Value)} {oc kV dc pm cd ct : Value} (a : PySem.W.findIn K (.ref C) x = some (some (.ref f))) (i : PySem.W.isFn K (.ref f) = true)
    (l : K.lookup f = some ⟨oc, od, .func (PySem.W.fnOf x q (defArgs st) (defBody st) (defScope st) .none kV dc pm an cd ct), sl⟩) (c : PySem.W.codeIn K cd q = true) (k : PySem.W.keepIn K (.ref f) = true) : ∃ f fd, MFound K C x q st f fd :=
  ⟨f, _, ⟨a, i, k⟩, fun_mk (st := st) l c k⟩
theorem const_has {x : Str} {n : Int} {t : Tok} (X : K.In h) (G : h.Ns mainGlobals mg) (a : PySem.W.nsIn K mainGlobals x = some (some (.int n t))) : ∃ t, mg x = some (.int n t) := ⟨t, PySem.W.mg_of X G a⟩
theorem tup_has {x : Str} {xs : List V} {t : Addr} {o : Obj} {its : Array Value} {n : Nat} (X : K.In h) (G : h.Ns mainGlobals mg) (a : PySem.W.nsIn K mainGlobals x = some (some (.ref t))) (l : K.lookup t = some o) (c : o.cls = .type "tuple") (d : o.data = .seq its n) (z : its.size ≤ sizeLine) (v : Vals xs its.toList) :
    ∃ t, mg x = some (.ref t) ∧ ∀ H, SqT K H t xs := ⟨t, PySem.W.mg_of X G a, fun _ => .inr ⟨o, its, n, l, c, d, z, v⟩⟩
end
end Fs
set_option Elab.async false
set_option maxRecDepth 100000
set_option maxHeartbeats 4000000
namespace Fs
open PySem PySem.Spec PyProof.Rows L2 LamX
open PySem.W (Codec OpenSpec WData)
/-- the request as the codecs hand it in -/
theorem request {K : PySem.W.Frag} {T : List (Addr × Str)} {Pt : Addr} {q : Str} (hT : T = [(Pt, q)]) (H : Hp) (xs : List V) (a : Codec.denoteAll PySem.Challenge.rw_fairsweets_s01_answers.args) (h1 : H Pt = some (.tbl #[])) (hF : OnlyFT H)
    (hask : Codec.app PySem.Challenge.rw_fairsweets_s01_answers.args PySem.Challenge.rw_fairsweets_s01_answers.asked a = true) (hx : DwAll K H xs (Codec.encAll PySem.Challenge.rw_fairsweets_s01_answers.args a)) :
    spAns K T xs H (fun v H' => Dw K H' v (PySem.Challenge.rw_fairsweets_s01_answers.ret.enc (Codec.app PySem.Challenge.rw_fairsweets_s01_answers.args PySem.Challenge.rw_fairsweets_s01_answers.f a))) fun _ _ _ => False := by
  cases hx with
  | cons h1' h2 =>
    cases h2
    cases h1' with
    | lst hs ha =>
      have e := L2.ints_dw a.1 _ ha
      subst e
      obtain ⟨cs, e1, e2, e3, e4⟩ := asked_of (l := a.1) hask
      refine ⟨_, a.1, cs, rfl, ?_, e1, e2, e3, ?_, fun H' p hp => ?_⟩
      · rcases hs with (h | ⟨o, h⟩) | h
        · exfalso
          rcases hF _ with z | ⟨o, u, z⟩ | ⟨ps, z⟩ <;> rw [h] at z <;> cases z
        · exact .inl ⟨o, h⟩
        · exact .inr h
      · subst hT
        intro p hp
        rw [List.mem_singleton] at hp
        subst hp
        exact TabS.nil h1
      · show Dw K H' (.ref p) (.list ((PyMu49.answers a.1).map WData.int))
        rw [e4]
        exact .lst (L2.SqL.of hp) (L2.dw_ints _)
/-- all that the top has written, but the def that answers one call -/
structure Pack (K : PySem.W.Frag) (mg : Str → Option Value) (C cc : Addr) : Prop where
  nb : ∃ f fd, Found K mg "neighbour_pairs" sNb f fd
  bet : ∃ f fd, Found K mg "better_pairs" sBet f fd
  few : ∃ f fd, mg "fewest_share" = some (.ref f) ∧ FunC K "fewest_share" "fewest_share" sFew f fd cc
  swt : ∃ f fd, Found K mg "fewest_sweets" sSwt f fd
  chn : ∃ f fd, Found K mg "longest_chain" sCh f fd
  wo : ∃ f fd, Found K mg "without_sweets" sWo f fd
  un : ∃ f fd, Found K mg "treated_unfairly" sUn f fd
  sh : ∃ f fd, Found K mg "shares_of" sSh f fd
  ct : ∃ f fd, Found K mg "count_fair" sCt f fd
  ors : ∃ f fd, Found K mg "all_orders" sOr f fd
  bo : ∃ f fd, Found K mg "best_order" sBo f fd
  om : ∃ f fd, Found K mg "other_mark" sOm f fd
  cp : ∃ f fd, Found K mg "changed_places" sCp f fd
  bx : ∃ f fd, Found K mg "best_exchange" sBe f fd
  cl : ClsT K mg C
  tp : TopT K mg C
  range : mg "range" = none
  sorted : mg "sorted" = none
  mx : mg "max" = none
  mn : mg "min" = none
  enum : mg "enumerate" = none
  all : mg "all" = none
/-- the defs of shares.py by their promises -/
structure Lib (K : PySem.W.Frag) (mg : Str → Option Value) (base : Heap) (T : List (Addr × Str)) : Prop where
  few : ∃ f fd, Has K mg base "fewest_share" 3 ["ring", "marks"] (spFew K T) f fd
  swt : ∃ f fd, Has K mg base "fewest_sweets" 4 ["ring", "marks"] (spSwt K T) f fd
  chn : ∃ f fd, Has K mg base "longest_chain" 4 ["ring", "marks", "child"] (spCh K T) f fd
  wo : ∃ f fd, Has K mg base "without_sweets" 1 ["share"] (spWo K) f fd
  un : ∃ f fd, Has K mg base "treated_unfairly" 3 ["ring", "marks", "share"] (spUn K) f fd
  ct : ∃ f fd, Has K mg base "count_fair" 3 ["ring", "marks", "sweets"] (spCt K) f fd
  bo : ∃ f fd, Has K mg base "best_order" 5 ["ring", "marks"] (spBo K T) f fd
  om : ∃ f fd, Has K mg base "other_mark" 1 ["marks", "child", "new"] (spOm K) f fd
  cp : ∃ f fd, Has K mg base "changed_places" 2 ["marks", "child", "other"] (spCp K) f fd
  bx : ∃ f fd, Has K mg base "best_exchange" 5 ["ring", "marks"] (spBx K T) f fd
theorem lib_of {K : PySem.W.Frag} {mg : Str → Option Value} {base : Heap} {C cc Pt : Addr} (A : Pack K mg C cc) (TB : TabB base mg cc Pt) : Lib K mg base [(Pt, lamN)] := by
  obtain ⟨f1, d1, F1⟩ := A.nb
  obtain ⟨f2, d2, F2⟩ := A.bet
  obtain ⟨f3, d3, g3, F3⟩ := A.few
  obtain ⟨f4, d4, F4⟩ := A.swt
  obtain ⟨f5, d5, F5⟩ := A.chn
  obtain ⟨f6, d6, F6⟩ := A.wo
  obtain ⟨f7, d7, F7⟩ := A.un
  obtain ⟨f8, d8, F8⟩ := A.sh
  obtain ⟨f9, d9, F9⟩ := A.ct
  obtain ⟨f10, d10, F10⟩ := A.ors
  obtain ⟨f11, d11, F11⟩ := A.bo
  obtain ⟨f12, d12, F12⟩ := A.om
  obtain ⟨f13, d13, F13⟩ := A.cp
  obtain ⟨f14, d14, F14⟩ := A.bx
  have b1 := F1.fn.binds (ps := ["ring", "size"]) fun _ _ _ _ _ _ us hl => match us, hl with | [_, _], _ => rfl
  have b2 := F2.fn.binds (ps := ["ring", "marks"]) fun _ _ _ _ _ _ us hl => match us, hl with | [_, _], _ => rfl
  have b3 : Binds K d3 ["ring", "marks"] [] := by
    obtain ⟨oc, od, kV, doc, pm, an, ct, osl, rfl, lk, hcd⟩ := F3.ex
    exact .all fun us hl => match us, hl with | [_, _], _ => rfl
  have b4 := F4.fn.binds (ps := ["ring", "marks"]) fun _ _ _ _ _ _ us hl => match us, hl with | [_, _], _ => rfl
  have b5 := F5.fn.binds (ps := ["ring", "marks", "child"]) fun _ _ _ _ _ _ us hl => match us, hl with | [_, _, _], _ => rfl
  have b6 := F6.fn.binds (ps := ["share"]) fun _ _ _ _ _ _ us hl => match us, hl with | [_], _ => rfl
  have b7 := F7.fn.binds (ps := ["ring", "marks", "share"]) fun _ _ _ _ _ _ us hl => match us, hl with | [_, _, _], _ => rfl
  have b8 := F8.fn.binds (ps := ["size", "sweets"]) fun _ _ _ _ _ _ us hl => match us, hl with | [_, _], _ => rfl
  have b9 := F9.fn.binds (ps := ["ring", "marks", "sweets"]) fun _ _ _ _ _ _ us hl => match us, hl with | [_, _, _], _ => rfl
  have b10 := F10.fn.binds (ps := ["size"]) fun _ _ _ _ _ _ us hl => match us, hl with | [_], _ => rfl
  have b11 := F11.fn.binds (ps := ["ring", "marks"]) fun _ _ _ _ _ _ us hl => match us, hl with | [_, _], _ => rfl
  have b12 := F12.fn.binds (ps := ["marks", "child", "new"]) fun _ _ _ _ _ _ us hl => match us, hl with | [_, _, _], _ => rfl
  have b13 := F13.fn.binds (ps := ["marks", "child", "other"]) fun _ _ _ _ _ _ us hl => match us, hl with | [_, _, _], _ => rfl
  have b14 := F14.fn.binds (ps := ["ring", "marks"]) fun _ _ _ _ _ _ us hl => match us, hl with | [_, _], _ => rfl
  have hu : ∀ p ∈ [(Pt, lamN)], p.1 = Pt → p.2 = lamN := fun p hp _ => by
    rw [List.mem_singleton] at hp
    rw [hp]
  have C0 : FewCtx K mg base [(Pt, lamN)] f3 f1 f2 d3 d1 d2 := ⟨ok_few F3 F1.fn b1 F1.gl F2.fn b2 F2.gl A.range A.cl.bLen A.sorted A.mx TB List.mem_cons_self hu, ok_bet F2.fn F1.fn b1 F1.gl A.range A.cl.bLen, b3, b2, g3, F2.gl, F3.kp, F2.fn.kp⟩
  exact ⟨⟨f3, d3, C0.few, b3, g3, F3.kp⟩, ⟨f4, d4, ok_swt F4.fn C0 A.cl.bSum, b4, F4.gl, F4.fn.kp⟩, ⟨f5, d5, ok_ch F5.fn C0 A.mn, b5, F5.gl, F5.fn.kp⟩, ⟨f6, d6, ok_wo F6.fn A.enum, b6, F6.gl, F6.fn.kp⟩,
    ⟨f7, d7, ok_un F7.fn C0 A.sorted, b7, F7.gl, F7.fn.kp⟩, ⟨f9, d9, ok_ct F9.fn C0 F8.fn b8 F8.gl A.range A.cl.bSum A.cl.bLen A.all, b9, F9.gl, F9.fn.kp⟩,
    ⟨f11, d11, ok_bo F11.fn C0 F10.fn b10 F10.gl F4.fn b4 F4.gl A.range A.cl.bSum A.cl.bLen A.mn, b11, F11.gl, F11.fn.kp⟩,
    ⟨f12, d12, ok_om F12.fn A.cl.bList, b12, F12.gl, F12.fn.kp⟩, ⟨f13, d13, ok_cp F13.fn F12.fn b12 F12.gl A.cl.bList, b13, F13.gl, F13.fn.kp⟩,
    ⟨f14, d14, ok_bx F14.fn C0 F13.fn b13 F13.gl F12.fn b12 F12.gl A.cl.bList F4.fn b4 F4.gl A.range A.cl.bSum A.cl.bLen A.mn, b14, F14.gl, F14.fn.kp⟩⟩
/-- the methods, found -/
structure Meths (K : PySem.W.Frag) (C : Addr) : Prop where
  m0 : ∃ f fd, MFound K C "begin" "Children.begin" mBeg f fd
  m1 : ∃ f fd, MFound K C "fewest" "Children.fewest" mFew f fd
  m2 : ∃ f fd, MFound K C "chain" "Children.chain" mCh f fd
  m3 : ∃ f fd, MFound K C "judge" "Children.judge" mJu f fd
  m4 : ∃ f fd, MFound K C "ways" "Children.ways" mWa f fd
  m5 : ∃ f fd, MFound K C "order" "Children.order" mOr f fd
  m6 : ∃ f fd, MFound K C "exchange" "Children.exchange" mEx f fd
  m7 : ∃ f fd, MFound K C "would" "Children.would" mWd f fd
  m8 : ∃ f fd, MFound K C "mark" "Children.mark" mMk f fd
  m9 : ∃ f fd, MFound K C "swap" "Children.swap" mSw f fd
  m10 : ∃ f fd, MFound K C "look" "Children.look" mLk f fd
/-- the def that answers one call, by its promise -/
theorem callHas {K : PySem.W.Frag} {mg : Str → Option Value} {base : Heap} {C : Addr} {T : List (Addr × Str)} (F : ∃ f fd, Found K mg "answer_call" sCall f fd) (X : ClsT K mg C) (Y : CallT mg) (Z : Meths K C) (L : Lib K mg base T) :
    ∃ fC fdC, Has K mg base "answer_call" 7 ["children", "number", "plain", "row"] (spCall C T) fC fdC := by
  obtain ⟨f, fd, F⟩ := F
  obtain ⟨g0, d0, M0⟩ := Z.m0
  obtain ⟨g1, d1, M1⟩ := Z.m1
  obtain ⟨g2, d2, M2⟩ := Z.m2
  obtain ⟨g3, d3, M3⟩ := Z.m3
  obtain ⟨g4, d4, M4⟩ := Z.m4
  obtain ⟨g5, d5, M5⟩ := Z.m5
  obtain ⟨g6, d6, M6⟩ := Z.m6
  obtain ⟨g7, d7, M7⟩ := Z.m7
  obtain ⟨g8, d8, M8⟩ := Z.m8
  obtain ⟨g9, d9, M9⟩ := Z.m9
  obtain ⟨g10, d10, M10⟩ := Z.m10
  obtain ⟨_, _, few⟩ := L.few
  obtain ⟨_, _, swt⟩ := L.swt
  obtain ⟨_, _, chn⟩ := L.chn
  obtain ⟨_, _, wo⟩ := L.wo
  obtain ⟨_, _, un⟩ := L.un
  obtain ⟨_, _, ct⟩ := L.ct
  obtain ⟨_, _, bo⟩ := L.bo
  obtain ⟨_, _, om⟩ := L.om
  obtain ⟨_, _, cp⟩ := L.cp
  obtain ⟨_, _, bx⟩ := L.bx
  have H0 : HasM K mg base C "begin" 1 ["self", "ring", "marks"] (spBeg C K) g0 d0 := ⟨ok_beg M0.fn X, M0.fn.binds fun _ _ _ _ _ _ us hl => match us, hl with | [_, _, _], _ => rfl, M0.me⟩
  have H1 : HasM K mg base C "fewest" 4 ["self"] (spMF C T) g1 d1 := ⟨ok_mf M1.fn X few, M1.fn.binds fun _ _ _ _ _ _ us hl => match us, hl with | [_], _ => rfl, M1.me⟩
  have H2 : HasM K mg base C "chain" 5 ["self", "child"] (spMC C T) g2 d2 := ⟨ok_mc M2.fn X chn, M2.fn.binds fun _ _ _ _ _ _ us hl => match us, hl with | [_, _], _ => rfl, M2.me⟩
  have H3 : HasM K mg base C "judge" 5 ["self", "share"] (spMJ C K T) g3 d3 := ⟨ok_mj M3.fn X wo un swt, M3.fn.binds fun _ _ _ _ _ _ us hl => match us, hl with | [_, _], _ => rfl, M3.me⟩
  have H4 : HasM K mg base C "ways" 4 ["self", "sweets"] (spMW C T) g4 d4 := ⟨ok_mw M4.fn X ct, M4.fn.binds fun _ _ _ _ _ _ us hl => match us, hl with | [_, _], _ => rfl, M4.me⟩
  have H5 : HasM K mg base C "order" 6 ["self"] (spMO C T) g5 d5 := ⟨ok_mo M5.fn X bo, M5.fn.binds fun _ _ _ _ _ _ us hl => match us, hl with | [_], _ => rfl, M5.me⟩
  have H6 : HasM K mg base C "exchange" 6 ["self"] (spME C T) g6 d6 := ⟨ok_me M6.fn X Y.one bx, M6.fn.binds fun _ _ _ _ _ _ us hl => match us, hl with | [_], _ => rfl, M6.me⟩
  have H7 : HasM K mg base C "would" 4 ["self", "child", "new"] (spMWd C T) g7 d7 := ⟨ok_mwd M7.fn X few om, M7.fn.binds fun _ _ _ _ _ _ us hl => match us, hl with | [_, _, _], _ => rfl, M7.me⟩
  have H8 : HasM K mg base C "mark" 2 ["self", "child", "new"] (spMMk C T) g8 d8 := ⟨ok_mmk M8.fn X om, M8.fn.binds fun _ _ _ _ _ _ us hl => match us, hl with | [_, _, _], _ => rfl, M8.me⟩
  have H9 : HasM K mg base C "swap" 5 ["self", "child", "other"] (spMSw C T) g9 d9 := ⟨ok_msw M9.fn X swt cp, M9.fn.binds fun _ _ _ _ _ _ us hl => match us, hl with | [_, _, _], _ => rfl, M9.me⟩
  have H10 : HasM K mg base C "look" 1 ["self"] (spML C T) g10 d10 := ⟨ok_ml M10.fn X, M10.fn.binds fun _ _ _ _ _ _ us hl => match us, hl with | [_], _ => rfl, M10.me⟩
  exact ⟨f, fd, ok_call F.fn X Y H0 H1 H2 H3 H4 H5 H6 H7 H8 H9 H10, F.fn.binds fun _ _ _ _ _ _ us hl => match us, hl with | [_, _, _, _], _ => rfl, F.gl, F.fn.kp⟩
/-- the whole, but for the def that answers one call -/
theorem fin {w : World} {K : PySem.W.Frag} {mg : Str → Option Value} {C cc Pt fa : Addr} {h : Heap} {lv k : Nat} (A : Pack K mg C cc) (t1 : PySem.W.CodeHd h cc Pt ∧ h.get? Pt = some (PySem.W.tabObj #[])) (nt : PySem.W.noTabs K = true) (KX : K.In h) (hfa : mg "answers" = some (.ref fa))
    (Fa : ∃ f fd, Found K mg "answers" sAns f fd) (M : ∃ fI fdI, Mk K C fI ∧ Fun K "__init__" "Children.__init__" mInit fI fdI)
    (hcall : ∀ (base : Heap), Lib K mg base [(Pt, lamN)] → ∃ fC fdC, Has K mg base "answer_call" lv ["children", "number", "plain", "row"] (spCall C [(Pt, lamN)]) fC fdC) (hlv : 2 ≤ lv) :
    SpecAt PySem.Challenge.rw_fairsweets_s01_answers w K CX0 (k + lv + 1) ["calls"] mg fa h := by
  obtain ⟨f, fd, F⟩ := Fa
  obtain ⟨fI, fdI, Mk1, FI⟩ := M
  have ef := hfa.symm.trans F.gl
  cases ef
  have bI := FI.binds (ps := ["self"]) fun _ _ _ _ _ _ us hl => match us, hl with | [_], _ => rfl
  obtain ⟨oc, od, kV, doc, pm, an, cdv, ct, osl, rfl, lk, hcd⟩ := F.fn.ex
  refine ⟨PySem.W.fnOf "answers" "answers" (defArgs sAns) (defBody sAns) (defScope sAns) .none kV doc pm an cdv ct, [(cc, Pt)], spAns K [(Pt, lamN)], fun p hp => ?_, fun p hp => ?_, fun p hp => ?_, fun s us hu => match us, hu with | [_], _ => .of_eq rfl, fun H xs a hO hF _ hask hx => ?_, fun base KB GB TB => ?_⟩
  · rw [List.mem_singleton] at hp
    subst hp
    exact t1.2
  · rw [List.mem_singleton] at hp
    subst hp
    cases z : K.lookup Pt with
    | none => rfl
    | some o =>
      exfalso
      have h1 := KX _ _ z
      rw [t1.2] at h1
      have h2 := List.all_eq_true.mp nt (Pt, o) (PySem.W.mem_of_lookupK z)
      cases h1
      exact absurd (show false = true from h2) Bool.false_ne_true
  · rw [List.mem_singleton] at hp
    subst hp
    exact t1.1
  · exact request rfl H xs a (hO (cc, Pt) List.mem_cons_self) hF hask hx
  · obtain ⟨fC, fdC, G⟩ := hcall base (lib_of A (TB (cc, Pt) List.mem_cons_self))
    exact ok_ans F.fn A.cl A.tp Mk1 FI bI G hlv
end Fs
set_option Elab.async false
set_option maxRecDepth 100000
set_option maxHeartbeats 8000000
open PySem PySem.W PyProof.Rows
theorem PySem.Challenge.cw_fairsweets_s01_answers_holds : PySem.Challenge.rw_fairsweets_s01_answers.Holds := by
  w_on; k_headS; (case hw => exact ⟨[.list [.int 1]], by decide +kernel, by decide +kernel⟩)
  k_fillS
  refine Fs.walk_specT (r := PySem.Challenge.rw_fairsweets_s01_answers) (k := 20) (CX := fun _ => L2.CX0) (ps := ["calls"]) (by decide +kernel) rfl rfl ⟨rfl, by decide, by decide⟩ (fun w h Y => PySem.W.kIn_of Y) ?F (fun _ _ _ _ _ z => z)
  case F =>
    intro w mg mb mean fa h Y KX T hmg
    have a1 : (tabIn (PySem.Challenge.cw_fairsweets_s01_answers_holds.heap_1 w.params) "fewest_share").isSome = true := by kernel_rfl
    obtain ⟨⟨c, P⟩, hcp⟩ := Option.isSome_iff_exists.mp a1
    have t1 := tab_of (x := "fewest_share") T KX rfl hcp
    have t2 : noTabs (PySem.Challenge.cw_fairsweets_s01_answers_holds.heap_1 w.params) = true := by kernel_rfl
    have hC : ∃ C, nsIn (PySem.Challenge.cw_fairsweets_s01_answers_holds.heap_1 w.params) mainGlobals "Children" = some (some (.ref C)) ∧ plainGet (PySem.Challenge.cw_fairsweets_s01_answers_holds.heap_1 w.params) C Str.empty = true ∧ hasDictIn (PySem.Challenge.cw_fairsweets_s01_answers_holds.heap_1 w.params) C = true ∧ plainOver (PySem.Challenge.cw_fairsweets_s01_answers_holds.heap_1 w.params) C = true ∧ findIn (PySem.Challenge.cw_fairsweets_s01_answers_holds.heap_1 w.params) (.ref C) "__setattr__" = some (some (.builtin "object.__setattr__")) ∧ makesIn (PySem.Challenge.cw_fairsweets_s01_answers_holds.heap_1 w.params) C = true ∧ keepIn (PySem.Challenge.cw_fairsweets_s01_answers_holds.heap_1 w.params) (.ref C) = true ∧
        findIn (PySem.Challenge.cw_fairsweets_s01_answers_holds.heap_1 w.params) (.ref C) "ring" = some none ∧ findIn (PySem.Challenge.cw_fairsweets_s01_answers_holds.heap_1 w.params) (.ref C) "marks" = some none ∧ (∃ fI fdI, Fs.MFound (PySem.Challenge.cw_fairsweets_s01_answers_holds.heap_1 w.params) C "__init__" "Children.__init__" Fs.mInit fI fdI) ∧ Fs.Meths (PySem.Challenge.cw_fairsweets_s01_answers_holds.heap_1 w.params) C := by
      refine' ⟨_, ?a, ?b, ?c, ?d, ?e, ?f, ?g, ?h, ?i, Fs.me_has ?j ?j2 ?j3 ?j4 ?j5, ⟨Fs.me_has ?n0a ?n0b ?n0c ?n0d ?n0e, Fs.me_has ?n1a ?n1b ?n1c ?n1d ?n1e, Fs.me_has ?n2a ?n2b ?n2c ?n2d ?n2e, Fs.me_has ?n3a ?n3b ?n3c ?n3d ?n3e, Fs.me_has ?n4a ?n4b ?n4c ?n4d ?n4e, Fs.me_has ?n5a ?n5b ?n5c ?n5d ?n5e, Fs.me_has ?n6a ?n6b ?n6c ?n6d ?n6e, Fs.me_has ?n7a ?n7b ?n7c ?n7d ?n7e, Fs.me_has ?n8a ?n8b ?n8c ?n8d ?n8e, Fs.me_has ?n9a ?n9b ?n9c ?n9d ?n9e, Fs.me_has ?n10a ?n10b ?n10c ?n10d ?n10e⟩⟩
      (case a => k_is); (case b => k_is); (case c => k_is); (case d => k_is); (case e => k_is); (case f => k_is); (case g => k_is); (case h => k_is); (case i => k_is)
      (case j => k_is); (case j2 => k_is); (case j3 => k_is); (case j4 => k_is); (case j5 => k_is)
      (case n0a => k_is); (case n0b => k_is); (case n0c => k_is); (case n0d => k_is); (case n0e => k_is)
      (case n1a => k_is); (case n1b => k_is); (case n1c => k_is); (case n1d => k_is); (case n1e => k_is)
      (case n2a => k_is); (case n2b => k_is); (case n2c => k_is); (case n2d => k_is); (case n2e => k_is)
      (case n3a => k_is); (case n3b => k_is); (case n3c => k_is); (case n3d => k_is); (case n3e => k_is)
      (case n4a => k_is); (case n4b => k_is); (case n4c => k_is); (case n4d => k_is); (case n4e => k_is)
      (case n5a => k_is); (case n5b => k_is); (case n5c => k_is); (case n5d => k_is); (case n5e => k_is)
      (case n6a => k_is); (case n6b => k_is); (case n6c => k_is); (case n6d => k_is); (case n6e => k_is)
      (case n7a => k_is); (case n7b => k_is); (case n7c => k_is); (case n7d => k_is); (case n7e => k_is)
      (case n8a => k_is); (case n8b => k_is); (case n8c => k_is); (case n8d => k_is); (case n8e => k_is)
      (case n9a => k_is); (case n9b => k_is); (case n9c => k_is); (case n9d => k_is); (case n9e => k_is)
      (case n10a => k_is); (case n10b => k_is); (case n10c => k_is); (case n10d => k_is); (case n10e => k_is)
    obtain ⟨C, c1, c2, c3, c4, c5, c6, c7, c8, c9, ⟨fI, fdI, MI⟩, ms⟩ := hC
    have cl : Fs.ClsT (PySem.Challenge.cw_fairsweets_s01_answers_holds.heap_1 w.params) mg C := by
      refine' ⟨⟨c2, c3, c4, c5⟩, c8, c9, Fs.const_has KX T.g ?a, Fs.const_has KX T.g ?b, Fs.const_has KX T.g ?c, Fs.const_has KX T.g ?d, Fs.const_has KX T.g ?e, Fs.const_has KX T.g ?f, Fs.const_has KX T.g ?g, mg_none_of KX T.g ?h, mg_none_of KX T.g ?i, mg_none_of KX T.g ?j⟩
      (case a => k_is); (case b => k_is); (case c => k_is); (case d => k_is); (case e => k_is); (case f => k_is); (case g => k_is); (case h => k_is); (case i => k_is); (case j => k_is)
    have tp : Fs.TopT (PySem.Challenge.cw_fairsweets_s01_answers_holds.heap_1 w.params) mg C := by
      refine' ⟨mg_of KX T.g c1, Fs.tup_has KX T.g ?a ?l ?c ?d ?z ?v, Fs.tup_has KX T.g ?a2 ?l2 ?c2 ?d2 ?z2 ?v2⟩
      (case a => k_is); (case l => k_is); (case c => rfl); (case d => rfl); (case a2 => k_is); (case l2 => k_is); (case c2 => rfl); (case d2 => rfl)
      case z => decide
      case z2 => decide
      case v => repeat' first | exact .nil | refine .cons ⟨_, rfl⟩ ?_
      case v2 => repeat' first | exact .nil | refine .cons rfl ?_
    have A : Fs.Pack (PySem.Challenge.cw_fairsweets_s01_answers_holds.heap_1 w.params) mg C c := by
      refine' ⟨Fs.fn_has KX T.g ?a1 ?a2 ?a3 ?a4, Fs.fn_has KX T.g ?b1 ?b2 ?b3 ?b4, Fs.fn_hasC KX T.g hcp ?c1 ?c2 ?c3 ?c4, Fs.fn_has KX T.g ?d1 ?d2 ?d3 ?d4, Fs.fn_has KX T.g ?e1 ?e2 ?e3 ?e4, Fs.fn_has KX T.g ?f1 ?f2 ?f3 ?f4, Fs.fn_has KX T.g ?g1 ?g2 ?g3 ?g4, Fs.fn_has KX T.g ?h1 ?h2 ?h3 ?h4,
        Fs.fn_has KX T.g ?i1 ?i2 ?i3 ?i4, Fs.fn_has KX T.g ?j1 ?j2 ?j3 ?j4, Fs.fn_has KX T.g ?k1 ?k2 ?k3 ?k4, Fs.fn_has KX T.g ?l1 ?l2 ?l3 ?l4, Fs.fn_has KX T.g ?n1 ?n2 ?n3 ?n4, Fs.fn_has KX T.g ?o1 ?o2 ?o3 ?o4, cl, tp, mg_none_of KX T.g ?m1, mg_none_of KX T.g ?m2, mg_none_of KX T.g ?m3, mg_none_of KX T.g ?m4, mg_none_of KX T.g ?m5, mg_none_of KX T.g ?m6⟩
      (case a1 => k_is); (case a2 => k_is); (case a3 => k_is); (case a4 => k_is)
      (case b1 => k_is); (case b2 => k_is); (case b3 => k_is); (case b4 => k_is)
      (case c1 => k_is); (case c2 => k_is); (case c3 => k_is); (case c4 => k_is)
      (case d1 => k_is); (case d2 => k_is); (case d3 => k_is); (case d4 => k_is)
      (case e1 => k_is); (case e2 => k_is); (case e3 => k_is); (case e4 => k_is)
      (case f1 => k_is); (case f2 => k_is); (case f3 => k_is); (case f4 => k_is)
      (case g1 => k_is); (case g2 => k_is); (case g3 => k_is); (case g4 => k_is)
      (case h1 => k_is); (case h2 => k_is); (case h3 => k_is); (case h4 => k_is)
      (case i1 => k_is); (case i2 => k_is); (case i3 => k_is); (case i4 => k_is)
      (case j1 => k_is); (case j2 => k_is); (case j3 => k_is); (case j4 => k_is)
      (case k1 => k_is); (case k2 => k_is); (case k3 => k_is); (case k4 => k_is)
      (case l1 => k_is); (case l2 => k_is); (case l3 => k_is); (case l4 => k_is)
      (case n1 => k_is); (case n2 => k_is); (case n3 => k_is); (case n4 => k_is)
      (case o1 => k_is); (case o2 => k_is); (case o3 => k_is); (case o4 => k_is)
      (case m1 => k_is); (case m2 => k_is); (case m3 => k_is); (case m4 => k_is); (case m5 => k_is); (case m6 => k_is)
    have ct : Fs.CallT mg := by
      refine' ⟨Fs.const_has KX T.g ?a, Fs.const_has KX T.g ?b, Fs.const_has KX T.g ?c, Fs.const_has KX T.g ?d, Fs.const_has KX T.g ?e, Fs.const_has KX T.g ?f, Fs.const_has KX T.g ?g, Fs.const_has KX T.g ?h, Fs.const_has KX T.g ?i, Fs.const_has KX T.g ?j, Fs.const_has KX T.g ?k, Fs.const_has KX T.g ?l⟩
      (case a => k_is); (case b => k_is); (case c => k_is); (case d => k_is); (case e => k_is); (case f => k_is); (case g => k_is); (case h => k_is); (case i => k_is); (case j => k_is); (case k => k_is); (case l => k_is)
    have Fc : ∃ f fd, Fs.Found (PySem.Challenge.cw_fairsweets_s01_answers_holds.heap_1 w.params) mg "answer_call" Fs.sCall f fd := by
      refine' Fs.fn_has KX T.g ?a ?l ?c ?k
      (case a => k_is); (case l => k_is); (case c => k_is); (case k => k_is)
    have Fa : ∃ f fd, Fs.Found (PySem.Challenge.cw_fairsweets_s01_answers_holds.heap_1 w.params) mg "answers" Fs.sAns f fd := by
      refine' Fs.fn_has KX T.g ?a ?l ?c ?k
      (case a => k_is); (case l => k_is); (case c => k_is); (case k => k_is)
    exact Fs.fin (lv := 7) (k := 12) A t1 t2 KX hmg Fa ⟨fI, fdI, ⟨c6, MI.me.at_, MI.me.fn, c7⟩, MI.fn⟩ (fun base L => Fs.callHas Fc cl ct ms L) (by decide)
