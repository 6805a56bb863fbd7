import PyProof.Rows.All
import Wide.All
import OpenK.AllK
import Wide.FinOn
import Open.SpecLaws
import KE.OsGo
import HandS.ForSpec
import HandS.Comp
import HandS.Iter
import HandS.Evl
import HandS.Deep
import HandS.SetFor
import HandS.Rev
import HandS.TupSets
import KE.DataMinMax
import KE.DataFind
import KE.DataCmp
import PySem.Challenge.RW_layerkinds_s01_answers
set_option Elab.async false
set_option linter.all false
set_option maxRecDepth 100000
set_option maxHeartbeats 2000000
namespace Lk
open PySem PySem.Spec PyProof.Rows L2
/-! ### data that the heap tracks; N: which addresses it may lie at -/
mutual
inductive TN (N : Addr → Prop) (H : Hp) : V → PyData → Prop
  | bl (b : Bool) : TN N H (.bl b) (.bool b)
  | int (i : Int) : TN N H (.int i) (.int i)
  | lst {a : Addr} {xs : List V} {ds : List PyData} : N a → H a = some (.lst xs) → TNs N H xs ds → TN N H (.ref a) (.list ds)
  | tup {a : Addr} {xs : List V} {ds : List PyData} : N a → H a = some (.tup xs) → TNs N H xs ds → TN N H (.ref a) (.tuple ds)
inductive TNs (N : Addr → Prop) (H : Hp) : List V → List PyData → Prop
  | nil : TNs N H [] []
  | cons {v : V} {vs : List V} {d : PyData} {ds : List PyData} : TN N H v d → TNs N H vs ds → TNs N H (v :: vs) (d :: ds)
end
abbrev Ex := Evl.Ex
section
variable {N M : Addr → Prop} {H H' : Hp}
mutual
/-- to another heap that has the same at all those addresses -/
theorem TN.map (e : ∀ a o, N a → H a = some o → (∀ C dx fs, o ≠ .ins C dx fs) → M a ∧ H' a = some o) : ∀ {v : V} {d : PyData}, TN N H v d → TN M H' v d
  | _, _, .bl b => .bl b
  | _, _, .int i => .int i
  | _, _, .lst n h t => .lst (e _ _ n h (fun _ _ _ z => nomatch z)).1 (e _ _ n h (fun _ _ _ z => nomatch z)).2 (TNs.map e t)
  | _, _, .tup n h t => .tup (e _ _ n h (fun _ _ _ z => nomatch z)).1 (e _ _ n h (fun _ _ _ z => nomatch z)).2 (TNs.map e t)
theorem TNs.map (e : ∀ a o, N a → H a = some o → (∀ C dx fs, o ≠ .ins C dx fs) → M a ∧ H' a = some o) : ∀ {vs : List V} {ds : List PyData}, TNs N H vs ds → TNs M H' vs ds
  | _, _, .nil => .nil
  | _, _, .cons h t => .cons (TN.map e h) (TNs.map e t)
end
mutual
theorem TN.dp {K : PySem.W.Frag} : ∀ {v : V} {d : PyData}, TN N H v d → Dp K H v d
  | _, _, .bl b => .bl b
  | _, _, .int i => .int i
  | _, _, .lst _ h t => .lst (SqL.of h) (TNs.dp t)
  | _, _, .tup _ h t => .tup (SqT.of h) (TNs.dp t)
theorem TNs.dp {K : PySem.W.Frag} : ∀ {vs : List V} {ds : List PyData}, TNs N H vs ds → DpAll K H vs ds
  | _, _, .nil => .nil
  | _, _, .cons h t => .cons (TN.dp h) (TNs.dp t)
end
variable {v : V} {vs us : List V} {d : PyData} {ds es : List PyData}
theorem TN.mono (e : Ex H H') (h : TN N H v d) : TN N H' v d := h.map fun a o n q _ => ⟨n, e a o q⟩
theorem TNs.mono (e : Ex H H') (h : TNs N H vs ds) : TNs N H' vs ds := h.map fun a o n q _ => ⟨n, e a o q⟩
theorem TN.updIns {s : Addr} {C dx : Addr} {fs : List (Str × V)} {o : HO} (hs : H s = some (.ins C dx fs)) (h : TN N H v d) : TN N (upd H s o) v d := h.map fun a u n q no => ⟨n, by
  have ne : a ≠ s := fun z => by
    subst z
    rw [hs] at q
    exact no _ _ _ (Option.some.inj q).symm
  rw [upd_ne ne]
  exact q⟩
theorem TN.upd {D : Addr} {o : HO} (hN : ∀ a, N a → a ≠ D) (h : TN N H v d) : TN N (L2.upd H D o) v d := h.map fun a u n q _ => ⟨n, by rw [upd_ne (hN a n)]; exact q⟩
theorem TNs.upd {D : Addr} {o : HO} (hN : ∀ a, N a → a ≠ D) (h : TNs N H vs ds) : TNs N (L2.upd H D o) vs ds := h.map fun a u n q _ => ⟨n, by rw [upd_ne (hN a n)]; exact q⟩
theorem TNs.length : ∀ {vs : List V} {ds : List PyData}, TNs N H vs ds → vs.length = ds.length
  | _, _, .nil => rfl
  | _, _, .cons _ t => congrArg (· + 1) (TNs.length t)
theorem TNs.append : ∀ {vs us : List V} {ds es : List PyData}, TNs N H vs ds → TNs N H us es → TNs N H (vs ++ us) (ds ++ es)
  | _, _, _, _, .nil, h => h
  | _, _, _, _, .cons h t, h2 => .cons h (TNs.append t h2)
theorem TNs.get : ∀ {vs : List V} {ds : List PyData} {i : Nat} {x : V}, TNs N H vs ds → vs[i]? = some x → ∃ d, ds[i]? = some d ∧ TN N H x d
  | _, _, i, x, .nil, h => by simp at h
  | _, _, 0, x, .cons (v := v) (d := d) hd t, h => by
    have e : v = x := Option.some.inj h
    subst e
    exact ⟨d, rfl, hd⟩
  | _, _, i + 1, x, .cons hd t, h => TNs.get t (i := i) h
theorem TNs.get' : ∀ {vs : List V} {ds : List PyData} {i : Nat} {d : PyData}, TNs N H vs ds → ds[i]? = some d → ∃ v, vs[i]? = some v ∧ TN N H v d
  | _, _, i, x, .nil, h => by simp at h
  | _, _, 0, x, .cons (v := v) (d := d) hd t, h => by
    have e : d = x := Option.some.inj h
    subst e
    exact ⟨v, rfl, hd⟩
  | _, _, i + 1, x, .cons hd t, h => TNs.get' t (i := i) h
theorem TNs.take : ∀ {vs : List V} {ds : List PyData} (n : Nat), TNs N H vs ds → TNs N H (vs.take n) (ds.take n)
  | _, _, 0, _ => .nil
  | _, _, _ + 1, .nil => .nil
  | _, _, n + 1, .cons h t => .cons h (TNs.take n t)
theorem TNs.drop : ∀ {vs : List V} {ds : List PyData} (n : Nat), TNs N H vs ds → TNs N H (vs.drop n) (ds.drop n)
  | _, _, 0, h => h
  | _, _, _ + 1, .nil => .nil
  | _, _, n + 1, .cons h t => TNs.drop n t
theorem TNs.reverse : ∀ {vs : List V} {ds : List PyData}, TNs N H vs ds → TNs N H vs.reverse ds.reverse
  | _, _, .nil => .nil
  | _, _, .cons h t => by
    rw [List.reverse_cons, List.reverse_cons]
    exact (TNs.reverse t).append (.cons h .nil)
theorem TNs.ints : ∀ {vs : List V} {ns : List Int}, TNs N H vs (ns.map PyData.int) → vs = ns.map V.int
  | _, [], .nil => rfl
  | _, n :: ns, .cons h t => by
    cases h
    rw [TNs.ints t] <;> rfl
theorem TNs.bls : ∀ {vs : List V} {bs : List Bool}, TNs N H vs (bs.map PyData.bool) → vs = bs.map V.bl
  | _, [], .nil => rfl
  | _, n :: ns, .cons h t => by
    cases h
    rw [TNs.bls t] <;> rfl
theorem TNs.ofInts : ∀ (ns : List Int), TNs N H (ns.map V.int) (ns.map PyData.int)
  | [] => .nil
  | n :: ns => .cons (.int n) (TNs.ofInts ns)
end
/-! ### worlds -/
def Fr (N : Addr → Prop) (H : Hp) : Prop := ∀ a, H a = none → N a
structure Up (N : Addr → Prop) (H : Hp) (N' : Addr → Prop) (H' : Hp) : Prop where
  ex : Ex H H'
  tn : ∀ v d, TN N H v d → TN N' H' v d
section
variable {N N1 N2 : Addr → Prop} {H H1 H2 : Hp}
theorem Fr.ext (f : Fr N H) (e : Ex H H1) : Fr N H1 := fun a h => f a (Evl.fresh_back e h)
theorem Up.ext (u : Up N H N1 H1) (e : Ex H1 H2) : Up N H N1 H2 := ⟨u.ex.trans e, fun v d h => (u.tn v d h).mono e⟩
theorem Up.of (e : Ex H H1) : Up N H N H1 := ⟨e, fun _ _ h => h.mono e⟩
theorem Up.refl : Up N H N H := Up.of (Evl.Ex.refl H)
theorem Up.trans (u : Up N H N1 H1) (w : Up N1 H1 N2 H2) : Up N H N2 H2 := ⟨u.ex.trans w.ex, fun v d h => w.tn v d (u.tn v d h)⟩
end
/-- an expression gives the datum d; a test the answer b; arguments the data ds -/
def EvD (N : Addr → Prop) (H : Hp) (te : TE) (σ : L2.St) (d : PyData) : Prop :=
  ∀ N1 H1, Up N H N1 H1 → Fr N1 H1 → ∀ Q : VK, (∀ v H2, Ex H1 H2 → TN N1 H2 v d → Q v H2) → te σ H1 Q
def EvT (N : Addr → Prop) (H : Hp) (t : TT) (σ : L2.St) (b : Bool) : Prop :=
  ∀ N1 H1, Up N H N1 H1 → Fr N1 H1 → ∀ Q : Bool → Hp → Prop, (∀ H2, Ex H1 H2 → Q b H2) → t σ H1 Q
def EvA (N : Addr → Prop) (H : Hp) (ta : TA) (σ : L2.St) (ds : List PyData) : Prop :=
  ∀ N1 H1, Up N H N1 H1 → Fr N1 H1 → ∀ Q : List V → Hp → Prop, (∀ vs H2, Ex H1 H2 → TNs N1 H2 vs ds → Q vs H2) → ta σ H1 Q
def EvO (N : Addr → Prop) (H : Hp) (to : TO) (σ : L2.St) (o : Option Int) : Prop :=
  ∀ N1 H1, Up N H N1 H1 → Fr N1 H1 → ∀ Q : Option Int → Hp → Prop, (∀ H2, Ex H1 H2 → Q o H2) → to σ H1 Q
/-- an operation on data; a call on data; a def's promise on data -/
def RD (r : R2) (d e f : PyData) : Prop :=
  ∀ N H x y, TN N H x d → TN N H y e → Fr N H → ∀ Q : VK, (∀ z H2, Ex H H2 → TN N H2 z f → Q z H2) → r x y H Q
def CD (r : List V → Hp → VK → Prop) (ds : List PyData) (f : PyData) : Prop :=
  ∀ N H vs, TNs N H vs ds → Fr N H → ∀ Q : VK, (∀ z H2, Ex H H2 → TN N H2 z f → Q z H2) → r vs H Q
/-- the promise: data to data -/
def spR (R : List PyData → PyData → Prop) : Sp := fun vs H Q _ => ∃ N ds f, TNs N H vs ds ∧ Fr N H ∧ R ds f ∧ ∀ z H', Ex H H' → TN N H' z f → Q z H'
section
variable {K : PySem.W.Frag} {N : Addr → Prop} {H : Hp} {σ : L2.St} {ta tb te tx : TE} {t u : TT} {x y z v : V} {r : R2} {d e f : PyData} {ds : List PyData}
theorem EvD.up {N1 : Addr → Prop} {H1 : Hp} (w : Up N H N1 H1) (h : EvD N H te σ d) : EvD N1 H1 te σ d := fun N2 H2 w2 => h N2 H2 (w.trans w2)
theorem ed_var {i : Nat} (h : σ[i]? = some (some v)) (tn : TN N H v d) : EvD N H (tVar i) σ d := fun N1 H1 w _ Q q => ⟨v, h, q v H1 (Evl.Ex.refl _) (w.tn v d tn)⟩
theorem ed_int {i : Int} : EvD N H (tC (.int i)) σ (.int i) := fun N1 H1 _ _ Q q => q _ H1 (Evl.Ex.refl _) (.int i)
theorem ed_bl {b : Bool} : EvD N H (tC (.bl b)) σ (.bool b) := fun N1 H1 _ _ Q q => q _ H1 (Evl.Ex.refl _) (.bl b)
theorem ed_op (ha : EvD N H ta σ d) (hb : EvD N H tb σ e) (hr : RD r d e f) : EvD N H (tOp r ta tb) σ f := fun N1 H1 w fr Q q =>
  ha N1 H1 w fr _ fun x H2 e2 tx => hb N1 H2 (w.ext e2) (fr.ext e2) _ fun y H3 e3 ty => hr N1 H3 x y (tx.mono e3) ty ((fr.ext e2).ext e3) Q fun z H4 e4 tz => q z H4 ((e2.trans e3).trans e4) tz
theorem rd_int {g : Int → Int → Int} {i j : Int} : RD (rI0 fun i j => .int (g i j)) (.int i) (.int j) (.int (g i j)) := fun N H x y hx hy _ Q q => by
  cases hx
  cases hy
  exact ⟨i, j, rfl, rfl, q _ H (Evl.Ex.refl _) (.int _)⟩
theorem rd_bool {g : Int → Int → Bool} {i j : Int} : RD (rI0 fun i j => .bl (g i j)) (.int i) (.int j) (.bool (g i j)) := fun N H x y hx hy _ Q q => by
  cases hx
  cases hy
  exact ⟨i, j, rfl, rfl, q _ H (Evl.Ex.refl _) (.bl _)⟩
theorem rd_intC {C : Int → Int → Prop} {g : Int → Int → Int} {i j : Int} (hc : C i j) : RD (rI C fun i j => .int (g i j)) (.int i) (.int j) (.int (g i j)) := fun N H x y hx hy _ Q q => by
  cases hx
  cases hy
  exact ⟨i, j, rfl, rfl, hc, q _ H (Evl.Ex.refl _) (.int _)⟩
theorem rd_eq {i j : Int} : RD rEq (.int i) (.int j) (.bool (i == j)) := fun N H x y hx hy _ Q q => by
  cases hx
  cases hy
  refine ⟨rfl, ?_⟩
  rw [dec_int]
  exact q _ H (Evl.Ex.refl _) (.bl _)
theorem rd_ne {i j : Int} : RD rNe (.int i) (.int j) (.bool (!(i == j))) := fun N H x y hx hy _ Q q => by
  cases hx
  cases hy
  refine ⟨rfl, ?_⟩
  rw [dec_int]
  exact q _ H (Evl.Ex.refl _) (.bl _)
theorem rd_eqD (h1 : SeqAt.shaped d = true) (h2 : SeqAt.shaped e = true) : RD (rEqD K) d e (.bool (PyData.eqv d e)) := fun N H x y hx hy _ Q q => ⟨d, e, hx.dp, hy.dp, h1, h2, q _ H (Evl.Ex.refl _) (.bl _)⟩
theorem rd_inD (h1 : SeqAt.shaped d = true) (h2 : SeqAt.shaped (.list ds) = true) : RD (rInD K) d (.list ds) (.bool (ds.any fun z => PyData.eqv z d)) := fun N H x y hx hy _ Q q => ⟨d, ds, hx.dp, hy.dp, h1, h2, q _ H (Evl.Ex.refl _) (.bl _)⟩
theorem rd_notInD (h1 : SeqAt.shaped d = true) (h2 : SeqAt.shaped (.list ds) = true) : RD (rNotInD K) d (.list ds) (.bool (!ds.any fun z => PyData.eqv z d)) := fun N H x y hx hy _ Q q => ⟨d, ds, hx.dp, hy.dp, h1, h2, q _ H (Evl.Ex.refl _) (.bl _)⟩
theorem new_lst {xs : List V} {p : Addr} (fr : Fr N H) (hp : H p = none) (t : TNs N H xs ds) : TN N (upd H p (.lst xs)) (.ref p) (.list ds) := .lst (fr p hp) upd_same (t.mono (Evl.Ex.new hp))
theorem new_tup {xs : List V} {p : Addr} (fr : Fr N H) (hp : H p = none) (t : TNs N H xs ds) : TN N (upd H p (.tup xs)) (.ref p) (.tuple ds) := .tup (fr p hp) upd_same (t.mono (Evl.Ex.new hp))
theorem rd_cat {ds es : List PyData} (hl : ds.length + es.length ≤ 100000) : RD rCat (.list ds) (.list es) (.list (ds ++ es)) := fun N H x y hx hy fr Q q => by
  cases hx with
  | lst n1 h1 t1 =>
    cases hy with
    | lst n2 h2 t2 =>
      refine ⟨_, _, _, _, rfl, rfl, h1, h2, Evl.sz_of (by rw [t1.length, t2.length]; exact hl), fun p hp => q _ _ (Evl.Ex.new hp) (new_lst fr hp (t1.append t2))⟩
theorem inV_ints (i : Int) : ∀ ns : List Int, inV (.int i) (ns.map V.int) = ns.contains i
  | [] => rfl
  | n :: ns => by
    have ih := inV_ints i ns
    unfold inV at ih ⊢
    rw [List.map_cons, List.any_cons, ih, List.contains_cons]
    have e : eqV (.int n) (.int i) = (i == n) := by
      show (n == i) = (i == n)
      exact BEq.comm
    rw [e]
theorem flat_ints : ∀ ns : List Int, (ns.map V.int).all flatV = true
  | [] => rfl
  | n :: ns => by
    rw [List.map_cons, List.all_cons, flat_ints ns]
    rfl
theorem rd_inT {i : Int} {ns : List Int} : RD (rIn K false) (.int i) (.tuple (ns.map .int)) (.bool (ns.contains i)) := fun N H x y hx hy _ Q q => by
  cases hx
  cases hy with
  | tup n h tt =>
    have e := tt.ints
    subst e
    refine ⟨_, _, rfl, .inr (SqT.of h), rfl, flat_ints ns, ?_⟩
    show Q (.bl (inV (.int i) (ns.map V.int))) H
    rw [inV_ints]
    exact q _ H (Evl.Ex.refl _) (.bl _)
theorem rd_ix {i : Int} (h : atI ds i = some d) : RD (rIxL K) (.list ds) (.int i) d := fun N H x y hx hy _ Q q => by
  cases hy
  cases hx with
  | lst n h1 tt =>
    obtain ⟨j, hj, hd, _⟩ := atI_get h
    obtain ⟨v, hv, tv⟩ := tt.get' hd
    refine ⟨_, _, i, v, rfl, rfl, SqL.of h1, ?_, q _ H (Evl.Ex.refl _) tv⟩
    unfold atI at h ⊢
    rw [tt.length]
    cases e : ixN ds.length i with
    | none => rw [e] at h; exact absurd h (by simp)
    | some k =>
      rw [e] at h
      have h' : ds[k]? = some d := h
      have hjk : j = k := by
        have := (ixN_seq e).1
        rw [hj] at this
        exact Option.some.inj this
      subst hjk
      exact hv
theorem ed_neg {i : Int} (ha : EvD N H ta σ (.int i)) : EvD N H (tUn (rU fun i => .int (-i)) ta) σ (.int (-i)) := fun N1 H1 w fr Q q =>
  ha N1 H1 w fr _ fun x H2 e2 tx => by
    cases tx
    exact ⟨i, rfl, q _ H2 e2 (.int _)⟩
/-! arguments, displays -/
theorem ea_nil : EvA N H tNil σ [] := fun N1 H1 _ _ Q q => q [] H1 (Evl.Ex.refl _) .nil
theorem ea_cons {tr : TA} (h : EvD N H ta σ d) (hr : EvA N H tr σ ds) : EvA N H (tCons ta tr) σ (d :: ds) := fun N1 H1 w fr Q q =>
  h N1 H1 w fr _ fun x H2 e2 tx => hr N1 H2 (w.ext e2) (fr.ext e2) _ fun vs H3 e3 ts => q _ H3 (e2.trans e3) (.cons (tx.mono e3) ts)
theorem ea_1 (h : EvD N H ta σ d) : EvA N H (tCons ta tNil) σ [d] := ea_cons h ea_nil
theorem ea_2 (h : EvD N H ta σ d) (h2 : EvD N H tb σ e) : EvA N H (tCons ta (tCons tb tNil)) σ [d, e] := ea_cons h (ea_1 h2)
theorem ed_lst {tr : TA} (h : EvA N H tr σ ds) (hl : ds.length ≤ 100000) : EvD N H (tLst tr) σ (.list ds) := fun N1 H1 w fr Q q =>
  h N1 H1 w fr _ fun vs H2 e2 ts => ⟨Evl.sz_of (by rw [ts.length]; exact hl), fun p hp => q _ _ (e2.trans (Evl.Ex.new hp)) (new_lst (fr.ext e2) hp ts)⟩
theorem ed_tup {tr : TA} (h : EvA N H tr σ ds) (hl : ds.length ≤ 100000) : EvD N H (tTup tr) σ (.tuple ds) := fun N1 H1 w fr Q q =>
  h N1 H1 w fr _ fun vs H2 e2 ts => ⟨Evl.sz_of (by rw [ts.length]; exact hl), fun p hp => q _ _ (e2.trans (Evl.Ex.new hp)) (new_tup (fr.ext e2) hp ts)⟩
/-! calls -/
theorem ed_cb {r : List V → Hp → VK → Prop} {tr : TA} (h : EvA N H tr σ ds) (hr : CD r ds f) : EvD N H (tCB r tr) σ f := fun N1 H1 w fr Q q =>
  h N1 H1 w fr _ fun vs H2 e2 ts => hr N1 H2 vs ts (fr.ext e2) Q fun z H3 e3 tz => q z H3 (e2.trans e3) tz
theorem ed_call {R : List PyData → PyData → Prop} {E : XK} {tr : TA} (h : EvA N H tr σ ds) (hr : R ds f) : EvD N H (tCall (spR R) [] E tr) σ f := fun N1 H1 w fr Q q =>
  h N1 H1 w fr _ fun vs H2 e2 ts => ⟨N1, ds, f, by rw [List.append_nil]; exact ts, fr.ext e2, hr, fun z H3 e3 tz => q z H3 (e2.trans e3) tz⟩
theorem cd_len : CD (fun xs H Q => ∃ p ys, xs = [.ref p] ∧ (SqL K H p ys ∨ SqT K H p ys) ∧ Q (.int ys.length) H) [.list ds] (.int ds.length) := fun N H vs ts fr Q q => by
  cases ts with
  | cons t t2 =>
    cases t2
    cases t with
    | lst n h tt =>
      refine ⟨_, _, rfl, .inl (SqL.of h), ?_⟩
      rw [tt.length]
      exact q _ H (Evl.Ex.refl _) (.int _)
theorem cd_sum {ns : List Int} : CD (rSum K) [.list (ns.map .int)] (.int ns.sum) := fun N H vs ts fr Q q => by
  cases ts with
  | cons t t2 =>
    cases t2
    cases t with
    | lst n h tt =>
      have e := tt.ints
      subst e
      exact ⟨_, ns, rfl, SqL.of h, q _ H (Evl.Ex.refl _) (.int _)⟩
theorem cd_all {bs : List Bool} : CD (rAll K) [.list (bs.map .bool)] (.bool (bs.all id)) := fun N H vs ts fr Q q => by
  cases ts with
  | cons t t2 =>
    cases t2
    cases t with
    | lst n h tt =>
      have e := tt.bls
      subst e
      exact ⟨_, bs, rfl, SqL.of h, q _ H (Evl.Ex.refl _) (.bl _)⟩
theorem cd_tuple : CD (fun xs H Q => ∃ p ys, xs = [.ref p] ∧ ((SqL K H p ys ∧ ∀ l, H l = none → Q (.ref l) (upd H l (.tup ys))) ∨ (SqT K H p ys ∧ Q (.ref p) H))) [.list ds] (.tuple ds) := fun N H vs ts fr Q q => by
  cases ts with
  | cons t t2 =>
    cases t2
    cases t with
    | lst n h tt => exact ⟨_, _, rfl, .inl ⟨SqL.of h, fun l hl => q _ _ (Evl.Ex.new hl) (new_tup fr hl tt)⟩⟩
/-! slices -/
theorem eo_none : EvO N H tNoPart σ none := fun N1 H1 _ _ _ q => q H1 (Evl.Ex.refl H1)
theorem eo_some {i : Int} (h : EvD N H te σ (.int i)) : EvO N H (tPart te) σ (some i) := fun N1 H1 w fr _ q => h N1 H1 w fr _ fun v H2 e2 tv => by
  cases tv
  exact ⟨i, rfl, q H2 e2⟩
def cutD (ds : List PyData) (lo hi : Option Int) : List PyData := (ds.drop (HT.sIx ds.length 0 lo)).take (HT.sIx ds.length ds.length hi - HT.sIx ds.length 0 lo)
theorem ed_sl {tl th : TO} {lo hi : Option Int} (h : EvD N H te σ (.list ds)) (h1 : EvO N H tl σ lo) (h2 : EvO N H th σ hi) : EvD N H (tSl (rSlL K) te tl th) σ (.list (cutD ds lo hi)) := fun N1 H1 w fr Q q =>
  h N1 H1 w fr _ fun v H2 e2 tv => h1 N1 H2 (w.ext e2) (fr.ext e2) _ fun H3 e3 => h2 N1 H3 ((w.ext e2).ext e3) ((fr.ext e2).ext e3) _ fun H4 e4 => by
    cases tv with
    | lst n ha tt =>
      have ts := tt.mono (e3.trans e4)
      refine ⟨_, _, rfl, SqL.of (e4 _ _ (e3 _ _ ha)), fun p hp => q _ _ (((e2.trans e3).trans e4).trans (Evl.Ex.new hp)) (new_lst (((fr.ext e2).ext e3).ext e4) hp ?_)⟩
      unfold cutV cutD
      rw [ts.length]
      exact (ts.drop _).take _
theorem cut_from (ds : List PyData) (k : Nat) : cutD ds (some (k : Int)) none = ds.drop k := by
  unfold cutD
  rw [HT.sIx_nat, HT.sIx_none]
  by_cases h : k ≤ ds.length
  · rw [Nat.min_eq_left h, List.take_of_length_le (by rw [List.length_drop]; omega)]
  · rw [Nat.min_eq_right (by omega), Nat.sub_self, List.take_zero, List.drop_eq_nil_of_le (by omega)]
theorem cut_to (ds : List PyData) (k : Nat) : cutD ds none (some (k : Int)) = ds.take k := by
  unfold cutD
  rw [HT.sIx_nat, HT.sIx_none, List.drop_zero, Nat.sub_zero]
  by_cases h : k ≤ ds.length
  · rw [Nat.min_eq_left h]
  · rw [Nat.min_eq_right (by omega), List.take_of_length_le (Nat.le_refl _), List.take_of_length_le (by omega)]
/-! tests -/
theorem et_test {b : Bool} (h : EvD N H te σ (.bool b)) : EvT N H (tTest te) σ b := fun N1 H1 w fr _ q => h N1 H1 w fr _ fun v H2 e2 tv => by
  cases tv
  exact ⟨b, rfl, q H2 e2⟩
theorem et_B {b : Bool} (h : EvD N H te σ (.bool b)) : EvT N H (tB te) σ b := fun N1 H1 w fr _ q => h N1 H1 w fr _ fun v H2 e2 tv => by
  cases tv
  exact ⟨b, rfl, q H2 e2⟩
theorem et_not {a : Bool} (h1 : EvT N H t σ a) : EvT N H (tNot t) σ (!a) := fun N1 H1 w fr _ q => h1 N1 H1 w fr _ fun H2 e2 => q H2 e2
theorem et_or {a b : Bool} (h1 : EvT N H t σ a) (h2 : EvT N H u σ b) : EvT N H (tOr t u) σ (a || b) := fun N1 H1 w fr Q q => h1 N1 H1 w fr _ fun H2 e2 => by
  cases a with
  | true =>
    show Q true H2
    exact q H2 e2
  | false =>
    show u σ H2 Q
    exact h2 N1 H2 (w.ext e2) (fr.ext e2) Q fun H3 e3 => q H3 (e2.trans e3)
theorem et_yes : EvT N H tYes σ true := fun N1 H1 _ _ Q q => q H1 (Evl.Ex.refl _)
theorem ed_and {a b : Bool} (h1 : EvD N H ta σ (.bool a)) (h2 : EvD N H tb σ (.bool b)) : EvD N H (tAndV ta tb) σ (.bool (a && b)) := fun N1 H1 w fr Q q => h1 N1 H1 w fr _ fun v H2 e2 tv => by
  cases tv
  refine ⟨a, rfl, ?_⟩
  cases a with
  | true =>
    show tb σ H2 Q
    exact h2 N1 H2 (w.ext e2) (fr.ext e2) Q fun z H3 e3 tz => q z H3 (e2.trans e3) tz
  | false =>
    show Q (.bl false) H2
    exact q _ H2 e2 (.bl false)
theorem ed_if {b : Bool} (h : EvT N H t σ b) (h1 : b = true → EvD N H ta σ d) (h2 : b = false → EvD N H tb σ d) : EvD N H (tIf t ta tb) σ d := fun N1 H1 w fr Q q => h N1 H1 w fr _ fun H2 e2 => by
  cases b with
  | true =>
    show ta σ H2 Q
    exact h1 rfl N1 H2 (w.ext e2) (fr.ext e2) Q fun v H3 e3 tv => q v H3 (e2.trans e3) tv
  | false =>
    show tb σ H2 Q
    exact h2 rfl N1 H2 (w.ext e2) (fr.ext e2) Q fun v H3 e3 tv => q v H3 (e2.trans e3) tv
theorem ed_is (h : EvD N H te σ d) (h2 : d = e) : EvD N H te σ e := h2 ▸ h
theorem et_is {a b : Bool} (h : EvT N H t σ a) (h2 : a = b) : EvT N H t σ b := h2 ▸ h
/-! comprehensions -/
theorem lc_turn {N1 : Addr → Prop} {Hb H' : Hp} {D : Addr} {σ2 : L2.St} {acc : List V} {Nx : Hp → Prop} {b : Bool} (hD : Hb D = none) (eH : Ex Hb H') (hacc : H' D = some (.lst acc)) (ta : TNs (fun a => N1 a ∧ a ≠ D) H' acc ds)
    (hz : acc.length < 50000) (fr : Fr N1 Hb) (ht : EvT (fun a => N1 a ∧ a ≠ D) H' t σ2 b) (he : b = true → EvD (fun a => N1 a ∧ a ≠ D) H' te σ2 d)
    (k1 : b = true → ∀ H4 y, Ex Hb H4 → H4 D = some (.lst acc) → TNs (fun a => N1 a ∧ a ≠ D) (upd H4 D (.lst (acc ++ [y]))) (acc ++ [y]) (ds ++ [d]) → Ex Hb (upd H4 D (.lst (acc ++ [y]))) → Nx (upd H4 D (.lst (acc ++ [y]))))
    (k2 : b = false → ∀ H3, Ex Hb H3 → H3 D = some (.lst acc) → TNs (fun a => N1 a ∧ a ≠ D) H3 acc ds → Nx H3) :
    t σ2 H' fun b H3 => if b = true then te σ2 H3 fun y H4 => ∃ acc, H4 D = some (.lst acc) ∧ acc.length < sizeLine ∧ Nx (upd H4 D (.lst (acc ++ [y]))) else Nx H3 := by
  have fr' : Fr (fun a => N1 a ∧ a ≠ D) H' := fun a h => ⟨fr a (Evl.fresh_back eH h), fun z => by
    subst z
    rw [hacc] at h
    cases h⟩
  refine ht _ H' Up.refl fr' _ fun H3 e3 => ?_
  cases b with
  | true =>
    show te σ2 H3 fun y H4 => ∃ acc, H4 D = some (.lst acc) ∧ acc.length < sizeLine ∧ Nx (upd H4 D (.lst (acc ++ [y])))
    refine he rfl _ H3 (Up.of e3) (fr'.ext e3) _ fun y H4 e4 ty => ?_
    have e34 := e3.trans e4
    refine ⟨acc, e34 _ _ hacc, Evl.sz_lt (by omega), k1 rfl H4 y (eH.trans e34) (e34 _ _ hacc) ?_ (Evl.Ex.mut (eH.trans e34) hD)⟩
    exact ((ta.mono e34).append (.cons ty .nil)).upd fun a h => h.2
  | false =>
    show Nx H3
    exact k2 rfl H3 (eH.trans e3) (e3 _ _ hacc) (ta.mono e3)
theorem Up.off {N1 : Addr → Prop} {H1 H' : Hp} {D : Addr} (w : Up N H N1 H1) (hD : H1 D = none) (e : Ex H1 H') : Up N H (fun a => N1 a ∧ a ≠ D) H' :=
  ⟨w.ex.trans e, fun v d h => (w.tn v d h).map fun a o n q _ => ⟨⟨n, ne_of_none q hD⟩, e a o q⟩⟩
theorem TN.off {N1 : Addr → Prop} {H1 H' : Hp} {D : Addr} (h : TN N1 H1 v d) (hD : H1 D = none) (e : Ex H1 H') : TN (fun a => N1 a ∧ a ≠ D) H' v d := h.map fun a o n q _ => ⟨⟨n, ne_of_none q hD⟩, e a o q⟩
theorem take_plus {α : Type} {us : List α} {x : α} {i : Nat} (q : us[i]? = some x) : us.take (i + 1) = us.take i ++ [x] := by rw [List.take_add_one, q]; rfl
theorem ed_lc {tl : TE} {j : Nat} {vs : List Nat} (p : PyData → Bool) (g : PyData → PyData) (h : EvD N H tl σ (.list ds)) (hz : ds.length ≤ 40000) (hw : ∀ x, wipe ((wipe σ vs).set j (some x)) vs = wipe σ vs)
    (ht : ∀ N1 H1, Up N H N1 H1 → ∀ d ∈ ds, ∀ x, TN N1 H1 x d → EvT N1 H1 t ((wipe σ vs).set j (some x)) (p d))
    (he : ∀ N1 H1, Up N H N1 H1 → ∀ d ∈ ds, ∀ x, TN N1 H1 x d → p d = true → EvD N1 H1 te ((wipe σ vs).set j (some x)) (g d)) :
    EvD N H (tLc (iList K tl) (gName j) t te vs) σ (.list ((ds.filter p).map g)) := fun N1 H1 w fr Q q => h N1 H1 w fr _ fun v H2 e2 tv => by
  cases tv with
  | lst n ha tt =>
    rename_i a xs
    refine ⟨a, rfl, ⟨xs, SqL.of ha⟩, fun D hD => ?_⟩
    refine lc_list (xs := xs) (fun i H' => Ex H2 H' ∧ ∃ acc, H' D = some (.lst acc) ∧ TNs (fun a => N1 a ∧ a ≠ D) H' acc (((ds.take i).filter p).map g)) ⟨Evl.Ex.new hD, [], upd_same, .nil⟩ (fun i H' _ pv => SqL.of (pv.1 _ _ ha)) (fun i x H' hi pv => ?_) (fun H' pv => ?_)
    · obtain ⟨eH, acc, hacc, tacc⟩ := pv
      obtain ⟨d, hd, td⟩ := tt.get hi
      have hm : d ∈ ds := List.mem_of_getElem? hd
      have up := (w.ext e2).off hD eH
      have tx : TN (fun a => N1 a ∧ a ≠ D) H' x d := td.off hD eH
      have hlt : i < ds.length := (List.getElem?_eq_some_iff.mp hd).1
      have hal : acc.length < 50000 := by
        rw [tacc.length, List.length_map]
        have := List.length_filter_le p (ds.take i)
        rw [List.length_take] at this
        omega
      refine ⟨hw x, lc_turn hD eH hacc tacc hal (fr.ext e2) (ht _ H' up d hm x tx) (fun hp => he _ H' up d hm x tx hp) (fun hp H4 y _ h4 t4 e4 => ⟨e4, _, upd_same, ?_⟩) (fun hp H3 e3 h3 t3 => ⟨e3, acc, h3, ?_⟩)⟩
      · rw [take_plus hd, List.filter_append, List.map_append, List.filter_cons, if_pos hp]
        exact t4
      · rw [take_plus hd, List.filter_append, List.map_append, List.filter_cons, if_neg (by rw [hp]; exact Bool.false_ne_true)]
        rw [List.filter_nil, List.map_nil, List.append_nil]
        exact t3
    · obtain ⟨eH, acc, hacc, tacc⟩ := pv
      have el : xs.length = ds.length := tt.length
      rw [el, List.take_length] at tacc
      exact q _ H' (e2.trans eH) (.lst (fr D (Evl.fresh_back e2 hD)) hacc (tacc.map fun a o n q _ => ⟨n.1, q⟩))
theorem ed_lcR {tr : TA} {j : Nat} {vs : List Nat} {n : Int} (p : Nat → Bool) (g : Nat → PyData) (h : EvA N H tr σ [.int n]) (hn : 0 ≤ n ∧ n ≤ 40000) (hw : ∀ x, wipe ((wipe σ vs).set j (some x)) vs = wipe σ vs)
    (ht : ∀ N1 H1, Up N H N1 H1 → ∀ i : Nat, (i : Int) < n → EvT N1 H1 t ((wipe σ vs).set j (some (.int (i : Int)))) (p i))
    (he : ∀ N1 H1, Up N H N1 H1 → ∀ i : Nat, (i : Int) < n → p i = true → EvD N1 H1 te ((wipe σ vs).set j (some (.int (i : Int)))) (g i)) :
    EvD N H (tLc (iRng1 tr) (gName j) t te vs) σ (.list (((List.range n.toNat).filter p).map g)) := fun N1 H1 w fr Q q => h N1 H1 w fr _ fun us H2 e2 ts => by
  cases ts with
  | cons t1 t2 =>
    cases t2
    cases t1
    refine ⟨n, rfl, by omega, by omega, fun D hD => ?_⟩
    refine lc_range (lo := 0) (n := n.toNat) (fun i H' => Ex H2 H' ∧ ∃ acc, H' D = some (.lst acc) ∧ TNs (fun a => N1 a ∧ a ≠ D) H' acc (((List.range i).filter p).map g)) ⟨Evl.Ex.new hD, [], upd_same, .nil⟩ (fun i H' hi pv => ?_) (fun H' pv => ?_)
    · obtain ⟨eH, acc, hacc, tacc⟩ := pv
      have up := (w.ext e2).off hD eH
      have hal : acc.length < 50000 := by
        rw [tacc.length, List.length_map]
        have := List.length_filter_le p (List.range i)
        rw [List.length_range] at this
        omega
      have e0 : (0 : Int) + (i : Int) = (i : Int) := Int.zero_add _
      show wipe ((wipe σ vs).set j (some (.int ((0 : Int) + (i : Int))))) vs = wipe σ vs ∧ _
      rw [e0]
      refine ⟨hw _, lc_turn hD eH hacc tacc hal (fr.ext e2) (ht _ H' up i (by omega)) (fun hp => he _ H' up i (by omega) hp) (fun hp H4 y _ h4 t4 e4 => ⟨e4, _, upd_same, ?_⟩) (fun hp H3 e3 h3 t3 => ⟨e3, acc, h3, ?_⟩)⟩
      · rw [List.range_succ, List.filter_append, List.map_append, List.filter_cons, if_pos hp]
        exact t4
      · rw [List.range_succ, List.filter_append, List.map_append, List.filter_cons, if_neg (by rw [hp]; exact Bool.false_ne_true)]
        rw [List.filter_nil, List.map_nil, List.append_nil]
        exact t3
    · obtain ⟨eH, acc, hacc, tacc⟩ := pv
      exact q _ H' (e2.trans eH) (.lst (fr D (Evl.fresh_back e2 hD)) hacc (tacc.map fun a o n q _ => ⟨n.1, q⟩))
/-! statements -/
variable {D : Ends} {tu tw tz : TS}
theorem s_ret (fr : Fr N H) (h : EvD N H te σ d) (k : ∀ v H1, Ex H H1 → TN N H1 v d → D.rt v H1) : tRet te D σ H := h N H Up.refl fr _ k
theorem s_asg {i : Nat} (fr : Fr N H) (h : EvD N H te σ d) (k : ∀ v H1, Ex H H1 → TN N H1 v d → D.nx (σ.set i (some v)) H1) : tAsg te (gName i) D σ H := h N H Up.refl fr _ k
theorem s_if {b : Bool} (fr : Fr N H) (h : EvT N H t σ b) (h1 : b = true → ∀ H1, Ex H H1 → tu D σ H1) (h2 : b = false → ∀ H1, Ex H H1 → tw D σ H1) : tIfS t tu tw D σ H := h N H Up.refl fr _ fun H1 e => by
  cases b with
  | true =>
    show tu D σ H1
    exact h1 rfl H1 e
  | false =>
    show tw D σ H1
    exact h2 rfl H1 e
theorem q_if {b : Bool} (fr : Fr N H) (h : EvT N H t σ b) (h1 : b = true → ∀ H1, Ex H H1 → tu { D with nx := tz D } σ H1) (h2 : b = false → ∀ H1, Ex H H1 → tw { D with nx := tz D } σ H1) : tSeq (tIfS t tu tw) tz D σ H := s_if (D := { D with nx := tz D }) fr h h1 h2
theorem q_when {b : Bool} (fr : Fr N H) (h : EvT N H t σ b) (h1 : b = true → ∀ H1, Ex H H1 → tu { D with nx := tz D } σ H1) (h2 : b = false → ∀ H1, Ex H H1 → tz D σ H1) : tSeq (tIfS t tu tNext) tz D σ H := s_if (D := { D with nx := tz D }) fr h h1 h2
theorem q_asg {i : Nat} (fr : Fr N H) (h : EvD N H te σ d) (k : ∀ v H1, Ex H H1 → TN N H1 v d → tz D (σ.set i (some v)) H1) : tSeq (tAsg te (gName i)) tz D σ H := s_asg (D := { D with nx := tz D }) fr h k
end
end Lk
namespace Lk
open PySem PySem.Spec PyProof.Rows L2
/-! list(it), it an iterator that is its own iterator and tells no length: here reversed(xs) -/
section
variable {pr : Program} {wo : World} {R0 : Around} {Ex0 : Value → Shared → Prop} {st : Shared}
/-- what a built-in's tree must come to, so that its code gives Rw -/
abbrev Comes (pr : Program) (wo : World) (R0 : Around) (Rw : Result → Shared → Prop) (tr : Sem Fin) (st : Shared) : Prop :=
  wpAny (model pr wo) R0.in1 tr (fun fin x => match fin with
    | .done y => Rw (.ok y) x
    | .again y => y.quiet = true ∧ codeAny (model pr wo) R0 y Rw x) (fun y x => Rw (.error y) x) st
/-- where the new list lies, what the iterator and its list are -/
structure Rv (h : Heap) (at_ it src : Addr) (xs : Array Value) : Prop where
  iter : h.IsRevIter it src ((xs.size : Int) - 1)
  list : h.IsList src xs
  n1 : src ≠ it
  n2 : at_ ≠ it
  n3 : at_ ≠ src
  few : xs.size ≤ sizeLine
theorem Rv.other {h h' : Heap} {p it src : Addr} {xs : Array Value} (r : Rv h p it src xs) (same : ∀ b o, b ≠ p → h.get? b = some o → h'.get? b = some o) : Rv h' p it src xs :=
  ⟨r.iter.at fun o e => same _ o r.n2.symm e, r.list.at fun o e => same _ o r.n3.symm e, r.n1, r.n2, r.n3, r.few⟩
/-- all but the new list and the iterator stays; the new list has the items from the end -/
abbrev RevEnd (h : Heap) (p it : Addr) (xs : Array Value) (k : Heap → Nat → Prop) : Prop :=
  ∀ (h' : Heap) (tk : Nat) (acc : Array Value) (c : Nat), (∀ b o, b ≠ p → b ≠ it → h.get? b = some o → h'.get? b = some o) → h'.get? p = some { cls := .type "list", dict := none, data := .seq acc c, slots := #[] } →
    ItemsOf (fun i v => xs[xs.size - 1 - i]? = some v) acc xs.size → k h' tk
theorem comes_ext {Rw : Result → Shared → Prop} {p it src : Addr} {xs : Array Value} {v : Value} {c : Nat} (free : R0.handled = none) (r : Rv st.heap p it src xs) (new : st.heap.get? p = some { cls := .type "list", data := .seq #[] c })
    (k : RevEnd st.heap p it xs fun h' tk => Rw (.ok (.ret v)) { st with heap := h', toks := tk }) : Comes pr wo R0 Rw (Builtin.List.listExtendWith (.ref p) (.ref it) v) st := by
  have wk := (Walks.listRev (A := R0.in1) (prog := pr) (w := wo) free it src r.n1 xs).toS
  have out : p ∉ [it, src] := fun m => (List.mem_cons.mp m).elim r.n2 fun m => r.n3 (List.mem_singleton.mp m)
  have ty : st.TypeIs (.ref it) "list_reverseiterator" := r.iter.typeIs
  have no : Builtin.List.listSameRef (.ref p) (.ref it) = false := by simp [Builtin.List.listSameRef, r.n2]
  unfold Builtin.List.listExtendWith; refine wpAny_bind (wpAny_typeOf ty ?_); rw [if_neg (by rw [no]; decide)]
  refine wpAny_bind (wpAny_pyIter_revIter r.iter (wpAny_bind (wpAny_holding ?_)))
  unfold Builtin.List.listLengthHint; refine wpAny_bind (wpAny_specialOf ty RT.nolen_lri ?_)
  show wpAny _ R0.in1 (specialOf _ (Str.ofString "__length_hint__") >>= _) _ _ _; refine wpAny_bind (wpAny_specialOf ty RT.hint_lri ?_)
  generalize e : ("list_reverseiterator.__length_hint__" : String) = word; wp_delta
  rw [show splitId word = some ("list_reverseiterator", "__length_hint__") by rw [← e]; decide +kernel]; subst e
  refine wpAny_bind (wpAny_isInstance (b := true) ty (by rw [isSubtype_type]; kernel_rfl) (wpAny_pure ?_)); rw [if_neg (by decide)]
  have e0 : (xs.size : Int) - 1 - ((0 : Nat) : Int) = (xs.size : Int) - 1 := Int.sub_zero _
  refine wpAny_pure ⟨plainId_quiet F.plain_extend_loop _, codeAny_extend_loopS wk r.few p out v xs.size 0 _ _ _ rfl (Nat.zero_le _) ⟨Nat.zero_le _, by rw [e0]; exact r.iter, r.list⟩ new (ItemsOf.nil _) fun x acc c' mv at' its => ?_⟩
  rw [Moved.eq_with mv]
  exact k x.heap x.toks acc c' (fun b o b1 b2 q => mv.heap b o (fun m => (List.mem_cons.mp m).elim b1 fun m => b2 (List.mem_singleton.mp m)) q) at' its
theorem comes_init {Rw : Result → Shared → Prop} {p it src : Addr} {xs : Array Value} (free : R0.handled = none) (r : Rv st.heap p it src xs) (new : st.heap.get? p = some { cls := .type "list", data := .seq #[] })
    (k : RevEnd st.heap p it xs fun h' tk => Rw (.ok (.ret .none)) { st with heap := h', toks := tk }) : Comes pr wo R0 Rw (Builtin.«list.__init__» ⟨[.ref p, .ref it], []⟩) st := by
  have rest : ∀ b o, b ≠ p → st.heap.get? b = some o → (st.heap.update p (Obj.mapSeq fun _ => #[])).get? b = some o := fun b o n q => (Heap.get?_update_other _ _ n.symm).trans q
  have go : Comes pr wo R0 Rw (Builtin.List.listItems (.ref p) >>= fun old => Builtin.List.listUpdate (.ref p) (fun _ => #[]) >>= fun _ => letGo old.toList.reverse >>= fun _ => Builtin.List.listExtendWith (.ref p) (.ref it) .none) st := by
    unfold Builtin.List.listItems; refine wpAny_bind (wpAny_bind (wpAny_seqItems new rfl (wpAny_pure (wpAny_bind ?_))))
    refine wpAny_updateSeq new rfl (wpAny_bind (wpAny_letGo (comes_ext (st := { st with heap := st.heap.update p (Obj.mapSeq fun _ => #[]) }) free (r.other rest) (Heap.get?_update_self (Obj.mapSeq fun _ => #[]) new rfl) ?_)))
    exact fun h' tk acc c a1 a2 a3 => k h' tk acc c (fun b o b1 b2 q => a1 b o b1 b2 (rest b o b1 q)) a2 a3
  exact go
theorem list_reversed {it src : Addr} {xs : Array Value} {Q : Value → Shared → Prop} (free : R0.handled = none) (i1 : st.heap.IsRevIter it src ((xs.size : Int) - 1)) (i2 : st.heap.IsList src xs) (ne : src ≠ it) (few : xs.size ≤ sizeLine)
    (k : ∀ h' tk acc c, (∀ b o, b ≠ it → st.heap.get? b = some o → h'.get? b = some o) → h'.get? st.heap.objs.size = some { cls := .type "list", dict := none, data := .seq acc c, slots := #[] } → ItemsOf (fun i v => xs[xs.size - 1 - i]? = some v) acc xs.size → Q (.ref st.heap.objs.size) { st with heap := h', toks := tk }) :
    wpAny (model pr wo) R0 (call (.type "list") [.ref it]) Q Ex0 st := by
  let more : Shared := { st with heap := st.heap.push { cls := .type "list", data := .seq #[] } }
  refine callType_codes (Q₁ := fun ob x => ob = .ref st.heap.objs.size ∧ x = more) F.called_list (F.typeCall_list_1 _) F.entry_list_init (code_list_new _ ⟨rfl, rfl⟩) fun ob x hx => ?_
  obtain ⟨e1, e2⟩ := hx
  subst e1 e2
  have new : more.heap.get? st.heap.objs.size = some { cls := .type "list", data := .seq #[] } := Heap.get?_push_size _ rfl
  have l1 : it < st.heap.objs.size := let ⟨_, q, _⟩ := i1; Heap.lt_size q
  have l2 : src < st.heap.objs.size := let ⟨_, q, _⟩ := i2; Heap.lt_size q
  refine ⟨⟨_, new, rfl⟩, F.args_list_init_2 _ _, comes_init (st := more) (R0 := R0.in1) free ⟨i1.at fun o q => Heap.get?_push_of_some _ q, i2.push _, ne, Nat.ne_of_gt l1, Nat.ne_of_gt l2, few⟩ new fun h' tk acc c a1 a2 a3 => ?_⟩
  exact ⟨rfl, k h' tk acc c (fun b o nb q => a1 b o (Nat.ne_of_lt (Heap.lt_size q)) nb (Heap.get?_push_of_some _ q)) a2 a3⟩
end
section
variable {X : Cx}
/-- list(reversed(x)), x a list: a new list -/
def tListRev (K : PySem.W.Frag) (te : TE) : TE := fun σ H Q => te σ H fun y H1 => ∃ (p : Addr) (ys : List V), y = .ref p ∧ SqL K H1 p ys ∧ ∀ n, H1 n = none → Q (.ref n) (upd H1 n (.lst ys.reverse))
theorem pe_listRev {e : Expr} {te : TE} {p1 p2 q1 q2 : Pos} (calm : X.calm = true) (g1 : Gl X "list") (m1 : X.mg "list" = none) (g2 : Gl X "reversed") (m2 : X.mg "reversed" = none) (he : PE X e te)
    (s1 : starEach [e] X.env = (false, eval e X.env) :: starEach [] X.env := by rfl) (s2 : starEach [.Call (.Name "reversed" p2) [e] [] q2] X.env = (false, eval (.Call (.Name "reversed" p2) [e] [] q2) X.env) :: starEach [] X.env := by rfl) :
    PE X (.Call (.Name "list" p1) [.Call (.Name "reversed" p2) [e] [] q2] [] q1) (tListRev X.K te) := ⟨fun pins sh σ H Q I h => by
  have inner : ∀ (u : Value) (x : Shared), EP X pins σ (fun y H1 => ∃ (p : Addr) (ys : List V), y = .ref p ∧ SqL X.K H1 p ys ∧ ∀ n, H1 n = none → Q (.ref n) (upd H1 n (.lst ys.reverse))) u x →
      wpAny (model X.prog X.w) X.A (call (.type "reversed") [u]) (fun v x' => wpAny (model X.prog X.w) X.A (call (.type "list") [v]) (EP X pins σ Q) X.xe x') X.xe x := fun u x ⟨y, H1, J, ry, p, ys, ey, hl, k⟩ => by
    subst ey
    cases (show u = Value.ref p from ry)
    obtain ⟨its, rv, pl, few⟩ := J.list hl
    have isl := pl.isList
    have lp : p < x.heap.objs.size := let ⟨_, q, _⟩ := isl; Heap.lt_size q
    refine call_reversed_list isl (list_reversed (J.ok.hd calm) ⟨_, Heap.get?_push_size _ rfl, rfl, rfl⟩ (isl.push _) (Nat.ne_of_lt lp) (by rw [List.size_toArray, ← rv.length]; exact few) fun h' tk acc c a1 a2 a3 => ?_)
    have sz := Heap.size_push x.heap (revObj p ((its.toArray.size : Int) - 1))
    rw [sz] at a2 ⊢
    refine ⟨.ref (x.heap.objs.size + 1), upd H1 (x.heap.objs.size + 1) (.lst ys.reverse), J.laid (t' := tk) (fun b o q => a1 b o (Nat.ne_of_lt (Heap.lt_size q)) (Heap.get?_push_of_some _ q)) (Nat.le_succ _) ?_, rfl, k _ (J.hok.fresh (Nat.le_succ _))⟩
    show ObjOk X.prog X.w _ _ _ (.lst ys.reverse)
    exact ⟨by rw [List.length_reverse]; exact few, acc.toList, c, RT.vals_rev rv a3, by rw [Array.toArray_toList]; exact a2⟩
  exact Call_ (ld_blt I g1 m1 boot_list (callWith_type1 (args_cons (Call_ (ld_blt I g2 m2 boot_reversed (callWith_type1 (args_cons (thn (he.run pins sh σ H _ I h) fun u x q => args_nil (thn (inner u x q) fun v x' z => args_nil z)) s1) s1 rfl))) s2) s2 rfl))⟩
/-! x > y, min(xs), xs.count(x) of data -/
def rGtD (K : PySem.W.Frag) : R2 := fun x y H Q => ∃ d e, Dp K H x d ∧ Dp K H y e ∧ PySem.W.alike d e = true ∧ d ≠ .none ∧ d.depth ≤ 64 ∧ Q (.bl (PySem.W.dataLt e d)) H
theorem op_gtD (room : X.A.units + 64 < cLine) : OpR X (compareOp .Gt) (rGtD X.K) := fun pins sh σ H x y vx vy Q J rx ry ⟨d, e, hd, he, al, nn, deep, q⟩ => by
  obtain ⟨_, r1⟩ := Dp.reads J d x vx hd rx
  obtain ⟨_, r2⟩ := Dp.reads J e y vy he ry
  have := Nat.min_le_left d.depth e.depth
  exact PySem.W.gt_data r1 r2 al nn (by omega) ⟨.bl _, H, J, rfl, q⟩
theorem plainAll_mem : ∀ {ds : List PyData} {d : PyData}, PyData.plainAll ds = true → d ∈ ds → d.plain = true
  | y :: ys, d, h, m => by
    have two : y.plain = true ∧ PyData.plainAll ys = true := by simpa [PyData.plainAll] using h
    exact (List.mem_cons.mp m).elim (fun e => e ▸ two.1) fun m => plainAll_mem two.2 m
def rMinD (K : PySem.W.Frag) : List V → Hp → VK → Prop := fun vs H Q => ∃ (a : Addr) (xs : List V) (d : PyData) (ds : List PyData), vs = [V.ref a] ∧ SqL K H a xs ∧ DpAll K H xs (d :: ds) ∧ PySem.W.AlikeAll (d :: ds) ∧ PyData.plainAll (d :: ds) = true ∧ PyData.depthAll (d :: ds) ≤ 32 ∧
  ∀ (i : Nat) (x : V), xs[i]? = some x → (d :: ds)[i]? = some (PySem.W.minD d ds) → Q x H
theorem cr_minD (calm : X.calm = true) (room : X.A.units + 64 < cLine) : CallR X (.builtin "min") (rMinD X.K) := fun pins sh σ H vs us Q J rel ⟨a, xs, d, ds, ev, hs, hd, al, pl, deep, q⟩ => by
  subst ev
  obtain ⟨items, rv, isl, _⟩ := J.list hs
  rw [Vals.ref1 rel]
  obtain ⟨ads, hr⟩ := Dp.readsAll J (d :: ds) xs items hd rv
  refine PySem.W.min_list_data (vs := items.toArray) (J.ok.hd calm) isl.isList (by simpa using hr) al (by omega) fun i v h' tk _ hi rd kept => ?_
  have here : items[i]? = some v := by simpa using hi
  obtain ⟨x, hx⟩ : ∃ x, xs[i]? = some x := ⟨_, List.getElem?_eq_getElem (by rw [rv.length]; exact (List.getElem?_eq_some_iff.mp here).1)⟩
  obtain ⟨v', hv', rx⟩ := rv.get hx
  obtain rfl : v = v' := Option.some.inj (here.symm.trans hv')
  have e1 : (d :: ds)[i]? = some (SeqAt.readOf sh.heap v) := by
    rw [← SeqAt.readsAll_map_plain (d :: ds) items ads pl hr, List.getElem?_map, here]; rfl
  obtain ⟨_, rd0, _⟩ := PySem.W.readsAll_atA (vs := items.toArray) (by simpa using hr) i v hi
  rw [List.getD_eq_getElem?_getD, e1] at rd0
  have e2 := SeqAt.plain_unique _ _ v _ _ (plainAll_mem pl (List.mem_of_getElem? e1)) (PySem.W.reads_keeps kept rd0) rd
  exact ⟨x, H, J.kept kept, rx, q i x hx (e1.trans (congrArg some e2))⟩
def rCntD (K : PySem.W.Frag) : V → List V → Hp → VK → Prop := fun x xs H Q => ∃ (y : V) (d : PyData) (ds : List PyData), xs = [y] ∧ Dp K H x (.list ds) ∧ Dp K H y d ∧ PyData.plainAll ds = true ∧ d.plain = true ∧ d.depth ≤ 32 ∧
  Q (.int ((ds.countP fun y => PyData.eqv y d : Nat) : Int)) H
theorem mt_countD (room : X.A.units + 64 < cLine) : MtR X "list.count" (rCntD X.K) := fun pins sh σ H x xs v us Q J rx rs ⟨y, d, ds, ev, hx, hy, pl, pd, deep, q⟩ => by
  subst ev
  obtain ⟨u, eu, ry⟩ := Vals.one rs
  subst eu
  cases hx with
  | lst sq all =>
    cases (show v = Value.ref _ from rx)
    obtain ⟨items, rv, isl, _⟩ := J.list sq
    obtain ⟨_, hr⟩ := Dp.readsAll J ds _ items all rv
    obtain ⟨_, r2⟩ := Dp.reads J d y u hy ry
    have := Nat.min_le_right (PyData.depthAll ds) d.depth
    exact SeqAt.count_list_data (vs := items.toArray) isl.isList (by simpa using hr) r2 pl pd (by omega) ⟨.int _, H, J.tok _, ⟨_, rfl⟩, q⟩
end
/-! ### the same, on data -/
section
variable {K : PySem.W.Frag} {N : Addr → Prop} {H : Hp} {σ : L2.St} {ta tb te : TE} {d e : PyData} {ds : List PyData}
theorem ed_listRev (h : EvD N H te σ (.list ds)) : EvD N H (tListRev K te) σ (.list ds.reverse) := fun N1 H1 w fr Q q => h N1 H1 w fr _ fun v H2 e2 tv => by
  cases tv with
  | lst n ha tt => exact ⟨_, _, rfl, SqL.of ha, fun p hp => q _ _ (e2.trans (Evl.Ex.new hp)) (new_lst (fr.ext e2) hp tt.reverse)⟩
theorem rd_gtD (al : PySem.W.alike d e = true) (nn : d ≠ .none) (dp : d.depth ≤ 64) : RD (rGtD K) d e (.bool (PySem.W.dataLt e d)) := fun N H x y hx hy _ Q q => ⟨d, e, hx.dp, hy.dp, al, nn, dp, q _ H (Evl.Ex.refl _) (.bl _)⟩
theorem cd_min (al : PySem.W.AlikeAll (d :: ds)) (pl : PyData.plainAll (d :: ds) = true) (dp : PyData.depthAll (d :: ds) ≤ 32) : CD (rMinD K) [.list (d :: ds)] (PySem.W.minD d ds) := fun N H vs ts fr Q q => by
  cases ts with
  | cons t t2 =>
    cases t2
    cases t with
    | lst n h tt =>
      refine ⟨_, _, d, ds, rfl, SqL.of h, tt.dp, al, pl, dp, fun i x hx hd => ?_⟩
      obtain ⟨d', hd', td⟩ := tt.get hx
      rw [hd] at hd'
      cases hd'
      exact q x H (Evl.Ex.refl _) td
/-- a method of a list, with one argument -/
theorem ed_bm1 {r : V → List V → Hp → VK → Prop} {f : PyData} (ha : EvD N H ta σ (.list ds)) (hb : EvD N H tb σ e) (hr : ∀ N H x y, TN N H x (.list ds) → TN N H y e → ∀ Q : VK, (∀ z H2, Ex H H2 → TN N H2 z f → Q z H2) → r x [y] H Q) :
    EvD N H (tBM K "list" r ta (tCons tb tNil)) σ f := fun N1 H1 w fr Q q => ha N1 H1 w fr _ fun x H2 e2 tx => ⟨by
  cases tx with
  | lst n h tt => exact .inl ⟨rfl, _, SqL.of h⟩, hb N1 H2 (w.ext e2) (fr.ext e2) _ fun y H3 e3 ty => hr N1 H3 x y (tx.mono e3) ty Q fun z H4 e4 tz => q z H4 ((e2.trans e3).trans e4) tz⟩
theorem md_count (pl : PyData.plainAll ds = true) (pd : d.plain = true) (dp : d.depth ≤ 32) (ha : EvD N H ta σ (.list ds)) (hb : EvD N H tb σ d) : EvD N H (tBM K "list" (rCntD K) ta (tCons tb tNil)) σ (.int ((ds.countP fun y => PyData.eqv y d : Nat) : Int)) :=
  ed_bm1 ha hb fun N H x y tx ty Q q => ⟨y, d, ds, rfl, tx.dp, ty.dp, pl, pd, dp, q _ H (Evl.Ex.refl _) (.int _)⟩
theorem md_countI {ns : List Int} {k : Int} (ha : EvD N H ta σ (.list (ns.map .int))) (hb : EvD N H tb σ (.int k)) : EvD N H (tBM K "list" (rCntI K) ta (tCons tb tNil)) σ (.int (ns.count k : Nat)) :=
  ed_bm1 ha hb fun N H x y tx ty Q q => by
    cases ty
    cases tx with
    | lst n h tt =>
      have e := tt.ints
      subst e
      exact ⟨_, ns, k, rfl, rfl, SqL.of h, q _ H (Evl.Ex.refl _) (.int _)⟩
theorem md_index {j : Nat} {z : PyData} (s1 : SeqAt.shaped (.list ds) = true) (s2 : SeqAt.shaped d = true) (hj : ds[j]? = some z) (hz : PyData.eqv z d = true) (hno : ∀ (m : Nat) (z' : PyData), m < j → ds[m]? = some z' → PyData.eqv z' d = false)
    (ha : EvD N H ta σ (.list ds)) (hb : EvD N H tb σ d) : EvD N H (tBM K "list" (rIndexD K) ta (tCons tb tNil)) σ (.int (j : Nat)) :=
  ed_bm1 ha hb fun N H x y tx ty Q q => by
    cases tx with
    | lst n h tt => exact ⟨_, y, d, ds, j, z, rfl, rfl, (TN.lst n h tt).dp, ty.dp, s1, s2, hj, hz, hno, q _ H (Evl.Ex.refl _) (.int _)⟩
end
end Lk
namespace Lk
open PySem PySem.Spec PyProof.Rows L2
/-! ### words as data -/
def dI (n : Nat) : PyData := .int (n : Int)
def dW (w : List Nat) : PyData := .list (w.map dI)
def dWs (ws : List (List Nat)) : PyData := .list (ws.map dW)
theorem dW_ints (w : List Nat) : dW w = .list ((w.map fun (x : Nat) => (x : Int)).map .int) := by
  unfold dW dI
  rw [List.map_map]
  rfl
theorem lay_I : ∀ w : List Nat, PyData.canLayAll0 (w.map dI) = true
  | [] => by simp [PyData.canLayAll0]
  | x :: w => by
    rw [List.map_cons]
    simp only [PyData.canLayAll0, lay_I w, dI, PyData.canLay0, Bool.and_self]
theorem lay_W (w : List Nat) : (dW w).canLay0 = true := by
  unfold dW
  simp only [PyData.canLay0]
  exact lay_I w
theorem lay_Ws : ∀ ws : List (List Nat), PyData.canLayAll0 (ws.map dW) = true
  | [] => by simp [PyData.canLayAll0]
  | w :: ws => by
    rw [List.map_cons]
    simp only [PyData.canLayAll0, lay_Ws ws, lay_W w, Bool.and_self]
theorem depth_I : ∀ w : List Nat, PyData.depthAll (w.map dI) ≤ 0
  | [] => by simp [PyData.depthAll]
  | x :: w => by
    have := depth_I w
    rw [List.map_cons]
    simp only [PyData.depthAll, dI, PyData.depth]
    omega
theorem depth_W (w : List Nat) : (dW w).depth ≤ 1 := by
  have := depth_I w
  unfold dW
  simp only [PyData.depth]
  omega
theorem depth_Ws : ∀ ws : List (List Nat), PyData.depthAll (ws.map dW) ≤ 1
  | [] => by simp [PyData.depthAll]
  | w :: ws => by
    have h1 := depth_Ws ws
    have h2 := depth_W w
    rw [List.map_cons]
    simp only [PyData.depthAll]
    omega
theorem shaped_W (w : List Nat) : SeqAt.shaped (dW w) = true := by
  have := depth_W w
  show ((dW w).canLay0 && decide ((dW w).depth ≤ 64)) = true
  rw [lay_W, decide_eq_true (by omega)]
  rfl
theorem shaped_Ws (ws : List (List Nat)) : SeqAt.shaped (.list (ws.map dW)) = true := by
  have h1 := depth_Ws ws
  have h2 : PyData.depth (.list (ws.map dW)) ≤ 64 := by
    simp only [PyData.depth]
    omega
  show (PyData.canLay0 (.list (ws.map dW)) && decide (PyData.depth (.list (ws.map dW)) ≤ 64)) = true
  rw [decide_eq_true h2, Bool.and_true]
  simp only [PyData.canLay0]
  exact lay_Ws ws
theorem plain_W (w : List Nat) : (dW w).plain = true := PyData.plain_of_canLay0 _ (lay_W w)
theorem plain_Ws (ws : List (List Nat)) : PyData.plainAll (ws.map dW) = true := PyData.plainAll_of_canLay0 _ (lay_Ws ws)
theorem alike_I : ∀ w u : List Nat, PySem.W.alikeAll (w.map dI) (u.map dI) = true
  | [], _ => by simp [PySem.W.alikeAll]
  | _ :: _, [] => by simp [PySem.W.alikeAll]
  | x :: w, y :: u => by
    rw [List.map_cons, List.map_cons]
    simp only [PySem.W.alikeAll, alike_I w u, dI, PySem.W.alike, Bool.and_self]
theorem alike_W (w u : List Nat) : PySem.W.alike (dW w) (dW u) = true := by
  unfold dW
  simp only [PySem.W.alike]
  exact alike_I w u
theorem alike_Ws (ws : List (List Nat)) : PySem.W.AlikeAll (ws.map dW) := ⟨fun x hx y hy => by
  obtain ⟨w, _, rfl⟩ := List.mem_map.mp hx
  obtain ⟨u, _, rfl⟩ := List.mem_map.mp hy
  exact alike_W w u, fun x hx => by
  obtain ⟨w, _, rfl⟩ := List.mem_map.mp hx
  exact fun z => nomatch z⟩
theorem eqv_I : ∀ w u : List Nat, PyData.eqvAll (w.map dI) (u.map dI) = (w == u)
  | [], [] => by simp [PyData.eqvAll]
  | [], _ :: _ => by simp [PyData.eqvAll]
  | _ :: _, [] => by simp [PyData.eqvAll]
  | x :: w, y :: u => by
    have ih := eqv_I w u
    rw [List.map_cons, List.map_cons, PySem.W.eqv_all_cons, ih]
    have e : PyData.eqv (dI x) (dI y) = (x == y) := by
      show ((x : Int) == (y : Int)) = (x == y)
      by_cases h : x = y
      · rw [h]; simp
      · rw [beq_eq_false_iff_ne.mpr h, beq_eq_false_iff_ne.mpr (by omega)]
    rw [e]
    rfl
theorem eqv_W (w u : List Nat) : PyData.eqv (dW w) (dW u) = (w == u) := by
  unfold dW
  simp only [PyData.eqv]
  exact eqv_I w u
theorem any_W (w : List Nat) (ws : List (List Nat)) : ((ws.map dW).any fun z => PyData.eqv z (dW w)) = ws.contains w := by
  rw [List.any_map]
  induction ws with
  | nil => rfl
  | cons u ws ih =>
    rw [List.any_cons, ih, List.contains_cons]
    show (PyData.eqv (dW u) (dW w) || _) = _
    rw [eqv_W, BEq.comm]
theorem count_W (w : List Nat) (ws : List (List Nat)) : ((ws.map dW).countP fun z => PyData.eqv z (dW w)) = ws.countP fun u => u == w := by
  rw [List.countP_map]
  refine List.countP_congr fun u _ => ?_
  show PyData.eqv (dW u) (dW w) = true ↔ _
  rw [eqv_W]
/-! x < y of words of one length -/
theorem lt_I : ∀ w u : List Nat, w.length = u.length → PyProof.Rows.lexLt PyProof.Rows.itemOrd (PySem.W.keyToksAll (w.map dI)) (PySem.W.keyToksAll (u.map dI)) = Kqi3.before w u
  | [], [], _ => by simp [PySem.W.keyToksAll, PyProof.Rows.lexLt, Kqi3.before, PyProof.Rows.itemLt]
  | [], _ :: _, h => by simp at h
  | _ :: _, [], h => by simp at h
  | x :: w, y :: u, h => by
    have ih := lt_I w u (by simpa using h)
    rw [List.map_cons, List.map_cons, PySem.W.toks_all_cons, PySem.W.toks_all_cons]
    rw [PyProof.Rows.lex_self (O := PyProof.Rows.itemOrd)]
    show PyProof.Rows.lexLt PyProof.Rows.itemOrd (Sum.inl (x : Int) :: PySem.W.keyToksAll (w.map dI)) (Sum.inl (y : Int) :: PySem.W.keyToksAll (u.map dI)) = (decide (x < y) || (x == y && Kqi3.before w u))
    by_cases e : x = y
    · subst e
      rw [PyProof.Rows.lex_self (O := PyProof.Rows.itemOrd), ih]
      simp
    · rw [PyProof.Rows.lex_diff (O := PyProof.Rows.itemOrd) (fun q => e (by have := Sum.inl.inj q; omega))]
      rw [beq_eq_false_iff_ne.mpr e, Bool.false_and, Bool.or_false]
      show decide ((x : Int) < (y : Int)) = _
      by_cases l : x < y
      · rw [decide_eq_true l, decide_eq_true (by omega)]
      · rw [decide_eq_false l, decide_eq_false (by omega)]
theorem lt_W (w u : List Nat) (h : w.length = u.length) : PySem.W.dataLt (dW w) (dW u) = Kqi3.before w u := by
  unfold PySem.W.dataLt dW
  simp only [PySem.W.keyToks]
  exact lt_I w u h
/-- the first of a row of words, as Python's min finds it -/
def minW (x : List Nat) (xs : List (List Nat)) : List Nat := xs.foldl (fun a y => if Kqi3.before y a then y else a) x
theorem min_W (n : Nat) : ∀ (xs : List (List Nat)) (x : List Nat), x.length = n → (∀ y ∈ xs, y.length = n) → PySem.W.minD (dW x) (xs.map dW) = dW (minW x xs)
  | [], x, _, _ => rfl
  | y :: xs, x, hx, h => by
    have hy := h y (by simp)
    have ih := min_W n xs (if Kqi3.before y x then y else x) (by split <;> assumption) (fun z hz => h z (by simp [hz]))
    show PySem.W.minD (if PySem.W.dataLt (dW y) (dW x) then dW y else dW x) (xs.map dW) = dW (minW (if Kqi3.before y x then y else x) xs)
    rw [← ih, lt_W y x (by rw [hx, hy])]
    cases Kqi3.before y x <;> rfl
end Lk
namespace Lk
open Kqi3 (net gain words closing own kinds kindsAll way ways first names leaves handed sides begun opposite period fixed closes)
/-! ### the mathematics: what the program reckons is what is due -/
def pm (x : Nat) : Int := if x = 1 then 1 else -1
theorem net_fold : ∀ (w : List Nat) (a : Nat) (s : Int), s % 3 = (a : Int) % 3 → (s + (w.map pm).sum) % 3 = ((w.foldl (fun a x => a + gain x) a : Nat) : Int) % 3
  | [], a, s, h => by
    show (s + 0) % 3 = _
    rw [Int.add_zero]
    exact h
  | x :: w, a, s, h => by
    have ih := net_fold w (a + gain x) (s + pm x) (by
      unfold pm gain
      by_cases e : x = 1
      · rw [if_pos e, if_pos e]
        omega
      · rw [if_neg e, if_neg e]
        omega)
    rw [List.map_cons, List.sum_cons, ← Int.add_assoc, ih]
    rfl
theorem net_py (w : List Nat) : (w.map pm).sum % 3 = ((net w : Nat) : Int) := by
  have h := net_fold w 0 0 rfl
  rw [Int.zero_add] at h
  rw [h]
  show ((Kqi3.sum w : Nat) : Int) % 3 = ((Kqi3.sum w % 3 : Nat) : Int)
  omega
def Bits (w : List Nat) : Prop := ∀ x ∈ w, x ≤ 1
theorem words_mem : ∀ (n : Nat) (w : List Nat), w ∈ words n → w.length = n ∧ Bits w
  | 0, w, h => by
    have e : w = [] := by simpa [words] using h
    subst e
    exact ⟨rfl, fun x hx => by cases hx⟩
  | n + 1, w, h => by
    rcases List.mem_append.mp h with h | h
    · obtain ⟨u, hu, rfl⟩ := List.mem_map.mp h
      obtain ⟨l, b⟩ := words_mem n u hu
      exact ⟨by rw [List.length_cons, l], fun x hx => by
        rcases List.mem_cons.mp hx with e | hx
        · omega
        · exact b x hx⟩
    · obtain ⟨u, hu, rfl⟩ := List.mem_map.mp h
      obtain ⟨l, b⟩ := words_mem n u hu
      exact ⟨by rw [List.length_cons, l], fun x hx => by
        rcases List.mem_cons.mp hx with e | hx
        · omega
        · exact b x hx⟩
theorem words_len : ∀ n, (words n).length = 2 ^ n
  | 0 => rfl
  | n + 1 => by
    show ((words n).map _ ++ (words n).map _).length = _
    rw [List.length_append, List.length_map, List.length_map, words_len n, Nat.pow_succ]
    omega
theorem closing_mem {n : Nat} {w : List Nat} (h : w ∈ closing n) : w ∈ words n ∧ closes w = true := List.mem_filter.mp h
theorem own_mem {n : Nat} {w : List Nat} (h : w ∈ own n) : w ∈ closing n := (List.mem_filter.mp h).1
theorem kinds_mem {n : Nat} {w : List Nat} (h : w ∈ kinds n) : w ∈ own n := (List.mem_filter.mp h).1
theorem kindsAll_mem {n : Nat} {w : List Nat} (h : w ∈ kindsAll n) : w ∈ closing n := (List.mem_filter.mp h).1
theorem begun_len (w : List Nat) (k : Nat) : (begun w k).length = w.length := by
  unfold Kqi3.begun
  rw [List.length_append, List.length_drop, List.length_take]
  omega
theorem way_len (w : List Nat) (t : Nat) : (way w t).length = w.length := by
  unfold Kqi3.way
  dsimp only
  split <;> split <;> simp [Kqi3.opposite, begun_len]
theorem begun_bits {w : List Nat} (h : Bits w) (k : Nat) : Bits (begun w k) := fun x hx => by
  rcases List.mem_append.mp hx with hx | hx
  · exact h x (List.mem_of_mem_drop hx)
  · exact h x (List.mem_of_mem_take hx)
theorem opp_bits (w : List Nat) : Bits (opposite w) := fun x hx => by
  obtain ⟨y, _, rfl⟩ := List.mem_map.mp hx
  omega
theorem way_bits {w : List Nat} (h : Bits w) (t : Nat) : Bits (way w t) := by
  unfold Kqi3.way
  dsimp only
  have b := begun_bits h (t % w.length)
  split <;> split <;> intro x hx <;> first | exact opp_bits _ x hx | exact b x hx | exact opp_bits _ x (List.mem_reverse.mp hx) | exact b x (List.mem_reverse.mp hx)
theorem ways_mem {w u : List Nat} (h : u ∈ ways w) : u.length = w.length ∧ (Bits w → Bits u) := by
  obtain ⟨t, _, rfl⟩ := List.mem_map.mp h
  exact ⟨way_len w t, fun b => way_bits b t⟩
theorem ways_len (w : List Nat) : (ways w).length = 4 * w.length := by
  unfold Kqi3.ways
  rw [List.length_map, List.length_range]
theorem opp_py {w : List Nat} (h : Bits w) : w.map (fun (x : Nat) => (1 : Int) - (x : Int)) = (opposite w).map fun (x : Nat) => (x : Int) := by
  unfold Kqi3.opposite
  rw [List.map_map]
  refine List.map_congr_left fun x hx => ?_
  have := h x hx
  show (1 : Int) - (x : Int) = ((1 - x : Nat) : Int)
  omega
/-- way t as the program tells it -/
def wayP (w : List Nat) (t : Nat) : List Nat :=
  let v := begun w (t % w.length)
  let v := if t / w.length = 1 ∨ t / w.length = 3 then opposite v else v
  if t / w.length = 2 ∨ t / w.length = 3 then v.reverse else v
theorem way_py {w : List Nat} {t : Nat} (h1 : 1 ≤ w.length) (h8 : w.length ≤ 8) (ht : t < 4 * w.length) : wayP w t = way w t := by
  unfold wayP Kqi3.way
  dsimp only
  generalize begun w (t % w.length) = v
  generalize hn : w.length = n at *
  have a1 : (t / n = 1 ∨ t / n = 3) ↔ t / n % 2 = 1 := by
    rcases (by omega : n = 1 ∨ n = 2 ∨ n = 3 ∨ n = 4 ∨ n = 5 ∨ n = 6 ∨ n = 7 ∨ n = 8) with e | e | e | e | e | e | e | e <;> subst e <;> omega
  have a2 : (t / n = 2 ∨ t / n = 3) ↔ 2 * n ≤ t := by
    rcases (by omega : n = 1 ∨ n = 2 ∨ n = 3 ∨ n = 4 ∨ n = 5 ∨ n = 6 ∨ n = 7 ∨ n = 8) with e | e | e | e | e | e | e | e <;> subst e <;> omega
  simp only [a1, a2]
/-- positions -/
def poss (w : List Nat) : List Nat := (List.range w.length).map fun k => net (w.take k)
def ownP (w : List Nat) : Bool := closes w && !((List.range (w.length - 1)).map fun i => begun (poss w) (i + 1)).contains (poss w)
def minOf : List (List Nat) → List Nat
  | [] => []
  | x :: xs => minW x xs
def clnP (w : List Nat) : Nat := ((List.range w.length).filter fun k => !(w.getD k 0 == w.getD (if k = 0 then w.length - 1 else k - 1) 0)).length
theorem leaves_py (w : List Nat) : (ways w).countP (fun u => u == w) = (leaves w).length := by
  unfold Kqi3.ways Kqi3.leaves
  rw [List.countP_map, List.countP_eq_length_filter]
  rfl
theorem ups_py (w : List Nat) : (w.map fun (x : Nat) => (x : Int)).count 1 = (w.filter fun x => x == 1).length := by
  rw [List.count_eq_countP, List.countP_map, List.countP_eq_length_filter]
  refine congrArg List.length (List.filter_congr fun x _ => ?_)
  show ((x : Int) == 1) = (x == 1)
  by_cases h : x = 1
  · rw [h]; rfl
  · rw [beq_eq_false_iff_ne.mpr h, beq_eq_false_iff_ne.mpr (by omega)]
theorem kinds_py (n : Nat) : (kindsAll n).filter (fun w => (own n).contains w) = kinds n := by
  unfold Kqi3.kindsAll Kqi3.kinds
  have e : own n = (closing n).filter fun w => period w == n := rfl
  rw [List.filter_filter]
  conv => rhs; rw [e, List.filter_filter]
  refine List.filter_congr fun w hw => ?_
  have a : (own n).contains w = (period w == n) := by
    rw [Bool.eq_iff_iff, List.contains_iff_mem, e, List.mem_filter]
    exact ⟨fun h => h.2, fun h => ⟨hw, h⟩⟩
  rw [a, Bool.and_comm]
/-! nodup lists with the same members have one length -/
theorem len_le_of_sub {α : Type} [DecidableEq α] : ∀ {l m : List α}, l.Nodup → (∀ x ∈ l, x ∈ m) → l.length ≤ m.length
  | [], m, _, _ => Nat.zero_le _
  | x :: l, m, h, hs => by
    have hx := hs x (by simp)
    have h' := List.nodup_cons.mp h
    have ih := len_le_of_sub (l := l) (m := m.erase x) h'.2 fun y hy => by
      have ne : y ≠ x := fun e => h'.1 (e ▸ hy)
      exact (List.mem_erase_of_ne ne).mpr (hs y (by simp [hy]))
    rw [List.length_erase_of_mem hx] at ih
    have : 0 < m.length := List.length_pos_of_mem hx
    rw [List.length_cons]
    omega
/-! ### what is reckoned for 1 to 8 steps -/
def all8 (p : Nat → Bool) : Bool := (List.range 8).all fun m => p (m + 1)
theorem of_all8 {p : Nat → Bool} (h : all8 p = true) {n : Nat} (h1 : 1 ≤ n) (h8 : n ≤ 8) : p n = true := by
  have := List.all_eq_true.mp h (n - 1) (List.mem_range.mpr (by omega))
  rw [Nat.sub_add_cancel h1] at this
  exact this
end Lk
namespace Lk
open Kqi3 (net gain words closing own kinds kindsAll way ways first names leaves handed sides begun opposite period fixed closes)
theorem own_k : all8 (fun n => (words n).all fun w => ownP w == (closes w && (period w == n))) = true := by decide +kernel
theorem first_k : all8 (fun n => (closing n).all fun w => minOf (ways w) == first w) = true := by decide +kernel
theorem find_k : all8 (fun n => (own n).all fun w => (kinds n).contains (first w)) = true := by decide +kernel
theorem sides_k : all8 (fun n => (kinds n).all fun w => clnP w == sides w) = true := by decide +kernel
theorem handed_k : all8 (fun n => (kinds n).all fun w => (!((ways w).drop (2 * w.length)).contains w) == handed w) = true := by decide +kernel
theorem names_k : all8 (fun n => (kinds n).all fun w => decide (names w).Nodup && (names w).all (fun u => (ways w).contains u) && (ways w).all fun u => (names w).contains u) = true := by decide +kernel
theorem sum_k : all8 (fun n => ((closing n).map fun w => (leaves w).length).sum == (((List.range (4 * n)).map (fixed n)).foldl (· + ·) 0 : Nat)) = true := by decide +kernel
theorem firstlen_k : all8 (fun n => (closing n).all fun w => (first w).length == n) = true := by decide +kernel
end Lk
namespace Lk
open PySem PySem.Spec PyProof.Rows L2
section
variable {K : PySem.W.Frag} {N : Addr → Prop} {H : Hp} {σ : L2.St} {ta tb te tx : TE} {t u : TT} {x y z v : V} {r : R2} {d e f : PyData} {ds : List PyData}
theorem TNs.one {vs : List V} (h : TNs N H vs [d]) : ∃ v, vs = [v] ∧ TN N H v d := by
  cases h with
  | cons h t =>
    cases t
    exact ⟨_, rfl, h⟩
theorem TNs.two {vs : List V} (h : TNs N H vs [d, e]) : ∃ v u, vs = [v, u] ∧ TN N H v d ∧ TN N H u e := by
  cases h with
  | cons h t =>
    obtain ⟨u, rfl, hu⟩ := t.one
    exact ⟨_, u, rfl, h, hu⟩
theorem TNs.three {vs : List V} (h : TNs N H vs [d, e, f]) : ∃ v u w, vs = [v, u, w] ∧ TN N H v d ∧ TN N H u e ∧ TN N H w f := by
  cases h with
  | cons h t =>
    obtain ⟨u, w, rfl, hu, hw⟩ := t.two
    exact ⟨_, u, w, rfl, h, hu, hw⟩
theorem ed_lcM {α : Type} {xs : List α} {c : α → PyData} {tl : TE} {j : Nat} {vs : List Nat} (p : α → Bool) (g : α → PyData) (h : EvD N H tl σ (.list (xs.map c))) (hz : xs.length ≤ 40000) (hw : ∀ x, wipe ((wipe σ vs).set j (some x)) vs = wipe σ vs)
    (ht : ∀ N1 H1, Up N H N1 H1 → ∀ a ∈ xs, ∀ x, TN N1 H1 x (c a) → EvT N1 H1 t ((wipe σ vs).set j (some x)) (p a))
    (he : ∀ N1 H1, Up N H N1 H1 → ∀ a ∈ xs, ∀ x, TN N1 H1 x (c a) → p a = true → EvD N1 H1 te ((wipe σ vs).set j (some x)) (g a)) :
    EvD N H (tLc (iList K tl) (gName j) t te vs) σ (.list ((xs.filter p).map g)) := fun N1 H1 w fr Q q => h N1 H1 w fr _ fun v H2 e2 tv => by
  cases tv with
  | lst n ha tt =>
    rename_i a us
    refine ⟨a, rfl, ⟨us, SqL.of ha⟩, fun D hD => ?_⟩
    refine lc_list (xs := us) (fun i H' => Ex H2 H' ∧ ∃ acc, H' D = some (.lst acc) ∧ TNs (fun a => N1 a ∧ a ≠ D) H' acc (((xs.take i).filter p).map g)) ⟨Evl.Ex.new hD, [], upd_same, .nil⟩ (fun i H' _ pv => SqL.of (pv.1 _ _ ha)) (fun i x H' hi pv => ?_) (fun H' pv => ?_)
    · obtain ⟨eH, acc, hacc, tacc⟩ := pv
      obtain ⟨d, hd, td⟩ := tt.get hi
      rw [List.getElem?_map] at hd
      obtain ⟨b, hb, rfl⟩ := Option.map_eq_some_iff.mp hd
      have hm : b ∈ xs := List.mem_of_getElem? hb
      have up := (w.ext e2).off hD eH
      have tx : TN (fun a => N1 a ∧ a ≠ D) H' x (c b) := td.off hD eH
      have hlt : i < xs.length := (List.getElem?_eq_some_iff.mp hb).1
      have hal : acc.length < 50000 := by
        rw [tacc.length, List.length_map]
        have := List.length_filter_le p (xs.take i)
        rw [List.length_take] at this
        omega
      refine ⟨hw x, lc_turn hD eH hacc tacc hal (fr.ext e2) (ht _ H' up b hm x tx) (fun hp => he _ H' up b hm x tx hp) (fun hp H4 y _ h4 t4 e4 => ⟨e4, _, upd_same, ?_⟩) (fun hp H3 e3 h3 t3 => ⟨e3, acc, h3, ?_⟩)⟩
      · rw [take_plus hb, List.filter_append, List.map_append, List.filter_cons, if_pos hp]
        exact t4
      · rw [take_plus hb, List.filter_append, List.map_append, List.filter_cons, if_neg (by rw [hp]; exact Bool.false_ne_true)]
        rw [List.filter_nil, List.map_nil, List.append_nil]
        exact t3
    · obtain ⟨eH, acc, hacc, tacc⟩ := pv
      have el : us.length = xs.length := by
        rw [tt.length, List.length_map]
      rw [el, List.take_length] at tacc
      exact q _ H' (e2.trans eH) (.lst (fr D (Evl.fresh_back e2 hD)) hacc (tacc.map fun a o n q _ => ⟨n.1, q⟩))
/-- without a test -/
theorem ed_lcA {α : Type} {xs : List α} {c : α → PyData} {tl : TE} {j : Nat} {vs : List Nat} (g : α → PyData) (h : EvD N H tl σ (.list (xs.map c))) (hz : xs.length ≤ 40000) (hw : ∀ x, wipe ((wipe σ vs).set j (some x)) vs = wipe σ vs)
    (he : ∀ N1 H1, Up N H N1 H1 → ∀ a ∈ xs, ∀ x, TN N1 H1 x (c a) → EvD N1 H1 te ((wipe σ vs).set j (some x)) (g a)) :
    EvD N H (tLc (iList K tl) (gName j) tYes te vs) σ (.list (xs.map g)) := by
  have h := ed_lcM (K := K) (fun _ => true) g h hz hw (fun N1 H1 _ a _ x _ => et_yes) (fun N1 H1 u a ha x hx _ => he N1 H1 u a ha x hx)
  rw [List.filter_eq_self.mpr (fun _ _ => rfl)] at h
  exact h
theorem ed_lcRA {tr : TA} {j : Nat} {vs : List Nat} {n : Nat} (g : Nat → PyData) (h : EvA N H tr σ [.int (n : Int)]) (hn : n ≤ 40000) (hw : ∀ x, wipe ((wipe σ vs).set j (some x)) vs = wipe σ vs)
    (he : ∀ N1 H1, Up N H N1 H1 → ∀ i : Nat, i < n → EvD N1 H1 te ((wipe σ vs).set j (some (.int (i : Int)))) (g i)) :
    EvD N H (tLc (iRng1 tr) (gName j) tYes te vs) σ (.list ((List.range n).map g)) := by
  have h := ed_lcR (fun _ => true) g h (by omega) hw (fun N1 H1 _ i _ => et_yes) (fun N1 H1 u i hi _ => he N1 H1 u i (by omega))
  rw [List.filter_eq_self.mpr (fun _ _ => rfl), Int.toNat_natCast] at h
  exact h
/-- range(a, b) -/
theorem ed_lcR2 {tr : TA} {j : Nat} {vs : List Nat} {lo n : Nat} (g : Nat → PyData) (h : EvA N H tr σ [.int (lo : Int), .int (n : Int)]) (hn : lo ≤ 40000 ∧ n ≤ 40000) (hw : ∀ x, wipe ((wipe σ vs).set j (some x)) vs = wipe σ vs)
    (he : ∀ N1 H1, Up N H N1 H1 → ∀ i : Nat, i < n - lo → EvD N1 H1 te ((wipe σ vs).set j (some (.int ((lo + i : Nat) : Int)))) (g i)) :
    EvD N H (tLc (iRng2 tr) (gName j) tYes te vs) σ (.list ((List.range (n - lo)).map g)) := fun N1 H1 w fr Q q => h N1 H1 w fr _ fun us H2 e2 ts => by
  obtain ⟨v1, v2, rfl, t1, t2⟩ := ts.two
  cases t1
  cases t2
  refine ⟨lo, n, rfl, ⟨by omega, by omega, by omega, by omega⟩, fun D hD => ?_⟩
  have en : ((n : Int) - (lo : Int)).toNat = n - lo := by omega
  rw [en]
  refine lc_range (lo := (lo : Int)) (n := n - lo) (fun i H' => Ex H2 H' ∧ ∃ acc, H' D = some (.lst acc) ∧ TNs (fun a => N1 a ∧ a ≠ D) H' acc ((List.range i).map g)) ⟨Evl.Ex.new hD, [], upd_same, .nil⟩ (fun i H' hi pv => ?_) (fun H' pv => ?_)
  · obtain ⟨eH, acc, hacc, tacc⟩ := pv
    have up := (w.ext e2).off hD eH
    have hal : acc.length < 50000 := by
      rw [tacc.length, List.length_map, List.length_range]
      omega
    have e0 : (lo : Int) + (i : Int) = ((lo + i : Nat) : Int) := by omega
    show wipe ((wipe σ vs).set j (some (.int ((lo : Int) + (i : Int))))) vs = wipe σ vs ∧ _
    rw [e0]
    refine ⟨hw _, lc_turn hD eH hacc tacc hal (fr.ext e2) et_yes (fun _ => he _ H' up i hi) (fun hp H4 y _ h4 t4 e4 => ⟨e4, _, upd_same, ?_⟩) (fun hp H3 e3 h3 t3 => by cases hp)⟩
    rw [List.range_succ, List.map_append]
    exact t4
  · obtain ⟨eH, acc, hacc, tacc⟩ := pv
    exact q _ H' (e2.trans eH) (.lst (fr D (Evl.fresh_back e2 hD)) hacc (tacc.map fun a o n q _ => ⟨n.1, q⟩))
end
/-! ### the program's text; what its names stand for -/
def top (i : Nat) : Stmt := PySem.Challenge.pw_layerkinds_s01_answers.main.body.getD i (.Pass ⟨0, 0, 0, 0⟩)
structure Blt (mg : Str → Option Value) : Prop where
  len : mg "len" = none
  all : mg "all" = none
  sum : mg "sum" = none
  range : mg "range" = none
  list : mg "list" = none
  reversed : mg "reversed" = none
  min : mg "min" = none
  sorted : mg "sorted" = none
  set : mg "set" = none
  tuple : mg "tuple" = none
/-- a def of the program's that keeps its promise, by its name -/
structure Df (P : Program) (w : World) (K : PySem.W.Frag) (mg : Str → Option Value) (base : Heap) (k : Nat) (x : Str) (ps : List Str) (sp : Sp) (f : Addr) (fd : FuncData) : Prop where
  ok : FnOk P w K mg base CX0 k f fd ps sp
  mg : mg x = some (.ref f)
  kp : PySem.W.keepIn K (.ref f) = true
  b : Binds K fd ps []
section
variable {P : Program} {w : World} {K : PySem.W.Frag} {mg : Str → Option Value} {base : Heap}
open Kqi3 (net)
/-! ### position_behind -/
abbrev sPos : Stmt := top 3
theorem scPos : FnScope ["steps", "step"] ["steps"] (defScope sPos) := ⟨rfl, rfl, rfl, by decide +kernel, rfl, by decide +kernel, by decide +kernel⟩
def RPos (ds : List PyData) (f : PyData) : Prop := ∃ w : List Nat, w.length ≤ 1000 ∧ ds = [dW w] ∧ f = dI (net w)
theorem ok_pos {f : Addr} {fd : FuncData} (F : Fun K "position_behind" "position_behind" sPos f fd) (B : Blt mg) : FnOk P w K mg base CX0 1 f fd ["steps"] (spR RPos) := by
  refine F.ok scPos (fun vs H Q E h => ?_) (fun cdv A outer s H vs Q E hr h => ?_)
  · obtain ⟨N, ds, f, ts, fr, ⟨w, hw, rfl, rfl⟩, k⟩ := h
    exact ts.length
  · obtain ⟨N, ds, f, ts, fr, ⟨w, hw, rfl, rfl⟩, k⟩ := h
    obtain ⟨v, rfl, tv⟩ := ts.one
    refine ⟨_, pss_one (ps_ret (pe_op op_mod (pe_callB (cr_sum rfl) (by rfl) B.sum (by decide +kernel) (pa_cons (pe_lc (own := [("step", 1)]) (g := gName 1) (tt := tYes) rfl scPos.nd (pi_list (pv 0))
      (blkOk_by (own := [("step", 1)]) (N := ["steps", "step"]) (sc := defScope sPos) (by decide +kernel)) (fun _ _ _ _ _ => pg_name (i := 1) scPos.nd rfl (Or.inl rfl)) (fun _ _ _ _ _ => pts_nil)
      (fun _ _ _ _ _ => pe_ifExp (pt_cmpR op_eq (pv 1) pe_int (nomark _)) pe_int (pe_un un_neg pe_int))) pa_nil)) pe_int)), ?_⟩
    have hl : EvD N H (tLc (iList K (tVar 0)) (gName 1) tYes (tIf (tTest (tOp rEq (tVar 1) (tC (.int 1)))) (tC (.int 1)) (tUn (rU fun i => .int (-i)) (tC (.int 1)))) [1]) [some v, none] (.list ((w.map pm).map .int)) := by
      rw [List.map_map]
      refine ed_lcA (c := dI) _ (ed_var rfl tv) (by omega) (fun _ => rfl) fun N1 H1 up a ha x tx => ?_
      refine ed_if (b := (((a : Nat) : Int) == 1)) (et_test (ed_op (ed_var rfl tx) ed_int rd_eq)) (fun hb => ed_is ed_int ?_) (fun hb => ed_is (ed_neg ed_int) ?_)
      · have e : a = 1 := by
          have := beq_iff_eq.mp hb
          omega
        show PyData.int 1 = PyData.int (pm a)
        unfold pm
        rw [if_pos e]
      · have e : ¬ a = 1 := fun z => by
          subst z
          exact absurd hb (by decide)
        show PyData.int (-1) = PyData.int (pm a)
        unfold pm
        rw [if_neg e]
    refine s_ret fr (ed_is (ed_op (ed_cb (ea_1 hl) cd_sum) ed_int (rd_intC (by show (0 : Int) < 3; decide))) ?_) k
    show PyData.int ((w.map pm).sum % 3) = PyData.int _
    rw [net_py]
end
end Lk
namespace Lk
open PySem PySem.Spec PyProof.Rows L2
open Kqi3 (net words closing own kinds kindsAll way ways first names leaves handed sides begun opposite closes)
section
variable {P : Program} {w : World} {K : PySem.W.Frag} {mg : Str → Option Value} {base : Heap}
theorem cut_from' {α : Type} (c : α → PyData) (ds : List α) (k : Nat) : cutD (ds.map c) (some (k : Int)) none = (ds.drop k).map c := by rw [cut_from, List.map_drop]
theorem cut_to' {α : Type} (c : α → PyData) (ds : List α) (k : Nat) : cutD (ds.map c) none (some (k : Int)) = (ds.take k).map c := by rw [cut_to, List.map_take]
theorem hu65 {k : Nat} {A : Around} (hr : Room k A) : A.units + 65 < cLine := by
  have := hr.un
  omega
theorem hu64 {k : Nat} {A : Around} (hr : Room k A) : A.units + 64 < cLine := by
  have := hr.un
  omega
theorem set_self {σ : L2.St} {i : Nat} {v : V} (h : σ[i]? = some (some v)) : σ.set i (some v) = σ := by
  apply List.ext_getElem?
  intro j
  rw [List.getElem?_set]
  by_cases e : i = j
  · subst e
    rw [if_pos rfl, h]
    have := (List.getElem?_eq_some_iff.mp h).1
    rw [if_pos this]
  · rw [if_neg e]
theorem q_ifAsg {N : Addr → Prop} {H : Hp} {σ : L2.St} {t : TT} {te : TE} {D : Ends} {tz : TS} {b : Bool} {i : Nat} {d : PyData} (fr : Fr N H) (h : EvT N H t σ b) (h1 : b = true → EvD N H te σ d) (h2 : b = false → ∃ v, σ[i]? = some (some v) ∧ TN N H v d)
    (k : ∀ v H1, Ex H H1 → TN N H1 v d → tz D (σ.set i (some v)) H1) : tSeq (tIfS t (tAsg te (gName i)) tNext) tz D σ H :=
  q_when fr h (fun hb H1 e1 => s_asg (fr.ext e1) ((h1 hb).up (Up.of e1)) fun v H2 e2 tv => k v H2 (e1.trans e2) tv) (fun hb H1 e1 => by
    obtain ⟨v, hv, tv⟩ := h2 hb
    have g := k v H1 e1 (tv.mono e1)
    rw [set_self hv] at g
    exact g)
/-! ### closes -/
abbrev sClo : Stmt := top 4
theorem scClo : FnScope ["word"] ["word"] (defScope sClo) := ⟨rfl, rfl, rfl, by decide +kernel, rfl, by decide +kernel, by decide +kernel⟩
def RClo (ds : List PyData) (f : PyData) : Prop := ∃ w : List Nat, w.length ≤ 1000 ∧ ds = [dW w] ∧ f = .bool (closes w)
theorem ok_clo {f f1 : Addr} {fd fd1 : FuncData} (F : Fun K "closes" "closes" sClo f fd) (D1 : Df P w K mg base 1 "position_behind" ["steps"] (spR RPos) f1 fd1) : FnOk P w K mg base CX0 2 f fd ["word"] (spR RClo) := by
  refine F.ok scClo (fun vs H Q E h => ?_) (fun cdv A outer s H vs Q E hr h => ?_)
  · obtain ⟨N, ds, f, ts, fr, ⟨w, hw, rfl, rfl⟩, k⟩ := h
    exact ts.length
  · obtain ⟨N, ds, f, ts, fr, ⟨w, hw, rfl, rfl⟩, k⟩ := h
    obtain ⟨v, rfl, tv⟩ := ts.one
    refine ⟨_, pss_one (ps_ret (pe_cmpR op_eq (pe_call D1.ok hr (by rfl) D1.mg D1.kp D1.b .nil pass0 (pa_cons (pv 0) pa_nil)) pe_int (nomark _))), ?_⟩
    refine s_ret fr (ed_is (ed_op (ed_call (ea_1 (ed_var rfl tv)) ⟨w, hw, rfl, rfl⟩) ed_int rd_eq) ?_) k
    show PyData.bool (((net w : Nat) : Int) == 0) = PyData.bool (net w == 0)
    by_cases h : net w = 0
    · rw [h]; rfl
    · rw [beq_eq_false_iff_ne.mpr h, beq_eq_false_iff_ne.mpr (by omega)]
/-! ### positions -/
abbrev sPss : Stmt := top 5
theorem scPss : FnScope ["word", "count"] ["word"] (defScope sPss) := ⟨rfl, rfl, rfl, by decide +kernel, rfl, by decide +kernel, by decide +kernel⟩
def RPss (ds : List PyData) (f : PyData) : Prop := ∃ w : List Nat, w.length ≤ 1000 ∧ ds = [dW w] ∧ f = dW (poss w)
theorem ok_pss {f f1 : Addr} {fd fd1 : FuncData} (F : Fun K "positions" "positions" sPss f fd) (B : Blt mg) (D1 : Df P w K mg base 1 "position_behind" ["steps"] (spR RPos) f1 fd1) : FnOk P w K mg base CX0 2 f fd ["word"] (spR RPss) := by
  refine F.ok scPss (fun vs H Q E h => ?_) (fun cdv A outer s H vs Q E hr h => ?_)
  · obtain ⟨N, ds, f, ts, fr, ⟨w, hw, rfl, rfl⟩, k⟩ := h
    exact ts.length
  · obtain ⟨N, ds, f, ts, fr, ⟨w, hw, rfl, rfl⟩, k⟩ := h
    obtain ⟨v, rfl, tv⟩ := ts.one
    refine ⟨_, pss_one (ps_ret (pe_lc (own := [("count", 1)]) (g := gName 1) (tt := tYes) rfl scPss.nd (pi_range1 (by rfl) B.range (pa_cons (pe_callB call_len_seq (by rfl) B.len PySem.boot_len (pa_cons (pv 0) pa_nil)) pa_nil))
      (blkOk_by (own := [("count", 1)]) (N := ["word", "count"]) (sc := defScope sPss) (by decide +kernel)) (fun _ _ _ _ _ => pg_name (i := 1) scPss.nd rfl (Or.inl rfl)) (fun _ _ _ _ _ => pts_nil)
      (fun _ _ _ _ _ => pe_call D1.ok hr (by rfl) D1.mg D1.kp D1.b .nil pass0 (pa_cons (pe_slice (r := rSlL K) sl_list (pv 0) po_none (po_some (pv 1))) pa_nil)))), ?_⟩
    refine s_ret fr (ed_is (ed_lcRA (n := w.length) (fun k => dI (net (w.take k))) (ea_1 (ed_is (ed_cb (ea_1 (ed_var rfl tv)) cd_len) ?_)) (by omega) (fun _ => rfl) fun N1 H1 up i hi => ?_) ?_) k
    · rw [List.length_map]
    · refine ed_call (ea_1 (ed_is (ed_sl (ed_var rfl (up.tn _ _ tv)) eo_none (eo_some (ed_var rfl (.int _)))) ?_)) ⟨w.take i, ?_, rfl, rfl⟩
      · rw [cut_to']
        rfl
      · rw [List.length_take]
        omega
    · unfold poss dW
      rw [List.map_map]
      rfl
/-! ### begun_later -/
abbrev sBeg : Stmt := top 6
theorem scBeg : FnScope ["row", "k"] ["row", "k"] (defScope sBeg) := ⟨rfl, rfl, rfl, by decide +kernel, rfl, by decide +kernel, by decide +kernel⟩
def RBeg (ds : List PyData) (f : PyData) : Prop := ∃ (w : List Nat) (k : Nat), w.length ≤ 1000 ∧ ds = [dW w, dI k] ∧ f = dW (begun w k)
theorem ok_beg {f : Addr} {fd : FuncData} (F : Fun K "begun_later" "begun_later" sBeg f fd) : FnOk P w K mg base CX0 1 f fd ["row", "k"] (spR RBeg) := by
  refine F.ok scBeg (fun vs H Q E h => ?_) (fun cdv A outer s H vs Q E hr h => ?_)
  · obtain ⟨N, ds, f, ts, fr, ⟨w, i, hw, rfl, rfl⟩, k⟩ := h
    exact ts.length
  · obtain ⟨N, ds, f, ts, fr, ⟨w, i, hw, rfl, rfl⟩, k⟩ := h
    obtain ⟨v, u, rfl, tv, tu⟩ := ts.two
    refine ⟨_, pss_one (ps_ret (pe_op op_cat (pe_slice sl_list (pv 0) (po_some (pv 1)) po_none) (pe_slice sl_list (pv 0) po_none (po_some (pv 1))))), ?_⟩
    refine s_ret fr (ed_is (ed_op (ed_sl (ed_var rfl tv) (eo_some (ed_var rfl tu)) eo_none) (ed_sl (ed_var rfl tv) eo_none (eo_some (ed_var rfl tu))) (rd_cat ?_)) ?_) k
    · rw [cut_from', cut_to', List.length_map, List.length_map, List.length_drop, List.length_take]
      omega
    · rw [cut_from', cut_to', ← List.map_append]
      rfl
/-! ### opposite -/
abbrev sOpp : Stmt := top 7
theorem scOpp : FnScope ["word", "step"] ["word"] (defScope sOpp) := ⟨rfl, rfl, rfl, by decide +kernel, rfl, by decide +kernel, by decide +kernel⟩
def ROpp (ds : List PyData) (f : PyData) : Prop := ∃ (w : List Nat), w.length ≤ 1000 ∧ Bits w ∧ ds = [dW w] ∧ f = dW (opposite w)
theorem ok_opp {f : Addr} {fd : FuncData} (F : Fun K "opposite" "opposite" sOpp f fd) : FnOk P w K mg base CX0 1 f fd ["word"] (spR ROpp) := by
  refine F.ok scOpp (fun vs H Q E h => ?_) (fun cdv A outer s H vs Q E hr h => ?_)
  · obtain ⟨N, ds, f, ts, fr, ⟨w, hw, hb, rfl, rfl⟩, k⟩ := h
    exact ts.length
  · obtain ⟨N, ds, f, ts, fr, ⟨w, hw, hb, rfl, rfl⟩, k⟩ := h
    obtain ⟨v, rfl, tv⟩ := ts.one
    refine ⟨_, pss_one (ps_ret (pe_lc (own := [("step", 1)]) (g := gName 1) (tt := tYes) rfl scOpp.nd (pi_list (pv 0))
      (blkOk_by (own := [("step", 1)]) (N := ["word", "step"]) (sc := defScope sOpp) (by decide +kernel)) (fun _ _ _ _ _ => pg_name (i := 1) scOpp.nd rfl (Or.inl rfl)) (fun _ _ _ _ _ => pts_nil)
      (fun _ _ _ _ _ => pe_op op_sub pe_int (pv 1)))), ?_⟩
    refine s_ret fr (ed_is (ed_lcA (c := dI) (fun x => .int (1 - (x : Int))) (ed_var rfl tv) (by omega) (fun _ => rfl) fun N1 H1 up a ha x tx => ed_op ed_int (ed_var rfl tx) rd_int) ?_) k
    rw [dW_ints, ← opp_py hb, List.map_map]
    rfl
/-! ### backwards -/
abbrev sBck : Stmt := top 8
theorem scBck : FnScope ["word"] ["word"] (defScope sBck) := ⟨rfl, rfl, rfl, by decide +kernel, rfl, by decide +kernel, by decide +kernel⟩
def RBck (ds : List PyData) (f : PyData) : Prop := ∃ (w : List Nat), ds = [dW w] ∧ f = dW w.reverse
theorem ok_bck {f : Addr} {fd : FuncData} (F : Fun K "backwards" "backwards" sBck f fd) (B : Blt mg) : FnOk P w K mg base CX0 1 f fd ["word"] (spR RBck) := by
  refine F.ok scBck (fun vs H Q E h => ?_) (fun cdv A outer s H vs Q E hr h => ?_)
  · obtain ⟨N, ds, f, ts, fr, ⟨w, rfl, rfl⟩, k⟩ := h
    exact ts.length
  · obtain ⟨N, ds, f, ts, fr, ⟨w, rfl, rfl⟩, k⟩ := h
    obtain ⟨v, rfl, tv⟩ := ts.one
    refine ⟨_, pss_one (ps_ret (pe_listRev rfl (by rfl) B.list (by rfl) B.reversed (pv 0))), ?_⟩
    refine s_ret fr (ed_is (ed_listRev (ed_var rfl tv)) ?_) k
    unfold dW
    rw [List.map_reverse]
/-! ### is_own -/
abbrev sOwn : Stmt := top 9
theorem scOwn : FnScope ["word", "layers", "sooner"] ["word"] (defScope sOwn) := ⟨rfl, rfl, rfl, by decide +kernel, rfl, by decide +kernel, by decide +kernel⟩
def ROwn (ds : List PyData) (f : PyData) : Prop := ∃ (w : List Nat), w.length ≤ 1000 ∧ ds = [dW w] ∧ f = .bool (ownP w)
theorem ok_own {f f1 f2 f3 : Addr} {fd fd1 fd2 fd3 : FuncData} (F : Fun K "is_own" "is_own" sOwn f fd) (B : Blt mg) (D1 : Df P w K mg base 2 "closes" ["word"] (spR RClo) f1 fd1) (D2 : Df P w K mg base 2 "positions" ["word"] (spR RPss) f2 fd2)
    (D3 : Df P w K mg base 1 "begun_later" ["row", "k"] (spR RBeg) f3 fd3) : FnOk P w K mg base CX0 3 f fd ["word"] (spR ROwn) := by
  refine F.ok scOwn (fun vs H Q E h => ?_) (fun cdv A outer s H vs Q E hr h => ?_)
  · obtain ⟨N, ds, f, ts, fr, ⟨w, hw, rfl, rfl⟩, k⟩ := h
    exact ts.length
  · obtain ⟨N, ds, f, ts, fr, ⟨w, hw, rfl, rfl⟩, k⟩ := h
    obtain ⟨v, rfl, tv⟩ := ts.one
    have hr1 : Room 1 (A.deeper (envOfC "is_own" (defScope sOwn) s.heap.objs.size f cdv)) := hr.mono (by decide)
    refine ⟨_, pss_cons (ps_if (pt_not (pt_val (pe_call D1.ok hr (by rfl) D1.mg D1.kp D1.b .nil pass0 (pa_cons (pv 0) pa_nil)))) (pss_one (ps_ret pe_bl)) pss_nil)
      (pss_cons (ps_set (i := 1) scOwn.nd rfl (Or.inr rfl) (pe_call D2.ok hr (by rfl) D2.mg D2.kp D2.b .nil pass0 (pa_cons (pv 0) pa_nil)))
      (pss_one (ps_ret (pe_cmpR (op_notInD (hu65 hr)) (pv 1) (pe_lc (own := [("sooner", 2)]) (g := gName 2) (tt := tYes) rfl scOwn.nd (pi_range2 (by rfl) B.range (pa_cons pe_int (pa_cons (pe_callB call_len_seq (by rfl) B.len PySem.boot_len (pa_cons (pv 0) pa_nil)) pa_nil)))
        (blkOk_by (own := [("sooner", 2)]) (N := ["word", "layers", "sooner"]) (sc := defScope sOwn) (by decide +kernel)) (fun _ _ _ _ _ => pg_name (i := 2) scOwn.nd rfl (Or.inl rfl)) (fun _ _ _ _ _ => pts_nil)
        (fun _ _ _ _ _ => pe_call D3.ok hr1 (by rfl) D3.mg D3.kp D3.b .nil pass0 (pa_cons (pv 1) (pa_cons (pv 2) pa_nil)))) (by rfl))))), ?_⟩
    refine q_when (b := !closes w) fr (et_not (et_B (ed_call (ea_1 (ed_var rfl tv)) ⟨w, hw, rfl, rfl⟩))) (fun hb H1 e1 => ?_) (fun hb H1 e1 => ?_)
    · refine s_ret (fr.ext e1) (ed_is ed_bl ?_) fun z H2 e2 tz => k z H2 (e1.trans e2) tz
      unfold ownP
      have hc : closes w = false := by
        cases e : closes w with
        | true => rw [e] at hb; cases hb
        | false => rfl
      rw [hc]
      rfl
    · have hc : closes w = true := by
        cases e : closes w with
        | true => rfl
        | false => rw [e] at hb; cases hb
      refine q_asg (fr.ext e1) (ed_call (ea_1 (ed_var rfl (tv.mono e1))) ⟨w, hw, rfl, rfl⟩) fun u H2 e2 tu => ?_
      have pl : (poss w).length = w.length := by
        unfold poss
        rw [List.length_map, List.length_range]
      have hl : EvD N H2 (tLc (iRng2 (tCons (tC (.int 1)) (tCons (tCB (fun xs H Q => ∃ p ys, xs = [.ref p] ∧ (SqL K H p ys ∨ SqT K H p ys) ∧ Q (.int ys.length) H) (tCons (tVar 0) tNil)) tNil))) (gName 2) tYes (tCall (spR RBeg) [] E0 (tCons (tVar 1) (tCons (tVar 2) tNil))) [2]) [some v, some u, none]
          (.list (((List.range (w.length - 1)).map fun i => begun (poss w) (i + 1)).map dW)) := by
        rw [List.map_map]
        refine ed_lcR2 (lo := 1) (n := w.length) _ (ea_2 ed_int (ed_is (ed_cb (ea_1 (ed_var rfl (tv.mono (e1.trans e2)))) cd_len) ?_)) ⟨by decide, by omega⟩ (fun _ => rfl) fun N1 H3 up i hi => ?_
        · rw [List.length_map]
        · refine ed_call (ea_2 (ed_var rfl (up.tn _ _ tu)) (ed_var rfl (.int _))) ⟨poss w, i + 1, by omega, ?_, rfl⟩
          rw [Nat.add_comm 1 i]
          rfl
      refine s_ret ((fr.ext e1).ext e2) (ed_is (ed_op (ed_var rfl tu) hl (rd_notInD (shaped_W _) (shaped_Ws _))) ?_) fun z H3 e3 tz => k z H3 ((e1.trans e2).trans e3) tz
      rw [any_W]
      unfold ownP
      rw [hc, Bool.true_and]
/-! ### way -/
abbrev sWay : Stmt := top 10
theorem scWay : FnScope ["word", "t", "n", "held"] ["word", "t"] (defScope sWay) := ⟨rfl, rfl, rfl, by decide +kernel, rfl, by decide +kernel, by decide +kernel⟩
def RWay (ds : List PyData) (f : PyData) : Prop := ∃ (w : List Nat) (t : Nat), 1 ≤ w.length ∧ w.length ≤ 8 ∧ Bits w ∧ t < 4 * w.length ∧ ds = [dW w, dI t] ∧ f = dW (way w t)
theorem in2 (q a b : Nat) : ([(a : Int), (b : Int)] : List Int).contains (q : Int) = decide (q = a ∨ q = b) := by
  rw [List.contains_cons, List.contains_cons, List.contains_nil, Bool.or_false, Bool.eq_iff_iff]
  simp only [Bool.or_eq_true, beq_iff_eq, decide_eq_true_eq]
  omega
theorem ok_way {f f1 f2 f3 : Addr} {fd fd1 fd2 fd3 : FuncData} (F : Fun K "way" "way" sWay f fd) (B : Blt mg) (D1 : Df P w K mg base 1 "begun_later" ["row", "k"] (spR RBeg) f1 fd1) (D2 : Df P w K mg base 1 "opposite" ["word"] (spR ROpp) f2 fd2)
    (D3 : Df P w K mg base 1 "backwards" ["word"] (spR RBck) f3 fd3) : FnOk P w K mg base CX0 2 f fd ["word", "t"] (spR RWay) := by
  refine F.ok scWay (fun vs H Q E h => ?_) (fun cdv A outer s H vs Q E hr h => ?_)
  · obtain ⟨N, ds, f, ts, fr, ⟨w, t, h1, h8, hb, ht, rfl, rfl⟩, k⟩ := h
    exact ts.length
  · obtain ⟨N, ds, f, ts, fr, ⟨w, t, h1, h8, hb, ht, rfl, rfl⟩, k⟩ := h
    obtain ⟨v, u, rfl, tv, tu⟩ := ts.two
    cases tu
    refine ⟨_, pss_cons (ps_set (i := 2) scWay.nd rfl (Or.inl rfl) (pe_callB call_len_seq (by rfl) B.len PySem.boot_len (pa_cons (pv 0) pa_nil)))
      (pss_cons (ps_set (i := 3) scWay.nd rfl (Or.inl rfl) (pe_call D1.ok hr (by rfl) D1.mg D1.kp D1.b .nil pass0 (pa_cons (pv 0) (pa_cons (pe_op op_mod (pv 1) (pv 2)) pa_nil))))
      (pss_cons (ps_if (pt_cmpR op_in_seq (pe_op op_fdiv (pv 1) (pv 2)) (pe_tup (pa_cons pe_int (pa_cons pe_int pa_nil))) (by rfl)) (pss_one (ps_set (i := 3) scWay.nd rfl (Or.inl rfl) (pe_call D2.ok hr (by rfl) D2.mg D2.kp D2.b .nil pass0 (pa_cons (pv 3) pa_nil)))) pss_nil)
      (pss_cons (ps_if (pt_cmpR op_in_seq (pe_op op_fdiv (pv 1) (pv 2)) (pe_tup (pa_cons pe_int (pa_cons pe_int pa_nil))) (by rfl)) (pss_one (ps_set (i := 3) scWay.nd rfl (Or.inl rfl) (pe_call D3.ok hr (by rfl) D3.mg D3.kp D3.b .nil pass0 (pa_cons (pv 3) pa_nil)))) pss_nil)
      (pss_one (ps_ret (pv 3)))))), ?_⟩
    refine q_asg fr (ed_is (ed_cb (ea_1 (ed_var rfl tv)) cd_len) (show _ = dI w.length by rw [List.length_map]; rfl)) fun vn H1 e1 tn => ?_
    cases tn
    have hq : (t : Int) / (w.length : Int) = ((t / w.length : Nat) : Int) := rfl
    have hm : (t : Int) % (w.length : Int) = ((t % w.length : Nat) : Int) := rfl
    have d1 : CDiv (t : Int) (w.length : Int) := ⟨by omega, by omega⟩
    refine q_asg (fr.ext e1) (ed_call (ea_2 (ed_var rfl (tv.mono e1)) (ed_op (ed_var rfl (.int _)) (ed_var rfl (.int _)) (rd_intC (by show (0 : Int) < (w.length : Int); omega)))) ⟨w, t % w.length, by omega, rfl, rfl⟩) fun v3 H2 e2 t3 => ?_
    have e12 := e1.trans e2
    have tst : ∀ (a b : Nat) (N' : Addr → Prop) (H' : Hp) (x : V), EvT N' H' (tTest (tOp (rIn K false) (tOp (rI CDiv fun i j => .int (i / j)) (tVar 1) (tVar 2)) (tTup (tCons (tC (.int (a : Int))) (tCons (tC (.int (b : Int))) tNil))))) [some v, some (.int (t : Int)), some (.int (w.length : Int)), some x] (decide (t / w.length = a ∨ t / w.length = b)) := fun a b N' H' x => by
      refine et_test (ed_is (ed_op (ed_op (ed_var rfl (.int _)) (ed_var rfl (.int _)) (rd_intC d1)) (ed_tup (ds := [(a : Int), (b : Int)].map .int) (ea_2 ed_int ed_int) (by simp)) rd_inT) ?_)
      rw [hq, in2]
    have bb : Bits (begun w (t % w.length)) := begun_bits hb _
    refine q_ifAsg (d := dW (if t / w.length = 1 ∨ t / w.length = 3 then opposite (begun w (t % w.length)) else begun w (t % w.length))) (fr.ext e12) (tst 1 3 N H2 v3) (fun hbt => ed_is (ed_call (ea_1 (ed_var rfl t3)) ⟨_, ?_, bb, rfl, rfl⟩) ?_) (fun hbt => ⟨v3, rfl, ?_⟩) fun v4 H3 e3 t4 => ?_
    · rw [begun_len]
      omega
    · rw [if_pos (of_decide_eq_true hbt)]
    · rw [if_neg (of_decide_eq_false hbt)]
      exact t3
    have e13 := e12.trans e3
    refine q_ifAsg (d := dW (way w t)) (fr.ext e13) (tst 2 3 N H3 v4) (fun hbt => ed_is (ed_call (ea_1 (ed_var rfl t4)) ⟨_, rfl, rfl⟩) ?_) (fun hbt => ⟨v4, rfl, ?_⟩) fun v5 H4 e4 t5 => ?_
    · rw [← way_py h1 h8 ht]
      unfold wayP
      dsimp only
      rw [if_pos (of_decide_eq_true hbt)]
    · rw [← way_py h1 h8 ht]
      unfold wayP
      dsimp only
      rw [if_neg (of_decide_eq_false hbt)]
      exact t4
    · exact s_ret (fr.ext (e13.trans e4)) (ed_var rfl t5) fun z H5 e5 tz => k z H5 ((e13.trans e4).trans e5) tz
/-! ### all_ways -/
abbrev sAwy : Stmt := top 11
theorem scAwy : FnScope ["word", "t"] ["word"] (defScope sAwy) := ⟨rfl, rfl, rfl, by decide +kernel, rfl, by decide +kernel, by decide +kernel⟩
def RAwy (ds : List PyData) (f : PyData) : Prop := ∃ (w : List Nat), 1 ≤ w.length ∧ w.length ≤ 8 ∧ Bits w ∧ ds = [dW w] ∧ f = dWs (ways w)
theorem ok_awy {f f1 : Addr} {fd fd1 : FuncData} (F : Fun K "all_ways" "all_ways" sAwy f fd) (B : Blt mg) (D1 : Df P w K mg base 2 "way" ["word", "t"] (spR RWay) f1 fd1) : FnOk P w K mg base CX0 3 f fd ["word"] (spR RAwy) := by
  refine F.ok scAwy (fun vs H Q E h => ?_) (fun cdv A outer s H vs Q E hr h => ?_)
  · obtain ⟨N, ds, f, ts, fr, ⟨w, h1, h8, hb, rfl, rfl⟩, k⟩ := h
    exact ts.length
  · obtain ⟨N, ds, f, ts, fr, ⟨w, h1, h8, hb, rfl, rfl⟩, k⟩ := h
    obtain ⟨v, rfl, tv⟩ := ts.one
    refine ⟨_, pss_one (ps_ret (pe_lc (own := [("t", 1)]) (g := gName 1) (tt := tYes) rfl scAwy.nd (pi_range1 (by rfl) B.range (pa_cons (pe_op op_mul pe_int (pe_callB call_len_seq (by rfl) B.len PySem.boot_len (pa_cons (pv 0) pa_nil))) pa_nil))
      (blkOk_by (own := [("t", 1)]) (N := ["word", "t"]) (sc := defScope sAwy) (by decide +kernel)) (fun _ _ _ _ _ => pg_name (i := 1) scAwy.nd rfl (Or.inl rfl)) (fun _ _ _ _ _ => pts_nil)
      (fun _ _ _ _ _ => pe_call D1.ok hr (by rfl) D1.mg D1.kp D1.b .nil pass0 (pa_cons (pv 0) (pa_cons (pv 1) pa_nil))))), ?_⟩
    refine s_ret fr (ed_is (ed_lcRA (n := 4 * w.length) (fun t => dW (way w t)) (ea_1 (ed_is (ed_op ed_int (ed_cb (ea_1 (ed_var rfl tv)) cd_len) (rd_intC (.inl ⟨by decide, by decide⟩))) ?_)) (by omega) (fun _ => rfl) fun N1 H1 up i hi => ?_) ?_) k
    · rw [List.length_map]
      show PyData.int ((4 : Int) * (w.length : Int)) = PyData.int ((4 * w.length : Nat) : Int)
      rw [Int.natCast_mul]
      rfl
    · exact ed_call (ea_2 (ed_var rfl (up.tn _ _ tv)) (ed_var rfl (.int _))) ⟨w, i, h1, h8, hb, hi, rfl, rfl⟩
    · unfold dWs Kqi3.ways
      rw [List.map_map]
      rfl
/-! ### first_name -/
abbrev sFst : Stmt := top 12
theorem scFst : FnScope ["word"] ["word"] (defScope sFst) := ⟨rfl, rfl, rfl, by decide +kernel, rfl, by decide +kernel, by decide +kernel⟩
def RFst (ds : List PyData) (f : PyData) : Prop := ∃ (n : Nat) (w : List Nat), 1 ≤ n ∧ n ≤ 8 ∧ w ∈ closing n ∧ ds = [dW w] ∧ f = dW (first w)
theorem ok_fst {f f1 : Addr} {fd fd1 : FuncData} (F : Fun K "first_name" "first_name" sFst f fd) (B : Blt mg) (D1 : Df P w K mg base 3 "all_ways" ["word"] (spR RAwy) f1 fd1) : FnOk P w K mg base CX0 4 f fd ["word"] (spR RFst) := by
  refine F.ok scFst (fun vs H Q E h => ?_) (fun cdv A outer s H vs Q E hr h => ?_)
  · obtain ⟨N, ds, f, ts, fr, ⟨n, w, h1, h8, hw, rfl, rfl⟩, k⟩ := h
    exact ts.length
  · obtain ⟨N, ds, f, ts, fr, ⟨n, w, h1, h8, hw, rfl, rfl⟩, k⟩ := h
    obtain ⟨v, rfl, tv⟩ := ts.one
    obtain ⟨hn, hb⟩ := words_mem n w (closing_mem hw).1
    refine ⟨_, pss_one (ps_ret (pe_callB (cr_minD rfl (hu64 hr)) (by rfl) B.min (by decide +kernel) (pa_cons (pe_call D1.ok hr (by rfl) D1.mg D1.kp D1.b .nil pass0 (pa_cons (pv 0) pa_nil)) pa_nil))), ?_⟩
    obtain ⟨x, xs, hx⟩ : ∃ x xs, ways w = x :: xs := by
      cases e : ways w with
      | nil =>
        have := ways_len w
        rw [e] at this
        simp at this
        omega
      | cons x xs => exact ⟨x, xs, rfl⟩
    have hf : minOf (ways w) = first w := beq_iff_eq.mp (List.all_eq_true.mp (of_all8 first_k h1 h8) w hw)
    rw [hx] at hf
    have hlen : ∀ y ∈ x :: xs, y.length = w.length := fun y hy => (ways_mem (by rw [hx]; exact hy)).1
    refine s_ret fr (ed_is (ed_cb (ea_1 (ed_is (ed_call (ea_1 (ed_var rfl tv)) ⟨w, by omega, by omega, hb, rfl, rfl⟩) (show _ = PyData.list (dW x :: xs.map dW) by unfold dWs; rw [hx]; rfl))) (cd_min (alike_Ws (x :: xs)) (plain_Ws (x :: xs)) (Nat.le_trans (depth_Ws (x :: xs)) (by decide)))) ?_) k
    rw [min_W w.length xs x (hlen x (by simp)) (fun y hy => hlen y (by simp [hy])), ← hf]
    rfl
end
end Lk
namespace Lk
open PySem PySem.Spec PyProof.Rows L2
open Kqi3 (net words closing own kinds kindsAll way ways first names leaves handed sides begun opposite closes)
section
variable {P : Program} {w : World} {K : PySem.W.Frag} {mg : Str → Option Value} {base : Heap}
/-! ### count_leaving_ways -/
abbrev sCnt : Stmt := top 14
theorem scCnt : FnScope ["word"] ["word"] (defScope sCnt) := ⟨rfl, rfl, rfl, by decide +kernel, rfl, by decide +kernel, by decide +kernel⟩
def RCnt (ds : List PyData) (f : PyData) : Prop := ∃ (w : List Nat), 1 ≤ w.length ∧ w.length ≤ 8 ∧ Bits w ∧ ds = [dW w] ∧ f = dI (leaves w).length
theorem ok_cnt {f f1 : Addr} {fd fd1 : FuncData} (F : Fun K "count_leaving_ways" "count_leaving_ways" sCnt f fd) (D1 : Df P w K mg base 3 "all_ways" ["word"] (spR RAwy) f1 fd1) : FnOk P w K mg base CX0 4 f fd ["word"] (spR RCnt) := by
  refine F.ok scCnt (fun vs H Q E h => ?_) (fun cdv A outer s H vs Q E hr h => ?_)
  · obtain ⟨N, ds, f, ts, fr, ⟨w, h1, h8, hb, rfl, rfl⟩, k⟩ := h
    exact ts.length
  · obtain ⟨N, ds, f, ts, fr, ⟨w, h1, h8, hb, rfl, rfl⟩, k⟩ := h
    obtain ⟨v, rfl, tv⟩ := ts.one
    refine ⟨_, pss_one (ps_ret (pe_bm PySem.F.plainAttrs_list PySem.F.slot_list_count PySem.F.type_list_count (mt_countD (hu64 hr)) (pe_call D1.ok hr (by rfl) D1.mg D1.kp D1.b .nil pass0 (pa_cons (pv 0) pa_nil)) (pa_cons (pv 0) pa_nil))), ?_⟩
    refine s_ret fr (ed_is (md_count (plain_Ws (ways w)) (plain_W w) (Nat.le_trans (depth_W w) (by decide)) (ed_call (ea_1 (ed_var rfl tv)) ⟨w, h1, h8, hb, rfl, rfl⟩) (ed_var rfl tv)) ?_) k
    rw [count_W, leaves_py]
    rfl
/-! ### is_handed -/
abbrev sHan : Stmt := top 15
theorem scHan : FnScope ["word"] ["word"] (defScope sHan) := ⟨rfl, rfl, rfl, by decide +kernel, rfl, by decide +kernel, by decide +kernel⟩
def RHan (ds : List PyData) (f : PyData) : Prop := ∃ (n : Nat) (w : List Nat), 1 ≤ n ∧ n ≤ 8 ∧ w ∈ kinds n ∧ ds = [dW w] ∧ f = .bool (handed w)
theorem ok_han {f f1 : Addr} {fd fd1 : FuncData} (F : Fun K "is_handed" "is_handed" sHan f fd) (B : Blt mg) (D1 : Df P w K mg base 3 "all_ways" ["word"] (spR RAwy) f1 fd1) : FnOk P w K mg base CX0 4 f fd ["word"] (spR RHan) := by
  refine F.ok scHan (fun vs H Q E h => ?_) (fun cdv A outer s H vs Q E hr h => ?_)
  · obtain ⟨N, ds, f, ts, fr, ⟨n, w, h1, h8, hw, rfl, rfl⟩, k⟩ := h
    exact ts.length
  · obtain ⟨N, ds, f, ts, fr, ⟨n, w, h1, h8, hw, rfl, rfl⟩, k⟩ := h
    obtain ⟨v, rfl, tv⟩ := ts.one
    obtain ⟨hn, hb⟩ := words_mem n w (closing_mem (own_mem (kinds_mem hw))).1
    refine ⟨_, pss_one (ps_ret (pe_cmpR (op_notInD (hu65 hr)) (pv 0) (pe_slice sl_list (pe_call D1.ok hr (by rfl) D1.mg D1.kp D1.b .nil pass0 (pa_cons (pv 0) pa_nil)) (po_some (pe_op op_mul pe_int (pe_callB call_len_seq (by rfl) B.len PySem.boot_len (pa_cons (pv 0) pa_nil)))) po_none) (by rfl))), ?_⟩
    have hs : EvD N H (tSl (rSlL K) (tCall (spR RAwy) [] E0 (tCons (tVar 0) tNil)) (tPart (tOp (rI CMul fun i j => .int (i * j)) (tC (.int 2)) (tCB (fun xs H Q => ∃ p ys, xs = [.ref p] ∧ (SqL K H p ys ∨ SqT K H p ys) ∧ Q (.int ys.length) H) (tCons (tVar 0) tNil)))) tNoPart) [some v] (.list (((ways w).drop (2 * w.length)).map dW)) := by
      refine ed_is (ed_sl (ed_call (ea_1 (ed_var rfl tv)) ⟨w, by omega, by omega, hb, rfl, rfl⟩) (eo_some (i := ((2 * w.length : Nat) : Int)) (ed_is (ed_op ed_int (ed_cb (ea_1 (ed_var rfl tv)) cd_len) (rd_intC (.inl ⟨by decide, by decide⟩))) ?_)) eo_none) ?_
      · rw [List.length_map]
        show PyData.int ((2 : Int) * (w.length : Int)) = PyData.int ((2 * w.length : Nat) : Int)
        rw [Int.natCast_mul]
        rfl
      · rw [cut_from']
    refine s_ret fr (ed_is (ed_op (ed_var rfl tv) hs (rd_notInD (shaped_W _) (shaped_Ws _))) ?_) k
    rw [any_W]
    exact congrArg PyData.bool (beq_iff_eq.mp (List.all_eq_true.mp (of_all8 handed_k h1 h8) w hw))
/-! ### count_like_neighbours -/
abbrev sCln : Stmt := top 16
theorem scCln : FnScope ["word", "k"] ["word"] (defScope sCln) := ⟨rfl, rfl, rfl, by decide +kernel, rfl, by decide +kernel, by decide +kernel⟩
def RCln (ds : List PyData) (f : PyData) : Prop := ∃ (n : Nat) (w : List Nat), 1 ≤ n ∧ n ≤ 8 ∧ w ∈ kinds n ∧ ds = [dW w] ∧ f = dI (sides w)
theorem at_prev {α : Type} (c : Nat → α) (w : List Nat) {k : Nat} (hk : k < w.length) : atI (w.map c) ((k : Int) - 1) = some (c (w.getD (if k = 0 then w.length - 1 else k - 1) 0)) := by
  have key : ∀ j, j < w.length → (w.map c)[j]? = some (c (w.getD j 0)) := fun j hj => by
    rw [List.getElem?_map, List.getD_eq_getElem?_getD, List.getElem?_eq_getElem hj]
    rfl
  unfold atI ixN
  rw [List.length_map]
  by_cases h0 : k = 0
  · subst h0
    rw [if_pos rfl, if_neg (by omega), if_pos (by omega)]
    show (w.map c)[(((0 : Nat) : Int) - 1 + (w.length : Int)).toNat]? = _
    rw [show (((0 : Nat) : Int) - 1 + (w.length : Int)).toNat = w.length - 1 by omega]
    exact key _ (by omega)
  · rw [if_neg h0, if_pos (by omega), if_pos (by omega)]
    show (w.map c)[((k : Int) - 1).toNat]? = _
    rw [show ((k : Int) - 1).toNat = k - 1 by omega]
    exact key _ (by omega)
theorem at_here {α : Type} (c : Nat → α) (w : List Nat) {k : Nat} (hk : k < w.length) : atI (w.map c) (k : Int) = some (c (w.getD k 0)) := by
  refine atI_nat ?_
  rw [List.getElem?_map, List.getD_eq_getElem?_getD, List.getElem?_eq_getElem hk]
  rfl
theorem ok_cln {f : Addr} {fd : FuncData} (F : Fun K "count_like_neighbours" "count_like_neighbours" sCln f fd) (B : Blt mg) : FnOk P w K mg base CX0 1 f fd ["word"] (spR RCln) := by
  refine F.ok scCln (fun vs H Q E h => ?_) (fun cdv A outer s H vs Q E hr h => ?_)
  · obtain ⟨N, ds, f, ts, fr, ⟨n, w, h1, h8, hw, rfl, rfl⟩, k⟩ := h
    exact ts.length
  · obtain ⟨N, ds, f, ts, fr, ⟨n, w, h1, h8, hw, rfl, rfl⟩, k⟩ := h
    obtain ⟨v, rfl, tv⟩ := ts.one
    obtain ⟨hn, hb⟩ := words_mem n w (closing_mem (own_mem (kinds_mem hw))).1
    refine ⟨_, pss_one (ps_ret (pe_callB call_len_seq (by rfl) B.len PySem.boot_len (pa_cons (pe_lc (own := [("k", 1)]) (g := gName 1) rfl scCln.nd (pi_range1 (by rfl) B.range (pa_cons (pe_callB call_len_seq (by rfl) B.len PySem.boot_len (pa_cons (pv 0) pa_nil)) pa_nil))
      (blkOk_by (own := [("k", 1)]) (N := ["word", "k"]) (sc := defScope sCln) (by decide +kernel)) (fun _ _ _ _ _ => pg_name (i := 1) scCln.nd rfl (Or.inl rfl))
      (fun _ _ _ _ _ => pts_one (pt_cmpR op_ne (pe_ix (r := rIxL K) ix_list (pv 0) (pv 1) (fun _ _ => rfl)) (pe_ix (r := rIxL K) ix_list (pv 0) (pe_op op_sub (pv 1) pe_int) (fun _ _ => rfl)) (nomark _)))
      (fun _ _ _ _ _ => pv 1)) pa_nil))), ?_⟩
    refine s_ret fr (ed_is (ed_cb (ea_1 (ed_lcR (n := (w.length : Nat)) (fun k => !(w.getD k 0 == w.getD (if k = 0 then w.length - 1 else k - 1) 0)) (fun k => dI k) (ea_1 (ed_is (ed_cb (ea_1 (ed_var rfl tv)) cd_len) ?_)) (by omega) (fun _ => rfl) (fun N1 H1 up i hi => ?_) (fun N1 H1 up i hi _ => ed_var rfl (.int _)))) cd_len) ?_) k
    · rw [List.length_map]
    · have hi' : i < w.length := by omega
      refine et_is (et_test (ed_op (ed_op (ed_var rfl (up.tn _ _ tv)) (ed_var rfl (.int _)) (rd_ix (at_here dI w hi'))) (ed_op (ed_var rfl (up.tn _ _ tv)) (ed_op (ed_var rfl (.int _)) ed_int rd_int) (rd_ix (at_prev dI w hi'))) rd_ne)) ?_
      generalize w.getD i 0 = a
      generalize w.getD _ 0 = b
      refine congrArg (!·) ?_
      by_cases h : a = b
      · rw [h]; simp
      · rw [beq_eq_false_iff_ne.mpr h, beq_eq_false_iff_ne.mpr (by omega)]
    · rw [List.length_map, Int.toNat_natCast]
      have := beq_iff_eq.mp (List.all_eq_true.mp (of_all8 sides_k h1 h8) w hw)
      rw [← this]
      rfl
/-! ### all_words -/
abbrev sAll : Stmt := top 1
theorem scAll : FnScope ["n", "words", "word"] ["n"] (defScope sAll) := ⟨rfl, rfl, rfl, by decide +kernel, rfl, by decide +kernel, by decide +kernel⟩
def RAll (ds : List PyData) (f : PyData) : Prop := ∃ (n : Nat), n ≤ 8 ∧ ds = [dI n] ∧ f = dWs (words n)
theorem words_le {n : Nat} (h : n ≤ 8) : (words n).length ≤ 256 := by
  rw [words_len]
  exact Nat.pow_le_pow_right (n := 2) (by decide) h
theorem words_head (j : Nat) : ∃ u, (words j)[0]? = some u ∧ u.length = j := by
  have hl : 0 < (words j).length := by
    rw [words_len]
    exact Nat.pow_pos (by decide)
  exact ⟨(words j)[0], List.getElem?_eq_getElem hl, (words_mem j _ (List.getElem_mem hl)).1⟩
theorem ok_all {f : Addr} {fd : FuncData} (F : Fun K "all_words" "all_words" sAll f fd) (B : Blt mg) : FnOk P w K mg base CX0 1 f fd ["n"] (spR RAll) := by
  refine F.ok scAll (fun vs H Q E h => ?_) (fun cdv A outer s H vs Q E hr h => ?_)
  · obtain ⟨N, ds, f, ts, fr, ⟨n, h8, rfl, rfl⟩, k⟩ := h
    exact ts.length
  · obtain ⟨N, ds, f, ts, fr, ⟨n, h8, rfl, rfl⟩, k⟩ := h
    obtain ⟨v, rfl, tv⟩ := ts.one
    cases tv
    refine ⟨_, pss_cons (ps_set (i := 1) scAll.nd rfl (Or.inl rfl) (pe_lst (pa_cons (pe_lst pa_nil) pa_nil)))
      (pss_cons (ps_while PassesOwn.never (pt_cmpR op_lt (pe_callB call_len_seq (by rfl) B.len PySem.boot_len (pa_cons (pe_ix ix_list (pv 1) pe_int (fun _ _ => rfl)) pa_nil)) (pv 0) (nomark _))
        (pss_one (ps_set (i := 1) scAll.nd rfl (Or.inl rfl) (pe_op op_cat
          (pe_lc (own := [("word", 2)]) (g := gName 2) (tt := tYes) rfl scAll.nd (pi_list (pv 1)) (blkOk_by (own := [("word", 2)]) (N := ["n", "words", "word"]) (sc := defScope sAll) (by decide +kernel)) (fun _ _ _ _ _ => pg_name (i := 2) scAll.nd rfl (Or.inl rfl)) (fun _ _ _ _ _ => pts_nil) (fun _ _ _ _ _ => pe_op op_cat (pe_lst (pa_cons pe_int pa_nil)) (pv 2)))
          (pe_lc (own := [("word", 2)]) (g := gName 2) (tt := tYes) rfl scAll.nd (pi_list (pv 1)) (blkOk_by (own := [("word", 2)]) (N := ["n", "words", "word"]) (sc := defScope sAll) (by decide +kernel)) (fun _ _ _ _ _ => pg_name (i := 2) scAll.nd rfl (Or.inl rfl)) (fun _ _ _ _ _ => pts_nil) (fun _ _ _ _ _ => pe_op op_cat (pe_lst (pa_cons pe_int pa_nil)) (pv 2)))))))
      (pss_one (ps_ret (pv 1)))), ?_⟩
    refine q_asg fr (ed_is (ed_lst (ea_1 (ed_lst ea_nil (by simp))) (by simp)) (show _ = dWs (words 0) from rfl)) fun v1 H1 e1 t1 => ?_
    refine ⟨fun m σ' H' => ∃ j v, m = n - j ∧ j ≤ n ∧ σ' = [some (.int (n : Int)), some v, none] ∧ Ex H H' ∧ TN N H' v (dWs (words j)), ⟨n, 0, v1, rfl, Nat.zero_le _, rfl, e1, t1⟩, fun m σ' H' hW => ?_⟩
    obtain ⟨j, v, rfl, hj, rfl, eH, tw⟩ := hW
    obtain ⟨u, hu, ul⟩ := words_head j
    have tst : EvT N H' (tTest (tOp (rI0 fun i j => .bl (decide (i < j))) (tCB (fun xs H Q => ∃ p ys, xs = [.ref p] ∧ (SqL K H p ys ∨ SqT K H p ys) ∧ Q (.int ys.length) H) (tCons (tOp (rIxL K) (tVar 1) (tC (.int 0))) tNil)) (tVar 0))) [some (.int (n : Int)), some v, none] (decide ((j : Int) < (n : Int))) := by
      refine et_test (ed_is (ed_op (ed_cb (ea_1 (ed_op (ed_var rfl tw) ed_int (rd_ix (d := dW u) (i := ((0 : Nat) : Int)) (atI_nat (by rw [List.getElem?_map, hu]; rfl))))) cd_len) (ed_var rfl (.int _)) rd_bool) ?_)
      rw [List.length_map, ul]
    refine tst N H' Up.refl (fr.ext eH) _ fun H2 e2 => ?_
    cases hb : decide ((j : Int) < (n : Int)) with
    | true =>
      have hlt : j < n := by
        have := of_decide_eq_true hb
        omega
      refine ⟨fun σ2 H3 => ∃ v, σ2 = [some (.int (n : Int)), some v, none] ∧ Ex H H3 ∧ TN N H3 v (dWs (words (j + 1))), fun σ2 H3 hN => ?_, ?_⟩
      · obtain ⟨v, e, ex, tn⟩ := hN
        exact ⟨n - (j + 1), by omega, j + 1, v, rfl, hlt, e, ex, tn⟩
      · have tw2 := tw.mono e2
        have half : ∀ b : Nat, EvD N H2 (tLc (iList K (tVar 1)) (gName 2) tYes (tOp rCat (tLst (tCons (tC (.int (b : Int))) tNil)) (tVar 2)) [2]) [some (.int (n : Int)), some v, none] (.list (((words j).map fun w => b :: w).map dW)) := fun b => by
          rw [List.map_map]
          refine ed_lcA (c := dW) _ (ed_var rfl tw2) (Nat.le_trans (words_le (by omega)) (by decide)) (fun _ => rfl) fun N1 H3 up a ha x tx => ?_
          refine ed_is (ed_op (ed_lst (ea_1 ed_int) (by simp)) (ed_var rfl tx) (rd_cat ?_)) ?_
          · have := (words_mem j a ha).1
            rw [List.length_map, List.length_singleton]
            omega
          · rfl
        refine s_asg (d := dWs (words (j + 1))) ((fr.ext eH).ext e2) (ed_is (ed_op (half 0) (half 1) (rd_cat ?_)) ?_) fun v' H3 e3 t3 => ⟨v', rfl, (eH.trans e2).trans e3, t3⟩
        · have := words_le (n := j) (by omega)
          rw [List.length_map, List.length_map, List.length_map, List.length_map]
          omega
        · unfold dWs
          rw [← List.map_append]
          rfl
    | false =>
      have hge : j = n := by
        have := of_decide_eq_false hb
        omega
      subst hge
      exact s_ret ((fr.ext eH).ext e2) (ed_var rfl (tw.mono e2)) fun z H3 e3 tz => k z H3 ((eH.trans e2).trans e3) tz
/-! ### is_word -/
abbrev sIsw : Stmt := top 2
theorem scIsw : FnScope ["row", "n", "step"] ["row", "n"] (defScope sIsw) := ⟨rfl, rfl, rfl, by decide +kernel, rfl, by decide +kernel, by decide +kernel⟩
def iswP (ns : List Int) (n : Nat) : Bool := (((ns.length : Nat) : Int) == (n : Int)) && (ns.map fun z => ([0, 1] : List Int).contains z).all id
def RIsw (ds : List PyData) (f : PyData) : Prop := ∃ (ns : List Int) (n : Nat), ns.length ≤ 1000 ∧ ds = [.list (ns.map .int), dI n] ∧ f = .bool (iswP ns n)
theorem ok_isw {f : Addr} {fd : FuncData} (F : Fun K "is_word" "is_word" sIsw f fd) (B : Blt mg) : FnOk P w K mg base CX0 1 f fd ["row", "n"] (spR RIsw) := by
  refine F.ok scIsw (fun vs H Q E h => ?_) (fun cdv A outer s H vs Q E hr h => ?_)
  · obtain ⟨N, ds, f, ts, fr, ⟨ns, n, hl, rfl, rfl⟩, k⟩ := h
    exact ts.length
  · obtain ⟨N, ds, f, ts, fr, ⟨ns, n, hl, rfl, rfl⟩, k⟩ := h
    obtain ⟨v, u, rfl, tv, tu⟩ := ts.two
    refine ⟨_, pss_one (ps_ret (pe_and (pe_cmpR op_eq (pe_callB call_len_seq (by rfl) B.len PySem.boot_len (pa_cons (pv 0) pa_nil)) (pv 1) (nomark _))
      (pe_one (pe_callB (cr_all rfl) (by rfl) B.all (by decide +kernel) (pa_cons (pe_lc (own := [("step", 2)]) (g := gName 2) (tt := tYes) rfl scIsw.nd (pi_list (pv 0))
        (blkOk_by (own := [("step", 2)]) (N := ["row", "n", "step"]) (sc := defScope sIsw) (by decide +kernel)) (fun _ _ _ _ _ => pg_name (i := 2) scIsw.nd rfl (Or.inl rfl)) (fun _ _ _ _ _ => pts_nil)
        (fun _ _ _ _ _ => pe_cmpR (r := rIn K false) op_in_seq (pv 2) (pe_tup (pa_cons pe_int (pa_cons pe_int pa_nil))) (by rfl))) pa_nil))))), ?_⟩
    have hc : EvD N H (tLc (iList K (tVar 0)) (gName 2) tYes (tOp (rIn K false) (tVar 2) (tTup (tCons (tC (.int 0)) (tCons (tC (.int 1)) tNil)))) [2]) [some v, some u, none] (.list ((ns.map fun z => ([0, 1] : List Int).contains z).map .bool)) := by
      rw [List.map_map]
      refine ed_lcA (c := PyData.int) _ (ed_var rfl tv) (by omega) (fun _ => rfl) fun N1 H1 up a ha x tx => ?_
      exact ed_op (ed_var rfl tx) (ed_tup (ds := [(0 : Int), 1].map .int) (ea_2 ed_int ed_int) (by simp)) rd_inT
    refine s_ret fr (ed_is (ed_and (ed_op (ed_cb (ea_1 (ed_var rfl tv)) cd_len) (ed_var rfl tu) rd_eq) (ed_cb (ea_1 hc) cd_all)) ?_) k
    rw [List.length_map]
    rfl
end
end Lk
namespace Lk
open PySem PySem.Spec PyProof.Rows L2
open Kqi3 (net words closing own kinds kindsAll way ways first names leaves handed sides begun opposite closes)
section
variable {P : Program} {w : World} {K : PySem.W.Frag} {mg : Str → Option Value} {base : Heap}
/-! ### names_of -/
abbrev sNam : Stmt := top 13
theorem scNam : FnScope ["word", "held"] ["word"] (defScope sNam) := ⟨rfl, rfl, rfl, by decide +kernel, rfl, by decide +kernel, by decide +kernel⟩
def dT (u : List Nat) : PyData := .tuple (u.map dI)
def cI (u : List Nat) : List Int := u.map fun (x : Nat) => (x : Int)
theorem cI_inj {u v : List Nat} (h : cI u = cI v) : u = v := by
  unfold cI at h
  exact List.map_inj_right (fun a b e => by omega) |>.mp h
theorem tups_of {N : Addr → Prop} {H : Hp} : ∀ {vs : List V} {us : List (List Nat)}, TNs N H vs (us.map dT) → ∃ ks : List (Addr × List Int), vs = ks.map (fun p => V.ref p.1) ∧ ks.map (·.2) = us.map cI ∧ ∀ p ∈ ks, H p.1 = some (.tup (p.2.map V.int))
  | _, [], .nil => ⟨[], rfl, rfl, fun p hp => by cases hp⟩
  | _, u :: us, .cons h t => by
    obtain ⟨ks, e1, e2, e3⟩ := tups_of t
    cases h with
    | tup n ha tt =>
      rename_i a xs
      have ex : xs = (cI u).map V.int := TNs.ints (ns := cI u) (by
        unfold cI
        rw [List.map_map]
        exact tt)
      subst ex
      refine ⟨(a, cI u) :: ks, by rw [e1]; rfl, by rw [List.map_cons, List.map_cons, e2], fun p hp => ?_⟩
      rcases List.mem_cons.mp hp with e | hp
      · rw [e]
        exact ha
      · exact e3 p hp
/-- the promise: a new list with as many items as the word has names -/
def spNam : Sp := fun vs H Q _ => ∃ (N : Addr → Prop) (n : Nat) (w : List Nat), TNs N H vs [dW w] ∧ Fr N H ∧ 1 ≤ n ∧ n ≤ 8 ∧ w ∈ kinds n ∧ ∀ p xs H', Ex H H' → H' p = some (.lst xs) → xs.length = (names w).length → Q (.ref p) H'
theorem ok_nam {f f1 : Addr} {fd fd1 : FuncData} (F : Fun K "names_of" "names_of" sNam f fd) (B : Blt mg) (D1 : Df P w K mg base 3 "all_ways" ["word"] (spR RAwy) f1 fd1) : FnOk P w K mg base CX0 4 f fd ["word"] spNam := by
  refine F.ok scNam (fun vs H Q E h => ?_) (fun cdv A outer s H vs Q E hr h => ?_)
  · obtain ⟨N, n, w, ts, _⟩ := h
    exact ts.length
  · obtain ⟨N, n, wd, ts, fr, h1, h8, hw, k⟩ := h
    obtain ⟨v, rfl, tv⟩ := ts.one
    obtain ⟨hn, hb⟩ := words_mem n wd (closing_mem (own_mem (kinds_mem hw))).1
    refine ⟨_, pss_one (ps_ret (pe_callB (cr_sortedT rfl) (by rfl) B.sorted (by decide +kernel) (pa_cons (pe_callTy (cr_setOfT rfl (hu64 hr)) (by rfl) B.set (by decide +kernel) (pa_cons
      (pe_lc (own := [("held", 1)]) (g := gName 1) (tt := tYes) rfl scNam.nd (pi_list (pe_call D1.ok hr (by rfl) D1.mg D1.kp D1.b .nil pass0 (pa_cons (pv 0) pa_nil)))
        (blkOk_by (own := [("held", 1)]) (N := ["word", "held"]) (sc := defScope sNam) (by decide +kernel)) (fun _ _ _ _ _ => pg_name (i := 1) scNam.nd rfl (Or.inl rfl)) (fun _ _ _ _ _ => pts_nil)
        (fun _ _ _ _ _ => pe_callTy (r := fun xs H Q => ∃ p ys, xs = [.ref p] ∧ ((SqL K H p ys ∧ ∀ l, H l = none → Q (.ref l) (upd H l (.tup ys))) ∨ (SqT K H p ys ∧ Q (.ref p) H))) call_tuple_of (by rfl) B.tuple (by decide +kernel) (pa_cons (pv 1) pa_nil))) pa_nil)) pa_nil))), ?_⟩
    have hc : EvD N H (tLc (iList K (tCall (spR RAwy) [] E0 (tCons (tVar 0) tNil))) (gName 1) tYes (tCB (fun xs H Q => ∃ p ys, xs = [.ref p] ∧ ((SqL K H p ys ∧ ∀ l, H l = none → Q (.ref l) (upd H l (.tup ys))) ∨ (SqT K H p ys ∧ Q (.ref p) H))) (tCons (tVar 1) tNil)) [1]) [some v, none] (.list ((ways wd).map dT)) := by
      refine ed_lcA (c := dW) _ (ed_call (ea_1 (ed_var rfl tv)) ⟨wd, by omega, by omega, hb, rfl, rfl⟩) (by rw [ways_len]; omega) (fun _ => rfl) fun N1 H1 up a ha x tx => ?_
      exact ed_cb (ea_1 (ed_var rfl tx)) cd_tuple
    have go : ∀ l H1, Ex H H1 → TN N H1 l (.list ((ways wd).map dT)) → rSetOfT K P w [l] H1 fun y H2 => rSortedT K P w [y] H2 Q := fun l H1 e1 tl => by
      cases tl with
      | lst nl hl tt =>
        rename_i la xs
        obtain ⟨ks, rfl, e2, e3⟩ := tups_of tt
        have kl : ks.length = 4 * wd.length := by
          have := congrArg List.length e2
          rw [List.length_map, List.length_map, ways_len] at this
          exact this
        refine ⟨la, ks, rfl, SqL.of hl, fun p hp => SqT.of (e3 p hp), by omega, fun a L ha hL hks => ?_⟩
        have hm : ∀ p ∈ L, ∃ u, u ∈ ways wd ∧ p.2 = cI u := fun p hp => by
          have : p.2 ∈ ks.map (·.2) := List.mem_map.mpr ⟨p, hL p hp, rfl⟩
          rw [e2] at this
          obtain ⟨u, hu, e⟩ := List.mem_map.mp this
          exact ⟨u, hu, e.symm⟩
        refine ⟨a, L, wd.length, 2, rfl, upd_same, fun p hp => SqT.of (Evl.Ex.new ha _ _ (e3 p (hL p hp))), by omega, fun p hp => ?_, fun L' p hperm hnd _ _ hp => ?_⟩
        · obtain ⟨u, hu, e⟩ := hm p hp
          obtain ⟨ul, ub⟩ := ways_mem hu
          refine ⟨by rw [e]; unfold cI; rw [List.length_map, ul], fun m hmm => ?_⟩
          rw [e] at hmm
          obtain ⟨x, hx, rfl⟩ := List.mem_map.mp hmm
          have := ub hb x hx
          omega
        · refine k p _ _ ((e1.trans (Evl.Ex.new ha)).trans (Evl.Ex.new hp)) upd_same ?_
          rw [List.length_map]
          have hk := List.all_eq_true.mp (of_all8 names_k h1 h8) wd hw
          rw [Bool.and_eq_true, Bool.and_eq_true] at hk
          obtain ⟨⟨n1, n2⟩, n3⟩ := hk
          have n1 := of_decide_eq_true n1
          have m1 : ∀ u, u ∈ names wd ↔ u ∈ ways wd := fun u => ⟨fun h => List.contains_iff_mem.mp (List.all_eq_true.mp n2 u h), fun h => List.contains_iff_mem.mp (List.all_eq_true.mp n3 u h)⟩
          have m2 : ∀ z, z ∈ L'.map (·.2) ↔ z ∈ (names wd).map cI := fun z => by
            have p2 := (hperm.map (·.2)).mem_iff (a := z)
            rw [p2]
            refine ⟨fun h => ?_, fun h => ?_⟩
            · obtain ⟨q, hq, e⟩ := List.mem_map.mp h
              obtain ⟨u, hu, e'⟩ := hm q hq
              exact List.mem_map.mpr ⟨u, (m1 u).mpr hu, by rw [← e, ← e']⟩
            · obtain ⟨u, hu, e⟩ := List.mem_map.mp h
              have : cI u ∈ ks.map (·.2) := by
                rw [e2]
                exact List.mem_map.mpr ⟨u, (m1 u).mp hu, rfl⟩
              obtain ⟨q, hq, e'⟩ := List.mem_map.mp this
              have := hks q hq
              rw [e', e] at this
              exact this
          have nn : ((names wd).map cI).Nodup := by
            rw [List.Nodup, List.pairwise_map]
            exact List.Pairwise.imp (fun hne e => hne (cI_inj e)) n1
          have a1 := len_le_of_sub hnd fun z hz => (m2 z).mp hz
          have a2 := len_le_of_sub nn fun z hz => (m2 z).mpr hz
          rw [List.length_map, List.length_map] at a1 a2
          omega
    exact hc N H Up.refl fr (fun l H1 => rSetOfT K P w [l] H1 fun y H2 => rSortedT K P w [y] H2 Q) go
end
end Lk
namespace Lk
open PySem PySem.Spec PyProof.Rows L2
open Kqi3 (net words closing own kinds kindsAll way ways first names leaves handed sides begun opposite closes)
/-! ### fields -/
theorem lk_here {k : Str} {x : V} {fs : List (Str × V)} : ((k, x) :: fs).lookup k = some x := by rw [List.lookup_cons, beq_self_eq_true]
theorem lk_past {k l : Str} {x : V} {fs : List (Str × V)} (ne : (k == l) = false) : ((l, x) :: fs).lookup k = fs.lookup k := by rw [List.lookup_cons, ne]
theorem put_here {k : Str} {x y : V} {fs : List (Str × V)} : putF k y ((k, x) :: fs) = (k, y) :: fs := if_pos rfl
theorem put_past {k l : Str} {x y : V} {fs : List (Str × V)} (ne : ¬ l = k) : putF k y ((l, x) :: fs) = (l, x) :: putF k y fs := if_neg ne
def fl (n w c o k a : V) : List (Str × V) := [("steps", n), ("words", w), ("closing", c), ("own", o), ("kinds", k), ("all_kinds", a)]
section
variable {n w c o k a y : V}
theorem fl_steps : (fl n w c o k a).lookup ("steps" : Str) = some n := lk_here
theorem fl_words : (fl n w c o k a).lookup ("words" : Str) = some w := (lk_past (by decide +kernel)).trans lk_here
theorem fl_closing : (fl n w c o k a).lookup ("closing" : Str) = some c := (lk_past (by decide +kernel)).trans ((lk_past (by decide +kernel)).trans lk_here)
theorem fl_own : (fl n w c o k a).lookup ("own" : Str) = some o := (lk_past (by decide +kernel)).trans ((lk_past (by decide +kernel)).trans ((lk_past (by decide +kernel)).trans lk_here))
theorem fl_kinds : (fl n w c o k a).lookup ("kinds" : Str) = some k := (lk_past (by decide +kernel)).trans ((lk_past (by decide +kernel)).trans ((lk_past (by decide +kernel)).trans ((lk_past (by decide +kernel)).trans lk_here)))
theorem fl_all : (fl n w c o k a).lookup ("all_kinds" : Str) = some a := (lk_past (by decide +kernel)).trans ((lk_past (by decide +kernel)).trans ((lk_past (by decide +kernel)).trans ((lk_past (by decide +kernel)).trans ((lk_past (by decide +kernel)).trans lk_here))))
/-- a name that is no field -/
theorem fl_none {m : Str} (h1 : (m == ("steps" : Str)) = false) (h2 : (m == ("words" : Str)) = false) (h3 : (m == ("closing" : Str)) = false) (h4 : (m == ("own" : Str)) = false) (h5 : (m == ("kinds" : Str)) = false) (h6 : (m == ("all_kinds" : Str)) = false) : (fl n w c o k a).lookup m = none :=
  (lk_past h1).trans ((lk_past h2).trans ((lk_past h3).trans ((lk_past h4).trans ((lk_past h5).trans ((lk_past h6).trans rfl)))))
theorem fp_steps : putF "steps" y (fl n w c o k a) = fl y w c o k a := put_here
theorem fp_words : putF "words" y (fl n w c o k a) = fl n y c o k a := (put_past (by decide +kernel)).trans (congrArg _ put_here)
theorem fp_closing : putF "closing" y (fl n w c o k a) = fl n w y o k a := (put_past (by decide +kernel)).trans (congrArg _ ((put_past (by decide +kernel)).trans (congrArg _ put_here)))
theorem fp_own : putF "own" y (fl n w c o k a) = fl n w c y k a := (put_past (by decide +kernel)).trans (congrArg _ ((put_past (by decide +kernel)).trans (congrArg _ ((put_past (by decide +kernel)).trans (congrArg _ put_here)))))
theorem fp_kinds : putF "kinds" y (fl n w c o k a) = fl n w c o y a := (put_past (by decide +kernel)).trans (congrArg _ ((put_past (by decide +kernel)).trans (congrArg _ ((put_past (by decide +kernel)).trans (congrArg _ ((put_past (by decide +kernel)).trans (congrArg _ put_here)))))))
theorem fp_all : putF "all_kinds" y (fl n w c o k a) = fl n w c o k y := (put_past (by decide +kernel)).trans (congrArg _ ((put_past (by decide +kernel)).trans (congrArg _ ((put_past (by decide +kernel)).trans (congrArg _ ((put_past (by decide +kernel)).trans (congrArg _ ((put_past (by decide +kernel)).trans (congrArg _ put_here)))))))))
end
/-- what the top has written of the class and of the constants -/
structure Txt (K : PySem.W.Frag) (mg : Str → Option Value) (C : Addr) : Prop where
  cl : Cls K C
  nS : NoAttr K C "steps"
  nW : NoAttr K C "words"
  nC : NoAttr K C "closing"
  nO : NoAttr K C "own"
  nK : NoAttr K C "kinds"
  nA : NoAttr K C "all_kinds"
/-- the module's name x holds the int i; the written tuple of these ints -/
def CI (mg : Str → Option Value) (x : Str) (i : Int) : Prop := ∃ t, mg x = some (.int i t)
def CT (K : PySem.W.Frag) (mg : Str → Option Value) (x : Str) (ns : List Int) : Prop := ∃ a, mg x = some (.ref a) ∧ ∀ H, SqT K H a (ns.map V.int)
def cwN : List Int := [0, 6, 7, 9, 10, 12, 15, 16]
def cwW : List Int := [8, 14]
structure Cst (K : PySem.W.Frag) (mg : Str → Option Value) : Prop where
  START : CI mg "START" 0
  WORDS : CI mg "WORDS" 1
  CLOSING : CI mg "CLOSING" 2
  OWN : CI mg "OWN" 3
  KINDS : CI mg "KINDS" 4
  ALL : CI mg "ALL_KINDS" 5
  KTH : CI mg "KTH" 6
  KTHA : CI mg "KTH_ALL" 7
  WHICH : CI mg "WHICH" 8
  SIDES : CI mg "SIDES" 9
  LEAVING : CI mg "LEAVING" 10
  HANDED : CI mg "HANDED" 11
  FIXED : CI mg "FIXED" 12
  SUM : CI mg "SUM" 13
  NEXT : CI mg "NEXT" 14
  NAMES : CI mg "NAMES" 15
  MOST : CI mg "MOST_STEPS" 8
  NSK : CI mg "NO_SUCH_KIND" (-2)
  NST : CI mg "NOT_STARTED" (-11)
  NLT : CI mg "NOT_LET" (-22)
  NFD : CI mg "NOT_FOUND" (-33)
  CWN : CT K mg "CALLS_WITH_NUMBER" cwN
  CWW : CT K mg "CALLS_WITH_WORD" cwW
section
variable {X : Cx}
theorem pe_ci {x : Str} {i : Int} {pos : Pos} (h : CI X.mg x i) (hg : Gl X x) (hd : (x == ("__debug__" : Str)) = false := by decide) : PE X (.Name x pos) (tC (.int i)) := by
  obtain ⟨t, e⟩ := h
  exact pe_glob hg e ⟨t, rfl⟩ hd
end
section
variable {K : PySem.W.Frag} {N : Addr → Prop} {H : Hp} {σ : L2.St} {ta tb te tx : TE} {t u : TT} {x y z v : V} {r : R2} {d e f : PyData} {ds : List PyData} {C dx s : Addr} {fs : List (Str × V)}
theorem ed_fld {i : Nat} {g : Str} (h : σ[i]? = some (some (.ref s))) (hs : H s = some (.ins C dx fs)) (cl : Cls K C) (na : NoAttr K C g) (hl : fs.lookup g = some v) (tv : TN N H v d) : EvD N H (tFld K (tVar i) g) σ d :=
  fun N1 H1 w fr Q q => ⟨_, h, s, C, dx, fs, v, rfl, w.ex _ _ hs, cl, na, hl, q v H1 (Evl.Ex.refl _) (w.tn _ _ tv)⟩
theorem ed_inK {a : Addr} {i : Int} {ns : List Int} (ha : EvD N H ta σ (.int i)) (hs : ∀ H, SqT K H a (ns.map V.int)) : EvD N H (tOp (rIn K false) ta (tC (.ref a))) σ (.bool (ns.contains i)) := fun N1 H1 w fr Q q => ha N1 H1 w fr _ fun x H2 e2 tx => by
  cases tx
  refine ⟨_, _, rfl, .inr (hs H2), rfl, flat_ints ns, ?_⟩
  show Q (.bl (inV (.int i) (ns.map V.int))) H2
  rw [inV_ints]
  exact q _ H2 e2 (.bl _)
/-- the request's list, which is only read -/
theorem ed_ixQ {i : Nat} {a : Addr} {ns : List Int} {j z : Int} (h : σ[i]? = some (some (.ref a))) (hs : SqL K H a (ns.map V.int)) (hb : EvD N H tb σ (.int j)) (hz : atI ns j = some z) : EvD N H (tOp (rIxL K) (tVar i) tb) σ (.int z) := fun N1 H1 w fr Q q =>
  ⟨_, h, hb N1 H1 w fr _ fun y H2 e2 ty => by
    cases ty
    refine ⟨a, _, j, .int z, rfl, rfl, Evl.ex_l (w.ex.trans e2) hs, ?_, q _ H2 e2 (.int _)⟩
    unfold atI at hz ⊢
    rw [List.length_map]
    cases e : ixN ns.length j with
    | none => rw [e] at hz; exact absurd hz (by simp)
    | some k =>
      rw [e] at hz
      have hz' : ns[k]? = some z := hz
      show (ns.map V.int)[k]? = _
      rw [List.getElem?_map, hz']
      rfl⟩
theorem ed_slQ {i : Nat} {a : Addr} {ns : List Int} {tl th : TO} {lo hi : Nat} (h : σ[i]? = some (some (.ref a))) (hs : SqL K H a (ns.map V.int)) (h1 : EvO N H tl σ (some (lo : Int))) (h2 : EvO N H th σ (some (hi : Int))) (hh : hi ≤ ns.length) :
    EvD N H (tSl (rSlL K) (tVar i) tl th) σ (.list (((ns.drop lo).take (hi - lo)).map .int)) := fun N1 H1 w fr Q q =>
  ⟨_, h, h1 N1 H1 w fr _ fun H2 e2 => h2 N1 H2 (w.ext e2) (fr.ext e2) _ fun H3 e3 => by
    refine ⟨a, _, rfl, Evl.ex_l ((w.ex.trans e2).trans e3) hs, fun p hp => q _ _ ((e2.trans e3).trans (Evl.Ex.new hp)) (new_lst ((fr.ext e2).ext e3) hp ?_)⟩
    unfold cutV
    rw [HT.sIx_nat, HT.sIx_nat, List.length_map, Nat.min_eq_left hh]
    have e : ((ns.map V.int).drop (min lo ns.length)).take (hi - min lo ns.length) = ((ns.drop lo).take (hi - lo)).map V.int := by
      rw [List.map_take, List.map_drop]
      by_cases hl : lo ≤ ns.length
      · rw [Nat.min_eq_left hl]
      · rw [Nat.min_eq_right (by omega), List.drop_eq_nil_of_le (by rw [List.length_map]; omega), List.drop_eq_nil_of_le (by rw [List.length_map]; omega), List.take_nil, List.take_nil]
    rw [e]
    exact TNs.ofInts _⟩
theorem q_fld {i : Nat} {g : Str} {tv : TE} {D : Ends} {tz : TS} (fr : Fr N H) (h : EvD N H tv σ d) (hσ : σ[i]? = some (some (.ref s))) (hs : H s = some (.ins C dx fs)) (cl : Cls K C) (na : NoAttr K C g) (hl : fs.length < 1000)
    (k : ∀ y H1, Ex H H1 → TN N H1 y d → H1 s = some (.ins C dx fs) → tz D σ (upd H1 s (.ins C dx (putF g y fs)))) : tSeq (sFld K (tVar i) tv g) tz D σ H :=
  h N H Up.refl fr _ fun y H1 e1 ty => ⟨_, hσ, s, C, dx, fs, rfl, e1 _ _ hs, cl, na, hl, k y H1 e1 ty (e1 _ _ hs)⟩
theorem Fr.upd {o o' : HO} {a : Addr} (fr : Fr N H) (h : H a = some o) : Fr N (upd H a o') := fun b hb => fr b (by
  by_cases e : b = a
  · subst e
    rw [upd_same] at hb
    cases hb
  · rw [upd_ne e] at hb
    exact hb)
end
/-- a row of ints as data -/
def dA (l : List Int) : PyData := .list (l.map .int)
theorem dA_W (l : List Nat) : dA (cI l) = dW l := (dW_ints l).symm
section
variable {P : Program} {w : World} {K : PySem.W.Frag} {mg : Str → Option Value} {base : Heap}
/-! ### told_word -/
abbrev sTld : Stmt := top 42
theorem scTld : FnScope ["words", "k", "refusal"] ["words", "k", "refusal"] (defScope sTld) := ⟨rfl, rfl, rfl, by decide +kernel, rfl, by decide +kernel, by decide +kernel⟩
def toldP (ws : List (List Nat)) (k : Nat) (r : Int) : List Int := match ws[k]? with
  | none => [r]
  | some w => (w.length : Int) :: cI w
def RTld (ds : List PyData) (f : PyData) : Prop := ∃ (ws : List (List Nat)) (k : Nat) (r : Int), (∀ w ∈ ws, w.length ≤ 8) ∧ ds = [dWs ws, dI k, .int r] ∧ f = dA (toldP ws k r)
theorem ok_tld {f : Addr} {fd : FuncData} (F : Fun K "told_word" "told_word" sTld f fd) (B : Blt mg) : FnOk P w K mg base CX0 1 f fd ["words", "k", "refusal"] (spR RTld) := by
  refine F.ok scTld (fun vs H Q E h => ?_) (fun cdv A outer s H vs Q E hr h => ?_)
  · obtain ⟨N, ds, f, ts, fr, ⟨ws, i, r, hw, rfl, rfl⟩, k⟩ := h
    exact ts.length
  · obtain ⟨N, ds, f, ts, fr, ⟨ws, i, r, hw, rfl, rfl⟩, k⟩ := h
    obtain ⟨v, u, x, rfl, tv, tu, tx⟩ := ts.three
    refine ⟨_, pss_cons (ps_if (pt_cmpR op_ge (pv 1) (pe_callB call_len_seq (by rfl) B.len PySem.boot_len (pa_cons (pv 0) pa_nil)) (nomark _)) (pss_one (ps_ret (pe_lst (pa_cons (pv 2) pa_nil)))) pss_nil)
      (pss_one (ps_ret (pe_op op_cat (pe_lst (pa_cons (pe_callB call_len_seq (by rfl) B.len PySem.boot_len (pa_cons (pe_ix ix_list (pv 0) (pv 1) (fun _ _ => rfl)) pa_nil)) pa_nil)) (pe_ix ix_list (pv 0) (pv 1) (fun _ _ => rfl))))), ?_⟩
    refine q_when fr (et_test (ed_op (ed_var rfl tu) (ed_cb (ea_1 (ed_var rfl tv)) cd_len) rd_bool)) (fun hb H1 e1 => ?_) (fun hb H1 e1 => ?_)
    · have hle : ws.length ≤ i := by
        have := of_decide_eq_true hb
        rw [List.length_map] at this
        omega
      refine s_ret (fr.ext e1) (ed_is (ed_lst (ea_1 (ed_var rfl (tx.mono e1))) (by simp)) ?_) fun z H2 e2 tz => k z H2 (e1.trans e2) tz
      unfold toldP
      rw [List.getElem?_eq_none hle]
      rfl
    · have hlt : i < ws.length := by
        have := of_decide_eq_false hb
        rw [List.length_map] at this
        omega
      have hx : ws[i]? = some ws[i] := List.getElem?_eq_getElem hlt
      have hat : atI (ws.map dW) (i : Int) = some (dW ws[i]) := atI_nat (by rw [List.getElem?_map, hx]; rfl)
      have hl := hw _ (List.getElem_mem hlt)
      have hix : EvD N H1 (tOp (rIxL K) (tVar 0) (tVar 1)) [some v, some u, some x] (dW ws[i]) := ed_op (ed_var rfl (tv.mono e1)) (ed_var rfl (tu.mono e1)) (rd_ix hat)
      refine s_ret (fr.ext e1) (ed_is (ed_op (ed_lst (ea_1 (ed_cb (ea_1 hix) cd_len)) (by simp)) hix (rd_cat ?_)) ?_) fun z H2 e2 tz => k z H2 (e1.trans e2) tz
      · rw [List.length_map, List.length_singleton]
        omega
      · unfold toldP
        rw [hx, List.length_map]
        show _ = dA ((ws[i].length : Int) :: cI ws[i])
        unfold dA cI
        rw [List.map_cons, List.map_map]
        rfl
/-! ### given_at, place_behind -/
abbrev sGiv : Stmt := top 43
abbrev sPlb : Stmt := top 44
theorem scGiv : FnScope ["calls", "place"] ["calls", "place"] (defScope sGiv) := ⟨rfl, rfl, rfl, by decide +kernel, rfl, by decide +kernel, by decide +kernel⟩
theorem scPlb : FnScope ["calls", "place"] ["calls", "place"] (defScope sPlb) := ⟨rfl, rfl, rfl, by decide +kernel, rfl, by decide +kernel, by decide +kernel⟩
/-- one call at the head of a list: its number, what is handed in with it, how many numbers it takes -/
inductive Cut : List Int → Int → List Int → Nat → Prop
  | num {p a : Int} {r : List Int} (h : cwN.contains p = true) : Cut (p :: a :: r) p [a] 2
  | word {p : Int} {m : Nat} {r : List Int} (h0 : cwN.contains p = false) (h : cwW.contains p = true) (hm : m ≤ r.length) : Cut (p :: (m : Int) :: r) p (r.take m) (2 + m)
  | alone {p : Int} {r : List Int} (h0 : cwN.contains p = false) (h : cwW.contains p = false) : Cut (p :: r) p [] 1
def spGiv (K : PySem.W.Frag) : Sp := fun vs H Q _ => ∃ (N : Addr → Prop) (a : Addr) (ns : List Int) (i : Nat) (p : Int) (g : List Int) (m : Nat), vs = [.ref a, .int (i : Int)] ∧ SqL K H a (ns.map V.int) ∧ Fr N H ∧ Cut (ns.drop i) p g m ∧
  ∀ z H', Ex H H' → TN N H' z (dA g) → Q z H'
def spPlb (K : PySem.W.Frag) : Sp := fun vs H Q _ => ∃ (N : Addr → Prop) (a : Addr) (ns : List Int) (i : Nat) (p : Int) (g : List Int) (m : Nat), vs = [.ref a, .int (i : Int)] ∧ SqL K H a (ns.map V.int) ∧ Fr N H ∧ Cut (ns.drop i) p g m ∧
  ∀ H', Ex H H' → Q (.int ((i + m : Nat) : Int)) H'
theorem drop_at {ns : List Int} {i j : Nat} {r : List Int} {z : Int} (h : ns.drop i = r) (hz : r[j]? = some z) : atI ns ((i + j : Nat) : Int) = some z := by
  refine atI_nat ?_
  rw [← List.getElem?_drop, h]
  exact hz
theorem ok_giv {f : Addr} {fd : FuncData} (F : Fun K "given_at" "given_at" sGiv f fd) (Z : Cst K mg) : FnOk P w K mg base CX0 1 f fd ["calls", "place"] (spGiv K) := by
  refine F.ok scGiv (fun vs H Q E h => ?_) (fun cdv A outer s H vs Q E hr h => ?_)
  · obtain ⟨N, a, ns, i, p, g, m, rfl, _⟩ := h
    rfl
  · obtain ⟨N, a, ns, i, p, g, m, rfl, hs, fr, hc, k⟩ := h
    obtain ⟨aN, mN, sN⟩ := Z.CWN
    obtain ⟨aW, mW, sW⟩ := Z.CWW
    refine ⟨_, pss_cons (ps_if (pt_cmpR op_in_seq (pe_ix ix_list (pv 0) (pv 1) (fun _ _ => rfl)) (pe_glob rfl mN (v := .ref aN) rfl) (by rfl)) (pss_one (ps_ret (pe_lst (pa_cons (pe_ix ix_list (pv 0) (pe_op op_add (pv 1) pe_int) (fun _ _ => rfl)) pa_nil)))) pss_nil)
      (pss_cons (ps_if (pt_cmpR op_in_seq (pe_ix ix_list (pv 0) (pv 1) (fun _ _ => rfl)) (pe_glob rfl mW (v := .ref aW) rfl) (by rfl)) (pss_one (ps_ret (pe_slice sl_list (pv 0) (po_some (pe_op op_add (pv 1) pe_int)) (po_some (pe_op op_add (pe_op op_add (pv 1) pe_int) (pe_ix ix_list (pv 0) (pe_op op_add (pv 1) pe_int) (fun _ _ => rfl))))))) pss_nil)
      (pss_one (ps_ret (pe_lst pa_nil)))), ?_⟩
    have hp : EvD N H (tOp (rIxL K) (tVar 0) (tVar 1)) [some (.ref a), some (.int (i : Int))] (.int p) := by
      refine ed_ixQ (j := (i : Int)) rfl hs (ed_var rfl (.int _)) ?_
      have h0 : (ns.drop i)[0]? = some p := by
        cases e : ns.drop i with
        | nil => rw [e] at hc; cases hc
        | cons q r => rw [e] at hc; cases hc <;> rfl
      exact drop_at (i := i) (j := 0) rfl h0
    have nx : ∀ (H1 : Hp) (z : Int), Ex H H1 → (ns.drop i)[1]? = some z → EvD N H1 (tOp (rIxL K) (tVar 0) (tOp (rI0 fun i j => .int (i + j)) (tVar 1) (tC (.int 1)))) [some (.ref a), some (.int (i : Int))] (.int z) := fun H1 z e1 hz =>
      ed_ixQ (j := ((i + 1 : Nat) : Int)) rfl (Evl.ex_l e1 hs) (ed_is (ed_op (ed_var rfl (.int _)) ed_int rd_int) (by show PyData.int ((i : Int) + 1) = _; rw [Int.natCast_add]; rfl)) (drop_at rfl hz)
    refine q_when fr (et_test (ed_inK hp sN)) (fun hb H1 e1 => ?_) (fun hb H1 e1 => ?_)
    · generalize hD : ns.drop i = l at hc
      cases hc with
      | num h => exact s_ret (fr.ext e1) (ed_lst (ea_1 (nx H1 _ e1 (by rw [hD]; rfl))) (by simp)) fun z H2 e2 tz => k z H2 (e1.trans e2) tz
      | word h0 h hm => rw [h0] at hb; cases hb
      | alone h0 h => rw [h0] at hb; cases hb
    · refine q_when (fr.ext e1) (et_test (ed_inK (hp.up (Up.of e1)) sW)) (fun hb2 H2 e2 => ?_) (fun hb2 H2 e2 => ?_)
      · generalize hD : ns.drop i = l at hc
        cases hc with
        | num h => rw [h] at hb; cases hb
        | word h0 h hm =>
          rename_i m r
          have e12 := e1.trans e2
          have hlen : i + 2 + m ≤ ns.length := by
            have := congrArg List.length hD
            rw [List.length_drop, List.length_cons, List.length_cons] at this
            omega
          have el : ns.drop (i + 2) = r := by
            rw [← List.drop_drop, hD]
            rfl
          have a2 : EvD N H2 (tOp (rI0 fun i j => .int (i + j)) (tVar 1) (tC (.int 2))) [some (.ref a), some (.int (i : Int))] (.int ((i + 2 : Nat) : Int)) := ed_is (ed_op (ed_var rfl (.int _)) ed_int rd_int) (by show PyData.int ((i : Int) + 2) = _; rw [Int.natCast_add]; rfl)
          refine s_ret ((fr.ext e1).ext e2) (ed_is (ed_slQ (lo := i + 2) (hi := i + 2 + m) rfl (Evl.ex_l e12 hs) (eo_some a2) (eo_some (ed_is (ed_op a2 (nx H2 (m : Int) e12 (by rw [hD]; rfl)) rd_int) (by rw [Int.natCast_add (i + 2) m]))) hlen) ?_) fun z H3 e3 tz => k z H3 (e12.trans e3) tz
          rw [el, show i + 2 + m - (i + 2) = m by omega]
          rfl
        | alone h0 h => rw [h] at hb2; cases hb2
      · generalize hD : ns.drop i = l at hc
        cases hc with
        | num h => rw [h] at hb; cases hb
        | word h0 h hm => rw [h] at hb2; cases hb2
        | alone h0 h => exact s_ret ((fr.ext e1).ext e2) (ed_lst ea_nil (by simp)) fun z H3 e3 tz => k z H3 ((e1.trans e2).trans e3) tz
theorem ok_plb {f : Addr} {fd : FuncData} (F : Fun K "place_behind" "place_behind" sPlb f fd) (Z : Cst K mg) : FnOk P w K mg base CX0 1 f fd ["calls", "place"] (spPlb K) := by
  refine F.ok scPlb (fun vs H Q E h => ?_) (fun cdv A outer s H vs Q E hr h => ?_)
  · obtain ⟨N, a, ns, i, p, g, m, rfl, _⟩ := h
    rfl
  · obtain ⟨N, a, ns, i, p, g, m, rfl, hs, fr, hc, k⟩ := h
    obtain ⟨aN, mN, sN⟩ := Z.CWN
    obtain ⟨aW, mW, sW⟩ := Z.CWW
    refine ⟨_, pss_cons (ps_if (pt_cmpR op_in_seq (pe_ix ix_list (pv 0) (pv 1) (fun _ _ => rfl)) (pe_glob rfl mN (v := .ref aN) rfl) (by rfl)) (pss_one (ps_ret (pe_op op_add (pv 1) pe_int))) pss_nil)
      (pss_cons (ps_if (pt_cmpR op_in_seq (pe_ix ix_list (pv 0) (pv 1) (fun _ _ => rfl)) (pe_glob rfl mW (v := .ref aW) rfl) (by rfl)) (pss_one (ps_ret (pe_op op_add (pe_op op_add (pv 1) pe_int) (pe_ix ix_list (pv 0) (pe_op op_add (pv 1) pe_int) (fun _ _ => rfl))))) pss_nil)
      (pss_one (ps_ret (pe_op op_add (pv 1) pe_int)))), ?_⟩
    have hp : EvD N H (tOp (rIxL K) (tVar 0) (tVar 1)) [some (.ref a), some (.int (i : Int))] (.int p) := by
      refine ed_ixQ (j := (i : Int)) rfl hs (ed_var rfl (.int _)) ?_
      have h0 : (ns.drop i)[0]? = some p := by
        cases e : ns.drop i with
        | nil => rw [e] at hc; cases hc
        | cons q r => rw [e] at hc; cases hc <;> rfl
      exact drop_at (i := i) (j := 0) rfl h0
    have pl : ∀ (H1 : Hp) (j : Nat), EvD N H1 (tOp (rI0 fun i j => .int (i + j)) (tVar 1) (tC (.int (j : Int)))) [some (.ref a), some (.int (i : Int))] (.int ((i + j : Nat) : Int)) := fun H1 j => ed_is (ed_op (ed_var rfl (.int _)) ed_int rd_int) (by rw [Int.natCast_add])
    have fin : ∀ (H1 : Hp) (z : V) (j : Nat) , Ex H H1 → TN N H1 z (.int ((i + j : Nat) : Int)) → m = j → Q z H1 := fun H1 z j e1 tz ej => by
      cases tz
      subst ej
      exact k H1 e1
    refine q_when fr (et_test (ed_inK hp sN)) (fun hb H1 e1 => ?_) (fun hb H1 e1 => ?_)
    · refine s_ret (fr.ext e1) (pl H1 2) fun z H2 e2 tz => fin H2 z 2 (e1.trans e2) tz ?_
      generalize ns.drop i = l at hc
      cases hc with
      | num h => rfl
      | word h0 h hm => rw [h0] at hb; cases hb
      | alone h0 h => rw [h0] at hb; cases hb
    · refine q_when (fr.ext e1) (et_test (ed_inK (hp.up (Up.of e1)) sW)) (fun hb2 H2 e2 => ?_) (fun hb2 H2 e2 => ?_)
      · generalize hD : ns.drop i = l at hc
        cases hc with
        | num h => rw [h] at hb; cases hb
        | word h0 h hm =>
          rename_i m r
          have e12 := e1.trans e2
          have nx : EvD N H2 (tOp (rIxL K) (tVar 0) (tOp (rI0 fun i j => .int (i + j)) (tVar 1) (tC (.int 1)))) [some (.ref a), some (.int (i : Int))] (.int (m : Int)) :=
            ed_ixQ rfl (Evl.ex_l e12 hs) (pl H2 1) (drop_at (j := 1) rfl (by rw [hD]; rfl))
          refine s_ret ((fr.ext e1).ext e2) (ed_is (ed_op (pl H2 2) nx rd_int) (e := .int ((i + (2 + m) : Nat) : Int)) ?_) fun z H3 e3 tz => fin H3 z (2 + m) (e12.trans e3) tz rfl
          congr 1
          omega
        | alone h0 h => rw [h] at hb2; cases hb2
      · refine s_ret ((fr.ext e1).ext e2) (pl H2 1) fun z H3 e3 tz => fin H3 z 1 ((e1.trans e2).trans e3) tz ?_
        generalize ns.drop i = l at hc
        cases hc with
        | num h => rw [h] at hb; cases hb
        | word h0 h hm => rw [h] at hb2; cases hb2
        | alone h0 h => rfl
end
end Lk
namespace Lk
open PySem PySem.Spec PyProof.Rows L2
open Kqi3 (net words closing own kinds kindsAll way ways first names leaves handed sides begun opposite closes)
/-- the answer to a call on an object whose words have n steps -/
def ans (n : Nat) (c : Kqi3.Call) : List Int := Kqi3Neutral.tell (Kqi3.step (some n) c).2
/-- the object, once begun: its words have n steps -/
structure ObjS (C : Addr) (N : Addr → Prop) (H : Hp) (s : Addr) (n : Nat) (dx : Addr) (vw vc vo vk va : V) : Prop where
  h1 : 1 ≤ n
  h8 : n ≤ 8
  at_ : H s = some (.ins C dx (fl (.int (n : Int)) vw vc vo vk va))
  tw : TN N H vw (dWs (words n))
  tc : TN N H vc (dWs (closing n))
  to : TN N H vo (dWs (own n))
  tk : TN N H vk (dWs (kinds n))
  ta : TN N H va (dWs (kindsAll n))
theorem ObjS.ext {C : Addr} {N N' : Addr → Prop} {H H' : Hp} {s : Addr} {n : Nat} {dx : Addr} {vw vc vo vk va : V} (o : ObjS C N H s n dx vw vc vo vk va) (u : Up N H N' H') : ObjS C N' H' s n dx vw vc vo vk va :=
  ⟨o.h1, o.h8, u.ex _ _ o.at_, u.tn _ _ o.tw, u.tn _ _ o.tc, u.tn _ _ o.to, u.tn _ _ o.tk, u.tn _ _ o.ta⟩
/-- the promise of a method that changes nothing -/
def spQ (C : Addr) (R : Nat → List PyData → PyData → Prop) : Sp := fun vs H Q _ => ∃ (N : Addr → Prop) (s : Addr) (n : Nat) (dx : Addr) (vw vc vo vk va : V) (us : List V) (ds : List PyData) (f : PyData),
  vs = .ref s :: us ∧ ObjS C N H s n dx vw vc vo vk va ∧ TNs N H us ds ∧ Fr N H ∧ R n ds f ∧ ∀ z H', Ex H H' → TN N H' z f → Q z H'
section
variable {K : PySem.W.Frag} {mg : Str → Option Value} {C : Addr} {N : Addr → Prop} {H : Hp} {s dx : Addr} {n i : Nat} {vw vc vo vk va : V} {σ : L2.St}
theorem of_steps (T : Txt K mg C) (o : ObjS C N H s n dx vw vc vo vk va) (h : σ[i]? = some (some (.ref s))) : EvD N H (tFld K (tVar i) "steps") σ (dI n) := ed_fld h o.at_ T.cl T.nS fl_steps (.int _)
theorem of_words (T : Txt K mg C) (o : ObjS C N H s n dx vw vc vo vk va) (h : σ[i]? = some (some (.ref s))) : EvD N H (tFld K (tVar i) "words") σ (dWs (words n)) := ed_fld h o.at_ T.cl T.nW fl_words o.tw
theorem of_closing (T : Txt K mg C) (o : ObjS C N H s n dx vw vc vo vk va) (h : σ[i]? = some (some (.ref s))) : EvD N H (tFld K (tVar i) "closing") σ (dWs (closing n)) := ed_fld h o.at_ T.cl T.nC fl_closing o.tc
theorem of_own (T : Txt K mg C) (o : ObjS C N H s n dx vw vc vo vk va) (h : σ[i]? = some (some (.ref s))) : EvD N H (tFld K (tVar i) "own") σ (dWs (own n)) := ed_fld h o.at_ T.cl T.nO fl_own o.to
theorem of_kinds (T : Txt K mg C) (o : ObjS C N H s n dx vw vc vo vk va) (h : σ[i]? = some (some (.ref s))) : EvD N H (tFld K (tVar i) "kinds") σ (dWs (kinds n)) := ed_fld h o.at_ T.cl T.nK fl_kinds o.tk
theorem of_all (T : Txt K mg C) (o : ObjS C N H s n dx vw vc vo vk va) (h : σ[i]? = some (some (.ref s))) : EvD N H (tFld K (tVar i) "all_kinds") σ (dWs (kindsAll n)) := ed_fld h o.at_ T.cl T.nA fl_all o.ta
theorem closing_le {n : Nat} (h8 : n ≤ 8) : (closing n).length ≤ 256 := Nat.le_trans (List.length_filter_le _ _) (words_le h8)
theorem own_le {n : Nat} (h8 : n ≤ 8) : (own n).length ≤ 256 := Nat.le_trans (List.length_filter_le _ _) (closing_le h8)
theorem kinds_le {n : Nat} (h8 : n ≤ 8) : (kinds n).length ≤ 256 := Nat.le_trans (List.length_filter_le _ _) (own_le h8)
theorem ints_dI (l : List Nat) : l.map dI = (l.map fun (x : Nat) => (x : Int)).map PyData.int := by
  rw [List.map_map]
  rfl
theorem dA_one (z : Int) : dA [z] = .list [.int z] := rfl
end
/-! a call of a method that changes nothing -/
section
variable {K : PySem.W.Frag} {C : Addr} {N : Addr → Prop} {H : Hp} {s dx : Addr} {n i : Nat} {vw vc vo vk va : V} {σ : L2.St} {R : Nat → List PyData → PyData → Prop} {m : Str} {E : XK} {tr : TA} {ds : List PyData} {f : PyData}
theorem ed_meth (h : σ[i]? = some (some (.ref s))) (o : ObjS C N H s n dx vw vc vo vk va) (hm : (fl (.int (n : Int)) vw vc vo vk va).lookup m = none) (ha : EvA N H tr σ ds) (hr : R n ds f) : EvD N H (tMeth C m (spQ C R) [] E (tVar i) tr) σ f := fun N1 H1 w fr Q q =>
  ⟨_, h, s, dx, _, rfl, w.ex _ _ o.at_, hm, ha N1 H1 w fr _ fun vs H2 e2 ts => ⟨N1, s, n, dx, vw, vc, vo, vk, va, vs, ds, f, by rw [List.append_nil], o.ext (w.ext e2), ts, fr.ext e2, hr, fun z H3 e3 tz => q z H3 (e2.trans e3) tz⟩⟩
end
section
variable {P : Program} {w : World} {K : PySem.W.Frag} {mg : Str → Option Value} {base : Heap} {C : Addr}
abbrev sCls : Stmt := top 41
/-! ### sides -/
abbrev sSid : Stmt := inClass sCls 5
theorem scSid : FnScope ["self", "h", "kind"] ["self", "h"] (defScope sSid) := ⟨rfl, rfl, rfl, by decide +kernel, rfl, by decide +kernel, by decide +kernel⟩
def RSid (n : Nat) (ds : List PyData) (f : PyData) : Prop := ∃ h : Nat, ds = [dI h] ∧ f = dA (ans n (.sides h))
theorem beq_cast (a b : Nat) : (((a : Nat) : Int) == ((b : Nat) : Int)) = (a == b) := by
  by_cases h : a = b
  · rw [h]; simp
  · rw [beq_eq_false_iff_ne.mpr h, beq_eq_false_iff_ne.mpr (by omega)]
theorem ok_sid {f f1 : Addr} {fd fd1 : FuncData} (F : Fun K "sides" "Stackings.sides" sSid f fd) (B : Blt mg) (T : Txt K mg C) (D1 : Df P w K mg base 1 "count_like_neighbours" ["word"] (spR RCln) f1 fd1) : FnOk P w K mg base CX0 2 f fd ["self", "h"] (spQ C RSid) := by
  refine F.ok scSid (fun vs H Q E h => ?_) (fun cdv A outer s H vs Q E hr h => ?_)
  · obtain ⟨N, s, n, dx, vw, vc, vo, vk, va, us, ds, f, rfl, o, ts, fr, ⟨h, rfl, rfl⟩, k⟩ := h
    exact congrArg (· + 1) ts.length
  · obtain ⟨N, s, n, dx, vw, vc, vo, vk, va, us, ds, f, rfl, o, ts, fr, ⟨hh, rfl, rfl⟩, k⟩ := h
    obtain ⟨v, rfl, tv⟩ := ts.one
    refine ⟨_, pss_one (ps_ret (pe_lst (pa_cons (pe_callB call_len_seq (by rfl) B.len PySem.boot_len (pa_cons (pe_lc (own := [("kind", 2)]) (g := gName 2) rfl scSid.nd (pi_list (pe_fld (pv 0) rfl))
      (blkOk_by (own := [("kind", 2)]) (N := ["self", "h", "kind"]) (sc := defScope sSid) (by decide +kernel)) (fun _ _ _ _ _ => pg_name (i := 2) scSid.nd rfl (Or.inl rfl))
      (fun _ _ _ _ _ => pts_one (pt_cmpR op_eq (pe_call D1.ok hr (by rfl) D1.mg D1.kp D1.b .nil pass0 (pa_cons (pv 2) pa_nil)) (pv 1) (nomark _))) (fun _ _ _ _ _ => pv 2)) pa_nil)) pa_nil))), ?_⟩
    have hc : EvD N H (tLc (iList K (tFld K (tVar 0) "kinds")) (gName 2) (tTest (tOp rEq (tCall (spR RCln) [] E0 (tCons (tVar 2) tNil)) (tVar 1))) (tVar 2) [2]) [some (.ref s), some v, none] (.list (((kinds n).filter fun w => sides w == hh).map dW)) := by
      refine ed_lcM (c := dW) _ _ (of_kinds T o rfl) (Nat.le_trans (kinds_le o.h8) (by decide)) (fun _ => rfl) (fun N1 H1 up a ha x tx => ?_) (fun N1 H1 up a ha x tx _ => ed_var rfl tx)
      exact et_is (et_test (ed_op (ed_call (ea_1 (ed_var rfl tx)) ⟨n, a, o.h1, o.h8, ha, rfl, rfl⟩) (ed_var rfl (up.tn _ _ tv)) rd_eq)) (beq_cast _ _)
    refine s_ret fr (ed_is (ed_lst (ea_1 (ed_cb (ea_1 hc) cd_len)) (by simp)) ?_) k
    rw [List.length_map]
    rfl
/-! ### leaving -/
abbrev sLea : Stmt := inClass sCls 6
theorem scLea : FnScope ["self", "m", "kind"] ["self", "m"] (defScope sLea) := ⟨rfl, rfl, rfl, by decide +kernel, rfl, by decide +kernel, by decide +kernel⟩
def RLea (n : Nat) (ds : List PyData) (f : PyData) : Prop := ∃ h : Nat, ds = [dI h] ∧ f = dA (ans n (.leaving h))
theorem ok_lea {f f1 : Addr} {fd fd1 : FuncData} (F : Fun K "leaving" "Stackings.leaving" sLea f fd) (B : Blt mg) (T : Txt K mg C) (D1 : Df P w K mg base 4 "count_leaving_ways" ["word"] (spR RCnt) f1 fd1) : FnOk P w K mg base CX0 5 f fd ["self", "m"] (spQ C RLea) := by
  refine F.ok scLea (fun vs H Q E h => ?_) (fun cdv A outer s H vs Q E hr h => ?_)
  · obtain ⟨N, s, n, dx, vw, vc, vo, vk, va, us, ds, f, rfl, o, ts, fr, ⟨h, rfl, rfl⟩, k⟩ := h
    exact congrArg (· + 1) ts.length
  · obtain ⟨N, s, n, dx, vw, vc, vo, vk, va, us, ds, f, rfl, o, ts, fr, ⟨hh, rfl, rfl⟩, k⟩ := h
    obtain ⟨v, rfl, tv⟩ := ts.one
    refine ⟨_, pss_one (ps_ret (pe_lst (pa_cons (pe_callB call_len_seq (by rfl) B.len PySem.boot_len (pa_cons (pe_lc (own := [("kind", 2)]) (g := gName 2) rfl scLea.nd (pi_list (pe_fld (pv 0) rfl))
      (blkOk_by (own := [("kind", 2)]) (N := ["self", "m", "kind"]) (sc := defScope sLea) (by decide +kernel)) (fun _ _ _ _ _ => pg_name (i := 2) scLea.nd rfl (Or.inl rfl))
      (fun _ _ _ _ _ => pts_one (pt_cmpR op_eq (pe_call D1.ok hr (by rfl) D1.mg D1.kp D1.b .nil pass0 (pa_cons (pv 2) pa_nil)) (pv 1) (nomark _))) (fun _ _ _ _ _ => pv 2)) pa_nil)) pa_nil))), ?_⟩
    have hc : EvD N H (tLc (iList K (tFld K (tVar 0) "kinds")) (gName 2) (tTest (tOp rEq (tCall (spR RCnt) [] E0 (tCons (tVar 2) tNil)) (tVar 1))) (tVar 2) [2]) [some (.ref s), some v, none] (.list (((kinds n).filter fun w => (leaves w).length == hh).map dW)) := by
      refine ed_lcM (c := dW) _ _ (of_kinds T o rfl) (Nat.le_trans (kinds_le o.h8) (by decide)) (fun _ => rfl) (fun N1 H1 up a ha x tx => ?_) (fun N1 H1 up a ha x tx _ => ed_var rfl tx)
      obtain ⟨hn, hb⟩ := words_mem n a (closing_mem (own_mem (kinds_mem ha))).1
      have := o.h1
      have := o.h8
      exact et_is (et_test (ed_op (ed_call (ea_1 (ed_var rfl tx)) ⟨a, by omega, by omega, hb, rfl, rfl⟩) (ed_var rfl (up.tn _ _ tv)) rd_eq)) (beq_cast _ _)
    refine s_ret fr (ed_is (ed_lst (ea_1 (ed_cb (ea_1 hc) cd_len)) (by simp)) ?_) k
    rw [List.length_map]
    rfl
/-! ### handed -/
abbrev sHnd : Stmt := inClass sCls 7
theorem scHnd : FnScope ["self", "kind"] ["self"] (defScope sHnd) := ⟨rfl, rfl, rfl, by decide +kernel, rfl, by decide +kernel, by decide +kernel⟩
def RHnd (n : Nat) (ds : List PyData) (f : PyData) : Prop := ds = [] ∧ f = dA (ans n .handed)
theorem ok_hnd {f f1 : Addr} {fd fd1 : FuncData} (F : Fun K "handed" "Stackings.handed" sHnd f fd) (B : Blt mg) (T : Txt K mg C) (D1 : Df P w K mg base 4 "is_handed" ["word"] (spR RHan) f1 fd1) : FnOk P w K mg base CX0 5 f fd ["self"] (spQ C RHnd) := by
  refine F.ok scHnd (fun vs H Q E h => ?_) (fun cdv A outer s H vs Q E hr h => ?_)
  · obtain ⟨N, s, n, dx, vw, vc, vo, vk, va, us, ds, f, rfl, o, ts, fr, ⟨rfl, rfl⟩, k⟩ := h
    exact congrArg (· + 1) ts.length
  · obtain ⟨N, s, n, dx, vw, vc, vo, vk, va, us, ds, f, rfl, o, ts, fr, ⟨rfl, rfl⟩, k⟩ := h
    cases ts
    refine ⟨_, pss_one (ps_ret (pe_lst (pa_cons (pe_callB call_len_seq (by rfl) B.len PySem.boot_len (pa_cons (pe_lc (own := [("kind", 1)]) (g := gName 1) rfl scHnd.nd (pi_list (pe_fld (pv 0) rfl))
      (blkOk_by (own := [("kind", 1)]) (N := ["self", "kind"]) (sc := defScope sHnd) (by decide +kernel)) (fun _ _ _ _ _ => pg_name (i := 1) scHnd.nd rfl (Or.inl rfl))
      (fun _ _ _ _ _ => pts_one (pt_val (pe_call D1.ok hr (by rfl) D1.mg D1.kp D1.b .nil pass0 (pa_cons (pv 1) pa_nil)))) (fun _ _ _ _ _ => pv 1)) pa_nil)) pa_nil))), ?_⟩
    have hc : EvD N H (tLc (iList K (tFld K (tVar 0) "kinds")) (gName 1) (tB (tCall (spR RHan) [] E0 (tCons (tVar 1) tNil))) (tVar 1) [1]) [some (.ref s), none] (.list (((kinds n).filter handed).map dW)) := by
      refine ed_lcM (c := dW) _ _ (of_kinds T o rfl) (Nat.le_trans (kinds_le o.h8) (by decide)) (fun _ => rfl) (fun N1 H1 up a ha x tx => ?_) (fun N1 H1 up a ha x tx _ => ed_var rfl tx)
      exact et_B (ed_call (ea_1 (ed_var rfl tx)) ⟨n, a, o.h1, o.h8, ha, rfl, rfl⟩)
    refine s_ret fr (ed_is (ed_lst (ea_1 (ed_cb (ea_1 hc) cd_len)) (by simp)) ?_) k
    rw [List.length_map]
    rfl
/-! ### fixed -/
abbrev sFix : Stmt := inClass sCls 8
theorem scFix : FnScope ["self", "t", "word"] ["self", "t"] (defScope sFix) := ⟨rfl, rfl, rfl, by decide +kernel, rfl, by decide +kernel, by decide +kernel⟩
def RFix (n : Nat) (ds : List PyData) (f : PyData) : Prop := ∃ t : Nat, ds = [dI t] ∧ f = dA (ans n (.fixed t))
theorem ok_fix {f f1 : Addr} {fd fd1 : FuncData} (F : Fun K "fixed" "Stackings.fixed" sFix f fd) (B : Blt mg) (T : Txt K mg C) (Z : Cst K mg) (D1 : Df P w K mg base 2 "way" ["word", "t"] (spR RWay) f1 fd1) : FnOk P w K mg base CX0 3 f fd ["self", "t"] (spQ C RFix) := by
  refine F.ok scFix (fun vs H Q E h => ?_) (fun cdv A outer s H vs Q E hr h => ?_)
  · obtain ⟨N, s, n, dx, vw, vc, vo, vk, va, us, ds, f, rfl, o, ts, fr, ⟨h, rfl, rfl⟩, k⟩ := h
    exact congrArg (· + 1) ts.length
  · obtain ⟨N, s, n, dx, vw, vc, vo, vk, va, us, ds, f, rfl, o, ts, fr, ⟨t, rfl, rfl⟩, k⟩ := h
    obtain ⟨v, rfl, tv⟩ := ts.one
    refine ⟨_, pss_cons (ps_if (pt_cmpR op_ge (pv 1) (pe_op op_mul pe_int (pe_fld (pv 0) rfl)) (nomark _)) (pss_one (ps_ret (pe_lst (pa_cons (pe_ci Z.NLT (by rfl)) pa_nil)))) pss_nil)
      (pss_one (ps_ret (pe_lst (pa_cons (pe_callB call_len_seq (by rfl) B.len PySem.boot_len (pa_cons (pe_lc (own := [("word", 2)]) (g := gName 2) rfl scFix.nd (pi_list (pe_fld (pv 0) rfl))
      (blkOk_by (own := [("word", 2)]) (N := ["self", "t", "word"]) (sc := defScope sFix) (by decide +kernel)) (fun _ _ _ _ _ => pg_name (i := 2) scFix.nd rfl (Or.inl rfl))
      (fun _ _ _ _ _ => pts_one (pt_cmpR (r := rEqD K) (op_eqD (hu64 hr)) (pe_call D1.ok hr (by rfl) D1.mg D1.kp D1.b .nil pass0 (pa_cons (pv 2) (pa_cons (pv 1) pa_nil))) (pv 2) (nomark _))) (fun _ _ _ _ _ => pv 2)) pa_nil)) pa_nil)))), ?_⟩
    have e4 : (4 : Int) * (n : Int) = ((4 * n : Nat) : Int) := by
      rw [Int.natCast_mul]
      rfl
    refine q_when fr (et_test (ed_op (ed_var rfl tv) (ed_op ed_int (of_steps T o rfl) (rd_intC (.inl ⟨by decide, by decide⟩))) rd_bool)) (fun hb H1 e1 => ?_) (fun hb H1 e1 => ?_)
    · have hle : 4 * n ≤ t := by
        have := of_decide_eq_true hb
        omega
      refine s_ret (fr.ext e1) (ed_is (ed_lst (ea_1 ed_int) (by simp)) ?_) fun z H2 e2 tz => k z H2 (e1.trans e2) tz
      show dA [-22] = dA (ans n (.fixed t))
      unfold ans Kqi3.step
      dsimp only
      rw [if_pos hle]
      rfl
    · have hlt : ¬ 4 * n ≤ t := by
        have := of_decide_eq_false hb
        omega
      have o1 := o.ext (Up.of e1)
      have hc : EvD N H1 (tLc (iList K (tFld K (tVar 0) "closing")) (gName 2) (tTest (tOp (rEqD K) (tCall (spR RWay) [] E0 (tCons (tVar 2) (tCons (tVar 1) tNil))) (tVar 2))) (tVar 2) [2]) [some (.ref s), some v, none] (.list (((closing n).filter fun w => Kqi3.way w t == w).map dW)) := by
        refine ed_lcM (c := dW) _ _ (of_closing T o1 rfl) (Nat.le_trans (closing_le o.h8) (by decide)) (fun _ => rfl) (fun N1 H2 up a ha x tx => ?_) (fun N1 H2 up a ha x tx _ => ed_var rfl tx)
        obtain ⟨hn, hb⟩ := words_mem n a (closing_mem ha).1
        have := o.h1
        have := o.h8
        exact et_is (et_test (ed_op (ed_call (ea_2 (ed_var rfl tx) (ed_var rfl (up.tn _ _ (tv.mono e1)))) ⟨a, t, by omega, by omega, hb, by omega, rfl, rfl⟩) (ed_var rfl tx) (rd_eqD (shaped_W _) (shaped_W _)))) (eqv_W _ _)
      refine s_ret (fr.ext e1) (ed_is (ed_lst (ea_1 (ed_cb (ea_1 hc) cd_len)) (by simp)) ?_) fun z H2 e2 tz => k z H2 (e1.trans e2) tz
      rw [List.length_map]
      show dA [_] = dA (ans n (.fixed t))
      unfold ans Kqi3.step
      dsimp only
      rw [if_neg hlt]
      rfl
/-! ### fixed_together -/
abbrev sFxt : Stmt := inClass sCls 9
theorem scFxt : FnScope ["self", "word"] ["self"] (defScope sFxt) := ⟨rfl, rfl, rfl, by decide +kernel, rfl, by decide +kernel, by decide +kernel⟩
def RFxt (n : Nat) (ds : List PyData) (f : PyData) : Prop := ds = [] ∧ f = dA (ans n .sum)
theorem sum_cast : ∀ l : List Nat, (l.map fun (x : Nat) => (x : Int)).sum = ((l.sum : Nat) : Int)
  | [] => rfl
  | x :: l => by
    rw [List.map_cons, List.sum_cons, List.sum_cons, sum_cast l]
    omega
theorem ok_fxt {f f1 : Addr} {fd fd1 : FuncData} (F : Fun K "fixed_together" "Stackings.fixed_together" sFxt f fd) (B : Blt mg) (T : Txt K mg C) (D1 : Df P w K mg base 4 "count_leaving_ways" ["word"] (spR RCnt) f1 fd1) : FnOk P w K mg base CX0 5 f fd ["self"] (spQ C RFxt) := by
  refine F.ok scFxt (fun vs H Q E h => ?_) (fun cdv A outer s H vs Q E hr h => ?_)
  · obtain ⟨N, s, n, dx, vw, vc, vo, vk, va, us, ds, f, rfl, o, ts, fr, ⟨rfl, rfl⟩, k⟩ := h
    exact congrArg (· + 1) ts.length
  · obtain ⟨N, s, n, dx, vw, vc, vo, vk, va, us, ds, f, rfl, o, ts, fr, ⟨rfl, rfl⟩, k⟩ := h
    cases ts
    refine ⟨_, pss_one (ps_ret (pe_lst (pa_cons (pe_callB (cr_sum rfl) (by rfl) B.sum (by decide +kernel) (pa_cons (pe_lc (own := [("word", 1)]) (g := gName 1) (tt := tYes) rfl scFxt.nd (pi_list (pe_fld (pv 0) rfl))
      (blkOk_by (own := [("word", 1)]) (N := ["self", "word"]) (sc := defScope sFxt) (by decide +kernel)) (fun _ _ _ _ _ => pg_name (i := 1) scFxt.nd rfl (Or.inl rfl)) (fun _ _ _ _ _ => pts_nil)
      (fun _ _ _ _ _ => pe_call D1.ok hr (by rfl) D1.mg D1.kp D1.b .nil pass0 (pa_cons (pv 1) pa_nil))) pa_nil)) pa_nil))), ?_⟩
    have hc : EvD N H (tLc (iList K (tFld K (tVar 0) "closing")) (gName 1) tYes (tCall (spR RCnt) [] E0 (tCons (tVar 1) tNil)) [1]) [some (.ref s), none] (.list ((((closing n).map fun w => (leaves w).length).map fun (x : Nat) => (x : Int)).map .int)) := by
      rw [List.map_map, List.map_map]
      refine ed_lcA (c := dW) _ (of_closing T o rfl) (Nat.le_trans (closing_le o.h8) (by decide)) (fun _ => rfl) fun N1 H1 up a ha x tx => ?_
      obtain ⟨hn, hb⟩ := words_mem n a (closing_mem ha).1
      have := o.h1
      have := o.h8
      exact ed_call (ea_1 (ed_var rfl tx)) ⟨a, by omega, by omega, hb, rfl, rfl⟩
    refine s_ret fr (ed_is (ed_lst (ea_1 (ed_cb (ea_1 hc) cd_sum)) (by simp)) ?_) k
    rw [sum_cast, beq_iff_eq.mp (of_all8 sum_k o.h1 o.h8)]
    rfl
/-! ### ups -/
abbrev sUps : Stmt := inClass sCls 10
theorem scUps : FnScope ["self", "u", "word"] ["self", "u"] (defScope sUps) := ⟨rfl, rfl, rfl, by decide +kernel, rfl, by decide +kernel, by decide +kernel⟩
def RUps (n : Nat) (ds : List PyData) (f : PyData) : Prop := ∃ h : Nat, ds = [dI h] ∧ f = dA (ans n (.ups h))
theorem ok_ups {f : Addr} {fd : FuncData} (F : Fun K "ups" "Stackings.ups" sUps f fd) (B : Blt mg) (T : Txt K mg C) : FnOk P w K mg base CX0 1 f fd ["self", "u"] (spQ C RUps) := by
  refine F.ok scUps (fun vs H Q E h => ?_) (fun cdv A outer s H vs Q E hr h => ?_)
  · obtain ⟨N, s, n, dx, vw, vc, vo, vk, va, us, ds, f, rfl, o, ts, fr, ⟨h, rfl, rfl⟩, k⟩ := h
    exact congrArg (· + 1) ts.length
  · obtain ⟨N, s, n, dx, vw, vc, vo, vk, va, us, ds, f, rfl, o, ts, fr, ⟨hh, rfl, rfl⟩, k⟩ := h
    obtain ⟨v, rfl, tv⟩ := ts.one
    refine ⟨_, pss_one (ps_ret (pe_lst (pa_cons (pe_callB call_len_seq (by rfl) B.len PySem.boot_len (pa_cons (pe_lc (own := [("word", 2)]) (g := gName 2) (tt := tTest (tOp rEq (tBM K "list" (rCntI K) (tVar 2) (tCons (tC (.int 1)) tNil)) (tVar 1))) rfl scUps.nd (pi_list (pe_fld (pv 0) rfl))
      (blkOk_by (own := [("word", 2)]) (N := ["self", "u", "word"]) (sc := defScope sUps) (by decide +kernel)) (fun _ _ _ _ _ => pg_name (i := 2) scUps.nd rfl (Or.inl rfl))
      (fun _ _ _ _ _ => pts_one (pt_cmpR op_eq (pe_bm PySem.F.plainAttrs_list PySem.F.slot_list_count PySem.F.type_list_count (r := rCntI K) mt_lcount (pv 2) (pa_cons pe_int pa_nil)) (pv 1) (nomark _))) (fun _ _ _ _ _ => pv 2)) pa_nil)) pa_nil))), ?_⟩
    have hc : EvD N H (tLc (iList K (tFld K (tVar 0) "closing")) (gName 2) (tTest (tOp rEq (tBM K "list" (rCntI K) (tVar 2) (tCons (tC (.int 1)) tNil)) (tVar 1))) (tVar 2) [2]) [some (.ref s), some v, none] (.list (((closing n).filter fun w => (w.filter fun x => x == 1).length == hh).map dW)) := by
      refine ed_lcM (c := dW) _ _ (of_closing T o rfl) (Nat.le_trans (closing_le o.h8) (by decide)) (fun _ => rfl) (fun N1 H1 up a ha x tx => ?_) (fun N1 H1 up a ha x tx _ => ed_var rfl tx)
      rw [dW_ints] at tx
      refine et_is (et_test (ed_op (md_countI (ed_var rfl tx) ed_int) (ed_var rfl (up.tn _ _ tv)) rd_eq)) ?_
      rw [ups_py, beq_cast]
    refine s_ret fr (ed_is (ed_lst (ea_1 (ed_cb (ea_1 hc) cd_len)) (by simp)) ?_) k
    rw [List.length_map]
    rfl
end
end Lk
namespace Lk
open PySem PySem.Spec PyProof.Rows L2
open Kqi3 (net words closing own kinds kindsAll ways first names leaves handed sides begun opposite closes)
theorem fl_m {n w c o k a : V} {m : Str} (h : (([("steps" : Str), ("words" : Str), ("closing" : Str), ("own" : Str), ("kinds" : Str), ("all_kinds" : Str)] : List Str).all fun g => !(m == g)) = true) : (fl n w c o k a).lookup m = none := by
  have q := List.all_eq_true.mp h
  have z : ∀ g ∈ ([("steps" : Str), ("words" : Str), ("closing" : Str), ("own" : Str), ("kinds" : Str), ("all_kinds" : Str)] : List Str), (m == g) = false := fun g hg => by
    have := q g hg
    cases e : m == g with
    | true => rw [e] at this; cases this
    | false => rfl
  exact fl_none (z _ (by simp)) (z _ (by simp)) (z _ (by simp)) (z _ (by simp)) (z _ (by simp)) (z _ (by simp))
theorem contains01 (x : Nat) : ([0, 1] : List Int).contains (x : Int) = decide (x ≤ 1) := by
  have := in2 x 0 1
  rw [show ([0, 1] : List Int) = [((0 : Nat) : Int), ((1 : Nat) : Int)] from rfl, this]
  by_cases h : x ≤ 1
  · rw [decide_eq_true h, decide_eq_true (by omega)]
  · rw [decide_eq_false h, decide_eq_false (by omega)]
theorem isw_py (l : List Nat) {n : Nat} (h1 : 1 ≤ n) : iswP (cI l) n = !decide (Kqi3.isWord n l = false ∨ l.length ≠ n) := by
  have e1 : ((cI l).map fun z => ([0, 1] : List Int).contains z).all id = l.all fun x => decide (x ≤ 1) := by
    unfold cI
    rw [List.map_map, List.all_map]
    refine congrArg (fun p => l.all p) (funext fun x => ?_)
    exact contains01 x
  have e2 : (cI l).length = l.length := by
    unfold cI
    rw [List.length_map]
  unfold iswP Kqi3.isWord
  rw [e1, e2, beq_cast]
  by_cases hn : l.length = n
  · have a1 : decide (1 ≤ l.length) = true := decide_eq_true (by omega)
    have a2 : decide (l.length ≤ n) = true := decide_eq_true (by omega)
    rw [a1, a2, beq_iff_eq.mpr hn]
    cases l.all fun x => decide (x ≤ 1) <;> simp [hn]
  · rw [beq_eq_false_iff_ne.mpr hn, decide_eq_true (Or.inr hn)]
    rfl
/-- a method of the class that keeps its promise -/
structure Dm (P : Program) (w : World) (K : PySem.W.Frag) (mg : Str → Option Value) (base : Heap) (C : Addr) (k : Nat) (m : Str) (ps : List Str) (sp : Sp) (f : Addr) (fd : FuncData) : Prop where
  ok : FnOk P w K mg base CX0 k f fd ps sp
  me : Meth K C m f
  b : Binds K fd ps []
section
variable {K : PySem.W.Frag} {N : Addr → Prop} {H : Hp} {σ : L2.St} {ta : TE}
theorem ed_lenNam {wd : List Nat} {n : Nat} {E : XK} (h : EvD N H ta σ (dW wd)) (h1 : 1 ≤ n) (h8 : n ≤ 8) (hw : wd ∈ kinds n) :
    EvD N H (tCB (fun xs H Q => ∃ p ys, xs = [.ref p] ∧ (SqL K H p ys ∨ SqT K H p ys) ∧ Q (.int ys.length) H) (tCons (tCall spNam [] E (tCons ta tNil)) tNil)) σ (dI (names wd).length) := fun N1 H1 w fr Q q => h N1 H1 w fr _ fun x H2 e2 tx =>
  ⟨N1, n, wd, by rw [List.append_nil]; exact .cons tx .nil, fr.ext e2, h1, h8, hw, fun p xs H3 e3 hp hl => ⟨p, xs, rfl, .inl (SqL.of hp), by
    rw [hl]
    exact q _ H3 (e2.trans e3) (.int _)⟩⟩
end
section
variable {P : Program} {w : World} {K : PySem.W.Frag} {mg : Str → Option Value} {base : Heap} {C : Addr}
/-! ### which -/
abbrev sWhi : Stmt := inClass sCls 2
theorem scWhi : FnScope ["self", "word"] ["self", "word"] (defScope sWhi) := ⟨rfl, rfl, rfl, by decide +kernel, rfl, by decide +kernel, by decide +kernel⟩
def RWhi (n : Nat) (ds : List PyData) (f : PyData) : Prop := ∃ l : List Nat, l.length ≤ 60 ∧ ds = [dW l] ∧ f = dA (ans n (.which l))
theorem ok_whi {f f1 f2 : Addr} {fd fd1 fd2 : FuncData} (F : Fun K "which" "Stackings.which" sWhi f fd) (T : Txt K mg C) (Z : Cst K mg) (D1 : Df P w K mg base 1 "is_word" ["row", "n"] (spR RIsw) f1 fd1) (D2 : Df P w K mg base 4 "first_name" ["word"] (spR RFst) f2 fd2) : FnOk P w K mg base CX0 5 f fd ["self", "word"] (spQ C RWhi) := by
  refine F.ok scWhi (fun vs H Q E h => ?_) (fun cdv A outer s H vs Q E hr h => ?_)
  · obtain ⟨N, s, n, dx, vw, vc, vo, vk, va, us, ds, f, rfl, o, ts, fr, ⟨h, _, rfl, rfl⟩, k⟩ := h
    exact congrArg (· + 1) ts.length
  · obtain ⟨N, s, n, dx, vw, vc, vo, vk, va, us, ds, f, rfl, o, ts, fr, ⟨l, hl, rfl, rfl⟩, k⟩ := h
    obtain ⟨v, rfl, tv⟩ := ts.one
    refine ⟨_, pss_cons (ps_if (pt_not (pt_val (pe_call D1.ok (hr.mono (by decide)) (by rfl) D1.mg D1.kp D1.b .nil pass0 (pa_cons (pv 1) (pa_cons (pe_fld (pv 0) rfl) pa_nil))))) (pss_one (ps_ret (pe_lst (pa_cons (pe_ci Z.NLT (by rfl)) pa_nil)))) pss_nil)
      (pss_cons (ps_if (pt_cmpR (op_notInD (hu65 hr)) (pv 1) (pe_fld (pv 0) rfl) (by rfl)) (pss_one (ps_ret (pe_lst (pa_cons (pe_ci Z.NFD (by rfl)) pa_nil)))) pss_nil)
      (pss_one (ps_ret (pe_lst (pa_cons (pe_bm PySem.F.plainAttrs_list PySem.F.slot_list_index PySem.F.type_list_index (mt_indexD (hu65 hr)) (pe_fld (pv 0) rfl) (pa_cons (pe_call D2.ok hr (by rfl) D2.mg D2.kp D2.b .nil pass0 (pa_cons (pv 1) pa_nil)) pa_nil)) pa_nil))))), ?_⟩
    have hA : ans n (.which l) = Kqi3Neutral.tell (if Kqi3.isWord n l = false ∨ l.length ≠ n then .num (-22) else if (own n).contains l = false then .num (-33) else .num ((kinds n).findIdx fun w => w == first l)) := rfl
    have hi : EvD N H (tCall (spR RIsw) [] E0 (tCons (tVar 1) (tCons (tFld K (tVar 0) "steps") tNil))) [some (.ref s), some v] (.bool (iswP (cI l) n)) := by
      refine ed_call (ea_2 (ed_var rfl tv) (of_steps T o rfl)) ⟨cI l, n, ?_, ?_, rfl⟩
      · unfold cI
        rw [List.length_map]
        omega
      · rw [show PyData.list ((cI l).map .int) = dW l from dA_W l]
    rw [isw_py l o.h1] at hi
    refine q_when fr (et_not (et_B hi)) (fun hb H1 e1 => ?_) (fun hb H1 e1 => ?_)
    · rw [Bool.not_not] at hb
      refine s_ret (fr.ext e1) (ed_is (ed_lst (ea_1 ed_int) (by simp)) ?_) fun z H2 e2 tz => k z H2 (e1.trans e2) tz
      rw [hA, if_pos (of_decide_eq_true hb)]
      rfl
    · rw [Bool.not_not] at hb
      have hno := of_decide_eq_false hb
      have o1 := o.ext (Up.of e1)
      refine q_when (fr.ext e1) (et_test (ed_op (ed_var rfl (tv.mono e1)) (of_own T o1 rfl) (rd_notInD (shaped_W _) (shaped_Ws _)))) (fun hb2 H2 e2 => ?_) (fun hb2 H2 e2 => ?_)
      · rw [any_W] at hb2
        have hc : (own n).contains l = false := by
          cases e : (own n).contains l with
          | true => rw [e] at hb2; cases hb2
          | false => rfl
        refine s_ret ((fr.ext e1).ext e2) (ed_is (ed_lst (ea_1 ed_int) (by simp)) ?_) fun z H3 e3 tz => k z H3 ((e1.trans e2).trans e3) tz
        rw [hA, if_neg hno, if_pos hc]
        rfl
      · rw [any_W] at hb2
        have hc : (own n).contains l = true := by
          cases e : (own n).contains l with
          | true => rfl
          | false => rw [e] at hb2; cases hb2
        have hm : l ∈ own n := List.contains_iff_mem.mp hc
        have hk : first l ∈ kinds n := List.contains_iff_mem.mp (List.all_eq_true.mp (of_all8 find_k o.h1 o.h8) l hm)
        have o2 := o1.ext (Up.of e2)
        have hlt : (kinds n).findIdx (fun w => w == first l) < (kinds n).length := List.findIdx_lt_length.mpr ⟨first l, hk, beq_self_eq_true _⟩
        have hj : ((kinds n).map dW)[(kinds n).findIdx fun w => w == first l]? = some (dW (kinds n)[(kinds n).findIdx fun w => w == first l]) := by
          rw [List.getElem?_map, List.getElem?_eq_getElem hlt]
          rfl
        refine s_ret ((fr.ext e1).ext e2) (ed_is (ed_lst (ea_1 (md_index (shaped_Ws (kinds n)) (shaped_W (first l)) hj ?_ ?_ (of_kinds T o2 rfl) (ed_call (ea_1 (ed_var rfl (tv.mono (e1.trans e2)))) ⟨n, l, o.h1, o.h8, own_mem hm, rfl, rfl⟩))) (by simp)) ?_) fun z H3 e3 tz => k z H3 ((e1.trans e2).trans e3) tz
        · rw [eqv_W]
          exact List.findIdx_getElem (w := hlt)
        · intro m z' hmj hz
          rw [List.getElem?_map] at hz
          obtain ⟨u, hu, rfl⟩ := Option.map_eq_some_iff.mp hz
          rw [eqv_W]
          have hml : m < (kinds n).length := by omega
          have := List.not_of_lt_findIdx hmj
          rw [List.getElem?_eq_getElem hml] at hu
          cases hu
          cases e : (kinds n)[m] == first l with
          | true => exact absurd e (by simpa using this)
          | false => rfl
        · rw [hA, if_neg hno, if_neg (by rw [hc]; decide)]
          rfl
/-! ### next_closing -/
abbrev sNxt : Stmt := inClass sCls 3
theorem scNxt : FnScope ["self", "word", "other"] ["self", "word"] (defScope sNxt) := ⟨rfl, rfl, rfl, by decide +kernel, rfl, by decide +kernel, by decide +kernel⟩
def RNxt (n : Nat) (ds : List PyData) (f : PyData) : Prop := ∃ l : List Nat, l.length ≤ 60 ∧ ds = [dW l] ∧ f = dA (ans n (.next l))
theorem ok_nxt {f f1 f2 : Addr} {fd fd1 fd2 : FuncData} (F : Fun K "next_closing" "Stackings.next_closing" sNxt f fd) (T : Txt K mg C) (Z : Cst K mg) (D1 : Df P w K mg base 1 "is_word" ["row", "n"] (spR RIsw) f1 fd1) (D2 : Df P w K mg base 1 "told_word" ["words", "k", "refusal"] (spR RTld) f2 fd2) : FnOk P w K mg base CX0 2 f fd ["self", "word"] (spQ C RNxt) := by
  refine F.ok scNxt (fun vs H Q E h => ?_) (fun cdv A outer s H vs Q E hr h => ?_)
  · obtain ⟨N, s, n, dx, vw, vc, vo, vk, va, us, ds, f, rfl, o, ts, fr, ⟨h, _, rfl, rfl⟩, k⟩ := h
    exact congrArg (· + 1) ts.length
  · obtain ⟨N, s, n, dx, vw, vc, vo, vk, va, us, ds, f, rfl, o, ts, fr, ⟨l, hl, rfl, rfl⟩, k⟩ := h
    obtain ⟨v, rfl, tv⟩ := ts.one
    refine ⟨_, pss_cons (ps_if (pt_not (pt_val (pe_call D1.ok hr (by rfl) D1.mg D1.kp D1.b .nil pass0 (pa_cons (pv 1) (pa_cons (pe_fld (pv 0) rfl) pa_nil))))) (pss_one (ps_ret (pe_lst (pa_cons (pe_ci Z.NLT (by rfl)) pa_nil)))) pss_nil)
      (pss_one (ps_ret (pe_call D2.ok hr (by rfl) D2.mg D2.kp D2.b .nil pass0 (pa_cons (pe_lc (own := [("other", 2)]) (g := gName 2) rfl scNxt.nd (pi_list (pe_fld (pv 0) rfl))
        (blkOk_by (own := [("other", 2)]) (N := ["self", "word", "other"]) (sc := defScope sNxt) (by decide +kernel)) (fun _ _ _ _ _ => pg_name (i := 2) scNxt.nd rfl (Or.inl rfl))
        (fun _ _ _ _ _ => pts_one (pt_cmpR (r := rGtD K) (op_gtD (hu64 hr)) (pv 2) (pv 1) (nomark _))) (fun _ _ _ _ _ => pv 2)) (pa_cons pe_int (pa_cons (pe_ci Z.NFD (by rfl)) pa_nil)))))), ?_⟩
    have hA : ans n (.next l) = Kqi3Neutral.tell (if Kqi3.isWord n l = false ∨ l.length ≠ n then .num (-22) else match (closing n).find? fun w => Kqi3.before l w with
      | none => .num (-33)
      | some w => Kqi3.told w) := rfl
    have hi : EvD N H (tCall (spR RIsw) [] E0 (tCons (tVar 1) (tCons (tFld K (tVar 0) "steps") tNil))) [some (.ref s), some v, none] (.bool (iswP (cI l) n)) := by
      refine ed_call (ea_2 (ed_var rfl tv) (of_steps T o rfl)) ⟨cI l, n, ?_, ?_, rfl⟩
      · unfold cI
        rw [List.length_map]
        omega
      · rw [show PyData.list ((cI l).map .int) = dW l from dA_W l]
    rw [isw_py l o.h1] at hi
    refine q_when fr (et_not (et_B hi)) (fun hb H1 e1 => ?_) (fun hb H1 e1 => ?_)
    · rw [Bool.not_not] at hb
      refine s_ret (fr.ext e1) (ed_is (ed_lst (ea_1 ed_int) (by simp)) ?_) fun z H2 e2 tz => k z H2 (e1.trans e2) tz
      rw [hA, if_pos (of_decide_eq_true hb)]
      rfl
    · rw [Bool.not_not] at hb
      have hno := of_decide_eq_false hb
      have hln : l.length = n := Decidable.byContradiction fun z => hno (Or.inr z)
      have o1 := o.ext (Up.of e1)
      have hc : EvD N H1 (tLc (iList K (tFld K (tVar 0) "closing")) (gName 2) (tTest (tOp (rGtD K) (tVar 2) (tVar 1))) (tVar 2) [2]) [some (.ref s), some v, none] (dWs ((closing n).filter fun w => Kqi3.before l w)) := by
        refine ed_lcM (c := dW) _ _ (of_closing T o1 rfl) (Nat.le_trans (closing_le o.h8) (by decide)) (fun _ => rfl) (fun N1 H2 up a ha x tx => ?_) (fun N1 H2 up a ha x tx _ => ed_var rfl tx)
        have hn := (words_mem n a (closing_mem ha).1).1
        exact et_is (et_test (ed_op (ed_var rfl tx) (ed_var rfl (up.tn _ _ (tv.mono e1))) (rd_gtD (alike_W _ _) (fun z => nomatch z) (Nat.le_trans (depth_W _) (by decide))))) (lt_W _ _ (by omega))
      refine s_ret (fr.ext e1) (ed_is (ed_call (ea_cons hc (ea_2 ed_int ed_int)) ⟨(closing n).filter fun w => Kqi3.before l w, 0, -33, fun w hw => ?_, rfl, rfl⟩) ?_) fun z H2 e2 tz => k z H2 (e1.trans e2) tz
      · have := (words_mem n w (closing_mem (List.mem_filter.mp hw).1).1).1
        have := o.h8
        omega
      · rw [hA, if_neg hno]
        have e0 : ((closing n).filter fun w => Kqi3.before l w)[0]? = (closing n).find? fun w => Kqi3.before l w := by
          rw [← List.head?_eq_getElem?, List.head?_filter]
        unfold toldP
        rw [e0]
        cases (closing n).find? fun w => Kqi3.before l w with
        | none => rfl
        | some w => rfl
/-! ### names -/
abbrev sNms : Stmt := inClass sCls 4
theorem scNms : FnScope ["self", "k"] ["self", "k"] (defScope sNms) := ⟨rfl, rfl, rfl, by decide +kernel, rfl, by decide +kernel, by decide +kernel⟩
def RNms (n : Nat) (ds : List PyData) (f : PyData) : Prop := ∃ k : Nat, ds = [dI k] ∧ f = dA (ans n (.names k))
theorem ok_nms {f f1 : Addr} {fd fd1 : FuncData} (F : Fun K "names" "Stackings.names" sNms f fd) (B : Blt mg) (T : Txt K mg C) (Z : Cst K mg) (D1 : Df P w K mg base 4 "names_of" ["word"] spNam f1 fd1) : FnOk P w K mg base CX0 5 f fd ["self", "k"] (spQ C RNms) := by
  refine F.ok scNms (fun vs H Q E h => ?_) (fun cdv A outer s H vs Q E hr h => ?_)
  · obtain ⟨N, s, n, dx, vw, vc, vo, vk, va, us, ds, f, rfl, o, ts, fr, ⟨h, rfl, rfl⟩, k⟩ := h
    exact congrArg (· + 1) ts.length
  · obtain ⟨N, s, n, dx, vw, vc, vo, vk, va, us, ds, f, rfl, o, ts, fr, ⟨i, rfl, rfl⟩, k⟩ := h
    obtain ⟨v, rfl, tv⟩ := ts.one
    refine ⟨_, pss_cons (ps_if (pt_cmpR op_ge (pv 1) (pe_callB call_len_seq (by rfl) B.len PySem.boot_len (pa_cons (pe_fld (pv 0) rfl) pa_nil)) (nomark _)) (pss_one (ps_ret (pe_lst (pa_cons (pe_ci Z.NSK (by rfl)) pa_nil)))) pss_nil)
      (pss_one (ps_ret (pe_lst (pa_cons (pe_callB call_len_seq (by rfl) B.len PySem.boot_len (pa_cons (pe_call D1.ok hr (by rfl) D1.mg D1.kp D1.b .nil pass0 (pa_cons (pe_ix ix_list (pe_fld (pv 0) rfl) (pv 1) (fun _ _ => rfl)) pa_nil)) pa_nil)) pa_nil)))), ?_⟩
    have hA : ans n (.names i) = Kqi3Neutral.tell (match (kinds n)[i]? with
      | none => .num (-2)
      | some w => .num (names w).length) := rfl
    refine q_when fr (et_test (ed_op (ed_var rfl tv) (ed_cb (ea_1 (of_kinds T o rfl)) cd_len) rd_bool)) (fun hb H1 e1 => ?_) (fun hb H1 e1 => ?_)
    · have hle : (kinds n).length ≤ i := by
        have := of_decide_eq_true hb
        rw [List.length_map] at this
        omega
      refine s_ret (fr.ext e1) (ed_is (ed_lst (ea_1 ed_int) (by simp)) ?_) fun z H2 e2 tz => k z H2 (e1.trans e2) tz
      rw [hA, List.getElem?_eq_none hle]
      rfl
    · have hlt : i < (kinds n).length := by
        have := of_decide_eq_false hb
        rw [List.length_map] at this
        omega
      have hx : (kinds n)[i]? = some (kinds n)[i] := List.getElem?_eq_getElem hlt
      have hat : atI ((kinds n).map dW) (i : Int) = some (dW (kinds n)[i]) := atI_nat (by rw [List.getElem?_map, hx]; rfl)
      have o1 := o.ext (Up.of e1)
      refine s_ret (fr.ext e1) (ed_is (ed_lst (ea_1 (ed_lenNam (ed_op (of_kinds T o1 rfl) (ed_var rfl (tv.mono e1)) (rd_ix hat)) o.h1 o.h8 (List.getElem_mem hlt))) (by simp)) ?_) fun z H2 e2 tz => k z H2 (e1.trans e2) tz
      rw [hA, hx]
      rfl
/-! ### call_with_number -/
inductive Cwn : Nat → Nat → Kqi3.Call → Prop
  | kth (k : Nat) : Cwn 6 k (.kth k)
  | kthAll (k : Nat) : Cwn 7 k (.kthAll k)
  | sides (k : Nat) : Cwn 9 k (.sides k)
  | leaving (k : Nat) : Cwn 10 k (.leaving k)
  | fixed (k : Nat) : Cwn 12 k (.fixed k)
  | names (k : Nat) : Cwn 15 k (.names k)
  | ups (k : Nat) : Cwn 16 k (.ups k)
abbrev sCwn : Stmt := inClass sCls 12
theorem scCwn : FnScope ["self", "number", "given"] ["self", "number", "given"] (defScope sCwn) := ⟨rfl, rfl, rfl, by decide +kernel, rfl, by decide +kernel, by decide +kernel⟩
def RCwn (n : Nat) (ds : List PyData) (f : PyData) : Prop := ∃ (p k : Nat) (c : Kqi3.Call), Cwn p k c ∧ ds = [dI p, dI k] ∧ f = dA (ans n c)
theorem told_kth (n k : Nat) : toldP (kinds n) k (-2) = ans n (.kth k) := by
  unfold toldP
  show _ = Kqi3Neutral.tell (match (kinds n)[k]? with
    | none => .num (-2)
    | some w => Kqi3.told w)
  cases (kinds n)[k]? with
  | none => rfl
  | some w => rfl
theorem told_all (n k : Nat) : toldP (kindsAll n) k (-2) = ans n (.kthAll k) := by
  unfold toldP
  show _ = Kqi3Neutral.tell (match (kindsAll n)[k]? with
    | none => .num (-2)
    | some w => Kqi3.told w)
  cases (kindsAll n)[k]? with
  | none => rfl
  | some w => rfl
theorem ok_cwn {f f1 f2 f3 f4 f5 f6 : Addr} {fd fd1 fd2 fd3 fd4 fd5 fd6 : FuncData} (F : Fun K "call_with_number" "Stackings.call_with_number" sCwn f fd) (T : Txt K mg C) (Z : Cst K mg) (D1 : Df P w K mg base 1 "told_word" ["words", "k", "refusal"] (spR RTld) f1 fd1)
    (D2 : Dm P w K mg base C 2 "sides" ["self", "h"] (spQ C RSid) f2 fd2) (D3 : Dm P w K mg base C 5 "leaving" ["self", "m"] (spQ C RLea) f3 fd3) (D4 : Dm P w K mg base C 3 "fixed" ["self", "t"] (spQ C RFix) f4 fd4) (D5 : Dm P w K mg base C 5 "names" ["self", "k"] (spQ C RNms) f5 fd5)
    (D6 : Dm P w K mg base C 1 "ups" ["self", "u"] (spQ C RUps) f6 fd6) : FnOk P w K mg base CX0 6 f fd ["self", "number", "given"] (spQ C RCwn) := by
  refine F.ok scCwn (fun vs H Q E h => ?_) (fun cdv A outer s H vs Q E hr h => ?_)
  · obtain ⟨N, s, n, dx, vw, vc, vo, vk, va, us, ds, f, rfl, o, ts, fr, ⟨_, _, _, _, rfl, rfl⟩, k⟩ := h
    exact congrArg (· + 1) ts.length
  · obtain ⟨N, s, n, dx, vw, vc, vo, vk, va, us, ds, f, rfl, o, ts, fr, ⟨p, i, c, hc, rfl, rfl⟩, k⟩ := h
    obtain ⟨v, u, rfl, tv, tu⟩ := ts.two
    refine ⟨_, pss_cons (ps_if (pt_cmpR op_eq (pv 1) (pe_ci Z.KTH (by rfl)) (nomark _)) (pss_one (ps_ret (pe_call D1.ok (hr.mono (by decide)) (by rfl) D1.mg D1.kp D1.b .nil pass0 (pa_cons (pe_fld (pv 0) rfl) (pa_cons (pv 2) (pa_cons (pe_ci Z.NSK (by rfl)) pa_nil)))))) pss_nil)
      (pss_cons (ps_if (pt_cmpR op_eq (pv 1) (pe_ci Z.KTHA (by rfl)) (nomark _)) (pss_one (ps_ret (pe_call D1.ok (hr.mono (by decide)) (by rfl) D1.mg D1.kp D1.b .nil pass0 (pa_cons (pe_fld (pv 0) rfl) (pa_cons (pv 2) (pa_cons (pe_ci Z.NSK (by rfl)) pa_nil)))))) pss_nil)
      (pss_cons (ps_if (pt_cmpR op_eq (pv 1) (pe_ci Z.SIDES (by rfl)) (nomark _)) (pss_one (ps_ret (pe_meth (pv 0) T.cl D2.me D2.ok (hr.mono (by decide)) D2.b .nil pass0 (pa_cons (pv 2) pa_nil)))) pss_nil)
      (pss_cons (ps_if (pt_cmpR op_eq (pv 1) (pe_ci Z.LEAVING (by rfl)) (nomark _)) (pss_one (ps_ret (pe_meth (pv 0) T.cl D3.me D3.ok (hr.mono (by decide)) D3.b .nil pass0 (pa_cons (pv 2) pa_nil)))) pss_nil)
      (pss_cons (ps_if (pt_cmpR op_eq (pv 1) (pe_ci Z.FIXED (by rfl)) (nomark _)) (pss_one (ps_ret (pe_meth (pv 0) T.cl D4.me D4.ok (hr.mono (by decide)) D4.b .nil pass0 (pa_cons (pv 2) pa_nil)))) pss_nil)
      (pss_cons (ps_if (pt_cmpR op_eq (pv 1) (pe_ci Z.NAMES (by rfl)) (nomark _)) (pss_one (ps_ret (pe_meth (pv 0) T.cl D5.me D5.ok (hr.mono (by decide)) D5.b .nil pass0 (pa_cons (pv 2) pa_nil)))) pss_nil)
      (pss_one (ps_ret (pe_meth (pv 0) T.cl D6.me D6.ok (hr.mono (by decide)) D6.b .nil pass0 (pa_cons (pv 2) pa_nil))))))))), ?_⟩
    have tst : ∀ (H' : Hp) (j : Int), Ex H H' → EvT N H' (tTest (tOp rEq (tVar 1) (tC (.int j)))) [some (.ref s), some v, some u] (((p : Nat) : Int) == j) := fun H' j e => et_test (ed_op (ed_var rfl (tv.mono e)) ed_int rd_eq)
    have k8 : ∀ w ∈ kinds n, w.length ≤ 8 := fun w hw => by
      have := (words_mem n w (closing_mem (own_mem (kinds_mem hw))).1).1
      have := o.h8
      omega
    have a8 : ∀ w ∈ kindsAll n, w.length ≤ 8 := fun w hw => by
      have := (words_mem n w (closing_mem (kindsAll_mem hw)).1).1
      have := o.h8
      omega
    refine q_when fr (tst H 6 (Evl.Ex.refl _)) (fun hb H1 e1 => ?_) (fun hb1 H1 e1 => ?_)
    · cases hc with
      | kth =>
        refine s_ret (fr.ext e1) (ed_is (ed_call (ea_cons (of_kinds T (o.ext (Up.of e1)) rfl) (ea_2 (ed_var rfl (tu.mono e1)) ed_int)) ⟨kinds n, i, -2, k8, rfl, rfl⟩) ?_) fun z H2 e2 tz => k z H2 (e1.trans e2) tz
        rw [told_kth]
      | _ => exact absurd hb (by decide)
    refine q_when (fr.ext e1) (tst H1 7 e1) (fun hb H2 e2 => ?_) (fun hb2 H2 e2 => ?_)
    · have e12 := e1.trans e2
      cases hc with
      | kthAll =>
        refine s_ret (fr.ext e12) (ed_is (ed_call (ea_cons (of_all T (o.ext (Up.of e12)) rfl) (ea_2 (ed_var rfl (tu.mono e12)) ed_int)) ⟨kindsAll n, i, -2, a8, rfl, rfl⟩) ?_) fun z H3 e3 tz => k z H3 (e12.trans e3) tz
        rw [told_all]
      | _ => exact absurd hb (by decide)
    have e2 := e1.trans e2
    refine q_when (fr.ext e2) (tst H2 9 e2) (fun hb H3 e3 => ?_) (fun hb3 H3 e3 => ?_)
    · have e := e2.trans e3
      cases hc with
      | sides => exact s_ret (fr.ext e) (ed_meth rfl (o.ext (Up.of e)) (fl_m (by decide +kernel)) (ea_1 (ed_var rfl (tu.mono e))) ⟨i, rfl, rfl⟩) fun z H4 e4 tz => k z H4 (e.trans e4) tz
      | _ => exact absurd hb (by decide)
    have e3 := e2.trans e3
    refine q_when (fr.ext e3) (tst H3 10 e3) (fun hb H4 e4 => ?_) (fun hb4 H4 e4 => ?_)
    · have e := e3.trans e4
      cases hc with
      | leaving => exact s_ret (fr.ext e) (ed_meth rfl (o.ext (Up.of e)) (fl_m (by decide +kernel)) (ea_1 (ed_var rfl (tu.mono e))) ⟨i, rfl, rfl⟩) fun z H5 e5 tz => k z H5 (e.trans e5) tz
      | _ => exact absurd hb (by decide)
    have e4 := e3.trans e4
    refine q_when (fr.ext e4) (tst H4 12 e4) (fun hb H5 e5 => ?_) (fun hb5 H5 e5 => ?_)
    · have e := e4.trans e5
      cases hc with
      | fixed => exact s_ret (fr.ext e) (ed_meth rfl (o.ext (Up.of e)) (fl_m (by decide +kernel)) (ea_1 (ed_var rfl (tu.mono e))) ⟨i, rfl, rfl⟩) fun z H6 e6 tz => k z H6 (e.trans e6) tz
      | _ => exact absurd hb (by decide)
    have e5 := e4.trans e5
    refine q_when (fr.ext e5) (tst H5 15 e5) (fun hb H6 e6 => ?_) (fun hb6 H6 e6 => ?_)
    · have e := e5.trans e6
      cases hc with
      | names => exact s_ret (fr.ext e) (ed_meth rfl (o.ext (Up.of e)) (fl_m (by decide +kernel)) (ea_1 (ed_var rfl (tu.mono e))) ⟨i, rfl, rfl⟩) fun z H7 e7 tz => k z H7 (e.trans e7) tz
      | _ => exact absurd hb (by decide)
    have e := e5.trans e6
    cases hc with
    | ups => exact s_ret (fr.ext e) (ed_meth rfl (o.ext (Up.of e)) (fl_m (by decide +kernel)) (ea_1 (ed_var rfl (tu.mono e))) ⟨i, rfl, rfl⟩) fun z H7 e7 tz => k z H7 (e.trans e7) tz
    | kth => exact absurd hb1 (by decide)
    | kthAll => exact absurd hb2 (by decide)
    | sides => exact absurd hb3 (by decide)
    | leaving => exact absurd hb4 (by decide)
    | fixed => exact absurd hb5 (by decide)
    | names => exact absurd hb6 (by decide)
/-! ### call_alone -/
inductive Cal0 : Nat → Kqi3.Call → Prop
  | words : Cal0 1 .words
  | closing : Cal0 2 .closing
  | own : Cal0 3 .own
  | kinds : Cal0 4 .kinds
  | all : Cal0 5 .all
  | handed : Cal0 11 .handed
  | sum : Cal0 13 .sum
  | state : Cal0 17 .state
abbrev sCal : Stmt := inClass sCls 13
theorem scCal : FnScope ["self", "number"] ["self", "number"] (defScope sCal) := ⟨rfl, rfl, rfl, by decide +kernel, rfl, by decide +kernel, by decide +kernel⟩
def RCal (n : Nat) (ds : List PyData) (f : PyData) : Prop := ∃ (p : Nat) (c : Kqi3.Call), Cal0 p c ∧ ds = [dI p] ∧ f = dA (ans n c)
theorem ok_cal {f f1 f2 : Addr} {fd fd1 fd2 : FuncData} (F : Fun K "call_alone" "Stackings.call_alone" sCal f fd) (B : Blt mg) (T : Txt K mg C) (Z : Cst K mg) (D1 : Dm P w K mg base C 5 "handed" ["self"] (spQ C RHnd) f1 fd1) (D2 : Dm P w K mg base C 5 "fixed_together" ["self"] (spQ C RFxt) f2 fd2) :
    FnOk P w K mg base CX0 6 f fd ["self", "number"] (spQ C RCal) := by
  refine F.ok scCal (fun vs H Q E h => ?_) (fun cdv A outer s H vs Q E hr h => ?_)
  · obtain ⟨N, s, n, dx, vw, vc, vo, vk, va, us, ds, f, rfl, o, ts, fr, ⟨_, _, _, rfl, rfl⟩, k⟩ := h
    exact congrArg (· + 1) ts.length
  · obtain ⟨N, s, n, dx, vw, vc, vo, vk, va, us, ds, f, rfl, o, ts, fr, ⟨p, c, hc, rfl, rfl⟩, k⟩ := h
    obtain ⟨v, rfl, tv⟩ := ts.one
    refine ⟨_, pss_cons (ps_if (pt_cmpR op_eq (pv 1) (pe_ci Z.WORDS (by rfl)) (nomark _)) (pss_one (ps_ret (pe_lst (pa_cons (pe_callB call_len_seq (by rfl) B.len PySem.boot_len (pa_cons (pe_fld (pv 0) rfl) pa_nil)) pa_nil)))) pss_nil)
      (pss_cons (ps_if (pt_cmpR op_eq (pv 1) (pe_ci Z.CLOSING (by rfl)) (nomark _)) (pss_one (ps_ret (pe_lst (pa_cons (pe_callB call_len_seq (by rfl) B.len PySem.boot_len (pa_cons (pe_fld (pv 0) rfl) pa_nil)) pa_nil)))) pss_nil)
      (pss_cons (ps_if (pt_cmpR op_eq (pv 1) (pe_ci Z.OWN (by rfl)) (nomark _)) (pss_one (ps_ret (pe_lst (pa_cons (pe_callB call_len_seq (by rfl) B.len PySem.boot_len (pa_cons (pe_fld (pv 0) rfl) pa_nil)) pa_nil)))) pss_nil)
      (pss_cons (ps_if (pt_cmpR op_eq (pv 1) (pe_ci Z.KINDS (by rfl)) (nomark _)) (pss_one (ps_ret (pe_lst (pa_cons (pe_callB call_len_seq (by rfl) B.len PySem.boot_len (pa_cons (pe_fld (pv 0) rfl) pa_nil)) pa_nil)))) pss_nil)
      (pss_cons (ps_if (pt_cmpR op_eq (pv 1) (pe_ci Z.ALL (by rfl)) (nomark _)) (pss_one (ps_ret (pe_lst (pa_cons (pe_callB call_len_seq (by rfl) B.len PySem.boot_len (pa_cons (pe_fld (pv 0) rfl) pa_nil)) pa_nil)))) pss_nil)
      (pss_cons (ps_if (pt_cmpR op_eq (pv 1) (pe_ci Z.HANDED (by rfl)) (nomark _)) (pss_one (ps_ret (pe_meth0 (pv 0) T.cl D1.me D1.ok hr D1.b .nil pass0))) pss_nil)
      (pss_cons (ps_if (pt_cmpR op_eq (pv 1) (pe_ci Z.SUM (by rfl)) (nomark _)) (pss_one (ps_ret (pe_meth0 (pv 0) T.cl D2.me D2.ok hr D2.b .nil pass0))) pss_nil)
      (pss_one (ps_ret (pe_lst (pa_cons (pe_fld (pv 0) rfl) pa_nil)))))))))), ?_⟩
    have tst : ∀ (H' : Hp) (j : Int), Ex H H' → EvT N H' (tTest (tOp rEq (tVar 1) (tC (.int j)))) [some (.ref s), some v] (((p : Nat) : Int) == j) := fun H' j e => et_test (ed_op (ed_var rfl (tv.mono e)) ed_int rd_eq)
    have ln : ∀ (H' : Hp) (g : Str) (ws : List (List Nat)), EvD N H' (tFld K (tVar 0) g) [some (.ref s), some v] (dWs ws) → EvD N H' (tLst (tCons (tCB (fun xs H Q => ∃ p ys, xs = [.ref p] ∧ (SqL K H p ys ∨ SqT K H p ys) ∧ Q (.int ys.length) H) (tCons (tFld K (tVar 0) g) tNil)) tNil)) [some (.ref s), some v] (dA [(ws.length : Int)]) := fun H' g ws h =>
      ed_is (ed_lst (ea_1 (ed_cb (ea_1 h) cd_len)) (by simp)) (by rw [List.length_map]; rfl)
    refine q_when fr (tst H 1 (Evl.Ex.refl _)) (fun hb H1 e1 => ?_) (fun hb1 H1 e1 => ?_)
    · cases hc with
      | words => exact s_ret (fr.ext e1) (ln _ _ _ (of_words T (o.ext (Up.of e1)) rfl)) fun z H2 e2 tz => k z H2 (e1.trans e2) tz
      | _ => exact absurd hb (by decide)
    refine q_when (fr.ext e1) (tst H1 2 e1) (fun hb H2 e2 => ?_) (fun hb2 H2 e2 => ?_)
    · have e := e1.trans e2
      cases hc with
      | closing => exact s_ret (fr.ext e) (ln _ _ _ (of_closing T (o.ext (Up.of e)) rfl)) fun z H2 e2 tz => k z H2 (e.trans e2) tz
      | _ => exact absurd hb (by decide)
    have e2 := e1.trans e2
    refine q_when (fr.ext e2) (tst H2 3 e2) (fun hb H3 e3 => ?_) (fun hb3 H3 e3 => ?_)
    · have e := e2.trans e3
      cases hc with
      | own => exact s_ret (fr.ext e) (ln _ _ _ (of_own T (o.ext (Up.of e)) rfl)) fun z H2 e2 tz => k z H2 (e.trans e2) tz
      | _ => exact absurd hb (by decide)
    have e3 := e2.trans e3
    refine q_when (fr.ext e3) (tst H3 4 e3) (fun hb H4 e4 => ?_) (fun hb4 H4 e4 => ?_)
    · have e := e3.trans e4
      cases hc with
      | kinds => exact s_ret (fr.ext e) (ln _ _ _ (of_kinds T (o.ext (Up.of e)) rfl)) fun z H2 e2 tz => k z H2 (e.trans e2) tz
      | _ => exact absurd hb (by decide)
    have e4 := e3.trans e4
    refine q_when (fr.ext e4) (tst H4 5 e4) (fun hb H5 e5 => ?_) (fun hb5 H5 e5 => ?_)
    · have e := e4.trans e5
      cases hc with
      | all => exact s_ret (fr.ext e) (ln _ _ _ (of_all T (o.ext (Up.of e)) rfl)) fun z H2 e2 tz => k z H2 (e.trans e2) tz
      | _ => exact absurd hb (by decide)
    have e5 := e4.trans e5
    refine q_when (fr.ext e5) (tst H5 11 e5) (fun hb H6 e6 => ?_) (fun hb6 H6 e6 => ?_)
    · have e := e5.trans e6
      cases hc with
      | handed => exact s_ret (fr.ext e) (ed_meth rfl (o.ext (Up.of e)) (fl_m (by decide +kernel)) ea_nil ⟨rfl, rfl⟩) fun z H7 e7 tz => k z H7 (e.trans e7) tz
      | _ => exact absurd hb (by decide)
    have e6 := e5.trans e6
    refine q_when (fr.ext e6) (tst H6 13 e6) (fun hb H7 e7 => ?_) (fun hb7 H7 e7 => ?_)
    · have e := e6.trans e7
      cases hc with
      | sum => exact s_ret (fr.ext e) (ed_meth rfl (o.ext (Up.of e)) (fl_m (by decide +kernel)) ea_nil ⟨rfl, rfl⟩) fun z H7 e7 tz => k z H7 (e.trans e7) tz
      | _ => exact absurd hb (by decide)
    have e := e6.trans e7
    cases hc with
    | state => exact s_ret (fr.ext e) (ed_lst (ea_1 (of_steps T (o.ext (Up.of e)) rfl)) (by simp)) fun z H7 e7 tz => k z H7 (e.trans e7) tz
    | words => exact absurd hb1 (by decide)
    | closing => exact absurd hb2 (by decide)
    | own => exact absurd hb3 (by decide)
    | kinds => exact absurd hb4 (by decide)
    | all => exact absurd hb5 (by decide)
    | handed => exact absurd hb6 (by decide)
    | sum => exact absurd hb7 (by decide)
end
end Lk
namespace Lk
open PySem PySem.Spec PyProof.Rows L2
open Kqi3 (net words closing own kinds kindsAll ways first names leaves handed sides begun opposite closes)
/-- all but s stands as it was -/
def Frm (H H' : Hp) (s : Addr) : Prop := ∀ b o, b ≠ s → H b = some o → H' b = some o
theorem Frm.of {H H' : Hp} {s : Addr} (e : Ex H H') : Frm H H' s := fun b o _ h => e b o h
theorem Frm.ext {H H1 H2 : Hp} {s : Addr} (f : Frm H H1 s) (e : Ex H1 H2) : Frm H H2 s := fun b o n h => e b o (f b o n h)
theorem Frm.upd {H H1 : Hp} {s : Addr} {o : HO} (f : Frm H H1 s) : Frm H (upd H1 s o) s := fun b u n h => by
  rw [upd_ne n]
  exact f b u n h
def ObjAt (C : Addr) (N : Addr → Prop) (H : Hp) (s : Addr) : Option Nat → Prop
  | none => ∃ (dx : Addr) (vw vc vo vk va : V), H s = some (.ins C dx (fl (.int 0) vw vc vo vk va))
  | some n => ∃ (dx : Addr) (vw vc vo vk va : V), ObjS C N H s n dx vw vc vo vk va
section
variable {C : Addr} {N : Addr → Prop} {H H' : Hp} {s : Addr} {st : Option Nat}
theorem ObjAt.raw (o : ObjAt C N H s st) : ∃ (dx : Addr) (v0 vw vc vo vk va : V), H s = some (.ins C dx (fl v0 vw vc vo vk va)) := by
  cases st with
  | none =>
    obtain ⟨dx, vw, vc, vo, vk, va, h⟩ := o
    exact ⟨dx, _, vw, vc, vo, vk, va, h⟩
  | some n =>
    obtain ⟨dx, vw, vc, vo, vk, va, h⟩ := o
    exact ⟨dx, _, vw, vc, vo, vk, va, h.at_⟩
theorem ObjAt.ext (o : ObjAt C N H s st) (e : Ex H H') : ObjAt C N H' s st := by
  cases st with
  | none =>
    obtain ⟨dx, vw, vc, vo, vk, va, h⟩ := o
    exact ⟨dx, vw, vc, vo, vk, va, e _ _ h⟩
  | some n =>
    obtain ⟨dx, vw, vc, vo, vk, va, h⟩ := o
    exact ⟨dx, vw, vc, vo, vk, va, h.ext (Up.of e)⟩
theorem ObjAt.upd {D : Addr} {o' : HO} (o : ObjAt C N H s st) (hN : ∀ a, N a → a ≠ D) (hs : s ≠ D) : ObjAt C N (L2.upd H D o') s st := by
  cases st with
  | none =>
    obtain ⟨dx, vw, vc, vo, vk, va, h⟩ := o
    exact ⟨dx, vw, vc, vo, vk, va, by rw [upd_ne hs]; exact h⟩
  | some n =>
    obtain ⟨dx, vw, vc, vo, vk, va, h⟩ := o
    exact ⟨dx, vw, vc, vo, vk, va, h.h1, h.h8, by rw [upd_ne hs]; exact h.at_, h.tw.upd hN, h.tc.upd hN, h.to.upd hN, h.tk.upd hN, h.ta.upd hN⟩
end
section
variable {P : Program} {w : World} {K : PySem.W.Frag} {mg : Str → Option Value} {base : Heap} {C : Addr}
/-! ### __init__ -/
abbrev sIni : Stmt := inClass sCls 0
theorem scIni : FnScope ["self"] ["self"] (defScope sIni) := ⟨rfl, rfl, rfl, by decide +kernel, rfl, by decide +kernel, by decide +kernel⟩
def spIni (C : Addr) : Sp := fun vs H Q _ => ∃ (s dx : Addr), vs = [.ref s] ∧ H s = some (.ins C dx []) ∧ ∀ H', Frm H H' s → (∀ N, ObjAt C N H' s none) → Q .non H'
theorem s_fld {N : Addr → Prop} {H : Hp} {σ : L2.St} {s dx : Addr} {fs : List (Str × V)} {d : PyData} {i : Nat} {g : Str} {tv : TE} {D : Ends} (fr : Fr N H) (h : EvD N H tv σ d) (hσ : σ[i]? = some (some (.ref s))) (hs : H s = some (.ins C dx fs)) (cl : Cls K C) (na : NoAttr K C g) (hl : fs.length < 1000)
    (k : ∀ y H1, Ex H H1 → TN N H1 y d → H1 s = some (.ins C dx fs) → D.nx σ (upd H1 s (.ins C dx (putF g y fs)))) : sFld K (tVar i) tv g D σ H :=
  h N H Up.refl fr _ fun y H1 e1 ty => ⟨_, hσ, s, C, dx, fs, rfl, e1 _ _ hs, cl, na, hl, k y H1 e1 ty (e1 _ _ hs)⟩
theorem pn1 {a b : V} : putF "words" b [("steps", a)] = ([("steps", a), ("words", b)] : List (Str × V)) := (put_past (by decide +kernel)).trans rfl
theorem pn2 {a b c : V} : putF "closing" c [("steps", a), ("words", b)] = ([("steps", a), ("words", b), ("closing", c)] : List (Str × V)) := (put_past (by decide +kernel)).trans (congrArg _ ((put_past (by decide +kernel)).trans rfl))
theorem pn3 {a b c d : V} : putF "own" d [("steps", a), ("words", b), ("closing", c)] = ([("steps", a), ("words", b), ("closing", c), ("own", d)] : List (Str × V)) := (put_past (by decide +kernel)).trans (congrArg _ ((put_past (by decide +kernel)).trans (congrArg _ ((put_past (by decide +kernel)).trans rfl))))
theorem pn4 {a b c d e : V} : putF "kinds" e [("steps", a), ("words", b), ("closing", c), ("own", d)] = ([("steps", a), ("words", b), ("closing", c), ("own", d), ("kinds", e)] : List (Str × V)) := (put_past (by decide +kernel)).trans (congrArg _ ((put_past (by decide +kernel)).trans (congrArg _ ((put_past (by decide +kernel)).trans (congrArg _ ((put_past (by decide +kernel)).trans rfl))))))
theorem pn5 {a b c d e f : V} : putF "all_kinds" f [("steps", a), ("words", b), ("closing", c), ("own", d), ("kinds", e)] = fl a b c d e f := (put_past (by decide +kernel)).trans (congrArg _ ((put_past (by decide +kernel)).trans (congrArg _ ((put_past (by decide +kernel)).trans (congrArg _ ((put_past (by decide +kernel)).trans (congrArg _ ((put_past (by decide +kernel)).trans rfl))))))))
theorem ok_ini {f : Addr} {fd : FuncData} (F : Fun K "__init__" "Stackings.__init__" sIni f fd) (T : Txt K mg C) : FnOk P w K mg base CX0 1 f fd ["self"] (spIni C) := by
  refine F.ok scIni (fun vs H Q E h => ?_) (fun cdv A outer s H vs Q E hr h => ?_)
  · obtain ⟨s, dx, rfl, _⟩ := h
    rfl
  · obtain ⟨s, dx, rfl, hs, k⟩ := h
    refine ⟨_, pss_cons (ps_fld (pv 0) pe_int rfl) (pss_cons (ps_fld (pv 0) (pe_lst pa_nil) rfl) (pss_cons (ps_fld (pv 0) (pe_lst pa_nil) rfl) (pss_cons (ps_fld (pv 0) (pe_lst pa_nil) rfl) (pss_cons (ps_fld (pv 0) (pe_lst pa_nil) rfl) (pss_one (ps_fld (pv 0) (pe_lst pa_nil) rfl)))))), ?_⟩
    have fr : ∀ H', Fr (fun _ => True) H' := fun _ _ _ => trivial
    have nl : ∀ H', EvD (fun _ => True) H' (tLst tNil) [some (.ref s)] (.list []) := fun H' => ed_lst ea_nil (by simp)
    refine q_fld (N := fun _ => True) (fr _) ed_int rfl hs T.cl T.nS (by show 0 < 1000; decide) fun y0 H1 e1 t0 h1 => ?_
    have f1 : ∀ o, Frm H (upd H1 s o) s := fun o => (Frm.of e1).upd
    refine q_fld (N := fun _ => True) (fs := [("steps", y0)]) (fr _) (nl _) rfl upd_same T.cl T.nW (by show 1 < 1000; decide) fun y1 H2 e2 t1 h2 => ?_
    rw [pn1]
    have f2 : ∀ o, Frm H (upd H2 s o) s := fun o => ((f1 _).ext e2).upd
    refine q_fld (N := fun _ => True) (fr _) (nl _) rfl upd_same T.cl T.nC (by show 2 < 1000; decide) fun y2 H3 e3 t2 h3 => ?_
    rw [pn2]
    have f3 : ∀ o, Frm H (upd H3 s o) s := fun o => ((f2 _).ext e3).upd
    refine q_fld (N := fun _ => True) (fr _) (nl _) rfl upd_same T.cl T.nO (by show 3 < 1000; decide) fun y3 H4 e4 t3 h4 => ?_
    rw [pn3]
    have f4 : ∀ o, Frm H (upd H4 s o) s := fun o => ((f3 _).ext e4).upd
    refine q_fld (N := fun _ => True) (fr _) (nl _) rfl upd_same T.cl T.nK (by show 4 < 1000; decide) fun y4 H5 e5 t4 h5 => ?_
    rw [pn4]
    have f5 : ∀ o, Frm H (upd H5 s o) s := fun o => ((f4 _).ext e5).upd
    refine s_fld (N := fun _ => True) (fr _) (nl _) rfl upd_same T.cl T.nA (by show 5 < 1000; decide) fun y5 H6 e6 t5 h6 => ?_
    cases t0
    rw [pn5]
    exact k _ ((f5 _).ext e6).upd fun N => ⟨dx, y1, y2, y3, y4, y5, upd_same⟩
/-! ### start -/
abbrev sSta : Stmt := inClass sCls 1
theorem scSta : FnScope ["self", "n", "word"] ["self", "n"] (defScope sSta) := ⟨rfl, rfl, rfl, by decide +kernel, rfl, by decide +kernel, by decide +kernel⟩
def spSta (C : Addr) : Sp := fun vs H Q _ => ∃ (N : Addr → Prop) (s : Addr) (n : Nat) (dx : Addr) (v0 vw vc vo vk va : V), vs = [.ref s, .int (n : Int)] ∧ H s = some (.ins C dx (fl v0 vw vc vo vk va)) ∧ Fr N H ∧
  (n = 0 ∨ 8 < n → ∀ z H', Ex H H' → TN N H' z (dA [-22]) → Q z H') ∧ (¬ (n = 0 ∨ 8 < n) → ∀ z H', Frm H H' s → ObjAt C N H' s (some n) → TN N H' z (dA [(n : Int)]) → Q z H')
theorem ok_sta {f f1 f2 f3 f4 : Addr} {fd fd1 fd2 fd3 fd4 : FuncData} (F : Fun K "start" "Stackings.start" sSta f fd) (T : Txt K mg C) (Z : Cst K mg) (D1 : Df P w K mg base 1 "all_words" ["n"] (spR RAll) f1 fd1) (D2 : Df P w K mg base 2 "closes" ["word"] (spR RClo) f2 fd2)
    (D3 : Df P w K mg base 3 "is_own" ["word"] (spR ROwn) f3 fd3) (D4 : Df P w K mg base 4 "first_name" ["word"] (spR RFst) f4 fd4) : FnOk P w K mg base CX0 5 f fd ["self", "n"] (spSta C) := by
  refine F.ok scSta (fun vs H Q E h => ?_) (fun cdv A outer s H vs Q E hr h => ?_)
  · obtain ⟨N, s, n, dx, v0, vw, vc, vo, vk, va, rfl, _⟩ := h
    rfl
  · obtain ⟨N, s, n, dx, v0, vw, vc, vo, vk, va, rfl, hs, fr, kN, kY⟩ := h
    have hr1 : Room 1 (A.deeper (envOfC "Stackings.start" (defScope sSta) _ f cdv)) := hr.mono (by decide)
    have hr2 : Room 2 (A.deeper (envOfC "Stackings.start" (defScope sSta) _ f cdv)) := hr.mono (by decide)
    have hr3 : Room 3 (A.deeper (envOfC "Stackings.start" (defScope sSta) _ f cdv)) := hr.mono (by decide)
    refine ⟨_, pss_cons (ps_if (PW.pt (pw_or (pt_cmpR op_lt (pv 1) pe_int (nomark _)) (pw_or1 (pt_cmpR op_gt (pv 1) (pe_ci Z.MOST (by rfl)) (nomark _))))) (pss_one (ps_ret (pe_lst (pa_cons (pe_ci Z.NLT (by rfl)) pa_nil)))) pss_nil)
      (pss_cons (ps_fld (pv 0) (pv 1) rfl)
      (pss_cons (ps_fld (pv 0) (pe_call D1.ok hr1 (by rfl) D1.mg D1.kp D1.b .nil pass0 (pa_cons (pv 1) pa_nil)) rfl)
      (pss_cons (ps_fld (pv 0) (pe_lc (own := [("word", 2)]) (g := gName 2) rfl scSta.nd (pi_list (pe_fld (pv 0) rfl)) (blkOk_by (own := [("word", 2)]) (N := ["self", "n", "word"]) (sc := defScope sSta) (by decide +kernel)) (fun _ _ _ _ _ => pg_name (i := 2) scSta.nd rfl (Or.inl rfl))
        (fun _ _ _ _ _ => pts_one (pt_val (pe_call D2.ok hr2 (by rfl) D2.mg D2.kp D2.b .nil pass0 (pa_cons (pv 2) pa_nil)))) (fun _ _ _ _ _ => pv 2)) rfl)
      (pss_cons (ps_fld (pv 0) (pe_lc (own := [("word", 2)]) (g := gName 2) rfl scSta.nd (pi_list (pe_fld (pv 0) rfl)) (blkOk_by (own := [("word", 2)]) (N := ["self", "n", "word"]) (sc := defScope sSta) (by decide +kernel)) (fun _ _ _ _ _ => pg_name (i := 2) scSta.nd rfl (Or.inl rfl))
        (fun _ _ _ _ _ => pts_one (pt_val (pe_call D3.ok hr3 (by rfl) D3.mg D3.kp D3.b .nil pass0 (pa_cons (pv 2) pa_nil)))) (fun _ _ _ _ _ => pv 2)) rfl)
      (pss_cons (ps_fld (pv 0) (pe_lc (own := [("word", 2)]) (g := gName 2) rfl scSta.nd (pi_list (pe_fld (pv 0) rfl)) (blkOk_by (own := [("word", 2)]) (N := ["self", "n", "word"]) (sc := defScope sSta) (by decide +kernel)) (fun _ _ _ _ _ => pg_name (i := 2) scSta.nd rfl (Or.inl rfl))
        (fun _ _ _ _ _ => pts_one (pt_cmpR (r := rEqD K) (op_eqD (hu64 hr)) (pe_call D4.ok hr (by rfl) D4.mg D4.kp D4.b .nil pass0 (pa_cons (pv 2) pa_nil)) (pv 2) (nomark _))) (fun _ _ _ _ _ => pv 2)) rfl)
      (pss_cons (ps_fld (pv 0) (pe_lc (own := [("word", 2)]) (g := gName 2) (tt := tTest (tOp (rInD K) (tVar 2) (tFld K (tVar 0) "own"))) rfl scSta.nd (pi_list (pe_fld (pv 0) rfl)) (blkOk_by (own := [("word", 2)]) (N := ["self", "n", "word"]) (sc := defScope sSta) (by decide +kernel)) (fun _ _ _ _ _ => pg_name (i := 2) scSta.nd rfl (Or.inl rfl))
        (fun _ _ _ _ _ => pts_one (pt_cmpR (op_inD (hu65 hr)) (pv 2) (pe_fld (pv 0) rfl) (by rfl))) (fun _ _ _ _ _ => pv 2)) rfl)
      (pss_one (ps_ret (pe_lst (pa_cons (pv 1) pa_nil)))))))))), ?_⟩
    refine q_when fr (et_or (et_test (ed_op (ed_var rfl (.int _)) ed_int rd_bool)) (et_test (ed_op (ed_var rfl (.int _)) ed_int rd_bool))) (fun hb H1 e1 => ?_) (fun hb H1 e1 => ?_)
    · have hc : n = 0 ∨ 8 < n := by
        rcases Bool.or_eq_true_iff.mp hb with h | h
        · have := of_decide_eq_true h
          omega
        · have := of_decide_eq_true h
          omega
      exact s_ret (fr.ext e1) (ed_lst (ea_1 ed_int) (by simp)) fun z H2 e2 tz => kN hc z H2 (e1.trans e2) tz
    have hc : ¬ (n = 0 ∨ 8 < n) := fun h => by
      rw [Bool.or_eq_false_iff] at hb
      have h1 := of_decide_eq_false hb.1
      have h2 := of_decide_eq_false hb.2
      omega
    have h1 : 1 ≤ n := by omega
    have h8 : n ≤ 8 := by omega
    have σe : L2.start ["self", "n", "word"] [.ref s, .int (n : Int)] = [some (.ref s), some (.int (n : Int)), none] := rfl
    -- steps
    refine q_fld (s := s) (fr.ext e1) (ed_var (i := 1) rfl (.int (n : Int))) rfl (e1 _ _ hs) T.cl T.nS (by show 6 < 1000; decide) fun y0 H2 e2 t0 s2 => ?_
    cases t0
    rw [fp_steps]
    have fm2 := ((Frm.of (e1.trans e2)).upd (o := .ins C dx (fl (.int (n : Int)) vw vc vo vk va)) : Frm H _ s)
    have fr2 := (((fr.ext e1).ext e2).upd s2 (o' := .ins C dx (fl (.int (n : Int)) vw vc vo vk va)))
    -- words
    refine q_fld (s := s) (d := dWs (words n)) fr2 (ed_call (ea_1 (ed_var (i := 1) rfl (.int (n : Int)))) ⟨n, h8, rfl, rfl⟩) rfl upd_same T.cl T.nW (by show 6 < 1000; decide) fun y1 H3 e3 t1 s3 => ?_
    rw [fp_words]
    have fm3 := ((fm2.ext e3).upd (o := .ins C dx (fl (.int (n : Int)) y1 vc vo vk va)) : Frm H _ s)
    have fr3 := ((fr2.ext e3).upd s3 (o' := .ins C dx (fl (.int (n : Int)) y1 vc vo vk va)))
    have w3 := t1.updIns (o := .ins C dx (fl (.int (n : Int)) y1 vc vo vk va)) s3
    -- closing
    refine q_fld (s := s) (d := dWs (closing n)) fr3 (ed_lcM (c := dW) closes dW (ed_fld rfl upd_same T.cl T.nW fl_words w3) (Nat.le_trans (words_le h8) (by decide)) (fun _ => rfl) (fun N1 H' up a ha x tx => et_B (ed_call (ea_1 (ed_var rfl tx)) ⟨a, ?_, rfl, rfl⟩)) (fun N1 H' up a ha x tx _ => ed_var rfl tx)) rfl upd_same T.cl T.nC (by show 6 < 1000; decide) fun y2 H4 e4 t2 s4 => ?_
    · have := (words_mem n a ha).1
      omega
    rw [fp_closing]
    have fm4 := ((fm3.ext e4).upd (o := .ins C dx (fl (.int (n : Int)) y1 y2 vo vk va)) : Frm H _ s)
    have fr4 := ((fr3.ext e4).upd s4 (o' := .ins C dx (fl (.int (n : Int)) y1 y2 vo vk va)))
    have w4 := (w3.mono e4).updIns (o := .ins C dx (fl (.int (n : Int)) y1 y2 vo vk va)) s4
    have c4 := t2.updIns (o := .ins C dx (fl (.int (n : Int)) y1 y2 vo vk va)) s4
    -- own
    refine q_fld (s := s) (d := dWs (own n)) fr4 (ed_lcM (c := dW) (fun a => Kqi3.period a == n) dW (ed_fld rfl upd_same T.cl T.nC fl_closing c4) (Nat.le_trans (closing_le h8) (by decide)) (fun _ => rfl) (fun N1 H' up a ha x tx => et_is (et_B (ed_call (ea_1 (ed_var rfl tx)) ⟨a, ?_, rfl, rfl⟩)) ?_) (fun N1 H' up a ha x tx _ => ed_var rfl tx)) rfl upd_same T.cl T.nO (by show 6 < 1000; decide) fun y3 H5 e5 t3 s5 => ?_
    · have := (words_mem n a (closing_mem ha).1).1
      omega
    · have := beq_iff_eq.mp (List.all_eq_true.mp (of_all8 own_k h1 h8) a (closing_mem ha).1)
      rw [this, (closing_mem ha).2, Bool.true_and]
    rw [fp_own]
    have fm5 := ((fm4.ext e5).upd (o := .ins C dx (fl (.int (n : Int)) y1 y2 y3 vk va)) : Frm H _ s)
    have fr5 := ((fr4.ext e5).upd s5 (o' := .ins C dx (fl (.int (n : Int)) y1 y2 y3 vk va)))
    have w5 := (w4.mono e5).updIns (o := .ins C dx (fl (.int (n : Int)) y1 y2 y3 vk va)) s5
    have c5 := (c4.mono e5).updIns (o := .ins C dx (fl (.int (n : Int)) y1 y2 y3 vk va)) s5
    have o5 := t3.updIns (o := .ins C dx (fl (.int (n : Int)) y1 y2 y3 vk va)) s5
    -- all_kinds
    refine q_fld (s := s) (d := dWs (kindsAll n)) fr5 (ed_lcM (c := dW) (fun a => first a == a) dW (ed_fld rfl upd_same T.cl T.nC fl_closing c5) (Nat.le_trans (closing_le h8) (by decide)) (fun _ => rfl) (fun N1 H' up a ha x tx => et_is (et_test (ed_op (ed_call (ea_1 (ed_var rfl tx)) ⟨n, a, h1, h8, ha, rfl, rfl⟩) (ed_var rfl tx) (rd_eqD (shaped_W _) (shaped_W _)))) (eqv_W _ _)) (fun N1 H' up a ha x tx _ => ed_var rfl tx)) rfl upd_same T.cl T.nA (by show 6 < 1000; decide) fun y4 H6 e6 t4 s6 => ?_
    rw [fp_all]
    have fm6 := ((fm5.ext e6).upd (o := .ins C dx (fl (.int (n : Int)) y1 y2 y3 vk y4)) : Frm H _ s)
    have fr6 := ((fr5.ext e6).upd s6 (o' := .ins C dx (fl (.int (n : Int)) y1 y2 y3 vk y4)))
    have w6 := (w5.mono e6).updIns (o := .ins C dx (fl (.int (n : Int)) y1 y2 y3 vk y4)) s6
    have c6 := (c5.mono e6).updIns (o := .ins C dx (fl (.int (n : Int)) y1 y2 y3 vk y4)) s6
    have o6 := (o5.mono e6).updIns (o := .ins C dx (fl (.int (n : Int)) y1 y2 y3 vk y4)) s6
    have a6 := t4.updIns (o := .ins C dx (fl (.int (n : Int)) y1 y2 y3 vk y4)) s6
    -- kinds
    have al : (kindsAll n).length ≤ 40000 := Nat.le_trans (Nat.le_trans (List.length_filter_le _ _) (closing_le h8)) (by decide)
    refine q_fld (s := s) (d := dWs (kinds n)) fr6 (ed_is (ed_lcM (c := dW) (fun a => (own n).contains a) dW (ed_fld rfl upd_same T.cl T.nA fl_all a6) al (fun _ => rfl) (fun N1 H' up a ha x tx => et_is (et_test (ed_op (ed_var rfl tx) (ed_fld rfl (up.ex _ _ upd_same) T.cl T.nO fl_own (up.tn _ _ o6)) (rd_inD (shaped_W _) (shaped_Ws _)))) (any_W _ _)) (fun N1 H' up a ha x tx _ => ed_var rfl tx)) ?_) rfl upd_same T.cl T.nK (by show 6 < 1000; decide) fun y5 H7 e7 t5 s7 => ?_
    · rw [kinds_py]
      rfl
    rw [fp_kinds]
    have fm7 := ((fm6.ext e7).upd (o := .ins C dx (fl (.int (n : Int)) y1 y2 y3 y5 y4)) : Frm H _ s)
    have fr7 := ((fr6.ext e7).upd s7 (o' := .ins C dx (fl (.int (n : Int)) y1 y2 y3 y5 y4)))
    have w7 := (w6.mono e7).updIns (o := .ins C dx (fl (.int (n : Int)) y1 y2 y3 y5 y4)) s7
    have c7 := (c6.mono e7).updIns (o := .ins C dx (fl (.int (n : Int)) y1 y2 y3 y5 y4)) s7
    have o7 := (o6.mono e7).updIns (o := .ins C dx (fl (.int (n : Int)) y1 y2 y3 y5 y4)) s7
    have a7 := (a6.mono e7).updIns (o := .ins C dx (fl (.int (n : Int)) y1 y2 y3 y5 y4)) s7
    have k7 := t5.updIns (o := .ins C dx (fl (.int (n : Int)) y1 y2 y3 y5 y4)) s7
    have ob : ObjAt C N (upd H7 s (.ins C dx (fl (.int (n : Int)) y1 y2 y3 y5 y4))) s (some n) := ⟨dx, y1, y2, y3, y5, y4, h1, h8, upd_same, w7, c7, o7, k7, a7⟩
    exact s_ret fr7 (ed_lst (ea_1 (ed_var (i := 1) rfl (.int (n : Int)))) (by simp)) fun z H8 e8 tz => kY hc z H8 (fm7.ext e8) (ob.ext e8) tz
end
end Lk
namespace Lk
open PySem PySem.Spec PyProof.Rows L2
open Kqi3 (net words closing own kinds kindsAll ways first names leaves handed sides begun opposite closes)
/-! ### call -/
inductive Cal : Nat → List Nat → Kqi3.Call → Prop
  | start (a : Nat) : Cal 0 [a] (.start a)
  | which (l : List Nat) (h : l.length ≤ 60) : Cal 8 l (.which l)
  | next (l : List Nat) (h : l.length ≤ 60) : Cal 14 l (.next l)
  | num {p k : Nat} {c : Kqi3.Call} (h : Cwn p k c) : Cal p [k] c
  | alone {p : Nat} {c : Kqi3.Call} (h : Cal0 p c) : Cal p [] c
def spCll (C : Addr) : Sp := fun vs H Q _ => ∃ (N : Addr → Prop) (s : Addr) (st : Option Nat) (p : Nat) (l : List Nat) (c : Kqi3.Call) (g : V), vs = [.ref s, .int (p : Int), g] ∧ ObjAt C N H s st ∧ TN N H g (dW l) ∧ Fr N H ∧ Cal p l c ∧
  ∀ z H', Frm H H' s → ObjAt C N H' s (Kqi3.step st c).1 → TN N H' z (dA (Kqi3Neutral.tell (Kqi3.step st c).2)) → Q z H'
section
variable {P : Program} {w : World} {K : PySem.W.Frag} {mg : Str → Option Value} {base : Heap} {C : Addr}
abbrev sCll : Stmt := inClass sCls 11
theorem scCll : FnScope ["self", "number", "given"] ["self", "number", "given"] (defScope sCll) := ⟨rfl, rfl, rfl, by decide +kernel, rfl, by decide +kernel, by decide +kernel⟩
theorem ok_cll {f f1 f2 f3 f4 f5 : Addr} {fd fd1 fd2 fd3 fd4 fd5 : FuncData} (F : Fun K "call" "Stackings.call" sCll f fd) (T : Txt K mg C) (Z : Cst K mg) (D1 : Dm P w K mg base C 5 "start" ["self", "n"] (spSta C) f1 fd1) (D2 : Dm P w K mg base C 5 "which" ["self", "word"] (spQ C RWhi) f2 fd2)
    (D3 : Dm P w K mg base C 2 "next_closing" ["self", "word"] (spQ C RNxt) f3 fd3) (D4 : Dm P w K mg base C 6 "call_with_number" ["self", "number", "given"] (spQ C RCwn) f4 fd4) (D5 : Dm P w K mg base C 6 "call_alone" ["self", "number"] (spQ C RCal) f5 fd5) :
    FnOk P w K mg base CX0 7 f fd ["self", "number", "given"] (spCll C) := by
  refine F.ok scCll (fun vs H Q E h => ?_) (fun cdv A outer s H vs Q E hr h => ?_)
  · obtain ⟨N, s, st, p, l, c, g, rfl, _⟩ := h
    rfl
  · obtain ⟨N, s, st, p, l, c, g, rfl, ob, tg, fr, hc, k⟩ := h
    obtain ⟨aN, mN, sN⟩ := Z.CWN
    refine ⟨_, pss_cons (ps_if (pt_cmpR op_eq (pv 1) (pe_ci Z.START (by rfl)) (nomark _)) (pss_one (ps_ret (pe_meth (pv 0) T.cl D1.me D1.ok (hr.mono (by decide)) D1.b .nil pass0 (pa_cons (pe_ix ix_list (pv 2) pe_int (fun _ _ => rfl)) pa_nil)))) pss_nil)
      (pss_cons (ps_if (pt_cmpR op_eq (pe_fld (pv 0) rfl) pe_int (nomark _)) (pss_one (ps_ret (pe_lst (pa_cons (pe_ci Z.NST (by rfl)) pa_nil)))) pss_nil)
      (pss_cons (ps_if (pt_cmpR op_eq (pv 1) (pe_ci Z.WHICH (by rfl)) (nomark _)) (pss_one (ps_ret (pe_meth (pv 0) T.cl D2.me D2.ok (hr.mono (by decide)) D2.b .nil pass0 (pa_cons (pv 2) pa_nil)))) pss_nil)
      (pss_cons (ps_if (pt_cmpR op_eq (pv 1) (pe_ci Z.NEXT (by rfl)) (nomark _)) (pss_one (ps_ret (pe_meth (pv 0) T.cl D3.me D3.ok (hr.mono (by decide)) D3.b .nil pass0 (pa_cons (pv 2) pa_nil)))) pss_nil)
      (pss_cons (ps_if (pt_cmpR op_in_seq (pv 1) (pe_glob rfl mN (v := .ref aN) rfl) (by rfl)) (pss_one (ps_ret (pe_meth (pv 0) T.cl D4.me D4.ok hr D4.b .nil pass0 (pa_cons (pv 1) (pa_cons (pe_ix ix_list (pv 2) pe_int (fun _ _ => rfl)) pa_nil))))) pss_nil)
      (pss_one (ps_ret (pe_meth (pv 0) T.cl D5.me D5.ok hr D5.b .nil pass0 (pa_cons (pv 1) pa_nil)))))))), ?_⟩
    have tst : ∀ (H' : Hp) (j : Int), EvT N H' (tTest (tOp rEq (tVar 1) (tC (.int j)))) [some (.ref s), some (.int (p : Int)), some g] (((p : Nat) : Int) == j) := fun H' j => et_test (ed_op (ed_var rfl (.int _)) ed_int rd_eq)
    have g0 : ∀ (H' : Hp) (a : Nat), Ex H H' → l = [a] → EvD N H' (tOp (rIxL K) (tVar 2) (tC (.int 0))) [some (.ref s), some (.int (p : Int)), some g] (dI a) := fun H' a e hl => by
      subst hl
      exact ed_op (ed_var rfl (tg.mono e)) ed_int (rd_ix (i := ((0 : Nat) : Int)) (atI_nat rfl))
    refine q_when fr (tst H 0) (fun hb H1 e1 => ?_) (fun hb1 H1 e1 => ?_)
    · -- start
      cases hc with
      | start a =>
        obtain ⟨dx, v0, vw, vc, vo, vk, va, hs⟩ := ob.raw
        refine ⟨_, rfl, s, dx, _, rfl, e1 _ _ hs, fl_m (by decide +kernel), g0 H1 a e1 rfl N H1 Up.refl (fr.ext e1) _ fun x H2 e2 tx => ?_⟩
        cases tx
        have e12 := e1.trans e2
        have hS : Kqi3.step st (.start a) = if a = 0 ∨ 8 < a then (st, .num (-22)) else (some a, .num a) := rfl
        rw [hS] at k
        refine ⟨N, s, a, dx, v0, vw, vc, vo, vk, va, rfl, e12 _ _ hs, fr.ext e12, fun hn z H3 e3 tz => ?_, fun hn z H3 f3 o3 tz => ?_⟩
        · rw [if_pos hn] at k
          exact k z H3 (Frm.of (e12.trans e3)) (ob.ext (e12.trans e3)) tz
        · rw [if_neg hn] at k
          exact k z H3 (fun b o n h => f3 b o n (e12 b o h)) o3 tz
      | which l h => exact absurd hb (by decide)
      | next l h => exact absurd hb (by decide)
      | num h => cases h <;> exact absurd hb (by decide)
      | alone h => cases h <;> exact absurd hb (by decide)
    cases st with
    | none =>
      obtain ⟨dx, vw, vc, vo, vk, va, hs⟩ := ob
      have hS : Kqi3.step none c = (none, .num (-11)) := by
        cases hc with
        | start a => exact absurd hb1 (by decide)
        | which l h => rfl
        | next l h => rfl
        | num h => cases h <;> rfl
        | alone h => cases h <;> rfl
      rw [hS] at k
      refine q_when (fr.ext e1) (et_test (ed_op (ed_fld rfl (e1 _ _ hs) T.cl T.nS fl_steps (.int 0)) ed_int rd_eq)) (fun hb H2 e2 => ?_) (fun hb H2 e2 => absurd hb (by decide))
      have e := e1.trans e2
      exact s_ret (fr.ext e) (ed_lst (ea_1 ed_int) (by simp)) fun z H3 e3 tz => k z H3 (Frm.of (e.trans e3)) ⟨dx, vw, vc, vo, vk, va, (e.trans e3) _ _ hs⟩ tz
    | some n =>
      obtain ⟨dx, vw, vc, vo, vk, va, o⟩ := ob
      have h1 := o.h1
      have hS : (Kqi3.step (some n) c).1 = some n := by
        cases hc with
        | start a => exact absurd hb1 (by decide)
        | which l h => rfl
        | next l h => rfl
        | num h => cases h <;> rfl
        | alone h => cases h <;> rfl
      rw [hS] at k
      have k' : ∀ z H', Ex H H' → TN N H' z (dA (ans n c)) → Q z H' := fun z H' e tz => k z H' (Frm.of e) ⟨dx, vw, vc, vo, vk, va, o.ext (Up.of e)⟩ tz
      refine q_when (fr.ext e1) (et_test (ed_op (of_steps T (o.ext (Up.of e1)) rfl) ed_int rd_eq)) (fun hb H2 e2 => ?_) (fun hb H2 e2 => ?_)
      · have := beq_iff_eq.mp hb
        omega
      have e2 := e1.trans e2
      refine q_when (fr.ext e2) (tst H2 8) (fun hb H3 e3 => ?_) (fun hb8 H3 e3 => ?_)
      · have e := e2.trans e3
        cases hc with
        | which l h => exact s_ret (fr.ext e) (ed_meth rfl (o.ext (Up.of e)) (fl_m (by decide +kernel)) (ea_1 (ed_var rfl (tg.mono e))) ⟨l, h, rfl, rfl⟩) fun z H4 e4 tz => k' z H4 (e.trans e4) tz
        | start a => exact absurd hb (by decide)
        | next l h => exact absurd hb (by decide)
        | num h => cases h <;> exact absurd hb (by decide)
        | alone h => cases h <;> exact absurd hb (by decide)
      have e3 := e2.trans e3
      refine q_when (fr.ext e3) (tst H3 14) (fun hb H4 e4 => ?_) (fun hb14 H4 e4 => ?_)
      · have e := e3.trans e4
        cases hc with
        | next l h => exact s_ret (fr.ext e) (ed_meth rfl (o.ext (Up.of e)) (fl_m (by decide +kernel)) (ea_1 (ed_var rfl (tg.mono e))) ⟨l, h, rfl, rfl⟩) fun z H5 e5 tz => k' z H5 (e.trans e5) tz
        | start a => exact absurd hb (by decide)
        | which l h => exact absurd hb (by decide)
        | num h => cases h <;> exact absurd hb (by decide)
        | alone h => cases h <;> exact absurd hb (by decide)
      have e4 := e3.trans e4
      refine q_when (fr.ext e4) (et_test (ed_inK (ed_var rfl (.int _)) sN)) (fun hb H5 e5 => ?_) (fun hbN H5 e5 => ?_)
      · have e := e4.trans e5
        cases hc with
        | num h =>
          rename_i i
          exact s_ret (fr.ext e) (ed_meth rfl (o.ext (Up.of e)) (fl_m (by decide +kernel)) (ea_2 (ed_var rfl (.int _)) (g0 H5 i e rfl)) ⟨p, i, c, h, rfl, rfl⟩) fun z H6 e6 tz => k' z H6 (e.trans e6) tz
        | start a => exact absurd hb1 (by decide)
        | which l h => exact absurd hb8 (by decide)
        | next l h => exact absurd hb14 (by decide)
        | alone h => cases h <;> exact absurd hb (by decide)
      have e := e4.trans e5
      cases hc with
      | alone h => exact s_ret (fr.ext e) (ed_meth rfl (o.ext (Up.of e)) (fl_m (by decide +kernel)) (ea_1 (ed_var rfl (.int _))) ⟨p, c, h, rfl, rfl⟩) fun z H6 e6 tz => k' z H6 (e.trans e6) tz
      | start a => exact absurd hb1 (by decide)
      | which l h => exact absurd hb8 (by decide)
      | next l h => exact absurd hb14 (by decide)
      | num h => cases h <;> exact absurd hbN (by decide)
end
/-! ### how the calls lie in the list -/
section
open PyKqi3
theorem cl_num {p : Int} {r t : List Int} {c : List (List Int)} (hs : shape p = some (1, 0)) (h : PyFlat.call shape (p :: r) = some (c, t)) : ∃ a, r = a :: t ∧ c = [[p, a]] := by
  unfold PyFlat.call at h
  simp only [hs] at h
  cases r with
  | nil => simp at h
  | cons a r =>
    simp [PyFlat.rows] at h
    exact ⟨a, by rw [h.2], h.1.symm⟩
theorem cl_alone {p : Int} {r t : List Int} {c : List (List Int)} (hs : shape p = some (0, 0)) (h : PyFlat.call shape (p :: r) = some (c, t)) : r = t ∧ c = [[p]] := by
  unfold PyFlat.call at h
  simp only [hs] at h
  simp [PyFlat.rows] at h
  exact ⟨h.2, h.1.symm⟩
theorem cl_word {p : Int} {r t : List Int} {c : List (List Int)} (hs : shape p = some (0, 1)) (h : PyFlat.call shape (p :: r) = some (c, t)) : ∃ (m : Nat) (r' : List Int), r = (m : Int) :: r' ∧ m ≤ r'.length ∧ t = r'.drop m ∧ c = [[p], r'.take m] := by
  unfold PyFlat.call at h
  simp only [hs] at h
  cases r with
  | nil => simp [PyFlat.rows, PyFlat.row] at h
  | cons a r =>
    by_cases hc : 0 ≤ a ∧ a.toNat ≤ r.length
    · have e : PyFlat.rows 1 ((a :: r).drop 0) = some ([r.take a.toNat], r.drop a.toNat) := by
        simp only [List.drop_zero, PyFlat.rows, PyFlat.row, if_pos hc]
      rw [e] at h
      simp at h
      exact ⟨a.toNat, r, by rw [Int.toNat_of_nonneg hc.1], hc.2, h.2.symm, h.1.symm⟩
    · have e : PyFlat.rows 1 ((a :: r).drop 0) = none := by
        simp only [List.drop_zero, PyFlat.rows, PyFlat.row, if_neg hc]
      rw [e] at h
      simp at h
theorem nats_of {r : List Int} (h : r.all (PyInside.within 0 4294967295) = true) : cI (r.map Int.toNat) = r := by
  unfold cI
  rw [List.map_map]
  conv => rhs; rw [← List.map_id r]
  refine List.map_congr_left fun z hz => ?_
  have := List.all_eq_true.mp h z hz
  unfold PyInside.within at this
  rw [Bool.and_eq_true] at this
  have := of_decide_eq_true this.1
  show ((z.toNat : Nat) : Int) = z
  omega
theorem shape_dom {p : Int} {q : Nat × Nat} (h : shape p = some q) : ∃ n : Nat, n < 18 ∧ p = (n : Int) := by
  by_cases hp : 0 ≤ p ∧ p < 18
  · exact ⟨p.toNat, by omega, by omega⟩
  · exfalso
    unfold PyKqi3.shape at h
    rw [if_neg (by omega), if_neg (by omega), if_neg (by omega), if_neg (by omega), if_neg (by omega), if_neg (by omega), if_neg (by omega), if_neg (by omega), if_neg (by omega), if_neg (by omega), if_neg (by omega), if_neg (by omega), if_neg (by omega), if_neg (by omega), if_neg (by omega), if_neg (by omega), if_neg (by omega), if_neg (by omega)] at h
    cases h
/-- a call of the list as the program takes it -/
structure Took (rest : List Int) (c : List (List Int)) (t : List Int) (q : Nat) (l : List Nat) (m : Nat) (kc : Kqi3.Call) : Prop where
  cut : Cut rest (q : Int) (cI l) m
  drop : t = rest.drop m
  pos : 1 ≤ m
  le : m ≤ rest.length
  cal : Cal q l kc
  of : Kqi3Neutral.callOf (whole c) = some kc
theorem took_num {n : Nat} {r t : List Int} {c : List (List Int)} {kc : Nat → Kqi3.Call} (hs : shape (n : Int) = some (1, 0)) (hb : bound (n : Int) = ([(0, 4294967295)], [])) (hN : cwN.contains (n : Int) = true) (hC : ∀ k, Cal n [k] (kc k)) (hw : ∀ a : Int, Kqi3Neutral.callOf (whole [[(n : Int), a]]) = some (kc a.toNat))
    (h : PyFlat.call shape ((n : Int) :: r) = some (c, t)) (hi : PyInside.call bound c = true) : ∃ q l m kc, Took ((n : Int) :: r) c t q l m kc := by
  obtain ⟨a, rfl, rfl⟩ := cl_num hs h
  have ha : 0 ≤ a := by
    unfold PyInside.call at hi
    simp only [hb] at hi
    simp [PyInside.each, PyInside.within, PyInside.lists] at hi
    exact hi.1
  refine ⟨n, [a.toNat], 2, kc a.toNat, ?_, rfl, by decide, by simp, hC _, hw a⟩
  have e : cI [a.toNat] = [a] := by
    show [((a.toNat : Nat) : Int)] = [a]
    rw [Int.toNat_of_nonneg ha]
  rw [e]
  exact .num hN
theorem took_alone {n : Nat} {r t : List Int} {c : List (List Int)} {kc : Kqi3.Call} (hs : shape (n : Int) = some (0, 0)) (hN : cwN.contains (n : Int) = false) (hW : cwW.contains (n : Int) = false) (hC : Cal n [] kc) (hw : Kqi3Neutral.callOf (whole [[(n : Int)]]) = some kc)
    (h : PyFlat.call shape ((n : Int) :: r) = some (c, t)) : ∃ q l m kc, Took ((n : Int) :: r) c t q l m kc := by
  obtain ⟨rfl, rfl⟩ := cl_alone hs h
  exact ⟨n, [], 1, kc, .alone hN hW, rfl, by decide, by simp, hC, hw⟩
theorem took_word {n : Nat} {r t : List Int} {c : List (List Int)} {kc : List Nat → Kqi3.Call} (hs : shape (n : Int) = some (0, 1)) (hb : bound (n : Int) = ([], [(0, 4294967295, 0, 60)])) (hN : cwN.contains (n : Int) = false) (hW : cwW.contains (n : Int) = true) (hC : ∀ l : List Nat, l.length ≤ 60 → Cal n l (kc l))
    (hw : ∀ x : List Int, Kqi3Neutral.callOf (whole [[(n : Int)], x]) = some (kc (x.map Int.toNat))) (h : PyFlat.call shape ((n : Int) :: r) = some (c, t)) (hi : PyInside.call bound c = true) : ∃ q l m kc, Took ((n : Int) :: r) c t q l m kc := by
  obtain ⟨m, r', rfl, hm, rfl, rfl⟩ := cl_word hs h
  unfold PyInside.call at hi
  simp only [hb] at hi
  have hi2 : (decide ((r'.take m).length ≤ 60) && (r'.take m).all (PyInside.within 0 4294967295)) = true := by
    simp [PyInside.each, PyInside.lists] at hi
    simp
    exact hi
  rw [Bool.and_eq_true] at hi2
  have hl := of_decide_eq_true hi2.1
  refine ⟨n, (r'.take m).map Int.toNat, 2 + m, _, ?_, ?_, by omega, by simp; omega, hC _ (by rw [List.length_map]; exact hl), hw _⟩
  · rw [nats_of hi2.2]
    exact .word hN hW hm
  · rw [Nat.add_comm 2 m]
    rfl
theorem took {p : Int} {r t : List Int} {c : List (List Int)} (h : PyFlat.call shape (p :: r) = some (c, t)) (hi : PyInside.call bound c = true) : ∃ q l m kc, Took (p :: r) c t q l m kc := by
  have hd : ∃ q, shape p = some q := by
    unfold PyFlat.call at h
    cases e : shape p with
    | none => simp [e] at h
    | some q => exact ⟨q, rfl⟩
  obtain ⟨q, hq⟩ := hd
  obtain ⟨n, hn, rfl⟩ := shape_dom hq
  rcases (by omega : n = 0 ∨ n = 1 ∨ n = 2 ∨ n = 3 ∨ n = 4 ∨ n = 5 ∨ n = 6 ∨ n = 7 ∨ n = 8 ∨ n = 9 ∨ n = 10 ∨ n = 11 ∨ n = 12 ∨ n = 13 ∨ n = 14 ∨ n = 15 ∨ n = 16 ∨ n = 17) with e | e | e | e | e | e | e | e | e | e | e | e | e | e | e | e | e | e <;> subst e
  · exact took_num (kc := .start) rfl rfl (by decide) (fun k => .start k) (fun a => rfl) h hi
  · exact took_alone rfl (by decide) (by decide) (.alone .words) rfl h
  · exact took_alone rfl (by decide) (by decide) (.alone .closing) rfl h
  · exact took_alone rfl (by decide) (by decide) (.alone .own) rfl h
  · exact took_alone rfl (by decide) (by decide) (.alone .kinds) rfl h
  · exact took_alone rfl (by decide) (by decide) (.alone .all) rfl h
  · exact took_num (kc := .kth) rfl rfl (by decide) (fun k => .num (.kth k)) (fun a => rfl) h hi
  · exact took_num (kc := .kthAll) rfl rfl (by decide) (fun k => .num (.kthAll k)) (fun a => rfl) h hi
  · exact took_word (kc := .which) rfl rfl (by decide) (by decide) (fun l hl => .which l hl) (fun x => rfl) h hi
  · exact took_num (kc := .sides) rfl rfl (by decide) (fun k => .num (.sides k)) (fun a => rfl) h hi
  · exact took_num (kc := .leaving) rfl rfl (by decide) (fun k => .num (.leaving k)) (fun a => rfl) h hi
  · exact took_alone rfl (by decide) (by decide) (.alone .handed) rfl h
  · exact took_num (kc := .fixed) rfl rfl (by decide) (fun k => .num (.fixed k)) (fun a => rfl) h hi
  · exact took_alone rfl (by decide) (by decide) (.alone .sum) rfl h
  · exact took_word (kc := .next) rfl rfl (by decide) (by decide) (fun l hl => .next l hl) (fun x => rfl) h hi
  · exact took_num (kc := .names) rfl rfl (by decide) (fun k => .num (.names k)) (fun a => rfl) h hi
  · exact took_num (kc := .ups) rfl rfl (by decide) (fun k => .num (.ups k)) (fun a => rfl) h hi
  · exact took_alone rfl (by decide) (by decide) (.alone .state) rfl h
end
end Lk
namespace Lk
open PySem PySem.Spec PyProof.Rows L2
/-! ### answers -/
section
variable {K : PySem.W.Frag} {N : Addr → Prop} {H : Hp} {σ : L2.St}
theorem ed_lenQ {i : Nat} {a : Addr} {ns : List Int} (h : σ[i]? = some (some (.ref a))) (hs : SqL K H a (ns.map V.int)) : EvD N H (tCB (fun xs H Q => ∃ p ys, xs = [.ref p] ∧ (SqL K H p ys ∨ SqT K H p ys) ∧ Q (.int ys.length) H) (tCons (tVar i) tNil)) σ (.int (ns.length : Int)) := fun N1 H1 w fr Q q =>
  ⟨_, h, a, _, rfl, .inl (Evl.ex_l w.ex hs), by
    rw [List.length_map]
    exact q _ H1 (Evl.Ex.refl _) (.int _)⟩
end
open PyKqi3
theorem asked_of {ns : List Int} (h : answers_asked ns = true) : ∃ cs, PyFlat.calls shape ns.length ns = some cs ∧ (∀ c ∈ cs, PyInside.call bound c = true) ∧ answers ns = PyFlat.told (PyFlat.played Kqi3Neutral.step Kqi3Neutral.start (cs.map whole)) ∧ (answers ns).length ≤ 10000000 := by
  unfold answers_asked at h
  cases e : PyFlat.calls shape ns.length ns with
  | none => simp [e] at h
  | some cs =>
    simp only [e] at h
    rw [Bool.and_eq_true, Bool.and_eq_true, Bool.and_eq_true] at h
    obtain ⟨⟨⟨h1, h2⟩, h3⟩, h4⟩ := h
    refine ⟨cs, rfl, fun c hc => List.all_eq_true.mp h2 c hc, ?_, of_decide_eq_true h4⟩
    unfold answers calls
    rw [e]
/-- one call more -/
theorem calls_more {f : Nat} {l : List Int} {cs : List (List (List Int))} (h : PyFlat.calls shape f l = some cs) (hl : l ≠ []) : ∃ p r c t cs', l = p :: r ∧ cs = c :: cs' ∧ PyFlat.call shape (p :: r) = some (c, t) ∧ ∃ f', PyFlat.calls shape f' t = some cs' := by
  cases l with
  | nil => exact absurd rfl hl
  | cons p r =>
    cases f with
    | zero => simp [PyFlat.calls] at h
    | succ f =>
      unfold PyFlat.calls at h
      cases e : PyFlat.call shape (p :: r) with
      | none => simp [e] at h
      | some q =>
        obtain ⟨c, t⟩ := q
        simp only [e] at h
        cases e2 : PyFlat.calls shape f t with
        | none => simp [e2] at h
        | some cs' =>
          simp only [e2] at h
          exact ⟨p, r, c, t, cs', rfl, (Option.some.inj h).symm, e, f, e2⟩
theorem cut_head {l g : List Int} {p : Int} {m : Nat} (h : Cut l p g m) : l.head? = some p := by cases h <;> rfl
theorem calls_end {f : Nat} {cs : List (List (List Int))} (h : PyFlat.calls shape f [] = some cs) : cs = [] := by
  cases f <;> simp [PyFlat.calls] at h <;> exact h
section
variable {P : Program} {w : World} {K : PySem.W.Frag} {mg : Str → Option Value} {base : Heap} {C : Addr}
abbrev sAns : Stmt := top 45
theorem scAns : FnScope ["calls", "stackings", "told", "place", "answer"] ["calls"] (defScope sAns) := ⟨rfl, rfl, rfl, by decide +kernel, rfl, by decide +kernel, by decide +kernel⟩
def spAns (K : PySem.W.Frag) : Sp := fun vs H Q _ => ∃ (a : Addr) (ns : List Int), vs = [.ref a] ∧ SqL K H a (ns.map V.int) ∧ answers_asked ns = true ∧
  ∀ (H' : Hp) (p : Addr), H' p = some (.lst ((answers ns).map V.int)) → Q (.ref p) H'
theorem ok_ans {f f1 f2 f3 f4 : Addr} {fd fd1 fd2 fd3 fd4 : FuncData} (F : Fun K "answers" "answers" sAns f fd) (B : Blt mg) (T : Txt K mg C) (gC : mg "Stackings" = some (.ref C)) (M : Mk K C f1) (G1 : FnOk P w K mg base CX0 1 f1 fd1 ["self"] (spIni C)) (b1 : Binds K fd1 ["self"] [])
    (D2 : Dm P w K mg base C 7 "call" ["self", "number", "given"] (spCll C) f2 fd2) (D3 : Df P w K mg base 1 "given_at" ["calls", "place"] (spGiv K) f3 fd3) (D4 : Df P w K mg base 1 "place_behind" ["calls", "place"] (spPlb K) f4 fd4) : FnOk P w K mg base CX0 8 f fd ["calls"] (spAns K) := by
  refine F.ok scAns (fun vs H Q E h => ?_) (fun cdv A outer s0 H vs Q E hr h => ?_)
  · obtain ⟨a, ns, rfl, _⟩ := h
    rfl
  · obtain ⟨a, ns, rfl, hS, hask, k⟩ := h
    obtain ⟨cs0, hcs0, hin0, hans, hshort⟩ := asked_of hask
    have hr1 : Room 1 (A.deeper (envOfC "answers" (defScope sAns) s0.heap.objs.size f cdv)) := hr.mono (by decide)
    refine ⟨_, pss_cons (ps_set (i := 1) scAns.nd rfl (Or.inl rfl) (pe_make0 M G1 (hr.mono (by decide)) (by rfl) gC b1 .nil pass0))
      (pss_cons (ps_set (i := 2) scAns.nd rfl (Or.inl rfl) (pe_lst pa_nil))
      (pss_cons (ps_set (i := 3) scAns.nd rfl (Or.inl rfl) pe_int)
      (pss_cons (ps_while PassesOwn.never (pt_cmpR op_lt (pv 3) (pe_callB call_len_seq (by rfl) B.len PySem.boot_len (pa_cons (pv 0) pa_nil)) (nomark _))
        (pss_cons (ps_set (i := 4) scAns.nd rfl (Or.inl rfl) (pe_meth (pv 1) T.cl D2.me D2.ok hr D2.b .nil pass0 (pa_cons (pe_ix ix_list (pv 0) (pv 3) (fun _ _ => rfl)) (pa_cons (pe_call D3.ok hr1 (by rfl) D3.mg D3.kp D3.b .nil pass0 (pa_cons (pv 0) (pa_cons (pv 3) pa_nil))) pa_nil))))
        (pss_cons (ps_expr (pe_bm PySem.F.plainAttrs_list PySem.F.slot_list_append PySem.F.type_list_append mt_append (pv 2) (pa_cons (pe_callB call_len_seq (by rfl) B.len PySem.boot_len (pa_cons (pv 4) pa_nil)) pa_nil)))
        (pss_cons (ps_expr (pe_bm PySem.F.plainAttrs_list PySem.F.slot_list_extend PySem.F.type_list_extend mt_extend (pv 2) (pa_cons (pv 4) pa_nil)))
        (pss_one (ps_set (i := 3) scAns.nd rfl (Or.inl rfl) (pe_call D4.ok hr1 (by rfl) D4.mg D4.kp D4.b .nil pass0 (pa_cons (pv 0) (pa_cons (pv 3) pa_nil)))))))))
      (pss_one (ps_ret (pv 2)))))), ?_⟩
    -- stackings = Stackings()
    intro s dx nx nd ne
    refine ⟨s, dx, rfl, upd_same, fun H1 f1 o1 => ⟨rfl, ?_⟩⟩
    have ex1 : Ex H H1 := fun b o h => f1 b o (ne_of_none h nx) (by rw [upd_ne (ne_of_none h nx), upd_ne (ne_of_none h nd)]; exact h)
    -- told = []
    refine ⟨Nat.zero_le _, fun T0 hT0 => ?_⟩
    have hTn : H T0 = none := Evl.fresh_back ex1 hT0
    have hsT : s ≠ T0 := fun e => by
      obtain ⟨_, _, _, _, _, _, h⟩ := o1 fun _ => True
      rw [e, hT0] at h
      cases h
    have ex2 : Ex H (upd H1 T0 (.lst [])) := ex1.trans (Evl.Ex.new hT0)
    have frT : ∀ (H' : Hp) (xs : List V), H' T0 = some (.lst xs) → Fr (fun b => b ≠ T0) H' := fun H' xs h b hb e => by
      rw [e, h] at hb
      cases hb
    -- the loop
    refine ⟨fun m σ' H' => ∃ (i : Nat) (x : Option V) (out : List Int) (cs : List (List (List Int))) (st : Option Nat) (fu : Nat), m = ns.length - i ∧ i ≤ ns.length ∧ σ' = [some (.ref a), some (.ref s), some (.ref T0), some (.int (i : Int)), x] ∧ Ex H H' ∧
      ObjAt C (fun b => b ≠ T0) H' s st ∧ H' T0 = some (.lst (out.map V.int)) ∧ PyFlat.calls shape fu (ns.drop i) = some cs ∧ (∀ c ∈ cs, PyInside.call bound c = true) ∧ answers ns = out ++ PyFlat.told (PyFlat.played Kqi3Neutral.step st (cs.map whole)), ⟨ns.length, 0, none, [], cs0, none, ns.length, rfl, Nat.zero_le _, rfl, ex2, ?_, upd_same, hcs0, hin0, hans⟩, fun m σ' H' hW => ?_⟩
    · exact (o1 fun b => b ≠ T0).upd (fun _ h => h) hsT
    obtain ⟨i, x, out, cs, st, fu, rfl, hi, rfl, eH, ob, hT, hcs, hin, hout⟩ := hW
    have fr := frT H' _ hT
    have tst : EvT (fun b => b ≠ T0) H' (tTest (tOp (rI0 fun i j => .bl (decide (i < j))) (tVar 3) (tCB (fun xs H Q => ∃ p ys, xs = [.ref p] ∧ (SqL K H p ys ∨ SqT K H p ys) ∧ Q (.int ys.length) H) (tCons (tVar 0) tNil)))) [some (.ref a), some (.ref s), some (.ref T0), some (.int (i : Int)), x] (decide ((i : Int) < (ns.length : Int))) :=
      et_test (ed_op (ed_var rfl (.int _)) (ed_lenQ rfl (Evl.ex_l eH hS)) rd_bool)
    refine tst _ H' Up.refl fr _ fun H2 e2 => ?_
    cases hb : decide ((i : Int) < (ns.length : Int)) with
    | false =>
      have hge : i = ns.length := by
        have := of_decide_eq_false hb
        omega
      subst hge
      rw [List.drop_length] at hcs
      have hc0 := calls_end hcs
      subst hc0
      have eo : answers ns = out := by
        rw [hout]
        exact List.append_nil _
      refine ⟨_, rfl, k H2 T0 ?_⟩
      rw [eo]
      exact e2 _ _ hT
    | true =>
      have hlt : i < ns.length := by
        have := of_decide_eq_true hb
        omega
      obtain ⟨p, r, c, t, cs', hl, rfl, hcall, f', hcs'⟩ := calls_more hcs (fun z => by
        have := congrArg List.length z
        rw [List.length_drop] at this
        simp at this
        omega)
      have hinc := hin c (by simp)
      rw [hl] at hcs
      obtain ⟨q, l, mm, kc, tk⟩ := took hcall hinc
      have hp : p = (q : Int) := by
        exact Option.some.inj (cut_head tk.cut)
      subst hp
      rw [← hl] at tk
      have hmm := tk.le
      rw [List.length_drop] at hmm
      have hstep : Kqi3Neutral.step st (whole c) = ((Kqi3.step st kc).1, Kqi3Neutral.tell (Kqi3.step st kc).2) := by
        unfold Kqi3Neutral.step
        rw [tk.of]
      have hout' : answers ns = (out ++ (((Kqi3Neutral.tell (Kqi3.step st kc).2).length : Int) :: Kqi3Neutral.tell (Kqi3.step st kc).2)) ++ PyFlat.told (PyFlat.played Kqi3Neutral.step (Kqi3.step st kc).1 (cs'.map whole)) := by
        rw [hout, List.map_cons]
        show out ++ PyFlat.told ((Kqi3Neutral.step st (whole c)).2 :: PyFlat.played Kqi3Neutral.step (Kqi3Neutral.step st (whole c)).1 (cs'.map whole)) = _
        rw [hstep, List.append_assoc]
        rfl
      generalize hA : Kqi3Neutral.tell (Kqi3.step st kc).2 = an at hout'
      have hsz : out.length + 1 + an.length ≤ 10000000 := by
        have := congrArg List.length hout'
        rw [List.length_append, List.length_append, List.length_cons] at this
        omega
      have hline : (10000000 : Nat) ≤ sizeLine := by
        rw [sizeLine_eq]
        omega
      refine ⟨fun σ2 H3 => ∃ (x : Option V), σ2 = [some (.ref a), some (.ref s), some (.ref T0), some (.int ((i + mm : Nat) : Int)), x] ∧ Ex H H3 ∧ ObjAt C (fun b => b ≠ T0) H3 s (Kqi3.step st kc).1 ∧ H3 T0 = some (.lst ((out ++ ((an.length : Int) :: an)).map V.int)), fun σ2 H3 hN => ?_, ?_⟩
      · obtain ⟨x', e, ex3, ob3, hT3⟩ := hN
        refine ⟨ns.length - (i + mm), ?_, i + mm, x', _, cs', _, f', rfl, by omega, e, ex3, ob3, hT3, ?_, fun c' hc' => hin c' (by simp [hc']), hout'⟩
        · have := tk.pos
          omega
        · rw [← List.drop_drop, ← tk.drop]
          exact hcs'
      -- answer = stackings.call(calls[place], given_at(calls, place))
      have e02 : Ex H H2 := eH.trans e2
      have ob2 := ob.ext e2
      have hT2 := e2 _ _ hT
      obtain ⟨dxs, v0, vw, vc, vo, vk, va, hs2⟩ := ob2.raw
      have hat : atI ns (i : Int) = some (q : Int) := drop_at (j := 0) hl rfl
      refine ⟨_, rfl, s, dxs, _, rfl, hs2, fl_m (by decide +kernel), ?_⟩
      refine ed_ixQ (N := fun b => b ≠ T0) (j := (i : Int)) rfl (Evl.ex_l e02 hS) (ed_var rfl (.int _)) hat _ H2 Up.refl (frT _ _ hT2) _ fun v1 H3 e3 t1 => ?_
      cases t1
      have e03 : Ex H H3 := e02.trans e3
      have hT3 := e3 _ _ hT2
      refine ⟨_, rfl, _, rfl, fun b => b ≠ T0, a, ns, i, (q : Int), cI l, mm, rfl, Evl.ex_l e03 hS, frT _ _ hT3, tk.cut, fun g H4 e4 tg => ?_⟩
      have hT4 := e4 _ _ hT3
      have e04 : Ex H H4 := e03.trans e4
      rw [dA_W] at tg
      refine ⟨fun b => b ≠ T0, s, st, q, l, kc, g, rfl, ob2.ext (e3.trans e4), tg, frT _ _ hT4, tk.cal, fun z H5 f5 ob5 tz => ?_⟩
      rw [hA] at tz
      have hT5 : H5 T0 = some (.lst (out.map V.int)) := f5 _ _ hsT.symm hT4
      have e05 : Ex H H5 := fun b o h => f5 b o (ne_of_none h nx) (e04 b o h)
      -- told.append(len(answer))
      cases tz with
      | lst nz hz tzs =>
        rename_i pz xs
        have hxs := tzs.ints
        subst hxs
        refine ⟨_, rfl, .inl ⟨rfl, _, SqL.of hT5⟩, _, rfl, pz, _, rfl, .inl (SqL.of hz), T0, _, _, rfl, rfl, hT5, ?_, ?_⟩
        · rw [List.length_map]
          omega
        -- told.extend(answer)
        have hz6 : (upd H5 T0 (.lst (out.map V.int ++ [.int ((an.map V.int).length : Nat)]))) pz = some (.lst (an.map V.int)) := by
          rw [upd_ne nz]
          exact hz
        refine ⟨_, rfl, .inl ⟨rfl, _, SqL.of upd_same⟩, _, rfl, T0, pz, _, _, rfl, rfl, upd_same, hz6, ?_, ?_⟩
        · rw [List.length_append, List.length_map, List.length_map, List.length_singleton]
          omega
        -- place = place_behind(calls, place)
        rw [upd_upd]
        have e06 : ∀ o, Ex H (upd H5 T0 o) := fun o => Evl.Ex.mut e05 hTn
        refine ⟨_, rfl, _, rfl, fun b => b ≠ T0, a, ns, i, (q : Int), cI l, mm, rfl, Evl.ex_l (e06 _) hS, frT _ _ upd_same, tk.cut, fun H7 e7 => ⟨_, rfl, (e06 _).trans e7, (ob5.upd (fun _ h => h) hsT).ext e7, ?_⟩⟩
        rw [e7 _ _ upd_same, List.length_map, List.append_assoc, List.map_append, List.map_cons]
        rfl
end
end Lk
namespace Lk
open PySem PySem.Spec PyProof.Rows L2
/-! ### the end: what the top has written -/
theorem vals_ints : ∀ {ns : List Int} {us : List Value}, IntsAre us ns → Vals (ns.map V.int) us := fun h => vals_of_ints h

theorem all_mk {P : Program} {w : World} {K : PySem.W.Frag} {h : Heap} {mg : Str → Option Value} {fa C : Addr} (X : K.In h) (G : h.Ns mainGlobals mg) (hfa : mg "answers" = some (.ref fa))
    {f0 f1 f2 f3 f4 f5 f6 f7 f8 f9 f10 f11 f12 f13 f14 f15 f16 f17 f18 f19 g0 g1 g2 g3 g4 g5 g6 g7 g8 g9 g10 g11 g12 g13 : Addr} {d0 d1 d2 d3 d4 d5 d6 d7 d8 d9 d10 d11 d12 d13 d14 d15 d16 d17 d18 d19 e0 e1 e2 e3 e4 e5 e6 e7 e8 e9 e10 e11 e12 e13 : FuncData}
    (a0 : PySem.W.nsIn K mainGlobals "all_words" = some (some (.ref f0))) (F0 : Fun K "all_words" "all_words" sAll f0 d0)
    (a1 : PySem.W.nsIn K mainGlobals "is_word" = some (some (.ref f1))) (F1 : Fun K "is_word" "is_word" sIsw f1 d1)
    (a2 : PySem.W.nsIn K mainGlobals "position_behind" = some (some (.ref f2))) (F2 : Fun K "position_behind" "position_behind" sPos f2 d2)
    (a3 : PySem.W.nsIn K mainGlobals "closes" = some (some (.ref f3))) (F3 : Fun K "closes" "closes" sClo f3 d3)
    (a4 : PySem.W.nsIn K mainGlobals "positions" = some (some (.ref f4))) (F4 : Fun K "positions" "positions" sPss f4 d4)
    (a5 : PySem.W.nsIn K mainGlobals "begun_later" = some (some (.ref f5))) (F5 : Fun K "begun_later" "begun_later" sBeg f5 d5)
    (a6 : PySem.W.nsIn K mainGlobals "opposite" = some (some (.ref f6))) (F6 : Fun K "opposite" "opposite" sOpp f6 d6)
    (a7 : PySem.W.nsIn K mainGlobals "backwards" = some (some (.ref f7))) (F7 : Fun K "backwards" "backwards" sBck f7 d7)
    (a8 : PySem.W.nsIn K mainGlobals "is_own" = some (some (.ref f8))) (F8 : Fun K "is_own" "is_own" sOwn f8 d8)
    (a9 : PySem.W.nsIn K mainGlobals "way" = some (some (.ref f9))) (F9 : Fun K "way" "way" sWay f9 d9)
    (a10 : PySem.W.nsIn K mainGlobals "all_ways" = some (some (.ref f10))) (F10 : Fun K "all_ways" "all_ways" sAwy f10 d10)
    (a11 : PySem.W.nsIn K mainGlobals "first_name" = some (some (.ref f11))) (F11 : Fun K "first_name" "first_name" sFst f11 d11)
    (a12 : PySem.W.nsIn K mainGlobals "names_of" = some (some (.ref f12))) (F12 : Fun K "names_of" "names_of" sNam f12 d12)
    (a13 : PySem.W.nsIn K mainGlobals "count_leaving_ways" = some (some (.ref f13))) (F13 : Fun K "count_leaving_ways" "count_leaving_ways" sCnt f13 d13)
    (a14 : PySem.W.nsIn K mainGlobals "is_handed" = some (some (.ref f14))) (F14 : Fun K "is_handed" "is_handed" sHan f14 d14)
    (a15 : PySem.W.nsIn K mainGlobals "count_like_neighbours" = some (some (.ref f15))) (F15 : Fun K "count_like_neighbours" "count_like_neighbours" sCln f15 d15)
    (a16 : PySem.W.nsIn K mainGlobals "told_word" = some (some (.ref f16))) (F16 : Fun K "told_word" "told_word" sTld f16 d16)
    (a17 : PySem.W.nsIn K mainGlobals "given_at" = some (some (.ref f17))) (F17 : Fun K "given_at" "given_at" sGiv f17 d17)
    (a18 : PySem.W.nsIn K mainGlobals "place_behind" = some (some (.ref f18))) (F18 : Fun K "place_behind" "place_behind" sPlb f18 d18)
    (a19 : PySem.W.nsIn K mainGlobals "answers" = some (some (.ref f19))) (F19 : Fun K "answers" "answers" sAns f19 d19)
    (aC : PySem.W.nsIn K mainGlobals "Stackings" = some (some (.ref C)))
    (b0 : PySem.W.findIn K (.ref C) "__init__" = some (some (.ref g0))) (i0 : PySem.W.isFn K (.ref g0) = true) (E0 : Fun K "__init__" "Stackings.__init__" sIni g0 e0)
    (b1 : PySem.W.findIn K (.ref C) "start" = some (some (.ref g1))) (i1 : PySem.W.isFn K (.ref g1) = true) (E1 : Fun K "start" "Stackings.start" sSta g1 e1)
    (b2 : PySem.W.findIn K (.ref C) "which" = some (some (.ref g2))) (i2 : PySem.W.isFn K (.ref g2) = true) (E2 : Fun K "which" "Stackings.which" sWhi g2 e2)
    (b3 : PySem.W.findIn K (.ref C) "next_closing" = some (some (.ref g3))) (i3 : PySem.W.isFn K (.ref g3) = true) (E3 : Fun K "next_closing" "Stackings.next_closing" sNxt g3 e3)
    (b4 : PySem.W.findIn K (.ref C) "names" = some (some (.ref g4))) (i4 : PySem.W.isFn K (.ref g4) = true) (E4 : Fun K "names" "Stackings.names" sNms g4 e4)
    (b5 : PySem.W.findIn K (.ref C) "sides" = some (some (.ref g5))) (i5 : PySem.W.isFn K (.ref g5) = true) (E5 : Fun K "sides" "Stackings.sides" sSid g5 e5)
    (b6 : PySem.W.findIn K (.ref C) "leaving" = some (some (.ref g6))) (i6 : PySem.W.isFn K (.ref g6) = true) (E6 : Fun K "leaving" "Stackings.leaving" sLea g6 e6)
    (b7 : PySem.W.findIn K (.ref C) "handed" = some (some (.ref g7))) (i7 : PySem.W.isFn K (.ref g7) = true) (E7 : Fun K "handed" "Stackings.handed" sHnd g7 e7)
    (b8 : PySem.W.findIn K (.ref C) "fixed" = some (some (.ref g8))) (i8 : PySem.W.isFn K (.ref g8) = true) (E8 : Fun K "fixed" "Stackings.fixed" sFix g8 e8)
    (b9 : PySem.W.findIn K (.ref C) "fixed_together" = some (some (.ref g9))) (i9 : PySem.W.isFn K (.ref g9) = true) (E9 : Fun K "fixed_together" "Stackings.fixed_together" sFxt g9 e9)
    (b10 : PySem.W.findIn K (.ref C) "ups" = some (some (.ref g10))) (i10 : PySem.W.isFn K (.ref g10) = true) (E10 : Fun K "ups" "Stackings.ups" sUps g10 e10)
    (b11 : PySem.W.findIn K (.ref C) "call" = some (some (.ref g11))) (i11 : PySem.W.isFn K (.ref g11) = true) (E11 : Fun K "call" "Stackings.call" sCll g11 e11)
    (b12 : PySem.W.findIn K (.ref C) "call_with_number" = some (some (.ref g12))) (i12 : PySem.W.isFn K (.ref g12) = true) (E12 : Fun K "call_with_number" "Stackings.call_with_number" sCwn g12 e12)
    (b13 : PySem.W.findIn K (.ref C) "call_alone" = some (some (.ref g13))) (i13 : PySem.W.isFn K (.ref g13) = true) (E13 : Fun K "call_alone" "Stackings.call_alone" sCal g13 e13)
    (pg : PySem.W.plainGet K C Str.empty = true) (hd : PySem.W.hasDictIn K C = true) (po : PySem.W.plainOver K C = true) (sa : PySem.W.findIn K (.ref C) "__setattr__" = some (some (.builtin "object.__setattr__"))) (mk : PySem.W.makesIn K C = true) (kc : PySem.W.keepIn K (.ref C) = true)
    (n0 : PySem.W.findIn K (.ref C) "steps" = some none)
    (n1 : PySem.W.findIn K (.ref C) "words" = some none)
    (n2 : PySem.W.findIn K (.ref C) "closing" = some none)
    (n3 : PySem.W.findIn K (.ref C) "own" = some none)
    (n4 : PySem.W.findIn K (.ref C) "kinds" = some none)
    (n5 : PySem.W.findIn K (.ref C) "all_kinds" = some none)
    (z0 : PySem.W.nsIn K mainGlobals "len" = some none)
    (z1 : PySem.W.nsIn K mainGlobals "all" = some none)
    (z2 : PySem.W.nsIn K mainGlobals "sum" = some none)
    (z3 : PySem.W.nsIn K mainGlobals "range" = some none)
    (z4 : PySem.W.nsIn K mainGlobals "list" = some none)
    (z5 : PySem.W.nsIn K mainGlobals "reversed" = some none)
    (z6 : PySem.W.nsIn K mainGlobals "min" = some none)
    (z7 : PySem.W.nsIn K mainGlobals "sorted" = some none)
    (z8 : PySem.W.nsIn K mainGlobals "set" = some none)
    (z9 : PySem.W.nsIn K mainGlobals "tuple" = some none)
    {t0 t1 t2 t3 t4 t5 t6 t7 t8 t9 t10 t11 t12 t13 t14 t15 t16 t17 t18 t19 t20 : Tok}
    (c0 : PySem.W.nsIn K mainGlobals "START" = some (some (.int 0 t0)))
    (c1 : PySem.W.nsIn K mainGlobals "WORDS" = some (some (.int 1 t1)))
    (c2 : PySem.W.nsIn K mainGlobals "CLOSING" = some (some (.int 2 t2)))
    (c3 : PySem.W.nsIn K mainGlobals "OWN" = some (some (.int 3 t3)))
    (c4 : PySem.W.nsIn K mainGlobals "KINDS" = some (some (.int 4 t4)))
    (c5 : PySem.W.nsIn K mainGlobals "ALL_KINDS" = some (some (.int 5 t5)))
    (c6 : PySem.W.nsIn K mainGlobals "KTH" = some (some (.int 6 t6)))
    (c7 : PySem.W.nsIn K mainGlobals "KTH_ALL" = some (some (.int 7 t7)))
    (c8 : PySem.W.nsIn K mainGlobals "WHICH" = some (some (.int 8 t8)))
    (c9 : PySem.W.nsIn K mainGlobals "SIDES" = some (some (.int 9 t9)))
    (c10 : PySem.W.nsIn K mainGlobals "LEAVING" = some (some (.int 10 t10)))
    (c11 : PySem.W.nsIn K mainGlobals "HANDED" = some (some (.int 11 t11)))
    (c12 : PySem.W.nsIn K mainGlobals "FIXED" = some (some (.int 12 t12)))
    (c13 : PySem.W.nsIn K mainGlobals "SUM" = some (some (.int 13 t13)))
    (c14 : PySem.W.nsIn K mainGlobals "NEXT" = some (some (.int 14 t14)))
    (c15 : PySem.W.nsIn K mainGlobals "NAMES" = some (some (.int 15 t15)))
    (c16 : PySem.W.nsIn K mainGlobals "MOST_STEPS" = some (some (.int 8 t16)))
    (c17 : PySem.W.nsIn K mainGlobals "NO_SUCH_KIND" = some (some (.int (-2) t17)))
    (c18 : PySem.W.nsIn K mainGlobals "NOT_STARTED" = some (some (.int (-11) t18)))
    (c19 : PySem.W.nsIn K mainGlobals "NOT_LET" = some (some (.int (-22) t19)))
    (c20 : PySem.W.nsIn K mainGlobals "NOT_FOUND" = some (some (.int (-33) t20)))
    {aN aW : Addr} {oN oW : Option Addr} {sN sW : Array (Option Value)} {nN nW : Nat} {x0 x1 x2 x3 x4 x5 x6 x7 y0 y1 : Tok}
    (cN : PySem.W.nsIn K mainGlobals "CALLS_WITH_NUMBER" = some (some (.ref aN))) (lN : K.lookup aN = some ⟨.type "tuple", oN, .seq #[.int 0 x0, .int 6 x1, .int 7 x2, .int 9 x3, .int 10 x4, .int 12 x5, .int 15 x6, .int 16 x7] nN, sN⟩)
    (cW : PySem.W.nsIn K mainGlobals "CALLS_WITH_WORD" = some (some (.ref aW))) (lW : K.lookup aW = some ⟨.type "tuple", oW, .seq #[.int 8 y0, .int 14 y1] nW, sW⟩) :
    ∃ fd : FuncData, (∀ (s : Shared) (us : List Value), us.length = (["calls"] : List Str).length → BindsTo s fd ⟨us, []⟩ ((["calls"] : List Str).zip us)) ∧ ∀ base : Heap, K.In base → base.Ns mainGlobals mg → FnOk P w K mg base CX0 8 fa fd ["calls"] (spAns K) := by
  have ef := hfa.symm.trans (PySem.W.mg_of X G a19)
  cases ef
  have B : Blt mg := ⟨PySem.W.mg_none_of X G z0, PySem.W.mg_none_of X G z1, PySem.W.mg_none_of X G z2, PySem.W.mg_none_of X G z3, PySem.W.mg_none_of X G z4, PySem.W.mg_none_of X G z5, PySem.W.mg_none_of X G z6, PySem.W.mg_none_of X G z7, PySem.W.mg_none_of X G z8, PySem.W.mg_none_of X G z9⟩
  have T : Txt K mg C := ⟨⟨pg, hd, po, sa⟩, n0, n1, n2, n3, n4, n5⟩
  have qN : ∀ H, SqT K H aN (cwN.map V.int) := fun H => .inr ⟨_, _, _, lN, rfl, rfl, (by show 8 ≤ sizeLine; decide), .cons ⟨_, rfl⟩ (.cons ⟨_, rfl⟩ (.cons ⟨_, rfl⟩ (.cons ⟨_, rfl⟩ (.cons ⟨_, rfl⟩ (.cons ⟨_, rfl⟩ (.cons ⟨_, rfl⟩ (.cons ⟨_, rfl⟩ .nil)))))))⟩
  have qW : ∀ H, SqT K H aW (cwW.map V.int) := fun H => .inr ⟨_, _, _, lW, rfl, rfl, (by show 2 ≤ sizeLine; decide), .cons ⟨_, rfl⟩ (.cons ⟨_, rfl⟩ .nil)⟩
  have Z : Cst K mg := ⟨⟨_, PySem.W.mg_of X G c0⟩, ⟨_, PySem.W.mg_of X G c1⟩, ⟨_, PySem.W.mg_of X G c2⟩, ⟨_, PySem.W.mg_of X G c3⟩, ⟨_, PySem.W.mg_of X G c4⟩, ⟨_, PySem.W.mg_of X G c5⟩, ⟨_, PySem.W.mg_of X G c6⟩, ⟨_, PySem.W.mg_of X G c7⟩, ⟨_, PySem.W.mg_of X G c8⟩, ⟨_, PySem.W.mg_of X G c9⟩, ⟨_, PySem.W.mg_of X G c10⟩, ⟨_, PySem.W.mg_of X G c11⟩, ⟨_, PySem.W.mg_of X G c12⟩, ⟨_, PySem.W.mg_of X G c13⟩, ⟨_, PySem.W.mg_of X G c14⟩, ⟨_, PySem.W.mg_of X G c15⟩, ⟨_, PySem.W.mg_of X G c16⟩, ⟨_, PySem.W.mg_of X G c17⟩, ⟨_, PySem.W.mg_of X G c18⟩, ⟨_, PySem.W.mg_of X G c19⟩, ⟨_, PySem.W.mg_of X G c20⟩, ⟨aN, PySem.W.mg_of X G cN, qN⟩, ⟨aW, PySem.W.mg_of X G cW, qW⟩⟩
  have u0 := F0.binds (ps := ["n"]) fun _ _ _ _ _ _ us hl => match us, hl with | [_], _ => rfl
  have u1 := F1.binds (ps := ["row", "n"]) fun _ _ _ _ _ _ us hl => match us, hl with | [_, _], _ => rfl
  have u2 := F2.binds (ps := ["steps"]) fun _ _ _ _ _ _ us hl => match us, hl with | [_], _ => rfl
  have u3 := F3.binds (ps := ["word"]) fun _ _ _ _ _ _ us hl => match us, hl with | [_], _ => rfl
  have u4 := F4.binds (ps := ["word"]) fun _ _ _ _ _ _ us hl => match us, hl with | [_], _ => rfl
  have u5 := F5.binds (ps := ["row", "k"]) fun _ _ _ _ _ _ us hl => match us, hl with | [_, _], _ => rfl
  have u6 := F6.binds (ps := ["word"]) fun _ _ _ _ _ _ us hl => match us, hl with | [_], _ => rfl
  have u7 := F7.binds (ps := ["word"]) fun _ _ _ _ _ _ us hl => match us, hl with | [_], _ => rfl
  have u8 := F8.binds (ps := ["word"]) fun _ _ _ _ _ _ us hl => match us, hl with | [_], _ => rfl
  have u9 := F9.binds (ps := ["word", "t"]) fun _ _ _ _ _ _ us hl => match us, hl with | [_, _], _ => rfl
  have u10 := F10.binds (ps := ["word"]) fun _ _ _ _ _ _ us hl => match us, hl with | [_], _ => rfl
  have u11 := F11.binds (ps := ["word"]) fun _ _ _ _ _ _ us hl => match us, hl with | [_], _ => rfl
  have u12 := F12.binds (ps := ["word"]) fun _ _ _ _ _ _ us hl => match us, hl with | [_], _ => rfl
  have u13 := F13.binds (ps := ["word"]) fun _ _ _ _ _ _ us hl => match us, hl with | [_], _ => rfl
  have u14 := F14.binds (ps := ["word"]) fun _ _ _ _ _ _ us hl => match us, hl with | [_], _ => rfl
  have u15 := F15.binds (ps := ["word"]) fun _ _ _ _ _ _ us hl => match us, hl with | [_], _ => rfl
  have u16 := F16.binds (ps := ["words", "k", "refusal"]) fun _ _ _ _ _ _ us hl => match us, hl with | [_, _, _], _ => rfl
  have u17 := F17.binds (ps := ["calls", "place"]) fun _ _ _ _ _ _ us hl => match us, hl with | [_, _], _ => rfl
  have u18 := F18.binds (ps := ["calls", "place"]) fun _ _ _ _ _ _ us hl => match us, hl with | [_, _], _ => rfl
  have v0 := E0.binds (ps := ["self"]) fun _ _ _ _ _ _ us hl => match us, hl with | [_], _ => rfl
  have v1 := E1.binds (ps := ["self", "n"]) fun _ _ _ _ _ _ us hl => match us, hl with | [_, _], _ => rfl
  have v2 := E2.binds (ps := ["self", "word"]) fun _ _ _ _ _ _ us hl => match us, hl with | [_, _], _ => rfl
  have v3 := E3.binds (ps := ["self", "word"]) fun _ _ _ _ _ _ us hl => match us, hl with | [_, _], _ => rfl
  have v4 := E4.binds (ps := ["self", "k"]) fun _ _ _ _ _ _ us hl => match us, hl with | [_, _], _ => rfl
  have v5 := E5.binds (ps := ["self", "h"]) fun _ _ _ _ _ _ us hl => match us, hl with | [_, _], _ => rfl
  have v6 := E6.binds (ps := ["self", "m"]) fun _ _ _ _ _ _ us hl => match us, hl with | [_, _], _ => rfl
  have v7 := E7.binds (ps := ["self"]) fun _ _ _ _ _ _ us hl => match us, hl with | [_], _ => rfl
  have v8 := E8.binds (ps := ["self", "t"]) fun _ _ _ _ _ _ us hl => match us, hl with | [_, _], _ => rfl
  have v9 := E9.binds (ps := ["self"]) fun _ _ _ _ _ _ us hl => match us, hl with | [_], _ => rfl
  have v10 := E10.binds (ps := ["self", "u"]) fun _ _ _ _ _ _ us hl => match us, hl with | [_, _], _ => rfl
  have v11 := E11.binds (ps := ["self", "number", "given"]) fun _ _ _ _ _ _ us hl => match us, hl with | [_, _, _], _ => rfl
  have v12 := E12.binds (ps := ["self", "number", "given"]) fun _ _ _ _ _ _ us hl => match us, hl with | [_, _, _], _ => rfl
  have v13 := E13.binds (ps := ["self", "number"]) fun _ _ _ _ _ _ us hl => match us, hl with | [_, _], _ => rfl
  have Fa := F19
  obtain ⟨oc, od, kV, dc, pm, an, cdv, ct, osl, rfl, lk, hcd⟩ := F19.ex
  refine ⟨PySem.W.fnOf "answers" "answers" (defArgs sAns) (defBody sAns) (defScope sAns) .none kV dc pm an cdv ct, fun s us hu => match us, hu with | [_], _ => .of_eq rfl, fun base _ _ => ?_⟩
  have Dpos : Df P w K mg base 1 "position_behind" ["steps"] (spR RPos) f2 d2 := ⟨ok_pos F2 B, PySem.W.mg_of X G a2, F2.kp, u2⟩
  have Dclo : Df P w K mg base 2 "closes" ["word"] (spR RClo) f3 d3 := ⟨ok_clo F3 Dpos, PySem.W.mg_of X G a3, F3.kp, u3⟩
  have Dpss : Df P w K mg base 2 "positions" ["word"] (spR RPss) f4 d4 := ⟨ok_pss F4 B Dpos, PySem.W.mg_of X G a4, F4.kp, u4⟩
  have Dbeg : Df P w K mg base 1 "begun_later" ["row", "k"] (spR RBeg) f5 d5 := ⟨ok_beg F5, PySem.W.mg_of X G a5, F5.kp, u5⟩
  have Dopp : Df P w K mg base 1 "opposite" ["word"] (spR ROpp) f6 d6 := ⟨ok_opp F6, PySem.W.mg_of X G a6, F6.kp, u6⟩
  have Dbck : Df P w K mg base 1 "backwards" ["word"] (spR RBck) f7 d7 := ⟨ok_bck F7 B, PySem.W.mg_of X G a7, F7.kp, u7⟩
  have Down : Df P w K mg base 3 "is_own" ["word"] (spR ROwn) f8 d8 := ⟨ok_own F8 B Dclo Dpss Dbeg, PySem.W.mg_of X G a8, F8.kp, u8⟩
  have Dway : Df P w K mg base 2 "way" ["word", "t"] (spR RWay) f9 d9 := ⟨ok_way F9 B Dbeg Dopp Dbck, PySem.W.mg_of X G a9, F9.kp, u9⟩
  have Dawy : Df P w K mg base 3 "all_ways" ["word"] (spR RAwy) f10 d10 := ⟨ok_awy F10 B Dway, PySem.W.mg_of X G a10, F10.kp, u10⟩
  have Dfst : Df P w K mg base 4 "first_name" ["word"] (spR RFst) f11 d11 := ⟨ok_fst F11 B Dawy, PySem.W.mg_of X G a11, F11.kp, u11⟩
  have Dnam : Df P w K mg base 4 "names_of" ["word"] spNam f12 d12 := ⟨ok_nam F12 B Dawy, PySem.W.mg_of X G a12, F12.kp, u12⟩
  have Dcnt : Df P w K mg base 4 "count_leaving_ways" ["word"] (spR RCnt) f13 d13 := ⟨ok_cnt F13 Dawy, PySem.W.mg_of X G a13, F13.kp, u13⟩
  have Dhan : Df P w K mg base 4 "is_handed" ["word"] (spR RHan) f14 d14 := ⟨ok_han F14 B Dawy, PySem.W.mg_of X G a14, F14.kp, u14⟩
  have Dcln : Df P w K mg base 1 "count_like_neighbours" ["word"] (spR RCln) f15 d15 := ⟨ok_cln F15 B, PySem.W.mg_of X G a15, F15.kp, u15⟩
  have Dall : Df P w K mg base 1 "all_words" ["n"] (spR RAll) f0 d0 := ⟨ok_all F0 B, PySem.W.mg_of X G a0, F0.kp, u0⟩
  have Disw : Df P w K mg base 1 "is_word" ["row", "n"] (spR RIsw) f1 d1 := ⟨ok_isw F1 B, PySem.W.mg_of X G a1, F1.kp, u1⟩
  have Dtld : Df P w K mg base 1 "told_word" ["words", "k", "refusal"] (spR RTld) f16 d16 := ⟨ok_tld F16 B, PySem.W.mg_of X G a16, F16.kp, u16⟩
  have Dgiv : Df P w K mg base 1 "given_at" ["calls", "place"] (spGiv K) f17 d17 := ⟨ok_giv F17 Z, PySem.W.mg_of X G a17, F17.kp, u17⟩
  have Dplb : Df P w K mg base 1 "place_behind" ["calls", "place"] (spPlb K) f18 d18 := ⟨ok_plb F18 Z, PySem.W.mg_of X G a18, F18.kp, u18⟩
  have Msid : Dm P w K mg base C 2 "sides" ["self", "h"] (spQ C RSid) g5 e5 := ⟨ok_sid E5 B T Dcln, ⟨b5, i5, E5.kp⟩, v5⟩
  have Mlea : Dm P w K mg base C 5 "leaving" ["self", "m"] (spQ C RLea) g6 e6 := ⟨ok_lea E6 B T Dcnt, ⟨b6, i6, E6.kp⟩, v6⟩
  have Mhnd : Dm P w K mg base C 5 "handed" ["self"] (spQ C RHnd) g7 e7 := ⟨ok_hnd E7 B T Dhan, ⟨b7, i7, E7.kp⟩, v7⟩
  have Mfix : Dm P w K mg base C 3 "fixed" ["self", "t"] (spQ C RFix) g8 e8 := ⟨ok_fix E8 B T Z Dway, ⟨b8, i8, E8.kp⟩, v8⟩
  have Mfxt : Dm P w K mg base C 5 "fixed_together" ["self"] (spQ C RFxt) g9 e9 := ⟨ok_fxt E9 B T Dcnt, ⟨b9, i9, E9.kp⟩, v9⟩
  have Mups : Dm P w K mg base C 1 "ups" ["self", "u"] (spQ C RUps) g10 e10 := ⟨ok_ups E10 B T, ⟨b10, i10, E10.kp⟩, v10⟩
  have Mwhi : Dm P w K mg base C 5 "which" ["self", "word"] (spQ C RWhi) g2 e2 := ⟨ok_whi E2 T Z Disw Dfst, ⟨b2, i2, E2.kp⟩, v2⟩
  have Mnxt : Dm P w K mg base C 2 "next_closing" ["self", "word"] (spQ C RNxt) g3 e3 := ⟨ok_nxt E3 T Z Disw Dtld, ⟨b3, i3, E3.kp⟩, v3⟩
  have Mnms : Dm P w K mg base C 5 "names" ["self", "k"] (spQ C RNms) g4 e4 := ⟨ok_nms E4 B T Z Dnam, ⟨b4, i4, E4.kp⟩, v4⟩
  have Mcwn : Dm P w K mg base C 6 "call_with_number" ["self", "number", "given"] (spQ C RCwn) g12 e12 := ⟨ok_cwn E12 T Z Dtld Msid Mlea Mfix Mnms Mups, ⟨b12, i12, E12.kp⟩, v12⟩
  have Mcal : Dm P w K mg base C 6 "call_alone" ["self", "number"] (spQ C RCal) g13 e13 := ⟨ok_cal E13 B T Z Mhnd Mfxt, ⟨b13, i13, E13.kp⟩, v13⟩
  have Msta : Dm P w K mg base C 5 "start" ["self", "n"] (spSta C) g1 e1 := ⟨ok_sta E1 T Z Dall Dclo Down Dfst, ⟨b1, i1, E1.kp⟩, v1⟩
  have Mcll : Dm P w K mg base C 7 "call" ["self", "number", "given"] (spCll C) g11 e11 := ⟨ok_cll E11 T Z Msta Mwhi Mnxt Mcwn Mcal, ⟨b11, i11, E11.kp⟩, v11⟩
  have Gi : FnOk P w K mg base CX0 1 g0 e0 ["self"] (spIni C) := ok_ini E0 T
  exact ok_ans Fa B T (PySem.W.mg_of X G aC) ⟨mk, b0, i0, kc⟩ Gi v0 Mcll Dgiv Dplb
end Lk
open PySem PySem.W PyProof.Rows
set_option maxRecDepth 100000 in
set_option maxHeartbeats 8000000 in
theorem PySem.Challenge.cw_layerkinds_s01_answers_holds : PySem.Challenge.rw_layerkinds_s01_answers.Holds := by
  w_on; k_headS; (case hw => exact ⟨[.list [.int 1]], by decide +kernel, by decide +kernel⟩)
  k_fillS
  refine L2.walk_specK (r := PySem.Challenge.rw_layerkinds_s01_answers) (k := 8) (CX := L2.CX0) (ps := ["calls"]) (sp := Lk.spAns) (by decide +kernel) rfl rfl ⟨rfl, by decide, by decide⟩ (fun w h Y => PySem.W.kIn_of Y) ?F ?S (fun _ _ _ _ z => z)
  case F =>
    intro w mg fa h Y KX G hmg
    refine' Lk.all_mk KX G hmg ?a0 (L2.fun_mk ?l0 ?c0d ?k0) ?a1 (L2.fun_mk ?l1 ?c1d ?k1) ?a2 (L2.fun_mk ?l2 ?c2d ?k2) ?a3 (L2.fun_mk ?l3 ?c3d ?k3) ?a4 (L2.fun_mk ?l4 ?c4d ?k4) ?a5 (L2.fun_mk ?l5 ?c5d ?k5) ?a6 (L2.fun_mk ?l6 ?c6d ?k6) ?a7 (L2.fun_mk ?l7 ?c7d ?k7) ?a8 (L2.fun_mk ?l8 ?c8d ?k8) ?a9 (L2.fun_mk ?l9 ?c9d ?k9) ?a10 (L2.fun_mk ?l10 ?c10d ?k10) ?a11 (L2.fun_mk ?l11 ?c11d ?k11) ?a12 (L2.fun_mk ?l12 ?c12d ?k12) ?a13 (L2.fun_mk ?l13 ?c13d ?k13) ?a14 (L2.fun_mk ?l14 ?c14d ?k14) ?a15 (L2.fun_mk ?l15 ?c15d ?k15) ?a16 (L2.fun_mk ?l16 ?c16d ?k16) ?a17 (L2.fun_mk ?l17 ?c17d ?k17) ?a18 (L2.fun_mk ?l18 ?c18d ?k18) ?a19 (L2.fun_mk ?l19 ?c19d ?k19) ?aC ?b0 ?i0 (L2.fun_mk ?ml0 ?mc0 ?mk0) ?b1 ?i1 (L2.fun_mk ?ml1 ?mc1 ?mk1) ?b2 ?i2 (L2.fun_mk ?ml2 ?mc2 ?mk2) ?b3 ?i3 (L2.fun_mk ?ml3 ?mc3 ?mk3) ?b4 ?i4 (L2.fun_mk ?ml4 ?mc4 ?mk4) ?b5 ?i5 (L2.fun_mk ?ml5 ?mc5 ?mk5) ?b6 ?i6 (L2.fun_mk ?ml6 ?mc6 ?mk6) ?b7 ?i7 (L2.fun_mk ?ml7 ?mc7 ?mk7) ?b8 ?i8 (L2.fun_mk ?ml8 ?mc8 ?mk8) ?b9 ?i9 (L2.fun_mk ?ml9 ?mc9 ?mk9) ?b10 ?i10 (L2.fun_mk ?ml10 ?mc10 ?mk10) ?b11 ?i11 (L2.fun_mk ?ml11 ?mc11 ?mk11) ?b12 ?i12 (L2.fun_mk ?ml12 ?mc12 ?mk12) ?b13 ?i13 (L2.fun_mk ?ml13 ?mc13 ?mk13) ?pg ?hd ?po ?sa ?mk ?kc ?n0 ?n1 ?n2 ?n3 ?n4 ?n5 ?z0 ?z1 ?z2 ?z3 ?z4 ?z5 ?z6 ?z7 ?z8 ?z9 ?q0 ?q1 ?q2 ?q3 ?q4 ?q5 ?q6 ?q7 ?q8 ?q9 ?q10 ?q11 ?q12 ?q13 ?q14 ?q15 ?q16 ?q17 ?q18 ?q19 ?q20 ?cN ?lN ?cW ?lW
    (case a0 => k_is)
    (case l0 => k_is)
    (case c0d => k_is)
    (case k0 => k_is)
    (case a1 => k_is)
    (case l1 => k_is)
    (case c1d => k_is)
    (case k1 => k_is)
    (case a2 => k_is)
    (case l2 => k_is)
    (case c2d => k_is)
    (case k2 => k_is)
    (case a3 => k_is)
    (case l3 => k_is)
    (case c3d => k_is)
    (case k3 => k_is)
    (case a4 => k_is)
    (case l4 => k_is)
    (case c4d => k_is)
    (case k4 => k_is)
    (case a5 => k_is)
    (case l5 => k_is)
    (case c5d => k_is)
    (case k5 => k_is)
    (case a6 => k_is)
    (case l6 => k_is)
    (case c6d => k_is)
    (case k6 => k_is)
    (case a7 => k_is)
    (case l7 => k_is)
    (case c7d => k_is)
    (case k7 => k_is)
    (case a8 => k_is)
    (case l8 => k_is)
    (case c8d => k_is)
    (case k8 => k_is)
    (case a9 => k_is)
    (case l9 => k_is)
    (case c9d => k_is)
    (case k9 => k_is)
    (case a10 => k_is)
    (case l10 => k_is)
    (case c10d => k_is)
    (case k10 => k_is)
    (case a11 => k_is)
    (case l11 => k_is)
    (case c11d => k_is)
    (case k11 => k_is)
    (case a12 => k_is)
    (case l12 => k_is)
    (case c12d => k_is)
    (case k12 => k_is)
    (case a13 => k_is)
    (case l13 => k_is)
    (case c13d => k_is)
    (case k13 => k_is)
    (case a14 => k_is)
    (case l14 => k_is)
    (case c14d => k_is)
    (case k14 => k_is)
    (case a15 => k_is)
    (case l15 => k_is)
    (case c15d => k_is)
    (case k15 => k_is)
    (case a16 => k_is)
    (case l16 => k_is)
    (case c16d => k_is)
    (case k16 => k_is)
    (case a17 => k_is)
    (case l17 => k_is)
    (case c17d => k_is)
    (case k17 => k_is)
    (case a18 => k_is)
    (case l18 => k_is)
    (case c18d => k_is)
    (case k18 => k_is)
    (case a19 => k_is)
    (case l19 => k_is)
    (case c19d => k_is)
    (case k19 => k_is)
    (case aC => k_is)
    (case b0 => k_is)
    (case i0 => k_is)
    (case ml0 => k_is)
    (case mc0 => k_is)
    (case mk0 => k_is)
    (case b1 => k_is)
    (case i1 => k_is)
    (case ml1 => k_is)
    (case mc1 => k_is)
    (case mk1 => k_is)
    (case b2 => k_is)
    (case i2 => k_is)
    (case ml2 => k_is)
    (case mc2 => k_is)
    (case mk2 => k_is)
    (case b3 => k_is)
    (case i3 => k_is)
    (case ml3 => k_is)
    (case mc3 => k_is)
    (case mk3 => k_is)
    (case b4 => k_is)
    (case i4 => k_is)
    (case ml4 => k_is)
    (case mc4 => k_is)
    (case mk4 => k_is)
    (case b5 => k_is)
    (case i5 => k_is)
    (case ml5 => k_is)
    (case mc5 => k_is)
    (case mk5 => k_is)
    (case b6 => k_is)
    (case i6 => k_is)
    (case ml6 => k_is)
    (case mc6 => k_is)
    (case mk6 => k_is)
    (case b7 => k_is)
    (case i7 => k_is)
    (case ml7 => k_is)
    (case mc7 => k_is)
    (case mk7 => k_is)
    (case b8 => k_is)
    (case i8 => k_is)
    (case ml8 => k_is)
    (case mc8 => k_is)
    (case mk8 => k_is)
    (case b9 => k_is)
    (case i9 => k_is)
    (case ml9 => k_is)
    (case mc9 => k_is)
    (case mk9 => k_is)
    (case b10 => k_is)
    (case i10 => k_is)
    (case ml10 => k_is)
    (case mc10 => k_is)
    (case mk10 => k_is)
    (case b11 => k_is)
    (case i11 => k_is)
    (case ml11 => k_is)
    (case mc11 => k_is)
    (case mk11 => k_is)
    (case b12 => k_is)
    (case i12 => k_is)
    (case ml12 => k_is)
    (case mc12 => k_is)
    (case mk12 => k_is)
    (case b13 => k_is)
    (case i13 => k_is)
    (case ml13 => k_is)
    (case mc13 => k_is)
    (case mk13 => k_is)
    (case pg => k_is)
    (case hd => k_is)
    (case po => k_is)
    (case sa => k_is)
    (case mk => k_is)
    (case kc => k_is)
    (case n0 => k_is)
    (case n1 => k_is)
    (case n2 => k_is)
    (case n3 => k_is)
    (case n4 => k_is)
    (case n5 => k_is)
    (case z0 => k_is)
    (case z1 => k_is)
    (case z2 => k_is)
    (case z3 => k_is)
    (case z4 => k_is)
    (case z5 => k_is)
    (case z6 => k_is)
    (case z7 => k_is)
    (case z8 => k_is)
    (case z9 => k_is)
    (case q0 => k_is)
    (case q1 => k_is)
    (case q2 => k_is)
    (case q3 => k_is)
    (case q4 => k_is)
    (case q5 => k_is)
    (case q6 => k_is)
    (case q7 => k_is)
    (case q8 => k_is)
    (case q9 => k_is)
    (case q10 => k_is)
    (case q11 => k_is)
    (case q12 => k_is)
    (case q13 => k_is)
    (case q14 => k_is)
    (case q15 => k_is)
    (case q16 => k_is)
    (case q17 => k_is)
    (case q18 => k_is)
    (case q19 => k_is)
    (case q20 => k_is)
    (case cN => k_is)
    (case lN => k_is)
    (case cW => k_is)
    (case lW => k_is)
  case S =>
    intro K H xs a hO hwi hask hx
    cases hx with
    | cons h1 h2 =>
      cases h2
      cases h1 with
      | lst hs ha =>
        have e := L2.ints_dw a.1 _ ha
        subst e
        exact ⟨_, a.1, rfl, hs, hask, fun H' p hp => .lst (L2.SqL.of hp) (L2.dw_ints _)⟩
#print axioms PySem.Challenge.cw_layerkinds_s01_answers_holds
