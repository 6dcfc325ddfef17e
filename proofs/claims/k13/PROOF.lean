import PyProof.Rows.All
import Wide.All
import OpenK.AllK
import Wide.FinOn
import HandS.ForMost
import HandS.Evl
import HandS.Walk
import HandS.Steps
import HandS.IsInst
import HandS.Defaults
import HandS.More
import HandS.ReplaceLit
import HandS.ReplaceDef
import HandS.ReplaceList
import HandS.Star
import HandS.CallLocal
import HandS.Style
import KE.GoesNew
import PyProof.Rows.SortShellAny
import KE.KDictZip
import KE.GoesZip
import KE.GoesMore
import PyProof.SeqRoads2
import PySem.Challenge.RW_deltawires_k13_covered_mixed_resolved
set_option Elab.async false
set_option linter.all false
set_option maxRecDepth 100000
namespace Dw
open PySem L2 Evl
/-! ### general words -/
def GlV (mg : Str → Option Value) (x : Str) (v : V) : Prop := ∃ u, mg x = some u ∧ RelV v u
theorem pgl {X : Cx} {x : Str} {v : V} {pos : Pos} (hg : Gl X x) (h : GlV X.mg x v) (hd : (x == ("__debug__" : Str)) = false := by decide) : PE X (.Name x pos) (tC v) :=
  let ⟨_, a, b⟩ := h
  pe_glob hg a b hd
/-- a def as callers know it -/
structure Df (P : Program) (w : World) (K : PySem.W.Frag) (mg : Str → Option Value) (base : Heap) (CX : CXT) (x : Str) (k : Nat) (f : Addr) (fd : FuncData) (ps : List Str) (sp : Sp) : Prop where
  ok : FnOk P w K mg base CX k f fd ps sp
  g : mg x = some (.ref f)
  kp : PySem.W.keepIn K (.ref f) = true
  b : Binds K fd ps []
/-- all but what stands at p is as it was -/
def ExB (p : Addr) (H H' : Hp) : Prop := ∀ b o, b ≠ p → H b = some o → H' b = some o
theorem ExB.refl (p : Addr) (H : Hp) : ExB p H H := fun _ _ _ h => h
theorem ExB.trans {p : Addr} {H H1 H2 : Hp} (a : ExB p H H1) (b : ExB p H1 H2) : ExB p H H2 := fun c o n h => b c o n (a c o n h)
theorem ExB.of {p : Addr} {H H' : Hp} (e : Ex H H') : ExB p H H' := fun b o _ h => e b o h
theorem ExB.upd {p : Addr} {H H' : Hp} {o : HO} (e : ExB p H H') : ExB p H (upd H' p o) := fun b u n h => by
  rw [upd_ne n]
  exact e b u n h
theorem ExB.back {p : Addr} {H0 H H' : Hp} (e0 : Ex H0 H) (hp : H0 p = none) (e : ExB p H H') : Ex H0 H' := fun b o h => e b o (ne_of_none h hp) (e0 b o h)
theorem ExB.rd {p a : Addr} {H H' : Hp} {u : HO} (e : ExB p H H') (n : a ≠ p) (h : Rd H a u) : Rd H' a u := by
  rcases h with h | ⟨o, h⟩
  · exact Or.inl (e a _ n h)
  · exact Or.inr ⟨o, e a _ n h⟩
theorem ExB.sq {K : PySem.W.Frag} {p a : Addr} {xs : List V} {H H' : Hp} (e : ExB p H H') (n : a ≠ p) (h : SqL K H a xs) : SqL K H' a xs := by
  rcases h with h | h
  · exact Or.inl (e.rd n h)
  · exact Or.inr h
/-- the pot: two numbers, of which take draws -/
def PotAt (H : Hp) (p : Addr) : Prop := ∃ x y : Int, H p = some (.lst [.int x, .int y]) ∧ 0 ≤ x ∧ 0 ≤ y ∧ y < 2147483647
theorem PotAt.ex {H H' : Hp} {p : Addr} (h : PotAt H p) (e : Ex H H') : PotAt H' p := by
  obtain ⟨x, y, h1, h2⟩ := h
  exact ⟨x, y, e _ _ h1, h2⟩
def spAt (K : PySem.W.Frag) : Sp := fun vs H Q _ => ∃ (a : Addr) (ns : List Int) (k : Int), vs = [.ref a, .int k] ∧ SqL K H a (ns.map V.int) ∧ 0 ≤ k ∧ ∀ c : Int, Q (.int c) H
def spPot (K : PySem.W.Frag) : Sp := fun vs H Q _ => ∃ (a : Addr) (ns : List Int) (k : Int), vs = [.ref a, .int k] ∧ SqL K H a (ns.map V.int) ∧ 0 ≤ k ∧ k ≤ 1000 ∧ ∀ (p : Addr) (H' : Hp), H p = none → Ex H H' → PotAt H' p → Q (.ref p) H'
def spTake : Sp := fun vs H Q _ => ∃ (p : Addr) (m : Int), vs = [.ref p, .int m] ∧ PotAt H p ∧ 0 < m ∧ m < 1073741824 ∧ ∀ (H' : Hp) (d : Int), ExB p H H' → PotAt H' p → 0 ≤ d → d < m → Q (.int d) H'
theorem at_map {ns : List Int} {k : Int} (h0 : 0 ≤ k) (h1 : k < ((ns.map V.int).length : Int)) : ∃ c : Int, atI (ns.map V.int) k = some (.int c) := by
  obtain ⟨j, rfl⟩ := Int.eq_ofNat_of_zero_le h0
  have h2 : j < ns.length := by
    rw [List.length_map] at h1
    omega
  refine ⟨ns[j], atI_nat ?_⟩
  rw [List.getElem?_map, List.getElem?_eq_getElem h2]
  rfl
/-! ### texts by their codes -/
abbrev Tx (l : List Nat) : Str := ⟨l.toArray⟩
theorem Tx_len (l : List Nat) : (Tx l).length = l.length := by simp [Tx, Str.length]
theorem Tx_tl (x : Str) : Tx x.cps.toList = x := TL.mk_tl x
theorem Tx_inj {a b : List Nat} (h : Tx a = Tx b) : a = b := congrArg (fun x : Str => x.cps.toList) h
theorem Tx_cat (a b : List Nat) : Tx a ++ Tx b = Tx (a ++ b) := TL.ext_tl (TL.tl_append (Tx a) (Tx b))
theorem joinL_ones : ∀ l : List Nat, TL.joinL [] (l.map fun c => [c]) = l
  | [] => rfl
  | [_] => rfl
  | c :: d :: r => by
    show [c] ++ ([] ++ TL.joinL [] ((d :: r).map fun c => [c])) = c :: d :: r
    rw [joinL_ones (d :: r)]
    rfl
theorem tl_empty : TL.tl (Str.ofString "") = [] := by decide +kernel
theorem join_ones (l : List Nat) : Txt.join (Str.ofString "") (l.map fun c => Tx [c]) = Tx l := by
  refine TL.ext_tl ?_
  rw [TL.join_eq, TL.tl_join, tl_empty, List.map_map]
  show TL.joinL [] (l.map fun c => [c]) = l
  exact joinL_ones l
theorem ones_len (l : List Nat) : ((l.map fun c => Tx [c]).map (·.length)).sum + (l.map fun c => Tx [c]).length * (Str.ofString "").length = l.length := by
  have e : (Str.ofString "").length = 0 := by decide +kernel
  rw [e, Nat.mul_zero, Nat.add_zero]
  induction l with
  | nil => rfl
  | cons c l ih =>
    rw [List.map_cons, List.map_cons, List.sum_cons, ih, Tx_len]
    simp
    omega
theorem map_strs (l : List Nat) : (l.map fun c => Tx [c]).map V.str = l.map fun c => V.str (Tx [c]) := by
  rw [List.map_map]
  rfl
/-! ### comprehensions by lists -/
theorem range_getD {α : Type} (l : List α) (d : α) : (List.range l.length).map (fun i => l.getD i d) = l := by
  apply List.ext_getElem
  · simp
  · intro i h1 h2
    simp at h1
    simp [h1]
theorem given_list {α : Type} (l : List α) (d : α) (p : α → Bool) (g : α → V) : given l.length (fun i => p (l.getD i d)) (fun i => g (l.getD i d)) = (l.filter p).map g := by
  unfold given
  have e : l.filter p = ((List.range l.length).map (fun i => l.getD i d)).filter p := by rw [range_getD]
  rw [e, List.filter_map, List.map_map]
  rfl
theorem given_all {α : Type} (l : List α) (d : α) (g : α → V) : given l.length (fun _ => true) (fun i => g (l.getD i d)) = l.map g := by
  have e := given_list l d (fun _ => true) g
  rw [List.filter_eq_self.mpr (fun _ _ => rfl)] at e
  exact e
section
variable {K : PySem.W.Frag} {σ : L2.St} {H H' : Hp} {ta tb te tx tl : TE} {t u : TT} {x y z v : V}
theorem el_lcS {z : Str} {j : Nat} {vs : List Nat} (f : Nat → Bool) (v : Nat → V) (h : Ev tl σ H (.str z)) (hz : z.cps.size ≤ 40000) (hw : ∀ x, wipe ((wipe σ vs).set j (some x)) vs = wipe σ vs)
    (ht : ∀ (i : Nat) (c : Nat) H1, Ex H H1 → z.cps[i]? = some c → EvT t ((wipe σ vs).set j (some (.str ⟨#[c]⟩))) H1 (f i)) (he : ∀ (i : Nat) (c : Nat) H1, Ex H H1 → z.cps[i]? = some c → f i = true → Ev te ((wipe σ vs).set j (some (.str ⟨#[c]⟩))) H1 (v i)) :
    EvL (tLc (iStr tl) (gName j) t te vs) σ H (given z.cps.size f v) := fun H0 e Q q => h H0 e _ fun H1 e1 => ⟨z, rfl, fun Dl hD =>
  lc_it walk_str (Cw H1 f v Dl) ⟨hD, Ex.new hD, upd_same⟩ (fun _ _ _ _ => True.intro) (fun i x H2 H3 hi p y => by
    obtain ⟨rfl, c, hc, rfl⟩ := y
    exact ⟨hw _, cw_turn p (by omega) (ht i c H1 (e.trans e1) hc) (fun hf => he i c H1 (e.trans e1) hc hf)⟩)
    (fun H' p => q Dl H' (fresh_back e1 p.1) (e1.trans p.2.1) p.2.2)⟩
/-- over a text: p tells which codes, g what of each -/
theorem el_lcT {l : List Nat} {j : Nat} {vs : List Nat} (p : Nat → Bool) (g : Nat → V) (h : Ev tl σ H (.str (Tx l))) (hz : l.length ≤ 40000) (hw : ∀ x, wipe ((wipe σ vs).set j (some x)) vs = wipe σ vs)
    (ht : ∀ (c : Nat) H1, Ex H H1 → c ∈ l → EvT t ((wipe σ vs).set j (some (.str (Tx [c])))) H1 (p c)) (he : ∀ (c : Nat) H1, Ex H H1 → c ∈ l → p c = true → Ev te ((wipe σ vs).set j (some (.str (Tx [c])))) H1 (g c)) :
    EvL (tLc (iStr tl) (gName j) t te vs) σ H ((l.filter p).map g) := by
  have hs : (Tx l).cps.size = l.length := Tx_len l
  have key : ∀ (i c : Nat), (Tx l).cps[i]? = some c → l.getD i 0 = c ∧ c ∈ l := fun i c hc => by
    have h1 : l[i]? = some c := by
      rw [← hc]
      simp [Tx]
    exact ⟨by rw [List.getD_eq_getElem?_getD, h1]; rfl, List.mem_of_getElem? h1⟩
  rw [← given_list l 0 p g, ← hs]
  refine el_lcS (fun i => p (l.getD i 0)) (fun i => g (l.getD i 0)) h (by omega) hw (fun i c H1 e hc => ?_) (fun i c H1 e hc hf => ?_)
  · obtain ⟨e1, e2⟩ := key i c hc
    simp only [e1]
    exact ht c H1 e e2
  · obtain ⟨e1, e2⟩ := key i c hc
    simp only [e1] at hf ⊢
    exact he c H1 e e2 hf
theorem et_yes : EvT tYes σ H true := fun H1 _ _ q => q H1 (Ex.refl H1)
theorem ev_cbL {r : List V → Hp → VK → Prop} {xs : List V} (h : EvL te σ H xs) (hr : ∀ p H1, H1 p = some (.lst xs) → Ex H H1 → RC r [.ref p] H1 z) : Ev (tCB r (tCons te tNil)) σ H z := fun H1 e Q q =>
  h H1 e _ fun p H2 _ e2 h2 => hr p H2 h2 (e.trans e2) H2 (Ex.refl _) Q fun H3 e3 => q H3 (e2.trans e3)
theorem ev_all {bs : List Bool} (h : EvL te σ H (bs.map V.bl)) : Ev (tCB (rAll K) (tCons te tNil)) σ H (.bl (bs.all id)) :=
  ev_cbL h fun p _ hp _ H2 e2 _ q => ⟨p, bs, rfl, sq_of (e2 p _ hp), q H2 (Ex.refl _)⟩
def rJoinS (K : PySem.W.Frag) : V → List V → Hp → VK → Prop := fun x xs H Q => ∃ a p, ∃ ys : List Str, x = .str a ∧ xs = [.ref p] ∧ (SqL K H p (ys.map V.str) ∨ SqT K H p (ys.map V.str)) ∧
      (ys.map (·.length)).sum + ys.length * a.length ≤ 16777216 ∧ Q (.str (Txt.join a ys)) H
/-- ''.join of a new list of signs -/
theorem ev_join1 {l : List Nat} (h : EvL te σ H (l.map fun c => V.str (Tx [c]))) (hz : l.length ≤ 40000) : Ev (tM1 (rJoinS K) (tC (.str (Str.ofString ""))) te) σ H (.str (Tx l)) := fun H1 e Q q =>
  ⟨⟨_, rfl⟩, h H1 e _ fun p H2 _ e2 h2 => ⟨Str.ofString "", p, l.map fun c => Tx [c], rfl, rfl, Or.inl (sq_of (by rw [map_strs]; exact h2)), by rw [ones_len]; omega, by rw [join_ones]; exact q H2 e2⟩⟩
theorem ev_inS {c : Nat} {w : Str} (ha : Ev ta σ H (.str (Tx [c]))) (hb : Ev tb σ H (.str w)) : Ev (tOp rInS ta tb) σ H (.bl (decide (c ∈ w.cps.toList))) :=
  ev_op ha hb fun H1 _ _ q => ⟨c, w, rfl, rfl, q H1 (Ex.refl _)⟩
theorem ev_notInS {c : Nat} {w : Str} (ha : Ev ta σ H (.str (Tx [c]))) (hb : Ev tb σ H (.str w)) : Ev (tOp rNotInS ta tb) σ H (.bl (!decide (c ∈ w.cps.toList))) :=
  ev_op ha hb fun H1 _ _ q => ⟨c, w, rfl, rfl, q H1 (Ex.refl _)⟩
def rLenT : List V → Hp → VK → Prop := fun xs H Q => ∃ z, xs = [.str z] ∧ z.length ≤ sizeLine ∧ Q (.int z.length) H
theorem ev_lenT {l : List Nat} (ha : Ev ta σ H (.str (Tx l))) (hz : l.length ≤ 40000) : Ev (tCB rLenT (tCons ta tNil)) σ H (.int (l.length : Int)) := fun H1 e Q q =>
  ha H1 e _ fun H2 e2 => ⟨Tx l, rfl, sz_of (by rw [Tx_len]; omega), by rw [Tx_len]; exact q H2 e2⟩
end
/-! ### lists of texts and of numbers compared -/
theorem dpAll_strs {K : PySem.W.Frag} {H : Hp} : ∀ xs : List Str, DpAll K H (xs.map V.str) (xs.map PyData.str)
  | [] => .nil
  | x :: xs => .cons (.str x) (dpAll_strs xs)
theorem dpAll_ints {K : PySem.W.Frag} {H : Hp} : ∀ xs : List Int, DpAll K H (xs.map V.int) (xs.map PyData.int)
  | [] => .nil
  | x :: xs => .cons (.int x) (dpAll_ints xs)
theorem dpAll_bls {K : PySem.W.Frag} {H : Hp} : ∀ xs : List Bool, DpAll K H (xs.map V.bl) (xs.map PyData.bool)
  | [] => .nil
  | x :: xs => .cons (.bl x) (dpAll_bls xs)
theorem eqvAll_strs : ∀ xs ys : List Str, PyData.eqvAll (xs.map PyData.str) (ys.map PyData.str) = decide (xs = ys)
  | [], [] => by simp [PyData.eqvAll]
  | [], y :: ys => by simp [PyData.eqvAll]
  | x :: xs, [] => by simp [PyData.eqvAll]
  | x :: xs, y :: ys => by
    have ih := eqvAll_strs xs ys
    simp only [List.map_cons, PyData.eqvAll, PyData.eqv, ih]
    rw [Bool.eq_iff_iff]
    simp
theorem eqvAll_ints : ∀ xs ys : List Int, PyData.eqvAll (xs.map PyData.int) (ys.map PyData.int) = decide (xs = ys)
  | [], [] => by simp [PyData.eqvAll]
  | [], y :: ys => by simp [PyData.eqvAll]
  | x :: xs, [] => by simp [PyData.eqvAll]
  | x :: xs, y :: ys => by
    have ih := eqvAll_ints xs ys
    simp only [List.map_cons, PyData.eqvAll, PyData.eqv, ih]
    rw [Bool.eq_iff_iff]
    simp
theorem eqvAll_bls : ∀ xs ys : List Bool, PyData.eqvAll (xs.map PyData.bool) (ys.map PyData.bool) = decide (xs = ys)
  | [], [] => by simp [PyData.eqvAll]
  | [], y :: ys => by simp [PyData.eqvAll]
  | x :: xs, [] => by simp [PyData.eqvAll]
  | x :: xs, y :: ys => by
    have ih := eqvAll_bls xs ys
    simp only [List.map_cons, PyData.eqvAll, PyData.eqv, ih]
    rw [Bool.eq_iff_iff]
    simp
def LowS (x : Str) : Prop := PyData.canLay0 (.str x) = true
theorem lay_strs : ∀ {xs : List Str}, (∀ x ∈ xs, LowS x) → PyData.canLayAll0 (xs.map PyData.str) = true
  | [], _ => by simp [PyData.canLayAll0]
  | x :: xs, h => by
    rw [List.map_cons, PyData.canLayAll0, h x (List.mem_cons_self ..), lay_strs fun y hy => h y (List.mem_cons_of_mem _ hy)]
    rfl
theorem lay_ints : ∀ xs : List Int, PyData.canLayAll0 (xs.map PyData.int) = true
  | [] => by simp [PyData.canLayAll0]
  | x :: xs => by
    rw [List.map_cons, PyData.canLayAll0, lay_ints xs]
    simp [PyData.canLay0]
theorem lay_bls : ∀ xs : List Bool, PyData.canLayAll0 (xs.map PyData.bool) = true
  | [] => by simp [PyData.canLayAll0]
  | x :: xs => by
    rw [List.map_cons, PyData.canLayAll0, lay_bls xs]
    simp [PyData.canLay0]
theorem deep_strs : ∀ xs : List Str, PyData.depthAll (xs.map PyData.str) = 0
  | [] => by simp [PyData.depthAll]
  | x :: xs => by
    rw [List.map_cons, PyData.depthAll, deep_strs xs]
    simp [PyData.depth]
theorem deep_ints : ∀ xs : List Int, PyData.depthAll (xs.map PyData.int) = 0
  | [] => by simp [PyData.depthAll]
  | x :: xs => by
    rw [List.map_cons, PyData.depthAll, deep_ints xs]
    simp [PyData.depth]
theorem deep_bls : ∀ xs : List Bool, PyData.depthAll (xs.map PyData.bool) = 0
  | [] => by simp [PyData.depthAll]
  | x :: xs => by
    rw [List.map_cons, PyData.depthAll, deep_bls xs]
    simp [PyData.depth]
theorem shaped_strs {xs : List Str} (h : ∀ x ∈ xs, LowS x) : SeqAt.shaped (.list (xs.map PyData.str)) = true := by
  unfold SeqAt.shaped
  rw [PyData.canLay0, lay_strs h, PyData.depth, deep_strs]
  rfl
theorem shaped_ints (xs : List Int) : SeqAt.shaped (.list (xs.map PyData.int)) = true := by
  unfold SeqAt.shaped
  rw [PyData.canLay0, lay_ints, PyData.depth, deep_ints]
  rfl
theorem shaped_bls (xs : List Bool) : SeqAt.shaped (.list (xs.map PyData.bool)) = true := by
  unfold SeqAt.shaped
  rw [PyData.canLay0, lay_bls, PyData.depth, deep_bls]
  rfl
theorem low_Tx {l : List Nat} (h : ∀ c ∈ l, c < 128) : LowS (Tx l) := by
  unfold LowS
  rw [PyData.canLay0]
  unfold PyData.strOk
  first
    | (simp only [Tx, List.all_toArray, List.all_eq_true]; intro c hc; have := h c hc; simp; omega)
    | (simp [Tx]; intro c hc; have := h c hc; omega)
section
variable {K : PySem.W.Frag} {H : Hp}
theorem rv_eqStrs {p q : Addr} {xs ys : List Str} (h1 : SqL K H p (xs.map V.str)) (h2 : SqL K H q (ys.map V.str)) (l1 : ∀ x ∈ xs, LowS x) (l2 : ∀ x ∈ ys, LowS x) : RV (rEqD K) (.ref p) (.ref q) H (.bl (decide (xs = ys))) := fun H1 e Q k =>
  ⟨_, _, .lst (ex_l e h1) (dpAll_strs xs), .lst (ex_l e h2) (dpAll_strs ys), shaped_strs l1, shaped_strs l2, by rw [PyData.eqv, eqvAll_strs]; exact k H1 (Ex.refl _)⟩
theorem rv_neStrs {p q : Addr} {xs ys : List Str} (h1 : SqL K H p (xs.map V.str)) (h2 : SqL K H q (ys.map V.str)) (l1 : ∀ x ∈ xs, LowS x) (l2 : ∀ x ∈ ys, LowS x) : RV (rNeD K) (.ref p) (.ref q) H (.bl (!decide (xs = ys))) := fun H1 e Q k =>
  ⟨_, _, .lst (ex_l e h1) (dpAll_strs xs), .lst (ex_l e h2) (dpAll_strs ys), shaped_strs l1, shaped_strs l2, by rw [PyData.eqv, eqvAll_strs]; exact k H1 (Ex.refl _)⟩
theorem rv_eqInts {p q : Addr} {xs ys : List Int} (h1 : SqL K H p (xs.map V.int)) (h2 : SqL K H q (ys.map V.int)) : RV (rEqD K) (.ref p) (.ref q) H (.bl (decide (xs = ys))) := fun H1 e Q k =>
  ⟨_, _, .lst (ex_l e h1) (dpAll_ints xs), .lst (ex_l e h2) (dpAll_ints ys), shaped_ints xs, shaped_ints ys, by rw [PyData.eqv, eqvAll_ints]; exact k H1 (Ex.refl _)⟩
theorem rv_neBls {p q : Addr} {xs ys : List Bool} (h1 : SqL K H p (xs.map V.bl)) (h2 : SqL K H q (ys.map V.bl)) : RV (rNeD K) (.ref p) (.ref q) H (.bl (!decide (xs = ys))) := fun H1 e Q k =>
  ⟨_, _, .lst (ex_l e h1) (dpAll_bls xs), .lst (ex_l e h2) (dpAll_bls ys), shaped_bls xs, shaped_bls ys, by rw [PyData.eqv, eqvAll_bls]; exact k H1 (Ex.refl _)⟩
theorem rv_eqBls {p q : Addr} {xs ys : List Bool} (h1 : SqL K H p (xs.map V.bl)) (h2 : SqL K H q (ys.map V.bl)) : RV (rEqD K) (.ref p) (.ref q) H (.bl (decide (xs = ys))) := fun H1 e Q k =>
  ⟨_, _, .lst (ex_l e h1) (dpAll_bls xs), .lst (ex_l e h2) (dpAll_bls ys), shaped_bls xs, shaped_bls ys, by rw [PyData.eqv, eqvAll_bls]; exact k H1 (Ex.refl _)⟩
end
section
variable {K : PySem.W.Frag} {σ : L2.St} {H H' : Hp} {ta tb tc te tx tl : TE} {t u : TT} {x y z v : V}
theorem ev_chain {r r' : R2} {w' : V} {k k2 : Bool} (ha : Ev ta σ H x) (hb : Ev tb σ H y) (h1 : RV r x y H (.bl k)) (h2 : k = true → Ev tc σ H w' ∧ RV r' y w' H (.bl k2)) : Ev (tChain r r' ta tb tc) σ H (.bl (k && k2)) := fun H1 e Q q =>
  ha H1 e _ fun H2 e2 => hb H2 (e.trans e2) _ fun H3 e3 => h1 H3 ((e.trans e2).trans e3) _ fun H4 e4 => ⟨k, rfl, by
    cases k with
    | true =>
      obtain ⟨hc, h3⟩ := h2 rfl
      show tc σ H4 fun w' H4 => r' y w' H4 Q
      exact hc H4 (((e.trans e2).trans e3).trans e4) _ fun H5 e5 => h3 H5 ((((e.trans e2).trans e3).trans e4).trans e5) Q fun H6 e6 => q H6 ((((e2.trans e3).trans e4).trans e5).trans e6)
    | false =>
      show Q (.bl false) H4
      exact q H4 ((e2.trans e3).trans e4)⟩
theorem ev_isi {T : String} {b : Bool} (ha : Ev ta σ H v) (hb : Ev tb σ H (.ty T)) (ty : ∀ H1, Ex H H1 → ∃ t, TyX K H1 v (.type t) ∧ kitB t T = some b) : Ev (tCB (rIsi K) (tCons ta (tCons tb tNil))) σ H (.bl b) := fun H1 e Q q =>
  ha H1 e _ fun H2 e2 => hb H2 (e.trans e2) _ fun H3 e3 => by
    obtain ⟨t, h1, h2⟩ := ty H3 ((e.trans e2).trans e3)
    exact ⟨v, .ty T, .type t, .type T, b, rfl, .ty T, h1, kit_ty h2, q H3 (e2.trans e3)⟩
theorem ev_eqS {r : R2} (ha : Ev ta σ H x) (hb : Ev tb σ H y) (h : RV r x y H z) : Ev (tOp r ta tb) σ H z := ev_op ha hb h
end
theorem op_mulS {X : Cx} : OpR X (binaryOp .Mult) (fun x y H Q => ∃ a i, x = .str a ∧ y = .int i ∧ MulOk a i ∧ Q (.str (Txt.mul a i)) H) := by
  intro pins s σ H x y v u Q I rx ry h
  obtain ⟨a, i, rfl, rfl, hm, q⟩ := h
  obtain ⟨t, rfl⟩ := rx
  obtain ⟨t', rfl⟩ := ry
  exact SB.mul hm fun t' k => ⟨.str (Txt.mul a i), H, I.tok _, ⟨_, rfl⟩, q⟩
structure DfD (P : Program) (w : World) (K : PySem.W.Frag) (mg : Str → Option Value) (base : Heap) (CX : CXT) (x : Str) (k : Nat) (f : Addr) (fd : FuncData) (ps : List Str) (sp : Sp) : Prop where
  ok : FnOk P w K mg base CX k f fd ps sp
  g : mg x = some (.ref f)
  kp : PySem.W.keepIn K (.ref f) = true
section
variable {K : PySem.W.Frag} {σ : L2.St} {H H' : Hp} {ta tb tc te tx tl : TE} {t u : TT} {x y z v : V}
theorem el_lcT1 {l : List Nat} {j : Nat} {vs : List Nat} (g : Nat → V) (h : Ev tl σ H (.str (Tx l))) (hz : l.length ≤ 40000) (hw : ∀ x, wipe ((wipe σ vs).set j (some x)) vs = wipe σ vs)
    (he : ∀ (c : Nat) H1, Ex H H1 → c ∈ l → Ev te ((wipe σ vs).set j (some (.str (Tx [c])))) H1 (g c)) :
    EvL (tLc (iStr tl) (gName j) tYes te vs) σ H (l.map g) := by
  have e := el_lcT (fun _ => true) g h hz hw (fun c H1 _ _ => et_yes) (fun c H1 e hc _ => he c H1 e hc)
  rw [List.filter_eq_self.mpr (fun _ _ => rfl)] at e
  exact e
theorem ev_callN {sp : Sp} {n m : Nat} {gV : List V → List V → List V} {E : XK} {tA tK : TA} {vs zs : List V} (h : EvA tA σ H vs) (hk : EvA tK σ H zs) (l1 : vs.length = n) (l2 : zs.length = m) (hs : SpV sp (gV vs zs) H z) : Ev (tCallN n m sp gV E tA tK) σ H z := fun H1 e Q q =>
  h H1 e _ fun H2 e2 => hk H2 (e.trans e2) _ fun H3 e3 => ⟨l1, l2, hs H3 ((e.trans e2).trans e3) Q (fun H4 e4 => q H4 ((e2.trans e3).trans e4)) E⟩
end
theorem ExB.mut {p D : Addr} {H H' : Hp} {o : HO} (e : ExB p H H') (h : H D = none) : ExB p H (L2.upd H' D o) := fun b u n hb => by
  rw [upd_ne (ne_of_none hb h)]
  exact e b u n hb
theorem PotAt.upd {H : Hp} {p D : Addr} {o : HO} (h : PotAt H p) (n : D ≠ p) : PotAt (L2.upd H D o) p := by
  obtain ⟨x, y, h1, h2⟩ := h
  exact ⟨x, y, (upd_ne n.symm).trans h1, h2⟩
theorem PotAt.ne {H : Hp} {p D : Addr} (h : PotAt H p) (n : H D = none) : D ≠ p := fun z => by
  obtain ⟨x, y, h1, _⟩ := h
  rw [z, h1] at n
  cases n
theorem at_sign {l : List Nat} {d : Int} (h0 : 0 ≤ d) (h1 : d < (l.length : Int)) : ∃ c, atI (Tx l).cps.toList d = some c ∧ c ∈ l := by
  obtain ⟨j, rfl⟩ := Int.eq_ofNat_of_zero_le h0
  have h2 : j < l.length := by omega
  refine ⟨l[j], atI_nat ?_, List.getElem_mem h2⟩
  show l[j]? = some l[j]
  exact List.getElem?_eq_getElem h2
def sgn : List Nat := [48, 49, 120, 122]
theorem e_sgn : (Str.ofString "01xz").cps.toList = sgn := by decide +kernel
/-! ### zip of two texts -/
def Itzs (x y : Str) : It := ⟨fun i _ => i < min x.cps.size y.cps.size,
  fun i H v H' => ∃ T c d, v = .ref T ∧ H T = none ∧ H' = upd H T (.tup [.str ⟨#[c]⟩, .str ⟨#[d]⟩]) ∧ x.cps[i]? = some c ∧ y.cps[i]? = some d,
  fun i _ => i = min x.cps.size y.cps.size⟩
theorem turn_zipS {P : Program} {w : World} {K : PySem.W.Frag} {elts : List Expr} {kk : Nat} {tpos : Pos} {z TI TO j1 j2 : Addr} {x y : Str} {t u : Tok} (D : ZipSep2 z TI TO j1 j2 [j1] [j2]) :
    Turn P w K (.Tuple elts kk tpos) (Itzs x y) [z, TI, TO, j1, j2] z (fun i h => IsZip h z TI TO .none ∧ IsTupOf2 h TI (.ref j1) (.ref j2) ∧ (∃ a1 a2, IsTupOf2 h TO a1 a2) ∧ h.IsStrIter j1 (strIterType x) x t i ∧ h.IsStrIter j2 (strIterType y) y u i) where
  mem := by simp
  obj := fun i h st c hc => by
    obtain ⟨hz, h1, ⟨a1, a2, h2⟩, ⟨o1, e1, _, d1⟩, ⟨o2, e2, _, d2⟩⟩ := st
    simp only [List.mem_cons, List.not_mem_nil, or_false] at hc
    rcases hc with rfl | rfl | rfl | rfl | rfl
    · exact ⟨_, hz, fun v q => nomatch q⟩
    · exact ⟨_, h1, fun v q => nomatch q⟩
    · exact ⟨_, h2, fun v q => nomatch q⟩
    · exact ⟨o1, e1, fun v q => by rw [d1] at q; cases q⟩
    · exact ⟨o2, e2, fun v q => by rw [d2] at q; cases q⟩
  keep := fun i h h' st k => by
    obtain ⟨hz, h1, ⟨a1, a2, h2⟩, ⟨o1, e1, r1⟩, ⟨o2, e2, r2⟩⟩ := st
    exact ⟨k z (by simp) _ hz, k TI (by simp) _ h1, ⟨a1, a2, k TO (by simp) _ h2⟩, ⟨o1, k j1 (by simp) _ e1, r1⟩, ⟨o2, k j2 (by simp) _ e2, r2⟩⟩
  item := by
    intro X hP hw hK hc i pins s σ H E I hf st hg
    subst hP hw hK
    have hh : X.A.handled = none := I.ok.hd hc
    have W := GoesN.zip2 (elts := elts) (x1 := kk) (pos := tpos) (A := X.A) D (Draws.text (prog := X.prog) (w := X.w) (A := X.A.in1) hh j1 x t) (Draws.text (prog := X.prog) (w := X.w) (A := X.A.in1) hh j2 y u)
    refine wpAny_mono (W.goes i s (fun v s2 => ∃ x' H', Inv X pins σ H' s2 ∧ RelV x' v ∧ (Itzs x y).yld i H x' H' ∧ (IsZip s2.heap z TI TO .none ∧ IsTupOf2 s2.heap TI (.ref j1) (.ref j2) ∧ (∃ a1 a2, IsTupOf2 s2.heap TO a1 a2) ∧ s2.heap.IsStrIter j1 (strIterType x) x t (i + 1) ∧ s2.heap.IsStrIter j2 (strIterType y) y u (i + 1)) ∧ ∀ b ∈ [z, TI, TO, j1, j2], H' b = none) E hg st fun v h' tk hY st' hk _ => ?_) (fun r s1 q => q) fun _ _ e => e
    obtain ⟨T, xv, yv, rfl, hn, ⟨c, u1, hc1, rfl⟩, ⟨d, u2, hc2, rfl⟩, hT⟩ := hY
    obtain ⟨o, ho, hcl, n, hd⟩ := hT
    have new : ObjOk X.prog X.w (upd H T (.tup [.str ⟨#[c]⟩, .str ⟨#[d]⟩])) h' T (.tup [.str ⟨#[c]⟩, .str ⟨#[d]⟩]) :=
      ⟨by show 2 ≤ sizeLine; decide, [.str ⟨#[c]⟩ u1, .str ⟨#[d]⟩ u2], .cons ⟨u1, rfl⟩ (.cons ⟨u2, rfl⟩ .nil), ⟨o, ho, hcl, n, hd⟩⟩
    have I1 : Inv X pins σ (upd H T (.tup [.str ⟨#[c]⟩, .str ⟨#[d]⟩])) { s with heap := h', toks := tk } :=
      I.turnedNew (t' := tk) (ch := [z, TI, TO, j1, j2]) (fun b o hb q => hk b o (fun q' => hb (by simp only [List.mem_cons, List.not_mem_nil, or_false] at q' ⊢; rcases q' with q' | q' | q' | q' <;> simp [q'])) q) hf hn new
    refine ⟨.ref T, _, I1, rfl, ⟨T, c, d, rfl, I.hok.fresh hn, rfl, hc1, hc2⟩, st', fun b hb => ?_⟩
    have hlt : b < s.heap.objs.size := by
      obtain ⟨hz, h1, ⟨a1, a2, h2⟩, ⟨o1, e1, _⟩, ⟨o2, e2, _⟩⟩ := st
      simp only [List.mem_cons, List.not_mem_nil, or_false] at hb
      rcases hb with rfl | rfl | rfl | rfl | rfl
      · exact Heap.lt_size hz
      · exact Heap.lt_size h1
      · exact Heap.lt_size h2
      · exact Heap.lt_size e1
      · exact Heap.lt_size e2
    rw [upd_ne (Nat.ne_of_lt (Nat.lt_of_lt_of_le hlt hn))]
    exact (hf b hb).1
  done := by
    intro X hP hw hK hc i pins s σ H E I hf st hg
    subst hP hw hK
    have hh : X.A.handled = none := I.ok.hd hc
    have W := GoesN.zip2 (elts := elts) (x1 := kk) (pos := tpos) (A := X.A) D (Draws.text (prog := X.prog) (w := X.w) (A := X.A.in1) hh j1 x t) (Draws.text (prog := X.prog) (w := X.w) (A := X.A.in1) hh j2 y u)
    have e : i = min x.cps.size y.cps.size := hg
    subst e
    exact W.stops s (fun s1 => Inv X pins σ H s1) E st fun h' tk hk _ => I.turnedL (t' := tk) (ch := [z, TI, TO, j1, j2]) (fun b o hb q => hk b o (fun q' => hb (by simp only [List.mem_cons, List.not_mem_nil, or_false] at q' ⊢; rcases q' with q' | q' | q' | q' <;> simp [q'])) q) hf
  self := fun A i s Q E st h => wpAny_pyIter_zip st.1 h
def iZipS (ta : TA) : TI := fun σ H R => ta σ H fun vs H1 => ∃ x y, vs = [.str x, .str y] ∧ R (Itzs x y) H1
theorem pi_zipS {X : Cx} {e e2 : Expr} {ta : TA} {p pos tpos : Pos} {elts : List Expr} {kk : Nat} (hg : Gl X "zip") (hm : X.mg "zip" = none) (ha : PA X [e, e2] ta)
    (hs : starEach [e, e2] X.env = (false, eval e X.env) :: starEach [e2] X.env := by rfl) (hpl : (backTo pos (starEach [e2] X.env)).any (·.1) = false := by rfl) :
    PI X (.Tuple elts kk tpos) (.Call (.Name "zip" p) [e, e2] [] pos) (iZipS ta) := by
  refine ⟨fun pins s σ H R I h => ?_⟩
  refine PyProof.Rows.Call_ (ld_blt I hg hm PyProof.Rows.boot_zip (PyProof.Rows.callWith_type1 (thn (ha.run pos pins s σ H _ I h) fun us s1 ⟨vs, H1, I1, r1, q1⟩ => ?_) hs hpl))
  obtain ⟨x, y, ex, q⟩ := q1
  subst ex
  cases r1 with
  | cons r rr =>
    cases rr with
    | cons r' rr =>
      cases rr
      obtain ⟨t, rfl⟩ := r
      obtain ⟨u, rfl⟩ := r'
      refine zip_begins2 (begins_text x t) (begins_text y u) True.intro True.intro fun h' hz h1 h2 g1 g2 hsz hk => wpAny_pyIter_zip hz ?_
      have I2 : Inv X pins σ H1 { s1 with heap := h' } := I1.kept (t' := s1.toks) hk
      refine ⟨s1.heap.objs.size + 4, [s1.heap.objs.size + 4, s1.heap.objs.size + 2, s1.heap.objs.size + 3, s1.heap.objs.size, s1.heap.objs.size + 1], _, _, H1, rfl, I2, turn_zipS (zip_sep2 (fun _ hb => by cases hb) (fun _ hb => by cases hb)), ⟨hz, h1, ⟨_, _, h2⟩, ⟨_, g1, rfl, rfl⟩, ⟨_, g2, rfl, rfl⟩⟩, fun c hcm => ?_, q⟩
      have hle : s1.heap.objs.size ≤ c := by
        simp only [List.mem_cons, List.not_mem_nil, or_false] at hcm
        rcases hcm with q' | q' | q' | q' | q' <;> rw [q'] <;> first | exact Nat.le_refl _ | exact Nat.le_add_right _ _
      exact I1.fpOk hle (I1.hok.fresh hle)
theorem walk_zipS {x y : Str} : Walk (Itzs x y) (min x.cps.size y.cps.size) (fun _ => True) (fun i H v H' => ∃ T c d, v = .ref T ∧ H T = none ∧ H' = upd H T (.tup [.str ⟨#[c]⟩, .str ⟨#[d]⟩]) ∧ x.cps[i]? = some c ∧ y.cps[i]? = some d) :=
  ⟨fun _ _ hi _ => hi, fun _ _ => rfl, fun _ _ _ _ _ _ q => q⟩
end Dw

set_option Elab.async false
set_option linter.all false
set_option maxRecDepth 100000
namespace Dw
open PySem L2 Evl
section
variable {K : PySem.W.Frag} {σ : L2.St} {H H' : Hp} {ta : TA} {tb tc te tx tl : TE} {t u : TT} {x y z v : V}
/-- [e for a, b in zip(x, y)], two texts of one length -/
theorem el_lcZ {la lb : List Nat} {j1 j2 : Nat} {vs : List Nat} (g : Nat → Nat → V) (h : EvA ta σ H [.str (Tx la), .str (Tx lb)]) (hl : la.length = lb.length) (hz : la.length ≤ 40000)
    (hw : ∀ x y, wipe (((wipe σ vs).set j1 (some x)).set j2 (some y)) vs = wipe σ vs)
    (he : ∀ (c d : Nat) H1, Ex H H1 → c ∈ la → d ∈ lb → Ev te (((wipe σ vs).set j1 (some (.str (Tx [c])))).set j2 (some (.str (Tx [d])))) H1 (g c d)) :
    EvL (tLc (iZipS ta) (gTup K 2 (gCons (gName j1) (gCons (gName j2) gNil))) tYes te vs) σ H (List.zipWith g la lb) := fun H0 e Q q => h H0 e _ fun H1 e1 => ⟨Tx la, Tx lb, rfl, fun Dl hD => by
  have hs : min (Tx la).cps.size (Tx lb).cps.size = la.length := by
    have h1 : (Tx la).cps.size = la.length := Tx_len la
    have h2 : (Tx lb).cps.size = lb.length := Tx_len lb
    omega
  refine lc_it walk_zipS (fun i H2 => Ex H1 H2 ∧ H2 Dl = some (.lst ((List.zipWith g la lb).take i))) ⟨Ex.new hD, upd_same⟩ (fun _ _ _ _ => True.intro) (fun i x' H2 H3 hi p yy => ?_) (fun H2 p => ?_)
  · obtain ⟨T, c, d, rfl, nT, rfl, hc, hd⟩ := yy
    have hc' : la[i]? = some c := by
      rw [← hc]
      simp [Tx]
    have hd' : lb[i]? = some d := by
      rw [← hd]
      simp [Tx]
    have hg : (List.zipWith g la lb)[i]? = some (g c d) := by
      rw [List.getElem?_zipWith, hc', hd']
    refine ⟨T, _, rfl, st_of upd_same, rfl, _, _, rfl, _, _, rfl, rfl, hw _ _, ?_⟩
    refine he c d _ (((e.trans e1).trans p.1).trans (Ex.new nT)) (List.mem_of_getElem? hc') (List.mem_of_getElem? hd') _ (Ex.refl _) _ fun H4 e4 => ⟨_, e4 Dl _ ((Ex.new nT) Dl _ p.2), sz_lt ?_, ?_, ?_⟩
    · have := List.length_take_le i (List.zipWith g la lb)
      omega
    · exact Ex.mut ((p.1.trans (Ex.new nT)).trans e4) hD
    · rw [upd_same, List.take_add_one, hg]
      rfl
  · obtain ⟨p1, p2⟩ := p
    rw [hs, List.take_of_length_le (by rw [List.length_zipWith]; omega)] at p2
    exact q Dl H2 (fresh_back e1 hD) (e1.trans p1) p2⟩
theorem ev_kd {w : World} {p : Addr} {s : Str} {ta tb : TE} (ha : Ev ta σ H (.ref p)) (hb : Ev tb σ H (.str s)) (hk : KDct K w p s v) : Ev (tOp (rIxD K w) ta tb) σ H v :=
  ev_op ha hb fun H1 _ _ q => ⟨p, s, v, rfl, rfl, hk, q H1 (Ex.refl _)⟩
end
/-! ### f(*xs), f a local that holds one of several defs -/
def tCallLS (K : PySem.W.Frag) (i : Nat) (S : Addr → Option Sp) (te : TE) : TE := fun σ H Q => ∃ f sp, σ[i]? = some (some (.ref f)) ∧ S f = some sp ∧ te σ H fun y H1 => ∃ a xs, y = V.ref a ∧ (SqT K H1 a xs ∨ SqL K H1 a xs) ∧ sp xs H1 Q (fun _ _ _ => False)
theorem pe_callLS {X : Cx} {k i : Nat} {x : Str} {p q pos : Pos} {e : Expr} {te : TE} {S : Addr → Option Sp} (A : ∀ f sp, S f = some sp → Held X.prog X.w X.K X.mg X.base k f sp) (hr : Room k X.A) (hN : X.N[i]? = some x) (hv : Vis X.env.scope x) (he : PE X e te)
    (hdb : (x == ("__debug__" : Str)) = false := by decide) (hcd : (x == ("__classdict__" : Str)) = false := by decide)
    (hst : starEach [.Starred e q] X.env = [(true, eval e X.env)] := by rfl) : PE X (.Call (.Name x p) [.Starred e q] [] pos) (tCallLS X.K i S te) := by
  refine ⟨fun pins s σ H Q I h => ?_⟩
  obtain ⟨f, sp, hs, hS, ht⟩ := h
  obtain ⟨fd, ps, F, hk, hb⟩ := (A f sp hS).ex
  refine wpAny_Call_Name_kw (thn ((pe_var (pos := p) hN hv hdb hcd).run pins s σ H (fun v H1 => v = .ref f ∧ H1 = H) I ⟨.ref f, hs, rfl, rfl⟩) fun u s1 ⟨v, H1, I1, r1, q1⟩ => ?_)
  obtain ⟨rfl, rfl⟩ := q1
  cases r1
  refine PySem.W.callWith_S (h₀ := X.base) I1.ok.mod.kin hk (thn (he.run pins s1 σ H1 _ I1 ht) fun v s2 ⟨y, H2, I2, ry, a, xs, ey, hxs, q2⟩ => ?_) hst
  subst ey
  obtain rfl : v = Value.ref a := ry
  refine StX.star_any I2 hxs fun us s3 I3 rv => ⟨I3.kIn, run_fn (dvs := []) (ds := []) (E := fun _ _ _ => False) F hr hb .nil (fun _ _ _ _ _ _ _ z => z.elim) I3 rv ?_⟩
  rw [List.append_nil]
  exact q2
/-! ### replace of one sign by another -/
theorem replL_map {a b : Nat} : ∀ l : List Nat, StrLaws.replL [a] [b] l = l.map fun c => if c = a then b else c
  | [] => StrLaws.replL_nil
  | c :: l => by
    by_cases h : c = a
    · rw [StrLaws.replL_hit (by simp) (by simp [h])]
      simp [h, replL_map l]
    · rw [StrLaws.replL_miss (by simp [h]), replL_map l]
      simp [h]
theorem replace_Tx {y z : Str} {a b : Nat} (hy : y = Tx [a]) (hz : z = Tx [b]) (l : List Nat) : Txt.replace (Tx l) y z = Tx (l.map fun c => if c = a then b else c) := by
  subst hy hz
  refine TL.ext_tl ?_
  exact (StrLaws.replace_list (by simp [Str.length])).trans (replL_map l)
end Dw

set_option Elab.async false
set_option linter.all false
set_option maxRecDepth 100000
namespace Dw
open PySem L2 Evl
/-! ### a text turned about -/
def tRevS (te : TE) : TE := fun σ H Q => te σ H fun x H1 => ∃ l, x = .str (Tx l) ∧ l.length ≤ 40000 ∧ Q (.str (Tx l.reverse)) H1
theorem rev_Tx (l : List Nat) (u : Tok) : Txt.sliceBy (Tx l) none none (-1, u) = Tx l.reverse := by
  refine TL.ext_tl ?_
  show (Txt.sliceBy (Tx l) none none (-1, u)).cps.toList = l.reverse
  rw [PyProof.Rows.step_rev_list, Tx_len]
  apply List.ext_getElem
  · simp
  · intro i h1 h2
    simp at h1
    simp [Tx, List.getElem_reverse]
    rw [List.getElem?_eq_getElem (by omega)]
    rfl
theorem pe_revS {X : Cx} {e : Expr} {te : TE} {k : Nat} {p1 p2 p3 pos : Pos} (he : PE X e te) : PE X (.Subscript e (.Slice none none (some (.UnaryOp .USub (.Constant (.int 1) k p1) p2)) p3) pos) (tRevS te) := by
  refine ⟨fun pins s σ H Q I h => ?_⟩
  refine PyProof.Rows.Subscript_ (thn (he.run pins s σ H _ I h) fun v s1 ⟨x, H1, I1, r1, q1⟩ => ?_)
  obtain ⟨l, ex, hl, q⟩ := q1
  subst ex
  obtain ⟨t, rfl⟩ := r1
  have hst : PO X (some (.UnaryOp .USub (.Constant (.int 1) k p1) p2)) (tPart (tUn (rU fun i => .int (-i)) (tC (.int 1)))) := po_some (pe_un un_neg pe_int)
  refine wpAny_Slice (thn (po_none.run pins s1 σ H1 (fun o G => o = none ∧ G = H1) I1 ⟨rfl, rfl⟩) fun vl s2 ⟨l2, H2, I2, pl, el, e2⟩ => ?_)
  subst el e2
  refine thn (po_none.run pins s2 σ H2 (fun o G => o = none ∧ G = H2) I2 ⟨rfl, rfl⟩) fun vu s3 ⟨u, H3, I3, pu, eu, e3⟩ => ?_
  subst eu e3
  refine thn (hst.run pins s3 σ H3 (fun o G => o = some (-1) ∧ G = H3) I3 ⟨1, rfl, -1, rfl, rfl, rfl⟩) fun vs s4 ⟨o, H4, I4, ps, eo, e4⟩ => ?_
  subst eo e4
  have I5 : Inv X pins σ H4 { s4 with heap := s4.heap.push { cls := .type "slice", data := .fields #[vl, vu, vs] } } := I4.kept (t' := s4.toks) fun b ob q => Heap.get?_push_of_some _ q
  obtain ⟨a1, rfl, ha1⟩ := IsPart.raw pl
  obtain ⟨a2, rfl, ha2⟩ := IsPart.raw pu
  obtain ⟨a3, rfl, ha3⟩ := IsPart.raw ps
  cases a1 with
  | some _ => cases ha1
  | none =>
    cases a2 with
    | some _ => cases ha2
    | none =>
      cases a3 with
      | none => cases ha3
      | some a3 =>
        obtain ⟨m, uk⟩ := a3
        have hm : m = -1 := by
          have := Option.some.inj ha3
          first | exact this.symm | exact this
        subst hm
        refine PyProof.Rows.tail_any (ops := [.ref s4.heap.objs.size, .str (Tx l) t]) (typeIs_str _ _ _) F.slot_str_getitem.lookup (wpAny_getItem_str_slice (l := none) (u := none) (st := some (-1, uk)) ⟨_, Heap.get?_push_size _ rfl, rfl, rfl⟩ rfl
          (post_val_or_str ⟨Nat.le_trans (Txt.sliceBy_le (Tx l) none none (-1, uk) (show (-1 : Int) ≠ 0 by decide)) (sz_of (by rw [Tx_len]; omega)), fun t' c => ?_⟩)) (by with_unfolding_all rfl)
        have e := rev_Tx l uk
        unfold Txt.sliceBy at e
        first
          | exact ⟨.str (Tx l.reverse), H4, I5.tok c, ⟨t', by rw [e]⟩, q⟩
          | exact ⟨.str (Tx l.reverse), H4, I5.tok c, ⟨t', by rw [← e]; rfl⟩, q⟩
theorem ev_revS {σ : L2.St} {H : Hp} {te : TE} {l : List Nat} (h : Ev te σ H (.str (Tx l))) (hl : l.length ≤ 40000) : Ev (tRevS te) σ H (.str (Tx l.reverse)) := fun H1 e Q q =>
  h H1 e _ fun H2 e2 => ⟨l, rfl, hl, q H2 e2⟩
end Dw

set_option Elab.async false
set_option linter.all false
set_option maxRecDepth 100000
namespace Dw
open PySem L2 Evl
/-! ### sorted of a tuple of texts, of a long list of texts -/
section
open PyProof.Rows
variable {prog : Program} {w : World} {A : Around} {E : Value → Shared → Prop} {s : Shared}
theorem collect_tup {l : Addr} {us : List Value} {R : List Value → Shared → Prop} (ht : s.heap.IsTuple l us.toArray)
    (k : R us { s with heap := (s.heap.push (seqObj "list" #[] 0)).update s.heap.objs.size (Obj.mapSeq (· ++ us.toArray)) }) (few : us.length ≤ sizeLine) : wpAny (model prog w) A (collect (.ref l)) R E s := by
  obtain ⟨ob, hob, hcl, n, hdt⟩ := id ht
  unfold collect
  refine wpAny_bind (wpAny_runValue (codeAny_builtin entry_proto_collect' ?_)); show wpAny _ _ (do again (.builtin "list.__iadd__" ⟨[← newList [], .ref l], []⟩)) _ _ s
  refine wpAny_bind (wpAny_newList (wpAny_pure ⟨Code.quiet_builtin _ (by decide +kernel), codeAny_builtin entry_list_iadd' ?_⟩)); show wpAny _ _ (Builtin.List.listExtendWith (.ref s.heap.objs.size) (.ref l) (.ref s.heap.objs.size)) _ _ { s with heap := s.heap.push (seqObj "list" #[] 0) }
  unfold Builtin.List.listExtendWith
  have hob' : (s.heap.push (seqObj "list" #[] 0)).get? l = some ob := Heap.get?_push_of_some _ hob
  refine wpAny_bind (wpAny_typeOf (T := "tuple") ⟨ob, hob', hcl⟩ ?_)
  rw [if_pos (by rw [show (Value.type "tuple" == Value.type "tuple") = true from rfl, Bool.or_true])]
  refine wpAny_bind (listItems_at hob' hdt ?_)
  refine wpAny_bind (listItems_at (xs := #[]) (n := 0) (Heap.get?_push_size _ rfl) rfl ?_); rw [if_neg (by simp)]
  refine wpAny_bind (listUpdate_at (xs := #[]) (n := 0) (Heap.get?_push_size _ rfl) rfl ?_ (Nat.zero_le _) (by show (#[] ++ us.toArray).size ≤ sizeLine + 1; simp only [Array.size_append, List.size_toArray, List.length_nil]; omega))
  refine wpAny_pure ?_
  show wpAny (model prog w) A (do let o ← load s.heap.objs.size; match o.data with | .seq xs _ => pure xs.toList | _ => unsupported "internal:collect") R E { s with heap := (s.heap.push (seqObj "list" #[] 0)).update s.heap.objs.size (Obj.mapSeq (· ++ us.toArray)) }
  refine wpAny_bind (wpAny_load (get?_update_seq (Heap.get?_push_size _ rfl) _) ?_)
  show wpAny _ _ (pure ((#[] : Array Value) ++ us.toArray).toList) R E _
  rw [show ((#[] : Array Value) ++ us.toArray).toList = us by simp]
  exact wpAny_pure k
theorem sorted_tupStrs {l : Addr} {us : List Value} {ss : List Str} {Q : Value → Shared → Prop} (ht : s.heap.IsTuple l us.toArray) (hS : StrsAre us ss) (few : us.length < 64)
    (h : ∀ (out : Array Value) (ss' : List Str), StrsAre out.toList ss' → ss'.Perm ss → sortedS ss' = true → Q (.ref (s.heap.objs.size + 1)) { s with heap := sortedAll s.heap us out }) :
    wpAny (model prog w) A (call (.builtin "sorted") [.ref l]) Q E s := by
  refine Calls.call_function_entry kind_sorted plain_sorted entry_sorted (args_sorted1 _) ?_; unfold Builtin.«sorted»
  have sz : us.length ≤ sizeLine := by rw [sizeLine_eq]; omega
  refine wpAny_bind (m := checkCount "sorted" 1 1 _) (wpAny_pure (wpAny_bind (collect_tup ht ?_ sz)))
  refine wpAny_bind (wpAny_newList ?_ sz)
  have e1 : ((s.heap.push (seqObj "list" #[] 0)).update s.heap.objs.size (Obj.mapSeq (· ++ us.toArray))).objs.size = s.heap.objs.size + 1 := by rw [Heap.size_update, size_push']
  have e2 : (((s.heap.push (seqObj "list" #[] 0)).update s.heap.objs.size (Obj.mapSeq (· ++ us.toArray))).push (seqObj "list" us.toArray 0)).get? (s.heap.objs.size + 1) = some (seqObj "list" us.toArray 0) := by rw [← e1]; exact Heap.get?_push_size _ rfl
  show wpAny _ _ _ _ _ { s with heap := ((s.heap.push (seqObj "list" #[] 0)).update s.heap.objs.size (Obj.mapSeq (· ++ us.toArray))).push (seqObj "list" us.toArray 0) }
  rw [e1]
  refine wpAny_bind (wpAny_holding (wpAny_call_entry slot_list_sort ⟨_, e2, rfl⟩ entry_list_sort (list_sort_treeK strKind_oneLt e2 hS.keysOf (fun v₁ v₂ rest e => keyKind_strs (by rw [← e]; exact hS)) few fun st' hp hs => ⟨_, rfl, ?_⟩) (args_list_sort _)))
  obtain ⟨ss', h1, h2, h3⟩ := sorted_out_str hS hp hs
  exact wpAny_pure ⟨_, rfl, h _ ss' h1 h2 h3⟩
end
section
variable {X : Cx}
def rSortedTS (K : PySem.W.Frag) : List V → Hp → VK → Prop := fun vs H Q => ∃ (a : Addr) (xs : List Str), vs = [V.ref a] ∧ SqT K H a (xs.map V.str) ∧ xs.length < 64 ∧
  ∀ (ys : List Str) (p : Addr), ys.Perm xs → PyProof.Rows.sortedS ys = true → H p = none → Q (.ref p) (upd H p (.lst (ys.map V.str)))
theorem cr_sortedTS : CallR X (.builtin "sorted") (rSortedTS X.K) := by
  intro pins s σ H vs us Q I r h
  obtain ⟨a, xs, rfl, hs, few, q⟩ := h
  obtain ⟨its, rv, hl, _⟩ := I.tuple hs
  rw [Vals.ref1 r]
  have n0 := rv.length
  rw [List.length_map] at n0
  refine sorted_tupStrs hl rv.strs (by rw [← n0]; exact few) fun out ys h1 h2 h3 => ?_
  obtain ⟨ep, he'⟩ := PyProof.Rows.sortedAll_at s.heap its out
  exact ⟨.ref _, upd H (s.heap.objs.size + 1) (.lst (ys.map V.str)), I.laid (t' := s.toks) (fun _ _ => PyProof.Rows.sortedAll_old) (Nat.le_succ _) ⟨by rw [List.length_map, h2.length_eq]; exact small64 few, out.toList, ep, vals_of_strs h1, he'⟩, rfl, q ys _ h2 h3 (I.hok.fresh (Nat.le_succ _))⟩
def rSortedSA (K : PySem.W.Frag) : List V → Hp → VK → Prop := fun vs H Q => ∃ (a : Addr) (xs : List Str), vs = [V.ref a] ∧ SqL K H a (xs.map V.str) ∧ xs.length ≤ 1000 ∧
  ∀ (ys : List Str) (p : Addr), ys.Perm xs → PyProof.Rows.sortedS ys = true → H p = none → Q (.ref p) (upd H p (.lst (ys.map V.str)))
theorem cr_sortedSA : CallR X (.builtin "sorted") (rSortedSA X.K) := by
  intro pins s σ H vs us Q I r h
  obtain ⟨a, xs, rfl, hs, few, q⟩ := h
  obtain ⟨its, rv, hl, _⟩ := I.list hs
  rw [Vals.ref1 r]
  have n0 := rv.length
  rw [List.length_map] at n0
  have sz : xs.length ≤ sizeLine := Nat.le_of_lt (small1000 few)
  refine PyProof.Rows.sorted_strsAny hl.isList rv.strs (by rw [← n0]; exact sz) fun out ys h1 h2 h3 => ?_
  obtain ⟨ep, he'⟩ := PyProof.Rows.sortedAll_at s.heap its out
  exact ⟨.ref _, upd H (s.heap.objs.size + 1) (.lst (ys.map V.str)), I.laid (t' := s.toks) (fun _ _ => PyProof.Rows.sortedAll_old) (Nat.le_succ _) ⟨by rw [List.length_map, h2.length_eq]; exact sz, out.toList, ep, vals_of_strs h1, he'⟩, rfl, q ys _ h2 h3 (I.hok.fresh (Nat.le_succ _))⟩
end
/-! ### drawn values, signs -/
def Sg (l : List Nat) : Prop := ∀ c ∈ l, c ∈ sgn
def rd (c : Nat) : Nat := if c = 122 then 120 else c
def Sx (l : List Nat) : Prop := ∀ c ∈ l, c ∈ [48, 49, 120]
theorem rd_sx {l : List Nat} (h : Sg l) : Sx (l.map rd) := fun c hc => by
  obtain ⟨d, hd, rfl⟩ := List.mem_map.mp hc
  have := h d hd
  simp only [sgn, List.mem_cons, List.not_mem_nil, or_false] at this
  rcases this with rfl | rfl | rfl | rfl <;> decide
theorem Sg.low {l : List Nat} (h : Sg l) : ∀ c ∈ l, c < 128 := fun c hc => by
  have := h c hc
  simp only [sgn, List.mem_cons, List.not_mem_nil, or_false] at this
  omega
def spVal : Sp := fun vs H Q _ => ∃ (p : Addr) (n : Int), vs = [.ref p, .int n] ∧ PotAt H p ∧ 1 ≤ n ∧ n ≤ 8 ∧ ∀ (H' : Hp) (l : List Nat), ExB p H H' → PotAt H' p → (l.length : Int) = n → Sg l → Q (.str (Tx l)) H'
def spRead : Sp := fun vs H Q _ => ∃ l : List Nat, vs = [.str (Tx l)] ∧ l.length ≤ 1000 ∧ ∀ H', Ex H H' → Q (.str (Tx (l.map rd))) H'
theorem s_0 : Str.ofString "0" = Tx [48] := by decide +kernel
theorem s_1 : Str.ofString "1" = Tx [49] := by decide +kernel
theorem s_x : Str.ofString "x" = Tx [120] := by decide +kernel
theorem s_z : Str.ofString "z" = Tx [122] := by decide +kernel
theorem s_e : Str.ofString "" = Tx [] := by decide +kernel
theorem s_01 : Str.ofString "01" = Tx [48, 49] := by decide +kernel
section
variable {K : PySem.W.Frag} {σ : L2.St} {H : Hp} {ta tb te : TE}
theorem ec_0 : Ev (tC (.str (Str.ofString "0"))) σ H (.str (Tx [48])) := by rw [s_0]; exact ev_c
theorem ec_1 : Ev (tC (.str (Str.ofString "1"))) σ H (.str (Tx [49])) := by rw [s_1]; exact ev_c
theorem ec_x : Ev (tC (.str (Str.ofString "x"))) σ H (.str (Tx [120])) := by rw [s_x]; exact ev_c
theorem ec_z : Ev (tC (.str (Str.ofString "z"))) σ H (.str (Tx [122])) := by rw [s_z]; exact ev_c
theorem ec_e : Ev (tC (.str (Str.ofString ""))) σ H (.str (Tx [])) := by rw [s_e]; exact ev_c
theorem ec_01 : Ev (tC (.str (Str.ofString "01"))) σ H (.str (Tx [48, 49])) := by rw [s_01]; exact ev_c
theorem dec_Tx (a b : List Nat) : decide (V.str (Tx a) = V.str (Tx b)) = decide (a = b) := by
  rw [decide_eq_decide]
  exact ⟨fun h => Tx_inj (V.str.inj h), fun h => by rw [h]⟩
theorem ev_eqT {a b : List Nat} (ha : Ev ta σ H (.str (Tx a))) (hb : Ev tb σ H (.str (Tx b))) : Ev (tOp rEq ta tb) σ H (.bl (decide (a = b))) := by
  rw [← dec_Tx]
  exact ev_op ha hb (rv_eq rfl)
theorem ev_neT {a b : List Nat} (ha : Ev ta σ H (.str (Tx a))) (hb : Ev tb σ H (.str (Tx b))) : Ev (tOp rNe ta tb) σ H (.bl (!decide (a = b))) := by
  rw [← dec_Tx]
  exact ev_op ha hb (rv_ne rfl)
theorem ev_inT {c : Nat} {l : List Nat} (ha : Ev ta σ H (.str (Tx [c]))) (hb : Ev tb σ H (.str (Tx l))) : Ev (tOp rInS ta tb) σ H (.bl (decide (c ∈ l))) := ev_inS ha hb
theorem ev_niT {c : Nat} {l : List Nat} (ha : Ev ta σ H (.str (Tx [c]))) (hb : Ev tb σ H (.str (Tx l))) : Ev (tOp rNotInS ta tb) σ H (.bl (!decide (c ∈ l))) := ev_notInS ha hb
theorem ev_addT {a b : List Nat} (ha : Ev ta σ H (.str (Tx a))) (hb : Ev tb σ H (.str (Tx b))) (hz : a.length + b.length ≤ 100000) :
    Ev (tOp (fun x y H Q => ∃ i j, x = .str i ∧ y = .str j ∧ i.length + j.length ≤ sizeLine ∧ Q (.str (i ++ j)) H) ta tb) σ H (.str (Tx (a ++ b))) :=
  ev_op ha hb fun H1 _ Q q => ⟨Tx a, Tx b, rfl, rfl, sz_of (by rw [Tx_len, Tx_len]; exact hz), by rw [Tx_cat]; exact q H1 (Ex.refl _)⟩
theorem ev_ixT {l : List Nat} {i : Int} {c : Nat} (ha : Ev ta σ H (.str (Tx l))) (hb : Ev tb σ H (.int i)) (hl : l.length ≤ 40000) (hc : atI l i = some c) : Ev (tOp rIxS ta tb) σ H (.str (Tx [c])) :=
  ev_op ha hb (rv_ixS (by rw [Tx_len]; omega) hc)
theorem ev_ifS {b : Bool} {t : TT} {v1 v2 : V} (h : EvT t σ H b) (h1 : Ev ta σ H v1) (h2 : Ev tb σ H v2) : Ev (tIf t ta tb) σ H (if b = true then v1 else v2) :=
  ev_if h (fun e => by rw [e]; exact h1) (fun e => by rw [e]; exact h2)
end
theorem vals_rev : ∀ {a : List V} {b : List Value}, Vals a b → Vals a.reverse b.reverse
  | _, _, .nil => .nil
  | _, _, .cons r t => by
    rw [List.reverse_cons, List.reverse_cons]
    exact (vals_rev t).append (.cons r .nil)
def spLaw (K : PySem.W.Frag) : Sp := fun vs H Q _ => ∃ (a : Addr) (ns : List Int), vs = [.ref a] ∧ SqL K H a (ns.map V.int) ∧ ns.length ≤ 63 ∧ ∀ H', Q (.bl true) H'
end Dw

set_option Elab.async false
set_option linter.all false
set_option maxRecDepth 100000
namespace Dw
open PySem L2 Evl
/-! ### two sorted lists of the same texts are one -/
abbrev leS (a b : Str) : Prop := a.cps.toList ≤ b.cps.toList
theorem risingS_le : ∀ (p : Str) (l : List Str), PyProof.Rows.risingS p l = true → (p :: l).Pairwise leS
  | p, [], _ => List.pairwise_singleton _ _
  | p, x :: r, h => by
    unfold PyProof.Rows.risingS at h
    rw [Bool.and_eq_true] at h
    have ih := risingS_le x r h.2
    have hx : leS p x := by
      have := h.1
      rw [PyProof.Rows.ltCps_eq] at this
      simp at this
      exact this
    refine List.pairwise_cons.mpr ⟨fun y hy => ?_, ih⟩
    rcases List.mem_cons.mp hy with rfl | hy
    · exact hx
    · exact List.le_trans hx ((List.pairwise_cons.mp ih).1 y hy)
theorem sortedS_le : ∀ {l : List Str}, PyProof.Rows.sortedS l = true → l.Pairwise leS
  | [], _ => List.Pairwise.nil
  | x :: r, h => risingS_le x r h
theorem leS_anti {a b : Str} (h1 : leS a b) (h2 : leS b a) : a = b := TL.ext_tl (List.le_antisymm h1 h2)
theorem sorted_one {xs ys zs : List Str} (p1 : xs.Perm zs) (s1 : PyProof.Rows.sortedS xs = true) (p2 : ys.Perm zs) (s2 : PyProof.Rows.sortedS ys = true) : xs = ys :=
  List.Perm.eq_of_pairwise (le := leS) (fun a b _ _ h1 h2 => leS_anti h1 h2) (sortedS_le s1) (sortedS_le s2) (p1.trans p2.symm)
/-! ### mirrors of the operators -/
def mixS (a b : Nat) : Nat := if a = b ∧ a ∈ [48, 49] then a else 120
def anyS (l : List Nat) : Nat := if 49 ∈ l then 49 else if 120 ∈ l then 120 else 48
def allS (l : List Nat) : Nat := if 48 ∈ l then 48 else if 120 ∈ l then 120 else 49
def pickS (c : Nat) (a b : List Nat) : List Nat := if c = 120 then List.zipWith mixS a b else if c = 49 then a else b
def partS (l : List Nat) (hi lo : Nat) : List Nat := (l.drop (l.length - 1 - hi)).take (hi + 1 - lo)
def spMixS : Sp := fun vs H Q _ => ∃ a b : Nat, vs = [.str (Tx [a]), .str (Tx [b])] ∧ ∀ H', Ex H H' → Q (.str (Tx [mixS a b])) H'
def spMixed : Sp := fun vs H Q _ => ∃ a b : List Nat, vs = [.str (Tx a), .str (Tx b)] ∧ a.length = b.length ∧ a.length ≤ 1000 ∧ ∀ H', Ex H H' → Q (.str (Tx (List.zipWith mixS a b))) H'
def spOne (f : List Nat → Nat) : Sp := fun vs H Q _ => ∃ l : List Nat, vs = [.str (Tx l)] ∧ ∀ H', Ex H H' → Q (.str (Tx [f l])) H'
def spPick : Sp := fun vs H Q _ => ∃ (c : Nat) (a b : List Nat), vs = [.str (Tx [c]), .str (Tx a), .str (Tx b)] ∧ a.length = b.length ∧ a.length ≤ 1000 ∧ ∀ H', Ex H H' → Q (.str (Tx (pickS c a b))) H'
def spJoin : Sp := fun vs H Q _ => ∃ a b : List Nat, vs = [.str (Tx a), .str (Tx b)] ∧ a.length + b.length ≤ 1000 ∧ ∀ H', Ex H H' → Q (.str (Tx (a ++ b))) H'
def spPart : Sp := fun vs H Q _ => ∃ (l : List Nat) (hi lo : Nat), vs = [.str (Tx l), .int (hi : Int), .int (lo : Int)] ∧ lo ≤ hi ∧ hi < l.length ∧ l.length ≤ 1000 ∧ ∀ H', Ex H H' → Q (.str (Tx (partS l hi lo))) H'
section
variable {K : PySem.W.Frag} {σ : L2.St} {H : Hp} {ta tb te : TE} {tl th : TO}
theorem cut_Tx (l : List Nat) (i j : Nat) (hij : i ≤ j) (hj : j ≤ l.length) : cutS (Tx l) (some (i : Int)) (some (j : Int)) = Tx ((l.drop i).take (j - i)) := by
  unfold cutS
  rw [Tx_len, HT.sIx_nat, HT.sIx_nat, Nat.min_eq_left hj, Nat.min_eq_left (by omega)]
theorem ev_cutT {l : List Nat} {i j : Nat} (ha : Ev te σ H (.str (Tx l))) (h1 : EvO tl σ H (some (i : Int))) (h2 : EvO th σ H (some (j : Int))) (hij : i ≤ j) (hj : j ≤ l.length) (hz : l.length ≤ 40000) : Ev (tSl rSlS te tl th) σ H (.str (Tx ((l.drop i).take (j - i)))) := fun H1 e Q q =>
  ha H1 e _ fun H2 e2 => h1 H2 (e.trans e2) _ fun H3 e3 => h2 H3 ((e.trans e2).trans e3) _ fun H4 e4 => ⟨Tx l, rfl, sz_of (by rw [Tx_len]; omega), by rw [cut_Tx l i j hij hj]; exact q H4 ((e2.trans e3).trans e4)⟩
/-- a new list of texts, of what a def tells of each of a list's texts -/
theorem el_lcV {xs : List (List Nat)} {a : Addr} {tl : TE} {j : Nat} {vs : List Nat} (g : List Nat → V) (h : Ev tl σ H (.ref a)) (hx : SqL K H a (xs.map fun l => V.str (Tx l))) (hz : xs.length ≤ 40000) (hw : ∀ x, wipe ((wipe σ vs).set j (some x)) vs = wipe σ vs)
    (he : ∀ (l : List Nat) H1, Ex H H1 → l ∈ xs → Ev te ((wipe σ vs).set j (some (.str (Tx l)))) H1 (g l)) :
    EvL (tLc (iList K tl) (gName j) tYes te vs) σ H (xs.map g) := by
  have hs : (xs.map fun l => V.str (Tx l)).length = xs.length := List.length_map _
  rw [← given_all xs [] g, ← hs]
  refine el_lcL (fun _ => true) (fun i => g (xs.getD i [])) h hx (by omega) hw (fun i x H1 e hi => et_yes) (fun i x H1 e hi _ => ?_)
  rw [List.getElem?_map] at hi
  cases hq : xs[i]? with
  | none =>
    rw [hq] at hi
    cases hi
  | some l =>
    rw [hq] at hi
    have ex : V.str (Tx l) = x := Option.some.inj hi
    subst ex
    rw [show xs.getD i [] = l by rw [List.getD_eq_getElem?_getD, hq]; rfl]
    exact he l H1 e (List.mem_of_getElem? hq)
end
end Dw

set_option Elab.async false
set_option linter.all false
set_option maxRecDepth 100000
namespace Dw
open PySem L2 Evl
section
variable {K : PySem.W.Frag} {σ : L2.St} {H : Hp} {ta : TA} {te tx : TE} {t : TT} {z : V}
/-- [e for k in range(i, j, -1)] -/
theorem el_lcR3 {j : Nat} {vs : List Nat} {a b : Int} (v : Nat → V) (h : EvA ta σ H [.int a, .int b, .int (-1)]) (hr : 0 ≤ a ∧ a ≤ 1000 ∧ -1 ≤ b ∧ b ≤ a) (hw : ∀ x, wipe ((wipe σ vs).set j (some x)) vs = wipe σ vs)
    (he : ∀ (i : Nat) H1, Ex H H1 → (i : Int) < a - b → Ev te ((wipe σ vs).set j (some (.int (a - (i : Int))))) H1 (v i)) :
    EvL (tLc (iRng3 ta) (gName j) tYes te vs) σ H ((List.range (a - b).toNat).map v) := fun H0 e Q q => h H0 e _ fun H1 e1 => ⟨a, b, -1, (a - b).toNat, rfl, RgC.neg (by omega) (by omega) (by omega) (by omega), fun Dl hD => by
  have e2 : (List.range (a - b).toNat).map v = given (a - b).toNat (fun _ => true) v := by
    unfold given
    rw [List.filter_eq_self.mpr (fun _ _ => rfl)]
  rw [e2] at q
  refine lc_it walk_rangeC (Cw H1 (fun _ => true) v Dl) ⟨hD, Ex.new hD, upd_same⟩ (fun _ _ _ _ => True.intro) (fun i x H2 H3 hi p y => ?_) (fun H' p => q Dl H' (fresh_back e1 p.1) (e1.trans p.2.1) p.2.2)
  obtain ⟨rfl, hx⟩ := y
  have hx2 : x = .int (a - (i : Int)) := by
    rw [hx]
    show V.int (a + (i : Int) * -1) = V.int (a - (i : Int))
    congr 1
    omega
  subst hx2
  exact ⟨hw _, cw_turn p (by omega) et_yes fun _ => he i H1 (e.trans e1) (by omega)⟩⟩
/-- f('word', [..]) -/
theorem ev_callL2 {sp : Sp} {dvs : List V} {E : XK} {w : V} {xs : List V} (h : EvL te σ H xs) (hs : ∀ p H1, H1 p = some (.lst xs) → Ex H H1 → SpV sp ([w, .ref p] ++ dvs) H1 z) : Ev (tCall sp dvs E (tCons (tC w) (tCons te tNil))) σ H z := fun H1 e Q q =>
  h H1 e _ fun p H2 _ e2 h2 => hs p H2 h2 (e.trans e2) H2 (Ex.refl _) Q (fun H3 e3 => q H3 (e2.trans e3)) E
/-- f('word', [..], k=..) -/
theorem ev_callNL2 {sp : Sp} {n m : Nat} {gV : List V → List V → List V} {E : XK} {tK : TA} {w : V} {xs zs : List V} (h : EvL te σ H xs) (hk : EvA tK σ H zs) (l1 : 2 = n) (l2 : zs.length = m) (hs : ∀ p H1, H1 p = some (.lst xs) → Ex H H1 → SpV sp (gV [w, .ref p] zs) H1 z) : Ev (tCallN n m sp gV E (tCons (tC w) (tCons te tNil)) tK) σ H z := fun H1 e Q q =>
  h H1 e _ fun p H2 _ e2 h2 => hk H2 (e.trans e2) _ fun H3 e3 => ⟨l1, l2, hs p H3 (e3 _ _ h2) ((e.trans e2).trans e3) H3 (Ex.refl _) Q (fun H4 e4 => q H4 ((e2.trans e3).trans e4)) E⟩
end
theorem mul_ok : ∀ d ∈ [48, 49], ∀ n : Fin 9, MulOk (Tx [d]) ((n.val : Nat) : Int) ∧ Txt.mul (Tx [d]) ((n.val : Nat) : Int) = Tx (List.replicate n.val d) := by
  simp only [MulOk]
  decide +kernel
theorem mul_Tx {d : Nat} (hd : d ∈ [48, 49]) {n : Nat} (hn : n ≤ 8) : MulOk (Tx [d]) (n : Int) ∧ Txt.mul (Tx [d]) (n : Int) = Tx (List.replicate n d) := mul_ok d hd ⟨n, by omega⟩
theorem part_due (L : List Nat) (hi lo : Nat) (h1 : lo ≤ hi) (h2 : hi < L.length) : (List.range (hi + 1 - lo)).map (fun t => L.reverse.getD (hi - t) 0) = partS L hi lo := by
  unfold partS
  apply List.ext_getElem
  · simp
    omega
  · intro i h3 h4
    simp at h3
    simp
    rw [List.getElem?_reverse (by omega), List.getElem?_eq_getElem (by omega)]
    show L[L.length - 1 - (hi - i)] = L[L.length - 1 - hi + i]
    congr 1
    omega
theorem mix_rd {a b : Nat} (ha : a ∈ sgn) (hb : b ∈ sgn) : mixS (rd a) (rd b) = mixS a b := by
  simp only [sgn, List.mem_cons, List.not_mem_nil, or_false] at ha hb
  rcases ha with rfl | rfl | rfl | rfl <;> rcases hb with rfl | rfl | rfl | rfl <;> decide
theorem mixed_rd : ∀ {a b : List Nat}, Sg a → Sg b → List.zipWith mixS (a.map rd) (b.map rd) = List.zipWith mixS a b
  | [], _, _, _ => by simp
  | _ :: _, [], _, _ => by simp
  | x :: a, y :: b, ha, hb => by
    rw [List.map_cons, List.map_cons, List.zipWith_cons_cons, List.zipWith_cons_cons, mix_rd (ha x (List.mem_cons_self ..)) (hb y (List.mem_cons_self ..)), mixed_rd (fun c hc => ha c (List.mem_cons_of_mem _ hc)) (fun c hc => hb c (List.mem_cons_of_mem _ hc))]
theorem mem_rd {l : List Nat} {c : Nat} (hc : c = 48 ∨ c = 49) : c ∈ l.map rd ↔ c ∈ l := by
  rw [List.mem_map]
  constructor
  · rintro ⟨d, hd, e⟩
    unfold rd at e
    by_cases h : d = 122
    · rw [if_pos h] at e
      omega
    · rw [if_neg h] at e
      rw [← e]
      exact hd
  · intro h
    exact ⟨c, h, by unfold rd; rw [if_neg (by omega)]⟩
theorem x_rd {l : List Nat} (h : Sg l) (u d : Nat) (hud : (u = 48 ∧ d = 49) ∨ (u = 49 ∧ d = 48)) (hu : u ∉ l) : 120 ∈ l.map rd ↔ ¬ l = List.replicate l.length d := by
  rw [List.mem_map]
  constructor
  · rintro ⟨c, hc, e⟩ hr
    rw [hr] at hc
    have := (List.mem_replicate.mp hc).2
    subst this
    unfold rd at e
    by_cases h2 : c = 122
    · omega
    · rw [if_neg h2] at e
      omega
  · intro hn
    by_cases hx : ∃ c ∈ l, rd c = 120
    · obtain ⟨c, hc, e⟩ := hx
      exact ⟨c, hc, e⟩
    · exfalso
      apply hn
      rw [List.eq_replicate_iff]
      refine ⟨rfl, fun c hc => ?_⟩
      have h3 := h c hc
      have h4 : rd c ≠ 120 := fun e => hx ⟨c, hc, e⟩
      have h5 : c ≠ u := fun e => hu (by rw [← e]; exact hc)
      simp only [sgn, List.mem_cons, List.not_mem_nil, or_false] at h3
      rcases h3 with rfl | rfl | rfl | rfl
      · omega
      · omega
      · exact absurd rfl h4
      · exact absurd rfl h4
end Dw

set_option Elab.async false
set_option linter.all false
set_option maxRecDepth 100000
/-! ### zip of any number of texts -/
namespace Dw
open PySem PySem.Spec PyProof.Rows PySem.W
abbrev ZpF (h : Heap) (z TI TO : Addr) (v : Value) (f : Bool) : Prop := h.get? z = some { cls := .type "zip", dict := none, data := .fields #[v, .bool f, .bool false, .ref TI, .ref TO], slots := #[] }
abbrev TpN (h : Heap) (t : Addr) (vs : List Value) : Prop := h.get? t = some { cls := .type "tuple", data := .seq vs.toArray }
abbrev Tri := Nat × Str × Tok
def ItA (h : Heap) (i : Nat) (e : Tri) : Prop := h.IsStrIter e.1 (strIterType e.2.1) e.2.1 e.2.2 i
theorem ItA.over {h h' : Heap} {i : Nat} {e : Tri} (a : ItA h i e) (k : ∀ o, h.get? e.1 = some o → h'.get? e.1 = some o) : ItA h' i e := by
  obtain ⟨o, ho, r⟩ := a
  exact ⟨o, k o ho, r⟩
structure SepN (z TI TO : Addr) (es : List Tri) : Prop where
  zT : z ≠ TI
  zO : z ≠ TO
  TTO : TI ≠ TO
  jz : ∀ e ∈ es, e.1 ≠ z
  jT : ∀ e ∈ es, e.1 ≠ TI
  jO : ∀ e ∈ es, e.1 ≠ TO
  nd : (es.map fun e => e.1).Nodup
def Dr (i : Nat) (e : Tri) (v : Value) : Prop := ∃ c u, e.2.1.cps[i]? = some c ∧ v = .str ⟨#[c]⟩ u
theorem paired_snoc {α β : Type} {R : α → β → Prop} {b : β} {a : α} (h : R a b) : ∀ {as : List α} {bs : List β}, Paired R as bs → Paired R (as ++ [a]) (bs ++ [b])
  | _, _, .nil => .cons h .nil
  | _, _, .cons r t => .cons r (paired_snoc h t)
section
variable {prog : Program} {w : World} {A : Around} {E : Value → Shared → Prop} {s : Shared} {z TI TO T : Addr} {es : List Tri} {f : Bool} {oT : Obj} {i : Nat}
theorem zn_held {Q : Value → Shared → Prop} (hh : A.handled = none) (S : SepN z TI TO es) (ne : es ≠ []) (few : es.length ≤ 1000) (zp : ZpF s.heap z TI TO (rawInt T) f) (tA : s.heap.get? T = some oT) (tI : TpN s.heap TI (es.map fun e => .ref e.1)) (its : ∀ e ∈ es, ItA s.heap i e) (lt : ∀ e ∈ es, i < e.2.1.cps.size)
    (k : ∀ vs h' tk, Paired (Dr i) es vs → ZpF h' z TI TO (rawInt T) true → (∀ e ∈ es, ItA h' (i + 1) e) → TpN h' s.heap.objs.size vs → h'.objs.size = s.heap.objs.size + 1 → (∀ c o, c ≠ z → (∀ e ∈ es, c ≠ e.1) → s.heap.get? c = some o → h'.get? c = some o) → Q (.ref s.heap.objs.size) { s with heap := h', toks := tk }) :
    wpAny (model prog w) A (Builtin.«zip.__next__» ⟨[.ref z], []⟩) (fun fin s' => ∃ v, fin = .done (.ret v) ∧ Q v s') E s := by
  obtain ⟨hp, g, d, tk0, os⟩ := s
  show wpAny _ _ (field (.ref z) 2 >>= _) _ _ _
  refine wpAny_bind (wpAny_field zp rfl (x := .bool false) rfl ?_)
  show wpAny _ _ (field (.ref z) 3 >>= _) _ _ _
  refine wpAny_bind (wpAny_field zp rfl (x := .ref TI) rfl ?_)
  refine wpAny_bind (wpAny_seqItems tI rfl ?_)
  have full : ((es.map fun e => Value.ref e.1).toArray.isEmpty) = false := by
    cases es with
    | nil => exact absurd rfl ne
    | cons a r => simp
  dsimp only
  rw [full]
  show wpAny _ _ (Builtin.SmallTypes.ownedTupleIsFree (.ref z) >>= _) _ _ _
  refine wpAny_bind (wpAny_tupleHeld_zip zp tA fun h1 zp1 same1 => ?_)
  simp only [Bool.false_eq_true, if_false]
  refine wpAny_bind ?_
  rw [← Array.forIn_toList]
  refine wpAny_forIn_list _ (fun rest b s' => b.1 = none ∧ ∃ (pre suf : List Tri) (hq : Heap) (tk : Nat), es = pre ++ suf ∧ rest = (suf.map fun e => Value.ref e.1) ∧ Paired (Dr i) pre b.2.toList ∧ s' = ⟨hq, g, d, tk, os⟩ ∧ ZpF hq z TI TO (rawInt T) true ∧ (∀ e ∈ pre, ItA hq (i + 1) e) ∧ (∀ e ∈ suf, ItA hq i e) ∧ hq.objs.size = hp.objs.size ∧ ∀ c o, c ≠ z → (∀ e ∈ es, c ≠ e.1) → hp.get? c = some o → hq.get? c = some o) _ ?turn ?fin _ _ ?init
  case init => exact ⟨rfl, [], es, h1, tk0, rfl, rfl, .nil, rfl, zp1, (fun e he => by cases he), (fun e he => (its e he).over fun o ho => same1.extBut _ _ (S.jz e he) ho), same1.1, fun c o nz _ hc => same1.extBut _ _ nz hc⟩
  case turn =>
    rintro x rest b s' ⟨b0, pre, suf, hq, tk, esp, er, pd, rfl, zq, ip, is, sz, kp⟩
    cases suf with
    | nil => cases er
    | cons e suf =>
      rw [List.map_cons] at er
      obtain ⟨rfl, rfl⟩ := List.cons.inj er
      have mem : e ∈ es := by rw [esp]; simp
      refine wpAny_bind (wpAny_holding ?_)
      show wpAny _ _ (Builtin.SmallTypes.nextOf (.ref e.1) >>= _) _ _ _
      refine wpAny_bind ((Draws.text hh e.1 e.2.1 e.2.2).item i ⟨hq, g, d, tk, os⟩ _ _ (lt e mem) (is e (List.mem_cons_self ..)) fun v h' tk' dr it' same' => wpAny_pure ?_)
      refine wpAny_pure ?_
      replace same' : Heap.SameBut e.1 hq h' := same'
      have nds := S.nd
      rw [esp, List.map_append, List.map_cons, List.nodup_append] at nds
      obtain ⟨_, nd2, nd3⟩ := nds
      refine ⟨rfl, pre ++ [e], suf, h', tk', by rw [esp]; simp, rfl, ?_, rfl, same'.extBut _ _ (S.jz e mem).symm zq, fun e' he' => ?_, fun e' he' => ?_, same'.1.trans sz, fun c o nz nj hc => same'.extBut _ _ (nj e mem) (kp c o nz nj hc)⟩
      · rw [Array.toList_push]
        exact paired_snoc dr pd
      · rcases List.mem_append.mp he' with hm | hm
        · exact (ip e' hm).over fun o ho => same'.extBut _ _ (nd3 e'.1 (List.mem_map.mpr ⟨e', hm, rfl⟩) e.1 (List.mem_cons_self ..)) ho
        · rw [List.mem_singleton.mp hm]
          exact it'
      · refine (is e' (List.mem_cons_of_mem _ he')).over fun o ho => same'.extBut _ _ (fun z => ?_) ho
        exact (List.nodup_cons.mp nd2).1 (z ▸ List.mem_map.mpr ⟨e', he', rfl⟩)
  case fin =>
    rintro ⟨b1, b2⟩ s' ⟨b0, pre, suf, hq, tk, esp, er, pd, rfl, zq, ip, is, sz, kp⟩
    have : suf = [] := List.map_eq_nil_iff.mp er.symm
    subst this
    rw [List.append_nil] at esp
    subst esp
    cases (show b1 = none from b0)
    have fits : b2.toList.length ≤ sizeLine := by
      rw [← pd.length]
      exact Evl.sz_of (by omega)
    refine wpAny_bind (wpAny_newTuple ?_ fits)
    refine wpAny_pure ⟨_, rfl, ?_⟩
    have there : TpN (hq.push { cls := .type "tuple", data := .seq b2.toList.toArray }) hq.objs.size b2.toList := Heap.get?_push_size _ rfl
    have grows : (hq.push { cls := .type "tuple", data := .seq b2.toList.toArray }).objs.size = hq.objs.size + 1 := Heap.size_push ..
    rw [sz] at there grows
    show Q (.ref hq.objs.size) _
    rw [sz]
    exact k b2.toList _ tk pd (Heap.get?_push_of_some _ zq) (fun e he => (ip e he).over fun o ho => Heap.get?_push_of_some _ ho) there grows fun c o nz nj hc => Heap.get?_push_of_some _ (kp c o nz nj hc)
/-- the kept tuple is free: none was handed out, or it is gone -/
def FreeV (h : Heap) (v : Value) : Prop := v = .none ∨ ∃ T : Addr, v = rawInt T ∧ h.get? T = none
theorem gone_load {a : Addr} {Q : Option Obj → Shared → Prop} (gone : s.heap.get? a = none) (k : Q none s) : wpAny (model prog w) A (loadIfAlive a) Q E s := by
  have k' : Q (s.heap.get? a) s := by
    rw [gone]
    exact k
  exact fun _ _ _ => k'
theorem upd_tuple {t : Addr} {l : List Value} {x : Value} {j : Nat} {Q : Unit → Shared → Prop} (tp : TpN s.heap t l) (few : l.length ≤ 1000) (k : ∀ h', TpN h' t (l.set j x) → Heap.SameBut t s.heap h' → Q () { s with heap := h' }) : wpAny (model prog w) A (updateSeq t fun v => v.setIfInBounds j x) Q E s := by
  have f1 : l.toArray.size ≤ sizeLine := by
    show l.length ≤ sizeLine
    exact Evl.sz_of (by omega)
  have f2 : (l.toArray.setIfInBounds j x).size ≤ sizeLine + 1 := by
    rw [Array.size_setIfInBounds]
    omega
  refine wpAny_updateSeq tp rfl (k _ ?_ (Heap.SameBut.update ..)) f1 f2
  unfold TpN
  rw [Heap.get?_update_self _ tp rfl]
  simp [Obj.mapSeq]
theorem zn_isFree {v : Value} {Q : Bool → Shared → Prop} (zp : ZpF s.heap z TI TO v f) (fr : FreeV s.heap v) (k : Q true s) : wpAny (model prog w) A (Builtin.SmallTypes.ownedTupleIsFree (.ref z)) Q E s := by
  unfold Builtin.SmallTypes.ownedTupleIsFree
  rcases fr with rfl | ⟨T, rfl, gone⟩
  · exact wpAny_bind (wpAny_field zp rfl (x := .none) rfl (wpAny_pure k))
  · refine wpAny_bind (wpAny_field zp rfl (x := rawInt T) rfl ?_)
    show wpAny _ _ (loadIfAlive ((T : Int).toNat) >>= _) _ _ _
    rw [Int.toNat_natCast]
    refine wpAny_bind (gone_load gone ?_)
    exact wpAny_pure k
theorem zn_free {v : Value} {old : List Value} {Q : Value → Shared → Prop} (hh : A.handled = none) (S : SepN z TI TO es) (ne : es ≠ []) (few : es.length ≤ 1000) (zp : ZpF s.heap z TI TO v f) (fr : FreeV s.heap v) (tI : TpN s.heap TI (es.map fun e => .ref e.1)) (tO : TpN s.heap TO old) (ol : old.length = es.length) (its : ∀ e ∈ es, ItA s.heap i e) (lt : ∀ e ∈ es, i < e.2.1.cps.size)
    (k : ∀ vs h' tk, Paired (Dr i) es vs → ZpF h' z TI TO (rawInt s.heap.objs.size) false → TpN h' TO vs → (∀ e ∈ es, ItA h' (i + 1) e) → TpN h' s.heap.objs.size vs → h'.objs.size = s.heap.objs.size + 1 → (∀ c o, c ≠ z → c ≠ TO → (∀ e ∈ es, c ≠ e.1) → s.heap.get? c = some o → h'.get? c = some o) → Q (.ref s.heap.objs.size) { s with heap := h', toks := tk }) :
    wpAny (model prog w) A (Builtin.«zip.__next__» ⟨[.ref z], []⟩) (fun fin s' => ∃ v, fin = .done (.ret v) ∧ Q v s') E s := by
  obtain ⟨hp, g, d, tk0, os⟩ := s
  show wpAny _ _ (field (.ref z) 2 >>= _) _ _ _
  refine wpAny_bind (wpAny_field zp rfl (x := .bool false) rfl ?_)
  show wpAny _ _ (field (.ref z) 3 >>= _) _ _ _
  refine wpAny_bind (wpAny_field zp rfl (x := .ref TI) rfl ?_)
  refine wpAny_bind (wpAny_seqItems tI rfl ?_)
  have full : ((es.map fun e => Value.ref e.1).toArray.isEmpty) = false := by
    cases es with
    | nil => exact absurd rfl ne
    | cons a r => simp
  dsimp only
  rw [full]
  show wpAny _ _ (Builtin.SmallTypes.ownedTupleIsFree (.ref z) >>= _) _ _ _
  refine wpAny_bind (zn_isFree zp fr ?_)
  simp only [if_true]
  refine wpAny_bind (wpAny_rule ?_)
  refine wpAny_bind (wpAny_field zp rfl (x := .ref TO) rfl ?_)
  refine wpAny_bind (wpAny_setField_rec zp (by simp) fun g0 z0 same0 => ?_)
  replace z0 : ZpF g0 z TI TO .ellipsis f := z0
  replace same0 : Heap.SameBut z hp g0 := same0
  refine wpAny_bind ?_
  refine wpAny_forIn_list _ (fun rest b s' => b.1 = none ∧ ∃ (pre suf : List Tri) (vs left : List Value) (hq : Heap) (tk : Nat), es = pre ++ suf ∧ rest = (suf.map fun e => Value.ref e.1).zipIdx pre.length ∧ Paired (Dr i) pre vs ∧ left.length = suf.length ∧ s' = ⟨hq, g, d, tk, os⟩ ∧ ZpF hq z TI TO .ellipsis f ∧ TpN hq TO (vs ++ left) ∧ (∀ e ∈ pre, ItA hq (i + 1) e) ∧ (∀ e ∈ suf, ItA hq i e) ∧ hq.objs.size = hp.objs.size ∧ ∀ c o, c ≠ z → c ≠ TO → (∀ e ∈ es, c ≠ e.1) → hp.get? c = some o → hq.get? c = some o) _ ?turn ?fin _ _ ?init
  case init => exact ⟨rfl, [], es, [], old, g0, tk0, rfl, rfl, .nil, ol, rfl, z0, same0.extBut _ _ S.zO.symm tO, (fun e he => by cases he), (fun e he => (its e he).over fun o ho => same0.extBut _ _ (S.jz e he) ho), same0.1, fun c o nz _ _ hc => same0.extBut _ _ nz hc⟩
  case turn =>
    rintro ⟨x, n⟩ rest b s' ⟨b0, pre, suf, vs, left, hq, tk, esp, er, pd, ll, rfl, zq, tq, ip, is, sz, kp⟩
    cases suf with
    | nil => cases er
    | cons e suf =>
      cases left with
      | nil => cases ll
      | cons o0 left =>
        rw [List.map_cons, List.zipIdx_cons] at er
        obtain ⟨er1, rfl⟩ := List.cons.inj er
        obtain ⟨rfl, rfl⟩ := Prod.mk.inj er1
        have mem : e ∈ es := by rw [esp]; simp
        refine wpAny_bind (wpAny_onRaise ?_)
        show wpAny _ _ (Builtin.SmallTypes.nextOf (.ref e.1) >>= _) _ _ _
        refine wpAny_bind ((Draws.text hh e.1 e.2.1 e.2.2).item i ⟨hq, g, d, tk, os⟩ _ _ (lt e mem) (is e (List.mem_cons_self ..)) fun v h' tk' dr it' same' => wpAny_pure ?_)
        replace same' : Heap.SameBut e.1 hq h' := same'
        have tq' : TpN h' TO (vs ++ o0 :: left) := same'.extBut _ _ (S.jO e mem).symm tq
        have room : (vs ++ o0 :: left).length ≤ 1000 := by
          have l1 := pd.length
          have l2 := congrArg List.length esp
          rw [List.length_append] at l2 ⊢
          simp only [List.length_cons] at ll l2 ⊢
          omega
        refine wpAny_bind (wpAny_seqItems (s := ⟨h', g, d, tk', os⟩) tq' rfl ?_)
        refine wpAny_bind (upd_tuple (s := ⟨h', g, d, tk', os⟩) tq' room fun h2 t2 same2 => ?_)
        replace same2 : Heap.SameBut TO h' h2 := same2
        refine wpAny_bind (wpAny_letGo (wpAny_pure ?_))
        have nds := S.nd
        rw [esp, List.map_append, List.map_cons, List.nodup_append] at nds
        obtain ⟨_, nd2, nd3⟩ := nds
        have len := pd.length
        refine ⟨rfl, pre ++ [e], suf, vs ++ [v], left, h2, tk', by rw [esp]; simp, by rw [List.length_append]; rfl, paired_snoc dr pd, by simpa using ll, rfl, same2.extBut _ _ S.zO (same'.extBut _ _ (S.jz e mem).symm zq), ?_, fun e' he' => ?_, fun e' he' => ?_, (same2.1.trans same'.1).trans sz, fun c o nz nO nj hc => same2.extBut _ _ nO (same'.extBut _ _ (nj e mem) (kp c o nz nO nj hc))⟩
        · rw [len, List.set_append_right _ _ (Nat.le_refl _), Nat.sub_self] at t2
          rw [List.append_assoc]
          exact t2
        · rcases List.mem_append.mp he' with hm | hm
          · exact ((ip e' hm).over fun o ho => same'.extBut _ _ (nd3 e'.1 (List.mem_map.mpr ⟨e', hm, rfl⟩) e.1 (List.mem_cons_self ..)) ho).over fun o ho => same2.extBut _ _ (S.jO e' (by rw [esp]; exact List.mem_append.mpr (.inl hm))) ho
          · rw [List.mem_singleton.mp hm]
            exact ItA.over (h := h') it' fun o ho => same2.extBut _ _ (S.jO e mem) ho
        · refine ((is e' (List.mem_cons_of_mem _ he')).over fun o ho => same'.extBut _ _ (fun z => ?_) ho).over fun o ho => same2.extBut _ _ (S.jO e' (by rw [esp]; exact List.mem_append.mpr (.inr (List.mem_cons_of_mem _ he')))) ho
          exact (List.nodup_cons.mp nd2).1 (z ▸ List.mem_map.mpr ⟨e', he', rfl⟩)
  case fin =>
    rintro ⟨b1, b2⟩ s' ⟨b0, pre, suf, vs, left, hq, tk, esp, er, pd, ll, rfl, zq, tq, ip, is, sz, kp⟩
    have none' : suf = [] := by
      cases suf with
      | nil => rfl
      | cons a r =>
        rw [List.map_cons, List.zipIdx_cons] at er
        cases er
    subst none'
    rw [List.append_nil] at esp
    subst esp
    have none2 : left = [] := List.length_eq_zero_iff.mp ll
    subst none2
    rw [List.append_nil] at tq
    cases (show b1 = none from b0)
    have fits : vs.toArray.toList.length ≤ sizeLine := by
      show vs.length ≤ sizeLine
      rw [← pd.length]
      exact Evl.sz_of (by omega)
    refine wpAny_bind (wpAny_seqItems (s := ⟨hq, g, d, tk, os⟩) tq rfl ?_)
    refine wpAny_bind (wpAny_newTuple ?_ fits)
    have zlt : z < hq.objs.size := Heap.lt_size zq
    show wpAny _ _ (Builtin.SmallTypes.ownedTupleHandOut (.ref z) (.ref hq.objs.size) >>= _) _ _ ⟨hq.push { cls := .type "tuple", data := .seq vs.toArray }, g, d, tk, os⟩
    refine wpAny_bind ?_
    unfold Builtin.SmallTypes.ownedTupleHandOut
    have zq3 : ZpF (hq.push { cls := .type "tuple", data := .seq vs.toArray }) z TI TO .ellipsis f := Heap.get?_push_of_some _ zq
    refine wpAny_bind (wpAny_setField_rec zq3 (by simp) fun h4 zq4 same4 => ?_)
    replace zq4 : ZpF h4 z TI TO (rawInt hq.objs.size) f := zq4
    replace same4 : Heap.SameBut z (hq.push { cls := .type "tuple", data := .seq vs.toArray }) h4 := same4
    refine wpAny_setField_rec zq4 (by simp) fun h5 zq5 same5 => ?_
    replace zq5 : ZpF h5 z TI TO (rawInt hq.objs.size) false := zq5
    replace same5 : Heap.SameBut z h4 h5 := same5
    have up : ∀ c o, c ≠ z → hq.get? c = some o → h5.get? c = some o := fun c o nz hc => same5.extBut _ _ nz (same4.extBut _ _ nz (Heap.get?_push_of_some _ hc))
    have there : TpN h5 hq.objs.size vs := same5.extBut _ _ (Nat.ne_of_gt zlt) (same4.extBut _ _ (Nat.ne_of_gt zlt) (Heap.get?_push_size _ rfl))
    have grows : h5.objs.size = hq.objs.size + 1 := by rw [same5.1, same4.1, Heap.size_push]
    rw [sz] at zq5 there grows
    refine wpAny_pure ⟨_, rfl, ?_⟩
    show Q (.ref hq.objs.size) ⟨h5, g, d, tk, os⟩
    rw [sz]
    exact k vs h5 tk pd zq5 (up _ _ S.zO.symm tq) (fun e he => (ip e he).over fun o ho => up _ _ (S.jz e he) ho) there grows fun c o nz nO nj hc => up c o nz (kp c o nz nO nj hc)
/-- all have ended -/
theorem zn_end {v : Value} {Q : Fin → Shared → Prop} (hh : A.handled = none) (S : SepN z TI TO es) (ne : es ≠ []) (zp : ZpF s.heap z TI TO v f) (any : FreeV s.heap v ∨ ∃ (T : Addr) (o : Obj), v = rawInt T ∧ s.heap.get? T = some o) (tI : TpN s.heap TI (es.map fun e => .ref e.1)) (its : ∀ e ∈ es, ItA s.heap e.2.1.cps.size e)
    (k : ∀ h' x, (∀ c o, c ≠ z → (∀ e ∈ es, c ≠ e.1) → s.heap.get? c = some o → h'.get? c = some o) → (∃ o, h'.get? x = some o ∧ o.cls = .type "StopIteration") → E (.ref x) { s with heap := h' }) :
    wpAny (model prog w) A (Builtin.«zip.__next__» ⟨[.ref z], []⟩) Q E s := by
  obtain ⟨hp, g, d, tk0, os⟩ := s
  show wpAny _ _ (field (.ref z) 2 >>= _) _ _ _
  refine wpAny_bind (wpAny_field zp rfl (x := .bool false) rfl ?_)
  show wpAny _ _ (field (.ref z) 3 >>= _) _ _ _
  refine wpAny_bind (wpAny_field zp rfl (x := .ref TI) rfl ?_)
  refine wpAny_bind (wpAny_seqItems tI rfl ?_)
  cases es with
  | nil => exact absurd rfl ne
  | cons e es =>
    have mem : e ∈ e :: es := List.mem_cons_self ..
    show wpAny _ _ (Builtin.SmallTypes.ownedTupleIsFree (.ref z) >>= _) _ _ _
    rcases any with fr | ⟨T, oT, rfl, tA⟩
    · refine wpAny_bind (zn_isFree zp fr ?_)
      simp only [if_true]
      refine wpAny_bind (wpAny_rule ?_)
      refine wpAny_bind (wpAny_field zp rfl (x := .ref TO) rfl ?_)
      refine wpAny_bind (wpAny_setField_rec zp (by simp) fun g0 z0 same0 => ?_)
      replace z0 : ZpF g0 z TI TO .ellipsis f := z0
      replace same0 : Heap.SameBut z hp g0 := same0
      refine wpAny_bind ?_
      simp only [List.map_cons, List.zipIdx_cons, List.forIn_cons]
      refine wpAny_bind (wpAny_bind (wpAny_onRaise ?_))
      show wpAny _ _ (Builtin.SmallTypes.nextOf (.ref e.1) >>= _) _ _ ⟨g0, g, d, tk0, os⟩
      refine wpAny_bind ((Draws.text hh e.1 e.2.1 e.2.2).done ⟨g0, g, d, tk0, os⟩ _ _ ((its e mem).over fun o ho => same0.extBut _ _ (S.jz e mem) ho) fun q x ext he => ?_)
      replace ext : Heap.ExtBut e.1 g0 q := ext
      obtain ⟨ox, hx, cx⟩ := he
      replace hx : q.get? x = some ox := hx
      have zq : ZpF q z TI TO .ellipsis f := ext _ _ (S.jz e mem).symm z0
      have nxz : x ≠ z := fun y => by
        subst y
        rw [zq] at hx
        cases hx
        simp at cx
      refine wpAny_setField_rec (s := ⟨q, g, d, tk0, os⟩) zq (by simp) fun q' _ same' => ?_
      replace same' : Heap.SameBut z q q' := same'
      exact k q' x (fun c o nz nj hc => same'.extBut _ _ nz (ext _ _ (nj e mem) (same0.extBut _ _ nz hc))) ⟨ox, same'.extBut _ _ nxz hx, cx⟩
    · refine wpAny_bind (wpAny_tupleHeld_zip zp tA fun h1 zp1 same1 => ?_)
      simp only [Bool.false_eq_true, if_false]
      refine wpAny_bind ?_
      rw [← Array.forIn_toList]
      simp only [List.map_cons, List.forIn_cons]
      refine wpAny_bind (wpAny_bind (wpAny_holding ?_))
      show wpAny _ _ (Builtin.SmallTypes.nextOf (.ref e.1) >>= _) _ _ _
      refine wpAny_bind ((Draws.text hh e.1 e.2.1 e.2.2).done _ _ _ ((its e mem).over fun o ho => same1.extBut _ _ (S.jz e mem) ho) fun q x ext he => ?_)
      exact k q x (fun c o nz nj hc => ext _ _ (nj e mem) (same1.extBut _ _ nz hc)) he
end
end Dw

set_option Elab.async false
set_option linter.all false
set_option maxRecDepth 100000
namespace Dw
open PySem PySem.Spec PyProof.Rows PySem.W
def esOf : Nat → List (Str × Tok) → List Tri
  | _, [] => []
  | N, p :: r => (N, p.1, p.2) :: esOf (N + 1) r
theorem esOf_len : ∀ (N : Nat) (ps : List (Str × Tok)), (esOf N ps).length = ps.length
  | _, [] => rfl
  | N, p :: r => by
    rw [esOf, List.length_cons, List.length_cons, esOf_len (N + 1) r]
theorem esOf_mem : ∀ {N : Nat} {ps : List (Str × Tok)} {e : Tri}, e ∈ esOf N ps → N ≤ e.1 ∧ e.1 < N + ps.length ∧ ∃ p ∈ ps, e.2 = p
  | _, [], _, h => by cases h
  | N, p :: r, e, h => by
    rw [esOf] at h
    rcases List.mem_cons.mp h with rfl | h
    · exact ⟨Nat.le_refl _, by simp, p, List.mem_cons_self .., rfl⟩
    · obtain ⟨h1, h2, q, hq, e2⟩ := esOf_mem h
      exact ⟨by omega, by simp; omega, q, List.mem_cons_of_mem _ hq, e2⟩
theorem esOf_nd : ∀ (N : Nat) (ps : List (Str × Tok)), ((esOf N ps).map fun e => e.1).Nodup
  | _, [] => by simp [esOf]
  | N, p :: r => by
    rw [esOf, List.map_cons, List.nodup_cons]
    refine ⟨fun h => ?_, esOf_nd (N + 1) r⟩
    obtain ⟨e, he, en⟩ := List.mem_map.mp h
    have := (esOf_mem he).1
    simp only at en
    omega
theorem esOf_texts : ∀ (N : Nat) (ps : List (Str × Tok)), ((esOf N ps).map fun e => e.2.1) = ps.map fun p => p.1
  | _, [] => rfl
  | N, p :: r => by
    rw [esOf, List.map_cons, List.map_cons, esOf_texts (N + 1) r]
section
variable {prog : Program} {w : World} {A : Around} {E : Value → Shared → Prop}
theorem it_all {ps : List (Str × Tok)} {hp : Heap} {g : Array GenState} {d : Drawn} {tk : Nat} {os : OsState} {Q : List Value → Shared → Prop}
    (k : ∀ h', (∀ e ∈ esOf hp.objs.size ps, ItA h' 0 e) → h'.objs.size = hp.objs.size + ps.length → (∀ c o, hp.get? c = some o → h'.get? c = some o) → Q ((esOf hp.objs.size ps).map fun e => Value.ref e.1) ⟨h', g, d, tk, os⟩) :
    wpAny (model prog w) A (Builtin.SmallTypes.iterAll (ps.map fun p => Value.str p.1 p.2)) Q E ⟨hp, g, d, tk, os⟩ := by
  unfold Builtin.SmallTypes.iterAll
  refine wpAny_bind ?_
  refine wpAny_forIn_list _ (fun rest b s' => ∃ (pre suf : List (Str × Tok)) (hq : Heap), ps = pre ++ suf ∧ rest = (suf.map fun p => Value.str p.1 p.2) ∧ b.toList = ((esOf hp.objs.size pre).map fun e => Value.ref e.1) ∧ s' = ⟨hq, g, d, tk, os⟩ ∧ (∀ e ∈ esOf hp.objs.size pre, ItA hq 0 e) ∧ hq.objs.size = hp.objs.size + pre.length ∧ ∀ c o, hp.get? c = some o → hq.get? c = some o) _ ?turn ?fin _ _ ?init
  case init => exact ⟨[], ps, hp, rfl, rfl, rfl, rfl, (fun e he => by cases he), rfl, fun c o hc => hc⟩
  case turn =>
    rintro x rest b s' ⟨pre, suf, hq, ep, er, eb, rfl, is, sz, kp⟩
    cases suf with
    | nil => cases er
    | cons p suf =>
      rw [List.map_cons] at er
      obtain ⟨rfl, rfl⟩ := List.cons.inj er
      refine wpAny_bind (wpAny_holding (wpAny_pyIter_strU ?_))
      refine wpAny_pure ?_
      have app : ∀ (N : Nat) (l : List (Str × Tok)), esOf N (l ++ [p]) = esOf N l ++ [(N + l.length, p.1, p.2)] := by
        intro N l
        induction l generalizing N with
        | nil => rfl
        | cons a l ih =>
          rw [List.cons_append, esOf, esOf, ih, List.cons_append, List.length_cons, show N + 1 + l.length = N + (l.length + 1) by omega]
      refine ⟨pre ++ [p], suf, _, by rw [ep]; simp, rfl, ?_, rfl, fun e he => ?_, ?_, fun c o hc => Heap.get?_push_of_some _ (kp c o hc)⟩
      · rw [Array.toList_push, eb, app, List.map_append]
        show _ ++ [Value.ref hq.objs.size] = _ ++ [Value.ref (hp.objs.size + pre.length)]
        rw [sz]
      · rw [app] at he
        rcases List.mem_append.mp he with hm | hm
        · exact (is e hm).over fun o ho => Heap.get?_push_of_some _ ho
        · rw [List.mem_singleton.mp hm]
          refine ⟨{ cls := .type (strIterType p.1), data := .fields #[.str p.1 p.2, .int 0 0] }, ?_, rfl, rfl⟩
          show (hq.push _).get? (hp.objs.size + pre.length) = _
          rw [← sz]
          exact Heap.get?_push_size _ rfl
      · rw [Heap.size_push, sz, List.length_append]
        rfl
  case fin =>
    rintro b s' ⟨pre, suf, hq, ep, er, eb, rfl, is, sz, kp⟩
    have : suf = [] := List.map_eq_nil_iff.mp er.symm
    subst this
    rw [List.append_nil] at ep
    subst ep
    refine wpAny_pure ?_
    rw [eb]
    exact k hq is sz kp
end
theorem zn_new {ps : List (Str × Tok)} (few : ps.length ≤ 1000) : Meets (Builtin.«zip.__new__» ⟨.type "zip" :: ps.map fun p => Value.str p.1 p.2, []⟩) (fun _ R s => ∀ h', (∀ e ∈ esOf s.heap.objs.size ps, ItA h' 0 e) → TpN h' (s.heap.objs.size + ps.length) ((esOf s.heap.objs.size ps).map fun e => Value.ref e.1) → TpN h' (s.heap.objs.size + ps.length + 1) ((esOf s.heap.objs.size ps).map fun _ => Value.none) →
      ZpF h' (s.heap.objs.size + ps.length + 2) (s.heap.objs.size + ps.length) (s.heap.objs.size + ps.length + 1) .none false → (∀ c o, s.heap.get? c = some o → h'.get? c = some o) → R (.ok (.ret (.ref (s.heap.objs.size + ps.length + 2)))) { s with heap := h' }) :=
  .of_wp fun prog w A R s h => by
    obtain ⟨hp, g, d, tk, os⟩ := s
    unfold Builtin.«zip.__new__»
    refine wpAny_bind (wpAny_of_eq (a := (Value.type "zip", ps.map fun p => Value.str p.1 p.2)) ?_ ?_)
    · unfold Builtin.SmallTypes.newClass
      simp only [isType, sub_zip, pure_bind, Bool.not_true, Bool.false_eq_true, if_false]
    · show wpAny _ _ (Builtin.SmallTypes.iterAll (ps.map fun p => Value.str p.1 p.2) >>= _) _ _ _
      refine wpAny_bind (it_all fun h1 is sz kp => ?_)
      have fits : ((esOf hp.objs.size ps).map fun e => Value.ref e.1).length ≤ sizeLine := by
        rw [List.length_map, esOf_len]
        exact Evl.sz_of (by omega)
      have fits2 : (((esOf hp.objs.size ps).map fun e => Value.ref e.1).map fun _ => Value.none).length ≤ sizeLine := by
        rw [List.length_map]
        exact fits
      refine wpAny_bind (wpAny_newTuple ?_ fits)
      refine wpAny_bind (wpAny_newTuple ?_ fits2)
      obtain ⟨o1, ho1⟩ : ∃ o : Obj, o = { cls := .type "tuple", data := .seq ((esOf hp.objs.size ps).map fun e => Value.ref e.1).toArray } := ⟨_, rfl⟩
      obtain ⟨o2, ho2⟩ : ∃ o : Obj, o = { cls := .type "tuple", data := .seq (((esOf hp.objs.size ps).map fun e => Value.ref e.1).map fun _ => Value.none).toArray } := ⟨_, rfl⟩
      show wpAny _ _ (newObj (.type "zip") (.fields #[.none, .bool false, .bool false, .ref h1.objs.size, .ref (h1.push { cls := .type "tuple", data := .seq ((esOf hp.objs.size ps).map fun e => Value.ref e.1).toArray }).objs.size]) >>= _) _ _ ⟨(h1.push { cls := .type "tuple", data := .seq ((esOf hp.objs.size ps).map fun e => Value.ref e.1).toArray }).push { cls := .type "tuple", data := .seq (((esOf hp.objs.size ps).map fun e => Value.ref e.1).map fun _ => Value.none).toArray }, g, d, tk, os⟩
      rw [← ho1, ← ho2]
      have z1 : (h1.push o1).objs.size = hp.objs.size + ps.length + 1 := by rw [Heap.size_push, sz]
      have z2 : ((h1.push o1).push o2).objs.size = hp.objs.size + ps.length + 2 := by rw [Heap.size_push, z1]
      refine wpAny_bind (wpAny_newObj_type (wpAny_pure ⟨_, rfl, ?_⟩) (by show (5 : Nat) ≤ sizeLine + 2; decide))
      show R (.ok (.ret (.ref ((h1.push o1).push o2).objs.size))) _
      rw [z2, z1, sz]
      refine h _ (fun e he => (is e he).over fun o ho => Heap.get?_push_of_some _ (Heap.get?_push_of_some _ (Heap.get?_push_of_some _ ho))) ?_ ?_ ?_ fun c o hc => Heap.get?_push_of_some _ (Heap.get?_push_of_some _ (Heap.get?_push_of_some _ (kp c o hc)))
      · have t : (h1.push o1).get? h1.objs.size = some o1 := Heap.get?_push_size _ (by rw [ho1]; rfl)
        rw [sz] at t
        rw [ho1] at t ⊢
        exact Heap.get?_push_of_some _ (Heap.get?_push_of_some _ t)
      · have t : ((h1.push o1).push o2).get? (h1.push o1).objs.size = some o2 := Heap.get?_push_size _ (by rw [ho2]; rfl)
        rw [z1] at t
        have e2 : (((esOf hp.objs.size ps).map fun e => Value.ref e.1).map fun _ => Value.none) = (esOf hp.objs.size ps).map fun _ => Value.none := by rw [List.map_map]; rfl
        rw [e2] at ho2
        have t2 := t
        rw [ho2] at t2
        rw [← ho2] at t2
        show Heap.get? _ _ = some { cls := .type "tuple", data := .seq ((esOf hp.objs.size ps).map fun _ => Value.none).toArray }
        rw [← ho2]
        exact Heap.get?_push_of_some _ t
      · have t := Heap.get?_push_size ((h1.push o1).push o2) (o := { cls := .type "zip", dict := none, data := .fields #[.none, .bool false, .bool false, .ref (hp.objs.size + ps.length), .ref (hp.objs.size + ps.length + 1)] }) rfl
        rw [z2] at t
        exact t
end Dw

set_option Elab.async false
set_option linter.all false
set_option maxRecDepth 100000
namespace Dw
open PySem PySem.Spec PyProof.Rows PySem.W
theorem initArgs (obj : Value) (us : List Value) (h : us.length ≤ 8) : argsOk "object.__init__" ⟨obj :: us, []⟩ := by
  unfold argsOk; rw [signature?_of (id := "object.__init__") (n := ['_', '_', 't', 'i', 'n', 'i', '_', '_']) (o := ['t', 'c', 'e', 'j', 'b', 'o']) (by kernel_rfl) F.owner_object]
  match us, h with
  | [], _ => kernel_rfl
  | [_], _ => kernel_rfl
  | [_, _], _ => kernel_rfl
  | [_, _, _], _ => kernel_rfl
  | [_, _, _, _], _ => kernel_rfl
  | [_, _, _, _, _], _ => kernel_rfl
  | [_, _, _, _, _, _], _ => kernel_rfl
  | [_, _, _, _, _, _, _], _ => kernel_rfl
  | [_, _, _, _, _, _, _, _], _ => kernel_rfl
theorem zipCall (us : List Value) (h : us.length ≤ 8) : checkTypeCall "zip" ⟨us, []⟩ = pure () ∧ checkBuiltinCall "zip.__new__" ⟨.type "zip" :: us, []⟩ = pure () := by
  match us, h with
  | [], _ => exact ⟨by kernel_rfl, by kernel_rfl⟩
  | [_], _ => exact ⟨by kernel_rfl, by kernel_rfl⟩
  | [_, _], _ => exact ⟨by kernel_rfl, by kernel_rfl⟩
  | [_, _, _], _ => exact ⟨by kernel_rfl, by kernel_rfl⟩
  | [_, _, _, _], _ => exact ⟨by kernel_rfl, by kernel_rfl⟩
  | [_, _, _, _, _], _ => exact ⟨by kernel_rfl, by kernel_rfl⟩
  | [_, _, _, _, _, _], _ => exact ⟨by kernel_rfl, by kernel_rfl⟩
  | [_, _, _, _, _, _, _], _ => exact ⟨by kernel_rfl, by kernel_rfl⟩
  | [_, _, _, _, _, _, _, _], _ => exact ⟨by kernel_rfl, by kernel_rfl⟩
section
variable {prog : Program} {w : World} {A : Around} {E : Value → Shared → Prop} {s : Shared}
theorem zn_begin {ps : List (Str × Tok)} {Q : Value → Shared → Prop} (h8 : ps.length ≤ 8) (k : ∀ h', (∀ e ∈ esOf s.heap.objs.size ps, ItA h' 0 e) → TpN h' (s.heap.objs.size + ps.length) ((esOf s.heap.objs.size ps).map fun e => Value.ref e.1) → TpN h' (s.heap.objs.size + ps.length + 1) ((esOf s.heap.objs.size ps).map fun _ => Value.none) →
      ZpF h' (s.heap.objs.size + ps.length + 2) (s.heap.objs.size + ps.length) (s.heap.objs.size + ps.length + 1) .none false → (∀ c o, s.heap.get? c = some o → h'.get? c = some o) → Q (.ref (s.heap.objs.size + ps.length + 2)) { s with heap := h' }) :
    wpAny (model prog w) A (call (.type "zip") (ps.map fun p => Value.str p.1 p.2)) Q E s := by
  have hl : (ps.map fun p => Value.str p.1 p.2).length ≤ 8 := by rw [List.length_map]; exact h8
  refine callType_new F.called_zip (by decide) (zipCall _ hl).1 (zipCall _ hl).2 (fun obj => initArgs obj _ hl) F.entry_zip_new (zn_new (by omega)) fun h' a b c zp kp => ?_
  exact ⟨⟨_, zp, rfl⟩, k h' a b c zp kp⟩
end
end Dw
open PySem PySem.Spec PyProof.Rows L2
namespace Dw
/-- the turns of zip(*texts), all of one length n -/
def Itzn (ls : List (List Nat)) (n : Nat) : It := ⟨fun i _ => i < n, fun i H v H' => ∃ T, v = .ref T ∧ H T = none ∧ H' = upd H T (.tup (ls.map fun l => V.str (Tx [l.getD i 0]))), fun i _ => i = n⟩
theorem vals_of {i : Nat} : ∀ {es : List Tri} {ls : List (List Nat)} {vs : List Value}, (es.map fun e => e.2.1) = ls.map Tx → Paired (Dr i) es vs → Vals (ls.map fun l => V.str (Tx [l.getD i 0])) vs
  | [], [], _, _, .nil => .nil
  | [], _ :: _, _, h, _ => by cases h
  | _ :: _, [], _, h, _ => by cases h
  | e :: es, l :: ls, _, h, .cons r t => by
    rw [List.map_cons, List.map_cons] at h
    obtain ⟨h1, h2⟩ := List.cons.inj h
    obtain ⟨c, u, hc, rfl⟩ := r
    rw [h1] at hc
    have hc2 : l[i]? = some c := by
      rw [← hc]
      simp [Tx]
    have e1 : l.getD i 0 = c := by rw [List.getD_eq_getElem?_getD, hc2]; rfl
    rw [List.map_cons, e1]
    exact .cons ⟨u, rfl⟩ (vals_of h2 t)
def ZnAt (z TI TO : Addr) (es : List Tri) (i : Nat) (h : Heap) : Prop := (∃ (v : Value) (f : Bool) (old : List Value), (v = .none ∨ ∃ T : Addr, v = rawInt T) ∧ ZpF h z TI TO v f ∧ TpN h TO old ∧ old.length = es.length) ∧ TpN h TI (es.map fun e => .ref e.1) ∧ ∀ e ∈ es, ItA h i e
theorem free_or {h : Heap} {v : Value} (hv : v = .none ∨ ∃ T : Addr, v = rawInt T) : FreeV h v ∨ ∃ (T : Addr) (o : Obj), v = rawInt T ∧ h.get? T = some o := by
  rcases hv with rfl | ⟨T, rfl⟩
  · exact .inl (.inl rfl)
  · cases e : h.get? T with
    | none => exact .inl (.inr ⟨T, rfl, e⟩)
    | some o => exact .inr ⟨T, o, rfl, e⟩
theorem turn_zipN {P : Program} {w : World} {K : PySem.W.Frag} {nm : Str} {npos : Pos} {z TI TO : Addr} {es : List Tri} {ls : List (List Nat)} {n : Nat} (S : SepN z TI TO es) (ne : es ≠ []) (h8 : es.length ≤ 8) (ht : (es.map fun e => e.2.1) = ls.map Tx) (hn : ∀ e ∈ es, e.2.1.cps.size = n) :
    Turn P w K (.Name nm npos) (Itzn ls n) (z :: TI :: TO :: es.map fun e => e.1) z (ZnAt z TI TO es) where
  mem := by simp
  obj := fun i h st c hc => by
    obtain ⟨⟨v, f, old, _, zp, tO, _⟩, tI, is⟩ := st
    simp only [List.mem_cons] at hc
    rcases hc with rfl | rfl | rfl | hc
    · exact ⟨_, zp, fun v q => nomatch q⟩
    · exact ⟨_, tI, fun v q => nomatch q⟩
    · exact ⟨_, tO, fun v q => nomatch q⟩
    · obtain ⟨e, he, rfl⟩ := List.mem_map.mp hc
      obtain ⟨o, ho, _, hd⟩ := is e he
      exact ⟨o, ho, fun v q => by rw [hd] at q; cases q⟩
  keep := fun i h h' st k => by
    obtain ⟨⟨v, f, old, hv, zp, tO, lo⟩, tI, is⟩ := st
    exact ⟨⟨v, f, old, hv, k z (by simp) _ zp, k TO (by simp) _ tO, lo⟩, k TI (by simp) _ tI, fun e he => (is e he).over fun o ho => k e.1 (by simp only [List.mem_cons]; exact .inr (.inr (.inr (List.mem_map.mpr ⟨e, he, rfl⟩)))) o ho⟩
  item := by
    intro X hP hw hK hc i pins s σ H E I hf st hg
    subst hP hw hK
    have hh : X.A.handled = none := I.ok.hd hc
    obtain ⟨⟨v, f, old, hv, zp, tO, lo⟩, tI, is⟩ := st
    have lt : ∀ e ∈ es, i < e.2.1.cps.size := fun e he => by rw [hn e he]; exact hg
    have main : ∀ (vs : List Value) (h' : Heap) (tk : Nat), Paired (Dr i) es vs → (∃ (v : Value) (f : Bool) (old : List Value), (v = .none ∨ ∃ T : Addr, v = rawInt T) ∧ ZpF h' z TI TO v f ∧ TpN h' TO old ∧ old.length = es.length) → TpN h' TI (es.map fun e => .ref e.1) → (∀ e ∈ es, ItA h' (i + 1) e) → TpN h' s.heap.objs.size vs → (∀ c o, c ≠ z → c ≠ TO → (∀ e ∈ es, c ≠ e.1) → s.heap.get? c = some o → h'.get? c = some o) →
        ∃ u, (some (Value.ref s.heap.objs.size)) = some u ∧ wpAny (model X.prog X.w) X.A (letOwnedTupleGo (.Name nm npos) (.ref z) u) (fun _ s2 => ∃ x H', Inv X pins σ H' s2 ∧ RelV x u ∧ (Itzn ls n).yld i H x H' ∧ ZnAt z TI TO es (i + 1) s2.heap ∧ ∀ b ∈ (z :: TI :: TO :: es.map fun e => e.1), H' b = none) E { s with heap := h', toks := tk } := fun vs h' tk pd sz tI' is' tp kp => by
      refine ⟨_, rfl, wpAny_pure ?_⟩
      have rel := vals_of ht pd
      have few : (ls.map fun l => V.str (Tx [l.getD i 0])).length ≤ sizeLine := by
        rw [rel.length, ← pd.length]
        exact Evl.sz_of (by omega)
      have new : ObjOk X.prog X.w (upd H s.heap.objs.size (.tup (ls.map fun l => V.str (Tx [l.getD i 0])))) h' s.heap.objs.size (.tup (ls.map fun l => V.str (Tx [l.getD i 0]))) := ⟨few, vs, rel, ⟨_, tp, rfl, _, rfl⟩⟩
      have I1 : Inv X pins σ (upd H s.heap.objs.size (.tup (ls.map fun l => V.str (Tx [l.getD i 0])))) { s with heap := h', toks := tk } :=
        I.turnedNew (t' := tk) (ch := z :: TI :: TO :: es.map fun e => e.1) (fun b o hb q => kp b o (fun y => hb (by rw [y]; simp)) (fun y => hb (by rw [y]; simp)) (fun e he y => hb (by rw [y]; simp only [List.mem_cons]; exact .inr (.inr (.inr (List.mem_map.mpr ⟨e, he, rfl⟩))))) q) hf (Nat.le_refl _) new
      refine ⟨.ref s.heap.objs.size, _, I1, rfl, ⟨s.heap.objs.size, rfl, I.hok.fresh (Nat.le_refl _), rfl⟩, ⟨sz, tI', is'⟩, fun b hb => ?_⟩
      have hlt : b < s.heap.objs.size := by
        simp only [List.mem_cons] at hb
        rcases hb with rfl | rfl | rfl | hb
        · exact Heap.lt_size zp
        · exact Heap.lt_size tI
        · exact Heap.lt_size tO
        · obtain ⟨e, he, rfl⟩ := List.mem_map.mp hb
          obtain ⟨o, ho, _⟩ := is e he
          exact Heap.lt_size ho
      rw [upd_ne (Nat.ne_of_lt hlt)]
      exact (hf b hb).1
    have ty : s.TypeIs (.ref z) "zip" := ⟨_, zp, rfl⟩
    have tIkeep : ∀ {h' : Heap}, (∀ c o, c ≠ z → c ≠ TO → (∀ e ∈ es, c ≠ e.1) → s.heap.get? c = some o → h'.get? c = some o) → TpN h' TI (es.map fun e => .ref e.1) := fun kp => kp _ _ S.zT.symm S.TTO (fun e he y => S.jT e he y.symm) tI
    unfold pyNext
    rcases free_or (h := s.heap) hv with fr | ⟨T, oT, rfl, tA⟩
    · exact wpAny_bind (wpAny_attempt (wpAny_callSpecial?_slot (name := Str.ofString "__next__") ty F.slot_zip_next (wpAny_call_entry F.slot_zip_next ty F.entry_zip_next
        (zn_free (A := X.A.in1) hh S ne (by omega) zp fr tI tO lo is lt fun vs h' tk pd zp' tO' is' tp sz kp => wpAny_pure (main vs h' tk pd ⟨_, _, vs, .inr ⟨_, rfl⟩, zp', tO', by rw [← pd.length]⟩ (tIkeep kp) is' tp kp)) (F.args_zip_next_1 _))))
    · exact wpAny_bind (wpAny_attempt (wpAny_callSpecial?_slot (name := Str.ofString "__next__") ty F.slot_zip_next (wpAny_call_entry F.slot_zip_next ty F.entry_zip_next
        (zn_held (A := X.A.in1) hh S ne (by omega) zp tA tI is lt fun vs h' tk pd zp' is' tp sz kp => wpAny_pure (main vs h' tk pd ⟨_, _, old, .inr ⟨_, rfl⟩, zp', kp _ _ S.zO.symm (fun e he y => S.jO e he y.symm) tO, lo⟩ (tIkeep fun c o a _ b => kp c o a b) is' tp fun c o a _ b => kp c o a b)) (F.args_zip_next_1 _))))
  done := by
    intro X hP hw hK hc i pins s σ H E I hf st hg
    subst hP hw hK
    have hh : X.A.handled = none := I.ok.hd hc
    obtain ⟨⟨v, f, old, hv, zp, tO, lo⟩, tI, is⟩ := st
    have en : i = n := hg
    have ty : s.TypeIs (.ref z) "zip" := ⟨_, zp, rfl⟩
    unfold pyNext
    refine wpAny_bind (wpAny_attempt (wpAny_callSpecial?_slot (name := Str.ofString "__next__") ty F.slot_zip_next (wpAny_call_entry F.slot_zip_next ty F.entry_zip_next
      (zn_end (A := X.A.in1) hh S ne zp (free_or hv) tI (fun e he => by rw [hn e he, ← en]; exact is e he) fun h' x kp he => ?_) (F.args_zip_next_1 _))))
    obtain ⟨o, ho, hco⟩ := he
    refine wpAny_bind (wpAny_isInstance (T := "StopIteration") (b := true) ⟨o, ho, hco⟩ isSubtype_stop ?_)
    exact wpAny_pure ⟨rfl, I.turnedL (t' := s.toks) (ch := z :: TI :: TO :: es.map fun e => e.1) (fun b o hb q => kp b o (fun y => hb (by rw [y]; simp)) (fun e he y => hb (by rw [y]; simp only [List.mem_cons]; exact .inr (.inr (.inr (List.mem_map.mpr ⟨e, he, rfl⟩))))) q) hf⟩
  self := fun A i s Q E st k => by
    obtain ⟨⟨v, f, old, _, zp, _⟩, _⟩ := st
    have ty : s.TypeIs (.ref z) "zip" := ⟨_, zp, rfl⟩
    refine wpAny_pyIter_slot ty F.slot_zip_iter (wpAny_call_entry F.slot_zip_iter ty F.entry_zip_iter ?_ (F.args_zip_iter_1 _))
    exact wpAny_pure ⟨_, rfl, "zip", _, ty, F.slot_zip_next.lookup, k⟩
end Dw

set_option Elab.async false
set_option linter.all false
set_option maxRecDepth 100000
open PySem PySem.Spec PyProof.Rows L2
namespace Dw
theorem texts_of : ∀ {ls : List (List Nat)} {us : List Value}, Vals (ls.map fun l => V.str (Tx l)) us → ∃ ps : List (Str × Tok), us = (ps.map fun p => Value.str p.1 p.2) ∧ (ps.map fun p => p.1) = ls.map Tx
  | [], _, .nil => ⟨[], rfl, rfl⟩
  | l :: ls, _, .cons r t => by
    obtain ⟨ps, rfl, e⟩ := texts_of t
    obtain ⟨u, rfl⟩ := r
    exact ⟨(Tx l, u) :: ps, rfl, by rw [List.map_cons, List.map_cons, e]⟩
def iZipN (K : PySem.W.Frag) (te : TE) : TI := fun σ H R => te σ H fun x H1 => ∃ (a : Addr) (ls : List (List Nat)) (n : Nat), x = .ref a ∧ SqL K H1 a (ls.map fun l => V.str (Tx l)) ∧ ls ≠ [] ∧ ls.length ≤ 8 ∧ (∀ l ∈ ls, l.length = n) ∧ R (Itzn ls n) H1
theorem pi_zipN {X : Cx} {e : Expr} {te : TE} {p q pos npos : Pos} {nm : Str} (hg : Gl X "zip") (hm : X.mg "zip" = none) (ha : PE X e te) (hst : starEach [.Starred e q] X.env = [(true, eval e X.env)] := by rfl) :
    PI X (.Name nm npos) (.Call (.Name "zip" p) [.Starred e q] [] pos) (iZipN X.K te) := by
  refine ⟨fun pins s σ H R I h => ?_⟩
  refine PyProof.Rows.Call_ (ld_blt I hg hm PyProof.Rows.boot_zip ?_)
  rw [hst]
  refine PySem.W.ks_call (P := fun _ => True) rfl (fun _ _ => ⟨.machine, .inr (.inl rfl), PySem.W.Looks.now⟩) (PySem.W.ks_lone (thn (ha.run pins s σ H _ I h) fun v s1 ⟨x, H1, I1, r1, a, ls, n, ex, hsq, hne, h8, hln, q1⟩ => ?_))
  subst ex
  obtain rfl : v = Value.ref a := r1
  refine StX.star_any I1 (.inr hsq) fun us s2 I2 rv => ⟨trivial, ?_⟩
  obtain ⟨ps, rfl, ep⟩ := texts_of rv
  have lp : ps.length = ls.length := by
    have := congrArg List.length ep
    rwa [List.length_map, List.length_map] at this
  show wpAny _ _ (call (.type "zip") ([] ++ _)) _ _ _
  rw [List.nil_append]
  refine zn_begin (by omega) fun h' is tI tO zp kp => wpAny_pyIter_zip zp ?_
  have I3 : Inv X pins σ H1 { s2 with heap := h' } := I2.kept (t' := s2.toks) kp
  have S : SepN (s2.heap.objs.size + ps.length + 2) (s2.heap.objs.size + ps.length) (s2.heap.objs.size + ps.length + 1) (esOf s2.heap.objs.size ps) :=
    ⟨fun y => by have y' : s2.heap.objs.size + ps.length + 2 = s2.heap.objs.size + ps.length := y; omega, fun y => by have y' : s2.heap.objs.size + ps.length + 2 = s2.heap.objs.size + ps.length + 1 := y; omega, fun y => by have y' : s2.heap.objs.size + ps.length = s2.heap.objs.size + ps.length + 1 := y; omega,
      fun e he y => by have := (esOf_mem he).2.1; have y' : e.1 = s2.heap.objs.size + ps.length + 2 := y; omega, fun e he y => by have := (esOf_mem he).2.1; have y' : e.1 = s2.heap.objs.size + ps.length := y; omega, fun e he y => by have := (esOf_mem he).2.1; have y' : e.1 = s2.heap.objs.size + ps.length + 1 := y; omega, esOf_nd _ _⟩
  have nes : esOf s2.heap.objs.size ps ≠ [] := fun y => hne (List.length_eq_zero_iff.mp (by rw [← lp, ← esOf_len s2.heap.objs.size ps, y]; rfl))
  have hsz : ∀ e ∈ esOf s2.heap.objs.size ps, e.2.1.cps.size = n := fun e he => by
    have m : e.2.1 ∈ ((esOf s2.heap.objs.size ps).map fun e => e.2.1) := List.mem_map.mpr ⟨e, he, rfl⟩
    rw [esOf_texts, ep] at m
    obtain ⟨l, hl, e2⟩ := List.mem_map.mp m
    rw [← e2]
    have := hln l hl
    have t := Tx_len l
    exact t.trans this
  refine ⟨s2.heap.objs.size + ps.length + 2, _, _, _, H1, rfl, I3, turn_zipN S nes (by rw [esOf_len]; omega) (by rw [esOf_texts]; exact ep) hsz, ⟨⟨_, _, _, .inl rfl, zp, tO, by rw [List.length_map]⟩, tI, is⟩, fun c hc => ?_, q1⟩
  have hle : s2.heap.objs.size ≤ c := by
    simp only [List.mem_cons] at hc
    rcases hc with rfl | rfl | rfl | hc
    · exact Nat.le_trans (Nat.le_add_right _ _) (Nat.le_add_right _ _)
    · exact Nat.le_add_right _ _
    · exact Nat.le_trans (Nat.le_add_right _ _) (Nat.le_add_right _ _)
    · obtain ⟨e, he, rfl⟩ := List.mem_map.mp hc
      exact (esOf_mem he).1
  exact I2.fpOk hle (I2.hok.fresh hle)
theorem walk_zipN {ls : List (List Nat)} {n : Nat} : Walk (Itzn ls n) n (fun _ => True) (fun i H v H' => ∃ T, v = .ref T ∧ H T = none ∧ H' = upd H T (.tup (ls.map fun l => V.str (Tx [l.getD i 0])))) :=
  ⟨fun _ _ hi _ => hi, fun _ _ => rfl, fun _ _ _ _ _ _ q => q⟩
end Dw

set_option Elab.async false
set_option linter.all false
set_option maxRecDepth 100000
namespace Dw
open PySem L2 Evl
/-! ### xs.count(x), xs a list of signs -/
def sameT (x : Str) (v : Value) : Bool := match v with
  | .str y _ => y.cps.toList == x.cps.toList
  | _ => false
theorem sameT_gives {x : Str} {t : Tok} : ∀ {cs : List Nat} {us : List Value}, Vals (cs.map fun c => V.str (Tx [c])) us → ∀ y ∈ us, MeetsSeq.EqGives y (.str x t) (sameT x y)
  | [], _, .nil => fun y hy => by cases hy
  | c :: cs, _, .cons r h => fun y hy => by
    rcases List.mem_cons.mp hy with rfl | hy
    · obtain ⟨u, rfl⟩ := r
      exact SeqRoads2.EqGives.str _ _ _ _
    · exact sameT_gives h y hy
theorem sameT_count {d : Nat} : ∀ {cs : List Nat} {us : List Value}, Vals (cs.map fun c => V.str (Tx [c])) us → us.countP (sameT (Tx [d])) = cs.count d
  | [], _, .nil => rfl
  | c :: cs, _, .cons r h => by
    obtain ⟨u, rfl⟩ := r
    have e : sameT (Tx [d]) (.str (Tx [c]) u) = (c == d) := by
      show ([c] == [d]) = (c == d)
      by_cases hd : c = d <;> simp [hd]
    rw [List.countP_cons, List.count_cons, sameT_count h, e]
def rCntS (K : PySem.W.Frag) : V → List V → Hp → VK → Prop := fun x xs H Q => ∃ (p : Addr) (cs : List Nat) (d : Nat), x = .ref p ∧ xs = [.str (Tx [d])] ∧ SqL K H p (cs.map fun c => V.str (Tx [c])) ∧ Q (.int (cs.count d : Nat)) H
theorem mt_countS {X : Cx} : MtR X "list.count" (rCntS X.K) := by
  intro pins s σ H x xs v us Q I rx rxs h
  obtain ⟨p, cs, d, rfl, rfl, hs, q⟩ := h
  cases rx
  obtain ⟨u, rfl, ru⟩ := rxs.one
  obtain ⟨t, rfl⟩ := ru
  obtain ⟨its, rv, ⟨⟨cls, dd, data, sl⟩, n, ho, hc, hdn, hd⟩, hlen⟩ := I.list hs
  simp only at hc hd
  subst hc hd
  refine call_meets PySem.F.slot_list_count ⟨_, ho, rfl⟩ PySem.F.entry_list_count (PySem.F.args_list_count_2 _ _) (SeqAt.list_countAt p its.toArray n dd sl (.str (Tx [d]) t) (sameT (Tx [d]))) ⟨ho, fun y hy => (sameT_gives rv y (by simpa using hy)).at _ _, ?_⟩
  have ec : its.toArray.toList.countP (sameT (Tx [d])) = cs.count d := sameT_count rv
  refine ⟨.int (cs.count d : Nat), H, I.tok _, ⟨s.toks, ?_⟩, q⟩
  show Value.int ((its.toArray.toList.countP (sameT (Tx [d])) : Nat) : Int) s.toks = _
  rw [ec]
section
variable {K : PySem.W.Frag} {σ : L2.St} {H H' : Hp} {ta tb te tx tl : TE} {t u : TT} {x y z v : V}
theorem ev_count {p : Addr} {cs : List Nat} {d : Nat} (ha : Ev ta σ H (.ref p)) (hx : SqL K H p (cs.map fun c => V.str (Tx [c]))) (hb : Ev tb σ H (.str (Tx [d]))) : Ev (tBM K "list" (rCntS K) ta (tCons tb tNil)) σ H (.int (cs.count d : Nat)) := fun H1 e Q q =>
  ha H1 e _ fun H2 e2 => ⟨.inl ⟨rfl, _, ex_l (e.trans e2) hx⟩, hb H2 (e.trans e2) _ fun H3 e3 => ⟨p, cs, d, rfl, rfl, ex_l ((e.trans e2).trans e3) hx, q H3 (e2.trans e3)⟩⟩
theorem el_lcZN {a : Addr} {ls : List (List Nat)} {n j : Nat} {vs : List Nat} (g : Nat → V) (h : Ev tl σ H (.ref a)) (hx : SqL K H a (ls.map fun l => V.str (Tx l))) (ne : ls ≠ []) (h8 : ls.length ≤ 8) (hn : ∀ l ∈ ls, l.length = n) (hz : n ≤ 40000) (hw : ∀ x, wipe ((wipe σ vs).set j (some x)) vs = wipe σ vs)
    (he : ∀ (i : Nat) (T : Addr) H1, Ex H H1 → i < n → H1 T = some (.tup (ls.map fun l => V.str (Tx [l.getD i 0]))) → Ev te ((wipe σ vs).set j (some (.ref T))) H1 (g i)) :
    EvL (tLc (iZipN K tl) (gName j) tYes te vs) σ H ((List.range n).map g) := fun H0 e Q q => h H0 e _ fun H1 e1 => ⟨a, ls, n, rfl, ex_l (e.trans e1) hx, ne, h8, hn, fun Dl hD => by
  refine lc_it walk_zipN (fun i H2 => Ex H1 H2 ∧ H2 Dl = some (.lst ((List.range i).map g))) ⟨Ex.new hD, upd_same⟩ (fun _ _ _ _ => True.intro) (fun i x' H2 H3 hi p yy => ?_) (fun H2 p => q Dl H2 (fresh_back e1 hD) (e1.trans p.1) p.2)
  obtain ⟨T, rfl, nT, rfl⟩ := yy
  refine ⟨hw _, ?_⟩
  refine he i T _ (((e.trans e1).trans p.1).trans (Ex.new nT)) hi upd_same _ (Ex.refl _) _ fun H4 e4 => ⟨_, e4 Dl _ ((Ex.new nT) Dl _ p.2), sz_lt (by rw [List.length_map, List.length_range]; omega), Ex.mut ((p.1.trans (Ex.new nT)).trans e4) hD, ?_⟩
  rw [upd_same, List.range_succ, List.map_append]
  rfl⟩
theorem el_lcTp {a : Addr} {cs : List Nat} {j : Nat} {vs : List Nat} (p : Nat → Bool) (g : Nat → V) (h : Ev tl σ H (.ref a)) (hx : SqT K H a (cs.map fun c => V.str (Tx [c]))) (hz : cs.length ≤ 40000) (hw : ∀ x, wipe ((wipe σ vs).set j (some x)) vs = wipe σ vs)
    (ht : ∀ (c : Nat) H1, Ex H H1 → c ∈ cs → EvT t ((wipe σ vs).set j (some (.str (Tx [c])))) H1 (p c)) (he : ∀ (c : Nat) H1, Ex H H1 → c ∈ cs → p c = true → Ev te ((wipe σ vs).set j (some (.str (Tx [c])))) H1 (g c)) :
    EvL (tLc (iTup K tl) (gName j) t te vs) σ H ((cs.filter p).map g) := by
  rw [← given_list cs 0 p g]
  have hl : (cs.map fun c => V.str (Tx [c])).length = cs.length := List.length_map _
  have key : ∀ (i : Nat) (x : V), (cs.map fun c => V.str (Tx [c]))[i]? = some x → ∃ c, x = .str (Tx [c]) ∧ cs.getD i 0 = c ∧ c ∈ cs := fun i x hi => by
    rw [List.getElem?_map] at hi
    cases hc : cs[i]? with
    | none =>
      rw [hc] at hi
      cases hi
    | some c =>
      rw [hc] at hi
      cases hi
      exact ⟨c, rfl, by rw [List.getD_eq_getElem?_getD, hc]; rfl, List.mem_of_getElem? hc⟩
  exact fun H0 e Q q => h H0 e _ fun H1 e1 => ⟨a, rfl, ⟨_, ex_t (e.trans e1) hx⟩, fun Dl hD => by
    refine lc_it (walk_tup (xs := cs.map fun c => V.str (Tx [c]))) (Cw H1 (fun i => p (cs.getD i 0)) (fun i => g (cs.getD i 0)) Dl) ⟨hD, Ex.new hD, upd_same⟩ (fun i H' _ pp => ex_t ((e.trans e1).trans pp.2.1) hx) (fun i x H2 H3 hi pp y => ?_) (fun H' pp => ?_)
    · obtain ⟨rfl, hi2⟩ := y
      obtain ⟨c, rfl, ec, mc⟩ := key i x hi2
      refine ⟨hw _, cw_turn pp (by omega) ?_ ?_⟩
      · simp only [ec]
        exact ht c H1 (e.trans e1) mc
      · simp only [ec]
        exact fun hf => he c H1 (e.trans e1) mc hf
    · rw [hl] at pp
      exact q Dl H' (fresh_back e1 pp.1) (e1.trans pp.2.1) pp.2.2⟩
theorem el_lcLs {a : Addr} {cs : List Nat} {j : Nat} {vs : List Nat} (p : Nat → Bool) (g : Nat → V) (h : Ev tl σ H (.ref a)) (hx : SqL K H a (cs.map fun c => V.str (Tx [c]))) (hz : cs.length ≤ 40000) (hw : ∀ x, wipe ((wipe σ vs).set j (some x)) vs = wipe σ vs)
    (ht : ∀ (c : Nat) H1, Ex H H1 → c ∈ cs → EvT t ((wipe σ vs).set j (some (.str (Tx [c])))) H1 (p c)) (he : ∀ (c : Nat) H1, Ex H H1 → c ∈ cs → p c = true → Ev te ((wipe σ vs).set j (some (.str (Tx [c])))) H1 (g c)) :
    EvL (tLc (iList K tl) (gName j) t te vs) σ H ((cs.filter p).map g) := by
  have hl : (cs.map fun c => V.str (Tx [c])).length = cs.length := List.length_map _
  rw [← given_list cs 0 p g, ← hl]
  have key : ∀ (i : Nat) (x : V), (cs.map fun c => V.str (Tx [c]))[i]? = some x → ∃ c, x = .str (Tx [c]) ∧ cs.getD i 0 = c ∧ c ∈ cs := fun i x hi => by
    rw [List.getElem?_map] at hi
    cases hc : cs[i]? with
    | none =>
      rw [hc] at hi
      cases hi
    | some c =>
      rw [hc] at hi
      cases hi
      exact ⟨c, rfl, by rw [List.getD_eq_getElem?_getD, hc]; rfl, List.mem_of_getElem? hc⟩
  refine el_lcL (fun i => p (cs.getD i 0)) (fun i => g (cs.getD i 0)) h hx (by omega) hw (fun i x H1 e hi => ?_) (fun i x H1 e hi hf => ?_)
  · obtain ⟨c, rfl, ec, mc⟩ := key i x hi
    simp only [ec]
    exact ht c H1 e mc
  · obtain ⟨c, rfl, ec, mc⟩ := key i x hi
    simp only [ec] at hf ⊢
    exact he c H1 e mc hf
theorem ev_callL1 {sp : Sp} {dvs : List V} {E : XK} {xs : List V} (h : EvL te σ H xs) (hs : ∀ p H1, H1 p = some (.lst xs) → Ex H H1 → SpV sp ([.ref p] ++ dvs) H1 z) : Ev (tCall sp dvs E (tCons te tNil)) σ H z := fun H1 e Q q =>
  h H1 e _ fun p H2 _ e2 h2 => hs p H2 h2 (e.trans e2) H2 (Ex.refl _) Q (fun H3 e3 => q H3 (e2.trans e3)) E
theorem ev_joinV {a : Addr} {l : List Nat} (h : Ev te σ H (.ref a)) (hx : SqL K H a (l.map fun c => V.str (Tx [c]))) (hz : l.length ≤ 40000) : Ev (tM1 (rJoinS K) (tC (.str (Str.ofString ""))) te) σ H (.str (Tx l)) := fun H1 e Q q =>
  ⟨⟨_, rfl⟩, h H1 e _ fun H2 e2 => ⟨Str.ofString "", a, l.map fun c => Tx [c], rfl, rfl, Or.inl (by rw [map_strs]; exact ex_l (e.trans e2) hx), by rw [ones_len]; omega, by rw [join_ones]; exact q H2 e2⟩⟩
theorem et_list {a : Addr} {xs : List V} (h : Ev te σ H (.ref a)) (hx : SqL K H a xs) : EvT (fun σ H Q => te σ H fun x H' => ∃ k, TruV K x H' k ∧ Q k H') σ H (!xs.isEmpty) := fun H1 e Q q =>
  h H1 e _ fun H2 e2 => ⟨_, .inl ⟨xs, ex_l (e.trans e2) hx, rfl⟩, q H2 e2⟩
/-- [x] * n -/
theorem el_rep {n : Nat} (ha : EvL ta σ H [x]) (hb : ∀ H1, Ex H H1 → Ev tb σ H1 (.int (n : Int))) (hz : n ≤ 40000) : EvL (tOp rRep ta tb) σ H (List.replicate n x) := fun H1 e Q q =>
  ha H1 e _ fun p H2 np e2 h2 => hb H2 (e.trans e2) H2 (Ex.refl _) _ fun H3 e3 => ⟨p, (n : Int), [x], rfl, rfl, e3 _ _ h2, by omega, by omega, by rw [Int.toNat_natCast]; show 1 * n ≤ sizeLine; exact sz_of (by omega), fun r nr => by
    have e4 : (List.replicate (n : Int).toNat [x]).flatten = List.replicate n x := by rw [Int.toNat_natCast, List.flatten_replicate_singleton]
    rw [e4]
    exact q r _ (fresh_back (e2.trans e3) nr) ((e2.trans e3).trans (Ex.new nr)) upd_same⟩
end
/-! ### what several signs give together -/
def resS (cs : List Nat) : Nat := match cs.filter fun c => !decide (c = 122) with
  | [] => 122
  | d :: r => if (d :: r).count d = (d :: r).length then d else 120
def drvS (cs : List Nat) : Nat := match cs.filter fun c => !decide (c = 122) with
  | [] => 122
  | d :: r => if (d :: r) = List.replicate (d :: r).length d ∧ d ∈ [48, 49] then d else 120
theorem res_drv {cs : List Nat} (h : ∀ c ∈ cs, c ∈ sgn) : resS cs = drvS cs := by
  unfold resS drvS
  have hm : ∀ c ∈ cs.filter (fun c => !decide (c = 122)), c = 48 ∨ c = 49 ∨ c = 120 := fun c hc => by
    obtain ⟨h1, h2⟩ := List.mem_filter.mp hc
    have h3 := h c h1
    simp only [sgn, List.mem_cons, List.not_mem_nil, or_false] at h3
    have h4 : c ≠ 122 := by simpa using h2
    omega
  generalize cs.filter (fun c => !decide (c = 122)) = l at hm
  cases l with
  | nil => rfl
  | cons d r =>
    have hd := hm d (List.mem_cons_self ..)
    show (if _ then _ else _) = (if _ then _ else _)
    by_cases ha : ∀ b ∈ d :: r, d = b
    · rw [if_pos (List.count_eq_length.mpr ha)]
      have hr : (d :: r) = List.replicate (d :: r).length d := List.eq_replicate_iff.mpr ⟨rfl, fun b hb => (ha b hb).symm⟩
      by_cases h01 : d ∈ [48, 49]
      · rw [if_pos ⟨hr, h01⟩]
      · rw [if_neg fun z => h01 z.2]
        simp only [List.mem_cons, List.not_mem_nil, or_false] at h01
        omega
    · rw [if_neg fun z => ha (List.count_eq_length.mp z), if_neg fun z => ha fun b hb => ((List.eq_replicate_iff.mp z.1).2 b hb).symm]
/-! ### covers -/
def covP (c d : Nat) : Bool := !decide (c ∈ [48, 49]) || decide (c = d)
def covB (a b : List Nat) : Bool := (List.zipWith covP a b).all id
theorem cov_ix : ∀ (a b : List Nat), a.length = b.length → (covB a b = true ↔ ∀ k, k < a.length → covP (a.getD k 0) (b.getD k 0) = true)
  | [], [], _ => by simp [covB]
  | [], _ :: _, h => by cases h
  | _ :: _, [], h => by cases h
  | c :: a, d :: b, h => by
    have ih := cov_ix a b (by simpa using h)
    unfold covB at ih ⊢
    rw [List.zipWith_cons_cons, List.all_cons, Bool.and_eq_true, ih]
    constructor
    · rintro ⟨h1, h2⟩ k hk
      cases k with
      | zero => exact h1
      | succ k => exact h2 k (by simpa using hk)
    · intro h2
      exact ⟨h2 0 (by simp), fun k hk => h2 (k + 1) (by simpa using hk)⟩
def covF (a b : List Nat) (k : Nat) : Bool := decide (a.getD k 0 ∈ [48, 49]) && !decide (a.getD k 0 = b.getD k 0)
theorem cov_due (a b : List Nat) (h : a.length = b.length) : decide ((((List.range a.length).filter (covF a b)).map fun k : Nat => (k : Int)) = []) = covB a b := by
  rw [Bool.eq_iff_iff, decide_eq_true_eq, List.map_eq_nil_iff, List.filter_eq_nil_iff, cov_ix a b h]
  constructor
  · intro g k hk
    have := g k (List.mem_range.mpr hk)
    unfold covF at this
    unfold covP
    by_cases h1 : a.getD k 0 ∈ [48, 49] <;> by_cases h2 : a.getD k 0 = b.getD k 0 <;> simp_all
  · intro g k hk
    have := g k (List.mem_range.mp hk)
    unfold covP at this
    unfold covF
    by_cases h1 : a.getD k 0 ∈ [48, 49] <;> by_cases h2 : a.getD k 0 = b.getD k 0 <;> simp_all
end Dw

set_option Elab.async false
set_option linter.all false
set_option maxRecDepth 100000
namespace Dw
open PySem L2 Evl
/-! ### the text by places -/
def top (i : Nat) : Stmt := PySem.Challenge.pw_deltawires_k13_covered_mixed_resolved.main.body.getD i (.Pass ⟨0, 0, 0, 0⟩)
abbrev s_covers : Stmt := top 2
abbrev N_covers : List Str := ["one", "other", "sign", "there"]
theorem sc_covers : FnScope N_covers ["one", "other"] (defScope s_covers) := ⟨rfl, rfl, rfl, by decide +kernel, rfl, by decide +kernel, by decide +kernel⟩
abbrev s_mixed_sign : Stmt := top 3
abbrev N_mixed_sign : List Str := ["one", "other"]
theorem sc_mixed_sign : FnScope N_mixed_sign ["one", "other"] (defScope s_mixed_sign) := ⟨rfl, rfl, rfl, by decide +kernel, rfl, by decide +kernel, by decide +kernel⟩
abbrev s_mixed : Stmt := top 4
abbrev N_mixed : List Str := ["one", "other", "sign", "there"]
theorem sc_mixed : FnScope N_mixed ["one", "other"] (defScope s_mixed) := ⟨rfl, rfl, rfl, by decide +kernel, rfl, by decide +kernel, by decide +kernel⟩
abbrev s_resolved_sign : Stmt := top 5
abbrev N_resolved_sign : List Str := ["signs", "driven", "sign"]
theorem sc_resolved_sign : FnScope N_resolved_sign ["signs"] (defScope s_resolved_sign) := ⟨rfl, rfl, rfl, by decide +kernel, rfl, by decide +kernel, by decide +kernel⟩
abbrev s_resolved : Stmt := top 6
abbrev N_resolved : List Str := ["values", "signs"]
theorem sc_resolved : FnScope N_resolved ["values"] (defScope s_resolved) := ⟨rfl, rfl, rfl, by decide +kernel, rfl, by decide +kernel, by decide +kernel⟩
abbrev s__law_at : Stmt := top 8
abbrev N__law_at : List Str := ["_law_script", "_law_k"]
theorem sc__law_at : FnScope N__law_at ["_law_script", "_law_k"] (defScope s__law_at) := ⟨rfl, rfl, rfl, by decide +kernel, rfl, by decide +kernel, by decide +kernel⟩
abbrev s__law_pot : Stmt := top 9
abbrev N__law_pot : List Str := ["_law_script", "_law_k", "_law_cell"]
theorem sc__law_pot : FnScope N__law_pot ["_law_script", "_law_k"] (defScope s__law_pot) := ⟨rfl, rfl, rfl, by decide +kernel, rfl, by decide +kernel, by decide +kernel⟩
abbrev s__law_take : Stmt := top 10
abbrev N__law_take : List Str := ["_law_pot_here", "_law_many", "_law_digit"]
theorem sc__law_take : FnScope N__law_take ["_law_pot_here", "_law_many"] (defScope s__law_take) := ⟨rfl, rfl, rfl, by decide +kernel, rfl, by decide +kernel, by decide +kernel⟩
abbrev s__law_values : Stmt := top 11
abbrev N__law_values : List Str := ["_law_pot_here", "_law_width", "_law_first", "_law_found", "_law_other", "_law_turn", "_law_signs", "_law_k"]
theorem sc__law_values : FnScope N__law_values ["_law_pot_here"] (defScope s__law_values) := ⟨rfl, rfl, rfl, by decide +kernel, rfl, by decide +kernel, by decide +kernel⟩
abbrev s__law_mixed : Stmt := top 12
abbrev N__law_mixed : List Str := ["_law_one", "_law_other", "_law_a", "_law_b"]
theorem sc__law_mixed : FnScope N__law_mixed ["_law_one", "_law_other"] (defScope s__law_mixed) := ⟨rfl, rfl, rfl, by decide +kernel, rfl, by decide +kernel, by decide +kernel⟩
abbrev s__law_driven : Stmt := top 13
abbrev N__law_driven : List Str := ["_law_signs", "_law_left", "_law_sign"]
theorem sc__law_driven : FnScope N__law_driven ["_law_signs"] (defScope s__law_driven) := ⟨rfl, rfl, rfl, by decide +kernel, rfl, by decide +kernel, by decide +kernel⟩
abbrev s__law_resolved : Stmt := top 14
abbrev N__law_resolved : List Str := ["_law_values_here", "_law_k", "_law_value"]
theorem sc__law_resolved : FnScope N__law_resolved ["_law_values_here"] (defScope s__law_resolved) := ⟨rfl, rfl, rfl, by decide +kernel, rfl, by decide +kernel, by decide +kernel⟩
abbrev s__law_pair_right : Stmt := top 15
abbrev N__law_pair_right : List Str := ["_law_one", "_law_other", "_law_found", "_law_due", "_law_k"]
theorem sc__law_pair_right : FnScope N__law_pair_right ["_law_one", "_law_other"] (defScope s__law_pair_right) := ⟨rfl, rfl, rfl, by decide +kernel, rfl, by decide +kernel, by decide +kernel⟩
abbrev s__law_right : Stmt := top 16
abbrev N__law_right : List Str := ["_law_values_here", "_law_one", "_law_many", "_law_handed", "_law_other"]
theorem sc__law_right : FnScope N__law_right ["_law_values_here"] (defScope s__law_right) := ⟨rfl, rfl, rfl, by decide +kernel, rfl, by decide +kernel, by decide +kernel⟩
abbrev s_law : Stmt := top 17
abbrev N_law : List Str := ["_law_script", "_law_k"]
theorem sc_law : FnScope N_law ["_law_script"] (defScope s_law) := ⟨rfl, rfl, rfl, by decide +kernel, rfl, by decide +kernel, by decide +kernel⟩

structure Bi (K : PySem.W.Frag) (w : World) (mg : Str → Option Value)  : Prop where
  all : mg "all" = none
  bool : mg "bool" = none
  divmod : mg "divmod" = none
  isinstance : mg "isinstance" = none
  len : mg "len" = none
  list : mg "list" = none
  max : mg "max" = none
  min : mg "min" = none
  range : mg "range" = none
  zip : mg "zip" = none
  c_TOLD : GlV mg "TOLD" (.str "01")
theorem g_name {i : Nat} {v : V} {σ : L2.St} {H : Hp} {R : L2.St → Hp → Prop} (h : R (σ.set i (some v)) H) : gName i v σ H R := h
theorem spv_mixS {a b : Nat} {H : Hp} : SpV spMixS [.str (Tx [a]), .str (Tx [b])] H (.str (Tx [mixS a b])) := fun H1 e Q q E => ⟨a, b, rfl, q⟩
theorem spv_mixed {a b : List Nat} {H : Hp} (h : a.length = b.length) (hz : a.length ≤ 1000) : SpV spMixed [.str (Tx a), .str (Tx b)] H (.str (Tx (List.zipWith mixS a b))) := fun H1 e Q q E => ⟨a, b, rfl, h, hz, q⟩
def spCov : Sp := fun vs H Q _ => ∃ a b : List Nat, vs = [.str (Tx a), .str (Tx b)] ∧ a.length = b.length ∧ a.length ≤ 1000 ∧ ∀ H', Ex H H' → Q (.bl (covB a b)) H'
theorem spv_cov {a b : List Nat} {H : Hp} (h : a.length = b.length) (hz : a.length ≤ 1000) : SpV spCov [.str (Tx a), .str (Tx b)] H (.bl (covB a b)) := fun H1 e Q q E => ⟨a, b, rfl, h, hz, q⟩
def spRS (K : PySem.W.Frag) : Sp := fun vs H Q _ => ∃ (T : Addr) (cs : List Nat), vs = [.ref T] ∧ SqT K H T (cs.map fun c => V.str (Tx [c])) ∧ cs.length ≤ 1000 ∧ ∀ H', Ex H H' → Q (.str (Tx [resS cs])) H'
def spDrv (K : PySem.W.Frag) : Sp := fun vs H Q _ => ∃ (T : Addr) (cs : List Nat), vs = [.ref T] ∧ SqL K H T (cs.map fun c => V.str (Tx [c])) ∧ cs.length ≤ 1000 ∧ (∀ c ∈ cs, c < 128) ∧ ∀ H', Ex H H' → Q (.str (Tx [drvS cs])) H'
def resL (f : List Nat → Nat) (ls : List (List Nat)) (n : Nat) : List Nat := (List.range n).map fun i => f (ls.map fun l => l.getD i 0)
def spRes (K : PySem.W.Frag) (f : List Nat → Nat) : Sp := fun vs H Q _ => ∃ (a : Addr) (ls : List (List Nat)) (n : Nat), vs = [.ref a] ∧ SqL K H a (ls.map fun l => V.str (Tx l)) ∧ ls ≠ [] ∧ ls.length ≤ 8 ∧ (∀ l ∈ ls, l.length = n) ∧ n ≤ 8 ∧ (∀ l ∈ ls, Sg l) ∧ ∀ H', Ex H H' → Q (.str (Tx (resL f ls n))) H'
theorem spv_res {K : PySem.W.Frag} {f : List Nat → Nat} {a : Addr} {ls : List (List Nat)} {n : Nat} {H : Hp} (h : SqL K H a (ls.map fun l => V.str (Tx l))) (ne : ls ≠ []) (h8 : ls.length ≤ 8) (hn : ∀ l ∈ ls, l.length = n) (n8 : n ≤ 8) (hs : ∀ l ∈ ls, Sg l) : SpV (spRes K f) [.ref a] H (.str (Tx (resL f ls n))) := fun H1 e Q q E => ⟨a, ls, n, rfl, ex_l e h, ne, h8, hn, n8, hs, q⟩
theorem res_same {ls : List (List Nat)} {n : Nat} (hn : ∀ l ∈ ls, l.length = n) (hs : ∀ l ∈ ls, Sg l) : resL resS ls n = resL drvS ls n := by
  unfold resL
  apply List.map_congr_left
  intro i hi
  refine res_drv fun c hc => ?_
  obtain ⟨l, hl, rfl⟩ := List.mem_map.mp hc
  have hi2 : i < l.length := by
    rw [hn l hl]
    exact List.mem_range.mp hi
  rw [List.getD_eq_getElem?_getD, List.getElem?_eq_getElem hi2]
  exact hs l hl _ (List.getElem_mem hi2)
structure Vals8 (ls : List (List Nat)) (n : Nat) : Prop where
  ne : ls ≠ []
  h8 : ls.length ≤ 8
  hn : ∀ l ∈ ls, l.length = n
  hs : ∀ l ∈ ls, Sg l
  n1 : 1 ≤ n
  n8 : n ≤ 8
def spValues : Sp := fun vs H Q _ => ∃ p : Addr, vs = [.ref p] ∧ PotAt H p ∧ ∀ (H' : Hp) (q : Addr) (ls : List (List Nat)) (n : Nat), ExB p H H' → H' q = some (.lst (ls.map fun l => V.str (Tx l))) → Vals8 ls n → Q (.ref q) H'
def spPair : Sp := fun vs H Q _ => ∃ a b : List Nat, vs = [.str (Tx a), .str (Tx b)] ∧ a.length = b.length ∧ a.length ≤ 8 ∧ ∀ H', Ex H H' → Q (.bl true) H'
theorem spv_pair {a b : List Nat} {H : Hp} (h : a.length = b.length) (h8 : a.length ≤ 8) : SpV spPair [.str (Tx a), .str (Tx b)] H (.bl true) := fun H1 e Q q E => ⟨a, b, rfl, h, h8, q⟩
def spRight (K : PySem.W.Frag) : Sp := fun vs H Q _ => ∃ (a : Addr) (ls : List (List Nat)) (n : Nat), vs = [.ref a] ∧ SqL K H a (ls.map fun l => V.str (Tx l)) ∧ Vals8 ls n ∧ ∀ H', Ex H H' → Q (.bl true) H'
theorem rep_tx (d : Nat) (l : List Nat) : ((l.map fun c => Tx [c]) = List.replicate l.length (Tx [d])) ↔ l = List.replicate l.length d := by
  rw [List.eq_replicate_iff, List.eq_replicate_iff]
  constructor
  · rintro ⟨_, h⟩
    refine ⟨rfl, fun b hb => ?_⟩
    have := Tx_inj (h _ (List.mem_map.mpr ⟨b, hb, rfl⟩))
    simpa using this
  · rintro ⟨_, h⟩
    refine ⟨List.length_map _, fun b hb => ?_⟩
    obtain ⟨c, hc, rfl⟩ := List.mem_map.mp hb
    rw [h c hc]
theorem exb_none {p b : Addr} {H H' : Hp} (e : ExB p H H') (n : b ≠ p) (h : H' b = none) : H b = none := by
  cases hb : H b with
  | none => rfl
  | some o =>
    rw [e b o n hb] at h
    cases h
theorem low_of {l : List Nat} (h : Sg l) : LowS (Tx l) := low_Tx h.low
theorem at_get {l : List Nat} {k : Nat} (h : k < l.length) : atI l (k : Int) = some (l.getD k 0) := by
  refine atI_nat ?_
  rw [List.getD_eq_getElem?_getD, List.getElem?_eq_getElem h]
  rfl
theorem cut_V (xs : List V) (m : Nat) (h : m ≤ xs.length) : cutV xs none (some (m : Int)) = xs.take m := by
  unfold cutV
  rw [HT.sIx_nat, HT.sIx_none, Nat.min_eq_left h]
  rfl

theorem el_is2 {te : TE} {σ : L2.St} {H : Hp} {xs ys : List V} (h : EvL te σ H xs) (e : xs = ys) : EvL te σ H ys := e ▸ h
section
variable {P : Program} {w : World} {K : PySem.W.Frag} {mg : Str → Option Value} {base : Heap}
theorem ok_covers {f  : Addr} {fd  : FuncData} (F : Fun K "covers" "covers" s_covers f fd) (B : Bi K w mg )   : FnOk P w K mg base CX0 1 f fd ["one", "other"] (spCov) := by
  refine F.ok sc_covers (fun vs H Q E h => ?_) (fun cdv A outer s H vs Q E hr h => ?_)
  · obtain ⟨a, b, rfl, _⟩ := h
    rfl
  · obtain ⟨a, b, rfl, hl, hz, q⟩ := h
    refine ⟨_, (pss_cons (ps_if (pt_cmpR op_ne (pe_callB call_len_str (by rfl) B.len PySem.boot_len (pa_cons (pv 0) pa_nil)) (pe_callB call_len_str (by rfl) B.len PySem.boot_len (pa_cons (pv 1) pa_nil)) (nomark _)) (pss_one (ps_ret pe_bl)) pss_nil)
      (pss_one (ps_ret (pe_callB (cr_all rfl) (by rfl) B.all (by decide +kernel) (pa_cons (pe_lc (own := [("sign", 2), ("there", 3)]) (g := gTup K 2 (gCons (gName 2) (gCons (gName 3) gNil))) (tt := tYes) (by rfl) sc_covers.nd (pi_zipS (by rfl) B.zip (pa_cons (pv 0) (pa_cons (pv 1) pa_nil))) (blkOk_by (own := [("sign", 2), ("there", 3)]) (N := N_covers) (sc := defScope s_covers) (by decide +kernel)) (fun _ _ _ _ _ => (pg_tup rfl (pgs_cons (pg_name (i := 2) sc_covers.nd rfl (Or.inl rfl) (Or.inr rfl)) (pgs_cons (pg_name (i := 3) sc_covers.nd rfl (Or.inl rfl) (Or.inr rfl)) pgs_nil)))) (fun _ _ _ _ _ => pts_nil) (fun _ _ _ _ _ => (pe_or (pe_cmpR op_notInS (pv 2) (pgl (by rfl) B.c_TOLD) rfl) (pe_one (pe_cmpR op_eq (pv 2) (pv 3) (nomark _)))))) pa_nil))))), ?_⟩
    refine q_when (b := false) (et_is (et_test (ev_op (ev_lenT (ev_var rfl) (by omega)) (ev_lenT (ev_var rfl) (by omega)) (rv_ne rfl))) (by rw [hl]; simp)) (fun hb => by cases hb) (fun _ H1 e1 => ?_)
    refine s_ret (ev_all (bs := List.zipWith covP a b) ?_) fun H2 e2 => q H2 (e1.trans e2)
    rw [List.map_zipWith]
    refine el_lcZ (fun c d => V.bl (covP c d)) (ea_cons (ev_var rfl) (ea_cons (ev_var rfl) ea_nil)) hl (by omega) (fun x y => rfl) fun c d H2 _ _ _ => ev_is (ev_orV (ev_niT (ev_var rfl) ec_01) fun _ => ev_eqT (ev_var rfl) (ev_var rfl)) ?_
    unfold covP
    by_cases h : c = d <;> simp [h]
theorem ok_mixed_sign {f  : Addr} {fd  : FuncData} (F : Fun K "mixed_sign" "mixed_sign" s_mixed_sign f fd) (B : Bi K w mg )   : FnOk P w K mg base CX0 1 f fd ["one", "other"] (spMixS) := by
  refine F.ok sc_mixed_sign (fun vs H Q E h => ?_) (fun cdv A outer s H vs Q E hr h => ?_)
  · obtain ⟨a, b, rfl, _⟩ := h
    rfl
  · obtain ⟨a, b, rfl, q⟩ := h
    refine ⟨_, (pss_one (ps_ret (pe_ifExp (PW.pt (pw_and (pt_cmpR op_eq (pv 0) (pv 1) (nomark _)) (pw_and1 (pt_cmpR op_inS (pv 0) (pgl (by rfl) B.c_TOLD) rfl)))) (pv 0) pe_str))), ?_⟩
    refine s_ret (ev_is (ev_ifS (et_and (et_test (ev_eqT (ev_var rfl) (ev_var rfl))) fun _ => et_test (ev_inT (ev_var rfl) ec_01)) (ev_var rfl) ec_x) ?_) q
    unfold mixS
    by_cases h : a = b ∧ a ∈ [48, 49]
    · rw [if_pos h, if_pos (by simpa using h)]
    · rw [if_neg h, if_neg (by simpa using h)]
theorem ok_mixed {f f1 : Addr} {fd fd1 : FuncData} (F : Fun K "mixed" "mixed" s_mixed f fd) (B : Bi K w mg )  (D_mixed_sign : Df P w K mg base CX0 "mixed_sign" 1 f1 fd1 ["one", "other"] (spMixS)) : FnOk P w K mg base CX0 2 f fd ["one", "other"] (spMixed) := by
  refine F.ok sc_mixed (fun vs H Q E h => ?_) (fun cdv A outer s H vs Q E hr h => ?_)
  · obtain ⟨a, b, rfl, _⟩ := h
    rfl
  · obtain ⟨a, b, rfl, hl, hz, q⟩ := h
    refine ⟨_, (pss_one (ps_ret (pe_join pe_str (pe_lc (own := [("sign", 2), ("there", 3)]) (g := gTup K 2 (gCons (gName 2) (gCons (gName 3) gNil))) (tt := tYes) (by rfl) sc_mixed.nd (pi_zipS (by rfl) B.zip (pa_cons (pv 0) (pa_cons (pv 1) pa_nil))) (blkOk_by (own := [("sign", 2), ("there", 3)]) (N := N_mixed) (sc := defScope s_mixed) (by decide +kernel)) (fun _ _ _ _ _ => (pg_tup rfl (pgs_cons (pg_name (i := 2) sc_mixed.nd rfl (Or.inl rfl) (Or.inr rfl)) (pgs_cons (pg_name (i := 3) sc_mixed.nd rfl (Or.inl rfl) (Or.inr rfl)) pgs_nil)))) (fun _ _ _ _ _ => pts_nil) (fun _ _ _ _ _ => (pe_call D_mixed_sign.ok (hr.mono (by decide)) (by rfl) D_mixed_sign.g D_mixed_sign.kp D_mixed_sign.b .nil pass0 (pa_cons (pv 2) (pa_cons (pv 3) pa_nil)))))))), ?_⟩
    refine s_ret (ev_join1 (l := List.zipWith mixS a b) ?_ (by rw [List.length_zipWith]; omega)) q
    rw [List.map_zipWith]
    exact el_lcZ (fun c d => V.str (Tx [mixS c d])) (ea_cons (ev_var rfl) (ea_cons (ev_var rfl) ea_nil)) hl (by omega) (fun x y => rfl) fun c d H1 _ _ _ => ev_call (ea_cons (ev_var rfl) (ea_cons (ev_var rfl) ea_nil)) spv_mixS
theorem ok_resolved_sign {f  : Addr} {fd  : FuncData} (F : Fun K "resolved_sign" "resolved_sign" s_resolved_sign f fd) (B : Bi K w mg )   : FnOk P w K mg base CX0 1 f fd ["signs"] (spRS K) := by
  refine F.ok sc_resolved_sign (fun vs H Q E h => ?_) (fun cdv A outer s H vs Q E hr h => ?_)
  · obtain ⟨T, cs, rfl, _⟩ := h
    rfl
  · obtain ⟨T, cs, rfl, hT, hz, q⟩ := h
    refine ⟨_, (pss_cons (ps_setLc (i := 1) (own := [("sign", 2)]) (g := gName 2) (by rfl) sc_resolved_sign.nd rfl rfl (sw_true rfl rfl rfl (by decide +kernel)) (pi_tup (pv 0)) (blkOk_by (own := [("sign", 2)]) (N := N_resolved_sign) (sc := defScope s_resolved_sign) (by decide +kernel)) (fun _ _ _ _ _ => pg_name (i := 2) sc_resolved_sign.nd rfl (Or.inl rfl)) (fun _ _ _ _ _ => pts_one (pt_cmpR op_ne (pv 2) pe_str (nomark _))) (fun _ _ _ _ _ => (pv 2)))
      (pss_cons (ps_if (pt_not (pt_truth (pv 1) (by intro _; rfl))) (pss_one (ps_ret pe_str)) pss_nil)
      (pss_one (ps_ret (pe_ifExp (pt_cmpR op_eq (pe_bm PySem.F.plainAttrs_list PySem.F.slot_list_count PySem.F.type_list_count mt_countS (pv 1) (pa_cons (pe_ix ix_list (pv 1) pe_int (fun _ _ => rfl)) pa_nil)) (pe_callB call_len_seq (by rfl) B.len PySem.boot_len (pa_cons (pv 1) pa_nil)) (nomark _)) (pe_ix ix_list (pv 1) pe_int (fun _ _ => rfl)) pe_str))))), ?_⟩
    refine q_asgL (el_lcTp (cs := cs) (fun c => !decide (c = 122)) (fun c => V.str (Tx [c])) (ev_var rfl) hT (by omega) (fun x => rfl) (fun c H1 _ _ => et_is (et_test (ev_neT (ev_var rfl) ec_z)) (by by_cases h : c = 122 <;> simp [h])) (fun c H1 _ _ _ => ev_var rfl)) fun p H1 np e1 hp => ?_
    have hlen : (cs.filter fun c => !decide (c = 122)).length ≤ 1000 := Nat.le_trans (List.length_filter_le _ _) hz
    have eq : resS cs = (match cs.filter fun c => !decide (c = 122) with | [] => 122 | d :: r => if (d :: r).count d = (d :: r).length then d else 120) := rfl
    rw [eq] at q
    generalize cs.filter (fun c => !decide (c = 122)) = l at hp hlen q
    cases l with
    | nil =>
      exact q_when (b := true) (et_is (et_not (et_list (ev_var rfl) (sq_of hp))) rfl) (fun _ H2 e2 => s_ret ec_z fun H3 e3 => q H3 ((e1.trans e2).trans e3)) (fun hb => by cases hb)
    | cons d r =>
      refine q_when (b := false) (et_is (et_not (et_list (ev_var rfl) (sq_of hp))) rfl) (fun hb => by cases hb) (fun _ H2 e2 => ?_)
      have hS : SqL K H2 p ((d :: r).map fun c => V.str (Tx [c])) := sq_of (e2 _ _ hp)
      have h0 : ∀ {σ' : L2.St} {H' : Hp}, Ex H2 H' → σ'[1]? = some (some (.ref p)) → Ev (tOp (rIxL K) (tVar 1) (tC (.int 0))) σ' H' (.str (Tx [d])) := fun e h => ev_op (ev_var h) ev_c (rv_ixL (ex_l e hS) (atI_nat (j := 0) rfl))
      refine s_ret (ev_is (ev_ifS (et_test (ev_op (ev_count (ev_var rfl) hS (h0 (Ex.refl _) rfl)) (ev_len (ev_var rfl) hS) (rv_eq rfl))) (h0 (Ex.refl _) rfl) ec_x) ?_) fun H3 e3 => q H3 ((e1.trans e2).trans e3)
      rw [List.length_map]
      show _ = V.str (Tx [if (d :: r).count d = (d :: r).length then d else 120])
      by_cases h : (d :: r).count d = (d :: r).length
      · rw [if_pos h, if_pos (by rw [h]; simp)]
      · rw [if_neg h, if_neg (by simp only [decide_eq_true_eq]; intro z; exact h (Int.ofNat.inj (V.int.inj z)))]
theorem ok_resolved {f f1 : Addr} {fd fd1 : FuncData} (F : Fun K "resolved" "resolved" s_resolved f fd) (B : Bi K w mg )  (D_resolved_sign : Df P w K mg base CX0 "resolved_sign" 1 f1 fd1 ["signs"] (spRS K)) : FnOk P w K mg base CX0 2 f fd ["values"] (spRes K resS) := by
  refine F.ok sc_resolved (fun vs H Q E h => ?_) (fun cdv A outer s H vs Q E hr h => ?_)
  · obtain ⟨a, ls, n, rfl, _⟩ := h
    rfl
  · obtain ⟨a, ls, n, rfl, hS, ne, h8, hn, n8, hsg, q⟩ := h
    refine ⟨_, (pss_one (ps_ret (pe_join pe_str (pe_lc (own := [("signs", 1)]) (g := gName 1) (tt := tYes) (by rfl) sc_resolved.nd (pi_zipN (by rfl) B.zip (pv 0)) (blkOk_by (own := [("signs", 1)]) (N := N_resolved) (sc := defScope s_resolved) (by decide +kernel)) (fun _ _ _ _ _ => pg_name (i := 1) sc_resolved.nd rfl (Or.inl rfl)) (fun _ _ _ _ _ => pts_nil) (fun _ _ _ _ _ => (pe_call D_resolved_sign.ok (hr.mono (by decide)) (by rfl) D_resolved_sign.g D_resolved_sign.kp D_resolved_sign.b .nil pass0 (pa_cons (pv 1) pa_nil))))))), ?_⟩
    refine s_ret (ev_join1 (l := resL resS ls n) ?_ (by unfold resL; rw [List.length_map, List.length_range]; omega)) q
    unfold resL
    rw [List.map_map]
    refine el_is2 (el_lcZN (K := K) (a := a) (ls := ls) (n := n) (j := 1) (vs := [1]) (fun i => V.str (Tx [resS (ls.map fun l => l.getD i 0)])) (ev_var rfl) hS ne h8 hn (by omega) (fun x => rfl) fun i T H1 _ hi hT => ?_) rfl
    refine ev_call (vs := [.ref T]) (ea_cons (ev_var rfl) ea_nil) fun H2 e2 Q2 q2 E2 => ⟨T, ls.map fun l => l.getD i 0, rfl, st_of (by rw [List.map_map]; exact e2 _ _ hT), by rw [List.length_map]; omega, q2⟩
theorem ok__law_at {f  : Addr} {fd  : FuncData} (F : Fun K "_law_at" "_law_at" s__law_at f fd) (B : Bi K w mg )   : FnOk P w K mg base CX0 1 f fd ["_law_script", "_law_k"] (spAt K) := by
  refine F.ok sc__law_at (fun vs H Q E h => ?_) (fun cdv A outer s H vs Q E hr h => ?_)
  · obtain ⟨a, ns, k, rfl, _⟩ := h
    rfl
  · obtain ⟨a, ns, k, rfl, hS, h0, q⟩ := h
    refine ⟨_, (pss_one (ps_ret (pe_ifExp (pt_cmpR op_lt (pv 1) (pe_callB call_len_seq (by rfl) B.len PySem.boot_len (pa_cons (pv 0) pa_nil)) (nomark _)) (pe_ix ix_list (pv 0) (pv 1) (fun _ _ => rfl)) pe_int))), ?_⟩
    refine ⟨_, rfl, _, rfl, a, _, rfl, .inl hS, _, _, rfl, rfl, _, rfl, ?_⟩
    refine ite2 (fun e => ?_) (fun e => ?_)
    · obtain ⟨c, hc⟩ := at_map h0 (of_decide_eq_true e)
      exact ⟨_, rfl, _, rfl, a, _, _, _, rfl, rfl, hS, hc, q c⟩
    · exact q 0
theorem ok__law_pot {f f1 : Addr} {fd fd1 : FuncData} (F : Fun K "_law_pot" "_law_pot" s__law_pot f fd) (B : Bi K w mg )  (D__law_at : Df P w K mg base CX0 "_law_at" 1 f1 fd1 ["_law_script", "_law_k"] (spAt K)) : FnOk P w K mg base CX0 2 f fd ["_law_script", "_law_k"] (spPot K) := by
  refine F.ok sc__law_pot (fun vs H Q E h => ?_) (fun cdv A outer s H vs Q E hr h => ?_)
  · obtain ⟨a, ns, k, rfl, _⟩ := h
    rfl
  · obtain ⟨a, ns, k, rfl, hS, h0, h1, q⟩ := h
    refine ⟨_, (pss_cons (ps_set (i := 2) sc__law_pot.nd rfl (Or.inl rfl) (pe_call D__law_at.ok (hr.mono (by decide)) (by rfl) D__law_at.g D__law_at.kp D__law_at.b .nil pass0 (pa_cons (pv 0) (pa_cons (pv 1) pa_nil))))
      (pss_one (ps_ret (pe_lst (pa_cons (pe_callB (call_max2 rfl) (by rfl) B.max (by decide +kernel) (pa_cons pe_int (pa_cons (pe_op op_sub (pv 2) (pe_op op_pow pe_int pe_int)) pa_nil))) (pa_cons (pe_op op_mod (pe_op op_add (pe_op op_add (pe_op op_mul (pe_op op_mod (pv 2) pe_int) pe_int) (pe_op op_mul pe_int (pv 1))) pe_int) pe_int) pa_nil)))))), ?_⟩
    refine ⟨_, rfl, _, rfl, a, ns, k, rfl, hS, h0, fun c => ?_⟩
    refine ⟨_, rfl, _, _, rfl, rfl, ⟨by decide, by decide, by decide⟩, _, _, rfl, rfl, _, _, rfl, ?_⟩
    refine ⟨_, rfl, _, _, rfl, rfl, (by show (0 : Int) < 2147483629; decide), _, _, rfl, rfl, .inr ⟨by decide, by decide⟩, _, rfl, _, _, rfl, rfl, .inl ⟨by decide, by decide⟩, _, _, rfl, rfl, _, _, rfl, rfl, _, _, rfl, rfl, (by show (0 : Int) < 2147483647; decide), ?_⟩
    refine ⟨by show 2 ≤ sizeLine; decide, fun p hp => ?_⟩
    refine q p _ hp (Ex.new hp) ⟨_, _, upd_same, ?_, ?_, ?_⟩
    · split <;> omega
    · omega
    · omega
theorem ok__law_take {f  : Addr} {fd  : FuncData} (F : Fun K "_law_take" "_law_take" s__law_take f fd) (B : Bi K w mg )   : FnOk P w K mg base CX0 1 f fd ["_law_pot_here", "_law_many"] (spTake) := by
  refine F.ok sc__law_take (fun vs H Q E h => ?_) (fun cdv A outer s H vs Q E hr h => ?_)
  · obtain ⟨a, m, rfl, _⟩ := h
    rfl
  · obtain ⟨p, m, rfl, ⟨x, y, hp, hx, hy, hy2⟩, h0, h1, q⟩ := h
    refine ⟨_, (pss_cons (ps_if (pt_cmpR op_gt (pe_ix ix_list (pv 0) pe_int (fun _ _ => rfl)) pe_int (nomark _)) (pss_cons (ps_asg (pe_callB call_divmod (by rfl) B.divmod (by decide +kernel) (pa_cons (pe_ix ix_list (pv 0) pe_int (fun _ _ => rfl)) (pa_cons (pv 1) pa_nil))) (pg_tup rfl (pgs_cons (pg_sub (pv 0) pe_int set_list) (pgs_cons (pg_name (i := 2) sc__law_take.nd rfl (Or.inl rfl)) pgs_nil))))
      (pss_one (ps_ret (pv 2)))) pss_nil)
      (pss_cons (ps_asg (pe_op op_mod (pe_op op_add (pe_op op_mul (pe_ix ix_list (pv 0) pe_int (fun _ _ => rfl)) pe_int) pe_int) pe_int) (pg_sub (pv 0) pe_int set_list))
      (pss_one (ps_ret (pe_op op_mod (pe_op op_fdiv (pe_op op_mod (pe_op op_mul (pe_ix ix_list (pv 0) pe_int (fun _ _ => rfl)) (pe_ix ix_list (pv 0) pe_int (fun _ _ => rfl))) pe_int) pe_int) (pv 1)))))), ?_⟩
    refine ⟨_, rfl, p, _, _, _, rfl, rfl, SqL.of hp, rfl, _, _, rfl, rfl, _, rfl, ?_⟩
    refine ite2 (fun e => ?_) (fun e => ?_)
    · refine ⟨_, rfl, p, _, _, _, rfl, rfl, SqL.of hp, rfl, _, rfl, _, _, rfl, ⟨h0, h1⟩, fun t ht => ?_⟩
      have npt : p ≠ t := ne_of_none hp ht
      refine ⟨t, _, rfl, SqT.of upd_same, rfl, _, _, rfl, _, rfl, p, _, _, 0, rfl, rfl, (upd_ne npt).trans hp, rfl, _, _, rfl, rfl, _, rfl, ?_⟩
      refine q _ _ (fun b o n hb => ?_) ⟨_, _, upd_same, Int.ediv_nonneg hx (by omega), hy, hy2⟩ (Int.emod_nonneg _ (by omega)) (Int.emod_lt_of_pos _ h0)
      rw [upd_ne n, upd_ne (ne_of_none hb ht)]
      exact hb
    · refine ⟨_, rfl, p, _, _, _, rfl, rfl, SqL.of hp, rfl, _, _, rfl, rfl, .inr ⟨by decide, by decide⟩, _, _, rfl, rfl, _, _, rfl, rfl, (by show (0 : Int) < 2147483629; decide), _, rfl, p, _, _, 1, rfl, rfl, hp, rfl, ?_⟩
      have hz0 : 0 ≤ (y * 39373 + 20011) % 2147483629 := by omega
      have hz1 : (y * 39373 + 20011) % 2147483629 < 2147483629 := by omega
      refine ⟨_, rfl, p, _, _, _, rfl, rfl, SqL.of upd_same, rfl, _, rfl, p, _, _, _, rfl, rfl, SqL.of upd_same, rfl, _, _, rfl, rfl, .inl ⟨?_, ?_⟩, _, _, rfl, rfl, (by show (0 : Int) < 2147483563; decide), _, _, rfl, rfl, ⟨by decide, by decide⟩, _, rfl, _, _, rfl, rfl, h0, ?_⟩
      · omega
      · omega
      · exact q _ _ (ExB.refl _ _).upd ⟨_, _, upd_same, hx, hz0, by omega⟩ (Int.emod_nonneg _ (by omega)) (Int.emod_lt_of_pos _ h0)
theorem ok__law_values {f f1 : Addr} {fd fd1 : FuncData} (F : Fun K "_law_values" "_law_values" s__law_values f fd) (B : Bi K w mg )  (D__law_take : Df P w K mg base CX0 "_law_take" 1 f1 fd1 ["_law_pot_here", "_law_many"] (spTake)) : FnOk P w K mg base CX0 2 f fd ["_law_pot_here"] (spValues) := by
  refine F.ok sc__law_values (fun vs H Q E h => ?_) (fun cdv A outer s H vs Q E hr h => ?_)
  · obtain ⟨p, rfl, _⟩ := h
    rfl
  · obtain ⟨p, rfl, hP, q⟩ := h
    refine ⟨_, (pss_cons (ps_set (i := 1) sc__law_values.nd rfl (Or.inl rfl) (pe_op op_add pe_int (pe_call D__law_take.ok (hr.mono (by decide)) (by rfl) D__law_take.g D__law_take.kp D__law_take.b .nil pass0 (pa_cons (pv 0) (pa_cons pe_int pa_nil)))))
      (pss_cons (ps_setLc (i := 2) (own := [("_law_k", 7)]) (g := gName 7) (tt := tYes) (by rfl) sc__law_values.nd rfl rfl (sw_true rfl rfl rfl (by decide +kernel)) (pi_range1 (by rfl) B.range (pa_cons (pv 1) pa_nil)) (blkOk_by (own := [("_law_k", 7)]) (N := N__law_values) (sc := defScope s__law_values) (by decide +kernel)) (fun _ _ _ _ _ => pg_name (i := 7) sc__law_values.nd rfl (Or.inl rfl)) (fun _ _ _ _ _ => pts_nil) (fun _ _ _ _ _ => (pe_ix ix_str pe_str (pe_call D__law_take.ok (hr.mono (by decide)) (by rfl) D__law_take.g D__law_take.kp D__law_take.b .nil pass0 (pa_cons (pv 0) (pa_cons pe_int pa_nil))) (fun _ _ => rfl))))
      (pss_cons (ps_set (i := 3) sc__law_values.nd rfl (Or.inl rfl) (pe_lst (pa_cons (pe_join pe_str (pv 2)) pa_nil)))
      (pss_cons (ps_set (i := 4) sc__law_values.nd rfl (Or.inl rfl) (pe_cmpR op_eq (pe_call D__law_take.ok (hr.mono (by decide)) (by rfl) D__law_take.g D__law_take.kp D__law_take.b .nil pass0 (pa_cons (pv 0) (pa_cons pe_int pa_nil))) pe_int (nomark _)))
      (pss_cons (ps_for PassesOwn.never rfl (pi_range1 (by rfl) B.range (pa_cons (pe_ix ix_list (pe_lst (pa_cons (pe_call D__law_take.ok (hr.mono (by decide)) (by rfl) D__law_take.g D__law_take.kp D__law_take.b .nil pass0 (pa_cons (pv 0) (pa_cons pe_int pa_nil))) (pa_cons pe_int pa_nil))) (pe_op op_fdiv (pe_call D__law_take.ok (hr.mono (by decide)) (by rfl) D__law_take.g D__law_take.kp D__law_take.b .nil pass0 (pa_cons (pv 0) (pa_cons pe_int pa_nil))) pe_int) (fun _ _ => rfl)) pa_nil)) (pg_name (i := 5) sc__law_values.nd rfl (Or.inl rfl)) (pss_cons (ps_set (i := 6) sc__law_values.nd rfl (Or.inl rfl) (pe_callTy call_list_of (by rfl) B.list (by decide +kernel) (pa_cons (pv 2) pa_nil)))
      (pss_cons (ps_for PassesOwn.never rfl (pi_range1 (by rfl) B.range (pa_cons (pv 1) pa_nil)) (pg_name (i := 7) sc__law_values.nd rfl (Or.inl rfl)) (pss_one (ps_if (PW.pt (pw_or (pt_val (pv 4)) (pw_or1 (pt_cmpR op_eq (pe_call D__law_take.ok (hr.mono (by decide)) (by rfl) D__law_take.g D__law_take.kp D__law_take.b .nil pass0 (pa_cons (pv 0) (pa_cons pe_int pa_nil))) pe_int (nomark _))))) (pss_one (ps_asg (pe_ix ix_str pe_str (pe_call D__law_take.ok (hr.mono (by decide)) (by rfl) D__law_take.g D__law_take.kp D__law_take.b .nil pass0 (pa_cons (pv 0) (pa_cons pe_int pa_nil))) (fun _ _ => rfl)) (pg_sub (pv 6) (pv 7) set_list))) pss_nil)))
      (pss_one (ps_expr (pe_bm PySem.F.plainAttrs_list PySem.F.slot_list_append PySem.F.type_list_append mt_append (pv 3) (pa_cons (pe_join pe_str (pv 6)) pa_nil)))))))
      (pss_one (ps_ret (pv 3)))))))), ?_⟩
    refine ⟨_, rfl, p, 8, rfl, hP, by decide, by decide, fun H1 d z1 hP1 d0 d1 => ⟨_, _, rfl, rfl, ?_⟩⟩
    obtain ⟨k, rfl⟩ := Int.eq_ofNat_of_zero_le d0
    have hk : k < 8 := by omega
    refine ⟨_, rfl, 1 + (k : Int), rfl, by omega, by omega, fun D hD => ?_⟩
    have nD := hP1.ne hD
    refine lc_range (lo := 0) (n := (1 + (k : Int)).toNat) (fun i H4 => ExB p H1 H4 ∧ PotAt H4 p ∧ ∃ fs : List Nat, H4 D = some (.lst (fs.map fun c => V.str (Tx [c]))) ∧ fs.length = i ∧ ∀ c ∈ fs, c ∈ sgn)
      ⟨ExB.of (Ex.new hD), hP1.ex (Ex.new hD), [], upd_same, rfl, fun c hc => by cases hc⟩ (fun i H4 hi hv => ?_) (fun H4 hv => ?_)
    · obtain ⟨e4, hP4, fs, h4, hn, hs⟩ := hv
      refine ⟨rfl, ?_⟩
      refine ⟨_, rfl, p, 4, rfl, hP4, by decide, by decide, fun H5 d5 e5 hP5 g0 g1 => ?_⟩
      obtain ⟨c, hc, hm⟩ := at_sign (l := sgn) g0 g1
      refine ⟨Str.ofString "01xz", d5, c, rfl, rfl, by decide +kernel, by rw [e_sgn]; exact hc, _, e5 D _ nD h4, sz_lt (by rw [List.length_map]; omega), (e4.trans e5).mut hD, hP5.upd nD, fs ++ [c], ?_, by rw [List.length_append, hn]; rfl, fun y hy => ?_⟩
      · rw [upd_same, List.map_append]
        rfl
      · rcases List.mem_append.mp hy with h | h
        · exact hs y h
        · rw [List.mem_singleton.mp h]
          exact hm
    · obtain ⟨e4, hP4, fs, h4, hn, hs⟩ := hv
      have hfl : fs.length = k + 1 := by omega
      refine q_asgL (xs := [V.str (Tx fs)]) (el_lst (ea_cons (ev_joinV (ev_var rfl) (sq_of h4) (by omega)) ea_nil) (by simp)) fun pf H5 nf e5 hf => ?_
      have npf : pf ≠ p := hP4.ne nf
      have nDf : D ≠ pf := ne_of_none h4 nf
      have Hpf : H pf = none := exb_none (z1.trans e4) npf nf
      refine ⟨_, rfl, p, 2, rfl, hP4.ex e5, by decide, by decide, fun H6 o z6 hP6 o0 o1 => ⟨rfl, ?_⟩⟩
      refine g_name ?_
      dsimp only
      generalize decide (V.int o = V.int 0) = ob
      refine ⟨_, rfl, p, 5, rfl, hP6, by decide, by decide, fun H7 t5 z7 hP7 t0 t1 => ⟨by show 2 ≤ sizeLine; decide, fun pl nl => ?_⟩⟩
      have x8 := Ex.new (o := .lst [.int t5, .int 7]) nl
      have o8 := upd_same (H := H7) (a := pl) (o := .lst [.int t5, .int 7])
      generalize upd H7 pl (.lst [.int t5, .int 7]) = H8 at x8 o8 ⊢
      have npl : pl ≠ p := hP7.ne nl
      refine ⟨_, rfl, p, 6, rfl, hP7.ex x8, by decide, by decide, fun H9 s6 z9 hP9 s0 s1 => ⟨_, _, rfl, rfl, ⟨by decide, by decide⟩, ?_⟩⟩
      obtain ⟨cnt, hcnt, c0, c7⟩ : ∃ cnt : Int, atI [V.int t5, .int 7] (s6 / 5) = some (.int cnt) ∧ 0 ≤ cnt ∧ cnt ≤ 7 := by
        have : s6 / 5 = 0 ∨ s6 / 5 = 1 := by omega
        rcases this with h | h <;> rw [h]
        · exact ⟨t5, rfl, by omega, by omega⟩
        · exact ⟨7, rfl, by omega, by omega⟩
      refine ⟨pl, _, _, _, rfl, rfl, SqL.of (z9 _ _ npl o8), hcnt, cnt, rfl, by omega, by omega, ?_⟩
      have zz : ExB p H5 H9 := z6.trans (z7.trans ((ExB.of x8).trans z9))
      refine for_range (lo := 0) (n := cnt.toNat) (fun t σ' H' => (∃ a5 a6 a7, σ' = [some (.ref p), some (.int (1 + (k : Int))), some (.ref D), some (.ref pf), some (.bl ob), a5, a6, a7]) ∧ ExB p H H' ∧ PotAt H' p ∧ H' D = some (.lst (fs.map fun c => V.str (Tx [c]))) ∧ ∃ ls : List (List Nat), H' pf = some (.lst (ls.map fun l => V.str (Tx l))) ∧ ls.length = 1 + t ∧ ∀ l ∈ ls, l.length = k + 1 ∧ Sg l)
        ⟨⟨_, _, _, rfl⟩, z1.trans (e4.trans ((ExB.of e5).trans zz)), hP9, zz _ _ nD (e5 _ _ h4), [fs], zz _ _ npf hf, rfl, fun l hl => by rw [List.mem_singleton.mp hl]; exact ⟨hfl, hs⟩⟩ (fun t σ' H' ht hv => ?_) (fun σ' H' hv => ?_)
      · obtain ⟨⟨a5, a6, a7, rfl⟩, eH, hPt, hDt, ls, hls, hlen, hgood⟩ := hv
        refine g_name ?_
        refine q_asgL (el_list (ev_var rfl) (sq_of hDt)) fun ps Hs ns es hss => ?_
        have nps : ps ≠ p := hPt.ne ns
        have nDs : D ≠ ps := ne_of_none hDt ns
        have nfs : pf ≠ ps := ne_of_none hls ns
        have Hps : H ps = none := exb_none eH nps ns
        refine q_forR1 (n := 1 + (k : Int)) (ea_cons (ev_var rfl) ea_nil) ⟨by omega, by omega⟩ (fun j σ'' H'' => (∃ b7, σ'' = [some (.ref p), some (.int (1 + (k : Int))), some (.ref D), some (.ref pf), some (.bl ob), some (.int (0 + (t : Int))), some (.ref ps), b7]) ∧ ExB p H H'' ∧ PotAt H'' p ∧ H'' D = some (.lst (fs.map fun c => V.str (Tx [c]))) ∧ H'' pf = some (.lst (ls.map fun l => V.str (Tx l))) ∧ ∃ cur : List Nat, H'' ps = some (.lst (cur.map fun c => V.str (Tx [c]))) ∧ cur.length = k + 1 ∧ ∀ c ∈ cur, c ∈ sgn)
          (fun Hx ex => ⟨⟨_, rfl⟩, eH.trans (ExB.of (es.trans ex)), hPt.ex (es.trans ex), (es.trans ex) _ _ hDt, (es.trans ex) _ _ hls, fs, ex _ _ hss, hfl, hs⟩) (fun j σ'' H'' hj hw => ?_) (fun σ'' H'' hw => ?_)
        · obtain ⟨⟨b7, rfl⟩, eX, hPX, hDX, hFX, cur, hcur, lcur, scur⟩ := hw
          refine ⟨_, rfl, ob, rfl, ?_⟩
          cases ob with
          | true =>
            simp only [if_true]
            refine ⟨_, rfl, p, 4, rfl, hPX, by decide, by decide, fun Hw dw zw hPw w0 w1 => ?_⟩
            obtain ⟨c, hc, hm⟩ := at_sign (l := sgn) w0 w1
            refine ⟨Str.ofString "01xz", dw, c, rfl, rfl, by decide +kernel, by rw [e_sgn]; exact hc, _, rfl, _, rfl, ps, _, _, j, rfl, rfl, zw _ _ nps (hcur), ixN_nat (by rw [List.length_map]; omega), ?_⟩
            refine ⟨⟨_, rfl⟩, ((eX).trans zw).mut Hps, hPw.upd nps, (upd_ne nDs).trans (zw _ _ nD (hDX)), (upd_ne nfs).trans (zw _ _ npf (hFX)), cur.set j c, by rw [upd_same, List.map_set], by rw [List.length_set]; exact lcur, fun y hy => ?_⟩
            rcases List.mem_or_eq_of_mem_set hy with h | h
            · exact scur y h
            · rw [h]
              exact hm
          | false =>
            simp only [Bool.false_eq_true, if_false]
            refine ⟨_, rfl, p, 4, rfl, hPX, by decide, by decide, fun Hy dy zy hPy y0 y1 => ⟨rfl, _, rfl, ?_⟩⟩
            refine ite2 (fun _ => ?_) (fun _ => ?_)
            · refine ⟨_, rfl, p, 4, rfl, hPy, by decide, by decide, fun Hw dw zw hPw w0 w1 => ?_⟩
              obtain ⟨c, hc, hm⟩ := at_sign (l := sgn) w0 w1
              refine ⟨Str.ofString "01xz", dw, c, rfl, rfl, by decide +kernel, by rw [e_sgn]; exact hc, _, rfl, _, rfl, ps, _, _, j, rfl, rfl, zw _ _ nps (zy _ _ nps hcur), ixN_nat (by rw [List.length_map]; omega), ?_⟩
              refine ⟨⟨_, rfl⟩, ((eX.trans zy).trans zw).mut Hps, hPw.upd nps, (upd_ne nDs).trans (zw _ _ nD (zy _ _ nD hDX)), (upd_ne nfs).trans (zw _ _ npf (zy _ _ npf hFX)), cur.set j c, by rw [upd_same, List.map_set], by rw [List.length_set]; exact lcur, fun y hy => ?_⟩
              rcases List.mem_or_eq_of_mem_set hy with h | h
              · exact scur y h
              · rw [h]
                exact hm
            · exact ⟨⟨_, rfl⟩, eX.trans zy, hPy, zy _ _ nD hDX, zy _ _ npf hFX, cur, zy _ _ nps hcur, lcur, scur⟩
        · obtain ⟨⟨b7, rfl⟩, eX, hPX, hDX, hFX, cur, hcur, lcur, scur⟩ := hw
          refine s_app (xs := ls.map fun l => V.str (Tx l)) hFX (ev_var rfl) (ev_joinV (ev_var rfl) (sq_of hcur) (by omega)) (by rw [List.length_map]; omega) fun Hz ez => ⟨⟨_, _, _, rfl⟩, (eX.trans (ExB.of ez)).mut Hpf, (hPX.ex ez).upd npf, (upd_ne nDf).trans (ez _ _ hDX), ls ++ [cur], ?_, ?_, fun l hl => ?_⟩
          · rw [upd_same, List.map_append]
            rfl
          · rw [List.length_append, hlen]
            simp
            omega
          · rcases List.mem_append.mp hl with h | h
            · exact hgood l h
            · rw [List.mem_singleton.mp h]
              exact ⟨lcur, scur⟩
      · obtain ⟨⟨a5, a6, a7, rfl⟩, eH, hPt, hDt, ls, hls, hlen, hgood⟩ := hv
        refine s_ret (ev_var rfl) fun Hr er => q Hr pf ls (k + 1) (eH.trans (ExB.of er)) (er _ _ hls) ⟨fun z => ?_, by omega, fun l hl => (hgood l hl).1, fun l hl => (hgood l hl).2, by omega, by omega⟩
        rw [z] at hlen
        simp at hlen
        omega
theorem ok__law_mixed {f  : Addr} {fd  : FuncData} (F : Fun K "_law_mixed" "_law_mixed" s__law_mixed f fd) (B : Bi K w mg )   : FnOk P w K mg base CX0 1 f fd ["_law_one", "_law_other"] (spMixed) := by
  refine F.ok sc__law_mixed (fun vs H Q E h => ?_) (fun cdv A outer s H vs Q E hr h => ?_)
  · obtain ⟨a, b, rfl, _⟩ := h
    rfl
  · obtain ⟨a, b, rfl, hl, hz, q⟩ := h
    refine ⟨_, (pss_one (ps_ret (pe_join pe_str (pe_lc (own := [("_law_a", 2), ("_law_b", 3)]) (g := gTup K 2 (gCons (gName 2) (gCons (gName 3) gNil))) (tt := tYes) (by rfl) sc__law_mixed.nd (pi_zipS (by rfl) B.zip (pa_cons (pv 0) (pa_cons (pv 1) pa_nil))) (blkOk_by (own := [("_law_a", 2), ("_law_b", 3)]) (N := N__law_mixed) (sc := defScope s__law_mixed) (by decide +kernel)) (fun _ _ _ _ _ => (pg_tup rfl (pgs_cons (pg_name (i := 2) sc__law_mixed.nd rfl (Or.inl rfl) (Or.inr rfl)) (pgs_cons (pg_name (i := 3) sc__law_mixed.nd rfl (Or.inl rfl) (Or.inr rfl)) pgs_nil)))) (fun _ _ _ _ _ => pts_nil) (fun _ _ _ _ _ => (pe_ifExp (PW.pt (pw_and (pt_cmpR op_eq (pv 2) (pv 3) (nomark _)) (pw_and1 (pt_cmpR op_inS (pv 2) pe_str rfl)))) (pv 2) pe_str)))))), ?_⟩
    refine s_ret (ev_join1 (l := List.zipWith mixS a b) ?_ (by rw [List.length_zipWith]; omega)) q
    rw [List.map_zipWith]
    refine el_lcZ (fun c d => V.str (Tx [mixS c d])) (ea_cons (ev_var rfl) (ea_cons (ev_var rfl) ea_nil)) hl (by omega) (fun x y => rfl) fun c d H2 _ _ _ => ev_is (ev_ifS (et_and (et_test (ev_eqT (ev_var rfl) (ev_var rfl))) fun _ => et_test (ev_inT (ev_var rfl) ec_01)) (ev_var rfl) ec_x) ?_
    unfold mixS
    by_cases h : c = d ∧ c ∈ [48, 49]
    · rw [if_pos h, if_pos (by simpa using h)]
    · rw [if_neg h, if_neg (by simpa using h)]
theorem ok__law_driven {f  : Addr} {fd  : FuncData} (F : Fun K "_law_driven" "_law_driven" s__law_driven f fd) (B : Bi K w mg )   : FnOk P w K mg base CX0 1 f fd ["_law_signs"] (spDrv K) := by
  refine F.ok sc__law_driven (fun vs H Q E h => ?_) (fun cdv A outer s H vs Q E hr h => ?_)
  · obtain ⟨T, cs, rfl, _⟩ := h
    rfl
  · obtain ⟨T, cs, rfl, hT, hz, hlo, q⟩ := h
    refine ⟨_, (pss_cons (ps_setLc (i := 1) (own := [("_law_sign", 2)]) (g := gName 2) (by rfl) sc__law_driven.nd rfl rfl (sw_true rfl rfl rfl (by decide +kernel)) (pi_list (pv 0)) (blkOk_by (own := [("_law_sign", 2)]) (N := N__law_driven) (sc := defScope s__law_driven) (by decide +kernel)) (fun _ _ _ _ _ => pg_name (i := 2) sc__law_driven.nd rfl (Or.inl rfl)) (fun _ _ _ _ _ => pts_one (pt_cmpR op_ne (pv 2) pe_str (nomark _))) (fun _ _ _ _ _ => (pv 2)))
      (pss_cons (ps_if (pt_cmpR (op_eqD hr.units) (pv 1) (pe_lst pa_nil) (nomark _)) (pss_one (ps_ret pe_str)) pss_nil)
      (pss_one (ps_ret (pe_ifExp (PW.pt (pw_and (pt_cmpR (op_eqD hr.units) (pv 1) (pe_op op_rep (pe_lst (pa_cons (pe_ix ix_list (pv 1) pe_int (fun _ _ => rfl)) pa_nil)) (pe_callB call_len_seq (by rfl) B.len PySem.boot_len (pa_cons (pv 1) pa_nil))) (nomark _)) (pw_and1 (pt_cmpR op_inS (pe_ix ix_list (pv 1) pe_int (fun _ _ => rfl)) pe_str rfl)))) (pe_ix ix_list (pv 1) pe_int (fun _ _ => rfl)) pe_str))))), ?_⟩
    refine q_asgL (el_lcLs (cs := cs) (fun c => !decide (c = 122)) (fun c => V.str (Tx [c])) (ev_var rfl) hT (by omega) (fun x => rfl) (fun c H1 _ _ => et_is (et_test (ev_neT (ev_var rfl) ec_z)) (by by_cases h : c = 122 <;> simp [h])) (fun c H1 _ _ _ => ev_var rfl)) fun p H1 np e1 hp => ?_
    have hlen : (cs.filter fun c => !decide (c = 122)).length ≤ 1000 := Nat.le_trans (List.length_filter_le _ _) hz
    have hlow : ∀ c ∈ cs.filter (fun c => !decide (c = 122)), c < 128 := fun c hc => hlo c (List.mem_filter.mp hc).1
    have eq : drvS cs = (match cs.filter fun c => !decide (c = 122) with | [] => 122 | d :: r => if (d :: r) = List.replicate (d :: r).length d ∧ d ∈ [48, 49] then d else 120) := rfl
    rw [eq] at q
    generalize cs.filter (fun c => !decide (c = 122)) = l at hp hlen hlow q
    have lowL : ∀ x ∈ (l.map fun c => Tx [c]), LowS x := fun x hx => by
      obtain ⟨c, hc, rfl⟩ := List.mem_map.mp hx
      exact low_Tx fun d hd => by
        rw [List.mem_singleton.mp hd]
        exact hlow c hc
    have hpS : ∀ {G : Hp}, Ex H1 G → SqL K G p ((l.map fun c => Tx [c]).map V.str) := fun e => sq_of (by rw [map_strs]; exact e _ _ hp)
    have test : ∀ {σ' : L2.St}, σ'[1]? = some (some (.ref p)) → EvT (tTest (tOp (rEqD K) (tVar 1) (tLst tNil))) σ' H1 (decide ((l.map fun c => Tx [c]) = [])) := fun h => et_test (ev_opL (ev_var h) (el_lst ea_nil (by decide)) fun r G hg hx => rv_eqStrs (ys := []) (hpS hx) (sq_of hg) lowL (fun x hx => by cases hx))
    cases l with
    | nil => exact q_when (b := true) (et_is (test rfl) rfl) (fun _ H2 e2 => s_ret ec_z fun H3 e3 => q H3 ((e1.trans e2).trans e3)) (fun hb => by cases hb)
    | cons d r =>
      refine q_when (b := false) (et_is (test rfl) rfl) (fun hb => by cases hb) (fun _ H2 e2 => ?_)
      have hS : SqL K H2 p ((d :: r).map fun c => V.str (Tx [c])) := sq_of (e2 _ _ hp)
      have h0 : ∀ {σ' : L2.St} {H' : Hp}, Ex H2 H' → σ'[1]? = some (some (.ref p)) → Ev (tOp (rIxL K) (tVar 1) (tC (.int 0))) σ' H' (.str (Tx [d])) := fun e h => ev_op (ev_var h) ev_c (rv_ixL (ex_l e hS) (atI_nat (j := 0) rfl))
      refine s_ret (ev_is (ev_ifS (et_and (et_test (ev_opL (ev_var rfl) (el_rep (n := (d :: r).length) (el_lst (ea_cons (h0 (Ex.refl _) rfl) ea_nil) (by simp)) (fun G hx => ev_is (ev_len (ev_var rfl) (ex_l hx hS)) (by rw [List.length_map])) (by omega)) fun rr G hg hx => rv_eqStrs (xs := (d :: r).map fun c => Tx [c]) (ys := List.replicate (d :: r).length (Tx [d])) (hpS (e2.trans hx)) (sq_of (by rw [hg, List.map_replicate])) lowL (fun x hx => ?_))) fun _ => et_test (ev_inT (h0 (Ex.refl _) rfl) ec_01)) (h0 (Ex.refl _) rfl) ec_x) ?_) fun H3 e3 => q H3 ((e1.trans e2).trans e3)
      · rw [List.eq_of_mem_replicate hx]
        exact low_Tx fun c hc => by
          rw [List.mem_singleton.mp hc]
          exact hlow d (List.mem_cons_self ..)
      · show _ = V.str (Tx [if (d :: r) = List.replicate (d :: r).length d ∧ d ∈ [48, 49] then d else 120])
        have key := rep_tx d (d :: r)
        by_cases h : (d :: r) = List.replicate (d :: r).length d ∧ d ∈ [48, 49]
        · rw [if_pos h, if_pos (by rw [decide_eq_true (key.mpr h.1), decide_eq_true h.2]; rfl)]
        · rw [if_neg h, if_neg (by rw [Bool.and_eq_true, decide_eq_true_eq, decide_eq_true_eq, key]; exact h)]
theorem ok__law_resolved {f f1 : Addr} {fd fd1 : FuncData} (F : Fun K "_law_resolved" "_law_resolved" s__law_resolved f fd) (B : Bi K w mg )  (D__law_driven : Df P w K mg base CX0 "_law_driven" 1 f1 fd1 ["_law_signs"] (spDrv K)) : FnOk P w K mg base CX0 2 f fd ["_law_values_here"] (spRes K drvS) := by
  refine F.ok sc__law_resolved (fun vs H Q E h => ?_) (fun cdv A outer s H vs Q E hr h => ?_)
  · obtain ⟨a, ls, n, rfl, _⟩ := h
    rfl
  · obtain ⟨a, ls, n, rfl, hS, ne, h8, hn, n8, hsg, q⟩ := h
    refine ⟨_, (pss_one (ps_ret (pe_join pe_str (pe_lc (own := [("_law_k", 1)]) (g := gName 1) (tt := tYes) (te := tCall (spDrv K) [] E0 (tCons (tLc (iList K (tVar 0)) (gName 2) tYes (tOp rIxS (tVar 2) (tVar 1)) [2]) tNil)) (by rfl) sc__law_resolved.nd (pi_range1 (by rfl) B.range (pa_cons (pe_callB call_len_str (by rfl) B.len PySem.boot_len (pa_cons (pe_ix ix_list (pv 0) pe_int (fun _ _ => rfl)) pa_nil)) pa_nil)) (blkOk_by (own := [("_law_k", 1)]) (N := N__law_resolved) (sc := defScope s__law_resolved) (by decide +kernel)) (fun _ _ _ _ _ => pg_name (i := 1) sc__law_resolved.nd rfl (by first | exact Or.inl rfl | exact Or.inr rfl)) (fun _ _ _ _ _ => pts_nil) (fun _ _ _ _ _ => by exact (pe_call D__law_driven.ok (hr.mono (by decide)) (by rfl) D__law_driven.g D__law_driven.kp D__law_driven.b .nil pass0 (pa_cons (pe_lc (own := [("_law_value", 2)]) (g := gName 2) (tt := tYes) (by rfl) sc__law_resolved.nd (pi_list (pv 0)) (blkOk_by (own := [("_law_value", 2)]) (N := N__law_resolved) (sc := { kind := .function, names := [(".0", .local), ("_law_k", .cell), ("_law_driven", .globalImplicit), ("_law_values_here", .cell)], isGenerator := false, isCoroutine := false }) (by decide +kernel)) (fun _ _ _ _ _ => pg_name (i := 2) sc__law_resolved.nd rfl (Or.inl rfl)) (fun _ _ _ _ _ => pts_nil) (fun _ _ _ _ _ => (pe_ix ix_str (pv 2) (pv 1) (fun _ _ => rfl)))) pa_nil))))))), ?_⟩
    obtain ⟨l0, r0, rfl⟩ : ∃ l0 r0, ls = l0 :: r0 := by
      cases ls with
      | nil => exact absurd rfl ne
      | cons l r => exact ⟨l, r, rfl⟩
    have hl0 : l0.length = n := hn l0 (List.mem_cons_self ..)
    refine s_ret (ev_join1 (l := resL drvS (l0 :: r0) n) ?_ (by unfold resL; rw [List.length_map, List.length_range]; omega)) q
    unfold resL
    rw [List.map_map]
    refine el_is2 (el_lcR1 (n := (n : Int)) (fun _ => true) (fun i => V.str (Tx [drvS ((l0 :: r0).map fun l => l.getD i 0)])) (ea_cons (ev_is (ev_lenT (l := l0) (ev_op (ev_var rfl) ev_c (rv_ixL hS (atI_nat (j := 0) rfl))) (by omega)) (by rw [hl0])) ea_nil) ⟨by omega, by omega⟩ (fun x => rfl) (fun i H1 _ _ => et_yes) (fun i H1 e1 hi _ => ?_)) ?_
    · have hlo : ∀ c ∈ (l0 :: r0).map fun l => l.getD i 0, c < 128 := fun c hc => by
        obtain ⟨l, hl, rfl⟩ := List.mem_map.mp hc
        have hi2 : i < l.length := by have := hn l hl; omega
        rw [List.getD_eq_getElem?_getD, List.getElem?_eq_getElem hi2]
        exact (hsg l hl).low _ (List.getElem_mem hi2)
      refine ev_callL1 (xs := ((l0 :: r0).map fun l => l.getD i 0).map fun c => V.str (Tx [c])) ?_ fun p H2 hp _ H3 e3 Q3 q3 E3 => ⟨p, (l0 :: r0).map fun l => l.getD i 0, rfl, sq_of (e3 _ _ hp), by rw [List.length_map]; omega, hlo, q3⟩
      rw [List.map_map]
      exact el_lcV (fun l => V.str (Tx [l.getD i 0])) (ev_var rfl) (ex_l e1 hS) (by omega) (fun x => rfl) fun l H2 _ hl => ev_ixT (ev_var rfl) (ev_var rfl) (by have := hn l hl; omega) (at_get (by have := hn l hl; omega))
    · unfold given
      rw [List.filter_eq_self.mpr (fun _ _ => rfl), Int.toNat_natCast]
      rfl
theorem ok__law_pair_right {f f1 f2 f3 : Addr} {fd fd1 fd2 fd3 : FuncData} (F : Fun K "_law_pair_right" "_law_pair_right" s__law_pair_right f fd) (B : Bi K w mg )  (D_covers : Df P w K mg base CX0 "covers" 1 f1 fd1 ["one", "other"] (spCov)) (D_mixed : Df P w K mg base CX0 "mixed" 2 f2 fd2 ["one", "other"] (spMixed)) (D__law_mixed : Df P w K mg base CX0 "_law_mixed" 1 f3 fd3 ["_law_one", "_law_other"] (spMixed)) : FnOk P w K mg base CX0 3 f fd ["_law_one", "_law_other"] (spPair) := by
  refine F.ok sc__law_pair_right (fun vs H Q E h => ?_) (fun cdv A outer s H vs Q E hr h => ?_)
  · obtain ⟨a, b, rfl, _⟩ := h
    rfl
  · obtain ⟨a, b, rfl, hl, h8, q⟩ := h
    refine ⟨_, (pss_cons (ps_set (i := 2) sc__law_pair_right.nd rfl (Or.inl rfl) (pe_call D_covers.ok (hr.mono (by decide)) (by rfl) D_covers.g D_covers.kp D_covers.b .nil pass0 (pa_cons (pv 0) (pa_cons (pv 1) pa_nil))))
      (pss_cons (ps_set (i := 3) sc__law_pair_right.nd rfl (Or.inl rfl) (pe_cmpR (op_eqD hr.units) (pe_lc (own := [("_law_k", 4)]) (g := gName 4) (by rfl) sc__law_pair_right.nd (pi_range1 (by rfl) B.range (pa_cons (pe_callB call_len_str (by rfl) B.len PySem.boot_len (pa_cons (pv 0) pa_nil)) pa_nil)) (blkOk_by (own := [("_law_k", 4)]) (N := N__law_pair_right) (sc := defScope s__law_pair_right) (by decide +kernel)) (fun _ _ _ _ _ => pg_name (i := 4) sc__law_pair_right.nd rfl (Or.inl rfl)) (fun _ _ _ _ _ => pts_one (PW.pt (pw_and (pt_cmpR op_inS (pe_ix ix_str (pv 0) (pv 4) (fun _ _ => rfl)) pe_str rfl) (pw_and1 (pt_cmpR op_ne (pe_ix ix_str (pv 0) (pv 4) (fun _ _ => rfl)) (pe_ix ix_str (pv 1) (pv 4) (fun _ _ => rfl)) (nomark _)))))) (fun _ _ _ _ _ => (pv 4))) (pe_lst pa_nil) (nomark _)))
      (pss_one (ps_ret (pe_and (pe_callB call_isi (by rfl) B.isinstance (by decide +kernel) (pa_cons (pv 2) (pa_cons (pe_bltn (v := .ty "bool") (by rfl) B.bool (by decide +kernel) rfl) pa_nil))) (pe_and (pe_cmpR op_eq (pv 2) (pv 3) (nomark _)) (pe_one (pe_cmpR op_eq (pe_call D_mixed.ok (hr.mono (by decide)) (by rfl) D_mixed.g D_mixed.kp D_mixed.b .nil pass0 (pa_cons (pv 0) (pa_cons (pv 1) pa_nil))) (pe_call D__law_mixed.ok (hr.mono (by decide)) (by rfl) D__law_mixed.g D__law_mixed.kp D__law_mixed.b .nil pass0 (pa_cons (pv 0) (pa_cons (pv 1) pa_nil))) (nomark _))))))))), ?_⟩
    refine q_asg (ev_call (ea_cons (ev_var rfl) (ea_cons (ev_var rfl) ea_nil)) (spv_cov hl (by omega))) fun H1 e1 => ?_
    refine q_asg (v := .bl (covB a b)) (ev_is (ev_opLL (el_is2 (ys := (((List.range a.length).filter (covF a b)).map fun k : Nat => (k : Int)).map V.int) (el_lcR1 (n := (a.length : Int)) (covF a b) (fun k => V.int (k : Int)) (ea_cons (ev_lenT (ev_var rfl) (by omega)) ea_nil) ⟨by omega, by omega⟩ (fun x => rfl) (fun k H2 _ hk => et_is (et_and (et_test (ev_inT (ev_ixT (ev_var rfl) (ev_var rfl) (by omega) (at_get (by omega))) ec_01)) fun _ => et_test (ev_neT (ev_ixT (ev_var rfl) (ev_var rfl) (by omega) (at_get (by omega))) (ev_ixT (ev_var rfl) (ev_var rfl) (by omega) (at_get (by omega))))) ?_) (fun k H2 _ hk _ => ev_var rfl)) ?_) (el_lst ea_nil (by decide)) fun p1 p2 H2 g1 g2 _ => rv_eqInts (ys := []) (sq_of g1) (sq_of g2)) (by rw [cov_due a b hl])) fun H2 e2 => ?_
    · unfold covF
      by_cases h : a.getD k 0 = b.getD k 0 <;> simp [h]
    · unfold given
      rw [Int.toNat_natCast, List.map_map]
      rfl
    · exact s_ret (ev_is (ev_andV (ev_isi (b := true) (ev_var rfl) ev_c fun H1 _ => ⟨_, .base (.bl _), by decide +kernel⟩) fun _ => ev_andV (ev_op (ev_var rfl) (ev_var rfl) (rv_eq rfl)) fun _ => ev_eqT (ev_call (ea_cons (ev_var rfl) (ea_cons (ev_var rfl) ea_nil)) (spv_mixed hl (by omega))) (ev_call (ea_cons (ev_var rfl) (ea_cons (ev_var rfl) ea_nil)) (spv_mixed hl (by omega)))) (by simp)) fun H3 e3 => q H3 ((e1.trans e2).trans e3)
theorem ok__law_right {f f1 f2 f3 : Addr} {fd fd1 fd2 fd3 : FuncData} (F : Fun K "_law_right" "_law_right" s__law_right f fd) (B : Bi K w mg )  (D_resolved : Df P w K mg base CX0 "resolved" 2 f1 fd1 ["values"] (spRes K resS)) (D__law_resolved : Df P w K mg base CX0 "_law_resolved" 2 f2 fd2 ["_law_values_here"] (spRes K drvS)) (D__law_pair_right : Df P w K mg base CX0 "_law_pair_right" 3 f3 fd3 ["_law_one", "_law_other"] (spPair)) : FnOk P w K mg base CX0 4 f fd ["_law_values_here"] (spRight K) := by
  refine F.ok sc__law_right (fun vs H Q E h => ?_) (fun cdv A outer s H vs Q E hr h => ?_)
  · obtain ⟨a, ls, n, rfl, _⟩ := h
    rfl
  · obtain ⟨a, ls, n, rfl, hS, V8, q⟩ := h
    refine ⟨_, (pss_cons (ps_for PassesOwn.never rfl (pi_list (pv 0)) (pg_name (i := 1) sc__law_right.nd rfl (Or.inr rfl)) (pss_one (ps_if (PW.pt (pw_or (pt_cmpR op_ne (pe_call D_resolved.ok (hr.mono (by decide)) (by rfl) D_resolved.g D_resolved.kp D_resolved.b .nil pass0 (pa_cons (pe_lst (pa_cons (pv 1) pa_nil)) pa_nil)) (pe_call D__law_resolved.ok (hr.mono (by decide)) (by rfl) D__law_resolved.g D__law_resolved.kp D__law_resolved.b .nil pass0 (pa_cons (pe_lst (pa_cons (pv 1) pa_nil)) pa_nil)) (nomark _)) (pw_or1 (pt_not (pt_val (pe_callB (cr_all rfl) (by rfl) B.all (by decide +kernel) (pa_cons (pe_lc (own := [("_law_other", 4)]) (g := gName 4) (tt := tYes) (by rfl) sc__law_right.nd (pi_list (pv 0)) (blkOk_by (own := [("_law_other", 4)]) (N := N__law_right) (sc := defScope s__law_right) (by decide +kernel)) (fun _ _ _ _ _ => pg_name (i := 4) sc__law_right.nd rfl (Or.inl rfl)) (fun _ _ _ _ _ => pts_nil) (fun _ _ _ _ _ => (pe_call D__law_pair_right.ok (hr.mono (by decide)) (by rfl) D__law_pair_right.g D__law_pair_right.kp D__law_pair_right.b .nil pass0 (pa_cons (pv 1) (pa_cons (pv 4) pa_nil))))) pa_nil))))))) (pss_one (ps_ret pe_bl)) pss_nil)))
      (pss_cons (ps_for PassesOwn.never rfl (pi_range2 (by rfl) B.range (pa_cons pe_int (pa_cons (pe_op op_add (pe_callB call_len_seq (by rfl) B.len PySem.boot_len (pa_cons (pv 0) pa_nil)) pe_int) pa_nil))) (pg_name (i := 2) sc__law_right.nd rfl (Or.inl rfl)) (pss_cons (ps_set (i := 3) sc__law_right.nd rfl (Or.inl rfl) (pe_slice sl_list (pv 0) po_none (po_some (pv 2))))
      (pss_one (ps_if (PW.pt (pw_or (pt_cmpR op_ne (pe_call D_resolved.ok (hr.mono (by decide)) (by rfl) D_resolved.g D_resolved.kp D_resolved.b .nil pass0 (pa_cons (pv 3) pa_nil)) (pe_call D__law_resolved.ok (hr.mono (by decide)) (by rfl) D__law_resolved.g D__law_resolved.kp D__law_resolved.b .nil pass0 (pa_cons (pe_slice sl_list (pv 0) po_none (po_some (pv 2))) pa_nil)) (nomark _)) (pw_or1 (pt_cmpR (op_neD hr.units) (pv 3) (pe_slice sl_list (pv 0) po_none (po_some (pv 2))) (nomark _))))) (pss_one (ps_ret pe_bl)) pss_nil))))
      (pss_one (ps_ret pe_bl)))), ?_⟩
    obtain ⟨ne, h8, hn, hsg, n1, n8⟩ := V8
    have hlm : (ls.map fun l => V.str (Tx l)).length = ls.length := List.length_map _
    refine q_forLn (xs := ls.map fun l => V.str (Tx l)) (ev_var rfl) hS (fun i σ' H' => (∃ a1, σ' = [some (.ref a), a1, none, none, none]) ∧ Ex H H') (fun H1 e1 => ⟨⟨none, rfl⟩, e1⟩) (fun i σ' H' _ hv => ex_l hv.2 hS) (fun i x σ' H' hi hv => ?_) (fun σ' H' hv => ?_)
    · obtain ⟨⟨a1, rfl⟩, e1⟩ := hv
      obtain ⟨l, hl, rfl⟩ := List.mem_map.mp (List.mem_of_getElem? hi)
      have one : ∀ k ∈ [l], k.length = n := fun k hk => by rw [List.mem_singleton.mp hk]; exact hn l hl
      have oneS : ∀ k ∈ [l], Sg k := fun k hk => by rw [List.mem_singleton.mp hk]; exact hsg l hl
      have hS1 := ex_l e1 hS
      refine s_when (b := false) (et_is (et_or (et_test (ev_neT (ev_callL1 (el_lst (ea_cons (ev_var rfl) ea_nil) (by simp)) fun p H1 hp _ => spv_res (f := resS) (ls := [l]) (n := n) (sq_of hp) (by simp) (by simp) one n8 oneS) (ev_callL1 (el_lst (ea_cons (ev_var rfl) ea_nil) (by simp)) fun p H1 hp _ => spv_res (f := drvS) (ls := [l]) (n := n) (sq_of hp) (by simp) (by simp) one n8 oneS))) fun _ => et_not (et_B (ev_all (bs := ls.map fun _ => true) (el_is2 (el_lcV (xs := ls) (fun _ => V.bl true) (ev_var rfl) hS1 (by omega) (fun x => rfl) fun k H2 _ hk => ev_call (ea_cons (ev_var rfl) (ea_cons (ev_var rfl) ea_nil)) (spv_pair (by rw [hn l hl, hn k hk]) (by rw [hn l hl]; exact n8))) ?_)))) ?_) (fun hb => by cases hb) (fun _ H2 e2 => ⟨⟨_, rfl⟩, e1.trans e2⟩)
      · rw [List.map_map]
        rfl
      · rw [res_same one oneS]
        simp
    · obtain ⟨⟨a1, rfl⟩, e1⟩ := hv
      have hS1 := ex_l e1 hS
      refine q_forR2 (lo := 1) (n := (ls.length : Int) + 1) (ea_cons ev_c (ea_cons (ev_is (ev_op (ev_len (ev_var rfl) hS1) ev_c rv_I0) (by rw [hlm])) ea_nil)) ⟨by omega, by omega, by omega, by omega⟩ (fun i σ' H' => (∃ a2 a3, σ' = [some (.ref a), a1, a2, a3, none]) ∧ Ex H H') (fun H2 e2 => ⟨⟨none, none, rfl⟩, e1.trans e2⟩) (fun i σ' H2 hi hv => ?_) (fun σ' H2 hv => ?_)
      · obtain ⟨⟨a2, a3, rfl⟩, e2⟩ := hv
        have hS2 := ex_l e2 hS
        have hm : i + 1 ≤ ls.length := by omega
        have em : (1 : Int) + (i : Int) = ((i + 1 : Nat) : Int) := by omega
        have sub : ∀ k ∈ ls.take (i + 1), k ∈ ls := fun k hk => List.mem_of_mem_take hk
        have hnt : ∀ k ∈ ls.take (i + 1), k.length = n := fun k hk => hn k (sub k hk)
        have hst : ∀ k ∈ ls.take (i + 1), Sg k := fun k hk => hsg k (sub k hk)
        have net : ls.take (i + 1) ≠ [] := fun z => by
          have := congrArg List.length z
          rw [List.length_take, List.length_nil] at this
          omega
        have h8t : (ls.take (i + 1)).length ≤ 8 := by rw [List.length_take]; omega
        have cut : ∀ {σ' : L2.St} {G : Hp}, Ex H2 G → σ'[0]? = some (some (.ref a)) → σ'[2]? = some (some (.int (1 + (i : Int)))) → EvL (tSl (rSlL K) (tVar 0) tNoPart (tPart (tVar 2))) σ' G ((ls.take (i + 1)).map fun l => V.str (Tx l)) := fun e s0 s2 =>
          el_is2 (el_sl (hi := some ((i + 1 : Nat) : Int)) (ev_var s0) eo_none (eo_some (ev_is (ev_var s2) (by rw [em]))) (ex_l e hS2)) (by rw [cut_V _ _ (by rw [hlm]; exact hm), ← List.map_take])
        have lowT : ∀ x ∈ (ls.take (i + 1)).map Tx, LowS x := fun x hx => by
          obtain ⟨k, hk, rfl⟩ := List.mem_map.mp hx
          exact low_of (hst k hk)
        refine q_asgL (cut (Ex.refl _) rfl rfl) fun p H3 np e3 hp => ?_
        refine s_when (b := false) (et_is (et_or (et_test (ev_neT (ev_call (ea_cons (ev_var rfl) ea_nil) (spv_res (f := resS) (ls := ls.take (i + 1)) (n := n) (sq_of hp) net h8t hnt n8 hst)) (ev_callL1 (cut e3 rfl rfl) fun p4 H4 h4 _ => spv_res (f := drvS) (ls := ls.take (i + 1)) (n := n) (sq_of h4) net h8t hnt n8 hst))) fun _ => et_test (ev_opL (ev_var rfl) (cut e3 rfl rfl) fun p4 H4 h4 x4 => rv_neStrs (xs := (ls.take (i + 1)).map Tx) (ys := (ls.take (i + 1)).map Tx) (sq_of (by rw [x4 _ _ hp, List.map_map]; rfl)) (sq_of (by rw [h4, List.map_map]; rfl)) lowT lowT)) (by rw [res_same hnt hst]; simp)) (fun hb => by cases hb) (fun _ H4 e4 => ⟨⟨_, _, rfl⟩, (e2.trans e3).trans e4⟩)
      · obtain ⟨⟨a2, a3, rfl⟩, e2⟩ := hv
        exact s_ret ev_c fun H3 e3 => q H3 (e2.trans e3)
theorem ok_law {f f1 f2 f3 : Addr} {fd fd1 fd2 fd3 : FuncData} (F : Fun K "law" "law" s_law f fd) (B : Bi K w mg )  (D__law_pot : Df P w K mg base CX0 "_law_pot" 2 f1 fd1 ["_law_script", "_law_k"] (spPot K)) (D__law_values : Df P w K mg base CX0 "_law_values" 2 f2 fd2 ["_law_pot_here"] (spValues)) (D__law_right : Df P w K mg base CX0 "_law_right" 4 f3 fd3 ["_law_values_here"] (spRight K)) : FnOk P w K mg base CX0 5 f fd ["_law_script"] (spLaw K) := by
  refine F.ok sc_law (fun vs H Q E h => ?_) (fun cdv A outer s H vs Q E hr h => ?_)
  · obtain ⟨a, b, rfl, _⟩ := h
    rfl
  · obtain ⟨a, ns, rfl, hS, hlen, q⟩ := h
    refine ⟨_, (pss_cons (ps_for PassesOwn.never rfl (pi_range1 (by rfl) B.range (pa_cons (pe_callB (call_max2 rfl) (by rfl) B.max (by decide +kernel) (pa_cons pe_int (pa_cons (pe_callB (call_min2 rfl) (by rfl) B.min (by decide +kernel) (pa_cons pe_int (pa_cons (pe_callB call_len_seq (by rfl) B.len PySem.boot_len (pa_cons (pv 0) pa_nil)) pa_nil))) pa_nil))) pa_nil)) (pg_name (i := 1) sc_law.nd rfl (Or.inl rfl)) (pss_one (ps_if (pt_not (pt_val (pe_call D__law_right.ok (hr.mono (by decide)) (by rfl) D__law_right.g D__law_right.kp D__law_right.b .nil pass0 (pa_cons (pe_call D__law_values.ok (hr.mono (by decide)) (by rfl) D__law_values.g D__law_values.kp D__law_values.b .nil pass0 (pa_cons (pe_call D__law_pot.ok (hr.mono (by decide)) (by rfl) D__law_pot.g D__law_pot.kp D__law_pot.b .nil pass0 (pa_cons (pv 0) (pa_cons (pv 1) pa_nil))) pa_nil)) pa_nil)))) (pss_one (ps_ret pe_bl)) pss_nil)))
      (pss_one (ps_ret pe_bl))), ?_⟩
    refine q_forR1 (n := if (if (ns.length : Int) < 8 then (ns.length : Int) else 8) > 2 then (if (ns.length : Int) < 8 then (ns.length : Int) else 8) else 2) ?_ ⟨by split <;> omega, by split <;> (try split) <;> omega⟩ (fun i σ' H' => (∃ a1, σ' = [some (.ref a), a1]) ∧ SqL K H' a (ns.map V.int))
      (fun H2 e2 => ⟨⟨none, rfl⟩, ex_l e2 hS⟩) (fun i σ' H' hi hv => ?_) (fun σ' H' hv => ?_)
    · refine fun H2 e2 Q2 q2 => ?_
      refine ⟨_, rfl, a, _, rfl, .inl (ex_l e2 hS), _, _, rfl, _, _, rfl, ?_⟩
      rw [List.length_map]
      exact q2 _ (Ex.refl _)
    · obtain ⟨⟨a1, rfl⟩, hS2⟩ := hv
      have hi2 : (i : Int) ≤ 1000 := by
        revert hi
        split <;> (try split) <;> omega
      refine ⟨_, rfl, _, rfl, a, ns, _, rfl, hS2, by omega, hi2, fun p H2 np x2 hP => ?_⟩
      refine ⟨p, rfl, hP, fun H3 r ls n z3 h3 V8 => ?_⟩
      refine ⟨r, ls, n, rfl, sq_of h3, V8, fun H4 e4 => ⟨true, rfl, ?_⟩⟩
      exact ⟨⟨_, rfl⟩, ex_l ((z3.back x2 np).trans e4) hS2⟩
    · exact s_ret ev_c fun H2 _ => q H2
end
theorem all_mk {l : PySem.W.OpenLaw} {w : World} {K : PySem.W.Frag} {h : Heap} {mg : Str → Option Value} {fa g0 g1 g2 g3 g4 g5 g6 g7 g8 g9 g10 g11 g12 g13 g14  : Addr} {od0 an0 od1 an1 od2 an2 od3 an3 od4 an4 od5 an5 od6 an6 od7 an7 od8 an8 od9 an9 od10 an10 od11 an11 od12 an12 od13 an13 od14 an14 : Option Addr} {sl0 sl1 sl2 sl3 sl4 sl5 sl6 sl7 sl8 sl9 sl10 sl11 sl12 sl13 sl14 : Array (Option Value)} {oc0 kV0 dc0 pm0 cd0 ct0 oc1 kV1 dc1 pm1 cd1 ct1 oc2 kV2 dc2 pm2 cd2 ct2 oc3 kV3 dc3 pm3 cd3 ct3 oc4 kV4 dc4 pm4 cd4 ct4 oc5 kV5 dc5 pm5 cd5 ct5 oc6 kV6 dc6 pm6 cd6 ct6 oc7 kV7 dc7 pm7 cd7 ct7 oc8 kV8 dc8 pm8 cd8 ct8 oc9 kV9 dc9 pm9 cd9 ct9 oc10 kV10 dc10 pm10 cd10 ct10 oc11 kV11 dc11 pm11 cd11 ct11 oc12 kV12 dc12 pm12 cd12 ct12 oc13 kV13 dc13 pm13 cd13 ct13 oc14 kV14 dc14 pm14 cd14 ct14 : Value} {ty0 : Tok}  (X : K.In h) (G : h.Ns mainGlobals mg) (hfa : mg "law" = some (.ref fa))
    (a0 : PySem.W.nsIn K mainGlobals "covers" = some (some (.ref g0)))
    (l0 : K.lookup g0 = some ⟨oc0, od0, .func (PySem.W.fnOf "covers" "covers" (defArgs s_covers) (defBody s_covers) (defScope s_covers) .none (kV0) dc0 pm0 an0 cd0 ct0), sl0⟩)
    (c0 : PySem.W.codeIn K cd0 "covers" = true)
    (k0 : PySem.W.keepIn K (.ref g0) = true)
    (a1 : PySem.W.nsIn K mainGlobals "mixed_sign" = some (some (.ref g1)))
    (l1 : K.lookup g1 = some ⟨oc1, od1, .func (PySem.W.fnOf "mixed_sign" "mixed_sign" (defArgs s_mixed_sign) (defBody s_mixed_sign) (defScope s_mixed_sign) .none (kV1) dc1 pm1 an1 cd1 ct1), sl1⟩)
    (c1 : PySem.W.codeIn K cd1 "mixed_sign" = true)
    (k1 : PySem.W.keepIn K (.ref g1) = true)
    (a2 : PySem.W.nsIn K mainGlobals "mixed" = some (some (.ref g2)))
    (l2 : K.lookup g2 = some ⟨oc2, od2, .func (PySem.W.fnOf "mixed" "mixed" (defArgs s_mixed) (defBody s_mixed) (defScope s_mixed) .none (kV2) dc2 pm2 an2 cd2 ct2), sl2⟩)
    (c2 : PySem.W.codeIn K cd2 "mixed" = true)
    (k2 : PySem.W.keepIn K (.ref g2) = true)
    (a3 : PySem.W.nsIn K mainGlobals "resolved_sign" = some (some (.ref g3)))
    (l3 : K.lookup g3 = some ⟨oc3, od3, .func (PySem.W.fnOf "resolved_sign" "resolved_sign" (defArgs s_resolved_sign) (defBody s_resolved_sign) (defScope s_resolved_sign) .none (kV3) dc3 pm3 an3 cd3 ct3), sl3⟩)
    (c3 : PySem.W.codeIn K cd3 "resolved_sign" = true)
    (k3 : PySem.W.keepIn K (.ref g3) = true)
    (a4 : PySem.W.nsIn K mainGlobals "resolved" = some (some (.ref g4)))
    (l4 : K.lookup g4 = some ⟨oc4, od4, .func (PySem.W.fnOf "resolved" "resolved" (defArgs s_resolved) (defBody s_resolved) (defScope s_resolved) .none (kV4) dc4 pm4 an4 cd4 ct4), sl4⟩)
    (c4 : PySem.W.codeIn K cd4 "resolved" = true)
    (k4 : PySem.W.keepIn K (.ref g4) = true)
    (a5 : PySem.W.nsIn K mainGlobals "_law_at" = some (some (.ref g5)))
    (l5 : K.lookup g5 = some ⟨oc5, od5, .func (PySem.W.fnOf "_law_at" "_law_at" (defArgs s__law_at) (defBody s__law_at) (defScope s__law_at) .none (kV5) dc5 pm5 an5 cd5 ct5), sl5⟩)
    (c5 : PySem.W.codeIn K cd5 "_law_at" = true)
    (k5 : PySem.W.keepIn K (.ref g5) = true)
    (a6 : PySem.W.nsIn K mainGlobals "_law_pot" = some (some (.ref g6)))
    (l6 : K.lookup g6 = some ⟨oc6, od6, .func (PySem.W.fnOf "_law_pot" "_law_pot" (defArgs s__law_pot) (defBody s__law_pot) (defScope s__law_pot) .none (kV6) dc6 pm6 an6 cd6 ct6), sl6⟩)
    (c6 : PySem.W.codeIn K cd6 "_law_pot" = true)
    (k6 : PySem.W.keepIn K (.ref g6) = true)
    (a7 : PySem.W.nsIn K mainGlobals "_law_take" = some (some (.ref g7)))
    (l7 : K.lookup g7 = some ⟨oc7, od7, .func (PySem.W.fnOf "_law_take" "_law_take" (defArgs s__law_take) (defBody s__law_take) (defScope s__law_take) .none (kV7) dc7 pm7 an7 cd7 ct7), sl7⟩)
    (c7 : PySem.W.codeIn K cd7 "_law_take" = true)
    (k7 : PySem.W.keepIn K (.ref g7) = true)
    (a8 : PySem.W.nsIn K mainGlobals "_law_values" = some (some (.ref g8)))
    (l8 : K.lookup g8 = some ⟨oc8, od8, .func (PySem.W.fnOf "_law_values" "_law_values" (defArgs s__law_values) (defBody s__law_values) (defScope s__law_values) .none (kV8) dc8 pm8 an8 cd8 ct8), sl8⟩)
    (c8 : PySem.W.codeIn K cd8 "_law_values" = true)
    (k8 : PySem.W.keepIn K (.ref g8) = true)
    (a9 : PySem.W.nsIn K mainGlobals "_law_mixed" = some (some (.ref g9)))
    (l9 : K.lookup g9 = some ⟨oc9, od9, .func (PySem.W.fnOf "_law_mixed" "_law_mixed" (defArgs s__law_mixed) (defBody s__law_mixed) (defScope s__law_mixed) .none (kV9) dc9 pm9 an9 cd9 ct9), sl9⟩)
    (c9 : PySem.W.codeIn K cd9 "_law_mixed" = true)
    (k9 : PySem.W.keepIn K (.ref g9) = true)
    (a10 : PySem.W.nsIn K mainGlobals "_law_driven" = some (some (.ref g10)))
    (l10 : K.lookup g10 = some ⟨oc10, od10, .func (PySem.W.fnOf "_law_driven" "_law_driven" (defArgs s__law_driven) (defBody s__law_driven) (defScope s__law_driven) .none (kV10) dc10 pm10 an10 cd10 ct10), sl10⟩)
    (c10 : PySem.W.codeIn K cd10 "_law_driven" = true)
    (k10 : PySem.W.keepIn K (.ref g10) = true)
    (a11 : PySem.W.nsIn K mainGlobals "_law_resolved" = some (some (.ref g11)))
    (l11 : K.lookup g11 = some ⟨oc11, od11, .func (PySem.W.fnOf "_law_resolved" "_law_resolved" (defArgs s__law_resolved) (defBody s__law_resolved) (defScope s__law_resolved) .none (kV11) dc11 pm11 an11 cd11 ct11), sl11⟩)
    (c11 : PySem.W.codeIn K cd11 "_law_resolved" = true)
    (k11 : PySem.W.keepIn K (.ref g11) = true)
    (a12 : PySem.W.nsIn K mainGlobals "_law_pair_right" = some (some (.ref g12)))
    (l12 : K.lookup g12 = some ⟨oc12, od12, .func (PySem.W.fnOf "_law_pair_right" "_law_pair_right" (defArgs s__law_pair_right) (defBody s__law_pair_right) (defScope s__law_pair_right) .none (kV12) dc12 pm12 an12 cd12 ct12), sl12⟩)
    (c12 : PySem.W.codeIn K cd12 "_law_pair_right" = true)
    (k12 : PySem.W.keepIn K (.ref g12) = true)
    (a13 : PySem.W.nsIn K mainGlobals "_law_right" = some (some (.ref g13)))
    (l13 : K.lookup g13 = some ⟨oc13, od13, .func (PySem.W.fnOf "_law_right" "_law_right" (defArgs s__law_right) (defBody s__law_right) (defScope s__law_right) .none (kV13) dc13 pm13 an13 cd13 ct13), sl13⟩)
    (c13 : PySem.W.codeIn K cd13 "_law_right" = true)
    (k13 : PySem.W.keepIn K (.ref g13) = true)
    (a14 : PySem.W.nsIn K mainGlobals "law" = some (some (.ref g14)))
    (l14 : K.lookup g14 = some ⟨oc14, od14, .func (PySem.W.fnOf "law" "law" (defArgs s_law) (defBody s_law) (defScope s_law) .none (kV14) dc14 pm14 an14 cd14 ct14), sl14⟩)
    (c14 : PySem.W.codeIn K cd14 "law" = true)
    (k14 : PySem.W.keepIn K (.ref g14) = true)
    (z0 : PySem.W.nsIn K mainGlobals "all" = some none)
    (z1 : PySem.W.nsIn K mainGlobals "bool" = some none)
    (z2 : PySem.W.nsIn K mainGlobals "divmod" = some none)
    (z3 : PySem.W.nsIn K mainGlobals "isinstance" = some none)
    (z4 : PySem.W.nsIn K mainGlobals "len" = some none)
    (z5 : PySem.W.nsIn K mainGlobals "list" = some none)
    (z6 : PySem.W.nsIn K mainGlobals "max" = some none)
    (z7 : PySem.W.nsIn K mainGlobals "min" = some none)
    (z8 : PySem.W.nsIn K mainGlobals "range" = some none)
    (z9 : PySem.W.nsIn K mainGlobals "zip" = some none)
    (y0 : PySem.W.nsIn K mainGlobals "TOLD" = some (some (.str (Str.ofString "01") ty0)))
    : ∃ fd : FuncData, (∀ (s : Shared) (v : Value), BindsTo s fd ⟨[v], []⟩ [("_law_script", v)]) ∧ ∀ base : Heap, K.In base → base.Ns mainGlobals mg → FnOk l.prog w K mg base CX0 5 fa fd ["_law_script"] (spLaw K) := by
  have e := hfa.symm.trans (PySem.W.mg_of X G a14)
  cases e
  have B : Bi K w mg  := ⟨PySem.W.mg_none_of X G z0, PySem.W.mg_none_of X G z1, PySem.W.mg_none_of X G z2, PySem.W.mg_none_of X G z3, PySem.W.mg_none_of X G z4, PySem.W.mg_none_of X G z5, PySem.W.mg_none_of X G z6, PySem.W.mg_none_of X G z7, PySem.W.mg_none_of X G z8, PySem.W.mg_none_of X G z9, ⟨_, PySem.W.mg_of X G y0, _, rfl⟩⟩
  have F0 := fun_mk (st := s_covers) l0 c0 k0
  have b0 := F0.binds (ps := ["one", "other"]) fun _ _ _ _ _ _ us hl => match us, hl with | [_, _], _ => rfl
  have F1 := fun_mk (st := s_mixed_sign) l1 c1 k1
  have b1 := F1.binds (ps := ["one", "other"]) fun _ _ _ _ _ _ us hl => match us, hl with | [_, _], _ => rfl
  have F2 := fun_mk (st := s_mixed) l2 c2 k2
  have b2 := F2.binds (ps := ["one", "other"]) fun _ _ _ _ _ _ us hl => match us, hl with | [_, _], _ => rfl
  have F3 := fun_mk (st := s_resolved_sign) l3 c3 k3
  have b3 := F3.binds (ps := ["signs"]) fun _ _ _ _ _ _ us hl => match us, hl with | [_], _ => rfl
  have F4 := fun_mk (st := s_resolved) l4 c4 k4
  have b4 := F4.binds (ps := ["values"]) fun _ _ _ _ _ _ us hl => match us, hl with | [_], _ => rfl
  have F5 := fun_mk (st := s__law_at) l5 c5 k5
  have b5 := F5.binds (ps := ["_law_script", "_law_k"]) fun _ _ _ _ _ _ us hl => match us, hl with | [_, _], _ => rfl
  have F6 := fun_mk (st := s__law_pot) l6 c6 k6
  have b6 := F6.binds (ps := ["_law_script", "_law_k"]) fun _ _ _ _ _ _ us hl => match us, hl with | [_, _], _ => rfl
  have F7 := fun_mk (st := s__law_take) l7 c7 k7
  have b7 := F7.binds (ps := ["_law_pot_here", "_law_many"]) fun _ _ _ _ _ _ us hl => match us, hl with | [_, _], _ => rfl
  have F8 := fun_mk (st := s__law_values) l8 c8 k8
  have b8 := F8.binds (ps := ["_law_pot_here"]) fun _ _ _ _ _ _ us hl => match us, hl with | [_], _ => rfl
  have F9 := fun_mk (st := s__law_mixed) l9 c9 k9
  have b9 := F9.binds (ps := ["_law_one", "_law_other"]) fun _ _ _ _ _ _ us hl => match us, hl with | [_, _], _ => rfl
  have F10 := fun_mk (st := s__law_driven) l10 c10 k10
  have b10 := F10.binds (ps := ["_law_signs"]) fun _ _ _ _ _ _ us hl => match us, hl with | [_], _ => rfl
  have F11 := fun_mk (st := s__law_resolved) l11 c11 k11
  have b11 := F11.binds (ps := ["_law_values_here"]) fun _ _ _ _ _ _ us hl => match us, hl with | [_], _ => rfl
  have F12 := fun_mk (st := s__law_pair_right) l12 c12 k12
  have b12 := F12.binds (ps := ["_law_one", "_law_other"]) fun _ _ _ _ _ _ us hl => match us, hl with | [_, _], _ => rfl
  have F13 := fun_mk (st := s__law_right) l13 c13 k13
  have b13 := F13.binds (ps := ["_law_values_here"]) fun _ _ _ _ _ _ us hl => match us, hl with | [_], _ => rfl
  have F14 := fun_mk (st := s_law) l14 c14 k14
  refine ⟨PySem.W.fnOf "law" "law" (defArgs s_law) (defBody s_law) (defScope s_law) .none kV14 dc14 pm14 an14 cd14 ct14, fun s v => .of_eq rfl, fun base _ _ => ?_⟩
  have E0 : Df l.prog w K mg base CX0 "covers" 1 g0 _ ["one", "other"] (spCov) := ⟨ok_covers F0 B  , PySem.W.mg_of X G a0, k0, b0⟩
  have E1 : Df l.prog w K mg base CX0 "mixed_sign" 1 g1 _ ["one", "other"] (spMixS) := ⟨ok_mixed_sign F1 B  , PySem.W.mg_of X G a1, k1, b1⟩
  have E2 : Df l.prog w K mg base CX0 "mixed" 2 g2 _ ["one", "other"] (spMixed) := ⟨ok_mixed F2 B  E1, PySem.W.mg_of X G a2, k2, b2⟩
  have E3 : Df l.prog w K mg base CX0 "resolved_sign" 1 g3 _ ["signs"] (spRS K) := ⟨ok_resolved_sign F3 B  , PySem.W.mg_of X G a3, k3, b3⟩
  have E4 : Df l.prog w K mg base CX0 "resolved" 2 g4 _ ["values"] (spRes K resS) := ⟨ok_resolved F4 B  E3, PySem.W.mg_of X G a4, k4, b4⟩
  have E5 : Df l.prog w K mg base CX0 "_law_at" 1 g5 _ ["_law_script", "_law_k"] (spAt K) := ⟨ok__law_at F5 B  , PySem.W.mg_of X G a5, k5, b5⟩
  have E6 : Df l.prog w K mg base CX0 "_law_pot" 2 g6 _ ["_law_script", "_law_k"] (spPot K) := ⟨ok__law_pot F6 B  E5, PySem.W.mg_of X G a6, k6, b6⟩
  have E7 : Df l.prog w K mg base CX0 "_law_take" 1 g7 _ ["_law_pot_here", "_law_many"] (spTake) := ⟨ok__law_take F7 B  , PySem.W.mg_of X G a7, k7, b7⟩
  have E8 : Df l.prog w K mg base CX0 "_law_values" 2 g8 _ ["_law_pot_here"] (spValues) := ⟨ok__law_values F8 B  E7, PySem.W.mg_of X G a8, k8, b8⟩
  have E9 : Df l.prog w K mg base CX0 "_law_mixed" 1 g9 _ ["_law_one", "_law_other"] (spMixed) := ⟨ok__law_mixed F9 B  , PySem.W.mg_of X G a9, k9, b9⟩
  have E10 : Df l.prog w K mg base CX0 "_law_driven" 1 g10 _ ["_law_signs"] (spDrv K) := ⟨ok__law_driven F10 B  , PySem.W.mg_of X G a10, k10, b10⟩
  have E11 : Df l.prog w K mg base CX0 "_law_resolved" 2 g11 _ ["_law_values_here"] (spRes K drvS) := ⟨ok__law_resolved F11 B  E10, PySem.W.mg_of X G a11, k11, b11⟩
  have E12 : Df l.prog w K mg base CX0 "_law_pair_right" 3 g12 _ ["_law_one", "_law_other"] (spPair) := ⟨ok__law_pair_right F12 B  E0 E2 E9, PySem.W.mg_of X G a12, k12, b12⟩
  have E13 : Df l.prog w K mg base CX0 "_law_right" 4 g13 _ ["_law_values_here"] (spRight K) := ⟨ok__law_right F13 B  E4 E11 E12, PySem.W.mg_of X G a13, k13, b13⟩
  exact ok_law F14 B  E6 E8 E13
end Dw
open PySem PySem.W PyProof.Rows
set_option maxHeartbeats 0 in
theorem PySem.Challenge.cw_deltawires_k13_covered_mixed_resolved_holds : PySem.Challenge.rw_deltawires_k13_covered_mixed_resolved.Holds := by
  w_on; o_law; k_head; (case hw => w_witness2)
  k_fill
  refine L2.walk_of (l := PySem.Challenge.rw_deltawires_k13_covered_mixed_resolved) (n := 63) (k := 5) (x := "_law_script") (CX := fun _ => L2.CX0) (sp := fun w => Dw.spLaw _) rfl (by decide) rfl ⟨rfl, by decide, by decide⟩ (fun w h Y => PySem.W.kIn_of Y) ?F (fun _ _ a ns hl _ hS => ⟨a, ns, rfl, hS, hl, fun _ => rfl⟩) (fun _ _ _ _ _ h => h)
  case F =>
    intro w mg fa h KX G hmg
    refine' Dw.all_mk KX G hmg ?a0 ?l0 ?c0 ?k0 ?a1 ?l1 ?c1 ?k1 ?a2 ?l2 ?c2 ?k2 ?a3 ?l3 ?c3 ?k3 ?a4 ?l4 ?c4 ?k4 ?a5 ?l5 ?c5 ?k5 ?a6 ?l6 ?c6 ?k6 ?a7 ?l7 ?c7 ?k7 ?a8 ?l8 ?c8 ?k8 ?a9 ?l9 ?c9 ?k9 ?a10 ?l10 ?c10 ?k10 ?a11 ?l11 ?c11 ?k11 ?a12 ?l12 ?c12 ?k12 ?a13 ?l13 ?c13 ?k13 ?a14 ?l14 ?c14 ?k14 ?z0 ?z1 ?z2 ?z3 ?z4 ?z5 ?z6 ?z7 ?z8 ?z9 ?y0
    (case a0 => k_is)
    (case l0 => k_is)
    (case c0 => k_is)
    (case k0 => k_is)
    (case a1 => k_is)
    (case l1 => k_is)
    (case c1 => k_is)
    (case k1 => k_is)
    (case a2 => k_is)
    (case l2 => k_is)
    (case c2 => k_is)
    (case k2 => k_is)
    (case a3 => k_is)
    (case l3 => k_is)
    (case c3 => k_is)
    (case k3 => k_is)
    (case a4 => k_is)
    (case l4 => k_is)
    (case c4 => k_is)
    (case k4 => k_is)
    (case a5 => k_is)
    (case l5 => k_is)
    (case c5 => k_is)
    (case k5 => k_is)
    (case a6 => k_is)
    (case l6 => k_is)
    (case c6 => k_is)
    (case k6 => k_is)
    (case a7 => k_is)
    (case l7 => k_is)
    (case c7 => k_is)
    (case k7 => k_is)
    (case a8 => k_is)
    (case l8 => k_is)
    (case c8 => k_is)
    (case k8 => k_is)
    (case a9 => k_is)
    (case l9 => k_is)
    (case c9 => k_is)
    (case k9 => k_is)
    (case a10 => k_is)
    (case l10 => k_is)
    (case c10 => k_is)
    (case k10 => k_is)
    (case a11 => k_is)
    (case l11 => k_is)
    (case c11 => k_is)
    (case k11 => k_is)
    (case a12 => k_is)
    (case l12 => k_is)
    (case c12 => k_is)
    (case k12 => k_is)
    (case a13 => k_is)
    (case l13 => k_is)
    (case c13 => k_is)
    (case k13 => k_is)
    (case a14 => k_is)
    (case l14 => k_is)
    (case c14 => k_is)
    (case k14 => k_is)
    (case z0 => k_is)
    (case z1 => k_is)
    (case z2 => k_is)
    (case z3 => k_is)
    (case z4 => k_is)
    (case z5 => k_is)
    (case z6 => k_is)
    (case z7 => k_is)
    (case z8 => k_is)
    (case z9 => k_is)
    (case y0 => k_is)
