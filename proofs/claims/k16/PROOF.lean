import PyProof.Rows.All
import Wide.All
import OpenK.AllK
import Wide.FinOn
import HandS.ForMost
import HandS.Evl
import HandS.Walk
import HandS.Steps
import HandS.IsInst
import HandS.Defaults
import HandS.More
import HandS.ReplaceLit
import HandS.ReplaceDef
import HandS.ReplaceList
import HandS.Star
import HandS.CallLocal
import HandS.Style
import KE.GoesNew
import PyProof.Rows.SortShellAny
import HandS.Strs
import HandS.SetFor
import KE.KTupSum
import KE.OsArith
import HandS.WideBits
import PySem.Challenge.RW_deltawires_k16_whole_numbers_by_all_fill
set_option Elab.async false
set_option linter.all false
set_option maxRecDepth 100000
namespace Dw
open PySem L2 Evl
/-! ### general words -/
def GlV (mg : Str → Option Value) (x : Str) (v : V) : Prop := ∃ u, mg x = some u ∧ RelV v u
theorem pgl {X : Cx} {x : Str} {v : V} {pos : Pos} (hg : Gl X x) (h : GlV X.mg x v) (hd : (x == ("__debug__" : Str)) = false := by decide) : PE X (.Name x pos) (tC v) :=
  let ⟨_, a, b⟩ := h
  pe_glob hg a b hd
/-- a def as callers know it -/
structure Df (P : Program) (w : World) (K : PySem.W.Frag) (mg : Str → Option Value) (base : Heap) (CX : CXT) (x : Str) (k : Nat) (f : Addr) (fd : FuncData) (ps : List Str) (sp : Sp) : Prop where
  ok : FnOk P w K mg base CX k f fd ps sp
  g : mg x = some (.ref f)
  kp : PySem.W.keepIn K (.ref f) = true
  b : Binds K fd ps []
/-- all but what stands at p is as it was -/
def ExB (p : Addr) (H H' : Hp) : Prop := ∀ b o, b ≠ p → H b = some o → H' b = some o
theorem ExB.refl (p : Addr) (H : Hp) : ExB p H H := fun _ _ _ h => h
theorem ExB.trans {p : Addr} {H H1 H2 : Hp} (a : ExB p H H1) (b : ExB p H1 H2) : ExB p H H2 := fun c o n h => b c o n (a c o n h)
theorem ExB.of {p : Addr} {H H' : Hp} (e : Ex H H') : ExB p H H' := fun b o _ h => e b o h
theorem ExB.upd {p : Addr} {H H' : Hp} {o : HO} (e : ExB p H H') : ExB p H (upd H' p o) := fun b u n h => by
  rw [upd_ne n]
  exact e b u n h
theorem ExB.back {p : Addr} {H0 H H' : Hp} (e0 : Ex H0 H) (hp : H0 p = none) (e : ExB p H H') : Ex H0 H' := fun b o h => e b o (ne_of_none h hp) (e0 b o h)
theorem ExB.rd {p a : Addr} {H H' : Hp} {u : HO} (e : ExB p H H') (n : a ≠ p) (h : Rd H a u) : Rd H' a u := by
  rcases h with h | ⟨o, h⟩
  · exact Or.inl (e a _ n h)
  · exact Or.inr ⟨o, e a _ n h⟩
theorem ExB.sq {K : PySem.W.Frag} {p a : Addr} {xs : List V} {H H' : Hp} (e : ExB p H H') (n : a ≠ p) (h : SqL K H a xs) : SqL K H' a xs := by
  rcases h with h | h
  · exact Or.inl (e.rd n h)
  · exact Or.inr h
/-- the pot: two numbers, of which take draws -/
def PotAt (H : Hp) (p : Addr) : Prop := ∃ x y : Int, H p = some (.lst [.int x, .int y]) ∧ 0 ≤ x ∧ 0 ≤ y ∧ y < 2147483647
theorem PotAt.ex {H H' : Hp} {p : Addr} (h : PotAt H p) (e : Ex H H') : PotAt H' p := by
  obtain ⟨x, y, h1, h2⟩ := h
  exact ⟨x, y, e _ _ h1, h2⟩
def spAt (K : PySem.W.Frag) : Sp := fun vs H Q _ => ∃ (a : Addr) (ns : List Int) (k : Int), vs = [.ref a, .int k] ∧ SqL K H a (ns.map V.int) ∧ 0 ≤ k ∧ ∀ c : Int, Q (.int c) H
def spPot (K : PySem.W.Frag) : Sp := fun vs H Q _ => ∃ (a : Addr) (ns : List Int) (k : Int), vs = [.ref a, .int k] ∧ SqL K H a (ns.map V.int) ∧ 0 ≤ k ∧ k ≤ 1000 ∧ ∀ (p : Addr) (H' : Hp), H p = none → Ex H H' → PotAt H' p → Q (.ref p) H'
def spTake : Sp := fun vs H Q _ => ∃ (p : Addr) (m : Int), vs = [.ref p, .int m] ∧ PotAt H p ∧ 0 < m ∧ m < 1073741824 ∧ ∀ (H' : Hp) (d : Int), ExB p H H' → PotAt H' p → 0 ≤ d → d < m → Q (.int d) H'
theorem at_map {ns : List Int} {k : Int} (h0 : 0 ≤ k) (h1 : k < ((ns.map V.int).length : Int)) : ∃ c : Int, atI (ns.map V.int) k = some (.int c) := by
  obtain ⟨j, rfl⟩ := Int.eq_ofNat_of_zero_le h0
  have h2 : j < ns.length := by
    rw [List.length_map] at h1
    omega
  refine ⟨ns[j], atI_nat ?_⟩
  rw [List.getElem?_map, List.getElem?_eq_getElem h2]
  rfl
/-! ### texts by their codes -/
abbrev Tx (l : List Nat) : Str := ⟨l.toArray⟩
theorem Tx_len (l : List Nat) : (Tx l).length = l.length := by simp [Tx, Str.length]
theorem Tx_tl (x : Str) : Tx x.cps.toList = x := TL.mk_tl x
theorem Tx_inj {a b : List Nat} (h : Tx a = Tx b) : a = b := congrArg (fun x : Str => x.cps.toList) h
theorem Tx_cat (a b : List Nat) : Tx a ++ Tx b = Tx (a ++ b) := TL.ext_tl (TL.tl_append (Tx a) (Tx b))
theorem joinL_ones : ∀ l : List Nat, TL.joinL [] (l.map fun c => [c]) = l
  | [] => rfl
  | [_] => rfl
  | c :: d :: r => by
    show [c] ++ ([] ++ TL.joinL [] ((d :: r).map fun c => [c])) = c :: d :: r
    rw [joinL_ones (d :: r)]
    rfl
theorem tl_empty : TL.tl (Str.ofString "") = [] := by decide +kernel
theorem join_ones (l : List Nat) : Txt.join (Str.ofString "") (l.map fun c => Tx [c]) = Tx l := by
  refine TL.ext_tl ?_
  rw [TL.join_eq, TL.tl_join, tl_empty, List.map_map]
  show TL.joinL [] (l.map fun c => [c]) = l
  exact joinL_ones l
theorem ones_len (l : List Nat) : ((l.map fun c => Tx [c]).map (·.length)).sum + (l.map fun c => Tx [c]).length * (Str.ofString "").length = l.length := by
  have e : (Str.ofString "").length = 0 := by decide +kernel
  rw [e, Nat.mul_zero, Nat.add_zero]
  induction l with
  | nil => rfl
  | cons c l ih =>
    rw [List.map_cons, List.map_cons, List.sum_cons, ih, Tx_len]
    simp
    omega
theorem map_strs (l : List Nat) : (l.map fun c => Tx [c]).map V.str = l.map fun c => V.str (Tx [c]) := by
  rw [List.map_map]
  rfl
/-! ### comprehensions by lists -/
theorem range_getD {α : Type} (l : List α) (d : α) : (List.range l.length).map (fun i => l.getD i d) = l := by
  apply List.ext_getElem
  · simp
  · intro i h1 h2
    simp at h1
    simp [h1]
theorem given_list {α : Type} (l : List α) (d : α) (p : α → Bool) (g : α → V) : given l.length (fun i => p (l.getD i d)) (fun i => g (l.getD i d)) = (l.filter p).map g := by
  unfold given
  have e : l.filter p = ((List.range l.length).map (fun i => l.getD i d)).filter p := by rw [range_getD]
  rw [e, List.filter_map, List.map_map]
  rfl
theorem given_all {α : Type} (l : List α) (d : α) (g : α → V) : given l.length (fun _ => true) (fun i => g (l.getD i d)) = l.map g := by
  have e := given_list l d (fun _ => true) g
  rw [List.filter_eq_self.mpr (fun _ _ => rfl)] at e
  exact e
section
variable {K : PySem.W.Frag} {σ : L2.St} {H H' : Hp} {ta tb te tx tl : TE} {t u : TT} {x y z v : V}
theorem el_lcS {z : Str} {j : Nat} {vs : List Nat} (f : Nat → Bool) (v : Nat → V) (h : Ev tl σ H (.str z)) (hz : z.cps.size ≤ 40000) (hw : ∀ x, wipe ((wipe σ vs).set j (some x)) vs = wipe σ vs)
    (ht : ∀ (i : Nat) (c : Nat) H1, Ex H H1 → z.cps[i]? = some c → EvT t ((wipe σ vs).set j (some (.str ⟨#[c]⟩))) H1 (f i)) (he : ∀ (i : Nat) (c : Nat) H1, Ex H H1 → z.cps[i]? = some c → f i = true → Ev te ((wipe σ vs).set j (some (.str ⟨#[c]⟩))) H1 (v i)) :
    EvL (tLc (iStr tl) (gName j) t te vs) σ H (given z.cps.size f v) := fun H0 e Q q => h H0 e _ fun H1 e1 => ⟨z, rfl, fun Dl hD =>
  lc_it walk_str (Cw H1 f v Dl) ⟨hD, Ex.new hD, upd_same⟩ (fun _ _ _ _ => True.intro) (fun i x H2 H3 hi p y => by
    obtain ⟨rfl, c, hc, rfl⟩ := y
    exact ⟨hw _, cw_turn p (by omega) (ht i c H1 (e.trans e1) hc) (fun hf => he i c H1 (e.trans e1) hc hf)⟩)
    (fun H' p => q Dl H' (fresh_back e1 p.1) (e1.trans p.2.1) p.2.2)⟩
/-- over a text: p tells which codes, g what of each -/
theorem el_lcT {l : List Nat} {j : Nat} {vs : List Nat} (p : Nat → Bool) (g : Nat → V) (h : Ev tl σ H (.str (Tx l))) (hz : l.length ≤ 40000) (hw : ∀ x, wipe ((wipe σ vs).set j (some x)) vs = wipe σ vs)
    (ht : ∀ (c : Nat) H1, Ex H H1 → c ∈ l → EvT t ((wipe σ vs).set j (some (.str (Tx [c])))) H1 (p c)) (he : ∀ (c : Nat) H1, Ex H H1 → c ∈ l → p c = true → Ev te ((wipe σ vs).set j (some (.str (Tx [c])))) H1 (g c)) :
    EvL (tLc (iStr tl) (gName j) t te vs) σ H ((l.filter p).map g) := by
  have hs : (Tx l).cps.size = l.length := Tx_len l
  have key : ∀ (i c : Nat), (Tx l).cps[i]? = some c → l.getD i 0 = c ∧ c ∈ l := fun i c hc => by
    have h1 : l[i]? = some c := by
      rw [← hc]
      simp [Tx]
    exact ⟨by rw [List.getD_eq_getElem?_getD, h1]; rfl, List.mem_of_getElem? h1⟩
  rw [← given_list l 0 p g, ← hs]
  refine el_lcS (fun i => p (l.getD i 0)) (fun i => g (l.getD i 0)) h (by omega) hw (fun i c H1 e hc => ?_) (fun i c H1 e hc hf => ?_)
  · obtain ⟨e1, e2⟩ := key i c hc
    simp only [e1]
    exact ht c H1 e e2
  · obtain ⟨e1, e2⟩ := key i c hc
    simp only [e1] at hf ⊢
    exact he c H1 e e2 hf
theorem et_yes : EvT tYes σ H true := fun H1 _ _ q => q H1 (Ex.refl H1)
theorem ev_cbL {r : List V → Hp → VK → Prop} {xs : List V} (h : EvL te σ H xs) (hr : ∀ p H1, H1 p = some (.lst xs) → Ex H H1 → RC r [.ref p] H1 z) : Ev (tCB r (tCons te tNil)) σ H z := fun H1 e Q q =>
  h H1 e _ fun p H2 _ e2 h2 => hr p H2 h2 (e.trans e2) H2 (Ex.refl _) Q fun H3 e3 => q H3 (e2.trans e3)
theorem ev_all {bs : List Bool} (h : EvL te σ H (bs.map V.bl)) : Ev (tCB (rAll K) (tCons te tNil)) σ H (.bl (bs.all id)) :=
  ev_cbL h fun p _ hp _ H2 e2 _ q => ⟨p, bs, rfl, sq_of (e2 p _ hp), q H2 (Ex.refl _)⟩
def rJoinS (K : PySem.W.Frag) : V → List V → Hp → VK → Prop := fun x xs H Q => ∃ a p, ∃ ys : List Str, x = .str a ∧ xs = [.ref p] ∧ (SqL K H p (ys.map V.str) ∨ SqT K H p (ys.map V.str)) ∧
      (ys.map (·.length)).sum + ys.length * a.length ≤ 16777216 ∧ Q (.str (Txt.join a ys)) H
/-- ''.join of a new list of signs -/
theorem ev_join1 {l : List Nat} (h : EvL te σ H (l.map fun c => V.str (Tx [c]))) (hz : l.length ≤ 40000) : Ev (tM1 (rJoinS K) (tC (.str (Str.ofString ""))) te) σ H (.str (Tx l)) := fun H1 e Q q =>
  ⟨⟨_, rfl⟩, h H1 e _ fun p H2 _ e2 h2 => ⟨Str.ofString "", p, l.map fun c => Tx [c], rfl, rfl, Or.inl (sq_of (by rw [map_strs]; exact h2)), by rw [ones_len]; omega, by rw [join_ones]; exact q H2 e2⟩⟩
theorem ev_inS {c : Nat} {w : Str} (ha : Ev ta σ H (.str (Tx [c]))) (hb : Ev tb σ H (.str w)) : Ev (tOp rInS ta tb) σ H (.bl (decide (c ∈ w.cps.toList))) :=
  ev_op ha hb fun H1 _ _ q => ⟨c, w, rfl, rfl, q H1 (Ex.refl _)⟩
theorem ev_notInS {c : Nat} {w : Str} (ha : Ev ta σ H (.str (Tx [c]))) (hb : Ev tb σ H (.str w)) : Ev (tOp rNotInS ta tb) σ H (.bl (!decide (c ∈ w.cps.toList))) :=
  ev_op ha hb fun H1 _ _ q => ⟨c, w, rfl, rfl, q H1 (Ex.refl _)⟩
def rLenT : List V → Hp → VK → Prop := fun xs H Q => ∃ z, xs = [.str z] ∧ z.length ≤ sizeLine ∧ Q (.int z.length) H
theorem ev_lenT {l : List Nat} (ha : Ev ta σ H (.str (Tx l))) (hz : l.length ≤ 40000) : Ev (tCB rLenT (tCons ta tNil)) σ H (.int (l.length : Int)) := fun H1 e Q q =>
  ha H1 e _ fun H2 e2 => ⟨Tx l, rfl, sz_of (by rw [Tx_len]; omega), by rw [Tx_len]; exact q H2 e2⟩
end
/-! ### lists of texts and of numbers compared -/
theorem dpAll_strs {K : PySem.W.Frag} {H : Hp} : ∀ xs : List Str, DpAll K H (xs.map V.str) (xs.map PyData.str)
  | [] => .nil
  | x :: xs => .cons (.str x) (dpAll_strs xs)
theorem dpAll_ints {K : PySem.W.Frag} {H : Hp} : ∀ xs : List Int, DpAll K H (xs.map V.int) (xs.map PyData.int)
  | [] => .nil
  | x :: xs => .cons (.int x) (dpAll_ints xs)
theorem dpAll_bls {K : PySem.W.Frag} {H : Hp} : ∀ xs : List Bool, DpAll K H (xs.map V.bl) (xs.map PyData.bool)
  | [] => .nil
  | x :: xs => .cons (.bl x) (dpAll_bls xs)
theorem eqvAll_strs : ∀ xs ys : List Str, PyData.eqvAll (xs.map PyData.str) (ys.map PyData.str) = decide (xs = ys)
  | [], [] => by simp [PyData.eqvAll]
  | [], y :: ys => by simp [PyData.eqvAll]
  | x :: xs, [] => by simp [PyData.eqvAll]
  | x :: xs, y :: ys => by
    have ih := eqvAll_strs xs ys
    simp only [List.map_cons, PyData.eqvAll, PyData.eqv, ih]
    rw [Bool.eq_iff_iff]
    simp
theorem eqvAll_ints : ∀ xs ys : List Int, PyData.eqvAll (xs.map PyData.int) (ys.map PyData.int) = decide (xs = ys)
  | [], [] => by simp [PyData.eqvAll]
  | [], y :: ys => by simp [PyData.eqvAll]
  | x :: xs, [] => by simp [PyData.eqvAll]
  | x :: xs, y :: ys => by
    have ih := eqvAll_ints xs ys
    simp only [List.map_cons, PyData.eqvAll, PyData.eqv, ih]
    rw [Bool.eq_iff_iff]
    simp
theorem eqvAll_bls : ∀ xs ys : List Bool, PyData.eqvAll (xs.map PyData.bool) (ys.map PyData.bool) = decide (xs = ys)
  | [], [] => by simp [PyData.eqvAll]
  | [], y :: ys => by simp [PyData.eqvAll]
  | x :: xs, [] => by simp [PyData.eqvAll]
  | x :: xs, y :: ys => by
    have ih := eqvAll_bls xs ys
    simp only [List.map_cons, PyData.eqvAll, PyData.eqv, ih]
    rw [Bool.eq_iff_iff]
    simp
def LowS (x : Str) : Prop := PyData.canLay0 (.str x) = true
theorem lay_strs : ∀ {xs : List Str}, (∀ x ∈ xs, LowS x) → PyData.canLayAll0 (xs.map PyData.str) = true
  | [], _ => by simp [PyData.canLayAll0]
  | x :: xs, h => by
    rw [List.map_cons, PyData.canLayAll0, h x (List.mem_cons_self ..), lay_strs fun y hy => h y (List.mem_cons_of_mem _ hy)]
    rfl
theorem lay_ints : ∀ xs : List Int, PyData.canLayAll0 (xs.map PyData.int) = true
  | [] => by simp [PyData.canLayAll0]
  | x :: xs => by
    rw [List.map_cons, PyData.canLayAll0, lay_ints xs]
    simp [PyData.canLay0]
theorem lay_bls : ∀ xs : List Bool, PyData.canLayAll0 (xs.map PyData.bool) = true
  | [] => by simp [PyData.canLayAll0]
  | x :: xs => by
    rw [List.map_cons, PyData.canLayAll0, lay_bls xs]
    simp [PyData.canLay0]
theorem deep_strs : ∀ xs : List Str, PyData.depthAll (xs.map PyData.str) = 0
  | [] => by simp [PyData.depthAll]
  | x :: xs => by
    rw [List.map_cons, PyData.depthAll, deep_strs xs]
    simp [PyData.depth]
theorem deep_ints : ∀ xs : List Int, PyData.depthAll (xs.map PyData.int) = 0
  | [] => by simp [PyData.depthAll]
  | x :: xs => by
    rw [List.map_cons, PyData.depthAll, deep_ints xs]
    simp [PyData.depth]
theorem deep_bls : ∀ xs : List Bool, PyData.depthAll (xs.map PyData.bool) = 0
  | [] => by simp [PyData.depthAll]
  | x :: xs => by
    rw [List.map_cons, PyData.depthAll, deep_bls xs]
    simp [PyData.depth]
theorem shaped_strs {xs : List Str} (h : ∀ x ∈ xs, LowS x) : SeqAt.shaped (.list (xs.map PyData.str)) = true := by
  unfold SeqAt.shaped
  rw [PyData.canLay0, lay_strs h, PyData.depth, deep_strs]
  rfl
theorem shaped_ints (xs : List Int) : SeqAt.shaped (.list (xs.map PyData.int)) = true := by
  unfold SeqAt.shaped
  rw [PyData.canLay0, lay_ints, PyData.depth, deep_ints]
  rfl
theorem shaped_bls (xs : List Bool) : SeqAt.shaped (.list (xs.map PyData.bool)) = true := by
  unfold SeqAt.shaped
  rw [PyData.canLay0, lay_bls, PyData.depth, deep_bls]
  rfl
theorem low_Tx {l : List Nat} (h : ∀ c ∈ l, c < 128) : LowS (Tx l) := by
  unfold LowS
  rw [PyData.canLay0]
  unfold PyData.strOk
  first
    | (simp only [Tx, List.all_toArray, List.all_eq_true]; intro c hc; have := h c hc; simp; omega)
    | (simp [Tx]; intro c hc; have := h c hc; omega)
section
variable {K : PySem.W.Frag} {H : Hp}
theorem rv_eqStrs {p q : Addr} {xs ys : List Str} (h1 : SqL K H p (xs.map V.str)) (h2 : SqL K H q (ys.map V.str)) (l1 : ∀ x ∈ xs, LowS x) (l2 : ∀ x ∈ ys, LowS x) : RV (rEqD K) (.ref p) (.ref q) H (.bl (decide (xs = ys))) := fun H1 e Q k =>
  ⟨_, _, .lst (ex_l e h1) (dpAll_strs xs), .lst (ex_l e h2) (dpAll_strs ys), shaped_strs l1, shaped_strs l2, by rw [PyData.eqv, eqvAll_strs]; exact k H1 (Ex.refl _)⟩
theorem rv_neStrs {p q : Addr} {xs ys : List Str} (h1 : SqL K H p (xs.map V.str)) (h2 : SqL K H q (ys.map V.str)) (l1 : ∀ x ∈ xs, LowS x) (l2 : ∀ x ∈ ys, LowS x) : RV (rNeD K) (.ref p) (.ref q) H (.bl (!decide (xs = ys))) := fun H1 e Q k =>
  ⟨_, _, .lst (ex_l e h1) (dpAll_strs xs), .lst (ex_l e h2) (dpAll_strs ys), shaped_strs l1, shaped_strs l2, by rw [PyData.eqv, eqvAll_strs]; exact k H1 (Ex.refl _)⟩
theorem rv_eqInts {p q : Addr} {xs ys : List Int} (h1 : SqL K H p (xs.map V.int)) (h2 : SqL K H q (ys.map V.int)) : RV (rEqD K) (.ref p) (.ref q) H (.bl (decide (xs = ys))) := fun H1 e Q k =>
  ⟨_, _, .lst (ex_l e h1) (dpAll_ints xs), .lst (ex_l e h2) (dpAll_ints ys), shaped_ints xs, shaped_ints ys, by rw [PyData.eqv, eqvAll_ints]; exact k H1 (Ex.refl _)⟩
theorem rv_neBls {p q : Addr} {xs ys : List Bool} (h1 : SqL K H p (xs.map V.bl)) (h2 : SqL K H q (ys.map V.bl)) : RV (rNeD K) (.ref p) (.ref q) H (.bl (!decide (xs = ys))) := fun H1 e Q k =>
  ⟨_, _, .lst (ex_l e h1) (dpAll_bls xs), .lst (ex_l e h2) (dpAll_bls ys), shaped_bls xs, shaped_bls ys, by rw [PyData.eqv, eqvAll_bls]; exact k H1 (Ex.refl _)⟩
theorem rv_eqBls {p q : Addr} {xs ys : List Bool} (h1 : SqL K H p (xs.map V.bl)) (h2 : SqL K H q (ys.map V.bl)) : RV (rEqD K) (.ref p) (.ref q) H (.bl (decide (xs = ys))) := fun H1 e Q k =>
  ⟨_, _, .lst (ex_l e h1) (dpAll_bls xs), .lst (ex_l e h2) (dpAll_bls ys), shaped_bls xs, shaped_bls ys, by rw [PyData.eqv, eqvAll_bls]; exact k H1 (Ex.refl _)⟩
end
section
variable {K : PySem.W.Frag} {σ : L2.St} {H H' : Hp} {ta tb tc te tx tl : TE} {t u : TT} {x y z v : V}
theorem ev_chain {r r' : R2} {w' : V} {k k2 : Bool} (ha : Ev ta σ H x) (hb : Ev tb σ H y) (h1 : RV r x y H (.bl k)) (h2 : k = true → Ev tc σ H w' ∧ RV r' y w' H (.bl k2)) : Ev (tChain r r' ta tb tc) σ H (.bl (k && k2)) := fun H1 e Q q =>
  ha H1 e _ fun H2 e2 => hb H2 (e.trans e2) _ fun H3 e3 => h1 H3 ((e.trans e2).trans e3) _ fun H4 e4 => ⟨k, rfl, by
    cases k with
    | true =>
      obtain ⟨hc, h3⟩ := h2 rfl
      show tc σ H4 fun w' H4 => r' y w' H4 Q
      exact hc H4 (((e.trans e2).trans e3).trans e4) _ fun H5 e5 => h3 H5 ((((e.trans e2).trans e3).trans e4).trans e5) Q fun H6 e6 => q H6 ((((e2.trans e3).trans e4).trans e5).trans e6)
    | false =>
      show Q (.bl false) H4
      exact q H4 ((e2.trans e3).trans e4)⟩
theorem ev_isi {T : String} {b : Bool} (ha : Ev ta σ H v) (hb : Ev tb σ H (.ty T)) (ty : ∀ H1, Ex H H1 → ∃ t, TyX K H1 v (.type t) ∧ kitB t T = some b) : Ev (tCB (rIsi K) (tCons ta (tCons tb tNil))) σ H (.bl b) := fun H1 e Q q =>
  ha H1 e _ fun H2 e2 => hb H2 (e.trans e2) _ fun H3 e3 => by
    obtain ⟨t, h1, h2⟩ := ty H3 ((e.trans e2).trans e3)
    exact ⟨v, .ty T, .type t, .type T, b, rfl, .ty T, h1, kit_ty h2, q H3 (e2.trans e3)⟩
theorem ev_eqS {r : R2} (ha : Ev ta σ H x) (hb : Ev tb σ H y) (h : RV r x y H z) : Ev (tOp r ta tb) σ H z := ev_op ha hb h
end
theorem op_mulS {X : Cx} : OpR X (binaryOp .Mult) (fun x y H Q => ∃ a i, x = .str a ∧ y = .int i ∧ MulOk a i ∧ Q (.str (Txt.mul a i)) H) := by
  intro pins s σ H x y v u Q I rx ry h
  obtain ⟨a, i, rfl, rfl, hm, q⟩ := h
  obtain ⟨t, rfl⟩ := rx
  obtain ⟨t', rfl⟩ := ry
  exact SB.mul hm fun t' k => ⟨.str (Txt.mul a i), H, I.tok _, ⟨_, rfl⟩, q⟩
structure DfD (P : Program) (w : World) (K : PySem.W.Frag) (mg : Str → Option Value) (base : Heap) (CX : CXT) (x : Str) (k : Nat) (f : Addr) (fd : FuncData) (ps : List Str) (sp : Sp) : Prop where
  ok : FnOk P w K mg base CX k f fd ps sp
  g : mg x = some (.ref f)
  kp : PySem.W.keepIn K (.ref f) = true
section
variable {K : PySem.W.Frag} {σ : L2.St} {H H' : Hp} {ta tb tc te tx tl : TE} {t u : TT} {x y z v : V}
theorem el_lcT1 {l : List Nat} {j : Nat} {vs : List Nat} (g : Nat → V) (h : Ev tl σ H (.str (Tx l))) (hz : l.length ≤ 40000) (hw : ∀ x, wipe ((wipe σ vs).set j (some x)) vs = wipe σ vs)
    (he : ∀ (c : Nat) H1, Ex H H1 → c ∈ l → Ev te ((wipe σ vs).set j (some (.str (Tx [c])))) H1 (g c)) :
    EvL (tLc (iStr tl) (gName j) tYes te vs) σ H (l.map g) := by
  have e := el_lcT (fun _ => true) g h hz hw (fun c H1 _ _ => et_yes) (fun c H1 e hc _ => he c H1 e hc)
  rw [List.filter_eq_self.mpr (fun _ _ => rfl)] at e
  exact e
theorem ev_callN {sp : Sp} {n m : Nat} {gV : List V → List V → List V} {E : XK} {tA tK : TA} {vs zs : List V} (h : EvA tA σ H vs) (hk : EvA tK σ H zs) (l1 : vs.length = n) (l2 : zs.length = m) (hs : SpV sp (gV vs zs) H z) : Ev (tCallN n m sp gV E tA tK) σ H z := fun H1 e Q q =>
  h H1 e _ fun H2 e2 => hk H2 (e.trans e2) _ fun H3 e3 => ⟨l1, l2, hs H3 ((e.trans e2).trans e3) Q (fun H4 e4 => q H4 ((e2.trans e3).trans e4)) E⟩
end
theorem ExB.mut {p D : Addr} {H H' : Hp} {o : HO} (e : ExB p H H') (h : H D = none) : ExB p H (L2.upd H' D o) := fun b u n hb => by
  rw [upd_ne (ne_of_none hb h)]
  exact e b u n hb
theorem PotAt.upd {H : Hp} {p D : Addr} {o : HO} (h : PotAt H p) (n : D ≠ p) : PotAt (L2.upd H D o) p := by
  obtain ⟨x, y, h1, h2⟩ := h
  exact ⟨x, y, (upd_ne n.symm).trans h1, h2⟩
theorem PotAt.ne {H : Hp} {p D : Addr} (h : PotAt H p) (n : H D = none) : D ≠ p := fun z => by
  obtain ⟨x, y, h1, _⟩ := h
  rw [z, h1] at n
  cases n
theorem at_sign {l : List Nat} {d : Int} (h0 : 0 ≤ d) (h1 : d < (l.length : Int)) : ∃ c, atI (Tx l).cps.toList d = some c ∧ c ∈ l := by
  obtain ⟨j, rfl⟩ := Int.eq_ofNat_of_zero_le h0
  have h2 : j < l.length := by omega
  refine ⟨l[j], atI_nat ?_, List.getElem_mem h2⟩
  show l[j]? = some l[j]
  exact List.getElem?_eq_getElem h2
def sgn : List Nat := [48, 49, 120, 122]
theorem e_sgn : (Str.ofString "01xz").cps.toList = sgn := by decide +kernel
/-! ### zip of two texts -/
def Itzs (x y : Str) : It := ⟨fun i _ => i < min x.cps.size y.cps.size,
  fun i H v H' => ∃ T c d, v = .ref T ∧ H T = none ∧ H' = upd H T (.tup [.str ⟨#[c]⟩, .str ⟨#[d]⟩]) ∧ x.cps[i]? = some c ∧ y.cps[i]? = some d,
  fun i _ => i = min x.cps.size y.cps.size⟩
theorem turn_zipS {P : Program} {w : World} {K : PySem.W.Frag} {elts : List Expr} {kk : Nat} {tpos : Pos} {z TI TO j1 j2 : Addr} {x y : Str} {t u : Tok} (D : ZipSep2 z TI TO j1 j2 [j1] [j2]) :
    Turn P w K (.Tuple elts kk tpos) (Itzs x y) [z, TI, TO, j1, j2] z (fun i h => IsZip h z TI TO .none ∧ IsTupOf2 h TI (.ref j1) (.ref j2) ∧ (∃ a1 a2, IsTupOf2 h TO a1 a2) ∧ h.IsStrIter j1 (strIterType x) x t i ∧ h.IsStrIter j2 (strIterType y) y u i) where
  mem := by simp
  obj := fun i h st c hc => by
    obtain ⟨hz, h1, ⟨a1, a2, h2⟩, ⟨o1, e1, _, d1⟩, ⟨o2, e2, _, d2⟩⟩ := st
    simp only [List.mem_cons, List.not_mem_nil, or_false] at hc
    rcases hc with rfl | rfl | rfl | rfl | rfl
    · exact ⟨_, hz, fun v q => nomatch q⟩
    · exact ⟨_, h1, fun v q => nomatch q⟩
    · exact ⟨_, h2, fun v q => nomatch q⟩
    · exact ⟨o1, e1, fun v q => by rw [d1] at q; cases q⟩
    · exact ⟨o2, e2, fun v q => by rw [d2] at q; cases q⟩
  keep := fun i h h' st k => by
    obtain ⟨hz, h1, ⟨a1, a2, h2⟩, ⟨o1, e1, r1⟩, ⟨o2, e2, r2⟩⟩ := st
    exact ⟨k z (by simp) _ hz, k TI (by simp) _ h1, ⟨a1, a2, k TO (by simp) _ h2⟩, ⟨o1, k j1 (by simp) _ e1, r1⟩, ⟨o2, k j2 (by simp) _ e2, r2⟩⟩
  item := by
    intro X hP hw hK hc i pins s σ H E I hf st hg
    subst hP hw hK
    have hh : X.A.handled = none := I.ok.hd hc
    have W := GoesN.zip2 (elts := elts) (x1 := kk) (pos := tpos) (A := X.A) D (Draws.text (prog := X.prog) (w := X.w) (A := X.A.in1) hh j1 x t) (Draws.text (prog := X.prog) (w := X.w) (A := X.A.in1) hh j2 y u)
    refine wpAny_mono (W.goes i s (fun v s2 => ∃ x' H', Inv X pins σ H' s2 ∧ RelV x' v ∧ (Itzs x y).yld i H x' H' ∧ (IsZip s2.heap z TI TO .none ∧ IsTupOf2 s2.heap TI (.ref j1) (.ref j2) ∧ (∃ a1 a2, IsTupOf2 s2.heap TO a1 a2) ∧ s2.heap.IsStrIter j1 (strIterType x) x t (i + 1) ∧ s2.heap.IsStrIter j2 (strIterType y) y u (i + 1)) ∧ ∀ b ∈ [z, TI, TO, j1, j2], H' b = none) E hg st fun v h' tk hY st' hk _ => ?_) (fun r s1 q => q) fun _ _ e => e
    obtain ⟨T, xv, yv, rfl, hn, ⟨c, u1, hc1, rfl⟩, ⟨d, u2, hc2, rfl⟩, hT⟩ := hY
    obtain ⟨o, ho, hcl, n, hd⟩ := hT
    have new : ObjOk X.prog X.w (upd H T (.tup [.str ⟨#[c]⟩, .str ⟨#[d]⟩])) h' T (.tup [.str ⟨#[c]⟩, .str ⟨#[d]⟩]) :=
      ⟨by show 2 ≤ sizeLine; decide, [.str ⟨#[c]⟩ u1, .str ⟨#[d]⟩ u2], .cons ⟨u1, rfl⟩ (.cons ⟨u2, rfl⟩ .nil), ⟨o, ho, hcl, n, hd⟩⟩
    have I1 : Inv X pins σ (upd H T (.tup [.str ⟨#[c]⟩, .str ⟨#[d]⟩])) { s with heap := h', toks := tk } :=
      I.turnedNew (t' := tk) (ch := [z, TI, TO, j1, j2]) (fun b o hb q => hk b o (fun q' => hb (by simp only [List.mem_cons, List.not_mem_nil, or_false] at q' ⊢; rcases q' with q' | q' | q' | q' <;> simp [q'])) q) hf hn new
    refine ⟨.ref T, _, I1, rfl, ⟨T, c, d, rfl, I.hok.fresh hn, rfl, hc1, hc2⟩, st', fun b hb => ?_⟩
    have hlt : b < s.heap.objs.size := by
      obtain ⟨hz, h1, ⟨a1, a2, h2⟩, ⟨o1, e1, _⟩, ⟨o2, e2, _⟩⟩ := st
      simp only [List.mem_cons, List.not_mem_nil, or_false] at hb
      rcases hb with rfl | rfl | rfl | rfl | rfl
      · exact Heap.lt_size hz
      · exact Heap.lt_size h1
      · exact Heap.lt_size h2
      · exact Heap.lt_size e1
      · exact Heap.lt_size e2
    rw [upd_ne (Nat.ne_of_lt (Nat.lt_of_lt_of_le hlt hn))]
    exact (hf b hb).1
  done := by
    intro X hP hw hK hc i pins s σ H E I hf st hg
    subst hP hw hK
    have hh : X.A.handled = none := I.ok.hd hc
    have W := GoesN.zip2 (elts := elts) (x1 := kk) (pos := tpos) (A := X.A) D (Draws.text (prog := X.prog) (w := X.w) (A := X.A.in1) hh j1 x t) (Draws.text (prog := X.prog) (w := X.w) (A := X.A.in1) hh j2 y u)
    have e : i = min x.cps.size y.cps.size := hg
    subst e
    exact W.stops s (fun s1 => Inv X pins σ H s1) E st fun h' tk hk _ => I.turnedL (t' := tk) (ch := [z, TI, TO, j1, j2]) (fun b o hb q => hk b o (fun q' => hb (by simp only [List.mem_cons, List.not_mem_nil, or_false] at q' ⊢; rcases q' with q' | q' | q' | q' <;> simp [q'])) q) hf
  self := fun A i s Q E st h => wpAny_pyIter_zip st.1 h
def iZipS (ta : TA) : TI := fun σ H R => ta σ H fun vs H1 => ∃ x y, vs = [.str x, .str y] ∧ R (Itzs x y) H1
theorem pi_zipS {X : Cx} {e e2 : Expr} {ta : TA} {p pos tpos : Pos} {elts : List Expr} {kk : Nat} (hg : Gl X "zip") (hm : X.mg "zip" = none) (ha : PA X [e, e2] ta)
    (hs : starEach [e, e2] X.env = (false, eval e X.env) :: starEach [e2] X.env := by rfl) (hpl : (backTo pos (starEach [e2] X.env)).any (·.1) = false := by rfl) :
    PI X (.Tuple elts kk tpos) (.Call (.Name "zip" p) [e, e2] [] pos) (iZipS ta) := by
  refine ⟨fun pins s σ H R I h => ?_⟩
  refine PyProof.Rows.Call_ (ld_blt I hg hm PyProof.Rows.boot_zip (PyProof.Rows.callWith_type1 (thn (ha.run pos pins s σ H _ I h) fun us s1 ⟨vs, H1, I1, r1, q1⟩ => ?_) hs hpl))
  obtain ⟨x, y, ex, q⟩ := q1
  subst ex
  cases r1 with
  | cons r rr =>
    cases rr with
    | cons r' rr =>
      cases rr
      obtain ⟨t, rfl⟩ := r
      obtain ⟨u, rfl⟩ := r'
      refine zip_begins2 (begins_text x t) (begins_text y u) True.intro True.intro fun h' hz h1 h2 g1 g2 hsz hk => wpAny_pyIter_zip hz ?_
      have I2 : Inv X pins σ H1 { s1 with heap := h' } := I1.kept (t' := s1.toks) hk
      refine ⟨s1.heap.objs.size + 4, [s1.heap.objs.size + 4, s1.heap.objs.size + 2, s1.heap.objs.size + 3, s1.heap.objs.size, s1.heap.objs.size + 1], _, _, H1, rfl, I2, turn_zipS (zip_sep2 (fun _ hb => by cases hb) (fun _ hb => by cases hb)), ⟨hz, h1, ⟨_, _, h2⟩, ⟨_, g1, rfl, rfl⟩, ⟨_, g2, rfl, rfl⟩⟩, fun c hcm => ?_, q⟩
      have hle : s1.heap.objs.size ≤ c := by
        simp only [List.mem_cons, List.not_mem_nil, or_false] at hcm
        rcases hcm with q' | q' | q' | q' | q' <;> rw [q'] <;> first | exact Nat.le_refl _ | exact Nat.le_add_right _ _
      exact I1.fpOk hle (I1.hok.fresh hle)
theorem walk_zipS {x y : Str} : Walk (Itzs x y) (min x.cps.size y.cps.size) (fun _ => True) (fun i H v H' => ∃ T c d, v = .ref T ∧ H T = none ∧ H' = upd H T (.tup [.str ⟨#[c]⟩, .str ⟨#[d]⟩]) ∧ x.cps[i]? = some c ∧ y.cps[i]? = some d) :=
  ⟨fun _ _ hi _ => hi, fun _ _ => rfl, fun _ _ _ _ _ _ q => q⟩
end Dw

set_option Elab.async false
set_option linter.all false
set_option maxRecDepth 100000
namespace Dw
open PySem L2 Evl
section
variable {K : PySem.W.Frag} {σ : L2.St} {H H' : Hp} {ta : TA} {tb tc te tx tl : TE} {t u : TT} {x y z v : V}
/-- [e for a, b in zip(x, y)], two texts of one length -/
theorem el_lcZ {la lb : List Nat} {j1 j2 : Nat} {vs : List Nat} (g : Nat → Nat → V) (h : EvA ta σ H [.str (Tx la), .str (Tx lb)]) (hl : la.length = lb.length) (hz : la.length ≤ 40000)
    (hw : ∀ x y, wipe (((wipe σ vs).set j1 (some x)).set j2 (some y)) vs = wipe σ vs)
    (he : ∀ (c d : Nat) H1, Ex H H1 → c ∈ la → d ∈ lb → Ev te (((wipe σ vs).set j1 (some (.str (Tx [c])))).set j2 (some (.str (Tx [d])))) H1 (g c d)) :
    EvL (tLc (iZipS ta) (gTup K 2 (gCons (gName j1) (gCons (gName j2) gNil))) tYes te vs) σ H (List.zipWith g la lb) := fun H0 e Q q => h H0 e _ fun H1 e1 => ⟨Tx la, Tx lb, rfl, fun Dl hD => by
  have hs : min (Tx la).cps.size (Tx lb).cps.size = la.length := by
    have h1 : (Tx la).cps.size = la.length := Tx_len la
    have h2 : (Tx lb).cps.size = lb.length := Tx_len lb
    omega
  refine lc_it walk_zipS (fun i H2 => Ex H1 H2 ∧ H2 Dl = some (.lst ((List.zipWith g la lb).take i))) ⟨Ex.new hD, upd_same⟩ (fun _ _ _ _ => True.intro) (fun i x' H2 H3 hi p yy => ?_) (fun H2 p => ?_)
  · obtain ⟨T, c, d, rfl, nT, rfl, hc, hd⟩ := yy
    have hc' : la[i]? = some c := by
      rw [← hc]
      simp [Tx]
    have hd' : lb[i]? = some d := by
      rw [← hd]
      simp [Tx]
    have hg : (List.zipWith g la lb)[i]? = some (g c d) := by
      rw [List.getElem?_zipWith, hc', hd']
    refine ⟨T, _, rfl, st_of upd_same, rfl, _, _, rfl, _, _, rfl, rfl, hw _ _, ?_⟩
    refine he c d _ (((e.trans e1).trans p.1).trans (Ex.new nT)) (List.mem_of_getElem? hc') (List.mem_of_getElem? hd') _ (Ex.refl _) _ fun H4 e4 => ⟨_, e4 Dl _ ((Ex.new nT) Dl _ p.2), sz_lt ?_, ?_, ?_⟩
    · have := List.length_take_le i (List.zipWith g la lb)
      omega
    · exact Ex.mut ((p.1.trans (Ex.new nT)).trans e4) hD
    · rw [upd_same, List.take_add_one, hg]
      rfl
  · obtain ⟨p1, p2⟩ := p
    rw [hs, List.take_of_length_le (by rw [List.length_zipWith]; omega)] at p2
    exact q Dl H2 (fresh_back e1 hD) (e1.trans p1) p2⟩
theorem ev_kd {w : World} {p : Addr} {s : Str} {ta tb : TE} (ha : Ev ta σ H (.ref p)) (hb : Ev tb σ H (.str s)) (hk : KDct K w p s v) : Ev (tOp (rIxD K w) ta tb) σ H v :=
  ev_op ha hb fun H1 _ _ q => ⟨p, s, v, rfl, rfl, hk, q H1 (Ex.refl _)⟩
end
/-! ### f(*xs), f a local that holds one of several defs -/
def tCallLS (K : PySem.W.Frag) (i : Nat) (S : Addr → Option Sp) (te : TE) : TE := fun σ H Q => ∃ f sp, σ[i]? = some (some (.ref f)) ∧ S f = some sp ∧ te σ H fun y H1 => ∃ a xs, y = V.ref a ∧ (SqT K H1 a xs ∨ SqL K H1 a xs) ∧ sp xs H1 Q (fun _ _ _ => False)
theorem pe_callLS {X : Cx} {k i : Nat} {x : Str} {p q pos : Pos} {e : Expr} {te : TE} {S : Addr → Option Sp} (A : ∀ f sp, S f = some sp → Held X.prog X.w X.K X.mg X.base k f sp) (hr : Room k X.A) (hN : X.N[i]? = some x) (hv : Vis X.env.scope x) (he : PE X e te)
    (hdb : (x == ("__debug__" : Str)) = false := by decide) (hcd : (x == ("__classdict__" : Str)) = false := by decide)
    (hst : starEach [.Starred e q] X.env = [(true, eval e X.env)] := by rfl) : PE X (.Call (.Name x p) [.Starred e q] [] pos) (tCallLS X.K i S te) := by
  refine ⟨fun pins s σ H Q I h => ?_⟩
  obtain ⟨f, sp, hs, hS, ht⟩ := h
  obtain ⟨fd, ps, F, hk, hb⟩ := (A f sp hS).ex
  refine wpAny_Call_Name_kw (thn ((pe_var (pos := p) hN hv hdb hcd).run pins s σ H (fun v H1 => v = .ref f ∧ H1 = H) I ⟨.ref f, hs, rfl, rfl⟩) fun u s1 ⟨v, H1, I1, r1, q1⟩ => ?_)
  obtain ⟨rfl, rfl⟩ := q1
  cases r1
  refine PySem.W.callWith_S (h₀ := X.base) I1.ok.mod.kin hk (thn (he.run pins s1 σ H1 _ I1 ht) fun v s2 ⟨y, H2, I2, ry, a, xs, ey, hxs, q2⟩ => ?_) hst
  subst ey
  obtain rfl : v = Value.ref a := ry
  refine StX.star_any I2 hxs fun us s3 I3 rv => ⟨I3.kIn, run_fn (dvs := []) (ds := []) (E := fun _ _ _ => False) F hr hb .nil (fun _ _ _ _ _ _ _ z => z.elim) I3 rv ?_⟩
  rw [List.append_nil]
  exact q2
/-! ### replace of one sign by another -/
theorem replL_map {a b : Nat} : ∀ l : List Nat, StrLaws.replL [a] [b] l = l.map fun c => if c = a then b else c
  | [] => StrLaws.replL_nil
  | c :: l => by
    by_cases h : c = a
    · rw [StrLaws.replL_hit (by simp) (by simp [h])]
      simp [h, replL_map l]
    · rw [StrLaws.replL_miss (by simp [h]), replL_map l]
      simp [h]
theorem replace_Tx {y z : Str} {a b : Nat} (hy : y = Tx [a]) (hz : z = Tx [b]) (l : List Nat) : Txt.replace (Tx l) y z = Tx (l.map fun c => if c = a then b else c) := by
  subst hy hz
  refine TL.ext_tl ?_
  exact (StrLaws.replace_list (by simp [Str.length])).trans (replL_map l)
end Dw

set_option Elab.async false
set_option linter.all false
set_option maxRecDepth 100000
namespace Dw
open PySem L2 Evl
/-! ### a text turned about -/
def tRevS (te : TE) : TE := fun σ H Q => te σ H fun x H1 => ∃ l, x = .str (Tx l) ∧ l.length ≤ 40000 ∧ Q (.str (Tx l.reverse)) H1
theorem rev_Tx (l : List Nat) (u : Tok) : Txt.sliceBy (Tx l) none none (-1, u) = Tx l.reverse := by
  refine TL.ext_tl ?_
  show (Txt.sliceBy (Tx l) none none (-1, u)).cps.toList = l.reverse
  rw [PyProof.Rows.step_rev_list, Tx_len]
  apply List.ext_getElem
  · simp
  · intro i h1 h2
    simp at h1
    simp [Tx, List.getElem_reverse]
    rw [List.getElem?_eq_getElem (by omega)]
    rfl
theorem pe_revS {X : Cx} {e : Expr} {te : TE} {k : Nat} {p1 p2 p3 pos : Pos} (he : PE X e te) : PE X (.Subscript e (.Slice none none (some (.UnaryOp .USub (.Constant (.int 1) k p1) p2)) p3) pos) (tRevS te) := by
  refine ⟨fun pins s σ H Q I h => ?_⟩
  refine PyProof.Rows.Subscript_ (thn (he.run pins s σ H _ I h) fun v s1 ⟨x, H1, I1, r1, q1⟩ => ?_)
  obtain ⟨l, ex, hl, q⟩ := q1
  subst ex
  obtain ⟨t, rfl⟩ := r1
  have hst : PO X (some (.UnaryOp .USub (.Constant (.int 1) k p1) p2)) (tPart (tUn (rU fun i => .int (-i)) (tC (.int 1)))) := po_some (pe_un un_neg pe_int)
  refine wpAny_Slice (thn (po_none.run pins s1 σ H1 (fun o G => o = none ∧ G = H1) I1 ⟨rfl, rfl⟩) fun vl s2 ⟨l2, H2, I2, pl, el, e2⟩ => ?_)
  subst el e2
  refine thn (po_none.run pins s2 σ H2 (fun o G => o = none ∧ G = H2) I2 ⟨rfl, rfl⟩) fun vu s3 ⟨u, H3, I3, pu, eu, e3⟩ => ?_
  subst eu e3
  refine thn (hst.run pins s3 σ H3 (fun o G => o = some (-1) ∧ G = H3) I3 ⟨1, rfl, -1, rfl, rfl, rfl⟩) fun vs s4 ⟨o, H4, I4, ps, eo, e4⟩ => ?_
  subst eo e4
  have I5 : Inv X pins σ H4 { s4 with heap := s4.heap.push { cls := .type "slice", data := .fields #[vl, vu, vs] } } := I4.kept (t' := s4.toks) fun b ob q => Heap.get?_push_of_some _ q
  obtain ⟨a1, rfl, ha1⟩ := IsPart.raw pl
  obtain ⟨a2, rfl, ha2⟩ := IsPart.raw pu
  obtain ⟨a3, rfl, ha3⟩ := IsPart.raw ps
  cases a1 with
  | some _ => cases ha1
  | none =>
    cases a2 with
    | some _ => cases ha2
    | none =>
      cases a3 with
      | none => cases ha3
      | some a3 =>
        obtain ⟨m, uk⟩ := a3
        have hm : m = -1 := by
          have := Option.some.inj ha3
          first | exact this.symm | exact this
        subst hm
        refine PyProof.Rows.tail_any (ops := [.ref s4.heap.objs.size, .str (Tx l) t]) (typeIs_str _ _ _) F.slot_str_getitem.lookup (wpAny_getItem_str_slice (l := none) (u := none) (st := some (-1, uk)) ⟨_, Heap.get?_push_size _ rfl, rfl, rfl⟩ rfl
          (post_val_or_str ⟨Nat.le_trans (Txt.sliceBy_le (Tx l) none none (-1, uk) (show (-1 : Int) ≠ 0 by decide)) (sz_of (by rw [Tx_len]; omega)), fun t' c => ?_⟩)) (by with_unfolding_all rfl)
        have e := rev_Tx l uk
        unfold Txt.sliceBy at e
        first
          | exact ⟨.str (Tx l.reverse), H4, I5.tok c, ⟨t', by rw [e]⟩, q⟩
          | exact ⟨.str (Tx l.reverse), H4, I5.tok c, ⟨t', by rw [← e]; rfl⟩, q⟩
theorem ev_revS {σ : L2.St} {H : Hp} {te : TE} {l : List Nat} (h : Ev te σ H (.str (Tx l))) (hl : l.length ≤ 40000) : Ev (tRevS te) σ H (.str (Tx l.reverse)) := fun H1 e Q q =>
  h H1 e _ fun H2 e2 => ⟨l, rfl, hl, q H2 e2⟩
end Dw

set_option Elab.async false
set_option linter.all false
set_option maxRecDepth 100000
namespace Dw
open PySem L2 Evl
/-! ### sorted of a tuple of texts, of a long list of texts -/
section
open PyProof.Rows
variable {prog : Program} {w : World} {A : Around} {E : Value → Shared → Prop} {s : Shared}
theorem collect_tup {l : Addr} {us : List Value} {R : List Value → Shared → Prop} (ht : s.heap.IsTuple l us.toArray)
    (k : R us { s with heap := (s.heap.push (seqObj "list" #[] 0)).update s.heap.objs.size (Obj.mapSeq (· ++ us.toArray)) }) (few : us.length ≤ sizeLine) : wpAny (model prog w) A (collect (.ref l)) R E s := by
  obtain ⟨ob, hob, hcl, n, hdt⟩ := id ht
  unfold collect
  refine wpAny_bind (wpAny_runValue (codeAny_builtin entry_proto_collect' ?_)); show wpAny _ _ (do again (.builtin "list.__iadd__" ⟨[← newList [], .ref l], []⟩)) _ _ s
  refine wpAny_bind (wpAny_newList (wpAny_pure ⟨Code.quiet_builtin _ (by decide +kernel), codeAny_builtin entry_list_iadd' ?_⟩)); show wpAny _ _ (Builtin.List.listExtendWith (.ref s.heap.objs.size) (.ref l) (.ref s.heap.objs.size)) _ _ { s with heap := s.heap.push (seqObj "list" #[] 0) }
  unfold Builtin.List.listExtendWith
  have hob' : (s.heap.push (seqObj "list" #[] 0)).get? l = some ob := Heap.get?_push_of_some _ hob
  refine wpAny_bind (wpAny_typeOf (T := "tuple") ⟨ob, hob', hcl⟩ ?_)
  rw [if_pos (by rw [show (Value.type "tuple" == Value.type "tuple") = true from rfl, Bool.or_true])]
  refine wpAny_bind (listItems_at hob' hdt ?_)
  refine wpAny_bind (listItems_at (xs := #[]) (n := 0) (Heap.get?_push_size _ rfl) rfl ?_); rw [if_neg (by simp)]
  refine wpAny_bind (listUpdate_at (xs := #[]) (n := 0) (Heap.get?_push_size _ rfl) rfl ?_ (Nat.zero_le _) (by show (#[] ++ us.toArray).size ≤ sizeLine + 1; simp only [Array.size_append, List.size_toArray, List.length_nil]; omega))
  refine wpAny_pure ?_
  show wpAny (model prog w) A (do let o ← load s.heap.objs.size; match o.data with | .seq xs _ => pure xs.toList | _ => unsupported "internal:collect") R E { s with heap := (s.heap.push (seqObj "list" #[] 0)).update s.heap.objs.size (Obj.mapSeq (· ++ us.toArray)) }
  refine wpAny_bind (wpAny_load (get?_update_seq (Heap.get?_push_size _ rfl) _) ?_)
  show wpAny _ _ (pure ((#[] : Array Value) ++ us.toArray).toList) R E _
  rw [show ((#[] : Array Value) ++ us.toArray).toList = us by simp]
  exact wpAny_pure k
theorem sorted_tupStrs {l : Addr} {us : List Value} {ss : List Str} {Q : Value → Shared → Prop} (ht : s.heap.IsTuple l us.toArray) (hS : StrsAre us ss) (few : us.length < 64)
    (h : ∀ (out : Array Value) (ss' : List Str), StrsAre out.toList ss' → ss'.Perm ss → sortedS ss' = true → Q (.ref (s.heap.objs.size + 1)) { s with heap := sortedAll s.heap us out }) :
    wpAny (model prog w) A (call (.builtin "sorted") [.ref l]) Q E s := by
  refine Calls.call_function_entry kind_sorted plain_sorted entry_sorted (args_sorted1 _) ?_; unfold Builtin.«sorted»
  have sz : us.length ≤ sizeLine := by rw [sizeLine_eq]; omega
  refine wpAny_bind (m := checkCount "sorted" 1 1 _) (wpAny_pure (wpAny_bind (collect_tup ht ?_ sz)))
  refine wpAny_bind (wpAny_newList ?_ sz)
  have e1 : ((s.heap.push (seqObj "list" #[] 0)).update s.heap.objs.size (Obj.mapSeq (· ++ us.toArray))).objs.size = s.heap.objs.size + 1 := by rw [Heap.size_update, size_push']
  have e2 : (((s.heap.push (seqObj "list" #[] 0)).update s.heap.objs.size (Obj.mapSeq (· ++ us.toArray))).push (seqObj "list" us.toArray 0)).get? (s.heap.objs.size + 1) = some (seqObj "list" us.toArray 0) := by rw [← e1]; exact Heap.get?_push_size _ rfl
  show wpAny _ _ _ _ _ { s with heap := ((s.heap.push (seqObj "list" #[] 0)).update s.heap.objs.size (Obj.mapSeq (· ++ us.toArray))).push (seqObj "list" us.toArray 0) }
  rw [e1]
  refine wpAny_bind (wpAny_holding (wpAny_call_entry slot_list_sort ⟨_, e2, rfl⟩ entry_list_sort (list_sort_treeK strKind_oneLt e2 hS.keysOf (fun v₁ v₂ rest e => keyKind_strs (by rw [← e]; exact hS)) few fun st' hp hs => ⟨_, rfl, ?_⟩) (args_list_sort _)))
  obtain ⟨ss', h1, h2, h3⟩ := sorted_out_str hS hp hs
  exact wpAny_pure ⟨_, rfl, h _ ss' h1 h2 h3⟩
end
section
variable {X : Cx}
def rSortedTS (K : PySem.W.Frag) : List V → Hp → VK → Prop := fun vs H Q => ∃ (a : Addr) (xs : List Str), vs = [V.ref a] ∧ SqT K H a (xs.map V.str) ∧ xs.length < 64 ∧
  ∀ (ys : List Str) (p : Addr), ys.Perm xs → PyProof.Rows.sortedS ys = true → H p = none → Q (.ref p) (upd H p (.lst (ys.map V.str)))
theorem cr_sortedTS : CallR X (.builtin "sorted") (rSortedTS X.K) := by
  intro pins s σ H vs us Q I r h
  obtain ⟨a, xs, rfl, hs, few, q⟩ := h
  obtain ⟨its, rv, hl, _⟩ := I.tuple hs
  rw [Vals.ref1 r]
  have n0 := rv.length
  rw [List.length_map] at n0
  refine sorted_tupStrs hl rv.strs (by rw [← n0]; exact few) fun out ys h1 h2 h3 => ?_
  obtain ⟨ep, he'⟩ := PyProof.Rows.sortedAll_at s.heap its out
  exact ⟨.ref _, upd H (s.heap.objs.size + 1) (.lst (ys.map V.str)), I.laid (t' := s.toks) (fun _ _ => PyProof.Rows.sortedAll_old) (Nat.le_succ _) ⟨by rw [List.length_map, h2.length_eq]; exact small64 few, out.toList, ep, vals_of_strs h1, he'⟩, rfl, q ys _ h2 h3 (I.hok.fresh (Nat.le_succ _))⟩
def rSortedSA (K : PySem.W.Frag) : List V → Hp → VK → Prop := fun vs H Q => ∃ (a : Addr) (xs : List Str), vs = [V.ref a] ∧ SqL K H a (xs.map V.str) ∧ xs.length ≤ 1000 ∧
  ∀ (ys : List Str) (p : Addr), ys.Perm xs → PyProof.Rows.sortedS ys = true → H p = none → Q (.ref p) (upd H p (.lst (ys.map V.str)))
theorem cr_sortedSA : CallR X (.builtin "sorted") (rSortedSA X.K) := by
  intro pins s σ H vs us Q I r h
  obtain ⟨a, xs, rfl, hs, few, q⟩ := h
  obtain ⟨its, rv, hl, _⟩ := I.list hs
  rw [Vals.ref1 r]
  have n0 := rv.length
  rw [List.length_map] at n0
  have sz : xs.length ≤ sizeLine := Nat.le_of_lt (small1000 few)
  refine PyProof.Rows.sorted_strsAny hl.isList rv.strs (by rw [← n0]; exact sz) fun out ys h1 h2 h3 => ?_
  obtain ⟨ep, he'⟩ := PyProof.Rows.sortedAll_at s.heap its out
  exact ⟨.ref _, upd H (s.heap.objs.size + 1) (.lst (ys.map V.str)), I.laid (t' := s.toks) (fun _ _ => PyProof.Rows.sortedAll_old) (Nat.le_succ _) ⟨by rw [List.length_map, h2.length_eq]; exact sz, out.toList, ep, vals_of_strs h1, he'⟩, rfl, q ys _ h2 h3 (I.hok.fresh (Nat.le_succ _))⟩
end
/-! ### drawn values, signs -/
def Sg (l : List Nat) : Prop := ∀ c ∈ l, c ∈ sgn
def rd (c : Nat) : Nat := if c = 122 then 120 else c
def Sx (l : List Nat) : Prop := ∀ c ∈ l, c ∈ [48, 49, 120]
theorem rd_sx {l : List Nat} (h : Sg l) : Sx (l.map rd) := fun c hc => by
  obtain ⟨d, hd, rfl⟩ := List.mem_map.mp hc
  have := h d hd
  simp only [sgn, List.mem_cons, List.not_mem_nil, or_false] at this
  rcases this with rfl | rfl | rfl | rfl <;> decide
theorem Sg.low {l : List Nat} (h : Sg l) : ∀ c ∈ l, c < 128 := fun c hc => by
  have := h c hc
  simp only [sgn, List.mem_cons, List.not_mem_nil, or_false] at this
  omega
def spVal : Sp := fun vs H Q _ => ∃ (p : Addr) (n : Int), vs = [.ref p, .int n] ∧ PotAt H p ∧ 1 ≤ n ∧ n ≤ 8 ∧ ∀ (H' : Hp) (l : List Nat), ExB p H H' → PotAt H' p → (l.length : Int) = n → Sg l → Q (.str (Tx l)) H'
def spRead : Sp := fun vs H Q _ => ∃ l : List Nat, vs = [.str (Tx l)] ∧ l.length ≤ 1000 ∧ ∀ H', Ex H H' → Q (.str (Tx (l.map rd))) H'
theorem s_0 : Str.ofString "0" = Tx [48] := by decide +kernel
theorem s_1 : Str.ofString "1" = Tx [49] := by decide +kernel
theorem s_x : Str.ofString "x" = Tx [120] := by decide +kernel
theorem s_z : Str.ofString "z" = Tx [122] := by decide +kernel
theorem s_e : Str.ofString "" = Tx [] := by decide +kernel
theorem s_01 : Str.ofString "01" = Tx [48, 49] := by decide +kernel
section
variable {K : PySem.W.Frag} {σ : L2.St} {H : Hp} {ta tb te : TE}
theorem ec_0 : Ev (tC (.str (Str.ofString "0"))) σ H (.str (Tx [48])) := by rw [s_0]; exact ev_c
theorem ec_1 : Ev (tC (.str (Str.ofString "1"))) σ H (.str (Tx [49])) := by rw [s_1]; exact ev_c
theorem ec_x : Ev (tC (.str (Str.ofString "x"))) σ H (.str (Tx [120])) := by rw [s_x]; exact ev_c
theorem ec_z : Ev (tC (.str (Str.ofString "z"))) σ H (.str (Tx [122])) := by rw [s_z]; exact ev_c
theorem ec_e : Ev (tC (.str (Str.ofString ""))) σ H (.str (Tx [])) := by rw [s_e]; exact ev_c
theorem ec_01 : Ev (tC (.str (Str.ofString "01"))) σ H (.str (Tx [48, 49])) := by rw [s_01]; exact ev_c
theorem dec_Tx (a b : List Nat) : decide (V.str (Tx a) = V.str (Tx b)) = decide (a = b) := by
  rw [decide_eq_decide]
  exact ⟨fun h => Tx_inj (V.str.inj h), fun h => by rw [h]⟩
theorem ev_eqT {a b : List Nat} (ha : Ev ta σ H (.str (Tx a))) (hb : Ev tb σ H (.str (Tx b))) : Ev (tOp rEq ta tb) σ H (.bl (decide (a = b))) := by
  rw [← dec_Tx]
  exact ev_op ha hb (rv_eq rfl)
theorem ev_neT {a b : List Nat} (ha : Ev ta σ H (.str (Tx a))) (hb : Ev tb σ H (.str (Tx b))) : Ev (tOp rNe ta tb) σ H (.bl (!decide (a = b))) := by
  rw [← dec_Tx]
  exact ev_op ha hb (rv_ne rfl)
theorem ev_inT {c : Nat} {l : List Nat} (ha : Ev ta σ H (.str (Tx [c]))) (hb : Ev tb σ H (.str (Tx l))) : Ev (tOp rInS ta tb) σ H (.bl (decide (c ∈ l))) := ev_inS ha hb
theorem ev_niT {c : Nat} {l : List Nat} (ha : Ev ta σ H (.str (Tx [c]))) (hb : Ev tb σ H (.str (Tx l))) : Ev (tOp rNotInS ta tb) σ H (.bl (!decide (c ∈ l))) := ev_notInS ha hb
theorem ev_addT {a b : List Nat} (ha : Ev ta σ H (.str (Tx a))) (hb : Ev tb σ H (.str (Tx b))) (hz : a.length + b.length ≤ 100000) :
    Ev (tOp (fun x y H Q => ∃ i j, x = .str i ∧ y = .str j ∧ i.length + j.length ≤ sizeLine ∧ Q (.str (i ++ j)) H) ta tb) σ H (.str (Tx (a ++ b))) :=
  ev_op ha hb fun H1 _ Q q => ⟨Tx a, Tx b, rfl, rfl, sz_of (by rw [Tx_len, Tx_len]; exact hz), by rw [Tx_cat]; exact q H1 (Ex.refl _)⟩
theorem ev_ixT {l : List Nat} {i : Int} {c : Nat} (ha : Ev ta σ H (.str (Tx l))) (hb : Ev tb σ H (.int i)) (hl : l.length ≤ 40000) (hc : atI l i = some c) : Ev (tOp rIxS ta tb) σ H (.str (Tx [c])) :=
  ev_op ha hb (rv_ixS (by rw [Tx_len]; omega) hc)
theorem ev_ifS {b : Bool} {t : TT} {v1 v2 : V} (h : EvT t σ H b) (h1 : Ev ta σ H v1) (h2 : Ev tb σ H v2) : Ev (tIf t ta tb) σ H (if b = true then v1 else v2) :=
  ev_if h (fun e => by rw [e]; exact h1) (fun e => by rw [e]; exact h2)
end
theorem vals_rev : ∀ {a : List V} {b : List Value}, Vals a b → Vals a.reverse b.reverse
  | _, _, .nil => .nil
  | _, _, .cons r t => by
    rw [List.reverse_cons, List.reverse_cons]
    exact (vals_rev t).append (.cons r .nil)
def spLaw (K : PySem.W.Frag) : Sp := fun vs H Q _ => ∃ (a : Addr) (ns : List Int), vs = [.ref a] ∧ SqL K H a (ns.map V.int) ∧ ns.length ≤ 63 ∧ ∀ H', Q (.bl true) H'
end Dw

set_option Elab.async false
set_option linter.all false
set_option maxRecDepth 100000
namespace Dw
open PySem L2 Evl
/-! ### two sorted lists of the same texts are one -/
abbrev leS (a b : Str) : Prop := a.cps.toList ≤ b.cps.toList
theorem risingS_le : ∀ (p : Str) (l : List Str), PyProof.Rows.risingS p l = true → (p :: l).Pairwise leS
  | p, [], _ => List.pairwise_singleton _ _
  | p, x :: r, h => by
    unfold PyProof.Rows.risingS at h
    rw [Bool.and_eq_true] at h
    have ih := risingS_le x r h.2
    have hx : leS p x := by
      have := h.1
      rw [PyProof.Rows.ltCps_eq] at this
      simp at this
      exact this
    refine List.pairwise_cons.mpr ⟨fun y hy => ?_, ih⟩
    rcases List.mem_cons.mp hy with rfl | hy
    · exact hx
    · exact List.le_trans hx ((List.pairwise_cons.mp ih).1 y hy)
theorem sortedS_le : ∀ {l : List Str}, PyProof.Rows.sortedS l = true → l.Pairwise leS
  | [], _ => List.Pairwise.nil
  | x :: r, h => risingS_le x r h
theorem leS_anti {a b : Str} (h1 : leS a b) (h2 : leS b a) : a = b := TL.ext_tl (List.le_antisymm h1 h2)
theorem sorted_one {xs ys zs : List Str} (p1 : xs.Perm zs) (s1 : PyProof.Rows.sortedS xs = true) (p2 : ys.Perm zs) (s2 : PyProof.Rows.sortedS ys = true) : xs = ys :=
  List.Perm.eq_of_pairwise (le := leS) (fun a b _ _ h1 h2 => leS_anti h1 h2) (sortedS_le s1) (sortedS_le s2) (p1.trans p2.symm)
/-! ### mirrors of the operators -/
def mixS (a b : Nat) : Nat := if a = b ∧ a ∈ [48, 49] then a else 120
def anyS (l : List Nat) : Nat := if 49 ∈ l then 49 else if 120 ∈ l then 120 else 48
def allS (l : List Nat) : Nat := if 48 ∈ l then 48 else if 120 ∈ l then 120 else 49
def pickS (c : Nat) (a b : List Nat) : List Nat := if c = 120 then List.zipWith mixS a b else if c = 49 then a else b
def partS (l : List Nat) (hi lo : Nat) : List Nat := (l.drop (l.length - 1 - hi)).take (hi + 1 - lo)
def spMixS : Sp := fun vs H Q _ => ∃ a b : Nat, vs = [.str (Tx [a]), .str (Tx [b])] ∧ ∀ H', Ex H H' → Q (.str (Tx [mixS a b])) H'
def spMixed : Sp := fun vs H Q _ => ∃ a b : List Nat, vs = [.str (Tx a), .str (Tx b)] ∧ a.length = b.length ∧ a.length ≤ 1000 ∧ ∀ H', Ex H H' → Q (.str (Tx (List.zipWith mixS a b))) H'
def spOne (f : List Nat → Nat) : Sp := fun vs H Q _ => ∃ l : List Nat, vs = [.str (Tx l)] ∧ ∀ H', Ex H H' → Q (.str (Tx [f l])) H'
def spPick : Sp := fun vs H Q _ => ∃ (c : Nat) (a b : List Nat), vs = [.str (Tx [c]), .str (Tx a), .str (Tx b)] ∧ a.length = b.length ∧ a.length ≤ 1000 ∧ ∀ H', Ex H H' → Q (.str (Tx (pickS c a b))) H'
def spJoin : Sp := fun vs H Q _ => ∃ a b : List Nat, vs = [.str (Tx a), .str (Tx b)] ∧ a.length + b.length ≤ 1000 ∧ ∀ H', Ex H H' → Q (.str (Tx (a ++ b))) H'
def spPart : Sp := fun vs H Q _ => ∃ (l : List Nat) (hi lo : Nat), vs = [.str (Tx l), .int (hi : Int), .int (lo : Int)] ∧ lo ≤ hi ∧ hi < l.length ∧ l.length ≤ 1000 ∧ ∀ H', Ex H H' → Q (.str (Tx (partS l hi lo))) H'
section
variable {K : PySem.W.Frag} {σ : L2.St} {H : Hp} {ta tb te : TE} {tl th : TO}
theorem cut_Tx (l : List Nat) (i j : Nat) (hij : i ≤ j) (hj : j ≤ l.length) : cutS (Tx l) (some (i : Int)) (some (j : Int)) = Tx ((l.drop i).take (j - i)) := by
  unfold cutS
  rw [Tx_len, HT.sIx_nat, HT.sIx_nat, Nat.min_eq_left hj, Nat.min_eq_left (by omega)]
theorem ev_cutT {l : List Nat} {i j : Nat} (ha : Ev te σ H (.str (Tx l))) (h1 : EvO tl σ H (some (i : Int))) (h2 : EvO th σ H (some (j : Int))) (hij : i ≤ j) (hj : j ≤ l.length) (hz : l.length ≤ 40000) : Ev (tSl rSlS te tl th) σ H (.str (Tx ((l.drop i).take (j - i)))) := fun H1 e Q q =>
  ha H1 e _ fun H2 e2 => h1 H2 (e.trans e2) _ fun H3 e3 => h2 H3 ((e.trans e2).trans e3) _ fun H4 e4 => ⟨Tx l, rfl, sz_of (by rw [Tx_len]; omega), by rw [cut_Tx l i j hij hj]; exact q H4 ((e2.trans e3).trans e4)⟩
/-- a new list of texts, of what a def tells of each of a list's texts -/
theorem el_lcV {xs : List (List Nat)} {a : Addr} {tl : TE} {j : Nat} {vs : List Nat} (g : List Nat → V) (h : Ev tl σ H (.ref a)) (hx : SqL K H a (xs.map fun l => V.str (Tx l))) (hz : xs.length ≤ 40000) (hw : ∀ x, wipe ((wipe σ vs).set j (some x)) vs = wipe σ vs)
    (he : ∀ (l : List Nat) H1, Ex H H1 → l ∈ xs → Ev te ((wipe σ vs).set j (some (.str (Tx l)))) H1 (g l)) :
    EvL (tLc (iList K tl) (gName j) tYes te vs) σ H (xs.map g) := by
  have hs : (xs.map fun l => V.str (Tx l)).length = xs.length := List.length_map _
  rw [← given_all xs [] g, ← hs]
  refine el_lcL (fun _ => true) (fun i => g (xs.getD i [])) h hx (by omega) hw (fun i x H1 e hi => et_yes) (fun i x H1 e hi _ => ?_)
  rw [List.getElem?_map] at hi
  cases hq : xs[i]? with
  | none =>
    rw [hq] at hi
    cases hi
  | some l =>
    rw [hq] at hi
    have ex : V.str (Tx l) = x := Option.some.inj hi
    subst ex
    rw [show xs.getD i [] = l by rw [List.getD_eq_getElem?_getD, hq]; rfl]
    exact he l H1 e (List.mem_of_getElem? hq)
end
end Dw

set_option Elab.async false
set_option linter.all false
set_option maxRecDepth 100000
namespace Dw
open PySem L2 Evl
section
variable {K : PySem.W.Frag} {σ : L2.St} {H : Hp} {ta : TA} {te tx : TE} {t : TT} {z : V}
/-- [e for k in range(i, j, -1)] -/
theorem el_lcR3 {j : Nat} {vs : List Nat} {a b : Int} (v : Nat → V) (h : EvA ta σ H [.int a, .int b, .int (-1)]) (hr : 0 ≤ a ∧ a ≤ 1000 ∧ -1 ≤ b ∧ b ≤ a) (hw : ∀ x, wipe ((wipe σ vs).set j (some x)) vs = wipe σ vs)
    (he : ∀ (i : Nat) H1, Ex H H1 → (i : Int) < a - b → Ev te ((wipe σ vs).set j (some (.int (a - (i : Int))))) H1 (v i)) :
    EvL (tLc (iRng3 ta) (gName j) tYes te vs) σ H ((List.range (a - b).toNat).map v) := fun H0 e Q q => h H0 e _ fun H1 e1 => ⟨a, b, -1, (a - b).toNat, rfl, RgC.neg (by omega) (by omega) (by omega) (by omega), fun Dl hD => by
  have e2 : (List.range (a - b).toNat).map v = given (a - b).toNat (fun _ => true) v := by
    unfold given
    rw [List.filter_eq_self.mpr (fun _ _ => rfl)]
  rw [e2] at q
  refine lc_it walk_rangeC (Cw H1 (fun _ => true) v Dl) ⟨hD, Ex.new hD, upd_same⟩ (fun _ _ _ _ => True.intro) (fun i x H2 H3 hi p y => ?_) (fun H' p => q Dl H' (fresh_back e1 p.1) (e1.trans p.2.1) p.2.2)
  obtain ⟨rfl, hx⟩ := y
  have hx2 : x = .int (a - (i : Int)) := by
    rw [hx]
    show V.int (a + (i : Int) * -1) = V.int (a - (i : Int))
    congr 1
    omega
  subst hx2
  exact ⟨hw _, cw_turn p (by omega) et_yes fun _ => he i H1 (e.trans e1) (by omega)⟩⟩
/-- f('word', [..]) -/
theorem ev_callL2 {sp : Sp} {dvs : List V} {E : XK} {w : V} {xs : List V} (h : EvL te σ H xs) (hs : ∀ p H1, H1 p = some (.lst xs) → Ex H H1 → SpV sp ([w, .ref p] ++ dvs) H1 z) : Ev (tCall sp dvs E (tCons (tC w) (tCons te tNil))) σ H z := fun H1 e Q q =>
  h H1 e _ fun p H2 _ e2 h2 => hs p H2 h2 (e.trans e2) H2 (Ex.refl _) Q (fun H3 e3 => q H3 (e2.trans e3)) E
/-- f('word', [..], k=..) -/
theorem ev_callNL2 {sp : Sp} {n m : Nat} {gV : List V → List V → List V} {E : XK} {tK : TA} {w : V} {xs zs : List V} (h : EvL te σ H xs) (hk : EvA tK σ H zs) (l1 : 2 = n) (l2 : zs.length = m) (hs : ∀ p H1, H1 p = some (.lst xs) → Ex H H1 → SpV sp (gV [w, .ref p] zs) H1 z) : Ev (tCallN n m sp gV E (tCons (tC w) (tCons te tNil)) tK) σ H z := fun H1 e Q q =>
  h H1 e _ fun p H2 _ e2 h2 => hk H2 (e.trans e2) _ fun H3 e3 => ⟨l1, l2, hs p H3 (e3 _ _ h2) ((e.trans e2).trans e3) H3 (Ex.refl _) Q (fun H4 e4 => q H4 ((e2.trans e3).trans e4)) E⟩
end
theorem mul_ok : ∀ d ∈ [48, 49], ∀ n : Fin 9, MulOk (Tx [d]) ((n.val : Nat) : Int) ∧ Txt.mul (Tx [d]) ((n.val : Nat) : Int) = Tx (List.replicate n.val d) := by
  simp only [MulOk]
  decide +kernel
theorem mul_Tx {d : Nat} (hd : d ∈ [48, 49]) {n : Nat} (hn : n ≤ 8) : MulOk (Tx [d]) (n : Int) ∧ Txt.mul (Tx [d]) (n : Int) = Tx (List.replicate n d) := mul_ok d hd ⟨n, by omega⟩
theorem part_due (L : List Nat) (hi lo : Nat) (h1 : lo ≤ hi) (h2 : hi < L.length) : (List.range (hi + 1 - lo)).map (fun t => L.reverse.getD (hi - t) 0) = partS L hi lo := by
  unfold partS
  apply List.ext_getElem
  · simp
    omega
  · intro i h3 h4
    simp at h3
    simp
    rw [List.getElem?_reverse (by omega), List.getElem?_eq_getElem (by omega)]
    show L[L.length - 1 - (hi - i)] = L[L.length - 1 - hi + i]
    congr 1
    omega
theorem mix_rd {a b : Nat} (ha : a ∈ sgn) (hb : b ∈ sgn) : mixS (rd a) (rd b) = mixS a b := by
  simp only [sgn, List.mem_cons, List.not_mem_nil, or_false] at ha hb
  rcases ha with rfl | rfl | rfl | rfl <;> rcases hb with rfl | rfl | rfl | rfl <;> decide
theorem mixed_rd : ∀ {a b : List Nat}, Sg a → Sg b → List.zipWith mixS (a.map rd) (b.map rd) = List.zipWith mixS a b
  | [], _, _, _ => by simp
  | _ :: _, [], _, _ => by simp
  | x :: a, y :: b, ha, hb => by
    rw [List.map_cons, List.map_cons, List.zipWith_cons_cons, List.zipWith_cons_cons, mix_rd (ha x (List.mem_cons_self ..)) (hb y (List.mem_cons_self ..)), mixed_rd (fun c hc => ha c (List.mem_cons_of_mem _ hc)) (fun c hc => hb c (List.mem_cons_of_mem _ hc))]
theorem mem_rd {l : List Nat} {c : Nat} (hc : c = 48 ∨ c = 49) : c ∈ l.map rd ↔ c ∈ l := by
  rw [List.mem_map]
  constructor
  · rintro ⟨d, hd, e⟩
    unfold rd at e
    by_cases h : d = 122
    · rw [if_pos h] at e
      omega
    · rw [if_neg h] at e
      rw [← e]
      exact hd
  · intro h
    exact ⟨c, h, by unfold rd; rw [if_neg (by omega)]⟩
theorem x_rd {l : List Nat} (h : Sg l) (u d : Nat) (hud : (u = 48 ∧ d = 49) ∨ (u = 49 ∧ d = 48)) (hu : u ∉ l) : 120 ∈ l.map rd ↔ ¬ l = List.replicate l.length d := by
  rw [List.mem_map]
  constructor
  · rintro ⟨c, hc, e⟩ hr
    rw [hr] at hc
    have := (List.mem_replicate.mp hc).2
    subst this
    unfold rd at e
    by_cases h2 : c = 122
    · omega
    · rw [if_neg h2] at e
      omega
  · intro hn
    by_cases hx : ∃ c ∈ l, rd c = 120
    · obtain ⟨c, hc, e⟩ := hx
      exact ⟨c, hc, e⟩
    · exfalso
      apply hn
      rw [List.eq_replicate_iff]
      refine ⟨rfl, fun c hc => ?_⟩
      have h3 := h c hc
      have h4 : rd c ≠ 120 := fun e => hx ⟨c, hc, e⟩
      have h5 : c ≠ u := fun e => hu (by rw [← e]; exact hc)
      simp only [sgn, List.mem_cons, List.not_mem_nil, or_false] at h3
      rcases h3 with rfl | rfl | rfl | rfl
      · omega
      · omega
      · exact absurd rfl h4
      · exact absurd rfl h4
end Dw

set_option Elab.async false
set_option linter.all false
set_option maxRecDepth 100000
namespace Dw
open PySem L2 Evl
/-! ### set(xs) of a list of whole numbers (the library has it of a tuple) -/
section
open PyProof.Rows
variable {P : Program} {w : World} {A : Around} {E : Value → Shared → Prop} {s : Shared}
abbrev set0 (w : World) : Obj := { cls := .type "set", dict := none, data := .set #[] 0 (.fresh 0 0 (!w.params.followText "set-order")) }
/-- set.__init__ of a set just made, handed a list -/
theorem init_set_lst {l : Addr} {us : Array Value} (ns : List Int) {R : PySem.Fin → Shared → Prop} (calm : A.handled = none) (isl : s.heap.IsList l us) (hni : IntsAre us.toList ns) (few : ns.length + 1 < scanBound)
    (k : ∀ (g : Heap) (tk c : Nat), SetR w g s.heap.objs.size (fun j => decide (j ∈ ns)) c → c ≤ ns.length → (∀ b o, s.heap.get? b = some o → g.get? b = some o) → R (.done (.ret .none)) { s with heap := g, toks := tk }) :
    wpAny (model P w) A (Builtin.«set.__init__» ⟨[.ref s.heap.objs.size, .ref l], []⟩) R E { s with heap := s.heap.push (set0 w) } := by
  have nI : us.size = ns.length := by
    rw [← Array.length_toList]
    exact IntsAre.length hni
  obtain ⟨⟨k1, k2, k3, k4⟩, at0, kc, nn, kd⟩ := isl
  simp only at kc kd
  subst kc kd
  have at1 : (s.heap.push (set0 w)).get? s.heap.objs.size = some (set0 w) := Heap.get?_push_size _ rfl
  have at2 : (s.heap.push (set0 w)).get? l = some ⟨.type "list", k2, .seq us nn, k4⟩ := Heap.get?_push_of_some _ at0
  have b1 := F.sub_list_set
  have b2 := F.sub_list_frozenset
  have b3 : (Value.type "list" == Value.type "dict") = false := by decide
  have b4 : (s.heap.push (set0 w)).IsList l us := ⟨_, at2, rfl, nn, rfl⟩
  unfold Builtin.«set.__init__» noKeywords Builtin.Frozenset.updateFrom
  generalize eI : pyIter = PI
  wp_walk
  subst eI
  refine wpAny_pyIter_list b4 (wpAny_bind (wpAny_runValue ?_))
  have lt : l < s.heap.objs.size := Heap.lt_size at0
  have n1 : (s.heap.push (set0 w)).objs.size = s.heap.objs.size + 1 := Heap.size_push ..
  have c2 : A.in1.handled = none := by simp [calm]
  have n2 : l ≠ (s.heap.push (set0 w)).objs.size := by
    rw [n1]
    exact Nat.ne_of_lt (Nat.lt_succ_of_lt lt)
  have n3 : s.heap.objs.size ∉ [(s.heap.push (set0 w)).objs.size, l] := by
    rw [n1]
    simp only [List.mem_cons, List.not_mem_nil, or_false, not_or]
    exact ⟨Nat.ne_of_lt (Nat.lt_succ_self _), Nat.ne_of_gt lt⟩
  refine set_update_ints ((Walks.list c2 _ l n2 us).toS) s.heap.objs.size n3 ns nI few (fun i v hv => ?_) (us.size - 0) 0 _ (by omega) (Nat.zero_le _) ⟨⟨_, Heap.get?_push_size _ rfl, rfl, rfl⟩, b4.push _⟩ ⟨0, Nat.le_refl 0, setR_new_at (Heap.get?_push_of_some _ at1)⟩ fun s' c mv hc hS => ?_
  · have hi : i < ns.length := by
      rw [← nI]
      exact (Array.getElem?_eq_some_iff.mp hv).1
    obtain ⟨t, e⟩ := IntsAre.int_at hni i v (by rw [Array.getElem?_toList]; exact hv)
    exact ⟨ns[i], t, List.getElem?_eq_getElem hi, by rw [e, List.getD_eq_getElem?_getD, List.getElem?_eq_getElem hi]; rfl⟩
  · obtain ⟨g, g2, d2, tk, o2⟩ := s'
    have e1 : g2 = s.gens := mv.gens
    have e2 : d2 = s.drawn := mv.drawn
    have e3 : o2 = s.os := mv.os
    subst e1 e2 e3
    rw [nI] at hc
    refine wpAny_pure (wpAny_pure (k g tk c hS hc fun b o e => ?_))
    have lb : b < s.heap.objs.size := Heap.lt_size e
    refine mv.heap b o (fun hm => ?_) (Heap.get?_push_of_some _ (Heap.get?_push_of_some _ e))
    rw [n1] at hm
    simp only [List.mem_cons, List.not_mem_nil, or_false] at hm
    rcases hm with hm | hm
    · exact absurd hm (Nat.ne_of_lt lb)
    · exact absurd hm (Nat.ne_of_lt (Nat.lt_succ_of_lt lb))
theorem call_set_lst {l : Addr} {us : Array Value} (ns : List Int) {Q : Value → Shared → Prop} (calm : A.handled = none) (isl : s.heap.IsList l us) (hni : IntsAre us.toList ns) (few : ns.length + 1 < scanBound)
    (k : ∀ (g : Heap) (tk c : Nat), SetR w g s.heap.objs.size (fun j => decide (j ∈ ns)) c → c ≤ ns.length → (∀ b o, s.heap.get? b = some o → g.get? b = some o) → Q (.ref s.heap.objs.size) { s with heap := g, toks := tk }) :
    wpAny (model P w) A (call (.type "set") [.ref l]) Q E s := by
  obtain ⟨c0, t0, m0⟩ := F.called_set.mro
  have f1 := F.called_set.made
  have f2 := F.called_set.sub
  have f3 := F.called_set.notType
  have f4 := F.called_set.canCreate
  have f5 := F.typeCall_set_1 (.ref l)
  refine wpAny_call (codeAny_of_tree (show wpAny _ _ (callAny (.type "set") _) _ _ _ from wpAny_pure ⟨Code.quiet_builtin _ (by decide +kernel), codeAny_builtin F.entry_type_call ?_⟩))
  rw [Around.under_plain (weight_type_call_type "set" [.ref l] []) rfl]
  (repeat (any_goals (first | assumption | wp_step)))
  refine codeAny_mono (code_set_led1 (.ref l) (E := E) (Q₁ := fun v s1 => v = .ref s.heap.objs.size ∧ s1 = { s with heap := s.heap.push (set0 w) }) ⟨rfl, rfl⟩) fun r s1 hr => ?_
  match r, hr with
  | .error e, hr => exact hr
  | .ok (.ret v), hr =>
    obtain ⟨rfl, rfl⟩ := hr
    have ty : Shared.TypeIs { s with heap := s.heap.push (set0 w) } (.ref s.heap.objs.size) "set" := ⟨_, Heap.get?_push_size _ rfl, rfl⟩
    have f6 := F.called_set.init.lookup
    have f7 := F.called_set.init.bind (.ref s.heap.objs.size)
    (repeat (any_goals (first | assumption | wp_step)))
    refine codeAny_mono (codeAny_call_builtin (R := wants (fun r s2 => r = .none ∧ Q (.ref s.heap.objs.size) s2) E) F.called_set.init.plain F.entry_set_init (check_set_init_1 ty ?_)) fun r2 s2 q => ?_
    · exact init_set_lst ns (A := A.in1.in1) (by simp [calm]) isl hni few fun g tk c h1 h2 h3 => ⟨rfl, k g tk c h1 h2 h3⟩
    · match r2, q with
      | .error e, q => exact q
      | .ok (.ret v), q =>
        obtain ⟨rfl, q⟩ := q
        (repeat (any_goals (first | assumption | wp_step)))
      | .ok .next, q => exact q.elim
      | .ok .brk, q => exact q.elim
      | .ok .cont, q => exact q.elim
  | .ok .next, hr => exact hr.elim
  | .ok .brk, hr => exact hr.elim
  | .ok .cont, hr => exact hr.elim
end
section
variable {X : Cx}
def rSetI (K : PySem.W.Frag) (w : World) : List V → Hp → VK → Prop := fun xs H Q => ∃ (l : Addr) (ns : List Int), xs = [.ref l] ∧ SqL K H l (ns.map V.int) ∧ ns.length ≤ 4000 ∧ ∀ (a : Addr) (c : Nat), H a = none → c ≤ ns.length → Q (.ref a) (upd H a (SetO w a (fun j => decide (j ∈ ns)) c))
theorem cr_setI (hc : X.calm = true) : CallR X (.type "set") (rSetI X.K X.w) := by
  intro pins s σ H xs us Q I r h
  obtain ⟨l, ns, rfl, hl, hn, q⟩ := h
  rw [Vals.ref1 r]
  obtain ⟨its, rv, pl, hz⟩ := I.list hl
  refine call_set_lst ns (I.ok.hd hc) pl.isList (by simpa using rv.ints) (by unfold scanBound; omega) fun g tk c hS hc2 hk => ?_
  exact ⟨.ref s.heap.objs.size, upd H s.heap.objs.size (SetO X.w s.heap.objs.size (fun j => decide (j ∈ ns)) c), I.laid (t' := tk) hk (Nat.le_refl _) (setO_new hS), rfl, q _ c (I.hok.fresh (Nat.le_refl _)) hc2⟩
end
/-- of a list of noughts and ones, sorted, each once -/
def su (ns : List Int) : List Int := (if 0 ∈ ns then [0] else []) ++ (if 1 ∈ ns then [1] else [])
theorem su_one {ns ms : List Int} (h01 : ∀ k ∈ ns, k = 0 ∨ k = 1) (hp : ms.Pairwise (· < ·)) (hm : ∀ k : Int, k ∈ ms ↔ k ∈ ns) : ms = su ns := by
  have sub : ∀ k ∈ ms, k = 0 ∨ k = 1 := fun k hk => h01 k ((hm k).mp hk)
  unfold su
  simp only [← hm]
  clear hm h01
  match ms, hp, sub with
  | [], _, _ => simp
  | [a], _, sub =>
    rcases sub a (by simp) with rfl | rfl <;> simp
  | [a, b], hp, sub =>
    have h1 : a < b := (List.pairwise_cons.mp hp).1 b (by simp)
    rcases sub a (by simp) with rfl | rfl <;> rcases sub b (by simp) with rfl | rfl <;> first | omega | simp
  | a :: b :: c :: r, hp, sub =>
    have h1 : a < b := (List.pairwise_cons.mp hp).1 b (by simp)
    have h2 : b < c := (List.pairwise_cons.mp (List.pairwise_cons.mp hp).2).1 c (by simp)
    have := sub a (by simp)
    have := sub c (by simp)
    have := sub b (by simp)
    omega
theorem el_su {K : PySem.W.Frag} {w : World} {σ : L2.St} {H : Hp} {te : TE} {ns : List Int} (h : EvL te σ H (ns.map V.int)) (h01 : ∀ k ∈ ns, k = 0 ∨ k = 1) (hz : ns.length < 64) : EvL (tCB (rSortedSet w) (tCons (tCB (rSetI K w) (tCons te tNil)) tNil)) σ H ((su ns).map V.int) := fun H1 e Q q =>
  h H1 e _ fun p H2 np e2 h2 => ⟨p, ns, rfl, sq_of h2, by omega, fun a c na hc => ⟨a, _, c, rfl, upd_same, by omega, fun ms r hp hm _ nr => by
    rw [su_one h01 hp (fun k => (hm k).trans decide_eq_true_iff)]
    exact q r _ (fresh_back e2 (fresh_back (Ex.new na) nr)) ((e2.trans (Ex.new na)).trans (Ex.new nr)) upd_same⟩⟩
/-- the same of a list that a name holds -/
theorem el_suV {K : PySem.W.Frag} {w : World} {σ : L2.St} {H : Hp} {te : TE} {ns : List Int} {p : Addr} (h : Ev te σ H (.ref p)) (hp0 : SqL K H p (ns.map V.int)) (h01 : ∀ k ∈ ns, k = 0 ∨ k = 1) (hz : ns.length < 64) : EvL (tCB (rSortedSet w) (tCons (tCB (rSetI K w) (tCons te tNil)) tNil)) σ H ((su ns).map V.int) := fun H1 e Q q =>
  h H1 e _ fun H2 e2 => ⟨p, ns, rfl, ex_l (e.trans e2) hp0, by omega, fun a c na hc => ⟨a, _, c, rfl, upd_same, by omega, fun ms r hp hm _ nr => by
    rw [su_one h01 hp (fun k => (hm k).trans decide_eq_true_iff)]
    exact q r _ (fresh_back e2 (fresh_back (Ex.new na) nr)) ((e2.trans (Ex.new na)).trans (Ex.new nr)) upd_same⟩⟩
end Dw

set_option Elab.async false
set_option linter.all false
set_option maxRecDepth 100000
namespace Dw
/-! ### the mathematics of k16: signs -/
def k3 : List Nat := [48, 49, 120]
def wN (c : Nat) : List Nat := if c ∈ [48, 49] then [if c = 49 then 1 else 0] else [0, 1]
def ways (c : Nat) : List Int := if c ∈ [48, 49] then [if c = 49 then 1 else 0] else [0, 1]
theorem ways_wN (c : Nat) : ways c = (wN c).map fun n : Nat => (n : Int) := by
  unfold ways wN
  by_cases h : c ∈ [48, 49]
  · rw [if_pos h, if_pos h]
    by_cases h2 : c = 49
    · rw [if_pos h2, if_pos h2]; rfl
    · rw [if_neg h2, if_neg h2]; rfl
  · rw [if_neg h, if_neg h]; rfl
def notS (c : Nat) : Nat := if c = 48 then 49 else if c = 49 then 48 else 120
def xorS (c d : Nat) : Nat := if c = 120 ∨ d = 120 then 120 else if c = d then 48 else 49
def orS (c d : Nat) : Nat := if c = 49 ∨ d = 49 then 49 else if c = 48 ∧ d = 48 then 48 else 120
def cnt (x c d k : Nat) : Nat := (if c = x then 1 else 0) + (if d = x then 1 else 0) + (if k = x then 1 else 0)
def mostS (c d k : Nat) : Nat := if 1 < cnt 48 c d k then 48 else if 1 < cnt 49 c d k then 49 else 120
/-- what a step makes of two bits and what is handed on: 0 plus, 1 same, 2 less, 3 the sum's own bit -/
def fW (w : Nat) (p q c : Int) : Int := match w with
  | 0 => (p + q + c) / 2
  | 1 => if (if p ≠ q then 1 else 0) > c then (if p ≠ q then 1 else 0) else c
  | 2 => if p < q + c then 1 else 0
  | _ => (p + q + c) % 2
def triL (c d : Nat) (C : List Int) : List (Int × Int × Int) := (ways c).flatMap fun a => (ways d).flatMap fun b => C.map fun k => (a, b, k)
def tri (w c d k : Nat) : List Int := (triL c d (ways k)).map fun t => fW w t.1 t.2.1 t.2.2
def signL (l : List Int) : Nat := if 0 ∈ l ∧ 1 ∈ l then 120 else if l.getD 0 0 = 1 then 49 else 48
/-- what is handed on behind all bits, the lowest first -/
def bK (w : Nat) : Nat → List Nat → List Nat → Nat
  | k, c :: A, d :: B => bK w (signL (tri w c d k)) A B
  | k, _, _ => k
def bF (w : Nat) : Nat → List Nat → List Nat → List Nat
  | k, c :: A, d :: B => signL (tri 3 c d k) :: bF w (signL (tri w c d k)) A B
  | _, _, _ => []
def plusL : Nat → List Nat → List Nat → List Nat
  | k, c :: A, d :: B => xorS (xorS c d) k :: plusL (mostS c d k) A B
  | _, _, _ => []
def hiS (c : Nat) : Nat := if c = 120 then 49 else c
def loS (c : Nat) : Nat := if c = 120 then 48 else c
def lessS (a b : List Nat) : Nat := if a.map hiS < b.map loS then 49 else if ¬ a.map loS < b.map hiS then 48 else 120
def plusS (a b : List Nat) : List Nat := (plusL 48 a.reverse b.reverse).reverse
def sameS (a b : List Nat) : Nat := notS (anyS (List.zipWith xorS a b))
/-- what the program tells of two values that are read -/
def opS (w : Nat) (a b : List Nat) : List Nat := match w with
  | 0 => plusS a b
  | 1 => [sameS a b]
  | _ => [lessS a b]
/-- what by_bits tells -/
def bbS (w : Nat) (a b : List Nat) : List Nat := match w with
  | 0 => (bF 0 48 a.reverse b.reverse).reverse
  | 1 => [notS (bK 1 48 a.reverse b.reverse)]
  | _ => [bK 2 48 a.reverse b.reverse]
theorem tri_ok : ∀ w : Fin 4, ∀ c ∈ sgn, ∀ d ∈ sgn, ∀ k ∈ k3, (∀ x ∈ tri w.val c d k, x = 0 ∨ x = 1) ∧ (tri w.val c d k).length ≤ 8 ∧ 0 < (tri w.val c d k).length ∧ su (tri w.val c d k) = ways (signL (tri w.val c d k)) ∧ signL (tri w.val c d k) ∈ k3 := by decide +kernel
theorem plus_step : ∀ c ∈ sgn, ∀ d ∈ sgn, ∀ k ∈ k3, signL (tri 3 c d k) = xorS (xorS (rd c) (rd d)) k ∧ signL (tri 0 c d k) = mostS (rd c) (rd d) k := by decide +kernel
theorem same_step : ∀ c ∈ sgn, ∀ d ∈ sgn, ∀ k ∈ k3, signL (tri 1 c d k) = orS k (xorS (rd c) (rd d)) := by decide +kernel
theorem k3_48 : 48 ∈ k3 := by decide
theorem plus_eq : ∀ (A B : List Nat) (k : Nat), Sg A → Sg B → k ∈ k3 → plusL k (A.map rd) (B.map rd) = bF 0 k A B
  | [], _, _, _, _, _ => by simp [plusL, bF]
  | _ :: _, [], _, _, _, _ => by simp [plusL, bF]
  | c :: A, d :: B, k, ha, hb, hk => by
    have hc := ha c (List.mem_cons_self ..)
    have hd := hb d (List.mem_cons_self ..)
    obtain ⟨e1, e2⟩ := plus_step c hc d hd k hk
    have h3 := (tri_ok 0 c hc d hd k hk).2.2.2.2
    show xorS (xorS (rd c) (rd d)) k :: plusL (mostS (rd c) (rd d) k) (A.map rd) (B.map rd) = signL (tri 3 c d k) :: bF 0 (signL (tri 0 c d k)) A B
    rw [e1, e2, plus_eq A B _ (fun x hx => ha x (List.mem_cons_of_mem _ hx)) (fun x hx => hb x (List.mem_cons_of_mem _ hx)) (e2 ▸ h3)]
theorem any_or (k x : Nat) (l : List Nat) (hk : k ∈ k3) (hx : x ∈ k3) : anyS (orS k x :: l) = anyS (k :: x :: l) := by
  unfold anyS
  simp only [k3, List.mem_cons, List.not_mem_nil, or_false] at hk hx
  rcases hk with rfl | rfl | rfl <;> rcases hx with rfl | rfl | rfl <;> simp [orS]
theorem xor_k3 : ∀ c ∈ sgn, ∀ d ∈ sgn, xorS (rd c) (rd d) ∈ k3 := by decide +kernel
theorem same_eq : ∀ (A B : List Nat) (k : Nat), Sg A → Sg B → k ∈ k3 → bK 1 k A B = anyS (k :: List.zipWith xorS (A.map rd) (B.map rd))
  | [], _, k, _, _, hk => by
    simp only [k3, List.mem_cons, List.not_mem_nil, or_false] at hk
    rcases hk with rfl | rfl | rfl <;> simp [bK, anyS]
  | _ :: _, [], k, _, _, hk => by
    simp only [k3, List.mem_cons, List.not_mem_nil, or_false] at hk
    rcases hk with rfl | rfl | rfl <;> simp [bK, anyS]
  | c :: A, d :: B, k, ha, hb, hk => by
    have hc := ha c (List.mem_cons_self ..)
    have hd := hb d (List.mem_cons_self ..)
    have h3 : signL (tri 1 c d k) ∈ k3 := (tri_ok 1 c hc d hd k hk).2.2.2.2
    show bK 1 (signL (tri 1 c d k)) A B = anyS (k :: xorS (rd c) (rd d) :: List.zipWith xorS (A.map rd) (B.map rd))
    rw [same_eq A B _ (fun x hx => ha x (List.mem_cons_of_mem _ hx)) (fun x hx => hb x (List.mem_cons_of_mem _ hx)) h3, same_step c hc d hd k hk, any_or _ _ _ hk (xor_k3 c hc d hd)]
theorem any_rev (l : List Nat) : anyS l.reverse = anyS l := by
  unfold anyS
  simp only [List.mem_reverse]
theorem any_48 (l : List Nat) : anyS (48 :: l) = anyS l := by
  unfold anyS
  simp
theorem bK_snoc (w : Nat) : ∀ (A B : List Nat) (k c d : Nat), A.length = B.length → bK w k (A ++ [c]) (B ++ [d]) = signL (tri w c d (bK w k A B))
  | [], [], k, c, d, _ => by simp [bK]
  | [], _ :: _, _, _, _, h => by simp at h
  | _ :: _, [], _, _, _, h => by simp at h
  | x :: A, y :: B, k, c, d, h => by
    show bK w (signL (tri w x y k)) (A ++ [c]) (B ++ [d]) = signL (tri w c d (bK w (signL (tri w x y k)) A B))
    exact bK_snoc w A B _ c d (by simpa using h)
theorem lo_hi : ∀ (a b : List Nat), Sx a → Sx b → a.length = b.length → a.map hiS < b.map loS → a.map loS < b.map hiS
  | [], [], _, _, _, h => absurd h (List.lt_irrefl _)
  | [], _ :: _, _, _, h, _ => by simp at h
  | _ :: _, [], _, _, h, _ => by simp at h
  | c :: a, d :: b, ha, hb, hl, h => by
    have hc := ha c (List.mem_cons_self ..)
    have hd := hb d (List.mem_cons_self ..)
    rw [List.map_cons, List.map_cons, List.cons_lt_cons_iff] at h ⊢
    have ih := lo_hi a b (fun x hx => ha x (List.mem_cons_of_mem _ hx)) (fun x hx => hb x (List.mem_cons_of_mem _ hx)) (by simpa using hl)
    simp only [List.mem_cons, List.not_mem_nil, or_false] at hc hd
    rcases h with h | ⟨h1, h2⟩
    · refine .inl ?_
      rcases hc with rfl | rfl | rfl <;> rcases hd with rfl | rfl | rfl <;> revert h <;> decide
    · have h3 := ih h2
      rcases hc with rfl | rfl | rfl <;> rcases hd with rfl | rfl | rfl <;> first | (exact absurd h1 (by decide)) | (exact .inr ⟨rfl, h3⟩) | (exact .inl (by decide))
theorem less_k3 (a b : List Nat) : lessS a b ∈ k3 := by
  unfold lessS
  split
  · decide
  · split <;> decide
theorem less_step {c d : Nat} (a b : List Nat) (hc : c ∈ sgn) (hd : d ∈ sgn) (ha : Sx a) (hb : Sx b) (hl : a.length = b.length) : lessS (rd c :: a) (rd d :: b) = signL (tri 2 c d (lessS a b)) := by
  have hx := lo_hi a b ha hb hl
  have key1 : ∀ c ∈ sgn, ∀ d ∈ sgn, (if hiS (rd c) < loS (rd d) ∨ hiS (rd c) = loS (rd d) ∧ True then 49 else if ¬ (loS (rd c) < hiS (rd d) ∨ loS (rd c) = hiS (rd d) ∧ True) then 48 else 120) = signL (tri 2 c d 49) := by decide +kernel
  have key2 : ∀ c ∈ sgn, ∀ d ∈ sgn, (if hiS (rd c) < loS (rd d) ∨ hiS (rd c) = loS (rd d) ∧ False then 49 else if ¬ (loS (rd c) < hiS (rd d) ∨ loS (rd c) = hiS (rd d) ∧ True) then 48 else 120) = signL (tri 2 c d 120) := by decide +kernel
  have key3 : ∀ c ∈ sgn, ∀ d ∈ sgn, (if hiS (rd c) < loS (rd d) ∨ hiS (rd c) = loS (rd d) ∧ False then 49 else if ¬ (loS (rd c) < hiS (rd d) ∨ loS (rd c) = hiS (rd d) ∧ False) then 48 else 120) = signL (tri 2 c d 48) := by decide +kernel
  unfold lessS
  simp only [List.map_cons, List.cons_lt_cons_iff]
  by_cases hP : a.map hiS < b.map loS
  · have hQ := hx hP
    simp only [hP, hQ, if_true]
    exact key1 c hc d hd
  · by_cases hQ : a.map loS < b.map hiS
    · simp only [hP, hQ, if_false, not_true_eq_false]
      exact key2 c hc d hd
    · simp only [hP, hQ, if_false, not_false_eq_true, if_true]
      exact key3 c hc d hd
theorem less_eq : ∀ (a b : List Nat), Sg a → Sg b → a.length = b.length → lessS (a.map rd) (b.map rd) = bK 2 48 a.reverse b.reverse
  | [], [], _, _, _ => by simp [lessS, bK]
  | [], _ :: _, _, _, h => by simp at h
  | _ :: _, [], _, _, h => by simp at h
  | c :: a, d :: b, ha, hb, hl => by
    have hl2 : a.length = b.length := by simpa using hl
    have ha2 : Sg a := fun x hx => ha x (List.mem_cons_of_mem _ hx)
    have hb2 : Sg b := fun x hx => hb x (List.mem_cons_of_mem _ hx)
    rw [List.reverse_cons, List.reverse_cons, bK_snoc 2 _ _ _ _ _ (by simpa using hl2), ← less_eq a b ha2 hb2 hl2]
    exact less_step _ _ (ha c (List.mem_cons_self ..)) (hb d (List.mem_cons_self ..)) (rd_sx ha2) (rd_sx hb2) (by simpa using hl2)
theorem sg_rev {a : List Nat} (h : Sg a) : Sg a.reverse := fun x hx => h x (List.mem_reverse.mp hx)
/-- the program tells what goes from bit to bit -/
theorem op_bb {w : Nat} (a b : List Nat) (ha : Sg a) (hb : Sg b) (hl : a.length = b.length) : opS w (a.map rd) (b.map rd) = bbS w a b := by
  match w with
  | 0 =>
    show (plusL 48 (a.map rd).reverse (b.map rd).reverse).reverse = (bF 0 48 a.reverse b.reverse).reverse
    rw [← List.map_reverse, ← List.map_reverse, plus_eq _ _ _ (sg_rev ha) (sg_rev hb) k3_48]
  | 1 =>
    show [notS (anyS (List.zipWith xorS (a.map rd) (b.map rd)))] = [notS (bK 1 48 a.reverse b.reverse)]
    rw [same_eq _ _ _ (sg_rev ha) (sg_rev hb) k3_48, any_48, List.map_reverse, List.map_reverse, ← List.reverse_zipWith (by simpa using hl), any_rev]
  | n + 2 =>
    show [lessS (a.map rd) (b.map rd)] = [bK 2 48 a.reverse b.reverse]
    rw [less_eq a b ha hb hl]
/-! ### numbers of all fillings -/
/-- m is a number of a filling, the lowest bit first -/
def Num : List Nat → Nat → Prop
  | [], m => m = 0
  | c :: A, m => ∃ p ∈ wN c, ∃ n, Num A n ∧ m = 2 * n + p
theorem num_some : ∀ A : List Nat, ∃ m, Num A m
  | [] => ⟨0, rfl⟩
  | c :: A => by
    obtain ⟨n, hn⟩ := num_some A
    have h : ∃ p, p ∈ wN c := by
      unfold wN
      split
      · exact ⟨_, List.mem_singleton.mpr rfl⟩
      · exact ⟨0, by simp⟩
    obtain ⟨p, hp⟩ := h
    exact ⟨2 * n + p, p, hp, n, hn, rfl⟩
theorem num_lt : ∀ (A : List Nat) (m : Nat), Num A m → m < 2 ^ A.length
  | [], m, h => by
    have : m = 0 := h
    simp [this]
  | c :: A, m, h => by
    obtain ⟨p, hp, n, hn, rfl⟩ := h
    have h1 := num_lt A n hn
    have h2 : p < 2 := by
      unfold wN at hp
      split at hp
      · have := List.mem_singleton.mp hp
        split at this <;> omega
      · simp at hp
        omega
    rw [List.length_cons, Nat.pow_succ]
    omega
/-- the sign c for what may be: true, false, both -/
def SignOf (P : Bool → Prop) (c : Nat) : Prop := (c = 49 ∧ P true ∧ ¬ P false) ∨ (c = 48 ∧ P false ∧ ¬ P true) ∨ (c = 120 ∧ P true ∧ P false)
theorem SignOf.one {P : Bool → Prop} {c d : Nat} (h1 : SignOf P c) (h2 : SignOf P d) : c = d := by
  rcases h1 with ⟨rfl, a, b⟩ | ⟨rfl, a, b⟩ | ⟨rfl, a, b⟩ <;> rcases h2 with ⟨rfl, a', b'⟩ | ⟨rfl, a', b'⟩ | ⟨rfl, a', b'⟩ <;> first | rfl | (exact absurd a b') | (exact absurd a' b) | (exact absurd b b') | (exact absurd b' b)
theorem SignOf.congr {P Q : Bool → Prop} {c : Nat} (h : ∀ v, P v ↔ Q v) (h1 : SignOf P c) : SignOf Q c := by
  unfold SignOf at h1 ⊢
  rw [← h true, ← h false]
  exact h1
theorem SignOf.not {P : Bool → Prop} {c : Nat} (h1 : SignOf P c) : SignOf (fun v => P (!v)) (notS c) := by
  rcases h1 with ⟨rfl, a, b⟩ | ⟨rfl, a, b⟩ | ⟨rfl, a, b⟩
  · exact .inr (.inl ⟨rfl, a, b⟩)
  · exact .inl ⟨rfl, a, b⟩
  · exact .inr (.inr ⟨rfl, b, a⟩)
/-- of two bits and what is handed on, and of the whole numbers -/
def hW (w : Nat) (m n q : Nat) : Bool := if w = 1 then decide (q = 1 ∨ m ≠ n) else decide (m < n + q)
theorem wN_01 (c : Nat) : ∀ p ∈ wN c, p = 0 ∨ p = 1 := by
  intro p hp
  unfold wN at hp
  split at hp
  · have := List.mem_singleton.mp hp
    split at this <;> omega
  · simp at hp
    omega
theorem tri_mem (w c d k : Nat) (x : Int) : x ∈ tri w c d k ↔ ∃ p ∈ wN c, ∃ q ∈ wN d, ∃ r ∈ wN k, x = fW w (p : Int) (q : Int) (r : Int) := by
  unfold tri triL
  simp only [ways_wN, List.mem_map, List.mem_flatMap]
  constructor
  · rintro ⟨t, ⟨a, ⟨p, hp, rfl⟩, b, ⟨q, hq, rfl⟩, k, ⟨r, hr, rfl⟩, rfl⟩, rfl⟩
    exact ⟨p, hp, q, hq, r, hr, rfl⟩
  · rintro ⟨p, hp, q, hq, r, hr, rfl⟩
    exact ⟨_, ⟨_, ⟨p, hp, rfl⟩, _, ⟨q, hq, rfl⟩, _, ⟨r, hr, rfl⟩, rfl⟩, rfl⟩
theorem su_mem (l : List Int) (h : ∀ x ∈ l, x = 0 ∨ x = 1) (x : Int) : x ∈ su l ↔ x ∈ l := by
  unfold su
  by_cases h0 : (0 : Int) ∈ l <;> by_cases h1 : (1 : Int) ∈ l <;> simp only [h0, h1, if_true, if_false, List.mem_append, List.mem_singleton, List.not_mem_nil, or_false, false_or]
  all_goals
    constructor
    · intro hx
      first | (rcases hx with rfl | rfl <;> assumption) | (subst hx; assumption) | exact hx.elim
    · intro hx
      have := h x hx
      rcases this with rfl | rfl <;> simp_all
/-- what is handed on, by signs -/
theorem next_mem {w : Nat} (hw : w < 4) {c d k : Nat} (hc : c ∈ sgn) (hd : d ∈ sgn) (hk : k ∈ k3) (s : Nat) : s ∈ wN (signL (tri w c d k)) ↔ ∃ p ∈ wN c, ∃ q ∈ wN d, ∃ r ∈ wN k, (s : Int) = fW w (p : Int) (q : Int) (r : Int) := by
  obtain ⟨h1, _, _, h4, _⟩ := tri_ok ⟨w, hw⟩ c hc d hd k hk
  simp only at h1 h4
  rw [← tri_mem, ← su_mem _ h1, h4, ways_wN, List.mem_map]
  constructor
  · intro h
    exact ⟨s, h, rfl⟩
  · rintro ⟨t, ht, e⟩
    rw [show s = t by omega]
    exact ht
theorem hW_step {w : Nat} (hw : w = 1 ∨ w = 2) {p q r m n : Nat} (hp : p = 0 ∨ p = 1) (hq : q = 0 ∨ q = 1) (hr : r = 0 ∨ r = 1) {s : Nat} (hs : (s : Int) = fW w (p : Int) (q : Int) (r : Int)) : hW w (2 * m + p) (2 * n + q) r = hW w m n s := by
  rcases hw with rfl | rfl
  · unfold hW
    rw [if_pos rfl, if_pos rfl, decide_eq_decide]
    rcases hp with rfl | rfl <;> rcases hq with rfl | rfl <;> rcases hr with rfl | rfl <;> simp [fW] at hs <;> omega
  · unfold hW
    rw [if_neg (by decide), if_neg (by decide), decide_eq_decide]
    rcases hp with rfl | rfl <;> rcases hq with rfl | rfl <;> rcases hr with rfl | rfl <;> simp [fW] at hs <;> omega
theorem fW_nat {w : Nat} (hw : w < 4) {p q r : Nat} (hp : p = 0 ∨ p = 1) (hq : q = 0 ∨ q = 1) (hr : r = 0 ∨ r = 1) : ∃ s : Nat, (s : Int) = fW w (p : Int) (q : Int) (r : Int) := by
  match w, hw with
  | 0, _ => exact ⟨(p + q + r) / 2, by simp [fW]⟩
  | 1, _ => rcases hp with rfl | rfl <;> rcases hq with rfl | rfl <;> rcases hr with rfl | rfl <;> first | exact ⟨0, by decide⟩ | exact ⟨1, by decide⟩
  | 2, _ => rcases hp with rfl | rfl <;> rcases hq with rfl | rfl <;> rcases hr with rfl | rfl <;> first | exact ⟨0, by decide⟩ | exact ⟨1, by decide⟩
  | 3, _ => exact ⟨(p + q + r) % 2, by simp [fW]⟩
theorem hand_eq {w : Nat} (hw : w = 1 ∨ w = 2) : ∀ (A B : List Nat) (k : Nat), Sg A → Sg B → k ∈ k3 → A.length = B.length → SignOf (fun v => ∃ m n q, Num A m ∧ Num B n ∧ q ∈ wN k ∧ hW w m n q = v) (bK w k A B)
  | [], [], k, _, _, hk, _ => by
    have base : ∀ (q : Nat), (q = 0 ∨ q = 1) → hW w 0 0 q = decide (q = 1) := fun q hq => by
      rcases hw with rfl | rfl <;> rcases hq with rfl | rfl <;> decide
    refine SignOf.congr (P := fun v => ∃ q ∈ wN k, decide (q = 1) = v) (fun v => ?_) ?_
    · constructor
      · rintro ⟨q, hq, rfl⟩
        exact ⟨0, 0, q, rfl, rfl, hq, base q (wN_01 k q hq)⟩
      · rintro ⟨m, n, q, rfl, rfl, hq, rfl⟩
        exact ⟨q, hq, (base q (wN_01 k q hq)).symm⟩
    · show SignOf _ k
      simp only [k3, List.mem_cons, List.not_mem_nil, or_false] at hk
      rcases hk with rfl | rfl | rfl
      · exact .inr (.inl ⟨rfl, ⟨0, by decide, by decide⟩, by rintro ⟨q, hq, e⟩; simp [wN] at hq; subst hq; revert e; decide⟩)
      · exact .inl ⟨rfl, ⟨1, by decide, by decide⟩, by rintro ⟨q, hq, e⟩; simp [wN] at hq; subst hq; revert e; decide⟩
      · exact .inr (.inr ⟨rfl, ⟨1, by decide, by decide⟩, ⟨0, by decide, by decide⟩⟩)
  | [], _ :: _, _, _, _, _, h => by simp at h
  | _ :: _, [], _, _, _, _, h => by simp at h
  | c :: A, d :: B, k, ha, hb, hk, hl => by
    have hc := ha c (List.mem_cons_self ..)
    have hd := hb d (List.mem_cons_self ..)
    have hw4 : w < 4 := by omega
    have h3 : signL (tri w c d k) ∈ k3 := (tri_ok ⟨w, hw4⟩ c hc d hd k hk).2.2.2.2
    have ih := hand_eq hw A B (signL (tri w c d k)) (fun x hx => ha x (List.mem_cons_of_mem _ hx)) (fun x hx => hb x (List.mem_cons_of_mem _ hx)) h3 (by simpa using hl)
    refine SignOf.congr (fun v => ?_) ih
    constructor
    · rintro ⟨m, n, s, hm, hn, hs, rfl⟩
      obtain ⟨p, hp, q, hq, r, hr, e⟩ := (next_mem hw4 hc hd hk s).mp hs
      exact ⟨2 * m + p, 2 * n + q, r, ⟨p, hp, m, hm, rfl⟩, ⟨q, hq, n, hn, rfl⟩, hr, hW_step hw (wN_01 _ _ hp) (wN_01 _ _ hq) (wN_01 _ _ hr) e⟩
    · rintro ⟨_, _, r, ⟨p, hp, m, hm, rfl⟩, ⟨q, hq, n, hn, rfl⟩, hr, rfl⟩
      obtain ⟨s, e⟩ := fW_nat hw4 (wN_01 _ _ hp) (wN_01 _ _ hq) (wN_01 _ _ hr)
      exact ⟨m, n, s, hm, hn, (next_mem hw4 hc hd hk s).mpr ⟨p, hp, q, hq, r, hr, e⟩, (hW_step hw (wN_01 _ _ hp) (wN_01 _ _ hq) (wN_01 _ _ hr) e).symm⟩
/-- a list of noughts and ones by its sign -/
theorem signL_of (l : List Int) (h : ∀ x ∈ l, x = 0 ∨ x = 1) (h0 : 0 < l.length) : SignOf (fun v => (if v then 1 else 0) ∈ l) (signL l) := by
  unfold signL SignOf
  match l, h0 with
  | x :: r, _ =>
    have hx := h x (List.mem_cons_self ..)
    by_cases h1 : (0 : Int) ∈ x :: r ∧ (1 : Int) ∈ x :: r
    · rw [if_pos h1]
      exact .inr (.inr ⟨rfl, h1.2, h1.1⟩)
    · rw [if_neg h1]
      rcases hx with rfl | rfl
      · refine .inr (.inl ⟨by simp, by simp, fun z => h1 ⟨by simp, by simpa using z⟩⟩)
      · refine .inl ⟨by simp, by simp, fun z => h1 ⟨by simpa using z, by simp⟩⟩
theorem bF_len (w : Nat) : ∀ (A B : List Nat) (k : Nat), A.length = B.length → (bF w k A B).length = A.length
  | [], [], _, _ => by simp [bF]
  | [], _ :: _, _, h => by simp at h
  | _ :: _, [], _, h => by simp at h
  | c :: A, d :: B, k, h => by
    show (_ :: bF w _ A B).length = A.length + 1
    rw [List.length_cons, bF_len w A B _ (by simpa using h)]
theorem sum_eq : ∀ (A B : List Nat) (k j : Nat), Sg A → Sg B → k ∈ k3 → A.length = B.length → j < A.length → SignOf (fun v => ∃ m n q, Num A m ∧ Num B n ∧ q ∈ wN k ∧ (m + n + q).testBit j = v) ((bF 0 k A B).getD j 0)
  | [], _, _, _, _, _, _, _, h => by simp at h
  | _ :: _, [], _, _, _, _, _, h, _ => by simp at h
  | c :: A, d :: B, k, 0, ha, hb, hk, hl, _ => by
    have hc := ha c (List.mem_cons_self ..)
    have hd := hb d (List.mem_cons_self ..)
    obtain ⟨h1, _, h3, _, _⟩ := tri_ok 3 c hc d hd k hk
    obtain ⟨m0, hm0⟩ := num_some A
    obtain ⟨n0, hn0⟩ := num_some B
    show SignOf _ (signL (tri 3 c d k))
    refine SignOf.congr (fun v => ?_) (signL_of (tri 3 c d k) h1 h3)
    rw [tri_mem]
    have bit : ∀ (p q r m n : Nat), ((if v = true then 1 else 0 : Int) = fW 3 (p : Int) (q : Int) (r : Int) ↔ (2 * m + p + (2 * n + q) + r).testBit 0 = v) := fun p q r m n => by
      rw [Nat.testBit_zero]
      simp only [fW]
      cases v with
      | true =>
        simp
        omega
      | false =>
        simp
        omega
    constructor
    · rintro ⟨p, hp, q, hq, r, hr, e⟩
      exact ⟨2 * m0 + p, 2 * n0 + q, r, ⟨p, hp, m0, hm0, rfl⟩, ⟨q, hq, n0, hn0, rfl⟩, hr, (bit p q r m0 n0).mp e⟩
    · rintro ⟨_, _, r, ⟨p, hp, m, hm, rfl⟩, ⟨q, hq, n, hn, rfl⟩, hr, e⟩
      exact ⟨p, hp, q, hq, r, hr, (bit p q r m n).mpr e⟩
  | c :: A, d :: B, k, j + 1, ha, hb, hk, hl, hj => by
    have hc := ha c (List.mem_cons_self ..)
    have hd := hb d (List.mem_cons_self ..)
    have h3 : signL (tri 0 c d k) ∈ k3 := (tri_ok 0 c hc d hd k hk).2.2.2.2
    have ih := sum_eq A B (signL (tri 0 c d k)) j (fun x hx => ha x (List.mem_cons_of_mem _ hx)) (fun x hx => hb x (List.mem_cons_of_mem _ hx)) h3 (by simpa using hl) (by simpa using hj)
    have ih : SignOf _ ((bF 0 k (c :: A) (d :: B)).getD (j + 1) 0) := ih
    refine SignOf.congr (fun v => ?_) ih
    have bit : ∀ (p q r m n s : Nat), (s : Int) = fW 0 (p : Int) (q : Int) (r : Int) → (2 * m + p + (2 * n + q) + r).testBit (j + 1) = (m + n + s).testBit j := fun p q r m n s e => by
      rw [Nat.testBit_succ]
      congr 1
      simp only [fW] at e
      omega
    constructor
    · rintro ⟨m, n, s, hm, hn, hs, rfl⟩
      obtain ⟨p, hp, q, hq, r, hr, e⟩ := (next_mem (by decide) hc hd hk s).mp hs
      exact ⟨2 * m + p, 2 * n + q, r, ⟨p, hp, m, hm, rfl⟩, ⟨q, hq, n, hn, rfl⟩, hr, bit p q r m n s e⟩
    · rintro ⟨_, _, r, ⟨p, hp, m, hm, rfl⟩, ⟨q, hq, n, hn, rfl⟩, hr, rfl⟩
      obtain ⟨s, e⟩ := fW_nat (w := 0) (by decide) (wN_01 _ _ hp) (wN_01 _ _ hq) (wN_01 _ _ hr)
      exact ⟨m, n, s, hm, hn, (next_mem (by decide) hc hd hk s).mpr ⟨p, hp, q, hq, r, hr, e⟩, (bit p q r m n s e).symm⟩
/-- all numbers, as the list grows -/
def numS (acc : List Nat) (c : Nat) : List Nat := acc.map (fun n => 2 * n + (wN c).getD 0 0) ++ acc.map (fun n => 2 * n + (wN c).getD ((wN c).length - 1) 0)
def nums (l : List Nat) : List Nat := l.foldl numS [0]
theorem nums_snoc (l : List Nat) (c : Nat) : nums (l ++ [c]) = numS (nums l) c := by
  unfold nums
  rw [List.foldl_append]
  rfl
theorem nums_len : ∀ l : List Nat, (nums l).length = 2 ^ l.length := fun l => by
  have gen : ∀ (l acc : List Nat), (l.foldl numS acc).length = acc.length * 2 ^ l.length := fun l => by
    induction l with
    | nil => intro acc; simp
    | cons c l ih =>
      intro acc
      rw [List.foldl_cons, ih, List.length_cons, Nat.pow_succ]
      unfold numS
      rw [List.length_append, List.length_map, List.length_map, ← Nat.mul_two, Nat.mul_assoc, Nat.mul_comm 2]
  have := gen l [0]
  simpa [nums] using this
theorem wN_ends (c p : Nat) : p ∈ wN c ↔ p = (wN c).getD 0 0 ∨ p = (wN c).getD ((wN c).length - 1) 0 := by
  unfold wN
  split <;> simp
theorem nums_mem : ∀ (A : List Nat) (m : Nat), m ∈ nums A.reverse ↔ Num A m
  | [], m => by simp [nums, Num]
  | c :: A, m => by
    rw [List.reverse_cons, nums_snoc]
    unfold numS
    rw [List.mem_append, List.mem_map, List.mem_map]
    constructor
    · rintro (⟨n, hn, rfl⟩ | ⟨n, hn, rfl⟩)
      · exact ⟨_, (wN_ends c _).mpr (.inl rfl), n, (nums_mem A n).mp hn, rfl⟩
      · exact ⟨_, (wN_ends c _).mpr (.inr rfl), n, (nums_mem A n).mp hn, rfl⟩
    · rintro ⟨p, hp, n, hn, rfl⟩
      rcases (wN_ends c p).mp hp with rfl | rfl
      · exact .inl ⟨n, (nums_mem A n).mpr hn, rfl⟩
      · exact .inr ⟨n, (nums_mem A n).mpr hn, rfl⟩
/-! ### the bits of all -/
def gW (w wd m n : Nat) : Nat := match w with
  | 0 => (m + n) % 2 ^ wd
  | 1 => if m = n then 1 else 0
  | _ => if m < n then 1 else 0
def pairs (w wd : Nat) (xs ys : List Nat) : List Nat := xs.flatMap fun m => ys.map fun n => gW w wd m n
def andL (l : List Nat) : Nat := l.foldl (· &&& ·) (l.getD 0 0)
def orL (l : List Nat) : Nat := l.foldl (· ||| ·) (l.getD 0 0)
def bitL (l : List Nat) (j : Nat) : Nat := if (andL l).testBit j = true then 49 else if (orL l).testBit j = false then 48 else 120
def bitsW (l : List Nat) (wd : Nat) : List Nat := (List.range wd).map fun i => bitL l (wd - 1 - i)
theorem and_bit (j : Nat) : ∀ (l : List Nat) (x : Nat), (l.foldl (· &&& ·) x).testBit j = (x.testBit j && l.all fun s => s.testBit j)
  | [], x => by simp
  | s :: l, x => by
    rw [List.foldl_cons, and_bit j l, Nat.testBit_and, List.all_cons, Bool.and_assoc]
theorem or_bit (j : Nat) : ∀ (l : List Nat) (x : Nat), (l.foldl (· ||| ·) x).testBit j = (x.testBit j || l.any fun s => s.testBit j)
  | [], x => by simp
  | s :: l, x => by
    rw [List.foldl_cons, or_bit j l, Nat.testBit_or, List.any_cons, Bool.or_assoc]
theorem bitL_of (l : List Nat) (j : Nat) (h0 : 0 < l.length) : SignOf (fun v => ∃ s ∈ l, s.testBit j = v) (bitL l j) := by
  match l, h0 with
  | x :: r, _ =>
    have ea : (andL (x :: r)).testBit j = (x :: r).all fun s => s.testBit j := by
      unfold andL
      rw [and_bit]
      simp [List.all_cons]
    have eo : (orL (x :: r)).testBit j = (x :: r).any fun s => s.testBit j := by
      unfold orL
      rw [or_bit]
      simp [List.any_cons]
    unfold bitL
    rw [ea, eo]
    by_cases h1 : ((x :: r).all fun s => s.testBit j) = true
    · rw [if_pos h1]
      rw [List.all_eq_true] at h1
      exact .inl ⟨rfl, ⟨x, by simp, h1 x (by simp)⟩, by
        rintro ⟨s, hs, e⟩
        rw [h1 s hs] at e
        cases e⟩
    · rw [if_neg h1]
      have hf : ∃ s ∈ x :: r, s.testBit j = false := by
        refine Classical.byContradiction fun z => h1 (List.all_eq_true.mpr fun s hs => ?_)
        cases e : s.testBit j with
        | true => rfl
        | false => exact absurd ⟨s, hs, e⟩ z
      by_cases h2 : ((x :: r).any fun s => s.testBit j) = false
      · rw [if_pos h2]
        rw [List.any_eq_false] at h2
        exact .inr (.inl ⟨rfl, hf, by
          rintro ⟨s, hs, e⟩
          exact h2 s hs e⟩)
      · rw [if_neg h2]
        have h3 : ((x :: r).any fun s => s.testBit j) = true := by
          cases e : (x :: r).any fun s => s.testBit j with
          | true => rfl
          | false => exact absurd e h2
        rw [List.any_eq_true] at h3
        exact .inr (.inr ⟨rfl, h3, hf⟩)
theorem pairs_mem (w wd : Nat) (xs ys : List Nat) (s : Nat) : s ∈ pairs w wd xs ys ↔ ∃ m ∈ xs, ∃ n ∈ ys, s = gW w wd m n := by
  unfold pairs
  rw [List.mem_flatMap]
  constructor
  · rintro ⟨m, hm, h⟩
    obtain ⟨n, hn, rfl⟩ := List.mem_map.mp h
    exact ⟨m, hm, n, hn, rfl⟩
  · rintro ⟨m, hm, n, hn, rfl⟩
    exact ⟨m, hm, List.mem_map.mpr ⟨n, hn, rfl⟩⟩
theorem getD_last (L : List Nat) (n i : Nat) (h : L.length = n) (hi : L.length - 1 - i < L.length) : L.getD (n - 1 - i) 0 = L[L.length - 1 - i]'hi := by
  subst h
  rw [List.getD_eq_getElem?_getD, List.getElem?_eq_getElem hi]
  rfl
/-- what all fillings give is what goes from bit to bit -/
theorem due_bb {w : Nat} {a b xs ys : List Nat} (ha : Sg a) (hb : Sg b) (hl : a.length = b.length) (hx : ∀ m, m ∈ xs ↔ m ∈ nums a) (hy : ∀ m, m ∈ ys ↔ m ∈ nums b) :
    0 < (pairs w a.length xs ys).length ∧ bitsW (pairs w a.length xs ys) (if w = 0 then a.length else 1) = bbS w a b := by
  have hxA : ∀ m, m ∈ xs ↔ Num a.reverse m := fun m => by
    rw [hx, ← nums_mem, List.reverse_reverse]
  have hyB : ∀ m, m ∈ ys ↔ Num b.reverse m := fun m => by
    rw [hy, ← nums_mem, List.reverse_reverse]
  obtain ⟨m0, hm0⟩ := num_some a.reverse
  obtain ⟨n0, hn0⟩ := num_some b.reverse
  have hpos : 0 < (pairs w a.length xs ys).length := List.length_pos_of_mem ((pairs_mem _ _ _ _ _).mpr ⟨m0, (hxA m0).mpr hm0, n0, (hyB n0).mpr hn0, rfl⟩)
  refine ⟨hpos, ?_⟩
  have hlr : a.reverse.length = b.reverse.length := by simpa using hl
  match w with
  | 0 =>
    show bitsW (pairs 0 a.length xs ys) a.length = (bF 0 48 a.reverse b.reverse).reverse
    have hF := bF_len 0 a.reverse b.reverse 48 hlr
    rw [List.length_reverse] at hF
    apply List.ext_getElem
    · rw [List.length_reverse, hF]
      simp [bitsW]
    · intro i h1 h2
      simp only [bitsW, List.length_map, List.length_range] at h1
      rw [List.getElem_reverse]
      simp only [bitsW, List.getElem_map, List.getElem_range]
      have s1 := bitL_of (pairs 0 a.length xs ys) (a.length - 1 - i) hpos
      have s2 := sum_eq a.reverse b.reverse 48 (a.length - 1 - i) (sg_rev ha) (sg_rev hb) k3_48 hlr (by rw [List.length_reverse]; omega)
      have e : (bF 0 48 a.reverse b.reverse).getD (a.length - 1 - i) 0 = (bF 0 48 a.reverse b.reverse)[(bF 0 48 a.reverse b.reverse).length - 1 - i]'(by omega) := by
        exact getD_last _ _ _ hF (by omega)
      rw [← e]
      refine SignOf.one s1 (SignOf.congr (fun v => ?_) s2)
      constructor
      · rintro ⟨m, n, q, hm, hn, hq, rfl⟩
        have hq0 : q = 0 := by simpa [wN] using hq
        subst hq0
        refine ⟨_, (pairs_mem _ _ _ _ _).mpr ⟨m, (hxA m).mpr hm, n, (hyB n).mpr hn, rfl⟩, ?_⟩
        show ((m + n) % 2 ^ a.length).testBit _ = _
        rw [Nat.testBit_mod_two_pow, decide_eq_true (by omega), Bool.true_and]
        rfl
      · rintro ⟨s, hs, rfl⟩
        obtain ⟨m, hm, n, hn, rfl⟩ := (pairs_mem _ _ _ _ _).mp hs
        refine ⟨m, n, 0, (hxA m).mp hm, (hyB n).mp hn, by decide, ?_⟩
        show _ = ((m + n) % 2 ^ a.length).testBit _
        rw [Nat.testBit_mod_two_pow, decide_eq_true (by omega), Bool.true_and]
        rfl
  | 1 =>
    show [bitL (pairs 1 a.length xs ys) 0] = [notS (bK 1 48 a.reverse b.reverse)]
    have s1 := bitL_of (pairs 1 a.length xs ys) 0 hpos
    have s2 := (hand_eq (w := 1) (.inl rfl) a.reverse b.reverse 48 (sg_rev ha) (sg_rev hb) k3_48 hlr).not
    congr 1
    refine SignOf.one s1 (SignOf.congr (fun v => ?_) s2)
    have bit : ∀ m n : Nat, (gW 1 a.length m n).testBit 0 = !hW 1 m n 0 := fun m n => by
      show (if m = n then 1 else 0 : Nat).testBit 0 = _
      unfold hW
      by_cases h : m = n <;> simp [h]
    constructor
    · rintro ⟨m, n, q, hm, hn, hq, e⟩
      have hq0 : q = 0 := by simpa [wN] using hq
      subst hq0
      exact ⟨_, (pairs_mem _ _ _ _ _).mpr ⟨m, (hxA m).mpr hm, n, (hyB n).mpr hn, rfl⟩, by rw [bit, e]; simp⟩
    · rintro ⟨s, hs, rfl⟩
      obtain ⟨m, hm, n, hn, rfl⟩ := (pairs_mem _ _ _ _ _).mp hs
      exact ⟨m, n, 0, (hxA m).mp hm, (hyB n).mp hn, by decide, by rw [bit]; simp⟩
  | w + 2 =>
    show [bitL (pairs (w + 2) a.length xs ys) 0] = [bK 2 48 a.reverse b.reverse]
    have s1 := bitL_of (pairs (w + 2) a.length xs ys) 0 hpos
    have s2 := hand_eq (w := 2) (.inr rfl) a.reverse b.reverse 48 (sg_rev ha) (sg_rev hb) k3_48 hlr
    congr 1
    refine SignOf.one s1 (SignOf.congr (fun v => ?_) s2)
    have bit : ∀ m n : Nat, (gW (w + 2) a.length m n).testBit 0 = hW 2 m n 0 := fun m n => by
      show (if m < n then 1 else 0 : Nat).testBit 0 = _
      unfold hW
      by_cases h : m < n <;> simp [h]
    constructor
    · rintro ⟨m, n, q, hm, hn, hq, rfl⟩
      have hq0 : q = 0 := by simpa [wN] using hq
      subst hq0
      exact ⟨_, (pairs_mem _ _ _ _ _).mpr ⟨m, (hxA m).mpr hm, n, (hyB n).mpr hn, rfl⟩, bit m n⟩
    · rintro ⟨s, hs, rfl⟩
      obtain ⟨m, hm, n, hn, rfl⟩ := (pairs_mem _ _ _ _ _).mp hs
      exact ⟨m, n, 0, (hxA m).mp hm, (hyB n).mp hn, by decide, (bit m n).symm⟩
end Dw

set_option Elab.async false
set_option linter.all false
set_option maxRecDepth 100000
namespace Dw
open PySem L2 Evl
/-! ### sorted(set(xs)), up to a thousand members; sum of a tuple -/
section
open PyProof.Rows
variable {P : Program} {w : World} {A : Around} {E : Value → Shared → Prop} {s : Shared} {a : Addr}
theorem sorted_setA {S : Int → Bool} {m : Nat} {Q : Value → Shared → Prop} (R : SetR w s.heap a S m) (calm : A.handled = none) (few : m ≤ 1000)
    (k : ∀ z p (o : Array Value) (c : Nat) (ms : List Int), (∀ b u, s.heap.get? b = some u → z.heap.get? b = some u) → z.gens = s.gens → z.os = s.os → s.heap.objs.size ≤ p → z.heap.get? p = some (seqObj "list" o c) → IntsAre o.toList ms → ms.Pairwise (· < ·) → (∀ j, j ∈ ms ↔ S j = true) → ms.length = m → Q (.ref p) z) :
    wpAny (model P w) A (call (.builtin "sorted") [.ref a]) Q E s := by
  obtain ⟨ob, es, ep, t, at0, ex0, dt, kg, nd, km, kb, kf, kn, kr, kl⟩ := R
  refine Calls.call_function_entry kind_sorted plain_sorted entry_sorted (args_sorted1 _) ?_; unfold Builtin.«sorted»
  refine wpAny_bind (m := checkCount "sorted" 1 1 _) (wpAny_pure (wpAny_bind (collect_set (A := A.in1) calm ⟨ob, at0, ex0.1, dt⟩ kf kb kr kl fun y vs k1 hz g1 o1 pm => ?_)))
  have nv : vs.length = m := by rw [pm.length_eq, List.length_map, Array.length_toList, kn]
  have hI : IntsAre vs (vs.map Builtin.Re.reRawOf) := ints_of vs fun x hx => by
    obtain ⟨en, he, rfl⟩ := List.mem_map.mp (pm.mem_iff.mp hx)
    obtain ⟨j, tk, e1, _⟩ := kg en he
    exact ⟨j, tk, e1⟩
  have pk : (vs.map Builtin.Re.reRawOf).Perm (es.toList.map keyOf) := by
    have g := pm.map Builtin.Re.reRawOf
    rwa [List.map_map] at g
  have nz : vs.length ≤ sizeLine := by rw [nv, sizeLine_eq]; omega
  refine wpAny_bind (wpAny_newList ?_ nz)
  have atL : (y.heap.push (seqObj "list" vs.toArray 0)).get? y.heap.objs.size = some (seqObj "list" vs.toArray 0) := Heap.get?_push_size _ rfl
  refine wpAny_bind (wpAny_holding (wpAny_call_entry slot_list_sort ⟨_, atL, rfl⟩ entry_list_sort (list_sort_treeAny atL hI nz fun o ms i1 i2 i3 => ⟨_, rfl, ?_⟩) (args_list_sort _)))
  obtain ⟨c, hc⟩ := sortedHeap_at (vs := vs) (out := o) atL
  have pn : ms.Perm (es.toList.map keyOf) := i2.trans pk
  refine wpAny_pure ⟨_, rfl, k _ y.heap.objs.size o c ms (fun b u e => ?_) g1 o1 hz hc i1 (lt_of_le_nodup ms i3 (pn.nodup_iff.mpr nd)) (fun j => by rw [pn.mem_iff, ← km j]) (by rw [pn.length_eq, List.length_map, Array.length_toList, kn])⟩
  have g := k1 b u e
  have lt := Heap.lt_size g
  show (sortedHeap (y.heap.push (seqObj "list" vs.toArray 0)) y.heap.objs.size vs o).get? b = some u
  rw [sortedHeap_old (Nat.ne_of_lt lt) (by rw [size_push']; exact Nat.lt_succ_of_lt lt)]
  exact Heap.get?_push_of_some _ g
end
section
variable {X : Cx}
def rSortedSetA (w : World) : List V → Hp → VK → Prop := fun vs H Q => ∃ (a : Addr) (S : Int → Bool) (n : Nat), vs = [V.ref a] ∧ H a = some (SetO w a S n) ∧ n ≤ 1000 ∧
  ∀ (ms : List Int) (p : Addr), ms.Pairwise (· < ·) → (∀ j : Int, j ∈ ms ↔ S j = true) → ms.length = n → H p = none → Q (.ref p) (upd H p (.lst (ms.map V.int)))
theorem cr_sortedSetA (calm : X.calm = true) : CallR X (.builtin "sorted") (rSortedSetA X.w) := by
  intro pins s σ H vs us Q I r h
  obtain ⟨a, S, n, rfl, ha, few, q⟩ := h
  rw [Vals.ref1 r]
  refine sorted_setA (setO_get I ha) (I.ok.hd calm) few fun z p o c ms k g y hp hg hi hs hm hl => ?_
  have nz : (ms.map V.int).length ≤ sizeLine := by rw [List.length_map, hl, sizeLine_eq]; omega
  have np : H p = none := I.hok.fresh hp
  have J : Inv X pins σ (upd H p (.lst (ms.map V.int))) { s with heap := z.heap, gens := z.gens, drawn := z.drawn, toks := z.toks } :=
    I.call (ch := []) (Un.laid k hp np) (I.hok.laid k hp ⟨nz, o.toList, c, vals_of_ints hi, hg⟩) (by rw [g]; exact I.bare) (fun _ u => nomatch u)
  have e : z = { s with heap := z.heap, gens := z.gens, drawn := z.drawn, toks := z.toks } := by
    cases z
    cases s
    cases y
    rfl
  rw [e]
  exact ⟨.ref p, _, J, rfl, q ms p hs hm hl np⟩
def rSumT (K : PySem.W.Frag) : List V → Hp → VK → Prop := fun vs H Q => ∃ (a : Addr) (ns : List Int), vs = [V.ref a] ∧ SqT K H a (ns.map V.int) ∧ Q (.int ns.sum) H
open PyProof.Rows in
theorem cr_sumT (calm : X.calm = true) : CallR X (.builtin "sum") (rSumT X.K) := by
  intro pins s σ H vs us Q I r h
  obtain ⟨a, ns, rfl, hs, q⟩ := h
  obtain ⟨its, rv, hl, _⟩ := I.tuple hs
  rw [Vals.ref1 r]
  have hi := rv.ints
  obtain ⟨xs, e⟩ := hi.allInts.items
  have hn : numsOf (intItems xs).toList = ns := by rw [← e]; exact hi.numsOf
  rw [nums_intItems] at hn
  rw [e] at hl
  refine PySem.W.ktm_sumG (I.ok.hd calm) hl fun h' tk t' hk => ?_
  rw [preSum_eq, List.take_of_length_le (by simp), hn]
  exact ⟨.int _, H, I.kept hk, ⟨_, rfl⟩, q⟩
end
end Dw

set_option Elab.async false
set_option linter.all false
set_option maxRecDepth 100000
namespace Dw
open PySem L2 Evl
/-! ### lists of tuples of three numbers -/
abbrev T3 := Int × Int × Int
def t3 (t : T3) : List V := [.int t.1, .int t.2.1, .int t.2.2]
inductive Tups (H : Hp) : List Addr → List T3 → Prop where
  | nil : Tups H [] []
  | cons {r : Addr} {rs : List Addr} {t : T3} {ts : List T3} : H r = some (.tup (t3 t)) → Tups H rs ts → Tups H (r :: rs) (t :: ts)
theorem Tups.len {H : Hp} {rs : List Addr} {ts : List T3} (h : Tups H rs ts) : rs.length = ts.length := by
  induction h with
  | nil => rfl
  | cons _ _ ih => rw [List.length_cons, List.length_cons, ih]
theorem Tups.mono {H H' : Hp} {rs : List Addr} {ts : List T3} (h : Tups H rs ts) (e : ∀ r xs, H r = some (.tup xs) → H' r = some (.tup xs)) : Tups H' rs ts := by
  induction h with
  | nil => exact .nil
  | cons a _ ih => exact .cons (e _ _ a) ih
theorem Tups.ex {H H' : Hp} {rs : List Addr} {ts : List T3} (h : Tups H rs ts) (e : Ex H H') : Tups H' rs ts := h.mono fun r xs a => e r _ a
theorem Tups.upd {H : Hp} {rs : List Addr} {ts : List T3} {l : Addr} {xs : List V} {o : HO} (h : Tups H rs ts) (hl : H l = some (.lst xs)) : Tups (L2.upd H l o) rs ts := h.mono fun r ys a => by
  have n : r ≠ l := fun z => by
    rw [z, hl] at a
    cases a
  rw [upd_ne n]
  exact a
theorem Tups.app {H : Hp} {rs rs' : List Addr} {ts ts' : List T3} (h : Tups H rs ts) (h' : Tups H rs' ts') : Tups H (rs ++ rs') (ts ++ ts') := by
  induction h with
  | nil => exact h'
  | cons a _ ih => exact .cons a ih
theorem Tups.at {H : Hp} {rs : List Addr} {ts : List T3} (h : Tups H rs ts) : ∀ {i : Nat} {r : Addr}, rs[i]? = some r → ∃ t, ts[i]? = some t ∧ H r = some (.tup (t3 t)) := by
  induction h with
  | nil => intro i r h; cases h
  | @cons r0 rs0 t0 ts0 a _ ih =>
    intro i r hi
    cases i with
    | zero =>
      have : r0 = r := Option.some.inj hi
      subst this
      exact ⟨t0, rfl, a⟩
    | succ i => exact ih hi
/-- a new list of new tuples -/
def EvTs (te : TE) (σ : L2.St) (H : Hp) (ts : List T3) : Prop := ∀ H1, Ex H H1 → ∀ Q : VK, (∀ p rs H2, H1 p = none → Ex H1 H2 → H2 p = some (.lst (rs.map V.ref)) → Tups H2 rs ts → Q (.ref p) H2) → te σ H1 Q
section
variable {K : PySem.W.Frag} {w : World} {σ : L2.St} {H H' : Hp} {ta tb tc te tx tl : TE} {t u : TT} {x y z v : V} {D : Ends}
theorem map_at {α : Type} {f : α → V} {xs : List α} {i : Nat} {y : V} (h : (xs.map f)[i]? = some y) : ∃ a, xs[i]? = some a ∧ y = f a := by
  rw [List.getElem?_map] at h
  cases hq : xs[i]? with
  | none =>
    rw [hq] at h
    cases h
  | some a =>
    rw [hq] at h
    exact ⟨a, rfl, (Option.some.inj h).symm⟩
theorem ets_lc {a : Addr} {ns : List Int} {j : Nat} {vs : List Nat} (g : Int → T3) (h : Ev tl σ H (.ref a)) (hx : SqL K H a (ns.map V.int)) (hz : ns.length ≤ 40000) (hw : ∀ x, wipe ((wipe σ vs).set j (some x)) vs = wipe σ vs)
    (he : ∀ (n : Int) H1, Ex H H1 → EvU te ((wipe σ vs).set j (some (.int n))) H1 (t3 (g n))) : EvTs (tLc (iList K tl) (gName j) tYes te vs) σ H (ns.map g) := fun H0 e Q q => h H0 e _ fun H1 e1 => ⟨a, rfl, ⟨_, ex_l (e.trans e1) hx⟩, fun Dl hD => by
  refine lc_list (xs := ns.map V.int) (fun i H2 => Ex H1 H2 ∧ ∃ rs, H2 Dl = some (.lst (rs.map V.ref)) ∧ Tups H2 rs ((ns.take i).map g)) ⟨Ex.new hD, [], upd_same, .nil⟩ (fun i H2 _ p => ex_l ((e.trans e1).trans p.1) hx) (fun i x H2 hi p => ?_) (fun H2 p => ?_)
  · obtain ⟨n, hn, rfl⟩ := map_at hi
    obtain ⟨x2, rs, hd, ht⟩ := p
    have hln := ht.len
    have hil : i < ns.length := (List.getElem?_eq_some_iff.mp hn).1
    refine ⟨hw _, he n H2 ((e.trans e1).trans x2) H2 (Ex.refl _) _ fun r H4 nr e4 h4 => ⟨_, e4 _ _ hd, sz_lt ?_, Ex.mut (x2.trans e4) hD, rs ++ [r], ?_, ?_⟩⟩
    · rw [List.length_map, hln, List.length_map, List.length_take]
      omega
    · rw [upd_same, List.map_append]
      rfl
    · rw [List.take_add_one, hn, List.map_append]
      refine ((ht.ex e4).app (.cons h4 .nil)).upd (e4 _ _ hd)
  · obtain ⟨x2, rs, hd, ht⟩ := p
    rw [List.length_map, List.take_length] at ht
    exact q Dl rs H2 (fresh_back e1 hD) (e1.trans x2) hd ht⟩
/-- over a list of tuples, by a name -/
theorem el_lcTs {p : Addr} {rs : List Addr} {ts : List T3} {j : Nat} {vs : List Nat} (g : T3 → V) (h : Ev tl σ H (.ref p)) (hp : H p = some (.lst (rs.map V.ref))) (ht : Tups H rs ts) (hz : rs.length ≤ 40000) (hw : ∀ x, wipe ((wipe σ vs).set j (some x)) vs = wipe σ vs)
    (he : ∀ (r : Addr) (t : T3) H1, Ex H H1 → t ∈ ts → H1 r = some (.tup (t3 t)) → Ev te ((wipe σ vs).set j (some (.ref r))) H1 (g t)) : EvL (tLc (iList K tl) (gName j) tYes te vs) σ H (ts.map g) := by
  have hs : (rs.map V.ref).length = ts.length := by rw [List.length_map, ht.len]
  rw [← given_all ts (0, 0, 0) g, ← hs]
  refine el_lcL (fun _ => true) (fun i => g (ts.getD i (0, 0, 0))) h (sq_of hp) (by rw [List.length_map]; exact hz) hw (fun i x H1 e hi => et_yes) (fun i x H1 e hi _ => ?_)
  obtain ⟨r, hr, rfl⟩ := map_at hi
  obtain ⟨t, h1, h2⟩ := ht.at hr
  rw [show ts.getD i (0, 0, 0) = t by rw [List.getD_eq_getElem?_getD, h1]; rfl]
  exact he r t H1 e (List.mem_of_getElem? h1) (e _ _ h2)
/-- over a list of tuples, by three names -/
theorem el_lcT3 {p : Addr} {rs : List Addr} {ts : List T3} {j1 j2 j3 : Nat} {vs : List Nat} (g : T3 → V) (h : Ev tl σ H (.ref p)) (hp : H p = some (.lst (rs.map V.ref))) (ht : Tups H rs ts) (hz : rs.length ≤ 40000) (hw : ∀ x y z, wipe ((((wipe σ vs).set j1 (some x)).set j2 (some y)).set j3 (some z)) vs = wipe σ vs)
    (he : ∀ (t : T3) H1, Ex H H1 → t ∈ ts → Ev te ((((wipe σ vs).set j1 (some (.int t.1))).set j2 (some (.int t.2.1))).set j3 (some (.int t.2.2))) H1 (g t)) : EvL (tLc (iList K tl) (gTup K 3 (gCons (gName j1) (gCons (gName j2) (gCons (gName j3) gNil)))) tYes te vs) σ H (ts.map g) := fun H0 e Q q => h H0 e _ fun H1 e1 => ⟨p, rfl, ⟨_, sq_of (e1 _ _ (e _ _ hp))⟩, fun Dl hD => by
  have hs : (rs.map V.ref).length = ts.length := by rw [List.length_map, ht.len]
  refine lc_list (xs := rs.map V.ref) (fun i H2 => Ex H1 H2 ∧ H2 Dl = some (.lst ((ts.map g).take i))) ⟨Ex.new hD, upd_same⟩ (fun i H2 _ p2 => sq_of (p2.1 _ _ (e1 _ _ (e _ _ hp)))) (fun i x H2 hi p2 => ?_) (fun H2 p2 => ?_)
  · obtain ⟨r, hr, rfl⟩ := map_at hi
    obtain ⟨t, h1, h2⟩ := ht.at hr
    have x02 := (e.trans e1).trans p2.1
    have hg : (ts.map g)[i]? = some (g t) := by rw [List.getElem?_map, h1]; rfl
    refine ⟨r, _, rfl, st_of (x02 _ _ h2), rfl, _, _, rfl, _, _, rfl, _, _, rfl, rfl, hw _ _ _, ?_⟩
    refine he t H2 x02 (List.mem_of_getElem? h1) H2 (Ex.refl _) _ fun H4 e4 => ⟨_, e4 _ _ p2.2, sz_lt ?_, ?_, ?_⟩
    · have := List.length_take_le' i (ts.map g)
      rw [List.length_map] at this hs
      omega
    · exact Ex.mut (p2.1.trans e4) hD
    · rw [upd_same, List.take_add_one, hg]
      rfl
  · obtain ⟨p1, p3⟩ := p2
    rw [hs, List.take_of_length_le (by rw [List.length_map]; exact Nat.le_refl _)] at p3
    exact q Dl H2 (fresh_back e1 hD) (e1.trans p1) p3⟩
/-- xs.extend([..]) -/
theorem s_ext {l : Addr} {xs ys : List V} (hl : H l = some (.lst xs)) (ha : Ev ta σ H (.ref l)) (h : EvL te σ H ys) (hz : xs.length + ys.length ≤ 100000) (k : ∀ H1, Ex H H1 → D.nx σ (L2.upd H1 l (.lst (xs ++ ys)))) :
    tDrop (tBM K "list" rExtend ta (tCons te tNil)) D σ H := ha H (Ex.refl H) _ fun H1 e1 =>
  ⟨Or.inl ⟨rfl, xs, sq_of (e1 l _ hl)⟩, h H1 e1 _ fun p H2 _ e2 h2 => ⟨l, p, xs, ys, rfl, rfl, e2 l _ (e1 l _ hl), h2, sz_of hz, k H2 (e1.trans e2)⟩⟩
theorem s_extT {l : Addr} {xs : List V} {ts : List T3} (hl : H l = some (.lst xs)) (ha : Ev ta σ H (.ref l)) (h : EvTs te σ H ts) (hz : xs.length + ts.length ≤ 100000) (k : ∀ rs H1, Ex H H1 → Tups H1 rs ts → D.nx σ (L2.upd H1 l (.lst (xs ++ rs.map V.ref)))) :
    tDrop (tBM K "list" rExtend ta (tCons te tNil)) D σ H := ha H (Ex.refl H) _ fun H1 e1 =>
  ⟨Or.inl ⟨rfl, xs, sq_of (e1 l _ hl)⟩, h H1 e1 _ fun p rs H2 _ e2 h2 h3 => ⟨l, p, xs, rs.map V.ref, rfl, rfl, e2 l _ (e1 l _ hl), h2, sz_of (by rw [List.length_map, h3.len]; exact hz), k rs H2 (e1.trans e2) h3⟩⟩
theorem ev_sumT {r : Addr} {ns : List Int} (h : Ev te σ H (.ref r)) (hr : SqT K H r (ns.map V.int)) : Ev (tCB (rSumT K) (tCons te tNil)) σ H (.int ns.sum) := fun H1 e Q q => h H1 e _ fun H2 e2 => ⟨r, ns, rfl, ex_t (e.trans e2) hr, q H2 e2⟩
theorem el_cat {xs ys : List V} (ha : EvL ta σ H xs) (hb : EvL tb σ H ys) (hz : xs.length + ys.length ≤ 100000) : EvL (tOp rCat ta tb) σ H (xs ++ ys) := fun H1 e Q q =>
  ha H1 e _ fun p H2 np e2 h2 => hb H2 (e.trans e2) _ fun r H3 nr e3 h3 => ⟨p, r, xs, ys, rfl, rfl, e3 _ _ h2, h3, sz_of hz, fun s ns => q s _ (fresh_back (e2.trans e3) ns) ((e2.trans e3).trans (Ex.new ns)) upd_same⟩
theorem ev_ixN {xs : List V} {i : Int} (ha : EvL ta σ H xs) (hb : ∀ H1, Ex H H1 → Ev tb σ H1 (.int i)) (h : atI xs i = some v) : Ev (tOp (rIxL K) ta tb) σ H v := ev_opL1 ha hb fun p H1 hp _ => rv_ixL (sq_of hp) h
theorem el_is {xs ys : List V} (h : EvL te σ H xs) (e : xs = ys) : EvL te σ H ys := e ▸ h
def rInt1 : List V → Hp → VK → Prop := fun xs H Q => (∃ i, xs = [.int i] ∧ Q (.int i) H) ∨ ∃ k, xs = [.bl k] ∧ Q (.int (if k then 1 else 0)) H
theorem ev_int1 {b : Bool} (h : Ev te σ H (.bl b)) : Ev (tCB rInt1 (tCons te tNil)) σ H (.int (if b then 1 else 0)) := fun H1 e Q q => h H1 e _ fun H2 e2 => .inr ⟨b, rfl, q H2 e2⟩
theorem ev_ltT {a b : List Nat} (ha : Ev ta σ H (.str (Tx a))) (hb : Ev tb σ H (.str (Tx b))) : Ev (tOp (fun x y H Q => ∃ i j, x = .str i ∧ y = .str j ∧ Q (.bl (decide (i.cps.toList < j.cps.toList))) H) ta tb) σ H (.bl (decide (a < b))) := ev_op ha hb fun H1 _ Q q => ⟨Tx a, Tx b, rfl, rfl, q H1 (Ex.refl _)⟩
theorem ev_geT {a b : List Nat} (ha : Ev ta σ H (.str (Tx a))) (hb : Ev tb σ H (.str (Tx b))) : Ev (tOp (fun x y H Q => ∃ i j, x = .str i ∧ y = .str j ∧ Q (.bl (!decide (i.cps.toList < j.cps.toList))) H) ta tb) σ H (.bl (!decide (a < b))) := ev_op ha hb fun H1 _ Q q => ⟨Tx a, Tx b, rfl, rfl, q H1 (Ex.refl _)⟩
theorem ev_countT {a : List Nat} {c : Nat} {n : Nat} (ha : Ev ta σ H (.str (Tx a))) (hb : Ev tb σ H (.str (Tx [c]))) (hn : Txt.count (Tx a) (Tx [c]) = n) : Ev (tM1 (fun x xs H Q => ∃ a b, x = .str a ∧ xs = [.str b] ∧ Q (.int (Txt.count a b)) H) ta tb) σ H (.int (n : Int)) := fun H1 e Q q =>
  ha H1 e _ fun H2 e2 => ⟨⟨_, rfl⟩, hb H2 (e.trans e2) _ fun H3 e3 => ⟨Tx a, Tx [c], rfl, rfl, by rw [hn]; exact q H3 (e2.trans e3)⟩⟩
theorem ev_cutA {l : List Nat} {th : TO} {j : Nat} (ha : Ev te σ H (.str (Tx l))) (h2 : EvO th σ H (some (j : Int))) (hj : j ≤ l.length) (hz : l.length ≤ 40000) : Ev (tSl rSlS te tNoPart th) σ H (.str (Tx (l.take j))) := fun H1 e Q q =>
  ha H1 e _ fun H2 e2 => eo_none H2 (Ex.refl _) _ fun H3 e3 => h2 H3 ((e.trans e2).trans e3) _ fun H4 e4 => ⟨Tx l, rfl, sz_of (by rw [Tx_len]; omega), by
    have : cutS (Tx l) none (some (j : Int)) = Tx (l.take j) := by
      unfold cutS
      rw [Tx_len, HT.sIx_none, HT.sIx_nat, Nat.min_eq_left hj]
      rfl
    rw [this]
    exact q H4 ((e2.trans e3).trans e4)⟩
theorem ev_cutB {l : List Nat} {th : TO} {i : Nat} (ha : Ev te σ H (.str (Tx l))) (h2 : EvO th σ H (some (i : Int))) (hi : i ≤ l.length) (hz : l.length ≤ 40000) : Ev (tSl rSlS te th tNoPart) σ H (.str (Tx (l.drop i))) := fun H1 e Q q =>
  ha H1 e _ fun H2 e2 => h2 H2 (e.trans e2) _ fun H3 e3 => eo_none H3 (Ex.refl _) _ fun H4 e4 => ⟨Tx l, rfl, sz_of (by rw [Tx_len]; omega), by
    have : cutS (Tx l) (some (i : Int)) none = Tx (l.drop i) := by
      unfold cutS
      rw [Tx_len, HT.sIx_none, HT.sIx_nat, Nat.min_eq_left hi]
      show Tx ((l.drop i).take (l.length - i)) = Tx (l.drop i)
      rw [List.take_of_length_le (by rw [List.length_drop]; exact Nat.le_refl _)]
    rw [this]
    exact q H4 ((e2.trans e3).trans e4)⟩
/-- sorted(set(..)) of noughts and ones, of any list of numbers -/
theorem el_suA {ns : List Int} (h : EvL te σ H (ns.map V.int)) (h01 : ∀ k ∈ ns, k = 0 ∨ k = 1) (hz : ns.length ≤ 1000) : EvL (tCB (rSortedSetA w) (tCons (tCB (rSetI K w) (tCons te tNil)) tNil)) σ H ((su ns).map V.int) := fun H1 e Q q =>
  h H1 e _ fun p H2 np e2 h2 => ⟨p, ns, rfl, sq_of h2, by omega, fun a c na hc => ⟨a, _, c, rfl, upd_same, by omega, fun ms r hp hm _ nr => by
    rw [su_one h01 hp (fun k => (hm k).trans decide_eq_true_iff)]
    exact q r _ (fresh_back e2 (fresh_back (Ex.new na) nr)) ((e2.trans (Ex.new na)).trans (Ex.new nr)) upd_same⟩⟩
theorem el_suVA {ns : List Int} {p : Addr} (h : Ev te σ H (.ref p)) (hp0 : SqL K H p (ns.map V.int)) (h01 : ∀ k ∈ ns, k = 0 ∨ k = 1) (hz : ns.length ≤ 1000) : EvL (tCB (rSortedSetA w) (tCons (tCB (rSetI K w) (tCons te tNil)) tNil)) σ H ((su ns).map V.int) := fun H1 e Q q =>
  h H1 e _ fun H2 e2 => ⟨p, ns, rfl, ex_l (e.trans e2) hp0, by omega, fun a c na hc => ⟨a, _, c, rfl, upd_same, by omega, fun ms r hp hm _ nr => by
    rw [su_one h01 hp (fun k => (hm k).trans decide_eq_true_iff)]
    exact q r _ (fresh_back e2 (fresh_back (Ex.new na) nr)) ((e2.trans (Ex.new na)).trans (Ex.new nr)) upd_same⟩⟩
/-- sorted(set(xs)) of numbers from nought on: a list of the same numbers -/
theorem s_retN {ns : List Nat} {p : Addr} (h : Ev te σ H (.ref p)) (hp0 : SqL K H p (ns.map fun n : Nat => V.int (n : Int))) (hz : ns.length ≤ 1000)
    (k : ∀ (ms : List Nat) r H1, (∀ m, m ∈ ms ↔ m ∈ ns) → ms.length ≤ ns.length → H r = none → Ex H H1 → H1 r = some (.lst (ms.map fun n : Nat => V.int (n : Int))) → D.rt (.ref r) H1) : tRet (tCB (rSortedSetA w) (tCons (tCB (rSetI K w) (tCons te tNil)) tNil)) D σ H := by
  refine h H (Ex.refl _) _ fun H2 e2 => ⟨p, ns.map fun n : Nat => (n : Int), rfl, ?_, by rw [List.length_map]; omega, fun a c na hc => ⟨a, _, c, rfl, upd_same, by rw [List.length_map] at hc; omega, fun ms r hp hm hl nr => ?_⟩⟩
  · rw [List.map_map]
    exact ex_l e2 hp0
  · have hm2 : ∀ j : Int, j ∈ ms ↔ ∃ n ∈ ns, (n : Int) = j := fun j => by rw [hm j, decide_eq_true_iff, List.mem_map]
    have e3 : ms = (ms.map Int.toNat).map fun n : Nat => (n : Int) := by
      rw [List.map_map]
      refine (List.map_id ms).symm.trans (List.map_congr_left fun j hj => ?_)
      obtain ⟨n, _, rfl⟩ := (hm2 j).mp hj
      rfl
    rw [e3, List.map_map]
    refine k (ms.map Int.toNat) r _ (fun m => ?_) (by rw [List.length_map, hl]; rw [List.length_map] at hc; exact hc) (fresh_back e2 (fresh_back (Ex.new na) nr)) ((e2.trans (Ex.new na)).trans (Ex.new nr)) upd_same
    rw [List.mem_map]
    constructor
    · rintro ⟨j, hj, rfl⟩
      obtain ⟨n, hn, rfl⟩ := (hm2 j).mp hj
      exact hn
    · intro hm3
      exact ⟨(m : Int), (hm2 _).mpr ⟨m, hm3, rfl⟩, rfl⟩
end
theorem su_01 {ns : List Int} : su ns = [0, 1] ↔ 0 ∈ ns ∧ 1 ∈ ns := by
  unfold su
  by_cases h0 : (0 : Int) ∈ ns <;> by_cases h1 : (1 : Int) ∈ ns <;> simp [h0, h1]
theorem str_01 {i : Int} (h : i = 0 ∨ i = 1) : (i.natAbs.log2 < 1920) ∧ (V.str (Str.ofString (toString i)) = V.str (Tx [if i = 1 then 49 else 48])) := by
  rcases h with rfl | rfl
  · exact ⟨by decide, by decide +kernel⟩
  · exact ⟨by decide, by decide +kernel⟩
theorem low_of {l : List Nat} (h : Sg l) : LowS (Tx l) := low_Tx h.low
theorem g_name {i : Nat} {v : V} {σ : L2.St} {H : Hp} {R : L2.St → Hp → Prop} (h : R (σ.set i (some v)) H) : gName i v σ H R := h
theorem ev_callL2' {σ : L2.St} {H : Hp} {te tw : TE} {z : V} {sp : Sp} {dvs : List V} {E : XK} {w : V} {xs : List V} (hw : Ev tw σ H w) (h : EvL te σ H xs) (hs : ∀ p H1, H1 p = some (.lst xs) → Ex H H1 → SpV sp ([w, .ref p] ++ dvs) H1 z) : Ev (tCall sp dvs E (tCons tw (tCons te tNil))) σ H z := fun H1 e Q q =>
  hw H1 e _ fun H0 e0 => h H0 (e.trans e0) _ fun p H2 _ e2 h2 => hs p H2 h2 ((e.trans e0).trans e2) H2 (Ex.refl _) Q (fun H3 e3 => q H3 ((e0.trans e2).trans e3)) E
theorem ev_callL1 {σ : L2.St} {H : Hp} {te : TE} {z : V} {sp : Sp} {dvs : List V} {E : XK} {xs : List V} (h : EvL te σ H xs) (hs : ∀ p H1, H1 p = some (.lst xs) → Ex H H1 → SpV sp ([.ref p] ++ dvs) H1 z) : Ev (tCall sp dvs E (tCons te tNil)) σ H z := fun H1 e Q q =>
  h H1 e _ fun p H2 _ e2 h2 => hs p H2 h2 (e.trans e2) H2 (Ex.refl _) Q (fun H3 e3 => q H3 (e2.trans e3)) E
/-! ### and, or of numbers from nought on -/
theorem band (a b : Nat) : Builtin.bitAnd (a : Int) (b : Int) = ((a &&& b : Nat) : Int) := PySem.W.os_band a b
theorem bor (a b : Nat) : Builtin.bitOr (a : Int) (b : Int) = ((a ||| b : Nat) : Int) := bitOr_nn (Int.natCast_nonneg _) (Int.natCast_nonneg _)
theorem shr_bit (x k : Nat) (v : Bool) : decide (V.int (Builtin.bitAnd ((x : Int) / 2 ^ ((k : Int).toNat)) 1) = V.int (if v then 1 else 0)) = decide (x.testBit k = v) := by
  have e : (x : Int) / 2 ^ ((k : Int).toNat) = ((x / 2 ^ k : Nat) : Int) := by
    rw [Int.toNat_natCast]
    simp
  have e2 : Builtin.bitAnd ((x : Int) / 2 ^ ((k : Int).toNat)) 1 = ((x / 2 ^ k % 2 : Nat) : Int) := by
    rw [e]
    refine (band (x / 2 ^ k) 1).trans ?_
    rw [Nat.and_one_is_mod]
  rw [e2, Nat.testBit_eq_decide_div_mod_eq, decide_eq_decide]
  have h2 : x / 2 ^ k % 2 = 0 ∨ x / 2 ^ k % 2 = 1 := by omega
  rcases h2 with h | h <;> rw [h] <;> cases v <;> decide
end Dw

set_option Elab.async false
set_option linter.all false
set_option maxRecDepth 100000
namespace Dw
open PySem L2 Evl
theorem ix_listK {X : Cx} {K : PySem.W.Frag} (h : X.K = K) : IxR X (rIxL K) := h ▸ ix_list
theorem cr_sumTK {X : Cx} {K : PySem.W.Frag} (h : X.K = K) (calm : X.calm = true) : CallR X (.builtin "sum") (rSumT K) := h ▸ cr_sumT calm
theorem code_of {l : List Nat} {i c : Nat} (h : (Tx l).cps[i]? = some c) : l[i]? = some c := by
  rw [← h]
  simp [Tx]
theorem drop_at {l : List Nat} {i c : Nat} (h : l[i]? = some c) : l.drop i = c :: l.drop (i + 1) := by
  obtain ⟨hi, rfl⟩ := List.getElem?_eq_some_iff.mp h
  exact List.drop_eq_getElem_cons hi
theorem take_snoc {l : List Nat} {i c : Nat} (h : l[i]? = some c) : l.take (i + 1) = l.take i ++ [c] := by
  rw [List.take_add_one, h]
  rfl
/-- all but what stands at p and at r is as it was -/
def ExC (p r : Addr) (H H' : Hp) : Prop := ∀ b o, b ≠ p → b ≠ r → H b = some o → H' b = some o
theorem ExC.of {p r : Addr} {H H' : Hp} (e : Ex H H') : ExC p r H H' := fun b o _ _ h => e b o h
theorem ExC.ofB {p r : Addr} {H H' : Hp} (e : ExB p H H') : ExC p r H H' := fun b o n _ h => e b o n h
theorem ExC.trans {p r : Addr} {H H1 H2 : Hp} (a : ExC p r H H1) (b : ExC p r H1 H2) : ExC p r H H2 := fun c o n m h => b c o n m (a c o n m h)
theorem ExC.upd {p r : Addr} {H H' : Hp} {o : HO} (e : ExC p r H H') : ExC p r H (L2.upd H' r o) := fun b u n m h => by
  rw [upd_ne m]
  exact e b u n m h
theorem ExC.back {p r : Addr} {H0 H H' : Hp} (e0 : Ex H0 H) (hp : H0 p = none) (hr : H0 r = none) (e : ExC p r H H') : Ex H0 H' := fun b o h => e b o (ne_of_none h hp) (ne_of_none h hr) (e0 b o h)
def RoomAt (H : Hp) (r : Addr) : Prop := ∃ x : Int, H r = some (.lst [.int x])
theorem RoomAt.ex {H H' : Hp} {r : Addr} (h : RoomAt H r) (e : Ex H H') : RoomAt H' r := let ⟨x, h⟩ := h; ⟨x, e _ _ h⟩
theorem pot_room {H : Hp} {p r : Addr} (h : PotAt H p) (h2 : RoomAt H r) : r ≠ p := fun z => by
  obtain ⟨x, y, h1, _⟩ := h
  obtain ⟨u, h2⟩ := h2
  rw [z, h1] at h2
  cases h2
theorem RoomAt.exB {H H' : Hp} {p r : Addr} (h : RoomAt H r) (hp : PotAt H p) (e : ExB p H H') : RoomAt H' r :=
  let n := pot_room hp h
  let ⟨x, h⟩ := h
  ⟨x, e _ _ n h⟩
section
variable {K : PySem.W.Frag} {w : World} {σ : L2.St} {H H' : Hp} {ta tb tc te tx tl : TE} {t u : TT} {x y z v : V} {D : Ends}
/-- over a list of whatever -/
theorem el_lcG {α : Type} [Inhabited α] {xs : List α} {a : Addr} {j : Nat} {vs : List Nat} (f : α → V) (g : α → V) (h : Ev tl σ H (.ref a)) (hx : SqL K H a (xs.map f)) (hz : xs.length ≤ 40000) (hw : ∀ x, wipe ((wipe σ vs).set j (some x)) vs = wipe σ vs)
    (he : ∀ (n : α) H1, Ex H H1 → n ∈ xs → Ev te ((wipe σ vs).set j (some (f n))) H1 (g n)) : EvL (tLc (iList K tl) (gName j) tYes te vs) σ H (xs.map g) := by
  have hs : (xs.map f).length = xs.length := List.length_map _
  rw [← given_all xs default g, ← hs]
  refine el_lcL (fun _ => true) (fun i => g (xs.getD i default)) h hx (by omega) hw (fun i x H1 e hi => et_yes) (fun i x H1 e hi _ => ?_)
  obtain ⟨n, hn, rfl⟩ := map_at hi
  rw [show xs.getD i default = n by rw [List.getD_eq_getElem?_getD, hn]; rfl]
  exact he n H1 e (List.mem_of_getElem? hn)
theorem tCons_def {tr : TA} {Q : List V → Hp → Prop} : tCons te tr σ H Q = te σ H fun x H1 => tr σ H1 fun xs H2 => Q (x :: xs) H2 := rfl
theorem tLst_def {tr : TA} {Q : VK} : tLst tr σ H Q = tr σ H fun xs H1 => xs.length ≤ sizeLine ∧ ∀ p, H1 p = none → Q (.ref p) (L2.upd H1 p (.lst xs)) := rfl
theorem tOp_def {r : R2} {Q : VK} : tOp r ta tb σ H Q = ta σ H fun x H1 => tb σ H1 fun y H2 => r x y H2 Q := rfl
/-- [[0, 1], [int(sign == '1')]][int(sign in '01')] -/
theorem el_ways {c i : Nat} (hi : σ[i]? = some (some (.str (Tx [c])))) : EvL (tOp (rIxL K) (tLst (tCons (tLst (tCons (tC (.int 0)) (tCons (tC (.int 1)) tNil))) (tCons (tLst (tCons (tCB rInt1 (tCons (tOp rEq (tVar i) (tC (.str (Str.ofString "1")))) tNil)) tNil)) tNil)))
    (tCB rInt1 (tCons (tOp rInS (tVar i) (tC (.str (Str.ofString "01")))) tNil))) σ H ((ways c).map V.int) := fun H0 e0 Q q => by
  have A1 : EvL (tLst (tCons (tC (.int 0)) (tCons (tC (.int 1)) tNil))) σ H0 [V.int 0, .int 1] := el_lst (ea_cons ev_c (ea_cons ev_c ea_nil)) (by simp)
  rw [tOp_def, tLst_def, tCons_def]
  refine A1 H0 (Ex.refl _) _ fun p1 H1 n1 e1 h1 => ?_
  have A2 : EvL (tLst (tCons (tCB rInt1 (tCons (tOp rEq (tVar i) (tC (.str (Str.ofString "1")))) tNil)) tNil)) σ H1 [V.int (if decide ([c] = [49]) = true then 1 else 0)] := el_lst (ea_cons (ev_int1 (ev_eqT (ev_var hi) ec_1)) ea_nil) (by simp)
  rw [tCons_def]
  refine A2 H1 (Ex.refl _) _ fun p2 H2 n2 e2 h2 => ?_
  refine ⟨by show 2 ≤ sizeLine; decide, fun p3 n3 => ?_⟩
  have e3 := Ex.new (o := .lst [V.ref p1, .ref p2]) n3
  have h3 := upd_same (H := H2) (a := p3) (o := .lst [V.ref p1, .ref p2])
  generalize L2.upd H2 p3 (.lst [V.ref p1, .ref p2]) = H3 at e3 h3 ⊢
  have A4 : Ev (tCB rInt1 (tCons (tOp rInS (tVar i) (tC (.str (Str.ofString "01")))) tNil)) σ H3 (.int (if decide (c ∈ [48, 49]) = true then 1 else 0)) := ev_int1 (ev_inT (ev_var hi) ec_01)
  refine A4 H3 (Ex.refl _) _ fun H4 e4 => ?_
  have x1 : Ex H0 H4 := ((e1.trans e2).trans e3).trans e4
  by_cases h : c ∈ [48, 49]
  · refine ⟨p3, _, 1, _, rfl, by rw [if_pos (decide_eq_true h)], sq_of (e4 _ _ h3), atI_nat (j := 1) rfl, q p2 H4 (fresh_back e1 n2) x1 ?_⟩
    unfold ways
    rw [if_pos h, (e3.trans e4) _ _ h2]
    simp
  · refine ⟨p3, _, 0, _, rfl, by rw [if_neg (by rw [decide_eq_false h]; decide)], sq_of (e4 _ _ h3), atI_nat (j := 0) rfl, q p1 H4 n1 x1 ?_⟩
    unfold ways
    rw [if_neg h, ((e2.trans e3).trans e4) _ _ h1]
    rfl
end
section
variable {K : PySem.W.Frag} {σ : L2.St} {H : Hp} {D : Ends} {tu tz : TS}
/-- for a, b in zip(x, y): .., two texts of one length -/
theorem q_forZ {la lb : List Nat} {j1 j2 : Nat} {tA : TA} (h : EvA tA σ H [.str (Tx la), .str (Tx lb)]) (hl : la.length = lb.length) (Pv : Nat → L2.St → Hp → Prop) (h0 : ∀ H1, Ex H H1 → Pv 0 σ H1)
    (hs : ∀ i c d σ' H', la[i]? = some c → lb[i]? = some d → Pv i σ' H' → ∀ H2, Ex H' H2 → tu { D with nx := Pv (i + 1), ct := Pv (i + 1), bk := tz D } ((σ'.set j1 (some (.str (Tx [c])))).set j2 (some (.str (Tx [d])))) H2)
    (hd : ∀ σ' H', Pv la.length σ' H' → tz D σ' H') : tSeq (tFor (iZipS tA) (gTup K 2 (gCons (gName j1) (gCons (gName j2) gNil))) tu) tz D σ H := by
  have hn : min (Tx la).cps.size (Tx lb).cps.size = la.length := by
    have h1 : (Tx la).cps.size = la.length := Tx_len _
    have h2 : (Tx lb).cps.size = lb.length := Tx_len _
    omega
  refine h H (Ex.refl _) _ fun H1 e1 => ⟨Tx la, Tx lb, rfl, for_it (D := { D with nx := tz D }) walk_zipS Pv (h0 H1 e1) (fun _ _ _ _ _ => True.intro) (fun i x σ' H2 H3 hi hv y => ?_) (fun σ' H2 hv => ?_)⟩
  · obtain ⟨T, c, d, rfl, nT, rfl, hc, hd⟩ := y
    refine ⟨T, _, rfl, st_of upd_same, rfl, _, _, rfl, _, _, rfl, rfl, ?_⟩
    exact hs i c d σ' H2 (code_of hc) (code_of hd) hv _ (Ex.new nT)
  · rw [hn] at hv
    exact hd σ' H2 hv
/-- for k in range(n - 1, -1, -1): .. -/
theorem q_forDown {n j : Nat} {tA : TA} (h : EvA tA σ H [.int ((n : Int) - 1), .int (-1), .int (-1)]) (hz : n ≤ 100000) (Pv : Nat → L2.St → Hp → Prop) (h0 : ∀ H1, Ex H H1 → Pv 0 σ H1)
    (hs : ∀ i σ' H', i < n → Pv i σ' H' → tu { D with nx := Pv (i + 1), ct := Pv (i + 1), bk := tz D } (σ'.set j (some (.int ((n - 1 - i : Nat) : Int)))) H')
    (hd : ∀ σ' H', Pv n σ' H' → tz D σ' H') : tSeq (tFor (iRng3 tA) (gName j) tu) tz D σ H := by
  have hn : ((n : Int) - 1 - (-1)).toNat = n := by omega
  refine h H (Ex.refl _) _ fun H1 e1 => ⟨(n : Int) - 1, -1, -1, ((n : Int) - 1 - (-1)).toNat, rfl, RgC.neg (by omega) (by omega) (by omega) (by omega), for_it (D := { D with nx := tz D }) walk_rangeC Pv (h0 H1 e1) (fun _ _ _ _ _ => True.intro) (fun i x σ' H2 H3 hi hv y => ?_) (fun σ' H2 hv => ?_)⟩
  · obtain ⟨rfl, hx⟩ := y
    rw [hn] at hi
    have hx2 : x = .int ((n - 1 - i : Nat) : Int) := by
      rw [hx]
      show V.int ((n : Int) - 1 + (i : Int) * -1) = _
      congr 1
      omega
    subst hx2
    exact hs i σ' H3 hi hv
  · rw [hn] at hv
    exact hd σ' H2 hv
end
theorem ways_at (c : Nat) : atI ((ways c).map V.int) 0 = some (.int (((wN c).getD 0 0 : Nat) : Int)) ∧ atI ((ways c).map V.int) (-1) = some (.int (((wN c).getD ((wN c).length - 1) 0 : Nat) : Int)) := by
  unfold ways wN
  by_cases h : c ∈ [48, 49]
  · rw [if_pos h, if_pos h]
    by_cases h2 : c = 49
    · rw [if_pos h2, if_pos h2]
      exact ⟨rfl, rfl⟩
    · rw [if_neg h2, if_neg h2]
      exact ⟨rfl, rfl⟩
  · rw [if_neg h, if_neg h]
    exact ⟨rfl, rfl⟩
theorem ways_len (c : Nat) : (ways c).length ≤ 2 := by
  unfold ways
  split <;> simp
theorem count_ok : ∀ a ∈ k3, ∀ b ∈ k3, ∀ c ∈ k3, Txt.count (Tx ([a] ++ [b] ++ [c])) (Tx [48]) = cnt 48 a b c ∧ Txt.count (Tx ([a] ++ [b] ++ [c])) (Tx [49]) = cnt 49 a b c := by decide +kernel
theorem most_k3 (c d k : Nat) : mostS c d k ∈ k3 := by
  unfold mostS
  split
  · decide
  · split <;> decide
theorem any_k3 (l : List Nat) : anyS l ∈ k3 := by
  unfold anyS
  split
  · decide
  · split <;> decide
/-! ### words -/
def wd : Nat → Str
  | 0 => "plus"
  | 1 => "same"
  | _ => "less"
theorem wd_plus : ∀ w : Fin 3, decide (V.str (wd w.val) = V.str (Str.ofString "plus")) = decide (w.val = 0) := by decide +kernel
theorem wd_same : ∀ w : Fin 3, decide (V.str (wd w.val) = V.str (Str.ofString "same")) = decide (w.val = 1) := by decide +kernel
theorem wd_less : ∀ w : Fin 3, decide (V.str (wd w.val) = V.str (Str.ofString "less")) = decide (w.val = 2) := by decide +kernel
theorem no_part : ∀ w : Fin 3, wd w.val ≠ Str.ofString "part" := by decide +kernel
theorem sign_end : ∀ w : Fin 3, ∀ k ∈ k3, (∀ x ∈ (ways k).map (fun c : Int => if w.val = 1 then 1 - c else c), x = 0 ∨ x = 1) ∧ 0 < ((ways k).map (fun c : Int => if w.val = 1 then 1 - c else c)).length ∧ signL ((ways k).map (fun c : Int => if w.val = 1 then 1 - c else c)) = if w.val = 1 then notS k else k := by decide +kernel
theorem e_xz : (Str.ofString "xz") = Tx [120, 122] := by decide +kernel
theorem e_sgn8 : (Str.ofString "01xz01xz").cps.toList = [48, 49, 120, 122, 48, 49, 120, 122] := by decide +kernel
theorem e_01 : (Str.ofString "01").cps.toList = [48, 49] := by decide +kernel
theorem ec_xz {σ : L2.St} {H : Hp} : Ev (tC (.str (Str.ofString "xz"))) σ H (.str (Tx [120, 122])) := by rw [e_xz]; exact ev_c
theorem triL_01 : ∀ c ∈ sgn, ∀ d ∈ sgn, ∀ k ∈ k3, ∀ t ∈ triL c d (ways k), (t.1 = 0 ∨ t.1 = 1) ∧ (t.2.1 = 0 ∨ t.2.1 = 1) ∧ (t.2.2 = 0 ∨ t.2.2 = 1) := by decide +kernel
theorem triL_len : ∀ c ∈ sgn, ∀ d ∈ sgn, ∀ k ∈ k3, (triL c d (ways k)).length ≤ 8 := by decide +kernel
theorem sum3 (t : T3) : ([t.1, t.2.1, t.2.2] : List Int).sum = t.1 + t.2.1 + t.2.2 := by
  simp
  omega
theorem tri_map (w c d k : Nat) : (tri w c d k).map V.int = (triL c d (ways k)).map fun t => V.int (fW w t.1 t.2.1 t.2.2) := by
  unfold tri
  rw [List.map_map]
  rfl
theorem pairs_step (w n m : Nat) (xs ys : List Nat) : pairs w n (xs ++ [m]) ys = pairs w n xs ys ++ ys.map fun y => gW w n m y := by
  unfold pairs
  rw [List.flatMap_append]
  simp
theorem pairs_len (w n : Nat) (xs ys : List Nat) : (pairs w n xs ys).length = xs.length * ys.length := by
  unfold pairs
  induction xs with
  | nil => simp
  | cons x xs ih =>
    rw [List.flatMap_cons, List.length_append, ih, List.length_map, List.length_cons, Nat.succ_mul]
    omega
end Dw

set_option Elab.async false
set_option linter.all false
set_option maxRecDepth 100000
namespace Dw
open PySem L2 Evl
set_option maxHeartbeats 4000000
/-! ### the text by places -/
def top (i : Nat) : Stmt := PySem.Challenge.pw_deltawires_k16_whole_numbers_by_all_fill.main.body.getD i (.Pass ⟨0, 0, 0, 0⟩)
abbrev s_read : Stmt := top 2
abbrev N_read : List Str := ["value"]
theorem sc_read : FnScope N_read ["value"] (defScope s_read) := ⟨rfl, rfl, rfl, by decide +kernel, rfl, by decide +kernel, by decide +kernel⟩
abbrev s_xor_sign : Stmt := top 10
abbrev N_xor_sign : List Str := ["one", "other"]
theorem sc_xor_sign : FnScope N_xor_sign ["one", "other"] (defScope s_xor_sign) := ⟨rfl, rfl, rfl, by decide +kernel, rfl, by decide +kernel, by decide +kernel⟩
abbrev s_most_sign : Stmt := top 11
abbrev N_most_sign : List Str := ["one", "other", "third", "signs"]
theorem sc_most_sign : FnScope N_most_sign ["one", "other", "third"] (defScope s_most_sign) := ⟨rfl, rfl, rfl, by decide +kernel, rfl, by decide +kernel, by decide +kernel⟩
abbrev s_by_bits : Stmt := top 12
abbrev N_by_bits : List Str := ["rule", "one", "other", "sign", "there"]
theorem sc_by_bits : FnScope N_by_bits ["rule", "one", "other"] (defScope s_by_bits) := ⟨rfl, rfl, rfl, by decide +kernel, rfl, by decide +kernel, by decide +kernel⟩
abbrev s_xor_value : Stmt := top 16
abbrev N_xor_value : List Str := ["one", "other"]
theorem sc_xor_value : FnScope N_xor_value ["one", "other"] (defScope s_xor_value) := ⟨rfl, rfl, rfl, by decide +kernel, rfl, by decide +kernel, by decide +kernel⟩
abbrev s_plus_value : Stmt := top 17
abbrev N_plus_value : List Str := ["one", "other", "carry", "signs", "sign", "there"]
theorem sc_plus_value : FnScope N_plus_value ["one", "other"] (defScope s_plus_value) := ⟨rfl, rfl, rfl, by decide +kernel, rfl, by decide +kernel, by decide +kernel⟩
abbrev s_any_value : Stmt := top 18
abbrev N_any_value : List Str := ["value"]
theorem sc_any_value : FnScope N_any_value ["value"] (defScope s_any_value) := ⟨rfl, rfl, rfl, by decide +kernel, rfl, by decide +kernel, by decide +kernel⟩
abbrev s_same_value : Stmt := top 20
abbrev N_same_value : List Str := ["one", "other"]
theorem sc_same_value : FnScope N_same_value ["one", "other"] (defScope s_same_value) := ⟨rfl, rfl, rfl, by decide +kernel, rfl, by decide +kernel, by decide +kernel⟩
abbrev s_lowest : Stmt := top 21
abbrev N_lowest : List Str := ["value"]
theorem sc_lowest : FnScope N_lowest ["value"] (defScope s_lowest) := ⟨rfl, rfl, rfl, by decide +kernel, rfl, by decide +kernel, by decide +kernel⟩
abbrev s_highest : Stmt := top 22
abbrev N_highest : List Str := ["value"]
theorem sc_highest : FnScope N_highest ["value"] (defScope s_highest) := ⟨rfl, rfl, rfl, by decide +kernel, rfl, by decide +kernel, by decide +kernel⟩
abbrev s_less_value : Stmt := top 23
abbrev N_less_value : List Str := ["one", "other"]
theorem sc_less_value : FnScope N_less_value ["one", "other"] (defScope s_less_value) := ⟨rfl, rfl, rfl, by decide +kernel, rfl, by decide +kernel, by decide +kernel⟩
abbrev s_operated : Stmt := top 28
abbrev N_operated : List Str := ["word", "values", "high", "low", "arguments", "action", "value"]
theorem sc_operated : FnScope N_operated ["word", "values", "high", "low"] (defScope s_operated) := ⟨rfl, rfl, rfl, by decide +kernel, rfl, by decide +kernel, by decide +kernel⟩
abbrev s__law_at : Stmt := top 30
abbrev N__law_at : List Str := ["_law_script", "_law_k"]
theorem sc__law_at : FnScope N__law_at ["_law_script", "_law_k"] (defScope s__law_at) := ⟨rfl, rfl, rfl, by decide +kernel, rfl, by decide +kernel, by decide +kernel⟩
abbrev s__law_pot : Stmt := top 31
abbrev N__law_pot : List Str := ["_law_script", "_law_k", "_law_cell"]
theorem sc__law_pot : FnScope N__law_pot ["_law_script", "_law_k"] (defScope s__law_pot) := ⟨rfl, rfl, rfl, by decide +kernel, rfl, by decide +kernel, by decide +kernel⟩
abbrev s__law_take : Stmt := top 32
abbrev N__law_take : List Str := ["_law_pot_here", "_law_many", "_law_digit"]
theorem sc__law_take : FnScope N__law_take ["_law_pot_here", "_law_many"] (defScope s__law_take) := ⟨rfl, rfl, rfl, by decide +kernel, rfl, by decide +kernel, by decide +kernel⟩
abbrev s__law_value : Stmt := top 33
abbrev N__law_value : List Str := ["_law_pot_here", "_law_width", "_law_room", "_law_found", "_law_k", "_law_sign_here"]
theorem sc__law_value : FnScope N__law_value ["_law_pot_here", "_law_width", "_law_room"] (defScope s__law_value) := ⟨rfl, rfl, rfl, by decide +kernel, rfl, by decide +kernel, by decide +kernel⟩
abbrev s__law_numbers : Stmt := top 34
abbrev N__law_numbers : List Str := ["_law_value_here", "_law_found", "_law_sign_here", "_law_ways_here", "_law_number"]
theorem sc__law_numbers : FnScope N__law_numbers ["_law_value_here"] (defScope s__law_numbers) := ⟨rfl, rfl, rfl, by decide +kernel, rfl, by decide +kernel, by decide +kernel⟩
abbrev s__law_bits : Stmt := top 35
abbrev N__law_bits : List Str := ["_law_some", "_law_width", "_law_ups", "_law_downs", "_law_number", "_law_found", "_law_k"]
theorem sc__law_bits : FnScope N__law_bits ["_law_some", "_law_width"] (defScope s__law_bits) := ⟨rfl, rfl, rfl, by decide +kernel, rfl, by decide +kernel, by decide +kernel⟩
abbrev s__law_due : Stmt := top 36
abbrev N__law_due : List Str := ["_law_word", "_law_a", "_law_b", "_law_width", "_law_some", "_law_others", "_law_one", "_law_other"]
theorem sc__law_due : FnScope N__law_due ["_law_word", "_law_a", "_law_b", "_law_width"] (defScope s__law_due) := ⟨rfl, rfl, rfl, by decide +kernel, rfl, by decide +kernel, by decide +kernel⟩
abbrev s__law_ways : Stmt := top 37
abbrev N__law_ways : List Str := ["_law_sign_here"]
theorem sc__law_ways : FnScope N__law_ways ["_law_sign_here"] (defScope s__law_ways) := ⟨rfl, rfl, rfl, by decide +kernel, rfl, by decide +kernel, by decide +kernel⟩
abbrev s__law_triples : Stmt := top 38
abbrev N__law_triples : List Str := ["_law_one", "_law_other", "_law_ahead", "_law_found", "_law_a", "_law_b", "_law_c"]
theorem sc__law_triples : FnScope N__law_triples ["_law_one", "_law_other", "_law_ahead"] (defScope s__law_triples) := ⟨rfl, rfl, rfl, by decide +kernel, rfl, by decide +kernel, by decide +kernel⟩
abbrev s__law_sign : Stmt := top 39
abbrev N__law_sign : List Str := ["_law_some"]
theorem sc__law_sign : FnScope N__law_sign ["_law_some"] (defScope s__law_sign) := ⟨rfl, rfl, rfl, by decide +kernel, rfl, by decide +kernel, by decide +kernel⟩
abbrev s__law_by_bits : Stmt := top 40
abbrev N__law_by_bits : List Str := ["_law_word", "_law_a", "_law_b", "_law_found", "_law_ahead", "_law_one", "_law_other", "_law_some", "_law_c", "_law_three", "_law_p", "_law_q"]
theorem sc__law_by_bits : FnScope N__law_by_bits ["_law_word", "_law_a", "_law_b"] (defScope s__law_by_bits) := ⟨rfl, rfl, rfl, by decide +kernel, rfl, by decide +kernel, by decide +kernel⟩
abbrev s__law_right : Stmt := top 41
abbrev N__law_right : List Str := ["_law_word", "_law_a", "_law_b", "_law_width", "_law_handed", "_law_found", "_law_few", "_law_sign_here"]
theorem sc__law_right : FnScope N__law_right ["_law_word", "_law_a", "_law_b", "_law_width"] (defScope s__law_right) := ⟨rfl, rfl, rfl, by decide +kernel, rfl, by decide +kernel, by decide +kernel⟩
abbrev s_law : Stmt := top 42
abbrev N_law : List Str := ["_law_script", "_law_k", "_law_pot_here", "_law_a", "_law_b", "_law_width", "_law_room", "_law_spot", "_law_word"]
theorem sc_law : FnScope N_law ["_law_script"] (defScope s_law) := ⟨rfl, rfl, rfl, by decide +kernel, rfl, by decide +kernel, by decide +kernel⟩
def wordsL0 : List Str := ["not", "and", "or", "xor", "plus", "same", "less", "any", "all", "pick", "join", "part"]
structure Bi (K : PySem.W.Frag) (w : World) (mg : Str → Option Value) (dA dT aW qx : Addr) : Prop where
  all : mg "all" = none
  divmod : mg "divmod" = none
  int : mg "int" = none
  len : mg "len" = none
  max : mg "max" = none
  min : mg "min" = none
  range : mg "range" = none
  set : mg "set" = none
  sorted : mg "sorted" = none
  str : mg "str" = none
  sum : mg "sum" = none
  zip : mg "zip" = none
  c_ACTIONS : GlV mg "ACTIONS" (.ref dA)
  c_WORDS : GlV mg "WORDS" (.ref aW)
  c_TURNED : GlV mg "TURNED" (.ref dT)
  c_xor_sign : GlV mg "xor_sign" (.ref qx)
  x_W : ∀ H : Hp, SqT K H aW (wordsL0.map V.str)
  x_T0 : KDct K w dT (Tx [48]) (.str (Tx [49]))
  x_T1 : KDct K w dT (Tx [49]) (.str (Tx [48]))
  x_Tx : KDct K w dT (Tx [120]) (.str (Tx [120]))
theorem words_in : ∀ w : Fin 3, inV (.str (wd w.val)) (wordsL0.map V.str) = true := by decide +kernel
abbrev nV (ns : List Nat) : List V := ns.map fun n : Nat => V.int (n : Int)
def spXor : Sp := fun vs H Q _ => ∃ a b : Nat, vs = [.str (Tx [a]), .str (Tx [b])] ∧ ∀ H', Ex H H' → Q (.str (Tx [xorS a b])) H'
theorem spv_xor {a b : Nat} {H : Hp} : SpV spXor [.str (Tx [a]), .str (Tx [b])] H (.str (Tx [xorS a b])) := fun H1 e Q q E => ⟨a, b, rfl, q⟩
def spMost : Sp := fun vs H Q _ => ∃ a b c : Nat, vs = [.str (Tx [a]), .str (Tx [b]), .str (Tx [c])] ∧ a ∈ k3 ∧ b ∈ k3 ∧ c ∈ k3 ∧ ∀ H', Ex H H' → Q (.str (Tx [mostS a b c])) H'
theorem spv_most {a b c : Nat} {H : Hp} (ha : a ∈ k3) (hb : b ∈ k3) (hc : c ∈ k3) : SpV spMost [.str (Tx [a]), .str (Tx [b]), .str (Tx [c])] H (.str (Tx [mostS a b c])) := fun H1 e Q q E => ⟨a, b, c, rfl, ha, hb, hc, q⟩
def spByBits (qx : Addr) : Sp := fun vs H Q _ => ∃ a b : List Nat, vs = [.ref qx, .str (Tx a), .str (Tx b)] ∧ a.length = b.length ∧ a.length ≤ 1000 ∧ ∀ H', Ex H H' → Q (.str (Tx (List.zipWith xorS a b))) H'
def spXorV : Sp := fun vs H Q _ => ∃ a b : List Nat, vs = [.str (Tx a), .str (Tx b)] ∧ a.length = b.length ∧ a.length ≤ 1000 ∧ ∀ H', Ex H H' → Q (.str (Tx (List.zipWith xorS a b))) H'
def spTwoS (f : List Nat → List Nat → List Nat) : Sp := fun vs H Q _ => ∃ a b : List Nat, vs = [.str (Tx a), .str (Tx b)] ∧ Sx a ∧ Sx b ∧ a.length = b.length ∧ a.length ≤ 8 ∧ ∀ H', Ex H H' → Q (.str (Tx (f a b))) H'
def spMapS (f : Nat → Nat) : Sp := fun vs H Q _ => ∃ l : List Nat, vs = [.str (Tx l)] ∧ l.length ≤ 1000 ∧ ∀ H', Ex H H' → Q (.str (Tx (l.map f))) H'
theorem spv_map {f : Nat → Nat} {l : List Nat} {H : Hp} (h : l.length ≤ 1000) : SpV (spMapS f) [.str (Tx l)] H (.str (Tx (l.map f))) := fun H1 e Q q E => ⟨l, rfl, h, q⟩
theorem spv_read {l : List Nat} {H : Hp} (h : l.length ≤ 1000) : SpV spRead [.str (Tx l)] H (.str (Tx (l.map rd))) := fun H1 e Q q E => ⟨l, rfl, h, q⟩
def spOp (K : PySem.W.Frag) : Sp := fun vs H Q _ => ∃ (n : Nat) (p : Addr) (a b : List Nat) (hi lo : Int), vs = [.str (wd n), .ref p, .int hi, .int lo] ∧ n < 3 ∧ SqL K H p [V.str (Tx a), V.str (Tx b)] ∧ Sg a ∧ Sg b ∧ a.length = b.length ∧ a.length ≤ 8 ∧ ∀ H', Ex H H' → Q (.str (Tx (opS n (a.map rd) (b.map rd)))) H'
theorem spv_op {K : PySem.W.Frag} {H : Hp} {n : Nat} {p : Addr} {a b : List Nat} {hi lo : Int} (hn : n < 3) (h : SqL K H p [V.str (Tx a), V.str (Tx b)]) (ha : Sg a) (hb : Sg b) (hl : a.length = b.length) (h8 : a.length ≤ 8) : SpV (spOp K) [.str (wd n), .ref p, .int hi, .int lo] H (.str (Tx (bbS n a b))) := by
  rw [← op_bb a b ha hb hl]
  exact fun H1 e Q q E => ⟨n, p, a, b, hi, lo, rfl, hn, ex_l e h, ha, hb, hl, h8, q⟩
def spVal3 : Sp := fun vs H Q _ => ∃ (p r : Addr) (n : Int), vs = [.ref p, .int n, .ref r] ∧ PotAt H p ∧ RoomAt H r ∧ 1 ≤ n ∧ n ≤ 8 ∧ ∀ (H' : Hp) (l : List Nat), ExC p r H H' → PotAt H' p → RoomAt H' r → (l.length : Int) = n → Sg l → Q (.str (Tx l)) H'
def spNums : Sp := fun vs H Q _ => ∃ l : List Nat, vs = [.str (Tx l)] ∧ l.length ≤ 8 ∧ ∀ (ms : List Nat) (p : Addr) (H' : Hp), (∀ m, m ∈ ms ↔ m ∈ nums l) → ms.length ≤ 256 → H p = none → Ex H H' → H' p = some (.lst (nV ms)) → Q (.ref p) H'
def spBitsL (K : PySem.W.Frag) : Sp := fun vs H Q _ => ∃ (p : Addr) (ns : List Nat) (n : Nat), vs = [.ref p, .int (n : Int)] ∧ SqL K H p (nV ns) ∧ 0 < ns.length ∧ 1 ≤ n ∧ n ≤ 8 ∧ ∀ H', Ex H H' → Q (.str (Tx (bitsW ns n))) H'
theorem spv_bits {K : PySem.W.Frag} {H : Hp} {p : Addr} {ns : List Nat} {n : Nat} (h : SqL K H p (nV ns)) (h0 : 0 < ns.length) (h1 : 1 ≤ n) (h8 : n ≤ 8) : SpV (spBitsL K) [.ref p, .int (n : Int)] H (.str (Tx (bitsW ns n))) := fun H1 e Q q E => ⟨p, ns, n, rfl, ex_l e h, h0, h1, h8, q⟩
def spBB : Sp := fun vs H Q _ => ∃ (n : Nat) (a b : List Nat), vs = [.str (wd n), .str (Tx a), .str (Tx b)] ∧ n < 3 ∧ Sg a ∧ Sg b ∧ a.length = b.length ∧ a.length ≤ 8 ∧ ∀ H', Ex H H' → Q (.str (Tx (bbS n a b))) H'
theorem spv_bb {n : Nat} {a b : List Nat} {H : Hp} (hn : n < 3) (ha : Sg a) (hb : Sg b) (hl : a.length = b.length) (h8 : a.length ≤ 8) : SpV spBB [.str (wd n), .str (Tx a), .str (Tx b)] H (.str (Tx (bbS n a b))) := fun H1 e Q q E => ⟨n, a, b, rfl, hn, ha, hb, hl, h8, q⟩
def spDue : Sp := fun vs H Q _ => ∃ (n : Nat) (a b : List Nat), vs = [.str (wd n), .str (Tx a), .str (Tx b), .int (a.length : Int)] ∧ n < 3 ∧ Sg a ∧ Sg b ∧ a.length = b.length ∧ 1 ≤ a.length ∧ a.length ≤ 8 ∧ ∀ H', Ex H H' → Q (.str (Tx (bbS n a b))) H'
theorem spv_due {n : Nat} {a b : List Nat} {H : Hp} (hn : n < 3) (ha : Sg a) (hb : Sg b) (hl : a.length = b.length) (h1 : 1 ≤ a.length) (h8 : a.length ≤ 8) : SpV spDue [.str (wd n), .str (Tx a), .str (Tx b), .int (a.length : Int)] H (.str (Tx (bbS n a b))) := fun H1 e Q q E => ⟨n, a, b, rfl, hn, ha, hb, hl, h1, h8, q⟩
def spWays : Sp := fun vs H Q _ => ∃ c : Nat, vs = [.str (Tx [c])] ∧ ∀ (p : Addr) (H' : Hp), H p = none → Ex H H' → H' p = some (.lst ((ways c).map V.int)) → Q (.ref p) H'
theorem spl_ways {c : Nat} {H : Hp} : SpL spWays [.str (Tx [c])] H ((ways c).map V.int) := fun H1 e Q q E => ⟨c, rfl, q⟩
def spTri (K : PySem.W.Frag) : Sp := fun vs H Q _ => ∃ (c d k : Nat) (g : Addr), vs = [.str (Tx [c]), .str (Tx [d]), .ref g] ∧ SqL K H g ((ways k).map V.int) ∧ ∀ (p : Addr) (rs : List Addr) (H' : Hp), H p = none → Ex H H' → H' p = some (.lst (rs.map V.ref)) → Tups H' rs (triL c d (ways k)) → Q (.ref p) H'
def spSign (K : PySem.W.Frag) : Sp := fun vs H Q _ => ∃ (p : Addr) (ns : List Int), vs = [.ref p] ∧ SqL K H p (ns.map V.int) ∧ (∀ x ∈ ns, x = 0 ∨ x = 1) ∧ 0 < ns.length ∧ ns.length ≤ 1000 ∧ ∀ H', Ex H H' → Q (.str (Tx [signL ns])) H'
theorem spv_sign {K : PySem.W.Frag} {H : Hp} {p : Addr} {ns : List Int} (h : SqL K H p (ns.map V.int)) (h01 : ∀ x ∈ ns, x = 0 ∨ x = 1) (h0 : 0 < ns.length) (hz : ns.length ≤ 1000) : SpV (spSign K) [.ref p] H (.str (Tx [signL ns])) := fun H1 e Q q E => ⟨p, ns, rfl, ex_l e h, h01, h0, hz, q⟩
def spRight : Sp := fun vs H Q _ => ∃ (n : Nat) (a b : List Nat), vs = [.str (wd n), .str (Tx a), .str (Tx b), .int (a.length : Int)] ∧ n < 3 ∧ Sg a ∧ Sg b ∧ a.length = b.length ∧ 1 ≤ a.length ∧ a.length ≤ 8 ∧ ∀ H', Ex H H' → Q (.bl true) H'
theorem spv_right {n : Nat} {a b : List Nat} {H : Hp} (hn : n < 3) (ha : Sg a) (hb : Sg b) (hl : a.length = b.length) (h1 : 1 ≤ a.length) (h8 : a.length ≤ 8) : SpV spRight [.str (wd n), .str (Tx a), .str (Tx b), .int (a.length : Int)] H (.bl true) := fun H1 e Q q E => ⟨n, a, b, rfl, hn, ha, hb, hl, h1, h8, q⟩
section
variable {P : Program} {w : World} {K : PySem.W.Frag} {mg : Str → Option Value} {base : Heap} {dA dT aW qx : Addr}
theorem ok_read {f  : Addr} {fd  : FuncData} (F : Fun K "read" "read" s_read f fd) (B : Bi K w mg dA dT aW qx)   : FnOk P w K mg base CX0 1 f fd ["value"] (spRead) := by
  obtain ⟨oc, od, kV, doc, pm, an, cdv, ct, osl, rfl, lk, hcd⟩ := F.ex
  refine fn_ofT lk hcd sc_read (by decide +kernel) (by decide) (fun vs H Q E h => ?_) (fun A outer s H vs Q E hr h => ?_)
  · obtain ⟨l, rfl, _⟩ := h
    rfl
  · obtain ⟨l, rfl, hl, q⟩ := h
    refine ⟨_, (CwR.psst_one (CwR.pst_ret (CwR.pet_replC (pv 0) (by decide +kernel)))), ?_⟩
    refine ⟨_, rfl, Tx l, rfl, ?_, ?_⟩
    · rw [s_x, Tx_len, Tx_len]
      show l.length + (l.length + 1) * 1 ≤ 16777216
      omega
    · rw [replace_Tx s_z s_x]
      exact q H (Ex.refl H)
theorem ok_xor_sign {f  : Addr} {fd  : FuncData} (F : Fun K "xor_sign" "xor_sign" s_xor_sign f fd) (B : Bi K w mg dA dT aW qx)   : FnOk P w K mg base CX0 1 f fd ["one", "other"] (spXor) := by
  refine F.ok sc_xor_sign (fun vs H Q E h => ?_) (fun cdv A outer s H vs Q E hr h => ?_)
  · obtain ⟨a, b, rfl, _⟩ := h
    rfl
  · obtain ⟨a, b, rfl, q⟩ := h
    refine ⟨_, (pss_cons (ps_if (PW.pt (pw_or (pt_cmpR op_eq (pv 0) pe_str (nomark _)) (pw_or1 (pt_cmpR op_eq (pv 1) pe_str (nomark _))))) (pss_one (ps_ret pe_str)) pss_nil)
      (pss_one (ps_ret (pe_ifExp (pt_cmpR op_eq (pv 0) (pv 1) (nomark _)) pe_str pe_str)))), ?_⟩
    refine q_when (et_or (et_test (ev_eqT (ev_var rfl) ec_x)) fun _ => et_test (ev_eqT (ev_var rfl) ec_x)) (fun hb H1 e1 => s_ret ec_x fun H2 e2 => ?_) (fun hb H1 e1 => s_ret (ev_ifS (et_test (ev_eqT (ev_var rfl) (ev_var rfl))) ec_0 ec_1) fun H2 e2 => ?_)
    · have g := q H2 (e1.trans e2)
      unfold xorS at g
      rw [if_pos (by simpa using hb)] at g
      exact g
    · have g := q H2 (e1.trans e2)
      unfold xorS at g
      rw [if_neg (by simpa using hb)] at g
      split at g
      · rename_i h
        rw [if_pos (by simpa using h)]
        exact g
      · rename_i h
        rw [if_neg (by simpa using h)]
        exact g
theorem ok_most_sign {f  : Addr} {fd  : FuncData} (F : Fun K "most_sign" "most_sign" s_most_sign f fd) (B : Bi K w mg dA dT aW qx)   : FnOk P w K mg base CX0 1 f fd ["one", "other", "third"] (spMost) := by
  refine F.ok sc_most_sign (fun vs H Q E h => ?_) (fun cdv A outer s H vs Q E hr h => ?_)
  · obtain ⟨a, b, c, rfl, _⟩ := h
    rfl
  · obtain ⟨a, b, c, rfl, ha, hb, hc, q⟩ := h
    refine ⟨_, (pss_cons (ps_set (i := 3) sc_most_sign.nd rfl (Or.inl rfl) (pe_op op_add_str (pe_op op_add_str (pv 0) (pv 1)) (pv 2)))
      (pss_cons (ps_if (pt_cmpR op_gt (pe_m1 PySem.F.slot_str_count PySem.F.type_str_count mt_count (pv 3) pe_str) pe_int (nomark _)) (pss_one (ps_ret pe_str)) pss_nil)
      (pss_one (ps_ret (pe_ifExp (pt_cmpR op_gt (pe_m1 PySem.F.slot_str_count PySem.F.type_str_count mt_count (pv 3) pe_str) pe_int (nomark _)) pe_str pe_str))))), ?_⟩
    obtain ⟨n0, n1⟩ := count_ok a ha b hb c hc
    refine q_asg (ev_addT (ev_addT (ev_var rfl) (ev_var rfl) (by simp)) (ev_var rfl) (by simp)) fun H1 e1 => ?_
    refine q_when (et_test (ev_op (ev_countT (ev_var rfl) ec_0 n0) ev_c rv_I0)) (fun hb2 H2 e2 => s_ret ec_0 fun H3 e3 => ?_) (fun hb2 H2 e2 => s_ret (ev_ifS (et_test (ev_op (ev_countT (ev_var rfl) ec_1 n1) ev_c rv_I0)) ec_1 ec_x) fun H3 e3 => ?_)
    · have g := q H3 ((e1.trans e2).trans e3)
      unfold mostS at g
      have h := of_decide_eq_true hb2
      rw [if_pos (by omega)] at g
      exact g
    · have g := q H3 ((e1.trans e2).trans e3)
      unfold mostS at g
      have h := of_decide_eq_false hb2
      rw [if_neg (by omega)] at g
      by_cases h2 : 1 < cnt 49 a b c
      · rw [if_pos h2] at g
        rw [if_pos (decide_eq_true (by omega))]
        exact g
      · rw [if_neg h2] at g
        rw [if_neg (by rw [decide_eq_false (by omega)]; decide)]
        exact g
theorem ok_by_bits {f  : Addr} {fd fd1 : FuncData} (F : Fun K "by_bits" "by_bits" s_by_bits f fd) (B : Bi K w mg dA dT aW qx)  (D_xor_sign : Df P w K mg base CX0 "xor_sign" 1 qx fd1 ["one", "other"] (spXor)) : FnOk P w K mg base CX0 2 f fd ["rule", "one", "other"] (spByBits qx) := by
  refine F.ok sc_by_bits (fun vs H Q E h => ?_) (fun cdv A outer s H vs Q E hr h => ?_)
  · obtain ⟨a, b, rfl, _⟩ := h
    rfl
  · obtain ⟨a, b, rfl, hl, hz, q⟩ := h
    have hH : Held P w K mg base 1 qx spXor := ⟨_, _, D_xor_sign.ok, D_xor_sign.kp, D_xor_sign.b⟩
    have hA : ∀ f sp, (fun f : Addr => if f = qx then some spXor else (none : Option Sp)) f = some sp → Held P w K mg base 1 f sp := fun f sp h => by
      by_cases e : f = qx
      · rw [show (fun f : Addr => if f = qx then some spXor else (none : Option Sp)) f = some spXor from if_pos e] at h
        cases h
        rw [e]
        exact hH
      · rw [show (fun f : Addr => if f = qx then some spXor else (none : Option Sp)) f = none from if_neg e] at h
        cases h
    generalize hS0 : (fun f : Addr => if f = qx then some spXor else (none : Option Sp)) = S at hA
    refine ⟨_, (pss_one (ps_ret (pe_join pe_str (pe_lc (own := [("sign", 3), ("there", 4)]) (g := gTup K 2 (gCons (gName 3) (gCons (gName 4) gNil))) (tt := tYes) (by rfl) sc_by_bits.nd (pi_zipS (by rfl) B.zip (pa_cons (pv 1) (pa_cons (pv 2) pa_nil))) (blkOk_by (own := [("sign", 3), ("there", 4)]) (N := N_by_bits) (sc := defScope s_by_bits) (by decide +kernel)) (fun _ _ _ _ _ => (pg_tup rfl (pgs_cons (pg_name (i := 3) sc_by_bits.nd rfl (Or.inl rfl) (Or.inr rfl)) (pgs_cons (pg_name (i := 4) sc_by_bits.nd rfl (Or.inl rfl) (Or.inr rfl)) pgs_nil)))) (fun _ _ _ _ _ => pts_nil) (fun _ _ _ _ _ => (pe_callA (i := 0) (S := S) hA (hr.mono (by decide)) rfl (by first | exact Or.inl rfl | exact Or.inr (Or.inl rfl) | exact Or.inr (Or.inr rfl)) (pa_cons (pv 3) (pa_cons (pv 4) pa_nil)))))))), ?_⟩
    refine s_ret (ev_join1 (l := List.zipWith xorS a b) ?_ (by rw [List.length_zipWith]; omega)) q
    rw [List.map_zipWith]
    refine el_lcZ (fun c d => V.str (Tx [xorS c d])) (ea_cons (ev_var rfl) (ea_cons (ev_var rfl) ea_nil)) hl (by omega) (fun x y => rfl) fun c d H1 _ _ _ => fun H2 e2 Q2 q2 => ?_
    exact ⟨qx, spXor, rfl, by rw [← hS0]; exact if_pos rfl, _, rfl, _, rfl, c, d, rfl, q2⟩
theorem ok_xor_value {f f1 : Addr} {fd fd1 : FuncData} (F : Fun K "xor_value" "xor_value" s_xor_value f fd) (B : Bi K w mg dA dT aW qx)  (D_by_bits : Df P w K mg base CX0 "by_bits" 2 f1 fd1 ["rule", "one", "other"] (spByBits qx)) : FnOk P w K mg base CX0 3 f fd ["one", "other"] (spXorV) := by
  refine F.ok sc_xor_value (fun vs H Q E h => ?_) (fun cdv A outer s H vs Q E hr h => ?_)
  · obtain ⟨a, b, rfl, _⟩ := h
    rfl
  · obtain ⟨a, b, rfl, hl, hz, q⟩ := h
    refine ⟨_, (pss_one (ps_ret (pe_call D_by_bits.ok (hr.mono (by decide)) (by rfl) D_by_bits.g D_by_bits.kp D_by_bits.b .nil pass0 (pa_cons (pgl (by rfl) B.c_xor_sign) (pa_cons (pv 0) (pa_cons (pv 1) pa_nil)))))), ?_⟩
    exact s_ret (ev_call (ea_cons ev_c (ea_cons (ev_var rfl) (ea_cons (ev_var rfl) ea_nil))) fun H1 e1 Q1 q1 E1 => ⟨a, b, rfl, hl, hz, q1⟩) q
theorem ok_plus_value {f f2 : Addr} {fd fd1 fd2 : FuncData} (F : Fun K "plus_value" "plus_value" s_plus_value f fd) (B : Bi K w mg dA dT aW qx)  (D_xor_sign : Df P w K mg base CX0 "xor_sign" 1 qx fd1 ["one", "other"] (spXor)) (D_most_sign : Df P w K mg base CX0 "most_sign" 1 f2 fd2 ["one", "other", "third"] (spMost)) : FnOk P w K mg base CX0 4 f fd ["one", "other"] (spTwoS plusS) := by
  refine F.ok sc_plus_value (fun vs H Q E h => ?_) (fun cdv A outer s H vs Q E hr h => ?_)
  · obtain ⟨a, b, rfl, _⟩ := h
    rfl
  · obtain ⟨a, b, rfl, ha, hb, hl, h8, q⟩ := h
    refine ⟨_, (pss_cons (ps_set (i := 2) sc_plus_value.nd rfl (Or.inl rfl) pe_str)
      (pss_cons (ps_set (i := 3) sc_plus_value.nd rfl (Or.inl rfl) pe_str)
      (pss_cons (ps_for PassesOwn.never rfl (pi_zipS (by rfl) B.zip (pa_cons (pe_revS (pv 0)) (pa_cons (pe_revS (pv 1)) pa_nil))) (pg_tup rfl (pgs_cons (pg_name (i := 4) sc_plus_value.nd rfl (Or.inl rfl)) (pgs_cons (pg_name (i := 5) sc_plus_value.nd rfl (Or.inl rfl)) pgs_nil))) (pss_cons (ps_set (i := 3) sc_plus_value.nd rfl (Or.inl rfl) (pe_op op_add_str (pe_call D_xor_sign.ok (hr.mono (by decide)) (by rfl) D_xor_sign.g D_xor_sign.kp D_xor_sign.b .nil pass0 (pa_cons (pe_call D_xor_sign.ok (hr.mono (by decide)) (by rfl) D_xor_sign.g D_xor_sign.kp D_xor_sign.b .nil pass0 (pa_cons (pv 4) (pa_cons (pv 5) pa_nil))) (pa_cons (pv 2) pa_nil))) (pv 3)))
      (pss_one (ps_set (i := 2) sc_plus_value.nd rfl (Or.inl rfl) (pe_call D_most_sign.ok (hr.mono (by decide)) (by rfl) D_most_sign.g D_most_sign.kp D_most_sign.b .nil pass0 (pa_cons (pv 4) (pa_cons (pv 5) (pa_cons (pv 2) pa_nil))))))))
      (pss_one (ps_ret (pv 3)))))), ?_⟩
    refine q_asg ec_0 fun H1 e1 => ?_
    refine q_asg ec_e fun H2 e2 => ?_
    refine q_forZ (ea_cons (ev_revS (ev_var rfl) (by omega)) (ea_cons (ev_revS (ev_var rfl) (by omega)) ea_nil)) (by rw [List.length_reverse, List.length_reverse]; exact hl) (fun i σ' H' => (∃ k s v4 v5, σ' = [some (.str (Tx a)), some (.str (Tx b)), some (.str (Tx [k])), some (.str (Tx s)), v4, v5] ∧ k ∈ k3 ∧ s.length = i ∧ (plusL k (a.reverse.drop i) (b.reverse.drop i)).reverse ++ s = plusS a b) ∧ Ex H H')
      (fun H3 e3 => ⟨⟨48, [], none, none, rfl, k3_48, rfl, by simp [plusS]⟩, (e1.trans e2).trans e3⟩) (fun i c d σ' H4 hc2 hd2 hv H5 e5 => ?_) (fun σ' H4 hv => ?_)
    · obtain ⟨⟨k, s, v4, v5, rfl, hk, hs, hp⟩, x4⟩ := hv
      have hi : i < a.reverse.length := (List.getElem?_eq_some_iff.mp hc2).1
      rw [List.length_reverse] at hi
      have hc3 : c ∈ k3 := ha c (List.mem_reverse.mp (List.mem_of_getElem? hc2))
      have hd3 : d ∈ k3 := hb d (List.mem_reverse.mp (List.mem_of_getElem? hd2))
      refine q_asg (ev_addT (ev_call (ea_cons (ev_call (ea_cons (ev_var rfl) (ea_cons (ev_var rfl) ea_nil)) spv_xor) (ea_cons (ev_var rfl) ea_nil)) spv_xor) (ev_var rfl) (by simp; omega)) fun H6 e6 => ?_
      refine s_asg (ev_call (ea_cons (ev_var rfl) (ea_cons (ev_var rfl) (ea_cons (ev_var rfl) ea_nil))) (spv_most hc3 hd3 hk)) fun H7 e7 => ?_
      refine ⟨⟨mostS c d k, [xorS (xorS c d) k] ++ s, _, _, rfl, most_k3 _ _ _, by simp; omega, ?_⟩, ((x4.trans e5).trans e6).trans e7⟩
      rw [← hp, drop_at hc2, drop_at hd2]
      simp [plusL]
    · obtain ⟨⟨k, s, v4, v5, rfl, hk, hs, hp⟩, x4⟩ := hv
      rw [List.drop_of_length_le (Nat.le_refl _)] at hp
      have hp2 : s = plusS a b := by rw [← hp]; simp [plusL]
      rw [hp2]
      exact s_ret (ev_var rfl) fun H5 e5 => q H5 (x4.trans e5)
theorem ok_any_value {f  : Addr} {fd  : FuncData} (F : Fun K "any_value" "any_value" s_any_value f fd) (B : Bi K w mg dA dT aW qx)   : FnOk P w K mg base CX0 1 f fd ["value"] (spOne anyS) := by
  refine F.ok sc_any_value (fun vs H Q E h => ?_) (fun cdv A outer s H vs Q E hr h => ?_)
  · obtain ⟨l, rfl, _⟩ := h
    rfl
  · obtain ⟨l, rfl, q⟩ := h
    refine ⟨_, (pss_cons (ps_if (pt_cmpR op_inS pe_str (pv 0) rfl) (pss_one (ps_ret pe_str)) pss_nil)
      (pss_one (ps_ret (pe_ifExp (pt_cmpR op_inS pe_str (pv 0) rfl) pe_str pe_str)))), ?_⟩
    refine q_when (et_test (ev_inT ec_1 (ev_var rfl))) (fun hb H1 e1 => s_ret ec_1 fun H2 e2 => ?_) (fun hb H1 e1 => s_ret (ev_ifS (et_test (ev_inT ec_x (ev_var rfl))) ec_x ec_0) fun H2 e2 => ?_)
    · have g := q H2 (e1.trans e2)
      unfold anyS at g
      rw [if_pos (of_decide_eq_true hb)] at g
      exact g
    · have g := q H2 (e1.trans e2)
      unfold anyS at g
      rw [if_neg (of_decide_eq_false hb)] at g
      by_cases h : 120 ∈ l
      · rw [if_pos h] at g
        rw [if_pos (decide_eq_true h)]
        exact g
      · rw [if_neg h] at g
        rw [if_neg (by rw [decide_eq_false h]; decide)]
        exact g
theorem ok_same_value {f f1 f2 : Addr} {fd fd1 fd2 : FuncData} (F : Fun K "same_value" "same_value" s_same_value f fd) (B : Bi K w mg dA dT aW qx)  (D_any_value : Df P w K mg base CX0 "any_value" 1 f1 fd1 ["value"] (spOne anyS)) (D_xor_value : Df P w K mg base CX0 "xor_value" 3 f2 fd2 ["one", "other"] (spXorV)) : FnOk P w K mg base CX0 4 f fd ["one", "other"] (spTwoS fun a b => [sameS a b]) := by
  refine F.ok sc_same_value (fun vs H Q E h => ?_) (fun cdv A outer s H vs Q E hr h => ?_)
  · obtain ⟨a, b, rfl, _⟩ := h
    rfl
  · obtain ⟨a, b, rfl, ha, hb, hl, h8, q⟩ := h
    refine ⟨_, (pss_one (ps_ret (pe_ix ix_kdict (pgl (by rfl) B.c_TURNED) (pe_call D_any_value.ok (hr.mono (by decide)) (by rfl) D_any_value.g D_any_value.kp D_any_value.b .nil pass0 (pa_cons (pe_call D_xor_value.ok (hr.mono (by decide)) (by rfl) D_xor_value.g D_xor_value.kp D_xor_value.b .nil pass0 (pa_cons (pv 0) (pa_cons (pv 1) pa_nil))) pa_nil)) (fun _ _ => rfl)))), ?_⟩
    have hkd : KDct K w dT (Tx [anyS (List.zipWith xorS a b)]) (.str (Tx [sameS a b])) := by
      unfold sameS
      have h := any_k3 (List.zipWith xorS a b)
      generalize anyS (List.zipWith xorS a b) = c at h
      simp only [k3, List.mem_cons, List.not_mem_nil, or_false] at h
      rcases h with rfl | rfl | rfl
      · exact B.x_T0
      · exact B.x_T1
      · exact B.x_Tx
    exact s_ret (ev_kd ev_c (ev_call (ea_cons (ev_call (ea_cons (ev_var rfl) (ea_cons (ev_var rfl) ea_nil)) fun H1 e1 Q1 q1 E1 => ⟨a, b, rfl, hl, by omega, q1⟩) ea_nil) fun H1 e1 Q1 q1 E1 => ⟨_, rfl, q1⟩) hkd) q
theorem ok_lowest {f  : Addr} {fd  : FuncData} (F : Fun K "lowest" "lowest" s_lowest f fd) (B : Bi K w mg dA dT aW qx)   : FnOk P w K mg base CX0 1 f fd ["value"] (spMapS loS) := by
  obtain ⟨oc, od, kV, doc, pm, an, cdv, ct, osl, rfl, lk, hcd⟩ := F.ex
  refine fn_ofT lk hcd sc_lowest (by decide +kernel) (by decide) (fun vs H Q E h => ?_) (fun A outer s H vs Q E hr h => ?_)
  · obtain ⟨l, rfl, _⟩ := h
    rfl
  · obtain ⟨l, rfl, hl, q⟩ := h
    refine ⟨_, (CwR.psst_one (CwR.pst_ret (CwR.pet_replC (pv 0) (by decide +kernel)))), ?_⟩
    refine ⟨_, rfl, Tx l, rfl, ?_, ?_⟩
    · rw [s_0, Tx_len, Tx_len]
      show l.length + (l.length + 1) * 1 ≤ 16777216
      omega
    · rw [replace_Tx s_x s_0]
      exact q H (Ex.refl H)
theorem ok_highest {f  : Addr} {fd  : FuncData} (F : Fun K "highest" "highest" s_highest f fd) (B : Bi K w mg dA dT aW qx)   : FnOk P w K mg base CX0 1 f fd ["value"] (spMapS hiS) := by
  obtain ⟨oc, od, kV, doc, pm, an, cdv, ct, osl, rfl, lk, hcd⟩ := F.ex
  refine fn_ofT lk hcd sc_highest (by decide +kernel) (by decide) (fun vs H Q E h => ?_) (fun A outer s H vs Q E hr h => ?_)
  · obtain ⟨l, rfl, _⟩ := h
    rfl
  · obtain ⟨l, rfl, hl, q⟩ := h
    refine ⟨_, (CwR.psst_one (CwR.pst_ret (CwR.pet_replC (pv 0) (by decide +kernel)))), ?_⟩
    refine ⟨_, rfl, Tx l, rfl, ?_, ?_⟩
    · rw [s_1, Tx_len, Tx_len]
      show l.length + (l.length + 1) * 1 ≤ 16777216
      omega
    · rw [replace_Tx s_x s_1]
      exact q H (Ex.refl H)
theorem ok_less_value {f f1 f2 : Addr} {fd fd1 fd2 : FuncData} (F : Fun K "less_value" "less_value" s_less_value f fd) (B : Bi K w mg dA dT aW qx)  (D_highest : Df P w K mg base CX0 "highest" 1 f1 fd1 ["value"] (spMapS hiS)) (D_lowest : Df P w K mg base CX0 "lowest" 1 f2 fd2 ["value"] (spMapS loS)) : FnOk P w K mg base CX0 4 f fd ["one", "other"] (spTwoS fun a b => [lessS a b]) := by
  refine F.ok sc_less_value (fun vs H Q E h => ?_) (fun cdv A outer s H vs Q E hr h => ?_)
  · obtain ⟨a, b, rfl, _⟩ := h
    rfl
  · obtain ⟨a, b, rfl, ha, hb, hl, h8, q⟩ := h
    refine ⟨_, (pss_cons (ps_if (pt_cmpR op_lt_str (pe_call D_highest.ok (hr.mono (by decide)) (by rfl) D_highest.g D_highest.kp D_highest.b .nil pass0 (pa_cons (pv 0) pa_nil)) (pe_call D_lowest.ok (hr.mono (by decide)) (by rfl) D_lowest.g D_lowest.kp D_lowest.b .nil pass0 (pa_cons (pv 1) pa_nil)) (nomark _)) (pss_one (ps_ret pe_str)) pss_nil)
      (pss_one (ps_ret (pe_ifExp (pt_cmpR op_ge_str (pe_call D_lowest.ok (hr.mono (by decide)) (by rfl) D_lowest.g D_lowest.kp D_lowest.b .nil pass0 (pa_cons (pv 0) pa_nil)) (pe_call D_highest.ok (hr.mono (by decide)) (by rfl) D_highest.g D_highest.kp D_highest.b .nil pass0 (pa_cons (pv 1) pa_nil)) (nomark _)) pe_str pe_str)))), ?_⟩
    refine q_when (et_test (ev_ltT (ev_call (ea_cons (ev_var rfl) ea_nil) (spv_map (by omega))) (ev_call (ea_cons (ev_var rfl) ea_nil) (spv_map (by omega))))) (fun hb2 H1 e1 => s_ret ec_1 fun H2 e2 => ?_) (fun hb2 H1 e1 => s_ret (ev_ifS (et_test (ev_geT (ev_call (ea_cons (ev_var rfl) ea_nil) (spv_map (by omega))) (ev_call (ea_cons (ev_var rfl) ea_nil) (spv_map (by omega))))) ec_0 ec_x) fun H2 e2 => ?_)
    · have g : Q (.str (Tx [lessS a b])) H2 := q H2 (e1.trans e2)
      unfold lessS at g
      rw [if_pos (of_decide_eq_true hb2)] at g
      exact g
    · have g : Q (.str (Tx [lessS a b])) H2 := q H2 (e1.trans e2)
      unfold lessS at g
      rw [if_neg (of_decide_eq_false hb2)] at g
      by_cases h : a.map loS < b.map hiS
      · rw [if_neg (fun z => z h)] at g
        rw [if_neg (by rw [decide_eq_true h]; decide)]
        exact g
      · rw [if_pos h] at g
        rw [if_pos (by rw [decide_eq_false h]; rfl)]
        exact g
theorem ok_operated {f f1 f2 f3 f4 : Addr} {fd fd1 fd2 fd3 fd4 : FuncData} (F : FunD K "operated" "operated" (defArgs s_operated) (defBody s_operated) (defScope s_operated) [] [("high", .int 0), ("low", .int 0)] f fd) (B : Bi K w mg dA dT aW qx) (kd_plus : KDct K w dA "plus" (.ref f2)) (kd_same : KDct K w dA "same" (.ref f3)) (kd_less : KDct K w dA "less" (.ref f4)) (D_read : Df P w K mg base CX0 "read" 1 f1 fd1 ["value"] (spRead)) (D_plus_value : Df P w K mg base CX0 "plus_value" 4 f2 fd2 ["one", "other"] (spTwoS plusS)) (D_same_value : Df P w K mg base CX0 "same_value" 4 f3 fd3 ["one", "other"] (spTwoS fun a b => [sameS a b])) (D_less_value : Df P w K mg base CX0 "less_value" 4 f4 fd4 ["one", "other"] (spTwoS fun a b => [lessS a b])) : FnOk P w K mg base CX0 5 f fd ["word", "values", "high", "low"] (spOp K) := by
  refine F.ok sc_operated (fun vs H Q E h => ?_) (fun cdv A outer s H vs Q E hr h => ?_)
  · obtain ⟨n, p, a, b, hi, lo, rfl, _⟩ := h
    rfl
  · obtain ⟨n, p, a, b, hi, lo, rfl, hn, hS, ha, hb, hl, h8, q⟩ := h
    have hcase : ∃ fw spw, KDct K w dA (wd n) (.ref fw) ∧ Held P w K mg base 4 fw spw ∧ ∀ (H1 : Hp) (Q1 : VK), (∀ H2, Ex H1 H2 → Q1 (.str (Tx (opS n (a.map rd) (b.map rd)))) H2) → spw ([a.map rd, b.map rd].map fun l => V.str (Tx l)) H1 Q1 (fun _ _ _ => False) := by
      have hl2 : (a.map rd).length = (b.map rd).length := by rw [List.length_map, List.length_map]; exact hl
      have h82 : (a.map rd).length ≤ 8 := by rw [List.length_map]; exact h8
      match n, hn with
      | 0, _ => exact ⟨f2, _, kd_plus, ⟨_, _, D_plus_value.ok, D_plus_value.kp, D_plus_value.b⟩, fun H1 Q1 q1 => ⟨_, _, rfl, rd_sx ha, rd_sx hb, hl2, h82, q1⟩⟩
      | 1, _ => exact ⟨f3, _, kd_same, ⟨_, _, D_same_value.ok, D_same_value.kp, D_same_value.b⟩, fun H1 Q1 q1 => ⟨_, _, rfl, rd_sx ha, rd_sx hb, hl2, h82, q1⟩⟩
      | 2, _ => exact ⟨f4, _, kd_less, ⟨_, _, D_less_value.ok, D_less_value.kp, D_less_value.b⟩, fun H1 Q1 q1 => ⟨_, _, rfl, rd_sx ha, rd_sx hb, hl2, h82, q1⟩⟩
    have hS2 : SqL K H p ([a, b].map fun l => V.str (Tx l)) := hS
    have h8s : ∀ l ∈ [a, b], l.length ≤ 8 := fun l hm => by
      simp only [List.mem_cons, List.not_mem_nil, or_false] at hm
      rcases hm with rfl | rfl <;> omega
    have hlc : ∀ {σ' : L2.St}, σ'[1]? = some (some (.ref p)) → (∀ x, wipe ((wipe σ' [6]).set 6 (some x)) [6] = wipe σ' [6]) → (∀ l : List Nat, ((wipe σ' [6]).set 6 (some (V.str (Tx l))))[6]? = some (some (V.str (Tx l)))) → EvL (tLc (iList K (tVar 1)) (gName 6) tYes (tCall spRead [] E0 (tCons (tVar 6) tNil)) [6]) σ' H (([a, b].map fun l => l.map rd).map fun l => V.str (Tx l)) := fun h1 h2 h3 => by
      rw [List.map_map]
      exact el_lcV _ (ev_var h1) hS2 (by simp) h2 fun l H1 _ hm => ev_call (ea_cons (ev_var (h3 l)) ea_nil) (spv_read (by have := h8s l hm; omega))
    obtain ⟨fw, spw, kd, hH, hq⟩ := hcase
    have hw := no_part ⟨n, hn⟩
    simp only at hw
    have hA : ∀ f sp, (fun f : Addr => if f = fw then some spw else (none : Option Sp)) f = some sp → Held P w K mg base 4 f sp := fun f sp h => by
      by_cases e : f = fw
      · rw [show (fun f : Addr => if f = fw then some spw else (none : Option Sp)) f = some spw from if_pos e] at h
        cases h
        rw [e]
        exact hH
      · rw [show (fun f : Addr => if f = fw then some spw else (none : Option Sp)) f = none from if_neg e] at h
        cases h
    generalize hS0 : (fun f : Addr => if f = fw then some spw else (none : Option Sp)) = S at hA
    refine ⟨_, (pss_cons (ps_setLc (i := 4) (own := [("value", 6)]) (g := gName 6) (tt := tYes) (by rfl) sc_operated.nd rfl rfl (sw_true rfl rfl rfl (by decide +kernel)) (pi_list (pv 1)) (blkOk_by (own := [("value", 6)]) (N := N_operated) (sc := defScope s_operated) (by decide +kernel)) (fun _ _ _ _ _ => pg_name (i := 6) sc_operated.nd rfl (Or.inl rfl)) (fun _ _ _ _ _ => pts_nil) (fun _ _ _ _ _ => (pe_call D_read.ok (hr.mono (by decide)) (by rfl) D_read.g D_read.kp D_read.b .nil pass0 (pa_cons (pv 6) pa_nil))))
      (pss_cons (ps_if (pt_cmpR op_eq (pv 0) pe_str (nomark _)) (pss_one ps_never) pss_nil)
      (pss_cons (ps_set (i := 5) sc_operated.nd rfl (Or.inl rfl) (pe_ix ix_kdict (pgl (by rfl) B.c_ACTIONS) (pv 0) (fun _ _ => rfl)))
      (pss_one (ps_ret (pe_callLS (i := 5) (S := S) hA (hr.mono (by decide)) rfl (Or.inl rfl) (pv 4))))))), ?_⟩
    refine q_asgL (hlc rfl (fun x => rfl) (fun l => rfl)) fun p H1 np e1 hp => ?_
    refine q_when (b := false) (et_is (et_test (ev_op (ev_var rfl) ev_c (rv_eq rfl))) (decide_eq_false fun z => hw (V.str.inj z))) (fun hb => by cases hb) (fun _ H2 e2 => ?_)
    refine q_asg (ev_kd ev_c (ev_var rfl) kd) fun H3 e3 => ?_
    exact ⟨fw, spw, rfl, by rw [← hS0]; exact if_pos rfl, _, rfl, p, _, rfl, .inr (sq_of ((e2.trans e3) _ _ hp)), hq H3 _ fun H4 e4 => q H4 (((e1.trans e2).trans e3).trans e4)⟩
theorem ok__law_at {f  : Addr} {fd  : FuncData} (F : Fun K "_law_at" "_law_at" s__law_at f fd) (B : Bi K w mg dA dT aW qx)   : FnOk P w K mg base CX0 1 f fd ["_law_script", "_law_k"] (spAt K) := by
  refine F.ok sc__law_at (fun vs H Q E h => ?_) (fun cdv A outer s H vs Q E hr h => ?_)
  · obtain ⟨a, ns, k, rfl, _⟩ := h
    rfl
  · obtain ⟨a, ns, k, rfl, hS, h0, q⟩ := h
    refine ⟨_, (pss_one (ps_ret (pe_ifExp (pt_cmpR op_lt (pv 1) (pe_callB call_len_seq (by rfl) B.len PySem.boot_len (pa_cons (pv 0) pa_nil)) (nomark _)) (pe_ix ix_list (pv 0) (pv 1) (fun _ _ => rfl)) pe_int))), ?_⟩
    refine ⟨_, rfl, _, rfl, a, _, rfl, .inl hS, _, _, rfl, rfl, _, rfl, ?_⟩
    refine ite2 (fun e => ?_) (fun e => ?_)
    · obtain ⟨c, hc⟩ := at_map h0 (of_decide_eq_true e)
      exact ⟨_, rfl, _, rfl, a, _, _, _, rfl, rfl, hS, hc, q c⟩
    · exact q 0
theorem ok__law_pot {f f1 : Addr} {fd fd1 : FuncData} (F : Fun K "_law_pot" "_law_pot" s__law_pot f fd) (B : Bi K w mg dA dT aW qx)  (D__law_at : Df P w K mg base CX0 "_law_at" 1 f1 fd1 ["_law_script", "_law_k"] (spAt K)) : FnOk P w K mg base CX0 2 f fd ["_law_script", "_law_k"] (spPot K) := by
  refine F.ok sc__law_pot (fun vs H Q E h => ?_) (fun cdv A outer s H vs Q E hr h => ?_)
  · obtain ⟨a, ns, k, rfl, _⟩ := h
    rfl
  · obtain ⟨a, ns, k, rfl, hS, h0, h1, q⟩ := h
    refine ⟨_, (pss_cons (ps_set (i := 2) sc__law_pot.nd rfl (Or.inl rfl) (pe_call D__law_at.ok (hr.mono (by decide)) (by rfl) D__law_at.g D__law_at.kp D__law_at.b .nil pass0 (pa_cons (pv 0) (pa_cons (pv 1) pa_nil))))
      (pss_one (ps_ret (pe_lst (pa_cons (pe_callB (call_max2 rfl) (by rfl) B.max (by decide +kernel) (pa_cons pe_int (pa_cons (pe_op op_sub (pv 2) (pe_op op_pow pe_int pe_int)) pa_nil))) (pa_cons (pe_op op_mod (pe_op op_add (pe_op op_add (pe_op op_mul (pe_op op_mod (pv 2) pe_int) pe_int) (pe_op op_mul pe_int (pv 1))) pe_int) pe_int) pa_nil)))))), ?_⟩
    refine ⟨_, rfl, _, rfl, a, ns, k, rfl, hS, h0, fun c => ?_⟩
    refine ⟨_, rfl, _, _, rfl, rfl, ⟨by decide, by decide, by decide⟩, _, _, rfl, rfl, _, _, rfl, ?_⟩
    refine ⟨_, rfl, _, _, rfl, rfl, (by show (0 : Int) < 2147483629; decide), _, _, rfl, rfl, .inr ⟨by decide, by decide⟩, _, rfl, _, _, rfl, rfl, .inl ⟨by decide, by decide⟩, _, _, rfl, rfl, _, _, rfl, rfl, _, _, rfl, rfl, (by show (0 : Int) < 2147483647; decide), ?_⟩
    refine ⟨by show 2 ≤ sizeLine; decide, fun p hp => ?_⟩
    refine q p _ hp (Ex.new hp) ⟨_, _, upd_same, ?_, ?_, ?_⟩
    · split <;> omega
    · omega
    · omega
theorem ok__law_take {f  : Addr} {fd  : FuncData} (F : Fun K "_law_take" "_law_take" s__law_take f fd) (B : Bi K w mg dA dT aW qx)   : FnOk P w K mg base CX0 1 f fd ["_law_pot_here", "_law_many"] (spTake) := by
  refine F.ok sc__law_take (fun vs H Q E h => ?_) (fun cdv A outer s H vs Q E hr h => ?_)
  · obtain ⟨a, m, rfl, _⟩ := h
    rfl
  · obtain ⟨p, m, rfl, ⟨x, y, hp, hx, hy, hy2⟩, h0, h1, q⟩ := h
    refine ⟨_, (pss_cons (ps_if (pt_cmpR op_gt (pe_ix ix_list (pv 0) pe_int (fun _ _ => rfl)) pe_int (nomark _)) (pss_cons (ps_asg (pe_callB call_divmod (by rfl) B.divmod (by decide +kernel) (pa_cons (pe_ix ix_list (pv 0) pe_int (fun _ _ => rfl)) (pa_cons (pv 1) pa_nil))) (pg_tup rfl (pgs_cons (pg_sub (pv 0) pe_int set_list) (pgs_cons (pg_name (i := 2) sc__law_take.nd rfl (Or.inl rfl)) pgs_nil))))
      (pss_one (ps_ret (pv 2)))) pss_nil)
      (pss_cons (ps_asg (pe_op op_mod (pe_op op_add (pe_op op_mul (pe_ix ix_list (pv 0) pe_int (fun _ _ => rfl)) pe_int) pe_int) pe_int) (pg_sub (pv 0) pe_int set_list))
      (pss_one (ps_ret (pe_op op_mod (pe_op op_fdiv (pe_op op_mod (pe_op op_mul (pe_ix ix_list (pv 0) pe_int (fun _ _ => rfl)) (pe_ix ix_list (pv 0) pe_int (fun _ _ => rfl))) pe_int) pe_int) (pv 1)))))), ?_⟩
    refine ⟨_, rfl, p, _, _, _, rfl, rfl, SqL.of hp, rfl, _, _, rfl, rfl, _, rfl, ?_⟩
    refine ite2 (fun e => ?_) (fun e => ?_)
    · refine ⟨_, rfl, p, _, _, _, rfl, rfl, SqL.of hp, rfl, _, rfl, _, _, rfl, ⟨h0, h1⟩, fun t ht => ?_⟩
      have npt : p ≠ t := ne_of_none hp ht
      refine ⟨t, _, rfl, SqT.of upd_same, rfl, _, _, rfl, _, rfl, p, _, _, 0, rfl, rfl, (upd_ne npt).trans hp, rfl, _, _, rfl, rfl, _, rfl, ?_⟩
      refine q _ _ (fun b o n hb => ?_) ⟨_, _, upd_same, Int.ediv_nonneg hx (by omega), hy, hy2⟩ (Int.emod_nonneg _ (by omega)) (Int.emod_lt_of_pos _ h0)
      rw [upd_ne n, upd_ne (ne_of_none hb ht)]
      exact hb
    · refine ⟨_, rfl, p, _, _, _, rfl, rfl, SqL.of hp, rfl, _, _, rfl, rfl, .inr ⟨by decide, by decide⟩, _, _, rfl, rfl, _, _, rfl, rfl, (by show (0 : Int) < 2147483629; decide), _, rfl, p, _, _, 1, rfl, rfl, hp, rfl, ?_⟩
      have hz0 : 0 ≤ (y * 39373 + 20011) % 2147483629 := by omega
      have hz1 : (y * 39373 + 20011) % 2147483629 < 2147483629 := by omega
      refine ⟨_, rfl, p, _, _, _, rfl, rfl, SqL.of upd_same, rfl, _, rfl, p, _, _, _, rfl, rfl, SqL.of upd_same, rfl, _, _, rfl, rfl, .inl ⟨?_, ?_⟩, _, _, rfl, rfl, (by show (0 : Int) < 2147483563; decide), _, _, rfl, rfl, ⟨by decide, by decide⟩, _, rfl, _, _, rfl, rfl, h0, ?_⟩
      · omega
      · omega
      · exact q _ _ (ExB.refl _ _).upd ⟨_, _, upd_same, hx, hz0, by omega⟩ (Int.emod_nonneg _ (by omega)) (Int.emod_lt_of_pos _ h0)
theorem ok__law_value {f f1 : Addr} {fd fd1 : FuncData} (F : Fun K "_law_value" "_law_value" s__law_value f fd) (B : Bi K w mg dA dT aW qx)  (D__law_take : Df P w K mg base CX0 "_law_take" 1 f1 fd1 ["_law_pot_here", "_law_many"] (spTake)) : FnOk P w K mg base CX0 2 f fd ["_law_pot_here", "_law_width", "_law_room"] (spVal3) := by
  refine F.ok sc__law_value (fun vs H Q E h => ?_) (fun cdv A outer s H vs Q E hr h => ?_)
  · obtain ⟨p, r, n, rfl, _⟩ := h
    rfl
  · obtain ⟨p, r, n, rfl, hP, hR, h0, h1, q⟩ := h
    refine ⟨_, (pss_cons (ps_set (i := 3) sc__law_value.nd rfl (Or.inl rfl) pe_str)
      (pss_cons (ps_for PassesOwn.never rfl (pi_range1 (by rfl) B.range (pa_cons (pv 1) pa_nil)) (pg_name (i := 4) sc__law_value.nd rfl (Or.inl rfl)) (pss_cons (ps_set (i := 5) sc__law_value.nd rfl (Or.inl rfl) (pe_ix ix_str pe_str (pe_call D__law_take.ok (hr.mono (by decide)) (by rfl) D__law_take.g D__law_take.kp D__law_take.b .nil pass0 (pa_cons (pv 0) (pa_cons pe_int pa_nil))) (fun _ _ => rfl)))
      (pss_cons (ps_if (PW.pt (pw_and (pt_cmpR op_inS (pv 5) pe_str rfl) (pw_and1 (pt_cmpR op_eq (pe_ix ix_list (pv 2) pe_int (fun _ _ => rfl)) pe_int (nomark _))))) (pss_one (ps_set (i := 5) sc__law_value.nd rfl (Or.inl rfl) (pe_ix ix_str pe_str (pe_call D__law_take.ok (hr.mono (by decide)) (by rfl) D__law_take.g D__law_take.kp D__law_take.b .nil pass0 (pa_cons (pv 0) (pa_cons pe_int pa_nil))) (fun _ _ => rfl)))) pss_nil)
      (pss_cons (ps_asg (pe_op op_sub (pe_ix ix_list (pv 2) pe_int (fun _ _ => rfl)) (pe_callTy call_int1 (by rfl) B.int (by decide +kernel) (pa_cons (pe_cmpR op_inS (pv 5) pe_str rfl) pa_nil))) (pg_sub (pv 2) pe_int set_list))
      (pss_one (ps_set (i := 3) sc__law_value.nd rfl (Or.inl rfl) (pe_op op_add_str (pv 3) (pv 5))))))))
      (pss_one (ps_ret (pv 3))))), ?_⟩
    refine q_asg ec_e fun H1 e1 => ?_
    refine q_forR1 (n := n) (ea_cons (ev_var rfl) ea_nil) ⟨by omega, by omega⟩ (fun i σ' H' => (∃ l a4 a5, σ' = [some (.ref p), some (.int n), some (.ref r), some (.str (Tx l)), a4, a5] ∧ l.length = i ∧ Sg l) ∧ ExC p r H H' ∧ PotAt H' p ∧ RoomAt H' r)
      (fun H2 e2 => ⟨⟨[], none, none, rfl, rfl, fun c hc => by cases hc⟩, ExC.of (e1.trans e2), hP.ex (e1.trans e2), hR.ex (e1.trans e2)⟩) (fun i σ' H' hi hv => ?_) (fun σ' H' hv => ?_)
    · obtain ⟨⟨l, a4, a5, rfl, hl, hs⟩, x1, hP1, hR1⟩ := hv
      refine ⟨_, rfl, p, 8, rfl, hP1, by decide, by decide, fun H2 d e2 hP2 d0 d1 => ?_⟩
      obtain ⟨c, hc, hm⟩ := at_sign (l := [48, 49, 120, 122, 48, 49, 120, 122]) d0 d1
      have hcs : c ∈ sgn := by
        have : ∀ c ∈ [48, 49, 120, 122, 48, 49, 120, 122], c ∈ sgn := by decide
        exact this c hm
      have hR2 := hR1.exB hP1 e2
      refine ⟨Str.ofString "01xz01xz", d, c, rfl, rfl, by decide +kernel, by rw [e_sgn8]; exact hc, ?_⟩
      refine g_name ?_
      dsimp only
      obtain ⟨rm0, hrm0⟩ := id hR2
      have x2 : ExC p r H H2 := x1.trans (ExC.ofB e2)
      refine q_when (et_and (et_test (ev_inT (ev_var rfl) ec_xz)) fun _ => et_test (ev_op (ev_op (ev_var rfl) ev_c (rv_ixL (sq_of hrm0) (atI_nat (j := 0) rfl))) ev_c (rv_eq rfl))) (fun hb H3 e3 => ?_) (fun hb H3 e3 => ?_)
      · refine ⟨_, rfl, p, 2, rfl, hP2.ex e3, by decide, by decide, fun H4 d4 e4 hP4 g0 g1 => ?_⟩
        obtain ⟨c4, hc4, hm4⟩ := at_sign (l := [48, 49]) g0 g1
        have hcs4 : c4 ∈ sgn := by
          have : ∀ c ∈ [48, 49], c ∈ sgn := by decide
          exact this c4 hm4
        have hR4 := (hR2.ex e3).exB (hP2.ex e3) e4
        refine ⟨Str.ofString "01", d4, c4, rfl, rfl, by decide +kernel, by rw [e_01]; exact hc4, ?_⟩
        refine g_name ?_
        dsimp only
        have npr : r ≠ p := pot_room hP4 hR4
        have x4 : ExC p r H H4 := (x2.trans (ExC.of e3)).trans (ExC.ofB e4)
        obtain ⟨rm, hrm⟩ := hR4
        refine q_setL (j := 0) hrm (ev_op (ev_op (ev_var rfl) ev_c (rv_ixL (sq_of hrm) (atI_nat (j := 0) rfl))) (ev_int1 (ev_inT (ev_var rfl) ec_xz)) rv_I0) (ev_var rfl) ev_c (by simp) fun G1 y1 => ?_
        refine s_asg (ev_addT (ev_var rfl) (ev_var rfl) (by simp; omega)) fun G2 y2 => ?_
        exact ⟨⟨l ++ [c4], _, _, rfl, by simp [hl], fun z hz => by
          rcases List.mem_append.mp hz with h | h
          · exact hs z h
          · rw [List.mem_singleton.mp h]
            exact hcs4⟩, ((x4.trans (ExC.of y1)).upd).trans (ExC.of y2), PotAt.ex (PotAt.upd (hP4.ex y1) npr) y2, ⟨_, y2 _ _ upd_same⟩⟩
      · have npr : r ≠ p := pot_room (hP2.ex e3) (hR2.ex e3)
        have x4 : ExC p r H H3 := x2.trans (ExC.of e3)
        obtain ⟨rm, hrm⟩ := hR2.ex e3
        refine q_setL (j := 0) hrm (ev_op (ev_op (ev_var rfl) ev_c (rv_ixL (sq_of hrm) (atI_nat (j := 0) rfl))) (ev_int1 (ev_inT (ev_var rfl) ec_xz)) rv_I0) (ev_var rfl) ev_c (by simp) fun G1 y1 => ?_
        refine s_asg (ev_addT (ev_var rfl) (ev_var rfl) (by simp; omega)) fun G2 y2 => ?_
        exact ⟨⟨l ++ [c], _, _, rfl, by simp [hl], fun z hz => by
          rcases List.mem_append.mp hz with h | h
          · exact hs z h
          · rw [List.mem_singleton.mp h]
            exact hcs⟩, ((x4.trans (ExC.of y1)).upd).trans (ExC.of y2), PotAt.ex (PotAt.upd ((hP2.ex e3).ex y1) npr) y2, ⟨_, y2 _ _ upd_same⟩⟩
    · obtain ⟨⟨l, a4, a5, rfl, hl, hs⟩, x1, hP1, hR1⟩ := hv
      exact s_ret (ev_var rfl) fun H2 e2 => q H2 l (x1.trans (ExC.of e2)) (hP1.ex e2) (hR1.ex e2) (by omega) hs
theorem ok__law_numbers {f  : Addr} {fd  : FuncData} (F : Fun K "_law_numbers" "_law_numbers" s__law_numbers f fd) (B : Bi K w mg dA dT aW qx)   : FnOk P w K mg base CX0 1 f fd ["_law_value_here"] (spNums) := by
  refine F.ok sc__law_numbers (fun vs H Q E h => ?_) (fun cdv A outer s H vs Q E hr h => ?_)
  · obtain ⟨l, rfl, _⟩ := h
    rfl
  · obtain ⟨l, rfl, h8, q⟩ := h
    refine ⟨_, (pss_cons (ps_set (i := 1) sc__law_numbers.nd rfl (Or.inl rfl) (pe_lst (pa_cons pe_int pa_nil)))
      (pss_cons (ps_for PassesOwn.never rfl (pi_str (pv 0)) (pg_name (i := 2) sc__law_numbers.nd rfl (Or.inl rfl)) (pss_cons (ps_set (i := 3) sc__law_numbers.nd rfl (Or.inr rfl) (pe_ix ix_list (pe_lst (pa_cons (pe_lst (pa_cons pe_int (pa_cons pe_int pa_nil))) (pa_cons (pe_lst (pa_cons (pe_callTy call_int1 (by rfl) B.int (by decide +kernel) (pa_cons (pe_cmpR op_eq (pv 2) pe_str (nomark _)) pa_nil)) pa_nil)) pa_nil))) (pe_callTy call_int1 (by rfl) B.int (by decide +kernel) (pa_cons (pe_cmpR op_inS (pv 2) pe_str rfl) pa_nil)) (fun _ _ => rfl)))
      (pss_one (ps_set (i := 1) sc__law_numbers.nd rfl (Or.inl rfl) (pe_op op_cat (pe_lc (own := [("_law_number", 4)]) (g := gName 4) (tt := tYes) (by rfl) sc__law_numbers.nd (pi_list (pv 1)) (blkOk_by (own := [("_law_number", 4)]) (N := N__law_numbers) (sc := defScope s__law_numbers) (by decide +kernel)) (fun _ _ _ _ _ => pg_name (i := 4) sc__law_numbers.nd rfl (Or.inl rfl)) (fun _ _ _ _ _ => pts_nil) (fun _ _ _ _ _ => (pe_op op_add (pe_op op_mul pe_int (pv 4)) (pe_ix (ix_listK (K := K) rfl) (pv 3) pe_int (fun _ _ => rfl))))) (pe_lc (own := [("_law_number", 4)]) (g := gName 4) (tt := tYes) (by rfl) sc__law_numbers.nd (pi_list (pv 1)) (blkOk_by (own := [("_law_number", 4)]) (N := N__law_numbers) (sc := defScope s__law_numbers) (by decide +kernel)) (fun _ _ _ _ _ => pg_name (i := 4) sc__law_numbers.nd rfl (Or.inl rfl)) (fun _ _ _ _ _ => pts_nil) (fun _ _ _ _ _ => (pe_op op_add (pe_op op_mul pe_int (pv 4)) (pe_ix (ix_listK (K := K) rfl) (pv 3) (pe_un un_neg pe_int) (fun _ _ => rfl))))))))))
      (pss_one (ps_ret (pe_callB (cr_sortedSetA rfl) (by rfl) B.sorted (by decide +kernel) (pa_cons (pe_callTy (cr_setI rfl) (by rfl) B.set (by decide +kernel) (pa_cons (pv 1) pa_nil)) pa_nil)))))), ?_⟩
    have len_ok : ∀ i, (nums (l.take i)).length ≤ 256 := fun i => by
      rw [nums_len]
      have h1 : (l.take i).length ≤ 8 := by
        rw [List.length_take]
        omega
      have : 2 ^ (l.take i).length ≤ 2 ^ 8 := Nat.pow_le_pow_right (by decide) h1
      simpa using this
    refine q_asgL (xs := [.int 0]) (el_lst (ea_cons ev_c ea_nil) (by simp)) fun p0 H1 np0 e1 hp0 => ?_
    refine ⟨_, rfl, Tx l, rfl, for_it walk_str (fun i σ' H' => (∃ p v2 v3, σ' = [some (.str (Tx l)), some (.ref p), v2, v3, none] ∧ H' p = some (.lst (nV (nums (l.take i))))) ∧ Ex H H')
      ⟨⟨p0, none, none, rfl, hp0⟩, e1⟩ (fun _ _ _ _ _ => True.intro) (fun i x σ' H2 H3 hi hv y => ?_) (fun σ' H2 hv => ?_)⟩
    · obtain ⟨⟨p, v2, v3, rfl, hp⟩, x2⟩ := hv
      obtain ⟨rfl, c, hc, rfl⟩ := y
      have hc2 := code_of hc
      obtain ⟨w0, w1⟩ := ways_at c
      refine q_asgL (el_ways rfl) fun pw H4 npw e4 hw => ?_
      have hp4 := e4 _ _ hp
      have hz := len_ok i
      refine s_asgL (el_cat (xs := (nums (l.take i)).map fun n => V.int ((2 * n + (wN c).getD 0 0 : Nat) : Int)) (ys := (nums (l.take i)).map fun n => V.int ((2 * n + (wN c).getD ((wN c).length - 1) 0 : Nat) : Int)) (el_lcG (fun n : Nat => V.int (n : Int)) _ (ev_var rfl) (sq_of hp4) (by omega) (fun x => rfl) fun n H5 e5 hn => ?_) (el_lcG (fun n : Nat => V.int (n : Int)) _ (ev_var rfl) (sq_of hp4) (by omega) (fun x => rfl) fun n H5 e5 hn => ?_) (by rw [List.length_map, List.length_map]; omega)) fun pn H5 npn e5 hpn => ?_
      · exact ev_is (ev_op (ev_op ev_c (ev_var rfl) (rv_I (Or.inl ⟨by decide, by decide⟩))) (ev_op (ev_var rfl) ev_c (rv_ixL (sq_of (e5 _ _ hw)) w0)) rv_I0) (by simp)
      · exact ev_is (ev_op (ev_op ev_c (ev_var rfl) (rv_I (Or.inl ⟨by decide, by decide⟩))) (ev_op (ev_var rfl) (ev_un ev_c ru_neg) (rv_ixL (sq_of (e5 _ _ hw)) w1)) rv_I0) (by simp)
      · refine ⟨⟨pn, _, _, rfl, ?_⟩, (x2.trans e4).trans e5⟩
        rw [take_snoc hc2, nums_snoc, hpn]
        unfold numS nV
        rw [List.map_append, List.map_map, List.map_map]
        rfl
    · obtain ⟨⟨p, v2, v3, rfl, hp⟩, x2⟩ := hv
      have hsz : (Tx l).cps.size = l.length := Tx_len l
      have hz := len_ok l.length
      rw [hsz] at hp
      rw [List.take_length] at hp hz
      exact s_retN (ev_var rfl) (sq_of hp) (by omega) fun ms r H3 hm hl nr e3 hr => q ms r H3 hm (by omega) (fresh_back x2 nr) (x2.trans e3) hr
theorem ok__law_bits {f  : Addr} {fd  : FuncData} (F : Fun K "_law_bits" "_law_bits" s__law_bits f fd) (B : Bi K w mg dA dT aW qx)   : FnOk P w K mg base CX0 1 f fd ["_law_some", "_law_width"] (spBitsL K) := by
  refine F.ok sc__law_bits (fun vs H Q E h => ?_) (fun cdv A outer s H vs Q E hr h => ?_)
  · obtain ⟨p, ns, n, rfl, _⟩ := h
    rfl
  · obtain ⟨p, ns, n, rfl, hS, h0, h1, h8, q⟩ := h
    refine ⟨_, (pss_cons (ps_set (i := 2) sc__law_bits.nd rfl (Or.inl rfl) (pe_ix ix_list (pv 0) pe_int (fun _ _ => rfl)))
      (pss_cons (ps_set (i := 3) sc__law_bits.nd rfl (Or.inl rfl) (pe_ix ix_list (pv 0) pe_int (fun _ _ => rfl)))
      (pss_cons (ps_for PassesOwn.never rfl (pi_list (pv 0)) (pg_name (i := 4) sc__law_bits.nd rfl (Or.inl rfl)) (pss_cons (ps_set (i := 2) sc__law_bits.nd rfl (Or.inl rfl) (pe_op op_and (pv 2) (pv 4)))
      (pss_one (ps_set (i := 3) sc__law_bits.nd rfl (Or.inl rfl) (pe_op op_or (pv 3) (pv 4))))))
      (pss_cons (ps_set (i := 5) sc__law_bits.nd rfl (Or.inl rfl) pe_str)
      (pss_cons (ps_for PassesOwn.never rfl (pi_range3 (by rfl) B.range (pa_cons (pe_op op_sub (pv 1) pe_int) (pa_cons (pe_un un_neg pe_int) (pa_cons (pe_un un_neg pe_int) pa_nil)))) (pg_name (i := 6) sc__law_bits.nd rfl (Or.inl rfl)) (pss_one (ps_set (i := 5) sc__law_bits.nd rfl (Or.inl rfl) (pe_op op_add_str (pv 5) (pe_ifExp (pt_cmpR op_eq (pe_op op_and (pe_op op_shr (pv 2) (pv 6)) pe_int) pe_int (nomark _)) pe_str (pe_ifExp (pt_cmpR op_eq (pe_op op_and (pe_op op_shr (pv 3) (pv 6)) pe_int) pe_int (nomark _)) pe_str pe_str))))))
      (pss_one (ps_ret (pv 5)))))))), ?_⟩
    have a0 : atI (nV ns) 0 = some (.int ((ns.getD 0 0 : Nat) : Int)) := by
      refine atI_nat (j := 0) ?_
      rw [List.getElem?_map, List.getD_eq_getElem?_getD, List.getElem?_eq_getElem h0]
      rfl
    refine q_asg (ev_op (ev_var rfl) ev_c (rv_ixL hS a0)) fun H1 e1 => ?_
    refine q_asg (ev_op (ev_var rfl) ev_c (rv_ixL (ex_l e1 hS) a0)) fun H2 e2 => ?_
    refine q_forLn (xs := nV ns) (ev_var rfl) (ex_l (e1.trans e2) hS) (fun i σ' H' => (∃ v4, σ' = [some (.ref p), some (.int (n : Int)), some (.int (((ns.take i).foldl (· &&& ·) (ns.getD 0 0) : Nat) : Int)), some (.int (((ns.take i).foldl (· ||| ·) (ns.getD 0 0) : Nat) : Int)), v4, none, none]) ∧ Ex H H')
      (fun H3 e3 => ⟨⟨none, rfl⟩, (e1.trans e2).trans e3⟩) (fun i σ' H' _ hv => ex_l hv.2 hS) (fun i x σ' H' hx hv => ?_) (fun σ' H' hv => ?_)
    · obtain ⟨⟨v4, rfl⟩, x3⟩ := hv
      obtain ⟨m, hm, rfl⟩ := map_at hx
      refine q_asg (ev_is (ev_op (ev_var rfl) (ev_var rfl) rv_I0) (congrArg V.int (band _ _))) fun H4 e4 => ?_
      refine s_asg (ev_is (ev_op (ev_var rfl) (ev_var rfl) rv_I0) (congrArg V.int (bor _ _))) fun H5 e5 => ?_
      refine ⟨⟨some (.int (m : Int)), ?_⟩, (x3.trans e4).trans e5⟩
      rw [List.take_add_one, hm, List.foldl_append, List.foldl_append]
      rfl
    · obtain ⟨⟨v4, rfl⟩, x3⟩ := hv
      rw [List.length_map, List.take_length]
      refine q_asg ec_e fun H4 e4 => ?_
      refine q_forDown (n := n) (ea_cons (ev_op (ev_var rfl) ev_c rv_I0) (ea_cons (ev_un ev_c ru_neg) (ea_cons (ev_un ev_c ru_neg) ea_nil))) (by omega) (fun i σ' H' => (∃ v6, σ' = [some (.ref p), some (.int (n : Int)), some (.int ((andL ns : Nat) : Int)), some (.int ((orL ns : Nat) : Int)), v4, some (.str (Tx ((List.range i).map fun t => bitL ns (n - 1 - t)))), v6]) ∧ Ex H H')
        (fun H5 e5 => ⟨⟨none, rfl⟩, (x3.trans e4).trans e5⟩) (fun i σ' H6 hi hv => ?_) (fun σ' H6 hv => ?_)
      · obtain ⟨⟨v6, rfl⟩, x6⟩ := hv
        refine s_asg (ev_addT (ev_var rfl) (b := [bitL ns (n - 1 - i)]) (ev_is (ev_ifS (et_test (ev_op (ev_op (ev_op (ev_var rfl) (ev_var rfl) (rv_I (by omega))) ev_c rv_I0) ev_c (rv_eq rfl))) ec_1 (ev_ifS (et_test (ev_op (ev_op (ev_op (ev_var rfl) (ev_var rfl) (rv_I (by omega))) ev_c rv_I0) ev_c (rv_eq rfl))) ec_0 ec_x)) ?_) (by simp; omega)) fun H8 e8 => ?_
        · have g1 := shr_bit (andL ns) (n - 1 - i) true
          have g2 := shr_bit (orL ns) (n - 1 - i) false
          rw [show (if true = true then (1 : Int) else 0) = 1 from rfl] at g1
          rw [show (if false = true then (1 : Int) else 0) = 0 from rfl] at g2
          rw [g1, g2]
          unfold bitL
          by_cases h1 : (andL ns).testBit (n - 1 - i) = true
          · rw [if_pos h1, if_pos (decide_eq_true h1)]
          · rw [if_neg h1, if_neg (by rw [decide_eq_false h1]; decide)]
            by_cases h2 : (orL ns).testBit (n - 1 - i) = false
            · rw [if_pos h2, if_pos (decide_eq_true h2)]
            · rw [if_neg h2, if_neg (by rw [decide_eq_false h2]; decide)]
        · refine ⟨⟨some (.int ((n - 1 - i : Nat) : Int)), ?_⟩, x6.trans e8⟩
          rw [List.range_succ, List.map_append]
          rfl
      · obtain ⟨⟨v6, rfl⟩, x6⟩ := hv
        exact s_ret (ev_var rfl) fun H7 e7 => q H7 (x6.trans e7)
theorem ok__law_due {f f1 f2 : Addr} {fd fd1 fd2 : FuncData} (F : Fun K "_law_due" "_law_due" s__law_due f fd) (B : Bi K w mg dA dT aW qx)  (D__law_numbers : Df P w K mg base CX0 "_law_numbers" 1 f1 fd1 ["_law_value_here"] (spNums)) (D__law_bits : Df P w K mg base CX0 "_law_bits" 1 f2 fd2 ["_law_some", "_law_width"] (spBitsL K)) : FnOk P w K mg base CX0 2 f fd ["_law_word", "_law_a", "_law_b", "_law_width"] (spDue) := by
  refine F.ok sc__law_due (fun vs H Q E h => ?_) (fun cdv A outer s H vs Q E hr h => ?_)
  · obtain ⟨n, a, b, rfl, _⟩ := h
    rfl
  · obtain ⟨n, a, b, rfl, hn, ha, hb, hl, h1, h8, q⟩ := h
    refine ⟨_, (pss_cons (ps_set (i := 4) sc__law_due.nd rfl (Or.inl rfl) (pe_lst pa_nil))
      (pss_cons (ps_set (i := 5) sc__law_due.nd rfl (Or.inl rfl) (pe_call D__law_numbers.ok (hr.mono (by decide)) (by rfl) D__law_numbers.g D__law_numbers.kp D__law_numbers.b .nil pass0 (pa_cons (pv 2) pa_nil)))
      (pss_cons (ps_for PassesOwn.never rfl (pi_list (pe_call D__law_numbers.ok (hr.mono (by decide)) (by rfl) D__law_numbers.g D__law_numbers.kp D__law_numbers.b .nil pass0 (pa_cons (pv 1) pa_nil))) (pg_name (i := 6) sc__law_due.nd rfl (Or.inr rfl)) (pss_one (ps_if (pt_cmpR op_eq (pv 0) pe_str (nomark _)) (pss_one (ps_expr (pe_bm PySem.F.plainAttrs_list PySem.F.slot_list_extend PySem.F.type_list_extend mt_extend (pv 4) (pa_cons (pe_lc (own := [("_law_other", 7)]) (g := gName 7) (tt := tYes) (by rfl) sc__law_due.nd (pi_list (pv 5)) (blkOk_by (own := [("_law_other", 7)]) (N := N__law_due) (sc := defScope s__law_due) (by decide +kernel)) (fun _ _ _ _ _ => pg_name (i := 7) sc__law_due.nd rfl (Or.inl rfl)) (fun _ _ _ _ _ => pts_nil) (fun _ _ _ _ _ => (pe_op op_mod (pe_op op_add (pv 6) (pv 7)) (pe_op op_shl pe_int (pv 3))))) pa_nil)))) (pss_one (ps_if (pt_cmpR op_eq (pv 0) pe_str (nomark _)) (pss_one (ps_expr (pe_bm PySem.F.plainAttrs_list PySem.F.slot_list_extend PySem.F.type_list_extend mt_extend (pv 4) (pa_cons (pe_lc (own := [("_law_other", 7)]) (g := gName 7) (tt := tYes) (by rfl) sc__law_due.nd (pi_list (pv 5)) (blkOk_by (own := [("_law_other", 7)]) (N := N__law_due) (sc := defScope s__law_due) (by decide +kernel)) (fun _ _ _ _ _ => pg_name (i := 7) sc__law_due.nd rfl (Or.inl rfl)) (fun _ _ _ _ _ => pts_nil) (fun _ _ _ _ _ => (pe_callTy call_int1 (by rfl) B.int (by decide +kernel) (pa_cons (pe_cmpR op_eq (pv 6) (pv 7) (nomark _)) pa_nil)))) pa_nil)))) (pss_one (ps_expr (pe_bm PySem.F.plainAttrs_list PySem.F.slot_list_extend PySem.F.type_list_extend mt_extend (pv 4) (pa_cons (pe_lc (own := [("_law_other", 7)]) (g := gName 7) (tt := tYes) (by rfl) sc__law_due.nd (pi_list (pv 5)) (blkOk_by (own := [("_law_other", 7)]) (N := N__law_due) (sc := defScope s__law_due) (by decide +kernel)) (fun _ _ _ _ _ => pg_name (i := 7) sc__law_due.nd rfl (Or.inl rfl)) (fun _ _ _ _ _ => pts_nil) (fun _ _ _ _ _ => (pe_callTy call_int1 (by rfl) B.int (by decide +kernel) (pa_cons (pe_cmpR op_lt (pv 6) (pv 7) (nomark _)) pa_nil)))) pa_nil)))))))))
      (pss_one (ps_ret (pe_call D__law_bits.ok (hr.mono (by decide)) (by rfl) D__law_bits.g D__law_bits.kp D__law_bits.b .nil pass0 (pa_cons (pv 4) (pa_cons (pe_ifExp (pt_cmpR op_eq (pv 0) pe_str (nomark _)) (pv 3) pe_int) pa_nil)))))))), ?_⟩
    have w0 := wd_plus ⟨n, hn⟩
    have w1 := wd_same ⟨n, hn⟩
    simp only at w0 w1
    refine q_asgL (xs := []) (el_lst ea_nil (by simp)) fun p H1 np e1 hp => ?_
    refine ⟨_, rfl, b, rfl, by omega, fun ys po H2 hys ly npo e2 hpo => ?_⟩
    refine g_name ?_
    dsimp only
    refine ⟨_, rfl, a, rfl, by omega, fun xs pa H3 hxs lx npa e3 hpa => ⟨pa, rfl, ⟨_, sq_of hpa⟩, ?_⟩⟩
    have hp2 := e2 _ _ hp
    have nopp : po ≠ p := fun z => by
      rw [z, hp] at npo
      cases npo
    have napp : pa ≠ p := fun z => by
      rw [z, hp2] at npa
      cases npa
    refine for_list (xs := nV xs) (fun i σ' H' => (∃ v6, σ' = [some (.str (wd n)), some (.str (Tx a)), some (.str (Tx b)), some (.int (a.length : Int)), some (.ref p), some (.ref po), v6, none]) ∧ Ex H H' ∧ H' p = some (.lst (nV (pairs n a.length (xs.take i) ys))) ∧ H' po = some (.lst (nV ys)) ∧ H' pa = some (.lst (nV xs)))
      ⟨⟨none, rfl⟩, (e1.trans e2).trans e3, e3 _ _ hp2, e3 _ _ hpo, hpa⟩ (fun i σ' H' _ hv => sq_of hv.2.2.2.2) (fun i x σ' H' hx hv => ?_) (fun σ' H' hv => ?_)
    · obtain ⟨⟨v6, rfl⟩, x4, hp4, ho4, ha4⟩ := hv
      obtain ⟨m, hm, rfl⟩ := map_at hx
      have hil : i < xs.length := (List.getElem?_eq_some_iff.mp hm).1
      have hz : (nV (pairs n a.length (xs.take i) ys)).length + (ys.map fun y => V.int ((gW n a.length m y : Nat) : Int)).length ≤ 100000 := by
        rw [List.length_map, List.length_map, pairs_len, List.length_take]
        have : min i xs.length * ys.length ≤ 256 * 256 := Nat.mul_le_mul (by omega) ly
        omega
      refine g_name ?_
      dsimp only
      have fin : ∀ (H5 : Hp), Ex H' H5 → (∃ v6, ([some (.str (wd n)), some (.str (Tx a)), some (.str (Tx b)), some (.int (a.length : Int)), some (.ref p), some (.ref po), some (.int (m : Int)), none] : L2.St) = [some (.str (wd n)), some (.str (Tx a)), some (.str (Tx b)), some (.int (a.length : Int)), some (.ref p), some (.ref po), v6, none]) ∧ Ex H (upd H5 p (.lst (nV (pairs n a.length (xs.take i) ys) ++ ys.map fun y => V.int ((gW n a.length m y : Nat) : Int)))) ∧ (upd H5 p (.lst (nV (pairs n a.length (xs.take i) ys) ++ ys.map fun y => V.int ((gW n a.length m y : Nat) : Int)))) p = some (.lst (nV (pairs n a.length (xs.take (i + 1)) ys))) ∧ (upd H5 p (.lst (nV (pairs n a.length (xs.take i) ys) ++ ys.map fun y => V.int ((gW n a.length m y : Nat) : Int)))) po = some (.lst (nV ys)) ∧ (upd H5 p (.lst (nV (pairs n a.length (xs.take i) ys) ++ ys.map fun y => V.int ((gW n a.length m y : Nat) : Int)))) pa = some (.lst (nV xs)) := fun H5 e5 => by
        refine ⟨⟨_, rfl⟩, Ex.mut (x4.trans e5) np, ?_, (upd_ne nopp).trans (e5 _ _ ho4), (upd_ne napp).trans (e5 _ _ ha4)⟩
        rw [upd_same, take_snoc hm, pairs_step]
        unfold nV
        rw [List.map_append, List.map_map]
        rfl
      refine s_if (et_is (et_test (ev_op (ev_var rfl) ev_c (rv_eq rfl))) w0) (fun hb0 H4 e4 => ?_) (fun hb0 H4 e4 => ?_)
      · have n0 : n = 0 := of_decide_eq_true hb0
        subst n0
        refine s_ext (e4 _ _ hp4) (ev_var rfl) (el_lcG (fun n : Nat => V.int (n : Int)) (fun y => V.int ((gW 0 a.length m y : Nat) : Int)) (ev_var rfl) (sq_of (e4 _ _ ho4)) (by omega) (fun x => rfl) fun y H5 e5 hy => ?_) hz fun H5 e5 => fin H5 (e4.trans e5)
        refine ev_is (ev_op (ev_op (ev_var rfl) (ev_var rfl) rv_I0) (ev_op ev_c (ev_var rfl) (rv_I ⟨by omega, by omega, by decide⟩)) (rv_I ?_)) ?_
        · show (0 : Int) < 1 * 2 ^ ((a.length : Int).toNat)
          rw [Int.toNat_natCast, Int.one_mul]
          exact Int.pow_pos (by decide)
        · show V.int (((m : Int) + (y : Int)) % (1 * 2 ^ ((a.length : Int).toNat))) = V.int (((m + y) % 2 ^ a.length : Nat) : Int)
          rw [Int.toNat_natCast, Int.one_mul]
          simp
      · have n0 : n ≠ 0 := of_decide_eq_false hb0
        refine s_if (et_is (et_test (ev_op (ev_var rfl) ev_c (rv_eq rfl))) w1) (fun hb1 H5 e5 => ?_) (fun hb1 H5 e5 => ?_)
        · have n1 : n = 1 := of_decide_eq_true hb1
          subst n1
          refine s_ext ((e4.trans e5) _ _ hp4) (ev_var rfl) (el_lcG (fun n : Nat => V.int (n : Int)) (fun y => V.int ((gW 1 a.length m y : Nat) : Int)) (ev_var rfl) (sq_of ((e4.trans e5) _ _ ho4)) (by omega) (fun x => rfl) fun y H6 e6 hy => ?_) hz fun H6 e6 => fin H6 ((e4.trans e5).trans e6)
          refine ev_is (ev_int1 (ev_op (ev_var rfl) (ev_var rfl) (rv_eq rfl))) ?_
          show V.int _ = V.int ((if m = y then 1 else 0 : Nat) : Int)
          by_cases h : m = y
          · rw [if_pos h, if_pos (decide_eq_true (by rw [h]))]
            rfl
          · rw [if_neg h, if_neg (by rw [decide_eq_false (fun z => h (by have := V.int.inj z; omega))]; decide)]
            rfl
        · have n2 : n = 2 := by
            have := of_decide_eq_false hb1
            omega
          subst n2
          refine s_ext ((e4.trans e5) _ _ hp4) (ev_var rfl) (el_lcG (fun n : Nat => V.int (n : Int)) (fun y => V.int ((gW 2 a.length m y : Nat) : Int)) (ev_var rfl) (sq_of ((e4.trans e5) _ _ ho4)) (by omega) (fun x => rfl) fun y H6 e6 hy => ?_) hz fun H6 e6 => fin H6 ((e4.trans e5).trans e6)
          refine ev_is (ev_int1 (ev_op (ev_var rfl) (ev_var rfl) rv_I0)) ?_
          show V.int _ = V.int ((if m < y then 1 else 0 : Nat) : Int)
          by_cases h : m < y
          · rw [if_pos h, if_pos (decide_eq_true (by omega))]
            rfl
          · rw [if_neg h, if_neg (by rw [decide_eq_false (by omega)]; decide)]
            rfl
    · obtain ⟨⟨v6, rfl⟩, x4, hp4, ho4, ha4⟩ := hv
      rw [List.length_map, List.take_length] at hp4
      obtain ⟨hpos, hdue⟩ := due_bb (w := n) ha hb hl hxs hys
      have q2 : ∀ H5, Ex H' H5 → Q (.str (Tx (bitsW (pairs n a.length xs ys) (if n = 0 then a.length else 1)))) H5 := fun H5 e5 => by
        rw [hdue]
        exact q H5 (x4.trans e5)
      refine s_ret (ev_call (ea_cons (ev_var rfl) (ea_cons (ev_is (ev_ifS (et_is (et_test (ev_op (ev_var rfl) ev_c (rv_eq rfl))) w0) (ev_var rfl) ev_c) ?_) ea_nil)) (spv_bits (n := if n = 0 then a.length else 1) (sq_of hp4) hpos (by split <;> omega) (by split <;> omega))) q2
      by_cases h : n = 0
      · rw [if_pos h, if_pos (decide_eq_true h)]
      · rw [if_neg h, if_neg (by rw [decide_eq_false h]; decide)]
        rfl
theorem ok__law_ways {f  : Addr} {fd  : FuncData} (F : Fun K "_law_ways" "_law_ways" s__law_ways f fd) (B : Bi K w mg dA dT aW qx)   : FnOk P w K mg base CX0 1 f fd ["_law_sign_here"] (spWays) := by
  refine F.ok sc__law_ways (fun vs H Q E h => ?_) (fun cdv A outer s H vs Q E hr h => ?_)
  · obtain ⟨c, rfl, _⟩ := h
    rfl
  · obtain ⟨c, rfl, q⟩ := h
    refine ⟨_, (pss_one (ps_ret (pe_ix ix_list (pe_lst (pa_cons (pe_lst (pa_cons pe_int (pa_cons pe_int pa_nil))) (pa_cons (pe_lst (pa_cons (pe_callTy call_int1 (by rfl) B.int (by decide +kernel) (pa_cons (pe_cmpR op_eq (pv 0) pe_str (nomark _)) pa_nil)) pa_nil)) pa_nil))) (pe_callTy call_int1 (by rfl) B.int (by decide +kernel) (pa_cons (pe_cmpR op_inS (pv 0) pe_str rfl) pa_nil)) (fun _ _ => rfl)))), ?_⟩
    exact s_retL (el_ways rfl) q
theorem ok__law_triples {f f1 : Addr} {fd fd1 : FuncData} (F : Fun K "_law_triples" "_law_triples" s__law_triples f fd) (B : Bi K w mg dA dT aW qx)  (D__law_ways : Df P w K mg base CX0 "_law_ways" 1 f1 fd1 ["_law_sign_here"] (spWays)) : FnOk P w K mg base CX0 2 f fd ["_law_one", "_law_other", "_law_ahead"] (spTri K) := by
  refine F.ok sc__law_triples (fun vs H Q E h => ?_) (fun cdv A outer s H vs Q E hr h => ?_)
  · obtain ⟨c, d, k, g, rfl, _⟩ := h
    rfl
  · obtain ⟨c, d, k, g, rfl, hS, q⟩ := h
    refine ⟨_, (pss_cons (ps_set (i := 3) sc__law_triples.nd rfl (Or.inl rfl) (pe_lst pa_nil))
      (pss_cons (ps_for PassesOwn.never rfl (pi_list (pe_call D__law_ways.ok (hr.mono (by decide)) (by rfl) D__law_ways.g D__law_ways.kp D__law_ways.b .nil pass0 (pa_cons (pv 0) pa_nil))) (pg_name (i := 4) sc__law_triples.nd rfl (Or.inr rfl)) (pss_one (ps_for PassesOwn.never rfl (pi_list (pe_call D__law_ways.ok (hr.mono (by decide)) (by rfl) D__law_ways.g D__law_ways.kp D__law_ways.b .nil pass0 (pa_cons (pv 1) pa_nil))) (pg_name (i := 5) sc__law_triples.nd rfl (Or.inr rfl)) (pss_one (ps_expr (pe_bm PySem.F.plainAttrs_list PySem.F.slot_list_extend PySem.F.type_list_extend mt_extend (pv 3) (pa_cons (pe_lc (own := [("_law_c", 6)]) (g := gName 6) (tt := tYes) (by rfl) sc__law_triples.nd (pi_list (pv 2)) (blkOk_by (own := [("_law_c", 6)]) (N := N__law_triples) (sc := defScope s__law_triples) (by decide +kernel)) (fun _ _ _ _ _ => pg_name (i := 6) sc__law_triples.nd rfl (Or.inl rfl)) (fun _ _ _ _ _ => pts_nil) (fun _ _ _ _ _ => (pe_tup (pa_cons (pv 4) (pa_cons (pv 5) (pa_cons (pv 6) pa_nil)))))) pa_nil)))))))
      (pss_one (ps_ret (pv 3))))), ?_⟩
    have lc := ways_len c
    have ld := ways_len d
    have lk := ways_len k
    have flat2 : ∀ L : List Int, L.length ≤ 2 → ∀ a : Int, (L.flatMap fun b => (ways k).map fun e => (a, b, e)).length ≤ 4 := fun L hL a => by
      have : ∀ L : List Int, (L.flatMap fun b => (ways k).map fun e => (a, b, e)).length = L.length * (ways k).length := fun L => by
        induction L with
        | nil => simp
        | cons y L ih =>
          rw [List.flatMap_cons, List.length_append, ih, List.length_map, List.length_cons, Nat.succ_mul]
          omega
      rw [this]
      exact Nat.mul_le_mul hL lk
    have flat3 : ∀ L : List Int, L.length ≤ 2 → (L.flatMap fun a => (ways d).flatMap fun b => (ways k).map fun e => (a, b, e)).length ≤ 8 := fun L hL => by
      match L, hL with
      | [], _ => simp
      | [x], _ =>
        have := flat2 (ways d) ld x
        simp only [List.flatMap_cons, List.flatMap_nil, List.append_nil]
        omega
      | [x, y], _ =>
        have h1 := flat2 (ways d) ld x
        have h2 := flat2 (ways d) ld y
        simp only [List.flatMap_cons, List.flatMap_nil, List.append_nil]
        rw [List.length_append]
        omega
      | _ :: _ :: _ :: _, h => simp at h
    refine q_asgL (xs := []) (el_lst ea_nil (by simp)) fun p H1 np e1 hp => ?_
    refine q_forNLn (xs := (ways c).map V.int) (el_call (ea_cons (ev_var rfl) ea_nil) spl_ways) (fun r i σ' G => ∃ v4 v5, σ' = [some (.str (Tx [c])), some (.str (Tx [d])), some (.ref g), some (.ref p), v4, v5, none] ∧ Ex H G ∧ (∃ rs, G p = some (.lst (rs.map V.ref)) ∧ Tups G rs (((ways c).take i).flatMap fun a => (ways d).flatMap fun b => (ways k).map fun e => (a, b, e))) ∧ G r = some (.lst ((ways c).map V.int)) ∧ r ≠ p)
      (fun r G nr er hr => ⟨none, none, rfl, e1.trans er, ⟨[], er _ _ hp, .nil⟩, hr, fun z => by
        rw [z, hp] at nr
        cases nr⟩) (fun r i σ' G _ hv => by
        obtain ⟨_, _, _, _, _, hr, _⟩ := hv
        exact sq_of hr) (fun r i x σ' G hx hv => ?_) (fun r σ' G hv => ?_)
    · obtain ⟨v4, v5, rfl, xG, ⟨rs, hpG, htG⟩, hrG, nrp⟩ := hv
      obtain ⟨a, ha, rfl⟩ := map_at hx
      refine s_forNL (xs := (ways d).map V.int) (el_call (ea_cons (ev_var rfl) ea_nil) spl_ways) (fun r2 j σ' G2 => ∃ v5, σ' = [some (.str (Tx [c])), some (.str (Tx [d])), some (.ref g), some (.ref p), some (.int a), v5, none] ∧ Ex H G2 ∧ (∃ rs, G2 p = some (.lst (rs.map V.ref)) ∧ Tups G2 rs ((((ways c).take i).flatMap fun a => (ways d).flatMap fun b => (ways k).map fun e => (a, b, e)) ++ ((ways d).take j).flatMap fun b => (ways k).map fun e => (a, b, e))) ∧ G2 r = some (.lst ((ways c).map V.int)) ∧ G2 r2 = some (.lst ((ways d).map V.int)) ∧ r2 ≠ p)
        (fun r2 G2 nr er hr => ⟨v5, rfl, xG.trans er, ⟨rs, er _ _ hpG, by simpa using htG.ex er⟩, er _ _ hrG, hr, fun z => by
          rw [z, hpG] at nr
          cases nr⟩) (fun r2 j σ' G2 _ hv => by
          obtain ⟨_, _, _, _, _, hr, _⟩ := hv
          exact sq_of hr) (fun r2 j y σ' G2 hy hv => ?_) (fun r2 σ' G2 hv => ?_)
      · obtain ⟨v5, rfl, x2, ⟨rs2, hp2, ht2⟩, hr2, hrr, nr2⟩ := hv
        obtain ⟨b, hb, rfl⟩ := map_at hy
        have hl2 := ht2.len
        refine g_name ?_
        dsimp only
        refine s_extT hp2 (ev_var rfl) (ets_lc (fun e => (a, b, e)) (ev_var rfl) (ex_l x2 hS) (by omega) (fun x => rfl) fun e G3 _ => eu_tup (ea_cons (ev_var rfl) (ea_cons (ev_var rfl) (ea_cons (ev_var rfl) ea_nil))) (by show 3 ≤ 100000; decide)) ?_ fun rs3 G3 e3 h3 => ?_
        · rw [List.length_map, List.length_map, hl2, List.length_append]
          have h3 := flat3 ((ways c).take i) (by rw [List.length_take]; omega)
          have h4 := flat2 ((ways d).take j) (by rw [List.length_take]; omega) a
          omega
        · refine ⟨_, rfl, Ex.mut (x2.trans e3) np, ⟨rs2 ++ rs3, ?_, ?_⟩, (upd_ne nrp).trans (e3 _ _ hr2), (upd_ne nr2).trans (e3 _ _ hrr), nr2⟩
          · rw [upd_same, List.map_append]
          · rw [List.take_add_one, hb, List.flatMap_append, ← List.append_assoc]
            refine ((ht2.ex e3).app ?_).upd (e3 _ _ hp2)
            simpa using h3
      · obtain ⟨v5, rfl, x2, ⟨rs2, hp2, ht2⟩, hr2, hrr, nr2⟩ := hv
        refine ⟨_, _, rfl, x2, ⟨rs2, hp2, ?_⟩, hr2, nrp⟩
        rw [List.length_map, List.take_length] at ht2
        rw [List.take_add_one, ha, List.flatMap_append]
        simpa using ht2
    · obtain ⟨v4, v5, rfl, xG, ⟨rs, hpG, htG⟩, hrG, nrp⟩ := hv
      rw [List.length_map, List.take_length] at htG
      exact s_ret (ev_var rfl) fun G2 e2 => q p rs G2 np (xG.trans e2) (e2 _ _ hpG) (htG.ex e2)
theorem ok__law_sign {f  : Addr} {fd  : FuncData} (F : Fun K "_law_sign" "_law_sign" s__law_sign f fd) (B : Bi K w mg dA dT aW qx)   : FnOk P w K mg base CX0 1 f fd ["_law_some"] (spSign K) := by
  refine F.ok sc__law_sign (fun vs H Q E h => ?_) (fun cdv A outer s H vs Q E hr h => ?_)
  · obtain ⟨p, ns, rfl, _⟩ := h
    rfl
  · obtain ⟨p, ns, rfl, hS, h01, h0, hz, q⟩ := h
    refine ⟨_, (pss_one (ps_ret (pe_ifExp (pt_cmpR (op_eqD hr.units) (pe_callB (cr_sortedSetA rfl) (by rfl) B.sorted (by decide +kernel) (pa_cons (pe_callTy (cr_setI rfl) (by rfl) B.set (by decide +kernel) (pa_cons (pv 0) pa_nil)) pa_nil)) (pe_lst (pa_cons pe_int (pa_cons pe_int pa_nil))) (nomark _)) pe_str (pe_callTy call_str_int (by rfl) B.str (by decide +kernel) (pa_cons (pe_ix ix_list (pv 0) pe_int (fun _ _ => rfl)) pa_nil))))), ?_⟩
    obtain ⟨i0, hi0⟩ : ∃ i0, ns[0]? = some i0 := ⟨ns[0], List.getElem?_eq_getElem h0⟩
    obtain ⟨g1, g2⟩ := str_01 (h01 i0 (List.mem_of_getElem? hi0))
    refine s_ret (ev_is (ev_ifS (et_test (ev_opLL (el_suVA (ns := ns) (ev_var rfl) hS h01 hz) (el_lst (ea_cons ev_c (ea_cons ev_c ea_nil)) (by simp)) fun r1 r2 G2 h1 h2 _ => rv_eqInts (xs := su ns) (ys := [0, 1]) (sq_of h1) (sq_of h2))) ec_x (v2 := V.str (Tx [if i0 = 1 then 49 else 48])) (fun G2 e2 Q2 q2 => ?_)) ?_) fun G3 e3 => q G3 e3
    · refine ⟨_, rfl, p, _, 0, _, rfl, rfl, ex_l e2 hS, atI_nat (j := 0) (by rw [List.getElem?_map, hi0]; rfl), i0, rfl, g1, ?_⟩
      have q3 := q2 G2 (Ex.refl _)
      rw [← g2] at q3
      exact q3
    · unfold signL
      rw [List.getD_eq_getElem?_getD, hi0]
      by_cases h : 0 ∈ ns ∧ 1 ∈ ns
      · rw [if_pos h, if_pos (decide_eq_true (su_01.mpr h))]
      · rw [if_neg h, if_neg (by rw [decide_eq_false fun z => h (su_01.mp z)]; decide)]
        rfl
theorem ok__law_by_bits {f f1 f2 : Addr} {fd fd1 fd2 : FuncData} (F : Fun K "_law_by_bits" "_law_by_bits" s__law_by_bits f fd) (B : Bi K w mg dA dT aW qx)  (D__law_triples : Df P w K mg base CX0 "_law_triples" 2 f1 fd1 ["_law_one", "_law_other", "_law_ahead"] (spTri K)) (D__law_sign : Df P w K mg base CX0 "_law_sign" 1 f2 fd2 ["_law_some"] (spSign K)) : FnOk P w K mg base CX0 3 f fd ["_law_word", "_law_a", "_law_b"] (spBB) := by
  refine F.ok sc__law_by_bits (fun vs H Q E h => ?_) (fun cdv A outer s H vs Q E hr h => ?_)
  · obtain ⟨n, a, b, rfl, _⟩ := h
    rfl
  · obtain ⟨n, a, b, rfl, hn, ha, hb, hl, h8, q⟩ := h
    refine ⟨_, (pss_cons (ps_set (i := 3) sc__law_by_bits.nd rfl (Or.inl rfl) pe_str)
      (pss_cons (ps_set (i := 4) sc__law_by_bits.nd rfl (Or.inl rfl) (pe_lst (pa_cons pe_int pa_nil)))
      (pss_cons (ps_for PassesOwn.never rfl (pi_zipS (by rfl) B.zip (pa_cons (pe_revS (pv 1)) (pa_cons (pe_revS (pv 2)) pa_nil))) (pg_tup rfl (pgs_cons (pg_name (i := 5) sc__law_by_bits.nd rfl (Or.inl rfl)) (pgs_cons (pg_name (i := 6) sc__law_by_bits.nd rfl (Or.inl rfl)) pgs_nil))) (pss_cons (ps_set (i := 7) sc__law_by_bits.nd rfl (Or.inl rfl) (pe_call D__law_triples.ok (hr.mono (by decide)) (by rfl) D__law_triples.g D__law_triples.kp D__law_triples.b .nil pass0 (pa_cons (pv 5) (pa_cons (pv 6) (pa_cons (pv 4) pa_nil)))))
      (pss_cons (ps_set (i := 3) sc__law_by_bits.nd rfl (Or.inl rfl) (pe_op op_add_str (pe_call D__law_sign.ok (hr.mono (by decide)) (by rfl) D__law_sign.g D__law_sign.kp D__law_sign.b .nil pass0 (pa_cons (pe_lc (own := [("_law_three", 9)]) (g := gName 9) (tt := tYes) (by rfl) sc__law_by_bits.nd (pi_list (pv 7)) (blkOk_by (own := [("_law_three", 9)]) (N := N__law_by_bits) (sc := defScope s__law_by_bits) (by decide +kernel)) (fun _ _ _ _ _ => pg_name (i := 9) sc__law_by_bits.nd rfl (Or.inl rfl)) (fun _ _ _ _ _ => pts_nil) (fun _ _ _ _ _ => (pe_op op_mod (pe_callB (cr_sumTK (K := K) rfl rfl) (by rfl) B.sum (by decide +kernel) (pa_cons (pv 9) pa_nil)) pe_int))) pa_nil)) (pv 3)))
      (pss_one (ps_if (pt_cmpR op_eq (pv 0) pe_str (nomark _)) (pss_one (ps_set (i := 4) sc__law_by_bits.nd rfl (Or.inl rfl) (pe_callB (cr_sortedSetA rfl) (by rfl) B.sorted (by decide +kernel) (pa_cons (pe_callTy (cr_setI rfl) (by rfl) B.set (by decide +kernel) (pa_cons (pe_lc (own := [("_law_three", 9)]) (g := gName 9) (tt := tYes) (by rfl) sc__law_by_bits.nd (pi_list (pv 7)) (blkOk_by (own := [("_law_three", 9)]) (N := N__law_by_bits) (sc := defScope s__law_by_bits) (by decide +kernel)) (fun _ _ _ _ _ => pg_name (i := 9) sc__law_by_bits.nd rfl (Or.inl rfl)) (fun _ _ _ _ _ => pts_nil) (fun _ _ _ _ _ => (pe_op op_fdiv (pe_callB (cr_sumTK (K := K) rfl rfl) (by rfl) B.sum (by decide +kernel) (pa_cons (pv 9) pa_nil)) pe_int))) pa_nil)) pa_nil)))) (pss_one (ps_if (pt_cmpR op_eq (pv 0) pe_str (nomark _)) (pss_one (ps_set (i := 4) sc__law_by_bits.nd rfl (Or.inl rfl) (pe_callB (cr_sortedSetA rfl) (by rfl) B.sorted (by decide +kernel) (pa_cons (pe_callTy (cr_setI rfl) (by rfl) B.set (by decide +kernel) (pa_cons (pe_lc (own := [("_law_p", 10), ("_law_q", 11), ("_law_c", 8)]) (g := gTup K 3 (gCons (gName 10) (gCons (gName 11) (gCons (gName 8) gNil)))) (tt := tYes) (by rfl) sc__law_by_bits.nd (pi_list (pv 7)) (blkOk_by (own := [("_law_p", 10), ("_law_q", 11), ("_law_c", 8)]) (N := N__law_by_bits) (sc := defScope s__law_by_bits) (by decide +kernel)) (fun _ _ _ _ _ => (pg_tup rfl (pgs_cons (pg_name (i := 10) sc__law_by_bits.nd rfl (Or.inl rfl) (Or.inr rfl)) (pgs_cons (pg_name (i := 11) sc__law_by_bits.nd rfl (Or.inl rfl) (Or.inr rfl)) (pgs_cons (pg_name (i := 8) sc__law_by_bits.nd rfl (Or.inl rfl) (Or.inr rfl)) pgs_nil))))) (fun _ _ _ _ _ => pts_nil) (fun _ _ _ _ _ => (pe_callTy call_int1 (by rfl) B.int (by decide +kernel) (pa_cons (pe_cmpR op_lt (pv 10) (pe_op op_add (pv 11) (pv 8)) (nomark _)) pa_nil)))) pa_nil)) pa_nil)))) (pss_one (ps_set (i := 4) sc__law_by_bits.nd rfl (Or.inl rfl) (pe_callB (cr_sortedSetA rfl) (by rfl) B.sorted (by decide +kernel) (pa_cons (pe_callTy (cr_setI rfl) (by rfl) B.set (by decide +kernel) (pa_cons (pe_lc (own := [("_law_p", 10), ("_law_q", 11), ("_law_c", 8)]) (g := gTup K 3 (gCons (gName 10) (gCons (gName 11) (gCons (gName 8) gNil)))) (tt := tYes) (by rfl) sc__law_by_bits.nd (pi_list (pv 7)) (blkOk_by (own := [("_law_p", 10), ("_law_q", 11), ("_law_c", 8)]) (N := N__law_by_bits) (sc := defScope s__law_by_bits) (by decide +kernel)) (fun _ _ _ _ _ => (pg_tup rfl (pgs_cons (pg_name (i := 10) sc__law_by_bits.nd rfl (Or.inl rfl) (Or.inr rfl)) (pgs_cons (pg_name (i := 11) sc__law_by_bits.nd rfl (Or.inl rfl) (Or.inr rfl)) (pgs_cons (pg_name (i := 8) sc__law_by_bits.nd rfl (Or.inl rfl) (Or.inr rfl)) pgs_nil))))) (fun _ _ _ _ _ => pts_nil) (fun _ _ _ _ _ => (pe_callB (call_max2 rfl) (by rfl) B.max (by decide +kernel) (pa_cons (pv 8) (pa_cons (pe_callTy call_int1 (by rfl) B.int (by decide +kernel) (pa_cons (pe_cmpR op_ne (pv 10) (pv 11) (nomark _)) pa_nil)) pa_nil))))) pa_nil)) pa_nil)))))))))))
      (pss_cons (ps_if (pt_cmpR op_eq (pv 0) pe_str (nomark _)) (pss_one (ps_ret (pv 3))) pss_nil)
      (pss_one (ps_ret (pe_call D__law_sign.ok (hr.mono (by decide)) (by rfl) D__law_sign.g D__law_sign.kp D__law_sign.b .nil pass0 (pa_cons (pe_lc (own := [("_law_c", 8)]) (g := gName 8) (tt := tYes) (by rfl) sc__law_by_bits.nd (pi_list (pv 4)) (blkOk_by (own := [("_law_c", 8)]) (N := N__law_by_bits) (sc := defScope s__law_by_bits) (by decide +kernel)) (fun _ _ _ _ _ => pg_name (i := 8) sc__law_by_bits.nd rfl (Or.inl rfl)) (fun _ _ _ _ _ => pts_nil) (fun _ _ _ _ _ => (pe_ix (ix_listK (K := K) rfl) (pe_lst (pa_cons (pv 8) (pa_cons (pe_op op_sub pe_int (pv 8)) pa_nil))) (pe_callTy call_int1 (by rfl) B.int (by decide +kernel) (pa_cons (pe_cmpR op_eq (pv 0) pe_str (nomark _)) pa_nil)) (fun _ _ => rfl)))) pa_nil)))))))), ?_⟩
    have w0 := wd_plus ⟨n, hn⟩
    have w1 := wd_same ⟨n, hn⟩
    have w2 := wd_less ⟨n, hn⟩
    simp only at w0 w1 w2
    refine q_asg ec_e fun H1 e1 => ?_
    refine q_asgL (xs := [.int 0]) (el_lst (ea_cons ev_c ea_nil) (by simp)) fun p0 H2 np0 e2 hp0 => ?_
    refine q_forZ (ea_cons (ev_revS (ev_var rfl) (by omega)) (ea_cons (ev_revS (ev_var rfl) (by omega)) ea_nil)) (by rw [List.length_reverse, List.length_reverse]; exact hl) (fun i σ' H' => (∃ k s p4 v5 v6 v7, σ' = [some (.str (wd n)), some (.str (Tx a)), some (.str (Tx b)), some (.str (Tx s)), some (.ref p4), v5, v6, v7, none, none, none, none] ∧ k ∈ k3 ∧ s.length = i ∧ H' p4 = some (.lst ((ways k).map V.int)) ∧ (bF n k (a.reverse.drop i) (b.reverse.drop i)).reverse ++ s = (bF n 48 a.reverse b.reverse).reverse ∧ bK n k (a.reverse.drop i) (b.reverse.drop i) = bK n 48 a.reverse b.reverse) ∧ Ex H H')
      (fun H3 e3 => ⟨⟨48, [], p0, none, none, none, rfl, k3_48, rfl, e3 _ _ hp0, by simp, by simp⟩, (e1.trans e2).trans e3⟩) (fun i c d σ' H4 hc2 hd2 hv H5 e5 => ?_) (fun σ' H4 hv => ?_)
    · obtain ⟨⟨k, s, p4, v5, v6, v7, rfl, hk, hs, hp4, hF, hK⟩, x4⟩ := hv
      have hi : i < a.reverse.length := (List.getElem?_eq_some_iff.mp hc2).1
      rw [List.length_reverse] at hi
      have hc3 : c ∈ sgn := ha c (List.mem_reverse.mp (List.mem_of_getElem? hc2))
      have hd3 : d ∈ sgn := hb d (List.mem_reverse.mp (List.mem_of_getElem? hd2))
      obtain ⟨z1, z2, z3, _, _⟩ := tri_ok 3 c hc3 d hd3 k hk
      have hn4 : n < 4 := by omega
      obtain ⟨y1, y2, y3, y4, y5⟩ := tri_ok ⟨n, hn4⟩ c hc3 d hd3 k hk
      simp only at y1 y2 y3 y4 y5
      have z1 : ∀ x ∈ tri 3 c d k, x = 0 ∨ x = 1 := z1
      have z2 : (tri 3 c d k).length ≤ 8 := z2
      have z3 : 0 < (tri 3 c d k).length := z3
      have l8 := triL_len c hc3 d hd3 k hk
      refine ⟨_, rfl, _, rfl, _, rfl, c, d, k, p4, rfl, sq_of (e5 _ _ hp4), fun pt rs H6 npt e6 hpt ht => ?_⟩
      refine g_name ?_
      dsimp only
      have hrl : rs.length ≤ 40000 := by
        rw [ht.len]
        omega
      refine q_asg (v := .str (Tx ([signL (tri 3 c d k)] ++ s))) (ev_addT (ev_callL1 (el_is (el_lcTs (fun t => V.int (fW 3 t.1 t.2.1 t.2.2)) (ev_var rfl) hpt ht hrl (fun x => rfl) fun r t H7 _ hm hr => ev_is (ev_op (ev_sumT (ns := [t.1, t.2.1, t.2.2]) (ev_var rfl) (st_of hr)) ev_c (rv_I (by decide))) (by rw [sum3]; rfl)) (tri_map 3 c d k).symm) fun ps H7 h7 _ => spv_sign (ns := tri 3 c d k) (sq_of h7) z1 z3 (by omega)) (ev_var rfl) (by simp; omega)) fun H7 e7 => ?_
      have x7 : Ex H H7 := ((x4.trans e5).trans e6).trans e7
      have hF2 : (bF n (signL (tri n c d k)) (a.reverse.drop (i + 1)) (b.reverse.drop (i + 1))).reverse ++ ([signL (tri 3 c d k)] ++ s) = (bF n 48 a.reverse b.reverse).reverse := by
        rw [← hF, drop_at hc2, drop_at hd2]
        simp [bF]
      have hK2 : bK n (signL (tri n c d k)) (a.reverse.drop (i + 1)) (b.reverse.drop (i + 1)) = bK n 48 a.reverse b.reverse := by
        rw [← hK, drop_at hc2, drop_at hd2]
        rfl
      have hpt7 := e7 _ _ hpt
      have ht7 := ht.ex e7
      refine s_if (et_is (et_test (ev_op (ev_var rfl) ev_c (rv_eq rfl))) w0) (fun hb0 H8 e8 => ?_) (fun hb0 H8 e8 => ?_)
      · have n0 : n = 0 := of_decide_eq_true hb0
        subst n0
        refine s_asgL (el_suA (ns := tri 0 c d k) (el_is (el_lcTs (fun t => V.int (fW 0 t.1 t.2.1 t.2.2)) (ev_var rfl) (e8 _ _ hpt7) (ht7.ex e8) hrl (fun x => rfl) fun r t H9 _ hm hr => ev_is (ev_op (ev_sumT (ns := [t.1, t.2.1, t.2.2]) (ev_var rfl) (st_of hr)) ev_c (rv_I (C := CDiv) ⟨by decide, by decide⟩)) (by rw [sum3]; rfl)) (tri_map 0 c d k).symm) y1 (by omega)) fun p9 H9 np9 e9 h9 => ?_
        rw [y4] at h9
        exact ⟨⟨_, _, p9, _, _, _, rfl, y5, by simp; omega, h9, hF2, hK2⟩, (x7.trans e8).trans e9⟩
      · have n0 : n ≠ 0 := of_decide_eq_false hb0
        refine s_if (et_is (et_test (ev_op (ev_var rfl) ev_c (rv_eq rfl))) w2) (fun hb2 H9 e9 => ?_) (fun hb2 H9 e9 => ?_)
        · have n2 : n = 2 := of_decide_eq_true hb2
          subst n2
          refine s_asgL (el_suA (ns := tri 2 c d k) (el_is (el_lcT3 (fun t => V.int (fW 2 t.1 t.2.1 t.2.2)) (ev_var rfl) ((e8.trans e9) _ _ hpt7) (ht7.ex (e8.trans e9)) hrl (fun x y z => rfl) fun t H10 _ hm => ev_is (ev_int1 (ev_op (ev_var rfl) (ev_op (ev_var rfl) (ev_var rfl) rv_I0) rv_I0)) ?_) (tri_map 2 c d k).symm) y1 (by omega)) fun p9 H10 np9 e10 h9 => ?_
          · show V.int _ = V.int (if t.1 < t.2.1 + t.2.2 then 1 else 0)
            by_cases h : t.1 < t.2.1 + t.2.2
            · rw [if_pos h, if_pos (decide_eq_true h)]
            · rw [if_neg h, if_neg (by rw [decide_eq_false h]; decide)]
          · rw [y4] at h9
            exact ⟨⟨_, _, p9, _, _, _, rfl, y5, by simp; omega, h9, hF2, hK2⟩, ((x7.trans e8).trans e9).trans e10⟩
        · have n1 : n = 1 := by
            have := of_decide_eq_false hb2
            omega
          subst n1
          refine s_asgL (el_suA (ns := tri 1 c d k) (el_is (el_lcT3 (fun t => V.int (fW 1 t.1 t.2.1 t.2.2)) (ev_var rfl) ((e8.trans e9) _ _ hpt7) (ht7.ex (e8.trans e9)) hrl (fun x y z => rfl) fun t H10 _ hm => ev_is (ev_max2 (ev_var rfl) (ev_int1 (ev_op (ev_var rfl) (ev_var rfl) (rv_ne rfl)))) ?_) (tri_map 1 c d k).symm) y1 (by omega)) fun p9 H10 np9 e10 h9 => ?_
          · show V.int _ = V.int (if (if t.1 ≠ t.2.1 then 1 else 0) > t.2.2 then (if t.1 ≠ t.2.1 then 1 else 0) else t.2.2)
            have e : (if (!decide (V.int t.1 = V.int t.2.1)) = true then (1 : Int) else 0) = if t.1 ≠ t.2.1 then 1 else 0 := by
              by_cases h : t.1 = t.2.1
              · have h3 : ¬ (!decide (V.int t.1 = V.int t.2.1)) = true := by
                  rw [decide_eq_true (by rw [h])]
                  decide
                have h4 : ¬ t.1 ≠ t.2.1 := fun z => z h
                rw [if_neg h3, if_neg h4]
              · have h3 : (!decide (V.int t.1 = V.int t.2.1)) = true := by
                  rw [decide_eq_false (fun z => h (V.int.inj z))]
                  rfl
                rw [if_pos h3, if_pos h]
            rw [e]
          · rw [y4] at h9
            exact ⟨⟨_, _, p9, _, _, _, rfl, y5, by simp; omega, h9, hF2, hK2⟩, ((x7.trans e8).trans e9).trans e10⟩
    · obtain ⟨⟨k, s, p4, v5, v6, v7, rfl, hk, hs, hp4, hF, hK⟩, x4⟩ := hv
      rw [List.drop_of_length_le (Nat.le_refl _)] at hF hK
      have hF2 : s = (bF n 48 a.reverse b.reverse).reverse := by rw [← hF]; simp [bF]
      have hK2 : k = bK n 48 a.reverse b.reverse := by rw [← hK]; simp [bK]
      refine q_when (et_is (et_test (ev_op (ev_var rfl) ev_c (rv_eq rfl))) w0) (fun hb0 H5 e5 => ?_) (fun hb0 H5 e5 => ?_)
      · have n0 : n = 0 := of_decide_eq_true hb0
        subst n0
        refine s_ret (ev_var rfl) fun H6 e6 => ?_
        rw [hF2]
        exact q H6 ((x4.trans e5).trans e6)
      · have n0 : n ≠ 0 := of_decide_eq_false hb0
        obtain ⟨u1, u2, u3⟩ := sign_end ⟨n, hn⟩ k hk
        simp only at u1 u2 u3
        have lk := ways_len k
        have q2 : ∀ H6, Ex H5 H6 → Q (.str (Tx [signL ((ways k).map (fun c : Int => if n = 1 then 1 - c else c))])) H6 := fun H6 e6 => by
          rw [u3]
          have g := q H6 ((x4.trans e5).trans e6)
          have e : bbS n a b = [if n = 1 then notS k else k] := by
            match n, hn, n0 with
            | 1, _, _ => rw [hK2]; rfl
            | 2, _, _ => rw [hK2]; rfl
          rw [e] at g
          exact g
        refine s_ret (ev_callL1 (el_is (el_lcG V.int (fun c => V.int (if n = 1 then 1 - c else c)) (ev_var rfl) (sq_of (e5 _ _ hp4)) (by omega) (fun x => rfl) fun c H6 e6 hc => ?_) (by rw [List.map_map]; rfl)) fun ps H6 h6 _ => spv_sign (ns := (ways k).map (fun c : Int => if n = 1 then 1 - c else c)) (sq_of h6) u1 u2 (by rw [List.length_map]; omega)) q2
        refine ev_ixN (i := if n = 1 then 1 else 0) (el_lst (vs := [.int c, .int (1 - c)]) (ea_cons (ev_var rfl) (ea_cons (ev_op ev_c (ev_var rfl) rv_I0) ea_nil)) (by simp)) (fun H7 _ => ev_is (ev_int1 (ev_op (ev_var rfl) ev_c (rv_eq rfl))) ?_) ?_
        · rw [w1]
          by_cases h : n = 1
          · rw [if_pos h, if_pos (decide_eq_true h)]
          · rw [if_neg h, if_neg (by rw [decide_eq_false h]; decide)]
        · by_cases h : n = 1
          · rw [if_pos h, if_pos h]
            rfl
          · rw [if_neg h, if_neg h]
            rfl
theorem ok__law_right {f f1 f2 f3 : Addr} {fd fd1 fd2 fd3 : FuncData} (F : Fun K "_law_right" "_law_right" s__law_right f fd) (B : Bi K w mg dA dT aW qx)  (D_operated : DfD P w K mg base CX0 "operated" 5 f1 fd1 ["word", "values", "high", "low"] (spOp K)) {ds_operated : List Value} (b0_operated : Binds K fd1 ["word", "values", "high", "low"] ds_operated) (v0_operated : Vals [.int 0, .int 0] ds_operated) (D__law_by_bits : Df P w K mg base CX0 "_law_by_bits" 3 f2 fd2 ["_law_word", "_law_a", "_law_b"] (spBB)) (D__law_due : Df P w K mg base CX0 "_law_due" 2 f3 fd3 ["_law_word", "_law_a", "_law_b", "_law_width"] (spDue)) : FnOk P w K mg base CX0 6 f fd ["_law_word", "_law_a", "_law_b", "_law_width"] (spRight) := by
  refine F.ok sc__law_right (fun vs H Q E h => ?_) (fun cdv A outer s H vs Q E hr h => ?_)
  · obtain ⟨n, a, b, rfl, _⟩ := h
    rfl
  · obtain ⟨n, a, b, rfl, hn, ha, hb, hl, h1, h8, q⟩ := h
    refine ⟨_, (pss_cons (ps_set (i := 4) sc__law_right.nd rfl (Or.inl rfl) (pe_lst (pa_cons (pv 1) (pa_cons (pv 2) pa_nil))))
      (pss_cons (ps_set (i := 5) sc__law_right.nd rfl (Or.inl rfl) (pe_call D_operated.ok (hr.mono (by decide)) (by rfl) D_operated.g D_operated.kp b0_operated v0_operated pass0 (pa_cons (pv 0) (pa_cons (pv 4) pa_nil))))
      (pss_cons (ps_if (PW.pt (pw_or (pt_cmpR op_notIn_seq (pv 0) (pgl (by rfl) B.c_WORDS) rfl) (pw_or (pt_cmpR (op_neD hr.units) (pv 4) (pe_lst (pa_cons (pv 1) (pa_cons (pv 2) pa_nil))) (nomark _)) (pw_or1 (pt_cmpR op_ne (pv 5) (pe_call D__law_by_bits.ok (hr.mono (by decide)) (by rfl) D__law_by_bits.g D__law_by_bits.kp D__law_by_bits.b .nil pass0 (pa_cons (pv 0) (pa_cons (pv 1) (pa_cons (pv 2) pa_nil)))) (nomark _)))))) (pss_one (ps_ret pe_bl)) pss_nil)
      (pss_cons (ps_set (i := 6) sc__law_right.nd rfl (Or.inl rfl) (pe_cmpR op_lt (pe_callB call_len_seq (by rfl) B.len PySem.boot_len (pa_cons (pe_lc (own := [("_law_sign_here", 7)]) (g := gName 7) (by rfl) sc__law_right.nd (pi_str (pe_op op_add_str (pv 1) (pv 2))) (blkOk_by (own := [("_law_sign_here", 7)]) (N := N__law_right) (sc := defScope s__law_right) (by decide +kernel)) (fun _ _ _ _ _ => pg_name (i := 7) sc__law_right.nd rfl (Or.inl rfl)) (fun _ _ _ _ _ => pts_one (pt_cmpR op_inS (pv 7) pe_str rfl)) (fun _ _ _ _ _ => (pv 7))) pa_nil)) pe_int (nomark _)))
      (pss_cons (ps_if (PW.pt (pw_and (pt_val (pv 6)) (pw_and1 (pt_cmpR op_ne (pv 5) (pe_call D__law_due.ok (hr.mono (by decide)) (by rfl) D__law_due.g D__law_due.kp D__law_due.b .nil pass0 (pa_cons (pv 0) (pa_cons (pv 1) (pa_cons (pv 2) (pa_cons (pv 3) pa_nil))))) (nomark _))))) (pss_one (ps_ret pe_bl)) pss_nil)
      (pss_one (ps_ret (pe_cmpR op_eq (pe_call D_operated.ok (hr.mono (by decide)) (by rfl) D_operated.g D_operated.kp b0_operated v0_operated pass0 (pa_cons (pv 0) (pa_cons (pe_lst (pa_cons (pv 2) (pa_cons (pv 1) pa_nil))) pa_nil))) (pe_call D__law_by_bits.ok (hr.mono (by decide)) (by rfl) D__law_by_bits.g D__law_by_bits.kp D__law_by_bits.b .nil pass0 (pa_cons (pv 0) (pa_cons (pv 2) (pa_cons (pv 1) pa_nil)))) (nomark _))))))))), ?_⟩
    have hw := words_in ⟨n, hn⟩
    simp only at hw
    have lows : ∀ x ∈ [Tx a, Tx b], LowS x := fun x hx => by
      simp only [List.mem_cons, List.not_mem_nil, or_false] at hx
      rcases hx with rfl | rfl
      · exact low_of ha
      · exact low_of hb
    refine q_asgL (xs := [.str (Tx a), .str (Tx b)]) (el_lst (ea_cons (ev_var rfl) (ea_cons (ev_var rfl) ea_nil)) (by simp)) fun p H1 np e1 hp => ?_
    refine q_asg (v := .str (Tx (bbS n a b))) (ev_call (ea_cons (ev_var rfl) (ea_cons (ev_var rfl) ea_nil)) (spv_op hn (sq_of hp) ha hb hl h8)) fun H2 e2 => ?_
    refine q_when (b := false) (et_is (et_or (et_test (ev_op (ev_var rfl) ev_c (rv_niT (B.x_W H2) rfl (by decide)))) fun _ => et_or (et_test (ev_opL (ev_var rfl) (el_lst (ea_cons (ev_var rfl) (ea_cons (ev_var rfl) ea_nil)) (by simp)) fun r G h hx => rv_neStrs (xs := [Tx a, Tx b]) (ys := [Tx a, Tx b]) (sq_of (hx _ _ (e2 _ _ hp))) (sq_of h) lows lows)) fun _ => et_test (ev_neT (ev_var rfl) (ev_call (ea_cons (ev_var rfl) (ea_cons (ev_var rfl) (ea_cons (ev_var rfl) ea_nil))) (spv_bb hn ha hb hl h8)))) ?_) (fun hb => by cases hb) (fun _ H3 e3 => ?_)
    · rw [hw]
      simp
    refine q_asg (ev_op (ev_lenN (el_lcT (fun c => decide (c ∈ [120, 122])) (fun c => V.str (Tx [c])) (ev_addT (ev_var rfl) (ev_var rfl) (by omega)) (by rw [List.length_append]; omega) (fun x => rfl) (fun c H4 _ _ => et_test (ev_inT (ev_var rfl) ec_xz)) (fun c H4 _ _ _ => ev_var rfl))) ev_c rv_I0) fun H4 e4 => ?_
    refine q_when (b := false) (et_is (et_and (et_B (ev_var rfl)) fun _ => et_test (ev_neT (ev_var rfl) (ev_call (ea_cons (ev_var rfl) (ea_cons (ev_var rfl) (ea_cons (ev_var rfl) (ea_cons (ev_var rfl) ea_nil)))) (spv_due hn ha hb hl h1 h8)))) (by simp)) (fun hb => by cases hb) (fun _ H5 e5 => ?_)
    exact s_ret (ev_is (ev_eqT (ev_callL2' (ev_var rfl) (el_lst (ea_cons (ev_var rfl) (ea_cons (ev_var rfl) ea_nil)) (by simp)) fun p5 H6 h6 _ => spv_op hn (sq_of h6) hb ha hl.symm (by omega)) (ev_call (ea_cons (ev_var rfl) (ea_cons (ev_var rfl) (ea_cons (ev_var rfl) ea_nil))) (spv_bb hn hb ha hl.symm (by omega)))) (by simp)) fun H6 e6 => q H6 (((((e1.trans e2).trans e3).trans e4).trans e5).trans e6)
theorem ok_law {f f1 f2 f3 f4 : Addr} {fd fd1 fd2 fd3 fd4 : FuncData} (F : Fun K "law" "law" s_law f fd) (B : Bi K w mg dA dT aW qx)  (D__law_pot : Df P w K mg base CX0 "_law_pot" 2 f1 fd1 ["_law_script", "_law_k"] (spPot K)) (D__law_take : Df P w K mg base CX0 "_law_take" 1 f2 fd2 ["_law_pot_here", "_law_many"] (spTake)) (D__law_value : Df P w K mg base CX0 "_law_value" 2 f3 fd3 ["_law_pot_here", "_law_width", "_law_room"] (spVal3)) (D__law_right : Df P w K mg base CX0 "_law_right" 6 f4 fd4 ["_law_word", "_law_a", "_law_b", "_law_width"] (spRight)) : FnOk P w K mg base CX0 7 f fd ["_law_script"] (spLaw K) := by
  refine F.ok sc_law (fun vs H Q E h => ?_) (fun cdv A outer s H vs Q E hr h => ?_)
  · obtain ⟨a, b, rfl, _⟩ := h
    rfl
  · obtain ⟨a, ns, rfl, hS, hlen, q⟩ := h
    refine ⟨_, (pss_cons (ps_for PassesOwn.never rfl (pi_range1 (by rfl) B.range (pa_cons (pe_callB (call_max2 rfl) (by rfl) B.max (by decide +kernel) (pa_cons pe_int (pa_cons (pe_callB (call_min2 rfl) (by rfl) B.min (by decide +kernel) (pa_cons pe_int (pa_cons (pe_callB call_len_seq (by rfl) B.len PySem.boot_len (pa_cons (pv 0) pa_nil)) pa_nil))) pa_nil))) pa_nil)) (pg_name (i := 1) sc_law.nd rfl (Or.inl rfl)) (pss_cons (ps_set (i := 2) sc_law.nd rfl (Or.inl rfl) (pe_call D__law_pot.ok (hr.mono (by decide)) (by rfl) D__law_pot.g D__law_pot.kp D__law_pot.b .nil pass0 (pa_cons (pv 0) (pa_cons (pv 1) pa_nil))))
      (pss_cons (ps_asg (pe_tup (pa_cons (pe_op op_add pe_int (pe_call D__law_take.ok (hr.mono (by decide)) (by rfl) D__law_take.g D__law_take.kp D__law_take.b .nil pass0 (pa_cons (pv 2) (pa_cons pe_int pa_nil)))) (pa_cons (pe_lst (pa_cons (pe_ix ix_list (pe_lst (pa_cons pe_int (pa_cons pe_int pa_nil))) (pe_call D__law_take.ok (hr.mono (by decide)) (by rfl) D__law_take.g D__law_take.kp D__law_take.b .nil pass0 (pa_cons (pv 2) (pa_cons pe_int pa_nil))) (fun _ _ => rfl)) pa_nil)) pa_nil))) (pg_tup rfl (pgs_cons (pg_name (i := 5) sc_law.nd rfl (Or.inr rfl)) (pgs_cons (pg_name (i := 6) sc_law.nd rfl (Or.inl rfl)) pgs_nil))))
      (pss_cons (ps_set (i := 3) sc_law.nd rfl (Or.inr rfl) (pe_call D__law_value.ok (hr.mono (by decide)) (by rfl) D__law_value.g D__law_value.kp D__law_value.b .nil pass0 (pa_cons (pv 2) (pa_cons (pv 5) (pa_cons (pv 6) pa_nil)))))
      (pss_cons (ps_set (i := 4) sc_law.nd rfl (Or.inr rfl) (pe_call D__law_value.ok (hr.mono (by decide)) (by rfl) D__law_value.g D__law_value.kp D__law_value.b .nil pass0 (pa_cons (pv 2) (pa_cons (pv 5) (pa_cons (pv 6) pa_nil)))))
      (pss_cons (ps_if (pt_cmpR op_eq (pe_call D__law_take.ok (hr.mono (by decide)) (by rfl) D__law_take.g D__law_take.kp D__law_take.b .nil pass0 (pa_cons (pv 2) (pa_cons pe_int pa_nil))) pe_int (nomark _)) (pss_cons (ps_set (i := 7) sc_law.nd rfl (Or.inl rfl) (pe_call D__law_take.ok (hr.mono (by decide)) (by rfl) D__law_take.g D__law_take.kp D__law_take.b .nil pass0 (pa_cons (pv 2) (pa_cons (pv 5) pa_nil))))
      (pss_one (ps_set (i := 4) sc_law.nd rfl (Or.inr rfl) (pe_op op_add_str (pe_op op_add_str (pe_slice sl_str (pv 3) po_none (po_some (pv 7))) (pe_ix ix_str pe_str (pe_call D__law_take.ok (hr.mono (by decide)) (by rfl) D__law_take.g D__law_take.kp D__law_take.b .nil pass0 (pa_cons (pv 2) (pa_cons pe_int pa_nil))) (fun _ _ => rfl))) (pe_slice sl_str (pv 3) (po_some (pe_op op_add (pv 7) pe_int)) po_none))))) pss_nil)
      (pss_one (ps_if (pt_not (pt_val (pe_callB (cr_all rfl) (by rfl) B.all (by decide +kernel) (pa_cons (pe_lc (own := [("_law_word", 8)]) (g := gName 8) (tt := tYes) (by rfl) sc_law.nd (pi_list (pe_lst (pa_cons pe_str (pa_cons pe_str (pa_cons pe_str pa_nil))))) (blkOk_by (own := [("_law_word", 8)]) (N := N_law) (sc := defScope s_law) (by decide +kernel)) (fun _ _ _ _ _ => pg_name (i := 8) sc_law.nd rfl (Or.inl rfl)) (fun _ _ _ _ _ => pts_nil) (fun _ _ _ _ _ => (pe_call D__law_right.ok (hr.mono (by decide)) (by rfl) D__law_right.g D__law_right.kp D__law_right.b .nil pass0 (pa_cons (pv 8) (pa_cons (pv 3) (pa_cons (pv 4) (pa_cons (pv 5) pa_nil))))))) pa_nil)))) (pss_one (ps_ret pe_bl)) pss_nil))))))))
      (pss_one (ps_ret pe_bl))), ?_⟩
    refine q_forR1 (n := if (if (ns.length : Int) < 6 then (ns.length : Int) else 6) > 1 then (if (ns.length : Int) < 6 then (ns.length : Int) else 6) else 1) ?_ ⟨by split <;> omega, by split <;> (try split) <;> omega⟩ (fun i σ' H' => (∃ a1 a2 a3 a4 a5 a6 a7, σ' = [some (.ref a), a1, a2, a3, a4, a5, a6, a7, none]) ∧ SqL K H' a (ns.map V.int))
      (fun H2 e2 => ⟨⟨none, none, none, none, none, none, none, rfl⟩, ex_l e2 hS⟩) (fun i σ' H' hi hv => ?_) (fun σ' H' hv => ?_)
    · refine fun H2 e2 Q2 q2 => ?_
      refine ⟨_, rfl, a, _, rfl, .inl (ex_l e2 hS), _, _, rfl, _, _, rfl, ?_⟩
      rw [List.length_map]
      exact q2 _ (Ex.refl _)
    · obtain ⟨⟨a1, a2, a3, a4, a5, a6, a7, rfl⟩, hS2⟩ := hv
      have hi2 : (i : Int) ≤ 1000 := by
        revert hi
        split <;> (try split) <;> omega
      refine ⟨_, rfl, _, rfl, a, ns, _, rfl, hS2, by omega, hi2, fun p H2 np x2 hP => ?_⟩
      refine ⟨_, rfl, p, 8, rfl, hP, by decide, by decide, fun H3 d z3 hP3 d0 d1 => ⟨_, _, rfl, rfl, ?_⟩⟩
      refine ⟨by show 2 ≤ sizeLine; decide, fun pc nc => ?_⟩
      have yc := Ex.new (o := .lst [V.int 12, .int 16]) nc
      have oc := upd_same (H := H3) (a := pc) (o := .lst [V.int 12, .int 16])
      generalize upd H3 pc (.lst [V.int 12, .int 16]) = H4 at yc oc ⊢
      refine ⟨_, rfl, p, 2, rfl, hP3.ex yc, by decide, by decide, fun H5 e z5 hP5 e0 e1 => ?_⟩
      have npc : pc ≠ p := hP3.ne nc
      obtain ⟨rm, hrm⟩ : ∃ rm : Int, atI [V.int 12, .int 16] e = some (.int rm) := by
        have : e = 0 ∨ e = 1 := by omega
        rcases this with h | h <;> rw [h]
        · exact ⟨12, rfl⟩
        · exact ⟨16, rfl⟩
      refine ⟨pc, _, _, _, rfl, rfl, sq_of (z5 _ _ npc oc), hrm, by show 1 ≤ sizeLine; decide, fun r nr => ?_⟩
      have yr := Ex.new (o := .lst [V.int rm]) nr
      have hr := upd_same (H := H5) (a := r) (o := .lst [V.int rm])
      generalize upd H5 r (.lst [V.int rm]) = H6 at yr hr ⊢
      refine ⟨by show 2 ≤ sizeLine; decide, fun pt nt => ?_⟩
      have yt := Ex.new (o := .tup [V.int (1 + d), .ref r]) nt
      have ot := upd_same (H := H6) (a := pt) (o := .tup [V.int (1 + d), .ref r])
      generalize upd H6 pt (.tup [V.int (1 + d), .ref r]) = H7 at yt ot ⊢
      refine ⟨pt, _, rfl, st_of ot, rfl, _, _, rfl, _, _, rfl, rfl, ?_⟩
      have hP7 : PotAt H7 p := (hP5.ex yr).ex yt
      have hR7 : RoomAt H7 r := ⟨rm, yt _ _ hr⟩
      have zB : ExB p H2 H7 := ((z3.trans (ExB.of yc)).trans z5).trans (ExB.of (yr.trans yt))
      have nrp : r ≠ p := pot_room hP7 hR7
      have nr2 : H2 r = none := by
        have g : ExB p H2 H5 := (z3.trans (ExB.of yc)).trans z5
        cases h : H2 r with
        | none => rfl
        | some o =>
          rw [g r o nrp h] at nr
          cases nr
      have nr0 : H' r = none := fresh_back x2 nr2
      refine ⟨_, rfl, _, rfl, _, rfl, p, r, 1 + d, rfl, hP7, hR7, by omega, by omega, fun H8 u z8 hP8 hR8 lu hu => ?_⟩
      refine ⟨_, rfl, _, rfl, _, rfl, p, r, 1 + d, rfl, hP8, hR8, by omega, by omega, fun H9 v z9 hP9 hR9 lv hv => ?_⟩
      have z29 : ExC p r H2 H9 := ((ExC.ofB zB).trans z8).trans z9
      refine ⟨_, rfl, p, 3, rfl, hP9, by decide, by decide, fun H10 t z10 hP10 t0 t1 => ⟨rfl, _, rfl, ?_⟩⟩
      refine ite2 (fun _ => ?_) (fun _ => ?_)
      · refine ⟨_, rfl, _, rfl, p, 1 + d, rfl, hP10, by omega, by omega, fun H11 sp z11 hP11 sp0 sp1 => ?_⟩
        obtain ⟨j, rfl⟩ := Int.eq_ofNat_of_zero_le sp0
        refine g_name ?_
        dsimp only
        have E1 : ∀ {σ' : L2.St} {G : Hp}, σ'[3]? = some (some (.str (Tx u))) → σ'[7]? = some (some (.int (j : Int))) → Ev (tSl rSlS (tVar 3) tNoPart (tPart (tVar 7))) σ' G (.str (Tx (u.take j))) := fun h3 h7 => ev_cutA (ev_var h3) (eo_some (ev_var h7)) (by omega) (by omega)
        have E2 : ∀ {σ' : L2.St} {G : Hp}, σ'[3]? = some (some (.str (Tx u))) → σ'[7]? = some (some (.int (j : Int))) → Ev (tSl rSlS (tVar 3) (tPart (tOp (rI0 fun i j => .int (i + j)) (tVar 7) (tC (.int 1)))) tNoPart) σ' G (.str (Tx (u.drop (j + 1)))) := fun h3 h7 => ev_cutB (ev_var h3) (eo_some (ev_is (ev_op (ev_var h7) ev_c rv_I0) rfl)) (by omega) (by omega)
        refine E1 rfl rfl H11 (Ex.refl _) _ fun H12 y12 => ?_
        refine ⟨_, rfl, p, 2, rfl, hP11.ex y12, by decide, by decide, fun H13 b z13 hP13 b0 b1 => ?_⟩
        obtain ⟨c, hc, hm⟩ := at_sign (l := [48, 49]) b0 b1
        have hcs : c ∈ sgn := by
          have : ∀ c ∈ [48, 49], c ∈ sgn := by decide
          exact this c hm
        refine ⟨Str.ofString "01", b, c, rfl, rfl, by decide +kernel, by rw [e_01]; exact hc, ?_⟩
        refine ⟨Tx (u.take j), Tx [c], rfl, rfl, sz_of (by rw [Tx_len, Tx_len, List.length_take]; simp; omega), ?_⟩
        rw [Tx_cat]
        refine E2 rfl rfl H13 (Ex.refl _) _ fun H14 y14 => ?_
        refine ⟨Tx (u.take j ++ [c]), Tx (u.drop (j + 1)), rfl, rfl, sz_of (by rw [Tx_len, Tx_len, List.length_append, List.length_take, List.length_drop]; simp; omega), ?_⟩
        rw [Tx_cat]
        refine g_name ?_
        dsimp only
        have lw : u.length = (u.take j ++ [c] ++ u.drop (j + 1)).length := by
          rw [List.length_append, List.length_append, List.length_take, List.length_drop]
          simp
          omega
        have hw : Sg (u.take j ++ [c] ++ u.drop (j + 1)) := fun z hz => by
          rcases List.mem_append.mp hz with h | h
          · rcases List.mem_append.mp h with h | h
            · exact hu z (List.mem_of_mem_take h)
            · rw [List.mem_singleton.mp h]
              exact hcs
          · exact hu z (List.mem_of_mem_drop h)
        have zz : ExC p r H2 H14 := ((((z29.trans (ExC.ofB z10)).trans (ExC.ofB z11)).trans (ExC.of y12)).trans (ExC.ofB z13)).trans (ExC.of y14)
        have zz0 : Ex H' H14 := zz.back x2 np nr0
        refine s_when (b := false) ?e1a (fun hb => by cases hb) (fun _ G9 e9 => ?e2a)
        case e2a => exact ⟨⟨_, _, _, _, _, _, _, rfl⟩, ex_l ((zz0).trans e9) hS2⟩
        refine et_is (et_not (et_B (ev_all (bs := [true, true, true]) ?_))) rfl
        refine el_lcNL (xs := [V.str "plus", .str "same", .str "less"]) (fun _ => true) (fun _ => V.bl true) (el_lst (ea_cons ev_c (ea_cons ev_c (ea_cons ev_c ea_nil))) (by simp)) (by simp) (fun x => rfl) (fun i x G8 _ hi => et_yes) (fun i x G8 _ hi _ => ?_)
        have eL : (V.int (1 + d)) = V.int (u.length : Int) := by rw [lu]
        match i, hi with
        | 0, hi => exact (Option.some.inj hi) ▸ ev_call (ea_cons (ev_var rfl) (ea_cons (ev_var rfl) (ea_cons (ev_var rfl) (ea_cons (ev_is (ev_var rfl) eL) ea_nil)))) (spv_right (n := 0) (by decide) hu hw lw (by omega) (by omega))
        | 1, hi => exact (Option.some.inj hi) ▸ ev_call (ea_cons (ev_var rfl) (ea_cons (ev_var rfl) (ea_cons (ev_var rfl) (ea_cons (ev_is (ev_var rfl) eL) ea_nil)))) (spv_right (n := 1) (by decide) hu hw lw (by omega) (by omega))
        | 2, hi => exact (Option.some.inj hi) ▸ ev_call (ea_cons (ev_var rfl) (ea_cons (ev_var rfl) (ea_cons (ev_var rfl) (ea_cons (ev_is (ev_var rfl) eL) ea_nil)))) (spv_right (n := 2) (by decide) hu hw lw (by omega) (by omega))
        | n + 3, hi => cases hi
      · have zz : ExC p r H2 H10 := z29.trans (ExC.ofB z10)
        have zz0 : Ex H' H10 := zz.back x2 np nr0
        refine st_next ?_
        dsimp only
        refine s_when (b := false) ?e1b (fun hb => by cases hb) (fun _ G9 e9 => ?e2b)
        case e2b => exact ⟨⟨_, _, _, _, _, _, _, rfl⟩, ex_l ((zz0).trans e9) hS2⟩
        refine et_is (et_not (et_B (ev_all (bs := [true, true, true]) ?_))) rfl
        refine el_lcNL (xs := [V.str "plus", .str "same", .str "less"]) (fun _ => true) (fun _ => V.bl true) (el_lst (ea_cons ev_c (ea_cons ev_c (ea_cons ev_c ea_nil))) (by simp)) (by simp) (fun x => rfl) (fun i x G8 _ hi => et_yes) (fun i x G8 _ hi _ => ?_)
        have eL : (V.int (1 + d)) = V.int (u.length : Int) := by rw [lu]
        match i, hi with
        | 0, hi => exact (Option.some.inj hi) ▸ ev_call (ea_cons (ev_var rfl) (ea_cons (ev_var rfl) (ea_cons (ev_var rfl) (ea_cons (ev_is (ev_var rfl) eL) ea_nil)))) (spv_right (n := 0) (by decide) hu hv (by omega) (by omega) (by omega))
        | 1, hi => exact (Option.some.inj hi) ▸ ev_call (ea_cons (ev_var rfl) (ea_cons (ev_var rfl) (ea_cons (ev_var rfl) (ea_cons (ev_is (ev_var rfl) eL) ea_nil)))) (spv_right (n := 1) (by decide) hu hv (by omega) (by omega) (by omega))
        | 2, hi => exact (Option.some.inj hi) ▸ ev_call (ea_cons (ev_var rfl) (ea_cons (ev_var rfl) (ea_cons (ev_var rfl) (ea_cons (ev_is (ev_var rfl) eL) ea_nil)))) (spv_right (n := 2) (by decide) hu hv (by omega) (by omega) (by omega))
        | n + 3, hi => cases hi
    · exact s_ret ev_c fun H2 _ => q H2
end
theorem all_mk {l : PySem.W.OpenLaw} {w : World} {K : PySem.W.Frag} {h : Heap} {mg : Str → Option Value} {fa g0 qx g2 g3 g4 g5 g6 g7 g8 g9 g10 g11 g12 g13 g14 g15 g16 g17 g18 g19 g20 g21 g22 g23 g24 Dk11 : Addr} {od0 an0 od1 an1 od2 an2 od3 an3 od4 an4 od5 an5 od6 an6 od7 an7 od8 an8 od9 an9 od10 an10 od11 an11 od12 an12 od13 an13 od14 an14 od15 an15 od16 an16 od17 an17 od18 an18 od19 an19 od20 an20 od21 an21 od22 an22 od23 an23 od24 an24 : Option Addr} {sl0 sl1 sl2 sl3 sl4 sl5 sl6 sl7 sl8 sl9 sl10 sl11 sl12 sl13 sl14 sl15 sl16 sl17 sl18 sl19 sl20 sl21 sl22 sl23 sl24 : Array (Option Value)} {oc0 kV0 dc0 pm0 cd0 ct0 oc1 kV1 dc1 pm1 cd1 ct1 oc2 kV2 dc2 pm2 cd2 ct2 oc3 kV3 dc3 pm3 cd3 ct3 oc4 kV4 dc4 pm4 cd4 ct4 oc5 kV5 dc5 pm5 cd5 ct5 oc6 kV6 dc6 pm6 cd6 ct6 oc7 kV7 dc7 pm7 cd7 ct7 oc8 kV8 dc8 pm8 cd8 ct8 oc9 kV9 dc9 pm9 cd9 ct9 oc10 kV10 dc10 pm10 cd10 ct10 oc11 dc11 pm11 cd11 ct11 oc12 kV12 dc12 pm12 cd12 ct12 oc13 kV13 dc13 pm13 cd13 ct13 oc14 kV14 dc14 pm14 cd14 ct14 oc15 kV15 dc15 pm15 cd15 ct15 oc16 kV16 dc16 pm16 cd16 ct16 oc17 kV17 dc17 pm17 cd17 ct17 oc18 kV18 dc18 pm18 cd18 ct18 oc19 kV19 dc19 pm19 cd19 ct19 oc20 kV20 dc20 pm20 cd20 ct20 oc21 kV21 dc21 pm21 cd21 ct21 oc22 kV22 dc22 pm22 cd22 ct22 oc23 kV23 dc23 pm23 cd23 ct23 oc24 kV24 dc24 pm24 cd24 ct24 : Value} {td11_0 td11_1 : Tok} {dA dT aW : Addr} {esA esT : Array DictEntry} {nA nW nT : Nat} {odW : Option Addr} {slW : Array (Option Value)} {tW0 tW1 tW2 tW3 tW4 tW5 tW6 tW7 tW8 tW9 tW10 tW11 tt0 tt1 ttx : Tok} (X : K.In h) (G : h.Ns mainGlobals mg) (hfa : mg "law" = some (.ref fa))
    (a0 : PySem.W.nsIn K mainGlobals "read" = some (some (.ref g0)))
    (l0 : K.lookup g0 = some ⟨oc0, od0, .func (PySem.W.fnOf "read" "read" (defArgs s_read) (defBody s_read) (defScope s_read) .none (kV0) dc0 pm0 an0 cd0 ct0), sl0⟩)
    (c0 : PySem.W.codeIn K cd0 "read" = true)
    (k0 : PySem.W.keepIn K (.ref g0) = true)
    (a1 : PySem.W.nsIn K mainGlobals "xor_sign" = some (some (.ref qx)))
    (l1 : K.lookup qx = some ⟨oc1, od1, .func (PySem.W.fnOf "xor_sign" "xor_sign" (defArgs s_xor_sign) (defBody s_xor_sign) (defScope s_xor_sign) .none (kV1) dc1 pm1 an1 cd1 ct1), sl1⟩)
    (c1 : PySem.W.codeIn K cd1 "xor_sign" = true)
    (k1 : PySem.W.keepIn K (.ref qx) = true)
    (a2 : PySem.W.nsIn K mainGlobals "most_sign" = some (some (.ref g2)))
    (l2 : K.lookup g2 = some ⟨oc2, od2, .func (PySem.W.fnOf "most_sign" "most_sign" (defArgs s_most_sign) (defBody s_most_sign) (defScope s_most_sign) .none (kV2) dc2 pm2 an2 cd2 ct2), sl2⟩)
    (c2 : PySem.W.codeIn K cd2 "most_sign" = true)
    (k2 : PySem.W.keepIn K (.ref g2) = true)
    (a3 : PySem.W.nsIn K mainGlobals "by_bits" = some (some (.ref g3)))
    (l3 : K.lookup g3 = some ⟨oc3, od3, .func (PySem.W.fnOf "by_bits" "by_bits" (defArgs s_by_bits) (defBody s_by_bits) (defScope s_by_bits) .none (kV3) dc3 pm3 an3 cd3 ct3), sl3⟩)
    (c3 : PySem.W.codeIn K cd3 "by_bits" = true)
    (k3 : PySem.W.keepIn K (.ref g3) = true)
    (a4 : PySem.W.nsIn K mainGlobals "xor_value" = some (some (.ref g4)))
    (l4 : K.lookup g4 = some ⟨oc4, od4, .func (PySem.W.fnOf "xor_value" "xor_value" (defArgs s_xor_value) (defBody s_xor_value) (defScope s_xor_value) .none (kV4) dc4 pm4 an4 cd4 ct4), sl4⟩)
    (c4 : PySem.W.codeIn K cd4 "xor_value" = true)
    (k4 : PySem.W.keepIn K (.ref g4) = true)
    (a5 : PySem.W.nsIn K mainGlobals "plus_value" = some (some (.ref g5)))
    (l5 : K.lookup g5 = some ⟨oc5, od5, .func (PySem.W.fnOf "plus_value" "plus_value" (defArgs s_plus_value) (defBody s_plus_value) (defScope s_plus_value) .none (kV5) dc5 pm5 an5 cd5 ct5), sl5⟩)
    (c5 : PySem.W.codeIn K cd5 "plus_value" = true)
    (k5 : PySem.W.keepIn K (.ref g5) = true)
    (a6 : PySem.W.nsIn K mainGlobals "any_value" = some (some (.ref g6)))
    (l6 : K.lookup g6 = some ⟨oc6, od6, .func (PySem.W.fnOf "any_value" "any_value" (defArgs s_any_value) (defBody s_any_value) (defScope s_any_value) .none (kV6) dc6 pm6 an6 cd6 ct6), sl6⟩)
    (c6 : PySem.W.codeIn K cd6 "any_value" = true)
    (k6 : PySem.W.keepIn K (.ref g6) = true)
    (a7 : PySem.W.nsIn K mainGlobals "same_value" = some (some (.ref g7)))
    (l7 : K.lookup g7 = some ⟨oc7, od7, .func (PySem.W.fnOf "same_value" "same_value" (defArgs s_same_value) (defBody s_same_value) (defScope s_same_value) .none (kV7) dc7 pm7 an7 cd7 ct7), sl7⟩)
    (c7 : PySem.W.codeIn K cd7 "same_value" = true)
    (k7 : PySem.W.keepIn K (.ref g7) = true)
    (a8 : PySem.W.nsIn K mainGlobals "lowest" = some (some (.ref g8)))
    (l8 : K.lookup g8 = some ⟨oc8, od8, .func (PySem.W.fnOf "lowest" "lowest" (defArgs s_lowest) (defBody s_lowest) (defScope s_lowest) .none (kV8) dc8 pm8 an8 cd8 ct8), sl8⟩)
    (c8 : PySem.W.codeIn K cd8 "lowest" = true)
    (k8 : PySem.W.keepIn K (.ref g8) = true)
    (a9 : PySem.W.nsIn K mainGlobals "highest" = some (some (.ref g9)))
    (l9 : K.lookup g9 = some ⟨oc9, od9, .func (PySem.W.fnOf "highest" "highest" (defArgs s_highest) (defBody s_highest) (defScope s_highest) .none (kV9) dc9 pm9 an9 cd9 ct9), sl9⟩)
    (c9 : PySem.W.codeIn K cd9 "highest" = true)
    (k9 : PySem.W.keepIn K (.ref g9) = true)
    (a10 : PySem.W.nsIn K mainGlobals "less_value" = some (some (.ref g10)))
    (l10 : K.lookup g10 = some ⟨oc10, od10, .func (PySem.W.fnOf "less_value" "less_value" (defArgs s_less_value) (defBody s_less_value) (defScope s_less_value) .none (kV10) dc10 pm10 an10 cd10 ct10), sl10⟩)
    (c10 : PySem.W.codeIn K cd10 "less_value" = true)
    (k10 : PySem.W.keepIn K (.ref g10) = true)
    (a11 : PySem.W.nsIn K mainGlobals "operated" = some (some (.ref g11)))
    (l11 : K.lookup g11 = some ⟨oc11, od11, .func (PySem.W.fnOf "operated" "operated" (defArgs s_operated) (defBody s_operated) (defScope s_operated) .none (.ref Dk11) dc11 pm11 an11 cd11 ct11), sl11⟩)
    (c11 : PySem.W.codeIn K cd11 "operated" = true)
    (k11 : PySem.W.keepIn K (.ref g11) = true)
    (d11_0 : PySem.W.nsIn K Dk11 "high" = some (some (.int 0 td11_0)))
    (d11_1 : PySem.W.nsIn K Dk11 "low" = some (some (.int 0 td11_1)))
    (a12 : PySem.W.nsIn K mainGlobals "_law_at" = some (some (.ref g12)))
    (l12 : K.lookup g12 = some ⟨oc12, od12, .func (PySem.W.fnOf "_law_at" "_law_at" (defArgs s__law_at) (defBody s__law_at) (defScope s__law_at) .none (kV12) dc12 pm12 an12 cd12 ct12), sl12⟩)
    (c12 : PySem.W.codeIn K cd12 "_law_at" = true)
    (k12 : PySem.W.keepIn K (.ref g12) = true)
    (a13 : PySem.W.nsIn K mainGlobals "_law_pot" = some (some (.ref g13)))
    (l13 : K.lookup g13 = some ⟨oc13, od13, .func (PySem.W.fnOf "_law_pot" "_law_pot" (defArgs s__law_pot) (defBody s__law_pot) (defScope s__law_pot) .none (kV13) dc13 pm13 an13 cd13 ct13), sl13⟩)
    (c13 : PySem.W.codeIn K cd13 "_law_pot" = true)
    (k13 : PySem.W.keepIn K (.ref g13) = true)
    (a14 : PySem.W.nsIn K mainGlobals "_law_take" = some (some (.ref g14)))
    (l14 : K.lookup g14 = some ⟨oc14, od14, .func (PySem.W.fnOf "_law_take" "_law_take" (defArgs s__law_take) (defBody s__law_take) (defScope s__law_take) .none (kV14) dc14 pm14 an14 cd14 ct14), sl14⟩)
    (c14 : PySem.W.codeIn K cd14 "_law_take" = true)
    (k14 : PySem.W.keepIn K (.ref g14) = true)
    (a15 : PySem.W.nsIn K mainGlobals "_law_value" = some (some (.ref g15)))
    (l15 : K.lookup g15 = some ⟨oc15, od15, .func (PySem.W.fnOf "_law_value" "_law_value" (defArgs s__law_value) (defBody s__law_value) (defScope s__law_value) .none (kV15) dc15 pm15 an15 cd15 ct15), sl15⟩)
    (c15 : PySem.W.codeIn K cd15 "_law_value" = true)
    (k15 : PySem.W.keepIn K (.ref g15) = true)
    (a16 : PySem.W.nsIn K mainGlobals "_law_numbers" = some (some (.ref g16)))
    (l16 : K.lookup g16 = some ⟨oc16, od16, .func (PySem.W.fnOf "_law_numbers" "_law_numbers" (defArgs s__law_numbers) (defBody s__law_numbers) (defScope s__law_numbers) .none (kV16) dc16 pm16 an16 cd16 ct16), sl16⟩)
    (c16 : PySem.W.codeIn K cd16 "_law_numbers" = true)
    (k16 : PySem.W.keepIn K (.ref g16) = true)
    (a17 : PySem.W.nsIn K mainGlobals "_law_bits" = some (some (.ref g17)))
    (l17 : K.lookup g17 = some ⟨oc17, od17, .func (PySem.W.fnOf "_law_bits" "_law_bits" (defArgs s__law_bits) (defBody s__law_bits) (defScope s__law_bits) .none (kV17) dc17 pm17 an17 cd17 ct17), sl17⟩)
    (c17 : PySem.W.codeIn K cd17 "_law_bits" = true)
    (k17 : PySem.W.keepIn K (.ref g17) = true)
    (a18 : PySem.W.nsIn K mainGlobals "_law_due" = some (some (.ref g18)))
    (l18 : K.lookup g18 = some ⟨oc18, od18, .func (PySem.W.fnOf "_law_due" "_law_due" (defArgs s__law_due) (defBody s__law_due) (defScope s__law_due) .none (kV18) dc18 pm18 an18 cd18 ct18), sl18⟩)
    (c18 : PySem.W.codeIn K cd18 "_law_due" = true)
    (k18 : PySem.W.keepIn K (.ref g18) = true)
    (a19 : PySem.W.nsIn K mainGlobals "_law_ways" = some (some (.ref g19)))
    (l19 : K.lookup g19 = some ⟨oc19, od19, .func (PySem.W.fnOf "_law_ways" "_law_ways" (defArgs s__law_ways) (defBody s__law_ways) (defScope s__law_ways) .none (kV19) dc19 pm19 an19 cd19 ct19), sl19⟩)
    (c19 : PySem.W.codeIn K cd19 "_law_ways" = true)
    (k19 : PySem.W.keepIn K (.ref g19) = true)
    (a20 : PySem.W.nsIn K mainGlobals "_law_triples" = some (some (.ref g20)))
    (l20 : K.lookup g20 = some ⟨oc20, od20, .func (PySem.W.fnOf "_law_triples" "_law_triples" (defArgs s__law_triples) (defBody s__law_triples) (defScope s__law_triples) .none (kV20) dc20 pm20 an20 cd20 ct20), sl20⟩)
    (c20 : PySem.W.codeIn K cd20 "_law_triples" = true)
    (k20 : PySem.W.keepIn K (.ref g20) = true)
    (a21 : PySem.W.nsIn K mainGlobals "_law_sign" = some (some (.ref g21)))
    (l21 : K.lookup g21 = some ⟨oc21, od21, .func (PySem.W.fnOf "_law_sign" "_law_sign" (defArgs s__law_sign) (defBody s__law_sign) (defScope s__law_sign) .none (kV21) dc21 pm21 an21 cd21 ct21), sl21⟩)
    (c21 : PySem.W.codeIn K cd21 "_law_sign" = true)
    (k21 : PySem.W.keepIn K (.ref g21) = true)
    (a22 : PySem.W.nsIn K mainGlobals "_law_by_bits" = some (some (.ref g22)))
    (l22 : K.lookup g22 = some ⟨oc22, od22, .func (PySem.W.fnOf "_law_by_bits" "_law_by_bits" (defArgs s__law_by_bits) (defBody s__law_by_bits) (defScope s__law_by_bits) .none (kV22) dc22 pm22 an22 cd22 ct22), sl22⟩)
    (c22 : PySem.W.codeIn K cd22 "_law_by_bits" = true)
    (k22 : PySem.W.keepIn K (.ref g22) = true)
    (a23 : PySem.W.nsIn K mainGlobals "_law_right" = some (some (.ref g23)))
    (l23 : K.lookup g23 = some ⟨oc23, od23, .func (PySem.W.fnOf "_law_right" "_law_right" (defArgs s__law_right) (defBody s__law_right) (defScope s__law_right) .none (kV23) dc23 pm23 an23 cd23 ct23), sl23⟩)
    (c23 : PySem.W.codeIn K cd23 "_law_right" = true)
    (k23 : PySem.W.keepIn K (.ref g23) = true)
    (a24 : PySem.W.nsIn K mainGlobals "law" = some (some (.ref g24)))
    (l24 : K.lookup g24 = some ⟨oc24, od24, .func (PySem.W.fnOf "law" "law" (defArgs s_law) (defBody s_law) (defScope s_law) .none (kV24) dc24 pm24 an24 cd24 ct24), sl24⟩)
    (c24 : PySem.W.codeIn K cd24 "law" = true)
    (k24 : PySem.W.keepIn K (.ref g24) = true)
    (z0 : PySem.W.nsIn K mainGlobals "all" = some none)
    (z1 : PySem.W.nsIn K mainGlobals "divmod" = some none)
    (z2 : PySem.W.nsIn K mainGlobals "int" = some none)
    (z3 : PySem.W.nsIn K mainGlobals "len" = some none)
    (z4 : PySem.W.nsIn K mainGlobals "max" = some none)
    (z5 : PySem.W.nsIn K mainGlobals "min" = some none)
    (z6 : PySem.W.nsIn K mainGlobals "range" = some none)
    (z7 : PySem.W.nsIn K mainGlobals "set" = some none)
    (z8 : PySem.W.nsIn K mainGlobals "sorted" = some none)
    (z9 : PySem.W.nsIn K mainGlobals "str" = some none)
    (z10 : PySem.W.nsIn K mainGlobals "sum" = some none)
    (z11 : PySem.W.nsIn K mainGlobals "zip" = some none)
    (y_A : PySem.W.nsIn K mainGlobals "ACTIONS" = some (some (.ref dA)))
    (yl_A : K.lookup dA = some ⟨.type "dict", none, .dict esA nA, #[]⟩)
    (yk_A : PySem.W.KeysLit w.params esA.toList)
    (ye_plus : PySem.W.nsIn K dA "plus" = some (some (.ref g5)))
    (ye_same : PySem.W.nsIn K dA "same" = some (some (.ref g7)))
    (ye_less : PySem.W.nsIn K dA "less" = some (some (.ref g10)))
    (y_T : PySem.W.nsIn K mainGlobals "TURNED" = some (some (.ref dT)))
    (yl_T : K.lookup dT = some ⟨.type "dict", none, .dict esT nT, #[]⟩)
    (yk_T : PySem.W.KeysLit w.params esT.toList)
    (ye_T0 : PySem.W.nsIn K dT "0" = some (some (.str (Str.ofString "1") tt0)))
    (ye_T1 : PySem.W.nsIn K dT "1" = some (some (.str (Str.ofString "0") tt1)))
    (ye_Tx : PySem.W.nsIn K dT "x" = some (some (.str (Str.ofString "x") ttx)))
    (y_W : PySem.W.nsIn K mainGlobals "WORDS" = some (some (.ref aW)))
    (yl_W : K.lookup aW = some ⟨.type "tuple", odW, .seq #[.str (Str.ofString "not") tW0, .str (Str.ofString "and") tW1, .str (Str.ofString "or") tW2, .str (Str.ofString "xor") tW3, .str (Str.ofString "plus") tW4, .str (Str.ofString "same") tW5, .str (Str.ofString "less") tW6, .str (Str.ofString "any") tW7, .str (Str.ofString "all") tW8, .str (Str.ofString "pick") tW9, .str (Str.ofString "join") tW10, .str (Str.ofString "part") tW11] nW, slW⟩)
    : ∃ fd : FuncData, (∀ (s : Shared) (v : Value), BindsTo s fd ⟨[v], []⟩ [("_law_script", v)]) ∧ ∀ base : Heap, K.In base → base.Ns mainGlobals mg → FnOk l.prog w K mg base CX0 7 fa fd ["_law_script"] (spLaw K) := by
  have e := hfa.symm.trans (PySem.W.mg_of X G a24)
  cases e
  have B : Bi K w mg dA dT aW qx := ⟨PySem.W.mg_none_of X G z0, PySem.W.mg_none_of X G z1, PySem.W.mg_none_of X G z2, PySem.W.mg_none_of X G z3, PySem.W.mg_none_of X G z4, PySem.W.mg_none_of X G z5, PySem.W.mg_none_of X G z6, PySem.W.mg_none_of X G z7, PySem.W.mg_none_of X G z8, PySem.W.mg_none_of X G z9, PySem.W.mg_none_of X G z10, PySem.W.mg_none_of X G z11, ⟨_, PySem.W.mg_of X G y_A, rfl⟩, ⟨_, PySem.W.mg_of X G y_W, rfl⟩, ⟨_, PySem.W.mg_of X G y_T, rfl⟩, ⟨_, PySem.W.mg_of X G a1, rfl⟩, fun H => .inr ⟨_, _, _, yl_W, rfl, rfl, by show 12 ≤ sizeLine; decide, .cons ⟨_, rfl⟩ (.cons ⟨_, rfl⟩ (.cons ⟨_, rfl⟩ (.cons ⟨_, rfl⟩ (.cons ⟨_, rfl⟩ (.cons ⟨_, rfl⟩ (.cons ⟨_, rfl⟩ (.cons ⟨_, rfl⟩ (.cons ⟨_, rfl⟩ (.cons ⟨_, rfl⟩ (.cons ⟨_, rfl⟩ (.cons ⟨_, rfl⟩ (.nil))))))))))))⟩, by rw [← s_0, ← s_1]; exact ⟨_, _, _, yl_T, yk_T, ye_T0, _, rfl⟩, by rw [← s_1, ← s_0]; exact ⟨_, _, _, yl_T, yk_T, ye_T1, _, rfl⟩, by rw [← s_x]; exact ⟨_, _, _, yl_T, yk_T, ye_Tx, _, rfl⟩⟩
  have F0 := fun_mk (st := s_read) l0 c0 k0
  have b0 := F0.binds (ps := ["value"]) fun _ _ _ _ _ _ us hl => match us, hl with | [_], _ => rfl
  have F1 := fun_mk (st := s_xor_sign) l1 c1 k1
  have b1 := F1.binds (ps := ["one", "other"]) fun _ _ _ _ _ _ us hl => match us, hl with | [_, _], _ => rfl
  have F2 := fun_mk (st := s_most_sign) l2 c2 k2
  have b2 := F2.binds (ps := ["one", "other", "third"]) fun _ _ _ _ _ _ us hl => match us, hl with | [_, _, _], _ => rfl
  have F3 := fun_mk (st := s_by_bits) l3 c3 k3
  have b3 := F3.binds (ps := ["rule", "one", "other"]) fun _ _ _ _ _ _ us hl => match us, hl with | [_, _, _], _ => rfl
  have F4 := fun_mk (st := s_xor_value) l4 c4 k4
  have b4 := F4.binds (ps := ["one", "other"]) fun _ _ _ _ _ _ us hl => match us, hl with | [_, _], _ => rfl
  have F5 := fun_mk (st := s_plus_value) l5 c5 k5
  have b5 := F5.binds (ps := ["one", "other"]) fun _ _ _ _ _ _ us hl => match us, hl with | [_, _], _ => rfl
  have F6 := fun_mk (st := s_any_value) l6 c6 k6
  have b6 := F6.binds (ps := ["value"]) fun _ _ _ _ _ _ us hl => match us, hl with | [_], _ => rfl
  have F7 := fun_mk (st := s_same_value) l7 c7 k7
  have b7 := F7.binds (ps := ["one", "other"]) fun _ _ _ _ _ _ us hl => match us, hl with | [_, _], _ => rfl
  have F8 := fun_mk (st := s_lowest) l8 c8 k8
  have b8 := F8.binds (ps := ["value"]) fun _ _ _ _ _ _ us hl => match us, hl with | [_], _ => rfl
  have F9 := fun_mk (st := s_highest) l9 c9 k9
  have b9 := F9.binds (ps := ["value"]) fun _ _ _ _ _ _ us hl => match us, hl with | [_], _ => rfl
  have F10 := fun_mk (st := s_less_value) l10 c10 k10
  have b10 := F10.binds (ps := ["one", "other"]) fun _ _ _ _ _ _ us hl => match us, hl with | [_, _], _ => rfl
  have F11 : FunD K "operated" "operated" (defArgs s_operated) (defBody s_operated) (defScope s_operated) [] [("high", .int 0), ("low", .int 0)] g11 (PySem.W.fnOf "operated" "operated" (defArgs s_operated) (defBody s_operated) (defScope s_operated) .none (.ref Dk11) dc11 pm11 an11 cd11 ct11) := ⟨⟨_, _, _, _, _, _, _, _, _, _, rfl, l11, c11, .inl ⟨rfl, rfl⟩, .inr ⟨Dk11, rfl, fun q hq => by
    simp only [List.mem_cons, List.not_mem_nil, or_false] at hq
    rcases hq with rfl | rfl
    · exact ⟨_, d11_0, _, rfl⟩
    · exact ⟨_, d11_1, _, rfl⟩
    ⟩⟩, k11⟩
  obtain ⟨ds11, v11_0, b11_0⟩ := F11.binds0 (ps := ["word", "values", "high", "low"]) 2 (by decide) rfl fun D doc pm an cdv ct us ks hu hk => match us, ks, hu, hk with | [_, _], [_, _], _, _ => ⟨_, _, _, _, _, _, rfl, rfl, ⟨_, _, _, _, _, _, rfl, rfl, rfl⟩⟩
  have F12 := fun_mk (st := s__law_at) l12 c12 k12
  have b12 := F12.binds (ps := ["_law_script", "_law_k"]) fun _ _ _ _ _ _ us hl => match us, hl with | [_, _], _ => rfl
  have F13 := fun_mk (st := s__law_pot) l13 c13 k13
  have b13 := F13.binds (ps := ["_law_script", "_law_k"]) fun _ _ _ _ _ _ us hl => match us, hl with | [_, _], _ => rfl
  have F14 := fun_mk (st := s__law_take) l14 c14 k14
  have b14 := F14.binds (ps := ["_law_pot_here", "_law_many"]) fun _ _ _ _ _ _ us hl => match us, hl with | [_, _], _ => rfl
  have F15 := fun_mk (st := s__law_value) l15 c15 k15
  have b15 := F15.binds (ps := ["_law_pot_here", "_law_width", "_law_room"]) fun _ _ _ _ _ _ us hl => match us, hl with | [_, _, _], _ => rfl
  have F16 := fun_mk (st := s__law_numbers) l16 c16 k16
  have b16 := F16.binds (ps := ["_law_value_here"]) fun _ _ _ _ _ _ us hl => match us, hl with | [_], _ => rfl
  have F17 := fun_mk (st := s__law_bits) l17 c17 k17
  have b17 := F17.binds (ps := ["_law_some", "_law_width"]) fun _ _ _ _ _ _ us hl => match us, hl with | [_, _], _ => rfl
  have F18 := fun_mk (st := s__law_due) l18 c18 k18
  have b18 := F18.binds (ps := ["_law_word", "_law_a", "_law_b", "_law_width"]) fun _ _ _ _ _ _ us hl => match us, hl with | [_, _, _, _], _ => rfl
  have F19 := fun_mk (st := s__law_ways) l19 c19 k19
  have b19 := F19.binds (ps := ["_law_sign_here"]) fun _ _ _ _ _ _ us hl => match us, hl with | [_], _ => rfl
  have F20 := fun_mk (st := s__law_triples) l20 c20 k20
  have b20 := F20.binds (ps := ["_law_one", "_law_other", "_law_ahead"]) fun _ _ _ _ _ _ us hl => match us, hl with | [_, _, _], _ => rfl
  have F21 := fun_mk (st := s__law_sign) l21 c21 k21
  have b21 := F21.binds (ps := ["_law_some"]) fun _ _ _ _ _ _ us hl => match us, hl with | [_], _ => rfl
  have F22 := fun_mk (st := s__law_by_bits) l22 c22 k22
  have b22 := F22.binds (ps := ["_law_word", "_law_a", "_law_b"]) fun _ _ _ _ _ _ us hl => match us, hl with | [_, _, _], _ => rfl
  have F23 := fun_mk (st := s__law_right) l23 c23 k23
  have b23 := F23.binds (ps := ["_law_word", "_law_a", "_law_b", "_law_width"]) fun _ _ _ _ _ _ us hl => match us, hl with | [_, _, _, _], _ => rfl
  have F24 := fun_mk (st := s_law) l24 c24 k24
  refine ⟨PySem.W.fnOf "law" "law" (defArgs s_law) (defBody s_law) (defScope s_law) .none kV24 dc24 pm24 an24 cd24 ct24, fun s v => .of_eq rfl, fun base _ _ => ?_⟩
  have E0 : Df l.prog w K mg base CX0 "read" 1 g0 _ ["value"] (spRead) := ⟨ok_read F0 B  , PySem.W.mg_of X G a0, k0, b0⟩
  have E1 : Df l.prog w K mg base CX0 "xor_sign" 1 qx _ ["one", "other"] (spXor) := ⟨ok_xor_sign F1 B  , PySem.W.mg_of X G a1, k1, b1⟩
  have E2 : Df l.prog w K mg base CX0 "most_sign" 1 g2 _ ["one", "other", "third"] (spMost) := ⟨ok_most_sign F2 B  , PySem.W.mg_of X G a2, k2, b2⟩
  have E3 : Df l.prog w K mg base CX0 "by_bits" 2 g3 _ ["rule", "one", "other"] (spByBits qx) := ⟨ok_by_bits F3 B  E1, PySem.W.mg_of X G a3, k3, b3⟩
  have E4 : Df l.prog w K mg base CX0 "xor_value" 3 g4 _ ["one", "other"] (spXorV) := ⟨ok_xor_value F4 B  E3, PySem.W.mg_of X G a4, k4, b4⟩
  have E5 : Df l.prog w K mg base CX0 "plus_value" 4 g5 _ ["one", "other"] (spTwoS plusS) := ⟨ok_plus_value F5 B  E1 E2, PySem.W.mg_of X G a5, k5, b5⟩
  have E6 : Df l.prog w K mg base CX0 "any_value" 1 g6 _ ["value"] (spOne anyS) := ⟨ok_any_value F6 B  , PySem.W.mg_of X G a6, k6, b6⟩
  have E7 : Df l.prog w K mg base CX0 "same_value" 4 g7 _ ["one", "other"] (spTwoS fun a b => [sameS a b]) := ⟨ok_same_value F7 B  E6 E4, PySem.W.mg_of X G a7, k7, b7⟩
  have E8 : Df l.prog w K mg base CX0 "lowest" 1 g8 _ ["value"] (spMapS loS) := ⟨ok_lowest F8 B  , PySem.W.mg_of X G a8, k8, b8⟩
  have E9 : Df l.prog w K mg base CX0 "highest" 1 g9 _ ["value"] (spMapS hiS) := ⟨ok_highest F9 B  , PySem.W.mg_of X G a9, k9, b9⟩
  have E10 : Df l.prog w K mg base CX0 "less_value" 4 g10 _ ["one", "other"] (spTwoS fun a b => [lessS a b]) := ⟨ok_less_value F10 B  E9 E8, PySem.W.mg_of X G a10, k10, b10⟩
  have E11 : DfD l.prog w K mg base CX0 "operated" 5 g11 _ ["word", "values", "high", "low"] (spOp K) := ⟨ok_operated F11 B ⟨_, _, _, yl_A, yk_A, ye_plus, rfl⟩ ⟨_, _, _, yl_A, yk_A, ye_same, rfl⟩ ⟨_, _, _, yl_A, yk_A, ye_less, rfl⟩ E0 E5 E7 E10, PySem.W.mg_of X G a11, k11⟩
  have E12 : Df l.prog w K mg base CX0 "_law_at" 1 g12 _ ["_law_script", "_law_k"] (spAt K) := ⟨ok__law_at F12 B  , PySem.W.mg_of X G a12, k12, b12⟩
  have E13 : Df l.prog w K mg base CX0 "_law_pot" 2 g13 _ ["_law_script", "_law_k"] (spPot K) := ⟨ok__law_pot F13 B  E12, PySem.W.mg_of X G a13, k13, b13⟩
  have E14 : Df l.prog w K mg base CX0 "_law_take" 1 g14 _ ["_law_pot_here", "_law_many"] (spTake) := ⟨ok__law_take F14 B  , PySem.W.mg_of X G a14, k14, b14⟩
  have E15 : Df l.prog w K mg base CX0 "_law_value" 2 g15 _ ["_law_pot_here", "_law_width", "_law_room"] (spVal3) := ⟨ok__law_value F15 B  E14, PySem.W.mg_of X G a15, k15, b15⟩
  have E16 : Df l.prog w K mg base CX0 "_law_numbers" 1 g16 _ ["_law_value_here"] (spNums) := ⟨ok__law_numbers F16 B  , PySem.W.mg_of X G a16, k16, b16⟩
  have E17 : Df l.prog w K mg base CX0 "_law_bits" 1 g17 _ ["_law_some", "_law_width"] (spBitsL K) := ⟨ok__law_bits F17 B  , PySem.W.mg_of X G a17, k17, b17⟩
  have E18 : Df l.prog w K mg base CX0 "_law_due" 2 g18 _ ["_law_word", "_law_a", "_law_b", "_law_width"] (spDue) := ⟨ok__law_due F18 B  E16 E17, PySem.W.mg_of X G a18, k18, b18⟩
  have E19 : Df l.prog w K mg base CX0 "_law_ways" 1 g19 _ ["_law_sign_here"] (spWays) := ⟨ok__law_ways F19 B  , PySem.W.mg_of X G a19, k19, b19⟩
  have E20 : Df l.prog w K mg base CX0 "_law_triples" 2 g20 _ ["_law_one", "_law_other", "_law_ahead"] (spTri K) := ⟨ok__law_triples F20 B  E19, PySem.W.mg_of X G a20, k20, b20⟩
  have E21 : Df l.prog w K mg base CX0 "_law_sign" 1 g21 _ ["_law_some"] (spSign K) := ⟨ok__law_sign F21 B  , PySem.W.mg_of X G a21, k21, b21⟩
  have E22 : Df l.prog w K mg base CX0 "_law_by_bits" 3 g22 _ ["_law_word", "_law_a", "_law_b"] (spBB) := ⟨ok__law_by_bits F22 B  E20 E21, PySem.W.mg_of X G a22, k22, b22⟩
  have E23 : Df l.prog w K mg base CX0 "_law_right" 6 g23 _ ["_law_word", "_law_a", "_law_b", "_law_width"] (spRight) := ⟨ok__law_right F23 B  E11 b11_0 v11_0 E22 E18, PySem.W.mg_of X G a23, k23, b23⟩
  exact ok_law F24 B  E13 E14 E15 E23
end Dw
open PySem PySem.W PyProof.Rows
set_option maxHeartbeats 0 in
theorem PySem.Challenge.cw_deltawires_k16_whole_numbers_by_all_fill_holds : PySem.Challenge.rw_deltawires_k16_whole_numbers_by_all_fill.Holds := by
  w_on; o_law; k_head; (case hw => w_witness2)
  k_fill
  refine L2.walk_of (l := PySem.Challenge.rw_deltawires_k16_whole_numbers_by_all_fill) (n := 63) (k := 7) (x := "_law_script") (CX := fun _ => L2.CX0) (sp := fun w => Dw.spLaw _) rfl (by decide) rfl ⟨rfl, by decide, by decide⟩ (fun w h Y => PySem.W.kIn_of Y) ?F (fun _ _ a ns hl _ hS => ⟨a, ns, rfl, hS, hl, fun _ => rfl⟩) (fun _ _ _ _ _ h => h)
  case F =>
    intro w mg fa h KX G hmg
    refine' Dw.all_mk KX G hmg ?a0 ?l0 ?c0 ?k0 ?a1 ?l1 ?c1 ?k1 ?a2 ?l2 ?c2 ?k2 ?a3 ?l3 ?c3 ?k3 ?a4 ?l4 ?c4 ?k4 ?a5 ?l5 ?c5 ?k5 ?a6 ?l6 ?c6 ?k6 ?a7 ?l7 ?c7 ?k7 ?a8 ?l8 ?c8 ?k8 ?a9 ?l9 ?c9 ?k9 ?a10 ?l10 ?c10 ?k10 ?a11 ?l11 ?c11 ?k11 ?d11_0 ?d11_1 ?a12 ?l12 ?c12 ?k12 ?a13 ?l13 ?c13 ?k13 ?a14 ?l14 ?c14 ?k14 ?a15 ?l15 ?c15 ?k15 ?a16 ?l16 ?c16 ?k16 ?a17 ?l17 ?c17 ?k17 ?a18 ?l18 ?c18 ?k18 ?a19 ?l19 ?c19 ?k19 ?a20 ?l20 ?c20 ?k20 ?a21 ?l21 ?c21 ?k21 ?a22 ?l22 ?c22 ?k22 ?a23 ?l23 ?c23 ?k23 ?a24 ?l24 ?c24 ?k24 ?z0 ?z1 ?z2 ?z3 ?z4 ?z5 ?z6 ?z7 ?z8 ?z9 ?z10 ?z11 ?y_A ?yl_A ?yk_A ?ye_plus ?ye_same ?ye_less ?y_T ?yl_T ?yk_T ?ye_T0 ?ye_T1 ?ye_Tx ?y_W ?yl_W
    (case a0 => k_is)
    (case l0 => k_is)
    (case c0 => k_is)
    (case k0 => k_is)
    (case a1 => k_is)
    (case l1 => k_is)
    (case c1 => k_is)
    (case k1 => k_is)
    (case a2 => k_is)
    (case l2 => k_is)
    (case c2 => k_is)
    (case k2 => k_is)
    (case a3 => k_is)
    (case l3 => k_is)
    (case c3 => k_is)
    (case k3 => k_is)
    (case a4 => k_is)
    (case l4 => k_is)
    (case c4 => k_is)
    (case k4 => k_is)
    (case a5 => k_is)
    (case l5 => k_is)
    (case c5 => k_is)
    (case k5 => k_is)
    (case a6 => k_is)
    (case l6 => k_is)
    (case c6 => k_is)
    (case k6 => k_is)
    (case a7 => k_is)
    (case l7 => k_is)
    (case c7 => k_is)
    (case k7 => k_is)
    (case a8 => k_is)
    (case l8 => k_is)
    (case c8 => k_is)
    (case k8 => k_is)
    (case a9 => k_is)
    (case l9 => k_is)
    (case c9 => k_is)
    (case k9 => k_is)
    (case a10 => k_is)
    (case l10 => k_is)
    (case c10 => k_is)
    (case k10 => k_is)
    (case a11 => k_is)
    (case l11 => k_is)
    (case c11 => k_is)
    (case k11 => k_is)
    (case d11_0 => k_is)
    (case d11_1 => k_is)
    (case a12 => k_is)
    (case l12 => k_is)
    (case c12 => k_is)
    (case k12 => k_is)
    (case a13 => k_is)
    (case l13 => k_is)
    (case c13 => k_is)
    (case k13 => k_is)
    (case a14 => k_is)
    (case l14 => k_is)
    (case c14 => k_is)
    (case k14 => k_is)
    (case a15 => k_is)
    (case l15 => k_is)
    (case c15 => k_is)
    (case k15 => k_is)
    (case a16 => k_is)
    (case l16 => k_is)
    (case c16 => k_is)
    (case k16 => k_is)
    (case a17 => k_is)
    (case l17 => k_is)
    (case c17 => k_is)
    (case k17 => k_is)
    (case a18 => k_is)
    (case l18 => k_is)
    (case c18 => k_is)
    (case k18 => k_is)
    (case a19 => k_is)
    (case l19 => k_is)
    (case c19 => k_is)
    (case k19 => k_is)
    (case a20 => k_is)
    (case l20 => k_is)
    (case c20 => k_is)
    (case k20 => k_is)
    (case a21 => k_is)
    (case l21 => k_is)
    (case c21 => k_is)
    (case k21 => k_is)
    (case a22 => k_is)
    (case l22 => k_is)
    (case c22 => k_is)
    (case k22 => k_is)
    (case a23 => k_is)
    (case l23 => k_is)
    (case c23 => k_is)
    (case k23 => k_is)
    (case a24 => k_is)
    (case l24 => k_is)
    (case c24 => k_is)
    (case k24 => k_is)
    (case z0 => k_is)
    (case z1 => k_is)
    (case z2 => k_is)
    (case z3 => k_is)
    (case z4 => k_is)
    (case z5 => k_is)
    (case z6 => k_is)
    (case z7 => k_is)
    (case z8 => k_is)
    (case z9 => k_is)
    (case z10 => k_is)
    (case z11 => k_is)
    (case y_A => k_is)
    (case yl_A => k_is)
    (case yk_A => k_keys)
    (case ye_plus => k_is)
    (case ye_same => k_is)
    (case ye_less => k_is)
    (case y_T => k_is)
    (case yl_T => k_is)
    (case yk_T => k_keys)
    (case ye_T0 => k_is)
    (case ye_T1 => k_is)
    (case ye_Tx => k_is)
    (case y_W => k_is)
    (case yl_W => k_is)
