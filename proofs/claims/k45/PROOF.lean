import PyProof.Rows.All
import Wide.All
import OpenK.AllK
import Wide.FinOn
import HandS.ForMost
import HandS.Evl
import HandS.Walk
import HandS.Steps
import HandS.IsInst
import HandS.Defaults
import HandS.More
import HandS.ReplaceLit
import HandS.ReplaceDef
import HandS.ReplaceList
import HandS.Star
import HandS.CallLocal
import HandS.Style
import KE.GoesNew
import PyProof.Rows.SortShellAny
import HandS.Strs
import HandS.SetFor
import KE.KTupSum
import KE.OsArith
import HandS.WideBits
import HandS.DictComp
import HandS.Finally
import HandS.Conv
import KE.KDictZip
import KE.GoesZip
import KE.GoesMore
import PyProof.SeqRoads2
import PyProof.DictUpdate
import KE.KEqNest
import HandS.TupAny
import HandS.Deep
import PySem.Challenge.RW_deltawires_k45_whole_bodies_hold
set_option Elab.async false
set_option linter.all false
set_option maxRecDepth 100000
namespace Dw
open PySem L2 Evl
/-! ### general words -/
def GlV (mg : Str → Option Value) (x : Str) (v : V) : Prop := ∃ u, mg x = some u ∧ RelV v u
theorem pgl {X : Cx} {x : Str} {v : V} {pos : Pos} (hg : Gl X x) (h : GlV X.mg x v) (hd : (x == ("__debug__" : Str)) = false := by decide) : PE X (.Name x pos) (tC v) :=
  let ⟨_, a, b⟩ := h
  pe_glob hg a b hd
/-- a def as callers know it -/
structure Df (P : Program) (w : World) (K : PySem.W.Frag) (mg : Str → Option Value) (base : Heap) (CX : CXT) (x : Str) (k : Nat) (f : Addr) (fd : FuncData) (ps : List Str) (sp : Sp) : Prop where
  ok : FnOk P w K mg base CX k f fd ps sp
  g : mg x = some (.ref f)
  kp : PySem.W.keepIn K (.ref f) = true
  b : Binds K fd ps []
/-- all but what stands at p is as it was -/
def ExB (p : Addr) (H H' : Hp) : Prop := ∀ b o, b ≠ p → H b = some o → H' b = some o
theorem ExB.refl (p : Addr) (H : Hp) : ExB p H H := fun _ _ _ h => h
theorem ExB.trans {p : Addr} {H H1 H2 : Hp} (a : ExB p H H1) (b : ExB p H1 H2) : ExB p H H2 := fun c o n h => b c o n (a c o n h)
theorem ExB.of {p : Addr} {H H' : Hp} (e : Ex H H') : ExB p H H' := fun b o _ h => e b o h
theorem ExB.upd {p : Addr} {H H' : Hp} {o : HO} (e : ExB p H H') : ExB p H (upd H' p o) := fun b u n h => by
  rw [upd_ne n]
  exact e b u n h
theorem ExB.back {p : Addr} {H0 H H' : Hp} (e0 : Ex H0 H) (hp : H0 p = none) (e : ExB p H H') : Ex H0 H' := fun b o h => e b o (ne_of_none h hp) (e0 b o h)
theorem ExB.rd {p a : Addr} {H H' : Hp} {u : HO} (e : ExB p H H') (n : a ≠ p) (h : Rd H a u) : Rd H' a u := by
  rcases h with h | ⟨o, h⟩
  · exact Or.inl (e a _ n h)
  · exact Or.inr ⟨o, e a _ n h⟩
theorem ExB.sq {K : PySem.W.Frag} {p a : Addr} {xs : List V} {H H' : Hp} (e : ExB p H H') (n : a ≠ p) (h : SqL K H a xs) : SqL K H' a xs := by
  rcases h with h | h
  · exact Or.inl (e.rd n h)
  · exact Or.inr h
/-- the pot: two numbers, of which take draws -/
def PotAt (H : Hp) (p : Addr) : Prop := ∃ x y : Int, H p = some (.lst [.int x, .int y]) ∧ 0 ≤ x ∧ 0 ≤ y ∧ y < 2147483647
theorem PotAt.ex {H H' : Hp} {p : Addr} (h : PotAt H p) (e : Ex H H') : PotAt H' p := by
  obtain ⟨x, y, h1, h2⟩ := h
  exact ⟨x, y, e _ _ h1, h2⟩
def spAt (K : PySem.W.Frag) : Sp := fun vs H Q _ => ∃ (a : Addr) (ns : List Int) (k : Int), vs = [.ref a, .int k] ∧ SqL K H a (ns.map V.int) ∧ 0 ≤ k ∧ ∀ c : Int, Q (.int c) H
def spPot (K : PySem.W.Frag) : Sp := fun vs H Q _ => ∃ (a : Addr) (ns : List Int) (k : Int), vs = [.ref a, .int k] ∧ SqL K H a (ns.map V.int) ∧ 0 ≤ k ∧ k ≤ 1000 ∧ ∀ (p : Addr) (H' : Hp), H p = none → Ex H H' → PotAt H' p → Q (.ref p) H'
def spTake : Sp := fun vs H Q _ => ∃ (p : Addr) (m : Int), vs = [.ref p, .int m] ∧ PotAt H p ∧ 0 < m ∧ m < 1073741824 ∧ ∀ (H' : Hp) (d : Int), ExB p H H' → PotAt H' p → 0 ≤ d → d < m → Q (.int d) H'
theorem at_map {ns : List Int} {k : Int} (h0 : 0 ≤ k) (h1 : k < ((ns.map V.int).length : Int)) : ∃ c : Int, atI (ns.map V.int) k = some (.int c) := by
  obtain ⟨j, rfl⟩ := Int.eq_ofNat_of_zero_le h0
  have h2 : j < ns.length := by
    rw [List.length_map] at h1
    omega
  refine ⟨ns[j], atI_nat ?_⟩
  rw [List.getElem?_map, List.getElem?_eq_getElem h2]
  rfl
/-! ### texts by their codes -/
abbrev Tx (l : List Nat) : Str := ⟨l.toArray⟩
theorem Tx_len (l : List Nat) : (Tx l).length = l.length := by simp [Tx, Str.length]
theorem Tx_tl (x : Str) : Tx x.cps.toList = x := TL.mk_tl x
theorem Tx_inj {a b : List Nat} (h : Tx a = Tx b) : a = b := congrArg (fun x : Str => x.cps.toList) h
theorem Tx_cat (a b : List Nat) : Tx a ++ Tx b = Tx (a ++ b) := TL.ext_tl (TL.tl_append (Tx a) (Tx b))
theorem joinL_ones : ∀ l : List Nat, TL.joinL [] (l.map fun c => [c]) = l
  | [] => rfl
  | [_] => rfl
  | c :: d :: r => by
    show [c] ++ ([] ++ TL.joinL [] ((d :: r).map fun c => [c])) = c :: d :: r
    rw [joinL_ones (d :: r)]
    rfl
theorem tl_empty : TL.tl (Str.ofString "") = [] := by decide +kernel
theorem join_ones (l : List Nat) : Txt.join (Str.ofString "") (l.map fun c => Tx [c]) = Tx l := by
  refine TL.ext_tl ?_
  rw [TL.join_eq, TL.tl_join, tl_empty, List.map_map]
  show TL.joinL [] (l.map fun c => [c]) = l
  exact joinL_ones l
theorem ones_len (l : List Nat) : ((l.map fun c => Tx [c]).map (·.length)).sum + (l.map fun c => Tx [c]).length * (Str.ofString "").length = l.length := by
  have e : (Str.ofString "").length = 0 := by decide +kernel
  rw [e, Nat.mul_zero, Nat.add_zero]
  induction l with
  | nil => rfl
  | cons c l ih =>
    rw [List.map_cons, List.map_cons, List.sum_cons, ih, Tx_len]
    simp
    omega
theorem map_strs (l : List Nat) : (l.map fun c => Tx [c]).map V.str = l.map fun c => V.str (Tx [c]) := by
  rw [List.map_map]
  rfl
/-! ### comprehensions by lists -/
theorem range_getD {α : Type} (l : List α) (d : α) : (List.range l.length).map (fun i => l.getD i d) = l := by
  apply List.ext_getElem
  · simp
  · intro i h1 h2
    simp at h1
    simp [h1]
theorem given_list {α : Type} (l : List α) (d : α) (p : α → Bool) (g : α → V) : given l.length (fun i => p (l.getD i d)) (fun i => g (l.getD i d)) = (l.filter p).map g := by
  unfold given
  have e : l.filter p = ((List.range l.length).map (fun i => l.getD i d)).filter p := by rw [range_getD]
  rw [e, List.filter_map, List.map_map]
  rfl
theorem given_all {α : Type} (l : List α) (d : α) (g : α → V) : given l.length (fun _ => true) (fun i => g (l.getD i d)) = l.map g := by
  have e := given_list l d (fun _ => true) g
  rw [List.filter_eq_self.mpr (fun _ _ => rfl)] at e
  exact e
section
variable {K : PySem.W.Frag} {σ : L2.St} {H H' : Hp} {ta tb te tx tl : TE} {t u : TT} {x y z v : V}
theorem el_lcS {z : Str} {j : Nat} {vs : List Nat} (f : Nat → Bool) (v : Nat → V) (h : Ev tl σ H (.str z)) (hz : z.cps.size ≤ 40000) (hw : ∀ x, wipe ((wipe σ vs).set j (some x)) vs = wipe σ vs)
    (ht : ∀ (i : Nat) (c : Nat) H1, Ex H H1 → z.cps[i]? = some c → EvT t ((wipe σ vs).set j (some (.str ⟨#[c]⟩))) H1 (f i)) (he : ∀ (i : Nat) (c : Nat) H1, Ex H H1 → z.cps[i]? = some c → f i = true → Ev te ((wipe σ vs).set j (some (.str ⟨#[c]⟩))) H1 (v i)) :
    EvL (tLc (iStr tl) (gName j) t te vs) σ H (given z.cps.size f v) := fun H0 e Q q => h H0 e _ fun H1 e1 => ⟨z, rfl, fun Dl hD =>
  lc_it walk_str (Cw H1 f v Dl) ⟨hD, Ex.new hD, upd_same⟩ (fun _ _ _ _ => True.intro) (fun i x H2 H3 hi p y => by
    obtain ⟨rfl, c, hc, rfl⟩ := y
    exact ⟨hw _, cw_turn p (by omega) (ht i c H1 (e.trans e1) hc) (fun hf => he i c H1 (e.trans e1) hc hf)⟩)
    (fun H' p => q Dl H' (fresh_back e1 p.1) (e1.trans p.2.1) p.2.2)⟩
/-- over a text: p tells which codes, g what of each -/
theorem el_lcT {l : List Nat} {j : Nat} {vs : List Nat} (p : Nat → Bool) (g : Nat → V) (h : Ev tl σ H (.str (Tx l))) (hz : l.length ≤ 40000) (hw : ∀ x, wipe ((wipe σ vs).set j (some x)) vs = wipe σ vs)
    (ht : ∀ (c : Nat) H1, Ex H H1 → c ∈ l → EvT t ((wipe σ vs).set j (some (.str (Tx [c])))) H1 (p c)) (he : ∀ (c : Nat) H1, Ex H H1 → c ∈ l → p c = true → Ev te ((wipe σ vs).set j (some (.str (Tx [c])))) H1 (g c)) :
    EvL (tLc (iStr tl) (gName j) t te vs) σ H ((l.filter p).map g) := by
  have hs : (Tx l).cps.size = l.length := Tx_len l
  have key : ∀ (i c : Nat), (Tx l).cps[i]? = some c → l.getD i 0 = c ∧ c ∈ l := fun i c hc => by
    have h1 : l[i]? = some c := by
      rw [← hc]
      simp [Tx]
    exact ⟨by rw [List.getD_eq_getElem?_getD, h1]; rfl, List.mem_of_getElem? h1⟩
  rw [← given_list l 0 p g, ← hs]
  refine el_lcS (fun i => p (l.getD i 0)) (fun i => g (l.getD i 0)) h (by omega) hw (fun i c H1 e hc => ?_) (fun i c H1 e hc hf => ?_)
  · obtain ⟨e1, e2⟩ := key i c hc
    simp only [e1]
    exact ht c H1 e e2
  · obtain ⟨e1, e2⟩ := key i c hc
    simp only [e1] at hf ⊢
    exact he c H1 e e2 hf
theorem et_yes : EvT tYes σ H true := fun H1 _ _ q => q H1 (Ex.refl H1)
theorem ev_cbL {r : List V → Hp → VK → Prop} {xs : List V} (h : EvL te σ H xs) (hr : ∀ p H1, H1 p = some (.lst xs) → Ex H H1 → RC r [.ref p] H1 z) : Ev (tCB r (tCons te tNil)) σ H z := fun H1 e Q q =>
  h H1 e _ fun p H2 _ e2 h2 => hr p H2 h2 (e.trans e2) H2 (Ex.refl _) Q fun H3 e3 => q H3 (e2.trans e3)
theorem ev_all {bs : List Bool} (h : EvL te σ H (bs.map V.bl)) : Ev (tCB (rAll K) (tCons te tNil)) σ H (.bl (bs.all id)) :=
  ev_cbL h fun p _ hp _ H2 e2 _ q => ⟨p, bs, rfl, sq_of (e2 p _ hp), q H2 (Ex.refl _)⟩
def rJoinS (K : PySem.W.Frag) : V → List V → Hp → VK → Prop := fun x xs H Q => ∃ a p, ∃ ys : List Str, x = .str a ∧ xs = [.ref p] ∧ (SqL K H p (ys.map V.str) ∨ SqT K H p (ys.map V.str)) ∧
      (ys.map (·.length)).sum + ys.length * a.length ≤ 16777216 ∧ Q (.str (Txt.join a ys)) H
/-- ''.join of a new list of signs -/
theorem ev_join1 {l : List Nat} (h : EvL te σ H (l.map fun c => V.str (Tx [c]))) (hz : l.length ≤ 40000) : Ev (tM1 (rJoinS K) (tC (.str (Str.ofString ""))) te) σ H (.str (Tx l)) := fun H1 e Q q =>
  ⟨⟨_, rfl⟩, h H1 e _ fun p H2 _ e2 h2 => ⟨Str.ofString "", p, l.map fun c => Tx [c], rfl, rfl, Or.inl (sq_of (by rw [map_strs]; exact h2)), by rw [ones_len]; omega, by rw [join_ones]; exact q H2 e2⟩⟩
theorem ev_inS {c : Nat} {w : Str} (ha : Ev ta σ H (.str (Tx [c]))) (hb : Ev tb σ H (.str w)) : Ev (tOp rInS ta tb) σ H (.bl (decide (c ∈ w.cps.toList))) :=
  ev_op ha hb fun H1 _ _ q => ⟨c, w, rfl, rfl, q H1 (Ex.refl _)⟩
theorem ev_notInS {c : Nat} {w : Str} (ha : Ev ta σ H (.str (Tx [c]))) (hb : Ev tb σ H (.str w)) : Ev (tOp rNotInS ta tb) σ H (.bl (!decide (c ∈ w.cps.toList))) :=
  ev_op ha hb fun H1 _ _ q => ⟨c, w, rfl, rfl, q H1 (Ex.refl _)⟩
def rLenT : List V → Hp → VK → Prop := fun xs H Q => ∃ z, xs = [.str z] ∧ z.length ≤ sizeLine ∧ Q (.int z.length) H
theorem ev_lenT {l : List Nat} (ha : Ev ta σ H (.str (Tx l))) (hz : l.length ≤ 40000) : Ev (tCB rLenT (tCons ta tNil)) σ H (.int (l.length : Int)) := fun H1 e Q q =>
  ha H1 e _ fun H2 e2 => ⟨Tx l, rfl, sz_of (by rw [Tx_len]; omega), by rw [Tx_len]; exact q H2 e2⟩
end
/-! ### lists of texts and of numbers compared -/
theorem dpAll_strs {K : PySem.W.Frag} {H : Hp} : ∀ xs : List Str, DpAll K H (xs.map V.str) (xs.map PyData.str)
  | [] => .nil
  | x :: xs => .cons (.str x) (dpAll_strs xs)
theorem dpAll_ints {K : PySem.W.Frag} {H : Hp} : ∀ xs : List Int, DpAll K H (xs.map V.int) (xs.map PyData.int)
  | [] => .nil
  | x :: xs => .cons (.int x) (dpAll_ints xs)
theorem dpAll_bls {K : PySem.W.Frag} {H : Hp} : ∀ xs : List Bool, DpAll K H (xs.map V.bl) (xs.map PyData.bool)
  | [] => .nil
  | x :: xs => .cons (.bl x) (dpAll_bls xs)
theorem eqvAll_strs : ∀ xs ys : List Str, PyData.eqvAll (xs.map PyData.str) (ys.map PyData.str) = decide (xs = ys)
  | [], [] => by simp [PyData.eqvAll]
  | [], y :: ys => by simp [PyData.eqvAll]
  | x :: xs, [] => by simp [PyData.eqvAll]
  | x :: xs, y :: ys => by
    have ih := eqvAll_strs xs ys
    simp only [List.map_cons, PyData.eqvAll, PyData.eqv, ih]
    rw [Bool.eq_iff_iff]
    simp
theorem eqvAll_ints : ∀ xs ys : List Int, PyData.eqvAll (xs.map PyData.int) (ys.map PyData.int) = decide (xs = ys)
  | [], [] => by simp [PyData.eqvAll]
  | [], y :: ys => by simp [PyData.eqvAll]
  | x :: xs, [] => by simp [PyData.eqvAll]
  | x :: xs, y :: ys => by
    have ih := eqvAll_ints xs ys
    simp only [List.map_cons, PyData.eqvAll, PyData.eqv, ih]
    rw [Bool.eq_iff_iff]
    simp
theorem eqvAll_bls : ∀ xs ys : List Bool, PyData.eqvAll (xs.map PyData.bool) (ys.map PyData.bool) = decide (xs = ys)
  | [], [] => by simp [PyData.eqvAll]
  | [], y :: ys => by simp [PyData.eqvAll]
  | x :: xs, [] => by simp [PyData.eqvAll]
  | x :: xs, y :: ys => by
    have ih := eqvAll_bls xs ys
    simp only [List.map_cons, PyData.eqvAll, PyData.eqv, ih]
    rw [Bool.eq_iff_iff]
    simp
def LowS (x : Str) : Prop := PyData.canLay0 (.str x) = true
theorem lay_strs : ∀ {xs : List Str}, (∀ x ∈ xs, LowS x) → PyData.canLayAll0 (xs.map PyData.str) = true
  | [], _ => by simp [PyData.canLayAll0]
  | x :: xs, h => by
    rw [List.map_cons, PyData.canLayAll0, h x (List.mem_cons_self ..), lay_strs fun y hy => h y (List.mem_cons_of_mem _ hy)]
    rfl
theorem lay_ints : ∀ xs : List Int, PyData.canLayAll0 (xs.map PyData.int) = true
  | [] => by simp [PyData.canLayAll0]
  | x :: xs => by
    rw [List.map_cons, PyData.canLayAll0, lay_ints xs]
    simp [PyData.canLay0]
theorem lay_bls : ∀ xs : List Bool, PyData.canLayAll0 (xs.map PyData.bool) = true
  | [] => by simp [PyData.canLayAll0]
  | x :: xs => by
    rw [List.map_cons, PyData.canLayAll0, lay_bls xs]
    simp [PyData.canLay0]
theorem deep_strs : ∀ xs : List Str, PyData.depthAll (xs.map PyData.str) = 0
  | [] => by simp [PyData.depthAll]
  | x :: xs => by
    rw [List.map_cons, PyData.depthAll, deep_strs xs]
    simp [PyData.depth]
theorem deep_ints : ∀ xs : List Int, PyData.depthAll (xs.map PyData.int) = 0
  | [] => by simp [PyData.depthAll]
  | x :: xs => by
    rw [List.map_cons, PyData.depthAll, deep_ints xs]
    simp [PyData.depth]
theorem deep_bls : ∀ xs : List Bool, PyData.depthAll (xs.map PyData.bool) = 0
  | [] => by simp [PyData.depthAll]
  | x :: xs => by
    rw [List.map_cons, PyData.depthAll, deep_bls xs]
    simp [PyData.depth]
theorem shaped_strs {xs : List Str} (h : ∀ x ∈ xs, LowS x) : SeqAt.shaped (.list (xs.map PyData.str)) = true := by
  unfold SeqAt.shaped
  rw [PyData.canLay0, lay_strs h, PyData.depth, deep_strs]
  rfl
theorem shaped_ints (xs : List Int) : SeqAt.shaped (.list (xs.map PyData.int)) = true := by
  unfold SeqAt.shaped
  rw [PyData.canLay0, lay_ints, PyData.depth, deep_ints]
  rfl
theorem shaped_bls (xs : List Bool) : SeqAt.shaped (.list (xs.map PyData.bool)) = true := by
  unfold SeqAt.shaped
  rw [PyData.canLay0, lay_bls, PyData.depth, deep_bls]
  rfl
theorem low_Tx {l : List Nat} (h : ∀ c ∈ l, c < 128) : LowS (Tx l) := by
  unfold LowS
  rw [PyData.canLay0]
  unfold PyData.strOk
  first
    | (simp only [Tx, List.all_toArray, List.all_eq_true]; intro c hc; have := h c hc; simp; omega)
    | (simp [Tx]; intro c hc; have := h c hc; omega)
section
variable {K : PySem.W.Frag} {H : Hp}
theorem rv_eqStrs {p q : Addr} {xs ys : List Str} (h1 : SqL K H p (xs.map V.str)) (h2 : SqL K H q (ys.map V.str)) (l1 : ∀ x ∈ xs, LowS x) (l2 : ∀ x ∈ ys, LowS x) : RV (rEqD K) (.ref p) (.ref q) H (.bl (decide (xs = ys))) := fun H1 e Q k =>
  ⟨_, _, .lst (ex_l e h1) (dpAll_strs xs), .lst (ex_l e h2) (dpAll_strs ys), shaped_strs l1, shaped_strs l2, by rw [PyData.eqv, eqvAll_strs]; exact k H1 (Ex.refl _)⟩
theorem rv_neStrs {p q : Addr} {xs ys : List Str} (h1 : SqL K H p (xs.map V.str)) (h2 : SqL K H q (ys.map V.str)) (l1 : ∀ x ∈ xs, LowS x) (l2 : ∀ x ∈ ys, LowS x) : RV (rNeD K) (.ref p) (.ref q) H (.bl (!decide (xs = ys))) := fun H1 e Q k =>
  ⟨_, _, .lst (ex_l e h1) (dpAll_strs xs), .lst (ex_l e h2) (dpAll_strs ys), shaped_strs l1, shaped_strs l2, by rw [PyData.eqv, eqvAll_strs]; exact k H1 (Ex.refl _)⟩
theorem rv_eqInts {p q : Addr} {xs ys : List Int} (h1 : SqL K H p (xs.map V.int)) (h2 : SqL K H q (ys.map V.int)) : RV (rEqD K) (.ref p) (.ref q) H (.bl (decide (xs = ys))) := fun H1 e Q k =>
  ⟨_, _, .lst (ex_l e h1) (dpAll_ints xs), .lst (ex_l e h2) (dpAll_ints ys), shaped_ints xs, shaped_ints ys, by rw [PyData.eqv, eqvAll_ints]; exact k H1 (Ex.refl _)⟩
theorem rv_neBls {p q : Addr} {xs ys : List Bool} (h1 : SqL K H p (xs.map V.bl)) (h2 : SqL K H q (ys.map V.bl)) : RV (rNeD K) (.ref p) (.ref q) H (.bl (!decide (xs = ys))) := fun H1 e Q k =>
  ⟨_, _, .lst (ex_l e h1) (dpAll_bls xs), .lst (ex_l e h2) (dpAll_bls ys), shaped_bls xs, shaped_bls ys, by rw [PyData.eqv, eqvAll_bls]; exact k H1 (Ex.refl _)⟩
theorem rv_eqBls {p q : Addr} {xs ys : List Bool} (h1 : SqL K H p (xs.map V.bl)) (h2 : SqL K H q (ys.map V.bl)) : RV (rEqD K) (.ref p) (.ref q) H (.bl (decide (xs = ys))) := fun H1 e Q k =>
  ⟨_, _, .lst (ex_l e h1) (dpAll_bls xs), .lst (ex_l e h2) (dpAll_bls ys), shaped_bls xs, shaped_bls ys, by rw [PyData.eqv, eqvAll_bls]; exact k H1 (Ex.refl _)⟩
end
section
variable {K : PySem.W.Frag} {σ : L2.St} {H H' : Hp} {ta tb tc te tx tl : TE} {t u : TT} {x y z v : V}
theorem ev_chain {r r' : R2} {w' : V} {k k2 : Bool} (ha : Ev ta σ H x) (hb : Ev tb σ H y) (h1 : RV r x y H (.bl k)) (h2 : k = true → Ev tc σ H w' ∧ RV r' y w' H (.bl k2)) : Ev (tChain r r' ta tb tc) σ H (.bl (k && k2)) := fun H1 e Q q =>
  ha H1 e _ fun H2 e2 => hb H2 (e.trans e2) _ fun H3 e3 => h1 H3 ((e.trans e2).trans e3) _ fun H4 e4 => ⟨k, rfl, by
    cases k with
    | true =>
      obtain ⟨hc, h3⟩ := h2 rfl
      show tc σ H4 fun w' H4 => r' y w' H4 Q
      exact hc H4 (((e.trans e2).trans e3).trans e4) _ fun H5 e5 => h3 H5 ((((e.trans e2).trans e3).trans e4).trans e5) Q fun H6 e6 => q H6 ((((e2.trans e3).trans e4).trans e5).trans e6)
    | false =>
      show Q (.bl false) H4
      exact q H4 ((e2.trans e3).trans e4)⟩
theorem ev_isi {T : String} {b : Bool} (ha : Ev ta σ H v) (hb : Ev tb σ H (.ty T)) (ty : ∀ H1, Ex H H1 → ∃ t, TyX K H1 v (.type t) ∧ kitB t T = some b) : Ev (tCB (rIsi K) (tCons ta (tCons tb tNil))) σ H (.bl b) := fun H1 e Q q =>
  ha H1 e _ fun H2 e2 => hb H2 (e.trans e2) _ fun H3 e3 => by
    obtain ⟨t, h1, h2⟩ := ty H3 ((e.trans e2).trans e3)
    exact ⟨v, .ty T, .type t, .type T, b, rfl, .ty T, h1, kit_ty h2, q H3 (e2.trans e3)⟩
theorem ev_eqS {r : R2} (ha : Ev ta σ H x) (hb : Ev tb σ H y) (h : RV r x y H z) : Ev (tOp r ta tb) σ H z := ev_op ha hb h
end
theorem op_mulS {X : Cx} : OpR X (binaryOp .Mult) (fun x y H Q => ∃ a i, x = .str a ∧ y = .int i ∧ MulOk a i ∧ Q (.str (Txt.mul a i)) H) := by
  intro pins s σ H x y v u Q I rx ry h
  obtain ⟨a, i, rfl, rfl, hm, q⟩ := h
  obtain ⟨t, rfl⟩ := rx
  obtain ⟨t', rfl⟩ := ry
  exact SB.mul hm fun t' k => ⟨.str (Txt.mul a i), H, I.tok _, ⟨_, rfl⟩, q⟩
structure DfD (P : Program) (w : World) (K : PySem.W.Frag) (mg : Str → Option Value) (base : Heap) (CX : CXT) (x : Str) (k : Nat) (f : Addr) (fd : FuncData) (ps : List Str) (sp : Sp) : Prop where
  ok : FnOk P w K mg base CX k f fd ps sp
  g : mg x = some (.ref f)
  kp : PySem.W.keepIn K (.ref f) = true
section
variable {K : PySem.W.Frag} {σ : L2.St} {H H' : Hp} {ta tb tc te tx tl : TE} {t u : TT} {x y z v : V}
theorem el_lcT1 {l : List Nat} {j : Nat} {vs : List Nat} (g : Nat → V) (h : Ev tl σ H (.str (Tx l))) (hz : l.length ≤ 40000) (hw : ∀ x, wipe ((wipe σ vs).set j (some x)) vs = wipe σ vs)
    (he : ∀ (c : Nat) H1, Ex H H1 → c ∈ l → Ev te ((wipe σ vs).set j (some (.str (Tx [c])))) H1 (g c)) :
    EvL (tLc (iStr tl) (gName j) tYes te vs) σ H (l.map g) := by
  have e := el_lcT (fun _ => true) g h hz hw (fun c H1 _ _ => et_yes) (fun c H1 e hc _ => he c H1 e hc)
  rw [List.filter_eq_self.mpr (fun _ _ => rfl)] at e
  exact e
theorem ev_callN {sp : Sp} {n m : Nat} {gV : List V → List V → List V} {E : XK} {tA tK : TA} {vs zs : List V} (h : EvA tA σ H vs) (hk : EvA tK σ H zs) (l1 : vs.length = n) (l2 : zs.length = m) (hs : SpV sp (gV vs zs) H z) : Ev (tCallN n m sp gV E tA tK) σ H z := fun H1 e Q q =>
  h H1 e _ fun H2 e2 => hk H2 (e.trans e2) _ fun H3 e3 => ⟨l1, l2, hs H3 ((e.trans e2).trans e3) Q (fun H4 e4 => q H4 ((e2.trans e3).trans e4)) E⟩
end
theorem ExB.mut {p D : Addr} {H H' : Hp} {o : HO} (e : ExB p H H') (h : H D = none) : ExB p H (L2.upd H' D o) := fun b u n hb => by
  rw [upd_ne (ne_of_none hb h)]
  exact e b u n hb
theorem PotAt.upd {H : Hp} {p D : Addr} {o : HO} (h : PotAt H p) (n : D ≠ p) : PotAt (L2.upd H D o) p := by
  obtain ⟨x, y, h1, h2⟩ := h
  exact ⟨x, y, (upd_ne n.symm).trans h1, h2⟩
theorem PotAt.ne {H : Hp} {p D : Addr} (h : PotAt H p) (n : H D = none) : D ≠ p := fun z => by
  obtain ⟨x, y, h1, _⟩ := h
  rw [z, h1] at n
  cases n
theorem at_sign {l : List Nat} {d : Int} (h0 : 0 ≤ d) (h1 : d < (l.length : Int)) : ∃ c, atI (Tx l).cps.toList d = some c ∧ c ∈ l := by
  obtain ⟨j, rfl⟩ := Int.eq_ofNat_of_zero_le h0
  have h2 : j < l.length := by omega
  refine ⟨l[j], atI_nat ?_, List.getElem_mem h2⟩
  show l[j]? = some l[j]
  exact List.getElem?_eq_getElem h2
def sgn : List Nat := [48, 49, 120, 122]
theorem e_sgn : (Str.ofString "01xz").cps.toList = sgn := by decide +kernel
/-! ### zip of two texts -/
def Itzs (x y : Str) : It := ⟨fun i _ => i < min x.cps.size y.cps.size,
  fun i H v H' => ∃ T c d, v = .ref T ∧ H T = none ∧ H' = upd H T (.tup [.str ⟨#[c]⟩, .str ⟨#[d]⟩]) ∧ x.cps[i]? = some c ∧ y.cps[i]? = some d,
  fun i _ => i = min x.cps.size y.cps.size⟩
theorem turn_zipS {P : Program} {w : World} {K : PySem.W.Frag} {elts : List Expr} {kk : Nat} {tpos : Pos} {z TI TO j1 j2 : Addr} {x y : Str} {t u : Tok} (D : ZipSep2 z TI TO j1 j2 [j1] [j2]) :
    Turn P w K (.Tuple elts kk tpos) (Itzs x y) [z, TI, TO, j1, j2] z (fun i h => IsZip h z TI TO .none ∧ IsTupOf2 h TI (.ref j1) (.ref j2) ∧ (∃ a1 a2, IsTupOf2 h TO a1 a2) ∧ h.IsStrIter j1 (strIterType x) x t i ∧ h.IsStrIter j2 (strIterType y) y u i) where
  mem := by simp
  obj := fun i h st c hc => by
    obtain ⟨hz, h1, ⟨a1, a2, h2⟩, ⟨o1, e1, _, d1⟩, ⟨o2, e2, _, d2⟩⟩ := st
    simp only [List.mem_cons, List.not_mem_nil, or_false] at hc
    rcases hc with rfl | rfl | rfl | rfl | rfl
    · exact ⟨_, hz, fun v q => nomatch q⟩
    · exact ⟨_, h1, fun v q => nomatch q⟩
    · exact ⟨_, h2, fun v q => nomatch q⟩
    · exact ⟨o1, e1, fun v q => by rw [d1] at q; cases q⟩
    · exact ⟨o2, e2, fun v q => by rw [d2] at q; cases q⟩
  keep := fun i h h' st k => by
    obtain ⟨hz, h1, ⟨a1, a2, h2⟩, ⟨o1, e1, r1⟩, ⟨o2, e2, r2⟩⟩ := st
    exact ⟨k z (by simp) _ hz, k TI (by simp) _ h1, ⟨a1, a2, k TO (by simp) _ h2⟩, ⟨o1, k j1 (by simp) _ e1, r1⟩, ⟨o2, k j2 (by simp) _ e2, r2⟩⟩
  item := by
    intro X hP hw hK hc i pins s σ H E I hf st hg
    subst hP hw hK
    have hh : X.A.handled = none := I.ok.hd hc
    have W := GoesN.zip2 (elts := elts) (x1 := kk) (pos := tpos) (A := X.A) D (Draws.text (prog := X.prog) (w := X.w) (A := X.A.in1) hh j1 x t) (Draws.text (prog := X.prog) (w := X.w) (A := X.A.in1) hh j2 y u)
    refine wpAny_mono (W.goes i s (fun v s2 => ∃ x' H', Inv X pins σ H' s2 ∧ RelV x' v ∧ (Itzs x y).yld i H x' H' ∧ (IsZip s2.heap z TI TO .none ∧ IsTupOf2 s2.heap TI (.ref j1) (.ref j2) ∧ (∃ a1 a2, IsTupOf2 s2.heap TO a1 a2) ∧ s2.heap.IsStrIter j1 (strIterType x) x t (i + 1) ∧ s2.heap.IsStrIter j2 (strIterType y) y u (i + 1)) ∧ ∀ b ∈ [z, TI, TO, j1, j2], H' b = none) E hg st fun v h' tk hY st' hk _ => ?_) (fun r s1 q => q) fun _ _ e => e
    obtain ⟨T, xv, yv, rfl, hn, ⟨c, u1, hc1, rfl⟩, ⟨d, u2, hc2, rfl⟩, hT⟩ := hY
    obtain ⟨o, ho, hcl, n, hd⟩ := hT
    have new : ObjOk X.prog X.w (upd H T (.tup [.str ⟨#[c]⟩, .str ⟨#[d]⟩])) h' T (.tup [.str ⟨#[c]⟩, .str ⟨#[d]⟩]) :=
      ⟨by show 2 ≤ sizeLine; decide, [.str ⟨#[c]⟩ u1, .str ⟨#[d]⟩ u2], .cons ⟨u1, rfl⟩ (.cons ⟨u2, rfl⟩ .nil), ⟨o, ho, hcl, n, hd⟩⟩
    have I1 : Inv X pins σ (upd H T (.tup [.str ⟨#[c]⟩, .str ⟨#[d]⟩])) { s with heap := h', toks := tk } :=
      I.turnedNew (t' := tk) (ch := [z, TI, TO, j1, j2]) (fun b o hb q => hk b o (fun q' => hb (by simp only [List.mem_cons, List.not_mem_nil, or_false] at q' ⊢; rcases q' with q' | q' | q' | q' <;> simp [q'])) q) hf hn new
    refine ⟨.ref T, _, I1, rfl, ⟨T, c, d, rfl, I.hok.fresh hn, rfl, hc1, hc2⟩, st', fun b hb => ?_⟩
    have hlt : b < s.heap.objs.size := by
      obtain ⟨hz, h1, ⟨a1, a2, h2⟩, ⟨o1, e1, _⟩, ⟨o2, e2, _⟩⟩ := st
      simp only [List.mem_cons, List.not_mem_nil, or_false] at hb
      rcases hb with rfl | rfl | rfl | rfl | rfl
      · exact Heap.lt_size hz
      · exact Heap.lt_size h1
      · exact Heap.lt_size h2
      · exact Heap.lt_size e1
      · exact Heap.lt_size e2
    rw [upd_ne (Nat.ne_of_lt (Nat.lt_of_lt_of_le hlt hn))]
    exact (hf b hb).1
  done := by
    intro X hP hw hK hc i pins s σ H E I hf st hg
    subst hP hw hK
    have hh : X.A.handled = none := I.ok.hd hc
    have W := GoesN.zip2 (elts := elts) (x1 := kk) (pos := tpos) (A := X.A) D (Draws.text (prog := X.prog) (w := X.w) (A := X.A.in1) hh j1 x t) (Draws.text (prog := X.prog) (w := X.w) (A := X.A.in1) hh j2 y u)
    have e : i = min x.cps.size y.cps.size := hg
    subst e
    exact W.stops s (fun s1 => Inv X pins σ H s1) E st fun h' tk hk _ => I.turnedL (t' := tk) (ch := [z, TI, TO, j1, j2]) (fun b o hb q => hk b o (fun q' => hb (by simp only [List.mem_cons, List.not_mem_nil, or_false] at q' ⊢; rcases q' with q' | q' | q' | q' <;> simp [q'])) q) hf
  self := fun A i s Q E st h => wpAny_pyIter_zip st.1 h
def iZipS (ta : TA) : TI := fun σ H R => ta σ H fun vs H1 => ∃ x y, vs = [.str x, .str y] ∧ R (Itzs x y) H1
theorem pi_zipS {X : Cx} {e e2 : Expr} {ta : TA} {p pos tpos : Pos} {elts : List Expr} {kk : Nat} (hg : Gl X "zip") (hm : X.mg "zip" = none) (ha : PA X [e, e2] ta)
    (hs : starEach [e, e2] X.env = (false, eval e X.env) :: starEach [e2] X.env := by rfl) (hpl : (backTo pos (starEach [e2] X.env)).any (·.1) = false := by rfl) :
    PI X (.Tuple elts kk tpos) (.Call (.Name "zip" p) [e, e2] [] pos) (iZipS ta) := by
  refine ⟨fun pins s σ H R I h => ?_⟩
  refine PyProof.Rows.Call_ (ld_blt I hg hm PyProof.Rows.boot_zip (PyProof.Rows.callWith_type1 (thn (ha.run pos pins s σ H _ I h) fun us s1 ⟨vs, H1, I1, r1, q1⟩ => ?_) hs hpl))
  obtain ⟨x, y, ex, q⟩ := q1
  subst ex
  cases r1 with
  | cons r rr =>
    cases rr with
    | cons r' rr =>
      cases rr
      obtain ⟨t, rfl⟩ := r
      obtain ⟨u, rfl⟩ := r'
      refine zip_begins2 (begins_text x t) (begins_text y u) True.intro True.intro fun h' hz h1 h2 g1 g2 hsz hk => wpAny_pyIter_zip hz ?_
      have I2 : Inv X pins σ H1 { s1 with heap := h' } := I1.kept (t' := s1.toks) hk
      refine ⟨s1.heap.objs.size + 4, [s1.heap.objs.size + 4, s1.heap.objs.size + 2, s1.heap.objs.size + 3, s1.heap.objs.size, s1.heap.objs.size + 1], _, _, H1, rfl, I2, turn_zipS (zip_sep2 (fun _ hb => by cases hb) (fun _ hb => by cases hb)), ⟨hz, h1, ⟨_, _, h2⟩, ⟨_, g1, rfl, rfl⟩, ⟨_, g2, rfl, rfl⟩⟩, fun c hcm => ?_, q⟩
      have hle : s1.heap.objs.size ≤ c := by
        simp only [List.mem_cons, List.not_mem_nil, or_false] at hcm
        rcases hcm with q' | q' | q' | q' | q' <;> rw [q'] <;> first | exact Nat.le_refl _ | exact Nat.le_add_right _ _
      exact I1.fpOk hle (I1.hok.fresh hle)
theorem walk_zipS {x y : Str} : Walk (Itzs x y) (min x.cps.size y.cps.size) (fun _ => True) (fun i H v H' => ∃ T c d, v = .ref T ∧ H T = none ∧ H' = upd H T (.tup [.str ⟨#[c]⟩, .str ⟨#[d]⟩]) ∧ x.cps[i]? = some c ∧ y.cps[i]? = some d) :=
  ⟨fun _ _ hi _ => hi, fun _ _ => rfl, fun _ _ _ _ _ _ q => q⟩
end Dw

set_option Elab.async false
set_option linter.all false
set_option maxRecDepth 100000
namespace Dw
open PySem L2 Evl
section
variable {K : PySem.W.Frag} {σ : L2.St} {H H' : Hp} {ta : TA} {tb tc te tx tl : TE} {t u : TT} {x y z v : V}
/-- [e for a, b in zip(x, y)], two texts of one length -/
theorem el_lcZ {la lb : List Nat} {j1 j2 : Nat} {vs : List Nat} (g : Nat → Nat → V) (h : EvA ta σ H [.str (Tx la), .str (Tx lb)]) (hl : la.length = lb.length) (hz : la.length ≤ 40000)
    (hw : ∀ x y, wipe (((wipe σ vs).set j1 (some x)).set j2 (some y)) vs = wipe σ vs)
    (he : ∀ (c d : Nat) H1, Ex H H1 → c ∈ la → d ∈ lb → Ev te (((wipe σ vs).set j1 (some (.str (Tx [c])))).set j2 (some (.str (Tx [d])))) H1 (g c d)) :
    EvL (tLc (iZipS ta) (gTup K 2 (gCons (gName j1) (gCons (gName j2) gNil))) tYes te vs) σ H (List.zipWith g la lb) := fun H0 e Q q => h H0 e _ fun H1 e1 => ⟨Tx la, Tx lb, rfl, fun Dl hD => by
  have hs : min (Tx la).cps.size (Tx lb).cps.size = la.length := by
    have h1 : (Tx la).cps.size = la.length := Tx_len la
    have h2 : (Tx lb).cps.size = lb.length := Tx_len lb
    omega
  refine lc_it walk_zipS (fun i H2 => Ex H1 H2 ∧ H2 Dl = some (.lst ((List.zipWith g la lb).take i))) ⟨Ex.new hD, upd_same⟩ (fun _ _ _ _ => True.intro) (fun i x' H2 H3 hi p yy => ?_) (fun H2 p => ?_)
  · obtain ⟨T, c, d, rfl, nT, rfl, hc, hd⟩ := yy
    have hc' : la[i]? = some c := by
      rw [← hc]
      simp [Tx]
    have hd' : lb[i]? = some d := by
      rw [← hd]
      simp [Tx]
    have hg : (List.zipWith g la lb)[i]? = some (g c d) := by
      rw [List.getElem?_zipWith, hc', hd']
    refine ⟨T, _, rfl, st_of upd_same, rfl, _, _, rfl, _, _, rfl, rfl, hw _ _, ?_⟩
    refine he c d _ (((e.trans e1).trans p.1).trans (Ex.new nT)) (List.mem_of_getElem? hc') (List.mem_of_getElem? hd') _ (Ex.refl _) _ fun H4 e4 => ⟨_, e4 Dl _ ((Ex.new nT) Dl _ p.2), sz_lt ?_, ?_, ?_⟩
    · have := List.length_take_le i (List.zipWith g la lb)
      omega
    · exact Ex.mut ((p.1.trans (Ex.new nT)).trans e4) hD
    · rw [upd_same, List.take_add_one, hg]
      rfl
  · obtain ⟨p1, p2⟩ := p
    rw [hs, List.take_of_length_le (by rw [List.length_zipWith]; omega)] at p2
    exact q Dl H2 (fresh_back e1 hD) (e1.trans p1) p2⟩
theorem ev_kd {w : World} {p : Addr} {s : Str} {ta tb : TE} (ha : Ev ta σ H (.ref p)) (hb : Ev tb σ H (.str s)) (hk : KDct K w p s v) : Ev (tOp (rIxD K w) ta tb) σ H v :=
  ev_op ha hb fun H1 _ _ q => ⟨p, s, v, rfl, rfl, hk, q H1 (Ex.refl _)⟩
end
/-! ### f(*xs), f a local that holds one of several defs -/
def tCallLS (K : PySem.W.Frag) (i : Nat) (S : Addr → Option Sp) (te : TE) : TE := fun σ H Q => ∃ f sp, σ[i]? = some (some (.ref f)) ∧ S f = some sp ∧ te σ H fun y H1 => ∃ a xs, y = V.ref a ∧ (SqT K H1 a xs ∨ SqL K H1 a xs) ∧ sp xs H1 Q (fun _ _ _ => False)
theorem pe_callLS {X : Cx} {k i : Nat} {x : Str} {p q pos : Pos} {e : Expr} {te : TE} {S : Addr → Option Sp} (A : ∀ f sp, S f = some sp → Held X.prog X.w X.K X.mg X.base k f sp) (hr : Room k X.A) (hN : X.N[i]? = some x) (hv : Vis X.env.scope x) (he : PE X e te)
    (hdb : (x == ("__debug__" : Str)) = false := by decide) (hcd : (x == ("__classdict__" : Str)) = false := by decide)
    (hst : starEach [.Starred e q] X.env = [(true, eval e X.env)] := by rfl) : PE X (.Call (.Name x p) [.Starred e q] [] pos) (tCallLS X.K i S te) := by
  refine ⟨fun pins s σ H Q I h => ?_⟩
  obtain ⟨f, sp, hs, hS, ht⟩ := h
  obtain ⟨fd, ps, F, hk, hb⟩ := (A f sp hS).ex
  refine wpAny_Call_Name_kw (thn ((pe_var (pos := p) hN hv hdb hcd).run pins s σ H (fun v H1 => v = .ref f ∧ H1 = H) I ⟨.ref f, hs, rfl, rfl⟩) fun u s1 ⟨v, H1, I1, r1, q1⟩ => ?_)
  obtain ⟨rfl, rfl⟩ := q1
  cases r1
  refine PySem.W.callWith_S (h₀ := X.base) I1.ok.mod.kin hk (thn (he.run pins s1 σ H1 _ I1 ht) fun v s2 ⟨y, H2, I2, ry, a, xs, ey, hxs, q2⟩ => ?_) hst
  subst ey
  obtain rfl : v = Value.ref a := ry
  refine StX.star_any I2 hxs fun us s3 I3 rv => ⟨I3.kIn, run_fn (dvs := []) (ds := []) (E := fun _ _ _ => False) F hr hb .nil (fun _ _ _ _ _ _ _ z => z.elim) I3 rv ?_⟩
  rw [List.append_nil]
  exact q2
/-! ### replace of one sign by another -/
theorem replL_map {a b : Nat} : ∀ l : List Nat, StrLaws.replL [a] [b] l = l.map fun c => if c = a then b else c
  | [] => StrLaws.replL_nil
  | c :: l => by
    by_cases h : c = a
    · rw [StrLaws.replL_hit (by simp) (by simp [h])]
      simp [h, replL_map l]
    · rw [StrLaws.replL_miss (by simp [h]), replL_map l]
      simp [h]
theorem replace_Tx {y z : Str} {a b : Nat} (hy : y = Tx [a]) (hz : z = Tx [b]) (l : List Nat) : Txt.replace (Tx l) y z = Tx (l.map fun c => if c = a then b else c) := by
  subst hy hz
  refine TL.ext_tl ?_
  exact (StrLaws.replace_list (by simp [Str.length])).trans (replL_map l)
end Dw

set_option Elab.async false
set_option linter.all false
set_option maxRecDepth 100000
namespace Dw
open PySem L2 Evl
/-! ### a text turned about -/
def tRevS (te : TE) : TE := fun σ H Q => te σ H fun x H1 => ∃ l, x = .str (Tx l) ∧ l.length ≤ 40000 ∧ Q (.str (Tx l.reverse)) H1
theorem rev_Tx (l : List Nat) (u : Tok) : Txt.sliceBy (Tx l) none none (-1, u) = Tx l.reverse := by
  refine TL.ext_tl ?_
  show (Txt.sliceBy (Tx l) none none (-1, u)).cps.toList = l.reverse
  rw [PyProof.Rows.step_rev_list, Tx_len]
  apply List.ext_getElem
  · simp
  · intro i h1 h2
    simp at h1
    simp [Tx, List.getElem_reverse]
    rw [List.getElem?_eq_getElem (by omega)]
    rfl
theorem pe_revS {X : Cx} {e : Expr} {te : TE} {k : Nat} {p1 p2 p3 pos : Pos} (he : PE X e te) : PE X (.Subscript e (.Slice none none (some (.UnaryOp .USub (.Constant (.int 1) k p1) p2)) p3) pos) (tRevS te) := by
  refine ⟨fun pins s σ H Q I h => ?_⟩
  refine PyProof.Rows.Subscript_ (thn (he.run pins s σ H _ I h) fun v s1 ⟨x, H1, I1, r1, q1⟩ => ?_)
  obtain ⟨l, ex, hl, q⟩ := q1
  subst ex
  obtain ⟨t, rfl⟩ := r1
  have hst : PO X (some (.UnaryOp .USub (.Constant (.int 1) k p1) p2)) (tPart (tUn (rU fun i => .int (-i)) (tC (.int 1)))) := po_some (pe_un un_neg pe_int)
  refine wpAny_Slice (thn (po_none.run pins s1 σ H1 (fun o G => o = none ∧ G = H1) I1 ⟨rfl, rfl⟩) fun vl s2 ⟨l2, H2, I2, pl, el, e2⟩ => ?_)
  subst el e2
  refine thn (po_none.run pins s2 σ H2 (fun o G => o = none ∧ G = H2) I2 ⟨rfl, rfl⟩) fun vu s3 ⟨u, H3, I3, pu, eu, e3⟩ => ?_
  subst eu e3
  refine thn (hst.run pins s3 σ H3 (fun o G => o = some (-1) ∧ G = H3) I3 ⟨1, rfl, -1, rfl, rfl, rfl⟩) fun vs s4 ⟨o, H4, I4, ps, eo, e4⟩ => ?_
  subst eo e4
  have I5 : Inv X pins σ H4 { s4 with heap := s4.heap.push { cls := .type "slice", data := .fields #[vl, vu, vs] } } := I4.kept (t' := s4.toks) fun b ob q => Heap.get?_push_of_some _ q
  obtain ⟨a1, rfl, ha1⟩ := IsPart.raw pl
  obtain ⟨a2, rfl, ha2⟩ := IsPart.raw pu
  obtain ⟨a3, rfl, ha3⟩ := IsPart.raw ps
  cases a1 with
  | some _ => cases ha1
  | none =>
    cases a2 with
    | some _ => cases ha2
    | none =>
      cases a3 with
      | none => cases ha3
      | some a3 =>
        obtain ⟨m, uk⟩ := a3
        have hm : m = -1 := by
          have := Option.some.inj ha3
          first | exact this.symm | exact this
        subst hm
        refine PyProof.Rows.tail_any (ops := [.ref s4.heap.objs.size, .str (Tx l) t]) (typeIs_str _ _ _) F.slot_str_getitem.lookup (wpAny_getItem_str_slice (l := none) (u := none) (st := some (-1, uk)) ⟨_, Heap.get?_push_size _ rfl, rfl, rfl⟩ rfl
          (post_val_or_str ⟨Nat.le_trans (Txt.sliceBy_le (Tx l) none none (-1, uk) (show (-1 : Int) ≠ 0 by decide)) (sz_of (by rw [Tx_len]; omega)), fun t' c => ?_⟩)) (by with_unfolding_all rfl)
        have e := rev_Tx l uk
        unfold Txt.sliceBy at e
        first
          | exact ⟨.str (Tx l.reverse), H4, I5.tok c, ⟨t', by rw [e]⟩, q⟩
          | exact ⟨.str (Tx l.reverse), H4, I5.tok c, ⟨t', by rw [← e]; rfl⟩, q⟩
theorem ev_revS {σ : L2.St} {H : Hp} {te : TE} {l : List Nat} (h : Ev te σ H (.str (Tx l))) (hl : l.length ≤ 40000) : Ev (tRevS te) σ H (.str (Tx l.reverse)) := fun H1 e Q q =>
  h H1 e _ fun H2 e2 => ⟨l, rfl, hl, q H2 e2⟩
end Dw

set_option Elab.async false
set_option linter.all false
set_option maxRecDepth 100000
namespace Dw
open PySem L2 Evl
/-! ### sorted of a tuple of texts, of a long list of texts -/
section
open PyProof.Rows
variable {prog : Program} {w : World} {A : Around} {E : Value → Shared → Prop} {s : Shared}
theorem collect_tup {l : Addr} {us : List Value} {R : List Value → Shared → Prop} (ht : s.heap.IsTuple l us.toArray)
    (k : R us { s with heap := (s.heap.push (seqObj "list" #[] 0)).update s.heap.objs.size (Obj.mapSeq (· ++ us.toArray)) }) (few : us.length ≤ sizeLine) : wpAny (model prog w) A (collect (.ref l)) R E s := by
  obtain ⟨ob, hob, hcl, n, hdt⟩ := id ht
  unfold collect
  refine wpAny_bind (wpAny_runValue (codeAny_builtin entry_proto_collect' ?_)); show wpAny _ _ (do again (.builtin "list.__iadd__" ⟨[← newList [], .ref l], []⟩)) _ _ s
  refine wpAny_bind (wpAny_newList (wpAny_pure ⟨Code.quiet_builtin _ (by decide +kernel), codeAny_builtin entry_list_iadd' ?_⟩)); show wpAny _ _ (Builtin.List.listExtendWith (.ref s.heap.objs.size) (.ref l) (.ref s.heap.objs.size)) _ _ { s with heap := s.heap.push (seqObj "list" #[] 0) }
  unfold Builtin.List.listExtendWith
  have hob' : (s.heap.push (seqObj "list" #[] 0)).get? l = some ob := Heap.get?_push_of_some _ hob
  refine wpAny_bind (wpAny_typeOf (T := "tuple") ⟨ob, hob', hcl⟩ ?_)
  rw [if_pos (by rw [show (Value.type "tuple" == Value.type "tuple") = true from rfl, Bool.or_true])]
  refine wpAny_bind (listItems_at hob' hdt ?_)
  refine wpAny_bind (listItems_at (xs := #[]) (n := 0) (Heap.get?_push_size _ rfl) rfl ?_); rw [if_neg (by simp)]
  refine wpAny_bind (listUpdate_at (xs := #[]) (n := 0) (Heap.get?_push_size _ rfl) rfl ?_ (Nat.zero_le _) (by show (#[] ++ us.toArray).size ≤ sizeLine + 1; simp only [Array.size_append, List.size_toArray, List.length_nil]; omega))
  refine wpAny_pure ?_
  show wpAny (model prog w) A (do let o ← load s.heap.objs.size; match o.data with | .seq xs _ => pure xs.toList | _ => unsupported "internal:collect") R E { s with heap := (s.heap.push (seqObj "list" #[] 0)).update s.heap.objs.size (Obj.mapSeq (· ++ us.toArray)) }
  refine wpAny_bind (wpAny_load (get?_update_seq (Heap.get?_push_size _ rfl) _) ?_)
  show wpAny _ _ (pure ((#[] : Array Value) ++ us.toArray).toList) R E _
  rw [show ((#[] : Array Value) ++ us.toArray).toList = us by simp]
  exact wpAny_pure k
theorem sorted_tupStrs {l : Addr} {us : List Value} {ss : List Str} {Q : Value → Shared → Prop} (ht : s.heap.IsTuple l us.toArray) (hS : StrsAre us ss) (few : us.length < 64)
    (h : ∀ (out : Array Value) (ss' : List Str), StrsAre out.toList ss' → ss'.Perm ss → sortedS ss' = true → Q (.ref (s.heap.objs.size + 1)) { s with heap := sortedAll s.heap us out }) :
    wpAny (model prog w) A (call (.builtin "sorted") [.ref l]) Q E s := by
  refine Calls.call_function_entry kind_sorted plain_sorted entry_sorted (args_sorted1 _) ?_; unfold Builtin.«sorted»
  have sz : us.length ≤ sizeLine := by rw [sizeLine_eq]; omega
  refine wpAny_bind (m := checkCount "sorted" 1 1 _) (wpAny_pure (wpAny_bind (collect_tup ht ?_ sz)))
  refine wpAny_bind (wpAny_newList ?_ sz)
  have e1 : ((s.heap.push (seqObj "list" #[] 0)).update s.heap.objs.size (Obj.mapSeq (· ++ us.toArray))).objs.size = s.heap.objs.size + 1 := by rw [Heap.size_update, size_push']
  have e2 : (((s.heap.push (seqObj "list" #[] 0)).update s.heap.objs.size (Obj.mapSeq (· ++ us.toArray))).push (seqObj "list" us.toArray 0)).get? (s.heap.objs.size + 1) = some (seqObj "list" us.toArray 0) := by rw [← e1]; exact Heap.get?_push_size _ rfl
  show wpAny _ _ _ _ _ { s with heap := ((s.heap.push (seqObj "list" #[] 0)).update s.heap.objs.size (Obj.mapSeq (· ++ us.toArray))).push (seqObj "list" us.toArray 0) }
  rw [e1]
  refine wpAny_bind (wpAny_holding (wpAny_call_entry slot_list_sort ⟨_, e2, rfl⟩ entry_list_sort (list_sort_treeK strKind_oneLt e2 hS.keysOf (fun v₁ v₂ rest e => keyKind_strs (by rw [← e]; exact hS)) few fun st' hp hs => ⟨_, rfl, ?_⟩) (args_list_sort _)))
  obtain ⟨ss', h1, h2, h3⟩ := sorted_out_str hS hp hs
  exact wpAny_pure ⟨_, rfl, h _ ss' h1 h2 h3⟩
end
section
variable {X : Cx}
def rSortedTS (K : PySem.W.Frag) : List V → Hp → VK → Prop := fun vs H Q => ∃ (a : Addr) (xs : List Str), vs = [V.ref a] ∧ SqT K H a (xs.map V.str) ∧ xs.length < 64 ∧
  ∀ (ys : List Str) (p : Addr), ys.Perm xs → PyProof.Rows.sortedS ys = true → H p = none → Q (.ref p) (upd H p (.lst (ys.map V.str)))
theorem cr_sortedTS : CallR X (.builtin "sorted") (rSortedTS X.K) := by
  intro pins s σ H vs us Q I r h
  obtain ⟨a, xs, rfl, hs, few, q⟩ := h
  obtain ⟨its, rv, hl, _⟩ := I.tuple hs
  rw [Vals.ref1 r]
  have n0 := rv.length
  rw [List.length_map] at n0
  refine sorted_tupStrs hl rv.strs (by rw [← n0]; exact few) fun out ys h1 h2 h3 => ?_
  obtain ⟨ep, he'⟩ := PyProof.Rows.sortedAll_at s.heap its out
  exact ⟨.ref _, upd H (s.heap.objs.size + 1) (.lst (ys.map V.str)), I.laid (t' := s.toks) (fun _ _ => PyProof.Rows.sortedAll_old) (Nat.le_succ _) ⟨by rw [List.length_map, h2.length_eq]; exact small64 few, out.toList, ep, vals_of_strs h1, he'⟩, rfl, q ys _ h2 h3 (I.hok.fresh (Nat.le_succ _))⟩
def rSortedSA (K : PySem.W.Frag) : List V → Hp → VK → Prop := fun vs H Q => ∃ (a : Addr) (xs : List Str), vs = [V.ref a] ∧ SqL K H a (xs.map V.str) ∧ xs.length ≤ 1000 ∧
  ∀ (ys : List Str) (p : Addr), ys.Perm xs → PyProof.Rows.sortedS ys = true → H p = none → Q (.ref p) (upd H p (.lst (ys.map V.str)))
theorem cr_sortedSA : CallR X (.builtin "sorted") (rSortedSA X.K) := by
  intro pins s σ H vs us Q I r h
  obtain ⟨a, xs, rfl, hs, few, q⟩ := h
  obtain ⟨its, rv, hl, _⟩ := I.list hs
  rw [Vals.ref1 r]
  have n0 := rv.length
  rw [List.length_map] at n0
  have sz : xs.length ≤ sizeLine := Nat.le_of_lt (small1000 few)
  refine PyProof.Rows.sorted_strsAny hl.isList rv.strs (by rw [← n0]; exact sz) fun out ys h1 h2 h3 => ?_
  obtain ⟨ep, he'⟩ := PyProof.Rows.sortedAll_at s.heap its out
  exact ⟨.ref _, upd H (s.heap.objs.size + 1) (.lst (ys.map V.str)), I.laid (t' := s.toks) (fun _ _ => PyProof.Rows.sortedAll_old) (Nat.le_succ _) ⟨by rw [List.length_map, h2.length_eq]; exact sz, out.toList, ep, vals_of_strs h1, he'⟩, rfl, q ys _ h2 h3 (I.hok.fresh (Nat.le_succ _))⟩
end
/-! ### drawn values, signs -/
def Sg (l : List Nat) : Prop := ∀ c ∈ l, c ∈ sgn
def rd (c : Nat) : Nat := if c = 122 then 120 else c
def Sx (l : List Nat) : Prop := ∀ c ∈ l, c ∈ [48, 49, 120]
theorem rd_sx {l : List Nat} (h : Sg l) : Sx (l.map rd) := fun c hc => by
  obtain ⟨d, hd, rfl⟩ := List.mem_map.mp hc
  have := h d hd
  simp only [sgn, List.mem_cons, List.not_mem_nil, or_false] at this
  rcases this with rfl | rfl | rfl | rfl <;> decide
theorem Sg.low {l : List Nat} (h : Sg l) : ∀ c ∈ l, c < 128 := fun c hc => by
  have := h c hc
  simp only [sgn, List.mem_cons, List.not_mem_nil, or_false] at this
  omega
def spVal : Sp := fun vs H Q _ => ∃ (p : Addr) (n : Int), vs = [.ref p, .int n] ∧ PotAt H p ∧ 1 ≤ n ∧ n ≤ 8 ∧ ∀ (H' : Hp) (l : List Nat), ExB p H H' → PotAt H' p → (l.length : Int) = n → Sg l → Q (.str (Tx l)) H'
def spRead : Sp := fun vs H Q _ => ∃ l : List Nat, vs = [.str (Tx l)] ∧ l.length ≤ 1000 ∧ ∀ H', Ex H H' → Q (.str (Tx (l.map rd))) H'
theorem s_0 : Str.ofString "0" = Tx [48] := by decide +kernel
theorem s_1 : Str.ofString "1" = Tx [49] := by decide +kernel
theorem s_x : Str.ofString "x" = Tx [120] := by decide +kernel
theorem s_z : Str.ofString "z" = Tx [122] := by decide +kernel
theorem s_e : Str.ofString "" = Tx [] := by decide +kernel
theorem s_01 : Str.ofString "01" = Tx [48, 49] := by decide +kernel
section
variable {K : PySem.W.Frag} {σ : L2.St} {H : Hp} {ta tb te : TE}
theorem ec_0 : Ev (tC (.str (Str.ofString "0"))) σ H (.str (Tx [48])) := by rw [s_0]; exact ev_c
theorem ec_1 : Ev (tC (.str (Str.ofString "1"))) σ H (.str (Tx [49])) := by rw [s_1]; exact ev_c
theorem ec_x : Ev (tC (.str (Str.ofString "x"))) σ H (.str (Tx [120])) := by rw [s_x]; exact ev_c
theorem ec_z : Ev (tC (.str (Str.ofString "z"))) σ H (.str (Tx [122])) := by rw [s_z]; exact ev_c
theorem ec_e : Ev (tC (.str (Str.ofString ""))) σ H (.str (Tx [])) := by rw [s_e]; exact ev_c
theorem ec_01 : Ev (tC (.str (Str.ofString "01"))) σ H (.str (Tx [48, 49])) := by rw [s_01]; exact ev_c
theorem dec_Tx (a b : List Nat) : decide (V.str (Tx a) = V.str (Tx b)) = decide (a = b) := by
  rw [decide_eq_decide]
  exact ⟨fun h => Tx_inj (V.str.inj h), fun h => by rw [h]⟩
theorem ev_eqT {a b : List Nat} (ha : Ev ta σ H (.str (Tx a))) (hb : Ev tb σ H (.str (Tx b))) : Ev (tOp rEq ta tb) σ H (.bl (decide (a = b))) := by
  rw [← dec_Tx]
  exact ev_op ha hb (rv_eq rfl)
theorem ev_neT {a b : List Nat} (ha : Ev ta σ H (.str (Tx a))) (hb : Ev tb σ H (.str (Tx b))) : Ev (tOp rNe ta tb) σ H (.bl (!decide (a = b))) := by
  rw [← dec_Tx]
  exact ev_op ha hb (rv_ne rfl)
theorem ev_inT {c : Nat} {l : List Nat} (ha : Ev ta σ H (.str (Tx [c]))) (hb : Ev tb σ H (.str (Tx l))) : Ev (tOp rInS ta tb) σ H (.bl (decide (c ∈ l))) := ev_inS ha hb
theorem ev_niT {c : Nat} {l : List Nat} (ha : Ev ta σ H (.str (Tx [c]))) (hb : Ev tb σ H (.str (Tx l))) : Ev (tOp rNotInS ta tb) σ H (.bl (!decide (c ∈ l))) := ev_notInS ha hb
theorem ev_addT {a b : List Nat} (ha : Ev ta σ H (.str (Tx a))) (hb : Ev tb σ H (.str (Tx b))) (hz : a.length + b.length ≤ 100000) :
    Ev (tOp (fun x y H Q => ∃ i j, x = .str i ∧ y = .str j ∧ i.length + j.length ≤ sizeLine ∧ Q (.str (i ++ j)) H) ta tb) σ H (.str (Tx (a ++ b))) :=
  ev_op ha hb fun H1 _ Q q => ⟨Tx a, Tx b, rfl, rfl, sz_of (by rw [Tx_len, Tx_len]; exact hz), by rw [Tx_cat]; exact q H1 (Ex.refl _)⟩
theorem ev_ixT {l : List Nat} {i : Int} {c : Nat} (ha : Ev ta σ H (.str (Tx l))) (hb : Ev tb σ H (.int i)) (hl : l.length ≤ 40000) (hc : atI l i = some c) : Ev (tOp rIxS ta tb) σ H (.str (Tx [c])) :=
  ev_op ha hb (rv_ixS (by rw [Tx_len]; omega) hc)
theorem ev_ifS {b : Bool} {t : TT} {v1 v2 : V} (h : EvT t σ H b) (h1 : Ev ta σ H v1) (h2 : Ev tb σ H v2) : Ev (tIf t ta tb) σ H (if b = true then v1 else v2) :=
  ev_if h (fun e => by rw [e]; exact h1) (fun e => by rw [e]; exact h2)
end
theorem vals_rev : ∀ {a : List V} {b : List Value}, Vals a b → Vals a.reverse b.reverse
  | _, _, .nil => .nil
  | _, _, .cons r t => by
    rw [List.reverse_cons, List.reverse_cons]
    exact (vals_rev t).append (.cons r .nil)
def spLaw (K : PySem.W.Frag) : Sp := fun vs H Q _ => ∃ (a : Addr) (ns : List Int), vs = [.ref a] ∧ SqL K H a (ns.map V.int) ∧ ns.length ≤ 63 ∧ ∀ H', Q (.bl true) H'
end Dw

set_option Elab.async false
set_option linter.all false
set_option maxRecDepth 100000
namespace Dw
open PySem L2 Evl
/-! ### two sorted lists of the same texts are one -/
abbrev leS (a b : Str) : Prop := a.cps.toList ≤ b.cps.toList
theorem risingS_le : ∀ (p : Str) (l : List Str), PyProof.Rows.risingS p l = true → (p :: l).Pairwise leS
  | p, [], _ => List.pairwise_singleton _ _
  | p, x :: r, h => by
    unfold PyProof.Rows.risingS at h
    rw [Bool.and_eq_true] at h
    have ih := risingS_le x r h.2
    have hx : leS p x := by
      have := h.1
      rw [PyProof.Rows.ltCps_eq] at this
      simp at this
      exact this
    refine List.pairwise_cons.mpr ⟨fun y hy => ?_, ih⟩
    rcases List.mem_cons.mp hy with rfl | hy
    · exact hx
    · exact List.le_trans hx ((List.pairwise_cons.mp ih).1 y hy)
theorem sortedS_le : ∀ {l : List Str}, PyProof.Rows.sortedS l = true → l.Pairwise leS
  | [], _ => List.Pairwise.nil
  | x :: r, h => risingS_le x r h
theorem leS_anti {a b : Str} (h1 : leS a b) (h2 : leS b a) : a = b := TL.ext_tl (List.le_antisymm h1 h2)
theorem sorted_one {xs ys zs : List Str} (p1 : xs.Perm zs) (s1 : PyProof.Rows.sortedS xs = true) (p2 : ys.Perm zs) (s2 : PyProof.Rows.sortedS ys = true) : xs = ys :=
  List.Perm.eq_of_pairwise (le := leS) (fun a b _ _ h1 h2 => leS_anti h1 h2) (sortedS_le s1) (sortedS_le s2) (p1.trans p2.symm)
/-! ### mirrors of the operators -/
def mixS (a b : Nat) : Nat := if a = b ∧ a ∈ [48, 49] then a else 120
def anyS (l : List Nat) : Nat := if 49 ∈ l then 49 else if 120 ∈ l then 120 else 48
def allS (l : List Nat) : Nat := if 48 ∈ l then 48 else if 120 ∈ l then 120 else 49
def pickS (c : Nat) (a b : List Nat) : List Nat := if c = 120 then List.zipWith mixS a b else if c = 49 then a else b
def partS (l : List Nat) (hi lo : Nat) : List Nat := (l.drop (l.length - 1 - hi)).take (hi + 1 - lo)
def spMixS : Sp := fun vs H Q _ => ∃ a b : Nat, vs = [.str (Tx [a]), .str (Tx [b])] ∧ ∀ H', Ex H H' → Q (.str (Tx [mixS a b])) H'
def spMixed : Sp := fun vs H Q _ => ∃ a b : List Nat, vs = [.str (Tx a), .str (Tx b)] ∧ a.length = b.length ∧ a.length ≤ 1000 ∧ ∀ H', Ex H H' → Q (.str (Tx (List.zipWith mixS a b))) H'
def spOne (f : List Nat → Nat) : Sp := fun vs H Q _ => ∃ l : List Nat, vs = [.str (Tx l)] ∧ ∀ H', Ex H H' → Q (.str (Tx [f l])) H'
def spPick : Sp := fun vs H Q _ => ∃ (c : Nat) (a b : List Nat), vs = [.str (Tx [c]), .str (Tx a), .str (Tx b)] ∧ a.length = b.length ∧ a.length ≤ 1000 ∧ ∀ H', Ex H H' → Q (.str (Tx (pickS c a b))) H'
def spJoin : Sp := fun vs H Q _ => ∃ a b : List Nat, vs = [.str (Tx a), .str (Tx b)] ∧ a.length + b.length ≤ 1000 ∧ ∀ H', Ex H H' → Q (.str (Tx (a ++ b))) H'
def spPart : Sp := fun vs H Q _ => ∃ (l : List Nat) (hi lo : Nat), vs = [.str (Tx l), .int (hi : Int), .int (lo : Int)] ∧ lo ≤ hi ∧ hi < l.length ∧ l.length ≤ 1000 ∧ ∀ H', Ex H H' → Q (.str (Tx (partS l hi lo))) H'
section
variable {K : PySem.W.Frag} {σ : L2.St} {H : Hp} {ta tb te : TE} {tl th : TO}
theorem cut_Tx (l : List Nat) (i j : Nat) (hij : i ≤ j) (hj : j ≤ l.length) : cutS (Tx l) (some (i : Int)) (some (j : Int)) = Tx ((l.drop i).take (j - i)) := by
  unfold cutS
  rw [Tx_len, HT.sIx_nat, HT.sIx_nat, Nat.min_eq_left hj, Nat.min_eq_left (by omega)]
theorem ev_cutT {l : List Nat} {i j : Nat} (ha : Ev te σ H (.str (Tx l))) (h1 : EvO tl σ H (some (i : Int))) (h2 : EvO th σ H (some (j : Int))) (hij : i ≤ j) (hj : j ≤ l.length) (hz : l.length ≤ 40000) : Ev (tSl rSlS te tl th) σ H (.str (Tx ((l.drop i).take (j - i)))) := fun H1 e Q q =>
  ha H1 e _ fun H2 e2 => h1 H2 (e.trans e2) _ fun H3 e3 => h2 H3 ((e.trans e2).trans e3) _ fun H4 e4 => ⟨Tx l, rfl, sz_of (by rw [Tx_len]; omega), by rw [cut_Tx l i j hij hj]; exact q H4 ((e2.trans e3).trans e4)⟩
/-- a new list of texts, of what a def tells of each of a list's texts -/
theorem el_lcV {xs : List (List Nat)} {a : Addr} {tl : TE} {j : Nat} {vs : List Nat} (g : List Nat → V) (h : Ev tl σ H (.ref a)) (hx : SqL K H a (xs.map fun l => V.str (Tx l))) (hz : xs.length ≤ 40000) (hw : ∀ x, wipe ((wipe σ vs).set j (some x)) vs = wipe σ vs)
    (he : ∀ (l : List Nat) H1, Ex H H1 → l ∈ xs → Ev te ((wipe σ vs).set j (some (.str (Tx l)))) H1 (g l)) :
    EvL (tLc (iList K tl) (gName j) tYes te vs) σ H (xs.map g) := by
  have hs : (xs.map fun l => V.str (Tx l)).length = xs.length := List.length_map _
  rw [← given_all xs [] g, ← hs]
  refine el_lcL (fun _ => true) (fun i => g (xs.getD i [])) h hx (by omega) hw (fun i x H1 e hi => et_yes) (fun i x H1 e hi _ => ?_)
  rw [List.getElem?_map] at hi
  cases hq : xs[i]? with
  | none =>
    rw [hq] at hi
    cases hi
  | some l =>
    rw [hq] at hi
    have ex : V.str (Tx l) = x := Option.some.inj hi
    subst ex
    rw [show xs.getD i [] = l by rw [List.getD_eq_getElem?_getD, hq]; rfl]
    exact he l H1 e (List.mem_of_getElem? hq)
end
end Dw

set_option Elab.async false
set_option linter.all false
set_option maxRecDepth 100000
namespace Dw
open PySem L2 Evl
section
variable {K : PySem.W.Frag} {σ : L2.St} {H : Hp} {ta : TA} {te tx : TE} {t : TT} {z : V}
/-- [e for k in range(i, j, -1)] -/
theorem el_lcR3 {j : Nat} {vs : List Nat} {a b : Int} (v : Nat → V) (h : EvA ta σ H [.int a, .int b, .int (-1)]) (hr : 0 ≤ a ∧ a ≤ 1000 ∧ -1 ≤ b ∧ b ≤ a) (hw : ∀ x, wipe ((wipe σ vs).set j (some x)) vs = wipe σ vs)
    (he : ∀ (i : Nat) H1, Ex H H1 → (i : Int) < a - b → Ev te ((wipe σ vs).set j (some (.int (a - (i : Int))))) H1 (v i)) :
    EvL (tLc (iRng3 ta) (gName j) tYes te vs) σ H ((List.range (a - b).toNat).map v) := fun H0 e Q q => h H0 e _ fun H1 e1 => ⟨a, b, -1, (a - b).toNat, rfl, RgC.neg (by omega) (by omega) (by omega) (by omega), fun Dl hD => by
  have e2 : (List.range (a - b).toNat).map v = given (a - b).toNat (fun _ => true) v := by
    unfold given
    rw [List.filter_eq_self.mpr (fun _ _ => rfl)]
  rw [e2] at q
  refine lc_it walk_rangeC (Cw H1 (fun _ => true) v Dl) ⟨hD, Ex.new hD, upd_same⟩ (fun _ _ _ _ => True.intro) (fun i x H2 H3 hi p y => ?_) (fun H' p => q Dl H' (fresh_back e1 p.1) (e1.trans p.2.1) p.2.2)
  obtain ⟨rfl, hx⟩ := y
  have hx2 : x = .int (a - (i : Int)) := by
    rw [hx]
    show V.int (a + (i : Int) * -1) = V.int (a - (i : Int))
    congr 1
    omega
  subst hx2
  exact ⟨hw _, cw_turn p (by omega) et_yes fun _ => he i H1 (e.trans e1) (by omega)⟩⟩
/-- f('word', [..]) -/
theorem ev_callL2 {sp : Sp} {dvs : List V} {E : XK} {w : V} {xs : List V} (h : EvL te σ H xs) (hs : ∀ p H1, H1 p = some (.lst xs) → Ex H H1 → SpV sp ([w, .ref p] ++ dvs) H1 z) : Ev (tCall sp dvs E (tCons (tC w) (tCons te tNil))) σ H z := fun H1 e Q q =>
  h H1 e _ fun p H2 _ e2 h2 => hs p H2 h2 (e.trans e2) H2 (Ex.refl _) Q (fun H3 e3 => q H3 (e2.trans e3)) E
/-- f('word', [..], k=..) -/
theorem ev_callNL2 {sp : Sp} {n m : Nat} {gV : List V → List V → List V} {E : XK} {tK : TA} {w : V} {xs zs : List V} (h : EvL te σ H xs) (hk : EvA tK σ H zs) (l1 : 2 = n) (l2 : zs.length = m) (hs : ∀ p H1, H1 p = some (.lst xs) → Ex H H1 → SpV sp (gV [w, .ref p] zs) H1 z) : Ev (tCallN n m sp gV E (tCons (tC w) (tCons te tNil)) tK) σ H z := fun H1 e Q q =>
  h H1 e _ fun p H2 _ e2 h2 => hk H2 (e.trans e2) _ fun H3 e3 => ⟨l1, l2, hs p H3 (e3 _ _ h2) ((e.trans e2).trans e3) H3 (Ex.refl _) Q (fun H4 e4 => q H4 ((e2.trans e3).trans e4)) E⟩
end
theorem mul_ok : ∀ d ∈ [48, 49], ∀ n : Fin 9, MulOk (Tx [d]) ((n.val : Nat) : Int) ∧ Txt.mul (Tx [d]) ((n.val : Nat) : Int) = Tx (List.replicate n.val d) := by
  simp only [MulOk]
  decide +kernel
theorem mul_Tx {d : Nat} (hd : d ∈ [48, 49]) {n : Nat} (hn : n ≤ 8) : MulOk (Tx [d]) (n : Int) ∧ Txt.mul (Tx [d]) (n : Int) = Tx (List.replicate n d) := mul_ok d hd ⟨n, by omega⟩
theorem part_due (L : List Nat) (hi lo : Nat) (h1 : lo ≤ hi) (h2 : hi < L.length) : (List.range (hi + 1 - lo)).map (fun t => L.reverse.getD (hi - t) 0) = partS L hi lo := by
  unfold partS
  apply List.ext_getElem
  · simp
    omega
  · intro i h3 h4
    simp at h3
    simp
    rw [List.getElem?_reverse (by omega), List.getElem?_eq_getElem (by omega)]
    show L[L.length - 1 - (hi - i)] = L[L.length - 1 - hi + i]
    congr 1
    omega
theorem mix_rd {a b : Nat} (ha : a ∈ sgn) (hb : b ∈ sgn) : mixS (rd a) (rd b) = mixS a b := by
  simp only [sgn, List.mem_cons, List.not_mem_nil, or_false] at ha hb
  rcases ha with rfl | rfl | rfl | rfl <;> rcases hb with rfl | rfl | rfl | rfl <;> decide
theorem mixed_rd : ∀ {a b : List Nat}, Sg a → Sg b → List.zipWith mixS (a.map rd) (b.map rd) = List.zipWith mixS a b
  | [], _, _, _ => by simp
  | _ :: _, [], _, _ => by simp
  | x :: a, y :: b, ha, hb => by
    rw [List.map_cons, List.map_cons, List.zipWith_cons_cons, List.zipWith_cons_cons, mix_rd (ha x (List.mem_cons_self ..)) (hb y (List.mem_cons_self ..)), mixed_rd (fun c hc => ha c (List.mem_cons_of_mem _ hc)) (fun c hc => hb c (List.mem_cons_of_mem _ hc))]
theorem mem_rd {l : List Nat} {c : Nat} (hc : c = 48 ∨ c = 49) : c ∈ l.map rd ↔ c ∈ l := by
  rw [List.mem_map]
  constructor
  · rintro ⟨d, hd, e⟩
    unfold rd at e
    by_cases h : d = 122
    · rw [if_pos h] at e
      omega
    · rw [if_neg h] at e
      rw [← e]
      exact hd
  · intro h
    exact ⟨c, h, by unfold rd; rw [if_neg (by omega)]⟩
theorem x_rd {l : List Nat} (h : Sg l) (u d : Nat) (hud : (u = 48 ∧ d = 49) ∨ (u = 49 ∧ d = 48)) (hu : u ∉ l) : 120 ∈ l.map rd ↔ ¬ l = List.replicate l.length d := by
  rw [List.mem_map]
  constructor
  · rintro ⟨c, hc, e⟩ hr
    rw [hr] at hc
    have := (List.mem_replicate.mp hc).2
    subst this
    unfold rd at e
    by_cases h2 : c = 122
    · omega
    · rw [if_neg h2] at e
      omega
  · intro hn
    by_cases hx : ∃ c ∈ l, rd c = 120
    · obtain ⟨c, hc, e⟩ := hx
      exact ⟨c, hc, e⟩
    · exfalso
      apply hn
      rw [List.eq_replicate_iff]
      refine ⟨rfl, fun c hc => ?_⟩
      have h3 := h c hc
      have h4 : rd c ≠ 120 := fun e => hx ⟨c, hc, e⟩
      have h5 : c ≠ u := fun e => hu (by rw [← e]; exact hc)
      simp only [sgn, List.mem_cons, List.not_mem_nil, or_false] at h3
      rcases h3 with rfl | rfl | rfl | rfl
      · omega
      · omega
      · exact absurd rfl h4
      · exact absurd rfl h4
end Dw

set_option Elab.async false
set_option linter.all false
set_option maxRecDepth 100000
namespace Dw
open PySem L2 Evl
/-! ### set(xs) of a list of whole numbers (the library has it of a tuple) -/
section
open PyProof.Rows
variable {P : Program} {w : World} {A : Around} {E : Value → Shared → Prop} {s : Shared}
abbrev set0 (w : World) : Obj := { cls := .type "set", dict := none, data := .set #[] 0 (.fresh 0 0 (!w.params.followText "set-order")) }
/-- set.__init__ of a set just made, handed a list -/
theorem init_set_lst {l : Addr} {us : Array Value} (ns : List Int) {R : PySem.Fin → Shared → Prop} (calm : A.handled = none) (isl : s.heap.IsList l us) (hni : IntsAre us.toList ns) (few : ns.length + 1 < scanBound)
    (k : ∀ (g : Heap) (tk c : Nat), SetR w g s.heap.objs.size (fun j => decide (j ∈ ns)) c → c ≤ ns.length → (∀ b o, s.heap.get? b = some o → g.get? b = some o) → R (.done (.ret .none)) { s with heap := g, toks := tk }) :
    wpAny (model P w) A (Builtin.«set.__init__» ⟨[.ref s.heap.objs.size, .ref l], []⟩) R E { s with heap := s.heap.push (set0 w) } := by
  have nI : us.size = ns.length := by
    rw [← Array.length_toList]
    exact IntsAre.length hni
  obtain ⟨⟨k1, k2, k3, k4⟩, at0, kc, nn, kd⟩ := isl
  simp only at kc kd
  subst kc kd
  have at1 : (s.heap.push (set0 w)).get? s.heap.objs.size = some (set0 w) := Heap.get?_push_size _ rfl
  have at2 : (s.heap.push (set0 w)).get? l = some ⟨.type "list", k2, .seq us nn, k4⟩ := Heap.get?_push_of_some _ at0
  have b1 := F.sub_list_set
  have b2 := F.sub_list_frozenset
  have b3 : (Value.type "list" == Value.type "dict") = false := by decide
  have b4 : (s.heap.push (set0 w)).IsList l us := ⟨_, at2, rfl, nn, rfl⟩
  unfold Builtin.«set.__init__» noKeywords Builtin.Frozenset.updateFrom
  generalize eI : pyIter = PI
  wp_walk
  subst eI
  refine wpAny_pyIter_list b4 (wpAny_bind (wpAny_runValue ?_))
  have lt : l < s.heap.objs.size := Heap.lt_size at0
  have n1 : (s.heap.push (set0 w)).objs.size = s.heap.objs.size + 1 := Heap.size_push ..
  have c2 : A.in1.handled = none := by simp [calm]
  have n2 : l ≠ (s.heap.push (set0 w)).objs.size := by
    rw [n1]
    exact Nat.ne_of_lt (Nat.lt_succ_of_lt lt)
  have n3 : s.heap.objs.size ∉ [(s.heap.push (set0 w)).objs.size, l] := by
    rw [n1]
    simp only [List.mem_cons, List.not_mem_nil, or_false, not_or]
    exact ⟨Nat.ne_of_lt (Nat.lt_succ_self _), Nat.ne_of_gt lt⟩
  refine set_update_ints ((Walks.list c2 _ l n2 us).toS) s.heap.objs.size n3 ns nI few (fun i v hv => ?_) (us.size - 0) 0 _ (by omega) (Nat.zero_le _) ⟨⟨_, Heap.get?_push_size _ rfl, rfl, rfl⟩, b4.push _⟩ ⟨0, Nat.le_refl 0, setR_new_at (Heap.get?_push_of_some _ at1)⟩ fun s' c mv hc hS => ?_
  · have hi : i < ns.length := by
      rw [← nI]
      exact (Array.getElem?_eq_some_iff.mp hv).1
    obtain ⟨t, e⟩ := IntsAre.int_at hni i v (by rw [Array.getElem?_toList]; exact hv)
    exact ⟨ns[i], t, List.getElem?_eq_getElem hi, by rw [e, List.getD_eq_getElem?_getD, List.getElem?_eq_getElem hi]; rfl⟩
  · obtain ⟨g, g2, d2, tk, o2⟩ := s'
    have e1 : g2 = s.gens := mv.gens
    have e2 : d2 = s.drawn := mv.drawn
    have e3 : o2 = s.os := mv.os
    subst e1 e2 e3
    rw [nI] at hc
    refine wpAny_pure (wpAny_pure (k g tk c hS hc fun b o e => ?_))
    have lb : b < s.heap.objs.size := Heap.lt_size e
    refine mv.heap b o (fun hm => ?_) (Heap.get?_push_of_some _ (Heap.get?_push_of_some _ e))
    rw [n1] at hm
    simp only [List.mem_cons, List.not_mem_nil, or_false] at hm
    rcases hm with hm | hm
    · exact absurd hm (Nat.ne_of_lt lb)
    · exact absurd hm (Nat.ne_of_lt (Nat.lt_succ_of_lt lb))
theorem call_set_lst {l : Addr} {us : Array Value} (ns : List Int) {Q : Value → Shared → Prop} (calm : A.handled = none) (isl : s.heap.IsList l us) (hni : IntsAre us.toList ns) (few : ns.length + 1 < scanBound)
    (k : ∀ (g : Heap) (tk c : Nat), SetR w g s.heap.objs.size (fun j => decide (j ∈ ns)) c → c ≤ ns.length → (∀ b o, s.heap.get? b = some o → g.get? b = some o) → Q (.ref s.heap.objs.size) { s with heap := g, toks := tk }) :
    wpAny (model P w) A (call (.type "set") [.ref l]) Q E s := by
  obtain ⟨c0, t0, m0⟩ := F.called_set.mro
  have f1 := F.called_set.made
  have f2 := F.called_set.sub
  have f3 := F.called_set.notType
  have f4 := F.called_set.canCreate
  have f5 := F.typeCall_set_1 (.ref l)
  refine wpAny_call (codeAny_of_tree (show wpAny _ _ (callAny (.type "set") _) _ _ _ from wpAny_pure ⟨Code.quiet_builtin _ (by decide +kernel), codeAny_builtin F.entry_type_call ?_⟩))
  rw [Around.under_plain (weight_type_call_type "set" [.ref l] []) rfl]
  (repeat (any_goals (first | assumption | wp_step)))
  refine codeAny_mono (code_set_led1 (.ref l) (E := E) (Q₁ := fun v s1 => v = .ref s.heap.objs.size ∧ s1 = { s with heap := s.heap.push (set0 w) }) ⟨rfl, rfl⟩) fun r s1 hr => ?_
  match r, hr with
  | .error e, hr => exact hr
  | .ok (.ret v), hr =>
    obtain ⟨rfl, rfl⟩ := hr
    have ty : Shared.TypeIs { s with heap := s.heap.push (set0 w) } (.ref s.heap.objs.size) "set" := ⟨_, Heap.get?_push_size _ rfl, rfl⟩
    have f6 := F.called_set.init.lookup
    have f7 := F.called_set.init.bind (.ref s.heap.objs.size)
    (repeat (any_goals (first | assumption | wp_step)))
    refine codeAny_mono (codeAny_call_builtin (R := wants (fun r s2 => r = .none ∧ Q (.ref s.heap.objs.size) s2) E) F.called_set.init.plain F.entry_set_init (check_set_init_1 ty ?_)) fun r2 s2 q => ?_
    · exact init_set_lst ns (A := A.in1.in1) (by simp [calm]) isl hni few fun g tk c h1 h2 h3 => ⟨rfl, k g tk c h1 h2 h3⟩
    · match r2, q with
      | .error e, q => exact q
      | .ok (.ret v), q =>
        obtain ⟨rfl, q⟩ := q
        (repeat (any_goals (first | assumption | wp_step)))
      | .ok .next, q => exact q.elim
      | .ok .brk, q => exact q.elim
      | .ok .cont, q => exact q.elim
  | .ok .next, hr => exact hr.elim
  | .ok .brk, hr => exact hr.elim
  | .ok .cont, hr => exact hr.elim
end
section
variable {X : Cx}
def rSetI (K : PySem.W.Frag) (w : World) : List V → Hp → VK → Prop := fun xs H Q => ∃ (l : Addr) (ns : List Int), xs = [.ref l] ∧ SqL K H l (ns.map V.int) ∧ ns.length ≤ 4000 ∧ ∀ (a : Addr) (c : Nat), H a = none → c ≤ ns.length → Q (.ref a) (upd H a (SetO w a (fun j => decide (j ∈ ns)) c))
theorem cr_setI (hc : X.calm = true) : CallR X (.type "set") (rSetI X.K X.w) := by
  intro pins s σ H xs us Q I r h
  obtain ⟨l, ns, rfl, hl, hn, q⟩ := h
  rw [Vals.ref1 r]
  obtain ⟨its, rv, pl, hz⟩ := I.list hl
  refine call_set_lst ns (I.ok.hd hc) pl.isList (by simpa using rv.ints) (by unfold scanBound; omega) fun g tk c hS hc2 hk => ?_
  exact ⟨.ref s.heap.objs.size, upd H s.heap.objs.size (SetO X.w s.heap.objs.size (fun j => decide (j ∈ ns)) c), I.laid (t' := tk) hk (Nat.le_refl _) (setO_new hS), rfl, q _ c (I.hok.fresh (Nat.le_refl _)) hc2⟩
end
/-- of a list of noughts and ones, sorted, each once -/
def su (ns : List Int) : List Int := (if 0 ∈ ns then [0] else []) ++ (if 1 ∈ ns then [1] else [])
theorem su_one {ns ms : List Int} (h01 : ∀ k ∈ ns, k = 0 ∨ k = 1) (hp : ms.Pairwise (· < ·)) (hm : ∀ k : Int, k ∈ ms ↔ k ∈ ns) : ms = su ns := by
  have sub : ∀ k ∈ ms, k = 0 ∨ k = 1 := fun k hk => h01 k ((hm k).mp hk)
  unfold su
  simp only [← hm]
  clear hm h01
  match ms, hp, sub with
  | [], _, _ => simp
  | [a], _, sub =>
    rcases sub a (by simp) with rfl | rfl <;> simp
  | [a, b], hp, sub =>
    have h1 : a < b := (List.pairwise_cons.mp hp).1 b (by simp)
    rcases sub a (by simp) with rfl | rfl <;> rcases sub b (by simp) with rfl | rfl <;> first | omega | simp
  | a :: b :: c :: r, hp, sub =>
    have h1 : a < b := (List.pairwise_cons.mp hp).1 b (by simp)
    have h2 : b < c := (List.pairwise_cons.mp (List.pairwise_cons.mp hp).2).1 c (by simp)
    have := sub a (by simp)
    have := sub c (by simp)
    have := sub b (by simp)
    omega
theorem el_su {K : PySem.W.Frag} {w : World} {σ : L2.St} {H : Hp} {te : TE} {ns : List Int} (h : EvL te σ H (ns.map V.int)) (h01 : ∀ k ∈ ns, k = 0 ∨ k = 1) (hz : ns.length < 64) : EvL (tCB (rSortedSet w) (tCons (tCB (rSetI K w) (tCons te tNil)) tNil)) σ H ((su ns).map V.int) := fun H1 e Q q =>
  h H1 e _ fun p H2 np e2 h2 => ⟨p, ns, rfl, sq_of h2, by omega, fun a c na hc => ⟨a, _, c, rfl, upd_same, by omega, fun ms r hp hm _ nr => by
    rw [su_one h01 hp (fun k => (hm k).trans decide_eq_true_iff)]
    exact q r _ (fresh_back e2 (fresh_back (Ex.new na) nr)) ((e2.trans (Ex.new na)).trans (Ex.new nr)) upd_same⟩⟩
/-- the same of a list that a name holds -/
theorem el_suV {K : PySem.W.Frag} {w : World} {σ : L2.St} {H : Hp} {te : TE} {ns : List Int} {p : Addr} (h : Ev te σ H (.ref p)) (hp0 : SqL K H p (ns.map V.int)) (h01 : ∀ k ∈ ns, k = 0 ∨ k = 1) (hz : ns.length < 64) : EvL (tCB (rSortedSet w) (tCons (tCB (rSetI K w) (tCons te tNil)) tNil)) σ H ((su ns).map V.int) := fun H1 e Q q =>
  h H1 e _ fun H2 e2 => ⟨p, ns, rfl, ex_l (e.trans e2) hp0, by omega, fun a c na hc => ⟨a, _, c, rfl, upd_same, by omega, fun ms r hp hm _ nr => by
    rw [su_one h01 hp (fun k => (hm k).trans decide_eq_true_iff)]
    exact q r _ (fresh_back e2 (fresh_back (Ex.new na) nr)) ((e2.trans (Ex.new na)).trans (Ex.new nr)) upd_same⟩⟩
end Dw

set_option Elab.async false
set_option linter.all false
set_option maxRecDepth 100000
namespace Dw
/-! ### the mathematics of k16: signs -/
def k3 : List Nat := [48, 49, 120]
def wN (c : Nat) : List Nat := if c ∈ [48, 49] then [if c = 49 then 1 else 0] else [0, 1]
def ways (c : Nat) : List Int := if c ∈ [48, 49] then [if c = 49 then 1 else 0] else [0, 1]
theorem ways_wN (c : Nat) : ways c = (wN c).map fun n : Nat => (n : Int) := by
  unfold ways wN
  by_cases h : c ∈ [48, 49]
  · rw [if_pos h, if_pos h]
    by_cases h2 : c = 49
    · rw [if_pos h2, if_pos h2]; rfl
    · rw [if_neg h2, if_neg h2]; rfl
  · rw [if_neg h, if_neg h]; rfl
def notS (c : Nat) : Nat := if c = 48 then 49 else if c = 49 then 48 else 120
def xorS (c d : Nat) : Nat := if c = 120 ∨ d = 120 then 120 else if c = d then 48 else 49
def orS (c d : Nat) : Nat := if c = 49 ∨ d = 49 then 49 else if c = 48 ∧ d = 48 then 48 else 120
def cnt (x c d k : Nat) : Nat := (if c = x then 1 else 0) + (if d = x then 1 else 0) + (if k = x then 1 else 0)
def mostS (c d k : Nat) : Nat := if 1 < cnt 48 c d k then 48 else if 1 < cnt 49 c d k then 49 else 120
/-- what a step makes of two bits and what is handed on: 0 plus, 1 same, 2 less, 3 the sum's own bit -/
def fW (w : Nat) (p q c : Int) : Int := match w with
  | 0 => (p + q + c) / 2
  | 1 => if (if p ≠ q then 1 else 0) > c then (if p ≠ q then 1 else 0) else c
  | 2 => if p < q + c then 1 else 0
  | _ => (p + q + c) % 2
def triL (c d : Nat) (C : List Int) : List (Int × Int × Int) := (ways c).flatMap fun a => (ways d).flatMap fun b => C.map fun k => (a, b, k)
def tri (w c d k : Nat) : List Int := (triL c d (ways k)).map fun t => fW w t.1 t.2.1 t.2.2
def signL (l : List Int) : Nat := if 0 ∈ l ∧ 1 ∈ l then 120 else if l.getD 0 0 = 1 then 49 else 48
/-- what is handed on behind all bits, the lowest first -/
def bK (w : Nat) : Nat → List Nat → List Nat → Nat
  | k, c :: A, d :: B => bK w (signL (tri w c d k)) A B
  | k, _, _ => k
def bF (w : Nat) : Nat → List Nat → List Nat → List Nat
  | k, c :: A, d :: B => signL (tri 3 c d k) :: bF w (signL (tri w c d k)) A B
  | _, _, _ => []
def plusL : Nat → List Nat → List Nat → List Nat
  | k, c :: A, d :: B => xorS (xorS c d) k :: plusL (mostS c d k) A B
  | _, _, _ => []
def hiS (c : Nat) : Nat := if c = 120 then 49 else c
def loS (c : Nat) : Nat := if c = 120 then 48 else c
def lessS (a b : List Nat) : Nat := if a.map hiS < b.map loS then 49 else if ¬ a.map loS < b.map hiS then 48 else 120
def plusS (a b : List Nat) : List Nat := (plusL 48 a.reverse b.reverse).reverse
def sameS (a b : List Nat) : Nat := notS (anyS (List.zipWith xorS a b))
/-- what the program tells of two values that are read -/
def opS (w : Nat) (a b : List Nat) : List Nat := match w with
  | 0 => plusS a b
  | 1 => [sameS a b]
  | _ => [lessS a b]
/-- what by_bits tells -/
def bbS (w : Nat) (a b : List Nat) : List Nat := match w with
  | 0 => (bF 0 48 a.reverse b.reverse).reverse
  | 1 => [notS (bK 1 48 a.reverse b.reverse)]
  | _ => [bK 2 48 a.reverse b.reverse]
theorem tri_ok : ∀ w : Fin 4, ∀ c ∈ sgn, ∀ d ∈ sgn, ∀ k ∈ k3, (∀ x ∈ tri w.val c d k, x = 0 ∨ x = 1) ∧ (tri w.val c d k).length ≤ 8 ∧ 0 < (tri w.val c d k).length ∧ su (tri w.val c d k) = ways (signL (tri w.val c d k)) ∧ signL (tri w.val c d k) ∈ k3 := by decide +kernel
theorem plus_step : ∀ c ∈ sgn, ∀ d ∈ sgn, ∀ k ∈ k3, signL (tri 3 c d k) = xorS (xorS (rd c) (rd d)) k ∧ signL (tri 0 c d k) = mostS (rd c) (rd d) k := by decide +kernel
theorem same_step : ∀ c ∈ sgn, ∀ d ∈ sgn, ∀ k ∈ k3, signL (tri 1 c d k) = orS k (xorS (rd c) (rd d)) := by decide +kernel
theorem k3_48 : 48 ∈ k3 := by decide
theorem plus_eq : ∀ (A B : List Nat) (k : Nat), Sg A → Sg B → k ∈ k3 → plusL k (A.map rd) (B.map rd) = bF 0 k A B
  | [], _, _, _, _, _ => by simp [plusL, bF]
  | _ :: _, [], _, _, _, _ => by simp [plusL, bF]
  | c :: A, d :: B, k, ha, hb, hk => by
    have hc := ha c (List.mem_cons_self ..)
    have hd := hb d (List.mem_cons_self ..)
    obtain ⟨e1, e2⟩ := plus_step c hc d hd k hk
    have h3 := (tri_ok 0 c hc d hd k hk).2.2.2.2
    show xorS (xorS (rd c) (rd d)) k :: plusL (mostS (rd c) (rd d) k) (A.map rd) (B.map rd) = signL (tri 3 c d k) :: bF 0 (signL (tri 0 c d k)) A B
    rw [e1, e2, plus_eq A B _ (fun x hx => ha x (List.mem_cons_of_mem _ hx)) (fun x hx => hb x (List.mem_cons_of_mem _ hx)) (e2 ▸ h3)]
theorem any_or (k x : Nat) (l : List Nat) (hk : k ∈ k3) (hx : x ∈ k3) : anyS (orS k x :: l) = anyS (k :: x :: l) := by
  unfold anyS
  simp only [k3, List.mem_cons, List.not_mem_nil, or_false] at hk hx
  rcases hk with rfl | rfl | rfl <;> rcases hx with rfl | rfl | rfl <;> simp [orS]
theorem xor_k3 : ∀ c ∈ sgn, ∀ d ∈ sgn, xorS (rd c) (rd d) ∈ k3 := by decide +kernel
theorem same_eq : ∀ (A B : List Nat) (k : Nat), Sg A → Sg B → k ∈ k3 → bK 1 k A B = anyS (k :: List.zipWith xorS (A.map rd) (B.map rd))
  | [], _, k, _, _, hk => by
    simp only [k3, List.mem_cons, List.not_mem_nil, or_false] at hk
    rcases hk with rfl | rfl | rfl <;> simp [bK, anyS]
  | _ :: _, [], k, _, _, hk => by
    simp only [k3, List.mem_cons, List.not_mem_nil, or_false] at hk
    rcases hk with rfl | rfl | rfl <;> simp [bK, anyS]
  | c :: A, d :: B, k, ha, hb, hk => by
    have hc := ha c (List.mem_cons_self ..)
    have hd := hb d (List.mem_cons_self ..)
    have h3 : signL (tri 1 c d k) ∈ k3 := (tri_ok 1 c hc d hd k hk).2.2.2.2
    show bK 1 (signL (tri 1 c d k)) A B = anyS (k :: xorS (rd c) (rd d) :: List.zipWith xorS (A.map rd) (B.map rd))
    rw [same_eq A B _ (fun x hx => ha x (List.mem_cons_of_mem _ hx)) (fun x hx => hb x (List.mem_cons_of_mem _ hx)) h3, same_step c hc d hd k hk, any_or _ _ _ hk (xor_k3 c hc d hd)]
theorem any_rev (l : List Nat) : anyS l.reverse = anyS l := by
  unfold anyS
  simp only [List.mem_reverse]
theorem any_48 (l : List Nat) : anyS (48 :: l) = anyS l := by
  unfold anyS
  simp
theorem bK_snoc (w : Nat) : ∀ (A B : List Nat) (k c d : Nat), A.length = B.length → bK w k (A ++ [c]) (B ++ [d]) = signL (tri w c d (bK w k A B))
  | [], [], k, c, d, _ => by simp [bK]
  | [], _ :: _, _, _, _, h => by simp at h
  | _ :: _, [], _, _, _, h => by simp at h
  | x :: A, y :: B, k, c, d, h => by
    show bK w (signL (tri w x y k)) (A ++ [c]) (B ++ [d]) = signL (tri w c d (bK w (signL (tri w x y k)) A B))
    exact bK_snoc w A B _ c d (by simpa using h)
theorem lo_hi : ∀ (a b : List Nat), Sx a → Sx b → a.length = b.length → a.map hiS < b.map loS → a.map loS < b.map hiS
  | [], [], _, _, _, h => absurd h (List.lt_irrefl _)
  | [], _ :: _, _, _, h, _ => by simp at h
  | _ :: _, [], _, _, h, _ => by simp at h
  | c :: a, d :: b, ha, hb, hl, h => by
    have hc := ha c (List.mem_cons_self ..)
    have hd := hb d (List.mem_cons_self ..)
    rw [List.map_cons, List.map_cons, List.cons_lt_cons_iff] at h ⊢
    have ih := lo_hi a b (fun x hx => ha x (List.mem_cons_of_mem _ hx)) (fun x hx => hb x (List.mem_cons_of_mem _ hx)) (by simpa using hl)
    simp only [List.mem_cons, List.not_mem_nil, or_false] at hc hd
    rcases h with h | ⟨h1, h2⟩
    · refine .inl ?_
      rcases hc with rfl | rfl | rfl <;> rcases hd with rfl | rfl | rfl <;> revert h <;> decide
    · have h3 := ih h2
      rcases hc with rfl | rfl | rfl <;> rcases hd with rfl | rfl | rfl <;> first | (exact absurd h1 (by decide)) | (exact .inr ⟨rfl, h3⟩) | (exact .inl (by decide))
theorem less_k3 (a b : List Nat) : lessS a b ∈ k3 := by
  unfold lessS
  split
  · decide
  · split <;> decide
theorem less_step {c d : Nat} (a b : List Nat) (hc : c ∈ sgn) (hd : d ∈ sgn) (ha : Sx a) (hb : Sx b) (hl : a.length = b.length) : lessS (rd c :: a) (rd d :: b) = signL (tri 2 c d (lessS a b)) := by
  have hx := lo_hi a b ha hb hl
  have key1 : ∀ c ∈ sgn, ∀ d ∈ sgn, (if hiS (rd c) < loS (rd d) ∨ hiS (rd c) = loS (rd d) ∧ True then 49 else if ¬ (loS (rd c) < hiS (rd d) ∨ loS (rd c) = hiS (rd d) ∧ True) then 48 else 120) = signL (tri 2 c d 49) := by decide +kernel
  have key2 : ∀ c ∈ sgn, ∀ d ∈ sgn, (if hiS (rd c) < loS (rd d) ∨ hiS (rd c) = loS (rd d) ∧ False then 49 else if ¬ (loS (rd c) < hiS (rd d) ∨ loS (rd c) = hiS (rd d) ∧ True) then 48 else 120) = signL (tri 2 c d 120) := by decide +kernel
  have key3 : ∀ c ∈ sgn, ∀ d ∈ sgn, (if hiS (rd c) < loS (rd d) ∨ hiS (rd c) = loS (rd d) ∧ False then 49 else if ¬ (loS (rd c) < hiS (rd d) ∨ loS (rd c) = hiS (rd d) ∧ False) then 48 else 120) = signL (tri 2 c d 48) := by decide +kernel
  unfold lessS
  simp only [List.map_cons, List.cons_lt_cons_iff]
  by_cases hP : a.map hiS < b.map loS
  · have hQ := hx hP
    simp only [hP, hQ, if_true]
    exact key1 c hc d hd
  · by_cases hQ : a.map loS < b.map hiS
    · simp only [hP, hQ, if_false, not_true_eq_false]
      exact key2 c hc d hd
    · simp only [hP, hQ, if_false, not_false_eq_true, if_true]
      exact key3 c hc d hd
theorem less_eq : ∀ (a b : List Nat), Sg a → Sg b → a.length = b.length → lessS (a.map rd) (b.map rd) = bK 2 48 a.reverse b.reverse
  | [], [], _, _, _ => by simp [lessS, bK]
  | [], _ :: _, _, _, h => by simp at h
  | _ :: _, [], _, _, h => by simp at h
  | c :: a, d :: b, ha, hb, hl => by
    have hl2 : a.length = b.length := by simpa using hl
    have ha2 : Sg a := fun x hx => ha x (List.mem_cons_of_mem _ hx)
    have hb2 : Sg b := fun x hx => hb x (List.mem_cons_of_mem _ hx)
    rw [List.reverse_cons, List.reverse_cons, bK_snoc 2 _ _ _ _ _ (by simpa using hl2), ← less_eq a b ha2 hb2 hl2]
    exact less_step _ _ (ha c (List.mem_cons_self ..)) (hb d (List.mem_cons_self ..)) (rd_sx ha2) (rd_sx hb2) (by simpa using hl2)
theorem sg_rev {a : List Nat} (h : Sg a) : Sg a.reverse := fun x hx => h x (List.mem_reverse.mp hx)
/-- the program tells what goes from bit to bit -/
theorem op_bb {w : Nat} (a b : List Nat) (ha : Sg a) (hb : Sg b) (hl : a.length = b.length) : opS w (a.map rd) (b.map rd) = bbS w a b := by
  match w with
  | 0 =>
    show (plusL 48 (a.map rd).reverse (b.map rd).reverse).reverse = (bF 0 48 a.reverse b.reverse).reverse
    rw [← List.map_reverse, ← List.map_reverse, plus_eq _ _ _ (sg_rev ha) (sg_rev hb) k3_48]
  | 1 =>
    show [notS (anyS (List.zipWith xorS (a.map rd) (b.map rd)))] = [notS (bK 1 48 a.reverse b.reverse)]
    rw [same_eq _ _ _ (sg_rev ha) (sg_rev hb) k3_48, any_48, List.map_reverse, List.map_reverse, ← List.reverse_zipWith (by simpa using hl), any_rev]
  | n + 2 =>
    show [lessS (a.map rd) (b.map rd)] = [bK 2 48 a.reverse b.reverse]
    rw [less_eq a b ha hb hl]
/-! ### numbers of all fillings -/
/-- m is a number of a filling, the lowest bit first -/
def Num : List Nat → Nat → Prop
  | [], m => m = 0
  | c :: A, m => ∃ p ∈ wN c, ∃ n, Num A n ∧ m = 2 * n + p
theorem num_some : ∀ A : List Nat, ∃ m, Num A m
  | [] => ⟨0, rfl⟩
  | c :: A => by
    obtain ⟨n, hn⟩ := num_some A
    have h : ∃ p, p ∈ wN c := by
      unfold wN
      split
      · exact ⟨_, List.mem_singleton.mpr rfl⟩
      · exact ⟨0, by simp⟩
    obtain ⟨p, hp⟩ := h
    exact ⟨2 * n + p, p, hp, n, hn, rfl⟩
theorem num_lt : ∀ (A : List Nat) (m : Nat), Num A m → m < 2 ^ A.length
  | [], m, h => by
    have : m = 0 := h
    simp [this]
  | c :: A, m, h => by
    obtain ⟨p, hp, n, hn, rfl⟩ := h
    have h1 := num_lt A n hn
    have h2 : p < 2 := by
      unfold wN at hp
      split at hp
      · have := List.mem_singleton.mp hp
        split at this <;> omega
      · simp at hp
        omega
    rw [List.length_cons, Nat.pow_succ]
    omega
/-- the sign c for what may be: true, false, both -/
def SignOf (P : Bool → Prop) (c : Nat) : Prop := (c = 49 ∧ P true ∧ ¬ P false) ∨ (c = 48 ∧ P false ∧ ¬ P true) ∨ (c = 120 ∧ P true ∧ P false)
theorem SignOf.one {P : Bool → Prop} {c d : Nat} (h1 : SignOf P c) (h2 : SignOf P d) : c = d := by
  rcases h1 with ⟨rfl, a, b⟩ | ⟨rfl, a, b⟩ | ⟨rfl, a, b⟩ <;> rcases h2 with ⟨rfl, a', b'⟩ | ⟨rfl, a', b'⟩ | ⟨rfl, a', b'⟩ <;> first | rfl | (exact absurd a b') | (exact absurd a' b) | (exact absurd b b') | (exact absurd b' b)
theorem SignOf.congr {P Q : Bool → Prop} {c : Nat} (h : ∀ v, P v ↔ Q v) (h1 : SignOf P c) : SignOf Q c := by
  unfold SignOf at h1 ⊢
  rw [← h true, ← h false]
  exact h1
theorem SignOf.not {P : Bool → Prop} {c : Nat} (h1 : SignOf P c) : SignOf (fun v => P (!v)) (notS c) := by
  rcases h1 with ⟨rfl, a, b⟩ | ⟨rfl, a, b⟩ | ⟨rfl, a, b⟩
  · exact .inr (.inl ⟨rfl, a, b⟩)
  · exact .inl ⟨rfl, a, b⟩
  · exact .inr (.inr ⟨rfl, b, a⟩)
/-- of two bits and what is handed on, and of the whole numbers -/
def hW (w : Nat) (m n q : Nat) : Bool := if w = 1 then decide (q = 1 ∨ m ≠ n) else decide (m < n + q)
theorem wN_01 (c : Nat) : ∀ p ∈ wN c, p = 0 ∨ p = 1 := by
  intro p hp
  unfold wN at hp
  split at hp
  · have := List.mem_singleton.mp hp
    split at this <;> omega
  · simp at hp
    omega
theorem tri_mem (w c d k : Nat) (x : Int) : x ∈ tri w c d k ↔ ∃ p ∈ wN c, ∃ q ∈ wN d, ∃ r ∈ wN k, x = fW w (p : Int) (q : Int) (r : Int) := by
  unfold tri triL
  simp only [ways_wN, List.mem_map, List.mem_flatMap]
  constructor
  · rintro ⟨t, ⟨a, ⟨p, hp, rfl⟩, b, ⟨q, hq, rfl⟩, k, ⟨r, hr, rfl⟩, rfl⟩, rfl⟩
    exact ⟨p, hp, q, hq, r, hr, rfl⟩
  · rintro ⟨p, hp, q, hq, r, hr, rfl⟩
    exact ⟨_, ⟨_, ⟨p, hp, rfl⟩, _, ⟨q, hq, rfl⟩, _, ⟨r, hr, rfl⟩, rfl⟩, rfl⟩
theorem su_mem (l : List Int) (h : ∀ x ∈ l, x = 0 ∨ x = 1) (x : Int) : x ∈ su l ↔ x ∈ l := by
  unfold su
  by_cases h0 : (0 : Int) ∈ l <;> by_cases h1 : (1 : Int) ∈ l <;> simp only [h0, h1, if_true, if_false, List.mem_append, List.mem_singleton, List.not_mem_nil, or_false, false_or]
  all_goals
    constructor
    · intro hx
      first | (rcases hx with rfl | rfl <;> assumption) | (subst hx; assumption) | exact hx.elim
    · intro hx
      have := h x hx
      rcases this with rfl | rfl <;> simp_all
/-- what is handed on, by signs -/
theorem next_mem {w : Nat} (hw : w < 4) {c d k : Nat} (hc : c ∈ sgn) (hd : d ∈ sgn) (hk : k ∈ k3) (s : Nat) : s ∈ wN (signL (tri w c d k)) ↔ ∃ p ∈ wN c, ∃ q ∈ wN d, ∃ r ∈ wN k, (s : Int) = fW w (p : Int) (q : Int) (r : Int) := by
  obtain ⟨h1, _, _, h4, _⟩ := tri_ok ⟨w, hw⟩ c hc d hd k hk
  simp only at h1 h4
  rw [← tri_mem, ← su_mem _ h1, h4, ways_wN, List.mem_map]
  constructor
  · intro h
    exact ⟨s, h, rfl⟩
  · rintro ⟨t, ht, e⟩
    rw [show s = t by omega]
    exact ht
theorem hW_step {w : Nat} (hw : w = 1 ∨ w = 2) {p q r m n : Nat} (hp : p = 0 ∨ p = 1) (hq : q = 0 ∨ q = 1) (hr : r = 0 ∨ r = 1) {s : Nat} (hs : (s : Int) = fW w (p : Int) (q : Int) (r : Int)) : hW w (2 * m + p) (2 * n + q) r = hW w m n s := by
  rcases hw with rfl | rfl
  · unfold hW
    rw [if_pos rfl, if_pos rfl, decide_eq_decide]
    rcases hp with rfl | rfl <;> rcases hq with rfl | rfl <;> rcases hr with rfl | rfl <;> simp [fW] at hs <;> omega
  · unfold hW
    rw [if_neg (by decide), if_neg (by decide), decide_eq_decide]
    rcases hp with rfl | rfl <;> rcases hq with rfl | rfl <;> rcases hr with rfl | rfl <;> simp [fW] at hs <;> omega
theorem fW_nat {w : Nat} (hw : w < 4) {p q r : Nat} (hp : p = 0 ∨ p = 1) (hq : q = 0 ∨ q = 1) (hr : r = 0 ∨ r = 1) : ∃ s : Nat, (s : Int) = fW w (p : Int) (q : Int) (r : Int) := by
  match w, hw with
  | 0, _ => exact ⟨(p + q + r) / 2, by simp [fW]⟩
  | 1, _ => rcases hp with rfl | rfl <;> rcases hq with rfl | rfl <;> rcases hr with rfl | rfl <;> first | exact ⟨0, by decide⟩ | exact ⟨1, by decide⟩
  | 2, _ => rcases hp with rfl | rfl <;> rcases hq with rfl | rfl <;> rcases hr with rfl | rfl <;> first | exact ⟨0, by decide⟩ | exact ⟨1, by decide⟩
  | 3, _ => exact ⟨(p + q + r) % 2, by simp [fW]⟩
theorem hand_eq {w : Nat} (hw : w = 1 ∨ w = 2) : ∀ (A B : List Nat) (k : Nat), Sg A → Sg B → k ∈ k3 → A.length = B.length → SignOf (fun v => ∃ m n q, Num A m ∧ Num B n ∧ q ∈ wN k ∧ hW w m n q = v) (bK w k A B)
  | [], [], k, _, _, hk, _ => by
    have base : ∀ (q : Nat), (q = 0 ∨ q = 1) → hW w 0 0 q = decide (q = 1) := fun q hq => by
      rcases hw with rfl | rfl <;> rcases hq with rfl | rfl <;> decide
    refine SignOf.congr (P := fun v => ∃ q ∈ wN k, decide (q = 1) = v) (fun v => ?_) ?_
    · constructor
      · rintro ⟨q, hq, rfl⟩
        exact ⟨0, 0, q, rfl, rfl, hq, base q (wN_01 k q hq)⟩
      · rintro ⟨m, n, q, rfl, rfl, hq, rfl⟩
        exact ⟨q, hq, (base q (wN_01 k q hq)).symm⟩
    · show SignOf _ k
      simp only [k3, List.mem_cons, List.not_mem_nil, or_false] at hk
      rcases hk with rfl | rfl | rfl
      · exact .inr (.inl ⟨rfl, ⟨0, by decide, by decide⟩, by rintro ⟨q, hq, e⟩; simp [wN] at hq; subst hq; revert e; decide⟩)
      · exact .inl ⟨rfl, ⟨1, by decide, by decide⟩, by rintro ⟨q, hq, e⟩; simp [wN] at hq; subst hq; revert e; decide⟩
      · exact .inr (.inr ⟨rfl, ⟨1, by decide, by decide⟩, ⟨0, by decide, by decide⟩⟩)
  | [], _ :: _, _, _, _, _, h => by simp at h
  | _ :: _, [], _, _, _, _, h => by simp at h
  | c :: A, d :: B, k, ha, hb, hk, hl => by
    have hc := ha c (List.mem_cons_self ..)
    have hd := hb d (List.mem_cons_self ..)
    have hw4 : w < 4 := by omega
    have h3 : signL (tri w c d k) ∈ k3 := (tri_ok ⟨w, hw4⟩ c hc d hd k hk).2.2.2.2
    have ih := hand_eq hw A B (signL (tri w c d k)) (fun x hx => ha x (List.mem_cons_of_mem _ hx)) (fun x hx => hb x (List.mem_cons_of_mem _ hx)) h3 (by simpa using hl)
    refine SignOf.congr (fun v => ?_) ih
    constructor
    · rintro ⟨m, n, s, hm, hn, hs, rfl⟩
      obtain ⟨p, hp, q, hq, r, hr, e⟩ := (next_mem hw4 hc hd hk s).mp hs
      exact ⟨2 * m + p, 2 * n + q, r, ⟨p, hp, m, hm, rfl⟩, ⟨q, hq, n, hn, rfl⟩, hr, hW_step hw (wN_01 _ _ hp) (wN_01 _ _ hq) (wN_01 _ _ hr) e⟩
    · rintro ⟨_, _, r, ⟨p, hp, m, hm, rfl⟩, ⟨q, hq, n, hn, rfl⟩, hr, rfl⟩
      obtain ⟨s, e⟩ := fW_nat hw4 (wN_01 _ _ hp) (wN_01 _ _ hq) (wN_01 _ _ hr)
      exact ⟨m, n, s, hm, hn, (next_mem hw4 hc hd hk s).mpr ⟨p, hp, q, hq, r, hr, e⟩, (hW_step hw (wN_01 _ _ hp) (wN_01 _ _ hq) (wN_01 _ _ hr) e).symm⟩
/-- a list of noughts and ones by its sign -/
theorem signL_of (l : List Int) (h : ∀ x ∈ l, x = 0 ∨ x = 1) (h0 : 0 < l.length) : SignOf (fun v => (if v then 1 else 0) ∈ l) (signL l) := by
  unfold signL SignOf
  match l, h0 with
  | x :: r, _ =>
    have hx := h x (List.mem_cons_self ..)
    by_cases h1 : (0 : Int) ∈ x :: r ∧ (1 : Int) ∈ x :: r
    · rw [if_pos h1]
      exact .inr (.inr ⟨rfl, h1.2, h1.1⟩)
    · rw [if_neg h1]
      rcases hx with rfl | rfl
      · refine .inr (.inl ⟨by simp, by simp, fun z => h1 ⟨by simp, by simpa using z⟩⟩)
      · refine .inl ⟨by simp, by simp, fun z => h1 ⟨by simpa using z, by simp⟩⟩
theorem bF_len (w : Nat) : ∀ (A B : List Nat) (k : Nat), A.length = B.length → (bF w k A B).length = A.length
  | [], [], _, _ => by simp [bF]
  | [], _ :: _, _, h => by simp at h
  | _ :: _, [], _, h => by simp at h
  | c :: A, d :: B, k, h => by
    show (_ :: bF w _ A B).length = A.length + 1
    rw [List.length_cons, bF_len w A B _ (by simpa using h)]
theorem sum_eq : ∀ (A B : List Nat) (k j : Nat), Sg A → Sg B → k ∈ k3 → A.length = B.length → j < A.length → SignOf (fun v => ∃ m n q, Num A m ∧ Num B n ∧ q ∈ wN k ∧ (m + n + q).testBit j = v) ((bF 0 k A B).getD j 0)
  | [], _, _, _, _, _, _, _, h => by simp at h
  | _ :: _, [], _, _, _, _, _, h, _ => by simp at h
  | c :: A, d :: B, k, 0, ha, hb, hk, hl, _ => by
    have hc := ha c (List.mem_cons_self ..)
    have hd := hb d (List.mem_cons_self ..)
    obtain ⟨h1, _, h3, _, _⟩ := tri_ok 3 c hc d hd k hk
    obtain ⟨m0, hm0⟩ := num_some A
    obtain ⟨n0, hn0⟩ := num_some B
    show SignOf _ (signL (tri 3 c d k))
    refine SignOf.congr (fun v => ?_) (signL_of (tri 3 c d k) h1 h3)
    rw [tri_mem]
    have bit : ∀ (p q r m n : Nat), ((if v = true then 1 else 0 : Int) = fW 3 (p : Int) (q : Int) (r : Int) ↔ (2 * m + p + (2 * n + q) + r).testBit 0 = v) := fun p q r m n => by
      rw [Nat.testBit_zero]
      simp only [fW]
      cases v with
      | true =>
        simp
        omega
      | false =>
        simp
        omega
    constructor
    · rintro ⟨p, hp, q, hq, r, hr, e⟩
      exact ⟨2 * m0 + p, 2 * n0 + q, r, ⟨p, hp, m0, hm0, rfl⟩, ⟨q, hq, n0, hn0, rfl⟩, hr, (bit p q r m0 n0).mp e⟩
    · rintro ⟨_, _, r, ⟨p, hp, m, hm, rfl⟩, ⟨q, hq, n, hn, rfl⟩, hr, e⟩
      exact ⟨p, hp, q, hq, r, hr, (bit p q r m n).mpr e⟩
  | c :: A, d :: B, k, j + 1, ha, hb, hk, hl, hj => by
    have hc := ha c (List.mem_cons_self ..)
    have hd := hb d (List.mem_cons_self ..)
    have h3 : signL (tri 0 c d k) ∈ k3 := (tri_ok 0 c hc d hd k hk).2.2.2.2
    have ih := sum_eq A B (signL (tri 0 c d k)) j (fun x hx => ha x (List.mem_cons_of_mem _ hx)) (fun x hx => hb x (List.mem_cons_of_mem _ hx)) h3 (by simpa using hl) (by simpa using hj)
    have ih : SignOf _ ((bF 0 k (c :: A) (d :: B)).getD (j + 1) 0) := ih
    refine SignOf.congr (fun v => ?_) ih
    have bit : ∀ (p q r m n s : Nat), (s : Int) = fW 0 (p : Int) (q : Int) (r : Int) → (2 * m + p + (2 * n + q) + r).testBit (j + 1) = (m + n + s).testBit j := fun p q r m n s e => by
      rw [Nat.testBit_succ]
      congr 1
      simp only [fW] at e
      omega
    constructor
    · rintro ⟨m, n, s, hm, hn, hs, rfl⟩
      obtain ⟨p, hp, q, hq, r, hr, e⟩ := (next_mem (by decide) hc hd hk s).mp hs
      exact ⟨2 * m + p, 2 * n + q, r, ⟨p, hp, m, hm, rfl⟩, ⟨q, hq, n, hn, rfl⟩, hr, bit p q r m n s e⟩
    · rintro ⟨_, _, r, ⟨p, hp, m, hm, rfl⟩, ⟨q, hq, n, hn, rfl⟩, hr, rfl⟩
      obtain ⟨s, e⟩ := fW_nat (w := 0) (by decide) (wN_01 _ _ hp) (wN_01 _ _ hq) (wN_01 _ _ hr)
      exact ⟨m, n, s, hm, hn, (next_mem (by decide) hc hd hk s).mpr ⟨p, hp, q, hq, r, hr, e⟩, (bit p q r m n s e).symm⟩
/-- all numbers, as the list grows -/
def numS (acc : List Nat) (c : Nat) : List Nat := acc.map (fun n => 2 * n + (wN c).getD 0 0) ++ acc.map (fun n => 2 * n + (wN c).getD ((wN c).length - 1) 0)
def nums (l : List Nat) : List Nat := l.foldl numS [0]
theorem nums_snoc (l : List Nat) (c : Nat) : nums (l ++ [c]) = numS (nums l) c := by
  unfold nums
  rw [List.foldl_append]
  rfl
theorem nums_len : ∀ l : List Nat, (nums l).length = 2 ^ l.length := fun l => by
  have gen : ∀ (l acc : List Nat), (l.foldl numS acc).length = acc.length * 2 ^ l.length := fun l => by
    induction l with
    | nil => intro acc; simp
    | cons c l ih =>
      intro acc
      rw [List.foldl_cons, ih, List.length_cons, Nat.pow_succ]
      unfold numS
      rw [List.length_append, List.length_map, List.length_map, ← Nat.mul_two, Nat.mul_assoc, Nat.mul_comm 2]
  have := gen l [0]
  simpa [nums] using this
theorem wN_ends (c p : Nat) : p ∈ wN c ↔ p = (wN c).getD 0 0 ∨ p = (wN c).getD ((wN c).length - 1) 0 := by
  unfold wN
  split <;> simp
theorem nums_mem : ∀ (A : List Nat) (m : Nat), m ∈ nums A.reverse ↔ Num A m
  | [], m => by simp [nums, Num]
  | c :: A, m => by
    rw [List.reverse_cons, nums_snoc]
    unfold numS
    rw [List.mem_append, List.mem_map, List.mem_map]
    constructor
    · rintro (⟨n, hn, rfl⟩ | ⟨n, hn, rfl⟩)
      · exact ⟨_, (wN_ends c _).mpr (.inl rfl), n, (nums_mem A n).mp hn, rfl⟩
      · exact ⟨_, (wN_ends c _).mpr (.inr rfl), n, (nums_mem A n).mp hn, rfl⟩
    · rintro ⟨p, hp, n, hn, rfl⟩
      rcases (wN_ends c p).mp hp with rfl | rfl
      · exact .inl ⟨n, (nums_mem A n).mpr hn, rfl⟩
      · exact .inr ⟨n, (nums_mem A n).mpr hn, rfl⟩
/-! ### the bits of all -/
def gW (w wd m n : Nat) : Nat := match w with
  | 0 => (m + n) % 2 ^ wd
  | 1 => if m = n then 1 else 0
  | _ => if m < n then 1 else 0
def pairs (w wd : Nat) (xs ys : List Nat) : List Nat := xs.flatMap fun m => ys.map fun n => gW w wd m n
def andL (l : List Nat) : Nat := l.foldl (· &&& ·) (l.getD 0 0)
def orL (l : List Nat) : Nat := l.foldl (· ||| ·) (l.getD 0 0)
def bitL (l : List Nat) (j : Nat) : Nat := if (andL l).testBit j = true then 49 else if (orL l).testBit j = false then 48 else 120
def bitsW (l : List Nat) (wd : Nat) : List Nat := (List.range wd).map fun i => bitL l (wd - 1 - i)
theorem and_bit (j : Nat) : ∀ (l : List Nat) (x : Nat), (l.foldl (· &&& ·) x).testBit j = (x.testBit j && l.all fun s => s.testBit j)
  | [], x => by simp
  | s :: l, x => by
    rw [List.foldl_cons, and_bit j l, Nat.testBit_and, List.all_cons, Bool.and_assoc]
theorem or_bit (j : Nat) : ∀ (l : List Nat) (x : Nat), (l.foldl (· ||| ·) x).testBit j = (x.testBit j || l.any fun s => s.testBit j)
  | [], x => by simp
  | s :: l, x => by
    rw [List.foldl_cons, or_bit j l, Nat.testBit_or, List.any_cons, Bool.or_assoc]
theorem bitL_of (l : List Nat) (j : Nat) (h0 : 0 < l.length) : SignOf (fun v => ∃ s ∈ l, s.testBit j = v) (bitL l j) := by
  match l, h0 with
  | x :: r, _ =>
    have ea : (andL (x :: r)).testBit j = (x :: r).all fun s => s.testBit j := by
      unfold andL
      rw [and_bit]
      simp [List.all_cons]
    have eo : (orL (x :: r)).testBit j = (x :: r).any fun s => s.testBit j := by
      unfold orL
      rw [or_bit]
      simp [List.any_cons]
    unfold bitL
    rw [ea, eo]
    by_cases h1 : ((x :: r).all fun s => s.testBit j) = true
    · rw [if_pos h1]
      rw [List.all_eq_true] at h1
      exact .inl ⟨rfl, ⟨x, by simp, h1 x (by simp)⟩, by
        rintro ⟨s, hs, e⟩
        rw [h1 s hs] at e
        cases e⟩
    · rw [if_neg h1]
      have hf : ∃ s ∈ x :: r, s.testBit j = false := by
        refine Classical.byContradiction fun z => h1 (List.all_eq_true.mpr fun s hs => ?_)
        cases e : s.testBit j with
        | true => rfl
        | false => exact absurd ⟨s, hs, e⟩ z
      by_cases h2 : ((x :: r).any fun s => s.testBit j) = false
      · rw [if_pos h2]
        rw [List.any_eq_false] at h2
        exact .inr (.inl ⟨rfl, hf, by
          rintro ⟨s, hs, e⟩
          exact h2 s hs e⟩)
      · rw [if_neg h2]
        have h3 : ((x :: r).any fun s => s.testBit j) = true := by
          cases e : (x :: r).any fun s => s.testBit j with
          | true => rfl
          | false => exact absurd e h2
        rw [List.any_eq_true] at h3
        exact .inr (.inr ⟨rfl, h3, hf⟩)
theorem pairs_mem (w wd : Nat) (xs ys : List Nat) (s : Nat) : s ∈ pairs w wd xs ys ↔ ∃ m ∈ xs, ∃ n ∈ ys, s = gW w wd m n := by
  unfold pairs
  rw [List.mem_flatMap]
  constructor
  · rintro ⟨m, hm, h⟩
    obtain ⟨n, hn, rfl⟩ := List.mem_map.mp h
    exact ⟨m, hm, n, hn, rfl⟩
  · rintro ⟨m, hm, n, hn, rfl⟩
    exact ⟨m, hm, List.mem_map.mpr ⟨n, hn, rfl⟩⟩
theorem getD_last (L : List Nat) (n i : Nat) (h : L.length = n) (hi : L.length - 1 - i < L.length) : L.getD (n - 1 - i) 0 = L[L.length - 1 - i]'hi := by
  subst h
  rw [List.getD_eq_getElem?_getD, List.getElem?_eq_getElem hi]
  rfl
/-- what all fillings give is what goes from bit to bit -/
theorem due_bb {w : Nat} {a b xs ys : List Nat} (ha : Sg a) (hb : Sg b) (hl : a.length = b.length) (hx : ∀ m, m ∈ xs ↔ m ∈ nums a) (hy : ∀ m, m ∈ ys ↔ m ∈ nums b) :
    0 < (pairs w a.length xs ys).length ∧ bitsW (pairs w a.length xs ys) (if w = 0 then a.length else 1) = bbS w a b := by
  have hxA : ∀ m, m ∈ xs ↔ Num a.reverse m := fun m => by
    rw [hx, ← nums_mem, List.reverse_reverse]
  have hyB : ∀ m, m ∈ ys ↔ Num b.reverse m := fun m => by
    rw [hy, ← nums_mem, List.reverse_reverse]
  obtain ⟨m0, hm0⟩ := num_some a.reverse
  obtain ⟨n0, hn0⟩ := num_some b.reverse
  have hpos : 0 < (pairs w a.length xs ys).length := List.length_pos_of_mem ((pairs_mem _ _ _ _ _).mpr ⟨m0, (hxA m0).mpr hm0, n0, (hyB n0).mpr hn0, rfl⟩)
  refine ⟨hpos, ?_⟩
  have hlr : a.reverse.length = b.reverse.length := by simpa using hl
  match w with
  | 0 =>
    show bitsW (pairs 0 a.length xs ys) a.length = (bF 0 48 a.reverse b.reverse).reverse
    have hF := bF_len 0 a.reverse b.reverse 48 hlr
    rw [List.length_reverse] at hF
    apply List.ext_getElem
    · rw [List.length_reverse, hF]
      simp [bitsW]
    · intro i h1 h2
      simp only [bitsW, List.length_map, List.length_range] at h1
      rw [List.getElem_reverse]
      simp only [bitsW, List.getElem_map, List.getElem_range]
      have s1 := bitL_of (pairs 0 a.length xs ys) (a.length - 1 - i) hpos
      have s2 := sum_eq a.reverse b.reverse 48 (a.length - 1 - i) (sg_rev ha) (sg_rev hb) k3_48 hlr (by rw [List.length_reverse]; omega)
      have e : (bF 0 48 a.reverse b.reverse).getD (a.length - 1 - i) 0 = (bF 0 48 a.reverse b.reverse)[(bF 0 48 a.reverse b.reverse).length - 1 - i]'(by omega) := by
        exact getD_last _ _ _ hF (by omega)
      rw [← e]
      refine SignOf.one s1 (SignOf.congr (fun v => ?_) s2)
      constructor
      · rintro ⟨m, n, q, hm, hn, hq, rfl⟩
        have hq0 : q = 0 := by simpa [wN] using hq
        subst hq0
        refine ⟨_, (pairs_mem _ _ _ _ _).mpr ⟨m, (hxA m).mpr hm, n, (hyB n).mpr hn, rfl⟩, ?_⟩
        show ((m + n) % 2 ^ a.length).testBit _ = _
        rw [Nat.testBit_mod_two_pow, decide_eq_true (by omega), Bool.true_and]
        rfl
      · rintro ⟨s, hs, rfl⟩
        obtain ⟨m, hm, n, hn, rfl⟩ := (pairs_mem _ _ _ _ _).mp hs
        refine ⟨m, n, 0, (hxA m).mp hm, (hyB n).mp hn, by decide, ?_⟩
        show _ = ((m + n) % 2 ^ a.length).testBit _
        rw [Nat.testBit_mod_two_pow, decide_eq_true (by omega), Bool.true_and]
        rfl
  | 1 =>
    show [bitL (pairs 1 a.length xs ys) 0] = [notS (bK 1 48 a.reverse b.reverse)]
    have s1 := bitL_of (pairs 1 a.length xs ys) 0 hpos
    have s2 := (hand_eq (w := 1) (.inl rfl) a.reverse b.reverse 48 (sg_rev ha) (sg_rev hb) k3_48 hlr).not
    congr 1
    refine SignOf.one s1 (SignOf.congr (fun v => ?_) s2)
    have bit : ∀ m n : Nat, (gW 1 a.length m n).testBit 0 = !hW 1 m n 0 := fun m n => by
      show (if m = n then 1 else 0 : Nat).testBit 0 = _
      unfold hW
      by_cases h : m = n <;> simp [h]
    constructor
    · rintro ⟨m, n, q, hm, hn, hq, e⟩
      have hq0 : q = 0 := by simpa [wN] using hq
      subst hq0
      exact ⟨_, (pairs_mem _ _ _ _ _).mpr ⟨m, (hxA m).mpr hm, n, (hyB n).mpr hn, rfl⟩, by rw [bit, e]; simp⟩
    · rintro ⟨s, hs, rfl⟩
      obtain ⟨m, hm, n, hn, rfl⟩ := (pairs_mem _ _ _ _ _).mp hs
      exact ⟨m, n, 0, (hxA m).mp hm, (hyB n).mp hn, by decide, by rw [bit]; simp⟩
  | w + 2 =>
    show [bitL (pairs (w + 2) a.length xs ys) 0] = [bK 2 48 a.reverse b.reverse]
    have s1 := bitL_of (pairs (w + 2) a.length xs ys) 0 hpos
    have s2 := hand_eq (w := 2) (.inr rfl) a.reverse b.reverse 48 (sg_rev ha) (sg_rev hb) k3_48 hlr
    congr 1
    refine SignOf.one s1 (SignOf.congr (fun v => ?_) s2)
    have bit : ∀ m n : Nat, (gW (w + 2) a.length m n).testBit 0 = hW 2 m n 0 := fun m n => by
      show (if m < n then 1 else 0 : Nat).testBit 0 = _
      unfold hW
      by_cases h : m < n <;> simp [h]
    constructor
    · rintro ⟨m, n, q, hm, hn, hq, rfl⟩
      have hq0 : q = 0 := by simpa [wN] using hq
      subst hq0
      exact ⟨_, (pairs_mem _ _ _ _ _).mpr ⟨m, (hxA m).mpr hm, n, (hyB n).mpr hn, rfl⟩, bit m n⟩
    · rintro ⟨s, hs, rfl⟩
      obtain ⟨m, hm, n, hn, rfl⟩ := (pairs_mem _ _ _ _ _).mp hs
      exact ⟨m, n, 0, (hxA m).mp hm, (hyB n).mp hn, by decide, (bit m n).symm⟩
end Dw

set_option Elab.async false
set_option linter.all false
set_option maxRecDepth 100000
namespace Dw
open PySem L2 Evl
/-! ### sorted(set(xs)), up to a thousand members; sum of a tuple -/
section
open PyProof.Rows
variable {P : Program} {w : World} {A : Around} {E : Value → Shared → Prop} {s : Shared} {a : Addr}
theorem sorted_setA {S : Int → Bool} {m : Nat} {Q : Value → Shared → Prop} (R : SetR w s.heap a S m) (calm : A.handled = none) (few : m ≤ 1000)
    (k : ∀ z p (o : Array Value) (c : Nat) (ms : List Int), (∀ b u, s.heap.get? b = some u → z.heap.get? b = some u) → z.gens = s.gens → z.os = s.os → s.heap.objs.size ≤ p → z.heap.get? p = some (seqObj "list" o c) → IntsAre o.toList ms → ms.Pairwise (· < ·) → (∀ j, j ∈ ms ↔ S j = true) → ms.length = m → Q (.ref p) z) :
    wpAny (model P w) A (call (.builtin "sorted") [.ref a]) Q E s := by
  obtain ⟨ob, es, ep, t, at0, ex0, dt, kg, nd, km, kb, kf, kn, kr, kl⟩ := R
  refine Calls.call_function_entry kind_sorted plain_sorted entry_sorted (args_sorted1 _) ?_; unfold Builtin.«sorted»
  refine wpAny_bind (m := checkCount "sorted" 1 1 _) (wpAny_pure (wpAny_bind (collect_set (A := A.in1) calm ⟨ob, at0, ex0.1, dt⟩ kf kb kr kl fun y vs k1 hz g1 o1 pm => ?_)))
  have nv : vs.length = m := by rw [pm.length_eq, List.length_map, Array.length_toList, kn]
  have hI : IntsAre vs (vs.map Builtin.Re.reRawOf) := ints_of vs fun x hx => by
    obtain ⟨en, he, rfl⟩ := List.mem_map.mp (pm.mem_iff.mp hx)
    obtain ⟨j, tk, e1, _⟩ := kg en he
    exact ⟨j, tk, e1⟩
  have pk : (vs.map Builtin.Re.reRawOf).Perm (es.toList.map keyOf) := by
    have g := pm.map Builtin.Re.reRawOf
    rwa [List.map_map] at g
  have nz : vs.length ≤ sizeLine := by rw [nv, sizeLine_eq]; omega
  refine wpAny_bind (wpAny_newList ?_ nz)
  have atL : (y.heap.push (seqObj "list" vs.toArray 0)).get? y.heap.objs.size = some (seqObj "list" vs.toArray 0) := Heap.get?_push_size _ rfl
  refine wpAny_bind (wpAny_holding (wpAny_call_entry slot_list_sort ⟨_, atL, rfl⟩ entry_list_sort (list_sort_treeAny atL hI nz fun o ms i1 i2 i3 => ⟨_, rfl, ?_⟩) (args_list_sort _)))
  obtain ⟨c, hc⟩ := sortedHeap_at (vs := vs) (out := o) atL
  have pn : ms.Perm (es.toList.map keyOf) := i2.trans pk
  refine wpAny_pure ⟨_, rfl, k _ y.heap.objs.size o c ms (fun b u e => ?_) g1 o1 hz hc i1 (lt_of_le_nodup ms i3 (pn.nodup_iff.mpr nd)) (fun j => by rw [pn.mem_iff, ← km j]) (by rw [pn.length_eq, List.length_map, Array.length_toList, kn])⟩
  have g := k1 b u e
  have lt := Heap.lt_size g
  show (sortedHeap (y.heap.push (seqObj "list" vs.toArray 0)) y.heap.objs.size vs o).get? b = some u
  rw [sortedHeap_old (Nat.ne_of_lt lt) (by rw [size_push']; exact Nat.lt_succ_of_lt lt)]
  exact Heap.get?_push_of_some _ g
end
section
variable {X : Cx}
def rSortedSetA (w : World) : List V → Hp → VK → Prop := fun vs H Q => ∃ (a : Addr) (S : Int → Bool) (n : Nat), vs = [V.ref a] ∧ H a = some (SetO w a S n) ∧ n ≤ 1000 ∧
  ∀ (ms : List Int) (p : Addr), ms.Pairwise (· < ·) → (∀ j : Int, j ∈ ms ↔ S j = true) → ms.length = n → H p = none → Q (.ref p) (upd H p (.lst (ms.map V.int)))
theorem cr_sortedSetA (calm : X.calm = true) : CallR X (.builtin "sorted") (rSortedSetA X.w) := by
  intro pins s σ H vs us Q I r h
  obtain ⟨a, S, n, rfl, ha, few, q⟩ := h
  rw [Vals.ref1 r]
  refine sorted_setA (setO_get I ha) (I.ok.hd calm) few fun z p o c ms k g y hp hg hi hs hm hl => ?_
  have nz : (ms.map V.int).length ≤ sizeLine := by rw [List.length_map, hl, sizeLine_eq]; omega
  have np : H p = none := I.hok.fresh hp
  have J : Inv X pins σ (upd H p (.lst (ms.map V.int))) { s with heap := z.heap, gens := z.gens, drawn := z.drawn, toks := z.toks } :=
    I.call (ch := []) (Un.laid k hp np) (I.hok.laid k hp ⟨nz, o.toList, c, vals_of_ints hi, hg⟩) (by rw [g]; exact I.bare) (fun _ u => nomatch u)
  have e : z = { s with heap := z.heap, gens := z.gens, drawn := z.drawn, toks := z.toks } := by
    cases z
    cases s
    cases y
    rfl
  rw [e]
  exact ⟨.ref p, _, J, rfl, q ms p hs hm hl np⟩
def rSumT (K : PySem.W.Frag) : List V → Hp → VK → Prop := fun vs H Q => ∃ (a : Addr) (ns : List Int), vs = [V.ref a] ∧ SqT K H a (ns.map V.int) ∧ Q (.int ns.sum) H
open PyProof.Rows in
theorem cr_sumT (calm : X.calm = true) : CallR X (.builtin "sum") (rSumT X.K) := by
  intro pins s σ H vs us Q I r h
  obtain ⟨a, ns, rfl, hs, q⟩ := h
  obtain ⟨its, rv, hl, _⟩ := I.tuple hs
  rw [Vals.ref1 r]
  have hi := rv.ints
  obtain ⟨xs, e⟩ := hi.allInts.items
  have hn : numsOf (intItems xs).toList = ns := by rw [← e]; exact hi.numsOf
  rw [nums_intItems] at hn
  rw [e] at hl
  refine PySem.W.ktm_sumG (I.ok.hd calm) hl fun h' tk t' hk => ?_
  rw [preSum_eq, List.take_of_length_le (by simp), hn]
  exact ⟨.int _, H, I.kept hk, ⟨_, rfl⟩, q⟩
end
end Dw

set_option Elab.async false
set_option linter.all false
set_option maxRecDepth 100000
namespace Dw
open PySem L2 Evl
/-! ### lists of tuples of three numbers -/
abbrev T3 := Int × Int × Int
def t3 (t : T3) : List V := [.int t.1, .int t.2.1, .int t.2.2]
inductive Tups (H : Hp) : List Addr → List T3 → Prop where
  | nil : Tups H [] []
  | cons {r : Addr} {rs : List Addr} {t : T3} {ts : List T3} : H r = some (.tup (t3 t)) → Tups H rs ts → Tups H (r :: rs) (t :: ts)
theorem Tups.len {H : Hp} {rs : List Addr} {ts : List T3} (h : Tups H rs ts) : rs.length = ts.length := by
  induction h with
  | nil => rfl
  | cons _ _ ih => rw [List.length_cons, List.length_cons, ih]
theorem Tups.mono {H H' : Hp} {rs : List Addr} {ts : List T3} (h : Tups H rs ts) (e : ∀ r xs, H r = some (.tup xs) → H' r = some (.tup xs)) : Tups H' rs ts := by
  induction h with
  | nil => exact .nil
  | cons a _ ih => exact .cons (e _ _ a) ih
theorem Tups.ex {H H' : Hp} {rs : List Addr} {ts : List T3} (h : Tups H rs ts) (e : Ex H H') : Tups H' rs ts := h.mono fun r xs a => e r _ a
theorem Tups.upd {H : Hp} {rs : List Addr} {ts : List T3} {l : Addr} {xs : List V} {o : HO} (h : Tups H rs ts) (hl : H l = some (.lst xs)) : Tups (L2.upd H l o) rs ts := h.mono fun r ys a => by
  have n : r ≠ l := fun z => by
    rw [z, hl] at a
    cases a
  rw [upd_ne n]
  exact a
theorem Tups.app {H : Hp} {rs rs' : List Addr} {ts ts' : List T3} (h : Tups H rs ts) (h' : Tups H rs' ts') : Tups H (rs ++ rs') (ts ++ ts') := by
  induction h with
  | nil => exact h'
  | cons a _ ih => exact .cons a ih
theorem Tups.at {H : Hp} {rs : List Addr} {ts : List T3} (h : Tups H rs ts) : ∀ {i : Nat} {r : Addr}, rs[i]? = some r → ∃ t, ts[i]? = some t ∧ H r = some (.tup (t3 t)) := by
  induction h with
  | nil => intro i r h; cases h
  | @cons r0 rs0 t0 ts0 a _ ih =>
    intro i r hi
    cases i with
    | zero =>
      have : r0 = r := Option.some.inj hi
      subst this
      exact ⟨t0, rfl, a⟩
    | succ i => exact ih hi
/-- a new list of new tuples -/
def EvTs (te : TE) (σ : L2.St) (H : Hp) (ts : List T3) : Prop := ∀ H1, Ex H H1 → ∀ Q : VK, (∀ p rs H2, H1 p = none → Ex H1 H2 → H2 p = some (.lst (rs.map V.ref)) → Tups H2 rs ts → Q (.ref p) H2) → te σ H1 Q
section
variable {K : PySem.W.Frag} {w : World} {σ : L2.St} {H H' : Hp} {ta tb tc te tx tl : TE} {t u : TT} {x y z v : V} {D : Ends}
theorem map_at {α : Type} {f : α → V} {xs : List α} {i : Nat} {y : V} (h : (xs.map f)[i]? = some y) : ∃ a, xs[i]? = some a ∧ y = f a := by
  rw [List.getElem?_map] at h
  cases hq : xs[i]? with
  | none =>
    rw [hq] at h
    cases h
  | some a =>
    rw [hq] at h
    exact ⟨a, rfl, (Option.some.inj h).symm⟩
theorem ets_lc {a : Addr} {ns : List Int} {j : Nat} {vs : List Nat} (g : Int → T3) (h : Ev tl σ H (.ref a)) (hx : SqL K H a (ns.map V.int)) (hz : ns.length ≤ 40000) (hw : ∀ x, wipe ((wipe σ vs).set j (some x)) vs = wipe σ vs)
    (he : ∀ (n : Int) H1, Ex H H1 → EvU te ((wipe σ vs).set j (some (.int n))) H1 (t3 (g n))) : EvTs (tLc (iList K tl) (gName j) tYes te vs) σ H (ns.map g) := fun H0 e Q q => h H0 e _ fun H1 e1 => ⟨a, rfl, ⟨_, ex_l (e.trans e1) hx⟩, fun Dl hD => by
  refine lc_list (xs := ns.map V.int) (fun i H2 => Ex H1 H2 ∧ ∃ rs, H2 Dl = some (.lst (rs.map V.ref)) ∧ Tups H2 rs ((ns.take i).map g)) ⟨Ex.new hD, [], upd_same, .nil⟩ (fun i H2 _ p => ex_l ((e.trans e1).trans p.1) hx) (fun i x H2 hi p => ?_) (fun H2 p => ?_)
  · obtain ⟨n, hn, rfl⟩ := map_at hi
    obtain ⟨x2, rs, hd, ht⟩ := p
    have hln := ht.len
    have hil : i < ns.length := (List.getElem?_eq_some_iff.mp hn).1
    refine ⟨hw _, he n H2 ((e.trans e1).trans x2) H2 (Ex.refl _) _ fun r H4 nr e4 h4 => ⟨_, e4 _ _ hd, sz_lt ?_, Ex.mut (x2.trans e4) hD, rs ++ [r], ?_, ?_⟩⟩
    · rw [List.length_map, hln, List.length_map, List.length_take]
      omega
    · rw [upd_same, List.map_append]
      rfl
    · rw [List.take_add_one, hn, List.map_append]
      refine ((ht.ex e4).app (.cons h4 .nil)).upd (e4 _ _ hd)
  · obtain ⟨x2, rs, hd, ht⟩ := p
    rw [List.length_map, List.take_length] at ht
    exact q Dl rs H2 (fresh_back e1 hD) (e1.trans x2) hd ht⟩
/-- over a list of tuples, by a name -/
theorem el_lcTs {p : Addr} {rs : List Addr} {ts : List T3} {j : Nat} {vs : List Nat} (g : T3 → V) (h : Ev tl σ H (.ref p)) (hp : H p = some (.lst (rs.map V.ref))) (ht : Tups H rs ts) (hz : rs.length ≤ 40000) (hw : ∀ x, wipe ((wipe σ vs).set j (some x)) vs = wipe σ vs)
    (he : ∀ (r : Addr) (t : T3) H1, Ex H H1 → t ∈ ts → H1 r = some (.tup (t3 t)) → Ev te ((wipe σ vs).set j (some (.ref r))) H1 (g t)) : EvL (tLc (iList K tl) (gName j) tYes te vs) σ H (ts.map g) := by
  have hs : (rs.map V.ref).length = ts.length := by rw [List.length_map, ht.len]
  rw [← given_all ts (0, 0, 0) g, ← hs]
  refine el_lcL (fun _ => true) (fun i => g (ts.getD i (0, 0, 0))) h (sq_of hp) (by rw [List.length_map]; exact hz) hw (fun i x H1 e hi => et_yes) (fun i x H1 e hi _ => ?_)
  obtain ⟨r, hr, rfl⟩ := map_at hi
  obtain ⟨t, h1, h2⟩ := ht.at hr
  rw [show ts.getD i (0, 0, 0) = t by rw [List.getD_eq_getElem?_getD, h1]; rfl]
  exact he r t H1 e (List.mem_of_getElem? h1) (e _ _ h2)
/-- over a list of tuples, by three names -/
theorem el_lcT3 {p : Addr} {rs : List Addr} {ts : List T3} {j1 j2 j3 : Nat} {vs : List Nat} (g : T3 → V) (h : Ev tl σ H (.ref p)) (hp : H p = some (.lst (rs.map V.ref))) (ht : Tups H rs ts) (hz : rs.length ≤ 40000) (hw : ∀ x y z, wipe ((((wipe σ vs).set j1 (some x)).set j2 (some y)).set j3 (some z)) vs = wipe σ vs)
    (he : ∀ (t : T3) H1, Ex H H1 → t ∈ ts → Ev te ((((wipe σ vs).set j1 (some (.int t.1))).set j2 (some (.int t.2.1))).set j3 (some (.int t.2.2))) H1 (g t)) : EvL (tLc (iList K tl) (gTup K 3 (gCons (gName j1) (gCons (gName j2) (gCons (gName j3) gNil)))) tYes te vs) σ H (ts.map g) := fun H0 e Q q => h H0 e _ fun H1 e1 => ⟨p, rfl, ⟨_, sq_of (e1 _ _ (e _ _ hp))⟩, fun Dl hD => by
  have hs : (rs.map V.ref).length = ts.length := by rw [List.length_map, ht.len]
  refine lc_list (xs := rs.map V.ref) (fun i H2 => Ex H1 H2 ∧ H2 Dl = some (.lst ((ts.map g).take i))) ⟨Ex.new hD, upd_same⟩ (fun i H2 _ p2 => sq_of (p2.1 _ _ (e1 _ _ (e _ _ hp)))) (fun i x H2 hi p2 => ?_) (fun H2 p2 => ?_)
  · obtain ⟨r, hr, rfl⟩ := map_at hi
    obtain ⟨t, h1, h2⟩ := ht.at hr
    have x02 := (e.trans e1).trans p2.1
    have hg : (ts.map g)[i]? = some (g t) := by rw [List.getElem?_map, h1]; rfl
    refine ⟨r, _, rfl, st_of (x02 _ _ h2), rfl, _, _, rfl, _, _, rfl, _, _, rfl, rfl, hw _ _ _, ?_⟩
    refine he t H2 x02 (List.mem_of_getElem? h1) H2 (Ex.refl _) _ fun H4 e4 => ⟨_, e4 _ _ p2.2, sz_lt ?_, ?_, ?_⟩
    · have := List.length_take_le' i (ts.map g)
      rw [List.length_map] at this hs
      omega
    · exact Ex.mut (p2.1.trans e4) hD
    · rw [upd_same, List.take_add_one, hg]
      rfl
  · obtain ⟨p1, p3⟩ := p2
    rw [hs, List.take_of_length_le (by rw [List.length_map]; exact Nat.le_refl _)] at p3
    exact q Dl H2 (fresh_back e1 hD) (e1.trans p1) p3⟩
/-- xs.extend([..]) -/
theorem s_ext {l : Addr} {xs ys : List V} (hl : H l = some (.lst xs)) (ha : Ev ta σ H (.ref l)) (h : EvL te σ H ys) (hz : xs.length + ys.length ≤ 100000) (k : ∀ H1, Ex H H1 → D.nx σ (L2.upd H1 l (.lst (xs ++ ys)))) :
    tDrop (tBM K "list" rExtend ta (tCons te tNil)) D σ H := ha H (Ex.refl H) _ fun H1 e1 =>
  ⟨Or.inl ⟨rfl, xs, sq_of (e1 l _ hl)⟩, h H1 e1 _ fun p H2 _ e2 h2 => ⟨l, p, xs, ys, rfl, rfl, e2 l _ (e1 l _ hl), h2, sz_of hz, k H2 (e1.trans e2)⟩⟩
theorem s_extT {l : Addr} {xs : List V} {ts : List T3} (hl : H l = some (.lst xs)) (ha : Ev ta σ H (.ref l)) (h : EvTs te σ H ts) (hz : xs.length + ts.length ≤ 100000) (k : ∀ rs H1, Ex H H1 → Tups H1 rs ts → D.nx σ (L2.upd H1 l (.lst (xs ++ rs.map V.ref)))) :
    tDrop (tBM K "list" rExtend ta (tCons te tNil)) D σ H := ha H (Ex.refl H) _ fun H1 e1 =>
  ⟨Or.inl ⟨rfl, xs, sq_of (e1 l _ hl)⟩, h H1 e1 _ fun p rs H2 _ e2 h2 h3 => ⟨l, p, xs, rs.map V.ref, rfl, rfl, e2 l _ (e1 l _ hl), h2, sz_of (by rw [List.length_map, h3.len]; exact hz), k rs H2 (e1.trans e2) h3⟩⟩
theorem ev_sumT {r : Addr} {ns : List Int} (h : Ev te σ H (.ref r)) (hr : SqT K H r (ns.map V.int)) : Ev (tCB (rSumT K) (tCons te tNil)) σ H (.int ns.sum) := fun H1 e Q q => h H1 e _ fun H2 e2 => ⟨r, ns, rfl, ex_t (e.trans e2) hr, q H2 e2⟩
theorem el_cat {xs ys : List V} (ha : EvL ta σ H xs) (hb : EvL tb σ H ys) (hz : xs.length + ys.length ≤ 100000) : EvL (tOp rCat ta tb) σ H (xs ++ ys) := fun H1 e Q q =>
  ha H1 e _ fun p H2 np e2 h2 => hb H2 (e.trans e2) _ fun r H3 nr e3 h3 => ⟨p, r, xs, ys, rfl, rfl, e3 _ _ h2, h3, sz_of hz, fun s ns => q s _ (fresh_back (e2.trans e3) ns) ((e2.trans e3).trans (Ex.new ns)) upd_same⟩
theorem ev_ixN {xs : List V} {i : Int} (ha : EvL ta σ H xs) (hb : ∀ H1, Ex H H1 → Ev tb σ H1 (.int i)) (h : atI xs i = some v) : Ev (tOp (rIxL K) ta tb) σ H v := ev_opL1 ha hb fun p H1 hp _ => rv_ixL (sq_of hp) h
theorem el_is {xs ys : List V} (h : EvL te σ H xs) (e : xs = ys) : EvL te σ H ys := e ▸ h
def rInt1 : List V → Hp → VK → Prop := fun xs H Q => (∃ i, xs = [.int i] ∧ Q (.int i) H) ∨ ∃ k, xs = [.bl k] ∧ Q (.int (if k then 1 else 0)) H
theorem ev_int1 {b : Bool} (h : Ev te σ H (.bl b)) : Ev (tCB rInt1 (tCons te tNil)) σ H (.int (if b then 1 else 0)) := fun H1 e Q q => h H1 e _ fun H2 e2 => .inr ⟨b, rfl, q H2 e2⟩
theorem ev_ltT {a b : List Nat} (ha : Ev ta σ H (.str (Tx a))) (hb : Ev tb σ H (.str (Tx b))) : Ev (tOp (fun x y H Q => ∃ i j, x = .str i ∧ y = .str j ∧ Q (.bl (decide (i.cps.toList < j.cps.toList))) H) ta tb) σ H (.bl (decide (a < b))) := ev_op ha hb fun H1 _ Q q => ⟨Tx a, Tx b, rfl, rfl, q H1 (Ex.refl _)⟩
theorem ev_geT {a b : List Nat} (ha : Ev ta σ H (.str (Tx a))) (hb : Ev tb σ H (.str (Tx b))) : Ev (tOp (fun x y H Q => ∃ i j, x = .str i ∧ y = .str j ∧ Q (.bl (!decide (i.cps.toList < j.cps.toList))) H) ta tb) σ H (.bl (!decide (a < b))) := ev_op ha hb fun H1 _ Q q => ⟨Tx a, Tx b, rfl, rfl, q H1 (Ex.refl _)⟩
theorem ev_countT {a : List Nat} {c : Nat} {n : Nat} (ha : Ev ta σ H (.str (Tx a))) (hb : Ev tb σ H (.str (Tx [c]))) (hn : Txt.count (Tx a) (Tx [c]) = n) : Ev (tM1 (fun x xs H Q => ∃ a b, x = .str a ∧ xs = [.str b] ∧ Q (.int (Txt.count a b)) H) ta tb) σ H (.int (n : Int)) := fun H1 e Q q =>
  ha H1 e _ fun H2 e2 => ⟨⟨_, rfl⟩, hb H2 (e.trans e2) _ fun H3 e3 => ⟨Tx a, Tx [c], rfl, rfl, by rw [hn]; exact q H3 (e2.trans e3)⟩⟩
theorem ev_cutA {l : List Nat} {th : TO} {j : Nat} (ha : Ev te σ H (.str (Tx l))) (h2 : EvO th σ H (some (j : Int))) (hj : j ≤ l.length) (hz : l.length ≤ 40000) : Ev (tSl rSlS te tNoPart th) σ H (.str (Tx (l.take j))) := fun H1 e Q q =>
  ha H1 e _ fun H2 e2 => eo_none H2 (Ex.refl _) _ fun H3 e3 => h2 H3 ((e.trans e2).trans e3) _ fun H4 e4 => ⟨Tx l, rfl, sz_of (by rw [Tx_len]; omega), by
    have : cutS (Tx l) none (some (j : Int)) = Tx (l.take j) := by
      unfold cutS
      rw [Tx_len, HT.sIx_none, HT.sIx_nat, Nat.min_eq_left hj]
      rfl
    rw [this]
    exact q H4 ((e2.trans e3).trans e4)⟩
theorem ev_cutB {l : List Nat} {th : TO} {i : Nat} (ha : Ev te σ H (.str (Tx l))) (h2 : EvO th σ H (some (i : Int))) (hi : i ≤ l.length) (hz : l.length ≤ 40000) : Ev (tSl rSlS te th tNoPart) σ H (.str (Tx (l.drop i))) := fun H1 e Q q =>
  ha H1 e _ fun H2 e2 => h2 H2 (e.trans e2) _ fun H3 e3 => eo_none H3 (Ex.refl _) _ fun H4 e4 => ⟨Tx l, rfl, sz_of (by rw [Tx_len]; omega), by
    have : cutS (Tx l) (some (i : Int)) none = Tx (l.drop i) := by
      unfold cutS
      rw [Tx_len, HT.sIx_none, HT.sIx_nat, Nat.min_eq_left hi]
      show Tx ((l.drop i).take (l.length - i)) = Tx (l.drop i)
      rw [List.take_of_length_le (by rw [List.length_drop]; exact Nat.le_refl _)]
    rw [this]
    exact q H4 ((e2.trans e3).trans e4)⟩
/-- sorted(set(..)) of noughts and ones, of any list of numbers -/
theorem el_suA {ns : List Int} (h : EvL te σ H (ns.map V.int)) (h01 : ∀ k ∈ ns, k = 0 ∨ k = 1) (hz : ns.length ≤ 1000) : EvL (tCB (rSortedSetA w) (tCons (tCB (rSetI K w) (tCons te tNil)) tNil)) σ H ((su ns).map V.int) := fun H1 e Q q =>
  h H1 e _ fun p H2 np e2 h2 => ⟨p, ns, rfl, sq_of h2, by omega, fun a c na hc => ⟨a, _, c, rfl, upd_same, by omega, fun ms r hp hm _ nr => by
    rw [su_one h01 hp (fun k => (hm k).trans decide_eq_true_iff)]
    exact q r _ (fresh_back e2 (fresh_back (Ex.new na) nr)) ((e2.trans (Ex.new na)).trans (Ex.new nr)) upd_same⟩⟩
theorem el_suVA {ns : List Int} {p : Addr} (h : Ev te σ H (.ref p)) (hp0 : SqL K H p (ns.map V.int)) (h01 : ∀ k ∈ ns, k = 0 ∨ k = 1) (hz : ns.length ≤ 1000) : EvL (tCB (rSortedSetA w) (tCons (tCB (rSetI K w) (tCons te tNil)) tNil)) σ H ((su ns).map V.int) := fun H1 e Q q =>
  h H1 e _ fun H2 e2 => ⟨p, ns, rfl, ex_l (e.trans e2) hp0, by omega, fun a c na hc => ⟨a, _, c, rfl, upd_same, by omega, fun ms r hp hm _ nr => by
    rw [su_one h01 hp (fun k => (hm k).trans decide_eq_true_iff)]
    exact q r _ (fresh_back e2 (fresh_back (Ex.new na) nr)) ((e2.trans (Ex.new na)).trans (Ex.new nr)) upd_same⟩⟩
/-- sorted(set(xs)) of numbers from nought on: a list of the same numbers -/
theorem s_retN {ns : List Nat} {p : Addr} (h : Ev te σ H (.ref p)) (hp0 : SqL K H p (ns.map fun n : Nat => V.int (n : Int))) (hz : ns.length ≤ 1000)
    (k : ∀ (ms : List Nat) r H1, (∀ m, m ∈ ms ↔ m ∈ ns) → ms.length ≤ ns.length → H r = none → Ex H H1 → H1 r = some (.lst (ms.map fun n : Nat => V.int (n : Int))) → D.rt (.ref r) H1) : tRet (tCB (rSortedSetA w) (tCons (tCB (rSetI K w) (tCons te tNil)) tNil)) D σ H := by
  refine h H (Ex.refl _) _ fun H2 e2 => ⟨p, ns.map fun n : Nat => (n : Int), rfl, ?_, by rw [List.length_map]; omega, fun a c na hc => ⟨a, _, c, rfl, upd_same, by rw [List.length_map] at hc; omega, fun ms r hp hm hl nr => ?_⟩⟩
  · rw [List.map_map]
    exact ex_l e2 hp0
  · have hm2 : ∀ j : Int, j ∈ ms ↔ ∃ n ∈ ns, (n : Int) = j := fun j => by rw [hm j, decide_eq_true_iff, List.mem_map]
    have e3 : ms = (ms.map Int.toNat).map fun n : Nat => (n : Int) := by
      rw [List.map_map]
      refine (List.map_id ms).symm.trans (List.map_congr_left fun j hj => ?_)
      obtain ⟨n, _, rfl⟩ := (hm2 j).mp hj
      rfl
    rw [e3, List.map_map]
    refine k (ms.map Int.toNat) r _ (fun m => ?_) (by rw [List.length_map, hl]; rw [List.length_map] at hc; exact hc) (fresh_back e2 (fresh_back (Ex.new na) nr)) ((e2.trans (Ex.new na)).trans (Ex.new nr)) upd_same
    rw [List.mem_map]
    constructor
    · rintro ⟨j, hj, rfl⟩
      obtain ⟨n, hn, rfl⟩ := (hm2 j).mp hj
      exact hn
    · intro hm3
      exact ⟨(m : Int), (hm2 _).mpr ⟨m, hm3, rfl⟩, rfl⟩
end
theorem su_01 {ns : List Int} : su ns = [0, 1] ↔ 0 ∈ ns ∧ 1 ∈ ns := by
  unfold su
  by_cases h0 : (0 : Int) ∈ ns <;> by_cases h1 : (1 : Int) ∈ ns <;> simp [h0, h1]
theorem str_01 {i : Int} (h : i = 0 ∨ i = 1) : (i.natAbs.log2 < 1920) ∧ (V.str (Str.ofString (toString i)) = V.str (Tx [if i = 1 then 49 else 48])) := by
  rcases h with rfl | rfl
  · exact ⟨by decide, by decide +kernel⟩
  · exact ⟨by decide, by decide +kernel⟩
theorem low_of {l : List Nat} (h : Sg l) : LowS (Tx l) := low_Tx h.low
theorem g_name {i : Nat} {v : V} {σ : L2.St} {H : Hp} {R : L2.St → Hp → Prop} (h : R (σ.set i (some v)) H) : gName i v σ H R := h
theorem ev_callL2' {σ : L2.St} {H : Hp} {te tw : TE} {z : V} {sp : Sp} {dvs : List V} {E : XK} {w : V} {xs : List V} (hw : Ev tw σ H w) (h : EvL te σ H xs) (hs : ∀ p H1, H1 p = some (.lst xs) → Ex H H1 → SpV sp ([w, .ref p] ++ dvs) H1 z) : Ev (tCall sp dvs E (tCons tw (tCons te tNil))) σ H z := fun H1 e Q q =>
  hw H1 e _ fun H0 e0 => h H0 (e.trans e0) _ fun p H2 _ e2 h2 => hs p H2 h2 ((e.trans e0).trans e2) H2 (Ex.refl _) Q (fun H3 e3 => q H3 ((e0.trans e2).trans e3)) E
theorem ev_callL1 {σ : L2.St} {H : Hp} {te : TE} {z : V} {sp : Sp} {dvs : List V} {E : XK} {xs : List V} (h : EvL te σ H xs) (hs : ∀ p H1, H1 p = some (.lst xs) → Ex H H1 → SpV sp ([.ref p] ++ dvs) H1 z) : Ev (tCall sp dvs E (tCons te tNil)) σ H z := fun H1 e Q q =>
  h H1 e _ fun p H2 _ e2 h2 => hs p H2 h2 (e.trans e2) H2 (Ex.refl _) Q (fun H3 e3 => q H3 (e2.trans e3)) E
/-! ### and, or of numbers from nought on -/
theorem band (a b : Nat) : Builtin.bitAnd (a : Int) (b : Int) = ((a &&& b : Nat) : Int) := PySem.W.os_band a b
theorem bor (a b : Nat) : Builtin.bitOr (a : Int) (b : Int) = ((a ||| b : Nat) : Int) := bitOr_nn (Int.natCast_nonneg _) (Int.natCast_nonneg _)
theorem shr_bit (x k : Nat) (v : Bool) : decide (V.int (Builtin.bitAnd ((x : Int) / 2 ^ ((k : Int).toNat)) 1) = V.int (if v then 1 else 0)) = decide (x.testBit k = v) := by
  have e : (x : Int) / 2 ^ ((k : Int).toNat) = ((x / 2 ^ k : Nat) : Int) := by
    rw [Int.toNat_natCast]
    simp
  have e2 : Builtin.bitAnd ((x : Int) / 2 ^ ((k : Int).toNat)) 1 = ((x / 2 ^ k % 2 : Nat) : Int) := by
    rw [e]
    refine (band (x / 2 ^ k) 1).trans ?_
    rw [Nat.and_one_is_mod]
  rw [e2, Nat.testBit_eq_decide_div_mod_eq, decide_eq_decide]
  have h2 : x / 2 ^ k % 2 = 0 ∨ x / 2 ^ k % 2 = 1 := by omega
  rcases h2 with h | h <;> rw [h] <;> cases v <;> decide
end Dw

set_option Elab.async false
set_option linter.all false
set_option maxRecDepth 100000
namespace Dw
open PySem L2 Evl
theorem ix_listK {X : Cx} {K : PySem.W.Frag} (h : X.K = K) : IxR X (rIxL K) := h ▸ ix_list
theorem cr_sumTK {X : Cx} {K : PySem.W.Frag} (h : X.K = K) (calm : X.calm = true) : CallR X (.builtin "sum") (rSumT K) := h ▸ cr_sumT calm
theorem code_of {l : List Nat} {i c : Nat} (h : (Tx l).cps[i]? = some c) : l[i]? = some c := by
  rw [← h]
  simp [Tx]
theorem drop_at {l : List Nat} {i c : Nat} (h : l[i]? = some c) : l.drop i = c :: l.drop (i + 1) := by
  obtain ⟨hi, rfl⟩ := List.getElem?_eq_some_iff.mp h
  exact List.drop_eq_getElem_cons hi
theorem take_snoc {l : List Nat} {i c : Nat} (h : l[i]? = some c) : l.take (i + 1) = l.take i ++ [c] := by
  rw [List.take_add_one, h]
  rfl
/-- all but what stands at p and at r is as it was -/
def ExC (p r : Addr) (H H' : Hp) : Prop := ∀ b o, b ≠ p → b ≠ r → H b = some o → H' b = some o
theorem ExC.of {p r : Addr} {H H' : Hp} (e : Ex H H') : ExC p r H H' := fun b o _ _ h => e b o h
theorem ExC.ofB {p r : Addr} {H H' : Hp} (e : ExB p H H') : ExC p r H H' := fun b o n _ h => e b o n h
theorem ExC.trans {p r : Addr} {H H1 H2 : Hp} (a : ExC p r H H1) (b : ExC p r H1 H2) : ExC p r H H2 := fun c o n m h => b c o n m (a c o n m h)
theorem ExC.upd {p r : Addr} {H H' : Hp} {o : HO} (e : ExC p r H H') : ExC p r H (L2.upd H' r o) := fun b u n m h => by
  rw [upd_ne m]
  exact e b u n m h
theorem ExC.back {p r : Addr} {H0 H H' : Hp} (e0 : Ex H0 H) (hp : H0 p = none) (hr : H0 r = none) (e : ExC p r H H') : Ex H0 H' := fun b o h => e b o (ne_of_none h hp) (ne_of_none h hr) (e0 b o h)
def RoomAt (H : Hp) (r : Addr) : Prop := ∃ x : Int, H r = some (.lst [.int x])
theorem RoomAt.ex {H H' : Hp} {r : Addr} (h : RoomAt H r) (e : Ex H H') : RoomAt H' r := let ⟨x, h⟩ := h; ⟨x, e _ _ h⟩
theorem pot_room {H : Hp} {p r : Addr} (h : PotAt H p) (h2 : RoomAt H r) : r ≠ p := fun z => by
  obtain ⟨x, y, h1, _⟩ := h
  obtain ⟨u, h2⟩ := h2
  rw [z, h1] at h2
  cases h2
theorem RoomAt.exB {H H' : Hp} {p r : Addr} (h : RoomAt H r) (hp : PotAt H p) (e : ExB p H H') : RoomAt H' r :=
  let n := pot_room hp h
  let ⟨x, h⟩ := h
  ⟨x, e _ _ n h⟩
section
variable {K : PySem.W.Frag} {w : World} {σ : L2.St} {H H' : Hp} {ta tb tc te tx tl : TE} {t u : TT} {x y z v : V} {D : Ends}
/-- over a list of whatever -/
theorem el_lcG {α : Type} [Inhabited α] {xs : List α} {a : Addr} {j : Nat} {vs : List Nat} (f : α → V) (g : α → V) (h : Ev tl σ H (.ref a)) (hx : SqL K H a (xs.map f)) (hz : xs.length ≤ 40000) (hw : ∀ x, wipe ((wipe σ vs).set j (some x)) vs = wipe σ vs)
    (he : ∀ (n : α) H1, Ex H H1 → n ∈ xs → Ev te ((wipe σ vs).set j (some (f n))) H1 (g n)) : EvL (tLc (iList K tl) (gName j) tYes te vs) σ H (xs.map g) := by
  have hs : (xs.map f).length = xs.length := List.length_map _
  rw [← given_all xs default g, ← hs]
  refine el_lcL (fun _ => true) (fun i => g (xs.getD i default)) h hx (by omega) hw (fun i x H1 e hi => et_yes) (fun i x H1 e hi _ => ?_)
  obtain ⟨n, hn, rfl⟩ := map_at hi
  rw [show xs.getD i default = n by rw [List.getD_eq_getElem?_getD, hn]; rfl]
  exact he n H1 e (List.mem_of_getElem? hn)
theorem tCons_def {tr : TA} {Q : List V → Hp → Prop} : tCons te tr σ H Q = te σ H fun x H1 => tr σ H1 fun xs H2 => Q (x :: xs) H2 := rfl
theorem tLst_def {tr : TA} {Q : VK} : tLst tr σ H Q = tr σ H fun xs H1 => xs.length ≤ sizeLine ∧ ∀ p, H1 p = none → Q (.ref p) (L2.upd H1 p (.lst xs)) := rfl
theorem tOp_def {r : R2} {Q : VK} : tOp r ta tb σ H Q = ta σ H fun x H1 => tb σ H1 fun y H2 => r x y H2 Q := rfl
/-- [[0, 1], [int(sign == '1')]][int(sign in '01')] -/
theorem el_ways {c i : Nat} (hi : σ[i]? = some (some (.str (Tx [c])))) : EvL (tOp (rIxL K) (tLst (tCons (tLst (tCons (tC (.int 0)) (tCons (tC (.int 1)) tNil))) (tCons (tLst (tCons (tCB rInt1 (tCons (tOp rEq (tVar i) (tC (.str (Str.ofString "1")))) tNil)) tNil)) tNil)))
    (tCB rInt1 (tCons (tOp rInS (tVar i) (tC (.str (Str.ofString "01")))) tNil))) σ H ((ways c).map V.int) := fun H0 e0 Q q => by
  have A1 : EvL (tLst (tCons (tC (.int 0)) (tCons (tC (.int 1)) tNil))) σ H0 [V.int 0, .int 1] := el_lst (ea_cons ev_c (ea_cons ev_c ea_nil)) (by simp)
  rw [tOp_def, tLst_def, tCons_def]
  refine A1 H0 (Ex.refl _) _ fun p1 H1 n1 e1 h1 => ?_
  have A2 : EvL (tLst (tCons (tCB rInt1 (tCons (tOp rEq (tVar i) (tC (.str (Str.ofString "1")))) tNil)) tNil)) σ H1 [V.int (if decide ([c] = [49]) = true then 1 else 0)] := el_lst (ea_cons (ev_int1 (ev_eqT (ev_var hi) ec_1)) ea_nil) (by simp)
  rw [tCons_def]
  refine A2 H1 (Ex.refl _) _ fun p2 H2 n2 e2 h2 => ?_
  refine ⟨by show 2 ≤ sizeLine; decide, fun p3 n3 => ?_⟩
  have e3 := Ex.new (o := .lst [V.ref p1, .ref p2]) n3
  have h3 := upd_same (H := H2) (a := p3) (o := .lst [V.ref p1, .ref p2])
  generalize L2.upd H2 p3 (.lst [V.ref p1, .ref p2]) = H3 at e3 h3 ⊢
  have A4 : Ev (tCB rInt1 (tCons (tOp rInS (tVar i) (tC (.str (Str.ofString "01")))) tNil)) σ H3 (.int (if decide (c ∈ [48, 49]) = true then 1 else 0)) := ev_int1 (ev_inT (ev_var hi) ec_01)
  refine A4 H3 (Ex.refl _) _ fun H4 e4 => ?_
  have x1 : Ex H0 H4 := ((e1.trans e2).trans e3).trans e4
  by_cases h : c ∈ [48, 49]
  · refine ⟨p3, _, 1, _, rfl, by rw [if_pos (decide_eq_true h)], sq_of (e4 _ _ h3), atI_nat (j := 1) rfl, q p2 H4 (fresh_back e1 n2) x1 ?_⟩
    unfold ways
    rw [if_pos h, (e3.trans e4) _ _ h2]
    simp
  · refine ⟨p3, _, 0, _, rfl, by rw [if_neg (by rw [decide_eq_false h]; decide)], sq_of (e4 _ _ h3), atI_nat (j := 0) rfl, q p1 H4 n1 x1 ?_⟩
    unfold ways
    rw [if_neg h, ((e2.trans e3).trans e4) _ _ h1]
    rfl
end
section
variable {K : PySem.W.Frag} {σ : L2.St} {H : Hp} {D : Ends} {tu tz : TS}
/-- for a, b in zip(x, y): .., two texts of one length -/
theorem q_forZ {la lb : List Nat} {j1 j2 : Nat} {tA : TA} (h : EvA tA σ H [.str (Tx la), .str (Tx lb)]) (hl : la.length = lb.length) (Pv : Nat → L2.St → Hp → Prop) (h0 : ∀ H1, Ex H H1 → Pv 0 σ H1)
    (hs : ∀ i c d σ' H', la[i]? = some c → lb[i]? = some d → Pv i σ' H' → ∀ H2, Ex H' H2 → tu { D with nx := Pv (i + 1), ct := Pv (i + 1), bk := tz D } ((σ'.set j1 (some (.str (Tx [c])))).set j2 (some (.str (Tx [d])))) H2)
    (hd : ∀ σ' H', Pv la.length σ' H' → tz D σ' H') : tSeq (tFor (iZipS tA) (gTup K 2 (gCons (gName j1) (gCons (gName j2) gNil))) tu) tz D σ H := by
  have hn : min (Tx la).cps.size (Tx lb).cps.size = la.length := by
    have h1 : (Tx la).cps.size = la.length := Tx_len _
    have h2 : (Tx lb).cps.size = lb.length := Tx_len _
    omega
  refine h H (Ex.refl _) _ fun H1 e1 => ⟨Tx la, Tx lb, rfl, for_it (D := { D with nx := tz D }) walk_zipS Pv (h0 H1 e1) (fun _ _ _ _ _ => True.intro) (fun i x σ' H2 H3 hi hv y => ?_) (fun σ' H2 hv => ?_)⟩
  · obtain ⟨T, c, d, rfl, nT, rfl, hc, hd⟩ := y
    refine ⟨T, _, rfl, st_of upd_same, rfl, _, _, rfl, _, _, rfl, rfl, ?_⟩
    exact hs i c d σ' H2 (code_of hc) (code_of hd) hv _ (Ex.new nT)
  · rw [hn] at hv
    exact hd σ' H2 hv
/-- for k in range(n - 1, -1, -1): .. -/
theorem q_forDown {n j : Nat} {tA : TA} (h : EvA tA σ H [.int ((n : Int) - 1), .int (-1), .int (-1)]) (hz : n ≤ 100000) (Pv : Nat → L2.St → Hp → Prop) (h0 : ∀ H1, Ex H H1 → Pv 0 σ H1)
    (hs : ∀ i σ' H', i < n → Pv i σ' H' → tu { D with nx := Pv (i + 1), ct := Pv (i + 1), bk := tz D } (σ'.set j (some (.int ((n - 1 - i : Nat) : Int)))) H')
    (hd : ∀ σ' H', Pv n σ' H' → tz D σ' H') : tSeq (tFor (iRng3 tA) (gName j) tu) tz D σ H := by
  have hn : ((n : Int) - 1 - (-1)).toNat = n := by omega
  refine h H (Ex.refl _) _ fun H1 e1 => ⟨(n : Int) - 1, -1, -1, ((n : Int) - 1 - (-1)).toNat, rfl, RgC.neg (by omega) (by omega) (by omega) (by omega), for_it (D := { D with nx := tz D }) walk_rangeC Pv (h0 H1 e1) (fun _ _ _ _ _ => True.intro) (fun i x σ' H2 H3 hi hv y => ?_) (fun σ' H2 hv => ?_)⟩
  · obtain ⟨rfl, hx⟩ := y
    rw [hn] at hi
    have hx2 : x = .int ((n - 1 - i : Nat) : Int) := by
      rw [hx]
      show V.int ((n : Int) - 1 + (i : Int) * -1) = _
      congr 1
      omega
    subst hx2
    exact hs i σ' H3 hi hv
  · rw [hn] at hv
    exact hd σ' H2 hv
end
theorem ways_at (c : Nat) : atI ((ways c).map V.int) 0 = some (.int (((wN c).getD 0 0 : Nat) : Int)) ∧ atI ((ways c).map V.int) (-1) = some (.int (((wN c).getD ((wN c).length - 1) 0 : Nat) : Int)) := by
  unfold ways wN
  by_cases h : c ∈ [48, 49]
  · rw [if_pos h, if_pos h]
    by_cases h2 : c = 49
    · rw [if_pos h2, if_pos h2]
      exact ⟨rfl, rfl⟩
    · rw [if_neg h2, if_neg h2]
      exact ⟨rfl, rfl⟩
  · rw [if_neg h, if_neg h]
    exact ⟨rfl, rfl⟩
theorem ways_len (c : Nat) : (ways c).length ≤ 2 := by
  unfold ways
  split <;> simp
theorem count_ok : ∀ a ∈ k3, ∀ b ∈ k3, ∀ c ∈ k3, Txt.count (Tx ([a] ++ [b] ++ [c])) (Tx [48]) = cnt 48 a b c ∧ Txt.count (Tx ([a] ++ [b] ++ [c])) (Tx [49]) = cnt 49 a b c := by decide +kernel
theorem most_k3 (c d k : Nat) : mostS c d k ∈ k3 := by
  unfold mostS
  split
  · decide
  · split <;> decide
theorem any_k3 (l : List Nat) : anyS l ∈ k3 := by
  unfold anyS
  split
  · decide
  · split <;> decide
/-! ### words -/
def wd : Nat → Str
  | 0 => "plus"
  | 1 => "same"
  | _ => "less"
theorem wd_plus : ∀ w : Fin 3, decide (V.str (wd w.val) = V.str (Str.ofString "plus")) = decide (w.val = 0) := by decide +kernel
theorem wd_same : ∀ w : Fin 3, decide (V.str (wd w.val) = V.str (Str.ofString "same")) = decide (w.val = 1) := by decide +kernel
theorem wd_less : ∀ w : Fin 3, decide (V.str (wd w.val) = V.str (Str.ofString "less")) = decide (w.val = 2) := by decide +kernel
theorem no_part : ∀ w : Fin 3, wd w.val ≠ Str.ofString "part" := by decide +kernel
theorem sign_end : ∀ w : Fin 3, ∀ k ∈ k3, (∀ x ∈ (ways k).map (fun c : Int => if w.val = 1 then 1 - c else c), x = 0 ∨ x = 1) ∧ 0 < ((ways k).map (fun c : Int => if w.val = 1 then 1 - c else c)).length ∧ signL ((ways k).map (fun c : Int => if w.val = 1 then 1 - c else c)) = if w.val = 1 then notS k else k := by decide +kernel
theorem e_xz : (Str.ofString "xz") = Tx [120, 122] := by decide +kernel
theorem e_sgn8 : (Str.ofString "01xz01xz").cps.toList = [48, 49, 120, 122, 48, 49, 120, 122] := by decide +kernel
theorem e_01 : (Str.ofString "01").cps.toList = [48, 49] := by decide +kernel
theorem ec_xz {σ : L2.St} {H : Hp} : Ev (tC (.str (Str.ofString "xz"))) σ H (.str (Tx [120, 122])) := by rw [e_xz]; exact ev_c
theorem triL_01 : ∀ c ∈ sgn, ∀ d ∈ sgn, ∀ k ∈ k3, ∀ t ∈ triL c d (ways k), (t.1 = 0 ∨ t.1 = 1) ∧ (t.2.1 = 0 ∨ t.2.1 = 1) ∧ (t.2.2 = 0 ∨ t.2.2 = 1) := by decide +kernel
theorem triL_len : ∀ c ∈ sgn, ∀ d ∈ sgn, ∀ k ∈ k3, (triL c d (ways k)).length ≤ 8 := by decide +kernel
theorem sum3 (t : T3) : ([t.1, t.2.1, t.2.2] : List Int).sum = t.1 + t.2.1 + t.2.2 := by
  simp
  omega
theorem tri_map (w c d k : Nat) : (tri w c d k).map V.int = (triL c d (ways k)).map fun t => V.int (fW w t.1 t.2.1 t.2.2) := by
  unfold tri
  rw [List.map_map]
  rfl
theorem pairs_step (w n m : Nat) (xs ys : List Nat) : pairs w n (xs ++ [m]) ys = pairs w n xs ys ++ ys.map fun y => gW w n m y := by
  unfold pairs
  rw [List.flatMap_append]
  simp
theorem pairs_len (w n : Nat) (xs ys : List Nat) : (pairs w n xs ys).length = xs.length * ys.length := by
  unfold pairs
  induction xs with
  | nil => simp
  | cons x xs ih =>
    rw [List.flatMap_cons, List.length_append, ih, List.length_map, List.length_cons, Nat.succ_mul]
    omega
end Dw

set_option Elab.async false
set_option linter.all false
set_option maxRecDepth 100000
namespace Dw
open PySem L2 Evl
/-! ### terms, as they lie in the heap -/
inductive W1 where | not | any | all
inductive W2 where | and | or | xor | plus | same | less | join
def W1.s : W1 → Str
  | .not => "not"
  | .any => "any"
  | .all => "all"
def W2.s : W2 → Str
  | .and => "and"
  | .or => "or"
  | .xor => "xor"
  | .plus => "plus"
  | .same => "same"
  | .less => "less"
  | .join => "join"
inductive Tm where
  | is (l : List Nat)
  | of (x : Str)
  | un (w : W1) (a : Tm)
  | bi (w : W2) (a b : Tm)
  | pick (c a b : Tm)
  | part (a : Tm) (hi lo : Nat)
def TmAt (H : Hp) : Tm → V → Prop
  | .is l, v => ∃ a, v = .ref a ∧ H a = some (.tup [.str "is", .str (Tx l)])
  | .of x, v => ∃ a, v = .ref a ∧ H a = some (.tup [.str "of", .str x])
  | .un w s, v => ∃ a u, v = .ref a ∧ H a = some (.tup [.str w.s, u]) ∧ TmAt H s u
  | .bi w s t, v => ∃ a u u2, v = .ref a ∧ H a = some (.tup [.str w.s, u, u2]) ∧ TmAt H s u ∧ TmAt H t u2
  | .pick c s t, v => ∃ a u u1 u2, v = .ref a ∧ H a = some (.tup [.str "pick", u, u1, u2]) ∧ TmAt H c u ∧ TmAt H s u1 ∧ TmAt H t u2
  | .part s hi lo, v => ∃ a u, v = .ref a ∧ H a = some (.tup [.str "part", u, .int (hi : Int), .int (lo : Int)]) ∧ TmAt H s u
/-- tuples stay -/
def ExT (H H' : Hp) : Prop := ∀ a xs, H a = some (.tup xs) → H' a = some (.tup xs)
theorem ExT.refl (H : Hp) : ExT H H := fun _ _ h => h
theorem ExT.of {H H' : Hp} (e : Ex H H') : ExT H H' := fun a xs h => e a _ h
theorem ExT.trans {H H1 H2 : Hp} (a : ExT H H1) (b : ExT H1 H2) : ExT H H2 := fun x o h => b x o (a x o h)
theorem ExT.ofB {H H' : Hp} {p : Addr} (hp : PotAt H p) (e : ExB p H H') : ExT H H' := fun a xs h => e a _ (fun z => by
  obtain ⟨x, y, h1, _⟩ := hp
  rw [z, h1] at h
  cases h) h
theorem ExT.ofC {H H' : Hp} {p r : Addr} (hp : PotAt H p) (hr : RoomAt H r) (e : ExC p r H H') : ExT H H' := fun a xs h => e a _ (fun z => by
  obtain ⟨x, y, h1, _⟩ := hp
  rw [z, h1] at h
  cases h) (fun z => by
  obtain ⟨x, h1⟩ := hr
  rw [z, h1] at h
  cases h) h
theorem ExT.upd {H H' : Hp} {a : Addr} {xs ys : List V} (e : ExT H H') (h : H' a = some (.lst xs)) : ExT H (L2.upd H' a (.lst ys)) := fun b zs hb => by
  have h2 := e b zs hb
  have n : b ≠ a := fun z => by
    rw [z, h] at h2
    cases h2
  rw [upd_ne n]
  exact h2
theorem TmAt.mono {H H' : Hp} (e : ExT H H') : ∀ {t : Tm} {v : V}, TmAt H t v → TmAt H' t v
  | .is l, _, ⟨a, h1, h2⟩ => ⟨a, h1, e _ _ h2⟩
  | .of x, _, ⟨a, h1, h2⟩ => ⟨a, h1, e _ _ h2⟩
  | .un w s, _, ⟨a, u, h1, h2, h3⟩ => ⟨a, u, h1, e _ _ h2, TmAt.mono e h3⟩
  | .bi w s t, _, ⟨a, u, u2, h1, h2, h3, h4⟩ => ⟨a, u, u2, h1, e _ _ h2, TmAt.mono e h3, TmAt.mono e h4⟩
  | .pick c s t, _, ⟨a, u, u1, u2, h1, h2, h3, h4, h5⟩ => ⟨a, u, u1, u2, h1, e _ _ h2, TmAt.mono e h3, TmAt.mono e h4, TmAt.mono e h5⟩
  | .part s hi lo, _, ⟨a, u, h1, h2, h3⟩ => ⟨a, u, h1, e _ _ h2, TmAt.mono e h3⟩
theorem TmAt.ex {H H' : Hp} {t : Tm} {v : V} (h : TmAt H t v) (e : Ex H H') : TmAt H' t v := TmAt.mono (ExT.of e) h
def dep : Tm → Nat
  | .is _ => 1
  | .of _ => 1
  | .un _ a => dep a + 1
  | .bi _ a b => max (dep a) (dep b) + 1
  | .pick c a b => max (dep c) (max (dep a) (dep b)) + 1
  | .part a _ _ => dep a + 1
def wt : Tm → Nat
  | .is _ => 1
  | .of _ => 1
  | .un _ a => wt a + 1
  | .bi _ a b => wt a + wt b + 1
  | .pick c a b => wt c + wt a + wt b + 1
  | .part a _ _ => wt a + 1
/-- it fits, and has the width n -/
def Wd (ws : List (Str × Nat)) : Tm → Nat → Prop
  | .is l, n => Sx l ∧ l.length = n ∧ 1 ≤ n ∧ n ≤ 8
  | .of x, n => (x, n) ∈ ws
  | .un .not a, n => Wd ws a n
  | .un .any a, n => n = 1 ∧ ∃ m, Wd ws a m
  | .un .all a, n => n = 1 ∧ ∃ m, Wd ws a m
  | .bi .same a b, n => n = 1 ∧ ∃ m, Wd ws a m ∧ Wd ws b m
  | .bi .less a b, n => n = 1 ∧ ∃ m, Wd ws a m ∧ Wd ws b m
  | .bi .join a b, n => n ≤ 8 ∧ ∃ i j, Wd ws a i ∧ Wd ws b j ∧ i + j = n
  | .bi _ a b, n => Wd ws a n ∧ Wd ws b n
  | .pick c a b, n => Wd ws c 1 ∧ Wd ws a n ∧ Wd ws b n
  | .part a hi lo, n => ∃ m, Wd ws a m ∧ lo ≤ hi ∧ hi < m ∧ n = hi - lo + 1
def WsOk (ws : List (Str × Nat)) : Prop := (ws.map (·.1)).Nodup ∧ ∀ p ∈ ws, 1 ≤ p.2 ∧ p.2 ≤ 8 ∧ LowS p.1
theorem Wd.bound {ws : List (Str × Nat)} (h : WsOk ws) : ∀ {t : Tm} {n : Nat}, Wd ws t n → 1 ≤ n ∧ n ≤ 8
  | .is l, _, ⟨_, _, h1, h2⟩ => ⟨h1, h2⟩
  | .of x, _, hx => ⟨(h.2 _ hx).1, (h.2 _ hx).2.1⟩
  | .un .not a, _, ha => Wd.bound h (t := a) ha
  | .un .any a, _, ⟨rfl, _⟩ => ⟨by omega, by omega⟩
  | .un .all a, _, ⟨rfl, _⟩ => ⟨by omega, by omega⟩
  | .bi .same a b, _, ⟨rfl, _⟩ => ⟨by omega, by omega⟩
  | .bi .less a b, _, ⟨rfl, _⟩ => ⟨by omega, by omega⟩
  | .bi .join a b, _, ⟨h8, i, j, ha, hb, hij⟩ => ⟨by have := Wd.bound h (t := a) ha; omega, h8⟩
  | .bi .and a b, _, hab => Wd.bound h (t := a) hab.1
  | .bi .or a b, _, hab => Wd.bound h (t := a) hab.1
  | .bi .xor a b, _, hab => Wd.bound h (t := a) hab.1
  | .bi .plus a b, _, hab => Wd.bound h (t := a) hab.1
  | .pick c a b, _, hab => Wd.bound h (t := a) hab.2.1
  | .part a hi lo, _, ⟨m, ha, h1, h2, h3⟩ => by
    have := Wd.bound h (t := a) ha
    omega
/-! ### values -/
def andS (c d : Nat) : Nat := if c = 48 ∨ d = 48 then 48 else if c = 49 ∧ d = 49 then 49 else 120
def un1 : W1 → List Nat → List Nat
  | .not, l => l.map notS
  | .any, l => [anyS l]
  | .all, l => [allS l]
def bi2 : W2 → List Nat → List Nat → List Nat
  | .and, a, b => List.zipWith andS a b
  | .or, a, b => List.zipWith orS a b
  | .xor, a, b => List.zipWith xorS a b
  | .plus, a, b => plusS a b
  | .same, a, b => [sameS a b]
  | .less, a, b => [lessS a b]
  | .join, a, b => a ++ b
def val (E : Str → List Nat) : Tm → List Nat
  | .is l => l
  | .of x => (E x).map rd
  | .un w a => un1 w (val E a)
  | .bi w a b => bi2 w (val E a) (val E b)
  | .pick c a b => pickS ((val E c).getD 0 0) (val E a) (val E b)
  | .part a hi lo => partS (val E a) hi lo
/-- what the names have -/
def EnvOk (ws : List (Str × Nat)) (E : Str → List Nat) : Prop := ∀ p ∈ ws, Sg (E p.1) ∧ (E p.1).length = p.2
theorem rd_id {l : List Nat} (h : Sx l) : l.map rd = l := by
  have : ∀ c ∈ l, rd c = c := fun c hc => by
    have h3 := h c hc
    simp only [List.mem_cons, List.not_mem_nil, or_false] at h3
    rcases h3 with rfl | rfl | rfl <;> rfl
  exact (List.map_congr_left this).trans (List.map_id _)
theorem sx_sg {l : List Nat} (h : Sx l) : Sg l := fun c hc => by
  have h3 := h c hc
  simp only [List.mem_cons, List.not_mem_nil, or_false] at h3
  rcases h3 with rfl | rfl | rfl <;> decide
theorem sx_one {c : Nat} (h : c ∈ k3) : Sx [c] := fun d hd => by
  rw [List.mem_singleton.mp hd]
  exact h
theorem sx_zip {f : Nat → Nat → Nat} (hf : ∀ c d, f c d ∈ k3) : ∀ {a b : List Nat}, Sx (List.zipWith f a b)
  | [], _ => by
    intro c hc
    simp at hc
  | _ :: _, [] => by
    intro c hc
    simp at hc
  | x :: a, y :: b => fun c hc => by
    rw [List.zipWith_cons_cons] at hc
    rcases List.mem_cons.mp hc with rfl | h
    · exact hf x y
    · exact sx_zip hf c h
theorem and_k3 (c d : Nat) : andS c d ∈ k3 := by
  unfold andS
  split
  · decide
  · split <;> decide
theorem or_k3 (c d : Nat) : orS c d ∈ k3 := by
  unfold orS
  split
  · decide
  · split <;> decide
theorem xor_k3' (c d : Nat) : xorS c d ∈ k3 := by
  unfold xorS
  split
  · decide
  · split <;> decide
theorem not_k3 (c : Nat) : notS c ∈ k3 := by
  unfold notS
  split
  · decide
  · split <;> decide
theorem all_k3 (l : List Nat) : allS l ∈ k3 := by
  unfold allS
  split
  · decide
  · split <;> decide
theorem mix_k3 (c d : Nat) : mixS c d ∈ k3 := by
  unfold mixS
  split
  · rename_i h
    have h2 := h.2
    simp only [List.mem_cons, List.not_mem_nil, or_false] at h2
    rcases h2 with h2 | h2 <;> rw [h2] <;> decide
  · decide
theorem plusL_ok : ∀ (a b : List Nat) (k : Nat), a.length = b.length → Sx (plusL k a b) ∧ (plusL k a b).length = a.length
  | [], [], k, _ => ⟨fun c hc => by simp [plusL] at hc, rfl⟩
  | [], _ :: _, _, h => by simp at h
  | _ :: _, [], _, h => by simp at h
  | x :: a, y :: b, k, h => by
    have ih := plusL_ok a b (mostS x y k) (by simpa using h)
    unfold plusL
    refine ⟨fun c hc => ?_, by simp [ih.2]⟩
    rcases List.mem_cons.mp hc with rfl | h2
    · exact xor_k3' _ _
    · exact ih.1 c h2
theorem plus_ok {a b : List Nat} (h : a.length = b.length) : Sx (plusS a b) ∧ (plusS a b).length = a.length := by
  have := plusL_ok a.reverse b.reverse 48 (by simpa using h)
  unfold plusS
  refine ⟨fun c hc => this.1 c (List.mem_reverse.mp hc), by rw [List.length_reverse, this.2, List.length_reverse]⟩
theorem part_len {l : List Nat} {hi lo : Nat} (h1 : lo ≤ hi) (h2 : hi < l.length) : (partS l hi lo).length = hi - lo + 1 := by
  unfold partS
  simp
  omega
theorem part_sx {l : List Nat} {hi lo : Nat} (h : Sx l) : Sx (partS l hi lo) := fun c hc => h c (List.mem_of_mem_drop (List.mem_of_mem_take hc))
theorem val_ok {ws : List (Str × Nat)} {E : Str → List Nat} (he : EnvOk ws E) : ∀ {t : Tm} {n : Nat}, Wd ws t n → Sx (val E t) ∧ (val E t).length = n
  | .is l, _, ⟨h1, h2, _, _⟩ => ⟨h1, h2⟩
  | .of x, n, hx => ⟨rd_sx (he (x, n) hx).1, by show ((E x).map rd).length = n; rw [List.length_map]; exact (he (x, n) hx).2⟩
  | .un .not a, _, ha => by
    have := val_ok he (t := a) ha
    refine ⟨fun c hc => ?_, by show ((val E a).map notS).length = _; rw [List.length_map]; exact this.2⟩
    obtain ⟨d, _, rfl⟩ := List.mem_map.mp hc
    exact not_k3 d
  | .un .any a, _, ⟨h1, _⟩ => ⟨sx_one (any_k3 _), by rw [h1]; rfl⟩
  | .un .all a, _, ⟨h1, _⟩ => ⟨sx_one (all_k3 _), by rw [h1]; rfl⟩
  | .bi .same a b, _, ⟨h1, _⟩ => ⟨sx_one (not_k3 _), by rw [h1]; rfl⟩
  | .bi .less a b, _, ⟨h1, _⟩ => ⟨sx_one (less_k3 _ _), by rw [h1]; rfl⟩
  | .bi .join a b, _, ⟨h8, i, j, ha, hb, hij⟩ => by
    have h1 := val_ok he (t := a) ha
    have h2 := val_ok he (t := b) hb
    refine ⟨fun c hc => ?_, by show (val E a ++ val E b).length = _; rw [List.length_append, h1.2, h2.2, hij]⟩
    rcases List.mem_append.mp hc with h | h
    · exact h1.1 c h
    · exact h2.1 c h
  | .bi .and a b, _, hab => ⟨sx_zip and_k3, by show (List.zipWith andS (val E a) (val E b)).length = _; rw [List.length_zipWith, (val_ok he hab.1).2, (val_ok he hab.2).2, Nat.min_self]⟩
  | .bi .or a b, _, hab => ⟨sx_zip or_k3, by show (List.zipWith orS (val E a) (val E b)).length = _; rw [List.length_zipWith, (val_ok he hab.1).2, (val_ok he hab.2).2, Nat.min_self]⟩
  | .bi .xor a b, _, hab => ⟨sx_zip xor_k3', by show (List.zipWith xorS (val E a) (val E b)).length = _; rw [List.length_zipWith, (val_ok he hab.1).2, (val_ok he hab.2).2, Nat.min_self]⟩
  | .bi .plus a b, _, hab => by
    have h1 := val_ok he (t := a) hab.1
    have h2 := val_ok he (t := b) hab.2
    have h3 := plus_ok (a := val E a) (b := val E b) (by rw [h1.2, h2.2])
    exact ⟨h3.1, h3.2.trans h1.2⟩
  | .pick c a b, n, hab => by
    have h1 := val_ok he (t := a) hab.2.1
    have h2 := val_ok he (t := b) hab.2.2
    show Sx (pickS _ (val E a) (val E b)) ∧ (pickS _ (val E a) (val E b)).length = n
    unfold pickS
    split
    · exact ⟨sx_zip mix_k3, by rw [List.length_zipWith, h1.2, h2.2, Nat.min_self]⟩
    · split
      · exact h1
      · exact h2
  | .part a hi lo, _, ⟨m, ha, h1, h2, h3⟩ => by
    have h := val_ok he (t := a) ha
    exact ⟨part_sx h.1, by rw [h3]; exact part_len h1 (by rw [h.2]; exact h2)⟩
/-- what an operator makes of values without z -/
inductive Op : Str → List (List Nat) → Int → Int → List Nat → Prop where
  | un (w : W1) (l : List Nat) (hi lo : Int) (h0 : 1 ≤ l.length) : Op w.s [l] hi lo (un1 w l)
  | bi (w : W2) (a b : List Nat) (hi lo : Int) (h0 : 1 ≤ a.length) (h : a.length = b.length ∨ w = .join ∧ a.length + b.length ≤ 8) : Op w.s [a, b] hi lo (bi2 w a b)
  | pick (c : Nat) (a b : List Nat) (hi lo : Int) (h : a.length = b.length) : Op "pick" [[c], a, b] hi lo (pickS c a b)
  | part (l : List Nat) (hi lo : Nat) (h1 : lo ≤ hi) (h2 : hi < l.length) : Op "part" [l] (hi : Int) (lo : Int) (partS l hi lo)
def wordOf : Tm → Str
  | .is _ => "is"
  | .of _ => "of"
  | .un w _ => w.s
  | .bi w _ _ => w.s
  | .pick _ _ _ => "pick"
  | .part _ _ _ => "part"
def kids : Tm → List Tm
  | .is _ => []
  | .of _ => []
  | .un _ a => [a]
  | .bi _ a b => [a, b]
  | .pick c a b => [c, a, b]
  | .part a _ _ => [a]
def ends : Tm → List V
  | .part _ hi lo => [.int (hi : Int), .int (lo : Int)]
  | _ => []
def hiOf : Tm → Int
  | .part _ hi _ => (hi : Int)
  | _ => 0
def loOf : Tm → Int
  | .part _ _ lo => (lo : Int)
  | _ => 0
def leafy : Tm → Bool
  | .is _ => true
  | .of _ => true
  | _ => false
inductive All2 {α β : Type} (R : α → β → Prop) : List α → List β → Prop where
  | nil : All2 R [] []
  | cons {a : α} {b : β} {as : List α} {bs : List β} : R a b → All2 R as bs → All2 R (a :: as) (b :: bs)
theorem All2.len {α β : Type} {R : α → β → Prop} {as : List α} {bs : List β} (h : All2 R as bs) : as.length = bs.length := by
  induction h with
  | nil => rfl
  | cons _ _ ih => simp [ih]
theorem All2.at {α β : Type} {R : α → β → Prop} {as : List α} {bs : List β} (h : All2 R as bs) : ∀ {i : Nat} {b : β}, bs[i]? = some b → ∃ a, as[i]? = some a ∧ R a b := by
  induction h with
  | nil => intro i b hb; simp at hb
  | cons r _ ih =>
    intro i b hb
    match i with
    | 0 => simp at hb; exact ⟨_, rfl, hb ▸ r⟩
    | i + 1 => simp at hb; simpa using ih hb
theorem All2.map {α β : Type} {R S : α → β → Prop} {as : List α} {bs : List β} (h : All2 R as bs) (f : ∀ a b, R a b → S a b) : All2 S as bs := by
  induction h with
  | nil => exact .nil
  | cons r _ ih => exact .cons (f _ _ r) ih
/-- an operator's tuple by its word, the terms within, what is behind -/
theorem TmAt.open {H : Hp} : ∀ {t : Tm} {v : V}, TmAt H t v → leafy t = false → ∃ a us, v = .ref a ∧ H a = some (.tup (.str (wordOf t) :: (us ++ ends t))) ∧ All2 (TmAt H) (kids t) us
  | .un w s, _, ⟨a, u, h1, h2, h3⟩, _ => ⟨a, [u], h1, h2, .cons h3 .nil⟩
  | .bi w s t, _, ⟨a, u, u2, h1, h2, h3, h4⟩, _ => ⟨a, [u, u2], h1, h2, .cons h3 (.cons h4 .nil)⟩
  | .pick c s t, _, ⟨a, u, u1, u2, h1, h2, h3, h4, h5⟩, _ => ⟨a, [u, u1, u2], h1, h2, .cons h3 (.cons h4 (.cons h5 .nil))⟩
  | .part s hi lo, _, ⟨a, u, h1, h2, h3⟩, _ => ⟨a, [u], h1, h2, .cons h3 .nil⟩
  | .is _, _, _, h => by cases h
  | .of _, _, _, h => by cases h
theorem Wd.kids {ws : List (Str × Nat)} (h : WsOk ws) : ∀ {t : Tm} {n : Nat}, Wd ws t n → ∀ s ∈ kids t, ∃ m, Wd ws s m
  | .is _, _, _, s, hs => by cases hs
  | .of _, _, _, s, hs => by cases hs
  | .un .not a, _, ha, s, hs => by rw [List.mem_singleton.mp hs]; exact ⟨_, ha⟩
  | .un .any a, _, ⟨_, m, ha⟩, s, hs => by rw [List.mem_singleton.mp hs]; exact ⟨m, ha⟩
  | .un .all a, _, ⟨_, m, ha⟩, s, hs => by rw [List.mem_singleton.mp hs]; exact ⟨m, ha⟩
  | .bi .same a b, _, ⟨_, m, ha, hb⟩, s, hs => by
    simp only [Dw.kids, List.mem_cons, List.not_mem_nil, or_false] at hs
    rcases hs with rfl | rfl
    · exact ⟨m, ha⟩
    · exact ⟨m, hb⟩
  | .bi .less a b, _, ⟨_, m, ha, hb⟩, s, hs => by
    simp only [Dw.kids, List.mem_cons, List.not_mem_nil, or_false] at hs
    rcases hs with rfl | rfl
    · exact ⟨m, ha⟩
    · exact ⟨m, hb⟩
  | .bi .join a b, _, ⟨_, i, j, ha, hb, _⟩, s, hs => by
    simp only [Dw.kids, List.mem_cons, List.not_mem_nil, or_false] at hs
    rcases hs with rfl | rfl
    · exact ⟨i, ha⟩
    · exact ⟨j, hb⟩
  | .bi .and a b, _, hab, s, hs => by
    simp only [Dw.kids, List.mem_cons, List.not_mem_nil, or_false] at hs
    rcases hs with rfl | rfl
    · exact ⟨_, hab.1⟩
    · exact ⟨_, hab.2⟩
  | .bi .or a b, _, hab, s, hs => by
    simp only [Dw.kids, List.mem_cons, List.not_mem_nil, or_false] at hs
    rcases hs with rfl | rfl
    · exact ⟨_, hab.1⟩
    · exact ⟨_, hab.2⟩
  | .bi .xor a b, _, hab, s, hs => by
    simp only [Dw.kids, List.mem_cons, List.not_mem_nil, or_false] at hs
    rcases hs with rfl | rfl
    · exact ⟨_, hab.1⟩
    · exact ⟨_, hab.2⟩
  | .bi .plus a b, _, hab, s, hs => by
    simp only [Dw.kids, List.mem_cons, List.not_mem_nil, or_false] at hs
    rcases hs with rfl | rfl
    · exact ⟨_, hab.1⟩
    · exact ⟨_, hab.2⟩
  | .pick c a b, _, hab, s, hs => by
    simp only [Dw.kids, List.mem_cons, List.not_mem_nil, or_false] at hs
    rcases hs with rfl | rfl | rfl
    · exact ⟨_, hab.1⟩
    · exact ⟨_, hab.2.1⟩
    · exact ⟨_, hab.2.2⟩
  | .part a hi lo, _, ⟨m, ha, _⟩, s, hs => by rw [List.mem_singleton.mp hs]; exact ⟨m, ha⟩
theorem dep_kids : ∀ {t s : Tm}, s ∈ kids t → dep s < dep t
  | .is _, s, hs => by cases hs
  | .of _, s, hs => by cases hs
  | .un _ a, s, hs => by rw [List.mem_singleton.mp hs]; exact Nat.lt_succ_self _
  | .bi _ a b, s, hs => by
    simp only [Dw.kids, List.mem_cons, List.not_mem_nil, or_false] at hs
    simp only [dep]
    rcases hs with rfl | rfl <;> omega
  | .pick c a b, s, hs => by
    simp only [Dw.kids, List.mem_cons, List.not_mem_nil, or_false] at hs
    simp only [dep]
    rcases hs with rfl | rfl | rfl <;> omega
  | .part a _ _, s, hs => by rw [List.mem_singleton.mp hs]; exact Nat.lt_succ_self _
theorem op_of {ws : List (Str × Nat)} {E : Str → List Nat} (h : WsOk ws) (he : EnvOk ws E) : ∀ {t : Tm} {n : Nat}, Wd ws t n → leafy t = false → Op (wordOf t) ((kids t).map (val E)) (hiOf t) (loOf t) (val E t)
  | .un .not a, _, ha, _ => .un .not _ _ _ (by rw [(val_ok he (t := a) ha).2]; exact (Wd.bound h (t := a) ha).1)
  | .un .any a, _, ⟨_, m, ha⟩, _ => .un .any _ _ _ (by rw [(val_ok he (t := a) ha).2]; exact (Wd.bound h (t := a) ha).1)
  | .un .all a, _, ⟨_, m, ha⟩, _ => .un .all _ _ _ (by rw [(val_ok he (t := a) ha).2]; exact (Wd.bound h (t := a) ha).1)
  | .bi .same a b, _, ⟨_, m, ha, hb⟩, _ => .bi .same _ _ _ _ (by rw [(val_ok he (t := a) ha).2]; exact (Wd.bound h (t := a) ha).1) (.inl (by rw [(val_ok he (t := a) ha).2, (val_ok he (t := b) hb).2]))
  | .bi .less a b, _, ⟨_, m, ha, hb⟩, _ => .bi .less _ _ _ _ (by rw [(val_ok he (t := a) ha).2]; exact (Wd.bound h (t := a) ha).1) (.inl (by rw [(val_ok he (t := a) ha).2, (val_ok he (t := b) hb).2]))
  | .bi .join a b, _, ⟨h8, i, j, ha, hb, hij⟩, _ => .bi .join _ _ _ _ (by rw [(val_ok he (t := a) ha).2]; exact (Wd.bound h (t := a) ha).1) (.inr ⟨rfl, by rw [(val_ok he (t := a) ha).2, (val_ok he (t := b) hb).2]; omega⟩)
  | .bi .and a b, _, ⟨ha, hb⟩, _ => .bi .and _ _ _ _ (by rw [(val_ok he (t := a) ha).2]; exact (Wd.bound h (t := a) ha).1) (.inl (by rw [(val_ok he (t := a) ha).2, (val_ok he (t := b) hb).2]))
  | .bi .or a b, _, ⟨ha, hb⟩, _ => .bi .or _ _ _ _ (by rw [(val_ok he (t := a) ha).2]; exact (Wd.bound h (t := a) ha).1) (.inl (by rw [(val_ok he (t := a) ha).2, (val_ok he (t := b) hb).2]))
  | .bi .xor a b, _, ⟨ha, hb⟩, _ => .bi .xor _ _ _ _ (by rw [(val_ok he (t := a) ha).2]; exact (Wd.bound h (t := a) ha).1) (.inl (by rw [(val_ok he (t := a) ha).2, (val_ok he (t := b) hb).2]))
  | .bi .plus a b, _, ⟨ha, hb⟩, _ => .bi .plus _ _ _ _ (by rw [(val_ok he (t := a) ha).2]; exact (Wd.bound h (t := a) ha).1) (.inl (by rw [(val_ok he (t := a) ha).2, (val_ok he (t := b) hb).2]))
  | .pick c a b, n, ⟨hc, ha, hb⟩, _ => by
    have h1 := (val_ok he (t := c) hc).2
    have e : val E c = [(val E c).getD 0 0] := by
      match hv : val E c, h1 with
      | [x], _ => rfl
    have := Op.pick ((val E c).getD 0 0) (val E a) (val E b) 0 0 (by rw [(val_ok he (t := a) ha).2, (val_ok he (t := b) hb).2])
    rw [← e] at this
    exact this
  | .part a hi lo, _, ⟨m, ha, h1, h2, h3⟩, _ => .part _ hi lo h1 (by rw [(val_ok he (t := a) ha).2]; exact h2)
end Dw

set_option Elab.async false
set_option linter.all false
set_option maxRecDepth 100000
namespace Dw
open PySem L2 Evl
/-! ### dicts from names -/
theorem valV_of {α : Type} {k : α → Str} {g : α → V} : ∀ {l : List α}, (l.map k).Nodup → ∀ {p : α}, p ∈ l → valV (l.map fun p => ((Sum.inr (k p) : Key), g p)) (Sum.inr (k p)) = some (g p)
  | [], _, p, hp => by cases hp
  | a :: l, hn, p, hp => by
    rw [List.map_cons, List.nodup_cons] at hn
    unfold valV
    rw [List.map_cons, List.find?_cons]
    rcases List.mem_cons.mp hp with rfl | h
    · simp
    · have n : k a ≠ k p := fun z => hn.1 (by rw [z]; exact List.mem_map.mpr ⟨p, h, rfl⟩)
      have e : decide ((Sum.inr (k a) : Key) = Sum.inr (k p)) = false := decide_eq_false fun z => n (Sum.inr.inj z)
      simp only [e]
      exact valV_of hn.2 h
theorem merge_of {α : Type} {k : α → Str} {g : α → V} : ∀ (l : List α) (acc : List (Key × V)), (l.map k).Nodup → (∀ p ∈ l, ∀ kv ∈ acc, kv.1 ≠ (Sum.inr (k p) : Key)) → mergeK acc (l.map fun p => ((Sum.inr (k p) : Key), g p)) = acc ++ l.map fun p => ((Sum.inr (k p) : Key), g p)
  | [], acc, _, _ => by simp [mergeK]
  | a :: l, acc, hn, hd => by
    rw [List.map_cons, List.nodup_cons] at hn
    have e : putK acc (Sum.inr (k a) : Key) (g a) = acc ++ [((Sum.inr (k a) : Key), g a)] := by
      unfold putK
      rw [if_neg]
      intro z
      obtain ⟨kv, h1, h2⟩ := List.any_eq_true.mp z
      exact hd a (List.mem_cons_self ..) kv h1 (of_decide_eq_true h2)
    have ih := merge_of (g := g) l (acc ++ [((Sum.inr (k a) : Key), g a)]) hn.2 fun p hp kv hkv => by
      rcases List.mem_append.mp hkv with h | h
      · exact hd p (List.mem_cons_of_mem _ hp) kv h
      · rw [List.mem_singleton.mp h]
        exact fun z => hn.1 (by rw [Sum.inr.inj z]; exact List.mem_map.mpr ⟨p, hp, rfl⟩)
    show mergeK (putK acc (Sum.inr (k a) : Key) (g a)) (l.map fun p => ((Sum.inr (k p) : Key), g p)) = _
    rw [e, ih, List.append_assoc]
    rfl
abbrev wsK (ws : List (Str × Nat)) : List (Key × V) := ws.map fun p => ((Sum.inr p.1 : Key), V.int (p.2 : Int))
def WsAt (H : Hp) (q : Addr) (ws : List (Str × Nat)) : Prop := H q = some (.dK (wsK ws))
theorem WsAt.ex {H H' : Hp} {q : Addr} {ws : List (Str × Nat)} (h : WsAt H q ws) (e : Ex H H') : WsAt H' q ws := e _ _ h
theorem WsAt.ne {H : Hp} {p q : Addr} {ws : List (Str × Nat)} {xs : List V} (h : WsAt H q ws) (hp : H p = some (.lst xs)) : q ≠ p := fun z => by
  unfold WsAt at h
  rw [z, hp] at h
  cases h
theorem WsAt.exB {H H' : Hp} {p q : Addr} {ws : List (Str × Nat)} (h : WsAt H q ws) (hp : PotAt H p) (e : ExB p H H') : WsAt H' q ws := by
  obtain ⟨x, y, h1, _⟩ := hp
  exact e _ _ (h.ne h1) h
theorem WsAt.exC {H H' : Hp} {p r q : Addr} {ws : List (Str × Nat)} (h : WsAt H q ws) (hp : PotAt H p) (hr : RoomAt H r) (e : ExC p r H H') : WsAt H' q ws := by
  obtain ⟨x, y, h1, _⟩ := hp
  obtain ⟨z, h2⟩ := hr
  exact e _ _ (h.ne h1) (h.ne h2) h
theorem valV_ws {ws : List (Str × Nat)} (hn : (ws.map (·.1)).Nodup) {x : Str} {n : Nat} (h : (x, n) ∈ ws) : valV (wsK ws) (Sum.inr x : Key) = some (.int (n : Int)) := valV_of (k := fun p : Str × Nat => p.1) (g := fun p => V.int (p.2 : Int)) hn h
section
variable {K : PySem.W.Frag} {σ : L2.St} {H H' : Hp} {ta tb te tx tl td ty : TE} {t u : TT} {x y z v : V} {D : Ends} {tu tz : TS}
theorem ev_dget {a : Addr} {kvs : List (Key × V)} {s : Str} (hd : Ev td σ H (.ref a)) (hy : Ev ty σ H (.str s)) (h : Rd H a (.dK kvs)) (hv : valV kvs (Sum.inr s : Key) = some v) : Ev (tDGet td ty) σ H v := fun H1 e Q q =>
  hd H1 e _ fun H2 e2 => hy H2 (e.trans e2) _ fun H3 e3 => ⟨a, v, rfl, .inl ⟨kvs, Sum.inr s, ex_rd ((e.trans e2).trans e3) h, rfl, hv.symm⟩, q H3 (e2.trans e3)⟩
theorem frz_at {d : Addr} {od : Obj} {w : HO} : L2.upd H d (.frz od w) d = some (.frz od w) := upd_same
/-- behind the lock -/
theorem unlock {d : Addr} {od : Obj} {w : HO} (hd : H d = some w) (e : Ex (L2.upd H d (.frz od w)) H') : Ex H (L2.upd H' d w) := fun b o hb => by
  by_cases n : b = d
  · rw [n, upd_same]
    rw [n, hd] at hb
    exact hb
  · rw [upd_ne n]
    exact e b o (by rw [upd_ne n]; exact hb)
/-- y = [e for k in d if t] -/
theorem q_lockLc {d : Addr} {kvs : List (Key × V)} {i j : Nat} {vs : List Nat} (f : Nat → Bool) (v : Nat → V) (hd : H d = some (.dK kvs)) (h : ∀ H1, Ev tl σ H1 (.ref d)) (hz : kvs.length ≤ 40000) (hw : ∀ x, wipe ((wipe σ vs).set j (some x)) vs = wipe σ vs)
    (ht : ∀ (n : Nat) (k : Key) (x : V) H1, Rd H1 d (.dK kvs) → kvs[n]? = some (k, x) → EvT t ((wipe σ vs).set j (some (kV k))) H1 (f n)) (he : ∀ (n : Nat) (k : Key) (x : V) H1, Rd H1 d (.dK kvs) → kvs[n]? = some (k, x) → f n = true → Ev te ((wipe σ vs).set j (some (kV k))) H1 (v n))
    (c : ∀ p H1, H p = none → Ex H H1 → H1 p = some (.lst (given kvs.length f v)) → tz D (σ.set i (some (.ref p))) H1) :
    tSeq (tLock (tAsg (tLc (iKeys tl) (gName j) t te vs) (gName i))) tz D σ H := by
  refine ⟨d, .dK kvs, hd, trivial, fun od => ?_⟩
  refine h _ _ (Ex.refl _) _ fun H1 e1 => ⟨d, od, rfl, .inl ⟨kvs, e1 _ _ upd_same, fun Dl hD => ?_⟩⟩
  have nd : Dl ≠ d := fun z => by
    rw [z, e1 _ _ upd_same] at hD
    cases hD
  have nH : H Dl = none := by
    have := fresh_back e1 hD
    rw [upd_ne nd] at this
    exact this
  refine lc_it walk_keys (Cw H1 f v Dl) ⟨hD, Ex.new hD, upd_same⟩ (fun _ _ _ p => p.2.1 _ _ (e1 _ _ upd_same)) (fun n x H2 H3 hi p y => ?_) (fun H' p => ?_)
  · obtain ⟨rfl, k, x2, hk, rfl⟩ := y
    have hrd : Rd H1 d (.dK kvs) := .inr ⟨od, e1 _ _ upd_same⟩
    exact ⟨hw _, cw_turn p (by omega) (ht n k x2 H1 hrd hk) (fun hf => he n k x2 H1 hrd hk hf)⟩
  · refine ⟨p.2.1 _ _ (e1 _ _ upd_same), c Dl _ nH (unlock hd (e1.trans p.2.1)) ?_⟩
    rw [upd_ne nd]
    exact p.2.2
end
/-- of all entries those that f keeps -/
theorem given_kvs {α : Type} [Inhabited α] (l : List α) (f : α → Bool) (g : α → V) {n : Nat} (hn : n = l.length) : given n (fun i => f (l.getD i default)) (fun i => g (l.getD i default)) = (l.filter f).map g := by
  rw [hn]
  exact given_list l default f g
/-! ### names -/
theorem pig : ∀ (t c : List Str), c.Nodup → t.length < c.length → ∃ x ∈ c, x ∉ t
  | [], c, _, h => by
    match c, h with
    | x :: c, _ => exact ⟨x, List.mem_cons_self .., fun z => by cases z⟩
  | y :: t, c, hn, h => by
    obtain ⟨x, h1, h2⟩ := pig t (c.erase y) (hn.erase y) (by
      rw [List.length_cons] at h
      rw [List.length_erase]
      split <;> omega)
    have h3 := (hn.mem_erase_iff).mp h1
    exact ⟨x, h3.2, fun z => by
      rcases List.mem_cons.mp z with z | z
      · exact h3.1 z
      · exact h2 z⟩
def lets : List Nat := [97, 98, 99, 100, 101, 102, 103, 104, 105, 106, 107, 108, 109, 110, 111, 112, 113, 114, 115, 116, 117, 118, 119, 120, 121, 122]
def figs : List Nat := [48, 49, 50, 51, 52, 53, 54, 55, 56, 57]
def words17 : List Str := ["not", "and", "or", "xor", "plus", "same", "less", "any", "all", "pick", "join", "part", "is", "of", "at", "filters", "later"]
theorem s_lets : Str.ofString "abcdefghijklmnopqrstuvwxyz" = Tx lets := by decide +kernel
theorem s_figs : Str.ofString "0123456789" = Tx figs := by decide +kernel
/-- a name, as the document has it -/
def NmOk (x : Str) : Prop := ∃ c l, x = Tx (c :: l) ∧ c ∈ lets ∧ (∀ d ∈ l, d ∈ lets ++ figs) ∧ l.length ≤ 7 ∧ x ∉ words17
theorem nm0 : ∀ c ∈ lets, Tx [c, 48] ∉ words17 := by decide +kernel
theorem NmOk.zero {c : Nat} (h : c ∈ lets) : NmOk (Tx [c, 48]) := ⟨c, [48], rfl, h, by decide, by decide, nm0 c h⟩
theorem lets_nd : (lets.map fun c => Tx [c, 48]).Nodup := by decide +kernel
end Dw

set_option Elab.async false
set_option linter.all false
set_option maxRecDepth 100000
namespace Dw
open PySem L2 Evl
/-! ### what draws from the pot at p: values that keep G -/
def EvP (p : Addr) (te : TE) (σ : L2.St) (H : Hp) (G : V → Hp → Prop) : Prop := ∀ H1, ExB p H H1 → PotAt H1 p → ∀ Q : VK, (∀ v H2, ExB p H1 H2 → PotAt H2 p → G v H2 → Q v H2) → te σ H1 Q
/-- a new list -/
def EvPL (p : Addr) (te : TE) (σ : L2.St) (H : Hp) (G : List V → Hp → Prop) : Prop := ∀ H1, ExB p H H1 → PotAt H1 p → ∀ Q : VK, (∀ D xs H2, H1 D = none → ExB p H1 H2 → PotAt H2 p → H2 D = some (.lst xs) → G xs H2 → Q (.ref D) H2) → te σ H1 Q
def isI (m : Int) : V → Hp → Prop := fun v _ => ∃ d : Int, v = .int d ∧ 0 ≤ d ∧ d < m
def eqs (w : V) : V → Hp → Prop := fun v _ => v = w
section
variable {K : PySem.W.Frag} {σ : L2.St} {H H' : Hp} {ta tb te tx : TE} {t u : TT} {x y z v : V} {D : Ends} {tu tz : TS} {p : Addr} {G G' Ga Gb : V → Hp → Prop}
theorem EvP.mono (h : EvP p te σ H G) (hg : ∀ v H2, G v H2 → G' v H2) : EvP p te σ H G' := fun H1 e hP Q q => h H1 e hP Q fun v H2 e2 hP2 g => q v H2 e2 hP2 (hg v H2 g)
theorem EvP.at (h : EvP p te σ H G) (e : ExB p H H') : EvP p te σ H' G := fun H1 e1 hP Q q => h H1 (e.trans e1) hP Q q
theorem evp_of {w : V} (h : ∀ H1, ExB p H H1 → Ev te σ H1 w) : EvP p te σ H (eqs w) := fun H1 e hP Q q => h H1 e H1 (Ex.refl _) Q fun H2 e2 => q w H2 (ExB.of e2) (hP.ex e2) rfl
theorem evp_c : EvP p (tC v) σ H (eqs v) := evp_of fun _ _ => ev_c
theorem evp_var {i : Nat} (h : σ[i]? = some (some v)) : EvP p (tVar i) σ H (eqs v) := evp_of fun _ _ => ev_var h
theorem evp_takeE {i : Nat} {E : XK} {lim : V → Hp → Prop} {m : Int} (hi : σ[i]? = some (some (.ref p))) (hm : EvP p te σ H fun v H2 => ∃ d : Int, v = .int d ∧ 0 < d ∧ d ≤ m) (h1 : m < 1073741824) : EvP p (tCall spTake [] E (tCons (tVar i) (tCons te tNil))) σ H (isI m) := fun H1 e hP Q q =>
  ⟨_, hi, hm H1 e hP _ fun v H2 e2 hP2 ⟨d, hv, d0, d1⟩ => ⟨p, d, by rw [hv]; rfl, hP2, d0, by omega, fun H3 k e3 hP3 k0 k1 => q _ H3 (e2.trans e3) hP3 ⟨k, rfl, k0, by omega⟩⟩⟩
/-- take(pot, m), m told by what it is -/
theorem evp_takeV {i : Nat} {E : XK} {m : Int} (hi : σ[i]? = some (some (.ref p))) (hm : EvP p te σ H (eqs (.int m))) (h0 : 0 < m) (h1 : m < 1073741824) : EvP p (tCall spTake [] E (tCons (tVar i) (tCons te tNil))) σ H (isI m) :=
  evp_takeE (lim := fun _ _ => True) hi (hm.mono fun v _ h => ⟨m, h, h0, Int.le_refl _⟩) h1
theorem evp_take {i : Nat} {E : XK} {m : Int} (hi : σ[i]? = some (some (.ref p))) (h0 : 0 < m) (h1 : m < 1073741824) : EvP p (tCall spTake [] E (tCons (tVar i) (tCons (tC (.int m)) tNil))) σ H (isI m) := evp_takeV hi evp_c h0 h1
/-- [a, b, ..][e], all constants -/
theorem evp_lit {tA : TA} {vs : List V} (hA : ∀ H1, EvA tA σ H1 vs) (hz : vs.length ≤ 100000) (he : EvP p te σ H (isI (vs.length : Int))) : EvP p (tOp (rIxL K) (tLst tA) te) σ H (fun v _ => v ∈ vs) := fun H1 e hP Q q => by
  refine hA H1 H1 (Ex.refl _) _ fun H2 e2 => ⟨sz_of hz, fun l hl => ?_⟩
  have e3 : Ex H2 (L2.upd H2 l (.lst vs)) := Ex.new hl
  have hn : l ≠ p := (hP.ex e2).ne hl
  refine he _ (e.trans (ExB.of (e2.trans e3))) (hP.ex (e2.trans e3)) _ fun v H4 e4 hP4 ⟨d, hv, d0, d1⟩ => ?_
  obtain ⟨j, rfl⟩ := Int.eq_ofNat_of_zero_le d0
  have hj : j < vs.length := by omega
  refine ⟨l, vs, (j : Int), vs[j], rfl, hv, sq_of (e4 _ _ hn upd_same), atI_nat (by rw [List.getElem?_eq_getElem hj]), q _ H4 ((ExB.of (e2.trans e3)).trans e4) hP4 (List.getElem_mem hj)⟩
/-- text[e] -/
theorem evp_sign {l : List Nat} (ha : ∀ H1, Ev ta σ H1 (.str (Tx l))) (hz : l.length ≤ 100000) (he : EvP p te σ H (isI (l.length : Int))) : EvP p (tOp rIxS ta te) σ H (fun v _ => ∃ c ∈ l, v = .str (Tx [c])) := fun H1 e hP Q q => by
  refine ha H1 H1 (Ex.refl _) _ fun H2 e2 => he H2 (e.trans (ExB.of e2)) (hP.ex e2) _ fun v H3 e3 hP3 ⟨d, hv, d0, d1⟩ => ?_
  obtain ⟨c, hc, hm⟩ := at_sign (l := l) d0 d1
  exact ⟨Tx l, d, c, rfl, hv, sz_of (by rw [Tx_len]; exact hz), hc, q _ H3 ((ExB.of e2).trans e3) hP3 ⟨c, hm, rfl⟩⟩
/-- a + e -/
theorem evp_add {a m : Int} (he : EvP p te σ H (isI m)) : EvP p (tOp (rI0 fun i j => .int (i + j)) (tC (.int a)) te) σ H (fun v _ => ∃ d : Int, v = .int d ∧ a ≤ d ∧ d < a + m) := fun H1 e hP Q q =>
  he H1 e hP _ fun v H2 e2 hP2 ⟨d, hv, d0, d1⟩ => ⟨a, d, rfl, hv, q _ H2 e2 hP2 ⟨a + d, rfl, by omega, by omega⟩⟩
theorem evp_addV {a m : Int} (ha : EvP p ta σ H (eqs (.int a))) (he : EvP p te σ H (isI m)) : EvP p (tOp (rI0 fun i j => .int (i + j)) ta te) σ H (fun v _ => ∃ d : Int, v = .int d ∧ a ≤ d ∧ d < a + m) := fun H1 e hP Q q =>
  ha H1 e hP _ fun w H0 e0 hP0 hw => he H0 (e.trans e0) hP0 _ fun v H2 e2 hP2 ⟨d, hv, d0, d1⟩ => ⟨a, d, hw, hv, q _ H2 (e0.trans e2) hP2 ⟨a + d, rfl, by omega, by omega⟩⟩
/-! statements -/
theorem p_asg {i : Nat} (h : EvP p te σ H G) (hP : PotAt H p) (k : ∀ v H1, ExB p H H1 → PotAt H1 p → G v H1 → tz D (σ.set i (some v)) H1) : tSeq (tAsg te (gName i)) tz D σ H := h H (ExB.refl _ _) hP _ fun v H1 e hP1 g => k v H1 e hP1 g
theorem p_asg1 {i : Nat} (h : EvP p te σ H G) (hP : PotAt H p) (k : ∀ v H1, ExB p H H1 → PotAt H1 p → G v H1 → D.nx (σ.set i (some v)) H1) : tAsg te (gName i) D σ H := h H (ExB.refl _ _) hP _ fun v H1 e hP1 g => k v H1 e hP1 g
theorem p_ret (h : EvP p te σ H G) (hP : PotAt H p) (k : ∀ v H1, ExB p H H1 → PotAt H1 p → G v H1 → D.rt v H1) : tRet te D σ H := h H (ExB.refl _ _) hP _ fun v H1 e hP1 g => k v H1 e hP1 g
/-- for k in range(e): .. -/
theorem p_forR1 {j : Nat} {m : Int} (h : EvP p te σ H fun v _ => ∃ d : Int, v = .int d ∧ 0 ≤ d ∧ d ≤ m) (hm : m ≤ 100000) (hP : PotAt H p) (Pv : Nat → L2.St → Hp → Prop) (h0 : ∀ H1, ExB p H H1 → PotAt H1 p → Pv 0 σ H1)
    (hs : ∀ (i : Nat) σ' H', (i : Int) < m → Pv i σ' H' → tu { D with nx := Pv (i + 1), ct := Pv (i + 1), bk := tz D } (σ'.set j (some (.int (i : Int)))) H') (hd : ∀ (n : Nat) σ' H', (n : Int) ≤ m → Pv n σ' H' → tz D σ' H') : tSeq (tFor (iRng1 (tCons te tNil)) (gName j) tu) tz D σ H :=
  h H (ExB.refl _ _) hP _ fun v H1 e hP1 ⟨d, hv, d0, d1⟩ => ⟨d, by rw [hv], by omega, by omega, for_range (D := { D with nx := tz D }) (lo := 0) (n := d.toNat) Pv (h0 H1 e hP1) (fun i σ' H' hi q => by
    have e0 : (0 : Int) + (i : Int) = (i : Int) := Int.zero_add _
    show tu { D with nx := Pv (i + 1), ct := Pv (i + 1), bk := tz D } (σ'.set j (some (.int ((0 : Int) + (i : Int))))) H'
    rw [e0]
    exact hs i σ' H' (by omega) q) (fun σ' H' q => hd d.toNat σ' H' (by omega) q)⟩
/-- [e for k in range(n)], new things in the heap among what e gives -/
theorem evp_lcR {lo m : Int} {j : Nat} {vs : List Nat} {tn : TE} (hn : EvP p tn σ H fun v _ => ∃ d : Int, v = .int d ∧ lo ≤ d ∧ d ≤ m) (hl : 0 ≤ lo) (hm : m ≤ 40000) (hw : ∀ x, wipe ((wipe σ vs).set j (some x)) vs = wipe σ vs)
    (he : ∀ (i : Nat) H1, ExB p H H1 → (i : Int) < m → EvP p te ((wipe σ vs).set j (some (.int (i : Int)))) H1 G) (hg : ∀ v H1 H2, ExT H1 H2 → G v H1 → G v H2) :
    EvPL p (tLc (iRng1 (tCons tn tNil)) (gName j) tYes te vs) σ H (fun xs H2 => lo ≤ (xs.length : Int) ∧ (xs.length : Int) ≤ m ∧ ∀ x ∈ xs, G x H2) := fun H1 e hP Q q => by
  refine hn H1 e hP _ fun v H2 e2 hP2 ⟨d, hv, d0, d1⟩ => ⟨d, by rw [hv], by omega, by omega, fun Dl hD => ?_⟩
  have nD := hP2.ne hD
  refine lc_range (lo := 0) (n := d.toNat) (fun i H4 => ExB p H2 H4 ∧ PotAt H4 p ∧ ∃ xs : List V, H4 Dl = some (.lst xs) ∧ xs.length = i ∧ ∀ x ∈ xs, G x H4)
    ⟨ExB.of (Ex.new hD), hP2.ex (Ex.new hD), [], upd_same, rfl, fun x hx => by cases hx⟩ (fun i H4 hi hv => ?_) (fun H4 hv => ?_)
  · obtain ⟨e4, hP4, xs, h4, hn4, hs⟩ := hv
    refine ⟨?_, ?_⟩
    · exact hw _
    · have e0 : (0 : Int) + (i : Int) = (i : Int) := Int.zero_add _
      show te ((wipe σ vs).set j (some (.int ((0 : Int) + (i : Int))))) H4 _
      rw [e0]
      refine he i H4 ((e.trans e2).trans e4) (by omega) H4 (ExB.refl _ _) hP4 _ fun y H5 e5 hP5 g5 => ?_
      have h5 := e5 Dl _ nD h4
      have et : ExT H4 (L2.upd H5 Dl (.lst (xs ++ [y]))) := (ExT.ofB hP4 e5).upd h5
      refine ⟨xs, h5, sz_lt (by omega), (e4.trans e5).mut hD, hP5.upd nD, xs ++ [y], upd_same, by rw [List.length_append, hn4]; rfl, fun z hz => ?_⟩
      rcases List.mem_append.mp hz with h | h
      · exact hg z _ _ et (hs z h)
      · rw [List.mem_singleton.mp h]
        exact hg y _ _ ((ExT.refl H5).upd h5) g5
  · obtain ⟨e4, hP4, xs, h4, hn4, hs⟩ := hv
    exact q Dl xs H4 (by
      cases hx : H1 Dl with
      | none => rfl
      | some o =>
        have := e2 Dl o nD hx
        rw [hD] at this
        cases this) (e2.trans e4) hP4 h4 ⟨by omega, by omega, hs⟩
end
/-! ### the promises of what is drawn -/
def spWords : Sp := fun vs H Q _ => vs = [] ∧ ∀ (g : Addr) (H' : Hp), H g = none → Ex H H' → H' g = some (.lst (words17.map V.str)) → Q (.ref g) H'
def spName : Sp := fun vs H Q _ => ∃ (p g : Addr) (taken : List Str), vs = [.ref p, .ref g] ∧ PotAt H p ∧ H g = some (.lst (taken.map V.str)) ∧ taken.length ≤ 20 ∧ ∀ (H' : Hp) (x : Str), ExB p H H' → PotAt H' p → NmOk x → x ∉ taken → Q (.str x) H'
def spNames : Sp := fun vs H Q _ => ∃ (p : Addr) (m : Nat), vs = [.ref p, .int (m : Int)] ∧ PotAt H p ∧ m ≤ 20 ∧ ∀ (H' : Hp) (g : Addr) (xs : List Str), ExB p H H' → PotAt H' p → H g = none → H' g = some (.lst (xs.map V.str)) → xs.length = m → xs.Nodup → (∀ x ∈ xs, NmOk x) → Q (.ref g) H'
def spBitsD : Sp := fun vs H Q _ => ∃ (p : Addr) (m : Nat) (ss : List Nat), vs = [.ref p, .int (m : Int), .str (Tx ss)] ∧ PotAt H p ∧ m ≤ 8 ∧ 0 < ss.length ∧ ss.length ≤ 1000 ∧ ∀ (H' : Hp) (l : List Nat), ExB p H H' → PotAt H' p → l.length = m → (∀ c ∈ l, c ∈ ss) → Q (.str (Tx l)) H'
def spLeaf : Sp := fun vs H Q _ => ∃ (p q : Addr) (m : Nat) (ws : List (Str × Nat)), vs = [.ref p, .ref q, .int (m : Int)] ∧ PotAt H p ∧ WsAt H q ws ∧ WsOk ws ∧ ws.length ≤ 1000 ∧ 1 ≤ m ∧ m ≤ 8 ∧ ∀ (H' : Hp) (v : V) (t : Tm), ExB p H H' → PotAt H' p → TmAt H' t v → Wd ws t m → dep t ≤ 2 → wt t ≤ 2 → Q v H'
/-- a term that was drawn: c draws of terms, of which room was taken -/
structure TmOut (p r : Addr) (ws : List (Str × Nat)) (n m : Nat) (R : Int) (H H' : Hp) (v : V) (t : Tm) (c : Nat) : Prop where
  ex : ExC p r H H'
  pot : PotAt H' p
  room : H' r = some (.lst [.int (R - (c : Int))])
  c1 : 1 ≤ c
  c0 : R ≤ 0 → c = 1
  cR : 0 < R → (c : Int) ≤ R + 2 * (n : Int) + 1
  tm : TmAt H' t v
  wd : Wd ws t m
  dp : dep t ≤ n + 2
  wt : wt t ≤ 2 * c
def spTerm (n : Nat) : Sp := fun vs H Q _ => ∃ (p q r : Addr) (m : Nat) (R : Int) (ws : List (Str × Nat)), vs = [.ref p, .ref q, .int (m : Int), .int (n : Int), .ref r] ∧ PotAt H p ∧ WsAt H q ws ∧ H r = some (.lst [.int R]) ∧ WsOk ws ∧ ws.length ≤ 1000 ∧ 1 ≤ m ∧ m ≤ 8 ∧
  ∀ (H' : Hp) (v : V) (t : Tm) (c : Nat), TmOut p r ws n m R H H' v t c → Q v H'
def spPrev : Nat → Sp
  | 0 => fun _ _ _ _ => False
  | n + 1 => spTerm n
/-- a term of one bit, behind the taking of room for itself -/
structure BitOut (p r : Addr) (ws : List (Str × Nat)) (n : Nat) (R : Int) (H H' : Hp) (v : V) (t : Tm) (c : Nat) : Prop where
  ex : ExC p r H H'
  pot : PotAt H' p
  room : H' r = some (.lst [.int (R - (c : Int))])
  cR : (c : Int) ≤ R + 2 * (n : Int) + 1
  tm : TmAt H' t v
  wd : Wd ws t 1
  dp : dep t ≤ n + 2
  wt : wt t ≤ 2 * c + 1
def spBitT (n : Nat) : Sp := fun vs H Q _ => ∃ (p q r : Addr) (R : Int) (ws : List (Str × Nat)), vs = [.ref p, .ref q, .int (n : Int), .ref r] ∧ 0 < n ∧ PotAt H p ∧ WsAt H q ws ∧ H r = some (.lst [.int R]) ∧ 0 ≤ R ∧ WsOk ws ∧ ws.length ≤ 1000 ∧
  ∀ (H' : Hp) (v : V) (t : Tm) (c : Nat), BitOut p r ws n R H H' v t c → Q v H'
/-! ### small things for what is drawn -/
theorem RoomAt.is {H : Hp} {r : Addr} {R : Int} (h : H r = some (.lst [.int R])) : RoomAt H r := ⟨R, h⟩
theorem inV_strs (x : Str) : ∀ xs : List Str, inV (.str x) (xs.map V.str) = decide (x ∈ xs)
  | [] => by simp [inV]
  | y :: xs => by
    have ih := inV_strs x xs
    unfold inV at ih ⊢
    rw [List.map_cons, List.any_cons, ih]
    rw [Bool.eq_iff_iff]
    simp [eqV]
    constructor
    · rintro (h | h)
      · exact .inl h.symm
      · exact .inr h
    · rintro (h | h)
      · exact .inl h.symm
      · exact .inr h
theorem flat_strs (xs : List Str) : (xs.map V.str).all flatV = true := by
  rw [List.all_eq_true]
  intro v hv
  obtain ⟨x, _, rfl⟩ := List.mem_map.mp hv
  rfl
section
variable {K : PySem.W.Frag} {σ : L2.St} {H H' : Hp} {ta tb te tx : TE}
theorem ev_inStrs {x : Str} {xs : List Str} {g : Addr} (ha : Ev ta σ H (.str x)) (hb : Ev tb σ H (.ref g)) (h : SqL K H g (xs.map V.str)) : Ev (tOp (rIn K false) ta tb) σ H (.bl (decide (x ∈ xs))) := by
  rw [← inV_strs]
  exact ev_op ha hb (rv_isL h rfl (flat_strs xs))
theorem ev_niStrs {x : Str} {xs : List Str} {g : Addr} (ha : Ev ta σ H (.str x)) (hb : Ev tb σ H (.ref g)) (h : SqL K H g (xs.map V.str)) : Ev (tOp (rIn K true) ta tb) σ H (.bl (!decide (x ∈ xs))) := by
  rw [← inV_strs]
  exact ev_op ha hb (rv_niL h rfl (flat_strs xs))
theorem ev_inStrsN {x : Str} {xs : List Str} (ha : Ev ta σ H (.str x)) (hb : EvL tb σ H (xs.map V.str)) : Ev (tOp (rIn K false) ta tb) σ H (.bl (decide (x ∈ xs))) := by
  rw [← inV_strs]
  exact ev_opL ha hb fun p H1 hp _ => rv_isL (sq_of hp) rfl (flat_strs xs)
end
theorem low_nm {x : Str} (h : NmOk x) : LowS x := by
  obtain ⟨c, l, rfl, h1, h2, _⟩ := h
  have a1 : ∀ d ∈ lets ++ figs, d < 128 := by decide
  refine low_Tx fun d hd => ?_
  rcases List.mem_cons.mp hd with rfl | h
  · exact a1 d (List.mem_append_left _ h1)
  · exact a1 d (h2 d h)
section
variable {K : PySem.W.Frag} {σ : L2.St} {H H' : Hp} {ta tb te tx : TE} {p : Addr}
theorem ev_neNil {g : Addr} {xs : List Str} (ha : Ev ta σ H (.ref g)) (h : SqL K H g (xs.map V.str)) (hl : ∀ x ∈ xs, LowS x) : Ev (tOp (rNeD K) ta (tLst tNil)) σ H (.bl (!decide (xs = []))) :=
  ev_opL (xs := []) ha (el_lst ea_nil (by decide)) fun q H1 hq e => rv_neStrs (ys := []) (ex_l e h) (sq_of hq) hl (fun x hx => by cases hx)
/-- xs[take(pot, len(xs))] -/
theorem evp_pickL {g : Addr} {xs : List V} {i : Nat} {E : XK} (hi : σ[i]? = some (some (.ref p))) (ha : ∀ H1, Ev ta σ H1 (.ref g)) (hb : ∀ H1, Ev tb σ H1 (.ref g)) (hg : H g = some (.lst xs)) (ng : g ≠ p) (h0 : 0 < xs.length) (h1 : xs.length ≤ 1000000) :
    EvP p (tOp (rIxL K) ta (tCall spTake [] E (tCons (tVar i) (tCons (tCB (rLenS K) (tCons tb tNil)) tNil)))) σ H (fun v _ => v ∈ xs) := fun H1 e hP Q q => by
  refine ha H1 H1 (Ex.refl _) _ fun H2 e2 => ?_
  refine evp_takeV (p := p) (H := H2) (m := (xs.length : Int)) hi (evp_of fun H3 e3 => ev_len (hb H3) (sq_of (e3 _ _ ng (e2 _ _ (e _ _ ng hg))))) (by omega) (by omega) H2 (ExB.refl _ _) (hP.ex e2) _ fun v H3 e3 hP3 ⟨d, hv, d0, d1⟩ => ?_
  obtain ⟨j, rfl⟩ := Int.eq_ofNat_of_zero_le d0
  have hj : j < xs.length := by omega
  exact ⟨g, xs, (j : Int), xs[j], rfl, hv, sq_of (e3 _ _ ng (e2 _ _ (e _ _ ng hg))), atI_nat (by rw [List.getElem?_eq_getElem hj]), q _ H3 ((ExB.of e2).trans e3) hP3 (List.getElem_mem hj)⟩
end
theorem ws_key {ws : List (Str × Nat)} {n : Nat} {k : Key} {x : V} (h : (wsK ws)[n]? = some (k, x)) : ∃ a : Str × Nat, ws[n]? = some a ∧ ws.getD n default = a ∧ a ∈ ws ∧ k = Sum.inr a.1 ∧ x = .int (a.2 : Int) := by
  rw [List.getElem?_map] at h
  cases ha : ws[n]? with
  | none =>
    rw [ha] at h
    cases h
  | some a =>
    rw [ha] at h
    have := Option.some.inj h
    exact ⟨a, rfl, by rw [List.getD_eq_getElem?_getD, ha]; rfl, List.mem_of_getElem? ha, (congrArg Prod.fst this).symm, (congrArg Prod.snd this).symm⟩
theorem op_niK {X : Cx} {K : PySem.W.Frag} (h : X.K = K) : OpR X (compareOp .NotIn) (rIn K true) := h ▸ op_notIn_seq
theorem op_inK {X : Cx} {K : PySem.W.Frag} (h : X.K = K) : OpR X (compareOp .In) (rIn K false) := h ▸ op_in_seq
theorem ix_tupK {X : Cx} {K : PySem.W.Frag} (h : X.K = K) : IxR X (rIxT K) := h ▸ ix_tup
def cellOf (ns : List Int) (k : Int) : Int := if k < (ns.length : Int) then ns.getD k.toNat 0 else 0
theorem cell_at {ns : List Int} {k : Int} (h0 : 0 ≤ k) (h1 : k < (ns.length : Int)) : atI (ns.map V.int) k = some (.int (cellOf ns k)) := by
  obtain ⟨j, rfl⟩ := Int.eq_ofNat_of_zero_le h0
  have h2 : j < ns.length := by omega
  refine atI_nat ?_
  rw [List.getElem?_map, List.getElem?_eq_getElem h2]
  unfold cellOf
  rw [if_pos h1, List.getD_eq_getElem?_getD]
  simp [List.getElem?_eq_getElem h2]
theorem prev_of {n : Nat} {vs : List V} {H : Hp} {Q : VK} {E : XK} (h : ∃ m, n = m + 1 ∧ spTerm m vs H Q E) : spPrev n vs H Q E := by
  obtain ⟨m, rfl, h⟩ := h
  exact h
section
variable {K : PySem.W.Frag} {σ : L2.St} {H H' : Hp} {te : TE} {t u : TT} {D : Ends} {tu tz : TS} {p : Addr}
/-- if a or b or e == 0: .. -/
theorem p_when3 {b1 b2 : Bool} {m : Int} (h1 : EvT t σ H b1) (h2 : EvT u σ H b2) (h3 : EvP p te σ H (isI m)) (hP : PotAt H p) (k1 : ∀ H1, ExB p H H1 → PotAt H1 p → tu { D with nx := tz D } σ H1) (k2 : b1 = false → b2 = false → ∀ H1, ExB p H H1 → PotAt H1 p → tz D σ H1) :
    tSeq (tIfS (tOr t (tOr u (tTest (tOp rEq te (tC (.int 0)))))) tu tNext) tz D σ H := by
  refine h1 H (Ex.refl _) _ fun H1 e1 => ?_
  cases b1 with
  | true => exact k1 H1 (ExB.of e1) (hP.ex e1)
  | false =>
    refine h2 H1 e1 _ fun H2 e2 => ?_
    cases b2 with
    | true => exact k1 H2 (ExB.of (e1.trans e2)) (hP.ex (e1.trans e2))
    | false =>
      refine h3 H2 (ExB.of (e1.trans e2)) (hP.ex (e1.trans e2)) _ fun v H3 e3 hP3 ⟨d, hv, d0, d1⟩ => ?_
      subst hv
      have x3 : ExB p H H3 := (ExB.of (e1.trans e2)).trans e3
      refine ⟨rfl, _, rfl, ?_⟩
      cases hd : decide (V.int d = V.int 0) with
      | true => exact k1 H3 x3 hP3
      | false => exact k2 rfl rfl H3 x3 hP3
end
theorem ExC.refl (p r : Addr) (H : Hp) : ExC p r H H := fun _ _ _ _ h => h
end Dw

set_option Elab.async false
set_option linter.all false
set_option maxRecDepth 100000
namespace Dw
open PySem L2 Evl
instance : Inhabited Tm := ⟨.is []⟩
/-! ### the program's operators -/
def op3 : Nat → Nat → Nat → Nat
  | 1 => andS
  | 2 => orS
  | _ => xorS
def spSg (op : Nat → Nat → Nat) : Sp := fun vs H Q _ => ∃ a b : Nat, vs = [.str (Tx [a]), .str (Tx [b])] ∧ ∀ H', Ex H H' → Q (.str (Tx [op a b])) H'
theorem spv_sg {op : Nat → Nat → Nat} {a b : Nat} {H : Hp} : SpV (spSg op) [.str (Tx [a]), .str (Tx [b])] H (.str (Tx [op a b])) := fun H1 e Q q E => ⟨a, b, rfl, q⟩
def spBits (qa qo qx : Addr) : Sp := fun vs H Q _ => ∃ (g : Addr) (k : Nat) (a b : List Nat), vs = [.ref g, .str (Tx a), .str (Tx b)] ∧ ((k = 1 ∧ g = qa) ∨ (k = 2 ∧ g = qo) ∨ (k = 3 ∧ g = qx)) ∧ a.length = b.length ∧ a.length ≤ 1000 ∧ ∀ H', Ex H H' → Q (.str (Tx (List.zipWith (op3 k) a b))) H'
def spTwo (k : Nat) : Sp := fun vs H Q _ => ∃ a b : List Nat, vs = [.str (Tx a), .str (Tx b)] ∧ a.length = b.length ∧ a.length ≤ 1000 ∧ ∀ H', Ex H H' → Q (.str (Tx (List.zipWith (op3 k) a b))) H'
def spNot : Sp := fun vs H Q _ => ∃ l : List Nat, vs = [.str (Tx l)] ∧ Sx l ∧ l.length ≤ 1000 ∧ ∀ H', Ex H H' → Q (.str (Tx (l.map notS))) H'
def spMost : Sp := fun vs H Q _ => ∃ a b c : Nat, vs = [.str (Tx [a]), .str (Tx [b]), .str (Tx [c])] ∧ a ∈ k3 ∧ b ∈ k3 ∧ c ∈ k3 ∧ ∀ H', Ex H H' → Q (.str (Tx [mostS a b c])) H'
theorem spv_most {a b c : Nat} {H : Hp} (ha : a ∈ k3) (hb : b ∈ k3) (hc : c ∈ k3) : SpV spMost [.str (Tx [a]), .str (Tx [b]), .str (Tx [c])] H (.str (Tx [mostS a b c])) := fun H1 e Q q E => ⟨a, b, c, rfl, ha, hb, hc, q⟩
def spTwoS (f : List Nat → List Nat → List Nat) : Sp := fun vs H Q _ => ∃ a b : List Nat, vs = [.str (Tx a), .str (Tx b)] ∧ Sx a ∧ Sx b ∧ a.length = b.length ∧ a.length ≤ 8 ∧ ∀ H', Ex H H' → Q (.str (Tx (f a b))) H'
def spMapS (f : Nat → Nat) : Sp := fun vs H Q _ => ∃ l : List Nat, vs = [.str (Tx l)] ∧ l.length ≤ 1000 ∧ ∀ H', Ex H H' → Q (.str (Tx (l.map f))) H'
theorem spv_map {f : Nat → Nat} {l : List Nat} {H : Hp} (h : l.length ≤ 1000) : SpV (spMapS f) [.str (Tx l)] H (.str (Tx (l.map f))) := fun H1 e Q q E => ⟨l, rfl, h, q⟩
theorem spv_read {l : List Nat} {H : Hp} (h : l.length ≤ 1000) : SpV spRead [.str (Tx l)] H (.str (Tx (l.map rd))) := fun H1 e Q q E => ⟨l, rfl, h, q⟩
theorem spv_mixS {a b : Nat} {H : Hp} : SpV spMixS [.str (Tx [a]), .str (Tx [b])] H (.str (Tx [mixS a b])) := fun H1 e Q q E => ⟨a, b, rfl, q⟩
theorem spv_mixed {a b : List Nat} {H : Hp} (h : a.length = b.length) (hz : a.length ≤ 1000) : SpV spMixed [.str (Tx a), .str (Tx b)] H (.str (Tx (List.zipWith mixS a b))) := fun H1 e Q q E => ⟨a, b, rfl, h, hz, q⟩
theorem spv_part {l : List Nat} {hi lo : Nat} {H : Hp} (h1 : lo ≤ hi) (h2 : hi < l.length) (h3 : l.length ≤ 1000) : SpV spPart [.str (Tx l), .int (hi : Int), .int (lo : Int)] H (.str (Tx (partS l hi lo))) := fun H1 e Q q E => ⟨l, hi, lo, rfl, h1, h2, h3, q⟩
def spOp (K : PySem.W.Frag) : Sp := fun vs H Q _ => ∃ (word : Str) (a : Addr) (ls : List (List Nat)) (hi lo : Int) (r : List Nat), vs = [.str word, .ref a, .int hi, .int lo] ∧ SqL K H a (ls.map fun l => V.str (Tx l)) ∧ (∀ l ∈ ls, Sx l ∧ l.length ≤ 8) ∧ Op word ls hi lo r ∧ ∀ H', Ex H H' → Q (.str (Tx r)) H'
theorem spv_op {K : PySem.W.Frag} {H : Hp} {word : Str} {a : Addr} {ls : List (List Nat)} {hi lo : Int} {r : List Nat} (h : SqL K H a (ls.map fun l => V.str (Tx l))) (h8 : ∀ l ∈ ls, Sx l ∧ l.length ≤ 8) (o : Op word ls hi lo r) : SpV (spOp K) [.str word, .ref a, .int hi, .int lo] H (.str (Tx r)) :=
  fun H1 e Q q E => ⟨word, a, ls, hi, lo, r, rfl, ex_l e h, h8, o, q⟩
theorem Op.len {word : Str} {ls : List (List Nat)} {hi lo : Int} {r : List Nat} (h : Op word ls hi lo r) : ls.length ≤ 3 := by cases h <;> simp
theorem rd_ids {ls : List (List Nat)} (h : ∀ l ∈ ls, Sx l ∧ l.length ≤ 8) : (ls.map fun l => l.map rd) = ls := by
  exact (List.map_congr_left fun l hl => rd_id (h l hl).1).trans (List.map_id _)
theorem w1_part : ∀ w : W1, w.s ≠ Str.ofString "part" := by intro w; cases w <;> decide +kernel
theorem w2_part : ∀ w : W2, w.s ≠ Str.ofString "part" := by intro w; cases w <;> decide +kernel
/-! ### terms asked -/
/-- how many terms behind a word -/
def argN : List (Str × Int) := [("not", 1), ("and", 2), ("or", 2), ("xor", 2), ("plus", 2), ("same", 2), ("less", 2), ("any", 1), ("all", 1), ("pick", 3), ("join", 2), ("part", 1)]
def spArgs : Sp := fun vs H Q _ => ∃ (a : Addr) (w : Str) (us es : List V), vs = [.ref a] ∧ H a = some (.tup (.str w :: (us ++ es))) ∧ (w, (us.length : Int)) ∈ argN ∧ us.length + es.length ≤ 100 ∧ ∀ (g : Addr) (H' : Hp), H g = none → Ex H H' → H' g = some (.lst us) → Q (.ref g) H'
theorem spl_args {a : Addr} {w : Str} {us es : List V} {H : Hp} (h : H a = some (.tup (.str w :: (us ++ es)))) (hw : (w, (us.length : Int)) ∈ argN) (hz : us.length + es.length ≤ 100) : SpL spArgs [.ref a] H us := fun H1 e Q q E => ⟨a, w, us, es, rfl, e _ _ h, hw, hz, q⟩
theorem argN_ok : ∀ p ∈ argN, p.1 ≠ Str.ofString "is" ∧ p.1 ≠ Str.ofString "of" := by decide +kernel
theorem kids_arg : ∀ {t : Tm}, leafy t = false → (wordOf t, ((kids t).length : Int)) ∈ argN
  | .un .not _, _ => by
    show (("not" : Str), (1 : Int)) ∈ argN
    decide +kernel
  | .un .any _, _ => by
    show (("any" : Str), (1 : Int)) ∈ argN
    decide +kernel
  | .un .all _, _ => by
    show (("all" : Str), (1 : Int)) ∈ argN
    decide +kernel
  | .bi .and _ _, _ => by
    show (("and" : Str), (2 : Int)) ∈ argN
    decide +kernel
  | .bi .or _ _, _ => by
    show (("or" : Str), (2 : Int)) ∈ argN
    decide +kernel
  | .bi .xor _ _, _ => by
    show (("xor" : Str), (2 : Int)) ∈ argN
    decide +kernel
  | .bi .plus _ _, _ => by
    show (("plus" : Str), (2 : Int)) ∈ argN
    decide +kernel
  | .bi .same _ _, _ => by
    show (("same" : Str), (2 : Int)) ∈ argN
    decide +kernel
  | .bi .less _ _, _ => by
    show (("less" : Str), (2 : Int)) ∈ argN
    decide +kernel
  | .bi .join _ _, _ => by
    show (("join" : Str), (2 : Int)) ∈ argN
    decide +kernel
  | .pick _ _ _, _ => by
    show (("pick" : Str), (3 : Int)) ∈ argN
    decide +kernel
  | .part _ _ _, _ => by
    show (("part" : Str), (1 : Int)) ∈ argN
    decide +kernel
  | .is _, h => by cases h
  | .of _, h => by cases h
theorem dep_pos (t : Tm) : 1 ≤ dep t := by cases t <;> simp [dep]
theorem ends_len (t : Tm) : (ends t).length ≤ 2 := by cases t <;> simp [ends]
theorem kids_len (t : Tm) : (kids t).length ≤ 3 := by cases t <;> simp [kids]
/-- a dict of what the names have -/
def EnvAt (H : Hp) (d : Addr) (ws : List (Str × Nat)) (E : Str → List Nat) : Prop := ∃ kvs, H d = some (.dK kvs) ∧ ∀ a ∈ ws, valV kvs (Sum.inr a.1 : Key) = some (.str (Tx (E a.1)))
theorem EnvAt.ex {H H' : Hp} {d : Addr} {ws : List (Str × Nat)} {E : Str → List Nat} (h : EnvAt H d ws E) (e : Ex H H') : EnvAt H' d ws E := let ⟨k, a, b⟩ := h; ⟨k, e _ _ a, b⟩
def spVT (n : Nat) : Sp := fun vs H Q _ => ∃ (v : V) (d : Addr) (t : Tm) (m : Nat) (ws : List (Str × Nat)) (E : Str → List Nat), vs = [v, .ref d] ∧ TmAt H t v ∧ dep t ≤ n ∧ Wd ws t m ∧ WsOk ws ∧ EnvOk ws E ∧ EnvAt H d ws E ∧ ∀ H', Ex H H' → Q (.str (Tx (val E t))) H'
theorem spv_vt {n : Nat} {v : V} {d : Addr} {t : Tm} {m : Nat} {ws : List (Str × Nat)} {E : Str → List Nat} {H : Hp} (h1 : TmAt H t v) (h2 : dep t ≤ n) (h3 : Wd ws t m) (h4 : WsOk ws) (h5 : EnvOk ws E) (h6 : EnvAt H d ws E) : SpV (spVT n) [v, .ref d] H (.str (Tx (val E t))) :=
  fun H1 e Q q E1 => ⟨v, d, t, m, ws, E, rfl, h1.ex e, h2, h3, h4, h5, h6.ex e, q⟩
theorem kids_ok {ws : List (Str × Nat)} {E : Str → List Nat} (h : WsOk ws) (he : EnvOk ws E) {t : Tm} {n : Nat} (hw : Wd ws t n) : ∀ l ∈ (kids t).map (val E), Sx l ∧ l.length ≤ 8 := fun l hl => by
  obtain ⟨s, hs, rfl⟩ := List.mem_map.mp hl
  obtain ⟨m, hm⟩ := hw.kids h s hs
  exact ⟨(val_ok he hm).1, by rw [(val_ok he hm).2]; exact (hm.bound h).2⟩
theorem part_word : ∀ {t : Tm}, leafy t = false → (∃ a hi lo, t = .part a hi lo) ∨ (wordOf t ≠ Str.ofString "part" ∧ hiOf t = 0 ∧ loOf t = 0)
  | .un w _, _ => .inr ⟨w1_part w, rfl, rfl⟩
  | .bi w _ _, _ => .inr ⟨w2_part w, rfl, rfl⟩
  | .pick _ _ _, _ => .inr ⟨by show ("pick" : Str) ≠ Str.ofString "part"; decide +kernel, rfl, rfl⟩
  | .part a hi lo, _ => .inl ⟨a, hi, lo, rfl⟩
  | .is _, h => by cases h
  | .of _, h => by cases h
theorem cut_args {w : V} {us es : List V} : cutV (w :: (us ++ es)) (some 1) (some (1 + (us.length : Int))) = us := by
  unfold cutV
  have h1 : HT.sIx (w :: (us ++ es)).length 0 (some 1) = 1 := by
    unfold HT.sIx
    first | rfl | (simp; done) | (simp; omega)
  have h2 : HT.sIx (w :: (us ++ es)).length (w :: (us ++ es)).length (some (1 + (us.length : Int))) = us.length + 1 := by
    rw [show 1 + (us.length : Int) = ((us.length + 1 : Nat) : Int) by omega, HT.sIx_nat]
    simp
  rw [h1, h2]
  simp
end Dw

set_option Elab.async false
set_option linter.all false
set_option maxRecDepth 100000
/-! ### zip of any number of texts -/
namespace Dw
open PySem PySem.Spec PyProof.Rows PySem.W
abbrev ZpF (h : Heap) (z TI TO : Addr) (v : Value) (f : Bool) : Prop := h.get? z = some { cls := .type "zip", dict := none, data := .fields #[v, .bool f, .bool false, .ref TI, .ref TO], slots := #[] }
abbrev TpN (h : Heap) (t : Addr) (vs : List Value) : Prop := h.get? t = some { cls := .type "tuple", data := .seq vs.toArray }
abbrev Tri := Nat × Str × Tok
def ItA (h : Heap) (i : Nat) (e : Tri) : Prop := h.IsStrIter e.1 (strIterType e.2.1) e.2.1 e.2.2 i
theorem ItA.over {h h' : Heap} {i : Nat} {e : Tri} (a : ItA h i e) (k : ∀ o, h.get? e.1 = some o → h'.get? e.1 = some o) : ItA h' i e := by
  obtain ⟨o, ho, r⟩ := a
  exact ⟨o, k o ho, r⟩
structure SepN (z TI TO : Addr) (es : List Tri) : Prop where
  zT : z ≠ TI
  zO : z ≠ TO
  TTO : TI ≠ TO
  jz : ∀ e ∈ es, e.1 ≠ z
  jT : ∀ e ∈ es, e.1 ≠ TI
  jO : ∀ e ∈ es, e.1 ≠ TO
  nd : (es.map fun e => e.1).Nodup
def Dr (i : Nat) (e : Tri) (v : Value) : Prop := ∃ c u, e.2.1.cps[i]? = some c ∧ v = .str ⟨#[c]⟩ u
theorem paired_snoc {α β : Type} {R : α → β → Prop} {b : β} {a : α} (h : R a b) : ∀ {as : List α} {bs : List β}, Paired R as bs → Paired R (as ++ [a]) (bs ++ [b])
  | _, _, .nil => .cons h .nil
  | _, _, .cons r t => .cons r (paired_snoc h t)
section
variable {prog : Program} {w : World} {A : Around} {E : Value → Shared → Prop} {s : Shared} {z TI TO T : Addr} {es : List Tri} {f : Bool} {oT : Obj} {i : Nat}
theorem zn_held {Q : Value → Shared → Prop} (hh : A.handled = none) (S : SepN z TI TO es) (ne : es ≠ []) (few : es.length ≤ 1000) (zp : ZpF s.heap z TI TO (rawInt T) f) (tA : s.heap.get? T = some oT) (tI : TpN s.heap TI (es.map fun e => .ref e.1)) (its : ∀ e ∈ es, ItA s.heap i e) (lt : ∀ e ∈ es, i < e.2.1.cps.size)
    (k : ∀ vs h' tk, Paired (Dr i) es vs → ZpF h' z TI TO (rawInt T) true → (∀ e ∈ es, ItA h' (i + 1) e) → TpN h' s.heap.objs.size vs → h'.objs.size = s.heap.objs.size + 1 → (∀ c o, c ≠ z → (∀ e ∈ es, c ≠ e.1) → s.heap.get? c = some o → h'.get? c = some o) → Q (.ref s.heap.objs.size) { s with heap := h', toks := tk }) :
    wpAny (model prog w) A (Builtin.«zip.__next__» ⟨[.ref z], []⟩) (fun fin s' => ∃ v, fin = .done (.ret v) ∧ Q v s') E s := by
  obtain ⟨hp, g, d, tk0, os⟩ := s
  show wpAny _ _ (field (.ref z) 2 >>= _) _ _ _
  refine wpAny_bind (wpAny_field zp rfl (x := .bool false) rfl ?_)
  show wpAny _ _ (field (.ref z) 3 >>= _) _ _ _
  refine wpAny_bind (wpAny_field zp rfl (x := .ref TI) rfl ?_)
  refine wpAny_bind (wpAny_seqItems tI rfl ?_)
  have full : ((es.map fun e => Value.ref e.1).toArray.isEmpty) = false := by
    cases es with
    | nil => exact absurd rfl ne
    | cons a r => simp
  dsimp only
  rw [full]
  show wpAny _ _ (Builtin.SmallTypes.ownedTupleIsFree (.ref z) >>= _) _ _ _
  refine wpAny_bind (wpAny_tupleHeld_zip zp tA fun h1 zp1 same1 => ?_)
  simp only [Bool.false_eq_true, if_false]
  refine wpAny_bind ?_
  rw [← Array.forIn_toList]
  refine wpAny_forIn_list _ (fun rest b s' => b.1 = none ∧ ∃ (pre suf : List Tri) (hq : Heap) (tk : Nat), es = pre ++ suf ∧ rest = (suf.map fun e => Value.ref e.1) ∧ Paired (Dr i) pre b.2.toList ∧ s' = ⟨hq, g, d, tk, os⟩ ∧ ZpF hq z TI TO (rawInt T) true ∧ (∀ e ∈ pre, ItA hq (i + 1) e) ∧ (∀ e ∈ suf, ItA hq i e) ∧ hq.objs.size = hp.objs.size ∧ ∀ c o, c ≠ z → (∀ e ∈ es, c ≠ e.1) → hp.get? c = some o → hq.get? c = some o) _ ?turn ?fin _ _ ?init
  case init => exact ⟨rfl, [], es, h1, tk0, rfl, rfl, .nil, rfl, zp1, (fun e he => by cases he), (fun e he => (its e he).over fun o ho => same1.extBut _ _ (S.jz e he) ho), same1.1, fun c o nz _ hc => same1.extBut _ _ nz hc⟩
  case turn =>
    rintro x rest b s' ⟨b0, pre, suf, hq, tk, esp, er, pd, rfl, zq, ip, is, sz, kp⟩
    cases suf with
    | nil => cases er
    | cons e suf =>
      rw [List.map_cons] at er
      obtain ⟨rfl, rfl⟩ := List.cons.inj er
      have mem : e ∈ es := by rw [esp]; simp
      refine wpAny_bind (wpAny_holding ?_)
      show wpAny _ _ (Builtin.SmallTypes.nextOf (.ref e.1) >>= _) _ _ _
      refine wpAny_bind ((Draws.text hh e.1 e.2.1 e.2.2).item i ⟨hq, g, d, tk, os⟩ _ _ (lt e mem) (is e (List.mem_cons_self ..)) fun v h' tk' dr it' same' => wpAny_pure ?_)
      refine wpAny_pure ?_
      replace same' : Heap.SameBut e.1 hq h' := same'
      have nds := S.nd
      rw [esp, List.map_append, List.map_cons, List.nodup_append] at nds
      obtain ⟨_, nd2, nd3⟩ := nds
      refine ⟨rfl, pre ++ [e], suf, h', tk', by rw [esp]; simp, rfl, ?_, rfl, same'.extBut _ _ (S.jz e mem).symm zq, fun e' he' => ?_, fun e' he' => ?_, same'.1.trans sz, fun c o nz nj hc => same'.extBut _ _ (nj e mem) (kp c o nz nj hc)⟩
      · rw [Array.toList_push]
        exact paired_snoc dr pd
      · rcases List.mem_append.mp he' with hm | hm
        · exact (ip e' hm).over fun o ho => same'.extBut _ _ (nd3 e'.1 (List.mem_map.mpr ⟨e', hm, rfl⟩) e.1 (List.mem_cons_self ..)) ho
        · rw [List.mem_singleton.mp hm]
          exact it'
      · refine (is e' (List.mem_cons_of_mem _ he')).over fun o ho => same'.extBut _ _ (fun z => ?_) ho
        exact (List.nodup_cons.mp nd2).1 (z ▸ List.mem_map.mpr ⟨e', he', rfl⟩)
  case fin =>
    rintro ⟨b1, b2⟩ s' ⟨b0, pre, suf, hq, tk, esp, er, pd, rfl, zq, ip, is, sz, kp⟩
    have : suf = [] := List.map_eq_nil_iff.mp er.symm
    subst this
    rw [List.append_nil] at esp
    subst esp
    cases (show b1 = none from b0)
    have fits : b2.toList.length ≤ sizeLine := by
      rw [← pd.length]
      exact Evl.sz_of (by omega)
    refine wpAny_bind (wpAny_newTuple ?_ fits)
    refine wpAny_pure ⟨_, rfl, ?_⟩
    have there : TpN (hq.push { cls := .type "tuple", data := .seq b2.toList.toArray }) hq.objs.size b2.toList := Heap.get?_push_size _ rfl
    have grows : (hq.push { cls := .type "tuple", data := .seq b2.toList.toArray }).objs.size = hq.objs.size + 1 := Heap.size_push ..
    rw [sz] at there grows
    show Q (.ref hq.objs.size) _
    rw [sz]
    exact k b2.toList _ tk pd (Heap.get?_push_of_some _ zq) (fun e he => (ip e he).over fun o ho => Heap.get?_push_of_some _ ho) there grows fun c o nz nj hc => Heap.get?_push_of_some _ (kp c o nz nj hc)
/-- the kept tuple is free: none was handed out, or it is gone -/
def FreeV (h : Heap) (v : Value) : Prop := v = .none ∨ ∃ T : Addr, v = rawInt T ∧ h.get? T = none
theorem gone_load {a : Addr} {Q : Option Obj → Shared → Prop} (gone : s.heap.get? a = none) (k : Q none s) : wpAny (model prog w) A (loadIfAlive a) Q E s := by
  have k' : Q (s.heap.get? a) s := by
    rw [gone]
    exact k
  exact fun _ _ _ => k'
theorem upd_tuple {t : Addr} {l : List Value} {x : Value} {j : Nat} {Q : Unit → Shared → Prop} (tp : TpN s.heap t l) (few : l.length ≤ 1000) (k : ∀ h', TpN h' t (l.set j x) → Heap.SameBut t s.heap h' → Q () { s with heap := h' }) : wpAny (model prog w) A (updateSeq t fun v => v.setIfInBounds j x) Q E s := by
  have f1 : l.toArray.size ≤ sizeLine := by
    show l.length ≤ sizeLine
    exact Evl.sz_of (by omega)
  have f2 : (l.toArray.setIfInBounds j x).size ≤ sizeLine + 1 := by
    rw [Array.size_setIfInBounds]
    omega
  refine wpAny_updateSeq tp rfl (k _ ?_ (Heap.SameBut.update ..)) f1 f2
  unfold TpN
  rw [Heap.get?_update_self _ tp rfl]
  simp [Obj.mapSeq]
theorem zn_isFree {v : Value} {Q : Bool → Shared → Prop} (zp : ZpF s.heap z TI TO v f) (fr : FreeV s.heap v) (k : Q true s) : wpAny (model prog w) A (Builtin.SmallTypes.ownedTupleIsFree (.ref z)) Q E s := by
  unfold Builtin.SmallTypes.ownedTupleIsFree
  rcases fr with rfl | ⟨T, rfl, gone⟩
  · exact wpAny_bind (wpAny_field zp rfl (x := .none) rfl (wpAny_pure k))
  · refine wpAny_bind (wpAny_field zp rfl (x := rawInt T) rfl ?_)
    show wpAny _ _ (loadIfAlive ((T : Int).toNat) >>= _) _ _ _
    rw [Int.toNat_natCast]
    refine wpAny_bind (gone_load gone ?_)
    exact wpAny_pure k
theorem zn_free {v : Value} {old : List Value} {Q : Value → Shared → Prop} (hh : A.handled = none) (S : SepN z TI TO es) (ne : es ≠ []) (few : es.length ≤ 1000) (zp : ZpF s.heap z TI TO v f) (fr : FreeV s.heap v) (tI : TpN s.heap TI (es.map fun e => .ref e.1)) (tO : TpN s.heap TO old) (ol : old.length = es.length) (its : ∀ e ∈ es, ItA s.heap i e) (lt : ∀ e ∈ es, i < e.2.1.cps.size)
    (k : ∀ vs h' tk, Paired (Dr i) es vs → ZpF h' z TI TO (rawInt s.heap.objs.size) false → TpN h' TO vs → (∀ e ∈ es, ItA h' (i + 1) e) → TpN h' s.heap.objs.size vs → h'.objs.size = s.heap.objs.size + 1 → (∀ c o, c ≠ z → c ≠ TO → (∀ e ∈ es, c ≠ e.1) → s.heap.get? c = some o → h'.get? c = some o) → Q (.ref s.heap.objs.size) { s with heap := h', toks := tk }) :
    wpAny (model prog w) A (Builtin.«zip.__next__» ⟨[.ref z], []⟩) (fun fin s' => ∃ v, fin = .done (.ret v) ∧ Q v s') E s := by
  obtain ⟨hp, g, d, tk0, os⟩ := s
  show wpAny _ _ (field (.ref z) 2 >>= _) _ _ _
  refine wpAny_bind (wpAny_field zp rfl (x := .bool false) rfl ?_)
  show wpAny _ _ (field (.ref z) 3 >>= _) _ _ _
  refine wpAny_bind (wpAny_field zp rfl (x := .ref TI) rfl ?_)
  refine wpAny_bind (wpAny_seqItems tI rfl ?_)
  have full : ((es.map fun e => Value.ref e.1).toArray.isEmpty) = false := by
    cases es with
    | nil => exact absurd rfl ne
    | cons a r => simp
  dsimp only
  rw [full]
  show wpAny _ _ (Builtin.SmallTypes.ownedTupleIsFree (.ref z) >>= _) _ _ _
  refine wpAny_bind (zn_isFree zp fr ?_)
  simp only [if_true]
  refine wpAny_bind (wpAny_rule ?_)
  refine wpAny_bind (wpAny_field zp rfl (x := .ref TO) rfl ?_)
  refine wpAny_bind (wpAny_setField_rec zp (by simp) fun g0 z0 same0 => ?_)
  replace z0 : ZpF g0 z TI TO .ellipsis f := z0
  replace same0 : Heap.SameBut z hp g0 := same0
  refine wpAny_bind ?_
  refine wpAny_forIn_list _ (fun rest b s' => b.1 = none ∧ ∃ (pre suf : List Tri) (vs left : List Value) (hq : Heap) (tk : Nat), es = pre ++ suf ∧ rest = (suf.map fun e => Value.ref e.1).zipIdx pre.length ∧ Paired (Dr i) pre vs ∧ left.length = suf.length ∧ s' = ⟨hq, g, d, tk, os⟩ ∧ ZpF hq z TI TO .ellipsis f ∧ TpN hq TO (vs ++ left) ∧ (∀ e ∈ pre, ItA hq (i + 1) e) ∧ (∀ e ∈ suf, ItA hq i e) ∧ hq.objs.size = hp.objs.size ∧ ∀ c o, c ≠ z → c ≠ TO → (∀ e ∈ es, c ≠ e.1) → hp.get? c = some o → hq.get? c = some o) _ ?turn ?fin _ _ ?init
  case init => exact ⟨rfl, [], es, [], old, g0, tk0, rfl, rfl, .nil, ol, rfl, z0, same0.extBut _ _ S.zO.symm tO, (fun e he => by cases he), (fun e he => (its e he).over fun o ho => same0.extBut _ _ (S.jz e he) ho), same0.1, fun c o nz _ _ hc => same0.extBut _ _ nz hc⟩
  case turn =>
    rintro ⟨x, n⟩ rest b s' ⟨b0, pre, suf, vs, left, hq, tk, esp, er, pd, ll, rfl, zq, tq, ip, is, sz, kp⟩
    cases suf with
    | nil => cases er
    | cons e suf =>
      cases left with
      | nil => cases ll
      | cons o0 left =>
        rw [List.map_cons, List.zipIdx_cons] at er
        obtain ⟨er1, rfl⟩ := List.cons.inj er
        obtain ⟨rfl, rfl⟩ := Prod.mk.inj er1
        have mem : e ∈ es := by rw [esp]; simp
        refine wpAny_bind (wpAny_onRaise ?_)
        show wpAny _ _ (Builtin.SmallTypes.nextOf (.ref e.1) >>= _) _ _ _
        refine wpAny_bind ((Draws.text hh e.1 e.2.1 e.2.2).item i ⟨hq, g, d, tk, os⟩ _ _ (lt e mem) (is e (List.mem_cons_self ..)) fun v h' tk' dr it' same' => wpAny_pure ?_)
        replace same' : Heap.SameBut e.1 hq h' := same'
        have tq' : TpN h' TO (vs ++ o0 :: left) := same'.extBut _ _ (S.jO e mem).symm tq
        have room : (vs ++ o0 :: left).length ≤ 1000 := by
          have l1 := pd.length
          have l2 := congrArg List.length esp
          rw [List.length_append] at l2 ⊢
          simp only [List.length_cons] at ll l2 ⊢
          omega
        refine wpAny_bind (wpAny_seqItems (s := ⟨h', g, d, tk', os⟩) tq' rfl ?_)
        refine wpAny_bind (upd_tuple (s := ⟨h', g, d, tk', os⟩) tq' room fun h2 t2 same2 => ?_)
        replace same2 : Heap.SameBut TO h' h2 := same2
        refine wpAny_bind (wpAny_letGo (wpAny_pure ?_))
        have nds := S.nd
        rw [esp, List.map_append, List.map_cons, List.nodup_append] at nds
        obtain ⟨_, nd2, nd3⟩ := nds
        have len := pd.length
        refine ⟨rfl, pre ++ [e], suf, vs ++ [v], left, h2, tk', by rw [esp]; simp, by rw [List.length_append]; rfl, paired_snoc dr pd, by simpa using ll, rfl, same2.extBut _ _ S.zO (same'.extBut _ _ (S.jz e mem).symm zq), ?_, fun e' he' => ?_, fun e' he' => ?_, (same2.1.trans same'.1).trans sz, fun c o nz nO nj hc => same2.extBut _ _ nO (same'.extBut _ _ (nj e mem) (kp c o nz nO nj hc))⟩
        · rw [len, List.set_append_right _ _ (Nat.le_refl _), Nat.sub_self] at t2
          rw [List.append_assoc]
          exact t2
        · rcases List.mem_append.mp he' with hm | hm
          · exact ((ip e' hm).over fun o ho => same'.extBut _ _ (nd3 e'.1 (List.mem_map.mpr ⟨e', hm, rfl⟩) e.1 (List.mem_cons_self ..)) ho).over fun o ho => same2.extBut _ _ (S.jO e' (by rw [esp]; exact List.mem_append.mpr (.inl hm))) ho
          · rw [List.mem_singleton.mp hm]
            exact ItA.over (h := h') it' fun o ho => same2.extBut _ _ (S.jO e mem) ho
        · refine ((is e' (List.mem_cons_of_mem _ he')).over fun o ho => same'.extBut _ _ (fun z => ?_) ho).over fun o ho => same2.extBut _ _ (S.jO e' (by rw [esp]; exact List.mem_append.mpr (.inr (List.mem_cons_of_mem _ he')))) ho
          exact (List.nodup_cons.mp nd2).1 (z ▸ List.mem_map.mpr ⟨e', he', rfl⟩)
  case fin =>
    rintro ⟨b1, b2⟩ s' ⟨b0, pre, suf, vs, left, hq, tk, esp, er, pd, ll, rfl, zq, tq, ip, is, sz, kp⟩
    have none' : suf = [] := by
      cases suf with
      | nil => rfl
      | cons a r =>
        rw [List.map_cons, List.zipIdx_cons] at er
        cases er
    subst none'
    rw [List.append_nil] at esp
    subst esp
    have none2 : left = [] := List.length_eq_zero_iff.mp ll
    subst none2
    rw [List.append_nil] at tq
    cases (show b1 = none from b0)
    have fits : vs.toArray.toList.length ≤ sizeLine := by
      show vs.length ≤ sizeLine
      rw [← pd.length]
      exact Evl.sz_of (by omega)
    refine wpAny_bind (wpAny_seqItems (s := ⟨hq, g, d, tk, os⟩) tq rfl ?_)
    refine wpAny_bind (wpAny_newTuple ?_ fits)
    have zlt : z < hq.objs.size := Heap.lt_size zq
    show wpAny _ _ (Builtin.SmallTypes.ownedTupleHandOut (.ref z) (.ref hq.objs.size) >>= _) _ _ ⟨hq.push { cls := .type "tuple", data := .seq vs.toArray }, g, d, tk, os⟩
    refine wpAny_bind ?_
    unfold Builtin.SmallTypes.ownedTupleHandOut
    have zq3 : ZpF (hq.push { cls := .type "tuple", data := .seq vs.toArray }) z TI TO .ellipsis f := Heap.get?_push_of_some _ zq
    refine wpAny_bind (wpAny_setField_rec zq3 (by simp) fun h4 zq4 same4 => ?_)
    replace zq4 : ZpF h4 z TI TO (rawInt hq.objs.size) f := zq4
    replace same4 : Heap.SameBut z (hq.push { cls := .type "tuple", data := .seq vs.toArray }) h4 := same4
    refine wpAny_setField_rec zq4 (by simp) fun h5 zq5 same5 => ?_
    replace zq5 : ZpF h5 z TI TO (rawInt hq.objs.size) false := zq5
    replace same5 : Heap.SameBut z h4 h5 := same5
    have up : ∀ c o, c ≠ z → hq.get? c = some o → h5.get? c = some o := fun c o nz hc => same5.extBut _ _ nz (same4.extBut _ _ nz (Heap.get?_push_of_some _ hc))
    have there : TpN h5 hq.objs.size vs := same5.extBut _ _ (Nat.ne_of_gt zlt) (same4.extBut _ _ (Nat.ne_of_gt zlt) (Heap.get?_push_size _ rfl))
    have grows : h5.objs.size = hq.objs.size + 1 := by rw [same5.1, same4.1, Heap.size_push]
    rw [sz] at zq5 there grows
    refine wpAny_pure ⟨_, rfl, ?_⟩
    show Q (.ref hq.objs.size) ⟨h5, g, d, tk, os⟩
    rw [sz]
    exact k vs h5 tk pd zq5 (up _ _ S.zO.symm tq) (fun e he => (ip e he).over fun o ho => up _ _ (S.jz e he) ho) there grows fun c o nz nO nj hc => up c o nz (kp c o nz nO nj hc)
/-- all have ended -/
theorem zn_end {v : Value} {Q : Fin → Shared → Prop} (hh : A.handled = none) (S : SepN z TI TO es) (ne : es ≠ []) (zp : ZpF s.heap z TI TO v f) (any : FreeV s.heap v ∨ ∃ (T : Addr) (o : Obj), v = rawInt T ∧ s.heap.get? T = some o) (tI : TpN s.heap TI (es.map fun e => .ref e.1)) (its : ∀ e ∈ es, ItA s.heap e.2.1.cps.size e)
    (k : ∀ h' x, (∀ c o, c ≠ z → (∀ e ∈ es, c ≠ e.1) → s.heap.get? c = some o → h'.get? c = some o) → (∃ o, h'.get? x = some o ∧ o.cls = .type "StopIteration") → E (.ref x) { s with heap := h' }) :
    wpAny (model prog w) A (Builtin.«zip.__next__» ⟨[.ref z], []⟩) Q E s := by
  obtain ⟨hp, g, d, tk0, os⟩ := s
  show wpAny _ _ (field (.ref z) 2 >>= _) _ _ _
  refine wpAny_bind (wpAny_field zp rfl (x := .bool false) rfl ?_)
  show wpAny _ _ (field (.ref z) 3 >>= _) _ _ _
  refine wpAny_bind (wpAny_field zp rfl (x := .ref TI) rfl ?_)
  refine wpAny_bind (wpAny_seqItems tI rfl ?_)
  cases es with
  | nil => exact absurd rfl ne
  | cons e es =>
    have mem : e ∈ e :: es := List.mem_cons_self ..
    show wpAny _ _ (Builtin.SmallTypes.ownedTupleIsFree (.ref z) >>= _) _ _ _
    rcases any with fr | ⟨T, oT, rfl, tA⟩
    · refine wpAny_bind (zn_isFree zp fr ?_)
      simp only [if_true]
      refine wpAny_bind (wpAny_rule ?_)
      refine wpAny_bind (wpAny_field zp rfl (x := .ref TO) rfl ?_)
      refine wpAny_bind (wpAny_setField_rec zp (by simp) fun g0 z0 same0 => ?_)
      replace z0 : ZpF g0 z TI TO .ellipsis f := z0
      replace same0 : Heap.SameBut z hp g0 := same0
      refine wpAny_bind ?_
      simp only [List.map_cons, List.zipIdx_cons, List.forIn_cons]
      refine wpAny_bind (wpAny_bind (wpAny_onRaise ?_))
      show wpAny _ _ (Builtin.SmallTypes.nextOf (.ref e.1) >>= _) _ _ ⟨g0, g, d, tk0, os⟩
      refine wpAny_bind ((Draws.text hh e.1 e.2.1 e.2.2).done ⟨g0, g, d, tk0, os⟩ _ _ ((its e mem).over fun o ho => same0.extBut _ _ (S.jz e mem) ho) fun q x ext he => ?_)
      replace ext : Heap.ExtBut e.1 g0 q := ext
      obtain ⟨ox, hx, cx⟩ := he
      replace hx : q.get? x = some ox := hx
      have zq : ZpF q z TI TO .ellipsis f := ext _ _ (S.jz e mem).symm z0
      have nxz : x ≠ z := fun y => by
        subst y
        rw [zq] at hx
        cases hx
        simp at cx
      refine wpAny_setField_rec (s := ⟨q, g, d, tk0, os⟩) zq (by simp) fun q' _ same' => ?_
      replace same' : Heap.SameBut z q q' := same'
      exact k q' x (fun c o nz nj hc => same'.extBut _ _ nz (ext _ _ (nj e mem) (same0.extBut _ _ nz hc))) ⟨ox, same'.extBut _ _ nxz hx, cx⟩
    · refine wpAny_bind (wpAny_tupleHeld_zip zp tA fun h1 zp1 same1 => ?_)
      simp only [Bool.false_eq_true, if_false]
      refine wpAny_bind ?_
      rw [← Array.forIn_toList]
      simp only [List.map_cons, List.forIn_cons]
      refine wpAny_bind (wpAny_bind (wpAny_holding ?_))
      show wpAny _ _ (Builtin.SmallTypes.nextOf (.ref e.1) >>= _) _ _ _
      refine wpAny_bind ((Draws.text hh e.1 e.2.1 e.2.2).done _ _ _ ((its e mem).over fun o ho => same1.extBut _ _ (S.jz e mem) ho) fun q x ext he => ?_)
      exact k q x (fun c o nz nj hc => ext _ _ (nj e mem) (same1.extBut _ _ nz hc)) he
end
end Dw

set_option Elab.async false
set_option linter.all false
set_option maxRecDepth 100000
namespace Dw
open PySem PySem.Spec PyProof.Rows PySem.W
def esOf : Nat → List (Str × Tok) → List Tri
  | _, [] => []
  | N, p :: r => (N, p.1, p.2) :: esOf (N + 1) r
theorem esOf_len : ∀ (N : Nat) (ps : List (Str × Tok)), (esOf N ps).length = ps.length
  | _, [] => rfl
  | N, p :: r => by
    rw [esOf, List.length_cons, List.length_cons, esOf_len (N + 1) r]
theorem esOf_mem : ∀ {N : Nat} {ps : List (Str × Tok)} {e : Tri}, e ∈ esOf N ps → N ≤ e.1 ∧ e.1 < N + ps.length ∧ ∃ p ∈ ps, e.2 = p
  | _, [], _, h => by cases h
  | N, p :: r, e, h => by
    rw [esOf] at h
    rcases List.mem_cons.mp h with rfl | h
    · exact ⟨Nat.le_refl _, by simp, p, List.mem_cons_self .., rfl⟩
    · obtain ⟨h1, h2, q, hq, e2⟩ := esOf_mem h
      exact ⟨by omega, by simp; omega, q, List.mem_cons_of_mem _ hq, e2⟩
theorem esOf_nd : ∀ (N : Nat) (ps : List (Str × Tok)), ((esOf N ps).map fun e => e.1).Nodup
  | _, [] => by simp [esOf]
  | N, p :: r => by
    rw [esOf, List.map_cons, List.nodup_cons]
    refine ⟨fun h => ?_, esOf_nd (N + 1) r⟩
    obtain ⟨e, he, en⟩ := List.mem_map.mp h
    have := (esOf_mem he).1
    simp only at en
    omega
theorem esOf_texts : ∀ (N : Nat) (ps : List (Str × Tok)), ((esOf N ps).map fun e => e.2.1) = ps.map fun p => p.1
  | _, [] => rfl
  | N, p :: r => by
    rw [esOf, List.map_cons, List.map_cons, esOf_texts (N + 1) r]
section
variable {prog : Program} {w : World} {A : Around} {E : Value → Shared → Prop}
theorem it_all {ps : List (Str × Tok)} {hp : Heap} {g : Array GenState} {d : Drawn} {tk : Nat} {os : OsState} {Q : List Value → Shared → Prop}
    (k : ∀ h', (∀ e ∈ esOf hp.objs.size ps, ItA h' 0 e) → h'.objs.size = hp.objs.size + ps.length → (∀ c o, hp.get? c = some o → h'.get? c = some o) → Q ((esOf hp.objs.size ps).map fun e => Value.ref e.1) ⟨h', g, d, tk, os⟩) :
    wpAny (model prog w) A (Builtin.SmallTypes.iterAll (ps.map fun p => Value.str p.1 p.2)) Q E ⟨hp, g, d, tk, os⟩ := by
  unfold Builtin.SmallTypes.iterAll
  refine wpAny_bind ?_
  refine wpAny_forIn_list _ (fun rest b s' => ∃ (pre suf : List (Str × Tok)) (hq : Heap), ps = pre ++ suf ∧ rest = (suf.map fun p => Value.str p.1 p.2) ∧ b.toList = ((esOf hp.objs.size pre).map fun e => Value.ref e.1) ∧ s' = ⟨hq, g, d, tk, os⟩ ∧ (∀ e ∈ esOf hp.objs.size pre, ItA hq 0 e) ∧ hq.objs.size = hp.objs.size + pre.length ∧ ∀ c o, hp.get? c = some o → hq.get? c = some o) _ ?turn ?fin _ _ ?init
  case init => exact ⟨[], ps, hp, rfl, rfl, rfl, rfl, (fun e he => by cases he), rfl, fun c o hc => hc⟩
  case turn =>
    rintro x rest b s' ⟨pre, suf, hq, ep, er, eb, rfl, is, sz, kp⟩
    cases suf with
    | nil => cases er
    | cons p suf =>
      rw [List.map_cons] at er
      obtain ⟨rfl, rfl⟩ := List.cons.inj er
      refine wpAny_bind (wpAny_holding (wpAny_pyIter_strU ?_))
      refine wpAny_pure ?_
      have app : ∀ (N : Nat) (l : List (Str × Tok)), esOf N (l ++ [p]) = esOf N l ++ [(N + l.length, p.1, p.2)] := by
        intro N l
        induction l generalizing N with
        | nil => rfl
        | cons a l ih =>
          rw [List.cons_append, esOf, esOf, ih, List.cons_append, List.length_cons, show N + 1 + l.length = N + (l.length + 1) by omega]
      refine ⟨pre ++ [p], suf, _, by rw [ep]; simp, rfl, ?_, rfl, fun e he => ?_, ?_, fun c o hc => Heap.get?_push_of_some _ (kp c o hc)⟩
      · rw [Array.toList_push, eb, app, List.map_append]
        show _ ++ [Value.ref hq.objs.size] = _ ++ [Value.ref (hp.objs.size + pre.length)]
        rw [sz]
      · rw [app] at he
        rcases List.mem_append.mp he with hm | hm
        · exact (is e hm).over fun o ho => Heap.get?_push_of_some _ ho
        · rw [List.mem_singleton.mp hm]
          refine ⟨{ cls := .type (strIterType p.1), data := .fields #[.str p.1 p.2, .int 0 0] }, ?_, rfl, rfl⟩
          show (hq.push _).get? (hp.objs.size + pre.length) = _
          rw [← sz]
          exact Heap.get?_push_size _ rfl
      · rw [Heap.size_push, sz, List.length_append]
        rfl
  case fin =>
    rintro b s' ⟨pre, suf, hq, ep, er, eb, rfl, is, sz, kp⟩
    have : suf = [] := List.map_eq_nil_iff.mp er.symm
    subst this
    rw [List.append_nil] at ep
    subst ep
    refine wpAny_pure ?_
    rw [eb]
    exact k hq is sz kp
end
theorem zn_new {ps : List (Str × Tok)} (few : ps.length ≤ 1000) : Meets (Builtin.«zip.__new__» ⟨.type "zip" :: ps.map fun p => Value.str p.1 p.2, []⟩) (fun _ R s => ∀ h', (∀ e ∈ esOf s.heap.objs.size ps, ItA h' 0 e) → TpN h' (s.heap.objs.size + ps.length) ((esOf s.heap.objs.size ps).map fun e => Value.ref e.1) → TpN h' (s.heap.objs.size + ps.length + 1) ((esOf s.heap.objs.size ps).map fun _ => Value.none) →
      ZpF h' (s.heap.objs.size + ps.length + 2) (s.heap.objs.size + ps.length) (s.heap.objs.size + ps.length + 1) .none false → (∀ c o, s.heap.get? c = some o → h'.get? c = some o) → R (.ok (.ret (.ref (s.heap.objs.size + ps.length + 2)))) { s with heap := h' }) :=
  .of_wp fun prog w A R s h => by
    obtain ⟨hp, g, d, tk, os⟩ := s
    unfold Builtin.«zip.__new__»
    refine wpAny_bind (wpAny_of_eq (a := (Value.type "zip", ps.map fun p => Value.str p.1 p.2)) ?_ ?_)
    · unfold Builtin.SmallTypes.newClass
      simp only [isType, sub_zip, pure_bind, Bool.not_true, Bool.false_eq_true, if_false]
    · show wpAny _ _ (Builtin.SmallTypes.iterAll (ps.map fun p => Value.str p.1 p.2) >>= _) _ _ _
      refine wpAny_bind (it_all fun h1 is sz kp => ?_)
      have fits : ((esOf hp.objs.size ps).map fun e => Value.ref e.1).length ≤ sizeLine := by
        rw [List.length_map, esOf_len]
        exact Evl.sz_of (by omega)
      have fits2 : (((esOf hp.objs.size ps).map fun e => Value.ref e.1).map fun _ => Value.none).length ≤ sizeLine := by
        rw [List.length_map]
        exact fits
      refine wpAny_bind (wpAny_newTuple ?_ fits)
      refine wpAny_bind (wpAny_newTuple ?_ fits2)
      obtain ⟨o1, ho1⟩ : ∃ o : Obj, o = { cls := .type "tuple", data := .seq ((esOf hp.objs.size ps).map fun e => Value.ref e.1).toArray } := ⟨_, rfl⟩
      obtain ⟨o2, ho2⟩ : ∃ o : Obj, o = { cls := .type "tuple", data := .seq (((esOf hp.objs.size ps).map fun e => Value.ref e.1).map fun _ => Value.none).toArray } := ⟨_, rfl⟩
      show wpAny _ _ (newObj (.type "zip") (.fields #[.none, .bool false, .bool false, .ref h1.objs.size, .ref (h1.push { cls := .type "tuple", data := .seq ((esOf hp.objs.size ps).map fun e => Value.ref e.1).toArray }).objs.size]) >>= _) _ _ ⟨(h1.push { cls := .type "tuple", data := .seq ((esOf hp.objs.size ps).map fun e => Value.ref e.1).toArray }).push { cls := .type "tuple", data := .seq (((esOf hp.objs.size ps).map fun e => Value.ref e.1).map fun _ => Value.none).toArray }, g, d, tk, os⟩
      rw [← ho1, ← ho2]
      have z1 : (h1.push o1).objs.size = hp.objs.size + ps.length + 1 := by rw [Heap.size_push, sz]
      have z2 : ((h1.push o1).push o2).objs.size = hp.objs.size + ps.length + 2 := by rw [Heap.size_push, z1]
      refine wpAny_bind (wpAny_newObj_type (wpAny_pure ⟨_, rfl, ?_⟩) (by show (5 : Nat) ≤ sizeLine + 2; decide))
      show R (.ok (.ret (.ref ((h1.push o1).push o2).objs.size))) _
      rw [z2, z1, sz]
      refine h _ (fun e he => (is e he).over fun o ho => Heap.get?_push_of_some _ (Heap.get?_push_of_some _ (Heap.get?_push_of_some _ ho))) ?_ ?_ ?_ fun c o hc => Heap.get?_push_of_some _ (Heap.get?_push_of_some _ (Heap.get?_push_of_some _ (kp c o hc)))
      · have t : (h1.push o1).get? h1.objs.size = some o1 := Heap.get?_push_size _ (by rw [ho1]; rfl)
        rw [sz] at t
        rw [ho1] at t ⊢
        exact Heap.get?_push_of_some _ (Heap.get?_push_of_some _ t)
      · have t : ((h1.push o1).push o2).get? (h1.push o1).objs.size = some o2 := Heap.get?_push_size _ (by rw [ho2]; rfl)
        rw [z1] at t
        have e2 : (((esOf hp.objs.size ps).map fun e => Value.ref e.1).map fun _ => Value.none) = (esOf hp.objs.size ps).map fun _ => Value.none := by rw [List.map_map]; rfl
        rw [e2] at ho2
        have t2 := t
        rw [ho2] at t2
        rw [← ho2] at t2
        show Heap.get? _ _ = some { cls := .type "tuple", data := .seq ((esOf hp.objs.size ps).map fun _ => Value.none).toArray }
        rw [← ho2]
        exact Heap.get?_push_of_some _ t
      · have t := Heap.get?_push_size ((h1.push o1).push o2) (o := { cls := .type "zip", dict := none, data := .fields #[.none, .bool false, .bool false, .ref (hp.objs.size + ps.length), .ref (hp.objs.size + ps.length + 1)] }) rfl
        rw [z2] at t
        exact t
end Dw

set_option Elab.async false
set_option linter.all false
set_option maxRecDepth 100000
namespace Dw
open PySem PySem.Spec PyProof.Rows PySem.W
theorem initArgs (obj : Value) (us : List Value) (h : us.length ≤ 8) : argsOk "object.__init__" ⟨obj :: us, []⟩ := by
  unfold argsOk; rw [signature?_of (id := "object.__init__") (n := ['_', '_', 't', 'i', 'n', 'i', '_', '_']) (o := ['t', 'c', 'e', 'j', 'b', 'o']) (by kernel_rfl) F.owner_object]
  match us, h with
  | [], _ => kernel_rfl
  | [_], _ => kernel_rfl
  | [_, _], _ => kernel_rfl
  | [_, _, _], _ => kernel_rfl
  | [_, _, _, _], _ => kernel_rfl
  | [_, _, _, _, _], _ => kernel_rfl
  | [_, _, _, _, _, _], _ => kernel_rfl
  | [_, _, _, _, _, _, _], _ => kernel_rfl
  | [_, _, _, _, _, _, _, _], _ => kernel_rfl
theorem zipCall (us : List Value) (h : us.length ≤ 8) : checkTypeCall "zip" ⟨us, []⟩ = pure () ∧ checkBuiltinCall "zip.__new__" ⟨.type "zip" :: us, []⟩ = pure () := by
  match us, h with
  | [], _ => exact ⟨by kernel_rfl, by kernel_rfl⟩
  | [_], _ => exact ⟨by kernel_rfl, by kernel_rfl⟩
  | [_, _], _ => exact ⟨by kernel_rfl, by kernel_rfl⟩
  | [_, _, _], _ => exact ⟨by kernel_rfl, by kernel_rfl⟩
  | [_, _, _, _], _ => exact ⟨by kernel_rfl, by kernel_rfl⟩
  | [_, _, _, _, _], _ => exact ⟨by kernel_rfl, by kernel_rfl⟩
  | [_, _, _, _, _, _], _ => exact ⟨by kernel_rfl, by kernel_rfl⟩
  | [_, _, _, _, _, _, _], _ => exact ⟨by kernel_rfl, by kernel_rfl⟩
  | [_, _, _, _, _, _, _, _], _ => exact ⟨by kernel_rfl, by kernel_rfl⟩
section
variable {prog : Program} {w : World} {A : Around} {E : Value → Shared → Prop} {s : Shared}
theorem zn_begin {ps : List (Str × Tok)} {Q : Value → Shared → Prop} (h8 : ps.length ≤ 8) (k : ∀ h', (∀ e ∈ esOf s.heap.objs.size ps, ItA h' 0 e) → TpN h' (s.heap.objs.size + ps.length) ((esOf s.heap.objs.size ps).map fun e => Value.ref e.1) → TpN h' (s.heap.objs.size + ps.length + 1) ((esOf s.heap.objs.size ps).map fun _ => Value.none) →
      ZpF h' (s.heap.objs.size + ps.length + 2) (s.heap.objs.size + ps.length) (s.heap.objs.size + ps.length + 1) .none false → (∀ c o, s.heap.get? c = some o → h'.get? c = some o) → Q (.ref (s.heap.objs.size + ps.length + 2)) { s with heap := h' }) :
    wpAny (model prog w) A (call (.type "zip") (ps.map fun p => Value.str p.1 p.2)) Q E s := by
  have hl : (ps.map fun p => Value.str p.1 p.2).length ≤ 8 := by rw [List.length_map]; exact h8
  refine callType_new F.called_zip (by decide) (zipCall _ hl).1 (zipCall _ hl).2 (fun obj => initArgs obj _ hl) F.entry_zip_new (zn_new (by omega)) fun h' a b c zp kp => ?_
  exact ⟨⟨_, zp, rfl⟩, k h' a b c zp kp⟩
end
end Dw
open PySem PySem.Spec PyProof.Rows L2
namespace Dw
/-- the turns of zip(*texts), all of one length n -/
def Itzn (ls : List (List Nat)) (n : Nat) : It := ⟨fun i _ => i < n, fun i H v H' => ∃ T, v = .ref T ∧ H T = none ∧ H' = upd H T (.tup (ls.map fun l => V.str (Tx [l.getD i 0]))), fun i _ => i = n⟩
theorem vals_of {i : Nat} : ∀ {es : List Tri} {ls : List (List Nat)} {vs : List Value}, (es.map fun e => e.2.1) = ls.map Tx → Paired (Dr i) es vs → Vals (ls.map fun l => V.str (Tx [l.getD i 0])) vs
  | [], [], _, _, .nil => .nil
  | [], _ :: _, _, h, _ => by cases h
  | _ :: _, [], _, h, _ => by cases h
  | e :: es, l :: ls, _, h, .cons r t => by
    rw [List.map_cons, List.map_cons] at h
    obtain ⟨h1, h2⟩ := List.cons.inj h
    obtain ⟨c, u, hc, rfl⟩ := r
    rw [h1] at hc
    have hc2 : l[i]? = some c := by
      rw [← hc]
      simp [Tx]
    have e1 : l.getD i 0 = c := by rw [List.getD_eq_getElem?_getD, hc2]; rfl
    rw [List.map_cons, e1]
    exact .cons ⟨u, rfl⟩ (vals_of h2 t)
def ZnAt (z TI TO : Addr) (es : List Tri) (i : Nat) (h : Heap) : Prop := (∃ (v : Value) (f : Bool) (old : List Value), (v = .none ∨ ∃ T : Addr, v = rawInt T) ∧ ZpF h z TI TO v f ∧ TpN h TO old ∧ old.length = es.length) ∧ TpN h TI (es.map fun e => .ref e.1) ∧ ∀ e ∈ es, ItA h i e
theorem free_or {h : Heap} {v : Value} (hv : v = .none ∨ ∃ T : Addr, v = rawInt T) : FreeV h v ∨ ∃ (T : Addr) (o : Obj), v = rawInt T ∧ h.get? T = some o := by
  rcases hv with rfl | ⟨T, rfl⟩
  · exact .inl (.inl rfl)
  · cases e : h.get? T with
    | none => exact .inl (.inr ⟨T, rfl, e⟩)
    | some o => exact .inr ⟨T, o, rfl, e⟩
theorem turn_zipN {P : Program} {w : World} {K : PySem.W.Frag} {nm : Str} {npos : Pos} {z TI TO : Addr} {es : List Tri} {ls : List (List Nat)} {n : Nat} (S : SepN z TI TO es) (ne : es ≠ []) (h8 : es.length ≤ 8) (ht : (es.map fun e => e.2.1) = ls.map Tx) (hn : ∀ e ∈ es, e.2.1.cps.size = n) :
    Turn P w K (.Name nm npos) (Itzn ls n) (z :: TI :: TO :: es.map fun e => e.1) z (ZnAt z TI TO es) where
  mem := by simp
  obj := fun i h st c hc => by
    obtain ⟨⟨v, f, old, _, zp, tO, _⟩, tI, is⟩ := st
    simp only [List.mem_cons] at hc
    rcases hc with rfl | rfl | rfl | hc
    · exact ⟨_, zp, fun v q => nomatch q⟩
    · exact ⟨_, tI, fun v q => nomatch q⟩
    · exact ⟨_, tO, fun v q => nomatch q⟩
    · obtain ⟨e, he, rfl⟩ := List.mem_map.mp hc
      obtain ⟨o, ho, _, hd⟩ := is e he
      exact ⟨o, ho, fun v q => by rw [hd] at q; cases q⟩
  keep := fun i h h' st k => by
    obtain ⟨⟨v, f, old, hv, zp, tO, lo⟩, tI, is⟩ := st
    exact ⟨⟨v, f, old, hv, k z (by simp) _ zp, k TO (by simp) _ tO, lo⟩, k TI (by simp) _ tI, fun e he => (is e he).over fun o ho => k e.1 (by simp only [List.mem_cons]; exact .inr (.inr (.inr (List.mem_map.mpr ⟨e, he, rfl⟩)))) o ho⟩
  item := by
    intro X hP hw hK hc i pins s σ H E I hf st hg
    subst hP hw hK
    have hh : X.A.handled = none := I.ok.hd hc
    obtain ⟨⟨v, f, old, hv, zp, tO, lo⟩, tI, is⟩ := st
    have lt : ∀ e ∈ es, i < e.2.1.cps.size := fun e he => by rw [hn e he]; exact hg
    have main : ∀ (vs : List Value) (h' : Heap) (tk : Nat), Paired (Dr i) es vs → (∃ (v : Value) (f : Bool) (old : List Value), (v = .none ∨ ∃ T : Addr, v = rawInt T) ∧ ZpF h' z TI TO v f ∧ TpN h' TO old ∧ old.length = es.length) → TpN h' TI (es.map fun e => .ref e.1) → (∀ e ∈ es, ItA h' (i + 1) e) → TpN h' s.heap.objs.size vs → (∀ c o, c ≠ z → c ≠ TO → (∀ e ∈ es, c ≠ e.1) → s.heap.get? c = some o → h'.get? c = some o) →
        ∃ u, (some (Value.ref s.heap.objs.size)) = some u ∧ wpAny (model X.prog X.w) X.A (letOwnedTupleGo (.Name nm npos) (.ref z) u) (fun _ s2 => ∃ x H', Inv X pins σ H' s2 ∧ RelV x u ∧ (Itzn ls n).yld i H x H' ∧ ZnAt z TI TO es (i + 1) s2.heap ∧ ∀ b ∈ (z :: TI :: TO :: es.map fun e => e.1), H' b = none) E { s with heap := h', toks := tk } := fun vs h' tk pd sz tI' is' tp kp => by
      refine ⟨_, rfl, wpAny_pure ?_⟩
      have rel := vals_of ht pd
      have few : (ls.map fun l => V.str (Tx [l.getD i 0])).length ≤ sizeLine := by
        rw [rel.length, ← pd.length]
        exact Evl.sz_of (by omega)
      have new : ObjOk X.prog X.w (upd H s.heap.objs.size (.tup (ls.map fun l => V.str (Tx [l.getD i 0])))) h' s.heap.objs.size (.tup (ls.map fun l => V.str (Tx [l.getD i 0]))) := ⟨few, vs, rel, ⟨_, tp, rfl, _, rfl⟩⟩
      have I1 : Inv X pins σ (upd H s.heap.objs.size (.tup (ls.map fun l => V.str (Tx [l.getD i 0])))) { s with heap := h', toks := tk } :=
        I.turnedNew (t' := tk) (ch := z :: TI :: TO :: es.map fun e => e.1) (fun b o hb q => kp b o (fun y => hb (by rw [y]; simp)) (fun y => hb (by rw [y]; simp)) (fun e he y => hb (by rw [y]; simp only [List.mem_cons]; exact .inr (.inr (.inr (List.mem_map.mpr ⟨e, he, rfl⟩))))) q) hf (Nat.le_refl _) new
      refine ⟨.ref s.heap.objs.size, _, I1, rfl, ⟨s.heap.objs.size, rfl, I.hok.fresh (Nat.le_refl _), rfl⟩, ⟨sz, tI', is'⟩, fun b hb => ?_⟩
      have hlt : b < s.heap.objs.size := by
        simp only [List.mem_cons] at hb
        rcases hb with rfl | rfl | rfl | hb
        · exact Heap.lt_size zp
        · exact Heap.lt_size tI
        · exact Heap.lt_size tO
        · obtain ⟨e, he, rfl⟩ := List.mem_map.mp hb
          obtain ⟨o, ho, _⟩ := is e he
          exact Heap.lt_size ho
      rw [upd_ne (Nat.ne_of_lt hlt)]
      exact (hf b hb).1
    have ty : s.TypeIs (.ref z) "zip" := ⟨_, zp, rfl⟩
    have tIkeep : ∀ {h' : Heap}, (∀ c o, c ≠ z → c ≠ TO → (∀ e ∈ es, c ≠ e.1) → s.heap.get? c = some o → h'.get? c = some o) → TpN h' TI (es.map fun e => .ref e.1) := fun kp => kp _ _ S.zT.symm S.TTO (fun e he y => S.jT e he y.symm) tI
    unfold pyNext
    rcases free_or (h := s.heap) hv with fr | ⟨T, oT, rfl, tA⟩
    · exact wpAny_bind (wpAny_attempt (wpAny_callSpecial?_slot (name := Str.ofString "__next__") ty F.slot_zip_next (wpAny_call_entry F.slot_zip_next ty F.entry_zip_next
        (zn_free (A := X.A.in1) hh S ne (by omega) zp fr tI tO lo is lt fun vs h' tk pd zp' tO' is' tp sz kp => wpAny_pure (main vs h' tk pd ⟨_, _, vs, .inr ⟨_, rfl⟩, zp', tO', by rw [← pd.length]⟩ (tIkeep kp) is' tp kp)) (F.args_zip_next_1 _))))
    · exact wpAny_bind (wpAny_attempt (wpAny_callSpecial?_slot (name := Str.ofString "__next__") ty F.slot_zip_next (wpAny_call_entry F.slot_zip_next ty F.entry_zip_next
        (zn_held (A := X.A.in1) hh S ne (by omega) zp tA tI is lt fun vs h' tk pd zp' is' tp sz kp => wpAny_pure (main vs h' tk pd ⟨_, _, old, .inr ⟨_, rfl⟩, zp', kp _ _ S.zO.symm (fun e he y => S.jO e he y.symm) tO, lo⟩ (tIkeep fun c o a _ b => kp c o a b) is' tp fun c o a _ b => kp c o a b)) (F.args_zip_next_1 _))))
  done := by
    intro X hP hw hK hc i pins s σ H E I hf st hg
    subst hP hw hK
    have hh : X.A.handled = none := I.ok.hd hc
    obtain ⟨⟨v, f, old, hv, zp, tO, lo⟩, tI, is⟩ := st
    have en : i = n := hg
    have ty : s.TypeIs (.ref z) "zip" := ⟨_, zp, rfl⟩
    unfold pyNext
    refine wpAny_bind (wpAny_attempt (wpAny_callSpecial?_slot (name := Str.ofString "__next__") ty F.slot_zip_next (wpAny_call_entry F.slot_zip_next ty F.entry_zip_next
      (zn_end (A := X.A.in1) hh S ne zp (free_or hv) tI (fun e he => by rw [hn e he, ← en]; exact is e he) fun h' x kp he => ?_) (F.args_zip_next_1 _))))
    obtain ⟨o, ho, hco⟩ := he
    refine wpAny_bind (wpAny_isInstance (T := "StopIteration") (b := true) ⟨o, ho, hco⟩ isSubtype_stop ?_)
    exact wpAny_pure ⟨rfl, I.turnedL (t' := s.toks) (ch := z :: TI :: TO :: es.map fun e => e.1) (fun b o hb q => kp b o (fun y => hb (by rw [y]; simp)) (fun e he y => hb (by rw [y]; simp only [List.mem_cons]; exact .inr (.inr (.inr (List.mem_map.mpr ⟨e, he, rfl⟩))))) q) hf⟩
  self := fun A i s Q E st k => by
    obtain ⟨⟨v, f, old, _, zp, _⟩, _⟩ := st
    have ty : s.TypeIs (.ref z) "zip" := ⟨_, zp, rfl⟩
    refine wpAny_pyIter_slot ty F.slot_zip_iter (wpAny_call_entry F.slot_zip_iter ty F.entry_zip_iter ?_ (F.args_zip_iter_1 _))
    exact wpAny_pure ⟨_, rfl, "zip", _, ty, F.slot_zip_next.lookup, k⟩
end Dw

set_option Elab.async false
set_option linter.all false
set_option maxRecDepth 100000
open PySem PySem.Spec PyProof.Rows L2
namespace Dw
theorem texts_of : ∀ {ls : List (List Nat)} {us : List Value}, Vals (ls.map fun l => V.str (Tx l)) us → ∃ ps : List (Str × Tok), us = (ps.map fun p => Value.str p.1 p.2) ∧ (ps.map fun p => p.1) = ls.map Tx
  | [], _, .nil => ⟨[], rfl, rfl⟩
  | l :: ls, _, .cons r t => by
    obtain ⟨ps, rfl, e⟩ := texts_of t
    obtain ⟨u, rfl⟩ := r
    exact ⟨(Tx l, u) :: ps, rfl, by rw [List.map_cons, List.map_cons, e]⟩
def iZipN (K : PySem.W.Frag) (te : TE) : TI := fun σ H R => te σ H fun x H1 => ∃ (a : Addr) (ls : List (List Nat)) (n : Nat), x = .ref a ∧ SqL K H1 a (ls.map fun l => V.str (Tx l)) ∧ ls ≠ [] ∧ ls.length ≤ 8 ∧ (∀ l ∈ ls, l.length = n) ∧ R (Itzn ls n) H1
theorem pi_zipN {X : Cx} {e : Expr} {te : TE} {p q pos npos : Pos} {nm : Str} (hg : Gl X "zip") (hm : X.mg "zip" = none) (ha : PE X e te) (hst : starEach [.Starred e q] X.env = [(true, eval e X.env)] := by rfl) :
    PI X (.Name nm npos) (.Call (.Name "zip" p) [.Starred e q] [] pos) (iZipN X.K te) := by
  refine ⟨fun pins s σ H R I h => ?_⟩
  refine PyProof.Rows.Call_ (ld_blt I hg hm PyProof.Rows.boot_zip ?_)
  rw [hst]
  refine PySem.W.ks_call (P := fun _ => True) rfl (fun _ _ => ⟨.machine, .inr (.inl rfl), PySem.W.Looks.now⟩) (PySem.W.ks_lone (thn (ha.run pins s σ H _ I h) fun v s1 ⟨x, H1, I1, r1, a, ls, n, ex, hsq, hne, h8, hln, q1⟩ => ?_))
  subst ex
  obtain rfl : v = Value.ref a := r1
  refine StX.star_any I1 (.inr hsq) fun us s2 I2 rv => ⟨trivial, ?_⟩
  obtain ⟨ps, rfl, ep⟩ := texts_of rv
  have lp : ps.length = ls.length := by
    have := congrArg List.length ep
    rwa [List.length_map, List.length_map] at this
  show wpAny _ _ (call (.type "zip") ([] ++ _)) _ _ _
  rw [List.nil_append]
  refine zn_begin (by omega) fun h' is tI tO zp kp => wpAny_pyIter_zip zp ?_
  have I3 : Inv X pins σ H1 { s2 with heap := h' } := I2.kept (t' := s2.toks) kp
  have S : SepN (s2.heap.objs.size + ps.length + 2) (s2.heap.objs.size + ps.length) (s2.heap.objs.size + ps.length + 1) (esOf s2.heap.objs.size ps) :=
    ⟨fun y => by have y' : s2.heap.objs.size + ps.length + 2 = s2.heap.objs.size + ps.length := y; omega, fun y => by have y' : s2.heap.objs.size + ps.length + 2 = s2.heap.objs.size + ps.length + 1 := y; omega, fun y => by have y' : s2.heap.objs.size + ps.length = s2.heap.objs.size + ps.length + 1 := y; omega,
      fun e he y => by have := (esOf_mem he).2.1; have y' : e.1 = s2.heap.objs.size + ps.length + 2 := y; omega, fun e he y => by have := (esOf_mem he).2.1; have y' : e.1 = s2.heap.objs.size + ps.length := y; omega, fun e he y => by have := (esOf_mem he).2.1; have y' : e.1 = s2.heap.objs.size + ps.length + 1 := y; omega, esOf_nd _ _⟩
  have nes : esOf s2.heap.objs.size ps ≠ [] := fun y => hne (List.length_eq_zero_iff.mp (by rw [← lp, ← esOf_len s2.heap.objs.size ps, y]; rfl))
  have hsz : ∀ e ∈ esOf s2.heap.objs.size ps, e.2.1.cps.size = n := fun e he => by
    have m : e.2.1 ∈ ((esOf s2.heap.objs.size ps).map fun e => e.2.1) := List.mem_map.mpr ⟨e, he, rfl⟩
    rw [esOf_texts, ep] at m
    obtain ⟨l, hl, e2⟩ := List.mem_map.mp m
    rw [← e2]
    have := hln l hl
    have t := Tx_len l
    exact t.trans this
  refine ⟨s2.heap.objs.size + ps.length + 2, _, _, _, H1, rfl, I3, turn_zipN S nes (by rw [esOf_len]; omega) (by rw [esOf_texts]; exact ep) hsz, ⟨⟨_, _, _, .inl rfl, zp, tO, by rw [List.length_map]⟩, tI, is⟩, fun c hc => ?_, q1⟩
  have hle : s2.heap.objs.size ≤ c := by
    simp only [List.mem_cons] at hc
    rcases hc with rfl | rfl | rfl | hc
    · exact Nat.le_trans (Nat.le_add_right _ _) (Nat.le_add_right _ _)
    · exact Nat.le_add_right _ _
    · exact Nat.le_trans (Nat.le_add_right _ _) (Nat.le_add_right _ _)
    · obtain ⟨e, he, rfl⟩ := List.mem_map.mp hc
      exact (esOf_mem he).1
  exact I2.fpOk hle (I2.hok.fresh hle)
theorem walk_zipN {ls : List (List Nat)} {n : Nat} : Walk (Itzn ls n) n (fun _ => True) (fun i H v H' => ∃ T, v = .ref T ∧ H T = none ∧ H' = upd H T (.tup (ls.map fun l => V.str (Tx [l.getD i 0])))) :=
  ⟨fun _ _ hi _ => hi, fun _ _ => rfl, fun _ _ _ _ _ _ q => q⟩
end Dw

set_option Elab.async false
set_option linter.all false
set_option maxRecDepth 100000
namespace Dw
open PySem L2 Evl
/-! ### xs.count(x), xs a list of signs -/
def sameT (x : Str) (v : Value) : Bool := match v with
  | .str y _ => y.cps.toList == x.cps.toList
  | _ => false
theorem sameT_gives {x : Str} {t : Tok} : ∀ {cs : List Nat} {us : List Value}, Vals (cs.map fun c => V.str (Tx [c])) us → ∀ y ∈ us, MeetsSeq.EqGives y (.str x t) (sameT x y)
  | [], _, .nil => fun y hy => by cases hy
  | c :: cs, _, .cons r h => fun y hy => by
    rcases List.mem_cons.mp hy with rfl | hy
    · obtain ⟨u, rfl⟩ := r
      exact SeqRoads2.EqGives.str _ _ _ _
    · exact sameT_gives h y hy
theorem sameT_count {d : Nat} : ∀ {cs : List Nat} {us : List Value}, Vals (cs.map fun c => V.str (Tx [c])) us → us.countP (sameT (Tx [d])) = cs.count d
  | [], _, .nil => rfl
  | c :: cs, _, .cons r h => by
    obtain ⟨u, rfl⟩ := r
    have e : sameT (Tx [d]) (.str (Tx [c]) u) = (c == d) := by
      show ([c] == [d]) = (c == d)
      by_cases hd : c = d <;> simp [hd]
    rw [List.countP_cons, List.count_cons, sameT_count h, e]
def rCntS (K : PySem.W.Frag) : V → List V → Hp → VK → Prop := fun x xs H Q => ∃ (p : Addr) (cs : List Nat) (d : Nat), x = .ref p ∧ xs = [.str (Tx [d])] ∧ SqL K H p (cs.map fun c => V.str (Tx [c])) ∧ Q (.int (cs.count d : Nat)) H
theorem mt_countS {X : Cx} : MtR X "list.count" (rCntS X.K) := by
  intro pins s σ H x xs v us Q I rx rxs h
  obtain ⟨p, cs, d, rfl, rfl, hs, q⟩ := h
  cases rx
  obtain ⟨u, rfl, ru⟩ := rxs.one
  obtain ⟨t, rfl⟩ := ru
  obtain ⟨its, rv, ⟨⟨cls, dd, data, sl⟩, n, ho, hc, hdn, hd⟩, hlen⟩ := I.list hs
  simp only at hc hd
  subst hc hd
  refine call_meets PySem.F.slot_list_count ⟨_, ho, rfl⟩ PySem.F.entry_list_count (PySem.F.args_list_count_2 _ _) (SeqAt.list_countAt p its.toArray n dd sl (.str (Tx [d]) t) (sameT (Tx [d]))) ⟨ho, fun y hy => (sameT_gives rv y (by simpa using hy)).at _ _, ?_⟩
  have ec : its.toArray.toList.countP (sameT (Tx [d])) = cs.count d := sameT_count rv
  refine ⟨.int (cs.count d : Nat), H, I.tok _, ⟨s.toks, ?_⟩, q⟩
  show Value.int ((its.toArray.toList.countP (sameT (Tx [d])) : Nat) : Int) s.toks = _
  rw [ec]
section
variable {K : PySem.W.Frag} {σ : L2.St} {H H' : Hp} {ta tb te tx tl : TE} {t u : TT} {x y z v : V}
theorem ev_count {p : Addr} {cs : List Nat} {d : Nat} (ha : Ev ta σ H (.ref p)) (hx : SqL K H p (cs.map fun c => V.str (Tx [c]))) (hb : Ev tb σ H (.str (Tx [d]))) : Ev (tBM K "list" (rCntS K) ta (tCons tb tNil)) σ H (.int (cs.count d : Nat)) := fun H1 e Q q =>
  ha H1 e _ fun H2 e2 => ⟨.inl ⟨rfl, _, ex_l (e.trans e2) hx⟩, hb H2 (e.trans e2) _ fun H3 e3 => ⟨p, cs, d, rfl, rfl, ex_l ((e.trans e2).trans e3) hx, q H3 (e2.trans e3)⟩⟩
theorem el_lcZN {a : Addr} {ls : List (List Nat)} {n j : Nat} {vs : List Nat} (g : Nat → V) (h : Ev tl σ H (.ref a)) (hx : SqL K H a (ls.map fun l => V.str (Tx l))) (ne : ls ≠ []) (h8 : ls.length ≤ 8) (hn : ∀ l ∈ ls, l.length = n) (hz : n ≤ 40000) (hw : ∀ x, wipe ((wipe σ vs).set j (some x)) vs = wipe σ vs)
    (he : ∀ (i : Nat) (T : Addr) H1, Ex H H1 → i < n → H1 T = some (.tup (ls.map fun l => V.str (Tx [l.getD i 0]))) → Ev te ((wipe σ vs).set j (some (.ref T))) H1 (g i)) :
    EvL (tLc (iZipN K tl) (gName j) tYes te vs) σ H ((List.range n).map g) := fun H0 e Q q => h H0 e _ fun H1 e1 => ⟨a, ls, n, rfl, ex_l (e.trans e1) hx, ne, h8, hn, fun Dl hD => by
  refine lc_it walk_zipN (fun i H2 => Ex H1 H2 ∧ H2 Dl = some (.lst ((List.range i).map g))) ⟨Ex.new hD, upd_same⟩ (fun _ _ _ _ => True.intro) (fun i x' H2 H3 hi p yy => ?_) (fun H2 p => q Dl H2 (fresh_back e1 hD) (e1.trans p.1) p.2)
  obtain ⟨T, rfl, nT, rfl⟩ := yy
  refine ⟨hw _, ?_⟩
  refine he i T _ (((e.trans e1).trans p.1).trans (Ex.new nT)) hi upd_same _ (Ex.refl _) _ fun H4 e4 => ⟨_, e4 Dl _ ((Ex.new nT) Dl _ p.2), sz_lt (by rw [List.length_map, List.length_range]; omega), Ex.mut ((p.1.trans (Ex.new nT)).trans e4) hD, ?_⟩
  rw [upd_same, List.range_succ, List.map_append]
  rfl⟩
theorem el_lcTp {a : Addr} {cs : List Nat} {j : Nat} {vs : List Nat} (p : Nat → Bool) (g : Nat → V) (h : Ev tl σ H (.ref a)) (hx : SqT K H a (cs.map fun c => V.str (Tx [c]))) (hz : cs.length ≤ 40000) (hw : ∀ x, wipe ((wipe σ vs).set j (some x)) vs = wipe σ vs)
    (ht : ∀ (c : Nat) H1, Ex H H1 → c ∈ cs → EvT t ((wipe σ vs).set j (some (.str (Tx [c])))) H1 (p c)) (he : ∀ (c : Nat) H1, Ex H H1 → c ∈ cs → p c = true → Ev te ((wipe σ vs).set j (some (.str (Tx [c])))) H1 (g c)) :
    EvL (tLc (iTup K tl) (gName j) t te vs) σ H ((cs.filter p).map g) := by
  rw [← given_list cs 0 p g]
  have hl : (cs.map fun c => V.str (Tx [c])).length = cs.length := List.length_map _
  have key : ∀ (i : Nat) (x : V), (cs.map fun c => V.str (Tx [c]))[i]? = some x → ∃ c, x = .str (Tx [c]) ∧ cs.getD i 0 = c ∧ c ∈ cs := fun i x hi => by
    rw [List.getElem?_map] at hi
    cases hc : cs[i]? with
    | none =>
      rw [hc] at hi
      cases hi
    | some c =>
      rw [hc] at hi
      cases hi
      exact ⟨c, rfl, by rw [List.getD_eq_getElem?_getD, hc]; rfl, List.mem_of_getElem? hc⟩
  exact fun H0 e Q q => h H0 e _ fun H1 e1 => ⟨a, rfl, ⟨_, ex_t (e.trans e1) hx⟩, fun Dl hD => by
    refine lc_it (walk_tup (xs := cs.map fun c => V.str (Tx [c]))) (Cw H1 (fun i => p (cs.getD i 0)) (fun i => g (cs.getD i 0)) Dl) ⟨hD, Ex.new hD, upd_same⟩ (fun i H' _ pp => ex_t ((e.trans e1).trans pp.2.1) hx) (fun i x H2 H3 hi pp y => ?_) (fun H' pp => ?_)
    · obtain ⟨rfl, hi2⟩ := y
      obtain ⟨c, rfl, ec, mc⟩ := key i x hi2
      refine ⟨hw _, cw_turn pp (by omega) ?_ ?_⟩
      · simp only [ec]
        exact ht c H1 (e.trans e1) mc
      · simp only [ec]
        exact fun hf => he c H1 (e.trans e1) mc hf
    · rw [hl] at pp
      exact q Dl H' (fresh_back e1 pp.1) (e1.trans pp.2.1) pp.2.2⟩
theorem el_lcLs {a : Addr} {cs : List Nat} {j : Nat} {vs : List Nat} (p : Nat → Bool) (g : Nat → V) (h : Ev tl σ H (.ref a)) (hx : SqL K H a (cs.map fun c => V.str (Tx [c]))) (hz : cs.length ≤ 40000) (hw : ∀ x, wipe ((wipe σ vs).set j (some x)) vs = wipe σ vs)
    (ht : ∀ (c : Nat) H1, Ex H H1 → c ∈ cs → EvT t ((wipe σ vs).set j (some (.str (Tx [c])))) H1 (p c)) (he : ∀ (c : Nat) H1, Ex H H1 → c ∈ cs → p c = true → Ev te ((wipe σ vs).set j (some (.str (Tx [c])))) H1 (g c)) :
    EvL (tLc (iList K tl) (gName j) t te vs) σ H ((cs.filter p).map g) := by
  have hl : (cs.map fun c => V.str (Tx [c])).length = cs.length := List.length_map _
  rw [← given_list cs 0 p g, ← hl]
  have key : ∀ (i : Nat) (x : V), (cs.map fun c => V.str (Tx [c]))[i]? = some x → ∃ c, x = .str (Tx [c]) ∧ cs.getD i 0 = c ∧ c ∈ cs := fun i x hi => by
    rw [List.getElem?_map] at hi
    cases hc : cs[i]? with
    | none =>
      rw [hc] at hi
      cases hi
    | some c =>
      rw [hc] at hi
      cases hi
      exact ⟨c, rfl, by rw [List.getD_eq_getElem?_getD, hc]; rfl, List.mem_of_getElem? hc⟩
  refine el_lcL (fun i => p (cs.getD i 0)) (fun i => g (cs.getD i 0)) h hx (by omega) hw (fun i x H1 e hi => ?_) (fun i x H1 e hi hf => ?_)
  · obtain ⟨c, rfl, ec, mc⟩ := key i x hi
    simp only [ec]
    exact ht c H1 e mc
  · obtain ⟨c, rfl, ec, mc⟩ := key i x hi
    simp only [ec] at hf ⊢
    exact he c H1 e mc hf
theorem ev_joinV {a : Addr} {l : List Nat} (h : Ev te σ H (.ref a)) (hx : SqL K H a (l.map fun c => V.str (Tx [c]))) (hz : l.length ≤ 40000) : Ev (tM1 (rJoinS K) (tC (.str (Str.ofString ""))) te) σ H (.str (Tx l)) := fun H1 e Q q =>
  ⟨⟨_, rfl⟩, h H1 e _ fun H2 e2 => ⟨Str.ofString "", a, l.map fun c => Tx [c], rfl, rfl, Or.inl (by rw [map_strs]; exact ex_l (e.trans e2) hx), by rw [ones_len]; omega, by rw [join_ones]; exact q H2 e2⟩⟩
theorem et_list {a : Addr} {xs : List V} (h : Ev te σ H (.ref a)) (hx : SqL K H a xs) : EvT (fun σ H Q => te σ H fun x H' => ∃ k, TruV K x H' k ∧ Q k H') σ H (!xs.isEmpty) := fun H1 e Q q =>
  h H1 e _ fun H2 e2 => ⟨_, .inl ⟨xs, ex_l (e.trans e2) hx, rfl⟩, q H2 e2⟩
/-- [x] * n -/
theorem el_rep {n : Nat} (ha : EvL ta σ H [x]) (hb : ∀ H1, Ex H H1 → Ev tb σ H1 (.int (n : Int))) (hz : n ≤ 40000) : EvL (tOp rRep ta tb) σ H (List.replicate n x) := fun H1 e Q q =>
  ha H1 e _ fun p H2 np e2 h2 => hb H2 (e.trans e2) H2 (Ex.refl _) _ fun H3 e3 => ⟨p, (n : Int), [x], rfl, rfl, e3 _ _ h2, by omega, by omega, by rw [Int.toNat_natCast]; show 1 * n ≤ sizeLine; exact sz_of (by omega), fun r nr => by
    have e4 : (List.replicate (n : Int).toNat [x]).flatten = List.replicate n x := by rw [Int.toNat_natCast, List.flatten_replicate_singleton]
    rw [e4]
    exact q r _ (fresh_back (e2.trans e3) nr) ((e2.trans e3).trans (Ex.new nr)) upd_same⟩
end
/-! ### what several signs give together -/
def resS (cs : List Nat) : Nat := match cs.filter fun c => !decide (c = 122) with
  | [] => 122
  | d :: r => if (d :: r).count d = (d :: r).length then d else 120
def drvS (cs : List Nat) : Nat := match cs.filter fun c => !decide (c = 122) with
  | [] => 122
  | d :: r => if (d :: r) = List.replicate (d :: r).length d ∧ d ∈ [48, 49] then d else 120
theorem res_drv {cs : List Nat} (h : ∀ c ∈ cs, c ∈ sgn) : resS cs = drvS cs := by
  unfold resS drvS
  have hm : ∀ c ∈ cs.filter (fun c => !decide (c = 122)), c = 48 ∨ c = 49 ∨ c = 120 := fun c hc => by
    obtain ⟨h1, h2⟩ := List.mem_filter.mp hc
    have h3 := h c h1
    simp only [sgn, List.mem_cons, List.not_mem_nil, or_false] at h3
    have h4 : c ≠ 122 := by simpa using h2
    omega
  generalize cs.filter (fun c => !decide (c = 122)) = l at hm
  cases l with
  | nil => rfl
  | cons d r =>
    have hd := hm d (List.mem_cons_self ..)
    show (if _ then _ else _) = (if _ then _ else _)
    by_cases ha : ∀ b ∈ d :: r, d = b
    · rw [if_pos (List.count_eq_length.mpr ha)]
      have hr : (d :: r) = List.replicate (d :: r).length d := List.eq_replicate_iff.mpr ⟨rfl, fun b hb => (ha b hb).symm⟩
      by_cases h01 : d ∈ [48, 49]
      · rw [if_pos ⟨hr, h01⟩]
      · rw [if_neg fun z => h01 z.2]
        simp only [List.mem_cons, List.not_mem_nil, or_false] at h01
        omega
    · rw [if_neg fun z => ha (List.count_eq_length.mp z), if_neg fun z => ha fun b hb => ((List.eq_replicate_iff.mp z.1).2 b hb).symm]
/-! ### covers -/
def covP (c d : Nat) : Bool := !decide (c ∈ [48, 49]) || decide (c = d)
def covB (a b : List Nat) : Bool := (List.zipWith covP a b).all id
theorem cov_ix : ∀ (a b : List Nat), a.length = b.length → (covB a b = true ↔ ∀ k, k < a.length → covP (a.getD k 0) (b.getD k 0) = true)
  | [], [], _ => by simp [covB]
  | [], _ :: _, h => by cases h
  | _ :: _, [], h => by cases h
  | c :: a, d :: b, h => by
    have ih := cov_ix a b (by simpa using h)
    unfold covB at ih ⊢
    rw [List.zipWith_cons_cons, List.all_cons, Bool.and_eq_true, ih]
    constructor
    · rintro ⟨h1, h2⟩ k hk
      cases k with
      | zero => exact h1
      | succ k => exact h2 k (by simpa using hk)
    · intro h2
      exact ⟨h2 0 (by simp), fun k hk => h2 (k + 1) (by simpa using hk)⟩
def covF (a b : List Nat) (k : Nat) : Bool := decide (a.getD k 0 ∈ [48, 49]) && !decide (a.getD k 0 = b.getD k 0)
theorem cov_due (a b : List Nat) (h : a.length = b.length) : decide ((((List.range a.length).filter (covF a b)).map fun k : Nat => (k : Int)) = []) = covB a b := by
  rw [Bool.eq_iff_iff, decide_eq_true_eq, List.map_eq_nil_iff, List.filter_eq_nil_iff, cov_ix a b h]
  constructor
  · intro g k hk
    have := g k (List.mem_range.mpr hk)
    unfold covF at this
    unfold covP
    by_cases h1 : a.getD k 0 ∈ [48, 49] <;> by_cases h2 : a.getD k 0 = b.getD k 0 <;> simp_all
  · intro g k hk
    have := g k (List.mem_range.mp hk)
    unfold covP at this
    unfold covF
    by_cases h1 : a.getD k 0 ∈ [48, 49] <;> by_cases h2 : a.getD k 0 = b.getD k 0 <;> simp_all
end Dw

set_option Elab.async false
set_option linter.all false
set_option maxRecDepth 100000
/-! ### list(zip(a, b)), two texts of one length -/
open PySem PySem.Spec PyProof.Rows L2
namespace Dw
section
variable {prog : Program} {w : World} {A : Around} {E : Value → Shared → Prop} {s : Shared} {z TI TO : Addr} {es : List Tri} {i : Nat}
theorem zn_next {Q : Option Value → Shared → Prop} (hh : A.handled = none) (S : SepN z TI TO es) (ne : es ≠ []) (h8 : es.length ≤ 8) (st : ZnAt z TI TO es i s.heap) (lt : ∀ e ∈ es, i < e.2.1.cps.size)
    (k : ∀ (vs : List Value) (h' : Heap) (tk : Nat), Paired (Dr i) es vs → ZnAt z TI TO es (i + 1) h' → TpN h' s.heap.objs.size vs → (∀ c o, c ≠ z → c ≠ TO → (∀ e ∈ es, c ≠ e.1) → s.heap.get? c = some o → h'.get? c = some o) → Q (some (.ref s.heap.objs.size)) { s with heap := h', toks := tk }) :
    wpAny (model prog w) A (pyNext (.ref z)) Q E s := by
  obtain ⟨⟨v, f, old, hv, zp, tO, lo⟩, tI, is⟩ := st
  have ty : s.TypeIs (.ref z) "zip" := ⟨_, zp, rfl⟩
  have tIkeep : ∀ {h' : Heap}, (∀ c o, c ≠ z → c ≠ TO → (∀ e ∈ es, c ≠ e.1) → s.heap.get? c = some o → h'.get? c = some o) → TpN h' TI (es.map fun e => .ref e.1) := fun kp => kp _ _ S.zT.symm S.TTO (fun e he y => S.jT e he y.symm) tI
  unfold pyNext
  rcases free_or (h := s.heap) hv with fr | ⟨T, oT, rfl, tA⟩
  · exact wpAny_bind (wpAny_attempt (wpAny_callSpecial?_slot (name := Str.ofString "__next__") ty F.slot_zip_next (wpAny_call_entry F.slot_zip_next ty F.entry_zip_next
      (zn_free (A := A.in1) hh S ne (by omega) zp fr tI tO lo is lt fun vs h' tk pd zp' tO' is' tp sz kp => wpAny_pure (k vs h' tk pd ⟨⟨_, _, vs, .inr ⟨_, rfl⟩, zp', tO', by rw [← pd.length]⟩, tIkeep kp, is'⟩ tp kp)) (F.args_zip_next_1 _))))
  · exact wpAny_bind (wpAny_attempt (wpAny_callSpecial?_slot (name := Str.ofString "__next__") ty F.slot_zip_next (wpAny_call_entry F.slot_zip_next ty F.entry_zip_next
      (zn_held (A := A.in1) hh S ne (by omega) zp tA tI is lt fun vs h' tk pd zp' is' tp sz kp => wpAny_pure (k vs h' tk pd ⟨⟨_, _, old, .inr ⟨_, rfl⟩, zp', kp _ _ S.zO.symm (fun e he y => S.jO e he y.symm) tO, lo⟩, tIkeep fun c o a _ b => kp c o a b, is'⟩ tp fun c o a _ b => kp c o a b)) (F.args_zip_next_1 _))))
theorem zn_stop {Q : Option Value → Shared → Prop} (hh : A.handled = none) (S : SepN z TI TO es) (ne : es ≠ []) (st : ZnAt z TI TO es i s.heap) (hn : ∀ e ∈ es, e.2.1.cps.size = i)
    (k : ∀ (h' : Heap), (∀ c o, c ≠ z → (∀ e ∈ es, c ≠ e.1) → s.heap.get? c = some o → h'.get? c = some o) → Q none { s with heap := h' }) : wpAny (model prog w) A (pyNext (.ref z)) Q E s := by
  obtain ⟨⟨v, f, old, hv, zp, tO, lo⟩, tI, is⟩ := st
  have ty : s.TypeIs (.ref z) "zip" := ⟨_, zp, rfl⟩
  unfold pyNext
  refine wpAny_bind (wpAny_attempt (wpAny_callSpecial?_slot (name := Str.ofString "__next__") ty F.slot_zip_next (wpAny_call_entry F.slot_zip_next ty F.entry_zip_next
    (zn_end (A := A.in1) hh S ne zp (free_or hv) tI (fun e he => by rw [hn e he]; exact is e he) fun h' x kp he => ?_) (F.args_zip_next_1 _))))
  obtain ⟨o, ho, hco⟩ := he
  refine wpAny_bind (wpAny_isInstance (T := "StopIteration") (b := true) ⟨o, ho, hco⟩ isSubtype_stop ?_)
  exact wpAny_pure (k h' kp)
end
theorem zip_no_len : typeLookup (.type "zip") "__len__" = pure none := by rw [typeLookup_type, builtinLookup_eq_fast]; kernel_rfl
theorem zip_no_hint : typeLookup (.type "zip") "__length_hint__" = pure none := by rw [typeLookup_type, builtinLookup_eq_fast]; kernel_rfl
/-- the tuples of the turns so far -/
def Rows (H : Hp) (ls : List (List Nat)) (rs : List Addr) : Prop := ∀ j r, rs[j]? = some r → H r = some (.tup (ls.map fun l => V.str (Tx [l.getD j 0])))
section
variable {X : Cx} {pins : List (Addr × Obj)} {σ : L2.St} {z TI TO Sl : Addr} {es : List Tri} {ls : List (List Nat)} {n : Nat} {A : Around} {R : Result → Shared → Prop}
theorem zl_loop (hh : A.handled = none) (S : SepN z TI TO es) (ne : es ≠ []) (h8 : es.length ≤ 8) (ht : (es.map fun e => e.2.1) = ls.map Tx) (hn : ∀ e ∈ es, e.2.1.cps.size = n) (hz : n ≤ 1000) (H0 : Hp) (nS : Sl ∉ (z :: TI :: TO :: es.map fun e => e.1))
    (hR : ∀ (s' : Shared) (H' : Hp) (rs : List Addr), Inv X pins σ H' s' → Evl.Ex H0 H' → H' Sl = some (.lst (rs.map V.ref)) → rs.length = n → Rows H' ls rs → R (.ok (.ret .none)) s') :
    ∀ (k i : Nat) (s : Shared) (H : Hp) (rs : List Addr), n - i = k → i ≤ n → Inv X pins σ H s → (∀ b ∈ (z :: TI :: TO :: es.map fun e => e.1), FpOk X pins H b) → ZnAt z TI TO es i s.heap → Evl.Ex H0 H → H0 Sl = none → H Sl = some (.lst (rs.map V.ref)) → rs.length = i → Rows H ls rs →
      codeAny (model X.prog X.w) A (.builtin "list.extend.loop" ⟨[.ref Sl, .ref z, .none], []⟩) R s := by
  intro k
  induction k with
  | zero =>
    intro i s H rs hk hi I hf st e0 n0 hS hl hr
    have hin : i = n := by omega
    subst hin
    refine codeAny_builtin F.entry_extend_loop ?_
    rw [Around.under_plainId F.plain_extend_loop _]
    show wpAny _ A.in1 (pyNext (.ref z) >>= _) _ _ s
    refine wpAny_bind (zn_stop (A := A.in1) hh S ne st hn fun h' kp => ?_)
    refine wpAny_pure (hR _ H rs (I.turnedL (t' := s.toks) (ch := z :: TI :: TO :: es.map fun e => e.1) (fun b o hb q => kp b o (fun y => hb (by rw [y]; simp)) (fun e he y => hb (by rw [y]; simp only [List.mem_cons]; exact .inr (.inr (.inr (List.mem_map.mpr ⟨e, he, rfl⟩))))) q) hf) e0 hS hl hr)
  | succ k ih =>
    intro i s H rs hk hi I hf st e0 n0 hS hl hr
    have hlt : i < n := by omega
    refine codeAny_builtin F.entry_extend_loop ?_
    rw [Around.under_plainId F.plain_extend_loop _]
    show wpAny _ A.in1 (pyNext (.ref z) >>= _) _ _ s
    refine wpAny_bind (zn_next (A := A.in1) hh S ne h8 st (fun e he => by rw [hn e he]; exact hlt) fun vs h' tk pd st' tp kp => ?_)
    have rel := vals_of ht pd
    have few : (ls.map fun l => V.str (Tx [l.getD i 0])).length ≤ sizeLine := by
      rw [rel.length, ← pd.length]
      exact Evl.sz_of (by omega)
    have new : ObjOk X.prog X.w (upd H s.heap.objs.size (.tup (ls.map fun l => V.str (Tx [l.getD i 0])))) h' s.heap.objs.size (.tup (ls.map fun l => V.str (Tx [l.getD i 0]))) := ⟨few, vs, rel, ⟨_, tp, rfl, _, rfl⟩⟩
    have I1 : Inv X pins σ (upd H s.heap.objs.size (.tup (ls.map fun l => V.str (Tx [l.getD i 0])))) { s with heap := h', toks := tk } :=
      I.turnedNew (t' := tk) (ch := z :: TI :: TO :: es.map fun e => e.1) (fun b o hb q => kp b o (fun y => hb (by rw [y]; simp)) (fun y => hb (by rw [y]; simp)) (fun e he y => hb (by rw [y]; simp only [List.mem_cons]; exact .inr (.inr (.inr (List.mem_map.mpr ⟨e, he, rfl⟩))))) q) hf (Nat.le_refl _) new
    have fresh := I.hok.fresh (Nat.le_refl s.heap.objs.size)
    have nST : Sl ≠ s.heap.objs.size := fun y => by
      rw [← y, hS] at fresh
      cases fresh
    have hS1 : (upd H s.heap.objs.size (.tup (ls.map fun l => V.str (Tx [l.getD i 0])))) Sl = some (.lst (rs.map V.ref)) := by
      rw [upd_ne nST]
      exact hS
    have e1 : Evl.Ex H (upd H s.heap.objs.size (.tup (ls.map fun l => V.str (Tx [l.getD i 0])))) := Evl.Ex.new fresh
    have hT1 := upd_same (H := H) (a := s.heap.objs.size) (o := .tup (ls.map fun l => V.str (Tx [l.getD i 0])))
    have hbl : ∀ b ∈ (z :: TI :: TO :: es.map fun e => e.1), b < s.heap.objs.size := fun b hb => by
      obtain ⟨⟨v, f, old, _, zp, tO, _⟩, tI, is⟩ := st
      simp only [List.mem_cons] at hb
      rcases hb with rfl | rfl | rfl | hb
      · exact Heap.lt_size zp
      · exact Heap.lt_size tI
      · exact Heap.lt_size tO
      · obtain ⟨e, he, rfl⟩ := List.mem_map.mp hb
        obtain ⟨o, ho, _⟩ := is e he
        exact Heap.lt_size ho
    have hf1 : ∀ b ∈ (z :: TI :: TO :: es.map fun e => e.1), FpOk X pins (upd H s.heap.objs.size (.tup (ls.map fun l => V.str (Tx [l.getD i 0])))) b := fun b hb => ⟨by rw [upd_ne (Nat.ne_of_lt (hbl b hb))]; exact (hf b hb).1, (hf b hb).2⟩
    generalize upd H s.heap.objs.size (.tup (ls.map fun l => V.str (Tx [l.getD i 0]))) = H1 at I1 hS1 e1 hT1 hf1
    obtain ⟨hz1, its, c, rv, hob⟩ := I1.hok _ _ hS1
    have hil : its.length = i := by rw [← rv.length, List.length_map, hl]
    show wpAny _ A.in1 (updateSeq Sl (·.push (Value.ref s.heap.objs.size)) >>= _) _ _ _
    have hob' : ({ s with heap := h', toks := tk } : Shared).heap.get? Sl = some { cls := .type "list", dict := none, data := .seq its.toArray c, slots := #[] } := hob
    refine wpAny_bind (wpAny_updateSeq hob' rfl (wpAny_pure ⟨plainId_quiet F.plain_extend_loop _, ?_⟩) (by rw [List.size_toArray]; exact Nat.le_trans (by omega : its.length ≤ 1000) (by decide)) (by show (its.toArray.push _).size ≤ sizeLine + 1; rw [Array.size_push, List.size_toArray, hil]; exact Nat.le_trans (by omega : i + 1 ≤ 1001) (by decide)))
    have hself := Heap.get?_update_self (Obj.mapSeq (·.push (Value.ref s.heap.objs.size))) hob' rfl
    have oth : ∀ b o, b ≠ Sl → h'.get? b = some o → (h'.update Sl (Obj.mapSeq (·.push (Value.ref s.heap.objs.size)))).get? b = some o := fun b o hb e => (Heap.get?_update_other _ _ (Ne.symm hb)).trans e
    have epush : its.toArray.push (Value.ref s.heap.objs.size) = (its ++ [Value.ref s.heap.objs.size]).toArray := by simp
    have I2 : Inv X pins σ (upd H1 Sl (.lst ((rs ++ [s.heap.objs.size]).map V.ref))) { s with heap := h'.update Sl (Obj.mapSeq (·.push (Value.ref s.heap.objs.size))), toks := tk } :=
      I1.write (e := Sl) (t' := tk) (by rw [hS1]; trivial) (.inl rfl) (fun b u hb hu => oth b u hb hu) ⟨_, hself⟩
        ⟨by rw [List.length_map, List.length_append, hl]; exact Evl.sz_of (by simp; omega), its ++ [Value.ref s.heap.objs.size], _, by
          rw [List.map_append]
          exact rv.append (.cons rfl .nil), by
          rw [← epush]
          exact hself⟩
    refine ih (i + 1) _ _ (rs ++ [s.heap.objs.size]) (by omega) hlt I2 (fun b hb => ⟨?_, (hf1 b hb).2⟩) ?_ ?_ n0 upd_same (by rw [List.length_append, hl]; rfl) ?_
    · have nb : b ≠ Sl := fun y => nS (y ▸ hb)
      rw [upd_ne nb]
      exact (hf1 b hb).1
    · obtain ⟨⟨v, f, old, hv, zp, tO, lo⟩, tI, is⟩ := st'
      have q : ∀ b ∈ (z :: TI :: TO :: es.map fun e => e.1), b ≠ Sl := fun b hb y => nS (y ▸ hb)
      exact ⟨⟨v, f, old, hv, oth _ _ (q z (by simp)) zp, oth _ _ (q TO (by simp)) tO, lo⟩, oth _ _ (q TI (by simp)) tI, fun e he => (is e he).over fun o ho => oth _ _ (q e.1 (by simp only [List.mem_cons]; exact .inr (.inr (.inr (List.mem_map.mpr ⟨e, he, rfl⟩))))) ho⟩
    · exact Evl.Ex.mut (e0.trans e1) n0
    · intro j r hj
      have key : H1 r = some (.tup (ls.map fun l => V.str (Tx [l.getD j 0]))) := by
        by_cases hj2 : j < rs.length
        · rw [List.getElem?_append_left hj2] at hj
          exact e1 _ _ (hr j r hj)
        · rw [List.getElem?_append_right (by omega)] at hj
          have hj3 : j - rs.length = 0 := by
            by_cases h : j - rs.length = 0
            · exact h
            · rw [List.getElem?_eq_none (by simp; omega)] at hj
              cases hj
          rw [hj3] at hj
          have : s.heap.objs.size = r := by simpa using hj
          rw [← this, show j = i by omega]
          exact hT1
      rw [upd_ne (fun y => by
        rw [y, hS1] at key
        cases key)]
      exact key
theorem zl_extend (hh : A.handled = none) (S : SepN z TI TO es) (ne : es ≠ []) (h8 : es.length ≤ 8) (ht : (es.map fun e => e.2.1) = ls.map Tx) (hn : ∀ e ∈ es, e.2.1.cps.size = n) (hz : n ≤ 1000) {s : Shared} {H0 : Hp} {s0 : Shared} {c₀ : Nat} (I : Inv X pins σ H0 s0) (hs : s0.heap.objs.size ≤ Sl) (keep : ∀ b o, s0.heap.get? b = some o → s.heap.get? b = some o) (ha : ∃ tk, { s0 with heap := s.heap, toks := tk } = s)
    (hf : ∀ b ∈ (z :: TI :: TO :: es.map fun e => e.1), FpOk X pins H0 b) (st : ZnAt z TI TO es 0 s0.heap) (hS : s.heap.get? Sl = some { cls := .type "list", data := .seq #[] c₀ })
    (hR : ∀ (s' : Shared) (H' : Hp) (rs : List Addr), Inv X pins σ H' s' → Evl.Ex H0 H' → H' Sl = some (.lst (rs.map V.ref)) → rs.length = n → Rows H' ls rs → R (.ok (.ret .none)) s') :
    wpAny (model X.prog X.w) A.in1 (Builtin.List.listExtendWith (.ref Sl) (.ref z) .none)
      (fun fin s' => match fin with | .done f => R (.ok f) s' | .again c' => c'.quiet = true ∧ codeAny (model X.prog X.w) A c' R s') (fun e s' => R (.error e) s') s := by
  have hlt : ∀ b ∈ (z :: TI :: TO :: es.map fun e => e.1), b < s0.heap.objs.size := fun b hb => by
    obtain ⟨⟨v, f, old, _, zp, tO, _⟩, tI, is⟩ := st
    simp only [List.mem_cons] at hb
    rcases hb with rfl | rfl | rfl | hb
    · exact Heap.lt_size zp
    · exact Heap.lt_size tI
    · exact Heap.lt_size tO
    · obtain ⟨e, he, rfl⟩ := List.mem_map.mp hb
      obtain ⟨o, ho, _⟩ := is e he
      exact Heap.lt_size ho
  have nS : Sl ∉ (z :: TI :: TO :: es.map fun e => e.1) := fun hm => Nat.lt_irrefl _ (Nat.lt_of_lt_of_le (hlt Sl hm) hs)
  have hSI : Sl ≠ z := fun e => nS (by rw [e]; simp)
  have stS : ∀ (h' : Heap), (∀ b o, b ≠ Sl → s.heap.get? b = some o → h'.get? b = some o) → ZnAt z TI TO es 0 h' := fun h' kp => by
    obtain ⟨⟨v, f, old, hv, zp, tO, lo⟩, tI, is⟩ := st
    have q : ∀ b ∈ (z :: TI :: TO :: es.map fun e => e.1), ∀ o, s0.heap.get? b = some o → h'.get? b = some o := fun b hb o e => kp b o (fun y => nS (y ▸ hb)) (keep b o e)
    exact ⟨⟨v, f, old, hv, q z (by simp) _ zp, q TO (by simp) _ tO, lo⟩, q TI (by simp) _ tI, fun e he => (is e he).over fun o ho => q e.1 (by simp only [List.mem_cons]; exact .inr (.inr (.inr (List.mem_map.mpr ⟨e, he, rfl⟩)))) _ ho⟩
  have zp0 : ∃ v f, ZpF s.heap z TI TO v f := by
    obtain ⟨⟨v, f, old, hv, zp, _⟩, _⟩ := st
    exact ⟨v, f, keep _ _ zp⟩
  obtain ⟨vz, fz, zp0⟩ := zp0
  have ty : s.TypeIs (.ref z) "zip" := ⟨_, zp0, rfl⟩
  unfold Builtin.List.listExtendWith
  refine wpAny_bind (wpAny_typeOf ty ?_)
  have h1 : Builtin.List.listSameRef (.ref Sl) (.ref z) = false := by simp [Builtin.List.listSameRef, hSI]
  have h2 : (Value.type "zip" == Value.type "list") = false := by decide
  have h3 : (Value.type "zip" == Value.type "tuple") = false := by decide
  simp only [h1, h2, h3, Bool.or_false, Bool.false_eq_true, if_false]
  refine wpAny_bind (wpAny_pyIter_slot ty F.slot_zip_iter (wpAny_call_entry F.slot_zip_iter ty F.entry_zip_iter (wpAny_pure ⟨_, rfl, "zip", _, ty, F.slot_zip_next.lookup, ?_⟩) (F.args_zip_iter_1 _)))
  refine wpAny_bind (wpAny_holding ?_)
  unfold Builtin.List.listLengthHint
  refine wpAny_bind (wpAny_specialOf ty zip_no_len ?_)
  show wpAny _ A.in1 (specialOf (Value.ref z) (Str.ofString "__length_hint__") >>= _) _ _ _
  refine wpAny_bind (wpAny_specialOf ty zip_no_hint ?_)
  refine wpAny_pure ?_
  show wpAny _ A.in1 (rule "list.extend.makes-room" >>= fun _ => Builtin.List.listTouch (.ref Sl) >>= fun _ =>
    again (.builtin "list.extend.loop" ⟨[.ref Sl, .ref z, .none], []⟩)) _ _ _
  refine wpAny_bind (wpAny_rule ?_)
  refine wpAny_bind ?_
  show wpAny _ A.in1 (updateSeq Sl (·.push .none) >>= fun _ => updateSeq Sl (·.pop)) _ _ _
  refine wpAny_bind (wpAny_updateSeq hS rfl ?_)
  have hS₂ := Heap.get?_update_self (Obj.mapSeq (·.push Value.none)) hS rfl
  refine wpAny_updateSeq (hz := by seq_fits) hS₂ rfl ?_
  have hS₃ := Heap.get?_update_self (Obj.mapSeq (·.pop)) hS₂ rfl
  have oth : ∀ b o, b ≠ Sl → s.heap.get? b = some o → ((s.heap.update Sl (Obj.mapSeq (·.push Value.none))).update Sl (Obj.mapSeq (·.pop))).get? b = some o :=
    fun b o hb e => (Heap.get?_update_other _ _ (Ne.symm hb)).trans ((Heap.get?_update_other _ _ (Ne.symm hb)).trans e)
  obtain ⟨tk, ha⟩ := ha
  have n0 : H0 Sl = none := I.hok.fresh hs
  have hlt2 : ∀ b o, s0.heap.get? b = some o → b ≠ Sl := fun b o e y => Nat.lt_irrefl _ (Nat.lt_of_lt_of_le (Heap.lt_size e) (by rw [y]; exact hs))
  have I1 : Inv X pins σ (upd H0 Sl (.lst [])) { s0 with heap := (s.heap.update Sl (Obj.mapSeq (·.push Value.none))).update Sl (Obj.mapSeq (·.pop)), toks := tk } :=
    I.laid (t' := tk) (fun b u e => oth b u (hlt2 b u e) (keep b u e)) hs ⟨Nat.zero_le _, [], _, .nil, hS₃⟩
  have es2 : ({ s0 with heap := (s.heap.update Sl (Obj.mapSeq (·.push Value.none))).update Sl (Obj.mapSeq (·.pop)), toks := tk } : Shared) = { s with heap := (s.heap.update Sl (Obj.mapSeq (·.push Value.none))).update Sl (Obj.mapSeq (·.pop)) } := by
    conv => rhs; rw [← ha]
  rw [es2] at I1
  refine wpAny_pure ⟨plainId_quiet F.plain_extend_loop _, zl_loop hh S ne h8 ht hn hz H0 nS hR n 0 _ _ [] rfl (Nat.zero_le _) I1 (fun b hb => ⟨?_, (hf b hb).2⟩) (stS _ oth) (Evl.Ex.new n0) n0 upd_same rfl (fun j r hj => by simp at hj)⟩
  have nb : b ≠ Sl := fun y => nS (y ▸ hb)
  rw [upd_ne nb]
  exact (hf b hb).1
end
end Dw

set_option Elab.async false
set_option linter.all false
set_option maxRecDepth 100000
open PySem PySem.Spec PyProof.Rows L2
namespace Dw
section
variable {X : Cx} {pins : List (Addr × Obj)} {σ : L2.St} {z TI TO : Addr} {es : List Tri} {ls : List (List Nat)} {n : Nat}
theorem zl_call {A : Around} {Q : Value → Shared → Prop} {E : Value → Shared → Prop} (hh : A.handled = none) (S : SepN z TI TO es) (ne : es ≠ []) (h8 : es.length ≤ 8) (ht : (es.map fun e => e.2.1) = ls.map Tx) (hn : ∀ e ∈ es, e.2.1.cps.size = n) (hz : n ≤ 1000) {s : Shared} {H0 : Hp} (I : Inv X pins σ H0 s)
    (hf : ∀ b ∈ (z :: TI :: TO :: es.map fun e => e.1), FpOk X pins H0 b) (st : ZnAt z TI TO es 0 s.heap)
    (hQ : ∀ (s' : Shared) (H' : Hp) (rs : List Addr), Inv X pins σ H' s' → Evl.Ex H0 H' → H' s.heap.objs.size = some (.lst (rs.map V.ref)) → rs.length = n → Rows H' ls rs → Q (.ref s.heap.objs.size) s') :
    wpAny (model X.prog X.w) A (call (.type "list") [.ref z]) Q E s := by
  refine callType_codes (Q₁ := fun obj s₁ => obj = .ref s.heap.objs.size ∧ s₁ = { s with heap := s.heap.push { cls := .type "list", data := .seq #[] } }) F.called_list (F.typeCall_list_1 _) F.entry_list_init
    (code_list_new _ ⟨rfl, rfl⟩) fun obj s₁ h₁ => ?_
  obtain ⟨rfl, rfl⟩ := h₁
  have hS : (s.heap.push { cls := .type "list", data := .seq #[] }).get? s.heap.objs.size = some { cls := .type "list", data := .seq #[] } := Heap.get?_push_size _ rfl
  refine ⟨⟨_, hS, rfl⟩, F.args_list_init_2 _ _, ?_⟩
  show wpAny _ A.in1.in1 (do let old ← Builtin.List.listItems (.ref s.heap.objs.size); Builtin.List.listUpdate (.ref s.heap.objs.size) (fun _ => #[]); letGo old.toList.reverse; Builtin.List.listExtendWith (.ref s.heap.objs.size) (.ref z) .none) _ _ _
  refine wpAny_bind ?_
  unfold Builtin.List.listItems
  refine wpAny_bind (wpAny_seqItems hS rfl (wpAny_pure ?_))
  show wpAny _ A.in1.in1 (updateSeq s.heap.objs.size (fun _ => #[]) >>= fun _ => letGo (#[] : Array Value).toList.reverse >>= fun _ => Builtin.List.listExtendWith (.ref s.heap.objs.size) (.ref z) .none) _ _ _
  refine wpAny_bind (wpAny_updateSeq hS rfl ?_)
  have hS₂ := Heap.get?_update_self (Obj.mapSeq (fun _ => (#[] : Array Value))) hS rfl
  refine wpAny_bind (wpAny_letGo ?_)
  refine zl_extend (A := A.in1) (s0 := s) (H0 := H0) hh S ne h8 ht hn hz I (Nat.le_refl _) (fun b o e => ?_) ⟨s.toks, rfl⟩ hf st hS₂ fun s' H' rs I' e' h' hl hr => ⟨rfl, hQ s' H' rs I' e' h' hl hr⟩
  exact (Heap.get?_update_other _ _ (Ne.symm (Nat.ne_of_lt (Heap.lt_size e)))).trans (Heap.get?_push_of_some _ e)
end
/-- list(zip(a, b)) -/
def tListZ (ta : TA) : TE := fun σ H Q => ta σ H fun vs H1 => ∃ la lb : List Nat, vs = [.str (Tx la), .str (Tx lb)] ∧ la.length = lb.length ∧ la.length ≤ 1000 ∧ ∀ (D : Addr) (rs : List Addr) (H2 : Hp), H1 D = none → Evl.Ex H1 H2 → H2 D = some (.lst (rs.map V.ref)) → rs.length = la.length → Rows H2 [la, lb] rs → Q (.ref D) H2
theorem pe_listZ {X : Cx} {a b : Expr} {ta : TA} {p p2 pos pos2 : Pos} (hc : X.calm = true) (hg : Gl X "list") (hm : X.mg "list" = none) (hg2 : Gl X "zip") (hm2 : X.mg "zip" = none) (ha : PA X [a, b] ta)
    (hs : starEach [a, b] X.env = (false, eval a X.env) :: starEach [b] X.env := by rfl) (hpl : (backTo pos2 (starEach [b] X.env)).any (·.1) = false := by rfl)
    (hs1 : starEach [.Call (.Name "zip" p2) [a, b] [] pos2] X.env = (false, eval (.Call (.Name "zip" p2) [a, b] [] pos2) X.env) :: starEach [] X.env := by rfl) (hpl1 : (backTo pos (starEach [] X.env)).any (·.1) = false := by rfl) :
    PE X (.Call (.Name "list" p) [.Call (.Name "zip" p2) [a, b] [] pos2] [] pos) (tListZ ta) := by
  refine ⟨fun pins s σ H Q I h => ?_⟩
  have hb1 : bootBuiltins "list" = some (.type "list") := by decide +kernel
  refine PyProof.Rows.Call_ (ld_blt I hg hm hb1 (PyProof.Rows.callWith_type1 ?_ hs1 hpl1))
  rw [hs1]
  show wpAny _ _ (spliced ((false, eval (.Call (.Name "zip" p2) [a, b] [] pos2) X.env) :: [])) _ _ s
  refine Calls.spliced_cons ?_
  refine PyProof.Rows.Call_ (ld_blt I hg2 hm2 PyProof.Rows.boot_zip (PyProof.Rows.callWith_type1 (thn (ha.run pos2 pins s σ H _ I h) fun us s1 ⟨vs, H1, I1, r1, q1⟩ => ?_) hs hpl))
  obtain ⟨la, lb, ev, hl, hz, q⟩ := q1
  have rv : Vals ([la, lb].map fun l => V.str (Tx l)) us := by
    rw [ev] at r1
    exact r1
  obtain ⟨ps, rfl, ep⟩ := texts_of rv
  have lp : ps.length = 2 := by
    have := congrArg List.length ep
    rwa [List.length_map, List.length_map] at this
  refine zn_begin (by omega) fun h' is tI tO zp kp => ?_
  have I3 : Inv X pins σ H1 { s1 with heap := h' } := I1.kept (t' := s1.toks) kp
  have S : SepN (s1.heap.objs.size + ps.length + 2) (s1.heap.objs.size + ps.length) (s1.heap.objs.size + ps.length + 1) (esOf s1.heap.objs.size ps) :=
    ⟨fun y => by have y' : s1.heap.objs.size + ps.length + 2 = s1.heap.objs.size + ps.length := y; omega, fun y => by have y' : s1.heap.objs.size + ps.length + 2 = s1.heap.objs.size + ps.length + 1 := y; omega, fun y => by have y' : s1.heap.objs.size + ps.length = s1.heap.objs.size + ps.length + 1 := y; omega,
      fun e he y => by have := (esOf_mem he).2.1; have y' : e.1 = s1.heap.objs.size + ps.length + 2 := y; omega, fun e he y => by have := (esOf_mem he).2.1; have y' : e.1 = s1.heap.objs.size + ps.length := y; omega, fun e he y => by have := (esOf_mem he).2.1; have y' : e.1 = s1.heap.objs.size + ps.length + 1 := y; omega, esOf_nd _ _⟩
  have nes : esOf s1.heap.objs.size ps ≠ [] := fun y => by
    have := esOf_len s1.heap.objs.size ps
    rw [y, lp] at this
    cases this
  have hsz : ∀ e ∈ esOf s1.heap.objs.size ps, e.2.1.cps.size = la.length := fun e he => by
    have m : e.2.1 ∈ ((esOf s1.heap.objs.size ps).map fun e => e.2.1) := List.mem_map.mpr ⟨e, he, rfl⟩
    rw [esOf_texts, ep] at m
    obtain ⟨l, hl2, e2⟩ := List.mem_map.mp m
    rw [← e2]
    simp only [List.mem_cons, List.not_mem_nil, or_false] at hl2
    rcases hl2 with rfl | rfl
    · exact Tx_len _
    · exact (Tx_len _).trans hl.symm
  refine Calls.spliced_nil ?_
  refine zl_call (X := X) (pins := pins) (σ := σ) (I3.ok.hd hc) S nes (by rw [esOf_len]; omega) (by rw [esOf_texts]; exact ep) hsz hz I3 (fun c hcm => ?_) ⟨⟨_, _, _, .inl rfl, zp, tO, by rw [List.length_map]⟩, tI, is⟩ fun s' H' rs I' e' hD hlr hr => ⟨.ref _, H', I', rfl, q _ rs H' ?_ e' hD hlr hr⟩
  · have hle : s1.heap.objs.size ≤ c := by
      simp only [List.mem_cons] at hcm
      rcases hcm with rfl | rfl | rfl | hcm
      · exact Nat.le_trans (Nat.le_add_right _ _) (Nat.le_add_right _ _)
      · exact Nat.le_add_right _ _
      · exact Nat.le_trans (Nat.le_add_right _ _) (Nat.le_add_right _ _)
      · obtain ⟨e, he, rfl⟩ := List.mem_map.mp hcm
        exact (esOf_mem he).1
    exact I1.fpOk hle (I1.hok.fresh hle)
  · exact I3.hok.fresh (Nat.le_refl _)
end Dw

set_option Elab.async false
set_option linter.all false
set_option maxRecDepth 100000
namespace Dw
open PySem L2 Evl
/-- an if whose test has a written text at its right end: behind it a token is out -/
theorem ps_ifT {X : Cx} {a : Expr} {ta : TE} {op : CmpOp} {r : R2} {y : Str} {j : Nat} {c pos pos2 : Pos} {body els : List Stmt} {t u : TS} (ho : OpR X (compareOp op) r) (ha : PE X a ta) (hb : PSsT X body t) (hc : PSs X els u) (hm : behindInMarks op (.Constant (.str y) j c) = false := by rfl) :
    PS X (.If (.Compare a [op] [.Constant (.str y) j c] pos) body els pos2) (tIfS (tTest (tOp r ta (tC (.str y)))) t u) := by
  refine ⟨fun pins s σ H D I h => ?_⟩
  refine wpAny_If (wpAny_isTrue_Compare1 (thn (ha.run pins s σ H _ I h) fun v s1 ⟨x, H1, I1, r1, q1⟩ => Calls.Constant_str (wpAny_mono (PySem.wpAny_toks (ho pins _ σ H1 x (.str y) v _ _ (I1.tok _) r1 ⟨_, rfl⟩ q1)) (fun w s3 q => ?_) fun _ _ z => z.2)) hm)
  obtain ⟨hk, z, H3, I3, r3, k, e, q3⟩ := q
  subst e
  cases r3
  have h1 : 1 ≤ s3.toks := Nat.le_trans (Nat.le_add_left 1 _) hk
  refine wpAny_truthy_bool ?_
  cases k with
  | true => exact hb pins s3 σ H3 D h1 I3 q3
  | false => exact hc.run pins s3 σ H3 D I3 q3
section
variable {σ : L2.St} {H : Hp} {ta tb : TE}
theorem el_catV {l : Addr} {xs ys : List V} (ha : Ev ta σ H (.ref l)) (hx : H l = some (.lst xs)) (hb : EvL tb σ H ys) (hz : xs.length + ys.length ≤ 100000) : EvL (tOp rCat ta tb) σ H (xs ++ ys) := fun H1 e Q q =>
  ha H1 e _ fun H2 e2 => hb H2 (e.trans e2) _ fun r H3 nr e3 h3 => ⟨l, r, xs, ys, rfl, rfl, e3 _ _ (e2 _ _ (e _ _ hx)), h3, sz_of hz, fun s ns => q s _ (fresh_back (e2.trans e3) ns) ((e2.trans e3).trans (Ex.new ns)) upd_same⟩
end
theorem mt_countK {X : Cx} {K : PySem.W.Frag} (h : X.K = K) : MtR X "list.count" (rCntS K) := h ▸ mt_countS
/-! ### the law's own operators -/
def spNotS : Sp := fun vs H Q _ => ∃ c : Nat, vs = [.str (Tx [c])] ∧ ∀ H', Ex H H' → Q (.str (Tx [notS c])) H'
theorem spv_notS {c : Nat} {H : Hp} : SpV spNotS [.str (Tx [c])] H (.str (Tx [notS c])) := fun H1 e Q q E => ⟨c, rfl, q⟩
def spSgK (op : Nat → Nat → Nat) : Sp := fun vs H Q _ => ∃ a b : Nat, vs = [.str (Tx [a]), .str (Tx [b])] ∧ a ∈ k3 ∧ b ∈ k3 ∧ ∀ H', Ex H H' → Q (.str (Tx [op a b])) H'
theorem spv_sgK {op : Nat → Nat → Nat} {a b : Nat} {H : Hp} (ha : a ∈ k3) (hb : b ∈ k3) : SpV (spSgK op) [.str (Tx [a]), .str (Tx [b])] H (.str (Tx [op a b])) := fun H1 e Q q E => ⟨a, b, rfl, ha, hb, q⟩
theorem or_by : ∀ a ∈ k3, ∀ b ∈ k3, notS (andS (notS a) (notS b)) = orS a b := by decide +kernel
def stepK : W2 → Nat → Nat → Nat → Nat
  | .plus, c, d, k => mostS c d k
  | .less, c, d, k => mostS (notS c) d k
  | _, _, _, k => k
def stepF : W2 → Nat → Nat → Nat → List Nat → List Nat
  | .and, c, d, _, s => [andS c d] ++ s
  | .or, c, d, _, s => [orS c d] ++ s
  | .xor, c, d, _, s => [xorS c d] ++ s
  | .plus, c, d, k, s => [xorS (xorS c d) k] ++ s
  | _, _, _, _, s => s
def outW (w : W2) : List Nat → List Nat → Nat → List Nat → List Nat × Nat
  | c :: A, d :: B, k, s => outW w A B (stepK w c d k) (stepF w c d k s)
  | _, _, k, s => (s, k)
theorem out_and : ∀ (A B : List Nat) (k : Nat) (s : List Nat), outW .and A B k s = ((List.zipWith andS A B).reverse ++ s, k)
  | [], _, _, _ => by simp [outW]
  | _ :: _, [], _, _ => by simp [outW]
  | c :: A, d :: B, k, s => by simp [outW, stepK, stepF, out_and A B]
theorem out_or : ∀ (A B : List Nat) (k : Nat) (s : List Nat), outW .or A B k s = ((List.zipWith orS A B).reverse ++ s, k)
  | [], _, _, _ => by simp [outW]
  | _ :: _, [], _, _ => by simp [outW]
  | c :: A, d :: B, k, s => by simp [outW, stepK, stepF, out_or A B]
theorem out_xor : ∀ (A B : List Nat) (k : Nat) (s : List Nat), outW .xor A B k s = ((List.zipWith xorS A B).reverse ++ s, k)
  | [], _, _, _ => by simp [outW]
  | _ :: _, [], _, _ => by simp [outW]
  | c :: A, d :: B, k, s => by simp [outW, stepK, stepF, out_xor A B]
theorem out_plus : ∀ (A B : List Nat) (k : Nat) (s : List Nat), (outW .plus A B k s).1 = (plusL k A B).reverse ++ s
  | [], _, _, _ => by simp [outW, plusL]
  | _ :: _, [], _, _ => by simp [outW, plusL]
  | c :: A, d :: B, k, s => by simp [outW, stepK, stepF, out_plus A B, plusL]
theorem less_by : ∀ c ∈ k3, ∀ d ∈ k3, ∀ k ∈ k3, mostS (notS c) d k = signL (tri 2 c d k) := by decide +kernel
theorem out_less : ∀ (A B : List Nat) (k : Nat) (s : List Nat), Sx A → Sx B → k ∈ k3 → (outW .less A B k s).2 = bK 2 k A B
  | [], _, _, _, _, _, _ => by simp [outW, bK]
  | _ :: _, [], _, _, _, _, _ => by simp [outW, bK]
  | c :: A, d :: B, k, s, ha, hb, hk => by
    have hc := ha c (List.mem_cons_self ..)
    have hd := hb d (List.mem_cons_self ..)
    have ih := out_less A B (mostS (notS c) d k) s (fun x hx => ha x (List.mem_cons_of_mem _ hx)) (fun x hx => hb x (List.mem_cons_of_mem _ hx)) (most_k3 _ _ _)
    simp only [outW, stepK, stepF, bK]
    rw [ih, less_by c hc d hd k hk]
theorem sx_rev {a : List Nat} (h : Sx a) : Sx a.reverse := fun c hc => h c (List.mem_reverse.mp hc)
instance : DecidableEq W2 := fun a b => by
  cases a <;> cases b <;> first | exact isTrue rfl | exact isFalse (fun z => nomatch z)
def resW (w : W2) (a b : List Nat) : List Nat := if w = .less then [(outW w a.reverse b.reverse 48 []).2] else (outW w a.reverse b.reverse 48 []).1
theorem res_ok {w : W2} {a b : List Nat} (hw : w ≠ .same) (hw2 : w ≠ .join) (ha : Sx a) (hb : Sx b) (hl : a.length = b.length) : resW w a b = bi2 w a b := by
  have hl2 : a.reverse.length = b.reverse.length := by simpa using hl
  cases w with
  | and =>
    show (outW .and a.reverse b.reverse 48 []).1 = List.zipWith andS a b
    rw [out_and, List.append_nil]
    show (List.zipWith andS a.reverse b.reverse).reverse = _
    rw [List.reverse_zipWith hl2, List.reverse_reverse, List.reverse_reverse]
  | or =>
    show (outW .or a.reverse b.reverse 48 []).1 = List.zipWith orS a b
    rw [out_or, List.append_nil]
    show (List.zipWith orS a.reverse b.reverse).reverse = _
    rw [List.reverse_zipWith hl2, List.reverse_reverse, List.reverse_reverse]
  | xor =>
    show (outW .xor a.reverse b.reverse 48 []).1 = List.zipWith xorS a b
    rw [out_xor, List.append_nil]
    show (List.zipWith xorS a.reverse b.reverse).reverse = _
    rw [List.reverse_zipWith hl2, List.reverse_reverse, List.reverse_reverse]
  | plus =>
    show (outW .plus a.reverse b.reverse 48 []).1 = plusS a b
    rw [out_plus, List.append_nil]
    rfl
  | less =>
    show [(outW .less a.reverse b.reverse 48 []).2] = [lessS a b]
    rw [out_less _ _ _ _ (sx_rev ha) (sx_rev hb) k3_48]
    have := less_eq a b (sx_sg ha) (sx_sg hb) hl
    rw [rd_id ha, rd_id hb] at this
    rw [this]
  | same => exact absurd rfl hw
  | join => exact absurd rfl hw2
def spAlong : Sp := fun vs H Q _ => ∃ (w : W2) (a b : List Nat), vs = [.str w.s, .str (Tx a), .str (Tx b)] ∧ w ≠ .same ∧ w ≠ .join ∧ Sx a ∧ Sx b ∧ a.length = b.length ∧ a.length ≤ 8 ∧ ∀ H', Ex H H' → Q (.str (Tx (bi2 w a b))) H'
theorem spv_along {w : W2} {a b : List Nat} {H : Hp} (h1 : w ≠ .same) (h2 : w ≠ .join) (ha : Sx a) (hb : Sx b) (hl : a.length = b.length) (h8 : a.length ≤ 8) : SpV spAlong [.str w.s, .str (Tx a), .str (Tx b)] H (.str (Tx (bi2 w a b))) := fun H1 e Q q E => ⟨w, a, b, rfl, h1, h2, ha, hb, hl, h8, q⟩
def overW : W1 → List Nat → Nat
  | .any, l => anyS l
  | _, l => allS l
def spOver : Sp := fun vs H Q _ => ∃ (w : W1) (l : List Nat), vs = [.str w.s, .str (Tx l)] ∧ w ≠ .not ∧ Sx l ∧ l.length ≤ 8 ∧ ∀ H', Ex H H' → Q (.str (Tx [overW w l])) H'
theorem spv_over {w : W1} {l : List Nat} {H : Hp} (h1 : w ≠ .not) (hl : Sx l) (h8 : l.length ≤ 8) : SpV spOver [.str w.s, .str (Tx l)] H (.str (Tx [overW w l])) := fun H1 e Q q E => ⟨w, l, rfl, h1, hl, h8, q⟩
theorem all_and (k x : Nat) (l : List Nat) (hk : k ∈ k3) (hx : x ∈ k3) : allS (andS k x :: l) = allS (k :: x :: l) := by
  simp only [k3, List.mem_cons, List.not_mem_nil, or_false] at hk hx
  unfold allS
  rcases hk with rfl | rfl | rfl <;> rcases hx with rfl | rfl | rfl <;> simp [andS]
theorem any_fold : ∀ (l : List Nat) (k : Nat), k ∈ k3 → Sx l → l.foldl orS k = anyS (k :: l)
  | [], k, hk, _ => by
    simp only [k3, List.mem_cons, List.not_mem_nil, or_false] at hk
    rcases hk with rfl | rfl | rfl <;> rfl
  | x :: l, k, hk, hl => by
    rw [List.foldl_cons, any_fold l _ (or_k3 _ _) (fun c hc => hl c (List.mem_cons_of_mem _ hc)), any_or k x l hk (hl x (List.mem_cons_self ..))]
theorem all_fold : ∀ (l : List Nat) (k : Nat), k ∈ k3 → Sx l → l.foldl andS k = allS (k :: l)
  | [], k, hk, _ => by
    simp only [k3, List.mem_cons, List.not_mem_nil, or_false] at hk
    rcases hk with rfl | rfl | rfl <;> rfl
  | x :: l, k, hk, hl => by
    rw [List.foldl_cons, all_fold l _ (and_k3 _ _) (fun c hc => hl c (List.mem_cons_of_mem _ hc)), all_and k x l hk (hl x (List.mem_cons_self ..))]
theorem all_49 (l : List Nat) : allS (49 :: l) = allS l := by
  unfold allS
  simp
def startW : W1 → Nat
  | .any => 48
  | _ => 49
def foldW : W1 → Nat → Nat → Nat
  | .any => orS
  | _ => andS
theorem over_ok {w : W1} {l : List Nat} (hl : Sx l) : l.foldl (foldW w) (startW w) = overW w l := by
  cases w with
  | any => exact (any_fold l 48 (by decide) hl).trans (any_48 l)
  | all => exact (all_fold l 49 (by decide) hl).trans (all_49 l)
  | not => exact (all_fold l 49 (by decide) hl).trans (all_49 l)
theorem fold_k3 (w : W1) (a b : Nat) : foldW w a b ∈ k3 := by
  cases w with
  | any => exact or_k3 _ _
  | all => exact and_k3 _ _
  | not => exact and_k3 _ _
def spLOp (K : PySem.W.Frag) : Sp := fun vs H Q _ => ∃ (word : Str) (a : Addr) (ls : List (List Nat)) (r : List Nat), vs = [.str word, .ref a] ∧ SqL K H a (ls.map fun l => V.str (Tx l)) ∧ (∀ l ∈ ls, Sx l ∧ l.length ≤ 8) ∧ Op word ls 0 0 r ∧ word ≠ Str.ofString "part" ∧ ∀ H', Ex H H' → Q (.str (Tx r)) H'
theorem spv_lop {K : PySem.W.Frag} {H : Hp} {word : Str} {a : Addr} {ls : List (List Nat)} {r : List Nat} (h : SqL K H a (ls.map fun l => V.str (Tx l))) (h8 : ∀ l ∈ ls, Sx l ∧ l.length ≤ 8) (o : Op word ls 0 0 r) (np : word ≠ Str.ofString "part") : SpV (spLOp K) [.str word, .ref a] H (.str (Tx r)) :=
  fun H1 e Q q E => ⟨word, a, ls, r, rfl, ex_l e h, h8, o, np, q⟩
end Dw

set_option Elab.async false
set_option linter.all false
set_option maxRecDepth 100000
namespace Dw
open PySem L2 Evl
section
variable {K : PySem.W.Frag} {σ : L2.St} {H H' : Hp} {ta tb te tx tl : TE} {t u : TT} {x y z v : V} {D : Ends} {tz : TS}
/-- over pairs of signs that lie in tuples -/
theorem el_lcP {rs : List Addr} {a : Addr} {la lb : List Nat} {j1 j2 : Nat} {vs : List Nat} (g : Nat → V) (h : Ev tl σ H (.ref a)) (hx : SqL K H a (rs.map V.ref)) (hr : Rows H [la, lb] rs) (hl : rs.length = la.length) (hz : la.length ≤ 1000)
    (hw : ∀ x y, wipe (((wipe σ vs).set j1 (some x)).set j2 (some y)) vs = wipe σ vs) (he : ∀ i H1, Ex H H1 → i < la.length → Ev te (((wipe σ vs).set j1 (some (.str (Tx [la.getD i 0])))).set j2 (some (.str (Tx [lb.getD i 0])))) H1 (g i)) :
    EvL (tLc (iList K tl) (gTup K 2 (gCons (gName j1) (gCons (gName j2) gNil))) tYes te vs) σ H ((List.range la.length).map g) := fun H0 e Q q => by
  have e2 : (List.range la.length).map g = given (rs.map V.ref).length (fun _ => true) g := by
    unfold given
    rw [List.filter_eq_self.mpr (fun _ _ => rfl), List.length_map, hl]
  rw [e2] at q
  refine h H0 e _ fun H1 e1 => ⟨a, rfl, ⟨_, ex_l (e.trans e1) hx⟩, fun Dl hD => ?_⟩
  refine lc_list (xs := rs.map V.ref) (Cw H1 (fun _ => true) g Dl) ⟨hD, Ex.new hD, upd_same⟩ (fun i H' _ p => ex_l ((e.trans e1).trans p.2.1) hx) (fun i x H' hi p => ?_) (fun H' p => q Dl H' (fresh_back e1 p.1) (e1.trans p.2.1) p.2.2)
  rw [List.getElem?_map] at hi
  cases hri : rs[i]? with
  | none =>
    rw [hri] at hi
    cases hi
  | some r =>
    rw [hri] at hi
    cases hi
    have hil : i < la.length := by
      rw [← hl]
      exact (List.getElem?_eq_some_iff.mp hri).1
    have ht := ((e.trans e1).trans p.2.1) _ _ (hr i r hri)
    refine ⟨r, _, rfl, st_of ht, rfl, _, _, rfl, _, _, rfl, rfl, ?_⟩
    exact ⟨hw _ _, cw_turn p (by omega) et_yes fun _ => he i H1 (e.trans e1) hil⟩
/-- over a new tuple -/
theorem el_lcNT {xs : List V} {j : Nat} {vs : List Nat} (f : Nat → Bool) (v : Nat → V) (h : EvU tl σ H xs) (hz : xs.length ≤ 40000) (hw : ∀ x, wipe ((wipe σ vs).set j (some x)) vs = wipe σ vs)
    (ht : ∀ (i : Nat) (x : V) H1, Ex H H1 → xs[i]? = some x → EvT t ((wipe σ vs).set j (some x)) H1 (f i)) (he : ∀ (i : Nat) (x : V) H1, Ex H H1 → xs[i]? = some x → f i = true → Ev te ((wipe σ vs).set j (some x)) H1 (v i)) :
    EvL (tLc (iTup K tl) (gName j) t te vs) σ H (given xs.length f v) := fun H0 e Q q => h H0 e _ fun a H1 ha e1 hx => ⟨a, rfl, ⟨xs, st_of hx⟩, fun Dl hD =>
  lc_tup (xs := xs) (Cw H1 f v Dl) ⟨hD, Ex.new hD, upd_same⟩ (fun i H' _ p => st_of (p.2.1 a _ hx)) (fun i x H' hi p => ⟨hw x, cw_turn p (by have := (List.getElem?_eq_some_iff.mp hi).1; omega) (ht i x H1 (e.trans e1) hi) (fun hf => he i x H1 (e.trans e1) hi hf)⟩)
    (fun H' p => q Dl H' (fresh_back e1 p.1) (e1.trans p.2.1) p.2.2)⟩
theorem eu_slT {tlo thi : TO} {a : Addr} {xs : List V} {lo hi : Option Int} (h : Ev te σ H (.ref a)) (h1 : EvO tlo σ H lo) (h2 : EvO thi σ H hi) (hs : SqT K H a xs) (hn : ¬ (HT.sIx xs.length 0 lo = 0 ∧ HT.sIx xs.length xs.length hi = xs.length)) : EvU (tSl (rSlT K) te tlo thi) σ H (cutV xs lo hi) := fun H1 e _ q =>
  h H1 e _ fun H2 e2 => h1 H2 (e.trans e2) _ fun H3 e3 => h2 H3 ((e.trans e2).trans e3) _ fun H4 e4 =>
    ⟨a, xs, rfl, ex_t (((e.trans e2).trans e3).trans e4) hs, hn, fun p hp => q p _ (fresh_back ((e2.trans e3).trans e4) hp) (((e2.trans e3).trans e4).trans (Ex.new hp)) upd_same⟩
theorem q_asgLZ {i : Nat} {tA : TA} {la lb : List Nat} (h : EvA tA σ H [.str (Tx la), .str (Tx lb)]) (hl : la.length = lb.length) (hz : la.length ≤ 1000) (k : ∀ p rs H1, H p = none → Ex H H1 → H1 p = some (.lst (rs.map V.ref)) → rs.length = la.length → Rows H1 [la, lb] rs → tz D (σ.set i (some (.ref p))) H1) :
    tSeq (tAsg (tListZ tA) (gName i)) tz D σ H := h H (Ex.refl _) _ fun H1 e1 => ⟨la, lb, rfl, hl, hz, fun p rs H2 np e2 h2 hl2 hr => k p rs H2 (fresh_back e1 np) (e1.trans e2) h2 hl2 hr⟩
end
theorem given_first {n m : Nat} {v : Nat → V} : given (n + m) (fun i => decide (i < n)) v = given n (fun _ => true) v := by
  induction m with
  | zero =>
    unfold given
    congr 1
    refine List.filter_congr fun i hi => ?_
    rw [Nat.add_zero] at hi
    simp [List.mem_range.mp hi]
  | succ m ih =>
    rw [← Nat.add_assoc, given_no (by simp), ih]
theorem cut_behind {w : V} {xs : List V} : cutV (w :: xs) (some 1) none = xs := by
  unfold cutV
  have h1 : HT.sIx (w :: xs).length 0 (some 1) = 1 := by
    unfold HT.sIx
    simp
  rw [h1, HT.sIx_none]
  simp
theorem cut_not {w : V} {xs : List V} {hi : Option Int} : ¬ (HT.sIx (w :: xs).length 0 (some 1) = 0 ∧ HT.sIx (w :: xs).length (w :: xs).length hi = (w :: xs).length) := fun z => by
  have := z.1
  unfold HT.sIx at this
  simp at this
theorem mix_range {la lb : List Nat} (h : la.length = lb.length) : ((List.range la.length).map fun i => V.str (Tx [mixS (la.getD i 0) (lb.getD i 0)])) = (List.zipWith mixS la lb).map fun c => V.str (Tx [c]) := by
  apply List.ext_getElem
  · simp [h]
  · intro i h1 h2
    simp at h1
    simp [h1, show i < lb.length by omega]
theorem mix_sx {a b : Nat} (ha : a ∈ k3) (hb : b ∈ k3) : mixS a b = if a = b then a else 120 := by
  simp only [k3, List.mem_cons, List.not_mem_nil, or_false] at ha hb
  rcases ha with rfl | rfl | rfl <;> rcases hb with rfl | rfl | rfl <;> decide
theorem ends_int {t : Tm} {i : Nat} {x : V} (h : (ends t)[i]? = some x) : ∃ n : Int, x = .int n := by
  cases t with
  | part a hi lo =>
    match i, h with
    | 0, h => exact ⟨_, (Option.some.inj h).symm⟩
    | 1, h => exact ⟨_, (Option.some.inj h).symm⟩
  | is l => simp [ends] at h
  | of l => simp [ends] at h
  | un w a => simp [ends] at h
  | bi w a b => simp [ends] at h
  | pick c a b => simp [ends] at h
theorem TmAt.isTup {H : Hp} : ∀ {t : Tm} {v : V}, TmAt H t v → ∃ a xs, v = .ref a ∧ H a = some (.tup xs)
  | .is l, _, ⟨a, h1, h2⟩ => ⟨a, _, h1, h2⟩
  | .of x, _, ⟨a, h1, h2⟩ => ⟨a, _, h1, h2⟩
  | .un w s, _, ⟨a, u, h1, h2, h3⟩ => ⟨a, _, h1, h2⟩
  | .bi w s t, _, ⟨a, u, u2, h1, h2, h3, h4⟩ => ⟨a, _, h1, h2⟩
  | .pick c s t, _, ⟨a, u, u1, u2, h1, h2, h3, h4, h5⟩ => ⟨a, _, h1, h2⟩
  | .part s hi lo, _, ⟨a, u, h1, h2, h3⟩ => ⟨a, _, h1, h2⟩
end Dw

set_option Elab.async false
set_option linter.all false
set_option maxRecDepth 100000
namespace Dw
open PySem L2 Evl
theorem unlockB {H H' : Hp} {p d : Addr} {od : Obj} {w : HO} (hd : H d = some w) (e : ExB p (L2.upd H d (.frz od w)) H') : ExB p H (L2.upd H' d w) := fun b o nb hb => by
  by_cases n : b = d
  · rw [n, upd_same]
    rw [n, hd] at hb
    exact hb
  · rw [upd_ne n]
    exact e b o nb (by rw [upd_ne n]; exact hb)
theorem paired_imp {α β : Type} {R S : α → β → Prop} (f : ∀ a b, R a b → S a b) : ∀ {as : List α} {bs : List β}, PySem.Paired R as bs → PySem.Paired S as bs
  | _, _, .nil => .nil
  | _, _, .cons r t => .cons (f _ _ r) (paired_imp f t)
theorem paired_rmap {α β γ : Type} {R : α → γ → Prop} (g : β → γ) : ∀ {as : List α} {bs : List β}, PySem.Paired (fun a b => R a (g b)) as bs → PySem.Paired R as (bs.map g)
  | _, _, .nil => .nil
  | _, _, .cons r t => .cons r (paired_rmap g t)
/-- one name, what it has -/
abbrev YV := Str × List Nat
def rowOf (H : Hp) (r : Addr) (y : YV) : Prop := H r = some (.tup [.str y.1, .str (Tx y.2)])
def fitY (ss : List Nat) (y : YV) (a : Str × Nat) : Prop := y.1 = a.1 ∧ y.2.length = a.2 ∧ ∀ c ∈ y.2, c ∈ ss
abbrev ysK (ys : List YV) : List (Key × V) := ys.map fun y => ((Sum.inr y.1 : Key), V.str (Tx y.2))
theorem fit_names {ss : List Nat} : ∀ {ys : List YV} {ws : List (Str × Nat)}, PySem.Paired (fitY ss) ys ws → ys.map (·.1) = ws.map (·.1)
  | _, _, .nil => rfl
  | _, _, .cons r t => by rw [List.map_cons, List.map_cons, r.1, fit_names t]
def spVals : Sp := fun vs H Q _ => ∃ (p q : Addr) (ss : List Nat) (ws : List (Str × Nat)), vs = [.ref p, .ref q, .str (Tx ss)] ∧ PotAt H p ∧ WsAt H q ws ∧ WsOk ws ∧ ws.length ≤ 1000 ∧ 0 < ss.length ∧ ss.length ≤ 1000 ∧
  ∀ (H' : Hp) (d : Addr) (ys : List YV), ExB p H H' → PotAt H' p → H' d = some (.dK (ysK ys)) → PySem.Paired (fitY ss) ys ws → Q (.ref d) H'
theorem env_of {ss : List Nat} (hs : ∀ c ∈ ss, c ∈ sgn) : ∀ {ys : List YV} {ws : List (Str × Nat)}, PySem.Paired (fitY ss) ys ws → (ws.map (·.1)).Nodup → ∃ E : Str → List Nat, EnvOk ws E ∧ ∀ y ∈ ys, E y.1 = y.2
  | _, _, .nil, _ => ⟨fun _ => [], fun p hp => (by cases hp), fun y hy => by cases hy⟩
  | y :: ys, a :: ws, .cons r t, hn => by
    rw [List.map_cons, List.nodup_cons] at hn
    obtain ⟨E, h1, h2⟩ := env_of hs t hn.2
    refine ⟨fun x => if x = a.1 then y.2 else E x, fun b hb => ?_, fun z hz => ?_⟩
    · rcases List.mem_cons.mp hb with rfl | hb
      · simp only [if_pos rfl]
        exact ⟨fun c hc => hs c (r.2.2 c hc), r.2.1⟩
      · have nb : b.1 ≠ a.1 := fun z => hn.1 (by rw [← z]; exact List.mem_map.mpr ⟨b, hb, rfl⟩)
        simp only [if_neg nb]
        exact h1 b hb
    · rcases List.mem_cons.mp hz with rfl | hz
      · exact if_pos r.1
      · have nb : z.1 ≠ a.1 := fun w => hn.1 (by rw [← w, ← fit_names t]; exact List.mem_map.mpr ⟨z, hz, rfl⟩)
        simp only [if_neg nb]
        exact h2 z hz
/-- the dict has what E says -/
theorem envAt_of {ss : List Nat} {ys : List YV} {ws : List (Str × Nat)} {E : Str → List Nat} {H : Hp} {d : Addr} (hd : H d = some (.dK (ysK ys))) (hp : PySem.Paired (fitY ss) ys ws) (hn : (ws.map (·.1)).Nodup) (hE : ∀ y ∈ ys, E y.1 = y.2) : EnvAt H d ws E := by
  refine ⟨_, hd, fun a ha => ?_⟩
  have hy : ∃ y ∈ ys, y.1 = a.1 := by
    have : a.1 ∈ ys.map (·.1) := by rw [fit_names hp]; exact List.mem_map.mpr ⟨a, ha, rfl⟩
    obtain ⟨y, h1, h2⟩ := List.mem_map.mp this
    exact ⟨y, h1, h2⟩
  obtain ⟨y, h1, h2⟩ := hy
  rw [← h2, hE y h1]
  exact valV_of (k := fun y : YV => y.1) (g := fun y => V.str (Tx y.2)) (by rw [fit_names hp]; exact hn) h1
theorem PotAt.ne' {H : Hp} {p D : Addr} {xs : List V} (h : PotAt H p) (n : H D = some (.tup xs)) : D ≠ p := fun z => by
  obtain ⟨x, y, h1, _⟩ := h
  rw [z, h1] at n
  cases n
theorem p_asgL {σ : L2.St} {H : Hp} {te : TE} {p : Addr} {D : Ends} {tz : TS} {G : List V → Hp → Prop} {i : Nat} (h : EvPL p te σ H G) (hP : PotAt H p) (k : ∀ g xs H1, H g = none → ExB p H H1 → PotAt H1 p → H1 g = some (.lst xs) → G xs H1 → tz D (σ.set i (some (.ref g))) H1) : tSeq (tAsg te (gName i)) tz D σ H := h H (ExB.refl _ _) hP _ fun g xs H1 n e hP1 hg g1 => k g xs H1 n e hP1 hg g1
theorem q_lcR3 {σ : L2.St} {H : Hp} {te : TE} {D : Ends} {tz : TS} {n j i : Nat} {vs : List Nat} {a b c : Int} {tA : TA} (hA : EvA tA σ H [.int a, .int b, .int c]) (hr : RgC a b c n) (Pv : Hp → Addr → Nat → Hp → Prop) (h0 : ∀ H1 Dl, Ex H H1 → H1 Dl = none → Pv H1 Dl 0 (L2.upd H1 Dl (.lst [])))
    (hs : ∀ H1 Dl k H2, Ex H H1 → H1 Dl = none → k < n → Pv H1 Dl k H2 → wipe ((wipe σ vs).set j (some (.int (a + (k : Int) * c)))) vs = wipe σ vs ∧ te ((wipe σ vs).set j (some (.int (a + (k : Int) * c)))) H2 fun y H4 => ∃ acc, H4 Dl = some (.lst acc) ∧ acc.length < sizeLine ∧ Pv H1 Dl (k + 1) (L2.upd H4 Dl (.lst (acc ++ [y]))))
    (hd : ∀ H1 Dl H2, Ex H H1 → H1 Dl = none → Pv H1 Dl n H2 → tz D (σ.set i (some (.ref Dl))) H2) : tSeq (tAsg (tLc (iRng3 tA) (gName j) tYes te vs) (gName i)) tz D σ H :=
  hA H (Ex.refl _) _ fun H1 e1 => ⟨a, b, c, n, rfl, hr, fun Dl hD => lc_it walk_rangeC (Pv H1 Dl) (h0 H1 Dl e1 hD) (fun _ _ _ _ => True.intro) (fun k x H2 H3 hk p y => by
    obtain ⟨rfl, rfl⟩ := y
    exact hs H1 Dl k H3 e1 hD hk p) (fun H2 p => hd H1 Dl H2 e1 hD p)⟩
/-! ### great terms -/
def TmG (ws : List (Str × Nat)) (m n : Nat) : V → Hp → Prop := fun v H => ∃ t, TmAt H t v ∧ Wd ws t m ∧ dep t ≤ n
theorem TmG.mono {ws : List (Str × Nat)} {m n : Nat} {v : V} {H H' : Hp} (h : TmG ws m n v H) (e : ExT H H') : TmG ws m n v H' := let ⟨t, a, b, c⟩ := h; ⟨t, TmAt.mono e a, b, c⟩
def spGreat : Sp := fun vs H Q _ => ∃ (p : Addr) (x : Str) (w : Nat) (ws : List (Str × Nat)), vs = [.ref p, .str x] ∧ PotAt H p ∧ (x, w) ∈ ws ∧ WsOk ws ∧ ∀ (H' : Hp) (v : V), ExB p H H' → PotAt H' p → (∃ m, TmG ws m 11 v H') → Q v H'
def lens : Nat → Nat
  | 0 => 20
  | 1 => 10
  | 2 => 5
  | 3 => 3
  | 4 => 2
  | _ => 1
theorem lens_step {j L : Nat} (hj : j ≤ 5) (h : L ≤ lens j) (h1 : 1 < L) : j + 1 ≤ 5 ∧ L / 2 + L % 2 ≤ lens (j + 1) := by
  match j, hj with
  | 0, _ => simp [lens] at h ⊢; omega
  | 1, _ => simp [lens] at h ⊢; omega
  | 2, _ => simp [lens] at h ⊢; omega
  | 3, _ => simp [lens] at h ⊢; omega
  | 4, _ => simp [lens] at h ⊢; omega
  | 5, _ => simp [lens] at h; omega
theorem rg2 : ∀ L : Fin 32, 1 < L.val → RgC 0 ((L.val : Int) - 1) 2 (L.val / 2) := by
  unfold RgC
  decide +kernel
/-- [e for k in range(n)], what e gives kept by its own rules -/
theorem evp_lcR2 {σ : L2.St} {H : Hp} {te : TE} {p : Addr} {G : V → Hp → Prop} {lo m : Int} {j : Nat} {vs : List Nat} {tn : TE} (hn : EvP p tn σ H fun v _ => ∃ d : Int, v = .int d ∧ lo ≤ d ∧ d ≤ m) (hl : 0 ≤ lo) (hm : m ≤ 40000) (hw : ∀ x, wipe ((wipe σ vs).set j (some x)) vs = wipe σ vs)
    (he : ∀ (i : Nat) H1, ExB p H H1 → (i : Int) < m → EvP p te ((wipe σ vs).set j (some (.int (i : Int)))) H1 G) (hg : ∀ v H1 H2, ExB p H1 H2 → PotAt H1 p → G v H1 → G v H2) (hg2 : ∀ v H1 D xs ys, H1 D = some (.lst xs) → G v H1 → G v (L2.upd H1 D (.lst ys))) :
    EvPL p (tLc (iRng1 (tCons tn tNil)) (gName j) tYes te vs) σ H (fun xs H2 => lo ≤ (xs.length : Int) ∧ (xs.length : Int) ≤ m ∧ ∀ x ∈ xs, G x H2) := fun H1 e hP Q q => by
  refine hn H1 e hP _ fun v H2 e2 hP2 ⟨d, hv, d0, d1⟩ => ⟨d, by rw [hv], by omega, by omega, fun Dl hD => ?_⟩
  have nD := hP2.ne hD
  refine lc_range (lo := 0) (n := d.toNat) (fun i H4 => ExB p H2 H4 ∧ PotAt H4 p ∧ ∃ xs : List V, H4 Dl = some (.lst xs) ∧ xs.length = i ∧ ∀ x ∈ xs, G x H4)
    ⟨ExB.of (Ex.new hD), hP2.ex (Ex.new hD), [], upd_same, rfl, fun x hx => by cases hx⟩ (fun i H4 hi hv => ?_) (fun H4 hv => ?_)
  · obtain ⟨e4, hP4, xs, h4, hn4, hs⟩ := hv
    refine ⟨?_, ?_⟩
    · exact hw _
    · have e0 : (0 : Int) + (i : Int) = (i : Int) := Int.zero_add _
      show te ((wipe σ vs).set j (some (.int ((0 : Int) + (i : Int))))) H4 _
      rw [e0]
      refine he i H4 ((e.trans e2).trans e4) (by omega) H4 (ExB.refl _ _) hP4 _ fun y H5 e5 hP5 g5 => ?_
      have h5 := e5 Dl _ nD h4
      refine ⟨xs, h5, sz_lt (by omega), (e4.trans e5).mut hD, hP5.upd nD, xs ++ [y], upd_same, by rw [List.length_append, hn4]; rfl, fun z hz => ?_⟩
      rcases List.mem_append.mp hz with h | h
      · exact hg2 z _ _ _ _ h5 (hg z _ _ e5 hP4 (hs z h))
      · rw [List.mem_singleton.mp h]
        exact hg2 y _ _ _ _ h5 g5
  · obtain ⟨e4, hP4, xs, h4, hn4, hs⟩ := hv
    exact q Dl xs H4 (by
      cases hx : H1 Dl with
      | none => rfl
      | some o =>
        have := e2 Dl o nD hx
        rw [hD] at this
        cases this) (e2.trans e4) hP4 h4 ⟨by omega, by omega, hs⟩
theorem exB_of_C {H H1 H2 : Hp} {p r : Addr} (e1 : Ex H H1) (hr : H r = none) (e2 : ExC p r H1 H2) : ExB p H H2 := fun b o nb hb => e2 b o nb (ne_of_none hb hr) (e1 b o hb)
def wdRow (H : Hp) (r : Addr) (a : Str × Nat) : Prop := H r = some (.tup [.str a.1, .int (a.2 : Int)])
/-- a dict of what the names have, as it was drawn -/
def DcG (ws : List (Str × Nat)) : V → Hp → Prop := fun v H => ∃ d ys ss, v = .ref d ∧ H d = some (.dK (ysK ys)) ∧ PySem.Paired (fitY ss) ys ws ∧ ∀ c ∈ ss, c ∈ sgn
theorem DcG.ex {ws : List (Str × Nat)} {v : V} {H H' : Hp} (h : DcG ws v H) (e : Ex H H') : DcG ws v H' := let ⟨d, ys, ss, a, b, c⟩ := h; ⟨d, ys, ss, a, e _ _ b, c⟩
theorem mem_cut {xs : List V} {lo hi : Option Int} {v : V} (h : v ∈ cutV xs lo hi) : v ∈ xs := by
  unfold cutV at h
  exact List.mem_of_mem_drop (List.mem_of_mem_take h)
theorem cut_len {xs : List V} {lo hi : Option Int} : (cutV xs lo hi).length ≤ xs.length := by
  unfold cutV
  rw [List.length_take, List.length_drop]
  omega
end Dw

set_option Elab.async false
set_option linter.all false
set_option maxRecDepth 100000
set_option maxHeartbeats 2000000
namespace Dw
open PySem L2 Evl
/-! ### {**a, **b} -/
section
variable {prog : Program} {w : World} {κ : Type} [DecidableEq κ] {knd : KeyKind prog w κ} {A : Around} {E : Value → Shared → Prop} {s : Shared}
theorem wp_dictPut {d : Addr} {kvs : List (κ × Value)} {k : κ} {key v : Value} {Q : Unit → Shared → Prop} (hk : knd.is k key = true) (hD : Heap.DictOf knd s.heap d kvs) (hz : kvs.length ≤ sizeLine)
    (h : ∀ h', Heap.DictOf knd h' d (stored kvs k v) → Heap.SameBut d s.heap h' → Q () { heap := h', gens := s.gens, drawn := s.drawn, toks := s.toks, os := s.os }) : wpAny (model prog w) A (dictPut d (knd.hash k) key v) Q E s := by
  obtain ⟨o, es, ep, ho, hx, hdat, hks, hp, hn⟩ := hD
  have hsz : es.size = kvs.length := by
    have := hp.length
    rw [Array.length_toList] at this
    exact this
  have hfi : es.findIdx? (fun e => knd.is k e.key) = kvs.findIdx? (fun kv => decide (kv.1 = k)) := by
    rw [← hp.findIdx k]
    cases es
    simp
  obtain ⟨oc, od, odat, osl⟩ := o
  simp only at hdat
  subst hdat
  obtain ⟨x1, x2, x3⟩ := hx
  simp only at x1 x2 x3
  subst x1 x2 x3
  unfold dictPut
  refine wpAny_bind (wpAny_dictFind_of hk ho rfl hks ?_)
  cases hf : es.findIdx? (fun e => knd.is k e.key) with
  | none =>
    have hst : stored kvs k v = kvs ++ [(k, v)] := by
      unfold stored
      rw [hfi] at hf
      rw [if_neg]
      intro hany
      rw [List.findIdx?_eq_none_iff] at hf
      obtain ⟨x, hx1, hx2⟩ := List.any_eq_true.mp hany
      rw [hf x hx1] at hx2
      cases hx2
    have hnk : k ∉ kvs.map (·.1) := fun hm => by
      rw [hfi, List.findIdx?_eq_none_iff] at hf
      obtain ⟨x, hx1, rfl⟩ := List.mem_map.mp hm
      have := hf x hx1
      simp at this
    refine wpAny_updateDictKeys ho rfl (h _ ?_ (Heap.SameBut.update _ _ _)) (by omega) (by simp)
    refine ⟨⟨.type "dict", none, .dict (es.push { hash := knd.hash k, key := key, val := v }) (ep + 1), #[]⟩, _, _, Heap.get?_update_self _ ho rfl, ⟨rfl, rfl, rfl⟩, rfl, hks.push hk v, ?_, ?_⟩
    · rw [hst]
      have := hp.append hk (knd.hash k) v
      simpa using this
    · rw [hst, List.map_append]
      exact List.nodup_append.mpr ⟨hn, by simp, fun a ha b hb => by
        have hb : b = k := by simpa using hb
        rw [hb]
        exact fun z => hnk (z ▸ ha)⟩
  | some i =>
    have hst : stored kvs k v = kvs.map fun kv => if kv.1 = k then (kv.1, v) else kv := by
      unfold stored
      rw [hfi] at hf
      rw [if_pos]
      obtain ⟨hi, h2, _⟩ := List.findIdx?_eq_some_iff_getElem.mp hf
      exact List.any_eq_true.mpr ⟨_, List.getElem_mem hi, h2⟩
    have hf2 : es.toList.findIdx? (fun e => knd.is k e.key) = some i := by rw [← hf]; cases es; simp
    refine wpAny_updateDict ho rfl (h _ ?_ (Heap.SameBut.update _ _ _)) (by simp)
    refine ⟨⟨.type "dict", none, .dict (es.modify i fun e => { hash := e.hash, key := e.key, val := v }) ep, #[]⟩, _, _, Heap.get?_update_self _ ho rfl, ⟨rfl, rfl, rfl⟩, rfl, hks.modify i v, ?_, ?_⟩
    · rw [hst, Array.toList_modify]
      exact hp.modify hn hf2 v
    · rw [hst, List.map_map]
      have : ((fun x : κ × Value => x.1) ∘ fun kv : κ × Value => if kv.1 = k then (kv.1, v) else kv) = fun x => x.1 := by
        funext x
        show (if x.1 = k then (x.1, v) else x).1 = x.1
        split <;> rfl
      rw [this]
      exact hn
theorem wp_mergeMapping {d o : Addr} {kvs more : List (κ × Value)} {Q : Unit → Shared → Prop} (ne : d ≠ o) (hs : (o == sysModules) = false) (hd : Heap.DictOf knd s.heap d kvs) (ho : Heap.DictOf knd s.heap o more) (hz : kvs.length + more.length ≤ sizeLine)
    (h : ∀ h', Heap.DictOf knd h' d (merged kvs more) → Heap.DictOf knd h' o more → Heap.SameBut d s.heap h' → Q () { heap := h', gens := s.gens, drawn := s.drawn, toks := s.toks, os := s.os }) : wpAny (model prog w) A (mergeMapping d (.ref o) false) Q E s := by
  unfold mergeMapping
  refine wpAny_bind (wpAny_isInstance ho.typeIs (b := true) (by kernel_rfl) ?_)
  dsimp only
  rw [if_pos rfl]
  refine wpAny_bind (wpAny_specialOf ho.typeIs (r := some (.builtin "dict.__iter__")) (by kernel_rfl) ?_)
  refine wpAny_bind (wpAny_pure ?_)
  rw [show (some (Value.builtin "dict.__iter__") == some (Value.builtin "dict.__iter__")) = true by decide +kernel]
  dsimp only
  rw [if_neg (by rw [hs]; simp)]
  obtain ⟨od, esd, epd, hod, _, hdd, _, _, _⟩ := id hd
  obtain ⟨oo, eso, epo, hoo, _, hdo, hko, hpo, _⟩ := id ho
  have hlen : eso.size = more.length := by
    have := hpo.length
    rw [Array.length_toList] at this
    exact this
  refine wpAny_bind (wpAny_dictEntries hod hdd ?_)
  have loop : wpAny (model prog w) A (do
      let __do_lift ← dictEntries o
      let epoch ← dictEpoch o
      forIn (List.range __do_lift.size) PUnit.unit fun i __s => do
          let __do_lift ← dictEntries o
          match __do_lift[i]? with
            | some e => do
              holding [e.key, e.val]
                  (if false = true then do
                    let __do_lift ← dictFind d e.key e.hash
                    if __do_lift.isSome = true then do
                        rule "dict.merge.duplicate-key"
                        let __do_lift ← newExc (Value.type "KeyError") [e.key]
                        raiseNew __do_lift
                        dictPut d e.hash e.key e.val
                      else dictPut d e.hash e.key e.val
                  else dictPut d e.hash e.key e.val)
              let __do_lift ← dictEpoch o
              if (__do_lift != epoch) = true then do
                  unsupported "dict.changed-during-merge"
                  pure (ForInStep.yield PUnit.unit)
                else pure (ForInStep.yield PUnit.unit)
            | x => do
              unsupported "dict.changed-during-merge"
              pure (ForInStep.yield PUnit.unit)
      pure ()) Q E s := by
    refine wpAny_bind (wpAny_dictEntries hoo hdo ?_)
    refine wpAny_bind (wpAny_dictEpoch hoo hdo ?_)
    refine wpAny_bind ?_
    refine wpAny_forIn_list _ (fun rest _ s' => ∃ (i : Nat) (h' : Heap), i + rest.length = eso.size ∧ rest = List.range' i rest.length ∧ s' = { heap := h', gens := s.gens, drawn := s.drawn, toks := s.toks, os := s.os } ∧ Heap.DictOf knd h' d (merged kvs (more.take i)) ∧ Heap.SameBut d s.heap h') (fun s' => fun x => wpAny (model prog w) A (pure ()) Q E x) ?_ ?_ _ _ ?_
    · rintro x rest _ s' ⟨i, h', hi, hr, rfl, hD, hsb⟩
      rw [List.length_cons, List.range'_succ] at hr
      obtain ⟨rfl, hr⟩ := List.cons.inj hr
      rw [List.length_cons] at hi
      have hlt : x < eso.size := by omega
      have hoo' : h'.get? o = some oo := by rw [hsb.2 o ne.symm]; exact hoo
      refine wpAny_bind (wpAny_dictEntries (s := ⟨h', s.gens, s.drawn, s.toks, s.os⟩) hoo' hdo ?_)
      have he : eso[x]? = some eso[x] := by simp [hlt]
      rw [he]
      dsimp only
      obtain ⟨⟨k, v⟩, hkv⟩ : ∃ kv, more[x]? = some kv := ⟨more[x], by simp [← hlen, hlt]⟩
      obtain ⟨g1, g2⟩ := hpo.get? (i := x) (e := eso[x]) (by simp [hlt]) hkv
      obtain ⟨k', g3, g4⟩ := hko eso[x] (Array.getElem_mem hlt)
      have hkk : k' = k := knd.inj _ _ _ g3 g1
      subst hkk
      refine wpAny_bind (wpAny_holding ?_)
      rw [if_neg (by simp), g4, g2]
      have hl := merged_length_le kvs (more.take x)
      have hlt2 : (more.take x).length ≤ more.length := by rw [List.length_take]; exact Nat.min_le_right _ _
      refine wp_dictPut g1 hD (by omega) fun h2 hD2 hs2 => ?_
      have hoo2 : h2.get? o = some oo := by rw [hs2.2 o ne.symm]; exact hoo'
      refine wpAny_bind (wpAny_dictEpoch (s := ⟨h2, s.gens, s.drawn, s.toks, s.os⟩) hoo2 hdo ?_)
      rw [if_neg (by simp)]
      refine wpAny_pure ⟨x + 1, h2, by omega, hr, rfl, ?_, hsb.trans hs2⟩
      rw [merged_take_succ kvs more x (k', v) hkv]
      exact hD2
    · rintro _ s' ⟨i, h', hi, _, rfl, hD, hsb⟩
      refine wpAny_pure ?_
      have hi : i = more.length := by simpa [hlen] using hi
      rw [hi, List.take_length] at hD
      exact h h' hD (ho.sameBut hsb ne.symm) hsb
    · refine ⟨0, s.heap, by simp, by simp [List.range_eq_range'], rfl, ?_, Heap.SameBut.refl _ _⟩
      rw [List.take_zero]
      exact hd
  by_cases hE : esd.isEmpty = true
  · rw [if_pos hE]
    refine wpAny_bind (wpAny_dictEntries hoo hdo ?_)
    refine wpAny_bind ?_
    refine wpAny_forIn_array' _ (fun rest _ s' => s' = s ∧ ∀ e ∈ rest, e ∈ eso.toList) (fun _ s' => wpAny (model prog w) A _ Q E s') ?_ ?_ _ _ ⟨rfl, fun e he => he⟩
    · rintro x rest _ s' ⟨rfl, hx⟩
      have hm : x ∈ eso := by
        have := hx x (List.mem_cons_self ..)
        simpa using this
      obtain ⟨k, g3, _⟩ := hko x hm
      have hby := knd.byValue _ _ g3
      obtain ⟨xh, xk, xv⟩ := x
      dsimp only at hby ⊢
      cases xk with
      | ref a => cases hby
      | _ => exact wpAny_pure ⟨rfl, fun e he => hx e (List.mem_cons_of_mem _ he)⟩
    · rintro _ s' ⟨rfl, _⟩
      exact loop
  · rw [if_neg hE]
    exact loop
end
end Dw
namespace Dw
open PySem L2 Evl
def tMerge2 (t1 t2 : TE) : TE := fun σ H Q => ∀ p, H p = none → t1 σ (L2.upd H p (.dK [])) fun x H1 => ∃ a ka, x = .ref a ∧ a ≠ p ∧ H1 a = some (.dK ka) ∧ H1 p = some (.dK []) ∧ ka.length ≤ 10000 ∧
  t2 σ (L2.upd H1 p (.dK (mergeK [] ka))) fun y H2 => ∃ b kb, y = .ref b ∧ b ≠ p ∧ H2 b = some (.dK kb) ∧ H2 p = some (.dK (mergeK [] ka)) ∧ kb.length ≤ 10000 ∧ Q (.ref p) (L2.upd H2 p (.dK (mergeK (mergeK [] ka) kb)))
theorem putK_le (c : List (Key × V)) (k : Key) (x : V) : (putK c k x).length ≤ c.length + 1 := by
  unfold putK
  split
  · rw [List.length_map]
    omega
  · rw [List.length_append, List.length_singleton]
    omega
theorem mergeK_le (a b : List (Key × V)) : (mergeK a b).length ≤ a.length + b.length := by
  unfold mergeK
  induction b generalizing a with
  | nil => simp
  | cons x r ih =>
    rw [List.foldl_cons, List.length_cons]
    have h1 := ih (putK a x.1 x.2)
    have h2 := putK_le a x.1 x.2
    omega
theorem pe_merge2 {X : Cx} {e1 e2 : Expr} {t1 t2 : TE} {pos : Pos} (h1 : PE X e1 t1) (h2 : PE X e2 t2) : PE X (.Dict [none, none] [e1, e2] pos) (tMerge2 t1 t2) := by
  refine ⟨fun pins s σ H Q I hq => ?_⟩
  rw [arm_eval_Dict]
  refine wpAny_bind (wpAny_standAt ?_)
  show wpAny _ _ (dictDisplay [(none, do let x ← eval e1 X.env; standAt pos; pure x), (none, do let x ← eval e2 X.env; standAt pos; pure x)]) _ _ _
  unfold dictDisplay
  simp only [List.forIn_cons, List.forIn_nil]
  have szl : sizeLine = 16777216 := by decide
  have fresh : H s.heap.objs.size = none := I.hok.fresh (Nat.le_refl _)
  have hbig := I.big
  have hsys : (s.heap.objs.size == sysModules) = false := by
    have : s.heap.objs.size ≠ sysModules := fun z => by rw [z] at hbig; exact Nat.lt_irrefl _ hbig
    simpa using this
  have hq := hq _ fresh
  generalize hp : s.heap.objs.size = p at fresh hsys hq
  refine wpAny_bind ?_
  refine wpAny_bind ?_
  refine wpAny_bind ?_
  rw [if_pos (show ([] : List (Sem Value × Sem Value)).isEmpty = true from rfl)]
  refine wpAny_pure ?_
  dsimp only
  refine wpAny_bind (wpAny_alloc ?_)
  rw [hp]
  have I0 : Inv X pins σ (L2.upd H p (.dK [])) { heap := s.heap.push { cls := Value.type "dict", data := Data.dict #[] }, gens := s.gens, drawn := s.drawn, toks := s.toks, os := s.os } := by
    have hnew := Heap.DictOf.new (knd := mixKind X.prog X.w) s.heap
    rw [hp] at hnew
    exact I.laid (t' := s.toks) (fun b u e => Heap.get?_push_of_some _ e) (by omega) (dk_new (by simp) hsys .nil hnew)
  refine wpAny_bind (wpAny_holding (wpAny_bind ?_))
  refine thn (h1.run pins _ σ _ _ I0 hq) fun u s1 ⟨x, H1, I1, rx, a, ka, hx, hap, ha, hp1, hz, q1⟩ => ?_
  subst hx
  cases (show u = Value.ref a from rx)
  refine wpAny_bind (wpAny_standAt (wpAny_pure ?_))
  obtain ⟨la, sa, va, kva, da⟩ := dk_of I1.hok ha
  obtain ⟨lp, sp, vp, kvp, dp⟩ := dk_of I1.hok hp1
  have hva := kva.length
  have hvp := kvp.length
  refine wpAny_bind (wpAny_onRaise (wpAny_tryCatch (wpAny_onRaise (wpAny_holding (wp_mergeMapping (knd := mixKind X.prog X.w) (fun z => hap z.symm) sa dp da (by rw [← hva, ← hvp, List.length_nil]; omega) fun h' dp' da' sb => ?_)))))
  have l1 := mergeK_le [] ka
  rw [List.length_nil] at l1
  have I2 : Inv X pins σ (L2.upd H1 p (.dK (mergeK [] ka))) { heap := h', gens := s1.gens, drawn := s1.drawn, toks := s1.toks, os := s1.os } := by
    refine I1.write (x := p) (e := p) (by rw [hp1]; trivial) (.inl rfl) (fun b u hb e => by rw [sb.2 b hb]; exact e) ?_ (dk_new (by omega) hsys (kva.merge kvp) dp')
    obtain ⟨o, _, _, ho, _⟩ := dp'
    exact ⟨o, ho⟩
  refine wpAny_pure ?_
  dsimp only
  refine wpAny_bind ?_
  refine wpAny_bind ?_
  rw [if_pos (show ([] : List (Sem Value × Sem Value)).isEmpty = true from rfl)]
  refine wpAny_pure ?_
  dsimp only
  refine wpAny_bind (wpAny_pure ?_)
  refine wpAny_bind (wpAny_holding (wpAny_bind ?_))
  refine thn (h2.run pins _ σ _ _ I2 q1) fun u s2 ⟨y, H2, I3, ry, b, kb, hy, hbp, hb, hp2, hz2, q2⟩ => ?_
  subst hy
  cases (show u = Value.ref b from ry)
  refine wpAny_bind (wpAny_standAt (wpAny_pure ?_))
  obtain ⟨lb, sb2, vb, kvb, db⟩ := dk_of I3.hok hb
  obtain ⟨lp2, sp2, vp2, kvp2, dp2⟩ := dk_of I3.hok hp2
  have hvb := kvb.length
  have hvp2 := kvp2.length
  refine wpAny_bind (wpAny_onRaise (wpAny_tryCatch (wpAny_onRaise (wpAny_holding (wp_mergeMapping (knd := mixKind X.prog X.w) (fun z => hbp z.symm) sb2 dp2 db (by rw [← hvb, ← hvp2]; omega) fun h3 dp3 db3 sb3 => ?_)))))
  have l2 := mergeK_le (mergeK [] ka) kb
  have I4 : Inv X pins σ (L2.upd H2 p (.dK (mergeK (mergeK [] ka) kb))) { heap := h3, gens := s2.gens, drawn := s2.drawn, toks := s2.toks, os := s2.os } := by
    refine I3.write (x := p) (e := p) (by rw [hp2]; trivial) (.inl rfl) (fun b u hb e => by rw [sb3.2 b hb]; exact e) ?_ (dk_new (by omega) hsys (kvb.merge kvp2) dp3)
    obtain ⟨o, _, _, ho, _⟩ := dp3
    exact ⟨o, ho⟩
  refine wpAny_pure ?_
  dsimp only
  refine wpAny_pure ?_
  dsimp only
  refine wpAny_bind ?_
  rw [if_pos (show ([] : List (Sem Value × Sem Value)).isEmpty = true from rfl)]
  refine wpAny_pure ?_
  dsimp only
  exact wpAny_pure ⟨.ref p, _, I4, rfl, q2⟩
end Dw
namespace Dw
open PySem L2 Evl
/-! ### d.update(e) -/
def rUpd : V → List V → Hp → VK → Prop := fun x xs H Q => ∃ (a b : Addr) (ka kb : List (Key × V)), x = .ref a ∧ xs = [.ref b] ∧ a ≠ b ∧ H a = some (.dK ka) ∧ H b = some (.dK kb) ∧ ka.length + kb.length ≤ 10000 ∧ Q .non (L2.upd H a (.dK (mergeK ka kb)))
theorem mt_update {X : Cx} : MtR X "dict.update" rUpd := by
  intro pins s σ H x xs v us Q I rx rel h
  obtain ⟨a, b, ka, kb, rfl, rfl, ne, ha, hb, hz, q⟩ := h
  cases (show v = Value.ref a from rx)
  obtain ⟨u, rfl, ru⟩ := vals1 rel
  cases (show u = Value.ref b from ru)
  have szl : sizeLine = 16777216 := by decide
  obtain ⟨la, sa, va, kva, da⟩ := dk_of I.hok ha
  obtain ⟨lb, sb, vb, kvb, db⟩ := dk_of I.hok hb
  have hva := kva.length
  have hvb := kvb.length
  have l1 := mergeK_le ka kb
  refine call_meetsIn (T := "dict") (name := Str.ofString "update") PySem.F.slot_dict_update da.typeIs (B := Builtin.«dict.update») (by kernel_rfl) ?_ (meets_dict_update (mixKind X.prog X.w) a b ne sb) ⟨va, vb, da, db, by omega, fun h' dp' db' sbut => ?_⟩
  · first | (exact rfl) | (kernel_rfl) | (unfold argsOk; kernel_rfl) | (unfold argsOk; rfl)
  · refine ⟨.non, L2.upd H a (.dK (mergeK ka kb)), ?_, rfl, q⟩
    refine I.write (x := a) (e := a) (by rw [ha]; trivial) (.inl rfl) (fun b u hb e => by rw [sbut.2 b hb]; exact e) ?_ (dk_new (by omega) sa (kvb.merge kva) dp')
    obtain ⟨o, _, _, ho, _⟩ := dp'
    exact ⟨o, ho⟩
end Dw

set_option Elab.async false
set_option linter.all false
set_option maxRecDepth 100000
set_option maxHeartbeats 2000000
namespace Dw
open PySem L2 Evl
/-! ### bodies -/
inductive Bdy where
  | nil
  | set (l : Bool) (x : Str) (t : Tm) (r : Bdy)
  | cond (t : Tm) (a b r : Bdy)
def wayS (l : Bool) : Str := if l then Str.ofString "later" else Str.ofString "now"
def BdAt (H : Hp) : Bdy → List V → Prop
  | .nil, vs => vs = []
  | .set l x t r, vs => ∃ a v us, vs = .ref a :: us ∧ H a = some (.tup [.str (wayS l), .str x, v]) ∧ TmAt H t v ∧ BdAt H r us
  | .cond t a b r, vs => ∃ s v p q va vb us, vs = .ref s :: us ∧ H s = some (.tup [.str (Str.ofString "if"), v, .ref p, .ref q]) ∧ TmAt H t v ∧ H p = some (.tup va) ∧ BdAt H a va ∧ H q = some (.tup vb) ∧ BdAt H b vb ∧ BdAt H r us
theorem BdAt.mono {H H' : Hp} (e : ExT H H') : ∀ {b : Bdy} {vs : List V}, BdAt H b vs → BdAt H' b vs
  | .nil, _, h => h
  | .set _ _ _ _, _, ⟨a, v, us, h1, h2, h3, h4⟩ => ⟨a, v, us, h1, e _ _ h2, h3.mono e, h4.mono e⟩
  | .cond _ _ _ _, _, ⟨s, v, p, q, va, vb, us, h1, h2, h3, h4, h5, h6, h7, h8⟩ => ⟨s, v, p, q, va, vb, us, h1, e _ _ h2, h3.mono e, e _ _ h4, h5.mono e, e _ _ h6, h7.mono e, h8.mono e⟩
theorem BdAt.ex {H H' : Hp} {b : Bdy} {vs : List V} (h : BdAt H b vs) (e : Ex H H') : BdAt H' b vs := h.mono (ExT.of e)
def nest : Bdy → Nat
  | .nil => 0
  | .set _ _ _ r => nest r
  | .cond _ a b r => max (1 + max (nest a) (nest b)) (nest r)
def szB : Bdy → Nat
  | .nil => 0
  | .set _ _ _ r => 1 + szB r
  | .cond _ a b r => 1 + szB a + szB b + szB r
theorem BdAt.len {H : Hp} : ∀ {b : Bdy} {vs : List V}, BdAt H b vs → vs.length ≤ szB b
  | .nil, _, h => by
    rw [show _ = ([] : List V) from h]
    exact Nat.le_refl _
  | .set _ _ _ _, _, ⟨a, v, us, h1, _, _, h4⟩ => by
    have := h4.len
    rw [h1, List.length_cons, szB]
    omega
  | .cond _ _ _ _, _, ⟨s, v, p, q, va, vb, us, h1, _, _, _, _, _, _, h8⟩ => by
    have := h8.len
    rw [h1, List.length_cons, szB]
    omega
def WdB (ws : List (Str × Nat)) : Bdy → Prop
  | .nil => True
  | .set _ x t r => (∃ m, (x, m) ∈ ws ∧ Wd ws t m ∧ dep t ≤ 11) ∧ WdB ws r
  | .cond t a b r => (Wd ws t 1 ∧ dep t ≤ 11) ∧ WdB ws a ∧ WdB ws b ∧ WdB ws r
/-! ### values by names -/
def putY (ys : List YV) (x : Str) (l : List Nat) : List YV := if (ys.any fun y => decide (y.1 = x)) = true then ys.map fun y => if y.1 = x then (y.1, l) else y else ys ++ [(x, l)]
def getY (ys : List YV) (x : Str) : Option (List Nat) := (ys.find? fun y => decide (y.1 = x)).map (·.2)
def mrgY (a b : List YV) : List YV := b.foldl (fun acc y => putY acc y.1 y.2) a
theorem ysK_any (ys : List YV) (x : Str) : ((ysK ys).any fun kv => decide (kv.1 = (Sum.inr x : Key))) = ys.any fun y => decide (y.1 = x) := by
  unfold ysK
  rw [List.any_map]
  congr 1
  funext y
  exact decide_eq_decide.mpr ⟨fun h => Sum.inr.inj h, fun h => congrArg Sum.inr h⟩
theorem ysK_put (ys : List YV) (x : Str) (l : List Nat) : putK (ysK ys) (Sum.inr x : Key) (V.str (Tx l)) = ysK (putY ys x l) := by
  unfold putK putY
  rw [ysK_any]
  split
  · unfold ysK
    rw [List.map_map, List.map_map]
    refine List.map_congr_left fun y _ => ?_
    show (if (Sum.inr y.1 : Key) = Sum.inr x then ((Sum.inr y.1 : Key), V.str (Tx l)) else (Sum.inr y.1, V.str (Tx y.2))) = (Sum.inr (if y.1 = x then (y.1, l) else y).1, V.str (Tx (if y.1 = x then (y.1, l) else y).2))
    by_cases h : y.1 = x
    · rw [if_pos h, if_pos (congrArg Sum.inr h)]
    · rw [if_neg h, if_neg (fun z => h (Sum.inr.inj z))]
  · unfold ysK
    rw [List.map_append]
    rfl
theorem ysK_val : ∀ (ys : List YV) (x : Str), valV (ysK ys) (Sum.inr x : Key) = (getY ys x).map fun l => V.str (Tx l)
  | [], x => rfl
  | y :: ys, x => by
    have ih := ysK_val ys x
    by_cases h : y.1 = x
    · rw [show ysK (y :: ys) = ((Sum.inr y.1 : Key), V.str (Tx y.2)) :: ysK ys from rfl, valV_pos (by rw [h])]
      unfold getY
      rw [List.find?_cons_of_pos (by simpa using h)]
      rfl
    · rw [show ysK (y :: ys) = ((Sum.inr y.1 : Key), V.str (Tx y.2)) :: ysK ys from rfl, valV_neg (fun z => h (Sum.inr.inj z)), ih]
      unfold getY
      rw [List.find?_cons_of_neg (by simpa using h)]
theorem ysK_mrg (a : List YV) : ∀ b : List YV, mergeK (ysK a) (ysK b) = ysK (mrgY a b) := by
  intro b
  induction b generalizing a with
  | nil => rfl
  | cons y b ih =>
    show mergeK (putK (ysK a) (Sum.inr y.1) (V.str (Tx y.2))) (ysK b) = ysK (mrgY (putY a y.1 y.2) b)
    rw [ysK_put, ih]
theorem putY_new {ys : List YV} {x : Str} {l : List Nat} (h : x ∉ ys.map (·.1)) : putY ys x l = ys ++ [(x, l)] := by
  unfold putY
  rw [if_neg]
  intro z
  obtain ⟨y, hy, e⟩ := List.any_eq_true.mp z
  exact h (List.mem_map.mpr ⟨y, hy, of_decide_eq_true e⟩)
theorem mrg_app (b : List YV) : ∀ a : List YV, ((a ++ b).map (·.1)).Nodup → mrgY a b = a ++ b := by
  induction b with
  | nil =>
    intro a _
    rw [List.append_nil]
    rfl
  | cons y b ih =>
    intro a h
    show mrgY (putY a y.1 y.2) b = _
    have hn : y.1 ∉ a.map (·.1) := fun z => by
      rw [List.map_append, List.map_cons, List.nodup_append] at h
      exact h.2.2 _ z _ (List.mem_cons_self ..) rfl
    rw [putY_new hn, ih (a ++ [(y.1, y.2)]) (by rw [List.append_assoc]; exact h), List.append_assoc]
    rfl
theorem mrg_nil {b : List YV} (h : (b.map (·.1)).Nodup) : mrgY [] b = b := mrg_app b [] h
theorem putY_keys (ys : List YV) (x : Str) (l : List Nat) : (putY ys x l).map (·.1) = if x ∈ ys.map (·.1) then ys.map (·.1) else ys.map (·.1) ++ [x] := by
  by_cases h : x ∈ ys.map (·.1)
  · rw [if_pos h]
    unfold putY
    rw [if_pos (by
      obtain ⟨y, hy, e⟩ := List.mem_map.mp h
      exact List.any_eq_true.mpr ⟨y, hy, decide_eq_true e⟩), List.map_map]
    refine List.map_congr_left fun y _ => ?_
    show (if y.1 = x then (y.1, l) else y).1 = y.1
    split <;> rfl
  · rw [if_neg h, putY_new h, List.map_append]
    rfl
theorem putY_nd {ys : List YV} {x : Str} {l : List Nat} (h : (ys.map (·.1)).Nodup) : ((putY ys x l).map (·.1)).Nodup := by
  rw [putY_keys]
  split
  · exact h
  · rename_i hx
    exact List.nodup_append.mpr ⟨h, by simp, fun a ha b hb => by
      rw [List.mem_singleton.mp hb]
      exact fun z => hx (z ▸ ha)⟩
theorem putY_mem {ys : List YV} {x : Str} {l : List Nat} {y : YV} (h : y ∈ putY ys x l) : y ∈ ys ∨ y = (x, l) := by
  unfold putY at h
  split at h
  · obtain ⟨z, hz, rfl⟩ := List.mem_map.mp h
    split
    · rename_i e
      exact .inr (by rw [e])
    · exact .inl hz
  · rcases List.mem_append.mp h with h | h
    · exact .inl h
    · exact .inr (List.mem_singleton.mp h)
theorem mrg_nd : ∀ (b a : List YV), (a.map (·.1)).Nodup → ((mrgY a b).map (·.1)).Nodup
  | [], _, h => h
  | y :: b, a, h => mrg_nd b (putY a y.1 y.2) (putY_nd h)
theorem mrg_mem : ∀ (b a : List YV) (y : YV), y ∈ mrgY a b → y ∈ a ∨ y ∈ b
  | [], _, _, h => .inl h
  | z :: b, a, y, h => by
    rcases mrg_mem b (putY a z.1 z.2) y h with h | h
    · rcases putY_mem h with h | h
      · exact .inl h
      · exact .inr (by rw [h]; exact List.mem_cons_self ..)
    · exact .inr (List.mem_cons_of_mem _ h)
theorem getY_mem {ys : List YV} {x : Str} {l : List Nat} (h : getY ys x = some l) : (x, l) ∈ ys := by
  unfold getY at h
  cases hf : ys.find? fun y => decide (y.1 = x) with
  | none => rw [hf] at h; cases h
  | some y =>
    rw [hf] at h
    have e : y.2 = l := Option.some.inj h
    have h1 : y.1 = x := by
      have := List.find?_some hf
      simpa using this
    have h2 := List.mem_of_find?_eq_some hf
    rw [← h1, ← e]
    exact h2
theorem getY_of {ys : List YV} {x : Str} {l : List Nat} (hn : (ys.map (·.1)).Nodup) (h : (x, l) ∈ ys) : getY ys x = some l := by
  induction ys with
  | nil => cases h
  | cons y ys ih =>
    rw [List.map_cons, List.nodup_cons] at hn
    unfold getY
    rcases List.mem_cons.mp h with h | h
    · rw [List.find?_cons_of_pos (by rw [← h]; simp), ← h]
      rfl
    · have hne : ¬ y.1 = x := fun z => hn.1 (List.mem_map.mpr ⟨_, h, z.symm⟩)
      rw [List.find?_cons_of_neg (by simpa using hne)]
      exact ih hn.2 h
theorem getY_none {ys : List YV} {x : Str} (h : x ∉ ys.map (·.1)) : getY ys x = none := by
  cases hg : getY ys x with
  | none => rfl
  | some l => exact absurd (List.mem_map.mpr ⟨_, getY_mem hg, rfl⟩) h
theorem getY_put {ys : List YV} (hn : (ys.map (·.1)).Nodup) (x y : Str) (l : List Nat) : getY (putY ys x l) y = if y = x then some l else getY ys y := by
  by_cases h : y = x
  · rw [if_pos h, h]
    refine getY_of (putY_nd hn) ?_
    unfold putY
    split
    · rename_i ha
      obtain ⟨z, hz, e⟩ := List.any_eq_true.mp ha
      have e : z.1 = x := of_decide_eq_true e
      exact List.mem_map.mpr ⟨z, hz, by rw [if_pos e, e]⟩
    · exact List.mem_append_right _ (List.mem_singleton.mpr rfl)
  · rw [if_neg h]
    cases hg : getY ys y with
    | some k =>
      refine getY_of (putY_nd hn) ?_
      have hm := getY_mem hg
      unfold putY
      split
      · exact List.mem_map.mpr ⟨_, hm, if_neg h⟩
      · exact List.mem_append_left _ hm
    | none =>
      refine getY_none fun hm => ?_
      obtain ⟨z, hz, e⟩ := List.mem_map.mp hm
      rcases putY_mem hz with h2 | h2
      · have := getY_of hn (x := z.1) (l := z.2) h2
        rw [e, hg] at this
        cases this
      · rw [h2] at e
        exact h e.symm
theorem getY_mrg : ∀ (b a : List YV), (b.map (·.1)).Nodup → (a.map (·.1)).Nodup → ∀ x, getY (mrgY a b) x = (getY b x).or (getY a x)
  | [], a, _, _, x => by
    show getY a x = (none : Option (List Nat)).or (getY a x)
    rfl
  | y :: b, a, hb, ha, x => by
    rw [List.map_cons, List.nodup_cons] at hb
    have ih := getY_mrg b (putY a y.1 y.2) hb.2 (putY_nd ha) x
    show getY (mrgY (putY a y.1 y.2) b) x = _
    rw [ih, getY_put ha]
    by_cases h : x = y.1
    · subst h
      rw [if_pos rfl, getY_none hb.1]
      unfold getY
      rw [List.find?_cons_of_pos (by simp)]
      rfl
    · rw [if_neg h]
      have : getY (y :: b) x = getY b x := by
        unfold getY
        rw [List.find?_cons_of_neg (by simpa using fun z => h z.symm)]
      rw [this]
/-! ### what is set -/
theorem nodup_le {α : Type} [DecidableEq α] : ∀ {l m : List α}, l.Nodup → (∀ a ∈ l, a ∈ m) → l.length ≤ m.length
  | [], m, _, _ => by simp
  | a :: l, m, hn, h => by
    rw [List.nodup_cons] at hn
    have ha := h a (List.mem_cons_self ..)
    have ih := nodup_le (l := l) (m := m.erase a) hn.2 fun b hb => (List.mem_erase_of_ne (fun (z : b = a) => hn.1 (z ▸ hb))).mpr (h b (List.mem_cons_of_mem _ hb))
    rw [List.length_erase_of_mem ha] at ih
    have : 0 < m.length := List.length_pos_of_mem ha
    rw [List.length_cons]
    omega
def StOk (ws : List (Str × Nat)) (N : List YV) : Prop := (N.map (·.1)).Nodup ∧ ∀ y ∈ N, ∃ m, (y.1, m) ∈ ws ∧ y.2.length = m ∧ Sg y.2
theorem StOk.put {ws : List (Str × Nat)} {N : List YV} (h : StOk ws N) {x : Str} {m : Nat} {l : List Nat} (hx : (x, m) ∈ ws) (hl : l.length = m) (hs : Sg l) : StOk ws (putY N x l) := ⟨putY_nd h.1, fun y hy => by
  rcases putY_mem hy with h2 | rfl
  · exact h.2 y h2
  · exact ⟨m, hx, hl, hs⟩⟩
theorem StOk.len {ws : List (Str × Nat)} {N : List YV} (h : StOk ws N) : N.length ≤ ws.length := by
  have := nodup_le (l := N.map (·.1)) (m := ws.map (·.1)) h.1 fun x hx => by
    obtain ⟨y, hy, rfl⟩ := List.mem_map.mp hx
    obtain ⟨m, hm, _⟩ := h.2 y hy
    exact List.mem_map.mpr ⟨_, hm, rfl⟩
  rw [List.length_map, List.length_map] at this
  exact this
def ovE (E : Str → List Nat) (N : List YV) : Str → List Nat := fun x => (getY N x).getD (E x)
theorem ws_one {ws : List (Str × Nat)} (h : WsOk ws) {x : Str} {m n : Nat} (h1 : (x, m) ∈ ws) (h2 : (x, n) ∈ ws) : m = n := by
  have hn := h.1
  clear h
  induction ws with
  | nil => cases h1
  | cons p ws ih =>
    rw [List.map_cons, List.nodup_cons] at hn
    rcases List.mem_cons.mp h1 with e1 | h1
    · rcases List.mem_cons.mp h2 with e2 | h2
      · rw [← e2] at e1
        exact (Prod.mk.inj e1).2
      · exact absurd (List.mem_map.mpr ⟨_, h2, by rw [← e1]⟩) hn.1
    · rcases List.mem_cons.mp h2 with e2 | h2
      · exact absurd (List.mem_map.mpr ⟨_, h1, by rw [← e2]⟩) hn.1
      · exact ih h1 h2 hn.2
theorem env_ov {ws : List (Str × Nat)} {E : Str → List Nat} {N : List YV} (h : WsOk ws) (he : EnvOk ws E) (hN : StOk ws N) : EnvOk ws (ovE E N) := fun p hp => by
  unfold ovE
  cases hg : getY N p.1 with
  | none => exact he p hp
  | some l =>
    obtain ⟨m, h1, h2, h3⟩ := hN.2 _ (getY_mem hg)
    have := ws_one h (x := p.1) h1 hp
    exact ⟨h3, h2.trans this⟩
/-- the dict of all values -/
def VlAt (H : Hp) (d : Addr) (ws : List (Str × Nat)) (E : Str → List Nat) : Prop := ∃ vl : List YV, H d = some (.dK (ysK vl)) ∧ (vl.map (·.1)).Nodup ∧ vl.length ≤ 1000 ∧ ∀ a ∈ ws, getY vl a.1 = some (E a.1)
theorem VlAt.ex {H H' : Hp} {d : Addr} {ws : List (Str × Nat)} {E : Str → List Nat} (h : VlAt H d ws E) (e : Ex H H') : VlAt H' d ws E := let ⟨vl, a, b⟩ := h; ⟨vl, e _ _ a, b⟩
def mixY (E : Str → List Nat) (a b : List YV) : List YV := (mrgY a b).map fun y => (y.1, List.zipWith mixS ((getY a y.1).getD (E y.1)) ((getY b y.1).getD (E y.1)))
theorem mixY_keys (E : Str → List Nat) (a b : List YV) : (mixY E a b).map (·.1) = (mrgY a b).map (·.1) := by
  unfold mixY
  rw [List.map_map]
  rfl
theorem mix_sg {a b : List Nat} : Sg (List.zipWith mixS a b) := sx_sg (sx_zip mix_k3)
theorem mix_ok {ws : List (Str × Nat)} {E : Str → List Nat} {a b : List YV} (h : WsOk ws) (he : EnvOk ws E) (ha : StOk ws a) (hb : StOk ws b) : StOk ws (mixY E a b) := by
  refine ⟨by rw [mixY_keys]; exact mrg_nd b a ha.1, fun y hy => ?_⟩
  obtain ⟨z, hz, rfl⟩ := List.mem_map.mp hy
  have hm : ∃ m, (z.1, m) ∈ ws := by
    rcases mrg_mem b a z hz with h1 | h1
    · obtain ⟨m, h2, _⟩ := ha.2 z h1
      exact ⟨m, h2⟩
    · obtain ⟨m, h2, _⟩ := hb.2 z h1
      exact ⟨m, h2⟩
  obtain ⟨m, hm⟩ := hm
  have l1 := env_ov h he ha _ hm
  have l2 := env_ov h he hb _ hm
  unfold ovE at l1 l2
  refine ⟨m, hm, ?_, mix_sg⟩
  show (List.zipWith mixS _ _).length = m
  rw [List.length_zipWith, l1.2, l2.2]
  exact Nat.min_self _
/-- what a body sets now, and tells for later -/
def doneB (E : Str → List Nat) : Bdy → List YV × List YV → List YV × List YV
  | .nil, s => s
  | .set false x t r, s => doneB E r (putY s.1 x (val (ovE E s.1) t), s.2)
  | .set true x t r, s => doneB E r (s.1, putY s.2 x (val (ovE E s.1) t))
  | .cond t a b r, s => doneB E r (if val (ovE E s.1) t = [49] then doneB E a s else if val (ovE E s.1) t = [48] then doneB E b s else (mixY E (doneB E a s).1 (doneB E b s).1, mixY E (doneB E a s).2 (doneB E b s).2))
def St2 (ws : List (Str × Nat)) (s : List YV × List YV) : Prop := StOk ws s.1 ∧ StOk ws s.2
theorem done_ok {ws : List (Str × Nat)} {E : Str → List Nat} (h : WsOk ws) (he : EnvOk ws E) : ∀ (b : Bdy) (s : List YV × List YV), WdB ws b → St2 ws s → St2 ws (doneB E b s)
  | .nil, _, _, hs => hs
  | .set false x t r, s, ⟨⟨m, hm, hw, _⟩, hr⟩, hs => by
    have hv := val_ok (env_ov h he hs.1) hw
    exact done_ok h he r _ hr ⟨hs.1.put hm hv.2 (sx_sg hv.1), hs.2⟩
  | .set true x t r, s, ⟨⟨m, hm, hw, _⟩, hr⟩, hs => by
    have hv := val_ok (env_ov h he hs.1) hw
    exact done_ok h he r _ hr ⟨hs.1, hs.2.put hm hv.2 (sx_sg hv.1)⟩
  | .cond t a b r, s, ⟨_, ha, hb, hr⟩, hs => by
    have h1 := done_ok h he a s ha hs
    have h2 := done_ok h he b s hb hs
    refine done_ok h he r _ hr ?_
    split
    · exact h1
    · split
      · exact h2
      · exact ⟨mix_ok h he h1.1 h2.1, mix_ok h he h1.2 h2.2⟩
/-- a new dict -/
def EvDk (te : TE) (σ : L2.St) (H : Hp) (kvs : List (Key × V)) : Prop := ∀ H1, Ex H H1 → ∀ Q : VK, (∀ p H2, H1 p = none → Ex H1 H2 → H2 p = some (.dK kvs) → Q (.ref p) H2) → te σ H1 Q
section
variable {K : PySem.W.Frag} {σ : L2.St} {H H' : Hp} {ta tb te tl : TE} {a b : Addr} {A B : List YV}
theorem em_merge (h1 : Ev ta σ H (.ref a)) (h2 : Ev tb σ H (.ref b)) (ha : H a = some (.dK (ysK A))) (hb : H b = some (.dK (ysK B))) (hA : (A.map (·.1)).Nodup) (zA : A.length ≤ 10000) (zB : B.length ≤ 10000) : EvDk (tMerge2 ta tb) σ H (ysK (mrgY A B)) := fun H1 e Q q p np => by
  have e1 : Ex H1 (L2.upd H1 p (.dK [])) := Ex.new np
  have ha1 := e _ _ ha
  have hb1 := e _ _ hb
  have nap : a ≠ p := fun z => by rw [z, np] at ha1; cases ha1
  have nbp : b ≠ p := fun z => by rw [z, np] at hb1; cases hb1
  have eA : mergeK [] (ysK A) = ysK A := by
    have := ysK_mrg [] A
    rw [mrg_nil hA] at this
    exact this
  refine h1 _ (e.trans e1) _ fun H2 e2 => ⟨a, ysK A, rfl, nap, e2 _ _ (e1 _ _ ha1), e2 _ _ upd_same, by unfold ysK; rw [List.length_map]; exact zA, ?_⟩
  have x2 : Ex H1 (L2.upd H2 p (.dK (mergeK [] (ysK A)))) := fun c o hc => by
    rw [upd_ne (fun z => by rw [z, np] at hc; cases hc)]
    exact e2 _ _ (e1 _ _ hc)
  refine h2 _ (e.trans x2) _ fun H3 e3 => ⟨b, ysK B, rfl, nbp, e3 _ _ (x2 _ _ hb1), e3 _ _ upd_same, by unfold ysK; rw [List.length_map]; exact zB, ?_⟩
  rw [eA, ysK_mrg]
  refine q p _ np (fun c o hc => ?_) upd_same
  rw [upd_ne (fun z => by rw [z, np] at hc; cases hc)]
  exact e3 _ _ (x2 _ _ hc)
end
theorem env_mrg {H : Hp} {p : Addr} {ws : List (Str × Nat)} {E : Str → List Nat} {vl N : List YV} (hp : H p = some (.dK (ysK (mrgY vl N)))) (hv : (vl.map (·.1)).Nodup) (hN : (N.map (·.1)).Nodup) (hE : ∀ a ∈ ws, getY vl a.1 = some (E a.1)) : EnvAt H p ws (ovE E N) := by
  refine ⟨_, hp, fun a ha => ?_⟩
  rw [ysK_val, getY_mrg N vl hN hv, hE a ha]
  unfold ovE
  cases getY N a.1 <;> rfl
end Dw

set_option Elab.async false
set_option linter.all false
set_option maxRecDepth 100000
set_option maxHeartbeats 2000000
namespace Dw
open PySem L2 Evl
section
variable {K : PySem.W.Frag} {σ : L2.St} {H H' : Hp} {ta tb te tl tv : TE} {D : Ends} {tz tu : TS}
theorem q_asgDk {i : Nat} {kvs : List (Key × V)} (h : EvDk te σ H kvs) (k : ∀ p H1, H p = none → Ex H H1 → H1 p = some (.dK kvs) → tz D (σ.set i (some (.ref p))) H1) : tSeq (tAsg te (gName i)) tz D σ H := h H (Ex.refl _) _ fun p H1 np e hp => k p H1 np e hp
theorem s_retDk {kvs : List (Key × V)} (h : EvDk te σ H kvs) (k : ∀ p H1, H p = none → Ex H H1 → H1 p = some (.dK kvs) → D.rt (.ref p) H1) : tRet te D σ H := h H (Ex.refl _) _ fun p H1 np e hp => k p H1 np e hp
/-- {k: e for k in d}, the dict locked -/
theorem ed_lockDc {d : Addr} {ys : List YV} {f : YV → List Nat} {j : Nat} {vs : List Nat} (hd : H d = some (.dK (ysK ys))) (h : ∀ H1, Ev tl σ H1 (.ref d)) (hn : (ys.map (·.1)).Nodup) (hz : ys.length ≤ 40000) (hw : ∀ x, wipe ((wipe σ vs).set j (some x)) vs = wipe σ vs)
    (hj : ∀ x, ((wipe σ vs).set j (some x))[j]? = some (some x)) (he : ∀ (y : YV) H1, y ∈ ys → Ex H (L2.upd H1 d (.dK (ysK ys))) → (∃ od, H1 d = some (.frz od (.dK (ysK ys)))) → Ev tv ((wipe σ vs).set j (some (.str y.1))) H1 (.str (Tx (f y)))) :
    EvDk (tLockE (tDc (iKeys tl) (gName j) tYes (tVar j) tv vs)) σ H (ysK (ys.map fun y => (y.1, f y))) := fun H0 e0 Q q => by
  have hd0 := e0 _ _ hd
  refine ⟨d, .dK (ysK ys), hd0, trivial, fun od => ?_⟩
  refine h _ _ (Ex.refl _) _ fun H1 e1 => ⟨d, od, rfl, .inl ⟨ysK ys, e1 _ _ upd_same, fun Dl hD => ?_⟩⟩
  have nd : Dl ≠ d := fun z => by
    rw [z, e1 _ _ upd_same] at hD
    cases hD
  have nH : H0 Dl = none := by
    have := fresh_back e1 hD
    rw [upd_ne nd] at this
    exact this
  refine ⟨fun i m G => m = ys.length - i ∧ i ≤ ys.length ∧ Ex H1 G ∧ G Dl = some (.dK (ysK ((ys.take i).map fun y => (y.1, f y)))), ⟨_, rfl, Nat.zero_le _, Ex.new hD, upd_same⟩, ?_⟩
  rintro i m G ⟨rfl, hi, x1, hG⟩
  have hs : (ysK ys).length = ys.length := List.length_map _
  by_cases hlt : i < ys.length
  · refine .inr ⟨?_, fun G' => Ex H1 G' ∧ G' Dl = some (.dK (ysK ((ys.take (i + 1)).map fun y => (y.1, f y)))), fun G' p => ⟨_, by omega, rfl, hlt, p.1, p.2⟩, fun x G' y => ?_⟩
    · exact ⟨x1 _ _ (e1 _ _ upd_same), by rw [hs]; exact hlt⟩
    · obtain ⟨rfl, k, x2, hk, rfl⟩ := y
      have hy : ys[i]? = some ys[i] := List.getElem?_eq_getElem hlt
      have hym : ys[i] ∈ ys := List.getElem_mem hlt
      generalize ys[i] = yi at hy hym
      have hk2 : (Sum.inr yi.1 : Key) = k := by
        unfold ysK at hk
        rw [List.getElem?_map, hy] at hk
        exact (Prod.mk.inj (Option.some.inj hk)).1
      subst hk2
      have xu : Ex H (L2.upd G' d (.dK (ysK ys))) := e0.trans (unlock hd0 (e1.trans x1))
      refine ⟨hw _, ?_⟩
      show ∃ v, ((wipe σ vs).set j (some (kV (Sum.inr yi.1))))[j]? = some (some v) ∧ _
      refine ⟨_, hj _, he yi G' hym xu ⟨od, x1 _ _ (e1 _ _ upd_same)⟩ G' (Ex.refl _) _ fun H5 e5 => ?_⟩
      have h5 := e5 _ _ hG
      have htk : (ys.take (i + 1)).map (fun y => (y.1, f y)) = ((ys.take i).map fun y => (y.1, f y)) ++ [(yi.1, f yi)] := by
        rw [List.take_add_one, hy, Option.toList_some, List.map_append]
        rfl
      refine ⟨_, Sum.inr yi.1, rfl, h5, ?_, Ex.mut (x1.trans e5) hD, ?_⟩
      · unfold ysK
        rw [List.length_map, List.length_map, List.length_take]
        exact sz_lt (by omega)
      · rw [upd_same, ysK_put, putY_new, htk]
        intro hm
        rw [List.map_map] at hm
        obtain ⟨z, hz1, hz2⟩ := List.mem_map.mp hm
        have hnd : ((ys.take i ++ [yi]).map (·.1)).Nodup := by
          have : ys.take i ++ [yi] = ys.take (i + 1) := by rw [List.take_add_one, hy]; rfl
          rw [this]
          exact hn.sublist ((List.take_sublist _ _).map _)
        rw [List.map_append, List.nodup_append] at hnd
        exact hnd.2.2 _ (List.mem_map.mpr ⟨z, hz1, rfl⟩) _ (List.mem_singleton.mpr rfl) hz2
  · have ei : i = ys.length := by omega
    subst ei
    rw [List.take_length] at hG
    refine .inl ⟨?_, ?_⟩
    · exact ⟨x1 _ _ (e1 _ _ upd_same), by rw [hs]; exact Nat.le_refl _⟩
    · refine ⟨x1 _ _ (e1 _ _ upd_same), q Dl _ nH (unlock hd0 (e1.trans x1)) ?_⟩
      rw [upd_ne nd]
      exact hG
end
end Dw
namespace Dw
open PySem L2 Evl
def condB (E : Str → List Nat) (t : Tm) (a b : Bdy) (s : List YV × List YV) : List YV × List YV := if val (ovE E s.1) t = [49] then doneB E a s else if val (ovE E s.1) t = [48] then doneB E b s else (mixY E (doneB E a s).1 (doneB E b s).1, mixY E (doneB E a s).2 (doneB E b s).2)
theorem done_cond (E : Str → List Nat) (t : Tm) (a b r : Bdy) (s : List YV × List YV) : doneB E (.cond t a b r) s = doneB E r (condB E t a b s) := rfl
/-- two dicts ahead, handed in -/
def AhAt (H : Hp) (ah : Addr) (s : List YV × List YV) : Prop := ∃ dn dl, H ah = some (.tup [.ref dn, .ref dl]) ∧ H dn = some (.dK (ysK s.1)) ∧ H dl = some (.dK (ysK s.2))
theorem AhAt.ex {H H' : Hp} {ah : Addr} {s : List YV × List YV} (h : AhAt H ah s) (e : Ex H H') : AhAt H' ah s := let ⟨a, b, h1, h2, h3⟩ := h; ⟨a, b, e _ _ h1, e _ _ h2, e _ _ h3⟩
/-- two new dicts -/
def OutAt (H H' : Hp) (r : Addr) (s : List YV × List YV) : Prop := ∃ a b, H' r = some (.tup [.ref a, .ref b]) ∧ H a = none ∧ H b = none ∧ a ≠ b ∧ H' a = some (.dK (ysK s.1)) ∧ H' b = some (.dK (ysK s.2))
theorem OutAt.back {H H1 H' : Hp} {r : Addr} {s : List YV × List YV} (h : OutAt H1 H' r s) (e : Ex H H1) : OutAt H H' r s := let ⟨a, b, h1, h2, h3, h4⟩ := h; ⟨a, b, h1, fresh_back e h2, fresh_back e h3, h4⟩
theorem OutAt.ex {H H' H2 : Hp} {r : Addr} {s : List YV × List YV} (h : OutAt H H' r s) (e : Ex H' H2) : OutAt H H2 r s := let ⟨a, b, h1, h2, h3, h4, h5, h6⟩ := h; ⟨a, b, e _ _ h1, h2, h3, h4, e _ _ h5, e _ _ h6⟩
theorem OutAt.ah {H H' : Hp} {r : Addr} {s : List YV × List YV} (h : OutAt H H' r s) : AhAt H' r s := let ⟨a, b, h1, _, _, _, h5, h6⟩ := h; ⟨a, b, h1, h5, h6⟩
structure Scene (H : Hp) (dv : Addr) (ws : List (Str × Nat)) (E : Str → List Nat) : Prop where
  ok : WsOk ws
  sz : ws.length ≤ 1000
  en : EnvOk ws E
  vl : VlAt H dv ws E
theorem Scene.ex {H H' : Hp} {dv : Addr} {ws : List (Str × Nat)} {E : Str → List Nat} (h : Scene H dv ws E) (e : Ex H H') : Scene H' dv ws E := ⟨h.ok, h.sz, h.en, h.vl.ex e⟩
def spMixV : Sp := fun vs H Q _ => ∃ (c : V) (a b dv : Addr) (A B : List YV) (ws : List (Str × Nat)) (E : Str → List Nat), vs = [c, .ref a, .ref b, .ref dv] ∧ H a = some (.dK (ysK A)) ∧ H b = some (.dK (ysK B)) ∧ Scene H dv ws E ∧ StOk ws A ∧ StOk ws B ∧ ∀ (p : Addr) H', H p = none → Ex H H' → H' p = some (.dK (ysK (mixY E A B))) → Q (.ref p) H'
def spBB (qv qm : Addr) (n : Nat) : Sp := fun vs H Q _ => ∃ (bt dv ah : Addr) (us : List V) (b : Bdy) (ws : List (Str × Nat)) (E : Str → List Nat) (s : List YV × List YV), vs = [.ref bt, .ref dv, .ref ah, .ref qv, .ref qm] ∧ H bt = some (.tup us) ∧ BdAt H b us ∧ nest b ≤ n ∧ szB b ≤ 1000 ∧ WdB ws b ∧ Scene H dv ws E ∧ AhAt H ah s ∧ St2 ws s ∧
  ∀ (r : Addr) H', Ex H H' → OutAt H H' r (doneB E b s) → Q (.ref r) H'
def spBI (qv qm : Addr) (n : Nat) : Sp := fun vs H Q _ => ∃ (st dv ah : Addr) (v : V) (p q : Addr) (ua ub : List V) (t : Tm) (a b : Bdy) (ws : List (Str × Nat)) (E : Str → List Nat) (s : List YV × List YV), vs = [.ref st, .ref dv, .ref ah, .ref qv, .ref qm] ∧ H st = some (.tup [.str (Str.ofString "if"), v, .ref p, .ref q]) ∧ TmAt H t v ∧ H p = some (.tup ua) ∧ BdAt H a ua ∧ H q = some (.tup ub) ∧ BdAt H b ub ∧
  nest a ≤ n ∧ nest b ≤ n ∧ szB a ≤ 1000 ∧ szB b ≤ 1000 ∧ (Wd ws t 1 ∧ dep t ≤ 11) ∧ WdB ws a ∧ WdB ws b ∧ Scene H dv ws E ∧ AhAt H ah s ∧ St2 ws s ∧ ∀ (r : Addr) H', Ex H H' → OutAt H H' r (condB E t a b s) → Q (.ref r) H'
def spBIP (qv qm : Addr) : Nat → Sp
  | 0 => fun _ _ _ _ => False
  | n + 1 => spBI qv qm n
def spBD : Sp := fun vs H Q _ => ∃ (bt dv : Addr) (us : List V) (b : Bdy) (ws : List (Str × Nat)) (E : Str → List Nat), vs = [.ref bt, .ref dv] ∧ H bt = some (.tup us) ∧ BdAt H b us ∧ nest b ≤ 4 ∧ szB b ≤ 1000 ∧ WdB ws b ∧ Scene H dv ws E ∧ ∀ (r : Addr) H', Ex H H' → OutAt H H' r (doneB E b ([], [])) → Q (.ref r) H'
section
variable {K : PySem.W.Frag} {σ : L2.St} {H H' : Hp} {ta tb tc te tx td t1 t2 t3 : TE} {D : Ends} {tz tu : TS} {S : Addr → Option Sp} {f a b d : Addr} {i : Nat}
theorem rd_ex {H H' : Hp} {a : Addr} {kvs : List (Key × V)} (h : Rd H a (.dK kvs)) (e : Ex H H') : Rd H' a (.dK kvs) := h.imp (fun h => e _ _ h) fun ⟨o, h⟩ => ⟨o, e _ _ h⟩
theorem ev_get2 {ys : List YV} {x : Str} {l : List Nat} (ha : Ev ta σ H (.ref a)) (hd : Rd H a (.dK (ysK ys))) (hk : Ev tb σ H (.str x)) (hz : Ev tx σ H (.str (Tx l))) : Ev (tDGet2 ta tb tx) σ H (.str (Tx ((getY ys x).getD l))) := fun H1 e Q q =>
  ha H1 e _ fun H2 e2 => ⟨a, rfl, .inl ⟨_, rd_ex hd (e.trans e2)⟩, hk H2 (e.trans e2) _ fun H3 e3 => hz H3 ((e.trans e2).trans e3) _ fun H4 e4 => ⟨_, .inl ⟨_, Sum.inr x, rd_ex hd (((e.trans e2).trans e3).trans e4), rfl, rfl⟩, by
    rw [ysK_val]
    have := q H4 ((e2.trans e3).trans e4)
    cases hg : getY ys x with
    | none => rw [hg] at this; exact this
    | some k => rw [hg] at this; exact this⟩⟩
/-- told(term, {**values, **now}) -/
theorem ev_told {t : Tm} {v : V} {m : Nat} {ws : List (Str × Nat)} {E : Str → List Nat} {N : List YV} (hi : σ[i]? = some (some (.ref f))) (hS : S f = some (spVT 11)) (h1 : Ev t1 σ H v) (hT : TmAt H t v) (hd : dep t ≤ 11) (hw : Wd ws t m) (sc : Scene H d ws E) (h2 : Ev t2 σ H (.ref d)) (h3 : Ev t3 σ H (.ref a)) (ha : H a = some (.dK (ysK N))) (hN : StOk ws N) :
    Ev (tCallA i S (tCons t1 (tCons (tMerge2 t2 t3) tNil))) σ H (.str (Tx (val (ovE E N) t))) := fun H1 e Q q => by
  obtain ⟨vl, hv, hvn, hvl, hE⟩ := sc.vl
  have hNl := hN.len
  have hsz := sc.sz
  refine ⟨f, spVT 11, hi, hS, h1 H1 e _ fun H2 e2 => em_merge h2 h3 hv ha hvn (by omega) (by omega) H2 (e.trans e2) _ fun p H3 np e3 hp => ?_⟩
  exact ⟨v, p, t, m, ws, ovE E N, rfl, hT.ex ((e.trans e2).trans e3), hd, hw, sc.ok, env_ov sc.ok sc.en hN, env_mrg hp hvn hN.1 hE, fun H4 e4 => q H4 ((e2.trans e3).trans e4)⟩
/-- chosen(choice, one[k], other[k], values) -/
theorem em_chosen {c : V} {A B : List YV} {ws : List (Str × Nat)} {E : Str → List Nat} (hi : σ[i]? = some (some (.ref f))) (hS : S f = some spMixV) (h1 : Ev t1 σ H c) (h2 : Ev t2 σ H (.ref a)) (h3 : Ev t3 σ H (.ref b)) (h4 : Ev td σ H (.ref d)) (ha : H a = some (.dK (ysK A))) (hb : H b = some (.dK (ysK B))) (sc : Scene H d ws E) (hA : StOk ws A) (hB : StOk ws B) :
    EvDk (tCallA i S (tCons t1 (tCons t2 (tCons t3 (tCons td tNil))))) σ H (ysK (mixY E A B)) := fun H1 e Q q => by
  refine ⟨f, spMixV, hi, hS, h1 H1 e _ fun H2 e2 => h2 H2 (e.trans e2) _ fun H3 e3 => h3 H3 ((e.trans e2).trans e3) _ fun H4 e4 => h4 H4 (((e.trans e2).trans e3).trans e4) _ fun H5 e5 => ?_⟩
  have x := (((e.trans e2).trans e3).trans e4).trans e5
  have x1 := (e2.trans (e3.trans (e4.trans e5)))
  exact ⟨c, a, b, d, A, B, ws, E, rfl, x _ _ ha, x _ _ hb, sc.ex x, hA, hB, fun p H' np e6 hp => q p H' (fresh_back x1 np) (x1.trans e6) hp⟩
end
end Dw
namespace Dw
open PySem L2 Evl
section
variable {K : PySem.W.Frag} {σ : L2.St} {H H' : Hp} {ta tb tc te tx td ty tv t1 t2 t3 tl : TE} {D : Ends} {tz tu : TS} {a : Addr}
theorem s_retPair {k1 k2 : List (Key × V)} (h1 : EvDk t1 σ H k1) (h2 : EvDk t2 σ H k2) (kk : ∀ r p1 p2 H', Ex H H' → H p1 = none → H p2 = none → p1 ≠ p2 → H' r = some (.tup [.ref p1, .ref p2]) → H' p1 = some (.dK k1) → H' p2 = some (.dK k2) → D.rt (.ref r) H') : tRet (tTup (tCons t1 (tCons t2 tNil))) D σ H := by
  refine h1 H (Ex.refl _) _ fun p1 H1 np1 e1 hp1 => h2 H1 e1 _ fun p2 H2 np2 e2 hp2 => ⟨(by show 2 ≤ sizeLine; decide), fun r nr => ?_⟩
  refine kk r p1 p2 _ (e1.trans (e2.trans (Ex.new nr))) np1 (fresh_back e1 np2) (fun z => ?_) upd_same ((Ex.new nr) _ _ (e2 _ _ hp1)) ((Ex.new nr) _ _ hp2)
  rw [z, np2] at hp1
  cases hp1
theorem em_copy {kvs : List (Key × V)} (h : Ev te σ H (.ref a)) (hd : H a = some (.dK kvs)) : EvDk (tCB (fun xs H Q => ∃ (a : Addr) (kvs : List (Key × V)), xs = [.ref a] ∧ Rd H a (.dK kvs) ∧ ∀ p, H p = none → Q (.ref p) (L2.upd H p (.dK kvs))) (tCons te tNil)) σ H kvs := fun H1 e Q q =>
  h H1 e _ fun H2 e2 => ⟨a, kvs, rfl, .inl (e2 _ _ (e _ _ hd)), fun p np => q p _ (fresh_back e2 np) (e2.trans (Ex.new np)) upd_same⟩
theorem q_forT {j : Nat} {xs : List V} (h : Ev tl σ H (.ref a)) (hx : H a = some (.tup xs)) (Pv : Nat → L2.St → Hp → Prop) (h0 : ∀ H1, Ex H H1 → Pv 0 σ H1) (hk : ∀ i σ' H', Pv i σ' H' → H' a = some (.tup xs))
    (hs : ∀ i x σ' H', xs[i]? = some x → Pv i σ' H' → tu { D with nx := Pv (i + 1), ct := Pv (i + 1), bk := tz D } (σ'.set j (some x)) H') (hd : ∀ σ' H', Pv xs.length σ' H' → tz D σ' H') : tSeq (tFor (iTup K tl) (gName j) tu) tz D σ H :=
  h H (Ex.refl _) _ fun H1 e => ⟨a, rfl, ⟨xs, st_of (e _ _ hx)⟩, for_tup (D := { D with nx := tz D }) (xs := xs) Pv (h0 H1 e) (fun i σ' H' _ p => st_of (hk i σ' H' p)) (fun i x σ' H' hi p => hs i x σ' H' hi p) hd⟩
theorem s_dputY {N : List YV} {x : Str} {l : List Nat} (hv : Ev tv σ H (.str (Tx l))) (hd : Ev td σ H (.ref a)) (hk : Ev ty σ H (.str x)) (ha : H a = some (.dK (ysK N))) (hz : N.length ≤ 10000) (kk : ∀ H1, Ex H H1 → D.nx σ (L2.upd H1 a (.dK (ysK (putY N x l))))) : sDPut td ty tv D σ H :=
  hv H (Ex.refl _) _ fun H1 e1 => hd H1 e1 _ fun H2 e2 => hk H2 (e1.trans e2) _ fun H3 e3 => ⟨a, _, rfl, .inl ⟨_, Sum.inr x, e3 _ _ (e2 _ _ (e1 _ _ ha)), rfl, by unfold ysK; rw [List.length_map]; exact sz_lt (by omega), rfl⟩, by
    rw [ysK_put]
    exact kk H3 (e1.trans (e2.trans e3))⟩
end
end Dw

set_option Elab.async false
set_option linter.all false
set_option maxRecDepth 100000
open PySem PySem.Spec PyProof.Rows L2 Evl
namespace Dw
/-! ### k44: the law's own operators -/
section
variable {K : PySem.W.Frag} {σ : L2.St} {H : Hp} {ta tb : TE} {D : Ends} {tz : TS}
theorem q_par2 {t1 t2 : TE} {x y : V} {i j : Nat} (h1 : Ev t1 σ H x) (h2 : Ev t2 σ H y) (hz : ∀ H1, Ex H H1 → tz D ((σ.set i (some x)).set j (some y)) H1) : tSeq (tPar i j (tCons t1 (tCons t2 tNil))) tz D σ H :=
  h1 H (Ex.refl _) _ fun H1 e1 => h2 H1 e1 _ fun H2 e2 => ⟨_, _, rfl, hz H2 (e1.trans e2)⟩
theorem atI_last {α : Type} {xs : List α} {v : α} (h : xs.getLast? = some v) : atI xs (-1) = some v := by
  have hne : xs ≠ [] := fun z => by rw [z] at h; cases h
  have hl : 0 < xs.length := List.length_pos_iff.mpr hne
  unfold atI ixN
  rw [if_neg (by omega), if_pos (by omega)]
  show xs[((-1 : Int) + xs.length).toNat]? = some v
  rw [show ((-1 : Int) + xs.length).toNat = xs.length - 1 by omega, ← List.getLast?_eq_getElem?]
  exact h
theorem ev_in2T {x : Str} {l : List Str} {ts : TA} (ha : Ev ta σ H (.str x)) (hb : EvA ts σ H (l.map V.str)) (hz : l.length ≤ 1000) : Ev (tOp (rIn K false) ta (tTup ts)) σ H (.bl (decide (x ∈ l))) := by
  rw [← inV_strs]
  exact ev_inU ha (eu_tup hb (by rw [List.length_map]; omega)) rfl (by induction l with | nil => rfl | cons a l ih => simp [flatV])
theorem ev_ni2T {x : Str} {l : List Str} {ts : TA} (ha : Ev ta σ H (.str x)) (hb : EvA ts σ H (l.map V.str)) (hz : l.length ≤ 1000) : Ev (tOp (rIn K true) ta (tTup ts)) σ H (.bl (!decide (x ∈ l))) := by
  rw [← inV_strs]
  exact ev_niU ha (eu_tup hb (by rw [List.length_map]; omega)) rfl (by induction l with | nil => rfl | cons a l ih => simp [flatV])
end
theorem eu_callS {σ : L2.St} {H : Hp} {sp : Sp} {dvs vs xs : List V} {E : XK} {ta : TA} (h : EvA ta σ H vs) (hs : ∀ H1, Ex H H1 → ∀ Q : VK, (∀ p H2, H1 p = none → Ex H1 H2 → H2 p = some (.tup xs) → Q (.ref p) H2) → ∀ E : XK, sp (vs ++ dvs) H1 Q E) : EvU (tCall sp dvs E ta) σ H xs := fun H1 e Q q =>
  h H1 e _ fun H2 e2 => hs H2 (e.trans e2) _ (fun p H3 n e3 hp => q p H3 (fresh_back e2 n) (e2.trans e3) hp) _
def spSum : Sp := fun vs H Q _ => ∃ (a b : List Nat) (k : Nat), vs = [.str (Tx a), .str (Tx b), .str (Tx [k])] ∧ Sx a ∧ Sx b ∧ k ∈ k3 ∧ a.length = b.length ∧ a.length ≤ 8 ∧ ∀ r H', Ex H H' → H r = none → H' r = some (.tup [.str (Tx (outW .plus a.reverse b.reverse k []).1), .str (Tx [(outW .plus a.reverse b.reverse k []).2])]) → Q (.ref r) H'
theorem eu_sum {σ : L2.St} {H : Hp} {ta : TA} {E : XK} {a b : List Nat} {k : Nat} (h : EvA ta σ H [.str (Tx a), .str (Tx b), .str (Tx [k])]) (ha : Sx a) (hb : Sx b) (hk : k ∈ k3) (hl : a.length = b.length) (h8 : a.length ≤ 8) :
    EvU (tCall spSum [] E ta) σ H [.str (Tx (outW .plus a.reverse b.reverse k []).1), .str (Tx [(outW .plus a.reverse b.reverse k []).2])] :=
  eu_callS h fun H1 e Q q E => ⟨a, b, k, rfl, ha, hb, hk, hl, h8, fun r H' e' n h => q r H' n e' h⟩
theorem ev_ixU {K : PySem.W.Frag} {σ : L2.St} {H : Hp} {ta : TE} {xs : List V} {i : Int} {v : V} (h : EvU ta σ H xs) (hv : atI xs i = some v) : Ev (tOp (rIxT K) ta (tC (.int i))) σ H v := fun H1 e Q q =>
  h H1 e _ fun p H2 n e2 hp => ⟨p, xs, i, v, rfl, rfl, st_of hp, hv, q H2 e2⟩
theorem most_by : ∀ c ∈ k3, ∀ d ∈ k3, ∀ k ∈ k3, orS (andS c d) (orS (andS c k) (andS d k)) = mostS c d k := by decide +kernel
theorem turn_by : ∀ c ∈ k3, ∀ d ∈ k3, ∀ k ∈ k3, mostS c (notS d) (notS k) = notS (mostS (notS c) d k) := by decide +kernel
theorem out_turn : ∀ (A B : List Nat) (k : Nat) (s t : List Nat), Sx A → Sx B → k ∈ k3 → (outW .plus A (B.map notS) (notS k) s).2 = notS (outW .less A B k t).2
  | [], _, _, _, _, _, _, _ => by simp [outW]
  | _ :: _, [], _, _, _, _, _, _ => by simp [outW]
  | c :: A, d :: B, k, s, t, ha, hb, hk => by
    have hc := ha c (List.mem_cons_self ..)
    have hd := hb d (List.mem_cons_self ..)
    have ih := out_turn A B (mostS (notS c) d k) ([xorS (xorS c (notS d)) (notS k)] ++ s) t (fun x hx => ha x (List.mem_cons_of_mem _ hx)) (fun x hx => hb x (List.mem_cons_of_mem _ hx)) (most_k3 _ _ _)
    simp only [List.map_cons, outW, stepK, stepF]
    rw [turn_by c hc d hd k hk]
    exact ih
theorem out_k3 : ∀ (A B : List Nat) (k : Nat) (s : List Nat), k ∈ k3 → (outW .less A B k s).2 ∈ k3
  | [], _, _, _, h => by simpa [outW] using h
  | _ :: _, [], _, _, h => by simpa [outW] using h
  | c :: A, d :: B, k, s, h => by
    simp only [outW, stepK, stepF]
    exact out_k3 A B _ s (most_k3 _ _ _)
theorem ways_get (x y z : V) : valV (mergeK [] [((Sum.inr (Str.ofString "and") : Key), x), (Sum.inr (Str.ofString "or"), y), (Sum.inr (Str.ofString "xor"), z)]) (Sum.inr W2.and.s) = some x ∧ valV (mergeK [] [((Sum.inr (Str.ofString "and") : Key), x), (Sum.inr (Str.ofString "or"), y), (Sum.inr (Str.ofString "xor"), z)]) (Sum.inr W2.or.s) = some y ∧ valV (mergeK [] [((Sum.inr (Str.ofString "and") : Key), x), (Sum.inr (Str.ofString "or"), y), (Sum.inr (Str.ofString "xor"), z)]) (Sum.inr W2.xor.s) = some z := by
  exact ⟨rfl, rfl, rfl⟩
theorem not_not : ∀ c ∈ k3, notS (notS c) = c := by decide +kernel
theorem less_turn {a b : List Nat} (ha : Sx a) (hb : Sx b) (hl : a.length = b.length) : [notS (outW .plus a.reverse (b.map notS).reverse 49 []).2] = bi2 .less a b := by
  have h1 := res_ok (w := .less) (fun z => nomatch z) (fun z => nomatch z) ha hb hl
  rw [← h1]
  show _ = [(outW .less a.reverse b.reverse 48 []).2]
  have h2 := out_turn a.reverse b.reverse 48 [] [] (sx_rev ha) (sx_rev hb) k3_48
  rw [← List.map_reverse]
  have h3 : notS 48 = 49 := rfl
  rw [h3] at h2
  rw [h2, not_not _ (out_k3 _ _ _ _ k3_48)]
theorem all_turn {l : List Nat} (hl : Sx l) : notS (anyS (l.map notS)) = allS l := by
  have hm : ∀ c, c ∈ k3 → ∀ d, d ∈ k3 → (notS c = d ↔ c = notS d) := by decide +kernel
  have m : ∀ d ∈ k3, (d ∈ l.map notS ↔ notS d ∈ l) := fun d hd => by
    rw [List.mem_map]
    constructor
    · rintro ⟨c, hc, e⟩
      rw [← (hm c (hl c hc) d hd).mp e]
      exact hc
    · exact fun h => ⟨_, h, not_not d hd⟩
  unfold anyS allS
  simp only [m 49 (by decide), m 120 (by decide), show notS 49 = 48 from rfl, show notS 120 = 120 from rfl]
  by_cases h1 : 48 ∈ l
  · rw [if_pos h1, if_pos h1]; rfl
  · rw [if_neg h1, if_neg h1]
    by_cases h2 : 120 ∈ l
    · rw [if_pos h2, if_pos h2]; rfl
    · rw [if_neg h2, if_neg h2]; rfl
theorem sx_not (l : List Nat) : Sx (l.map notS) := fun c hc => by
  obtain ⟨d, _, rfl⟩ := List.mem_map.mp hc
  exact not_k3 d
def spTurn : Sp := fun vs H Q _ => ∃ l : List Nat, vs = [.str (Tx l)] ∧ l.length ≤ 1000 ∧ ∀ H', Ex H H' → Q (.str (Tx (l.map notS))) H'
theorem spv_turn {l : List Nat} {H : Hp} (h : l.length ≤ 1000) : SpV spTurn [.str (Tx l)] H (.str (Tx (l.map notS))) := fun H1 e Q q E => ⟨l, rfl, h, q⟩
def spAnyL : Sp := fun vs H Q _ => ∃ l : List Nat, vs = [.str (Tx l)] ∧ Sx l ∧ l.length ≤ 1000 ∧ ∀ H', Ex H H' → Q (.str (Tx [anyS l])) H'
theorem spv_anyL {l : List Nat} {H : Hp} (hl : Sx l) (h : l.length ≤ 1000) : SpV spAnyL [.str (Tx l)] H (.str (Tx [anyS l])) := fun H1 e Q q E => ⟨l, rfl, hl, h, q⟩
theorem any_take {l : List Nat} (hl : Sx l) : l.foldl orS 48 = anyS l := (any_fold l 48 (by decide) hl).trans (any_48 l)
end Dw

set_option Elab.async false
set_option linter.all false
set_option maxRecDepth 100000
open PySem PySem.Spec PyProof.Rows L2 Evl
namespace Dw
/-! ### k44: what its law draws -/
section
variable {σ : L2.St} {H : Hp} {ta tb te : TE} {th : TO}
theorem ev_abs {i : Int} (h : Ev te σ H (.int i)) : Ev (tCB (fun xs H Q => ∃ i : Int, xs = [.int i] ∧ Q (.int (if i < 0 then -i else i)) H) (tCons te tNil)) σ H (.int (if i < 0 then -i else i)) := fun H1 e Q q => h H1 e _ fun H2 e2 => ⟨i, rfl, q H2 e2⟩
theorem ev_max2 {i j : Int} (ha : Ev ta σ H (.int i)) (hb : Ev tb σ H (.int j)) : Ev (tCB (fun xs H Q => ∃ i j : Int, xs = [.int i, .int j] ∧ Q (.int (if j > i then j else i)) H) (tCons ta (tCons tb tNil))) σ H (.int (if j > i then j else i)) := fun H1 e Q q =>
  ha H1 e _ fun H2 e2 => hb H2 (e.trans e2) _ fun H3 e3 => ⟨i, j, rfl, q H3 (e2.trans e3)⟩
theorem rv_I {C : Int → Int → Prop} {g : Int → Int → V} {i j : Int} (h : C i j) : RV (rI C g) (.int i) (.int j) H (g i j) := fun H1 e Q q => ⟨i, j, rfl, rfl, h, q H1 (Ex.refl _)⟩
theorem ev_cutUp {l : List Nat} {j : Nat} (ha : Ev te σ H (.str (Tx l))) (h2 : EvO th σ H (some (j : Int))) (hz : l.length ≤ 40000) : Ev (tSl rSlS te tNoPart th) σ H (.str (Tx (l.take j))) := by
  by_cases hj : j ≤ l.length
  · exact ev_cutA ha h2 hj hz
  · rw [List.take_of_length_le (by omega)]
    exact fun H1 e Q q => ha H1 e _ fun H2 e2 => eo_none H2 (Ex.refl _) _ fun H3 e3 => h2 H3 ((e.trans e2).trans e3) _ fun H4 e4 => ⟨Tx l, rfl, sz_of (by rw [Tx_len]; omega), by
      have : cutS (Tx l) none (some (j : Int)) = Tx l := by
        unfold cutS
        rw [Tx_len, HT.sIx_none, HT.sIx_nat, Nat.min_eq_right (by omega)]
        show Tx ((l.drop 0).take (l.length - 0)) = Tx l
        simp
      rw [this]
      exact q H4 ((e2.trans e3).trans e4)⟩
end
/-- [a, b, e][e2] -/
theorem evp_pick3 {K : PySem.W.Frag} {σ : L2.St} {H : Hp} {p : Addr} {t1 t2 : TE} {a b : V} {G : V → Prop} (h1 : EvP p t1 σ H fun v _ => G v) (h2 : EvP p t2 σ H (isI 3)) : EvP p (tOp (rIxL K) (tLst (tCons (tC a) (tCons (tC b) (tCons t1 tNil)))) t2) σ H (fun v _ => v = a ∨ v = b ∨ G v) := fun H1 e hP Q q => by
  refine h1 H1 e hP _ fun v H2 e2 hP2 g => ⟨by show 3 ≤ sizeLine; decide, fun l nl => ?_⟩
  have nlp := hP2.ne nl
  refine h2 _ (e.trans (e2.trans (ExB.of (Ex.new nl)))) (hP2.ex (Ex.new nl)) _ fun w H3 e3 hP3 hw => ?_
  obtain ⟨d, rfl, d0, d1⟩ := hw
  obtain ⟨d, rfl⟩ := Int.eq_ofNat_of_zero_le d0
  have hl := e3 _ _ nlp (upd_same (H := H2) (a := l) (o := .lst [a, b, v]))
  have x3 := (e2.trans (ExB.of (Ex.new (o := .lst [a, b, v]) nl))).trans e3
  have hd : d = 0 ∨ d = 1 ∨ d = 2 := by omega
  rcases hd with rfl | rfl | rfl
  · exact ⟨l, _, _, _, rfl, rfl, sq_of hl, atI_nat (j := 0) rfl, q _ H3 x3 hP3 (.inl rfl)⟩
  · exact ⟨l, _, _, _, rfl, rfl, sq_of hl, atI_nat (j := 1) rfl, q _ H3 x3 hP3 (.inr (.inl rfl))⟩
  · exact ⟨l, _, _, _, rfl, rfl, sq_of hl, atI_nat (j := 2) rfl, q _ H3 x3 hP3 (.inr (.inr g))⟩
/-- m signs of ss -/
def spSigns : Sp := fun vs H Q _ => ∃ (p : Addr) (m : Nat) (ss : List Nat), vs = [.ref p, .int (m : Int), .str (Tx ss)] ∧ PotAt H p ∧ m ≤ 8 ∧ 0 < ss.length ∧ ss.length ≤ 1000 ∧ ∀ (H' : Hp) (l : List Nat), ExB p H H' → PotAt H' p → l.length = m → (∀ c ∈ l, c ∈ ss) → Q (.str (Tx l)) H'
/-! names -/
def nmF : List Nat := [98, 99, 100, 103, 104, 107, 109, 113, 115, 118, 119, 122]
def nmR : List Nat := [98, 100, 107, 48, 55, 122]
def nmL : List Nat := [98, 99, 100, 102, 103, 104, 106, 107, 109, 110, 112, 113, 114, 115, 116, 118, 119, 120, 122, 48, 49, 50, 51, 52, 53, 54, 55, 56, 57]
theorem s_nmF : Str.ofString "bcdghkmqsvwz" = Tx nmF := by decide +kernel
theorem s_nmR : Str.ofString "bdk07z" = Tx nmR := by decide +kernel
theorem s_nmL : Str.ofString "bcdfghjkmnpqrstvwxz0123456789" = Tx nmL := by decide +kernel
/-- the names that are tried, one behind the other -/
def cand (l : List Nat) : Nat → List Nat
  | 0 => l
  | k + 1 => (cand l k).take 7 ++ [nmL.getD k 0]
theorem cand_last (l : List Nat) (k : Nat) : (cand l (k + 1)).getLast? = some (nmL.getD k 0) := by
  show ((cand l k).take 7 ++ [nmL.getD k 0]).getLast? = _
  simp
theorem cand_len (l : List Nat) (h : l.length ≤ 8) : ∀ k, (cand l k).length ≤ 8
  | 0 => h
  | k + 1 => by
    show ((cand l k).take 7 ++ [nmL.getD k 0]).length ≤ 8
    rw [List.length_append, List.length_take]
    simp
    omega
theorem cand_low (l : List Nat) (h : ∀ c ∈ l, c < 128) : ∀ k, ∀ c ∈ cand l k, c < 128
  | 0 => h
  | k + 1 => fun c hc => by
    rcases List.mem_append.mp hc with h1 | h1
    · exact cand_low l h k c (List.mem_of_mem_take h1)
    · rw [List.mem_singleton.mp h1]
      by_cases hk : k < nmL.length
      · rw [List.getD_eq_getElem?_getD, List.getElem?_eq_getElem hk]
        have : ∀ c ∈ nmL, c < 128 := by decide
        exact this _ (List.getElem_mem hk)
      · rw [List.getD_eq_getElem?_getD, List.getElem?_eq_none (by omega)]
        show 0 < 128
        omega
theorem cand_nd (l : List Nat) : ([1, 2, 3, 4, 5, 6, 7, 8, 9, 10].map fun k => Tx (cand l k)).Nodup := by
  have h : ∀ i ∈ [1, 2, 3, 4, 5, 6, 7, 8, 9, 10], ∀ j ∈ [1, 2, 3, 4, 5, 6, 7, 8, 9, 10], Tx (cand l i) = Tx (cand l j) → i = j := fun i hi j hj e => by
    have e1 : cand l i = cand l j := Tx_inj e
    have hp : ∀ i ∈ [1, 2, 3, 4, 5, 6, 7, 8, 9, 10], ∃ k, i = k + 1 := by
      intro i hi
      exact ⟨i - 1, by have : ∀ i ∈ [1, 2, 3, 4, 5, 6, 7, 8, 9, 10], 1 ≤ i := by decide
                       have := this i hi
                       omega⟩
    obtain ⟨a, rfl⟩ := hp i hi
    obtain ⟨b, rfl⟩ := hp j hj
    have e2 := congrArg List.getLast? e1
    rw [cand_last, cand_last] at e2
    have e3 := Option.some.inj e2
    have key : ∀ i ∈ [1, 2, 3, 4, 5, 6, 7, 8, 9, 10], ∀ j ∈ [1, 2, 3, 4, 5, 6, 7, 8, 9, 10], nmL.getD (i - 1) 0 = nmL.getD (j - 1) 0 → i = j := by decide
    exact key _ hi _ hj e3
  have hn : ([1, 2, 3, 4, 5, 6, 7, 8, 9, 10] : List Nat).Nodup := by decide
  generalize [1, 2, 3, 4, 5, 6, 7, 8, 9, 10] = L at h hn ⊢
  induction L with
  | nil => exact .nil
  | cons a L ih =>
    rw [List.map_cons, List.nodup_cons]
    obtain ⟨h1, h2⟩ := List.nodup_cons.mp hn
    refine ⟨fun z => ?_, ih (fun i hi j hj => h i (List.mem_cons_of_mem _ hi) j (List.mem_cons_of_mem _ hj)) h2⟩
    obtain ⟨b, hb, e⟩ := List.mem_map.mp z
    exact h1 (h b (List.mem_cons_of_mem _ hb) a (List.mem_cons_self ..) e ▸ hb)
/-- one of them isn't taken -/
theorem cand_free (l : List Nat) (taken : List Str) (h : taken.length < 10) : ∃ k, k ≤ 10 ∧ Tx (cand l k) ∉ taken := by
  obtain ⟨x, hx, hn⟩ := pig taken _ (cand_nd l) (by simpa using h)
  obtain ⟨k, hk, rfl⟩ := List.mem_map.mp hx
  have : ∀ i ∈ [1, 2, 3, 4, 5, 6, 7, 8, 9, 10], i ≤ 10 := by decide
  exact ⟨k, this k hk, hn⟩
def spNameK : Sp := fun vs H Q _ => ∃ (p g : Addr) (taken : List Str), vs = [.ref p, .ref g] ∧ PotAt H p ∧ g ≠ p ∧ H g = some (.lst (taken.map V.str)) ∧ taken.length < 10 ∧ ∀ (H' : Hp) (x : Str), ExC p g H H' → PotAt H' p → H' g = some (.lst ((taken ++ [x]).map V.str)) → LowS x → x ∉ taken → Q (.str x) H'
def spWidthK : Sp := fun vs H Q _ => ∃ (p : Addr), vs = [.ref p] ∧ PotAt H p ∧ ∀ (H' : Hp) (m : Nat), ExB p H H' → PotAt H' p → 1 ≤ m → m ≤ 8 → Q (.int (m : Int)) H'
/-! terms -/
def TmK (ws : List (Str × Nat)) (m n : Nat) : V → Hp → Prop := fun v H => ∃ t, TmAt H t v ∧ Wd ws t m ∧ dep t ≤ n
theorem TmK.mono {ws : List (Str × Nat)} {m n k : Nat} {v : V} {H H' : Hp} (h : TmK ws m n v H) (e : ExT H H') (hk : n ≤ k) : TmK ws m k v H' := let ⟨t, a, b, c⟩ := h; ⟨t, TmAt.mono e a, b, Nat.le_trans c hk⟩
def spLeafK : Sp := fun vs H Q _ => ∃ (p q : Addr) (m : Nat) (ws : List (Str × Nat)), vs = [.ref p, .ref q, .int (m : Int)] ∧ PotAt H p ∧ WsAt H q ws ∧ WsOk ws ∧ ws.length ≤ 1000 ∧ 1 ≤ m ∧ m ≤ 8 ∧ ∀ (H' : Hp) (v : V), ExB p H H' → PotAt H' p → TmK ws m 1 v H' → Q v H'
/-- depths below N -/
def spTermK (N : Nat) : Sp := fun vs H Q _ => ∃ (p q : Addr) (m n : Nat) (ws : List (Str × Nat)), vs = [.ref p, .ref q, .int (m : Int), .int (n : Int)] ∧ n < N ∧ PotAt H p ∧ WsAt H q ws ∧ WsOk ws ∧ ws.length ≤ 1000 ∧ 1 ≤ m ∧ m ≤ 8 ∧ ∀ (H' : Hp) (v : V), ExB p H H' → PotAt H' p → TmK ws m (n + 1) v H' → Q v H'
def spBitK (N : Nat) : Sp := fun vs H Q _ => ∃ (p q : Addr) (n : Nat) (ws : List (Str × Nat)), vs = [.ref p, .ref q, .int (n : Int)] ∧ 0 < n ∧ n ≤ N ∧ PotAt H p ∧ WsAt H q ws ∧ WsOk ws ∧ ws.length ≤ 1000 ∧ ∀ (H' : Hp) (v : V), ExB p H H' → PotAt H' p → TmK ws 1 (n + 1) v H' → Q v H'
theorem evp_termC {σ : L2.St} {H : Hp} {te td : TE} {E : XK} {p qd : Addr} {N n m : Nat} {ws : List (Str × Nat)} {i j : Nat} (hi : σ[i]? = some (some (.ref p))) (hj : σ[j]? = some (some (.ref qd))) (hm : ∀ H1, ExB p H H1 → Ev te σ H1 (.int (m : Int))) (hd : ∀ H1, Ev td σ H1 (.int (n : Int))) (hn : n < N) (hW : WsAt H qd ws) (hP0 : PotAt H p) (hok : WsOk ws) (hz : ws.length ≤ 1000) (m1 : 1 ≤ m) (m8 : m ≤ 8) :
    EvP p (tCall (spTermK N) [] E (tCons (tVar i) (tCons (tVar j) (tCons te (tCons td tNil))))) σ H (TmK ws m (n + 1)) := fun H1 e hP Q q =>
  ⟨_, hi, _, hj, hm H1 e H1 (Ex.refl _) _ fun H2 e2 => hd H2 H2 (Ex.refl _) _ fun H3 e3 => ⟨p, qd, m, n, ws, rfl, hn, hP.ex (e2.trans e3), (hW.exB hP0 e).ex (e2.trans e3), hok, hz, m1, m8, fun H4 v e4 hP4 g => q v H4 ((ExB.of (e2.trans e3)).trans e4) hP4 g⟩⟩
theorem evp_four {K : PySem.W.Frag} {σ : L2.St} {H : Hp} {p : Addr} {E : XK} {i j k m n : Nat} {ws : List (Str × Nat)} {u1 u2 : V} (hi : σ[i]? = some (some (.ref p))) (hj : σ[j]? = some (some u1)) (hk : σ[k]? = some (some u2)) (h1 : TmK ws m n u1 H) (h2 : TmK ws m n u2 H) (hP0 : PotAt H p) :
    EvP p (tOp (rIxL K) (tLst (tCons (tTup (tCons (tC (.str "same")) (tCons (tVar j) (tCons (tVar k) tNil)))) (tCons (tTup (tCons (tC (.str "less")) (tCons (tVar j) (tCons (tVar k) tNil)))) (tCons (tTup (tCons (tC (.str "any")) (tCons (tVar j) tNil))) (tCons (tTup (tCons (tC (.str "all")) (tCons (tVar k) tNil))) tNil)))))
      (tCall spTake [] E (tCons (tVar i) (tCons (tC (.int 4)) tNil)))) σ H (TmK ws 1 (n + 1)) := fun H1 e hP Q q => by
  obtain ⟨t1, a1, b1, c1⟩ := h1.mono (ExT.ofB hP0 e) (Nat.le_refl _)
  obtain ⟨t2, a2, b2, c2⟩ := h2.mono (ExT.ofB hP0 e) (Nat.le_refl _)
  refine ⟨_, hj, _, hk, by show 3 ≤ sizeLine; decide, fun T1 n1 => ?_⟩
  have f1 := Ex.new (o := .tup [V.str "same", u1, u2]) n1
  refine ⟨_, hj, _, hk, by show 3 ≤ sizeLine; decide, fun T2 n2 => ?_⟩
  have f2 := Ex.new (o := .tup [V.str "less", u1, u2]) n2
  refine ⟨_, hj, by show 2 ≤ sizeLine; decide, fun T3 n3 => ?_⟩
  have f3 := Ex.new (o := .tup [V.str "any", u1]) n3
  refine ⟨_, hk, by show 2 ≤ sizeLine; decide, fun T4 n4 => ?_⟩
  have f4 := Ex.new (o := .tup [V.str "all", u2]) n4
  refine ⟨by show 4 ≤ sizeLine; decide, fun Lx nL => ?_⟩
  have f5 := Ex.new (o := .lst [V.ref T1, V.ref T2, V.ref T3, V.ref T4]) nL
  have x5 := (((f1.trans f2).trans f3).trans f4).trans f5
  have k1 := (((f2.trans f3).trans f4).trans f5) _ _ (upd_same (H := H1) (a := T1) (o := .tup [V.str "same", u1, u2]))
  have k2 := ((f3.trans f4).trans f5) _ _ (upd_same (H := L2.upd H1 T1 (.tup [V.str "same", u1, u2])) (a := T2) (o := .tup [V.str "less", u1, u2]))
  have k3 := (f4.trans f5) _ _ (upd_same (H := L2.upd (L2.upd H1 T1 (.tup [V.str "same", u1, u2])) T2 (.tup [V.str "less", u1, u2])) (a := T3) (o := .tup [V.str "any", u1]))
  have k4 := f5 _ _ (upd_same (H := L2.upd (L2.upd (L2.upd H1 T1 (.tup [V.str "same", u1, u2])) T2 (.tup [V.str "less", u1, u2])) T3 (.tup [V.str "any", u1])) (a := T4) (o := .tup [V.str "all", u2]))
  have kL : (L2.upd (L2.upd (L2.upd (L2.upd (L2.upd H1 T1 (.tup [V.str "same", u1, u2])) T2 (.tup [V.str "less", u1, u2])) T3 (.tup [V.str "any", u1])) T4 (.tup [V.str "all", u2])) Lx (.lst [V.ref T1, V.ref T2, V.ref T3, V.ref T4])) Lx = _ := upd_same
  generalize (L2.upd (L2.upd (L2.upd (L2.upd (L2.upd H1 T1 (.tup [V.str "same", u1, u2])) T2 (.tup [V.str "less", u1, u2])) T3 (.tup [V.str "any", u1])) T4 (.tup [V.str "all", u2])) Lx (.lst [V.ref T1, V.ref T2, V.ref T3, V.ref T4])) = H5 at x5 k1 k2 k3 k4 kL ⊢
  refine ⟨_, hi, p, 4, rfl, hP.ex x5, by decide, by decide, fun H6 d e6 hP6 d0 d1 => ?_⟩
  obtain ⟨d, rfl⟩ := Int.eq_ofNat_of_zero_le d0
  have tE := (ExT.of x5).trans (ExT.ofB (hP.ex x5) e6)
  have tF := ExT.ofB (hP.ex x5) e6
  have x6 := (ExB.of x5).trans e6
  have nLp : Lx ≠ p := fun z => by
    obtain ⟨x, y, hxy, _⟩ := hP.ex x5
    rw [← z, kL] at hxy
    simp at hxy
  have hL := e6 _ _ nLp kL
  have hd : d = 0 ∨ d = 1 ∨ d = 2 ∨ d = 3 := by omega
  rcases hd with rfl | rfl | rfl | rfl
  · exact ⟨Lx, _, _, _, rfl, rfl, sq_of hL, atI_nat (j := 0) rfl, q _ H6 x6 hP6 ⟨.bi .same t1 t2, ⟨T1, u1, u2, rfl, tF _ _ k1, TmAt.mono tE a1, TmAt.mono tE a2⟩, ⟨rfl, m, b1, b2⟩, by simp only [dep]; omega⟩⟩
  · exact ⟨Lx, _, _, _, rfl, rfl, sq_of hL, atI_nat (j := 1) rfl, q _ H6 x6 hP6 ⟨.bi .less t1 t2, ⟨T2, u1, u2, rfl, tF _ _ k2, TmAt.mono tE a1, TmAt.mono tE a2⟩, ⟨rfl, m, b1, b2⟩, by simp only [dep]; omega⟩⟩
  · exact ⟨Lx, _, _, _, rfl, rfl, sq_of hL, atI_nat (j := 2) rfl, q _ H6 x6 hP6 ⟨.un .any t1, ⟨T3, u1, rfl, tF _ _ k3, TmAt.mono tE a1⟩, ⟨rfl, m, b1⟩, by simp only [dep]; omega⟩⟩
  · exact ⟨Lx, _, _, _, rfl, rfl, sq_of hL, atI_nat (j := 3) rfl, q _ H6 x6 hP6 ⟨.un .all t2, ⟨T4, u2, rfl, tF _ _ k4, TmAt.mono tE a2⟩, ⟨rfl, m, b2⟩, by simp only [dep]; omega⟩⟩
end Dw

set_option Elab.async false
set_option linter.all false
set_option maxRecDepth 100000
open PySem PySem.Spec PyProof.Rows L2 Evl
namespace Dw
/-! ### k44: bodies drawn -/
def appB : Bdy → Bdy → Bdy
  | .nil, b => b
  | .set l x t r, b => .set l x t (appB r b)
  | .cond t p q r, b => .cond t p q (appB r b)
theorem app_at {H : Hp} {b : Bdy} {vs : List V} (hb : BdAt H b vs) : ∀ {a : Bdy} {us : List V}, BdAt H a us → BdAt H (appB a b) (us ++ vs)
  | .nil, _, h => by
    rw [show _ = ([] : List V) from h]
    exact hb
  | .set _ _ _ _, _, ⟨a, v, us, h1, h2, h3, h4⟩ => ⟨a, v, us ++ vs, by rw [h1]; rfl, h2, h3, app_at hb h4⟩
  | .cond _ _ _ _, _, ⟨s, v, p, q, va, vb, us, h1, h2, h3, h4, h5, h6, h7, h8⟩ => ⟨s, v, p, q, va, vb, us ++ vs, by rw [h1]; rfl, h2, h3, h4, h5, h6, h7, app_at hb h8⟩
theorem app_nest (b : Bdy) : ∀ a : Bdy, nest (appB a b) = max (nest a) (nest b)
  | .nil => by simp [appB, nest]
  | .set _ _ _ r => by simp [appB, nest, app_nest b r]
  | .cond _ _ _ r => by simp [appB, nest, app_nest b r] <;> omega
theorem app_sz (b : Bdy) : ∀ a : Bdy, szB (appB a b) = szB a + szB b
  | .nil => by simp [appB, szB]
  | .set _ _ _ r => by simp [appB, szB, app_sz b r]; omega
  | .cond _ _ _ r => by simp [appB, szB, app_sz b r]; omega
theorem app_wd {ws : List (Str × Nat)} {b : Bdy} (hb : WdB ws b) : ∀ {a : Bdy}, WdB ws a → WdB ws (appB a b)
  | .nil, _ => hb
  | .set _ _ _ _, h => ⟨h.1, app_wd hb h.2⟩
  | .cond _ _ _ _, h => ⟨h.1, h.2.1, h.2.2.1, app_wd hb h.2.2.2⟩
/-- names that are set, and when -/
@[reducible] def wyK (wy : List (Str × Bool)) : List (Key × V) := wy.map fun y => ((Sum.inr y.1 : Key), V.str (wayS y.2))
def WyAt (H : Hp) (d : Addr) (wy : List (Str × Bool)) : Prop := H d = some (.dK (wyK wy))
theorem WyAt.ex {H H' : Hp} {d : Addr} {wy : List (Str × Bool)} (h : WyAt H d wy) (e : Ex H H') : WyAt H' d wy := e _ _ h
theorem WyAt.ne {H : Hp} {p d : Addr} {wy : List (Str × Bool)} {xs : List V} (h : WyAt H d wy) (hp : H p = some (.lst xs)) : d ≠ p := fun z => by
  have h : H d = some (.dK (wyK wy)) := h
  rw [z, hp] at h
  cases h
theorem WyAt.exB {H H' : Hp} {p d : Addr} {wy : List (Str × Bool)} (h : WyAt H d wy) (hp : PotAt H p) (e : ExB p H H') : WyAt H' d wy := by
  obtain ⟨x, y, h1, _⟩ := hp
  exact e _ _ (h.ne h1) h
theorem WyAt.exC {H H' : Hp} {p r d : Addr} {wy : List (Str × Bool)} (h : WyAt H d wy) (hp : PotAt H p) (hr : RoomAt H r) (e : ExC p r H H') : WyAt H' d wy := by
  obtain ⟨x, y, h1, _⟩ := hp
  obtain ⟨z, h2⟩ := hr
  exact e _ _ (h.ne h1) (h.ne h2) h
structure WyOk (ws : List (Str × Nat)) (wy : List (Str × Bool)) : Prop where
  nd : (wy.map (·.1)).Nodup
  ne : wy ≠ []
  sz : wy.length ≤ 1000
  mem : ∀ y ∈ wy, ∃ m, (y.1, m) ∈ ws
theorem valV_wy {wy : List (Str × Bool)} {x : Str} {l : Bool} (hn : (wy.map (·.1)).Nodup) (h : (x, l) ∈ wy) : valV (wyK wy) (Sum.inr x : Key) = some (.str (wayS l)) := by
  induction wy with
  | nil => cases h
  | cons y wy ih =>
    rw [List.map_cons, List.nodup_cons] at hn
    have ih := ih hn.2
    unfold valV at ih ⊢
    show ((((Sum.inr y.1 : Key), V.str (wayS y.2)) :: wyK wy).find? _).map _ = _
    rw [List.find?_cons]
    rcases List.mem_cons.mp h with e | h
    · rw [← e]
      simp
    · have hne : ¬ (Sum.inr y.1 : Key) = Sum.inr x := fun z => hn.1 (List.mem_map.mpr ⟨_, h, (Sum.inr.inj z).symm⟩)
      simp only [decide_eq_false hne]
      exact ih h
theorem el_listD {σ : L2.St} {H : Hp} {te : TE} {d : Addr} {kvs : List (Key × V)} (h : Ev te σ H (.ref d)) (hd : H d = some (.dK kvs)) : EvL (tCB (fun xs H Q => ∃ (a : Addr) (kvs : List (Key × V)), xs = [.ref a] ∧ Rd H a (.dK kvs) ∧ ∀ p, H p = none → Q (.ref p) (L2.upd H p (.lst (kvs.map fun kv => kV kv.1)))) (tCons te tNil)) σ H (kvs.map fun kv => kV kv.1) := fun H1 e Q q =>
  h H1 e _ fun H2 e2 => ⟨d, kvs, rfl, .inl (e2 _ _ (e _ _ hd)), fun p np => q p _ (fresh_back e2 np) (e2.trans (Ex.new np)) upd_same⟩
theorem wy_keys (wy : List (Str × Bool)) : ((wyK wy).map fun kv => kV kv.1) = wy.map fun y => V.str y.1 := by
  unfold wyK
  rw [List.map_map]
  rfl
/-- a body that was drawn: c statements of the room that was -/
structure BdOut (p r : Addr) (ws : List (Str × Nat)) (n : Nat) (R : Int) (H H' : Hp) (us : List V) (b : Bdy) (c : Nat) : Prop where
  ex : ExC p r H H'
  pot : PotAt H' p
  room : H' r = some (.lst [.int (R - (c : Int))])
  left : 0 ≤ R - (c : Int)
  at_ : BdAt H' b us
  nst : nest b ≤ n
  sz : szB b ≤ c
  wd : WdB ws b
structure BdIn (H : Hp) (p q d r : Addr) (R : Int) (ws : List (Str × Nat)) (wy : List (Str × Bool)) : Prop where
  pot : PotAt H p
  wsa : WsAt H q ws
  wya : WyAt H d wy
  room : H r = some (.lst [.int R])
  ok : WsOk ws
  z : ws.length ≤ 1000
  wy : WyOk ws wy
theorem BdIn.nr {H : Hp} {p q d r : Addr} {R : Int} {ws : List (Str × Nat)} {wy : List (Str × Bool)} (h : BdIn H p q d r R ws wy) : r ≠ p := pot_room h.pot (RoomAt.is h.room)
theorem BdIn.exB {H H' : Hp} {p q d r : Addr} {R : Int} {ws : List (Str × Nat)} {wy : List (Str × Bool)} (h : BdIn H p q d r R ws wy) (e : ExB p H H') (hP : PotAt H' p) : BdIn H' p q d r R ws wy := ⟨hP, h.wsa.exB h.pot e, h.wya.exB h.pot e, e _ _ h.nr h.room, h.ok, h.z, h.wy⟩
theorem BdIn.ex {H H' : Hp} {p q d r : Addr} {R : Int} {ws : List (Str × Nat)} {wy : List (Str × Bool)} (h : BdIn H p q d r R ws wy) (e : Ex H H') : BdIn H' p q d r R ws wy := h.exB (ExB.of e) (h.pot.ex e)
theorem BdIn.exC {H H' : Hp} {p q d r : Addr} {R R' : Int} {ws : List (Str × Nat)} {wy : List (Str × Bool)} (h : BdIn H p q d r R ws wy) (e : ExC p r H H') (hP : PotAt H' p) (hr : H' r = some (.lst [.int R'])) : BdIn H' p q d r R' ws wy := ⟨hP, h.wsa.exC h.pot (RoomAt.is h.room) e, h.wya.exC h.pot (RoomAt.is h.room) e, hr, h.ok, h.z, h.wy⟩
/-- deep up to N -/
def spStmK (N : Nat) : Sp := fun vs H Q _ => ∃ (p q d r : Addr) (n : Nat) (R : Int) (ws : List (Str × Nat)) (wy : List (Str × Bool)), vs = [.ref p, .ref q, .ref d, .int (n : Int), .ref r] ∧ n ≤ N ∧ 0 < R ∧ BdIn H p q d r R ws wy ∧ ∀ (H' : Hp) (v : V) (b : Bdy) (c : Nat), BdOut p r ws n R H H' [v] b c → Q v H'
def spBodyK (N : Nat) : Sp := fun vs H Q _ => ∃ (p q d r : Addr) (n : Nat) (R : Int) (ws : List (Str × Nat)) (wy : List (Str × Bool)), vs = [.ref p, .ref q, .ref d, .int (n : Int), .ref r] ∧ n < N ∧ 0 ≤ R ∧ BdIn H p q d r R ws wy ∧ ∀ (H' : Hp) (t : Addr) (us : List V) (b : Bdy) (c : Nat), H' t = some (.tup us) → BdOut p r ws n R H H' us b c → Q (.ref t) H'
end Dw

set_option Elab.async false
set_option linter.all false
set_option maxRecDepth 100000
open PySem PySem.Spec PyProof.Rows L2 Evl
namespace Dw
/-! ### k44: the scene drawn -/
section
variable {σ : L2.St} {H : Hp} {te td : TE} {D : Ends} {tz tu : TS} {p : Addr}
theorem p_forR1L {j : Nat} {lo m : Int} (h : EvP p te σ H fun v _ => ∃ d : Int, v = .int d ∧ lo ≤ d ∧ d ≤ m) (h0' : 0 ≤ lo) (hm : m ≤ 100000) (hP : PotAt H p) (Pv : Nat → L2.St → Hp → Prop) (h0 : ∀ H1, ExB p H H1 → PotAt H1 p → Pv 0 σ H1)
    (hs : ∀ (i : Nat) σ' H', (i : Int) < m → Pv i σ' H' → tu { D with nx := Pv (i + 1), ct := Pv (i + 1), bk := tz D } (σ'.set j (some (.int (i : Int)))) H') (hd : ∀ (n : Nat) σ' H', lo ≤ (n : Int) → (n : Int) ≤ m → Pv n σ' H' → tz D σ' H') : tSeq (tFor (iRng1 (tCons te tNil)) (gName j) tu) tz D σ H :=
  h H (ExB.refl _ _) hP _ fun v H1 e hP1 ⟨d, hv, d0, d1⟩ => ⟨d, by rw [hv], by omega, by omega, for_range (D := { D with nx := tz D }) (lo := 0) (n := d.toNat) Pv (h0 H1 e hP1) (fun i σ' H' hi q => by
    have e0 : (0 : Int) + (i : Int) = (i : Int) := Int.zero_add _
    show tu { D with nx := Pv (i + 1), ct := Pv (i + 1), bk := tz D } (σ'.set j (some (.int ((0 : Int) + (i : Int))))) H'
    rw [e0]
    exact hs i σ' H' (by omega) q) (fun σ' H' q => hd d.toNat σ' H' (by omega) (by omega) q)⟩
theorem q_forKs {d : Addr} {kvs : List (Key × V)} {j : Nat} (hd : H d = some (.dK kvs)) (h : ∀ H1, Ev td σ H1 (.ref d)) (Pv : Nat → L2.St → Hp → Prop)
    (h0 : ∀ (od : Obj) H1, Ex (L2.upd H d (.frz od (.dK kvs))) H1 → Pv 0 σ (L2.upd H1 d (.dK kvs)))
    (hs : ∀ (i : Nat) (k : Key) (x : V) (od : Obj) σ' H', kvs[i]? = some (k, x) → H' d = some (.frz od (.dK kvs)) → Pv i σ' (L2.upd H' d (.dK kvs)) →
      tu { D with nx := fun σ2 H2 => H2 d = some (.frz od (.dK kvs)) ∧ Pv (i + 1) σ2 (L2.upd H2 d (.dK kvs)), ct := fun σ2 H2 => H2 d = some (.frz od (.dK kvs)) ∧ Pv (i + 1) σ2 (L2.upd H2 d (.dK kvs)), bk := fun σ2 H2 => H2 d = some (.frz od (.dK kvs)) ∧ tz D σ2 (L2.upd H2 d (.dK kvs)), rt := fun v H2 => H2 d = some (.frz od (.dK kvs)) ∧ D.rt v (L2.upd H2 d (.dK kvs)) } (σ'.set j (some (kV k))) H')
    (he : ∀ σ' H', Pv kvs.length σ' H' → tz D σ' H') : tSeq (tLock (tFor (iKeys td) (gName j) tu)) tz D σ H := by
  refine ⟨d, .dK kvs, hd, trivial, fun od => ?_⟩
  refine h _ _ (Ex.refl _) _ fun H1 e1 => ⟨d, od, rfl, .inl ⟨kvs, e1 _ _ upd_same, ?_⟩⟩
  refine ⟨fun i m σ' H' => m = kvs.length - i ∧ i ≤ kvs.length ∧ H' d = some (.frz od (.dK kvs)) ∧ Pv i σ' (L2.upd H' d (.dK kvs)), ⟨kvs.length, by simp, Nat.zero_le _, e1 _ _ upd_same, h0 od H1 e1⟩, ?_⟩
  rintro i m σ' H' ⟨rfl, hi, hf, hp⟩
  by_cases hlt : i < kvs.length
  · refine .inr ⟨⟨hf, hlt⟩, fun σ2 H2 => H2 d = some (.frz od (.dK kvs)) ∧ Pv (i + 1) σ2 (L2.upd H2 d (.dK kvs)), fun σ2 H2 p2 => ⟨kvs.length - (i + 1), by omega, rfl, hlt, p2⟩, fun x H2 hy => ?_⟩
    obtain ⟨rfl, k, v, hk, rfl⟩ := hy
    exact hs i k v od σ' H2 hk hf hp
  · have : i = kvs.length := by omega
    subst this
    exact .inl ⟨⟨hf, Nat.le_refl _⟩, hf, he _ _ hp⟩
end
theorem putK_new {kvs : List (Key × V)} {k : Key} {v : V} (h : ∀ y ∈ kvs, y.1 ≠ k) : putK kvs k v = kvs ++ [(k, v)] := by
  unfold putK
  have hn : (kvs.any fun kv => decide (kv.1 = k)) = false := by
    rw [List.any_eq_false]
    intro y hy
    simpa using h y hy
  rw [hn]
  rfl
theorem putK_ws {ws : List (Str × Nat)} {x : Str} {m : Nat} (h : x ∉ ws.map (·.1)) : putK (wsK ws) (Sum.inr x : Key) (V.int (m : Int)) = wsK (ws ++ [(x, m)]) := by
  rw [putK_new]
  · unfold wsK
    rw [List.map_append]
    rfl
  · intro y hy z
    obtain ⟨a, ha, rfl⟩ := List.mem_map.mp hy
    exact h (List.mem_map.mpr ⟨a, ha, Sum.inr.inj z⟩)
theorem putK_wy {wy : List (Str × Bool)} {x : Str} {l : Bool} (h : x ∉ wy.map (·.1)) : putK (wyK wy) (Sum.inr x : Key) (V.str (wayS l)) = wyK (wy ++ [(x, l)]) := by
  rw [putK_new]
  · unfold wyK
    rw [List.map_append]
    rfl
  · intro y hy z
    obtain ⟨a, ha, rfl⟩ := List.mem_map.mp hy
    exact h (List.mem_map.mpr ⟨a, ha, Sum.inr.inj z⟩)
theorem ws_snoc {ws : List (Str × Nat)} {x : Str} {m : Nat} (h : WsOk ws) (hn : x ∉ ws.map (·.1)) (m1 : 1 ≤ m) (m8 : m ≤ 8) (hx : LowS x) : WsOk (ws ++ [(x, m)]) := by
  refine ⟨?_, fun p hp => ?_⟩
  · rw [List.map_append, List.nodup_append]
    exact ⟨h.1, List.nodup_cons.mpr ⟨by simp, List.nodup_nil⟩, fun a ha b hb z => by
      rw [List.mem_singleton.mp hb] at z
      exact hn ((show a = x from z) ▸ ha)⟩
  · rcases List.mem_append.mp hp with h1 | h1
    · exact h.2 p h1
    · rw [List.mem_singleton.mp h1]
      exact ⟨m1, m8, hx⟩
def spSceneK : Sp := fun vs H Q _ => ∃ (p : Addr), vs = [.ref p] ∧ PotAt H p ∧ ∀ (H' : Hp) (t q d : Addr) (ws : List (Str × Nat)) (wy : List (Str × Bool)), ExB p H H' → PotAt H' p → H' t = some (.tup [.ref q, .ref d]) → WsAt H' q ws → WyAt H' d wy → WsOk ws → ws.length ≤ 10 → WyOk ws wy → Q (.ref t) H'
/-- what stands while the scene is drawn -/
structure ScIn (H0 H : Hp) (p g q d : Addr) (ws : List (Str × Nat)) (wy : List (Str × Bool)) : Prop where
  ex : ExB p H0 H
  pot : PotAt H p
  tk : H g = some (.lst ((ws.map (·.1)).map V.str))
  wsa : WsAt H q ws
  wya : WyAt H d wy
  ok : WsOk ws
  nd : (wy.map (·.1)).Nodup
  mem : ∀ y ∈ wy, ∃ m, (y.1, m) ∈ ws
  ng : g ≠ p
  n0 : H0 g = none ∧ H0 q = none ∧ H0 d = none
  qd : q ≠ d
theorem ScIn.exC {H0 H H' : Hp} {p g q d : Addr} {ws : List (Str × Nat)} {wy : List (Str × Bool)} (h : ScIn H0 H p g q d ws wy) (e : ExC p g H H') : WsAt H' q ws ∧ WyAt H' d wy ∧ ExB p H0 H' := by
  obtain ⟨x, y, h1, _⟩ := h.pot
  refine ⟨e _ _ (h.wsa.ne h1) (h.wsa.ne h.tk) h.wsa, e _ _ (h.wya.ne h1) (h.wya.ne h.tk) h.wya, fun b o n hb => ?_⟩
  refine e b o n (fun z => ?_) (h.ex b o n hb)
  rw [z, h.n0.1] at hb
  cases hb
theorem ScIn.exB {H0 H H' : Hp} {p g q d : Addr} {ws : List (Str × Nat)} {wy : List (Str × Bool)} (h : ScIn H0 H p g q d ws wy) (e : ExB p H H') (hP : PotAt H' p) : ScIn H0 H' p g q d ws wy := by
  obtain ⟨x, y, h1, _⟩ := h.pot
  exact ⟨h.ex.trans e, hP, e _ _ h.ng h.tk, e _ _ (h.wsa.ne h1) h.wsa, e _ _ (h.wya.ne h1) h.wya, h.ok, h.nd, h.mem, h.ng, h.n0, h.qd⟩
theorem ScIn.add {H0 H H4 : Hp} {p g q d : Addr} {ws : List (Str × Nat)} {wy : List (Str × Bool)} {x : Str} {m : Nat} (h : ScIn H0 H p g q d ws wy) (e : ExC p g H H4) (hP4 : PotAt H4 p) (hg4 : H4 g = some (.lst ((ws.map (·.1) ++ [x]).map V.str))) (hx : LowS x) (hn : x ∉ ws.map (·.1)) (m1 : 1 ≤ m) (m8 : m ≤ 8) :
    ScIn H0 (L2.upd H4 q (.dK (wsK (ws ++ [(x, m)])))) p g q d (ws ++ [(x, m)]) wy := by
  obtain ⟨k1, k2, k3⟩ := h.exC e
  obtain ⟨a, b, h1, _⟩ := id hP4
  have nqp : q ≠ p := k1.ne h1
  have nqg : q ≠ g := k1.ne hg4
  refine ⟨fun b o n hb => ?_, PotAt.upd hP4 nqp, ?_, upd_same, ?_, ws_snoc h.ok hn m1 m8 hx, h.nd, fun y hy => ?_, h.ng, h.n0, h.qd⟩
  · rw [upd_ne (fun z => by rw [z, h.n0.2.1] at hb; cases hb)]
    exact k3 b o n hb
  · rw [upd_ne nqg.symm, List.map_append]
    exact hg4
  · show L2.upd H4 q _ d = _
    rw [upd_ne h.qd.symm]
    exact k2
  · obtain ⟨m', hm⟩ := h.mem y hy
    exact ⟨m', List.mem_append_left _ hm⟩
theorem ScIn.way {H0 H : Hp} {p g q d : Addr} {ws : List (Str × Nat)} {wy : List (Str × Bool)} {x : Str} {l : Bool} {m : Nat} (h : ScIn H0 H p g q d ws wy) (hm : (x, m) ∈ ws) (hn : x ∉ wy.map (·.1)) : ScIn H0 (L2.upd H d (.dK (wyK (wy ++ [(x, l)])))) p g q d ws (wy ++ [(x, l)]) := by
  obtain ⟨a, b, h1, _⟩ := h.pot
  have ndp : d ≠ p := h.wya.ne h1
  have ndg : d ≠ g := h.wya.ne h.tk
  refine ⟨fun b o n hb => ?_, PotAt.upd h.pot ndp, ?_, ?_, upd_same, h.ok, ?_, fun y hy => ?_, h.ng, h.n0, h.qd⟩
  · rw [upd_ne (fun z => by rw [z, h.n0.2.2] at hb; cases hb)]
    exact h.ex b o n hb
  · rw [upd_ne ndg.symm]
    exact h.tk
  · show L2.upd H d _ q = _
    rw [upd_ne h.qd]
    exact h.wsa
  · rw [List.map_append, List.nodup_append]
    exact ⟨h.nd, List.nodup_cons.mpr ⟨by simp, List.nodup_nil⟩, fun a ha b hb z => by
      rw [List.mem_singleton.mp hb] at z
      exact hn ((show a = x from z) ▸ ha)⟩
  · rcases List.mem_append.mp hy with h1 | h1
    · exact h.mem y h1
    · rw [List.mem_singleton.mp h1]
      exact ⟨m, hm⟩
end Dw

set_option Elab.async false
set_option linter.all false
set_option maxRecDepth 100000
open PySem PySem.Spec PyProof.Rows L2 Evl
namespace Dw
/-! ### k44: what the law does of a body -/
theorem q_forNL {K : PySem.W.Frag} {σ : L2.St} {H : Hp} {tl : TE} {D : Ends} {tz tu : TS} {j : Nat} {xs : List V} (h : EvL tl σ H xs) (Pv : Addr → Nat → L2.St → Hp → Prop) (h0 : ∀ a H1, H a = none → Ex H H1 → H1 a = some (.lst xs) → Pv a 0 σ H1) (hk : ∀ a i σ' H', Pv a i σ' H' → H' a = some (.lst xs))
    (hs : ∀ a i x σ' H', xs[i]? = some x → Pv a i σ' H' → tu { D with nx := Pv a (i + 1), ct := Pv a (i + 1), bk := tz D } (σ'.set j (some x)) H') (hd : ∀ a σ' H', Pv a xs.length σ' H' → tz D σ' H') : tSeq (tFor (iList K tl) (gName j) tu) tz D σ H :=
  h H (Ex.refl _) _ fun a H1 na e1 ha => ⟨a, rfl, ⟨xs, sq_of ha⟩, for_list (D := { D with nx := tz D }) (xs := xs) (Pv a) (h0 a H1 na e1 ha) (fun i σ' H' _ p => sq_of (hk a i σ' H' p)) (fun i x σ' H' hi p => hs a i x σ' H' hi p) (hd a)⟩
theorem q_parDk {σ : L2.St} {H : Hp} {t1 t2 : TE} {D : Ends} {tz : TS} {i j : Nat} {k1 k2 : List (Key × V)} (h1 : EvDk t1 σ H k1) (h2 : EvDk t2 σ H k2) (kk : ∀ p1 p2 H', Ex H H' → H p1 = none → H p2 = none → p1 ≠ p2 → H' p1 = some (.dK k1) → H' p2 = some (.dK k2) → tz D ((σ.set i (some (.ref p1))).set j (some (.ref p2))) H') : tSeq (tPar i j (tCons t1 (tCons t2 tNil))) tz D σ H := by
  refine h1 H (Ex.refl _) _ fun p1 H1 np1 e1 hp1 => h2 H1 e1 _ fun p2 H2 np2 e2 hp2 => ⟨_, _, rfl, ?_⟩
  refine kk p1 p2 _ (e1.trans e2) np1 (fresh_back e1 np2) (fun z => ?_) (e2 _ _ hp1) hp2
  rw [z, np2] at hp1
  cases hp1
theorem put_map {f : Str → List Nat} {M : List YV} {x : Str} {l : List Nat} : putY (M.map fun y => (y.1, f y.1)) x (f x) = (putY M x l).map fun y => (y.1, f y.1) := by
  unfold putY
  have ha : ((M.map fun y => (y.1, f y.1)).any fun y => decide (y.1 = x)) = M.any fun y => decide (y.1 = x) := by
    rw [List.any_map]
    rfl
  rw [ha]
  split
  · rw [List.map_map, List.map_map]
    refine List.map_congr_left fun y _ => ?_
    show (if y.1 = x then (y.1, f x) else (y.1, f y.1)) = ((if y.1 = x then (y.1, l) else y).1, f (if y.1 = x then (y.1, l) else y).1)
    by_cases h : y.1 = x
    · rw [if_pos h, if_pos h, h]
    · rw [if_neg h, if_neg h]
  · rw [List.map_append]
    rfl
/-- filling by names, one behind the other -/
def fillY (f : Str → List Nat) (ks : List Str) : List YV := ks.foldl (fun acc x => putY acc x (f x)) []
theorem fill_from (f : Str → List Nat) : ∀ (l M : List YV), (l.map (·.1)).foldl (fun acc x => putY acc x (f x)) (M.map fun y => (y.1, f y.1)) = (mrgY M l).map fun y => (y.1, f y.1)
  | [], _ => rfl
  | y :: l, M => by
    rw [List.map_cons, List.foldl_cons, put_map (l := y.2), fill_from f l]
    rfl
theorem fill_both {f : Str → List Nat} {A B : List YV} (hA : (A.map (·.1)).Nodup) : fillY f (A.map (·.1) ++ B.map (·.1)) = (mrgY A B).map fun y => (y.1, f y.1) := by
  unfold fillY
  have h1 : (A.map (·.1)).foldl (fun acc x => putY acc x (f x)) [] = A.map fun y => (y.1, f y.1) := by
    have := fill_from f A []
    rw [mrg_nil hA] at this
    exact this
  rw [List.foldl_append, h1, fill_from f B A]
theorem fill_snoc {f : Str → List Nat} {ks : List Str} {x : Str} : fillY f (ks ++ [x]) = putY (fillY f ks) x (f x) := by
  unfold fillY
  rw [List.foldl_append]
  rfl
theorem fill_len (f : Str → List Nat) : ∀ (ks : List Str) (M : List YV), (ks.foldl (fun acc x => putY acc x (f x)) M).length ≤ M.length + ks.length
  | [], _ => Nat.le_refl _
  | x :: ks, M => by
    rw [List.foldl_cons]
    refine Nat.le_trans (fill_len f ks _) ?_
    have : (putY M x (f x)).length ≤ M.length + 1 := by
      unfold putY
      split
      · rw [List.length_map]
        omega
      · simp
    rw [List.length_cons]
    omega
def spJoinK : Sp := fun vs H Q _ => ∃ (a b dv : Addr) (A B : List YV) (ws : List (Str × Nat)) (E : Str → List Nat), vs = [.ref a, .ref b, .ref dv] ∧ H a = some (.dK (ysK A)) ∧ H b = some (.dK (ysK B)) ∧ Scene H dv ws E ∧ StOk ws A ∧ StOk ws B ∧ ∀ (p : Addr) H', H p = none → Ex H H' → H' p = some (.dK (ysK (mixY E A B))) → Q (.ref p) H'
theorem em_join {σ : L2.St} {H : Hp} {t1 t2 t3 : TE} {a b d : Addr} {A B : List YV} {ws : List (Str × Nat)} {E : Str → List Nat} {X : XK} (h2 : Ev t1 σ H (.ref a)) (h3 : Ev t2 σ H (.ref b)) (h4 : Ev t3 σ H (.ref d)) (ha : H a = some (.dK (ysK A))) (hb : H b = some (.dK (ysK B))) (sc : Scene H d ws E) (hA : StOk ws A) (hB : StOk ws B) :
    EvDk (tCall spJoinK [] X (tCons t1 (tCons t2 (tCons t3 tNil)))) σ H (ysK (mixY E A B)) := fun H1 e Q q => by
  refine h2 H1 e _ fun H3 e3 => h3 H3 (e.trans e3) _ fun H4 e4 => h4 H4 ((e.trans e3).trans e4) _ fun H5 e5 => ?_
  have x := ((e.trans e3).trans e4).trans e5
  have x1 := (e3.trans e4).trans e5
  exact ⟨a, b, d, A, B, ws, E, rfl, x _ _ ha, x _ _ hb, sc.ex x, hA, hB, fun p H' np e6 hp => q p H' (fresh_back x1 np) (x1.trans e6) hp⟩
def spCho (n : Nat) : Sp := fun vs H Q _ => ∃ (st dv ah : Addr) (v : V) (p q : Addr) (ua ub : List V) (t : Tm) (a b : Bdy) (ws : List (Str × Nat)) (E : Str → List Nat) (s : List YV × List YV), vs = [.ref st, .ref dv, .ref ah, .str (Tx (val (ovE E s.1) t))] ∧ H st = some (.tup [.str (Str.ofString "if"), v, .ref p, .ref q]) ∧ H p = some (.tup ua) ∧ BdAt H a ua ∧ H q = some (.tup ub) ∧ BdAt H b ub ∧
  nest a ≤ n ∧ nest b ≤ n ∧ WdB ws a ∧ WdB ws b ∧ Scene H dv ws E ∧ AhAt H ah s ∧ St2 ws s ∧ ∀ (r : Addr) H', Ex H H' → OutAt H H' r (condB E t a b s) → Q (.ref r) H'
def spChoP : Nat → Sp
  | 0 => fun _ _ _ _ => False
  | n + 1 => spCho n
def spDon (n : Nat) : Sp := fun vs H Q _ => ∃ (bt dv ah : Addr) (us : List V) (b : Bdy) (ws : List (Str × Nat)) (E : Str → List Nat) (s : List YV × List YV), vs = [.ref bt, .ref dv, .ref ah] ∧ H bt = some (.tup us) ∧ BdAt H b us ∧ nest b ≤ n ∧ WdB ws b ∧ Scene H dv ws E ∧ AhAt H ah s ∧ St2 ws s ∧
  ∀ (r : Addr) H', Ex H H' → OutAt H H' r (doneB E b s) → Q (.ref r) H'
end Dw

set_option Elab.async false
set_option linter.all false
set_option maxRecDepth 100000
namespace PySem.SeqAt
open MeetsSeq MeetsSeq2 MeetsSeq3 SeqRoads2
/-! ### pairs of dicts compared -/
theorem pair_ne {prog : Program} {w : World} (l b : Addr) (us vs : Array Value) (n m : Nat) (du dv : Option Addr) (su sv : Array (Option Value)) (hsz : us.size = vs.size) :
    MeetsIn prog w (Builtin.«tuple.__ne__» ⟨[.ref l, .ref b], []⟩)
      (fun A R s => s.heap.get? l = some { cls := .type "tuple", dict := du, data := .seq us n, slots := su } ∧ s.heap.get? b = some { cls := .type "tuple", dict := dv, data := .seq vs m, slots := sv } ∧ (∀ z ∈ us.toList.zip vs.toList, EqIn prog w A.in1 s z.1 z.2 true) ∧ R (.ok (.ret (.bool false))) s) :=
  .of_wp fun A R s h => by
    obtain ⟨s1, s2, s3, s4, s5⟩ := s
    obtain ⟨gl, gb, alike, hR⟩ := h
    have tupsub := AutoSeq1.sub_tuple_tuple
    wp_walk using PySem.AutoSeq1.wpAny_loadPart' gl, PySem.AutoSeq1.wpAny_loadPart' gb, wpAny_forIn_list _ (fun rest c s' => c.1 = none ∧ s' = ⟨s1, s2, s3, s4, s5⟩ ∧ ∀ z ∈ rest, EqIn prog w A.in1 ⟨s1, s2, s3, s4, s5⟩ z.1 z.2 true) _
    case turn =>
      rintro ⟨y, x⟩ rest c s' ⟨hc, rfl, hall⟩
      refine wpAny_bind (hall (y, x) (List.mem_cons_self ..) _ _ ?_)
      wp_walk
      exact ⟨rfl, rfl, fun z hz => hall z (List.mem_cons_of_mem _ hz)⟩
    case fin =>
      rintro ⟨c1, c2⟩ s' ⟨hc, rfl, -⟩
      simp only at hc
      subst hc
      wp_walk
      exact ⟨_, rfl, by simpa [Builtin.Tuple.tupleCompareSizes, bne, hsz] using hR⟩
    case h =>
      exact ⟨rfl, rfl, alike⟩
theorem rc_pair_ne {prog : Program} {w : World} {A : Around} {s : Shared} {E : Value → Shared → Prop} {l b : Addr} {us vs : Array Value} {Q : Value → Shared → Prop} (hl : s.heap.IsTuple l us) (hb : s.heap.IsTuple b vs) (hsz : us.size = vs.size) (hu : A.units < cLine)
    (he : ∀ z ∈ us.toList.zip vs.toList, EqIn prog w A.in1 s z.1 z.2 true) (h : Q (.bool false) s) : wpAny (model prog w) A (richCompare .NotEq (.ref l) (.ref b)) Q E s := by
  obtain ⟨⟨c1, du, x1, su⟩, g1, k1, n1, d1⟩ := id hl
  obtain ⟨⟨c2, dv, x2, sv⟩, g2, k2, n2, d2⟩ := id hb
  simp only at k1 d1 k2 d2
  subst k1 d1 k2 d2
  have fin : Value.bool false ≠ Value.notImplemented ∧ Q (.bool false) s := ⟨(fun x => nomatch x), h⟩
  exact wpAny_richCompare_same_room (T := "tuple") (op := .NotEq) ⟨_, g1, rfl⟩ ⟨_, g2, rfl⟩ F.slot_tuple_ne (call_meetsIn F.slot_tuple_ne ⟨_, g1, rfl⟩ F.entry_tuple_ne (F.args_tuple_ne_2 _ _) (pair_ne l b us vs n1 n2 du dv su sv hsz) ⟨g1, g2, he, fin⟩) hu
end PySem.SeqAt
namespace L2
open PySem PySem.Spec PyProof.Rows PySem.SeqAt
section
variable {X : Cx}
/-- two pairs of the same dicts of flat values -/
def PrDk (H : Hp) (x y : V) : Prop := ∃ (a b a1 a2 b1 b2 : Addr) (k1 k2 : List (Key × V)), x = .ref a ∧ y = .ref b ∧ H a = some (.tup [.ref a1, .ref a2]) ∧ H b = some (.tup [.ref b1, .ref b2]) ∧ H a1 = some (.dK k1) ∧ H a2 = some (.dK k2) ∧ H b1 = some (.dK k1) ∧ H b2 = some (.dK k2) ∧ a1 ≠ b1 ∧ a2 ≠ b2 ∧ (∀ p ∈ k1, valV k1 p.1 = some p.2 ∧ flatB p.2 = true) ∧ (∀ p ∈ k2, valV k2 p.1 = some p.2 ∧ flatB p.2 = true)
def rEqPr : R2 := fun x y H Q => PrDk H x y ∧ Q (.bl true) H
def rNePr : R2 := fun x y H Q => PrDk H x y ∧ Q (.bl false) H
theorem dk_eqIn {pins : List (Addr × Obj)} {σ : St} {H : Hp} {s : Shared} {A : Around} (hu : A.units < cLine) (I : Inv X pins σ H s) {a b : Addr} {ks : List (Key × V)} (ea : H a = some (.dK ks)) (eb : H b = some (.dK ks)) (ne : a ≠ b) (hp : ∀ p ∈ ks, valV ks p.1 = some p.2 ∧ flatB p.2 = true) : EqIn X.prog X.w A s (.ref a) (.ref b) true := by
  have oa : ObjOk X.prog X.w H s.heap a (.dK ks) := I.hok a _ ea
  have ob : ObjOk X.prog X.w H s.heap b (.dK ks) := I.hok b _ eb
  obtain ⟨_, ya, va, ra, da⟩ := oa
  obtain ⟨_, yb, vb, rb, db⟩ := ob
  have hl : va.length = vb.length := by rw [← ra.length, ← rb.length]
  exact EqIn.of_refs ne fun E Q q => PySem.W.keq_eq (knd := mixKind X.prog X.w) (r := true) ya yb da db hu (fun _ => hits_all rb ra hp) (by simpa [hl] using q)
theorem pr_zip {pins : List (Addr × Obj)} {σ : St} {H : Hp} {s : Shared} {A : Around} (hu : A.units < cLine) (I : Inv X pins σ H s) {a1 a2 b1 b2 : Addr} {its its2 : List Value} {k1 k2 : List (Key × V)} (r : Vals [.ref a1, .ref a2] its) (r2 : Vals [.ref b1, .ref b2] its2) (e1 : H a1 = some (.dK k1)) (e2 : H a2 = some (.dK k2)) (e3 : H b1 = some (.dK k1)) (e4 : H b2 = some (.dK k2)) (n1 : a1 ≠ b1) (n2 : a2 ≠ b2) (f1 : ∀ p ∈ k1, valV k1 p.1 = some p.2 ∧ flatB p.2 = true) (f2 : ∀ p ∈ k2, valV k2 p.1 = some p.2 ∧ flatB p.2 = true) : ∀ p ∈ its.zip its2, EqIn X.prog X.w A s p.1 p.2 true := by
  obtain ⟨u1, u2, rfl, r1, r2'⟩ := vals2 r
  obtain ⟨v1, v2, rfl, r3, r4⟩ := vals2 r2
  cases r1
  cases r2'
  cases r3
  cases r4
  intro p hp
  simp only [List.zip_cons_cons, List.zip_nil_right, List.mem_cons, List.not_mem_nil, or_false] at hp
  rcases hp with rfl | rfl
  · exact dk_eqIn hu I e1 e3 n1 f1
  · exact dk_eqIn hu I e2 e4 n2 f2
theorem op_nePr (hu : X.A.units + 64 < cLine) : OpR X (compareOp .NotEq) rNePr := by
  intro pins s σ H x y v u Q I rx ry h
  obtain ⟨⟨a, b, a1, a2, b1, b2, k1, k2, rfl, rfl, ea, eb, e1, e2, e3, e4, n1, n2, f1, f2⟩, q⟩ := h
  cases rx
  cases ry
  obtain ⟨its, r, p, _⟩ := I.tuple (SqT.of ea)
  obtain ⟨its2, r2, p2, _⟩ := I.tuple (SqT.of eb)
  have hsz : its.toArray.size = its2.toArray.size := by
    have h1 := r.length
    have h2 := r2.length
    simp at h1 h2 ⊢
    omega
  refine rc_pair_ne p p2 hsz (by omega) (fun z hz => ?_) (fin_bl I q rfl)
  have hA : X.A.in1.units = X.A.units + 1 := rfl
  exact pr_zip (by omega) I r r2 e1 e2 e3 e4 n1 n2 f1 f2 z (by simpa using hz)
theorem op_eqPr (hu : X.A.units + 64 < cLine) : OpR X (compareOp .Eq) rEqPr := by
  intro pins s σ H x y v u Q I rx ry h
  obtain ⟨⟨a, b, a1, a2, b1, b2, k1, k2, rfl, rfl, ea, eb, e1, e2, e3, e4, n1, n2, f1, f2⟩, q⟩ := h
  cases rx
  cases ry
  obtain ⟨its, r, p, _⟩ := I.tuple (SqT.of ea)
  obtain ⟨its2, r2, p2, _⟩ := I.tuple (SqT.of eb)
  have hA : X.A.in1.units = X.A.units + 1 := rfl
  have hz := pr_zip (A := X.A.in1) (by omega) I r r2 e1 e2 e3 e4 n1 n2 f1 f2
  have hsz : its.length = its2.length := by
    have h1 := r.length
    have h2 := r2.length
    simp at h1 h2 ⊢
    omega
  refine rcIn_tuples (e := fun _ => true) p p2 (by omega) (fun j h1 h2 => ?_) ?_
  · have j1 : j < its.length := by simpa using h1
    have j2 : j < its2.length := by simpa using h2
    have hm : (its[j], its2[j]) ∈ its.zip its2 := by
      have hl : j < (its.zip its2).length := by rw [List.length_zip]; omega
      have := List.getElem_mem hl
      rwa [List.getElem_zip] at this
    simpa using hz _ hm
  · refine fin_bl I q ?_
    simp [hsz]
end
end L2

set_option Elab.async false
set_option linter.all false
set_option maxRecDepth 100000
open PySem PySem.Spec PyProof.Rows L2 Evl
namespace Dw
/-! ### k44: what is asked of a body done -/
theorem ys_flat {N : List YV} (hn : (N.map (·.1)).Nodup) : ∀ p ∈ ysK N, valV (ysK N) p.1 = some p.2 ∧ flatB p.2 = true := fun p hp => by
  obtain ⟨y, hy, rfl⟩ := List.mem_map.mp hp
  refine ⟨?_, rfl⟩
  show valV (ysK N) (Sum.inr y.1 : Key) = _
  rw [ysK_val, getY_of hn (show (y.1, y.2) ∈ N from hy)]
  rfl
theorem rv_nePr {x y : V} {H : Hp} (h : ∀ H1, Ex H H1 → PrDk H1 x y) : RV rNePr x y H (.bl false) := fun H1 e Q q => ⟨h H1 e, q H1 (Ex.refl _)⟩
theorem rv_eqPr {x y : V} {H : Hp} (h : ∀ H1, Ex H H1 → PrDk H1 x y) : RV rEqPr x y H (.bl true) := fun H1 e Q q => ⟨h H1 e, q H1 (Ex.refl _)⟩
theorem rv_neDA {a b : Addr} {N : List YV} {H : Hp} (ha : H a = some (.dK (ysK N))) (hb : H b = some (.dK (ysK N))) (hn : (N.map (·.1)).Nodup) : RV rNeDA (.ref a) (.ref b) H (.bl false) := fun H1 e Q q => ⟨a, b, _, _, rfl, rfl, e _ _ ha, e _ _ hb, rfl, ys_flat hn, q H1 (Ex.refl _)⟩
theorem rv_eqDA {a b : Addr} {N : List YV} {H : Hp} (ha : H a = some (.dK (ysK N))) (hb : H b = some (.dK (ysK N))) (hn : (N.map (·.1)).Nodup) : RV rEqDA (.ref a) (.ref b) H (.bl true) := fun H1 e Q q => ⟨a, b, _, _, rfl, rfl, e _ _ ha, e _ _ hb, rfl, ys_flat hn, q H1 (Ex.refl _)⟩
/-- a pair of dicts at r -/
structure PrAt (H : Hp) (r a b : Addr) (s : List YV × List YV) : Prop where
  t : H r = some (.tup [.ref a, .ref b])
  k1 : H a = some (.dK (ysK s.1))
  k2 : H b = some (.dK (ysK s.2))
theorem PrAt.ex {H H' : Hp} {r a b : Addr} {s : List YV × List YV} (h : PrAt H r a b s) (e : Ex H H') : PrAt H' r a b s := ⟨e _ _ h.t, e _ _ h.k1, e _ _ h.k2⟩
theorem PrAt.pr {H : Hp} {ws : List (Str × Nat)} {r r' a b a' b' : Addr} {s : List YV × List YV} (h : PrAt H r a b s) (h' : PrAt H r' a' b' s) (hs : St2 ws s) (n1 : a ≠ a') (n2 : b ≠ b') : PrDk H (.ref r) (.ref r') :=
  ⟨r, r', a, b, a', b', _, _, rfl, rfl, h.t, h'.t, h.k1, h.k2, h'.k1, h'.k2, n1, n2, ys_flat hs.1.1, ys_flat hs.2.1⟩
def spRightK : Sp := fun vs H Q _ => ∃ (bt dv : Addr) (us : List V) (b : Bdy) (ws : List (Str × Nat)) (E : Str → List Nat), vs = [.ref bt, .ref dv] ∧ H bt = some (.tup us) ∧ BdAt H b us ∧ nest b ≤ 4 ∧ szB b ≤ 1000 ∧ WdB ws b ∧ Scene H dv ws E ∧ ∀ H', Ex H H' → Q (.bl true) H'
theorem ev_doneEq {σ : L2.St} {H : Hp} {E0 : XK} {i j k : Nat} {bt dv r a b : Addr} {us : List V} {bd : Bdy} {ws : List (Str × Nat)} {E : Str → List Nat} (hi : σ[i]? = some (some (.ref bt))) (hj : σ[j]? = some (some (.ref dv))) (hk : σ[k]? = some (some (.ref r))) (hbt : H bt = some (.tup us)) (hB : BdAt H bd us) (hn : nest bd ≤ 4) (hz : szB bd ≤ 1000) (hw : WdB ws bd) (sc : Scene H dv ws E) (hp : PrAt H r a b (doneB E bd ([], []))) (hs : St2 ws (doneB E bd ([], []))) :
    Ev (tOp rEqPr (tCall spBD [] E0 (tCons (tVar i) (tCons (tVar j) tNil))) (tVar k)) σ H (.bl true) := fun H1 e Q q =>
  ⟨_, hi, _, hj, bt, dv, us, bd, ws, E, rfl, e _ _ hbt, hB.ex e, hn, hz, hw, sc.ex e, fun r' H2 e2 ho => by
    obtain ⟨a', b', h1, n1, n2, _, h5, h6⟩ := ho
    have hp2 := hp.ex (e.trans e2)
    refine ⟨_, hk, PrAt.pr ⟨h1, h5, h6⟩ hp2 hs (fun z => ?_) (fun z => ?_), q H2 e2⟩
    · rw [z, e _ _ hp.k1] at n1
      cases n1
    · rw [z, e _ _ hp.k2] at n2
      cases n2⟩
end Dw

set_option Elab.async false
set_option linter.all false
set_option maxRecDepth 100000
open PySem PySem.Spec PyProof.Rows L2 Evl
namespace Dw
/-! ### k44: values drawn -/
/-- a if k in d else b: the test draws, so that a may want a token -/
def tIfIn (tk td ta tb : TE) : TE := fun σ H Q => tk σ H fun x H1 => td σ H1 fun y H2 => ∃ (z : Str) (a : Addr) (kvs : List (Key × V)), x = .str z ∧ y = .ref a ∧ Rd H2 a (.dK kvs) ∧ (if (valV kvs (Sum.inr z : Key)).isSome = true then ta σ H2 Q else tb σ H2 Q)
theorem pe_ifIn {X : Cx} {kx dx a b : Expr} {p pos : Pos} {tk td ta tb : TE} (hk : PE X kx tk) (hd : PE X dx td) (ha : PET X a ta) (hb : PE X b tb) (hm : behindInMarks .In dx = false) : PE X (.IfExp (.Compare kx [.In] [dx] p) a b pos) (tIfIn tk td ta tb) := by
  refine ⟨fun pins s σ H Q I h => ?_⟩
  refine wpAny_IfExp (wpAny_isTrue_Compare1 (thn (hk.run pins s σ H _ I h) fun v s1 ⟨x, H1, I1, r1, q1⟩ => thn (hd.run pins s1 σ H1 _ I1 q1) fun u s2 ⟨y, H2, I2, r2, q2⟩ => ?_) hm)
  obtain ⟨z, a, kvs, rfl, rfl, hr, q⟩ := q2
  cases r2
  obtain ⟨_, hd', vs, rel, dd⟩ := dk_rd I2.hok hr
  refine wpAny_in_of (k := (Sum.inr z : Key)) (kV_is (k := Sum.inr z) r1) hd' dd.mapOf ?_
  refine wpAny_truthy_bool ?_
  have e : (valueAt vs (Sum.inr z : Key)).isSome = (valV kvs (Sum.inr z : Key)).isSome := ((rel.val (Sum.inr z)).isSome_eq).symm
  rw [e]
  cases hc : (valV kvs (Sum.inr z : Key)).isSome with
  | true =>
    rw [hc] at q
    exact ha pins _ σ H2 Q (by show 1 ≤ s2.toks + 1; omega) (I2.tok _) q
  | false =>
    rw [hc] at q
    exact hb.run pins _ σ H2 Q (I2.tok _) q
/-- signs, and what is left of them without z -/
def Sgn2 (ss : List Nat) : Prop := Sg ss ∧ 0 < ss.length ∧ ss.length ≤ 10 ∧ ∃ sr, Txt.replace (Tx ss) (Str.ofString "z") (Str.ofString "") = Tx sr ∧ Sg sr ∧ 0 < sr.length ∧ sr.length ≤ 10
def spValuesK : Sp := fun vs H Q _ => ∃ (p q d : Addr) (ss : List Nat) (ws : List (Str × Nat)) (wy : List (Str × Bool)), vs = [.ref p, .ref q, .ref d, .str (Tx ss)] ∧ PotAt H p ∧ WsAt H q ws ∧ WyAt H d wy ∧ WsOk ws ∧ ws.length ≤ 1000 ∧ Sgn2 ss ∧ ∀ (g : Addr) (H' : Hp) (E : Str → List Nat), H g = none → ExB p H H' → PotAt H' p → Scene H' g ws E → Q (.ref g) H'
theorem scene_of {H : Hp} {g : Addr} {ws : List (Str × Nat)} {vl : List YV} (hk : vl.map (·.1) = ws.map (·.1)) (hv : ∀ y ∈ vl, ∃ m, (y.1, m) ∈ ws ∧ y.2.length = m ∧ Sg y.2) (ok : WsOk ws) (sz : ws.length ≤ 1000) (hg : H g = some (.dK (ysK vl))) : Scene H g ws (fun x => (getY vl x).getD []) := by
  have hn : (vl.map (·.1)).Nodup := by rw [hk]; exact ok.1
  have at_ : ∀ a ∈ ws, ∃ l, (a.1, l) ∈ vl ∧ getY vl a.1 = some l := fun a ha => by
    have hm : a.1 ∈ vl.map (·.1) := by rw [hk]; exact List.mem_map.mpr ⟨a, ha, rfl⟩
    obtain ⟨y, hy, e⟩ := List.mem_map.mp hm
    have hy2 : (a.1, y.2) ∈ vl := by rw [← e]; exact hy
    exact ⟨y.2, hy2, getY_of hn hy2⟩
  refine ⟨ok, sz, fun a ha => ?_, vl, hg, hn, ?_, fun a ha => ?_⟩
  · obtain ⟨l, h1, h2⟩ := at_ a ha
    obtain ⟨m, h3, h4, h5⟩ := hv _ h1
    have hm := ws_one ok (x := a.1) h3 ha
    show Sg ((getY vl a.1).getD []) ∧ ((getY vl a.1).getD []).length = a.2
    rw [h2]
    exact ⟨h5, h4.trans hm⟩
  · have := congrArg List.length hk
    rw [List.length_map, List.length_map] at this
    omega
  · obtain ⟨l, h1, h2⟩ := at_ a ha
    show getY vl a.1 = some ((getY vl a.1).getD [])
    rw [h2]
    rfl
theorem sgn2_a : Sgn2 [48, 49] := ⟨by unfold Sg; decide, by decide, by decide, [48, 49], by decide +kernel, by unfold Sg; decide, by decide, by decide⟩
theorem sgn2_b : Sgn2 [48, 49, 120, 122] := ⟨by unfold Sg; decide, by decide, by decide, [48, 49, 120], by decide +kernel, by unfold Sg; decide, by decide, by decide⟩
theorem sgn2_c : Sgn2 [120, 48, 49] := ⟨by unfold Sg; decide, by decide, by decide, [120, 48, 49], by decide +kernel, by unfold Sg; decide, by decide, by decide⟩
end Dw

set_option Elab.async false
set_option linter.all false
set_option maxRecDepth 100000
open PySem PySem.Spec PyProof.Rows L2 Evl
namespace Dw
/-! ### k44: the law -/
theorem op_catKA {X : Cx} {K : PySem.W.Frag} (h : X.K = K) : OpR X (binaryOp .Add) (rCatA K) := h ▸ op_catA
theorem Scene.exB {H H' : Hp} {p d : Addr} {ws : List (Str × Nat)} {E : Str → List Nat} (h : Scene H d ws E) (hP : PotAt H p) (e : ExB p H H') : Scene H' d ws E := by
  obtain ⟨vl, h1, h2, h3, h4⟩ := h.vl
  obtain ⟨x, y, hp, _⟩ := hP
  exact ⟨h.ok, h.sz, h.en, vl, e _ _ (fun z => by rw [z, hp] at h1; cases h1) h1, h2, h3, h4⟩
section
variable {K : PySem.W.Frag} {σ : L2.St} {H : Hp} {E0 : XK} {te : TE} {i j : Nat} {bt dv : Addr} {us : List V} {b : Bdy} {ws : List (Str × Nat)} {E : Str → List Nat}
theorem ev_right (hi : σ[i]? = some (some (.ref bt))) (hj : σ[j]? = some (some (.ref dv))) (hbt : H bt = some (.tup us)) (hB : BdAt H b us) (hn : nest b ≤ 4) (hz : szB b ≤ 1000) (hw : WdB ws b) (sc : Scene H dv ws E) : Ev (tCall spRightK [] E0 (tCons (tVar i) (tCons (tVar j) tNil))) σ H (.bl true) := fun H1 e Q q =>
  ⟨_, hi, _, hj, bt, dv, us, b, ws, E, rfl, e _ _ hbt, hB.ex e, hn, hz, hw, sc.ex e, fun H2 e2 => q H2 e2⟩
theorem ev_right2 (hi : σ[i]? = some (some (.ref bt))) (hj : σ[j]? = some (some (.ref dv))) (hbt : H bt = some (.tup us)) (hB : BdAt H b us) (hn : nest b ≤ 4) (hz : szB b ≤ 500) (hw : WdB ws b) (sc : Scene H dv ws E) : Ev (tCall spRightK [] E0 (tCons (tOp (rCatA K) (tVar i) (tVar i)) (tCons (tVar j) tNil))) σ H (.bl true) := fun H1 e Q q => by
  have hl := hB.len
  have hB2 := app_at hB hB
  have hn2 : nest (appB b b) ≤ 4 := by rw [app_nest]; omega
  have hz2 : szB (appB b b) ≤ 1000 := by rw [app_sz]; omega
  have hw2 := app_wd hw hw
  refine ⟨_, hi, _, hi, bt, bt, us, us, rfl, rfl, st_of (e _ _ hbt), st_of (e _ _ hbt), sz_of (by omega), fun h0 => ?_, fun h0 h1 => absurd h1 h0, fun h0 h1 p np => ?_⟩
  · subst h0
    exact ⟨_, hj, bt, dv, [], appB b b, ws, E, rfl, e _ _ hbt, hB2.ex e, hn2, hz2, hw2, sc.ex e, fun H2 e2 => q H2 e2⟩
  · have f := Ex.new (o := .tup (us ++ us)) np
    exact ⟨_, hj, p, dv, us ++ us, appB b b, ws, E, rfl, upd_same, hB2.ex (e.trans f), hn2, hz2, hw2, sc.ex (e.trans f), fun H2 e2 => q H2 (f.trans e2)⟩
theorem ev_right0 (ht : Ev te σ H (.ref dv)) (sc : Scene H dv ws E) : Ev (tCall spRightK [] E0 (tCons (tTup tNil) (tCons te tNil))) σ H (.bl true) := fun H1 e Q q => by
  refine ⟨by show 0 ≤ sizeLine; decide, fun p np => ?_⟩
  have f := Ex.new (o := .tup []) np
  have g : L2.upd H1 p (.tup []) p = some (.tup []) := upd_same
  generalize L2.upd H1 p (.tup []) = H2 at f g ⊢
  refine ht H2 (e.trans f) _ fun H3 e3 => ?_
  exact ⟨p, dv, [], .nil, ws, E, rfl, e3 _ _ g, rfl, Nat.zero_le _, Nat.zero_le _, True.intro, sc.ex ((e.trans f).trans e3), fun H4 e4 => q H4 ((f.trans e3).trans e4)⟩
end
theorem s_v1 : Str.ofString "01" = Tx [48, 49] := by decide +kernel
theorem s_v2 : Str.ofString "01xz" = Tx [48, 49, 120, 122] := by decide +kernel
theorem s_v3 : Str.ofString "x01" = Tx [120, 48, 49] := by decide +kernel
end Dw

set_option Elab.async false
set_option linter.all false
set_option maxRecDepth 100000
set_option maxHeartbeats 2000000
open PySem
namespace Dw
/-! ### k45: what is told covers what is -/
/-- c, told, covers d -/
def cv1 (c d : Nat) : Prop := c = d ∨ (c ≠ 48 ∧ c ≠ 49)
instance (c d : Nat) : Decidable (cv1 c d) := by unfold cv1; infer_instance
abbrev Cv : List Nat → List Nat → Prop := All2 cv1
theorem cv_refl : ∀ l : List Nat, Cv l l
  | [] => .nil
  | c :: l => .cons (.inl rfl) (cv_refl l)
theorem cv_map {f : Nat → Nat} {P : Nat → Prop} (hf : ∀ c d, P c → P d → cv1 c d → cv1 (f c) (f d)) : ∀ {a b : List Nat}, (∀ c ∈ a, P c) → (∀ c ∈ b, P c) → Cv a b → Cv (a.map f) (b.map f)
  | _, _, _, _, .nil => .nil
  | _, _, ha, hb, .cons h t => .cons (hf _ _ (ha _ (List.mem_cons_self ..)) (hb _ (List.mem_cons_self ..)) h) (cv_map hf (fun c hc => ha c (List.mem_cons_of_mem _ hc)) (fun c hc => hb c (List.mem_cons_of_mem _ hc)) t)
theorem cv_zip {f : Nat → Nat → Nat} (hf : ∀ c ∈ k3, ∀ d ∈ k3, ∀ c' ∈ k3, ∀ d' ∈ k3, cv1 c c' → cv1 d d' → cv1 (f c d) (f c' d')) : ∀ {a b a' b' : List Nat}, Sx a → Sx b → Sx a' → Sx b' → Cv a a' → Cv b b' → Cv (List.zipWith f a b) (List.zipWith f a' b')
  | _, _, _, _, _, _, _, _, .nil, _ => by simp only [List.zipWith_nil_left]; exact .nil
  | _, _, _, _, _, _, _, _, .cons _ _, .nil => by simp only [List.zipWith_nil_right]; exact .nil
  | _, _, _, _, ha, hb, ha', hb', .cons h t, .cons g u => by
    rw [List.zipWith_cons_cons, List.zipWith_cons_cons]
    exact .cons (hf _ (ha _ (List.mem_cons_self ..)) _ (hb _ (List.mem_cons_self ..)) _ (ha' _ (List.mem_cons_self ..)) _ (hb' _ (List.mem_cons_self ..)) h g)
      (cv_zip hf (fun c hc => ha c (List.mem_cons_of_mem _ hc)) (fun c hc => hb c (List.mem_cons_of_mem _ hc)) (fun c hc => ha' c (List.mem_cons_of_mem _ hc)) (fun c hc => hb' c (List.mem_cons_of_mem _ hc)) t u)
theorem cv_app : ∀ {a b a' b' : List Nat}, Cv a a' → Cv b b' → Cv (a ++ b) (a' ++ b')
  | _, _, _, _, .nil, g => g
  | _, _, _, _, .cons h t, g => .cons h (cv_app t g)
theorem cv_drop : ∀ {a a' : List Nat} (n : Nat), Cv a a' → Cv (a.drop n) (a'.drop n)
  | _, _, 0, h => h
  | _, _, _ + 1, .nil => .nil
  | _, _, n + 1, .cons _ t => cv_drop n t
theorem cv_take : ∀ {a a' : List Nat} (n : Nat), Cv a a' → Cv (a.take n) (a'.take n)
  | _, _, 0, _ => by simp only [List.take_zero]; exact .nil
  | _, _, _ + 1, .nil => .nil
  | _, _, n + 1, .cons h t => .cons h (cv_take n t)
theorem cv_rev : ∀ {a a' : List Nat}, Cv a a' → Cv a.reverse a'.reverse
  | _, _, .nil => .nil
  | _, _, .cons h t => by
    rw [List.reverse_cons, List.reverse_cons]
    exact cv_app (cv_rev t) (.cons h .nil)
theorem cv_not : ∀ c ∈ k3, ∀ d ∈ k3, cv1 c d → cv1 (notS c) (notS d) := by decide +kernel
theorem cv_and : ∀ c ∈ k3, ∀ d ∈ k3, ∀ c' ∈ k3, ∀ d' ∈ k3, cv1 c c' → cv1 d d' → cv1 (andS c d) (andS c' d') := by decide +kernel
theorem cv_or : ∀ c ∈ k3, ∀ d ∈ k3, ∀ c' ∈ k3, ∀ d' ∈ k3, cv1 c c' → cv1 d d' → cv1 (orS c d) (orS c' d') := by decide +kernel
theorem cv_xor : ∀ c ∈ k3, ∀ d ∈ k3, ∀ c' ∈ k3, ∀ d' ∈ k3, cv1 c c' → cv1 d d' → cv1 (xorS c d) (xorS c' d') := by decide +kernel
theorem cv_most : ∀ c ∈ k3, ∀ d ∈ k3, ∀ c' ∈ k3, ∀ d' ∈ k3, ∀ k ∈ k3, ∀ k' ∈ k3, cv1 c c' → cv1 d d' → cv1 k k' → cv1 (mostS c d k) (mostS c' d' k') := by decide +kernel
theorem cv_mix : ∀ c ∈ k3, ∀ d ∈ k3, ∀ c' ∈ k3, ∀ d' ∈ k3, cv1 c c' → cv1 d d' → cv1 (mixS c d) (mixS c' d') := by decide +kernel
theorem cv_rd : ∀ c ∈ sgn, ∀ d ∈ sgn, cv1 c d → cv1 (rd c) (rd d) := by decide +kernel
theorem cv_fold {f : Nat → Nat → Nat} (hk : ∀ c d, f c d ∈ k3) (hf : ∀ c ∈ k3, ∀ d ∈ k3, ∀ c' ∈ k3, ∀ d' ∈ k3, cv1 c c' → cv1 d d' → cv1 (f c d) (f c' d')) : ∀ {a a' : List Nat} {k k' : Nat}, Sx a → Sx a' → k ∈ k3 → k' ∈ k3 → cv1 k k' → Cv a a' → cv1 (a.foldl f k) (a'.foldl f k')
  | _, _, _, _, _, _, _, _, h, .nil => h
  | _, _, _, _, ha, ha', hk1, hk2, h, .cons g t => by
    rw [List.foldl_cons, List.foldl_cons]
    exact cv_fold hk hf (fun c hc => ha c (List.mem_cons_of_mem _ hc)) (fun c hc => ha' c (List.mem_cons_of_mem _ hc)) (hk _ _) (hk _ _) (hf _ hk1 _ (ha _ (List.mem_cons_self ..)) _ hk2 _ (ha' _ (List.mem_cons_self ..)) h g) t
theorem cv_any {a a' : List Nat} (ha : Sx a) (ha' : Sx a') (h : Cv a a') : cv1 (anyS a) (anyS a') := by
  rw [← any_take ha, ← any_take ha']
  exact cv_fold or_k3 cv_or ha ha' (by decide) (by decide) (.inl rfl) h
theorem cv_all {a a' : List Nat} (ha : Sx a) (ha' : Sx a') (h : Cv a a') : cv1 (allS a) (allS a') := by
  have e : ∀ l, Sx l → l.foldl andS 49 = allS l := fun l hl => (all_fold l 49 (by decide) hl).trans (all_49 l)
  rw [← e a ha, ← e a' ha']
  exact cv_fold and_k3 cv_and ha ha' (by decide) (by decide) (.inl rfl) h
theorem cv_plusL : ∀ {a b a' b' : List Nat} {k k' : Nat}, Sx a → Sx b → Sx a' → Sx b' → k ∈ k3 → k' ∈ k3 → cv1 k k' → Cv a a' → Cv b b' → Cv (plusL k a b) (plusL k' a' b')
  | _, _, _, _, _, _, _, _, _, _, _, _, _, .nil, _ => by simp only [plusL]; exact .nil
  | _, _, _, _, _, _, _, _, _, _, _, _, _, .cons _ _, .nil => by simp only [plusL]; exact .nil
  | _, _, _, _, _, _, ha, hb, ha', hb', k1, k2, h, .cons g t, .cons g2 u => by
    have m1 := ha _ (List.mem_cons_self ..)
    have m2 := hb _ (List.mem_cons_self ..)
    have m3 := ha' _ (List.mem_cons_self ..)
    have m4 := hb' _ (List.mem_cons_self ..)
    simp only [plusL]
    exact .cons (cv_xor _ (xor_k3' _ _) _ k1 _ (xor_k3' _ _) _ k2 (cv_xor _ m1 _ m2 _ m3 _ m4 g g2) h)
      (cv_plusL (fun c hc => ha c (List.mem_cons_of_mem _ hc)) (fun c hc => hb c (List.mem_cons_of_mem _ hc)) (fun c hc => ha' c (List.mem_cons_of_mem _ hc)) (fun c hc => hb' c (List.mem_cons_of_mem _ hc)) (most_k3 _ _ _) (most_k3 _ _ _) (cv_most _ m1 _ m2 _ m3 _ m4 _ k1 _ k2 g g2 h) t u)
theorem cv_less2 : ∀ {a b a' b' : List Nat} {k k' : Nat} {s s' : List Nat}, Sx a → Sx b → Sx a' → Sx b' → k ∈ k3 → k' ∈ k3 → cv1 k k' → Cv a a' → Cv b b' → cv1 (outW .less a b k s).2 (outW .less a' b' k' s').2
  | _, _, _, _, _, _, _, _, _, _, _, _, _, _, h, .nil, _ => by simp only [outW]; exact h
  | _, _, _, _, _, _, _, _, _, _, _, _, _, _, h, .cons _ _, .nil => by simp only [outW]; exact h
  | _, _, _, _, _, _, _, _, ha, hb, ha', hb', k1, k2, h, .cons g t, .cons g2 u => by
    have m1 := ha _ (List.mem_cons_self ..)
    have m2 := hb _ (List.mem_cons_self ..)
    have m3 := ha' _ (List.mem_cons_self ..)
    have m4 := hb' _ (List.mem_cons_self ..)
    simp only [outW, stepK, stepF]
    exact cv_less2 (fun c hc => ha c (List.mem_cons_of_mem _ hc)) (fun c hc => hb c (List.mem_cons_of_mem _ hc)) (fun c hc => ha' c (List.mem_cons_of_mem _ hc)) (fun c hc => hb' c (List.mem_cons_of_mem _ hc)) (most_k3 _ _ _) (most_k3 _ _ _) (cv_most _ (not_k3 _) _ m2 _ (not_k3 _) _ m4 _ k1 _ k2 (cv_not _ m1 _ m3 g) g2 h) t u
theorem cv_less {a b a' b' : List Nat} (ha : Sx a) (hb : Sx b) (ha' : Sx a') (hb' : Sx b') (hl : a.length = b.length) (h : Cv a a') (g : Cv b b') : Cv (bi2 .less a b) (bi2 .less a' b') := by
  have hl' : a'.length = b'.length := by rw [← h.len, ← g.len]; exact hl
  rw [← res_ok (w := .less) (fun z => nomatch z) (fun z => nomatch z) ha hb hl, ← res_ok (w := .less) (fun z => nomatch z) (fun z => nomatch z) ha' hb' hl']
  show Cv [(outW .less a.reverse b.reverse 48 []).2] [(outW .less a'.reverse b'.reverse 48 []).2]
  exact .cons (cv_less2 (sx_rev ha) (sx_rev hb) (sx_rev ha') (sx_rev hb') k3_48 k3_48 (.inl rfl) (cv_rev h) (cv_rev g)) .nil
/-- a mixed one covers each of both -/
theorem mix_known {c d : Nat} (h : mixS c d = 48 ∨ mixS c d = 49) : c = d ∧ mixS c d = c ∧ (c = 48 ∨ c = 49) := by
  unfold mixS at h ⊢
  by_cases hc : c = d ∧ c ∈ [48, 49]
  · rw [if_pos hc]
    exact ⟨hc.1, rfl, by simpa using hc.2⟩
  · rw [if_neg hc] at h
    omega
theorem cv1_known {c d : Nat} (h : cv1 c d) (k : c = 48 ∨ c = 49) : c = d := h.resolve_right fun z => by omega
theorem cv1_of {c d : Nat} (h : c = 48 ∨ c = 49 → c = d) : cv1 c d := by
  by_cases k : c = 48 ∨ c = 49
  · exact .inl (h k)
  · exact .inr ⟨fun z => k (.inl z), fun z => k (.inr z)⟩
theorem mix_l {c d c' : Nat} (h : cv1 c c') : cv1 (mixS c d) c' := cv1_of fun k => by
  obtain ⟨_, h2, h3⟩ := mix_known k
  rw [h2]
  exact cv1_known h h3
theorem mix_r {c d d' : Nat} (h : cv1 d d') : cv1 (mixS c d) d' := cv1_of fun k => by
  obtain ⟨rfl, h2, h3⟩ := mix_known k
  rw [h2]
  exact cv1_known h h3
theorem mix_b {c d c' d' : Nat} (h : cv1 c c') (g : cv1 d d') : cv1 (mixS c d) (mixS c' d') := cv1_of fun k => by
  obtain ⟨rfl, h2, h3⟩ := mix_known k
  have e1 := cv1_known h h3
  have e2 := cv1_known g h3
  rw [← e1, ← e2]
theorem cv_mixL : ∀ {a b a' : List Nat}, a.length = b.length → Cv a a' → Cv (List.zipWith mixS a b) a'
  | _, _, _, _, .nil => by simp only [List.zipWith_nil_left]; exact .nil
  | _ :: _, [], _, hl, .cons _ _ => by simp at hl
  | _ :: _, _ :: _, _, hl, .cons h t => by
    rw [List.zipWith_cons_cons]
    exact .cons (mix_l h) (cv_mixL (by simpa using hl) t)
theorem cv_mixR : ∀ {a b b' : List Nat}, a.length = b.length → Cv b b' → Cv (List.zipWith mixS a b) b'
  | a, _, _, hl, .nil => by simp only [List.zipWith_nil_right]; exact .nil
  | [], _ :: _, _, hl, .cons _ _ => by simp at hl
  | _ :: _, _ :: _, _, hl, .cons h t => by
    rw [List.zipWith_cons_cons]
    exact .cons (mix_r h) (cv_mixR (by simpa using hl) t)
theorem cv_mixB : ∀ {a b a' b' : List Nat}, Cv a a' → Cv b b' → Cv (List.zipWith mixS a b) (List.zipWith mixS a' b')
  | _, _, _, _, .nil, _ => by simp only [List.zipWith_nil_left]; exact .nil
  | _, _, _, _, .cons _ _, .nil => by simp only [List.zipWith_nil_right]; exact .nil
  | _, _, _, _, .cons h t, .cons g u => by
    rw [List.zipWith_cons_cons, List.zipWith_cons_cons]
    exact .cons (mix_b h g) (cv_mixB t u)
theorem cv_pick {c c' : Nat} {a b a' b' : List Nat} (hc : c ∈ k3) (h : cv1 c c') (hl : a.length = b.length) (ha : Cv a a') (hb : Cv b b') : Cv (pickS c a b) (pickS c' a' b') := by
  unfold pickS
  by_cases h1 : c = 120
  · rw [if_pos h1]
    by_cases g1 : c' = 120
    · rw [if_pos g1]
      exact cv_mixB ha hb
    · rw [if_neg g1]
      by_cases g2 : c' = 49
      · rw [if_pos g2]
        exact cv_mixL hl ha
      · rw [if_neg g2]
        exact cv_mixR hl hb
  · have hk : c = 48 ∨ c = 49 := by
      simp only [k3, List.mem_cons, List.not_mem_nil, or_false] at hc
      omega
    have e := cv1_known h hk
    subst e
    rw [if_neg h1, if_neg h1]
    by_cases h2 : c = 49
    · rw [if_pos h2, if_pos h2]
      exact ha
    · rw [if_neg h2, if_neg h2]
      exact hb
theorem one_of {l : List Nat} (h : l.length = 1) : l = [l.getD 0 0] := by
  match l, h with
  | [c], _ => rfl
theorem val_cv {ws : List (Str × Nat)} {E E' : Str → List Nat} (he : EnvOk ws E) (he' : EnvOk ws E') (hc : ∀ p ∈ ws, Cv (E p.1) (E' p.1)) : ∀ {t : Tm} {n : Nat}, Wd ws t n → Cv (val E t) (val E' t)
  | .is l, _, _ => cv_refl l
  | .of x, n, hx => cv_map (P := fun c => c ∈ sgn) (fun c d h1 h2 h => cv_rd c h1 d h2 h) (he (x, n) hx).1 (he' (x, n) hx).1 (hc (x, n) hx)
  | .un .not a, _, ha => cv_map (P := fun c => c ∈ k3) (fun c d h1 h2 h => cv_not c h1 d h2 h) (val_ok he (t := a) ha).1 (val_ok he' (t := a) ha).1 (val_cv he he' hc (t := a) ha)
  | .un .any a, _, ⟨_, m, ha⟩ => .cons (cv_any (val_ok he (t := a) ha).1 (val_ok he' (t := a) ha).1 (val_cv he he' hc (t := a) ha)) .nil
  | .un .all a, _, ⟨_, m, ha⟩ => .cons (cv_all (val_ok he (t := a) ha).1 (val_ok he' (t := a) ha).1 (val_cv he he' hc (t := a) ha)) .nil
  | .bi .same a b, _, ⟨_, m, ha, hb⟩ => by
    have h := cv_zip (f := xorS) cv_xor (val_ok he (t := a) ha).1 (val_ok he (t := b) hb).1 (val_ok he' (t := a) ha).1 (val_ok he' (t := b) hb).1 (val_cv he he' hc (t := a) ha) (val_cv he he' hc (t := b) hb)
    have g := cv_any (sx_zip xor_k3') (sx_zip xor_k3') h
    have k : ∀ l : List Nat, Sx l → anyS l ∈ k3 := fun l _ => by
      unfold anyS
      split
      · decide
      · split <;> decide
    exact .cons (cv_not _ (k _ (sx_zip xor_k3')) _ (k _ (sx_zip xor_k3')) g) .nil
  | .bi .less a b, _, ⟨_, m, ha, hb⟩ => cv_less (val_ok he (t := a) ha).1 (val_ok he (t := b) hb).1 (val_ok he' (t := a) ha).1 (val_ok he' (t := b) hb).1 (by rw [(val_ok he (t := a) ha).2, (val_ok he (t := b) hb).2]) (val_cv he he' hc (t := a) ha) (val_cv he he' hc (t := b) hb)
  | .bi .join a b, _, ⟨_, i, j, ha, hb, _⟩ => cv_app (val_cv he he' hc (t := a) ha) (val_cv he he' hc (t := b) hb)
  | .bi .and a b, _, ⟨ha, hb⟩ => cv_zip (f := andS) cv_and (val_ok he (t := a) ha).1 (val_ok he (t := b) hb).1 (val_ok he' (t := a) ha).1 (val_ok he' (t := b) hb).1 (val_cv he he' hc (t := a) ha) (val_cv he he' hc (t := b) hb)
  | .bi .or a b, _, ⟨ha, hb⟩ => cv_zip (f := orS) cv_or (val_ok he (t := a) ha).1 (val_ok he (t := b) hb).1 (val_ok he' (t := a) ha).1 (val_ok he' (t := b) hb).1 (val_cv he he' hc (t := a) ha) (val_cv he he' hc (t := b) hb)
  | .bi .xor a b, _, ⟨ha, hb⟩ => cv_zip (f := xorS) cv_xor (val_ok he (t := a) ha).1 (val_ok he (t := b) hb).1 (val_ok he' (t := a) ha).1 (val_ok he' (t := b) hb).1 (val_cv he he' hc (t := a) ha) (val_cv he he' hc (t := b) hb)
  | .bi .plus a b, _, ⟨ha, hb⟩ => cv_rev (cv_plusL (sx_rev (val_ok he (t := a) ha).1) (sx_rev (val_ok he (t := b) hb).1) (sx_rev (val_ok he' (t := a) ha).1) (sx_rev (val_ok he' (t := b) hb).1) k3_48 k3_48 (.inl rfl) (cv_rev (val_cv he he' hc (t := a) ha)) (cv_rev (val_cv he he' hc (t := b) hb)))
  | .pick c a b, _, ⟨hcc, ha, hb⟩ => by
    have h1 := one_of (val_ok he (t := c) hcc).2
    have h2 := one_of (val_ok he' (t := c) hcc).2
    have h := val_cv he he' hc (t := c) hcc
    have hk : (val E c).getD 0 0 ∈ k3 := (val_ok he (t := c) hcc).1 _ (by rw [h1]; exact List.mem_singleton.mpr rfl)
    rw [h1, h2] at h
    cases h with
    | cons g _ => exact cv_pick hk g (by rw [(val_ok he (t := a) ha).2, (val_ok he (t := b) hb).2]) (val_cv he he' hc (t := a) ha) (val_cv he he' hc (t := b) hb)
  | .part a hi lo, _, ⟨m, ha, h1, h2, _⟩ => by
    have h := val_cv he he' hc (t := a) ha
    show Cv (partS (val E a) hi lo) (partS (val E' a) hi lo)
    unfold partS
    rw [h.len]
    exact cv_take _ (cv_drop _ h)
end Dw

set_option Elab.async false
set_option linter.all false
set_option maxRecDepth 100000
set_option maxHeartbeats 2000000
open PySem
namespace Dw
/-! ### k45: what a body does, told and done -/
theorem getY_map {f : Str → List Nat} (x : Str) : ∀ M : List YV, getY (M.map fun y => (y.1, f y.1)) x = (getY M x).map fun _ => f x
  | [] => rfl
  | y :: M => by
    have ih := getY_map (f := f) x M
    unfold getY at ih ⊢
    rw [List.map_cons, List.find?_cons, List.find?_cons]
    by_cases h : y.1 = x
    · simp [h]
    · simp only [decide_eq_false h]
      exact ih
theorem getY_mix {E : Str → List Nat} {A B : List YV} (hA : (A.map (·.1)).Nodup) (hB : (B.map (·.1)).Nodup) (x : Str) : getY (mixY E A B) x = ((getY B x).or (getY A x)).map fun _ => List.zipWith mixS (ovE E A x) (ovE E B x) := by
  unfold mixY
  rw [getY_map (f := fun x => List.zipWith mixS ((getY A x).getD (E x)) ((getY B x).getD (E x))), getY_mrg B A hB hA]
  rfl
theorem ov_mix_some {E : Str → List Nat} {A B : List YV} (hA : (A.map (·.1)).Nodup) (hB : (B.map (·.1)).Nodup) {x : Str} (h : ¬ (getY A x = none ∧ getY B x = none)) : ovE E (mixY E A B) x = List.zipWith mixS (ovE E A x) (ovE E B x) := by
  show (getY (mixY E A B) x).getD (E x) = _
  rw [getY_mix hA hB]
  cases h1 : getY B x with
  | some l => rfl
  | none =>
    cases h2 : getY A x with
    | some l => rfl
    | none => exact absurd ⟨h2, h1⟩ h
theorem ov_none {E : Str → List Nat} {N : List YV} {x : Str} (h : getY N x = none) : ovE E N x = E x := by
  unfold ovE
  rw [h]
  rfl
theorem mix_none {E : Str → List Nat} {A B : List YV} (hA : (A.map (·.1)).Nodup) (hB : (B.map (·.1)).Nodup) {x : Str} (h1 : getY A x = none) (h2 : getY B x = none) : getY (mixY E A B) x = none := by
  rw [getY_mix hA hB, h1, h2]
  rfl
theorem mix_none' {E : Str → List Nat} {A B : List YV} (hA : (A.map (·.1)).Nodup) (hB : (B.map (·.1)).Nodup) {x : Str} (h : getY (mixY E A B) x = none) : getY A x = none ∧ getY B x = none := by
  rw [getY_mix hA hB] at h
  cases h1 : getY B x with
  | some l => rw [h1] at h; cases h
  | none =>
    cases h2 : getY A x with
    | some l => rw [h1, h2] at h; cases h
    | none => exact ⟨rfl, rfl⟩
/-- what N tells of E covers what N' tells of E' -/
structure SC (ws : List (Str × Nat)) (E E' : Str → List Nat) (N N' : List YV) : Prop where
  no : ∀ x, getY N x = none → getY N' x = none
  cv : ∀ p ∈ ws, Cv (ovE E N p.1) (ovE E' N' p.1)
section
variable {ws : List (Str × Nat)} {E E' : Str → List Nat} {A B A' B' N N' : List YV}
theorem SC.put (h : SC ws E E' N N') (hN : StOk ws N) (hN' : StOk ws N') {x : Str} {l l' : List Nat} (hl : Cv l l') : SC ws E E' (putY N x l) (putY N' x l') := by
  have g : ∀ (E : Str → List Nat) (N : List YV) (l : List Nat) (hn : (N.map (·.1)).Nodup) (y : Str), ovE E (putY N x l) y = if y = x then l else ovE E N y := fun E N l hn y => by
    unfold ovE
    rw [getY_put hn]
    by_cases h : y = x
    · rw [if_pos h, if_pos h]
      rfl
    · rw [if_neg h, if_neg h]
  refine ⟨fun y hy => ?_, fun p hp => ?_⟩
  · rw [getY_put hN.1] at hy
    rw [getY_put hN'.1]
    by_cases e : y = x
    · rw [if_pos e] at hy
      cases hy
    · rw [if_neg e] at hy ⊢
      exact h.no y hy
  · rw [g E N l hN.1, g E' N' l' hN'.1]
    by_cases e : p.1 = x
    · rw [if_pos e, if_pos e]
      exact hl
    · rw [if_neg e, if_neg e]
      exact h.cv p hp
theorem ov_len (ok : WsOk ws) (he : EnvOk ws E) (hA : StOk ws A) (hB : StOk ws B) {p : Str × Nat} (hp : p ∈ ws) : (ovE E A p.1).length = (ovE E B p.1).length := by
  rw [(env_ov ok he hA p hp).2, (env_ov ok he hB p hp).2]
theorem SC.mixL (ok : WsOk ws) (he : EnvOk ws E) (hA : StOk ws A) (hB : StOk ws B) (h : SC ws E E' A A') : SC ws E E' (mixY E A B) A' := by
  refine ⟨fun x hx => h.no x (mix_none' hA.1 hB.1 hx).1, fun p hp => ?_⟩
  by_cases hn : getY A p.1 = none ∧ getY B p.1 = none
  · rw [ov_none (mix_none hA.1 hB.1 hn.1 hn.2)]
    have := h.cv p hp
    rwa [ov_none hn.1] at this
  · rw [ov_mix_some hA.1 hB.1 hn]
    exact cv_mixL (ov_len ok he hA hB hp) (h.cv p hp)
theorem SC.mixR (ok : WsOk ws) (he : EnvOk ws E) (hA : StOk ws A) (hB : StOk ws B) (h : SC ws E E' B B') : SC ws E E' (mixY E A B) B' := by
  refine ⟨fun x hx => h.no x (mix_none' hA.1 hB.1 hx).2, fun p hp => ?_⟩
  by_cases hn : getY A p.1 = none ∧ getY B p.1 = none
  · rw [ov_none (mix_none hA.1 hB.1 hn.1 hn.2)]
    have := h.cv p hp
    rwa [ov_none hn.2] at this
  · rw [ov_mix_some hA.1 hB.1 hn]
    exact cv_mixR (ov_len ok he hA hB hp) (h.cv p hp)
theorem SC.mixB (ok : WsOk ws) (he : EnvOk ws E) (hA : StOk ws A) (hB : StOk ws B) (hA' : StOk ws A') (hB' : StOk ws B') (h : SC ws E E' A A') (g : SC ws E E' B B') : SC ws E E' (mixY E A B) (mixY E' A' B') := by
  refine ⟨fun x hx => ?_, fun p hp => ?_⟩
  · obtain ⟨h1, h2⟩ := mix_none' hA.1 hB.1 hx
    exact mix_none hA'.1 hB'.1 (h.no x h1) (g.no x h2)
  by_cases hn : getY A p.1 = none ∧ getY B p.1 = none
  · rw [ov_none (mix_none hA.1 hB.1 hn.1 hn.2), ov_none (mix_none hA'.1 hB'.1 (h.no _ hn.1) (g.no _ hn.2))]
    have := h.cv p hp
    rwa [ov_none hn.1, ov_none (h.no _ hn.1)] at this
  · rw [ov_mix_some hA.1 hB.1 hn]
    by_cases hm : getY A' p.1 = none ∧ getY B' p.1 = none
    · rw [ov_none (mix_none hA'.1 hB'.1 hm.1 hm.2), ← ov_none (E := E') hm.1]
      exact cv_mixL (ov_len ok he hA hB hp) (h.cv p hp)
    · rw [ov_mix_some hA'.1 hB'.1 hm]
      exact cv_mixB (h.cv p hp) (g.cv p hp)
theorem done_cv (ok : WsOk ws) (he : EnvOk ws E) (he' : EnvOk ws E') : ∀ (b : Bdy) (s s' : List YV × List YV), WdB ws b → St2 ws s → St2 ws s' → SC ws E E' s.1 s'.1 → SC ws E E' s.2 s'.2 → SC ws E E' (doneB E b s).1 (doneB E' b s').1 ∧ SC ws E E' (doneB E b s).2 (doneB E' b s').2
  | .nil, _, _, _, _, _, h1, h2 => ⟨h1, h2⟩
  | .set false x t r, s, s', ⟨⟨m, hm, hw, _⟩, hr⟩, hs, hs', h1, h2 => by
    have v1 := val_ok (env_ov ok he hs.1) hw
    have v2 := val_ok (env_ov ok he' hs'.1) hw
    have v := val_cv (env_ov ok he hs.1) (env_ov ok he' hs'.1) h1.cv hw
    exact done_cv ok he he' r _ _ hr ⟨hs.1.put hm v1.2 (sx_sg v1.1), hs.2⟩ ⟨hs'.1.put hm v2.2 (sx_sg v2.1), hs'.2⟩ (h1.put hs.1 hs'.1 v) h2
  | .set true x t r, s, s', ⟨⟨m, hm, hw, _⟩, hr⟩, hs, hs', h1, h2 => by
    have v1 := val_ok (env_ov ok he hs.1) hw
    have v2 := val_ok (env_ov ok he' hs'.1) hw
    have v := val_cv (env_ov ok he hs.1) (env_ov ok he' hs'.1) h1.cv hw
    exact done_cv ok he he' r _ _ hr ⟨hs.1, hs.2.put hm v1.2 (sx_sg v1.1)⟩ ⟨hs'.1, hs'.2.put hm v2.2 (sx_sg v2.1)⟩ h1 (h2.put hs.2 hs'.2 v)
  | .cond t a b r, s, s', ⟨hw, ha, hb, hr⟩, hs, hs', h1, h2 => by
    have v1 := val_ok (env_ov ok he hs.1) hw.1
    have v2 := val_ok (env_ov ok he' hs'.1) hw.1
    have v := val_cv (env_ov ok he hs.1) (env_ov ok he' hs'.1) h1.cv hw.1
    have oa := done_ok ok he a s ha hs
    have ob := done_ok ok he b s hb hs
    have oa' := done_ok ok he' a s' ha hs'
    have ob' := done_ok ok he' b s' hb hs'
    have ca := done_cv ok he he' a s s' ha hs hs' h1 h2
    have cb := done_cv ok he he' b s s' hb hs hs' h1 h2
    have oc : St2 ws (condB E t a b s) := done_ok ok he (.cond t a b .nil) s ⟨hw, ha, hb, True.intro⟩ hs
    have oc' : St2 ws (condB E' t a b s') := done_ok ok he' (.cond t a b .nil) s' ⟨hw, ha, hb, True.intro⟩ hs'
    rw [done_cond, done_cond]
    suffices hh : SC ws E E' (condB E t a b s).1 (condB E' t a b s').1 ∧ SC ws E E' (condB E t a b s).2 (condB E' t a b s').2 from done_cv ok he he' r _ _ hr oc oc' hh.1 hh.2
    have e1 := one_of v1.2
    have e2 := one_of v2.2
    have k1 : (val (ovE E s.1) t).getD 0 0 ∈ k3 := v1.1 _ (by rw [e1]; exact List.mem_singleton.mpr rfl)
    have k2 : (val (ovE E' s'.1) t).getD 0 0 ∈ k3 := v2.1 _ (by rw [e2]; exact List.mem_singleton.mpr rfl)
    unfold condB
    generalize (val (ovE E s.1) t).getD 0 0 = c at e1 k1
    generalize (val (ovE E' s'.1) t).getD 0 0 = c' at e2 k2
    rw [e1, e2] at v ⊢
    have g : cv1 c c' := by
      cases v with
      | cons g _ => exact g
    by_cases hk : c = 48 ∨ c = 49
    · have := cv1_known g hk
      subst this
      by_cases h49 : [c] = [49]
      · rw [if_pos h49, if_pos h49]
        exact ca
      · rw [if_neg h49, if_neg h49]
        have h48 : [c] = [48] := by
          rcases hk with rfl | rfl
          · rfl
          · exact absurd rfl h49
        rw [if_pos h48, if_pos h48]
        exact cb
    · have n1 : ¬ [c] = [49] := fun z => hk (.inr (List.cons.inj z).1)
      have n2 : ¬ [c] = [48] := fun z => hk (.inl (List.cons.inj z).1)
      rw [if_neg n1, if_neg n2]
      by_cases h49 : [c'] = [49]
      · rw [if_pos h49]
        exact ⟨SC.mixL ok he oa.1 ob.1 ca.1, SC.mixL ok he oa.2 ob.2 ca.2⟩
      · rw [if_neg h49]
        by_cases h48 : [c'] = [48]
        · rw [if_pos h48]
          exact ⟨SC.mixR ok he oa.1 ob.1 cb.1, SC.mixR ok he oa.2 ob.2 cb.2⟩
        · rw [if_neg h48]
          exact ⟨SC.mixB ok he oa.1 ob.1 oa'.1 ob'.1 ca.1 cb.1, SC.mixB ok he oa.2 ob.2 oa'.2 ob'.2 ca.2 cb.2⟩
end
end Dw

set_option Elab.async false
set_option linter.all false
set_option maxRecDepth 100000
set_option maxHeartbeats 2000000
open PySem PySem.Spec PyProof.Rows L2 Evl
namespace Dw
/-! ### k45: fillings, holes -/
def Kn (l : List Nat) : Prop := ∀ c ∈ l, c = 48 ∨ c = 49
def spFillK : Sp := fun vs H Q _ => ∃ n : Nat, vs = [.int (n : Int)] ∧ n ≤ 8 ∧ ∀ (g : Addr) (H' : Hp) (ls : List (List Nat)), H g = none → Ex H H' → H' g = some (.lst (ls.map fun l => V.str (Tx l))) → (∀ l ∈ ls, l.length = n ∧ Kn l) → ls.length ≤ 256 → Q (.ref g) H'
def spSoK : Sp := fun vs H Q _ => ∃ a b : List Nat, vs = [.str (Tx a), .str (Tx b)] ∧ Cv a b ∧ a.length ≤ 1000 ∧ ∀ H', Ex H H' → Q (.bl true) H'
/-- l, its sign at i now c -/
def setAt (l : List Nat) (i c : Nat) : List Nat := l.take i ++ [c] ++ l.drop (i + 1)
theorem set_len {l : List Nat} {i c : Nat} (h : i < l.length) : (setAt l i c).length = l.length := by
  unfold setAt
  rw [List.length_append, List.length_append, List.length_take, List.length_drop]
  simp
  omega
theorem set_sg {l : List Nat} {i c : Nat} (h : Sg l) (hc : c ∈ sgn) : Sg (setAt l i c) := fun d hd => by
  unfold setAt at hd
  rcases List.mem_append.mp hd with h1 | h1
  · rcases List.mem_append.mp h1 with h2 | h2
    · exact h d (List.mem_of_mem_take h2)
    · rw [List.mem_singleton.mp h2]
      exact hc
  · exact h d (List.mem_of_mem_drop h1)
theorem set_cv {l l' : List Nat} {i c c' : Nat} (h : Cv l l') (g : cv1 c c') : Cv (setAt l i c) (setAt l' i c') := cv_app (cv_app (cv_take i h) (.cons g .nil)) (cv_drop (i + 1) h)
/-- the holes hs filled by ss, one behind the other -/
def putH (M : List YV) : List (Str × Nat) → List Nat → List YV
  | h :: hs, c :: ss => putH (putY M h.1 (setAt ((getY M h.1).getD []) h.2 c)) hs ss
  | _, _ => M
/-- M has just the names of ws, with signs of their widths -/
structure Fits (ws : List (Str × Nat)) (M : List YV) : Prop where
  keys : M.map (·.1) = ws.map (·.1)
  all_ : ∀ y ∈ M, ∃ m, (y.1, m) ∈ ws ∧ y.2.length = m ∧ Sg y.2
theorem Fits.get {ws : List (Str × Nat)} {M : List YV} (ok : WsOk ws) (h : Fits ws M) {x : Str} {m : Nat} (hx : (x, m) ∈ ws) : ∃ l, getY M x = some l ∧ l.length = m ∧ Sg l := by
  have hn : (M.map (·.1)).Nodup := by rw [h.keys]; exact ok.1
  have hm : x ∈ M.map (·.1) := by rw [h.keys]; exact List.mem_map.mpr ⟨_, hx, rfl⟩
  obtain ⟨y, hy, e⟩ := List.mem_map.mp hm
  have hy2 : (x, y.2) ∈ M := by rw [← e]; exact hy
  obtain ⟨m', h1, h2, h3⟩ := h.all_ _ hy2
  exact ⟨y.2, getY_of hn hy2, h2.trans (ws_one ok h1 hx), h3⟩
theorem putY_same {M : List YV} {x : Str} {l : List Nat} (h : x ∈ M.map (·.1)) : (putY M x l).map (·.1) = M.map (·.1) := by
  obtain ⟨y, hy, e⟩ := List.mem_map.mp h
  unfold putY
  rw [if_pos (List.any_eq_true.mpr ⟨y, hy, by simpa using e⟩), List.map_map]
  refine List.map_congr_left fun z _ => ?_
  show (if z.1 = x then (z.1, l) else z).1 = z.1
  split <;> rfl
theorem Fits.put {ws : List (Str × Nat)} {M : List YV} (ok : WsOk ws) (h : Fits ws M) {x : Str} {m i c : Nat} (hx : (x, m) ∈ ws) (hi : i < m) (hc : c ∈ sgn) : Fits ws (putY M x (setAt ((getY M x).getD []) i c)) := by
  obtain ⟨l, h1, h2, h3⟩ := h.get ok hx
  rw [h1]
  show Fits ws (putY M x (setAt l i c))
  refine ⟨?_, fun y hy => ?_⟩
  · rw [putY_same (by rw [h.keys]; exact List.mem_map.mpr ⟨_, hx, rfl⟩)]
    exact h.keys
  · rcases putY_mem hy with g | g
    · exact h.all_ y g
    · subst g
      exact ⟨m, hx, (set_len (by omega)).trans h2, set_sg h3 hc⟩
/-- told, but for the holes, as the other -/
def CvM (ws : List (Str × Nat)) (M M' : List YV) : Prop := ∀ p ∈ ws, Cv ((getY M p.1).getD []) ((getY M' p.1).getD [])
def HolesIn (ws : List (Str × Nat)) (hs : List (Str × Nat)) : Prop := ∀ h ∈ hs, ∃ m, (h.1, m) ∈ ws ∧ h.2 < m
theorem put_cvM {ws : List (Str × Nat)} {M M' : List YV} (ok : WsOk ws) (hM : Fits ws M) (hM' : Fits ws M') (h : CvM ws M M') {x : Str} {i c c' : Nat} (g : cv1 c c') : CvM ws (putY M x (setAt ((getY M x).getD []) i c)) (putY M' x (setAt ((getY M' x).getD []) i c')) ∨ ¬ ∃ m, (x, m) ∈ ws := by
  by_cases hx : ∃ m, (x, m) ∈ ws
  · left
    obtain ⟨m, hx⟩ := hx
    have n1 : (M.map (·.1)).Nodup := by rw [hM.keys]; exact ok.1
    have n2 : (M'.map (·.1)).Nodup := by rw [hM'.keys]; exact ok.1
    intro p hp
    rw [getY_put n1, getY_put n2]
    by_cases e : p.1 = x
    · rw [if_pos e, if_pos e]
      exact set_cv (h (x, m) hx) g
    · rw [if_neg e, if_neg e]
      exact h p hp
  · exact .inr hx
theorem putH_ok {ws : List (Str × Nat)} (ok : WsOk ws) : ∀ (hs : List (Str × Nat)) (ss : List Nat) (M : List YV), HolesIn ws hs → (∀ c ∈ ss, c ∈ sgn) → Fits ws M → Fits ws (putH M hs ss)
  | [], _, _, _, _, h => by simpa [putH] using h
  | _ :: _, [], _, _, _, h => by simpa [putH] using h
  | x :: hs, c :: ss, M, hh, hc, h => by
    obtain ⟨m, h1, h2⟩ := hh x (List.mem_cons_self ..)
    exact putH_ok ok hs ss _ (fun y hy => hh y (List.mem_cons_of_mem _ hy)) (fun d hd => hc d (List.mem_cons_of_mem _ hd)) (h.put ok h1 h2 (hc c (List.mem_cons_self ..)))
theorem putH_cv {ws : List (Str × Nat)} (ok : WsOk ws) : ∀ (hs : List (Str × Nat)) (ss ss' : List Nat) (M M' : List YV), HolesIn ws hs → (∀ c ∈ ss, c = 120) → (∀ c ∈ ss', c ∈ sgn) → ss.length = ss'.length → Fits ws M → Fits ws M' → CvM ws M M' → CvM ws (putH M hs ss) (putH M' hs ss')
  | [], _, _, _, _, _, _, _, _, _, _, h => by simpa [putH] using h
  | _ :: _, [], [], _, _, _, _, _, _, _, _, h => by simpa [putH] using h
  | _ :: _, [], _ :: _, _, _, _, _, _, hl, _, _, _ => by simp at hl
  | _ :: _, _ :: _, [], _, _, _, _, _, hl, _, _, _ => by simp at hl
  | x :: hs, c :: ss, c' :: ss', M, M', hh, hc, hc', hl, f, f', h => by
    obtain ⟨m, h1, h2⟩ := hh x (List.mem_cons_self ..)
    have e := hc c (List.mem_cons_self ..)
    subst e
    have g : cv1 120 c' := .inr ⟨by decide, by decide⟩
    have key := (put_cvM ok f f' h (x := x.1) (i := x.2) g).resolve_right fun z => z ⟨m, h1⟩
    exact putH_cv ok hs ss ss' _ _ (fun y hy => hh y (List.mem_cons_of_mem _ hy)) (fun d hd => hc d (List.mem_cons_of_mem _ hd)) (fun d hd => hc' d (List.mem_cons_of_mem _ hd)) (by simpa using hl) (f.put ok h1 h2 (by decide)) (f'.put ok h1 h2 (hc' c' (List.mem_cons_self ..))) key
end Dw

set_option Elab.async false
set_option linter.all false
set_option maxRecDepth 100000
set_option maxHeartbeats 2000000
namespace Dw
open PySem PySem.W PySem.Spec PyProof.Rows L2
/-! ### for .. in zip(a list, a text) -/
def ItzM (K : PySem.W.Frag) (a : Addr) (y : Str) : It := ⟨fun i H => ∃ xs, SqL K H a xs ∧ i < min xs.length y.cps.size,
  fun i H v H' => ∃ T x d, v = .ref T ∧ H T = none ∧ H' = upd H T (.tup [x, .str ⟨#[d]⟩]) ∧ (∀ xs, SqL K H a xs → xs[i]? = some x) ∧ y.cps[i]? = some d,
  fun i H => ∃ xs, SqL K H a xs ∧ i = min xs.length y.cps.size⟩
theorem turn_zipM {P : Program} {w : World} {K : PySem.W.Frag} {elts : List Expr} {kk : Nat} {tpos : Pos} {z TI TO j1 j2 a : Addr} {y : Str} {u : Tok} (D : ZipSep2 z TI TO j1 j2 [j1, a] [j2]) (na : a ≠ j1) :
    Turn P w K (.Tuple elts kk tpos) (ItzM K a y) [z, TI, TO, j1, j2] z (fun i h => IsZip h z TI TO .none ∧ IsTupOf2 h TI (.ref j1) (.ref j2) ∧ (∃ a1 a2, IsTupOf2 h TO a1 a2) ∧ h.IsListIter j1 a i ∧ h.IsStrIter j2 (strIterType y) y u i) where
  mem := by simp
  obj := fun i h st c hc => by
    obtain ⟨hz, h1, ⟨a1, a2, h2⟩, ⟨o1, e1, _, d1⟩, ⟨o2, e2, _, d2⟩⟩ := st
    simp only [List.mem_cons, List.not_mem_nil, or_false] at hc
    rcases hc with rfl | rfl | rfl | rfl | rfl
    · exact ⟨_, hz, fun v q => nomatch q⟩
    · exact ⟨_, h1, fun v q => nomatch q⟩
    · exact ⟨_, h2, fun v q => nomatch q⟩
    · exact ⟨o1, e1, fun v q => by rw [d1] at q; cases q⟩
    · exact ⟨o2, e2, fun v q => by rw [d2] at q; cases q⟩
  keep := fun i h h' st k => by
    obtain ⟨hz, h1, ⟨a1, a2, h2⟩, ⟨o1, e1, r1⟩, ⟨o2, e2, r2⟩⟩ := st
    exact ⟨k z (by simp) _ hz, k TI (by simp) _ h1, ⟨a1, a2, k TO (by simp) _ h2⟩, ⟨o1, k j1 (by simp) _ e1, r1⟩, ⟨o2, k j2 (by simp) _ e2, r2⟩⟩
  item := by
    intro X hP hw hK hc i pins s σ H E I hf st hg
    subst hP hw hK
    obtain ⟨xs, hxs, hlt⟩ := hg
    obtain ⟨its, rv, pl, _⟩ := I.list hxs
    have hlen := rv.length
    have hh : X.A.handled = none := I.ok.hd hc
    have W := GoesN.zip2 (elts := elts) (x1 := kk) (pos := tpos) (A := X.A) D (Draws.list (prog := X.prog) (w := X.w) (A := X.A.in1) hh j1 a na its.toArray) (Draws.text (prog := X.prog) (w := X.w) (A := X.A.in1) hh j2 y u)
    obtain ⟨hz, h1, h2, h3, h4⟩ := st
    have hsz : its.toArray.size = xs.length := by simp [hlen]
    refine wpAny_mono (W.goes i s (fun v s2 => ∃ x' H', Inv X pins σ H' s2 ∧ RelV x' v ∧ (ItzM X.K a y).yld i H x' H' ∧ (IsZip s2.heap z TI TO .none ∧ IsTupOf2 s2.heap TI (.ref j1) (.ref j2) ∧ (∃ a1 a2, IsTupOf2 s2.heap TO a1 a2) ∧ s2.heap.IsListIter j1 a (i + 1) ∧ s2.heap.IsStrIter j2 (strIterType y) y u (i + 1)) ∧ ∀ b ∈ [z, TI, TO, j1, j2], H' b = none) E (by rw [hsz]; exact hlt) ⟨hz, h1, h2, ⟨h3, pl.isList⟩, h4⟩ fun v h' tk hY st' hk _ => ?_) (fun r s1 q => q) fun _ _ e => e
    obtain ⟨T, xv, yv, rfl, hn, hx, ⟨d, u2, hd, rfl⟩, hT⟩ := hY
    obtain ⟨o, ho, hcl, n, hdt⟩ := hT
    have hxi : i < xs.length := by omega
    obtain ⟨xa, hxa, hrel⟩ : ∃ xa, xs[i]? = some xa ∧ RelV xa xv := by
      obtain ⟨u1, hu1, ru1⟩ := rv.get (List.getElem?_eq_getElem hxi)
      have : its.toArray[i]? = some u1 := by simpa using hu1
      rw [this] at hx
      obtain rfl := Option.some.inj hx
      exact ⟨_, List.getElem?_eq_getElem hxi, ru1⟩
    have new : ObjOk X.prog X.w (upd H T (.tup [xa, .str ⟨#[d]⟩])) h' T (.tup [xa, .str ⟨#[d]⟩]) :=
      ⟨by show 2 ≤ sizeLine; decide, [xv, .str ⟨#[d]⟩ u2], .cons hrel (.cons ⟨u2, rfl⟩ .nil), ⟨o, ho, hcl, n, hdt⟩⟩
    have I1 : Inv X pins σ (upd H T (.tup [xa, .str ⟨#[d]⟩])) { s with heap := h', toks := tk } :=
      I.turnedNew (t' := tk) (ch := [z, TI, TO, j1, j2]) (fun b o hb q => hk b o (fun q' => hb (by simp only [List.mem_cons, List.not_mem_nil, or_false] at q' ⊢; rcases q' with q' | q' | q' | q' <;> simp [q'])) q) hf hn new
    obtain ⟨k1, k2, k3, ⟨k4, _⟩, k5⟩ := st'
    refine ⟨.ref T, _, I1, rfl, ⟨T, xa, d, rfl, I.hok.fresh hn, rfl, fun l hl => by rw [I.list_inj hl hxs]; exact hxa, hd⟩, ⟨k1, k2, k3, k4, k5⟩, fun b hb => ?_⟩
    have hbs : b < s.heap.objs.size := by
      obtain ⟨a1, a2, h2'⟩ := h2
      obtain ⟨o1, e1, _⟩ := h3
      obtain ⟨o2, e2, _⟩ := h4
      simp only [List.mem_cons, List.not_mem_nil, or_false] at hb
      rcases hb with rfl | rfl | rfl | rfl | rfl
      · exact Heap.lt_size hz
      · exact Heap.lt_size h1
      · exact Heap.lt_size h2'
      · exact Heap.lt_size e1
      · exact Heap.lt_size e2
    rw [upd_ne (Nat.ne_of_lt (Nat.lt_of_lt_of_le hbs hn))]
    exact (hf b hb).1
  done := by
    intro X hP hw hK hc i pins s σ H E I hf st hg
    subst hP hw hK
    obtain ⟨xs, hxs, he⟩ := hg
    obtain ⟨its, rv, pl, _⟩ := I.list hxs
    have hlen := rv.length
    have hh : X.A.handled = none := I.ok.hd hc
    have W := GoesN.zip2 (elts := elts) (x1 := kk) (pos := tpos) (A := X.A) D (Draws.list (prog := X.prog) (w := X.w) (A := X.A.in1) hh j1 a na its.toArray) (Draws.text (prog := X.prog) (w := X.w) (A := X.A.in1) hh j2 y u)
    obtain ⟨hz, h1, h2, h3, h4⟩ := st
    have e : i = min its.toArray.size y.cps.size := by
      rw [he]
      simp [hlen]
    subst e
    exact W.stops s (fun s1 => Inv X pins σ H s1) E ⟨hz, h1, h2, ⟨h3, pl.isList⟩, h4⟩ fun h' tk hk _ => I.turnedL (t' := tk) (ch := [z, TI, TO, j1, j2]) (fun b o hb q => hk b o (fun q' => hb (by simp only [List.mem_cons, List.not_mem_nil, or_false] at q' ⊢; rcases q' with q' | q' | q' | q' <;> simp [q'])) q) hf
  self := fun A i s Q E st h => wpAny_pyIter_zip st.1 h
def iZipM (K : PySem.W.Frag) (ta : TA) : TI := fun σ H R => ta σ H fun vs H1 => ∃ a xs y, vs = [.ref a, .str y] ∧ SqL K H1 a xs ∧ R (ItzM K a y) H1
theorem pi_zipM {X : Cx} {e e2 : Expr} {ta : TA} {p pos tpos : Pos} {elts : List Expr} {kk : Nat} (hg : Gl X "zip") (hm : X.mg "zip" = none) (ha : PA X [e, e2] ta)
    (hs : starEach [e, e2] X.env = (false, eval e X.env) :: starEach [e2] X.env := by rfl) (hpl : (backTo pos (starEach [e2] X.env)).any (·.1) = false := by rfl) :
    PI X (.Tuple elts kk tpos) (.Call (.Name "zip" p) [e, e2] [] pos) (iZipM X.K ta) := by
  refine ⟨fun pins s σ H R I h => ?_⟩
  refine PyProof.Rows.Call_ (ld_blt I hg hm PyProof.Rows.boot_zip (PyProof.Rows.callWith_type1 (thn (ha.run pos pins s σ H _ I h) fun us s1 ⟨vs, H1, I1, r1, q1⟩ => ?_) hs hpl))
  obtain ⟨a, xs, y, ex, hxs, q⟩ := q1
  subst ex
  cases r1 with
  | cons r rr =>
    cases rr with
    | cons r' rr =>
      cases rr
      cases r
      obtain ⟨u, rfl⟩ := r'
      obtain ⟨its, rv, pl, _⟩ := I1.list hxs
      have la : a < s1.heap.objs.size := pl.lt
      refine zip_begins2 (begins_list a its.toArray) (begins_text y u) pl.isList True.intro fun h' hz h1 h2 g1 g2 hsz hk => wpAny_pyIter_zip hz ?_
      have I2 : Inv X pins σ H1 { s1 with heap := h' } := I1.kept (t' := s1.toks) hk
      refine ⟨s1.heap.objs.size + 4, [s1.heap.objs.size + 4, s1.heap.objs.size + 2, s1.heap.objs.size + 3, s1.heap.objs.size, s1.heap.objs.size + 1], _, _, H1, rfl, I2, turn_zipM (zip_sep2 (fun b hb => by rw [List.mem_singleton.mp hb]; exact la) (fun _ hb => by cases hb)) (Nat.ne_of_lt la), ⟨hz, h1, ⟨_, _, h2⟩, ⟨_, g1, rfl, rfl⟩, ⟨_, g2, rfl, rfl⟩⟩, fun c hcm => ?_, q⟩
      have hle : s1.heap.objs.size ≤ c := by
        simp only [List.mem_cons, List.not_mem_nil, or_false] at hcm
        rcases hcm with q' | q' | q' | q' | q' <;> rw [q'] <;> first | exact Nat.le_refl _ | exact Nat.le_add_right _ _
      exact I1.fpOk hle (I1.hok.fresh hle)
end Dw

set_option Elab.async false
set_option linter.all false
set_option maxRecDepth 100000
set_option maxHeartbeats 2000000
open PySem PySem.Spec PyProof.Rows L2 Evl
namespace Dw
/-! ### k45: promises, and what they are read by -/
theorem walk_zipM {K : PySem.W.Frag} {a : Addr} {xs : List V} {y : Str} : Walk (ItzM K a y) (min xs.length y.cps.size) (fun H => SqL K H a xs) (fun i H v H' => ∃ T x d, v = .ref T ∧ H T = none ∧ H' = L2.upd H T (.tup [x, .str ⟨#[d]⟩]) ∧ xs[i]? = some x ∧ y.cps[i]? = some d) :=
  ⟨fun _ _ hi g => ⟨xs, g, hi⟩, fun _ g => ⟨xs, g, rfl⟩, fun i H v H' _ g q => by
    obtain ⟨T, x, d, h1, h2, h3, h4, h5⟩ := q
    exact ⟨T, x, d, h1, h2, h3, h4 xs g, h5⟩⟩
theorem op_niDk {X : Cx} (hu : X.A.units + 1 < cLine) : OpR X (compareOp .NotIn) (fun x y H Q => ∃ (z : Str) (a : Addr) (kvs : List (Key × V)), x = .str z ∧ y = .ref a ∧ Rd H a (.dK kvs) ∧ Q (.bl (!(valV kvs (Sum.inr z : Key)).isSome)) H) := by
  intro pins s σ H x y v u Q I rx ry h
  obtain ⟨z, a, kvs, rfl, rfl, hr, q⟩ := h
  cases ry
  exact d_notIn hu I (.inl ⟨kvs, Sum.inr z, hr, rfl, rfl⟩) rx fun s' I' => ⟨.bl _, H, I', rfl, q⟩
section
variable {K : PySem.W.Frag} {σ : L2.St} {H H' : Hp} {ta tb te tl : TE} {t : TT} {D : Ends} {tz tu : TS} {th : TO}
theorem ev_cutFrom {l : List Nat} {i : Nat} (ha : Ev te σ H (.str (Tx l))) (h1 : EvO th σ H (some (i : Int))) (hz : l.length ≤ 40000) : Ev (tSl rSlS te th tNoPart) σ H (.str (Tx (l.drop i))) := fun H1 e Q q =>
  ha H1 e _ fun H2 e2 => h1 H2 (e.trans e2) _ fun H3 e3 => eo_none H3 (Ex.refl _) _ fun H4 e4 => ⟨Tx l, rfl, sz_of (by rw [Tx_len]; omega), by
    have : cutS (Tx l) (some (i : Int)) none = Tx (l.drop i) := by
      unfold cutS
      rw [Tx_len, HT.sIx_nat, HT.sIx_none]
      show Tx ((l.drop (min i l.length)).take (l.length - min i l.length)) = Tx (l.drop i)
      by_cases hi : i ≤ l.length
      · rw [Nat.min_eq_left hi, List.take_of_length_le (by rw [List.length_drop]; omega)]
      · rw [Nat.min_eq_right (by omega), List.drop_eq_nil_of_le (Nat.le_refl _), List.drop_eq_nil_of_le (by omega)]
        simp
    rw [this]
    exact q H4 ((e2.trans e3).trans e4)⟩
theorem ev_neNew (h : EvL tl σ H []) : Ev (tOp (rNeD K) tl (tLst tNil)) σ H (.bl false) := fun H1 e Q q =>
  h H1 e _ fun p H2 np e2 hp => ⟨by show 0 ≤ sizeLine; decide, fun r nr => ⟨.list [], .list [], .lst (sq_of (Ex.new nr _ _ hp)) .nil, .lst (sq_of upd_same) .nil, by decide +kernel, by decide +kernel, q _ (e2.trans (Ex.new nr))⟩⟩
theorem el_lockN {d : Addr} {kvs : List (Key × V)} {j : Nat} {vs : List Nat} (hd : H d = some (.dK kvs)) (h : ∀ H1, Ev tl σ H1 (.ref d)) (hz : kvs.length ≤ 40000) (hw : ∀ x, wipe ((wipe σ vs).set j (some x)) vs = wipe σ vs)
    (ht : ∀ (n : Nat) (k : Key) (x : V) H1, Rd H1 d (.dK kvs) → Ex H (L2.upd H1 d (.dK kvs)) → kvs[n]? = some (k, x) → EvT t ((wipe σ vs).set j (some (kV k))) H1 false) :
    EvL (tLockE (tLc (iKeys tl) (gName j) t te vs)) σ H [] := fun H0 e0 Q q => by
  have hd0 := e0 _ _ hd
  have eg : ([] : List V) = given kvs.length (fun _ => false) (fun _ => V.non) := by
    have := given_list kvs ((Sum.inl 0, V.non) : Key × V) (fun _ => false) (fun _ => V.non)
    rw [this, List.filter_eq_nil_iff.mpr (fun _ _ => by simp)]
    rfl
  rw [eg] at q
  refine ⟨d, .dK kvs, hd0, trivial, fun od => ?_⟩
  refine h _ _ (Ex.refl _) _ fun H1 e1 => ⟨d, od, rfl, .inl ⟨kvs, e1 _ _ upd_same, fun Dl hD => ?_⟩⟩
  have nd : Dl ≠ d := fun z => by
    rw [z, e1 _ _ upd_same] at hD
    cases hD
  have nH : H0 Dl = none := by
    have := fresh_back e1 hD
    rw [upd_ne nd] at this
    exact this
  refine lc_it walk_keys (Cw H1 (fun _ => false) (fun _ => V.non) Dl) ⟨hD, Ex.new hD, upd_same⟩ (fun _ _ _ p => p.2.1 _ _ (e1 _ _ upd_same)) (fun n x H2 H3 hi p y => ?_) (fun H' p => ?_)
  · obtain ⟨rfl, k, x2, hk, rfl⟩ := y
    have hrd : Rd H1 d (.dK kvs) := .inr ⟨od, e1 _ _ upd_same⟩
    exact ⟨hw _, cw_turn p (by omega) (ht n k x2 H1 hrd (e0.trans (unlock hd0 e1)) hk) (fun hf => by cases hf)⟩
  · refine ⟨p.2.1 _ _ (e1 _ _ upd_same), q Dl _ nH (unlock hd0 (e1.trans p.2.1)) ?_⟩
    rw [upd_ne nd]
    exact p.2.2
theorem el_lockAll {d : Addr} {kvs : List (Key × V)} {j : Nat} {vs : List Nat} (hd : H d = some (.dK kvs)) (h : ∀ H1, Ev tl σ H1 (.ref d)) (hz : kvs.length ≤ 40000) (hw : ∀ x, wipe ((wipe σ vs).set j (some x)) vs = wipe σ vs)
    (he : ∀ (n : Nat) (k : Key) (x : V) H1, Rd H1 d (.dK kvs) → Ex H (L2.upd H1 d (.dK kvs)) → kvs[n]? = some (k, x) → Ev te ((wipe σ vs).set j (some (kV k))) H1 (.bl true)) :
    EvL (tLockE (tLc (iKeys tl) (gName j) tYes te vs)) σ H ((kvs.map fun _ => true).map V.bl) := fun H0 e0 Q q => by
  have hd0 := e0 _ _ hd
  have eg : (kvs.map fun _ => true).map V.bl = given kvs.length (fun _ => true) (fun _ => V.bl true) := by
    rw [List.map_map]
    exact (given_all kvs ((Sum.inl 0, V.non) : Key × V) (fun _ => V.bl true)).symm
  rw [eg] at q
  refine ⟨d, .dK kvs, hd0, trivial, fun od => ?_⟩
  refine h _ _ (Ex.refl _) _ fun H1 e1 => ⟨d, od, rfl, .inl ⟨kvs, e1 _ _ upd_same, fun Dl hD => ?_⟩⟩
  have nd : Dl ≠ d := fun z => by
    rw [z, e1 _ _ upd_same] at hD
    cases hD
  have nH : H0 Dl = none := by
    have := fresh_back e1 hD
    rw [upd_ne nd] at this
    exact this
  refine lc_it walk_keys (Cw H1 (fun _ => true) (fun _ => V.bl true) Dl) ⟨hD, Ex.new hD, upd_same⟩ (fun _ _ _ p => p.2.1 _ _ (e1 _ _ upd_same)) (fun n x H2 H3 hi p y => ?_) (fun H' p => ?_)
  · obtain ⟨rfl, k, x2, hk, rfl⟩ := y
    have hrd : Rd H1 d (.dK kvs) := .inr ⟨od, e1 _ _ upd_same⟩
    exact ⟨hw _, cw_turn p (by omega) et_yes (fun _ => he n k x2 H1 hrd (e0.trans (unlock hd0 e1)) hk)⟩
  · refine ⟨p.2.1 _ _ (e1 _ _ upd_same), q Dl _ nH (unlock hd0 (e1.trans p.2.1)) ?_⟩
    rw [upd_ne nd]
    exact p.2.2
end
def HoAt (H : Hp) (g : Addr) (hs : List (Str × Nat)) : Prop := ∃ rs : List Addr, H g = some (.lst (rs.map V.ref)) ∧ All2 (fun (h : Str × Nat) r => H r = some (.tup [.str h.1, .int (h.2 : Int)])) hs rs
theorem HoAt.ex {H H' : Hp} {g : Addr} {hs : List (Str × Nat)} (h : HoAt H g hs) (e : Ex H H') : HoAt H' g hs := let ⟨rs, h1, h2⟩ := h; ⟨rs, e _ _ h1, h2.map fun _ _ x => e _ _ x⟩
theorem putH_snoc {h : Str × Nat} {c : Nat} : ∀ {hs : List (Str × Nat)} {ss : List Nat} {M : List YV}, hs.length = ss.length → putH M (hs ++ [h]) (ss ++ [c]) = putY (putH M hs ss) h.1 (setAt ((getY (putH M hs ss) h.1).getD []) h.2 c)
  | [], [], _, _ => by simp [putH]
  | [], _ :: _, _, hl => by simp at hl
  | _ :: _, [], _, hl => by simp at hl
  | x :: hs, d :: ss, M, hl => by
    show putH (putY M x.1 _) (hs ++ [h]) (ss ++ [c]) = _
    rw [putH_snoc (by simpa using hl)]
    rfl
def spPutK : Sp := fun vs H Q _ => ∃ (d g : Addr) (ss : List Nat) (hs : List (Str × Nat)) (vl : List YV) (ws : List (Str × Nat)), vs = [.ref d, .ref g, .str (Tx ss)] ∧ H d = some (.dK (ysK vl)) ∧ HoAt H g hs ∧ hs.length = ss.length ∧ WsOk ws ∧ ws.length ≤ 1000 ∧ Fits ws vl ∧ HolesIn ws hs ∧ (∀ c ∈ ss, c ∈ sgn) ∧ ∀ (p : Addr) H', H p = none → Ex H H' → H' p = some (.dK (ysK (putH vl hs ss))) → Q (.ref p) H'
/-- told at a covers the other at b, behind the values at d -/
def spCovK : Sp := fun vs H Q _ => ∃ (a b d : Addr) (N N' : List YV) (ws : List (Str × Nat)) (E E' : Str → List Nat), vs = [.ref a, .ref b, .ref d] ∧ H a = some (.dK (ysK N)) ∧ H b = some (.dK (ysK N')) ∧ Scene H d ws E' ∧ EnvOk ws E ∧ StOk ws N ∧ StOk ws N' ∧ SC ws E E' N N' ∧ ∀ H', Ex H H' → Q (.bl true) H'
end Dw

set_option Elab.async false
set_option linter.all false
set_option maxRecDepth 100000
set_option maxHeartbeats 2000000
open PySem PySem.Spec PyProof.Rows L2 Evl
namespace Dw
/-! ### k45: holes drawn -/
theorem un101 {k : Nat} {A : Around} (hr : Room k A) : A.units + 101 < cLine := by
  have h := hr.un
  omega
/-- a spot: a name and a place in its value -/
def GS (ws : List (Str × Nat)) : V → Hp → Prop := fun v H => ∃ (r : Addr) (x : Str) (i m : Nat), v = .ref r ∧ H r = some (.tup [.str x, .int (i : Int)]) ∧ (x, m) ∈ ws ∧ i < m
theorem GS.mono {ws : List (Str × Nat)} {v : V} {H H' : Hp} (e : ExT H H') (h : GS ws v H) : GS ws v H' := let ⟨r, x, i, m, a, b, c⟩ := h; ⟨r, x, i, m, a, e _ _ b, c⟩
theorem holes_of {ws : List (Str × Nat)} {H : Hp} : ∀ {ys : List V}, (∀ v ∈ ys, GS ws v H) → ∃ (hs : List (Str × Nat)) (rs : List Addr), ys = rs.map V.ref ∧ All2 (fun (h : Str × Nat) r => H r = some (.tup [.str h.1, .int (h.2 : Int)])) hs rs ∧ HolesIn ws hs ∧ hs.length = ys.length
  | [], _ => ⟨[], [], rfl, .nil, fun h hh => (by cases hh), rfl⟩
  | v :: ys, h => by
    obtain ⟨hs, rs, h1, h2, h3, h4⟩ := holes_of (ys := ys) fun w hw => h w (List.mem_cons_of_mem _ hw)
    obtain ⟨r, x, i, m, e, hr, hm, hi⟩ := h v (List.mem_cons_self ..)
    exact ⟨(x, i) :: hs, r :: rs, by rw [e, h1]; rfl, .cons hr h2, fun y hy => (by
      rcases List.mem_cons.mp hy with rfl | hy
      · exact ⟨m, hm, hi⟩
      · exact h3 y hy), by rw [List.length_cons, List.length_cons, h4]⟩
theorem gs_one {K : PySem.W.Frag} {ws : List (Str × Nat)} (ok : WsOk ws) {v : V} {H : Hp} (h : GS ws v H) : ∃ d : PyData, (∀ H1, Ex H H1 → Dp K H1 v d) ∧ d.canLay0 = true ∧ d.depth ≤ 1 := by
  obtain ⟨r, x, i, m, rfl, hr, hm, hi⟩ := h
  refine ⟨.tuple [.str x, .int i], fun H1 e => .tup (st_of (e _ _ hr)) (.cons (.str x) (.cons (.int _) .nil)), ?_, ?_⟩
  · have hx : LowS x := (ok.2 _ hm).2.2
    rw [PyData.canLay0, PyData.canLayAll0, show PyData.canLay0 (.str x) = true from hx]
    simp [PyData.canLayAll0, PyData.canLay0]
  · simp [PyData.depth, PyData.depthAll]
theorem gs_all {K : PySem.W.Frag} {ws : List (Str × Nat)} (ok : WsOk ws) {H : Hp} : ∀ {ys : List V}, (∀ v ∈ ys, GS ws v H) → ∃ ds : List PyData, (∀ H1, Ex H H1 → DpAll K H1 ys ds) ∧ PyData.canLayAll0 ds = true ∧ PyData.depthAll ds ≤ 1
  | [], _ => ⟨[], fun _ _ => .nil, by simp [PyData.canLayAll0], by simp [PyData.depthAll]⟩
  | v :: ys, h => by
    obtain ⟨ds, h1, h2, h3⟩ := gs_all (K := K) ok (ys := ys) fun w hw => h w (List.mem_cons_of_mem _ hw)
    obtain ⟨d, k1, k2, k3⟩ := gs_one (K := K) ok (h v (List.mem_cons_self ..))
    exact ⟨d :: ds, fun H1 e => .cons (k1 H1 e) (h1 H1 e), by rw [PyData.canLayAll0, k2, h2]; rfl, by rw [PyData.depthAll]; omega⟩
theorem ev_gsNi {K : PySem.W.Frag} {ws : List (Str × Nat)} (ok : WsOk ws) {σ : L2.St} {H : Hp} {ta tb : TE} {v : V} {g : Addr} {ys : List V} (h1 : Ev ta σ H v) (h2 : Ev tb σ H (.ref g)) (hv : GS ws v H) (hg : H g = some (.lst ys)) (hy : ∀ v ∈ ys, GS ws v H) : ∃ b, Ev (tOp (rNotInD K) ta tb) σ H (.bl b) := by
  obtain ⟨d, k1, k2, k3⟩ := gs_one (K := K) ok hv
  obtain ⟨ds, l1, l2, l3⟩ := gs_all (K := K) ok hy
  have s1 : SeqAt.shaped d = true := by
    unfold SeqAt.shaped
    rw [k2, decide_eq_true (by omega : d.depth ≤ 64)]
    rfl
  have s2 : SeqAt.shaped (.list ds) = true := by
    unfold SeqAt.shaped
    rw [PyData.canLay0, l2, PyData.depth, decide_eq_true (by omega : PyData.depthAll ds + 1 ≤ 64)]
    rfl
  exact ⟨_, ev_op h1 h2 fun H1 e Q q => ⟨d, ds, k1 H1 e, .lst (sq_of (e _ _ hg)) (l1 H1 e), s1, s2, q H1 (Ex.refl _)⟩⟩
def spHolesK : Sp := fun vs H Q _ => ∃ (p d g : Addr) (n : Nat) (vl : List YV) (ws : List (Str × Nat)) (ns : List Str), vs = [.ref p, .ref d, .ref g, .int (n : Int)] ∧ PotAt H p ∧ H d = some (.dK (ysK vl)) ∧ H g = some (.lst (ns.map V.str)) ∧ g ≠ p ∧ 1 ≤ n ∧ n ≤ 8 ∧ WsOk ws ∧ Fits ws vl ∧ 0 < ns.length ∧ ns.length ≤ 1000 ∧ (∀ x ∈ ns, ∃ m, (x, m) ∈ ws) ∧
  ∀ (f : Addr) (H' : Hp) (hs : List (Str × Nat)), H f = none → ExB p H H' → PotAt H' p → HoAt H' f hs → HolesIn ws hs → hs.length ≤ n → Q (.ref f) H'
def spRight45 : Sp := fun vs H Q _ => ∃ (bt dv g : Addr) (us : List V) (b : Bdy) (ws : List (Str × Nat)) (vl : List YV) (hs : List (Str × Nat)), vs = [.ref bt, .ref dv, .ref g] ∧ H bt = some (.tup us) ∧ BdAt H b us ∧ nest b ≤ 4 ∧ szB b ≤ 1000 ∧ WdB ws b ∧ WsOk ws ∧ ws.length ≤ 1000 ∧ Fits ws vl ∧ H dv = some (.dK (ysK vl)) ∧ HoAt H g hs ∧ HolesIn ws hs ∧ hs.length ≤ 8 ∧ ∀ H', Ex H H' → Q (.bl true) H'
theorem kn_sgn {l : List Nat} (h : Kn l) : ∀ c ∈ l, c ∈ sgn := fun c hc => by
  rcases h c hc with rfl | rfl <;> decide
theorem em_put {σ : L2.St} {H : Hp} {t1 t2 t3 : TE} {X : XK} {d g : Addr} {ss : List Nat} {hs : List (Str × Nat)} {vl : List YV} {ws : List (Str × Nat)} (h1 : Ev t1 σ H (.ref d)) (h2 : Ev t2 σ H (.ref g)) (h3 : Ev t3 σ H (.str (Tx ss))) (hd : H d = some (.dK (ysK vl))) (hg : HoAt H g hs) (hl : hs.length = ss.length) (ok : WsOk ws) (hz : ws.length ≤ 1000) (fit : Fits ws vl) (hin : HolesIn ws hs) (hsg : ∀ c ∈ ss, c ∈ sgn) :
    EvDk (tCall spPutK [] X (tCons t1 (tCons t2 (tCons t3 tNil)))) σ H (ysK (putH vl hs ss)) := fun H1 e Q q => by
  refine h1 H1 e _ fun H3 e3 => h2 H3 (e.trans e3) _ fun H4 e4 => h3 H4 ((e.trans e3).trans e4) _ fun H5 e5 => ?_
  have x := ((e.trans e3).trans e4).trans e5
  have x1 := (e3.trans e4).trans e5
  exact ⟨d, g, ss, hs, vl, ws, rfl, x _ _ hd, hg.ex x, hl, ok, hz, fit, hin, hsg, fun p H' np e6 hp => q p H' (fresh_back x1 np) (x1.trans e6) hp⟩
theorem ev_cov {σ : L2.St} {H : Hp} {t1 t2 t3 : TE} {X : XK} {a b d : Addr} {N N' : List YV} {ws : List (Str × Nat)} {E E' : Str → List Nat} (h1 : Ev t1 σ H (.ref a)) (h2 : Ev t2 σ H (.ref b)) (h3 : Ev t3 σ H (.ref d)) (ha : H a = some (.dK (ysK N))) (hb : H b = some (.dK (ysK N'))) (sc : Scene H d ws E') (he : EnvOk ws E) (hN : StOk ws N) (hN' : StOk ws N') (hs : SC ws E E' N N') :
    Ev (tCall spCovK [] X (tCons t1 (tCons t2 (tCons t3 tNil)))) σ H (.bl true) := fun H1 e Q q => by
  refine h1 H1 e _ fun H3 e3 => h2 H3 (e.trans e3) _ fun H4 e4 => h3 H4 ((e.trans e3).trans e4) _ fun H5 e5 => ?_
  have x := ((e.trans e3).trans e4).trans e5
  have x1 := (e3.trans e4).trans e5
  exact ⟨a, b, d, N, N', ws, E, E', rfl, x _ _ ha, x _ _ hb, sc.ex x, he, hN, hN', hs, fun H' e6 => q H' (x1.trans e6)⟩
theorem cvM_refl (ws : List (Str × Nat)) (M : List YV) : CvM ws M M := fun p _ => cv_refl _
theorem sc0 {ws : List (Str × Nat)} {M M' : List YV} (h : CvM ws M M') : SC ws (fun x => (getY M x).getD []) (fun x => (getY M' x).getD []) [] [] := ⟨fun _ h => h, fun p hp => h p hp⟩
end Dw

set_option Elab.async false
set_option linter.all false
set_option maxRecDepth 100000
set_option maxHeartbeats 2000000
open PySem PySem.Spec PyProof.Rows L2 Evl
namespace Dw
/-! ### k45: what is asked -/
theorem mul_x : ∀ n : Fin 9, MulOk (Tx [120]) ((n.val : Nat) : Int) ∧ Txt.mul (Tx [120]) ((n.val : Nat) : Int) = Tx (List.replicate n.val 120) := by
  unfold MulOk
  decide +kernel
theorem ev_mulx {σ : L2.St} {H : Hp} {tb : TE} {n : Nat} (h8 : n ≤ 8) (hb : Ev tb σ H (.int (n : Int))) : Ev (tOp (fun x y H Q => ∃ a i, x = .str a ∧ y = .int i ∧ MulOk a i ∧ Q (.str (Txt.mul a i)) H) (tC (.str (Str.ofString "x"))) tb) σ H (.str (Tx (List.replicate n 120))) := by
  obtain ⟨h1, h2⟩ := mul_x ⟨n, by omega⟩
  rw [show Tx (List.replicate n 120) = Txt.mul (Tx [120]) (n : Int) from h2.symm]
  exact ev_op ec_x hb fun H1 e Q q => ⟨_, _, rfl, rfl, h1, q H1 (Ex.refl _)⟩
theorem cover_ok {ws : List (Str × Nat)} {vl : List YV} {hs : List (Str × Nat)} {ss : List Nat} {b : Bdy} (ok : WsOk ws) (fit : Fits ws vl) (hin : HolesIn ws hs) (hl : hs.length = ss.length) (hk : Kn ss) (hw : WdB ws b)
    (he : EnvOk ws fun x => (getY (putH vl hs (List.replicate hs.length 120)) x).getD []) (he' : EnvOk ws fun x => (getY (putH vl hs ss) x).getD []) :
    SC ws (fun x => (getY (putH vl hs (List.replicate hs.length 120)) x).getD []) (fun x => (getY (putH vl hs ss) x).getD []) (doneB (fun x => (getY (putH vl hs (List.replicate hs.length 120)) x).getD []) b ([], [])).1 (doneB (fun x => (getY (putH vl hs ss) x).getD []) b ([], [])).1 ∧
    SC ws (fun x => (getY (putH vl hs (List.replicate hs.length 120)) x).getD []) (fun x => (getY (putH vl hs ss) x).getD []) (doneB (fun x => (getY (putH vl hs (List.replicate hs.length 120)) x).getD []) b ([], [])).2 (doneB (fun x => (getY (putH vl hs ss) x).getD []) b ([], [])).2 := by
  have s0 : St2 ws (([], []) : List YV × List YV) := ⟨⟨.nil, fun y hy => by cases hy⟩, ⟨.nil, fun y hy => by cases hy⟩⟩
  have hc := sc0 (putH_cv ok hs (List.replicate hs.length 120) ss vl vl hin (fun c hc => (List.mem_replicate.mp hc).2) (kn_sgn hk) (by rw [List.length_replicate]; exact hl) fit fit (cvM_refl ws vl))
  exact done_cv ok he he' b _ _ hw s0 s0 hc hc
end Dw
namespace Dw
open PySem L2 Evl
def spValues45 : Sp := fun vs H Q _ => ∃ (p q d : Addr) (ss : List Nat) (ws : List (Str × Nat)) (wy : List (Str × Bool)), vs = [.ref p, .ref q, .ref d, .str (Tx ss)] ∧ PotAt H p ∧ WsAt H q ws ∧ WyAt H d wy ∧ WsOk ws ∧ ws.length ≤ 1000 ∧ Sgn2 ss ∧ ∀ (g : Addr) (H' : Hp) (vl : List YV), H g = none → ExB p H H' → PotAt H' p → H' g = some (.dK (ysK vl)) → Fits ws vl → Q (.ref g) H'
theorem ys_keysV (N : List YV) : ((ysK N).map fun kv => kV kv.1) = (N.map (·.1)).map V.str := by
  unfold ysK
  rw [List.map_map, List.map_map]
  rfl
theorem wy_keysV (wy : List (Str × Bool)) : ((wyK wy).map fun kv => kV kv.1) = (wy.map (·.1)).map V.str := by
  unfold wyK
  rw [List.map_map, List.map_map]
  rfl
end Dw

set_option Elab.async false
set_option linter.all false
set_option maxRecDepth 100000
namespace Dw
open PySem L2 Evl
set_option maxHeartbeats 4000000
/-! ### the text by places -/
def top (i : Nat) : Stmt := PySem.Challenge.pw_deltawires_k45_whole_bodies_hold.main.body.getD i (.Pass ⟨0, 0, 0, 0⟩)
abbrev s_read : Stmt := top 2
abbrev N_read : List Str := ["value"]
theorem sc_read : FnScope N_read ["value"] (defScope s_read) := ⟨rfl, rfl, rfl, by decide +kernel, rfl, by decide +kernel, by decide +kernel⟩
abbrev s_mixed_sign : Stmt := top 3
abbrev N_mixed_sign : List Str := ["one", "other"]
theorem sc_mixed_sign : FnScope N_mixed_sign ["one", "other"] (defScope s_mixed_sign) := ⟨rfl, rfl, rfl, by decide +kernel, rfl, by decide +kernel, by decide +kernel⟩
abbrev s_mixed : Stmt := top 4
abbrev N_mixed : List Str := ["one", "other", "sign", "there"]
theorem sc_mixed : FnScope N_mixed ["one", "other"] (defScope s_mixed) := ⟨rfl, rfl, rfl, by decide +kernel, rfl, by decide +kernel, by decide +kernel⟩
abbrev s_and_sign : Stmt := top 8
abbrev N_and_sign : List Str := ["one", "other"]
theorem sc_and_sign : FnScope N_and_sign ["one", "other"] (defScope s_and_sign) := ⟨rfl, rfl, rfl, by decide +kernel, rfl, by decide +kernel, by decide +kernel⟩
abbrev s_or_sign : Stmt := top 9
abbrev N_or_sign : List Str := ["one", "other"]
theorem sc_or_sign : FnScope N_or_sign ["one", "other"] (defScope s_or_sign) := ⟨rfl, rfl, rfl, by decide +kernel, rfl, by decide +kernel, by decide +kernel⟩
abbrev s_xor_sign : Stmt := top 10
abbrev N_xor_sign : List Str := ["one", "other"]
theorem sc_xor_sign : FnScope N_xor_sign ["one", "other"] (defScope s_xor_sign) := ⟨rfl, rfl, rfl, by decide +kernel, rfl, by decide +kernel, by decide +kernel⟩
abbrev s_most_sign : Stmt := top 11
abbrev N_most_sign : List Str := ["one", "other", "third", "signs"]
theorem sc_most_sign : FnScope N_most_sign ["one", "other", "third"] (defScope s_most_sign) := ⟨rfl, rfl, rfl, by decide +kernel, rfl, by decide +kernel, by decide +kernel⟩
abbrev s_by_bits : Stmt := top 12
abbrev N_by_bits : List Str := ["rule", "one", "other", "sign", "there"]
theorem sc_by_bits : FnScope N_by_bits ["rule", "one", "other"] (defScope s_by_bits) := ⟨rfl, rfl, rfl, by decide +kernel, rfl, by decide +kernel, by decide +kernel⟩
abbrev s_not_value : Stmt := top 13
abbrev N_not_value : List Str := ["value", "sign"]
theorem sc_not_value : FnScope N_not_value ["value"] (defScope s_not_value) := ⟨rfl, rfl, rfl, by decide +kernel, rfl, by decide +kernel, by decide +kernel⟩
abbrev s_and_value : Stmt := top 14
abbrev N_and_value : List Str := ["one", "other"]
theorem sc_and_value : FnScope N_and_value ["one", "other"] (defScope s_and_value) := ⟨rfl, rfl, rfl, by decide +kernel, rfl, by decide +kernel, by decide +kernel⟩
abbrev s_or_value : Stmt := top 15
abbrev N_or_value : List Str := ["one", "other"]
theorem sc_or_value : FnScope N_or_value ["one", "other"] (defScope s_or_value) := ⟨rfl, rfl, rfl, by decide +kernel, rfl, by decide +kernel, by decide +kernel⟩
abbrev s_xor_value : Stmt := top 16
abbrev N_xor_value : List Str := ["one", "other"]
theorem sc_xor_value : FnScope N_xor_value ["one", "other"] (defScope s_xor_value) := ⟨rfl, rfl, rfl, by decide +kernel, rfl, by decide +kernel, by decide +kernel⟩
abbrev s_plus_value : Stmt := top 17
abbrev N_plus_value : List Str := ["one", "other", "carry", "signs", "sign", "there"]
theorem sc_plus_value : FnScope N_plus_value ["one", "other"] (defScope s_plus_value) := ⟨rfl, rfl, rfl, by decide +kernel, rfl, by decide +kernel, by decide +kernel⟩
abbrev s_any_value : Stmt := top 18
abbrev N_any_value : List Str := ["value"]
theorem sc_any_value : FnScope N_any_value ["value"] (defScope s_any_value) := ⟨rfl, rfl, rfl, by decide +kernel, rfl, by decide +kernel, by decide +kernel⟩
abbrev s_all_value : Stmt := top 19
abbrev N_all_value : List Str := ["value"]
theorem sc_all_value : FnScope N_all_value ["value"] (defScope s_all_value) := ⟨rfl, rfl, rfl, by decide +kernel, rfl, by decide +kernel, by decide +kernel⟩
abbrev s_same_value : Stmt := top 20
abbrev N_same_value : List Str := ["one", "other"]
theorem sc_same_value : FnScope N_same_value ["one", "other"] (defScope s_same_value) := ⟨rfl, rfl, rfl, by decide +kernel, rfl, by decide +kernel, by decide +kernel⟩
abbrev s_lowest : Stmt := top 21
abbrev N_lowest : List Str := ["value"]
theorem sc_lowest : FnScope N_lowest ["value"] (defScope s_lowest) := ⟨rfl, rfl, rfl, by decide +kernel, rfl, by decide +kernel, by decide +kernel⟩
abbrev s_highest : Stmt := top 22
abbrev N_highest : List Str := ["value"]
theorem sc_highest : FnScope N_highest ["value"] (defScope s_highest) := ⟨rfl, rfl, rfl, by decide +kernel, rfl, by decide +kernel, by decide +kernel⟩
abbrev s_less_value : Stmt := top 23
abbrev N_less_value : List Str := ["one", "other"]
theorem sc_less_value : FnScope N_less_value ["one", "other"] (defScope s_less_value) := ⟨rfl, rfl, rfl, by decide +kernel, rfl, by decide +kernel, by decide +kernel⟩
abbrev s_pick_value : Stmt := top 24
abbrev N_pick_value : List Str := ["choice", "one", "other"]
theorem sc_pick_value : FnScope N_pick_value ["choice", "one", "other"] (defScope s_pick_value) := ⟨rfl, rfl, rfl, by decide +kernel, rfl, by decide +kernel, by decide +kernel⟩
abbrev s_join_value : Stmt := top 25
abbrev N_join_value : List Str := ["one", "other"]
theorem sc_join_value : FnScope N_join_value ["one", "other"] (defScope s_join_value) := ⟨rfl, rfl, rfl, by decide +kernel, rfl, by decide +kernel, by decide +kernel⟩
abbrev s_part_value : Stmt := top 26
abbrev N_part_value : List Str := ["value", "high", "low"]
theorem sc_part_value : FnScope N_part_value ["value", "high", "low"] (defScope s_part_value) := ⟨rfl, rfl, rfl, by decide +kernel, rfl, by decide +kernel, by decide +kernel⟩
abbrev s_operated : Stmt := top 28
abbrev N_operated : List Str := ["word", "values", "high", "low", "arguments", "action", "value"]
theorem sc_operated : FnScope N_operated ["word", "values", "high", "low"] (defScope s_operated) := ⟨rfl, rfl, rfl, by decide +kernel, rfl, by decide +kernel, by decide +kernel⟩
abbrev s_arguments_of : Stmt := top 30
abbrev N_arguments_of : List Str := ["term"]
theorem sc_arguments_of : FnScope N_arguments_of ["term"] (defScope s_arguments_of) := ⟨rfl, rfl, rfl, by decide +kernel, rfl, by decide +kernel, by decide +kernel⟩
abbrev s_value_of_term : Stmt := top 31
abbrev N_value_of_term : List Str := ["term", "values", "inside", "argument"]
theorem sc_value_of_term : FnScope N_value_of_term ["term", "values"] (defScope s_value_of_term) := ⟨rfl, rfl, rfl, by decide +kernel, rfl, by decide +kernel, by decide +kernel⟩
abbrev s_mixed_values : Stmt := top 36
abbrev N_mixed_values : List Str := ["choice", "one", "other", "values", "either", "name"]
theorem sc_mixed_values : FnScope N_mixed_values ["choice", "one", "other", "values"] (defScope s_mixed_values) := ⟨rfl, rfl, rfl, by decide +kernel, rfl, by decide +kernel, by decide +kernel⟩
abbrev s_behind_if : Stmt := top 33
abbrev N_behind_if : List Str := ["statement", "values", "ahead", "told", "chosen", "choice", "one", "other", "word", "term", "first", "second"]
theorem sc_behind_if : FnScope N_behind_if ["statement", "values", "ahead", "told", "chosen"] (defScope s_behind_if) := ⟨rfl, rfl, rfl, by decide +kernel, rfl, by decide +kernel, by decide +kernel⟩
abbrev s_behind_body : Stmt := top 34
abbrev N_behind_body : List Str := ["body", "values", "ahead", "told", "chosen", "now", "later", "statement"]
theorem sc_behind_body : FnScope N_behind_body ["body", "values", "ahead", "told", "chosen"] (defScope s_behind_body) := ⟨rfl, rfl, rfl, by decide +kernel, rfl, by decide +kernel, by decide +kernel⟩
abbrev s_body_done : Stmt := top 37
abbrev N_body_done : List Str := ["body", "values"]
theorem sc_body_done : FnScope N_body_done ["body", "values"] (defScope s_body_done) := ⟨rfl, rfl, rfl, by decide +kernel, rfl, by decide +kernel, by decide +kernel⟩
abbrev s__law_pot : Stmt := top 39
abbrev N__law_pot : List Str := ["_law_script", "_law_k", "_law_cell"]
theorem sc__law_pot : FnScope N__law_pot ["_law_script", "_law_k"] (defScope s__law_pot) := ⟨rfl, rfl, rfl, by decide +kernel, rfl, by decide +kernel, by decide +kernel⟩
abbrev s__law_take : Stmt := top 40
abbrev N__law_take : List Str := ["_law_pot_here", "_law_many", "_law_digit"]
theorem sc__law_take : FnScope N__law_take ["_law_pot_here", "_law_many"] (defScope s__law_take) := ⟨rfl, rfl, rfl, by decide +kernel, rfl, by decide +kernel, by decide +kernel⟩
abbrev s__law_signs : Stmt := top 41
abbrev N__law_signs : List Str := ["_law_pot_here", "_law_width_here", "_law_signs_here", "_law_k"]
theorem sc__law_signs : FnScope N__law_signs ["_law_pot_here", "_law_width_here", "_law_signs_here"] (defScope s__law_signs) := ⟨rfl, rfl, rfl, by decide +kernel, rfl, by decide +kernel, by decide +kernel⟩
abbrev s__law_width : Stmt := top 43
abbrev N__law_width : List Str := ["_law_pot_here"]
theorem sc__law_width : FnScope N__law_width ["_law_pot_here"] (defScope s__law_width) := ⟨rfl, rfl, rfl, by decide +kernel, rfl, by decide +kernel, by decide +kernel⟩
abbrev s__law_leaf : Stmt := top 44
abbrev N__law_leaf : List Str := ["_law_pot_here", "_law_widths", "_law_width_here", "_law_names", "_law_name_here"]
theorem sc__law_leaf : FnScope N__law_leaf ["_law_pot_here", "_law_widths", "_law_width_here"] (defScope s__law_leaf) := ⟨rfl, rfl, rfl, by decide +kernel, rfl, by decide +kernel, by decide +kernel⟩
abbrev s__law_name : Stmt := top 42
abbrev N__law_name : List Str := ["_law_pot_here", "_law_taken", "_law_name_here", "_law_sign"]
theorem sc__law_name : FnScope N__law_name ["_law_pot_here", "_law_taken"] (defScope s__law_name) := ⟨rfl, rfl, rfl, by decide +kernel, rfl, by decide +kernel, by decide +kernel⟩
abbrev s__law_bit : Stmt := top 45
abbrev N__law_bit : List Str := ["_law_pot_here", "_law_widths", "_law_deep", "_law_wide", "_law_one", "_law_other"]
theorem sc__law_bit : FnScope N__law_bit ["_law_pot_here", "_law_widths", "_law_deep"] (defScope s__law_bit) := ⟨rfl, rfl, rfl, by decide +kernel, rfl, by decide +kernel, by decide +kernel⟩
abbrev s__law_term : Stmt := top 46
abbrev N__law_term : List Str := ["_law_pot_here", "_law_widths", "_law_width_here", "_law_deep", "_law_way", "_law_one", "_law_other", "_law_low", "_law_wide"]
theorem sc__law_term : FnScope N__law_term ["_law_pot_here", "_law_widths", "_law_width_here", "_law_deep"] (defScope s__law_term) := ⟨rfl, rfl, rfl, by decide +kernel, rfl, by decide +kernel, by decide +kernel⟩
abbrev s__law_statement : Stmt := top 47
abbrev N__law_statement : List Str := ["_law_pot_here", "_law_widths", "_law_ways", "_law_deep", "_law_room", "_law_names", "_law_name_here", "_law_truth"]
theorem sc__law_statement : FnScope N__law_statement ["_law_pot_here", "_law_widths", "_law_ways", "_law_deep", "_law_room"] (defScope s__law_statement) := ⟨rfl, rfl, rfl, by decide +kernel, rfl, by decide +kernel, by decide +kernel⟩
abbrev s__law_body : Stmt := top 48
abbrev N__law_body : List Str := ["_law_pot_here", "_law_widths", "_law_ways", "_law_deep", "_law_room", "_law_found", "_law_k"]
theorem sc__law_body : FnScope N__law_body ["_law_pot_here", "_law_widths", "_law_ways", "_law_deep", "_law_room"] (defScope s__law_body) := ⟨rfl, rfl, rfl, by decide +kernel, rfl, by decide +kernel, by decide +kernel⟩
abbrev s__law_scene : Stmt := top 49
abbrev N__law_scene : List Str := ["_law_pot_here", "_law_k", "_law_taken", "_law_widths", "_law_ways", "_law_name_here"]
theorem sc__law_scene : FnScope N__law_scene ["_law_pot_here"] (defScope s__law_scene) := ⟨rfl, rfl, rfl, by decide +kernel, rfl, by decide +kernel, by decide +kernel⟩
abbrev s__law_values : Stmt := top 50
abbrev N__law_values : List Str := ["_law_pot_here", "_law_widths", "_law_ways", "_law_signs_here", "_law_found", "_law_name_here"]
theorem sc__law_values : FnScope N__law_values ["_law_pot_here", "_law_widths", "_law_ways", "_law_signs_here"] (defScope s__law_values) := ⟨rfl, rfl, rfl, by decide +kernel, rfl, by decide +kernel, by decide +kernel⟩
abbrev s__law_fillings : Stmt := top 53
abbrev N__law_fillings : List Str := ["_law_many", "_law_found", "_law_k", "_law_signs_here"]
theorem sc__law_fillings : FnScope N__law_fillings ["_law_many"] (defScope s__law_fillings) := ⟨rfl, rfl, rfl, by decide +kernel, rfl, by decide +kernel, by decide +kernel⟩
abbrev s__law_is_so : Stmt := top 54
abbrev N__law_is_so : List Str := ["_law_one", "_law_other", "_law_a", "_law_b"]
theorem sc__law_is_so : FnScope N__law_is_so ["_law_one", "_law_other"] (defScope s__law_is_so) := ⟨rfl, rfl, rfl, by decide +kernel, rfl, by decide +kernel, by decide +kernel⟩
abbrev s__law_put : Stmt := top 52
abbrev N__law_put : List Str := ["_law_given", "_law_holes_here", "_law_signs_here", "_law_found", "_law_sign", "_law_value", "_law_name_here", "_law_at"]
theorem sc__law_put : FnScope N__law_put ["_law_given", "_law_holes_here", "_law_signs_here"] (defScope s__law_put) := ⟨rfl, rfl, rfl, by decide +kernel, rfl, by decide +kernel, by decide +kernel⟩
abbrev s__law_covers : Stmt := top 55
abbrev N__law_covers : List Str := ["_law_told", "_law_other", "_law_values_here", "_law_name_here"]
theorem sc__law_covers : FnScope N__law_covers ["_law_told", "_law_other", "_law_values_here"] (defScope s__law_covers) := ⟨rfl, rfl, rfl, by decide +kernel, rfl, by decide +kernel, by decide +kernel⟩
abbrev s__law_holes : Stmt := top 51
abbrev N__law_holes : List Str := ["_law_pot_here", "_law_given", "_law_names", "_law_room", "_law_spots", "_law_name_here", "_law_found", "_law_k", "_law_spot", "_law_at"]
theorem sc__law_holes : FnScope N__law_holes ["_law_pot_here", "_law_given", "_law_names", "_law_room"] (defScope s__law_holes) := ⟨rfl, rfl, rfl, by decide +kernel, rfl, by decide +kernel, by decide +kernel⟩
abbrev s__law_right : Stmt := top 56
abbrev N__law_right : List Str := ["_law_body_here", "_law_values_here", "_law_holes_here", "_law_told", "_law_signs_here", "_law_filled", "_law_other"]
theorem sc__law_right : FnScope N__law_right ["_law_body_here", "_law_values_here", "_law_holes_here"] (defScope s__law_right) := ⟨rfl, rfl, rfl, by decide +kernel, rfl, by decide +kernel, by decide +kernel⟩
abbrev s_law : Stmt := top 57
abbrev N_law : List Str := ["_law_script", "_law_k", "_law_pot_here", "_law_body_here", "_law_values_here", "_law_widths", "_law_ways"]
theorem sc_law : FnScope N_law ["_law_script"] (defScope s_law) := ⟨rfl, rfl, rfl, by decide +kernel, rfl, by decide +kernel, by decide +kernel⟩

structure Bi (K : PySem.W.Frag) (w : World) (mg : Str → Option Value) (dA dT dG qa qo qx qv qm : Addr) : Prop where
  abs : mg "abs" = none
  all : mg "all" = none
  dict : mg "dict" = none
  divmod : mg "divmod" = none
  len : mg "len" = none
  list : mg "list" = none
  max : mg "max" = none
  min : mg "min" = none
  range : mg "range" = none
  tuple : mg "tuple" = none
  zip : mg "zip" = none
  c_TOLD : GlV mg "TOLD" (.str "01")
  c_ACTIONS : GlV mg "ACTIONS" (.ref dA)
  c_TURNED : GlV mg "TURNED" (.ref dT)
  c_ARGUMENTS : GlV mg "ARGUMENTS" (.ref dG)
  c_and_sign : GlV mg "and_sign" (.ref qa)
  c_or_sign : GlV mg "or_sign" (.ref qo)
  c_xor_sign : GlV mg "xor_sign" (.ref qx)
  x_T0 : KDct K w dT (Tx [48]) (.str (Tx [49]))
  x_T1 : KDct K w dT (Tx [49]) (.str (Tx [48]))
  x_Tx : KDct K w dT (Tx [120]) (.str (Tx [120]))
  x_args : ∀ p ∈ argN, KDct K w dG p.1 (.int p.2)
  c_value_of_term : GlV mg "value_of_term" (.ref qv)
  c_mixed_values : GlV mg "mixed_values" (.ref qm)

section
variable {P : Program} {w : World} {K : PySem.W.Frag} {mg : Str → Option Value} {base : Heap} {dA dT dG qa qo qx qv qm : Addr}
theorem ok_read {f  : Addr} {fd  : FuncData} (F : Fun K "read" "read" s_read f fd) (B : Bi K w mg dA dT dG qa qo qx qv qm)   : FnOk P w K mg base CX0 (1) f fd ["value"] (spRead) := by
  obtain ⟨oc, od, kV, doc, pm, an, cdv, ct, osl, rfl, lk, hcd⟩ := F.ex
  refine fn_ofT lk hcd sc_read (by decide +kernel) (by decide) (fun vs H Q E h => ?_) (fun A outer s H vs Q E hr h => ?_)
  · obtain ⟨l, rfl, _⟩ := h
    all_goals rfl
  · obtain ⟨l, rfl, hl, q⟩ := h
    refine ⟨_, (CwR.psst_one (CwR.pst_ret (CwR.pet_replC (pv 0) (by decide +kernel)))), ?_⟩
    refine ⟨_, rfl, Tx l, rfl, ?_, ?_⟩
    · rw [s_x, Tx_len, Tx_len]
      show l.length + (l.length + 1) * 1 ≤ 16777216
      omega
    · rw [replace_Tx s_z s_x]
      exact q H (Ex.refl H)
theorem ok_mixed_sign {f  : Addr} {fd  : FuncData} (F : Fun K "mixed_sign" "mixed_sign" s_mixed_sign f fd) (B : Bi K w mg dA dT dG qa qo qx qv qm)   : FnOk P w K mg base CX0 (1) f fd ["one", "other"] (spMixS) := by
  refine F.ok sc_mixed_sign (fun vs H Q E h => ?_) (fun cdv A outer s H vs Q E hr h => ?_)
  · obtain ⟨a, b, rfl, _⟩ := h
    all_goals rfl
  · obtain ⟨a, b, rfl, q⟩ := h
    refine ⟨_, (pss_one (ps_ret (pe_ifExp (PW.pt (pw_and (pt_cmpR op_eq (pv 0) (pv 1) (nomark _)) (pw_and1 (pt_cmpR op_inS (pv 0) (pgl (by rfl) B.c_TOLD) rfl)))) (pv 0) pe_str))), ?_⟩
    refine s_ret (ev_is (ev_ifS (et_and (et_test (ev_eqT (ev_var rfl) (ev_var rfl))) fun _ => et_test (ev_inT (ev_var rfl) ec_01)) (ev_var rfl) ec_x) ?_) q
    unfold mixS
    by_cases h : a = b ∧ a ∈ [48, 49]
    · rw [if_pos h, if_pos (by simpa using h)]
    · rw [if_neg h, if_neg (by simpa using h)]
theorem ok_mixed {f f1 : Addr} {fd fd1 : FuncData} (F : Fun K "mixed" "mixed" s_mixed f fd) (B : Bi K w mg dA dT dG qa qo qx qv qm)  (D_mixed_sign : Df P w K mg base CX0 "mixed_sign" 1 f1 fd1 ["one", "other"] (spMixS)) : FnOk P w K mg base CX0 (2) f fd ["one", "other"] (spMixed) := by
  refine F.ok sc_mixed (fun vs H Q E h => ?_) (fun cdv A outer s H vs Q E hr h => ?_)
  · obtain ⟨a, b, rfl, _⟩ := h
    all_goals rfl
  · obtain ⟨a, b, rfl, hl, hz, q⟩ := h
    refine ⟨_, (pss_one (ps_ret (pe_join pe_str (pe_lc (own := [("sign", 2), ("there", 3)]) (g := gTup K 2 (gCons (gName 2) (gCons (gName 3) gNil))) (tt := tYes) (by rfl) sc_mixed.nd (pi_zipS (by rfl) B.zip (pa_cons (pv 0) (pa_cons (pv 1) pa_nil))) (blkOk_by (own := [("sign", 2), ("there", 3)]) (N := N_mixed) (sc := defScope s_mixed) (by decide +kernel)) (fun _ _ _ _ _ => (pg_tup rfl (pgs_cons (pg_name (i := 2) sc_mixed.nd rfl (Or.inl rfl) (Or.inr rfl)) (pgs_cons (pg_name (i := 3) sc_mixed.nd rfl (Or.inl rfl) (Or.inr rfl)) pgs_nil)))) (fun _ _ _ _ _ => pts_nil) (fun _ _ _ _ _ => (pe_call D_mixed_sign.ok (hr.mono (by decide)) (by rfl) D_mixed_sign.g D_mixed_sign.kp D_mixed_sign.b .nil pass0 (pa_cons (pv 2) (pa_cons (pv 3) pa_nil)))))))), ?_⟩
    refine s_ret (ev_join1 (l := List.zipWith mixS a b) ?_ (by rw [List.length_zipWith]; omega)) q
    rw [List.map_zipWith]
    exact el_lcZ (fun c d => V.str (Tx [mixS c d])) (ea_cons (ev_var rfl) (ea_cons (ev_var rfl) ea_nil)) hl (by omega) (fun x y => rfl) fun c d H1 _ _ _ => ev_call (ea_cons (ev_var rfl) (ea_cons (ev_var rfl) ea_nil)) spv_mixS
theorem ok_and_sign {f  : Addr} {fd  : FuncData} (F : Fun K "and_sign" "and_sign" s_and_sign f fd) (B : Bi K w mg dA dT dG qa qo qx qv qm)   : FnOk P w K mg base CX0 (1) f fd ["one", "other"] (spSg andS) := by
  refine F.ok sc_and_sign (fun vs H Q E h => ?_) (fun cdv A outer s H vs Q E hr h => ?_)
  · obtain ⟨a, b, rfl, _⟩ := h
    all_goals rfl
  · obtain ⟨a, b, rfl, q⟩ := h
    refine ⟨_, (pss_cons (ps_if (PW.pt (pw_or (pt_cmpR op_eq (pv 0) pe_str (nomark _)) (pw_or1 (pt_cmpR op_eq (pv 1) pe_str (nomark _))))) (pss_one (ps_ret pe_str)) pss_nil)
      (pss_one (ps_ret (pe_ifExp (PW.pt (pw_and (pt_cmpR op_eq (pv 0) pe_str (nomark _)) (pw_and1 (pt_cmpR op_eq (pv 1) pe_str (nomark _))))) pe_str pe_str)))), ?_⟩
    refine q_when (et_or (et_test (ev_eqT (ev_var rfl) ec_0)) fun _ => et_test (ev_eqT (ev_var rfl) ec_0)) (fun hb H1 e1 => s_ret ec_0 fun H2 e2 => ?_) (fun hb H1 e1 => s_ret (ev_ifS (et_and (et_test (ev_eqT (ev_var rfl) ec_1)) fun _ => et_test (ev_eqT (ev_var rfl) ec_1)) ec_1 ec_x) fun H2 e2 => ?_)
    · have g := q H2 (e1.trans e2)
      unfold andS at g
      rw [if_pos (by simpa using hb)] at g
      exact g
    · have g := q H2 (e1.trans e2)
      unfold andS at g
      rw [if_neg (by simpa using hb)] at g
      split at g
      · rename_i h
        rw [if_pos (by simpa using h)]
        exact g
      · rename_i h
        rw [if_neg (by simpa using h)]
        exact g
theorem ok_or_sign {f  : Addr} {fd  : FuncData} (F : Fun K "or_sign" "or_sign" s_or_sign f fd) (B : Bi K w mg dA dT dG qa qo qx qv qm)   : FnOk P w K mg base CX0 (1) f fd ["one", "other"] (spSg orS) := by
  refine F.ok sc_or_sign (fun vs H Q E h => ?_) (fun cdv A outer s H vs Q E hr h => ?_)
  · obtain ⟨a, b, rfl, _⟩ := h
    all_goals rfl
  · obtain ⟨a, b, rfl, q⟩ := h
    refine ⟨_, (pss_cons (ps_if (PW.pt (pw_or (pt_cmpR op_eq (pv 0) pe_str (nomark _)) (pw_or1 (pt_cmpR op_eq (pv 1) pe_str (nomark _))))) (pss_one (ps_ret pe_str)) pss_nil)
      (pss_one (ps_ret (pe_ifExp (PW.pt (pw_and (pt_cmpR op_eq (pv 0) pe_str (nomark _)) (pw_and1 (pt_cmpR op_eq (pv 1) pe_str (nomark _))))) pe_str pe_str)))), ?_⟩
    refine q_when (et_or (et_test (ev_eqT (ev_var rfl) ec_1)) fun _ => et_test (ev_eqT (ev_var rfl) ec_1)) (fun hb H1 e1 => s_ret ec_1 fun H2 e2 => ?_) (fun hb H1 e1 => s_ret (ev_ifS (et_and (et_test (ev_eqT (ev_var rfl) ec_0)) fun _ => et_test (ev_eqT (ev_var rfl) ec_0)) ec_0 ec_x) fun H2 e2 => ?_)
    · have g := q H2 (e1.trans e2)
      unfold orS at g
      rw [if_pos (by simpa using hb)] at g
      exact g
    · have g := q H2 (e1.trans e2)
      unfold orS at g
      rw [if_neg (by simpa using hb)] at g
      split at g
      · rename_i h
        rw [if_pos (by simpa using h)]
        exact g
      · rename_i h
        rw [if_neg (by simpa using h)]
        exact g
theorem ok_xor_sign {f  : Addr} {fd  : FuncData} (F : Fun K "xor_sign" "xor_sign" s_xor_sign f fd) (B : Bi K w mg dA dT dG qa qo qx qv qm)   : FnOk P w K mg base CX0 (1) f fd ["one", "other"] (spSg xorS) := by
  refine F.ok sc_xor_sign (fun vs H Q E h => ?_) (fun cdv A outer s H vs Q E hr h => ?_)
  · obtain ⟨a, b, rfl, _⟩ := h
    all_goals rfl
  · obtain ⟨a, b, rfl, q⟩ := h
    refine ⟨_, (pss_cons (ps_if (PW.pt (pw_or (pt_cmpR op_eq (pv 0) pe_str (nomark _)) (pw_or1 (pt_cmpR op_eq (pv 1) pe_str (nomark _))))) (pss_one (ps_ret pe_str)) pss_nil)
      (pss_one (ps_ret (pe_ifExp (pt_cmpR op_eq (pv 0) (pv 1) (nomark _)) pe_str pe_str)))), ?_⟩
    refine q_when (et_or (et_test (ev_eqT (ev_var rfl) ec_x)) fun _ => et_test (ev_eqT (ev_var rfl) ec_x)) (fun hb H1 e1 => s_ret ec_x fun H2 e2 => ?_) (fun hb H1 e1 => s_ret (ev_ifS (et_test (ev_eqT (ev_var rfl) (ev_var rfl))) ec_0 ec_1) fun H2 e2 => ?_)
    · have g := q H2 (e1.trans e2)
      unfold xorS at g
      rw [if_pos (by simpa using hb)] at g
      exact g
    · have g := q H2 (e1.trans e2)
      unfold xorS at g
      rw [if_neg (by simpa using hb)] at g
      split at g
      · rename_i h
        rw [if_pos (by simpa using h)]
        exact g
      · rename_i h
        rw [if_neg (by simpa using h)]
        exact g
theorem ok_most_sign {f  : Addr} {fd  : FuncData} (F : Fun K "most_sign" "most_sign" s_most_sign f fd) (B : Bi K w mg dA dT dG qa qo qx qv qm)   : FnOk P w K mg base CX0 (1) f fd ["one", "other", "third"] (spMost) := by
  refine F.ok sc_most_sign (fun vs H Q E h => ?_) (fun cdv A outer s H vs Q E hr h => ?_)
  · obtain ⟨a, b, c, rfl, _⟩ := h
    all_goals rfl
  · obtain ⟨a, b, c, rfl, ha, hb, hc, q⟩ := h
    refine ⟨_, (pss_cons (ps_set (i := 3) sc_most_sign.nd rfl (Or.inl rfl) (pe_op op_add_str (pe_op op_add_str (pv 0) (pv 1)) (pv 2)))
      (pss_cons (ps_if (pt_cmpR op_gt (pe_m1 PySem.F.slot_str_count PySem.F.type_str_count mt_count (pv 3) pe_str) pe_int (nomark _)) (pss_one (ps_ret pe_str)) pss_nil)
      (pss_one (ps_ret (pe_ifExp (pt_cmpR op_gt (pe_m1 PySem.F.slot_str_count PySem.F.type_str_count mt_count (pv 3) pe_str) pe_int (nomark _)) pe_str pe_str))))), ?_⟩
    obtain ⟨n0, n1⟩ := count_ok a ha b hb c hc
    refine q_asg (ev_addT (ev_addT (ev_var rfl) (ev_var rfl) (by simp)) (ev_var rfl) (by simp)) fun H1 e1 => ?_
    refine q_when (et_test (ev_op (ev_countT (ev_var rfl) ec_0 n0) ev_c rv_I0)) (fun hb2 H2 e2 => s_ret ec_0 fun H3 e3 => ?_) (fun hb2 H2 e2 => s_ret (ev_ifS (et_test (ev_op (ev_countT (ev_var rfl) ec_1 n1) ev_c rv_I0)) ec_1 ec_x) fun H3 e3 => ?_)
    · have g := q H3 ((e1.trans e2).trans e3)
      unfold mostS at g
      have h := of_decide_eq_true hb2
      rw [if_pos (by omega)] at g
      exact g
    · have g := q H3 ((e1.trans e2).trans e3)
      unfold mostS at g
      have h := of_decide_eq_false hb2
      rw [if_neg (by omega)] at g
      by_cases h2 : 1 < cnt 49 a b c
      · rw [if_pos h2] at g
        rw [if_pos (decide_eq_true (by omega))]
        exact g
      · rw [if_neg h2] at g
        rw [if_neg (by rw [decide_eq_false (by omega)]; decide)]
        exact g
theorem ok_by_bits {f  : Addr} {fd fd1 fd2 fd3 : FuncData} (F : Fun K "by_bits" "by_bits" s_by_bits f fd) (B : Bi K w mg dA dT dG qa qo qx qv qm)  (D_and_sign : Df P w K mg base CX0 "and_sign" 1 qa fd1 ["one", "other"] (spSg andS)) (D_or_sign : Df P w K mg base CX0 "or_sign" 1 qo fd2 ["one", "other"] (spSg orS)) (D_xor_sign : Df P w K mg base CX0 "xor_sign" 1 qx fd3 ["one", "other"] (spSg xorS)) : FnOk P w K mg base CX0 (2) f fd ["rule", "one", "other"] (spBits qa qo qx) := by
  refine F.ok sc_by_bits (fun vs H Q E h => ?_) (fun cdv A outer s H vs Q E hr h => ?_)
  · obtain ⟨g, k, a, b, rfl, _⟩ := h
    all_goals rfl
  · obtain ⟨g, k, a, b, rfl, hg, hl, hz, q⟩ := h
    have hH : Held P w K mg base 1 g (spSg (op3 k)) := by
      rcases hg with ⟨rfl, rfl⟩ | ⟨rfl, rfl⟩ | ⟨rfl, rfl⟩
      · exact ⟨_, _, D_and_sign.ok, D_and_sign.kp, D_and_sign.b⟩
      · exact ⟨_, _, D_or_sign.ok, D_or_sign.kp, D_or_sign.b⟩
      · exact ⟨_, _, D_xor_sign.ok, D_xor_sign.kp, D_xor_sign.b⟩
    have hA : ∀ f sp, (fun f : Addr => if f = g then some (spSg (op3 k)) else (none : Option Sp)) f = some sp → Held P w K mg base 1 f sp := fun f sp h => by
      by_cases e : f = g
      · rw [show (fun f : Addr => if f = g then some (spSg (op3 k)) else (none : Option Sp)) f = some (spSg (op3 k)) from if_pos e] at h
        cases h
        rw [e]
        exact hH
      · rw [show (fun f : Addr => if f = g then some (spSg (op3 k)) else (none : Option Sp)) f = none from if_neg e] at h
        cases h
    generalize hS0 : (fun f : Addr => if f = g then some (spSg (op3 k)) else (none : Option Sp)) = S at hA
    refine ⟨_, (pss_one (ps_ret (pe_join pe_str (pe_lc (own := [("sign", 3), ("there", 4)]) (g := gTup K 2 (gCons (gName 3) (gCons (gName 4) gNil))) (tt := tYes) (by rfl) sc_by_bits.nd (pi_zipS (by rfl) B.zip (pa_cons (pv 1) (pa_cons (pv 2) pa_nil))) (blkOk_by (own := [("sign", 3), ("there", 4)]) (N := N_by_bits) (sc := defScope s_by_bits) (by decide +kernel)) (fun _ _ _ _ _ => (pg_tup rfl (pgs_cons (pg_name (i := 3) sc_by_bits.nd rfl (Or.inl rfl) (Or.inr rfl)) (pgs_cons (pg_name (i := 4) sc_by_bits.nd rfl (Or.inl rfl) (Or.inr rfl)) pgs_nil)))) (fun _ _ _ _ _ => pts_nil) (fun _ _ _ _ _ => (pe_callA (i := 0) (S := S) hA (hr.mono (by decide)) rfl (by first | exact Or.inl rfl | exact Or.inr (Or.inl rfl) | exact Or.inr (Or.inr rfl)) (pa_cons (pv 3) (pa_cons (pv 4) pa_nil)))))))), ?_⟩
    refine s_ret (ev_join1 (l := List.zipWith (op3 k) a b) ?_ (by rw [List.length_zipWith]; omega)) q
    rw [List.map_zipWith]
    refine el_lcZ (fun c d => V.str (Tx [op3 k c d])) (ea_cons (ev_var rfl) (ea_cons (ev_var rfl) ea_nil)) hl (by omega) (fun x y => rfl) fun c d H1 _ _ _ => fun H2 e2 Q2 q2 => ?_
    exact ⟨g, spSg (op3 k), rfl, by rw [← hS0]; exact if_pos rfl, _, rfl, _, rfl, c, d, rfl, q2⟩
theorem ok_not_value {f  : Addr} {fd  : FuncData} (F : Fun K "not_value" "not_value" s_not_value f fd) (B : Bi K w mg dA dT dG qa qo qx qv qm)   : FnOk P w K mg base CX0 (4) f fd ["value"] (spNot) := by
  refine F.ok sc_not_value (fun vs H Q E h => ?_) (fun cdv A outer s H vs Q E hr h => ?_)
  · obtain ⟨l, rfl, _⟩ := h
    all_goals rfl
  · obtain ⟨l, rfl, hs, hl, q⟩ := h
    refine ⟨_, (pss_one (ps_ret (pe_join pe_str (pe_lc (own := [("sign", 1)]) (g := gName 1) (tt := tYes) (te := tOp (rIxD K w) (tC (.ref dT)) (tVar 1)) (by rfl) sc_not_value.nd (pi_str (pv 0)) (blkOk_by (own := [("sign", 1)]) (N := N_not_value) (sc := defScope s_not_value) (by decide +kernel)) (fun _ _ _ _ _ => pg_name (i := 1) sc_not_value.nd rfl (Or.inl rfl)) (fun _ _ _ _ _ => pts_nil) (fun _ _ _ _ _ => by exact pe_ix ix_kdict (pgl (by rfl) B.c_TURNED) (pv 1) (fun _ _ => rfl)))))), ?_⟩
    refine s_ret (ev_join1 (l := l.map notS) ?_ (by rw [List.length_map]; omega)) q
    rw [List.map_map]
    refine el_lcT1 _ (ev_var rfl) (by omega) (fun x => rfl) fun c H1 _ hc => ?_
    have h3 : c = 48 ∨ c = 49 ∨ c = 120 := by simpa using hs c hc
    rcases h3 with rfl | rfl | rfl
    · exact ev_kd ev_c (ev_var rfl) B.x_T0
    · exact ev_kd ev_c (ev_var rfl) B.x_T1
    · exact ev_kd ev_c (ev_var rfl) B.x_Tx
theorem ok_and_value {f f1 : Addr} {fd fd1 : FuncData} (F : Fun K "and_value" "and_value" s_and_value f fd) (B : Bi K w mg dA dT dG qa qo qx qv qm)  (D_by_bits : Df P w K mg base CX0 "by_bits" 2 f1 fd1 ["rule", "one", "other"] (spBits qa qo qx)) : FnOk P w K mg base CX0 (4) f fd ["one", "other"] (spTwo 1) := by
  refine F.ok sc_and_value (fun vs H Q E h => ?_) (fun cdv A outer s H vs Q E hr h => ?_)
  · obtain ⟨a, b, rfl, _⟩ := h
    all_goals rfl
  · obtain ⟨a, b, rfl, hl, hz, q⟩ := h
    refine ⟨_, (pss_one (ps_ret (pe_call D_by_bits.ok (hr.mono (by decide)) (by rfl) D_by_bits.g D_by_bits.kp D_by_bits.b .nil pass0 (pa_cons (pgl (by rfl) B.c_and_sign) (pa_cons (pv 0) (pa_cons (pv 1) pa_nil)))))), ?_⟩
    exact s_ret (ev_call (ea_cons ev_c (ea_cons (ev_var rfl) (ea_cons (ev_var rfl) ea_nil))) fun H1 e1 Q1 q1 E1 => ⟨_, 1, a, b, rfl, .inl ⟨rfl, rfl⟩, hl, hz, q1⟩) q
theorem ok_or_value {f f1 : Addr} {fd fd1 : FuncData} (F : Fun K "or_value" "or_value" s_or_value f fd) (B : Bi K w mg dA dT dG qa qo qx qv qm)  (D_by_bits : Df P w K mg base CX0 "by_bits" 2 f1 fd1 ["rule", "one", "other"] (spBits qa qo qx)) : FnOk P w K mg base CX0 (4) f fd ["one", "other"] (spTwo 2) := by
  refine F.ok sc_or_value (fun vs H Q E h => ?_) (fun cdv A outer s H vs Q E hr h => ?_)
  · obtain ⟨a, b, rfl, _⟩ := h
    all_goals rfl
  · obtain ⟨a, b, rfl, hl, hz, q⟩ := h
    refine ⟨_, (pss_one (ps_ret (pe_call D_by_bits.ok (hr.mono (by decide)) (by rfl) D_by_bits.g D_by_bits.kp D_by_bits.b .nil pass0 (pa_cons (pgl (by rfl) B.c_or_sign) (pa_cons (pv 0) (pa_cons (pv 1) pa_nil)))))), ?_⟩
    exact s_ret (ev_call (ea_cons ev_c (ea_cons (ev_var rfl) (ea_cons (ev_var rfl) ea_nil))) fun H1 e1 Q1 q1 E1 => ⟨_, 2, a, b, rfl, .inr (.inl ⟨rfl, rfl⟩), hl, hz, q1⟩) q
theorem ok_xor_value {f f1 : Addr} {fd fd1 : FuncData} (F : Fun K "xor_value" "xor_value" s_xor_value f fd) (B : Bi K w mg dA dT dG qa qo qx qv qm)  (D_by_bits : Df P w K mg base CX0 "by_bits" 2 f1 fd1 ["rule", "one", "other"] (spBits qa qo qx)) : FnOk P w K mg base CX0 (3) f fd ["one", "other"] (spTwo 3) := by
  refine F.ok sc_xor_value (fun vs H Q E h => ?_) (fun cdv A outer s H vs Q E hr h => ?_)
  · obtain ⟨a, b, rfl, _⟩ := h
    all_goals rfl
  · obtain ⟨a, b, rfl, hl, hz, q⟩ := h
    refine ⟨_, (pss_one (ps_ret (pe_call D_by_bits.ok (hr.mono (by decide)) (by rfl) D_by_bits.g D_by_bits.kp D_by_bits.b .nil pass0 (pa_cons (pgl (by rfl) B.c_xor_sign) (pa_cons (pv 0) (pa_cons (pv 1) pa_nil)))))), ?_⟩
    exact s_ret (ev_call (ea_cons ev_c (ea_cons (ev_var rfl) (ea_cons (ev_var rfl) ea_nil))) fun H1 e1 Q1 q1 E1 => ⟨_, 3, a, b, rfl, .inr (.inr ⟨rfl, rfl⟩), hl, hz, q1⟩) q
theorem ok_plus_value {f f2 : Addr} {fd fd1 fd2 : FuncData} (F : Fun K "plus_value" "plus_value" s_plus_value f fd) (B : Bi K w mg dA dT dG qa qo qx qv qm)  (D_xor_sign : Df P w K mg base CX0 "xor_sign" 1 qx fd1 ["one", "other"] (spSg xorS)) (D_most_sign : Df P w K mg base CX0 "most_sign" 1 f2 fd2 ["one", "other", "third"] (spMost)) : FnOk P w K mg base CX0 (4) f fd ["one", "other"] (spTwoS plusS) := by
  refine F.ok sc_plus_value (fun vs H Q E h => ?_) (fun cdv A outer s H vs Q E hr h => ?_)
  · obtain ⟨a, b, rfl, _⟩ := h
    all_goals rfl
  · obtain ⟨a, b, rfl, ha, hb, hl, h8, q⟩ := h
    refine ⟨_, (pss_cons (ps_set (i := 2) sc_plus_value.nd rfl (Or.inl rfl) pe_str)
      (pss_cons (ps_set (i := 3) sc_plus_value.nd rfl (Or.inl rfl) pe_str)
      (pss_cons (ps_for PassesOwn.never rfl (pi_zipS (by rfl) B.zip (pa_cons (pe_revS (pv 0)) (pa_cons (pe_revS (pv 1)) pa_nil))) (pg_tup rfl (pgs_cons (pg_name (i := 4) sc_plus_value.nd rfl (Or.inl rfl)) (pgs_cons (pg_name (i := 5) sc_plus_value.nd rfl (Or.inl rfl)) pgs_nil))) (pss_cons (ps_set (i := 3) sc_plus_value.nd rfl (Or.inl rfl) (pe_op op_add_str (pe_call D_xor_sign.ok (hr.mono (by decide)) (by rfl) D_xor_sign.g D_xor_sign.kp D_xor_sign.b .nil pass0 (pa_cons (pe_call D_xor_sign.ok (hr.mono (by decide)) (by rfl) D_xor_sign.g D_xor_sign.kp D_xor_sign.b .nil pass0 (pa_cons (pv 4) (pa_cons (pv 5) pa_nil))) (pa_cons (pv 2) pa_nil))) (pv 3)))
      (pss_one (ps_set (i := 2) sc_plus_value.nd rfl (Or.inl rfl) (pe_call D_most_sign.ok (hr.mono (by decide)) (by rfl) D_most_sign.g D_most_sign.kp D_most_sign.b .nil pass0 (pa_cons (pv 4) (pa_cons (pv 5) (pa_cons (pv 2) pa_nil))))))))
      (pss_one (ps_ret (pv 3)))))), ?_⟩
    refine q_asg ec_0 fun H1 e1 => ?_
    refine q_asg ec_e fun H2 e2 => ?_
    refine q_forZ (ea_cons (ev_revS (ev_var rfl) (by omega)) (ea_cons (ev_revS (ev_var rfl) (by omega)) ea_nil)) (by rw [List.length_reverse, List.length_reverse]; exact hl) (fun i σ' H' => (∃ k s v4 v5, σ' = [some (.str (Tx a)), some (.str (Tx b)), some (.str (Tx [k])), some (.str (Tx s)), v4, v5] ∧ k ∈ k3 ∧ s.length = i ∧ (plusL k (a.reverse.drop i) (b.reverse.drop i)).reverse ++ s = plusS a b) ∧ Ex H H')
      (fun H3 e3 => ⟨⟨48, [], none, none, rfl, k3_48, rfl, by simp [plusS]⟩, (e1.trans e2).trans e3⟩) (fun i c d σ' H4 hc2 hd2 hv H5 e5 => ?_) (fun σ' H4 hv => ?_)
    · obtain ⟨⟨k, s, v4, v5, rfl, hk, hs, hp⟩, x4⟩ := hv
      have hi : i < a.reverse.length := (List.getElem?_eq_some_iff.mp hc2).1
      rw [List.length_reverse] at hi
      have hc3 : c ∈ k3 := ha c (List.mem_reverse.mp (List.mem_of_getElem? hc2))
      have hd3 : d ∈ k3 := hb d (List.mem_reverse.mp (List.mem_of_getElem? hd2))
      refine q_asg (ev_addT (ev_call (ea_cons (ev_call (ea_cons (ev_var rfl) (ea_cons (ev_var rfl) ea_nil)) spv_sg) (ea_cons (ev_var rfl) ea_nil)) spv_sg) (ev_var rfl) (by simp; omega)) fun H6 e6 => ?_
      refine s_asg (ev_call (ea_cons (ev_var rfl) (ea_cons (ev_var rfl) (ea_cons (ev_var rfl) ea_nil))) (spv_most hc3 hd3 hk)) fun H7 e7 => ?_
      refine ⟨⟨mostS c d k, [xorS (xorS c d) k] ++ s, _, _, rfl, most_k3 _ _ _, by simp; omega, ?_⟩, ((x4.trans e5).trans e6).trans e7⟩
      rw [← hp, drop_at hc2, drop_at hd2]
      simp [plusL]
    · obtain ⟨⟨k, s, v4, v5, rfl, hk, hs, hp⟩, x4⟩ := hv
      rw [List.drop_of_length_le (Nat.le_refl _)] at hp
      have hp2 : s = plusS a b := by rw [← hp]; simp [plusL]
      rw [hp2]
      exact s_ret (ev_var rfl) fun H5 e5 => q H5 (x4.trans e5)
theorem ok_any_value {f  : Addr} {fd  : FuncData} (F : Fun K "any_value" "any_value" s_any_value f fd) (B : Bi K w mg dA dT dG qa qo qx qv qm)   : FnOk P w K mg base CX0 (1) f fd ["value"] (spOne anyS) := by
  refine F.ok sc_any_value (fun vs H Q E h => ?_) (fun cdv A outer s H vs Q E hr h => ?_)
  · obtain ⟨l, rfl, _⟩ := h
    all_goals rfl
  · obtain ⟨l, rfl, q⟩ := h
    refine ⟨_, (pss_cons (ps_if (pt_cmpR op_inS pe_str (pv 0) rfl) (pss_one (ps_ret pe_str)) pss_nil)
      (pss_one (ps_ret (pe_ifExp (pt_cmpR op_inS pe_str (pv 0) rfl) pe_str pe_str)))), ?_⟩
    refine q_when (et_test (ev_inT ec_1 (ev_var rfl))) (fun hb H1 e1 => s_ret ec_1 fun H2 e2 => ?_) (fun hb H1 e1 => s_ret (ev_ifS (et_test (ev_inT ec_x (ev_var rfl))) ec_x ec_0) fun H2 e2 => ?_)
    · have g := q H2 (e1.trans e2)
      unfold anyS at g
      rw [if_pos (of_decide_eq_true hb)] at g
      exact g
    · have g := q H2 (e1.trans e2)
      unfold anyS at g
      rw [if_neg (of_decide_eq_false hb)] at g
      by_cases h : 120 ∈ l
      · rw [if_pos h] at g
        rw [if_pos (decide_eq_true h)]
        exact g
      · rw [if_neg h] at g
        rw [if_neg (by rw [decide_eq_false h]; decide)]
        exact g
theorem ok_all_value {f  : Addr} {fd  : FuncData} (F : Fun K "all_value" "all_value" s_all_value f fd) (B : Bi K w mg dA dT dG qa qo qx qv qm)   : FnOk P w K mg base CX0 (4) f fd ["value"] (spOne allS) := by
  refine F.ok sc_all_value (fun vs H Q E h => ?_) (fun cdv A outer s H vs Q E hr h => ?_)
  · obtain ⟨l, rfl, _⟩ := h
    all_goals rfl
  · obtain ⟨l, rfl, q⟩ := h
    refine ⟨_, (pss_cons (ps_if (pt_cmpR op_inS pe_str (pv 0) rfl) (pss_one (ps_ret pe_str)) pss_nil)
      (pss_one (ps_ret (pe_ifExp (pt_cmpR op_inS pe_str (pv 0) rfl) pe_str pe_str)))), ?_⟩
    refine q_when (et_test (ev_inT ec_0 (ev_var rfl))) (fun hb H1 e1 => s_ret ec_0 fun H2 e2 => ?_) (fun hb H1 e1 => s_ret (ev_ifS (et_test (ev_inT ec_x (ev_var rfl))) ec_x ec_1) fun H2 e2 => ?_)
    · have g := q H2 (e1.trans e2)
      unfold allS at g
      rw [if_pos (of_decide_eq_true hb)] at g
      exact g
    · have g := q H2 (e1.trans e2)
      unfold allS at g
      rw [if_neg (of_decide_eq_false hb)] at g
      by_cases h : 120 ∈ l
      · rw [if_pos h] at g
        rw [if_pos (decide_eq_true h)]
        exact g
      · rw [if_neg h] at g
        rw [if_neg (by rw [decide_eq_false h]; decide)]
        exact g
theorem ok_same_value {f f1 f2 : Addr} {fd fd1 fd2 : FuncData} (F : Fun K "same_value" "same_value" s_same_value f fd) (B : Bi K w mg dA dT dG qa qo qx qv qm)  (D_any_value : Df P w K mg base CX0 "any_value" 1 f1 fd1 ["value"] (spOne anyS)) (D_xor_value : Df P w K mg base CX0 "xor_value" 3 f2 fd2 ["one", "other"] (spTwo 3)) : FnOk P w K mg base CX0 (4) f fd ["one", "other"] (spTwoS fun a b => [sameS a b]) := by
  refine F.ok sc_same_value (fun vs H Q E h => ?_) (fun cdv A outer s H vs Q E hr h => ?_)
  · obtain ⟨a, b, rfl, _⟩ := h
    all_goals rfl
  · obtain ⟨a, b, rfl, ha, hb, hl, h8, q⟩ := h
    refine ⟨_, (pss_one (ps_ret (pe_ix ix_kdict (pgl (by rfl) B.c_TURNED) (pe_call D_any_value.ok (hr.mono (by decide)) (by rfl) D_any_value.g D_any_value.kp D_any_value.b .nil pass0 (pa_cons (pe_call D_xor_value.ok (hr.mono (by decide)) (by rfl) D_xor_value.g D_xor_value.kp D_xor_value.b .nil pass0 (pa_cons (pv 0) (pa_cons (pv 1) pa_nil))) pa_nil)) (fun _ _ => rfl)))), ?_⟩
    have hkd : KDct K w dT (Tx [anyS (List.zipWith xorS a b)]) (.str (Tx [sameS a b])) := by
      unfold sameS
      have h := any_k3 (List.zipWith xorS a b)
      generalize anyS (List.zipWith xorS a b) = c at h
      simp only [k3, List.mem_cons, List.not_mem_nil, or_false] at h
      rcases h with rfl | rfl | rfl
      · exact B.x_T0
      · exact B.x_T1
      · exact B.x_Tx
    exact s_ret (ev_kd ev_c (ev_call (ea_cons (ev_call (ea_cons (ev_var rfl) (ea_cons (ev_var rfl) ea_nil)) fun H1 e1 Q1 q1 E1 => ⟨a, b, rfl, hl, by omega, q1⟩) ea_nil) fun H1 e1 Q1 q1 E1 => ⟨_, rfl, q1⟩) hkd) q
theorem ok_lowest {f  : Addr} {fd  : FuncData} (F : Fun K "lowest" "lowest" s_lowest f fd) (B : Bi K w mg dA dT dG qa qo qx qv qm)   : FnOk P w K mg base CX0 (1) f fd ["value"] (spMapS loS) := by
  obtain ⟨oc, od, kV, doc, pm, an, cdv, ct, osl, rfl, lk, hcd⟩ := F.ex
  refine fn_ofT lk hcd sc_lowest (by decide +kernel) (by decide) (fun vs H Q E h => ?_) (fun A outer s H vs Q E hr h => ?_)
  · obtain ⟨l, rfl, _⟩ := h
    all_goals rfl
  · obtain ⟨l, rfl, hl, q⟩ := h
    refine ⟨_, (CwR.psst_one (CwR.pst_ret (CwR.pet_replC (pv 0) (by decide +kernel)))), ?_⟩
    refine ⟨_, rfl, Tx l, rfl, ?_, ?_⟩
    · rw [s_0, Tx_len, Tx_len]
      show l.length + (l.length + 1) * 1 ≤ 16777216
      omega
    · rw [replace_Tx s_x s_0]
      exact q H (Ex.refl H)
theorem ok_highest {f  : Addr} {fd  : FuncData} (F : Fun K "highest" "highest" s_highest f fd) (B : Bi K w mg dA dT dG qa qo qx qv qm)   : FnOk P w K mg base CX0 (1) f fd ["value"] (spMapS hiS) := by
  obtain ⟨oc, od, kV, doc, pm, an, cdv, ct, osl, rfl, lk, hcd⟩ := F.ex
  refine fn_ofT lk hcd sc_highest (by decide +kernel) (by decide) (fun vs H Q E h => ?_) (fun A outer s H vs Q E hr h => ?_)
  · obtain ⟨l, rfl, _⟩ := h
    all_goals rfl
  · obtain ⟨l, rfl, hl, q⟩ := h
    refine ⟨_, (CwR.psst_one (CwR.pst_ret (CwR.pet_replC (pv 0) (by decide +kernel)))), ?_⟩
    refine ⟨_, rfl, Tx l, rfl, ?_, ?_⟩
    · rw [s_1, Tx_len, Tx_len]
      show l.length + (l.length + 1) * 1 ≤ 16777216
      omega
    · rw [replace_Tx s_x s_1]
      exact q H (Ex.refl H)
theorem ok_less_value {f f1 f2 : Addr} {fd fd1 fd2 : FuncData} (F : Fun K "less_value" "less_value" s_less_value f fd) (B : Bi K w mg dA dT dG qa qo qx qv qm)  (D_highest : Df P w K mg base CX0 "highest" 1 f1 fd1 ["value"] (spMapS hiS)) (D_lowest : Df P w K mg base CX0 "lowest" 1 f2 fd2 ["value"] (spMapS loS)) : FnOk P w K mg base CX0 (4) f fd ["one", "other"] (spTwoS fun a b => [lessS a b]) := by
  refine F.ok sc_less_value (fun vs H Q E h => ?_) (fun cdv A outer s H vs Q E hr h => ?_)
  · obtain ⟨a, b, rfl, _⟩ := h
    all_goals rfl
  · obtain ⟨a, b, rfl, ha, hb, hl, h8, q⟩ := h
    refine ⟨_, (pss_cons (ps_if (pt_cmpR op_lt_str (pe_call D_highest.ok (hr.mono (by decide)) (by rfl) D_highest.g D_highest.kp D_highest.b .nil pass0 (pa_cons (pv 0) pa_nil)) (pe_call D_lowest.ok (hr.mono (by decide)) (by rfl) D_lowest.g D_lowest.kp D_lowest.b .nil pass0 (pa_cons (pv 1) pa_nil)) (nomark _)) (pss_one (ps_ret pe_str)) pss_nil)
      (pss_one (ps_ret (pe_ifExp (pt_cmpR op_ge_str (pe_call D_lowest.ok (hr.mono (by decide)) (by rfl) D_lowest.g D_lowest.kp D_lowest.b .nil pass0 (pa_cons (pv 0) pa_nil)) (pe_call D_highest.ok (hr.mono (by decide)) (by rfl) D_highest.g D_highest.kp D_highest.b .nil pass0 (pa_cons (pv 1) pa_nil)) (nomark _)) pe_str pe_str)))), ?_⟩
    refine q_when (et_test (ev_ltT (ev_call (ea_cons (ev_var rfl) ea_nil) (spv_map (by omega))) (ev_call (ea_cons (ev_var rfl) ea_nil) (spv_map (by omega))))) (fun hb2 H1 e1 => s_ret ec_1 fun H2 e2 => ?_) (fun hb2 H1 e1 => s_ret (ev_ifS (et_test (ev_geT (ev_call (ea_cons (ev_var rfl) ea_nil) (spv_map (by omega))) (ev_call (ea_cons (ev_var rfl) ea_nil) (spv_map (by omega))))) ec_0 ec_x) fun H2 e2 => ?_)
    · have g : Q (.str (Tx [lessS a b])) H2 := q H2 (e1.trans e2)
      unfold lessS at g
      rw [if_pos (of_decide_eq_true hb2)] at g
      exact g
    · have g : Q (.str (Tx [lessS a b])) H2 := q H2 (e1.trans e2)
      unfold lessS at g
      rw [if_neg (of_decide_eq_false hb2)] at g
      by_cases h : a.map loS < b.map hiS
      · rw [if_neg (fun z => z h)] at g
        rw [if_neg (by rw [decide_eq_true h]; decide)]
        exact g
      · rw [if_pos h] at g
        rw [if_pos (by rw [decide_eq_false h]; rfl)]
        exact g
theorem ok_pick_value {f f1 : Addr} {fd fd1 : FuncData} (F : Fun K "pick_value" "pick_value" s_pick_value f fd) (B : Bi K w mg dA dT dG qa qo qx qv qm)  (D_mixed : Df P w K mg base CX0 "mixed" 2 f1 fd1 ["one", "other"] (spMixed)) : FnOk P w K mg base CX0 (4) f fd ["choice", "one", "other"] (spPick) := by
  refine F.ok sc_pick_value (fun vs H Q E h => ?_) (fun cdv A outer s H vs Q E hr h => ?_)
  · obtain ⟨c, a, b, rfl, _⟩ := h
    all_goals rfl
  · obtain ⟨c, a, b, rfl, hl, hz, q⟩ := h
    refine ⟨_, (pss_cons (ps_if (pt_cmpR op_eq (pv 0) pe_str (nomark _)) (pss_one (ps_ret (pe_call D_mixed.ok (hr.mono (by decide)) (by rfl) D_mixed.g D_mixed.kp D_mixed.b .nil pass0 (pa_cons (pv 1) (pa_cons (pv 2) pa_nil))))) pss_nil)
      (pss_one (ps_ret (pe_ifExp (pt_cmpR op_eq (pv 0) pe_str (nomark _)) (pv 1) (pv 2))))), ?_⟩
    refine q_when (et_test (ev_eqT (ev_var rfl) ec_x)) (fun hb H1 e1 => s_ret (ev_call (ea_cons (ev_var rfl) (ea_cons (ev_var rfl) ea_nil)) (spv_mixed hl hz)) fun H2 e2 => ?_) (fun hb H1 e1 => s_ret (ev_ifS (et_test (ev_eqT (ev_var rfl) ec_1)) (ev_var rfl) (ev_var rfl)) fun H2 e2 => ?_)
    · have g := q H2 (e1.trans e2)
      unfold pickS at g
      rw [if_pos (by simpa using hb)] at g
      exact g
    · have g := q H2 (e1.trans e2)
      unfold pickS at g
      rw [if_neg (by simpa using hb)] at g
      by_cases h : c = 49
      · rw [if_pos h] at g
        rw [if_pos (by simp [h])]
        exact g
      · rw [if_neg h] at g
        rw [if_neg (by simp [h])]
        exact g
theorem ok_join_value {f  : Addr} {fd  : FuncData} (F : Fun K "join_value" "join_value" s_join_value f fd) (B : Bi K w mg dA dT dG qa qo qx qv qm)   : FnOk P w K mg base CX0 (4) f fd ["one", "other"] (spJoin) := by
  refine F.ok sc_join_value (fun vs H Q E h => ?_) (fun cdv A outer s H vs Q E hr h => ?_)
  · obtain ⟨a, b, rfl, _⟩ := h
    all_goals rfl
  · obtain ⟨a, b, rfl, hz, q⟩ := h
    refine ⟨_, (pss_one (ps_ret (pe_op op_add_str (pv 0) (pv 1)))), ?_⟩
    exact s_ret (ev_addT (ev_var rfl) (ev_var rfl) (by omega)) q
theorem ok_part_value {f  : Addr} {fd  : FuncData} (F : Fun K "part_value" "part_value" s_part_value f fd) (B : Bi K w mg dA dT dG qa qo qx qv qm)   : FnOk P w K mg base CX0 (1) f fd ["value", "high", "low"] (spPart) := by
  refine F.ok sc_part_value (fun vs H Q E h => ?_) (fun cdv A outer s H vs Q E hr h => ?_)
  · obtain ⟨l, hi, lo, rfl, _⟩ := h
    all_goals rfl
  · obtain ⟨l, hi, lo, rfl, h1, h2, h3, q⟩ := h
    refine ⟨_, (pss_one (ps_ret (pe_slice sl_str (pv 0) (po_some (pe_op op_sub (pe_op op_sub (pe_callB call_len_str (by rfl) B.len PySem.boot_len (pa_cons (pv 0) pa_nil)) pe_int) (pv 1))) (po_some (pe_op op_sub (pe_callB call_len_str (by rfl) B.len PySem.boot_len (pa_cons (pv 0) pa_nil)) (pv 2)))))), ?_⟩
    have hlen : ∀ {σ' H1}, σ'[0]? = some (some (V.str (Tx l))) → Ev (tCB rLenT (tCons (tVar 0) tNil)) σ' H1 (.int (l.length : Int)) := fun h => ev_lenT (ev_var h) (by omega)
    refine s_ret (ev_is (ev_cutT (i := l.length - 1 - hi) (j := l.length - lo) (ev_var rfl) (eo_some (ev_is (ev_op (ev_op (hlen rfl) ev_c rv_I0) (ev_var rfl) rv_I0) ?_)) (eo_some (ev_is (ev_op (hlen rfl) (ev_var rfl) rv_I0) ?_)) (by omega) (by omega) (by omega)) ?_) q
    · congr 1
      omega
    · congr 1
      omega
    · unfold partS
      congr 3
      omega
theorem ok_operated {f f1 f2 f3 f4 f5 f6 f7 f8 f9 f10 f11 f12 f13 : Addr} {fd fd1 fd2 fd3 fd4 fd5 fd6 fd7 fd8 fd9 fd10 fd11 fd12 fd13 : FuncData} (F : FunD K "operated" "operated" (defArgs s_operated) (defBody s_operated) (defScope s_operated) [] [("high", .int 0), ("low", .int 0)] f fd) (B : Bi K w mg dA dT dG qa qo qx qv qm) (kd_not : KDct K w dA "not" (.ref f3)) (kd_and : KDct K w dA "and" (.ref f4)) (kd_or : KDct K w dA "or" (.ref f5)) (kd_xor : KDct K w dA "xor" (.ref f6)) (kd_plus : KDct K w dA "plus" (.ref f7)) (kd_same : KDct K w dA "same" (.ref f8)) (kd_less : KDct K w dA "less" (.ref f9)) (kd_any : KDct K w dA "any" (.ref f10)) (kd_all : KDct K w dA "all" (.ref f11)) (kd_pick : KDct K w dA "pick" (.ref f12)) (kd_join : KDct K w dA "join" (.ref f13)) (D_read : Df P w K mg base CX0 "read" 1 f1 fd1 ["value"] (spRead)) (D_part_value : Df P w K mg base CX0 "part_value" 1 f2 fd2 ["value", "high", "low"] (spPart)) (D_not_value : Df P w K mg base CX0 "not_value" 4 f3 fd3 ["value"] (spNot)) (D_and_value : Df P w K mg base CX0 "and_value" 4 f4 fd4 ["one", "other"] (spTwo 1)) (D_or_value : Df P w K mg base CX0 "or_value" 4 f5 fd5 ["one", "other"] (spTwo 2)) (D_xor_value : Df P w K mg base CX0 "xor_value" 3 f6 fd6 ["one", "other"] (spTwo 3)) (D_plus_value : Df P w K mg base CX0 "plus_value" 4 f7 fd7 ["one", "other"] (spTwoS plusS)) (D_same_value : Df P w K mg base CX0 "same_value" 4 f8 fd8 ["one", "other"] (spTwoS fun a b => [sameS a b])) (D_less_value : Df P w K mg base CX0 "less_value" 4 f9 fd9 ["one", "other"] (spTwoS fun a b => [lessS a b])) (D_any_value : Df P w K mg base CX0 "any_value" 1 f10 fd10 ["value"] (spOne anyS)) (D_all_value : Df P w K mg base CX0 "all_value" 4 f11 fd11 ["value"] (spOne allS)) (D_pick_value : Df P w K mg base CX0 "pick_value" 4 f12 fd12 ["choice", "one", "other"] (spPick)) (D_join_value : Df P w K mg base CX0 "join_value" 4 f13 fd13 ["one", "other"] (spJoin)) : FnOk P w K mg base CX0 (5) f fd ["word", "values", "high", "low"] (spOp K) := by
  refine F.ok sc_operated (fun vs H Q E h => ?_) (fun cdv A outer s H vs Q E hr h => ?_)
  · obtain ⟨word, a, ls, hi, lo, r, rfl, _⟩ := h
    all_goals rfl
  · obtain ⟨word, a, ls, hi, lo, r, rfl, hS, h8, ho, q⟩ := h
    have hcase : (word = Str.ofString "part" ∧ ∃ l, ∃ m n : Nat, ls = [l] ∧ hi = m ∧ lo = n ∧ n ≤ m ∧ m < l.length ∧ r = partS l m n) ∨ (word ≠ Str.ofString "part" ∧ ∃ fw spw, KDct K w dA word (.ref fw) ∧ Held P w K mg base 4 fw spw ∧ ∀ (H1 : Hp) (Q1 : VK), (∀ H2, Ex H1 H2 → Q1 (.str (Tx r)) H2) → spw (ls.map fun l => V.str (Tx l)) H1 Q1 (fun _ _ _ => False)) := by
      cases ho with
      | part l m n h1 h2 => exact .inl ⟨rfl, l, m, n, rfl, rfl, rfl, h1, h2, rfl⟩
      | pick c a b _ _ h => exact .inr ⟨by decide +kernel, f12, _, kd_pick, ⟨_, _, D_pick_value.ok.mono (by decide), D_pick_value.kp, D_pick_value.b⟩, fun H1 Q1 q1 => ⟨c, a, b, rfl, h, by have := (h8 a (by simp)).2; omega, q1⟩⟩
      | un wd1 l _ _ h0 =>
        have hl := h8 l (by simp)
        cases wd1 with
        | not => exact .inr ⟨w1_part .not, f3, _, kd_not, ⟨_, _, D_not_value.ok.mono (by decide), D_not_value.kp, D_not_value.b⟩, fun H1 Q1 q1 => ⟨l, rfl, hl.1, by have := hl.2; omega, q1⟩⟩
        | any => exact .inr ⟨w1_part .any, f10, _, kd_any, ⟨_, _, D_any_value.ok.mono (by decide), D_any_value.kp, D_any_value.b⟩, fun H1 Q1 q1 => ⟨l, rfl, q1⟩⟩
        | all => exact .inr ⟨w1_part .all, f11, _, kd_all, ⟨_, _, D_all_value.ok.mono (by decide), D_all_value.kp, D_all_value.b⟩, fun H1 Q1 q1 => ⟨l, rfl, q1⟩⟩
      | bi wd2 a b _ _ h0 h =>
        cases wd2 with
        | and =>
          have ha := h8 a (by simp)
          have hb := h8 b (by simp)
          have hl : a.length = b.length := h.resolve_right fun z => nomatch z.1
          exact .inr ⟨w2_part .and, f4, _, kd_and, ⟨_, _, D_and_value.ok.mono (by decide), D_and_value.kp, D_and_value.b⟩, fun H1 Q1 q1 => ⟨a, b, rfl, hl, by omega, q1⟩⟩
        | or =>
          have ha := h8 a (by simp)
          have hb := h8 b (by simp)
          have hl : a.length = b.length := h.resolve_right fun z => nomatch z.1
          exact .inr ⟨w2_part .or, f5, _, kd_or, ⟨_, _, D_or_value.ok.mono (by decide), D_or_value.kp, D_or_value.b⟩, fun H1 Q1 q1 => ⟨a, b, rfl, hl, by omega, q1⟩⟩
        | xor =>
          have ha := h8 a (by simp)
          have hb := h8 b (by simp)
          have hl : a.length = b.length := h.resolve_right fun z => nomatch z.1
          exact .inr ⟨w2_part .xor, f6, _, kd_xor, ⟨_, _, D_xor_value.ok.mono (by decide), D_xor_value.kp, D_xor_value.b⟩, fun H1 Q1 q1 => ⟨a, b, rfl, hl, by omega, q1⟩⟩
        | plus =>
          have ha := h8 a (by simp)
          have hb := h8 b (by simp)
          have hl : a.length = b.length := h.resolve_right fun z => nomatch z.1
          exact .inr ⟨w2_part .plus, f7, _, kd_plus, ⟨_, _, D_plus_value.ok.mono (by decide), D_plus_value.kp, D_plus_value.b⟩, fun H1 Q1 q1 => ⟨a, b, rfl, ha.1, hb.1, hl, ha.2, q1⟩⟩
        | same =>
          have ha := h8 a (by simp)
          have hb := h8 b (by simp)
          have hl : a.length = b.length := h.resolve_right fun z => nomatch z.1
          exact .inr ⟨w2_part .same, f8, _, kd_same, ⟨_, _, D_same_value.ok.mono (by decide), D_same_value.kp, D_same_value.b⟩, fun H1 Q1 q1 => ⟨a, b, rfl, ha.1, hb.1, hl, ha.2, q1⟩⟩
        | less =>
          have ha := h8 a (by simp)
          have hb := h8 b (by simp)
          have hl : a.length = b.length := h.resolve_right fun z => nomatch z.1
          exact .inr ⟨w2_part .less, f9, _, kd_less, ⟨_, _, D_less_value.ok.mono (by decide), D_less_value.kp, D_less_value.b⟩, fun H1 Q1 q1 => ⟨a, b, rfl, ha.1, hb.1, hl, ha.2, q1⟩⟩
        | join =>
          have ha := h8 a (by simp)
          have hb := h8 b (by simp)
          exact .inr ⟨w2_part .join, f13, _, kd_join, ⟨_, _, D_join_value.ok.mono (by decide), D_join_value.kp, D_join_value.b⟩, fun H1 Q1 q1 => ⟨a, b, rfl, by omega, q1⟩⟩
    have hz : ls.length ≤ 40000 := by have := ho.len; omega
    have hlc : ∀ {σ' : L2.St}, σ'[1]? = some (some (.ref a)) → (∀ x, wipe ((wipe σ' [6]).set 6 (some x)) [6] = wipe σ' [6]) → (∀ l : List Nat, ((wipe σ' [6]).set 6 (some (V.str (Tx l))))[6]? = some (some (V.str (Tx l)))) → EvL (tLc (iList K (tVar 1)) (gName 6) tYes (tCall spRead [] E0 (tCons (tVar 6) tNil)) [6]) σ' H (ls.map fun l => V.str (Tx l)) := fun h1 h2 h3 => by
      rw [show (ls.map fun l => V.str (Tx l)) = ((ls.map fun l => l.map rd).map fun l => V.str (Tx l)) by rw [rd_ids h8], List.map_map]
      exact el_lcV _ (ev_var h1) hS hz h2 fun l H1 _ hm => ev_call (ea_cons (ev_var (h3 l)) ea_nil) (spv_read (by have := (h8 l hm).2; omega))
    rcases hcase with ⟨hw, l, m, n, rfl, rfl, rfl, h1, h2, rfl⟩ | ⟨hw, fw, spw, kd, hH, hq⟩
    · have hA : ∀ f sp, (fun _ : Addr => (none : Option Sp)) f = some sp → Held P w K mg base 4 f sp := fun f sp h => by cases h
      generalize hS0 : (fun _ : Addr => (none : Option Sp)) = S at hA
      refine ⟨_, (pss_cons (ps_setLc (i := 4) (own := [("value", 6)]) (g := gName 6) (tt := tYes) (by rfl) sc_operated.nd rfl rfl (sw_true rfl rfl rfl (by decide +kernel)) (pi_list (pv 1)) (blkOk_by (own := [("value", 6)]) (N := N_operated) (sc := defScope s_operated) (by decide +kernel)) (fun _ _ _ _ _ => pg_name (i := 6) sc_operated.nd rfl (Or.inl rfl)) (fun _ _ _ _ _ => pts_nil) (fun _ _ _ _ _ => (pe_call D_read.ok (hr.mono (by decide)) (by rfl) D_read.g D_read.kp D_read.b .nil pass0 (pa_cons (pv 6) pa_nil))))
      (pss_cons (ps_if (pt_cmpR op_eq (pv 0) pe_str (nomark _)) (pss_one (ps_ret (pe_call D_part_value.ok (hr.mono (by decide)) (by rfl) D_part_value.g D_part_value.kp D_part_value.b .nil pass0 (pa_cons (pe_ix ix_list (pv 4) pe_int (fun _ _ => rfl)) (pa_cons (pv 2) (pa_cons (pv 3) pa_nil)))))) pss_nil)
      (pss_cons (ps_set (i := 5) sc_operated.nd rfl (Or.inl rfl) (pe_ix ix_kdict (pgl (by rfl) B.c_ACTIONS) (pv 0) (fun _ _ => rfl)))
      (pss_one (ps_ret (pe_callLS (i := 5) (S := S) hA (hr.mono (by decide)) rfl (Or.inl rfl) (pv 4))))))), ?_⟩
      refine q_asgL (hlc rfl (fun x => rfl) (fun l => rfl)) fun p H1 np e1 hp => ?_
      refine q_when (b := true) (et_is (et_test (ev_op (ev_var rfl) ev_c (rv_eq rfl))) (by rw [hw]; rfl)) (fun _ H2 e2 => ?_) (fun hb => by cases hb)
      refine s_ret (ev_call (ea_cons (ev_op (ev_var rfl) ev_c (rv_ixL (sq_of (e2 _ _ hp)) (atI_nat (j := 0) rfl))) (ea_cons (ev_var rfl) (ea_cons (ev_var rfl) ea_nil))) (spv_part (l := l) h1 h2 (by have := (h8 l (by simp)).2; omega))) fun H3 e3 => q H3 ((e1.trans e2).trans e3)
    · have hA : ∀ f sp, (fun f : Addr => if f = fw then some spw else (none : Option Sp)) f = some sp → Held P w K mg base 4 f sp := fun f sp h => by
        by_cases e : f = fw
        · rw [show (fun f : Addr => if f = fw then some spw else (none : Option Sp)) f = some spw from if_pos e] at h
          cases h
          rw [e]
          exact hH
        · rw [show (fun f : Addr => if f = fw then some spw else (none : Option Sp)) f = none from if_neg e] at h
          cases h
      generalize hS0 : (fun f : Addr => if f = fw then some spw else (none : Option Sp)) = S at hA
      refine ⟨_, (pss_cons (ps_setLc (i := 4) (own := [("value", 6)]) (g := gName 6) (tt := tYes) (by rfl) sc_operated.nd rfl rfl (sw_true rfl rfl rfl (by decide +kernel)) (pi_list (pv 1)) (blkOk_by (own := [("value", 6)]) (N := N_operated) (sc := defScope s_operated) (by decide +kernel)) (fun _ _ _ _ _ => pg_name (i := 6) sc_operated.nd rfl (Or.inl rfl)) (fun _ _ _ _ _ => pts_nil) (fun _ _ _ _ _ => (pe_call D_read.ok (hr.mono (by decide)) (by rfl) D_read.g D_read.kp D_read.b .nil pass0 (pa_cons (pv 6) pa_nil))))
      (pss_cons (ps_if (pt_cmpR op_eq (pv 0) pe_str (nomark _)) (pss_one (ps_ret (pe_call D_part_value.ok (hr.mono (by decide)) (by rfl) D_part_value.g D_part_value.kp D_part_value.b .nil pass0 (pa_cons (pe_ix ix_list (pv 4) pe_int (fun _ _ => rfl)) (pa_cons (pv 2) (pa_cons (pv 3) pa_nil)))))) pss_nil)
      (pss_cons (ps_set (i := 5) sc_operated.nd rfl (Or.inl rfl) (pe_ix ix_kdict (pgl (by rfl) B.c_ACTIONS) (pv 0) (fun _ _ => rfl)))
      (pss_one (ps_ret (pe_callLS (i := 5) (S := S) hA (hr.mono (by decide)) rfl (Or.inl rfl) (pv 4))))))), ?_⟩
      refine q_asgL (hlc rfl (fun x => rfl) (fun l => rfl)) fun p H1 np e1 hp => ?_
      refine q_when (b := false) (et_is (et_test (ev_op (ev_var rfl) ev_c (rv_eq rfl))) (decide_eq_false fun z => hw (V.str.inj z))) (fun hb => by cases hb) (fun _ H2 e2 => ?_)
      refine q_asg (ev_kd ev_c (ev_var rfl) kd) fun H3 e3 => ?_
      exact ⟨fw, spw, rfl, by rw [← hS0]; exact if_pos rfl, _, rfl, p, _, rfl, .inr (sq_of ((e2.trans e3) _ _ hp)), hq H3 _ fun H4 e4 => q H4 (((e1.trans e2).trans e3).trans e4)⟩
theorem ok_arguments_of {f  : Addr} {fd  : FuncData} (F : Fun K "arguments_of" "arguments_of" s_arguments_of f fd) (B : Bi K w mg dA dT dG qa qo qx qv qm)   : FnOk P w K mg base CX0 (1) f fd ["term"] (spArgs) := by
  refine F.ok sc_arguments_of (fun vs H Q E h => ?_) (fun cdv A outer s H vs Q E hr h => ?_)
  · obtain ⟨a, wd, us, es, rfl, _⟩ := h
    all_goals rfl
  · obtain ⟨a, wd, us, es, rfl, hA, hw, hz, q⟩ := h
    refine ⟨_, (pss_cons (ps_if (PW.pt (pw_or (pt_cmpR op_eq (pe_ix ix_tup (pv 0) pe_int (fun _ _ => rfl)) pe_str (nomark _)) (pw_or1 (pt_cmpR op_eq (pe_ix ix_tup (pv 0) pe_int (fun _ _ => rfl)) pe_str (nomark _))))) (pss_one (ps_ret (pe_lst pa_nil))) pss_nil)
      (pss_one (ps_ret (pe_callTy call_list_of (by rfl) B.list (by decide +kernel) (pa_cons (pe_slice sl_tup (pv 0) (po_some pe_int) (po_some (pe_op op_add pe_int (pe_ix ix_kdict (pgl (by rfl) B.c_ARGUMENTS) (pe_ix ix_tup (pv 0) pe_int (fun _ _ => rfl)) (fun _ _ => rfl))))) pa_nil))))), ?_⟩
    obtain ⟨n1, n2⟩ := argN_ok _ hw
    have h0 : ∀ H1, Ex H H1 → SqT K H1 a (V.str wd :: (us ++ es)) := fun H1 e => st_of (e _ _ hA)
    have ev0 : ∀ {σ' : L2.St} {H1 : Hp}, σ'[0]? = some (some (.ref a)) → Ex H H1 → Ev (tOp (rIxT K) (tVar 0) (tC (.int 0))) σ' H1 (.str wd) := fun h e => ev_op (ev_var h) ev_c (rv_ixT (h0 _ e) (atI_nat (j := 0) rfl))
    refine q_when (b := false) (et_is (et_or (et_test (ev_op (ev0 rfl (Ex.refl _)) ev_c (rv_eq rfl))) fun _ => et_test (ev_op (ev0 rfl (Ex.refl _)) ev_c (rv_eq rfl))) ?_) (fun hb => by cases hb) (fun _ H1 e1 => ?_)
    · rw [decide_eq_false fun z => n1 (V.str.inj z), decide_eq_false fun z => n2 (V.str.inj z)]
      rfl
    · refine s_retL (xs := us) (fun H2 e2 Q2 q2 => ?_) fun g H2 ng e2 h2 => q g H2 (fresh_back e1 ng) (e1.trans e2) h2
      have hk : Ev (tOp (rI0 fun i j => .int (i + j)) (tC (.int 1)) (tOp (rIxD K w) (tC (.ref dG)) (tOp (rIxT K) (tVar 0) (tC (.int 0))))) [some (.ref a)] H2 (.int (1 + (us.length : Int))) := ev_op ev_c (ev_kd ev_c (ev0 rfl (e1.trans e2)) (B.x_args _ hw)) rv_I0
      refine ⟨_, rfl, _, rfl, ?_⟩
      refine hk H2 (Ex.refl _) _ fun H3 e3 => ?_
      refine ⟨_, rfl, a, _, rfl, h0 H3 ((e1.trans e2).trans e3), ?_, fun t ht => ?_⟩
      · intro z
        have := z.1
        unfold HT.sIx at this
        simp at this
      · rw [cut_args]
        refine ⟨t, us, rfl, .inr (st_of upd_same), fun l hl => ?_⟩
        exact q2 l _ (fresh_back (e3.trans (Ex.new ht)) hl) ((e3.trans (Ex.new ht)).trans (Ex.new hl)) upd_same
theorem ok_value_of_term {f f1 f2 f3 : Addr} {fd fd1 fd2 fd3 fd4 : FuncData} (F : Fun K "value_of_term" "value_of_term" s_value_of_term f fd) (B : Bi K w mg dA dT dG qa qo qx qv qm) {n k : Nat} (hk : 5 ≤ k) (D_read : Df P w K mg base CX0 "read" 1 f1 fd1 ["value"] (spRead)) (D_arguments_of : Df P w K mg base CX0 "arguments_of" 1 f2 fd2 ["term"] (spArgs)) (D_operated : DfD P w K mg base CX0 "operated" 5 f3 fd3 ["word", "values", "high", "low"] (spOp K)) {ds_operated : List Value} (b0_operated : Binds K fd3 ["word", "values", "high", "low"] ds_operated) (v0_operated : Vals [.int 0, .int 0] ds_operated) {gk_operated_high_low : List Value → List Value → List Value} (kb_operated_high_low : KBn K fd3 ["word", "values", "high", "low"] 2 ["high", "low"] gk_operated_high_low (fun vs zs => vs ++ zs)) (D_value_of_term : Df P w K mg base CX0 "value_of_term" (k) f4 fd4 ["term", "values"] (spVT n)) : FnOk P w K mg base CX0 (k + 1) f fd ["term", "values"] (spVT (n + 1)) := by
  refine F.ok sc_value_of_term (fun vs H Q E h => ?_) (fun cdv A outer s H vs Q E hr h => ?_)
  · obtain ⟨v, d, t, m, ws, E', rfl, _⟩ := h
    all_goals rfl
  · obtain ⟨v, d, t, m, ws, E', rfl, hT, hd, hw, hok, he, hE, q⟩ := h
    refine ⟨_, (pss_cons (ps_if (pt_cmpR op_eq (pe_ix ix_tup (pv 0) pe_int (fun _ _ => rfl)) pe_str (nomark _)) (pss_one (ps_ret (pe_ix ix_tup (pv 0) pe_int (fun _ _ => rfl)))) pss_nil)
      (pss_cons (ps_if (pt_cmpR op_eq (pe_ix ix_tup (pv 0) pe_int (fun _ _ => rfl)) pe_str (nomark _)) (pss_one (ps_ret (pe_call D_read.ok (hr.mono (by omega)) (by rfl) D_read.g D_read.kp D_read.b .nil pass0 (pa_cons (pe_dget (hu_of hr) (pv 1) (pe_ix ix_tup (pv 0) pe_int (fun _ _ => rfl)) (fun _ _ => rfl)) pa_nil)))) pss_nil)
      (pss_cons (ps_setLc (i := 2) (own := [("argument", 3)]) (g := gName 3) (tt := tYes) (by rfl) sc_value_of_term.nd rfl rfl (sw_true rfl rfl rfl (by decide +kernel)) (pi_list (pe_call D_arguments_of.ok (hr.mono (by omega)) (by rfl) D_arguments_of.g D_arguments_of.kp D_arguments_of.b .nil pass0 (pa_cons (pv 0) pa_nil))) (blkOk_by (own := [("argument", 3)]) (N := N_value_of_term) (sc := defScope s_value_of_term) (by decide +kernel)) (fun _ _ _ _ _ => pg_name (i := 3) sc_value_of_term.nd rfl (Or.inl rfl)) (fun _ _ _ _ _ => pts_nil) (fun _ _ _ _ _ => (pe_call D_value_of_term.ok (hr.mono (by omega)) (by rfl) D_value_of_term.g D_value_of_term.kp D_value_of_term.b .nil pass0 (pa_cons (pv 3) (pa_cons (pv 1) pa_nil)))))
      (pss_cons (ps_if (pt_cmpR op_eq (pe_ix ix_tup (pv 0) pe_int (fun _ _ => rfl)) pe_str (nomark _)) (pss_one (ps_ret (pe_callN D_operated.ok (hr.mono (by omega)) (by rfl) D_operated.g D_operated.kp kb_operated_high_low pass0 (pa_cons pe_str (pa_cons (pv 2) pa_nil)) (pk_cons (pe_ix ix_tup (pv 0) pe_int (fun _ _ => rfl)) (pk_cons (pe_ix ix_tup (pv 0) pe_int (fun _ _ => rfl)) pk_nil))))) pss_nil)
      (pss_one (ps_ret (pe_call D_operated.ok (hr.mono (by omega)) (by rfl) D_operated.g D_operated.kp b0_operated v0_operated pass0 (pa_cons (pe_ix ix_tup (pv 0) pe_int (fun _ _ => rfl)) (pa_cons (pv 2) pa_nil))))))))), ?_⟩
    cases hlf : leafy t with
    | true =>
      cases t with
      | is l =>
        obtain ⟨a, rfl, ha⟩ := hT
        refine q_when (b := true) (et_is (et_test (ev_op (ev_op (ev_var rfl) ev_c (rv_ixT (st_of ha) (atI_nat (j := 0) rfl))) ev_c (rv_eq rfl))) (decide_eq_true rfl)) (fun _ H1 e1 => ?_) (fun hb => by cases hb)
        exact s_ret (ev_op (ev_var rfl) ev_c (rv_ixT (st_of (e1 _ _ ha)) (atI_nat (j := 1) rfl))) fun H2 e2 => q H2 (e1.trans e2)
      | of x =>
        obtain ⟨a, rfl, ha⟩ := hT
        obtain ⟨kvs, hkv, hE2⟩ := hE
        refine q_when (b := false) (et_is (et_test (ev_op (ev_op (ev_var rfl) ev_c (rv_ixT (st_of ha) (atI_nat (j := 0) rfl))) ev_c (rv_eq rfl))) (by decide +kernel)) (fun hb => by cases hb) (fun _ H1 e1 => ?_)
        refine q_when (b := true) (et_is (et_test (ev_op (ev_op (ev_var rfl) ev_c (rv_ixT (st_of (e1 _ _ ha)) (atI_nat (j := 0) rfl))) ev_c (rv_eq rfl))) (decide_eq_true rfl)) (fun _ H2 e2 => ?_) (fun hb => by cases hb)
        have hx := he (x, m) hw
        have h8 := (hok.2 (x, m) hw).2.1
        exact s_ret (ev_call (ea_cons (ev_dget (ev_var rfl) (ev_op (ev_var rfl) ev_c (rv_ixT (st_of ((e1.trans e2) _ _ ha)) (atI_nat (j := 1) rfl))) (.inl ((e1.trans e2) _ _ hkv)) (hE2 (x, m) hw)) ea_nil) (spv_read (by
          have := hx.2
          simp only at this h8
          omega))) fun H3 e3 => q H3 ((e1.trans e2).trans e3)
      | un w a => cases hlf
      | bi w a b => cases hlf
      | pick c a b => cases hlf
      | part a hi lo => cases hlf
    | false =>
      obtain ⟨a, us, rfl, ha, hk⟩ := hT.open hlf
      have harg := kids_arg hlf
      have hlen := hk.len
      rw [hlen] at harg
      obtain ⟨n1, n2⟩ := argN_ok _ harg
      have k3l := kids_len t
      have e2l := ends_len t
      have ev0 : ∀ {σ' : L2.St} {H1 : Hp}, σ'[0]? = some (some (.ref a)) → Ex H H1 → Ev (tOp (rIxT K) (tVar 0) (tC (.int 0))) σ' H1 (.str (wordOf t)) := fun h e => ev_op (ev_var h) ev_c (rv_ixT (st_of (e _ _ ha)) (atI_nat (j := 0) rfl))
      refine q_when (b := false) (et_is (et_test (ev_op (ev0 rfl (Ex.refl _)) ev_c (rv_eq rfl))) (decide_eq_false fun z => n1 (V.str.inj z))) (fun hb => by cases hb) (fun _ H1 e1 => ?_)
      refine q_when (b := false) (et_is (et_test (ev_op (ev0 rfl e1) ev_c (rv_eq rfl))) (decide_eq_false fun z => n2 (V.str.inj z))) (fun hb => by cases hb) (fun _ H2 e2 => ?_)
      have x2 := e1.trans e2
      refine q_asgL (xs := ((kids t).map (val E')).map fun l => V.str (Tx l)) ?_ fun g H3 ng e3 hg => ?_
      · rw [List.map_map, ← given_all (kids t) default ((fun l => V.str (Tx l)) ∘ val E'), hlen]
        refine el_lcNL (fun _ => true) (fun i => ((fun l => V.str (Tx l)) ∘ val E') ((kids t).getD i default)) (el_call (ea_cons (ev_var rfl) ea_nil) (spl_args (x2 _ _ ha) harg (by omega))) (by omega) (fun x => rfl) (fun i x H4 e4 hi => et_yes) (fun i x H4 e4 hi _ => ?_)
        obtain ⟨s, hs, hst⟩ := hk.at hi
        have hsm := List.mem_of_getElem? hs
        rw [show (kids t).getD i default = s by rw [List.getD_eq_getElem?_getD, hs]; rfl]
        obtain ⟨m2, hm2⟩ := hw.kids hok s hsm
        have hds := dep_kids hsm
        exact ev_call (ea_cons (ev_var rfl) (ea_cons (ev_var rfl) ea_nil)) (spv_vt (hst.ex (x2.trans e4)) (by omega) hm2 hok he (hE.ex (x2.trans e4)))
      · have ho := op_of hok he hw hlf
        have hko := kids_ok hok he hw
        have x3 := x2.trans e3
        rcases part_word hlf with ⟨s, hi, lo, rfl⟩ | ⟨np, e1', e2'⟩
        · refine q_when (b := true) (et_is (et_test (ev_op (ev0 rfl x3) ev_c (rv_eq rfl))) (decide_eq_true rfl)) (fun _ H4 e4 => ?_) (fun hb => by cases hb)
          have hus : ∃ u, us = [u] := by
            match us, hlen with
            | [u], _ => exact ⟨u, rfl⟩
          obtain ⟨u, rfl⟩ := hus
          refine s_ret (ev_callN (zs := [.int (hi : Int), .int (lo : Int)]) (ea_cons ev_c (ea_cons (ev_var rfl) ea_nil)) (ea_cons (ev_op (ev_var rfl) ev_c (rv_ixT (st_of ((x3.trans e4) _ _ ha)) (atI_nat (j := 2) rfl))) (ea_cons (ev_op (ev_var rfl) ev_c (rv_ixT (st_of ((x3.trans e4) _ _ ha)) (atI_nat (j := 3) rfl))) ea_nil)) rfl rfl (spv_op (sq_of (e4 _ _ hg)) hko ho)) fun H5 e5 => q H5 ((x3.trans e4).trans e5)
        · refine q_when (b := false) (et_is (et_test (ev_op (ev0 rfl x3) ev_c (rv_eq rfl))) (decide_eq_false fun z => np (V.str.inj z))) (fun hb => by cases hb) (fun _ H4 e4 => ?_)
          rw [e1', e2'] at ho
          exact s_ret (ev_call (ea_cons (ev0 rfl (x3.trans e4)) (ea_cons (ev_var rfl) ea_nil)) (spv_op (sq_of (e4 _ _ hg)) hko ho)) fun H5 e5 => q H5 ((x3.trans e4).trans e5)
theorem ok_mixed_values {f f1 : Addr} {fd fd1 : FuncData} (F : Fun K "mixed_values" "mixed_values" s_mixed_values f fd) (B : Bi K w mg dA dT dG qa qo qx qv qm)  (D_mixed : Df P w K mg base CX0 "mixed" 2 f1 fd1 ["one", "other"] (spMixed)) : FnOk P w K mg base CX0 (3) f fd ["choice", "one", "other", "values"] (spMixV) := by
  refine F.ok sc_mixed_values (fun vs H Q E h => ?_) (fun cdv A outer s H vs Q E hr h => ?_)
  · obtain ⟨c, a, b, d, A, Bs, ws, E', rfl, _⟩ := h
    all_goals rfl
  · obtain ⟨c, a, b, d, A, Bs, ws, E', rfl, hA, hB, sc, sA, sB, q⟩ := h
    refine ⟨_, (pss_cons (ps_set (i := 4) sc_mixed_values.nd rfl (Or.inl rfl) (pe_merge2 (pv 1) (pv 2)))
      (pss_one (ps_ret (pe_lock (pe_dc (own := [("name", 5)]) (g := gName 5) (tt := tYes) (by rfl) sc_mixed_values.nd (pi_keys (pv 4)) (blkOk_by (own := [("name", 5)]) (N := N_mixed_values) (sc := defScope s_mixed_values) (by decide +kernel)) (fun _ _ _ _ _ => pg_name (i := 5) sc_mixed_values.nd rfl (Or.inl rfl)) (fun _ _ _ _ _ => pts_nil) (fun _ _ _ _ _ => (pv 5)) (fun _ _ _ _ _ => (pe_call D_mixed.ok (hr.mono (by decide)) (by rfl) D_mixed.g D_mixed.kp D_mixed.b .nil pass0 (pa_cons (pe_dget2 (hu_of hr) (pv 1) (pv 5) (pe_dget (hu_of hr) (pv 3) (pv 5) (fun _ _ => rfl)) ⟨rfl, rfl, rfl, rfl⟩) (pa_cons (pe_dget2 (hu_of hr) (pv 2) (pv 5) (pe_dget (hu_of hr) (pv 3) (pv 5) (fun _ _ => rfl)) ⟨rfl, rfl, rfl, rfl⟩) pa_nil))))))))), ?_⟩
    obtain ⟨vl, hd, hvn, hvl, hE⟩ := sc.vl
    have zA := sA.len
    have zB := sB.len
    have zw := sc.sz
    refine q_asgDk (em_merge (ev_var rfl) (ev_var rfl) hA hB sA.1 (by omega) (by omega)) fun p H1 np e1 hp => ?_
    have hnd := mrg_nd Bs A sA.1
    have hml : (mrgY A Bs).length ≤ ws.length := by
      have := nodup_le (l := (mrgY A Bs).map (·.1)) (m := ws.map (·.1)) hnd fun x hx => by
        obtain ⟨z, hz, rfl⟩ := List.mem_map.mp hx
        rcases mrg_mem Bs A z hz with h1 | h1
        · obtain ⟨m, h2, _⟩ := sA.2 z h1
          exact List.mem_map.mpr ⟨_, h2, rfl⟩
        · obtain ⟨m, h2, _⟩ := sB.2 z h1
          exact List.mem_map.mpr ⟨_, h2, rfl⟩
      rw [List.length_map, List.length_map] at this
      exact this
    refine s_retDk (ed_lockDc (f := fun y => List.zipWith mixS ((getY A y.1).getD (E' y.1)) ((getY Bs y.1).getD (E' y.1))) hp (fun _ => ev_var rfl) hnd (by omega) (fun x => rfl) (fun x => rfl) (fun y H2 hy xu hf => ?_)) fun r H2 nr e2 hr => q r H2 (fresh_back e1 nr) (e1.trans e2) hr
    have keep : ∀ a o, a ≠ p → H1 a = some o → H2 a = some o := fun a o na ha => by
      have := xu _ _ ha
      rw [upd_ne na] at this
      exact this
    have ne : ∀ {a o}, H a = some o → a ≠ p := fun ha z => by rw [z, np] at ha; cases ha
    have hA2 := keep _ _ (ne hA) (e1 _ _ hA)
    have hB2 := keep _ _ (ne hB) (e1 _ _ hB)
    have hd2 := keep _ _ (ne hd) (e1 _ _ hd)
    obtain ⟨m, hm⟩ : ∃ m, (y.1, m) ∈ ws := by
      rcases mrg_mem Bs A y hy with h1 | h1
      · obtain ⟨m, h2, _⟩ := sA.2 y h1
        exact ⟨m, h2⟩
      · obtain ⟨m, h2, _⟩ := sB.2 y h1
        exact ⟨m, h2⟩
    have l1 := env_ov sc.ok sc.en sA _ hm
    have l2 := env_ov sc.ok sc.en sB _ hm
    have h8 := (sc.ok.2 _ hm).2.1
    unfold ovE at l1 l2
    have hv : valV (ysK vl) (Sum.inr y.1 : Key) = some (.str (Tx (E' y.1))) := by rw [ysK_val, hE _ hm]; rfl
    exact ev_call (ea_cons (ev_get2 (ev_var rfl) (.inl hA2) (ev_var rfl) (ev_dget (ev_var rfl) (ev_var rfl) (.inl hd2) hv)) (ea_cons (ev_get2 (ev_var rfl) (.inl hB2) (ev_var rfl) (ev_dget (ev_var rfl) (ev_var rfl) (.inl hd2) hv)) ea_nil)) (spv_mixed (by rw [l1.2, l2.2]) (by rw [l1.2]; simp only at h8 ⊢; omega))
theorem ok_behind_if {f f3 : Addr} {fd fd1 fd2 fd3 : FuncData} (F : Fun K "behind_if" "behind_if" s_behind_if f fd) (B : Bi K w mg dA dT dG qa qo qx qv qm) {n k : Nat} (hk : 17 ≤ k) (D_value_of_term : Df P w K mg base CX0 "value_of_term" 17 qv fd1 ["term", "values"] (spVT 11)) (D_mixed_values : Df P w K mg base CX0 "mixed_values" 3 qm fd2 ["choice", "one", "other", "values"] (spMixV)) (D_behind_body : Df P w K mg base CX0 "behind_body" (k) f3 fd3 ["body", "values", "ahead", "told", "chosen"] (spBB qv qm n)) : FnOk P w K mg base CX0 (k + 1) f fd ["statement", "values", "ahead", "told", "chosen"] (spBI qv qm n) := by
  refine F.ok sc_behind_if (fun vs H Q E h => ?_) (fun cdv A outer s H vs Q E hr h => ?_)
  · obtain ⟨st, dv, ah, v, p, q', ua, ub, t, a, b, ws, E', st2, rfl, _⟩ := h
    all_goals rfl
  · obtain ⟨st, dv, ah, v, p, q', ua, ub, t, a, b, ws, E', st2, rfl, hst, hT, hp, hA, hq, hB, na, nb, za, zb, hw, wa, wb, sc, hah, hs, q⟩ := h
    have hA1 : ∀ f sp, (fun f : Addr => if f = qv then some (spVT 11) else (none : Option Sp)) f = some sp → Held P w K mg base 17 f sp := fun f sp h => by
      by_cases e : f = qv
      · rw [show (fun f : Addr => if f = qv then some (spVT 11) else (none : Option Sp)) f = some (spVT 11) from if_pos e] at h
        cases h
        rw [e]
        exact ⟨_, _, D_value_of_term.ok, D_value_of_term.kp, D_value_of_term.b⟩
      · rw [show (fun f : Addr => if f = qv then some (spVT 11) else (none : Option Sp)) f = none from if_neg e] at h
        cases h
    generalize hS1 : (fun f : Addr => if f = qv then some (spVT 11) else (none : Option Sp)) = S1 at hA1

    have hA2 : ∀ f sp, (fun f : Addr => if f = qm then some spMixV else (none : Option Sp)) f = some sp → Held P w K mg base 17 f sp := fun f sp h => by
      by_cases e : f = qm
      · rw [show (fun f : Addr => if f = qm then some spMixV else (none : Option Sp)) f = some spMixV from if_pos e] at h
        cases h
        rw [e]
        exact ⟨_, _, D_mixed_values.ok.mono (by decide), D_mixed_values.kp, D_mixed_values.b⟩
      · rw [show (fun f : Addr => if f = qm then some spMixV else (none : Option Sp)) f = none from if_neg e] at h
        cases h
    generalize hS2 : (fun f : Addr => if f = qm then some spMixV else (none : Option Sp)) = S2 at hA2

    refine ⟨_, (pss_cons (ps_asg (pv 0) (pg_tup rfl (pgs_cons (pg_name (i := 8) sc_behind_if.nd rfl (Or.inl rfl)) (pgs_cons (pg_name (i := 9) sc_behind_if.nd rfl (Or.inl rfl)) (pgs_cons (pg_name (i := 10) sc_behind_if.nd rfl (Or.inl rfl)) (pgs_cons (pg_name (i := 11) sc_behind_if.nd rfl (Or.inl rfl)) pgs_nil))))))
      (pss_cons (ps_set (i := 5) sc_behind_if.nd rfl (Or.inl rfl) (pe_callA (i := 3) (S := S1) hA1 (hr.mono (by omega)) rfl (Or.inl rfl) (pa_cons (pv 9) (pa_cons (pe_merge2 (pv 1) (pe_ix ix_tup (pv 2) pe_int (fun _ _ => rfl))) pa_nil))))
      (pss_cons (ps_if (pt_cmpR op_eq (pv 5) pe_str (nomark _)) (pss_one (ps_ret (pe_call D_behind_body.ok (hr.mono (by omega)) (by rfl) D_behind_body.g D_behind_body.kp D_behind_body.b .nil pass0 (pa_cons (pv 10) (pa_cons (pv 1) (pa_cons (pv 2) (pa_cons (pv 3) (pa_cons (pv 4) pa_nil)))))))) pss_nil)
      (pss_cons (ps_if (pt_cmpR op_eq (pv 5) pe_str (nomark _)) (pss_one (ps_ret (pe_call D_behind_body.ok (hr.mono (by omega)) (by rfl) D_behind_body.g D_behind_body.kp D_behind_body.b .nil pass0 (pa_cons (pv 11) (pa_cons (pv 1) (pa_cons (pv 2) (pa_cons (pv 3) (pa_cons (pv 4) pa_nil)))))))) pss_nil)
      (pss_cons (ps_set (i := 6) sc_behind_if.nd rfl (Or.inl rfl) (pe_call D_behind_body.ok (hr.mono (by omega)) (by rfl) D_behind_body.g D_behind_body.kp D_behind_body.b .nil pass0 (pa_cons (pv 10) (pa_cons (pv 1) (pa_cons (pv 2) (pa_cons (pv 3) (pa_cons (pv 4) pa_nil)))))))
      (pss_cons (ps_set (i := 7) sc_behind_if.nd rfl (Or.inl rfl) (pe_call D_behind_body.ok (hr.mono (by omega)) (by rfl) D_behind_body.g D_behind_body.kp D_behind_body.b .nil pass0 (pa_cons (pv 11) (pa_cons (pv 1) (pa_cons (pv 2) (pa_cons (pv 3) (pa_cons (pv 4) pa_nil)))))))
      (pss_one (ps_ret (pe_tup (pa_cons (pe_callA (i := 4) (S := S2) hA2 (hr.mono (by omega)) rfl (Or.inl rfl) (pa_cons (pv 5) (pa_cons (pe_ix ix_tup (pv 6) pe_int (fun _ _ => rfl)) (pa_cons (pe_ix ix_tup (pv 7) pe_int (fun _ _ => rfl)) (pa_cons (pv 1) pa_nil))))) (pa_cons (pe_callA (i := 4) (S := S2) hA2 (hr.mono (by omega)) rfl (Or.inl rfl) (pa_cons (pv 5) (pa_cons (pe_ix ix_tup (pv 6) pe_int (fun _ _ => rfl)) (pa_cons (pe_ix ix_tup (pv 7) pe_int (fun _ _ => rfl)) (pa_cons (pv 1) pa_nil))))) pa_nil))))))))))), ?_⟩
    obtain ⟨dn, dl, hah1, hdn, hdl⟩ := id hah
    refine ⟨_, rfl, st, _, rfl, st_of hst, rfl, _, _, rfl, _, _, rfl, _, _, rfl, _, _, rfl, rfl, ?_⟩
    have hv := val_ok (env_ov sc.ok sc.en hs.1) hw.1
    refine q_asg (v := .str (Tx (val (ovE E' st2.1) t))) (ev_told rfl (by rw [← hS1]; exact if_pos rfl) (ev_var rfl) hT hw.2 hw.1 sc (ev_var rfl) (ev_op (ev_var rfl) ev_c (rv_ixT (st_of hah1) (atI_nat (j := 0) rfl))) hdn hs.1) fun H1 e1 => ?_
    refine q_when (b := decide (val (ovE E' st2.1) t = [49])) (et_test (ev_eqT (ev_var rfl) ec_1)) (fun hb H2 e2 => ?_) (fun hb H2 e2 => ?_)
    · have hb := of_decide_eq_true hb
      have x2 := e1.trans e2
      refine ⟨_, rfl, _, rfl, _, rfl, _, rfl, _, rfl, p, dv, ah, ua, a, ws, E', st2, rfl, x2 _ _ hp, hA.ex x2, na, za, wa, sc.ex x2, hah.ex x2, hs, fun r H3 e3 ho => ?_⟩
      refine q r H3 (x2.trans e3) ?_
      rw [show condB E' t a b st2 = doneB E' a st2 from if_pos hb]
      exact ho.back x2
    have hb1 := of_decide_eq_false hb
    refine q_when (b := decide (val (ovE E' st2.1) t = [48])) (et_test (ev_eqT (ev_var rfl) ec_0)) (fun hb H3 e3 => ?_) (fun hb H3 e3 => ?_)
    · have hb := of_decide_eq_true hb
      have x3 := e1.trans (e2.trans e3)
      refine ⟨_, rfl, _, rfl, _, rfl, _, rfl, _, rfl, q', dv, ah, ub, b, ws, E', st2, rfl, x3 _ _ hq, hB.ex x3, nb, zb, wb, sc.ex x3, hah.ex x3, hs, fun r H4 e4 ho => ?_⟩
      refine q r H4 (x3.trans e4) ?_
      rw [show condB E' t a b st2 = doneB E' b st2 from (if_neg hb1).trans (if_pos hb)]
      exact ho.back x3
    have hb2 := of_decide_eq_false hb
    have x3 := e1.trans (e2.trans e3)
    refine ⟨_, rfl, _, rfl, _, rfl, _, rfl, _, rfl, p, dv, ah, ua, a, ws, E', st2, rfl, x3 _ _ hp, hA.ex x3, na, za, wa, sc.ex x3, hah.ex x3, hs, fun r1 H4 e4 o1 => ?_⟩
    refine g_name ?_
    dsimp only
    have x4 := x3.trans e4
    refine ⟨_, rfl, _, rfl, _, rfl, _, rfl, _, rfl, q', dv, ah, ub, b, ws, E', st2, rfl, x4 _ _ hq, hB.ex x4, nb, zb, wb, sc.ex x4, hah.ex x4, hs, fun r2 H5 e5 o2 => ?_⟩
    refine g_name ?_
    dsimp only
    have x5 := x4.trans e5
    obtain ⟨a1, b1, h1r, _, _, _, h1a, h1b⟩ := o1.ex e5
    obtain ⟨a2, b2, h2r, _, _, _, h2a, h2b⟩ := o2
    have s1 := done_ok sc.ok sc.en a st2 wa hs
    have s2 := done_ok sc.ok sc.en b st2 wb hs
    have ix : ∀ {σ' : L2.St} {i : Nat} {r' : Addr} {xs : List V} {k : Nat} {vv : V} , σ'[i]? = some (some (.ref r')) → H5 r' = some (.tup xs) → xs[k]? = some vv → Ev (tOp (rIxT K) (tVar i) (tC (.int (k : Int)))) σ' H5 vv := fun h1 h2 h3 => ev_op (ev_var h1) ev_c (rv_ixT (st_of h2) (atI_nat h3))
    refine s_retPair (em_chosen (f := qm) rfl (by rw [← hS2]; exact if_pos rfl) (ev_var rfl) (ix (k := 0) rfl h1r rfl) (ix (k := 0) rfl h2r rfl) (ev_var rfl) h1a h2a (sc.ex x5) s1.1 s2.1) (em_chosen (f := qm) rfl (by rw [← hS2]; exact if_pos rfl) (ev_var rfl) (ix (k := 1) rfl h1r rfl) (ix (k := 1) rfl h2r rfl) (ev_var rfl) h1b h2b (sc.ex x5) s1.2 s2.2) fun r p1 p2 H6 e6 n1 n2 ne hr h1 h2 => ?_
    refine q r H6 (x5.trans e6) ?_
    rw [show condB E' t a b st2 = (mixY E' (doneB E' a st2).1 (doneB E' b st2).1, mixY E' (doneB E' a st2).2 (doneB E' b st2).2) from (if_neg hb1).trans (if_neg hb2)]
    exact ⟨p1, p2, hr, fresh_back x5 n1, fresh_back x5 n2, ne, h1, h2⟩
theorem ok_behind_body {f f3 : Addr} {fd fd1 fd2 fd3 : FuncData} (F : Fun K "behind_body" "behind_body" s_behind_body f fd) (B : Bi K w mg dA dT dG qa qo qx qv qm) {n k : Nat} (hk : 17 ≤ k) (D_value_of_term : Df P w K mg base CX0 "value_of_term" 17 qv fd1 ["term", "values"] (spVT 11)) (D_mixed_values : Df P w K mg base CX0 "mixed_values" 3 qm fd2 ["choice", "one", "other", "values"] (spMixV)) (D_behind_if : Df P w K mg base CX0 "behind_if" (k) f3 fd3 ["statement", "values", "ahead", "told", "chosen"] (spBIP qv qm n)) : FnOk P w K mg base CX0 (k + 1) f fd ["body", "values", "ahead", "told", "chosen"] (spBB qv qm n) := by
  refine F.ok sc_behind_body (fun vs H Q E h => ?_) (fun cdv A outer s H vs Q E hr h => ?_)
  · obtain ⟨bt, dv, ah, us, b, ws, E', st0, rfl, _⟩ := h
    all_goals rfl
  · obtain ⟨bt, dv, ah, us, b, ws, E', st0, rfl, hbt, hBd, hn, hz, hw, sc, hah, hs, q⟩ := h
    have hA1 : ∀ f sp, (fun f : Addr => if f = qv then some (spVT 11) else (none : Option Sp)) f = some sp → Held P w K mg base 17 f sp := fun f sp h => by
      by_cases e : f = qv
      · rw [show (fun f : Addr => if f = qv then some (spVT 11) else (none : Option Sp)) f = some (spVT 11) from if_pos e] at h
        cases h
        rw [e]
        exact ⟨_, _, D_value_of_term.ok, D_value_of_term.kp, D_value_of_term.b⟩
      · rw [show (fun f : Addr => if f = qv then some (spVT 11) else (none : Option Sp)) f = none from if_neg e] at h
        cases h
    generalize hS1 : (fun f : Addr => if f = qv then some (spVT 11) else (none : Option Sp)) = S1 at hA1

    refine ⟨_, (pss_cons (ps_set (i := 5) sc_behind_body.nd rfl (Or.inl rfl) (pe_callTy call_dictD (by rfl) B.dict (by decide +kernel) (pa_cons (pe_ix ix_tup (pv 2) pe_int (fun _ _ => rfl)) pa_nil)))
      (pss_cons (ps_set (i := 6) sc_behind_body.nd rfl (Or.inl rfl) (pe_callTy call_dictD (by rfl) B.dict (by decide +kernel) (pa_cons (pe_ix ix_tup (pv 2) pe_int (fun _ _ => rfl)) pa_nil)))
      (pss_cons (ps_for PassesOwn.never rfl (pi_tup (pv 0)) (pg_name (i := 7) sc_behind_body.nd rfl (Or.inl rfl)) (pss_one (ps_if (pt_cmpR op_eq (pe_ix ix_tup (pv 7) pe_int (fun _ _ => rfl)) pe_str (nomark _)) (pss_one (ps_asg (pe_call D_behind_if.ok (hr.mono (by omega)) (by rfl) D_behind_if.g D_behind_if.kp D_behind_if.b .nil pass0 (pa_cons (pv 7) (pa_cons (pv 1) (pa_cons (pe_tup (pa_cons (pv 5) (pa_cons (pv 6) pa_nil))) (pa_cons (pv 3) (pa_cons (pv 4) pa_nil)))))) (pg_tup rfl (pgs_cons (pg_name (i := 5) sc_behind_body.nd rfl (Or.inl rfl)) (pgs_cons (pg_name (i := 6) sc_behind_body.nd rfl (Or.inl rfl)) pgs_nil))))) (pss_one (ps_if (pt_cmpR op_eq (pe_ix ix_tup (pv 7) pe_int (fun _ _ => rfl)) pe_str (nomark _)) (pss_one (ps_dput (hu_of hr) (pv 5) (pe_ix ix_tup (pv 7) pe_int (fun _ _ => rfl)) (pe_callA (i := 3) (S := S1) hA1 (hr.mono (by omega)) rfl (Or.inl rfl) (pa_cons (pe_ix ix_tup (pv 7) pe_int (fun _ _ => rfl)) (pa_cons (pe_merge2 (pv 1) (pv 5)) pa_nil))) rfl)) (pss_one (ps_dput (hu_of hr) (pv 6) (pe_ix ix_tup (pv 7) pe_int (fun _ _ => rfl)) (pe_callA (i := 3) (S := S1) hA1 (hr.mono (by omega)) rfl (Or.inl rfl) (pa_cons (pe_ix ix_tup (pv 7) pe_int (fun _ _ => rfl)) (pa_cons (pe_merge2 (pv 1) (pv 5)) pa_nil))) rfl)))))))
      (pss_one (ps_ret (pe_tup (pa_cons (pv 5) (pa_cons (pv 6) pa_nil)))))))), ?_⟩
    obtain ⟨dn, dl, hah1, hdn, hdl⟩ := hah
    have hsz := sc.sz
    refine q_asgDk (em_copy (ev_op (ev_var rfl) ev_c (rv_ixT (st_of hah1) (atI_nat (j := 0) rfl))) hdn) fun d1 H1 n1 e1 h1 => ?_
    refine q_asgDk (em_copy (ev_op (ev_var rfl) ev_c (rv_ixT (st_of (e1 _ _ hah1)) (atI_nat (j := 1) rfl))) (e1 _ _ hdl)) fun d2 H2 n2 e2 h2 => ?_
    have ne12 : d1 ≠ d2 := fun z => by rw [z, n2] at h1; cases h1
    refine q_forT (K := K) (a := bt) (xs := us) (ev_var rfl) ((e1.trans e2) _ _ hbt)
      (fun i σ' H' => (∃ (x y : Addr) (a7 : Option V) (st : List YV × List YV) (rest : Bdy), σ' = [some (.ref bt), some (.ref dv), some (.ref ah), some (.ref qv), some (.ref qm), some (.ref x), some (.ref y), a7] ∧ H x = none ∧ H y = none ∧ x ≠ y ∧ H' x = some (.dK (ysK st.1)) ∧ H' y = some (.dK (ysK st.2)) ∧ St2 ws st ∧ BdAt H rest (us.drop i) ∧ nest rest ≤ n ∧ szB rest ≤ 1000 ∧ WdB ws rest ∧ doneB E' rest st = doneB E' b st0) ∧ Ex H H')
      (fun H3 e3 => ⟨⟨d1, d2, none, st0, b, rfl, n1, fresh_back e1 n2, ne12, e3 _ _ (e2 _ _ h1), e3 _ _ h2, hs, hBd, hn, hz, hw, rfl⟩, e1.trans (e2.trans e3)⟩) (fun i σ' H' hv => hv.2 _ _ hbt) (fun i x σ' H3 hi hv => ?_) (fun σ' H3 hv => ?_)
    · obtain ⟨⟨c1, c2, a7, st, rest, rfl, m1, m2, ne, g1, g2, hst, hBr, hnr, hzr, hwr, hdo⟩, x3⟩ := hv
      have hil := (List.getElem?_eq_some_iff.mp hi).1
      have hdr : us.drop i = x :: us.drop (i + 1) := by
        rw [List.drop_eq_getElem_cons hil, (List.getElem?_eq_some_iff.mp hi).2]
      rw [hdr] at hBr
      have zs1 := hst.1.len
      have zs2 := hst.2.len
      cases rest with
      | nil =>
        have hBr : x :: us.drop (i + 1) = [] := hBr
        cases hBr
      | set l y t r =>
        obtain ⟨a, v, us', hu, ha, hT, hr2⟩ := hBr
        obtain ⟨rfl, rfl⟩ := List.cons.inj hu
        obtain ⟨⟨m, hm, hwt, hdt⟩, hwr2⟩ := hwr
        have hv := val_ok (env_ov sc.ok sc.en hst.1) hwt
        have hzr2 : szB r ≤ 1000 := by rw [szB] at hzr; omega
        have ix : ∀ {σ' : L2.St} {H' : Hp} {k : Nat} {vv : V}, Ex H3 H' → σ'[7]? = some (some (.ref a)) → [V.str (wayS l), V.str y, v][k]? = some vv → Ev (tOp (rIxT K) (tVar 7) (tC (.int (k : Int)))) σ' H' vv := fun e h1 h3 => ev_op (ev_var h1) ev_c (rv_ixT (st_of (e _ _ (x3 _ _ ha))) (atI_nat h3))
        have w1 : decide (V.str (wayS l) = V.str (Str.ofString "if")) = false := by cases l <;> decide +kernel
        refine s_if (b := false) (et_is (et_test (ev_op (ix (k := 0) (Ex.refl _) rfl rfl) ev_c (rv_eq rfl))) w1) (fun hb => by cases hb) fun _ H4 e4 => ?_
        have w2 : decide (V.str (wayS l) = V.str (Str.ofString "now")) = !l := by cases l <;> decide +kernel
        refine s_if (b := !l) (et_is (et_test (ev_op (ix (k := 0) e4 rfl rfl) ev_c (rv_eq rfl))) w2) (fun hb H5 e5 => ?_) (fun hb H5 e5 => ?_)
        · have hl : l = false := by simpa using hb
          subst hl
          have x45 := e4.trans e5
          refine s_dputY (N := st.1) (x := y) (ev_told rfl (by rw [← hS1]; exact if_pos rfl) (ix (k := 2) x45 rfl rfl) (hT.ex (x3.trans x45)) hdt hwt (sc.ex (x3.trans x45)) (ev_var rfl) (ev_var rfl) (x45 _ _ g1) hst.1) (ev_var rfl) (ix (k := 1) x45 rfl rfl) (x45 _ _ g1) (by omega) fun H6 e6 => ?_
          refine ⟨⟨c1, c2, _, (putY st.1 y (val (ovE E' st.1) t), st.2), r, rfl, m1, m2, ne, upd_same, by rw [upd_ne ne.symm]; exact e6 _ _ (x45 _ _ g2), ⟨hst.1.put hm hv.2 (sx_sg hv.1), hst.2⟩, hr2, hnr, hzr2, hwr2, hdo⟩, Ex.mut (x3.trans (x45.trans e6)) m1⟩
        · have hl : l = true := by simpa using hb
          subst hl
          have x45 := e4.trans e5
          refine s_dputY (N := st.2) (x := y) (ev_told rfl (by rw [← hS1]; exact if_pos rfl) (ix (k := 2) x45 rfl rfl) (hT.ex (x3.trans x45)) hdt hwt (sc.ex (x3.trans x45)) (ev_var rfl) (ev_var rfl) (x45 _ _ g1) hst.1) (ev_var rfl) (ix (k := 1) x45 rfl rfl) (x45 _ _ g2) (by omega) fun H6 e6 => ?_
          refine ⟨⟨c1, c2, _, (st.1, putY st.2 y (val (ovE E' st.1) t)), r, rfl, m1, m2, ne, by rw [upd_ne ne]; exact e6 _ _ (x45 _ _ g1), upd_same, ⟨hst.1, hst.2.put hm hv.2 (sx_sg hv.1)⟩, hr2, hnr, hzr2, hwr2, hdo⟩, Ex.mut (x3.trans (x45.trans e6)) m2⟩
      | cond t ba bb r =>
        obtain ⟨sa, v, p, q', ua, ub, us', hu, ha, hT, hp, hpa, hq, hqb, hr2⟩ := hBr
        obtain ⟨rfl, rfl⟩ := List.cons.inj hu
        obtain ⟨hwt, hwa, hwb, hwr2⟩ := hwr
        rw [szB] at hzr
        rw [nest] at hnr
        obtain ⟨n', rfl⟩ : ∃ n', n = n' + 1 := ⟨n - 1, by omega⟩
        have w1 : decide (V.str (Str.ofString "if") = V.str (Str.ofString "if")) = true := decide_eq_true rfl
        refine s_if (b := true) (et_is (et_test (ev_op (ev_op (ev_var rfl) ev_c (rv_ixT (st_of (x3 _ _ ha)) (atI_nat (j := 0) rfl))) ev_c (rv_eq rfl))) w1) (fun _ H4 e4 => ?_) (fun hb => by cases hb)
        refine ⟨_, rfl, _, rfl, _, rfl, _, rfl, (by show 2 ≤ sizeLine; decide), fun rt nrt => ?_⟩
        have e5 := Ex.new (o := .tup [V.ref c1, .ref c2]) nrt
        have hrt : L2.upd H4 rt (.tup [V.ref c1, .ref c2]) rt = some (.tup [V.ref c1, .ref c2]) := upd_same
        generalize L2.upd H4 rt (.tup [V.ref c1, .ref c2]) = H5 at e5 hrt ⊢
        have x35 := e4.trans e5
        have x5 := x3.trans x35
        refine ⟨_, rfl, _, rfl, sa, dv, rt, v, p, q', ua, ub, t, ba, bb, ws, E', st, rfl, x5 _ _ ha, hT.ex x5, x5 _ _ hp, hpa.ex x5, x5 _ _ hq, hqb.ex x5, by omega, by omega, by omega, by omega, hwt, hwa, hwb, sc.ex x5, ⟨c1, c2, hrt, x35 _ _ g1, x35 _ _ g2⟩, hst, fun r' H6 e6 ho => ?_⟩
        obtain ⟨b1, b2, hr', k1, k2, kne, kk1, kk2⟩ := ho
        have sok : St2 ws (condB E' t ba bb st) := by
          have := done_ok sc.ok sc.en (.cond t ba bb .nil) st ⟨hwt, hwa, hwb, True.intro⟩ hst
          exact this
        refine ⟨r', _, rfl, st_of hr', rfl, _, _, rfl, _, _, rfl, rfl, ?_⟩
        exact ⟨⟨b1, b2, _, condB E' t ba bb st, r, rfl, fresh_back x5 k1, fresh_back x5 k2, kne, kk1, kk2, sok, hr2, by omega, by omega, hwr2, hdo⟩, x5.trans e6⟩
    · obtain ⟨⟨c1, c2, a7, st, rest, rfl, m1, m2, ne, g1, g2, hst, hBr, _, _, _, hdo⟩, x3⟩ := hv
      rw [List.drop_length] at hBr
      have hrest : rest = .nil := by
        cases rest with
        | nil => rfl
        | set l y t r =>
          obtain ⟨_, _, _, h, _⟩ := hBr
          cases h
        | cond t ba bb r =>
          obtain ⟨_, _, _, _, _, _, _, h, _⟩ := hBr
          cases h
      subst hrest
      refine ⟨_, rfl, _, rfl, (by show 2 ≤ sizeLine; decide), fun r nr => ?_⟩
      have e4 := Ex.new (o := .tup [V.ref c1, .ref c2]) nr
      refine q r _ (x3.trans e4) ⟨c1, c2, upd_same, m1, m2, ne, ?_, ?_⟩
      · rw [← hdo]
        exact e4 _ _ g1
      · rw [← hdo]
        exact e4 _ _ g2
theorem ok_body_done {f f1 : Addr} {fd fd1 : FuncData} (F : Fun K "body_done" "body_done" s_body_done f fd) (B : Bi K w mg dA dT dG qa qo qx qv qm)  (D_behind_body : Df P w K mg base CX0 "behind_body" 26 f1 fd1 ["body", "values", "ahead", "told", "chosen"] (spBB qv qm 4)) : FnOk P w K mg base CX0 (27) f fd ["body", "values"] (spBD) := by
  refine F.ok sc_body_done (fun vs H Q E h => ?_) (fun cdv A outer s H vs Q E hr h => ?_)
  · obtain ⟨bt, dv, us, b, ws, E', rfl, _⟩ := h
    all_goals rfl
  · obtain ⟨bt, dv, us, b, ws, E', rfl, hbt, hBd, hn, hz, hw, sc, q⟩ := h
    refine ⟨_, (pss_one (ps_ret (pe_call D_behind_body.ok (hr.mono (by decide)) (by rfl) D_behind_body.g D_behind_body.kp D_behind_body.b .nil pass0 (pa_cons (pv 0) (pa_cons (pv 1) (pa_cons (pe_tup (pa_cons pe_dnewK (pa_cons pe_dnewK pa_nil))) (pa_cons (pgl (by rfl) B.c_value_of_term) (pa_cons (pgl (by rfl) B.c_mixed_values) pa_nil)))))))), ?_⟩
    refine ⟨_, rfl, _, rfl, fun d1 n1 d2 n2 => ⟨by show 2 ≤ sizeLine; decide, fun rt nrt => ?_⟩⟩
    have e1 := Ex.new (o := .dK []) n1
    have h1 : L2.upd H d1 (.dK []) d1 = some (.dK []) := upd_same
    generalize L2.upd H d1 (.dK []) = H1 at e1 h1 n2 nrt ⊢
    have e2 := Ex.new (o := .dK []) n2
    have h2 : L2.upd H1 d2 (.dK []) d2 = some (.dK []) := upd_same
    generalize L2.upd H1 d2 (.dK []) = H2 at e2 h2 nrt ⊢
    have e3 := Ex.new (o := .tup [V.ref d1, .ref d2]) nrt
    have h3 : L2.upd H2 rt (.tup [V.ref d1, .ref d2]) rt = some (.tup [V.ref d1, .ref d2]) := upd_same
    generalize L2.upd H2 rt (.tup [V.ref d1, .ref d2]) = H3 at e3 h3 ⊢
    have x := e1.trans (e2.trans e3)
    exact ⟨bt, dv, rt, us, b, ws, E', ([], []), rfl, x _ _ hbt, hBd.ex x, hn, hz, hw, sc.ex x, ⟨d1, d2, h3, e3 _ _ (e2 _ _ h1), e3 _ _ h2⟩, ⟨⟨.nil, fun y hy => by cases hy⟩, ⟨.nil, fun y hy => by cases hy⟩⟩, fun r H' e ho => q r H' (x.trans e) (ho.back x)⟩
theorem ok__law_pot {f  : Addr} {fd  : FuncData} (F : Fun K "_law_pot" "_law_pot" s__law_pot f fd) (B : Bi K w mg dA dT dG qa qo qx qv qm)   : FnOk P w K mg base CX0 (1) f fd ["_law_script", "_law_k"] (spPot K) := by
  refine F.ok sc__law_pot (fun vs H Q E h => ?_) (fun cdv A outer s H vs Q E hr h => ?_)
  · obtain ⟨a, ns, k, rfl, _⟩ := h
    all_goals rfl
  · obtain ⟨a, ns, k, rfl, hS, h0, h1, q⟩ := h
    refine ⟨_, (pss_cons (ps_set (i := 2) sc__law_pot.nd rfl (Or.inl rfl) (pe_op op_add (pe_op op_mul pe_int (pv 1)) pe_int))
      (pss_cons (ps_if (pt_cmpR op_lt (pv 1) (pe_callB call_len_seq (by rfl) B.len PySem.boot_len (pa_cons (pv 0) pa_nil)) (nomark _)) (pss_one (ps_set (i := 2) sc__law_pot.nd rfl (Or.inl rfl) (pe_ix ix_list (pv 0) (pv 1) (fun _ _ => rfl)))) pss_nil)
      (pss_one (ps_ret (pe_lst (pa_cons (pe_callB (call_max2 rfl) (by rfl) B.max (by decide +kernel) (pa_cons pe_int (pa_cons (pe_op op_sub (pe_callB call_abs (by rfl) B.abs (by decide +kernel) (pa_cons (pv 2) pa_nil)) (pe_op op_pow pe_int pe_int)) pa_nil))) (pa_cons (pe_op op_add (pe_op op_mod (pe_op op_mul (pe_op op_add (pe_op op_mod (pe_callB call_abs (by rfl) B.abs (by decide +kernel) (pa_cons (pv 2) pa_nil)) pe_int) pe_int) (pe_op op_pow (pe_op op_add (pv 1) pe_int) pe_int)) pe_int) pe_int) pa_nil))))))), ?_⟩
    refine q_asg (v := .int (5 * k + 2)) (ev_is (ev_op (ev_op ev_c (ev_var rfl) (rv_I (C := CMul) (.inl ⟨by decide, by decide⟩))) ev_c rv_I0) rfl) fun H0 e0 => ?_
    have hS0 := ex_l e0 hS
    have fin : ∀ (c : Int) H1, Ex H H1 → (tRet (tLst (tCons (tCB (fun xs H Q => ∃ i j : Int, xs = [.int i, .int j] ∧ Q (.int (if j > i then j else i)) H) (tCons (tC (.int 0)) (tCons (tOp (rI0 fun i j => .int (i - j)) (tCB (fun xs H Q => ∃ i : Int, xs = [.int i] ∧ Q (.int (if i < 0 then -i else i)) H) (tCons (tVar 2) tNil)) (tOp (rI CPow fun i j => .int (i ^ j.toNat)) (tC (.int 10)) (tC (.int 18)))) tNil))) (tCons (tOp (rI0 fun i j => .int (i + j)) (tOp (rI (fun _ j => 0 < j) fun i j => .int (i % j)) (tOp (rI CMul fun i j => .int (i * j)) (tOp (rI0 fun i j => .int (i + j)) (tOp (rI (fun _ j => 0 < j) fun i j => .int (i % j)) (tCB (fun xs H Q => ∃ i : Int, xs = [.int i] ∧ Q (.int (if i < 0 then -i else i)) H) (tCons (tVar 2) tNil)) (tC (.int 2147483579))) (tC (.int 1))) (tOp (rI CPow fun i j => .int (i ^ j.toNat)) (tOp (rI0 fun i j => .int (i + j)) (tVar 1) (tC (.int 3))) (tC (.int 3)))) (tC (.int 2147483563))) (tC (.int 1))) tNil)))) ⟨fun _ _ => False, fun v H' => Q v H', fun _ _ => False, fun _ _ => False⟩ [some (.ref a), some (.int k), some (.int c)] H1 := fun c H1 x1 => by
      refine s_retL (el_lst (ea_cons (ev_max2 ev_c (ev_op (ev_abs (ev_var rfl)) (ev_op ev_c ev_c (rv_I (C := CPow) ⟨by decide, by decide, by decide⟩)) rv_I0)) (ea_cons (ev_op (ev_op (ev_op (ev_op (ev_op (ev_abs (ev_var rfl)) ev_c (rv_I (by decide))) ev_c rv_I0) (ev_op (ev_op (ev_var rfl) ev_c rv_I0) ev_c (rv_I (C := CPow) ⟨by decide, by decide, by omega⟩)) (rv_I (C := CMul) (.inl ⟨?_, ?_⟩))) ev_c (rv_I (by decide))) ev_c rv_I0) ea_nil)) (by simp)) fun g H2 ng e2 hg => q g H2 (fresh_back x1 ng) (x1.trans e2) ⟨_, _, hg, ?_, ?_, ?_⟩
      · omega
      · omega
      · split <;> omega
      · omega
      · omega
    refine q_when (b := decide (k < ((ns.map V.int).length : Int))) (et_test (ev_op (ev_var rfl) (ev_len (ev_var rfl) hS0) rv_I0)) (fun hb H1 e1 => ?_) (fun hb H1 e1 => ?_)
    · have hb := of_decide_eq_true hb
      rw [List.length_map] at hb
      refine s_asg (ev_op (ev_var rfl) (ev_var rfl) (rv_ixL (ex_l e1 hS0) (cell_at h0 hb))) fun H2 e2 => ?_
      exact fin _ H2 ((e0.trans e1).trans e2)
    · exact fin _ H1 (e0.trans e1)
theorem ok__law_take {f  : Addr} {fd  : FuncData} (F : Fun K "_law_take" "_law_take" s__law_take f fd) (B : Bi K w mg dA dT dG qa qo qx qv qm)   : FnOk P w K mg base CX0 (1) f fd ["_law_pot_here", "_law_many"] (spTake) := by
  refine F.ok sc__law_take (fun vs H Q E h => ?_) (fun cdv A outer s H vs Q E hr h => ?_)
  · obtain ⟨a, m, rfl, _⟩ := h
    all_goals rfl
  · obtain ⟨p, m, rfl, ⟨x, y, hp, hx, hy, hy2⟩, h0, h1, q⟩ := h
    refine ⟨_, (pss_cons (ps_if (pt_cmpR op_gt (pe_ix ix_list (pv 0) pe_int (fun _ _ => rfl)) pe_int (nomark _)) (pss_cons (ps_asg (pe_callB call_divmod (by rfl) B.divmod (by decide +kernel) (pa_cons (pe_ix ix_list (pv 0) pe_int (fun _ _ => rfl)) (pa_cons (pv 1) pa_nil))) (pg_tup rfl (pgs_cons (pg_sub (pv 0) pe_int set_list) (pgs_cons (pg_name (i := 2) sc__law_take.nd rfl (Or.inl rfl)) pgs_nil))))
      (pss_one (ps_ret (pv 2)))) pss_nil)
      (pss_cons (ps_asg (pe_op op_mod (pe_op op_add (pe_op op_mul (pe_ix ix_list (pv 0) pe_int (fun _ _ => rfl)) pe_int) pe_int) pe_int) (pg_sub (pv 0) pe_int set_list))
      (pss_one (ps_ret (pe_op op_mod (pe_op op_fdiv (pe_op op_mod (pe_op op_mul (pe_ix ix_list (pv 0) pe_int (fun _ _ => rfl)) (pe_ix ix_list (pv 0) pe_int (fun _ _ => rfl))) pe_int) pe_int) (pv 1)))))), ?_⟩
    refine ⟨_, rfl, p, _, _, _, rfl, rfl, SqL.of hp, rfl, _, _, rfl, rfl, _, rfl, ?_⟩
    refine ite2 (fun e => ?_) (fun e => ?_)
    · refine ⟨_, rfl, p, _, _, _, rfl, rfl, SqL.of hp, rfl, _, rfl, _, _, rfl, ⟨h0, h1⟩, fun t ht => ?_⟩
      have npt : p ≠ t := ne_of_none hp ht
      refine ⟨t, _, rfl, SqT.of upd_same, rfl, _, _, rfl, _, rfl, p, _, _, 0, rfl, rfl, (upd_ne npt).trans hp, rfl, _, _, rfl, rfl, _, rfl, ?_⟩
      refine q _ _ (fun b o n hb => ?_) ⟨_, _, upd_same, Int.ediv_nonneg hx (by omega), hy, hy2⟩ (Int.emod_nonneg _ (by omega)) (Int.emod_lt_of_pos _ h0)
      rw [upd_ne n, upd_ne (ne_of_none hb ht)]
      exact hb
    · refine ⟨_, rfl, p, _, _, _, rfl, rfl, SqL.of hp, rfl, _, _, rfl, rfl, .inr ⟨by decide, by decide⟩, _, _, rfl, rfl, _, _, rfl, rfl, (by show (0 : Int) < 2147483587; decide), _, rfl, p, _, _, 1, rfl, rfl, hp, rfl, ?_⟩
      have hz0 : 0 ≤ (y * 48283 + 10007) % 2147483587 := by omega
      have hz1 : (y * 48283 + 10007) % 2147483587 < 2147483587 := by omega
      refine ⟨_, rfl, p, _, _, _, rfl, rfl, SqL.of upd_same, rfl, _, rfl, p, _, _, _, rfl, rfl, SqL.of upd_same, rfl, _, _, rfl, rfl, .inl ⟨?_, ?_⟩, _, _, rfl, rfl, (by show (0 : Int) < 2147483549; decide), _, _, rfl, rfl, ⟨by decide, by decide⟩, _, rfl, _, _, rfl, rfl, h0, ?_⟩
      · omega
      · omega
      · exact q _ _ (ExB.refl _ _).upd ⟨_, _, upd_same, hx, hz0, by omega⟩ (Int.emod_nonneg _ (by omega)) (Int.emod_lt_of_pos _ h0)
theorem ok__law_signs {f f1 : Addr} {fd fd1 : FuncData} (F : Fun K "_law_signs" "_law_signs" s__law_signs f fd) (B : Bi K w mg dA dT dG qa qo qx qv qm)  (D__law_take : Df P w K mg base CX0 "_law_take" 1 f1 fd1 ["_law_pot_here", "_law_many"] (spTake)) : FnOk P w K mg base CX0 (2) f fd ["_law_pot_here", "_law_width_here", "_law_signs_here"] (spSigns) := by
  refine F.ok sc__law_signs (fun vs H Q E h => ?_) (fun cdv A outer s H vs Q E hr h => ?_)
  · obtain ⟨p, m, ss, rfl, _⟩ := h
    all_goals rfl
  · obtain ⟨p, m, ss, rfl, hP, h8, s0, s1, q⟩ := h
    refine ⟨_, (pss_one (ps_ret (pe_join pe_str (pe_lc (own := [("_law_k", 3)]) (g := gName 3) (tt := tYes) (by rfl) sc__law_signs.nd (pi_range1 (by rfl) B.range (pa_cons (pv 1) pa_nil)) (blkOk_by (own := [("_law_k", 3)]) (N := N__law_signs) (sc := defScope s__law_signs) (by decide +kernel)) (fun _ _ _ _ _ => pg_name (i := 3) sc__law_signs.nd rfl (Or.inl rfl)) (fun _ _ _ _ _ => pts_nil) (fun _ _ _ _ _ => (pe_ix ix_str (pv 2) (pe_call D__law_take.ok (hr.mono (by decide)) (by rfl) D__law_take.g D__law_take.kp D__law_take.b .nil pass0 (pa_cons (pv 0) (pa_cons (pe_callB call_len_str (by rfl) B.len PySem.boot_len (pa_cons (pv 2) pa_nil)) pa_nil))) (fun _ _ => rfl))))))), ?_⟩
    refine ⟨⟨_, rfl⟩, ?_⟩
    refine evp_lcR (p := p) (H := H) (lo := (m : Int)) (m := (m : Int)) (G := fun v _ => ∃ c ∈ ss, v = .str (Tx [c])) ((evp_var rfl).mono fun v _ h => ⟨_, h, by omega, by omega⟩) (by omega) (by omega) (fun x => rfl) (fun i H1 e1 hi => evp_sign (fun _ => ev_var rfl) (by omega) (evp_takeV rfl (evp_of fun H2 e2 => ev_lenT (ev_var rfl) (by omega)) (by omega) (by omega))) (fun v H1 H2 _ h => h) H (ExB.refl _ _) hP _ fun Dl xs H2 nD e2 hP2 hD hx => ?_
    obtain ⟨h1, h2, h3⟩ := hx
    obtain ⟨l, hl1, hl2⟩ : ∃ l : List Nat, xs = l.map (fun c => V.str (Tx [c])) ∧ ∀ c ∈ l, c ∈ ss := by
      clear h1 h2 hD
      induction xs with
      | nil => exact ⟨[], rfl, fun c hc => by cases hc⟩
      | cons x xs ih =>
        obtain ⟨l, e1, e2⟩ := ih fun y hy => h3 y (List.mem_cons_of_mem _ hy)
        obtain ⟨c, hc, rfl⟩ := h3 x (List.mem_cons_self ..)
        exact ⟨c :: l, by rw [e1]; rfl, fun d hd => by
          rcases List.mem_cons.mp hd with rfl | h
          · exact hc
          · exact e2 d h⟩
    subst hl1
    rw [List.length_map] at h1 h2
    refine ⟨Str.ofString "", Dl, l.map fun c => Tx [c], rfl, rfl, .inl (sq_of (by rw [map_strs]; exact hD)), by rw [ones_len]; omega, ?_⟩
    rw [join_ones]
    exact q H2 l e2 hP2 (by omega) hl2
theorem ok__law_width {f f1 : Addr} {fd fd1 : FuncData} (F : Fun K "_law_width" "_law_width" s__law_width f fd) (B : Bi K w mg dA dT dG qa qo qx qv qm)  (D__law_take : Df P w K mg base CX0 "_law_take" 1 f1 fd1 ["_law_pot_here", "_law_many"] (spTake)) : FnOk P w K mg base CX0 (2) f fd ["_law_pot_here"] (spWidthK) := by
  refine F.ok sc__law_width (fun vs H Q E h => ?_) (fun cdv A outer s H vs Q E hr h => ?_)
  · obtain ⟨p, rfl, _⟩ := h
    all_goals rfl
  · obtain ⟨p, rfl, hP, q⟩ := h
    refine ⟨_, (pss_one (ps_ret (pe_ix ix_list (pe_lst (pa_cons pe_int (pa_cons pe_int (pa_cons (pe_op op_add pe_int (pe_call D__law_take.ok (hr.mono (by decide)) (by rfl) D__law_take.g D__law_take.kp D__law_take.b .nil pass0 (pa_cons (pv 0) (pa_cons pe_int pa_nil)))) pa_nil)))) (pe_call D__law_take.ok (hr.mono (by decide)) (by rfl) D__law_take.g D__law_take.kp D__law_take.b .nil pass0 (pa_cons (pv 0) (pa_cons pe_int pa_nil))) (fun _ _ => rfl)))), ?_⟩
    refine p_ret (evp_pick3 (K := K) (G := fun v => ∃ d : Int, v = .int d ∧ 1 ≤ d ∧ d < 1 + 8) (evp_add (evp_take rfl (by decide) (by decide))) (evp_take rfl (by decide) (by decide))) hP fun v H1 e1 hP1 hv => ?_
    rcases hv with rfl | rfl | ⟨m, rfl, m1, m8⟩
    · exact q H1 1 e1 hP1 (by omega) (by omega)
    · exact q H1 2 e1 hP1 (by omega) (by omega)
    · obtain ⟨m, rfl⟩ := Int.eq_ofNat_of_zero_le (by omega : 0 ≤ m)
      exact q H1 m e1 hP1 (by omega) (by omega)
theorem ok__law_leaf {f f1 f2 : Addr} {fd fd1 fd2 : FuncData} (F : Fun K "_law_leaf" "_law_leaf" s__law_leaf f fd) (B : Bi K w mg dA dT dG qa qo qx qv qm)  (D__law_take : Df P w K mg base CX0 "_law_take" 1 f1 fd1 ["_law_pot_here", "_law_many"] (spTake)) (D__law_signs : Df P w K mg base CX0 "_law_signs" 2 f2 fd2 ["_law_pot_here", "_law_width_here", "_law_signs_here"] (spSigns)) : FnOk P w K mg base CX0 (3) f fd ["_law_pot_here", "_law_widths", "_law_width_here"] (spLeafK) := by
  refine F.ok sc__law_leaf (fun vs H Q E h => ?_) (fun cdv A outer s H vs Q E hr h => ?_)
  · obtain ⟨p, qd, m, ws, rfl, _⟩ := h
    all_goals rfl
  · obtain ⟨p, qd, m, ws, rfl, hP, hW, hok, hz, h1, h8, q⟩ := h
    refine ⟨_, (pss_cons (ps_lock (ps_setLc (i := 3) (own := [("_law_name_here", 4)]) (g := gName 4) (by rfl) sc__law_leaf.nd rfl rfl (sw_true rfl rfl rfl (by decide +kernel)) (pi_keys (pv 1)) (blkOk_by (own := [("_law_name_here", 4)]) (N := N__law_leaf) (sc := defScope s__law_leaf) (by decide +kernel)) (fun _ _ _ _ _ => pg_name (i := 4) sc__law_leaf.nd rfl (Or.inl rfl)) (fun _ _ _ _ _ => pts_one (pt_cmpR op_eq (pe_dget (hu_of hr) (pv 1) (pv 4) (fun _ _ => rfl)) (pv 2) (nomark _))) (fun _ _ _ _ _ => (pv 4))))
      (pss_cons (ps_if (PW.pt (pw_and (pt_cmpR (op_neD hr.units) (pv 3) (pe_lst pa_nil) (nomark _)) (pw_and1 (pt_cmpR op_gt (pe_call D__law_take.ok (hr.mono (by decide)) (by rfl) D__law_take.g D__law_take.kp D__law_take.b .nil pass0 (pa_cons (pv 0) (pa_cons pe_int pa_nil))) pe_int (nomark _))))) (pss_one (ps_ret (pe_tup (pa_cons pe_str (pa_cons (pe_ix ix_list (pv 3) (pe_call D__law_take.ok (hr.mono (by decide)) (by rfl) D__law_take.g D__law_take.kp D__law_take.b .nil pass0 (pa_cons (pv 0) (pa_cons (pe_callB call_len_seq (by rfl) B.len PySem.boot_len (pa_cons (pv 3) pa_nil)) pa_nil))) (fun _ _ => rfl)) pa_nil))))) pss_nil)
      (pss_one (ps_ret (pe_tup (pa_cons pe_str (pa_cons (pe_call D__law_signs.ok (hr.mono (by decide)) (by rfl) D__law_signs.g D__law_signs.kp D__law_signs.b .nil pass0 (pa_cons (pv 0) (pa_cons (pv 2) (pa_cons pe_str pa_nil)))) pa_nil))))))), ?_⟩
    have hlen : (wsK ws).length = ws.length := List.length_map _
    have lows : ∀ f : Str × Nat → Bool, ∀ x ∈ (ws.filter f).map (·.1), LowS x := fun f x hx => by
      obtain ⟨a, ha, rfl⟩ := List.mem_map.mp hx
      exact (hok.2 a (List.mem_filter.mp ha).1).2.2
    refine q_lockLc (fun n => (fun a : Str × Nat => decide (a.2 = m)) (ws.getD n default)) (fun n => (fun a : Str × Nat => V.str a.1) (ws.getD n default)) hW (fun H1 => ev_var rfl) (by omega) (fun x => rfl) (fun n k x H1 hrd hk => ?_) (fun n k x H1 hrd hk hf => ?_) fun g3 H3 n3 e3 h3 => ?_
    · obtain ⟨a, _, ha, hm, rfl, rfl⟩ := ws_key hk
      rw [ha]
      exact et_is (et_test (ev_op (ev_dget (ev_var rfl) (ev_var rfl) hrd (valV_ws hok.1 hm)) (ev_var rfl) (rv_eq rfl))) (by
        rw [Bool.eq_iff_iff]
        simp
        omega)
    · obtain ⟨a, _, ha, hm, rfl, rfl⟩ := ws_key hk
      rw [ha]
      exact ev_var rfl
    rw [given_kvs ws (fun a => decide (a.2 = m)) (fun a => V.str a.1) hlen] at h3
    rw [show ((ws.filter fun a => decide (a.2 = m)).map fun a => V.str a.1) = ((ws.filter fun a => decide (a.2 = m)).map (·.1)).map V.str by rw [List.map_map]; rfl] at h3
    have lz : (ws.filter fun a => decide (a.2 = m)).length ≤ 1000 := Nat.le_trans (List.length_filter_le _ _) hz
    have hP3 := hP.ex e3
    have g3p : g3 ≠ p := (hP.ne n3)
    have fin : ∀ H5 : Hp, ExB p H H5 → PotAt H5 p → tRet (tTup (tCons (tC (.str (Str.ofString "is"))) (tCons (tCall spSigns [] E0 (tCons (tVar 0) (tCons (tVar 2) (tCons (tC (.str (Str.ofString "01x"))) tNil)))) tNil))) ⟨fun _ _ => False, fun v H' => Q v H', fun _ _ => False, fun _ _ => False⟩ [some (.ref p), some (.ref qd), some (.int (m : Int)), some (.ref g3), none] H5 := fun H5 x5 hP5 => by
      refine ⟨_, rfl, _, rfl, p, m, [48, 49, 120], ?_, hP5, h8, by decide, by decide, fun H8 l e8 hP8 hl hs => ?_⟩
      · rw [show Str.ofString "01x" = Tx [48, 49, 120] by decide +kernel]
        rfl
      refine ⟨by show 2 ≤ sizeLine; decide, fun b nb => ?_⟩
      exact q _ _ ((x5.trans e8).trans (ExB.of (Ex.new nb))) (hP8.ex (Ex.new nb)) ⟨.is l, ⟨b, rfl, upd_same⟩, ⟨hs, hl, h1, h8⟩, by simp [dep]⟩
    refine (et_test (ev_neNil (ev_var rfl) (sq_of h3) (lows _))) H3 (Ex.refl _) _ fun H4 e4 => ?_
    have x4 : ExB p H H4 := ExB.of (e3.trans e4)
    by_cases hne : ((ws.filter fun a => decide (a.2 = m)).map (·.1)) = []
    · rw [decide_eq_true hne]
      exact fin H4 x4 (hP3.ex e4)
    · rw [decide_eq_false hne]
      refine evp_take (p := p) (H := H4) (i := 0) (E := E0) (m := 4) rfl (by decide) (by decide) H4 (ExB.refl _ _) (hP3.ex e4) _ fun v H5 e5 hP5 hv => ?_
      obtain ⟨way, rfl, w0, w1⟩ := hv
      refine ⟨_, _, rfl, rfl, _, rfl, ?_⟩
      have x5 := x4.trans e5
      cases hw : decide (way > 0) with
      | false => exact fin H5 x5 hP5
      | true =>
        have hpos : 0 < (((ws.filter fun a => decide (a.2 = m)).map (·.1)).map V.str).length := by
          rw [List.length_map]
          exact List.length_pos_iff.mpr hne
        refine evp_pickL (p := p) (K := K) (H := H5) (g := g3) (ta := tVar 3) (tb := tVar 3) (i := 0) (E := E0) rfl (fun _ => ev_var rfl) (fun _ => ev_var rfl) (e5 _ _ g3p (e4 _ _ h3)) g3p hpos (by rw [List.length_map, List.length_map]; omega) H5 (ExB.refl _ _) hP5 _ fun v H7 e7 hP7 hv => ?_
        obtain ⟨x, hx, rfl⟩ := List.mem_map.mp hv
        obtain ⟨a, ha, rfl⟩ := List.mem_map.mp hx
        obtain ⟨ha1, ha2⟩ := List.mem_filter.mp ha
        refine ⟨by show 2 ≤ sizeLine; decide, fun b nb => ?_⟩
        refine q _ _ ((x5.trans e7).trans (ExB.of (Ex.new nb))) (hP7.ex (Ex.new nb)) ⟨.of a.1, ⟨b, rfl, upd_same⟩, ?_, by simp [dep]⟩
        show (a.1, m) ∈ ws
        rw [← of_decide_eq_true ha2]
        exact ha1
theorem ok__law_name {f f1 f2 : Addr} {fd fd1 fd2 : FuncData} (F : Fun K "_law_name" "_law_name" s__law_name f fd) (B : Bi K w mg dA dT dG qa qo qx qv qm)  (D__law_take : Df P w K mg base CX0 "_law_take" 1 f1 fd1 ["_law_pot_here", "_law_many"] (spTake)) (D__law_signs : Df P w K mg base CX0 "_law_signs" 2 f2 fd2 ["_law_pot_here", "_law_width_here", "_law_signs_here"] (spSigns)) : FnOk P w K mg base CX0 (3) f fd ["_law_pot_here", "_law_taken"] (spNameK) := by
  refine F.ok sc__law_name (fun vs H Q E h => ?_) (fun cdv A outer s H vs Q E hr h => ?_)
  · obtain ⟨p, g, taken, rfl, _⟩ := h
    all_goals rfl
  · obtain ⟨p, g, taken, rfl, hP, ng, hG, hz, q⟩ := h
    refine ⟨_, (pss_cons (ps_set (i := 2) sc__law_name.nd rfl (Or.inl rfl) (pe_ix ix_str pe_str (pe_call D__law_take.ok (hr.mono (by decide)) (by rfl) D__law_take.g D__law_take.kp D__law_take.b .nil pass0 (pa_cons (pv 0) (pa_cons pe_int pa_nil))) (fun _ _ => rfl)))
      (pss_cons (ps_set (i := 2) sc__law_name.nd rfl (Or.inl rfl) (pe_op op_add_str (pv 2) (pe_call D__law_signs.ok (hr.mono (by decide)) (by rfl) D__law_signs.g D__law_signs.kp D__law_signs.b .nil pass0 (pa_cons (pv 0) (pa_cons (pe_ix ix_list (pe_lst (pa_cons pe_int (pa_cons pe_int (pa_cons pe_int (pa_cons pe_int pa_nil))))) (pe_call D__law_take.ok (hr.mono (by decide)) (by rfl) D__law_take.g D__law_take.kp D__law_take.b .nil pass0 (pa_cons (pv 0) (pa_cons pe_int pa_nil))) (fun _ _ => rfl)) (pa_cons pe_str pa_nil))))))
      (pss_cons (ps_for PassesOwn.never rfl (pi_str pe_str) (pg_name (i := 3) sc__law_name.nd rfl (Or.inl rfl)) (pss_one (ps_if (pt_cmpR (op_inK (K := K) rfl) (pv 2) (pv 1) rfl) (pss_one (ps_set (i := 2) sc__law_name.nd rfl (Or.inl rfl) (pe_op op_add_str (pe_slice sl_str (pv 2) po_none (po_some pe_int)) (pv 3)))) pss_nil)))
      (pss_cons (ps_expr (pe_bm PySem.F.plainAttrs_list PySem.F.slot_list_append PySem.F.type_list_append mt_append (pv 1) (pa_cons (pv 2) pa_nil)))
      (pss_one (ps_ret (pv 2))))))), ?_⟩
    refine p_asg (evp_sign (l := nmF) (fun _ => ev_is ev_c (by rw [s_nmF])) (by decide) (evp_take rfl (by decide) (by decide))) hP fun v H1 e1 hP1 hv => ?_
    obtain ⟨c0, hc0, rfl⟩ := hv
    refine p_asg (G := fun v _ => ∃ l, v = .str (Tx (c0 :: l)) ∧ l.length ≤ 7 ∧ ∀ d ∈ l, d ∈ nmR) (fun H4 e4 hP4 Q4 q4 => ?_) hP1 fun v H4 e4 hP4 hv => ?_
    · refine ⟨_, rfl, _, rfl, ?_⟩
      refine evp_lit (p := p) (K := K) (H := H4) (vs := [.int 0, .int 1, .int 3, .int 7]) (fun _ => ea_cons ev_c (ea_cons ev_c (ea_cons ev_c (ea_cons ev_c ea_nil)))) (by decide) (evp_take rfl (by decide) (by decide)) H4 (ExB.refl _ _) hP4 _ fun v H5 e5 hP5 hv => ?_
      obtain ⟨m, rfl, hm⟩ : ∃ m : Nat, v = .int (m : Int) ∧ m ≤ 7 := by
        simp only [List.mem_cons, List.not_mem_nil, or_false] at hv
        rcases hv with rfl | rfl | rfl | rfl
        · exact ⟨0, rfl, by decide⟩
        · exact ⟨1, rfl, by decide⟩
        · exact ⟨3, rfl, by decide⟩
        · exact ⟨7, rfl, by decide⟩
      refine ⟨p, m, nmR, (by rw [← s_nmR]; rfl), hP5, by omega, by decide, by decide, fun H6 l e6 hP6 hl hs => ?_⟩
      refine ⟨_, _, rfl, rfl, sz_of (by rw [Tx_len, Tx_len]; simp; omega), ?_⟩
      rw [Tx_cat]
      exact q4 _ H6 (e5.trans e6) hP6 ⟨l, rfl, by omega, hs⟩
    obtain ⟨l0, rfl, hl0, hs0⟩ := hv
    have x4 : ExB p H H4 := e1.trans e4
    have hl8 : (c0 :: l0).length ≤ 8 := by simp; omega
    have hlow : ∀ c ∈ c0 :: l0, c < 128 := fun c hc => by
      rcases List.mem_cons.mp hc with rfl | h
      · have : ∀ c ∈ nmF, c < 128 := by decide
        exact this _ hc0
      · have : ∀ c ∈ nmR, c < 128 := by decide
        exact this _ (hs0 c h)
    generalize c0 :: l0 = L0 at hl8 hlow
    refine ⟨Str.ofString "bcdfghjkmnpqrstvwxz0123456789", rfl, for_it walk_str (fun i σ' H' => (∃ k a3, σ' = [some (.ref p), some (.ref g), some (.str (Tx (cand L0 k))), a3] ∧ k ≤ i ∧ (Tx (cand L0 k) ∉ taken ∨ k = i ∧ ∀ j < k, Tx (cand L0 j) ∈ taken)) ∧ ExB p H H' ∧ PotAt H' p)
      ⟨⟨0, none, rfl, Nat.le_refl _, .inr ⟨rfl, fun j hj => absurd hj (by omega)⟩⟩, x4, hP4⟩ (fun _ _ _ _ _ => True.intro) (fun i x σ' H5 H6 hi hv y => ?_) (fun σ' H5 hv => ?_)⟩
    · obtain ⟨⟨k, a3, rfl, hk, hor⟩, x5, hP5⟩ := hv
      obtain ⟨rfl, c, hc, rfl⟩ := y
      rw [s_nmL] at hc
      have hc2 : nmL[i]? = some c := code_of hc
      have hgd : nmL.getD i 0 = c := by rw [List.getD_eq_getElem?_getD, hc2]; rfl
      have hG5 := x5 _ _ ng hG
      refine s_if (b := decide (Tx (cand L0 k) ∈ taken)) (et_test (ev_inStrs (ev_var rfl) (ev_var rfl) (sq_of hG5))) (fun hb H7 e7 => ?_) (fun hb H7 e7 => ?_)
      · have hb := of_decide_eq_true hb
        rcases hor with h | ⟨rfl, hall⟩
        · exact absurd hb h
        refine s_asg (v := .str (Tx (cand L0 (k + 1)))) (ev_is (ev_addT (ev_cutUp (j := 7) (ev_var rfl) (eo_some ev_c) (by have := cand_len L0 hl8 k; omega)) (ev_var rfl) (by have := cand_len L0 hl8 k; rw [List.length_take]; simp; omega)) (by
          show V.str (Tx ((cand L0 k).take 7 ++ [c])) = V.str (Tx ((cand L0 k).take 7 ++ [nmL.getD k 0]))
          rw [hgd])) fun H8 e8 => ?_
        exact ⟨⟨k + 1, _, rfl, Nat.le_refl _, .inr ⟨rfl, fun j hj => by
          by_cases hjk : j = k
          · rw [hjk]
            exact hb
          · exact hall j (by omega)⟩⟩, x5.trans (ExB.of (e7.trans e8)), hP5.ex (e7.trans e8)⟩
      · exact ⟨⟨k, _, rfl, by omega, .inl (of_decide_eq_false hb)⟩, x5.trans (ExB.of e7), hP5.ex e7⟩
    · obtain ⟨⟨k, a3, rfl, hk, hor⟩, x5, hP5⟩ := hv
      have hsz : (Str.ofString "bcdfghjkmnpqrstvwxz0123456789").cps.size = 29 := by decide +kernel
      rw [hsz] at hor
      have hfree : Tx (cand L0 k) ∉ taken := by
        rcases hor with h | ⟨rfl, hall⟩
        · exact h
        · obtain ⟨k0, hk0, hn⟩ := cand_free L0 taken hz
          exact absurd (hall k0 (by omega)) hn
      have hG5 := x5 _ _ ng hG
      refine s_app (xs := taken.map V.str) hG5 (ev_var rfl) (ev_var rfl) (by rw [List.length_map]; omega) fun H6 e6 => ?_
      refine s_ret (ev_var rfl) fun H7 e7 => q H7 _ ?_ (((hP5.ex e6).upd ng).ex e7) ?_ (low_Tx (cand_low L0 hlow k)) hfree
      · exact ((ExC.ofB x5).trans (ExC.of e6)).upd.trans (ExC.of e7)
      · rw [List.map_append]
        exact e7 _ _ upd_same
theorem ok__law_bit {f f1 f2 : Addr} {fd fd1 fd2 : FuncData} (F : Fun K "_law_bit" "_law_bit" s__law_bit f fd) (B : Bi K w mg dA dT dG qa qo qx qv qm) {N k : Nat} (hk : 1 ≤ k) (D__law_take : Df P w K mg base CX0 "_law_take" 1 f1 fd1 ["_law_pot_here", "_law_many"] (spTake)) (D__law_term : Df P w K mg base CX0 "_law_term" (k) f2 fd2 ["_law_pot_here", "_law_widths", "_law_width_here", "_law_deep"] (spTermK N)) : FnOk P w K mg base CX0 (k + 1) f fd ["_law_pot_here", "_law_widths", "_law_deep"] (spBitK N) := by
  refine F.ok sc__law_bit (fun vs H Q E h => ?_) (fun cdv A outer s H vs Q E hr h => ?_)
  · obtain ⟨p, qd, n, ws, rfl, _⟩ := h
    all_goals rfl
  · obtain ⟨p, qd, n, ws, rfl, hn0, hn, hP, hW, hok, hz, q⟩ := h
    refine ⟨_, (pss_cons (ps_set (i := 3) sc__law_bit.nd rfl (Or.inl rfl) (pe_op op_add pe_int (pe_call D__law_take.ok (hr.mono (by omega)) (by rfl) D__law_take.g D__law_take.kp D__law_take.b .nil pass0 (pa_cons (pv 0) (pa_cons pe_int pa_nil)))))
      (pss_cons (ps_par (i := 4) (j := 5) (by rfl) sc__law_bit.nd rfl rfl  (by decide)  rfl rfl  (pa_cons (pe_call D__law_term.ok (hr.mono (by omega)) (by rfl) D__law_term.g D__law_term.kp D__law_term.b .nil pass0 (pa_cons (pv 0) (pa_cons (pv 1) (pa_cons (pv 3) (pa_cons (pe_op op_sub (pv 2) pe_int) pa_nil))))) (pa_cons (pe_call D__law_term.ok (hr.mono (by omega)) (by rfl) D__law_term.g D__law_term.kp D__law_term.b .nil pass0 (pa_cons (pv 0) (pa_cons (pv 1) (pa_cons (pv 3) (pa_cons (pe_op op_sub (pv 2) pe_int) pa_nil))))) pa_nil)) (by rfl))
      (pss_one (ps_ret (pe_ix ix_list (pe_lst (pa_cons (pe_tup (pa_cons pe_str (pa_cons (pv 4) (pa_cons (pv 5) pa_nil)))) (pa_cons (pe_tup (pa_cons pe_str (pa_cons (pv 4) (pa_cons (pv 5) pa_nil)))) (pa_cons (pe_tup (pa_cons pe_str (pa_cons (pv 4) pa_nil))) (pa_cons (pe_tup (pa_cons pe_str (pa_cons (pv 5) pa_nil))) pa_nil))))) (pe_call D__law_take.ok (hr.mono (by omega)) (by rfl) D__law_take.g D__law_take.kp D__law_take.b .nil pass0 (pa_cons (pv 0) (pa_cons pe_int pa_nil))) (fun _ _ => rfl)))))), ?_⟩
    obtain ⟨n', rfl⟩ : ∃ n', n = n' + 1 := ⟨n - 1, by omega⟩
    refine p_asg (evp_add (evp_take rfl (by decide) (by decide))) hP fun v H1 e1 hP1 hv => ?_
    obtain ⟨m, rfl, m1, m8⟩ := hv
    obtain ⟨m, rfl⟩ := Int.eq_ofNat_of_zero_le (by omega : 0 ≤ m)
    have hW1 := hW.exB hP e1
    refine evp_termC (E := E0) (te := tVar 3) (td := tOp (rI0 fun i j => .int (i - j)) (tVar 2) (tC (.int 1))) (N := N) (n := n') (m := m) (i := 0) (j := 1) rfl rfl (fun _ _ => ev_var rfl) (fun _ => ev_is (ev_op (ev_var rfl) ev_c rv_I0) (by congr 1; omega)) (by omega) hW1 hP1 hok hz (by omega) (by omega) H1 (ExB.refl _ _) hP1 _ fun v2 H2 e2 hP2 g2 => ?_
    have hW2 := hW1.exB hP1 e2
    refine evp_termC (E := E0) (te := tVar 3) (td := tOp (rI0 fun i j => .int (i - j)) (tVar 2) (tC (.int 1))) (N := N) (n := n') (m := m) (i := 0) (j := 1) rfl rfl (fun _ _ => ev_var rfl) (fun _ => ev_is (ev_op (ev_var rfl) ev_c rv_I0) (by congr 1; omega)) (by omega) hW2 hP2 hok hz (by omega) (by omega) H2 (ExB.refl _ _) hP2 _ fun v3 H3 e3 hP3 g3 => ?_
    refine ⟨_, _, rfl, ?_⟩
    exact p_ret (evp_four (K := K) rfl rfl rfl (g2.mono (ExT.ofB hP2 e3) (Nat.le_refl _)) g3 hP3) hP3 fun v4 H4 e4 hP4 g4 => q H4 v4 (((e1.trans e2).trans e3).trans e4) hP4 g4
theorem ok__law_term {f f1 f2 f3 f4 : Addr} {fd fd1 fd2 fd3 fd4 : FuncData} (F : Fun K "_law_term" "_law_term" s__law_term f fd) (B : Bi K w mg dA dT dG qa qo qx qv qm) {N k : Nat} (hk : 3 ≤ k) (D__law_take : Df P w K mg base CX0 "_law_take" 1 f1 fd1 ["_law_pot_here", "_law_many"] (spTake)) (D__law_leaf : Df P w K mg base CX0 "_law_leaf" 3 f2 fd2 ["_law_pot_here", "_law_widths", "_law_width_here"] (spLeafK)) (D__law_bit : Df P w K mg base CX0 "_law_bit" (k + 1) f3 fd3 ["_law_pot_here", "_law_widths", "_law_deep"] (spBitK N)) (D__law_term : Df P w K mg base CX0 "_law_term" (k) f4 fd4 ["_law_pot_here", "_law_widths", "_law_width_here", "_law_deep"] (spTermK N)) : FnOk P w K mg base CX0 (k + 2) f fd ["_law_pot_here", "_law_widths", "_law_width_here", "_law_deep"] (spTermK (N + 1)) := by
  refine F.ok sc__law_term (fun vs H Q E h => ?_) (fun cdv A outer s H vs Q E hr h => ?_)
  · obtain ⟨p, qd, m, n, ws, rfl, _⟩ := h
    all_goals rfl
  · obtain ⟨p, qd, m, n, ws, rfl, hn, hP, hW, hok, hz, m1, m8, q⟩ := h
    refine ⟨_, (pss_cons (ps_set (i := 4) sc__law_term.nd rfl (Or.inl rfl) (pe_call D__law_take.ok (hr.mono (by omega)) (by rfl) D__law_take.g D__law_take.kp D__law_take.b .nil pass0 (pa_cons (pv 0) (pa_cons pe_int pa_nil))))
      (pss_cons (ps_if (PW.pt (pw_or (pt_cmpR op_eq (pv 3) pe_int (nomark _)) (pw_or1 (pt_cmpR op_lt (pv 4) pe_int (nomark _))))) (pss_one (ps_ret (pe_call D__law_leaf.ok (hr.mono (by omega)) (by rfl) D__law_leaf.g D__law_leaf.kp D__law_leaf.b .nil pass0 (pa_cons (pv 0) (pa_cons (pv 1) (pa_cons (pv 2) pa_nil)))))) pss_nil)
      (pss_cons (ps_if (PW.pt (pw_and (pt_cmpR op_eq (pv 4) pe_int (nomark _)) (pw_and1 (pt_cmpR op_gt (pv 2) pe_int (nomark _))))) (pss_cons (ps_set (i := 7) sc__law_term.nd rfl (Or.inl rfl) (pe_op op_add pe_int (pe_call D__law_take.ok (hr.mono (by omega)) (by rfl) D__law_take.g D__law_take.kp D__law_take.b .nil pass0 (pa_cons (pv 0) (pa_cons (pe_op op_sub (pv 2) pe_int) pa_nil)))))
      (pss_one (ps_ret (pe_tup (pa_cons pe_str (pa_cons (pe_call D__law_term.ok (hr.mono (by omega)) (by rfl) D__law_term.g D__law_term.kp D__law_term.b .nil pass0 (pa_cons (pv 0) (pa_cons (pv 1) (pa_cons (pe_op op_sub (pv 2) (pv 7)) (pa_cons (pe_op op_sub (pv 3) pe_int) pa_nil))))) (pa_cons (pe_call D__law_term.ok (hr.mono (by omega)) (by rfl) D__law_term.g D__law_term.kp D__law_term.b .nil pass0 (pa_cons (pv 0) (pa_cons (pv 1) (pa_cons (pv 7) (pa_cons (pe_op op_sub (pv 3) pe_int) pa_nil))))) pa_nil))))))) pss_nil)
      (pss_cons (ps_if (PW.pt (pw_and (pt_cmpR op_gt (pv 4) pe_int (nomark _)) (pw_and1 (pt_cmpR op_eq (pv 2) pe_int (nomark _))))) (pss_one (ps_ret (pe_call D__law_bit.ok (hr.mono (by omega)) (by rfl) D__law_bit.g D__law_bit.kp D__law_bit.b .nil pass0 (pa_cons (pv 0) (pa_cons (pv 1) (pa_cons (pv 3) pa_nil)))))) pss_nil)
      (pss_cons (ps_if (pt_cmpR op_gt (pv 4) pe_int (nomark _)) (pss_cons (ps_set (i := 8) sc__law_term.nd rfl (Or.inl rfl) (pe_op op_add (pv 2) (pe_call D__law_take.ok (hr.mono (by omega)) (by rfl) D__law_take.g D__law_take.kp D__law_take.b .nil pass0 (pa_cons (pv 0) (pa_cons (pe_op op_sub pe_int (pv 2)) pa_nil)))))
      (pss_cons (ps_set (i := 7) sc__law_term.nd rfl (Or.inl rfl) (pe_call D__law_take.ok (hr.mono (by omega)) (by rfl) D__law_take.g D__law_take.kp D__law_take.b .nil pass0 (pa_cons (pv 0) (pa_cons (pe_op op_add (pe_op op_sub (pv 8) (pv 2)) pe_int) pa_nil))))
      (pss_one (ps_ret (pe_tup (pa_cons pe_str (pa_cons (pe_call D__law_term.ok (hr.mono (by omega)) (by rfl) D__law_term.g D__law_term.kp D__law_term.b .nil pass0 (pa_cons (pv 0) (pa_cons (pv 1) (pa_cons (pv 8) (pa_cons (pe_op op_sub (pv 3) pe_int) pa_nil))))) (pa_cons (pe_op op_sub (pe_op op_add (pv 7) (pv 2)) pe_int) (pa_cons (pv 7) pa_nil))))))))) pss_nil)
      (pss_cons (ps_set (i := 5) sc__law_term.nd rfl (Or.inl rfl) (pe_call D__law_term.ok (hr.mono (by omega)) (by rfl) D__law_term.g D__law_term.kp D__law_term.b .nil pass0 (pa_cons (pv 0) (pa_cons (pv 1) (pa_cons (pv 2) (pa_cons (pe_op op_sub (pv 3) pe_int) pa_nil))))))
      (pss_cons (ps_if (pt_cmpR op_eq (pv 4) pe_int (nomark _)) (pss_one (ps_ret (pe_tup (pa_cons pe_str (pa_cons (pv 5) pa_nil))))) pss_nil)
      (pss_cons (ps_set (i := 6) sc__law_term.nd rfl (Or.inl rfl) (pe_call D__law_term.ok (hr.mono (by omega)) (by rfl) D__law_term.g D__law_term.kp D__law_term.b .nil pass0 (pa_cons (pv 0) (pa_cons (pv 1) (pa_cons (pv 2) (pa_cons (pe_op op_sub (pv 3) pe_int) pa_nil))))))
      (pss_cons (ps_if (pt_cmpR op_eq (pv 4) pe_int (nomark _)) (pss_one (ps_ret (pe_tup (pa_cons pe_str (pa_cons (pe_call D__law_term.ok (hr.mono (by omega)) (by rfl) D__law_term.g D__law_term.kp D__law_term.b .nil pass0 (pa_cons (pv 0) (pa_cons (pv 1) (pa_cons pe_int (pa_cons (pe_op op_sub (pv 3) pe_int) pa_nil))))) (pa_cons (pv 5) (pa_cons (pv 6) pa_nil))))))) pss_nil)
      (pss_one (ps_ret (pe_tup (pa_cons (pe_ix ix_list (pe_lst (pa_cons pe_str (pa_cons pe_str (pa_cons pe_str (pa_cons pe_str pa_nil))))) (pe_call D__law_take.ok (hr.mono (by omega)) (by rfl) D__law_take.g D__law_take.kp D__law_take.b .nil pass0 (pa_cons (pv 0) (pa_cons pe_int pa_nil))) (fun _ _ => rfl)) (pa_cons (pv 5) (pa_cons (pv 6) pa_nil))))))))))))))), ?_⟩
    refine p_asg (evp_take rfl (by decide) (by decide)) hP fun v H1 e1 hP1 hv => ?_
    obtain ⟨way, rfl, w0, w1⟩ := hv
    have hW1 := hW.exB hP e1
    refine q_when (et_or (et_test (ev_op (ev_var rfl) ev_c (rv_eq rfl))) fun _ => et_test (ev_op (ev_var rfl) ev_c rv_I0)) (fun hb H2 e2 => ?_) (fun hb H2 e2 => ?_)
    · exact ⟨_, rfl, _, rfl, _, rfl, p, qd, m, ws, rfl, hP1.ex e2, hW1.ex e2, hok, hz, m1, m8, fun H3 v e3 hP3 g => q H3 v ((e1.trans (ExB.of e2)).trans e3) hP3 (g.mono (ExT.refl _) (by omega))⟩
    rw [Bool.or_eq_false_iff] at hb
    obtain ⟨n', rfl⟩ : ∃ n', n = n' + 1 := ⟨n - 1, by
      have : n ≠ 0 := fun z => of_decide_eq_false hb.1 (by rw [z]; rfl)
      omega⟩
    have x2 := e1.trans (ExB.of e2)
    have hP2 := hP1.ex e2
    have hW2 := hW1.ex e2
    clear e1 hP1 hW1 e2
    refine q_when (et_and (et_test (ev_op (ev_var rfl) ev_c (rv_eq rfl))) fun _ => et_test (ev_op (ev_var rfl) ev_c rv_I0)) (fun hb H3 e3 => ?_) (fun _ H3 e3 => ?_)
    · rw [Bool.and_eq_true] at hb
      have hm := of_decide_eq_true hb.2
      refine p_asg (evp_add (evp_takeV (m := (m : Int) - 1) rfl (evp_of fun H8 _ => ev_op (ev_var rfl) ev_c rv_I0) (by omega) (by omega))) (hP2.ex e3) fun v H4 e4 hP4 hv => ?_
      obtain ⟨low, rfl, l0, l1⟩ := hv
      obtain ⟨low, rfl⟩ := Int.eq_ofNat_of_zero_le (by omega : 0 ≤ low)
      have hW4 := (hW2.ex e3).exB (hP2.ex e3) e4
      refine evp_termC (E := E0) (te := tOp (rI0 fun i j => .int (i - j)) (tVar 2) (tVar 7)) (td := tOp (rI0 fun i j => .int (i - j)) (tVar 3) (tC (.int 1))) (N := N) (n := n') (m := (m - low)) (i := 0) (j := 1) rfl rfl (fun _ _ => ev_is (ev_op (ev_var rfl) (ev_var rfl) rv_I0) (by congr 1; omega)) (fun _ => ev_is (ev_op (ev_var rfl) ev_c rv_I0) (by congr 1; omega)) (by omega) hW4 hP4 hok hz (by omega) (by omega) H4 (ExB.refl _ _) hP4 _ fun va H5 e5 hP5 ga => ?_
      have hW5 := hW4.exB hP4 e5
      refine evp_termC (E := E0) (te := tVar 7) (td := tOp (rI0 fun i j => .int (i - j)) (tVar 3) (tC (.int 1))) (N := N) (n := n') (m := low) (i := 0) (j := 1) rfl rfl (fun _ _ => ev_var rfl) (fun _ => ev_is (ev_op (ev_var rfl) ev_c rv_I0) (by congr 1; omega)) (by omega) hW5 hP5 hok hz (by omega) (by omega) H5 (ExB.refl _ _) hP5 _ fun vb H6 e6 hP6 gb => ?_
      obtain ⟨ta, a1, a2, a3⟩ := ga.mono (ExT.ofB hP5 e6) (Nat.le_refl _)
      obtain ⟨tb, b1, b2, b3⟩ := gb
      refine ⟨by show 3 ≤ sizeLine; decide, fun b nb => ?_⟩
      have f := Ex.new (o := .tup [V.str "join", va, vb]) nb
      exact q _ _ (((((x2.trans (ExB.of e3)).trans e4).trans e5).trans e6).trans (ExB.of f)) (hP6.ex f) ⟨.bi .join ta tb, ⟨b, va, vb, rfl, upd_same, a1.ex f, b1.ex f⟩, ⟨m8, m - low, low, a2, b2, by omega⟩, by simp only [dep]; omega⟩
    have x2 := x2.trans (ExB.of e3)
    have hP2 := hP2.ex e3
    have hW2 := hW2.ex e3
    clear e3
    refine q_when (et_and (et_test (ev_op (ev_var rfl) ev_c rv_I0)) fun _ => et_test (ev_op (ev_var rfl) ev_c (rv_eq rfl))) (fun hb H3 e3 => ?_) (fun _ H3 e3 => ?_)
    · rw [Bool.and_eq_true] at hb
      have hm : m = 1 := by
        have := V.int.inj (of_decide_eq_true hb.2)
        omega
      subst hm
      exact ⟨_, rfl, _, rfl, _, rfl, p, qd, n' + 1, ws, rfl, by omega, by omega, hP2.ex e3, hW2.ex e3, hok, hz, fun H4 v e4 hP4 g => q H4 v ((x2.trans (ExB.of e3)).trans e4) hP4 g⟩
    have x2 := x2.trans (ExB.of e3)
    have hP2 := hP2.ex e3
    have hW2 := hW2.ex e3
    clear e3
    refine q_when (et_test (ev_op (ev_var rfl) ev_c rv_I0)) (fun hb H3 e3 => ?_) (fun _ H3 e3 => ?_)
    · refine p_asg (evp_addV (a := (m : Int)) (evp_var rfl) (evp_takeV (m := 9 - (m : Int)) rfl (evp_of fun H8 _ => ev_op ev_c (ev_var rfl) rv_I0) (by omega) (by omega))) (hP2.ex e3) fun v H4 e4 hP4 hv => ?_
      obtain ⟨wide, rfl, l0, l1⟩ := hv
      obtain ⟨wide, rfl⟩ := Int.eq_ofNat_of_zero_le (by omega : 0 ≤ wide)
      refine p_asg (evp_takeV (m := (wide : Int) - (m : Int) + 1) rfl (evp_of fun H8 _ => ev_op (ev_op (ev_var rfl) (ev_var rfl) rv_I0) ev_c rv_I0) (by omega) (by omega)) hP4 fun v H5 e5 hP5 hv => ?_
      obtain ⟨low, rfl, l2, l3⟩ := hv
      obtain ⟨low, rfl⟩ := Int.eq_ofNat_of_zero_le l2
      have hW5 := ((hW2.ex e3).exB (hP2.ex e3) e4).exB hP4 e5
      refine evp_termC (E := E0) (te := tVar 8) (td := tOp (rI0 fun i j => .int (i - j)) (tVar 3) (tC (.int 1))) (N := N) (n := n') (m := wide) (i := 0) (j := 1) rfl rfl (fun _ _ => ev_var rfl) (fun _ => ev_is (ev_op (ev_var rfl) ev_c rv_I0) (by congr 1; omega)) (by omega) hW5 hP5 hok hz (by omega) (by omega) H5 (ExB.refl _ _) hP5 _ fun va H6 e6 hP6 ga => ?_
      obtain ⟨ta, a1, a2, a3⟩ := ga
      refine ⟨_, rfl, _, rfl, _, _, rfl, rfl, _, _, rfl, rfl, _, rfl, by show 4 ≤ sizeLine; decide, fun b nb => ?_⟩
      have f := Ex.new (o := .tup [V.str "part", va, .int ((low : Int) + (m : Int) - 1), .int (low : Int)]) nb
      refine q _ _ (((((x2.trans (ExB.of e3)).trans e4).trans e5).trans e6).trans (ExB.of f)) (hP6.ex f) ⟨.part ta (low + m - 1) low, ⟨b, va, rfl, ?_, a1.ex f⟩, ⟨wide, a2, by omega, by omega, by omega⟩, by simp only [dep]; omega⟩
      rw [show ((low + m - 1 : Nat) : Int) = (low : Int) + (m : Int) - 1 by omega]
      exact upd_same
    have x2 := x2.trans (ExB.of e3)
    have hP2 := hP2.ex e3
    have hW2 := hW2.ex e3
    clear e3
    refine p_asg (evp_termC (N := N) (n := n') (m := m) rfl rfl (fun _ _ => ev_var rfl) (fun _ => ev_is (ev_op (ev_var rfl) ev_c rv_I0) (by congr 1; omega)) (by omega) hW2 hP2 hok hz m1 m8) hP2 fun va H3 e3 hP3 ga => ?_
    have hW3 := hW2.exB hP2 e3
    have x3 := x2.trans e3
    refine q_when (et_test (ev_op (ev_var rfl) ev_c (rv_eq rfl))) (fun hb H4 e4 => ?_) (fun _ H4 e4 => ?_)
    · obtain ⟨ta, a1, a2, a3⟩ := ga.mono (ExT.of e4) (Nat.le_refl _)
      refine ⟨_, rfl, by show 2 ≤ sizeLine; decide, fun b nb => ?_⟩
      have f := Ex.new (o := .tup [V.str "not", va]) nb
      exact q _ _ ((x3.trans (ExB.of e4)).trans (ExB.of f)) ((hP3.ex e4).ex f) ⟨.un .not ta, ⟨b, va, rfl, upd_same, a1.ex f⟩, a2, by simp only [dep]; omega⟩
    have ga := ga.mono (ExT.of e4) (Nat.le_refl _)
    have x4 := x3.trans (ExB.of e4)
    have hP4 := hP3.ex e4
    have hW4 := hW3.ex e4
    clear e4
    refine p_asg (evp_termC (N := N) (n := n') (m := m) rfl rfl (fun _ _ => ev_var rfl) (fun _ => ev_is (ev_op (ev_var rfl) ev_c rv_I0) (by congr 1; omega)) (by omega) hW4 hP4 hok hz m1 m8) hP4 fun vb H5 e5 hP5 gb => ?_
    have hW5 := hW4.exB hP4 e5
    have x5 := x4.trans e5
    have ga := ga.mono (ExT.ofB hP4 e5) (Nat.le_refl _)
    refine q_when (et_test (ev_op (ev_var rfl) ev_c (rv_eq rfl))) (fun hb H6 e6 => ?_) (fun _ H6 e6 => ?_)
    · refine evp_termC (E := E0) (te := tC (.int 1)) (td := tOp (rI0 fun i j => .int (i - j)) (tVar 3) (tC (.int 1))) (N := N) (n := n') (m := 1) (i := 0) (j := 1) rfl rfl (fun _ _ => ev_c) (fun _ => ev_is (ev_op (ev_var rfl) ev_c rv_I0) (by congr 1; omega)) (by omega) (hW5.ex e6) (hP5.ex e6) hok hz (by omega) (by omega) H6 (ExB.refl _ _) (hP5.ex e6) _ fun vc H7 e7 hP7 gc => ?_
      obtain ⟨ta, a1, a2, a3⟩ := ga.mono ((ExT.of e6).trans (ExT.ofB (hP5.ex e6) e7)) (Nat.le_refl _)
      obtain ⟨tb, b1, b2, b3⟩ := gb.mono ((ExT.of e6).trans (ExT.ofB (hP5.ex e6) e7)) (Nat.le_refl _)
      obtain ⟨tc, c1, c2, c3⟩ := gc
      refine ⟨_, rfl, _, rfl, by show 4 ≤ sizeLine; decide, fun b nb => ?_⟩
      have f := Ex.new (o := .tup [V.str "pick", vc, va, vb]) nb
      exact q _ _ (((x5.trans (ExB.of e6)).trans e7).trans (ExB.of f)) (hP7.ex f) ⟨.pick tc ta tb, ⟨b, vc, va, vb, rfl, upd_same, c1.ex f, a1.ex f, b1.ex f⟩, ⟨c2, a2, b2⟩, by simp only [dep]; omega⟩
    refine evp_lit (p := p) (K := K) (H := H6) (vs := [.str "and", .str "or", .str "xor", .str "plus"]) (fun _ => ea_cons ev_c (ea_cons ev_c (ea_cons ev_c (ea_cons ev_c ea_nil)))) (by decide) (evp_take rfl (by decide) (by decide)) H6 (ExB.refl _ _) (hP5.ex e6) _ fun v H7 e7 hP7 hv => ?_
    obtain ⟨ta, a1, a2, a3⟩ := ga.mono ((ExT.of e6).trans (ExT.ofB (hP5.ex e6) e7)) (Nat.le_refl _)
    obtain ⟨tb, b1, b2, b3⟩ := gb.mono ((ExT.of e6).trans (ExT.ofB (hP5.ex e6) e7)) (Nat.le_refl _)
    refine ⟨_, rfl, _, rfl, by show 3 ≤ sizeLine; decide, fun b nb => ?_⟩
    have f := Ex.new (o := .tup [v, va, vb]) nb
    have hw : ∃ w : W2, v = .str w.s ∧ (∀ t u k, Wd ws t k → Wd ws u k → Wd ws (.bi w t u) k) := by
      simp only [List.mem_cons, List.not_mem_nil, or_false] at hv
      rcases hv with rfl | rfl | rfl | rfl
      · exact ⟨.and, rfl, fun _ _ _ a b => ⟨a, b⟩⟩
      · exact ⟨.or, rfl, fun _ _ _ a b => ⟨a, b⟩⟩
      · exact ⟨.xor, rfl, fun _ _ _ a b => ⟨a, b⟩⟩
      · exact ⟨.plus, rfl, fun _ _ _ a b => ⟨a, b⟩⟩
    obtain ⟨w2, rfl, hw2⟩ := hw
    exact q _ _ (((x5.trans (ExB.of e6)).trans e7).trans (ExB.of f)) (hP7.ex f) ⟨.bi w2 ta tb, ⟨b, va, vb, rfl, upd_same, a1.ex f, b1.ex f⟩, hw2 _ _ _ a2 b2, by simp only [dep]; omega⟩
theorem ok__law_statement {f f1 f2 f3 : Addr} {fd fd1 fd2 fd3 : FuncData} (F : Fun K "_law_statement" "_law_statement" s__law_statement f fd) (B : Bi K w mg dA dT dG qa qo qx qv qm) {N k : Nat} (hk : 9 ≤ k) (D__law_take : Df P w K mg base CX0 "_law_take" 1 f1 fd1 ["_law_pot_here", "_law_many"] (spTake)) (D__law_term : Df P w K mg base CX0 "_law_term" 9 f2 fd2 ["_law_pot_here", "_law_widths", "_law_width_here", "_law_deep"] (spTermK 3)) (D__law_body : Df P w K mg base CX0 "_law_body" (k) f3 fd3 ["_law_pot_here", "_law_widths", "_law_ways", "_law_deep", "_law_room"] (spBodyK N)) : FnOk P w K mg base CX0 (k + 1) f fd ["_law_pot_here", "_law_widths", "_law_ways", "_law_deep", "_law_room"] (spStmK N) := by
  refine F.ok sc__law_statement (fun vs H Q E h => ?_) (fun cdv A outer s H vs Q E hr h => ?_)
  · obtain ⟨p, qd, d, r, n, R, ws, wy, rfl, _⟩ := h
    all_goals rfl
  · obtain ⟨p, qd, d, r, n, R, ws, wy, rfl, hn, hR0, hI, q⟩ := h
    refine ⟨_, (pss_cons (ps_asg (pe_op op_sub (pe_ix ix_list (pv 4) pe_int (fun _ _ => rfl)) pe_int) (pg_sub (pv 4) pe_int set_list))
      (pss_cons (ps_set (i := 5) sc__law_statement.nd rfl (Or.inl rfl) (pe_callTy (call_listD rfl) (by rfl) B.list (by decide +kernel) (pa_cons (pv 2) pa_nil)))
      (pss_cons (ps_if (PW.pt (pw_and (pt_cmpR op_gt (pv 3) pe_int (nomark _)) (pw_and1 (pt_cmpR op_eq (pe_call D__law_take.ok (hr.mono (by omega)) (by rfl) D__law_take.g D__law_take.kp D__law_take.b .nil pass0 (pa_cons (pv 0) (pa_cons pe_int pa_nil))) pe_int (nomark _))))) (pss_cons (ps_set (i := 7) sc__law_statement.nd rfl (Or.inl rfl) (pe_call D__law_term.ok (hr.mono (by omega)) (by rfl) D__law_term.g D__law_term.kp D__law_term.b .nil pass0 (pa_cons (pv 0) (pa_cons (pv 1) (pa_cons pe_int (pa_cons pe_int pa_nil))))))
      (pss_one (ps_ret (pe_tup (pa_cons pe_str (pa_cons (pv 7) (pa_cons (pe_call D__law_body.ok (hr.mono (by omega)) (by rfl) D__law_body.g D__law_body.kp D__law_body.b .nil pass0 (pa_cons (pv 0) (pa_cons (pv 1) (pa_cons (pv 2) (pa_cons (pe_op op_sub (pv 3) pe_int) (pa_cons (pv 4) pa_nil)))))) (pa_cons (pe_call D__law_body.ok (hr.mono (by omega)) (by rfl) D__law_body.g D__law_body.kp D__law_body.b .nil pass0 (pa_cons (pv 0) (pa_cons (pv 1) (pa_cons (pv 2) (pa_cons (pe_op op_sub (pv 3) pe_int) (pa_cons (pv 4) pa_nil)))))) pa_nil)))))))) pss_nil)
      (pss_cons (ps_set (i := 6) sc__law_statement.nd rfl (Or.inl rfl) (pe_ix ix_list (pv 5) (pe_call D__law_take.ok (hr.mono (by omega)) (by rfl) D__law_take.g D__law_take.kp D__law_take.b .nil pass0 (pa_cons (pv 0) (pa_cons (pe_callB call_len_seq (by rfl) B.len PySem.boot_len (pa_cons (pv 5) pa_nil)) pa_nil))) (fun _ _ => rfl)))
      (pss_one (ps_ret (pe_tup (pa_cons (pe_dget (hu_of hr) (pv 2) (pv 6) (fun _ _ => rfl)) (pa_cons (pv 6) (pa_cons (pe_call D__law_term.ok (hr.mono (by omega)) (by rfl) D__law_term.g D__law_term.kp D__law_term.b .nil pass0 (pa_cons (pv 0) (pa_cons (pv 1) (pa_cons (pe_dget (hu_of hr) (pv 1) (pv 6) (fun _ _ => rfl)) (pa_cons pe_int pa_nil))))) pa_nil)))))))))), ?_⟩
    have hR := hI.room
    refine q_setL (j := 0) hR (ev_op (ev_op (ev_var rfl) ev_c (rv_ixL (sq_of hR) (atI_nat (j := 0) rfl))) ev_c rv_I0) (ev_var rfl) ev_c (by simp) fun H1 e1 => ?_
    have eA : ExC p r H (L2.upd H1 r (.lst [.int (R - 1)])) := (ExC.of e1).upd
    have hRA : (L2.upd H1 r (.lst [.int (R - 1)])) r = some (.lst [.int (R - 1)]) := upd_same
    have hI1 : BdIn (L2.upd H1 r (.lst [.int (R - 1)])) p qd d r (R - 1) ws wy := hI.exC eA ((hI.pot.ex e1).upd hI.nr) hRA
    show tSeq _ _ _ _ (L2.upd H1 r (.lst [.int (R - 1)]))
    generalize L2.upd H1 r (.lst [.int (R - 1)]) = HA at eA hI1 ⊢
    clear hRA
    refine q_asgL (el_listD (ev_var rfl) hI1.wya) fun g H2 ng e2 hg => ?_
    rw [wy_keys] at hg
    have hI2 := hI1.ex e2
    have eA := eA.trans (ExC.of e2)
    have ngp := hI1.pot.ne ng
    have ngr : g ≠ r := fun z => by rw [z, hI1.room] at ng; cases ng
    have fin : ∀ H3, ExB p H2 H3 → PotAt H3 p → (tSeq (tAsg (tOp (rIxL K) (tVar 5) (tCall spTake [] E0 (tCons (tVar 0) (tCons (tCB (rLenS K) (tCons (tVar 5) tNil)) tNil)))) (gName 6)) (tRet (tTup (tCons (tDGet (tVar 2) (tVar 6)) (tCons (tVar 6) (tCons (tCall (spTermK 3) [] E0 (tCons (tVar 0) (tCons (tVar 1) (tCons (tDGet (tVar 1) (tVar 6)) (tCons (tC (.int 2)) tNil))))) tNil)))))) ⟨fun _ _ => False, fun v H' => Q v H', fun _ _ => False, fun _ _ => False⟩ [some (.ref p), some (.ref qd), some (.ref d), some (.int (n : Int)), some (.ref r), some (.ref g), none, none] H3 := fun H3 x3 hP3 => by
      have hI3 := hI2.exB x3 hP3
      have hg3 := x3 _ _ ngp hg
      have hl : 0 < (wy.map fun y => V.str y.1).length := by rw [List.length_map]; exact List.length_pos_iff.mpr hI3.wy.ne
      refine p_asg (evp_pickL (K := K) (g := g) rfl (fun _ => ev_var rfl) (fun _ => ev_var rfl) hg3 ngp hl (by rw [List.length_map]; have := hI3.wy.sz; omega)) hP3 fun v H4 e4 hP4 hv => ?_
      obtain ⟨⟨x, l⟩, hx, rfl⟩ := List.mem_map.mp hv
      obtain ⟨m, hm⟩ := hI3.wy.mem _ hx
      have hI4 := hI3.exB e4 hP4
      have M := hI4.ok.2 _ hm
      refine ev_dget (ev_var rfl) (ev_var rfl) (.inl hI4.wya) (valV_wy hI4.wy.nd hx) H4 (Ex.refl _) _ fun H5 e5 => ?_
      have hI5 := hI4.ex e5
      refine ⟨_, rfl, ?_⟩
      refine evp_termC (E := E0) (te := tDGet (tVar 1) (tVar 6)) (td := tC (.int 2)) (N := 3) (n := 2) (m := m) (i := 0) (j := 1) rfl rfl (fun H6 e6 => ev_dget (ev_var rfl) (ev_var rfl) (.inl (hI5.wsa.exB hI5.pot e6)) (valV_ws hI5.ok.1 hm)) (fun _ => ev_c) (by decide) hI5.wsa hI5.pot hI5.ok hI5.z M.1 M.2.1 H5 (ExB.refl _ _) hI5.pot _ fun v6 H6 e6 hP6 g6 => ?_
      obtain ⟨t, t1, t2, t3⟩ := g6
      have hI6 := hI5.exB e6 hP6
      refine ⟨by show 3 ≤ sizeLine; decide, fun b nb => ?_⟩
      have f := Ex.new (o := .tup [V.str (wayS l), .str x, v6]) nb
      have hI7 := hI6.ex f
      exact q _ _ (.set l x t .nil) 1 ⟨eA.trans (ExC.ofB (((x3.trans e4).trans (ExB.of e5)).trans (e6.trans (ExB.of f)))), hI7.pot, hI7.room, by omega, ⟨b, v6, [], rfl, upd_same, t1.ex f, rfl⟩, Nat.zero_le _, by simp [szB], ⟨⟨m, hm, t2, by omega⟩, True.intro⟩⟩
    refine et_test (ev_op (ev_var rfl) ev_c rv_I0) H2 (Ex.refl _) _ fun H3 e3 => ?_
    cases hb : decide ((n : Int) > 0) with
    | false => exact fin H3 (ExB.of e3) (hI2.pot.ex e3)
    | true =>
      have hb := of_decide_eq_true hb
      obtain ⟨n', rfl⟩ : ∃ n', n = n' + 1 := ⟨n - 1, by omega⟩
      refine evp_take (p := p) (H := H3) (i := 0) (E := E0) (m := 3) rfl (by decide) (by decide) H3 (ExB.refl _ _) (hI2.pot.ex e3) _ fun v H4 e4 hP4 hv => ?_
      obtain ⟨way, rfl, w0, w1⟩ := hv
      have x4 : ExB p H2 H4 := (ExB.of e3).trans e4
      refine ⟨rfl, _, rfl, ?_⟩
      cases hw : decide (V.int way = V.int 0) with
      | false => exact fin H4 x4 hP4
      | true =>
        have hI4 := hI2.exB x4 hP4
        refine p_asg (evp_termC (N := 3) (n := 1) (m := 1) rfl rfl (fun _ _ => ev_c) (fun _ => ev_c) (by decide) hI4.wsa hI4.pot hI4.ok hI4.z (by decide) (by decide)) hP4 fun v5 H5 e5 hP5 g5 => ?_
        have hI5 := hI4.exB e5 hP5
        obtain ⟨t, t1, t2, t3⟩ := g5
        refine ⟨_, rfl, _, rfl, _, rfl, _, rfl, _, rfl, _, _, rfl, rfl, _, rfl, p, qd, d, r, n', R - 1, ws, wy, (congrArg (fun z => [V.ref p, V.ref qd, V.ref d, V.int z, V.ref r]) (by omega)), by omega, by omega, hI5, fun H6 ta ua ba ca ha oa => ?_⟩
        have hI6 := hI5.exC oa.ex oa.pot oa.room
        have l6 := oa.left
        refine ⟨_, rfl, _, rfl, _, rfl, _, rfl, _, _, rfl, rfl, _, rfl, p, qd, d, r, n', R - 1 - (ca : Int), ws, wy, (congrArg (fun z => [V.ref p, V.ref qd, V.ref d, V.int z, V.ref r]) (by omega)), by omega, l6, hI6, fun H7 tb ub bb cb hb7 ob => ?_⟩
        have hI7 := hI6.exC ob.ex ob.pot ob.room
        have l7 := ob.left
        have eT := ExT.ofC oa.pot (RoomAt.is oa.room) ob.ex
        have eT5 := (ExT.ofC hI5.pot (RoomAt.is hI5.room) oa.ex).trans eT
        refine ⟨by show 4 ≤ sizeLine; decide, fun b nb => ?_⟩
        have f := Ex.new (o := .tup [V.str "if", v5, .ref ta, .ref tb]) nb
        have hI8 := hI7.ex f
        have hs1 := oa.sz
        have hs2 := ob.sz
        have hn1 := oa.nst
        have hn2 := ob.nst
        refine q _ _ (.cond t ba bb .nil) (1 + ca + cb) ⟨((((eA.trans (ExC.ofB x4)).trans (ExC.ofB e5)).trans oa.ex).trans ob.ex).trans (ExC.of f), hI8.pot, ?_, by omega, ⟨b, v5, ta, tb, ua, ub, [], rfl, upd_same, TmAt.mono (eT5.trans (ExT.of f)) t1, f _ _ (eT _ _ ha), (oa.at_.mono eT).ex f, f _ _ hb7, ob.at_.ex f, rfl⟩, by simp only [nest]; omega, by simp only [szB]; omega, ⟨⟨t2, by omega⟩, oa.wd, ob.wd, True.intro⟩⟩
        rw [show R - ((1 + ca + cb : Nat) : Int) = R - 1 - (ca : Int) - (cb : Int) by omega]
        exact hI8.room
theorem ok__law_body {f f1 f2 : Addr} {fd fd1 fd2 : FuncData} (F : Fun K "_law_body" "_law_body" s__law_body f fd) (B : Bi K w mg dA dT dG qa qo qx qv qm) {N k : Nat} (hk : 1 ≤ k) (D__law_take : Df P w K mg base CX0 "_law_take" 1 f1 fd1 ["_law_pot_here", "_law_many"] (spTake)) (D__law_statement : Df P w K mg base CX0 "_law_statement" (k) f2 fd2 ["_law_pot_here", "_law_widths", "_law_ways", "_law_deep", "_law_room"] (spStmK N)) : FnOk P w K mg base CX0 (k + 1) f fd ["_law_pot_here", "_law_widths", "_law_ways", "_law_deep", "_law_room"] (spBodyK (N + 1)) := by
  refine F.ok sc__law_body (fun vs H Q E h => ?_) (fun cdv A outer s H vs Q E hr h => ?_)
  · obtain ⟨p, qd, d, r, n, R, ws, wy, rfl, _⟩ := h
    all_goals rfl
  · obtain ⟨p, qd, d, r, n, R, ws, wy, rfl, hn, hR0, hI, q⟩ := h
    refine ⟨_, (pss_cons (ps_set (i := 5) sc__law_body.nd rfl (Or.inl rfl) (pe_lst pa_nil))
      (pss_cons (ps_for PassesOwn.never rfl (pi_range1 (by rfl) B.range (pa_cons (pe_call D__law_take.ok (hr.mono (by omega)) (by rfl) D__law_take.g D__law_take.kp D__law_take.b .nil pass0 (pa_cons (pv 0) (pa_cons pe_int pa_nil))) pa_nil)) (pg_name (i := 6) sc__law_body.nd rfl (Or.inl rfl)) (pss_one (ps_if (pt_cmpR op_gt (pe_ix ix_list (pv 4) pe_int (fun _ _ => rfl)) pe_int (nomark _)) (pss_one (ps_expr (pe_bm PySem.F.plainAttrs_list PySem.F.slot_list_append PySem.F.type_list_append mt_append (pv 5) (pa_cons (pe_call D__law_statement.ok (hr.mono (by omega)) (by rfl) D__law_statement.g D__law_statement.kp D__law_statement.b .nil pass0 (pa_cons (pv 0) (pa_cons (pv 1) (pa_cons (pv 2) (pa_cons (pv 3) (pa_cons (pv 4) pa_nil)))))) pa_nil)))) pss_nil)))
      (pss_one (ps_ret (pe_callTy call_tuple_of (by rfl) B.tuple (by decide +kernel) (pa_cons (pv 5) pa_nil)))))), ?_⟩
    refine q_asgL (xs := []) (el_lst ea_nil (by decide)) fun g H1 ng e1 hg => ?_
    have hI1 := hI.ex e1
    have ngp := hI.pot.ne ng
    have ngr : g ≠ r := fun z => by rw [z, hI.room] at ng; cases ng
    have nqg : qd ≠ g := fun z => by
      have := hI.wsa
      rw [z] at this
      have this : H g = some (.dK (wsK ws)) := this
      rw [ng] at this
      cases this
    have ndg : d ≠ g := fun z => by
      have := hI.wya
      rw [z] at this
      have this : H g = some (.dK (wyK wy)) := this
      rw [ng] at this
      cases this
    refine p_forR1 (m := 4) ((evp_take rfl (by decide) (by decide)).mono fun v _ h => by
      obtain ⟨d, h, h0, h1⟩ := h
      exact ⟨d, h, h0, by omega⟩) (by decide) hI1.pot (fun i σ' H' => ∃ a6 us b c, σ' = [some (.ref p), some (.ref qd), some (.ref d), some (.int (n : Int)), some (.ref r), some (.ref g), a6] ∧ H' g = some (.lst us) ∧ us.length ≤ i ∧ BdOut p r ws n R H H' us b c)
      (fun H2 e2 hP2 => ⟨none, [], .nil, 0, rfl, e2 _ _ ngp hg, Nat.le_refl _, ⟨(ExC.of e1).trans (ExC.ofB e2), hP2, by have := (hI1.exB e2 hP2).room; simpa using this, by omega, rfl, Nat.zero_le _, Nat.le_refl _, True.intro⟩⟩) (fun i σ' H2 hi hv => ?_) (fun k σ' H2 hk hv => ?_)
    · obtain ⟨a6, us, b, c, rfl, hg2, hul, o⟩ := hv
      have hI2 := hI.exC o.ex o.pot o.room
      have l2 := o.left
      refine s_if (b := decide (R - (c : Int) > 0)) (et_test (ev_op (ev_op (ev_var rfl) ev_c (rv_ixL (sq_of o.room) (atI_nat (j := 0) rfl))) ev_c rv_I0)) (fun hb H3 e3 => ?_) (fun hb H3 e3 => ?_)
      · have hb := of_decide_eq_true hb
        refine ⟨_, rfl, .inl ⟨rfl, _, sq_of (e3 _ _ hg2)⟩, _, rfl, _, rfl, _, rfl, _, rfl, _, rfl, p, qd, d, r, n, R - (c : Int), ws, wy, rfl, by omega, hb, hI2.ex e3, fun H4 v b2 c2 o2 => ?_⟩
        have hg4 : H4 g = some (.lst us) := o2.ex _ _ ngp ngr (e3 _ _ hg2)
        refine ⟨g, _, _, rfl, rfl, hg4, sz_lt (by omega), ?_⟩
        have eT : ExT H2 (L2.upd H4 g (.lst (us ++ [v]))) := ((ExT.of e3).trans (ExT.ofC (hI2.ex e3).pot (RoomAt.is (hI2.ex e3).room) o2.ex)).upd hg4
        have eT4 : ExT H4 (L2.upd H4 g (.lst (us ++ [v]))) := (ExT.refl H4).upd hg4
        have l4 := o2.left
        have s1 := o.sz
        have s2 := o2.sz
        have n1 := o.nst
        have n2 := o2.nst
        refine ⟨_, us ++ [v], appB b b2, c + c2, rfl, upd_same, by simp; omega, ⟨?_, o2.pot.upd ngp, ?_, by omega, app_at (o2.at_.mono eT4) (o.at_.mono eT), by rw [app_nest]; omega, by rw [app_sz]; omega, app_wd o2.wd o.wd⟩⟩
        · have e4 : ExC p r H H4 := (o.ex.trans (ExC.of e3)).trans o2.ex
          intro x y h1 h2 h3
          rw [upd_ne (fun z => by rw [z, ng] at h3; cases h3)]
          exact e4 x y h1 h2 h3
        · rw [upd_ne ngr.symm, o2.room]
          congr 4
          omega
      · exact ⟨_, us, b, c, rfl, e3 _ _ hg2, by omega, ⟨o.ex.trans (ExC.of e3), o.pot.ex e3, e3 _ _ o.room, o.left, o.at_.ex e3, o.nst, o.sz, o.wd⟩⟩
    · obtain ⟨a6, us, b, c, rfl, hg2, hul, o⟩ := hv
      refine ⟨_, rfl, g, us, rfl, .inl ⟨sq_of hg2, fun t nt => ?_⟩⟩
      have f := Ex.new (o := .tup us) nt
      exact q _ t us b c upd_same ⟨o.ex.trans (ExC.of f), o.pot.ex f, f _ _ o.room, o.left, o.at_.ex f, o.nst, o.sz, o.wd⟩
theorem ok__law_scene {f f1 f2 f3 : Addr} {fd fd1 fd2 fd3 : FuncData} (F : Fun K "_law_scene" "_law_scene" s__law_scene f fd) (B : Bi K w mg dA dT dG qa qo qx qv qm)  (D__law_take : Df P w K mg base CX0 "_law_take" 1 f1 fd1 ["_law_pot_here", "_law_many"] (spTake)) (D__law_name : Df P w K mg base CX0 "_law_name" 3 f2 fd2 ["_law_pot_here", "_law_taken"] (spNameK)) (D__law_width : Df P w K mg base CX0 "_law_width" 2 f3 fd3 ["_law_pot_here"] (spWidthK)) : FnOk P w K mg base CX0 (4) f fd ["_law_pot_here"] (spSceneK) := by
  refine F.ok sc__law_scene (fun vs H Q E h => ?_) (fun cdv A outer s H vs Q E hr h => ?_)
  · obtain ⟨p, rfl, _⟩ := h
    all_goals rfl
  · obtain ⟨p, rfl, hP, q⟩ := h
    refine ⟨_, (pss_cons (ps_par3 (i := 2) (j := 3) (l := 4) (by rfl) sc__law_scene.nd rfl rfl rfl  (by decide) (by decide) (by decide)  rfl rfl rfl  (pa_cons (pe_lst pa_nil) (pa_cons pe_dnewK (pa_cons pe_dnewK pa_nil))) (by rfl))
      (pss_cons (ps_for PassesOwn.never rfl (pi_range1 (by rfl) B.range (pa_cons (pe_op op_add pe_int (pe_call D__law_take.ok (hr.mono (by decide)) (by rfl) D__law_take.g D__law_take.kp D__law_take.b .nil pass0 (pa_cons (pv 0) (pa_cons pe_int pa_nil)))) pa_nil)) (pg_name (i := 1) sc__law_scene.nd rfl (Or.inl rfl)) (pss_one (ps_dput (hu_of hr) (pv 3) (pe_call D__law_name.ok (hr.mono (by decide)) (by rfl) D__law_name.g D__law_name.kp D__law_name.b .nil pass0 (pa_cons (pv 0) (pa_cons (pv 2) pa_nil))) (pe_call D__law_width.ok (hr.mono (by decide)) (by rfl) D__law_width.g D__law_width.kp D__law_width.b .nil pass0 (pa_cons (pv 0) pa_nil)) rfl)))
      (pss_cons (ps_for PassesOwn.never rfl (pi_range1 (by rfl) B.range (pa_cons (pe_op op_add pe_int (pe_call D__law_take.ok (hr.mono (by decide)) (by rfl) D__law_take.g D__law_take.kp D__law_take.b .nil pass0 (pa_cons (pv 0) (pa_cons pe_int pa_nil)))) pa_nil)) (pg_name (i := 1) sc__law_scene.nd rfl (Or.inl rfl)) (pss_cons (ps_set (i := 5) sc__law_scene.nd rfl (Or.inl rfl) (pe_call D__law_name.ok (hr.mono (by decide)) (by rfl) D__law_name.g D__law_name.kp D__law_name.b .nil pass0 (pa_cons (pv 0) (pa_cons (pv 2) pa_nil))))
      (pss_cons (ps_dput (hu_of hr) (pv 3) (pv 5) (pe_call D__law_width.ok (hr.mono (by decide)) (by rfl) D__law_width.g D__law_width.kp D__law_width.b .nil pass0 (pa_cons (pv 0) pa_nil)) rfl)
      (pss_one (ps_dput (hu_of hr) (pv 4) (pv 5) (pe_ix ix_list (pe_lst (pa_cons pe_str (pa_cons pe_str pa_nil))) (pe_call D__law_take.ok (hr.mono (by decide)) (by rfl) D__law_take.g D__law_take.kp D__law_take.b .nil pass0 (pa_cons (pv 0) (pa_cons pe_int pa_nil))) (fun _ _ => rfl)) rfl)))))
      (pss_one (ps_ret (pe_tup (pa_cons (pv 3) (pa_cons (pv 4) pa_nil)))))))), ?_⟩
    refine ⟨by show 0 ≤ sizeLine; decide, fun g ng qd nq d nd => ⟨_, _, _, rfl, ?_⟩⟩
    have e1 := Ex.new (o := .lst []) ng
    have h1 : L2.upd H g (.lst []) g = some (.lst []) := upd_same
    generalize L2.upd H g (.lst []) = H1 at e1 h1 nq nd ⊢
    have e2 := Ex.new (o := .dK []) nq
    have h2 : L2.upd H1 qd (.dK []) qd = some (.dK []) := upd_same
    generalize L2.upd H1 qd (.dK []) = H2 at e2 h2 nd ⊢
    have e3 := Ex.new (o := .dK []) nd
    have h3 : L2.upd H2 d (.dK []) d = some (.dK []) := upd_same
    generalize L2.upd H2 d (.dK []) = H3 at e3 h3 ⊢
    have I0 : ScIn H H3 p g qd d [] [] := ⟨ExB.of ((e1.trans e2).trans e3), hP.ex ((e1.trans e2).trans e3), e3 _ _ (e2 _ _ h1), e3 _ _ h2, h3, ⟨.nil, (fun y hy => by cases hy)⟩, .nil, (fun y hy => by cases hy), hP.ne ng, ⟨ng, fresh_back e1 nq, fresh_back (e1.trans e2) nd⟩, fun z => by rw [← z, h2] at nd; cases nd⟩
    refine p_forR1L (lo := 1) (m := 4) ((evp_add (evp_take rfl (by decide) (by decide))).mono fun v _ h => by
      obtain ⟨d, h, h0, h1⟩ := h
      exact ⟨d, h, h0, by omega⟩) (by decide) (by decide) I0.pot (fun i σ' H' => ∃ ws a1, σ' = [some (.ref p), a1, some (.ref g), some (.ref qd), some (.ref d), none] ∧ ScIn H H' p g qd d ws [] ∧ ws.length ≤ i)
      (fun H4 e4 hP4 => ⟨[], none, rfl, I0.exB e4 hP4, Nat.le_refl _⟩) (fun i σ' H4 hi hv => ?_) (fun k σ' H4 hk0 hk hv => ?_)
    · obtain ⟨ws, a1, rfl, I4, hl⟩ := hv
      refine ⟨_, rfl, p, rfl, I4.pot, fun H5 m e5 hP5 m1 m8 => ?_⟩
      have I5 := I4.exB e5 hP5
      refine ⟨_, rfl, _, rfl, _, rfl, p, g, ws.map (·.1), rfl, hP5, I5.ng, I5.tk, by rw [List.length_map]; omega, fun H6 x e6 hP6 hg6 hx hn => ?_⟩
      obtain ⟨k1, k2, k3⟩ := I5.exC e6
      refine ⟨qd, _, rfl, .inl ⟨_, Sum.inr x, k1, rfl, by unfold wsK; rw [List.length_map]; exact sz_lt (by omega), rfl⟩, ?_⟩
      rw [putK_ws hn]
      exact ⟨_, _, rfl, I5.add e6 hP6 hg6 hx hn m1 m8, by simp; omega⟩
    obtain ⟨ws, a1, rfl, I4, hl⟩ := hv
    refine p_forR1L (lo := 1) (m := 4) ((evp_add (evp_take rfl (by decide) (by decide))).mono fun v _ h => by
      obtain ⟨d, h, h0, h1⟩ := h
      exact ⟨d, h, h0, by omega⟩) (by decide) (by decide) I4.pot (fun i σ' H' => ∃ ws wy a1 a5, σ' = [some (.ref p), a1, some (.ref g), some (.ref qd), some (.ref d), a5] ∧ ScIn H H' p g qd d ws wy ∧ ws.length ≤ 4 + i ∧ wy.length = i)
      (fun H5 e5 hP5 => ⟨ws, [], _, _, rfl, I4.exB e5 hP5, by omega, rfl⟩) (fun i σ' H5 hi hv => ?_) (fun k2 σ' H5 hk0 hk hv => ?_)
    · obtain ⟨ws, wy, a1, a5, rfl, I5, hl, hy⟩ := hv
      refine ⟨_, rfl, _, rfl, p, g, ws.map (·.1), rfl, I5.pot, I5.ng, I5.tk, by rw [List.length_map]; omega, fun H6 x e6 hP6 hg6 hx hn => g_name ?_⟩
      dsimp only
      refine ⟨_, rfl, p, rfl, hP6, fun H7 m e7 hP7 m1 m8 => ?_⟩
      have e67 := e6.trans (ExC.ofB (r := g) e7)
      have hg7 := e7 _ _ I5.ng hg6
      obtain ⟨k1, k2, k3⟩ := I5.exC e67
      refine ⟨_, rfl, _, rfl, qd, _, rfl, .inl ⟨_, Sum.inr x, k1, rfl, by unfold wsK; rw [List.length_map]; exact sz_lt (by omega), rfl⟩, ?_⟩
      rw [putK_ws hn]
      have I8 := I5.add e67 hP7 hg7 hx hn m1 m8
      generalize L2.upd H7 qd (.dK (wsK (ws ++ [(x, m)]))) = H8 at I8 ⊢
      refine evp_lit (p := p) (K := K) (H := H8) (vs := [.str "now", .str "later"]) (fun _ => ea_cons ev_c (ea_cons ev_c ea_nil)) (by decide) (evp_take rfl (by decide) (by decide)) H8 (ExB.refl _ _) I8.pot _ fun v H9 e9 hP9 hv => ?_
      have I9 := I8.exB e9 hP9
      obtain ⟨l, rfl⟩ : ∃ l : Bool, v = .str (wayS l) := by
        simp only [List.mem_cons, List.not_mem_nil, or_false] at hv
        rcases hv with rfl | rfl
        · exact ⟨false, rfl⟩
        · exact ⟨true, rfl⟩
      have hnw : x ∉ wy.map (·.1) := fun z => by
        obtain ⟨y, hy1, hy2⟩ := List.mem_map.mp z
        obtain ⟨m', hm'⟩ := I5.mem y hy1
        exact hn (List.mem_map.mpr ⟨_, hm', hy2⟩)
      refine ⟨_, rfl, _, rfl, d, _, rfl, .inl ⟨_, Sum.inr x, I9.wya, rfl, by unfold wyK; rw [List.length_map]; exact sz_lt (by omega), rfl⟩, ?_⟩
      rw [putK_wy hnw]
      exact ⟨_, _, _, _, rfl, I9.way (m := m) (List.mem_append_right _ (List.mem_singleton.mpr rfl)) hnw, by simp; omega, by simp [hy]⟩
    · obtain ⟨ws, wy, a1, a5, rfl, I5, hl, hy⟩ := hv
      refine ⟨_, rfl, _, rfl, by show 2 ≤ sizeLine; decide, fun t nt => ?_⟩
      have f := Ex.new (o := .tup [V.ref qd, .ref d]) nt
      exact q _ t qd d ws wy (I5.ex.trans (ExB.of f)) (I5.pot.ex f) upd_same (I5.wsa.ex f) (I5.wya.ex f) I5.ok (by omega) ⟨I5.nd, fun z => by rw [z] at hy; simp at hy; omega, by omega, I5.mem⟩
theorem ok__law_values {f f1 : Addr} {fd fd1 : FuncData} (F : Fun K "_law_values" "_law_values" s__law_values f fd) (B : Bi K w mg dA dT dG qa qo qx qv qm)  (D__law_signs : Df P w K mg base CX0 "_law_signs" 2 f1 fd1 ["_law_pot_here", "_law_width_here", "_law_signs_here"] (spSigns)) : FnOk P w K mg base CX0 (3) f fd ["_law_pot_here", "_law_widths", "_law_ways", "_law_signs_here"] (spValues45) := by
  refine F.ok sc__law_values (fun vs H Q E h => ?_) (fun cdv A outer s H vs Q E hr h => ?_)
  · obtain ⟨p, qd, d, ss, ws, wy, rfl, _⟩ := h
    all_goals rfl
  · obtain ⟨p, qd, d, ss, ws, wy, rfl, hP, hW, hY, hok, hz, hss, q⟩ := h
    refine ⟨_, (pss_cons (ps_set (i := 4) sc__law_values.nd rfl (Or.inl rfl) pe_dnewK)
      (pss_cons (ps_lock (ps_for PassesOwn.never rfl (pi_keys (pv 1)) (pg_name (i := 5) sc__law_values.nd rfl (Or.inl rfl)) (pss_one (ps_dput (hu_of hr) (pv 4) (pv 5) (pe_call D__law_signs.ok (hr.mono (by decide)) (by rfl) D__law_signs.g D__law_signs.kp D__law_signs.b .nil pass0 (pa_cons (pv 0) (pa_cons (pe_dget (hu_of hr) (pv 1) (pv 5) (fun _ _ => rfl)) (pa_cons (pe_ifIn (pv 5) (pv 2) (CwR.pet_replC (pv 3) (by decide +kernel)) (pv 3) rfl) pa_nil)))) rfl))))
      (pss_one (ps_ret (pv 4))))), ?_⟩
    obtain ⟨hsg, hs0, hs1, sr, hrep, hrg, hr0, hr1⟩ := hss
    refine fun g ng => g_name ?_
    dsimp only
    have e0 := Ex.new (o := .dK []) ng
    have hg0 : L2.upd H g (.dK []) g = some (.dK []) := upd_same
    generalize L2.upd H g (.dK []) = H0 at e0 hg0 ⊢
    have hW0 : H0 qd = some (.dK (wsK ws)) := e0 _ _ hW
    have hP0 := hP.ex e0
    have nqp : qd ≠ p := by
      obtain ⟨x, y, h1, _⟩ := hP0
      exact WsAt.ne hW0 h1
    have nqg : qd ≠ g := fun z => by
      have h : H qd = some (.dK (wsK ws)) := hW
      rw [z, ng] at h
      cases h
    have ndg : d ≠ g := fun z => by
      have h : H d = some (.dK (wyK wy)) := hY
      rw [z, ng] at h
      cases h
    have ngp := hP.ne ng
    have ndp : d ≠ p := by
      obtain ⟨x, y, h1, _⟩ := hP
      exact hY.ne h1
    refine q_forKs (kvs := wsK ws) hW0 (fun H1 => ev_var rfl) (fun i σ' H' => ∃ vl a5, σ' = [some (.ref p), some (.ref qd), some (.ref d), some (.str (Tx ss)), some (.ref g), a5] ∧ H' g = some (.dK (ysK vl)) ∧ vl.map (·.1) = (ws.take i).map (·.1) ∧ (∀ y ∈ vl, ∃ m, (y.1, m) ∈ ws ∧ y.2.length = m ∧ Sg y.2) ∧ ExB p H H' ∧ PotAt H' p)
      (fun od H1 e1 => ⟨[], none, rfl, ?_, rfl, (fun y hy => by cases hy), fun b o n hb => ?_, ?_⟩) (fun i k x od σ' H1 hkx hf hv => ?_) (fun σ' H1 hv => ?_)
    · rw [upd_ne nqg.symm]
      exact e1 _ _ (by rw [upd_ne nqg.symm]; exact hg0)
    · by_cases hbq : b = qd
      · subst hbq
        rw [upd_same]
        have h : H b = some (.dK (wsK ws)) := hW
        rw [h] at hb
        exact hb
      · rw [upd_ne hbq]
        exact e1 _ _ (by rw [upd_ne hbq]; exact e0 _ _ hb)
    · refine PotAt.upd ?_ nqp
      exact (PotAt.upd hP0 nqp).ex e1
    · obtain ⟨vl, a5, rfl, hg1, hkeys, hall, eB, hPu⟩ := hv
      obtain ⟨a, hai, hgd, ham, rfl, rfl⟩ := ws_key hkx
      have hP1 : PotAt H1 p := by
        obtain ⟨u, v, h1, r⟩ := hPu
        rw [upd_ne nqp.symm] at h1
        exact ⟨u, v, h1, r⟩
      have hg1' : H1 g = some (.dK (ysK vl)) := by
        rw [upd_ne nqg.symm] at hg1
        exact hg1
      have M := hok.2 a ham
      have ndq : d ≠ qd := fun z => by
        have h1 : H d = some (.dK (wyK wy)) := hY
        have h2 : H qd = some (.dK (wsK ws)) := hW
        rw [z, h2] at h1
        have h3 : wsK ws = wyK wy := HO.dK.inj (Option.some.inj h1)
        have h4 : (Sum.inr a.1, V.int (a.2 : Int)) ∈ wyK wy := by
          rw [← h3]
          exact List.mem_map.mpr ⟨a, ham, rfl⟩
        obtain ⟨y, _, h5⟩ := List.mem_map.mp h4
        cases (Prod.mk.inj h5).2
      have hY1 : H1 d = some (.dK (wyK wy)) := by
        have := eB d _ ndp hY
        rw [upd_ne ndq] at this
        exact this
      have vlen : vl.length ≤ ws.length := by
        have := congrArg List.length hkeys
        rw [List.length_map, List.length_map, List.length_take] at this
        omega
      have hnew : a.1 ∉ vl.map (·.1) := fun z => by
        rw [hkeys] at z
        obtain ⟨y, hy, hy1⟩ := List.mem_map.mp z
        obtain ⟨j, hj⟩ := List.getElem?_of_mem hy
        rw [List.getElem?_take] at hj
        split at hj
        · rename_i hji
          have e1 : (ws.map (·.1))[j]? = some a.1 := by rw [List.getElem?_map, hj]; exact congrArg some hy1
          have e2 : (ws.map (·.1))[i]? = some a.1 := by rw [List.getElem?_map, hai]; rfl
          have hjl : j < (ws.map (·.1)).length := (List.getElem?_eq_some_iff.mp e1).1
          have := (List.getElem?_inj hjl hok.1).mp (e1.trans e2.symm)
          omega
        · cases hj
      have fin : ∀ (st : List Nat) H2, Sg st → 0 < st.length → st.length ≤ 10 → Ex H1 H2 → spSigns [.ref p, .int (a.2 : Int), .str (Tx st)] H2 (fun v H3 => ∃ l : List Nat, v = .str (Tx l) ∧ l.length = a.2 ∧ Sg l ∧ ExB p H1 H3 ∧ PotAt H3 p) (fun _ _ _ => False) := fun st H2 g1 g2 g3 e2 => by
        refine ⟨p, a.2, st, rfl, hP1.ex e2, M.2.1, g2, by omega, fun H3 l e3 hP3 hl hs => ⟨l, rfl, hl, fun c hc => g1 c (hs c hc), (ExB.of e2).trans e3, hP3⟩⟩
      have done : ∀ (l : List Nat) H3, l.length = a.2 → Sg l → ExB p H1 H3 → PotAt H3 p → ∃ (a' : Addr) (H4 : Hp), V.ref g = .ref a' ∧ DPut H3 a' (V.str a.1) (V.str (Tx l)) H4 ∧ (H4 qd = some (.frz od (.dK (wsK ws))) ∧ ∃ vl' a5', [some (V.ref p), some (V.ref qd), some (V.ref d), some (V.str (Tx ss)), some (V.ref g), some (V.str a.1)] = [some (.ref p), some (.ref qd), some (.ref d), some (.str (Tx ss)), some (.ref g), a5'] ∧ L2.upd H4 qd (.dK (wsK ws)) g = some (.dK (ysK vl')) ∧ vl'.map (·.1) = (ws.take (i + 1)).map (·.1) ∧ (∀ y ∈ vl', ∃ m, (y.1, m) ∈ ws ∧ y.2.length = m ∧ Sg y.2) ∧ ExB p H (L2.upd H4 qd (.dK (wsK ws))) ∧ PotAt (L2.upd H4 qd (.dK (wsK ws))) p) := fun l H3 hl hs e3 hP3 => by
        have hg3 := e3 _ _ ngp hg1'
        refine ⟨g, _, rfl, .inl ⟨_, Sum.inr a.1, hg3, rfl, by unfold ysK; rw [List.length_map]; exact sz_lt (by omega), rfl⟩, ?_, putY vl a.1 l, _, rfl, ?_, ?_, ?_, ?_, ?_⟩
        · rw [upd_ne nqg]
          exact e3 _ _ nqp hf
        · rw [upd_ne nqg.symm, upd_same, ysK_put]
        · have hp : putY vl a.1 l = vl ++ [(a.1, l)] := by
            unfold putY
            rw [if_neg]
            rw [Bool.not_eq_true, List.any_eq_false]
            intro y hy
            simp only [decide_eq_true_eq]
            exact fun z => hnew (List.mem_map.mpr ⟨y, hy, z⟩)
          rw [hp, List.map_append, hkeys, List.take_succ, hai, List.map_append]
          rfl
        · intro y hy
          rcases putY_mem hy with h | h
          · exact hall y h
          · subst h
            exact ⟨a.2, ham, hl, hs⟩
        · intro c o n hc
          by_cases hcq : c = qd
          · subst hcq
            rw [upd_same]
            have h : H c = some (.dK (wsK ws)) := hW
            rw [h] at hc
            exact hc
          · rw [upd_ne hcq, upd_ne (fun z => by rw [z, ng] at hc; cases hc)]
            have := eB c o n hc
            rw [upd_ne hcq] at this
            exact e3 _ _ n this
        · exact PotAt.upd (PotAt.upd hP3 ngp) nqp
      refine ⟨_, rfl, ?_⟩
      refine ev_dget (td := tVar 1) (ty := tVar 5) (a := qd) (kvs := wsK ws) (s := a.1) (v := .int (a.2 : Int)) (ev_var rfl) (ev_var rfl) (.inr ⟨od, hf⟩) (valV_ws hok.1 ham) H1 (Ex.refl _) _ fun H2 e2 => ?_
      refine ⟨_, rfl, _, rfl, a.1, d, wyK wy, rfl, rfl, .inl (e2 _ _ hY1), ?_⟩
      split
      · refine ⟨_, rfl, Tx ss, rfl, ?_, ?_⟩
        · rw [Tx_len]
          show ss.length + (ss.length + 1) * 0 ≤ 16777216
          omega
        · rw [hrep]
          obtain ⟨p', m', st', h1, h2, h3, h4, h5, h6⟩ := fin sr H2 hrg hr0 hr1 e2
          refine ⟨p', m', st', h1, h2, h3, h4, h5, fun H3 l x3 y3 z3 w3 => ?_⟩
          obtain ⟨l', k1, k2, k3, k4, k5⟩ := h6 H3 l x3 y3 z3 w3
          rw [k1]
          exact ⟨_, rfl, _, rfl, done l' H3 k2 k3 k4 k5⟩
      · refine ⟨_, rfl, ?_⟩
        obtain ⟨p', m', st', h1, h2, h3, h4, h5, h6⟩ := fin ss H2 hsg hs0 hs1 e2
        refine ⟨p', m', st', h1, h2, h3, h4, h5, fun H3 l x3 y3 z3 w3 => ?_⟩
        obtain ⟨l', k1, k2, k3, k4, k5⟩ := h6 H3 l x3 y3 z3 w3
        rw [k1]
        exact ⟨_, rfl, _, rfl, done l' H3 k2 k3 k4 k5⟩
    · obtain ⟨vl, a5, rfl, hg1, hkeys, hall, eB, hPu⟩ := hv
      have hll : (wsK ws).length = ws.length := List.length_map _
      rw [hll, List.take_length] at hkeys
      exact s_ret (ev_var rfl) fun H2 e2 => q g H2 vl ng (eB.trans (ExB.of e2)) (hPu.ex e2) (e2 _ _ hg1) ⟨hkeys, hall⟩
theorem ok__law_fillings {f  : Addr} {fd  : FuncData} (F : Fun K "_law_fillings" "_law_fillings" s__law_fillings f fd) (B : Bi K w mg dA dT dG qa qo qx qv qm)   : FnOk P w K mg base CX0 (1) f fd ["_law_many"] (spFillK) := by
  refine F.ok sc__law_fillings (fun vs H Q E h => ?_) (fun cdv A outer s H vs Q E hr h => ?_)
  · obtain ⟨n, rfl, _⟩ := h
    all_goals rfl
  · obtain ⟨n, rfl, h8, q⟩ := h
    refine ⟨_, (pss_cons (ps_set (i := 1) sc__law_fillings.nd rfl (Or.inl rfl) (pe_lst (pa_cons pe_str pa_nil)))
      (pss_cons (ps_for PassesOwn.never rfl (pi_range1 (by rfl) B.range (pa_cons (pv 0) pa_nil)) (pg_name (i := 2) sc__law_fillings.nd rfl (Or.inl rfl)) (pss_one (ps_set (i := 1) sc__law_fillings.nd rfl (Or.inl rfl) (pe_op op_cat (pe_lc (own := [("_law_signs_here", 3)]) (g := gName 3) (tt := tYes) (by rfl) sc__law_fillings.nd (pi_list (pv 1)) (blkOk_by (own := [("_law_signs_here", 3)]) (N := N__law_fillings) (sc := defScope s__law_fillings) (by decide +kernel)) (fun _ _ _ _ _ => pg_name (i := 3) sc__law_fillings.nd rfl (Or.inl rfl)) (fun _ _ _ _ _ => pts_nil) (fun _ _ _ _ _ => (pe_op op_add_str (pv 3) pe_str))) (pe_lc (own := [("_law_signs_here", 3)]) (g := gName 3) (tt := tYes) (by rfl) sc__law_fillings.nd (pi_list (pv 1)) (blkOk_by (own := [("_law_signs_here", 3)]) (N := N__law_fillings) (sc := defScope s__law_fillings) (by decide +kernel)) (fun _ _ _ _ _ => pg_name (i := 3) sc__law_fillings.nd rfl (Or.inl rfl)) (fun _ _ _ _ _ => pts_nil) (fun _ _ _ _ _ => (pe_op op_add_str (pv 3) pe_str)))))))
      (pss_one (ps_ret (pv 1))))), ?_⟩
    refine q_asgL (xs := [V.str (Tx [])]) (el_lst (ea_cons ec_e ea_nil) (by simp)) fun g0 H1 ng0 e1 hg0 => ?_
    refine q_forR1 (n := (n : Int)) (ea_cons (ev_var rfl) ea_nil) ⟨by omega, by omega⟩ (fun i σ' H' => ∃ g a2, ∃ ls : List (List Nat), σ' = [some (.int (n : Int)), some (.ref g), a2, none] ∧ H' g = some (.lst (ls.map fun l => V.str (Tx l))) ∧ (∀ l ∈ ls, l.length = i ∧ Kn l) ∧ ls.length ≤ 2 ^ i ∧ H g = none ∧ Ex H H')
      (fun H2 e2 => ⟨g0, none, [[]], rfl, e2 _ _ hg0, (fun l hl => by rw [List.mem_singleton.mp hl]; exact ⟨rfl, fun c hc => by cases hc⟩), by simp, ng0, e1.trans e2⟩) (fun i σ' H2 hi hv => ?_) (fun σ' H2 hv => ?_)
    · obtain ⟨g, a2, ls, rfl, hg, hall, hlen, ng, x2⟩ := hv
      have hi8 : i < 8 := by omega
      have hp : ls.length ≤ 128 := by
        have : 2 ^ i ≤ 2 ^ 7 := Nat.pow_le_pow_right (by decide) (by omega)
        omega
      refine (el_cat (el_lcV (fun l => V.str (Tx (l ++ [48]))) (ev_var rfl) (sq_of hg) (by omega) (fun x => rfl) fun l H3 e3 hl => ev_addT (ev_var rfl) ec_0 (by rw [(hall l hl).1]; simp; omega)) (el_lcV (fun l => V.str (Tx (l ++ [49]))) (ev_var rfl) (sq_of hg) (by omega) (fun x => rfl) fun l H3 e3 hl => ev_addT (ev_var rfl) ec_1 (by rw [(hall l hl).1]; simp; omega)) (by simp; omega)) H2 (Ex.refl _) _ fun p H3 np e3 hp3 => g_name ?_
      refine ⟨p, _, ls.map (fun l => l ++ [48]) ++ ls.map (fun l => l ++ [49]), rfl, ?_, fun l hl => ?_, ?_, fresh_back x2 np, x2.trans e3⟩
      · rw [hp3, List.map_append, List.map_map, List.map_map]
        rfl
      · rcases List.mem_append.mp hl with h | h
        · obtain ⟨m, hm, rfl⟩ := List.mem_map.mp h
          obtain ⟨k1, k2⟩ := hall m hm
          exact ⟨by simp [k1], fun c hc => by
            rcases List.mem_append.mp hc with z | z
            · exact k2 c z
            · exact .inl (List.mem_singleton.mp z)⟩
        · obtain ⟨m, hm, rfl⟩ := List.mem_map.mp h
          obtain ⟨k1, k2⟩ := hall m hm
          exact ⟨by simp [k1], fun c hc => by
            rcases List.mem_append.mp hc with z | z
            · exact k2 c z
            · exact .inr (List.mem_singleton.mp z)⟩
      · rw [List.length_append, List.length_map, List.length_map, Nat.pow_succ]
        omega
    · obtain ⟨g, a2, ls, rfl, hg, hall, hlen, ng, x2⟩ := hv
      have hp : ls.length ≤ 256 := by
        have : 2 ^ ((n : Int).toNat) ≤ 2 ^ 8 := Nat.pow_le_pow_right (by decide) (by omega)
        omega
      exact s_ret (ev_var rfl) fun H3 e3 => q g H3 ls ng (x2.trans e3) (e3 _ _ hg) (fun l hl => by
        have := hall l hl
        rwa [Int.toNat_natCast] at this) hp
theorem ok__law_is_so {f  : Addr} {fd  : FuncData} (F : Fun K "_law_is_so" "_law_is_so" s__law_is_so f fd) (B : Bi K w mg dA dT dG qa qo qx qv qm)   : FnOk P w K mg base CX0 (1) f fd ["_law_one", "_law_other"] (spSoK) := by
  refine F.ok sc__law_is_so (fun vs H Q E h => ?_) (fun cdv A outer s H vs Q E hr h => ?_)
  · obtain ⟨a, b, rfl, _⟩ := h
    all_goals rfl
  · obtain ⟨a, b, rfl, h, hz, q⟩ := h
    refine ⟨_, (pss_cons (ps_if (pt_cmpR op_ne (pe_callB call_len_str (by rfl) B.len PySem.boot_len (pa_cons (pv 0) pa_nil)) (pe_callB call_len_str (by rfl) B.len PySem.boot_len (pa_cons (pv 1) pa_nil)) (nomark _)) (pss_one (ps_ret pe_bl)) pss_nil)
      (pss_one (ps_ret (pe_callB (cr_all rfl) (by rfl) B.all (by decide +kernel) (pa_cons (pe_lc (own := [("_law_a", 2), ("_law_b", 3)]) (g := gTup K 2 (gCons (gName 2) (gCons (gName 3) gNil))) (tt := tYes) (by rfl) sc__law_is_so.nd (pi_zipS (by rfl) B.zip (pa_cons (pv 0) (pa_cons (pv 1) pa_nil))) (blkOk_by (own := [("_law_a", 2), ("_law_b", 3)]) (N := N__law_is_so) (sc := defScope s__law_is_so) (by decide +kernel)) (fun _ _ _ _ _ => (pg_tup rfl (pgs_cons (pg_name (i := 2) sc__law_is_so.nd rfl (Or.inl rfl) (Or.inr rfl)) (pgs_cons (pg_name (i := 3) sc__law_is_so.nd rfl (Or.inl rfl) (Or.inr rfl)) pgs_nil)))) (fun _ _ _ _ _ => pts_nil) (fun _ _ _ _ _ => (pe_or (pe_cmpR op_eq (pv 2) (pv 3) (nomark _)) (pe_one (pe_cmpR (op_niK (K := K) rfl) (pv 2) (pe_tup (pa_cons pe_str (pa_cons pe_str pa_nil))) rfl))))) pa_nil))))), ?_⟩
    have hl := h.len
    refine q_when (b := false) (et_is (et_test (ev_op (ev_lenT (ev_var rfl) (by omega)) (ev_lenT (ev_var rfl) (by omega)) (fun H1 e Q q => ⟨rfl, q H1 (Ex.refl _)⟩))) (by rw [hl]; simp)) (fun hb => by cases hb) (fun _ H1 e1 => ?_)
    refine s_ret (v := .bl true) (ev_is (ev_all (bs := List.zipWith (fun c d => decide ([c] = [d]) || !decide (Tx [c] ∈ [Tx [48], Tx [49]])) a b) ?_) ?_) fun H2 e2 => q H2 (e1.trans e2)
    · rw [List.map_zipWith]
      exact el_lcZ (fun c d => V.bl (decide ([c] = [d]) || !decide (Tx [c] ∈ [Tx [48], Tx [49]]))) (ea_cons (ev_var rfl) (ea_cons (ev_var rfl) ea_nil)) hl (by omega) (fun x y => rfl) fun c d H2 _ _ _ => ev_orV (ev_eqT (ev_var rfl) (ev_var rfl)) fun _ => ev_ni2T (ev_var rfl) (ea_cons ec_0 (ea_cons ec_1 ea_nil)) (by simp)
    · congr 1
      clear q hl hz
      induction h with
      | nil => rfl
      | cons g t ih =>
        rw [List.zipWith_cons_cons, List.all_cons, ih, Bool.and_true]
        rcases g with rfl | ⟨g1, g2⟩
        · simp
        · simp [Tx, g1, g2]
theorem ok__law_put {f  : Addr} {fd  : FuncData} (F : Fun K "_law_put" "_law_put" s__law_put f fd) (B : Bi K w mg dA dT dG qa qo qx qv qm)   : FnOk P w K mg base CX0 (1) f fd ["_law_given", "_law_holes_here", "_law_signs_here"] (spPutK) := by
  refine F.ok sc__law_put (fun vs H Q E h => ?_) (fun cdv A outer s H vs Q E hr h => ?_)
  · obtain ⟨d, g, ss, hs, vl, ws, rfl, _⟩ := h
    all_goals rfl
  · obtain ⟨d, g, ss, hs, vl, ws, rfl, hd, hg, hlen, ok, hz, fit, hin, hsg, q⟩ := h
    refine ⟨_, (pss_cons (ps_set (i := 3) sc__law_put.nd rfl (Or.inl rfl) (pe_callTy call_dictD (by rfl) B.dict (by decide +kernel) (pa_cons (pv 0) pa_nil)))
      (pss_cons (ps_for PassesOwn.never rfl (pi_zipM (by rfl) B.zip (pa_cons (pv 1) (pa_cons (pv 2) pa_nil))) (pg_tup rfl (pgs_cons (pg_tup rfl (pgs_cons (pg_name (i := 6) sc__law_put.nd rfl (Or.inl rfl)) (pgs_cons (pg_name (i := 7) sc__law_put.nd rfl (Or.inl rfl)) pgs_nil))) (pgs_cons (pg_name (i := 4) sc__law_put.nd rfl (Or.inl rfl)) pgs_nil))) (pss_cons (ps_set (i := 5) sc__law_put.nd rfl (Or.inl rfl) (pe_dget (hu_of hr) (pv 3) (pv 6) (fun _ _ => rfl)))
      (pss_one (ps_dput (hu_of hr) (pv 3) (pv 6) (pe_op op_add_str (pe_op op_add_str (pe_slice sl_str (pv 5) po_none (po_some (pv 7))) (pv 4)) (pe_slice sl_str (pv 5) (po_some (pe_op op_add (pv 7) pe_int)) po_none)) rfl))))
      (pss_one (ps_ret (pv 3))))), ?_⟩
    obtain ⟨rs, hgl, hrs⟩ := hg
    have rl := hrs.len
    have vlen : vl.length = ws.length := by
      have := congrArg List.length fit.keys
      rwa [List.length_map, List.length_map] at this
    refine q_asgDk (em_copy (ev_var rfl) hd) fun p H1 np e1 hp => ?_
    refine ⟨_, rfl, _, rfl, g, rs.map V.ref, Tx ss, rfl, sq_of (e1 _ _ hgl), for_it walk_zipM (fun i σ' H' => ∃ a4 a5 a6 a7, σ' = [some (.ref d), some (.ref g), some (.str (Tx ss)), some (.ref p), a4, a5, a6, a7] ∧ H' p = some (.dK (ysK (putH vl (hs.take i) (ss.take i)))) ∧ Ex H H')
      ⟨none, none, none, none, rfl, by simpa [putH] using hp, e1⟩ (fun i σ' H' _ hv => by
        obtain ⟨_, _, _, _, _, _, x⟩ := hv
        exact sq_of (x _ _ hgl)) (fun i x σ' H2 H3 hi hv y => ?_) (fun σ' H2 hv => ?_)⟩
    · obtain ⟨a4, a5, a6, a7, rfl, hp2, x2⟩ := hv
      obtain ⟨T, xr, c, rfl, nT, rfl, hx, hc⟩ := y
      have hc2 : ss[i]? = some c := code_of hc
      rw [List.getElem?_map] at hx
      obtain ⟨r, hr, rfl⟩ : ∃ r, rs[i]? = some r ∧ xr = V.ref r := by
        cases hrr : rs[i]? with
        | none => rw [hrr] at hx; cases hx
        | some r => rw [hrr] at hx; exact ⟨r, rfl, (Option.some.inj hx).symm⟩
      obtain ⟨h, hh, hT⟩ := hrs.at hr
      have hm := List.mem_of_getElem? hh
      obtain ⟨m, hwm, hlt⟩ := hin h hm
      have il : i < hs.length := (List.getElem?_eq_some_iff.mp hh).1
      have fi : Fits ws (putH vl (hs.take i) (ss.take i)) := putH_ok ok _ _ _ (fun y hy => hin y (List.mem_of_mem_take hy)) (fun y hy => hsg y (List.mem_of_mem_take hy)) fit
      obtain ⟨l, hl1, hl2, hl3⟩ := fi.get ok hwm
      have M8 := (ok.2 _ hwm).2.1
      have flen : (putH vl (hs.take i) (ss.take i)).length = ws.length := by
        have := congrArg List.length fi.keys
        rwa [List.length_map, List.length_map] at this
      have f := Ex.new (o := .tup [V.ref r, .str ⟨#[c]⟩]) nT
      have hTn : L2.upd H2 T (.tup [V.ref r, .str ⟨#[c]⟩]) T = some (.tup [V.ref r, .str ⟨#[c]⟩]) := upd_same
      generalize L2.upd H2 T (.tup [V.ref r, .str ⟨#[c]⟩]) = H4 at f hTn ⊢
      have x4 := x2.trans f
      refine ⟨T, _, rfl, st_of hTn, rfl, _, _, rfl, r, _, rfl, st_of (x4 _ _ hT), rfl, _, _, rfl, _, _, rfl, rfl, _, _, rfl, rfl, ?_⟩
      have hv : valV (ysK (putH vl (hs.take i) (ss.take i))) (Sum.inr h.1 : Key) = some (.str (Tx l)) := by rw [ysK_val, hl1]; rfl
      refine q_asg (ev_dget (ev_var rfl) (ev_var rfl) (.inl (f _ _ hp2)) hv) fun H5 e5 => ?_
      refine s_dputY (N := putH vl (hs.take i) (ss.take i)) (x := h.1) (l := setAt l h.2 c) (ev_addT (ev_addT (ev_cutUp (j := h.2) (ev_var rfl) (eo_some (ev_var rfl)) (by omega)) (b := [c]) (ev_var rfl) (by rw [List.length_take]; simp; omega)) (ev_cutFrom (i := h.2 + 1) (ev_var rfl) (eo_some (ev_is (ev_op (ev_var rfl) ev_c rv_I0) (by congr 1))) (by omega)) (by rw [List.length_append, List.length_take, List.length_drop]; simp; omega)) (ev_var rfl) (ev_var rfl) (e5 _ _ (f _ _ hp2)) (by omega) fun H6 e6 => ?_
      refine ⟨_, _, _, _, rfl, ?_, Ex.mut ((x4.trans e5).trans e6) np⟩
      rw [upd_same, show hs.take (i + 1) = hs.take i ++ [h] by rw [List.take_succ, hh]; rfl, show ss.take (i + 1) = ss.take i ++ [c] by rw [List.take_succ, hc2]; rfl, putH_snoc (by rw [List.length_take, List.length_take]; omega), hl1]
      rfl
    · obtain ⟨a4, a5, a6, a7, rfl, hp2, x2⟩ := hv
      have e : min (rs.map V.ref).length (Tx ss).cps.size = hs.length := by
        rw [List.length_map, show (Tx ss).cps.size = ss.length from Tx_len ss]
        omega
      rw [e, List.take_length, hlen, List.take_length] at hp2
      exact s_ret (ev_var rfl) fun H3 e3 => q p H3 np (x2.trans e3) (e3 _ _ hp2)
theorem ok__law_covers {f f1 : Addr} {fd fd1 : FuncData} (F : Fun K "_law_covers" "_law_covers" s__law_covers f fd) (B : Bi K w mg dA dT dG qa qo qx qv qm)  (D__law_is_so : Df P w K mg base CX0 "_law_is_so" 1 f1 fd1 ["_law_one", "_law_other"] (spSoK)) : FnOk P w K mg base CX0 (2) f fd ["_law_told", "_law_other", "_law_values_here"] (spCovK) := by
  refine F.ok sc__law_covers (fun vs H Q E h => ?_) (fun cdv A outer s H vs Q E hr h => ?_)
  · obtain ⟨a, b, d, N, N', ws, E0', E', rfl, _⟩ := h
    all_goals rfl
  · obtain ⟨a, b, d, N, N', ws, Et, E', rfl, ha, hb, sc, he, hN, hN', hsc, q⟩ := h
    refine ⟨_, (pss_cons (ps_if (pt_cmpR (op_neD hr.units) (pe_lock (pe_lc (own := [("_law_name_here", 3)]) (g := gName 3) (by rfl) sc__law_covers.nd (pi_keys (pv 1)) (blkOk_by (own := [("_law_name_here", 3)]) (N := N__law_covers) (sc := defScope s__law_covers) (by decide +kernel)) (fun _ _ _ _ _ => pg_name (i := 3) sc__law_covers.nd rfl (Or.inl rfl)) (fun _ _ _ _ _ => pts_one (pt_cmpR (op_niDk (hu_of hr)) (pv 3) (pv 0) rfl)) (fun _ _ _ _ _ => (pv 3)))) (pe_lst pa_nil) (nomark _)) (pss_one (ps_ret pe_bl)) pss_nil)
      (pss_one (ps_ret (pe_callB (cr_all rfl) (by rfl) B.all (by decide +kernel) (pa_cons (pe_lock (pe_lc (own := [("_law_name_here", 3)]) (g := gName 3) (tt := tYes) (by rfl) sc__law_covers.nd (pi_keys (pv 0)) (blkOk_by (own := [("_law_name_here", 3)]) (N := N__law_covers) (sc := defScope s__law_covers) (by decide +kernel)) (fun _ _ _ _ _ => pg_name (i := 3) sc__law_covers.nd rfl (Or.inl rfl)) (fun _ _ _ _ _ => pts_nil) (fun _ _ _ _ _ => (pe_call D__law_is_so.ok (hr.mono (by decide)) (by rfl) D__law_is_so.g D__law_is_so.kp D__law_is_so.b .nil pass0 (pa_cons (pe_dget (hu_of hr) (pv 0) (pv 3) (fun _ _ => rfl)) (pa_cons (pe_dget2 (hu_of hr) (pv 1) (pv 3) (pe_dget (hu_of hr) (pv 2) (pv 3) (fun _ _ => rfl)) ⟨rfl, rfl, rfl, rfl⟩) pa_nil)))))) pa_nil))))), ?_⟩
    obtain ⟨vl, hd, hvn, hvl, hE⟩ := sc.vl
    have zN := hN.len
    have zN' := hN'.len
    have hsz := sc.sz
    have kl : ∀ M : List YV, (ysK M).length = M.length := fun M => List.length_map _
    refine q_when (b := false) (et_test (ev_neNew (el_lockN hb (fun H1 => ev_var rfl) (by rw [kl]; omega) (fun x => rfl) fun n k x H1 hrd hx hk => ?_))) (fun hb => by cases hb) (fun _ H1 e1 => ?_)
    · rw [List.getElem?_map] at hk
      obtain ⟨y, hy, hky⟩ : ∃ y, N'[n]? = some y ∧ ((Sum.inr y.1 : Key), V.str (Tx y.2)) = (k, x) := by
        cases hyy : N'[n]? with
        | none => rw [hyy] at hk; cases hk
        | some y => rw [hyy] at hk; exact ⟨y, rfl, Option.some.inj hk⟩
      cases hky
      have hmem := List.mem_of_getElem? hy
      have hne : getY N y.1 ≠ none := fun z => by
        have h1 := hsc.no _ z
        rw [getY_of hN'.1 (show (y.1, y.2) ∈ N' from hmem)] at h1
        cases h1
      have hra : Rd H1 a (.dK (ysK N)) := by
        by_cases e : a = b
        · subst e
          rw [ha] at hb
          have := HO.dK.inj (Option.some.inj hb)
          rw [this]
          exact hrd
        · have h1 := hx _ _ ha
          rw [upd_ne e] at h1
          exact .inl h1
      refine et_is (et_test (ev_op (ev_var rfl) (ev_var rfl) (fun H2 e2 Q q => ⟨y.1, a, _, rfl, rfl, rd_ex hra e2, q H2 (Ex.refl _)⟩))) ?_
      rw [ysK_val]
      cases hg : getY N y.1 with
      | none => exact absurd hg hne
      | some l => rfl
    · have ha1 := e1 _ _ ha
      refine s_ret (v := .bl true) (ev_is (ev_all (bs := (ysK N).map fun _ => true) (el_lockAll ha1 (fun H1 => ev_var rfl) (by rw [kl]; omega) (fun x => rfl) fun n k x H2 hrd hx hk => ?_)) ?_) fun H2 e2 => q H2 (e1.trans e2)
      · rw [List.getElem?_map] at hk
        obtain ⟨y, hy, hky⟩ : ∃ y, N[n]? = some y ∧ ((Sum.inr y.1 : Key), V.str (Tx y.2)) = (k, x) := by
          cases hyy : N[n]? with
          | none => rw [hyy] at hk; cases hk
          | some y => rw [hyy] at hk; exact ⟨y, rfl, Option.some.inj hk⟩
        cases hky
        have hmem := List.mem_of_getElem? hy
        obtain ⟨m, hwm, hyl, _⟩ := hN.2 y hmem
        have M8 := (sc.ok.2 _ hwm).2.1
        have rdd : ∀ {c : Addr} {M : List YV}, H1 c = some (.dK (ysK M)) → Rd H2 c (.dK (ysK M)) := fun {c M} hc => by
          by_cases e : c = a
          · subst e
            rw [ha1] at hc
            have := HO.dK.inj (Option.some.inj hc)
            rw [← this]
            exact hrd
          · have h1 := hx _ _ hc
            rw [upd_ne e] at h1
            exact .inl h1
        have hv : valV (ysK vl) (Sum.inr y.1 : Key) = some (.str (Tx (E' y.1))) := by rw [ysK_val, hE _ hwm]; rfl
        have hgy := getY_of hN.1 (show (y.1, y.2) ∈ N from hmem)
        have hvN : valV (ysK N) (Sum.inr y.1 : Key) = some (.str (Tx y.2)) := by rw [ysK_val, hgy]; rfl
        have cv := hsc.cv (y.1, m) hwm
        have e3 : ovE Et N y.1 = y.2 := by
          unfold ovE
          rw [hgy]
          rfl
        simp only at cv
        rw [e3] at cv
        exact ev_call (ea_cons (ev_dget (ev_var rfl) (ev_var rfl) (rdd ha1) hvN) (ea_cons (ev_get2 (ev_var rfl) (rdd (e1 _ _ hb)) (ev_var rfl) (ev_dget (ev_var rfl) (ev_var rfl) (rdd (e1 _ _ hd)) hv)) ea_nil)) (fun H3 e3 Q q E => ⟨_, _, rfl, cv, by simp only at hyl M8; omega, q⟩)
      · congr 1
        rw [List.all_map]
        exact List.all_eq_true.mpr fun _ _ => rfl
theorem ok__law_holes {f f1 : Addr} {fd fd1 : FuncData} (F : Fun K "_law_holes" "_law_holes" s__law_holes f fd) (B : Bi K w mg dA dT dG qa qo qx qv qm)  (D__law_take : Df P w K mg base CX0 "_law_take" 1 f1 fd1 ["_law_pot_here", "_law_many"] (spTake)) : FnOk P w K mg base CX0 (2) f fd ["_law_pot_here", "_law_given", "_law_names", "_law_room"] (spHolesK) := by
  refine F.ok sc__law_holes (fun vs H Q E h => ?_) (fun cdv A outer s H vs Q E hr h => ?_)
  · obtain ⟨p, d, g, n, vl, ws, ns, rfl, _⟩ := h
    all_goals rfl
  · obtain ⟨p, d, g, n, vl, ws, ns, rfl, hP, hd, hg, ngp, n1, n8, ok, fit, hn0, hnz, hin, q⟩ := h
    refine ⟨_, (pss_cons (ps_set (i := 4) sc__law_holes.nd rfl (Or.inl rfl) (pe_lst pa_nil))
      (pss_cons (ps_for PassesOwn.never rfl (pi_list (pv 2)) (pg_name (i := 5) sc__law_holes.nd rfl (Or.inr rfl)) (pss_one (ps_set (i := 4) sc__law_holes.nd rfl (Or.inl rfl) (pe_op op_cat (pv 4) (pe_lc (own := [("_law_at", 9)]) (g := gName 9) (tt := tYes) (by rfl) sc__law_holes.nd (pi_range1 (by rfl) B.range (pa_cons (pe_callB call_len_str (by rfl) B.len PySem.boot_len (pa_cons (pe_dget (hu_of hr) (pv 1) (pv 5) (fun _ _ => rfl)) pa_nil)) pa_nil)) (blkOk_by (own := [("_law_at", 9)]) (N := N__law_holes) (sc := defScope s__law_holes) (by decide +kernel)) (fun _ _ _ _ _ => pg_name (i := 9) sc__law_holes.nd rfl (Or.inl rfl)) (fun _ _ _ _ _ => pts_nil) (fun _ _ _ _ _ => (pe_tup (pa_cons (pv 5) (pa_cons (pv 9) pa_nil)))))))))
      (pss_cons (ps_set (i := 6) sc__law_holes.nd rfl (Or.inl rfl) (pe_lst pa_nil))
      (pss_cons (ps_for PassesOwn.never rfl (pi_range1 (by rfl) B.range (pa_cons (pe_op op_add pe_int (pe_call D__law_take.ok (hr.mono (by decide)) (by rfl) D__law_take.g D__law_take.kp D__law_take.b .nil pass0 (pa_cons (pv 0) (pa_cons (pv 3) pa_nil)))) pa_nil)) (pg_name (i := 7) sc__law_holes.nd rfl (Or.inl rfl)) (pss_cons (ps_set (i := 8) sc__law_holes.nd rfl (Or.inl rfl) (pe_ix ix_list (pv 4) (pe_call D__law_take.ok (hr.mono (by decide)) (by rfl) D__law_take.g D__law_take.kp D__law_take.b .nil pass0 (pa_cons (pv 0) (pa_cons (pe_callB call_len_seq (by rfl) B.len PySem.boot_len (pa_cons (pv 4) pa_nil)) pa_nil))) (fun _ _ => rfl)))
      (pss_one (ps_if (pt_cmpR (op_notInD (Nat.lt_of_le_of_lt (Nat.add_le_add_left (by decide : 65 ≤ 101) _) (un101 hr))) (pv 8) (pv 6) rfl) (pss_one (ps_expr (pe_bm PySem.F.plainAttrs_list PySem.F.slot_list_append PySem.F.type_list_append mt_append (pv 6) (pa_cons (pv 8) pa_nil)))) pss_nil))))
      (pss_one (ps_ret (pv 6))))))), ?_⟩
    have ndp : d ≠ p := fun z => by
      obtain ⟨x, y, h1, _⟩ := hP
      rw [z, h1] at hd
      cases hd
    refine q_asgL (xs := []) (el_lst ea_nil (by decide)) fun sp0 H1 nsp0 e1 hsp0 => ?_
    refine q_forL (K := K) (a := g) (xs := ns.map V.str) (ev_var rfl) (sq_of (e1 _ _ hg)) (fun i σ' H' => ∃ a5 sp xs, σ' = [some (.ref p), some (.ref d), some (.ref g), some (.int (n : Int)), some (.ref sp), a5, none, none, none, none] ∧ H' sp = some (.lst xs) ∧ sp ≠ p ∧ (∀ v ∈ xs, GS ws v H') ∧ xs.length ≤ 8 * i ∧ (0 < i → 0 < xs.length) ∧ ExB p H H' ∧ PotAt H' p)
      (fun H2 e2 => ⟨none, sp0, [], rfl, e2 _ _ hsp0, hP.ne nsp0, (fun v hv => by cases hv), by simp, fun h => absurd h (by omega), ExB.of (e1.trans e2), hP.ex (e1.trans e2)⟩) (fun i σ' H' _ hv => by
        obtain ⟨_, _, _, _, _, _, _, _, _, x, _⟩ := hv
        exact sq_of (x _ _ ngp hg)) (fun i x σ' H2 hx hv => ?_) (fun σ' H2 hv => ?_)
    · obtain ⟨a5, sp, xs, rfl, hsp, nspp, hall, hlen, hpos, x2, hP2⟩ := hv
      rw [List.getElem?_map] at hx
      obtain ⟨y, hy, rfl⟩ : ∃ y, ns[i]? = some y ∧ x = V.str y := by
        cases hyy : ns[i]? with
        | none => rw [hyy] at hx; cases hx
        | some y => rw [hyy] at hx; exact ⟨y, rfl, (Option.some.inj hx).symm⟩
      have hil := (List.getElem?_eq_some_iff.mp hy).1
      obtain ⟨m, hm⟩ := hin y (List.mem_of_getElem? hy)
      obtain ⟨l, l1, l2, l3⟩ := fit.get ok hm
      have M := ok.2 _ hm
      have M1 := M.1
      have M8 := M.2.1
      simp only at M1 M8
      have hv : valV (ysK vl) (Sum.inr y : Key) = some (.str (Tx l)) := by rw [ysK_val, l1]; rfl
      refine g_name ?_
      dsimp only
      refine ⟨_, rfl, ?_⟩
      refine evp_lcR (p := p) (H := H2) (j := 9) (lo := (m : Int)) (m := (m : Int)) (G := GS ws) ((evp_of (w := .int (m : Int)) fun H3 e3 => ev_is (ev_lenT (l := l) (ev_dget (ev_var rfl) (ev_var rfl) (.inl (e3 _ _ ndp (x2 _ _ ndp hd))) hv) (by omega)) (by rw [l2])).mono fun v _ h => ⟨_, h, by omega, by omega⟩) (by omega) (by omega) (fun x => rfl) (fun j H3 e3 hj => ?_) (fun v Ha Hb e h => h.mono e) H2 (ExB.refl _ _) hP2 _ fun Dl ys H3 nD e3 hP3 hD hys => ?_
      · intro H4 e4 hP4 Q4 q4
        refine ⟨_, rfl, _, rfl, by show 2 ≤ sizeLine; decide, fun T nT => ?_⟩
        exact q4 _ _ (ExB.of (Ex.new nT)) (hP4.ex (Ex.new nT)) ⟨T, y, j, m, rfl, upd_same, hm, by omega⟩
      · obtain ⟨k1, k2, k3⟩ := hys
        have hsp3 := e3 _ _ nspp hsp
        refine ⟨sp, Dl, xs, ys, rfl, rfl, hsp3, hD, sz_of (by omega), fun s0 ns0 => g_name ?_⟩
        have f := Ex.new (o := .lst (xs ++ ys)) ns0
        refine ⟨_, s0, xs ++ ys, rfl, upd_same, hP3.ne ns0, fun v hv2 => ?_, by rw [List.length_append]; omega, fun _ => by rw [List.length_append]; omega, (x2.trans e3).trans (ExB.of f), hP3.ex f⟩
        rcases List.mem_append.mp hv2 with h | h
        · exact (hall v h).mono ((ExT.ofB hP2 e3).trans (ExT.of f))
        · exact (k3 v h).mono (ExT.of f)
    · obtain ⟨a5, sp, xs, rfl, hsp, nspp, hall, hlen, hpos, x2, hP2⟩ := hv
      rw [List.length_map] at hlen hpos
      have hpos := hpos hn0
      refine q_asgL (xs := []) (el_lst ea_nil (by decide)) fun f H3 nf e3 hf => ?_
      have nfp := hP2.ne nf
      have nf0 : H f = none := by
        cases hh : H f with
        | none => rfl
        | some o =>
          have := x2 f o nfp hh
          rw [nf] at this
          cases this
      have nsf : sp ≠ f := fun z => by rw [z, nf] at hsp; cases hsp
      refine p_forR1L (lo := 1) (m := (n : Int)) ((evp_add (evp_takeV (m := (n : Int)) rfl (evp_var rfl) (by omega) (by omega))).mono fun v _ h => by
        obtain ⟨d, h, h0, h1⟩ := h
        exact ⟨d, h, h0, by omega⟩) (by decide) (by omega) (hP2.ex e3) (fun i σ' H' => ∃ a7 a8 ys, σ' = [some (.ref p), some (.ref d), some (.ref g), some (.int (n : Int)), some (.ref sp), a5, some (.ref f), a7, a8, none] ∧ H' f = some (.lst ys) ∧ (∀ v ∈ ys, GS ws v H') ∧ ys.length ≤ i ∧ H' sp = some (.lst xs) ∧ (∀ v ∈ xs, GS ws v H') ∧ ExB p H H' ∧ PotAt H' p)
        (fun H4 e4 hP4 => ⟨none, none, [], rfl, e4 _ _ nfp hf, (fun v hv => by cases hv), Nat.le_refl _, e4 _ _ nspp (e3 _ _ hsp), fun v hv => (hall v hv).mono ((ExT.of e3).trans (ExT.ofB (hP2.ex e3) e4)), (x2.trans (ExB.of e3)).trans e4, hP4⟩) (fun i σ' H4 hi hv => ?_) (fun k σ' H4 hk0 hk hv => ?_)
      · obtain ⟨a7, a8, ys, rfl, hf4, hys, hyl, hsp4, hxs4, x4, hP4⟩ := hv
        refine p_asg (evp_pickL (K := K) (g := sp) rfl (fun _ => ev_var rfl) (fun _ => ev_var rfl) hsp4 nspp hpos (by omega)) hP4 fun v H5 e5 hP5 hv => ?_
        have et := ExT.ofB hP4 e5
        have hf5 := e5 _ _ nfp hf4
        have hs5 := e5 _ _ nspp hsp4
        have hv5 : GS ws v H5 := (hxs4 v hv).mono et
        have hy5 : ∀ w ∈ ys, GS ws w H5 := fun w hw => (hys w hw).mono et
        have hx5 : ∀ w ∈ xs, GS ws w H5 := fun w hw => (hxs4 w hw).mono et
        obtain ⟨b, hb⟩ := ev_gsNi (K := K) ok (ta := tVar 8) (tb := tVar 6) (σ := [some (.ref p), some (.ref d), some (.ref g), some (.int (n : Int)), some (.ref sp), a5, some (.ref f), some (.int (i : Int)), some v, none]) (ev_var rfl) (ev_var rfl) hv5 hf5 hy5
        refine s_if (b := b) (et_test hb) (fun _ H6 e6 => ?_) (fun _ H6 e6 => ?_)
        · refine s_app (xs := ys) (e6 _ _ hf5) (ev_var rfl) (ev_var rfl) (by omega) fun H7 e7 => ?_
          have ef : ExT H5 (L2.upd H7 f (.lst (ys ++ [v]))) := (ExT.of (e6.trans e7)).upd ((e6.trans e7) _ _ hf5)
          refine ⟨_, _, ys ++ [v], rfl, upd_same, fun w hw => ?_, by rw [List.length_append]; simp; omega, by rw [upd_ne nsf]; exact (e6.trans e7) _ _ hs5, fun w hw => (hx5 w hw).mono ef, ((x4.trans e5).trans (ExB.of (e6.trans e7))).mut nf0, (hP5.ex (e6.trans e7)).upd nfp⟩
          rcases List.mem_append.mp hw with h | h
          · exact (hy5 w h).mono ef
          · rw [List.mem_singleton.mp h]
            exact hv5.mono ef
        · exact ⟨_, _, ys, rfl, e6 _ _ hf5, fun w hw => (hy5 w hw).mono (ExT.of e6), by omega, e6 _ _ hs5, fun w hw => (hx5 w hw).mono (ExT.of e6), (x4.trans e5).trans (ExB.of e6), hP5.ex e6⟩
      · obtain ⟨a7, a8, ys, rfl, hf4, hys, hyl, hsp4, hxs4, x4, hP4⟩ := hv
        refine s_ret (ev_var rfl) fun H5 e5 => ?_
        obtain ⟨hs, rs, k1, k2, k3, k4⟩ := holes_of fun w hw => (hys w hw).mono (ExT.of e5)
        exact q f H5 hs nf0 (x4.trans (ExB.of e5)) (hP4.ex e5) ⟨rs, by rw [← k1]; exact e5 _ _ hf4, k2⟩ k3 (by omega)
theorem ok__law_right {f f1 f2 f3 f4 : Addr} {fd fd1 fd2 fd3 fd4 : FuncData} (F : Fun K "_law_right" "_law_right" s__law_right f fd) (B : Bi K w mg dA dT dG qa qo qx qv qm)  (D_body_done : Df P w K mg base CX0 "body_done" 27 f1 fd1 ["body", "values"] (spBD)) (D__law_put : Df P w K mg base CX0 "_law_put" 1 f2 fd2 ["_law_given", "_law_holes_here", "_law_signs_here"] (spPutK)) (D__law_fillings : Df P w K mg base CX0 "_law_fillings" 1 f3 fd3 ["_law_many"] (spFillK)) (D__law_covers : Df P w K mg base CX0 "_law_covers" 2 f4 fd4 ["_law_told", "_law_other", "_law_values_here"] (spCovK)) : FnOk P w K mg base CX0 (28) f fd ["_law_body_here", "_law_values_here", "_law_holes_here"] (spRight45) := by
  refine F.ok sc__law_right (fun vs H Q E h => ?_) (fun cdv A outer s H vs Q E hr h => ?_)
  · obtain ⟨bt, dv, g, us, b, ws, vl, hs, rfl, _⟩ := h
    all_goals rfl
  · obtain ⟨bt, dv, g, us, b, ws, vl, hs, rfl, hbt, hBd, hn, hz, hw, ok, hwz, fit, hd, hg, hin, h8, q⟩ := h
    refine ⟨_, (pss_cons (ps_set (i := 3) sc__law_right.nd rfl (Or.inl rfl) (pe_call D_body_done.ok (hr.mono (by decide)) (by rfl) D_body_done.g D_body_done.kp D_body_done.b .nil pass0 (pa_cons (pv 0) (pa_cons (pe_call D__law_put.ok (hr.mono (by decide)) (by rfl) D__law_put.g D__law_put.kp D__law_put.b .nil pass0 (pa_cons (pv 1) (pa_cons (pv 2) (pa_cons (pe_op op_mulS pe_str (pe_callB call_len_seq (by rfl) B.len PySem.boot_len (pa_cons (pv 2) pa_nil))) pa_nil)))) pa_nil))))
      (pss_cons (ps_for PassesOwn.never rfl (pi_list (pe_call D__law_fillings.ok (hr.mono (by decide)) (by rfl) D__law_fillings.g D__law_fillings.kp D__law_fillings.b .nil pass0 (pa_cons (pe_callB call_len_seq (by rfl) B.len PySem.boot_len (pa_cons (pv 2) pa_nil)) pa_nil))) (pg_name (i := 4) sc__law_right.nd rfl (Or.inl rfl)) (pss_cons (ps_set (i := 5) sc__law_right.nd rfl (Or.inl rfl) (pe_call D__law_put.ok (hr.mono (by decide)) (by rfl) D__law_put.g D__law_put.kp D__law_put.b .nil pass0 (pa_cons (pv 1) (pa_cons (pv 2) (pa_cons (pv 4) pa_nil)))))
      (pss_cons (ps_set (i := 6) sc__law_right.nd rfl (Or.inl rfl) (pe_call D_body_done.ok (hr.mono (by decide)) (by rfl) D_body_done.g D_body_done.kp D_body_done.b .nil pass0 (pa_cons (pv 0) (pa_cons (pv 5) pa_nil))))
      (pss_one (ps_if (PW.pt (pw_or (pt_not (pt_val (pe_call D__law_covers.ok (hr.mono (by decide)) (by rfl) D__law_covers.g D__law_covers.kp D__law_covers.b .nil pass0 (pa_cons (pe_ix ix_tup (pv 3) pe_int (fun _ _ => rfl)) (pa_cons (pe_ix ix_tup (pv 6) pe_int (fun _ _ => rfl)) (pa_cons (pv 5) pa_nil)))))) (pw_or1 (pt_not (pt_val (pe_call D__law_covers.ok (hr.mono (by decide)) (by rfl) D__law_covers.g D__law_covers.kp D__law_covers.b .nil pass0 (pa_cons (pe_ix ix_tup (pv 3) pe_int (fun _ _ => rfl)) (pa_cons (pe_ix ix_tup (pv 6) pe_int (fun _ _ => rfl)) (pa_cons (pv 5) pa_nil))))))))) (pss_one (ps_ret pe_bl)) pss_nil)))))
      (pss_one (ps_ret pe_bl)))), ?_⟩
    obtain ⟨rs, hgl, hrs⟩ := id hg
    have rl := hrs.len
    have s0 : St2 ws (([], []) : List YV × List YV) := ⟨⟨.nil, fun y hy => by cases hy⟩, ⟨.nil, fun y hy => by cases hy⟩⟩
    have lenE : ∀ (σ' : L2.St) (H' : Hp), σ'[2]? = some (some (.ref g)) → Ex H H' → Ev (tCB (rLenS K) (tCons (tVar 2) tNil)) σ' H' (.int (hs.length : Int)) := fun σ' H' h e => ev_is (ev_len (ev_var h) (sq_of (e _ _ hgl))) (by rw [List.length_map, rl])
    have hput : EvDk (tCall spPutK [] E0 (tCons (tVar 1) (tCons (tVar 2) (tCons (tOp (fun x y H Q => ∃ a i, x = .str a ∧ y = .int i ∧ MulOk a i ∧ Q (.str (Txt.mul a i)) H) (tC (.str (Str.ofString "x"))) (tCB (rLenS K) (tCons (tVar 2) tNil))) tNil)))) [some (.ref bt), some (.ref dv), some (.ref g), none, none, none, none] H (ysK (putH vl hs (List.replicate hs.length 120))) :=
      em_put (ws := ws) (ev_var rfl) (ev_var rfl) (ev_mulx h8 (lenE _ _ rfl (Ex.refl _))) hd hg (by rw [List.length_replicate]) ok hwz fit hin (fun c hc => by rw [(List.mem_replicate.mp hc).2]; decide)
    refine ⟨_, rfl, ?_⟩
    refine hput H (Ex.refl _) _ fun pt H1 npt e1 hpt => ?_
    have ft : Fits ws (putH vl hs (List.replicate hs.length 120)) := putH_ok ok _ _ _ hin (fun c hc => by rw [(List.mem_replicate.mp hc).2]; decide) fit
    have sct : Scene H1 pt ws (fun x => (getY (putH vl hs (List.replicate hs.length 120)) x).getD []) := scene_of ft.keys ft.all_ ok hwz hpt
    refine ⟨bt, pt, us, b, ws, _, rfl, e1 _ _ hbt, hBd.ex e1, hn, hz, hw, sct, fun rt H2 e2 ho => g_name ?_⟩
    dsimp only
    obtain ⟨a1, b1, t1, na1, nb1, ab1, k1, k2⟩ := ho
    have x2 := e1.trans e2
    have ot := done_ok ok sct.en b ([], []) hw s0
    refine ⟨_, rfl, g, rs.map V.ref, rfl, .inl (sq_of (x2 _ _ hgl)), ?_⟩
    refine ⟨hs.length, by rw [List.length_map, ← rl]; rfl, h8, fun gl H4 ls ngl e4 hgl2 hls hlz => ?_⟩
    have e24 := e4
    have x4 := x2.trans e24
    refine ⟨gl, rfl, ⟨_, sq_of hgl2⟩, for_list (xs := ls.map fun l => V.str (Tx l)) (fun i σ' H' => (∃ a4 a5 a6, σ' = [some (.ref bt), some (.ref dv), some (.ref g), some (.ref rt), a4, a5, a6]) ∧ Ex H4 H')
      ⟨⟨none, none, none, rfl⟩, Ex.refl _⟩ (fun i σ' H' _ hv => sq_of (hv.2 _ _ hgl2)) (fun i x σ' H5 hx hv => ?_) (fun σ' H5 hv => ?_)⟩
    · obtain ⟨⟨a4, a5, a6, rfl⟩, e5⟩ := hv
      rw [List.getElem?_map] at hx
      obtain ⟨l, hl, rfl⟩ : ∃ l, ls[i]? = some l ∧ x = V.str (Tx l) := by
        cases hll : ls[i]? with
        | none => rw [hll] at hx; cases hx
        | some l => rw [hll] at hx; exact ⟨l, rfl, (Option.some.inj hx).symm⟩
      obtain ⟨ll, lk⟩ := hls l (List.mem_of_getElem? hl)
      have x5 := x4.trans e5
      refine g_name ?_
      dsimp only
      refine q_asgDk (em_put (ss := l) (hs := hs) (vl := vl) (ws := ws) (ev_var rfl) (ev_var rfl) (ev_var rfl) (x5 _ _ hd) (hg.ex x5) ll.symm ok hwz fit hin (kn_sgn lk)) fun pf H6 npf e6 hpf => ?_
      have ff : Fits ws (putH vl hs l) := putH_ok ok _ _ _ hin (kn_sgn lk) fit
      have scf : Scene H6 pf ws (fun x => (getY (putH vl hs l) x).getD []) := scene_of ff.keys ff.all_ ok hwz hpf
      have x6 := x5.trans e6
      refine ⟨_, rfl, _, rfl, bt, pf, us, b, ws, _, rfl, x6 _ _ hbt, hBd.ex x6, hn, hz, hw, scf, fun ro H7 e7 ho => g_name ?_⟩
      dsimp only
      obtain ⟨a2, b2, t2, na2, nb2, ab2, k3, k4⟩ := ho
      have oo := done_ok ok scf.en b ([], []) hw s0
      have e27 := ((e24.trans e5).trans e6).trans e7
      obtain ⟨c1, c2⟩ := cover_ok ok fit hin ll.symm lk hw sct.en scf.en
      have t1' := e27 _ _ t1
      refine s_if (b := false) (et_or (et_is (et_not (et_B (ev_cov (ev_op (ev_var rfl) ev_c (rv_ixT (st_of t1') (atI_nat (j := 0) rfl))) (ev_op (ev_var rfl) ev_c (rv_ixT (st_of t2) (atI_nat (j := 0) rfl))) (ev_var rfl) (e27 _ _ k1) k3 (scf.ex e7) sct.en ot.1 oo.1 c1))) rfl) fun _ => et_is (et_not (et_B (ev_cov (ev_op (ev_var rfl) ev_c (rv_ixT (st_of t1') (atI_nat (j := 1) rfl))) (ev_op (ev_var rfl) ev_c (rv_ixT (st_of t2) (atI_nat (j := 1) rfl))) (ev_var rfl) (e27 _ _ k2) k4 (scf.ex e7) sct.en ot.2 oo.2 c2))) rfl) (fun hb => by cases hb) (fun _ H8 e8 => ?_)
      exact ⟨⟨_, _, _, rfl⟩, ((e5.trans e6).trans e7).trans e8⟩
    · obtain ⟨⟨a4, a5, a6, rfl⟩, e5⟩ := hv
      dsimp only
      exact s_ret ev_c fun H6 e6 => q H6 ((x4.trans e5).trans e6)
theorem ok_law {f f1 f2 f3 f4 f5 f6 : Addr} {fd fd1 fd2 fd3 fd4 fd5 fd6 : FuncData} (F : Fun K "law" "law" s_law f fd) (B : Bi K w mg dA dT dG qa qo qx qv qm)  (D__law_pot : Df P w K mg base CX0 "_law_pot" 1 f1 fd1 ["_law_script", "_law_k"] (spPot K)) (D__law_scene : Df P w K mg base CX0 "_law_scene" 4 f2 fd2 ["_law_pot_here"] (spSceneK)) (D__law_body : Df P w K mg base CX0 "_law_body" 17 f3 fd3 ["_law_pot_here", "_law_widths", "_law_ways", "_law_deep", "_law_room"] (spBodyK 4)) (D__law_values : Df P w K mg base CX0 "_law_values" 3 f4 fd4 ["_law_pot_here", "_law_widths", "_law_ways", "_law_signs_here"] (spValues45)) (D__law_holes : Df P w K mg base CX0 "_law_holes" 2 f5 fd5 ["_law_pot_here", "_law_given", "_law_names", "_law_room"] (spHolesK)) (D__law_right : Df P w K mg base CX0 "_law_right" 28 f6 fd6 ["_law_body_here", "_law_values_here", "_law_holes_here"] (spRight45)) : FnOk P w K mg base CX0 (29) f fd ["_law_script"] (spLaw K) := by
  refine F.ok sc_law (fun vs H Q E h => ?_) (fun cdv A outer s H vs Q E hr h => ?_)
  · obtain ⟨a, ns, rfl, _⟩ := h
    all_goals rfl
  · obtain ⟨a, ns, rfl, hS, hl, q⟩ := h
    refine ⟨_, (pss_cons (ps_for PassesOwn.never rfl (pi_range1 (by rfl) B.range (pa_cons (pe_callB (call_max2 rfl) (by rfl) B.max (by decide +kernel) (pa_cons pe_int (pa_cons (pe_callB (call_min2 rfl) (by rfl) B.min (by decide +kernel) (pa_cons (pe_callB call_len_seq (by rfl) B.len PySem.boot_len (pa_cons (pv 0) pa_nil)) (pa_cons pe_int pa_nil))) pa_nil))) pa_nil)) (pg_name (i := 1) sc_law.nd rfl (Or.inl rfl)) (pss_cons (ps_set (i := 2) sc_law.nd rfl (Or.inl rfl) (pe_call D__law_pot.ok (hr.mono (by decide)) (by rfl) D__law_pot.g D__law_pot.kp D__law_pot.b .nil pass0 (pa_cons (pv 0) (pa_cons (pv 1) pa_nil))))
      (pss_cons (ps_asg (pe_call D__law_scene.ok (hr.mono (by decide)) (by rfl) D__law_scene.g D__law_scene.kp D__law_scene.b .nil pass0 (pa_cons (pv 2) pa_nil)) (pg_tup rfl (pgs_cons (pg_name (i := 5) sc_law.nd rfl (Or.inl rfl)) (pgs_cons (pg_name (i := 6) sc_law.nd rfl (Or.inl rfl)) pgs_nil))))
      (pss_cons (ps_set (i := 3) sc_law.nd rfl (Or.inl rfl) (pe_call D__law_body.ok (hr.mono (by decide)) (by rfl) D__law_body.g D__law_body.kp D__law_body.b .nil pass0 (pa_cons (pv 2) (pa_cons (pv 5) (pa_cons (pv 6) (pa_cons pe_int (pa_cons (pe_lst (pa_cons pe_int pa_nil)) pa_nil)))))))
      (pss_cons (ps_set (i := 4) sc_law.nd rfl (Or.inl rfl) (pe_call D__law_values.ok (hr.mono (by decide)) (by rfl) D__law_values.g D__law_values.kp D__law_values.b .nil pass0 (pa_cons (pv 2) (pa_cons (pv 5) (pa_cons (pv 6) (pa_cons pe_str pa_nil))))))
      (pss_cons (ps_if (pt_not (pt_val (pe_call D__law_right.ok (hr.mono (by decide)) (by rfl) D__law_right.g D__law_right.kp D__law_right.b .nil pass0 (pa_cons (pv 3) (pa_cons (pv 4) (pa_cons (pe_call D__law_holes.ok (hr.mono (by decide)) (by rfl) D__law_holes.g D__law_holes.kp D__law_holes.b .nil pass0 (pa_cons (pv 2) (pa_cons (pv 4) (pa_cons (pe_callTy (call_listD rfl) (by rfl) B.list (by decide +kernel) (pa_cons (pv 4) pa_nil)) (pa_cons pe_int pa_nil))))) pa_nil)))))) (pss_one (ps_ret pe_bl)) pss_nil)
      (pss_one (ps_if (pt_not (pt_val (pe_call D__law_right.ok (hr.mono (by decide)) (by rfl) D__law_right.g D__law_right.kp D__law_right.b .nil pass0 (pa_cons (pv 3) (pa_cons (pv 4) (pa_cons (pe_call D__law_holes.ok (hr.mono (by decide)) (by rfl) D__law_holes.g D__law_holes.kp D__law_holes.b .nil pass0 (pa_cons (pv 2) (pa_cons (pv 4) (pa_cons (pe_callTy (call_listD rfl) (by rfl) B.list (by decide +kernel) (pa_cons (pv 6) pa_nil)) (pa_cons pe_int pa_nil))))) pa_nil)))))) (pss_one (ps_ret pe_bl)) pss_nil))))))))
      (pss_one (ps_ret pe_bl))), ?_⟩
    refine q_forR1 (n := if (if (4 : Int) < (ns.length : Int) then 4 else (ns.length : Int)) > 1 then (if (4 : Int) < (ns.length : Int) then 4 else (ns.length : Int)) else 1) ?_ ⟨by split <;> omega, by split <;> (try split) <;> omega⟩ (fun i σ' H' => (∃ a1 a2 a3 a4 a5 a6, σ' = [some (.ref a), a1, a2, a3, a4, a5, a6]) ∧ SqL K H' a (ns.map V.int))
      (fun H2 e2 => ⟨⟨none, none, none, none, none, none, rfl⟩, ex_l e2 hS⟩) (fun i σ' H0 hi hv => ?_) (fun σ' H' hv => ?_)
    · refine fun H2 e2 Q2 q2 => ?_
      refine ⟨_, rfl, a, _, rfl, .inl (ex_l e2 hS), _, _, rfl, _, _, rfl, ?_⟩
      rw [List.length_map]
      exact q2 _ (Ex.refl _)
    · obtain ⟨⟨a1, a2, a3, a4, a5, a6, rfl⟩, hS2⟩ := hv
      have hi2 : (i : Int) ≤ 1000 := by
        revert hi
        split <;> (try split) <;> omega
      refine ⟨_, rfl, _, rfl, a, ns, _, rfl, hS2, by omega, hi2, fun p H2 np x2 hP => g_name ?_⟩
      dsimp only
      refine ⟨_, rfl, p, rfl, hP, fun H3 t qd d ws wy e3 hP3 ht hW hY hok hz hwy => ⟨t, _, rfl, st_of ht, rfl, _, _, rfl, _, _, rfl, rfl, ?_⟩⟩
      have x3 := e3.back x2 np
      refine ⟨_, rfl, _, rfl, _, rfl, by show 1 ≤ sizeLine; decide, fun r nr => ?_⟩
      have f := Ex.new (o := .lst [V.int 20]) nr
      have hr : L2.upd H3 r (.lst [V.int 20]) r = some (.lst [V.int 20]) := upd_same
      generalize L2.upd H3 r (.lst [V.int 20]) = HR at f hr ⊢
      have nr0 : H0 r = none := fresh_back x3 nr
      refine ⟨p, qd, d, r, 3, 20, ws, wy, rfl, by decide, by decide, ⟨hP3.ex f, hW.ex f, hY.ex f, hr, hok, by omega, hwy⟩, fun H4 bt us b c hbt o => g_name ?_⟩
      dsimp only
      have x4 := ExC.back (x3.trans f) np nr0 o.ex
      have hW4 : WsAt H4 qd ws := (hW.ex f).exC (hP3.ex f) (RoomAt.is hr) o.ex
      have hY4 : WyAt H4 d wy := (hY.ex f).exC (hP3.ex f) (RoomAt.is hr) o.ex
      have oleft := o.left
      have osz := o.sz
      have onst := o.nst
      have owd := o.wd
      have hz1 : ws.length ≤ 1000 := by omega
      refine ⟨_, rfl, _, rfl, _, rfl, p, qd, d, [48, 49], ws, wy, by rw [← s_v1]; rfl, o.pot, hW4, hY4, hok, hz1, sgn2_a, fun gv H5 vl ngv e5 hP5 hgv fit => g_name ?_⟩
      dsimp only
      have x5 := e5.back x4 np
      have ngp := o.pot.ne ngv
      have hbt5 := ExT.ofB o.pot e5 _ _ hbt
      have hB5 := o.at_.mono (ExT.ofB o.pot e5)
      have hY5 := hY4.exB o.pot e5
      have wne : 0 < ws.length := by
        obtain ⟨y, hy⟩ := List.exists_mem_of_ne_nil _ hwy.ne
        obtain ⟨m, hm⟩ := hwy.mem y hy
        exact List.length_pos_of_mem hm
      have vlen : vl.length = ws.length := by
        have := congrArg List.length fit.keys
        rwa [List.length_map, List.length_map] at this
      refine ⟨_, rfl, _, rfl, _, rfl, _, rfl, _, rfl, gv, _, rfl, .inl hgv, fun ln nln => ?_⟩
      have f6 := Ex.new (o := .lst ((ysK vl).map fun kv => kV kv.1)) nln
      have hln : L2.upd H5 ln (.lst ((ysK vl).map fun kv => kV kv.1)) ln = some (.lst ((vl.map (·.1)).map V.str)) := by rw [← ys_keysV]; exact upd_same
      generalize L2.upd H5 ln (.lst ((ysK vl).map fun kv => kV kv.1)) = H6 at f6 hln ⊢
      refine ⟨p, gv, ln, 4, vl, ws, vl.map (·.1), rfl, hP5.ex f6, f6 _ _ hgv, hln, hP5.ne nln, by decide, by decide, hok, fit, by rw [List.length_map]; omega, by rw [List.length_map]; omega, fun x hx => ?_, fun f1 H7 hs nf1 e7 hP7 hho hhi hhl => ?_⟩
      · rw [fit.keys] at hx
        obtain ⟨y, hy, rfl⟩ := List.mem_map.mp hx
        exact ⟨y.2, hy⟩
      have e57 : ExB p H5 H7 := (ExB.of f6).trans e7
      have x7 := e57.back x5 np
      have t57 := ExT.ofB hP5 e57
      refine ⟨bt, gv, f1, us, b, ws, vl, hs, rfl, t57 _ _ hbt5, hB5.mono t57, by omega, by omega, owd, hok, hz1, fit, e57 _ _ ngp hgv, hho, hhi, by omega, fun H8 e8 => ⟨true, rfl, ?_⟩⟩
      have x8 := x7.trans e8
      have hP8 := hP7.ex e8
      have e58 : ExB p H5 H8 := e57.trans (ExB.of e8)
      have t58 := ExT.ofB hP5 e58
      have hY8 := hY5.exB hP5 e58
      refine ⟨_, rfl, _, rfl, _, rfl, _, rfl, _, rfl, d, _, rfl, .inl hY8, fun ln2 nln2 => ?_⟩
      have f9 := Ex.new (o := .lst ((wyK wy).map fun kv => kV kv.1)) nln2
      have hln2 : L2.upd H8 ln2 (.lst ((wyK wy).map fun kv => kV kv.1)) ln2 = some (.lst ((wy.map (·.1)).map V.str)) := by rw [← wy_keysV]; exact upd_same
      generalize L2.upd H8 ln2 (.lst ((wyK wy).map fun kv => kV kv.1)) = H9 at f9 hln2 ⊢
      refine ⟨p, gv, ln2, 3, vl, ws, wy.map (·.1), rfl, hP8.ex f9, f9 _ _ (e58 _ _ ngp hgv), hln2, hP8.ne nln2, by decide, by decide, hok, fit, by rw [List.length_map]; exact List.length_pos_iff.mpr hwy.ne, by rw [List.length_map]; exact hwy.sz, fun x hx => ?_, fun f2 H10 hs2 nf2 e10 hP10 hho2 hhi2 hhl2 => ?_⟩
      · obtain ⟨y, hy, rfl⟩ := List.mem_map.mp hx
        exact hwy.mem y hy
      have e510 : ExB p H5 H10 := (e58.trans (ExB.of f9)).trans e10
      have x10 := e510.back x5 np
      have t510 := ExT.ofB hP5 e510
      refine ⟨bt, gv, f2, us, b, ws, vl, hs2, rfl, t510 _ _ hbt5, hB5.mono t510, by omega, by omega, owd, hok, hz1, fit, e510 _ _ ngp hgv, hho2, hhi2, by omega, fun H11 e11 => ⟨true, rfl, ?_⟩⟩
      exact ⟨⟨_, _, _, _, _, _, rfl⟩, ex_l (x10.trans e11) hS2⟩
    · obtain ⟨⟨a1, a2, a3, a4, a5, a6, rfl⟩, hS2⟩ := hv
      exact s_ret ev_c fun H3 e3 => q H3
end
theorem all_mk {l : PySem.W.OpenLaw} {w : World} {K : PySem.W.Frag} {h : Heap} {mg : Str → Option Value} {fa g0 g1 g2 qa qo qx g6 g7 g8 g9 g10 g11 g12 g13 g14 g15 g16 g17 g18 g19 g20 g21 g22 g23 qv qm g26 g27 g28 g29 g30 g31 g32 g33 g34 g35 g36 g37 g38 g39 g40 g41 g42 g43 g44 g45 g46 g47 Dk22 : Addr} {od0 an0 od1 an1 od2 an2 od3 an3 od4 an4 od5 an5 od6 an6 od7 an7 od8 an8 od9 an9 od10 an10 od11 an11 od12 an12 od13 an13 od14 an14 od15 an15 od16 an16 od17 an17 od18 an18 od19 an19 od20 an20 od21 an21 od22 an22 od23 an23 od24 an24 od25 an25 od26 an26 od27 an27 od28 an28 od29 an29 od30 an30 od31 an31 od32 an32 od33 an33 od34 an34 od35 an35 od36 an36 od37 an37 od38 an38 od39 an39 od40 an40 od41 an41 od42 an42 od43 an43 od44 an44 od45 an45 od46 an46 od47 an47 : Option Addr} {sl0 sl1 sl2 sl3 sl4 sl5 sl6 sl7 sl8 sl9 sl10 sl11 sl12 sl13 sl14 sl15 sl16 sl17 sl18 sl19 sl20 sl21 sl22 sl23 sl24 sl25 sl26 sl27 sl28 sl29 sl30 sl31 sl32 sl33 sl34 sl35 sl36 sl37 sl38 sl39 sl40 sl41 sl42 sl43 sl44 sl45 sl46 sl47 : Array (Option Value)} {oc0 kV0 dc0 pm0 cd0 ct0 oc1 kV1 dc1 pm1 cd1 ct1 oc2 kV2 dc2 pm2 cd2 ct2 oc3 kV3 dc3 pm3 cd3 ct3 oc4 kV4 dc4 pm4 cd4 ct4 oc5 kV5 dc5 pm5 cd5 ct5 oc6 kV6 dc6 pm6 cd6 ct6 oc7 kV7 dc7 pm7 cd7 ct7 oc8 kV8 dc8 pm8 cd8 ct8 oc9 kV9 dc9 pm9 cd9 ct9 oc10 kV10 dc10 pm10 cd10 ct10 oc11 kV11 dc11 pm11 cd11 ct11 oc12 kV12 dc12 pm12 cd12 ct12 oc13 kV13 dc13 pm13 cd13 ct13 oc14 kV14 dc14 pm14 cd14 ct14 oc15 kV15 dc15 pm15 cd15 ct15 oc16 kV16 dc16 pm16 cd16 ct16 oc17 kV17 dc17 pm17 cd17 ct17 oc18 kV18 dc18 pm18 cd18 ct18 oc19 kV19 dc19 pm19 cd19 ct19 oc20 kV20 dc20 pm20 cd20 ct20 oc21 kV21 dc21 pm21 cd21 ct21 oc22 dc22 pm22 cd22 ct22 oc23 kV23 dc23 pm23 cd23 ct23 oc24 kV24 dc24 pm24 cd24 ct24 oc25 kV25 dc25 pm25 cd25 ct25 oc26 kV26 dc26 pm26 cd26 ct26 oc27 kV27 dc27 pm27 cd27 ct27 oc28 kV28 dc28 pm28 cd28 ct28 oc29 kV29 dc29 pm29 cd29 ct29 oc30 kV30 dc30 pm30 cd30 ct30 oc31 kV31 dc31 pm31 cd31 ct31 oc32 kV32 dc32 pm32 cd32 ct32 oc33 kV33 dc33 pm33 cd33 ct33 oc34 kV34 dc34 pm34 cd34 ct34 oc35 kV35 dc35 pm35 cd35 ct35 oc36 kV36 dc36 pm36 cd36 ct36 oc37 kV37 dc37 pm37 cd37 ct37 oc38 kV38 dc38 pm38 cd38 ct38 oc39 kV39 dc39 pm39 cd39 ct39 oc40 kV40 dc40 pm40 cd40 ct40 oc41 kV41 dc41 pm41 cd41 ct41 oc42 kV42 dc42 pm42 cd42 ct42 oc43 kV43 dc43 pm43 cd43 ct43 oc44 kV44 dc44 pm44 cd44 ct44 oc45 kV45 dc45 pm45 cd45 ct45 oc46 kV46 dc46 pm46 cd46 ct46 oc47 kV47 dc47 pm47 cd47 ct47 : Value} {ty0 td22_0 td22_1 : Tok} {dA dT dG : Addr} {esA esT esG : Array DictEntry} {nA nT nG : Nat} {tt0 tt1 ttx tg_not tg_and tg_or tg_xor tg_plus tg_same tg_less tg_any tg_all tg_pick tg_join tg_part : Tok} (X : K.In h) (G : h.Ns mainGlobals mg) (hfa : mg "law" = some (.ref fa))
    (a0 : PySem.W.nsIn K mainGlobals "read" = some (some (.ref g0)))
    (l0 : K.lookup g0 = some ⟨oc0, od0, .func (PySem.W.fnOf "read" "read" (defArgs s_read) (defBody s_read) (defScope s_read) .none (kV0) dc0 pm0 an0 cd0 ct0), sl0⟩)
    (c0 : PySem.W.codeIn K cd0 "read" = true)
    (k0 : PySem.W.keepIn K (.ref g0) = true)
    (a1 : PySem.W.nsIn K mainGlobals "mixed_sign" = some (some (.ref g1)))
    (l1 : K.lookup g1 = some ⟨oc1, od1, .func (PySem.W.fnOf "mixed_sign" "mixed_sign" (defArgs s_mixed_sign) (defBody s_mixed_sign) (defScope s_mixed_sign) .none (kV1) dc1 pm1 an1 cd1 ct1), sl1⟩)
    (c1 : PySem.W.codeIn K cd1 "mixed_sign" = true)
    (k1 : PySem.W.keepIn K (.ref g1) = true)
    (a2 : PySem.W.nsIn K mainGlobals "mixed" = some (some (.ref g2)))
    (l2 : K.lookup g2 = some ⟨oc2, od2, .func (PySem.W.fnOf "mixed" "mixed" (defArgs s_mixed) (defBody s_mixed) (defScope s_mixed) .none (kV2) dc2 pm2 an2 cd2 ct2), sl2⟩)
    (c2 : PySem.W.codeIn K cd2 "mixed" = true)
    (k2 : PySem.W.keepIn K (.ref g2) = true)
    (a3 : PySem.W.nsIn K mainGlobals "and_sign" = some (some (.ref qa)))
    (l3 : K.lookup qa = some ⟨oc3, od3, .func (PySem.W.fnOf "and_sign" "and_sign" (defArgs s_and_sign) (defBody s_and_sign) (defScope s_and_sign) .none (kV3) dc3 pm3 an3 cd3 ct3), sl3⟩)
    (c3 : PySem.W.codeIn K cd3 "and_sign" = true)
    (k3 : PySem.W.keepIn K (.ref qa) = true)
    (a4 : PySem.W.nsIn K mainGlobals "or_sign" = some (some (.ref qo)))
    (l4 : K.lookup qo = some ⟨oc4, od4, .func (PySem.W.fnOf "or_sign" "or_sign" (defArgs s_or_sign) (defBody s_or_sign) (defScope s_or_sign) .none (kV4) dc4 pm4 an4 cd4 ct4), sl4⟩)
    (c4 : PySem.W.codeIn K cd4 "or_sign" = true)
    (k4 : PySem.W.keepIn K (.ref qo) = true)
    (a5 : PySem.W.nsIn K mainGlobals "xor_sign" = some (some (.ref qx)))
    (l5 : K.lookup qx = some ⟨oc5, od5, .func (PySem.W.fnOf "xor_sign" "xor_sign" (defArgs s_xor_sign) (defBody s_xor_sign) (defScope s_xor_sign) .none (kV5) dc5 pm5 an5 cd5 ct5), sl5⟩)
    (c5 : PySem.W.codeIn K cd5 "xor_sign" = true)
    (k5 : PySem.W.keepIn K (.ref qx) = true)
    (a6 : PySem.W.nsIn K mainGlobals "most_sign" = some (some (.ref g6)))
    (l6 : K.lookup g6 = some ⟨oc6, od6, .func (PySem.W.fnOf "most_sign" "most_sign" (defArgs s_most_sign) (defBody s_most_sign) (defScope s_most_sign) .none (kV6) dc6 pm6 an6 cd6 ct6), sl6⟩)
    (c6 : PySem.W.codeIn K cd6 "most_sign" = true)
    (k6 : PySem.W.keepIn K (.ref g6) = true)
    (a7 : PySem.W.nsIn K mainGlobals "by_bits" = some (some (.ref g7)))
    (l7 : K.lookup g7 = some ⟨oc7, od7, .func (PySem.W.fnOf "by_bits" "by_bits" (defArgs s_by_bits) (defBody s_by_bits) (defScope s_by_bits) .none (kV7) dc7 pm7 an7 cd7 ct7), sl7⟩)
    (c7 : PySem.W.codeIn K cd7 "by_bits" = true)
    (k7 : PySem.W.keepIn K (.ref g7) = true)
    (a8 : PySem.W.nsIn K mainGlobals "not_value" = some (some (.ref g8)))
    (l8 : K.lookup g8 = some ⟨oc8, od8, .func (PySem.W.fnOf "not_value" "not_value" (defArgs s_not_value) (defBody s_not_value) (defScope s_not_value) .none (kV8) dc8 pm8 an8 cd8 ct8), sl8⟩)
    (c8 : PySem.W.codeIn K cd8 "not_value" = true)
    (k8 : PySem.W.keepIn K (.ref g8) = true)
    (a9 : PySem.W.nsIn K mainGlobals "and_value" = some (some (.ref g9)))
    (l9 : K.lookup g9 = some ⟨oc9, od9, .func (PySem.W.fnOf "and_value" "and_value" (defArgs s_and_value) (defBody s_and_value) (defScope s_and_value) .none (kV9) dc9 pm9 an9 cd9 ct9), sl9⟩)
    (c9 : PySem.W.codeIn K cd9 "and_value" = true)
    (k9 : PySem.W.keepIn K (.ref g9) = true)
    (a10 : PySem.W.nsIn K mainGlobals "or_value" = some (some (.ref g10)))
    (l10 : K.lookup g10 = some ⟨oc10, od10, .func (PySem.W.fnOf "or_value" "or_value" (defArgs s_or_value) (defBody s_or_value) (defScope s_or_value) .none (kV10) dc10 pm10 an10 cd10 ct10), sl10⟩)
    (c10 : PySem.W.codeIn K cd10 "or_value" = true)
    (k10 : PySem.W.keepIn K (.ref g10) = true)
    (a11 : PySem.W.nsIn K mainGlobals "xor_value" = some (some (.ref g11)))
    (l11 : K.lookup g11 = some ⟨oc11, od11, .func (PySem.W.fnOf "xor_value" "xor_value" (defArgs s_xor_value) (defBody s_xor_value) (defScope s_xor_value) .none (kV11) dc11 pm11 an11 cd11 ct11), sl11⟩)
    (c11 : PySem.W.codeIn K cd11 "xor_value" = true)
    (k11 : PySem.W.keepIn K (.ref g11) = true)
    (a12 : PySem.W.nsIn K mainGlobals "plus_value" = some (some (.ref g12)))
    (l12 : K.lookup g12 = some ⟨oc12, od12, .func (PySem.W.fnOf "plus_value" "plus_value" (defArgs s_plus_value) (defBody s_plus_value) (defScope s_plus_value) .none (kV12) dc12 pm12 an12 cd12 ct12), sl12⟩)
    (c12 : PySem.W.codeIn K cd12 "plus_value" = true)
    (k12 : PySem.W.keepIn K (.ref g12) = true)
    (a13 : PySem.W.nsIn K mainGlobals "any_value" = some (some (.ref g13)))
    (l13 : K.lookup g13 = some ⟨oc13, od13, .func (PySem.W.fnOf "any_value" "any_value" (defArgs s_any_value) (defBody s_any_value) (defScope s_any_value) .none (kV13) dc13 pm13 an13 cd13 ct13), sl13⟩)
    (c13 : PySem.W.codeIn K cd13 "any_value" = true)
    (k13 : PySem.W.keepIn K (.ref g13) = true)
    (a14 : PySem.W.nsIn K mainGlobals "all_value" = some (some (.ref g14)))
    (l14 : K.lookup g14 = some ⟨oc14, od14, .func (PySem.W.fnOf "all_value" "all_value" (defArgs s_all_value) (defBody s_all_value) (defScope s_all_value) .none (kV14) dc14 pm14 an14 cd14 ct14), sl14⟩)
    (c14 : PySem.W.codeIn K cd14 "all_value" = true)
    (k14 : PySem.W.keepIn K (.ref g14) = true)
    (a15 : PySem.W.nsIn K mainGlobals "same_value" = some (some (.ref g15)))
    (l15 : K.lookup g15 = some ⟨oc15, od15, .func (PySem.W.fnOf "same_value" "same_value" (defArgs s_same_value) (defBody s_same_value) (defScope s_same_value) .none (kV15) dc15 pm15 an15 cd15 ct15), sl15⟩)
    (c15 : PySem.W.codeIn K cd15 "same_value" = true)
    (k15 : PySem.W.keepIn K (.ref g15) = true)
    (a16 : PySem.W.nsIn K mainGlobals "lowest" = some (some (.ref g16)))
    (l16 : K.lookup g16 = some ⟨oc16, od16, .func (PySem.W.fnOf "lowest" "lowest" (defArgs s_lowest) (defBody s_lowest) (defScope s_lowest) .none (kV16) dc16 pm16 an16 cd16 ct16), sl16⟩)
    (c16 : PySem.W.codeIn K cd16 "lowest" = true)
    (k16 : PySem.W.keepIn K (.ref g16) = true)
    (a17 : PySem.W.nsIn K mainGlobals "highest" = some (some (.ref g17)))
    (l17 : K.lookup g17 = some ⟨oc17, od17, .func (PySem.W.fnOf "highest" "highest" (defArgs s_highest) (defBody s_highest) (defScope s_highest) .none (kV17) dc17 pm17 an17 cd17 ct17), sl17⟩)
    (c17 : PySem.W.codeIn K cd17 "highest" = true)
    (k17 : PySem.W.keepIn K (.ref g17) = true)
    (a18 : PySem.W.nsIn K mainGlobals "less_value" = some (some (.ref g18)))
    (l18 : K.lookup g18 = some ⟨oc18, od18, .func (PySem.W.fnOf "less_value" "less_value" (defArgs s_less_value) (defBody s_less_value) (defScope s_less_value) .none (kV18) dc18 pm18 an18 cd18 ct18), sl18⟩)
    (c18 : PySem.W.codeIn K cd18 "less_value" = true)
    (k18 : PySem.W.keepIn K (.ref g18) = true)
    (a19 : PySem.W.nsIn K mainGlobals "pick_value" = some (some (.ref g19)))
    (l19 : K.lookup g19 = some ⟨oc19, od19, .func (PySem.W.fnOf "pick_value" "pick_value" (defArgs s_pick_value) (defBody s_pick_value) (defScope s_pick_value) .none (kV19) dc19 pm19 an19 cd19 ct19), sl19⟩)
    (c19 : PySem.W.codeIn K cd19 "pick_value" = true)
    (k19 : PySem.W.keepIn K (.ref g19) = true)
    (a20 : PySem.W.nsIn K mainGlobals "join_value" = some (some (.ref g20)))
    (l20 : K.lookup g20 = some ⟨oc20, od20, .func (PySem.W.fnOf "join_value" "join_value" (defArgs s_join_value) (defBody s_join_value) (defScope s_join_value) .none (kV20) dc20 pm20 an20 cd20 ct20), sl20⟩)
    (c20 : PySem.W.codeIn K cd20 "join_value" = true)
    (k20 : PySem.W.keepIn K (.ref g20) = true)
    (a21 : PySem.W.nsIn K mainGlobals "part_value" = some (some (.ref g21)))
    (l21 : K.lookup g21 = some ⟨oc21, od21, .func (PySem.W.fnOf "part_value" "part_value" (defArgs s_part_value) (defBody s_part_value) (defScope s_part_value) .none (kV21) dc21 pm21 an21 cd21 ct21), sl21⟩)
    (c21 : PySem.W.codeIn K cd21 "part_value" = true)
    (k21 : PySem.W.keepIn K (.ref g21) = true)
    (a22 : PySem.W.nsIn K mainGlobals "operated" = some (some (.ref g22)))
    (l22 : K.lookup g22 = some ⟨oc22, od22, .func (PySem.W.fnOf "operated" "operated" (defArgs s_operated) (defBody s_operated) (defScope s_operated) .none (.ref Dk22) dc22 pm22 an22 cd22 ct22), sl22⟩)
    (c22 : PySem.W.codeIn K cd22 "operated" = true)
    (k22 : PySem.W.keepIn K (.ref g22) = true)
    (d22_0 : PySem.W.nsIn K Dk22 "high" = some (some (.int 0 td22_0)))
    (d22_1 : PySem.W.nsIn K Dk22 "low" = some (some (.int 0 td22_1)))
    (a23 : PySem.W.nsIn K mainGlobals "arguments_of" = some (some (.ref g23)))
    (l23 : K.lookup g23 = some ⟨oc23, od23, .func (PySem.W.fnOf "arguments_of" "arguments_of" (defArgs s_arguments_of) (defBody s_arguments_of) (defScope s_arguments_of) .none (kV23) dc23 pm23 an23 cd23 ct23), sl23⟩)
    (c23 : PySem.W.codeIn K cd23 "arguments_of" = true)
    (k23 : PySem.W.keepIn K (.ref g23) = true)
    (a24 : PySem.W.nsIn K mainGlobals "value_of_term" = some (some (.ref qv)))
    (l24 : K.lookup qv = some ⟨oc24, od24, .func (PySem.W.fnOf "value_of_term" "value_of_term" (defArgs s_value_of_term) (defBody s_value_of_term) (defScope s_value_of_term) .none (kV24) dc24 pm24 an24 cd24 ct24), sl24⟩)
    (c24 : PySem.W.codeIn K cd24 "value_of_term" = true)
    (k24 : PySem.W.keepIn K (.ref qv) = true)
    (a25 : PySem.W.nsIn K mainGlobals "mixed_values" = some (some (.ref qm)))
    (l25 : K.lookup qm = some ⟨oc25, od25, .func (PySem.W.fnOf "mixed_values" "mixed_values" (defArgs s_mixed_values) (defBody s_mixed_values) (defScope s_mixed_values) .none (kV25) dc25 pm25 an25 cd25 ct25), sl25⟩)
    (c25 : PySem.W.codeIn K cd25 "mixed_values" = true)
    (k25 : PySem.W.keepIn K (.ref qm) = true)
    (a26 : PySem.W.nsIn K mainGlobals "behind_if" = some (some (.ref g26)))
    (l26 : K.lookup g26 = some ⟨oc26, od26, .func (PySem.W.fnOf "behind_if" "behind_if" (defArgs s_behind_if) (defBody s_behind_if) (defScope s_behind_if) .none (kV26) dc26 pm26 an26 cd26 ct26), sl26⟩)
    (c26 : PySem.W.codeIn K cd26 "behind_if" = true)
    (k26 : PySem.W.keepIn K (.ref g26) = true)
    (a27 : PySem.W.nsIn K mainGlobals "behind_body" = some (some (.ref g27)))
    (l27 : K.lookup g27 = some ⟨oc27, od27, .func (PySem.W.fnOf "behind_body" "behind_body" (defArgs s_behind_body) (defBody s_behind_body) (defScope s_behind_body) .none (kV27) dc27 pm27 an27 cd27 ct27), sl27⟩)
    (c27 : PySem.W.codeIn K cd27 "behind_body" = true)
    (k27 : PySem.W.keepIn K (.ref g27) = true)
    (a28 : PySem.W.nsIn K mainGlobals "body_done" = some (some (.ref g28)))
    (l28 : K.lookup g28 = some ⟨oc28, od28, .func (PySem.W.fnOf "body_done" "body_done" (defArgs s_body_done) (defBody s_body_done) (defScope s_body_done) .none (kV28) dc28 pm28 an28 cd28 ct28), sl28⟩)
    (c28 : PySem.W.codeIn K cd28 "body_done" = true)
    (k28 : PySem.W.keepIn K (.ref g28) = true)
    (a29 : PySem.W.nsIn K mainGlobals "_law_pot" = some (some (.ref g29)))
    (l29 : K.lookup g29 = some ⟨oc29, od29, .func (PySem.W.fnOf "_law_pot" "_law_pot" (defArgs s__law_pot) (defBody s__law_pot) (defScope s__law_pot) .none (kV29) dc29 pm29 an29 cd29 ct29), sl29⟩)
    (c29 : PySem.W.codeIn K cd29 "_law_pot" = true)
    (k29 : PySem.W.keepIn K (.ref g29) = true)
    (a30 : PySem.W.nsIn K mainGlobals "_law_take" = some (some (.ref g30)))
    (l30 : K.lookup g30 = some ⟨oc30, od30, .func (PySem.W.fnOf "_law_take" "_law_take" (defArgs s__law_take) (defBody s__law_take) (defScope s__law_take) .none (kV30) dc30 pm30 an30 cd30 ct30), sl30⟩)
    (c30 : PySem.W.codeIn K cd30 "_law_take" = true)
    (k30 : PySem.W.keepIn K (.ref g30) = true)
    (a31 : PySem.W.nsIn K mainGlobals "_law_signs" = some (some (.ref g31)))
    (l31 : K.lookup g31 = some ⟨oc31, od31, .func (PySem.W.fnOf "_law_signs" "_law_signs" (defArgs s__law_signs) (defBody s__law_signs) (defScope s__law_signs) .none (kV31) dc31 pm31 an31 cd31 ct31), sl31⟩)
    (c31 : PySem.W.codeIn K cd31 "_law_signs" = true)
    (k31 : PySem.W.keepIn K (.ref g31) = true)
    (a32 : PySem.W.nsIn K mainGlobals "_law_width" = some (some (.ref g32)))
    (l32 : K.lookup g32 = some ⟨oc32, od32, .func (PySem.W.fnOf "_law_width" "_law_width" (defArgs s__law_width) (defBody s__law_width) (defScope s__law_width) .none (kV32) dc32 pm32 an32 cd32 ct32), sl32⟩)
    (c32 : PySem.W.codeIn K cd32 "_law_width" = true)
    (k32 : PySem.W.keepIn K (.ref g32) = true)
    (a33 : PySem.W.nsIn K mainGlobals "_law_leaf" = some (some (.ref g33)))
    (l33 : K.lookup g33 = some ⟨oc33, od33, .func (PySem.W.fnOf "_law_leaf" "_law_leaf" (defArgs s__law_leaf) (defBody s__law_leaf) (defScope s__law_leaf) .none (kV33) dc33 pm33 an33 cd33 ct33), sl33⟩)
    (c33 : PySem.W.codeIn K cd33 "_law_leaf" = true)
    (k33 : PySem.W.keepIn K (.ref g33) = true)
    (a34 : PySem.W.nsIn K mainGlobals "_law_name" = some (some (.ref g34)))
    (l34 : K.lookup g34 = some ⟨oc34, od34, .func (PySem.W.fnOf "_law_name" "_law_name" (defArgs s__law_name) (defBody s__law_name) (defScope s__law_name) .none (kV34) dc34 pm34 an34 cd34 ct34), sl34⟩)
    (c34 : PySem.W.codeIn K cd34 "_law_name" = true)
    (k34 : PySem.W.keepIn K (.ref g34) = true)
    (a35 : PySem.W.nsIn K mainGlobals "_law_bit" = some (some (.ref g35)))
    (l35 : K.lookup g35 = some ⟨oc35, od35, .func (PySem.W.fnOf "_law_bit" "_law_bit" (defArgs s__law_bit) (defBody s__law_bit) (defScope s__law_bit) .none (kV35) dc35 pm35 an35 cd35 ct35), sl35⟩)
    (c35 : PySem.W.codeIn K cd35 "_law_bit" = true)
    (k35 : PySem.W.keepIn K (.ref g35) = true)
    (a36 : PySem.W.nsIn K mainGlobals "_law_term" = some (some (.ref g36)))
    (l36 : K.lookup g36 = some ⟨oc36, od36, .func (PySem.W.fnOf "_law_term" "_law_term" (defArgs s__law_term) (defBody s__law_term) (defScope s__law_term) .none (kV36) dc36 pm36 an36 cd36 ct36), sl36⟩)
    (c36 : PySem.W.codeIn K cd36 "_law_term" = true)
    (k36 : PySem.W.keepIn K (.ref g36) = true)
    (a37 : PySem.W.nsIn K mainGlobals "_law_statement" = some (some (.ref g37)))
    (l37 : K.lookup g37 = some ⟨oc37, od37, .func (PySem.W.fnOf "_law_statement" "_law_statement" (defArgs s__law_statement) (defBody s__law_statement) (defScope s__law_statement) .none (kV37) dc37 pm37 an37 cd37 ct37), sl37⟩)
    (c37 : PySem.W.codeIn K cd37 "_law_statement" = true)
    (k37 : PySem.W.keepIn K (.ref g37) = true)
    (a38 : PySem.W.nsIn K mainGlobals "_law_body" = some (some (.ref g38)))
    (l38 : K.lookup g38 = some ⟨oc38, od38, .func (PySem.W.fnOf "_law_body" "_law_body" (defArgs s__law_body) (defBody s__law_body) (defScope s__law_body) .none (kV38) dc38 pm38 an38 cd38 ct38), sl38⟩)
    (c38 : PySem.W.codeIn K cd38 "_law_body" = true)
    (k38 : PySem.W.keepIn K (.ref g38) = true)
    (a39 : PySem.W.nsIn K mainGlobals "_law_scene" = some (some (.ref g39)))
    (l39 : K.lookup g39 = some ⟨oc39, od39, .func (PySem.W.fnOf "_law_scene" "_law_scene" (defArgs s__law_scene) (defBody s__law_scene) (defScope s__law_scene) .none (kV39) dc39 pm39 an39 cd39 ct39), sl39⟩)
    (c39 : PySem.W.codeIn K cd39 "_law_scene" = true)
    (k39 : PySem.W.keepIn K (.ref g39) = true)
    (a40 : PySem.W.nsIn K mainGlobals "_law_values" = some (some (.ref g40)))
    (l40 : K.lookup g40 = some ⟨oc40, od40, .func (PySem.W.fnOf "_law_values" "_law_values" (defArgs s__law_values) (defBody s__law_values) (defScope s__law_values) .none (kV40) dc40 pm40 an40 cd40 ct40), sl40⟩)
    (c40 : PySem.W.codeIn K cd40 "_law_values" = true)
    (k40 : PySem.W.keepIn K (.ref g40) = true)
    (a41 : PySem.W.nsIn K mainGlobals "_law_fillings" = some (some (.ref g41)))
    (l41 : K.lookup g41 = some ⟨oc41, od41, .func (PySem.W.fnOf "_law_fillings" "_law_fillings" (defArgs s__law_fillings) (defBody s__law_fillings) (defScope s__law_fillings) .none (kV41) dc41 pm41 an41 cd41 ct41), sl41⟩)
    (c41 : PySem.W.codeIn K cd41 "_law_fillings" = true)
    (k41 : PySem.W.keepIn K (.ref g41) = true)
    (a42 : PySem.W.nsIn K mainGlobals "_law_is_so" = some (some (.ref g42)))
    (l42 : K.lookup g42 = some ⟨oc42, od42, .func (PySem.W.fnOf "_law_is_so" "_law_is_so" (defArgs s__law_is_so) (defBody s__law_is_so) (defScope s__law_is_so) .none (kV42) dc42 pm42 an42 cd42 ct42), sl42⟩)
    (c42 : PySem.W.codeIn K cd42 "_law_is_so" = true)
    (k42 : PySem.W.keepIn K (.ref g42) = true)
    (a43 : PySem.W.nsIn K mainGlobals "_law_put" = some (some (.ref g43)))
    (l43 : K.lookup g43 = some ⟨oc43, od43, .func (PySem.W.fnOf "_law_put" "_law_put" (defArgs s__law_put) (defBody s__law_put) (defScope s__law_put) .none (kV43) dc43 pm43 an43 cd43 ct43), sl43⟩)
    (c43 : PySem.W.codeIn K cd43 "_law_put" = true)
    (k43 : PySem.W.keepIn K (.ref g43) = true)
    (a44 : PySem.W.nsIn K mainGlobals "_law_covers" = some (some (.ref g44)))
    (l44 : K.lookup g44 = some ⟨oc44, od44, .func (PySem.W.fnOf "_law_covers" "_law_covers" (defArgs s__law_covers) (defBody s__law_covers) (defScope s__law_covers) .none (kV44) dc44 pm44 an44 cd44 ct44), sl44⟩)
    (c44 : PySem.W.codeIn K cd44 "_law_covers" = true)
    (k44 : PySem.W.keepIn K (.ref g44) = true)
    (a45 : PySem.W.nsIn K mainGlobals "_law_holes" = some (some (.ref g45)))
    (l45 : K.lookup g45 = some ⟨oc45, od45, .func (PySem.W.fnOf "_law_holes" "_law_holes" (defArgs s__law_holes) (defBody s__law_holes) (defScope s__law_holes) .none (kV45) dc45 pm45 an45 cd45 ct45), sl45⟩)
    (c45 : PySem.W.codeIn K cd45 "_law_holes" = true)
    (k45 : PySem.W.keepIn K (.ref g45) = true)
    (a46 : PySem.W.nsIn K mainGlobals "_law_right" = some (some (.ref g46)))
    (l46 : K.lookup g46 = some ⟨oc46, od46, .func (PySem.W.fnOf "_law_right" "_law_right" (defArgs s__law_right) (defBody s__law_right) (defScope s__law_right) .none (kV46) dc46 pm46 an46 cd46 ct46), sl46⟩)
    (c46 : PySem.W.codeIn K cd46 "_law_right" = true)
    (k46 : PySem.W.keepIn K (.ref g46) = true)
    (a47 : PySem.W.nsIn K mainGlobals "law" = some (some (.ref g47)))
    (l47 : K.lookup g47 = some ⟨oc47, od47, .func (PySem.W.fnOf "law" "law" (defArgs s_law) (defBody s_law) (defScope s_law) .none (kV47) dc47 pm47 an47 cd47 ct47), sl47⟩)
    (c47 : PySem.W.codeIn K cd47 "law" = true)
    (k47 : PySem.W.keepIn K (.ref g47) = true)
    (z0 : PySem.W.nsIn K mainGlobals "abs" = some none)
    (z1 : PySem.W.nsIn K mainGlobals "all" = some none)
    (z2 : PySem.W.nsIn K mainGlobals "dict" = some none)
    (z3 : PySem.W.nsIn K mainGlobals "divmod" = some none)
    (z4 : PySem.W.nsIn K mainGlobals "len" = some none)
    (z5 : PySem.W.nsIn K mainGlobals "list" = some none)
    (z6 : PySem.W.nsIn K mainGlobals "max" = some none)
    (z7 : PySem.W.nsIn K mainGlobals "min" = some none)
    (z8 : PySem.W.nsIn K mainGlobals "range" = some none)
    (z9 : PySem.W.nsIn K mainGlobals "tuple" = some none)
    (z10 : PySem.W.nsIn K mainGlobals "zip" = some none)
    (y0 : PySem.W.nsIn K mainGlobals "TOLD" = some (some (.str (Str.ofString "01") ty0)))
    (y_A : PySem.W.nsIn K mainGlobals "ACTIONS" = some (some (.ref dA)))
    (yl_A : K.lookup dA = some ⟨.type "dict", none, .dict esA nA, #[]⟩)
    (yk_A : PySem.W.KeysLit w.params esA.toList)
    (ye_not : PySem.W.nsIn K dA "not" = some (some (.ref g8)))
    (ye_and : PySem.W.nsIn K dA "and" = some (some (.ref g9)))
    (ye_or : PySem.W.nsIn K dA "or" = some (some (.ref g10)))
    (ye_xor : PySem.W.nsIn K dA "xor" = some (some (.ref g11)))
    (ye_plus : PySem.W.nsIn K dA "plus" = some (some (.ref g12)))
    (ye_same : PySem.W.nsIn K dA "same" = some (some (.ref g15)))
    (ye_less : PySem.W.nsIn K dA "less" = some (some (.ref g18)))
    (ye_any : PySem.W.nsIn K dA "any" = some (some (.ref g13)))
    (ye_all : PySem.W.nsIn K dA "all" = some (some (.ref g14)))
    (ye_pick : PySem.W.nsIn K dA "pick" = some (some (.ref g19)))
    (ye_join : PySem.W.nsIn K dA "join" = some (some (.ref g20)))
    (y_T : PySem.W.nsIn K mainGlobals "TURNED" = some (some (.ref dT)))
    (yl_T : K.lookup dT = some ⟨.type "dict", none, .dict esT nT, #[]⟩)
    (yk_T : PySem.W.KeysLit w.params esT.toList)
    (ye_T0 : PySem.W.nsIn K dT "0" = some (some (.str (Str.ofString "1") tt0)))
    (ye_T1 : PySem.W.nsIn K dT "1" = some (some (.str (Str.ofString "0") tt1)))
    (ye_Tx : PySem.W.nsIn K dT "x" = some (some (.str (Str.ofString "x") ttx)))
    (y_G : PySem.W.nsIn K mainGlobals "ARGUMENTS" = some (some (.ref dG)))
    (yl_G : K.lookup dG = some ⟨.type "dict", none, .dict esG nG, #[]⟩)
    (yk_G : PySem.W.KeysLit w.params esG.toList)
    (ye_G_not : PySem.W.nsIn K dG "not" = some (some (.int 1 tg_not)))
    (ye_G_and : PySem.W.nsIn K dG "and" = some (some (.int 2 tg_and)))
    (ye_G_or : PySem.W.nsIn K dG "or" = some (some (.int 2 tg_or)))
    (ye_G_xor : PySem.W.nsIn K dG "xor" = some (some (.int 2 tg_xor)))
    (ye_G_plus : PySem.W.nsIn K dG "plus" = some (some (.int 2 tg_plus)))
    (ye_G_same : PySem.W.nsIn K dG "same" = some (some (.int 2 tg_same)))
    (ye_G_less : PySem.W.nsIn K dG "less" = some (some (.int 2 tg_less)))
    (ye_G_any : PySem.W.nsIn K dG "any" = some (some (.int 1 tg_any)))
    (ye_G_all : PySem.W.nsIn K dG "all" = some (some (.int 1 tg_all)))
    (ye_G_pick : PySem.W.nsIn K dG "pick" = some (some (.int 3 tg_pick)))
    (ye_G_join : PySem.W.nsIn K dG "join" = some (some (.int 2 tg_join)))
    (ye_G_part : PySem.W.nsIn K dG "part" = some (some (.int 1 tg_part)))
    : ∃ fd : FuncData, (∀ (s : Shared) (v : Value), BindsTo s fd ⟨[v], []⟩ [("_law_script", v)]) ∧ ∀ base : Heap, K.In base → base.Ns mainGlobals mg → FnOk l.prog w K mg base CX0 29 fa fd ["_law_script"] (spLaw K) := by
  have e := hfa.symm.trans (PySem.W.mg_of X G a47)
  cases e
  have B : Bi K w mg dA dT dG qa qo qx qv qm := ⟨PySem.W.mg_none_of X G z0, PySem.W.mg_none_of X G z1, PySem.W.mg_none_of X G z2, PySem.W.mg_none_of X G z3, PySem.W.mg_none_of X G z4, PySem.W.mg_none_of X G z5, PySem.W.mg_none_of X G z6, PySem.W.mg_none_of X G z7, PySem.W.mg_none_of X G z8, PySem.W.mg_none_of X G z9, PySem.W.mg_none_of X G z10, ⟨_, PySem.W.mg_of X G y0, _, rfl⟩, ⟨_, PySem.W.mg_of X G y_A, rfl⟩, ⟨_, PySem.W.mg_of X G y_T, rfl⟩, ⟨_, PySem.W.mg_of X G y_G, rfl⟩, ⟨_, PySem.W.mg_of X G a3, rfl⟩, ⟨_, PySem.W.mg_of X G a4, rfl⟩, ⟨_, PySem.W.mg_of X G a5, rfl⟩, by rw [← s_0, ← s_1]; exact ⟨_, _, _, yl_T, yk_T, ye_T0, _, rfl⟩, by rw [← s_1, ← s_0]; exact ⟨_, _, _, yl_T, yk_T, ye_T1, _, rfl⟩, by rw [← s_x]; exact ⟨_, _, _, yl_T, yk_T, ye_Tx, _, rfl⟩, fun p hp => by
    simp only [argN, List.mem_cons, List.not_mem_nil, or_false] at hp
    rcases hp with rfl | rfl | rfl | rfl | rfl | rfl | rfl | rfl | rfl | rfl | rfl | rfl
    · exact ⟨_, _, _, yl_G, yk_G, ye_G_not, _, rfl⟩
    · exact ⟨_, _, _, yl_G, yk_G, ye_G_and, _, rfl⟩
    · exact ⟨_, _, _, yl_G, yk_G, ye_G_or, _, rfl⟩
    · exact ⟨_, _, _, yl_G, yk_G, ye_G_xor, _, rfl⟩
    · exact ⟨_, _, _, yl_G, yk_G, ye_G_plus, _, rfl⟩
    · exact ⟨_, _, _, yl_G, yk_G, ye_G_same, _, rfl⟩
    · exact ⟨_, _, _, yl_G, yk_G, ye_G_less, _, rfl⟩
    · exact ⟨_, _, _, yl_G, yk_G, ye_G_any, _, rfl⟩
    · exact ⟨_, _, _, yl_G, yk_G, ye_G_all, _, rfl⟩
    · exact ⟨_, _, _, yl_G, yk_G, ye_G_pick, _, rfl⟩
    · exact ⟨_, _, _, yl_G, yk_G, ye_G_join, _, rfl⟩
    · exact ⟨_, _, _, yl_G, yk_G, ye_G_part, _, rfl⟩, ⟨_, PySem.W.mg_of X G a24, rfl⟩, ⟨_, PySem.W.mg_of X G a25, rfl⟩⟩
  have F0 := fun_mk (st := s_read) l0 c0 k0
  have b0 := F0.binds (ps := ["value"]) fun _ _ _ _ _ _ us hl => match us, hl with | [_], _ => rfl
  have F1 := fun_mk (st := s_mixed_sign) l1 c1 k1
  have b1 := F1.binds (ps := ["one", "other"]) fun _ _ _ _ _ _ us hl => match us, hl with | [_, _], _ => rfl
  have F2 := fun_mk (st := s_mixed) l2 c2 k2
  have b2 := F2.binds (ps := ["one", "other"]) fun _ _ _ _ _ _ us hl => match us, hl with | [_, _], _ => rfl
  have F3 := fun_mk (st := s_and_sign) l3 c3 k3
  have b3 := F3.binds (ps := ["one", "other"]) fun _ _ _ _ _ _ us hl => match us, hl with | [_, _], _ => rfl
  have F4 := fun_mk (st := s_or_sign) l4 c4 k4
  have b4 := F4.binds (ps := ["one", "other"]) fun _ _ _ _ _ _ us hl => match us, hl with | [_, _], _ => rfl
  have F5 := fun_mk (st := s_xor_sign) l5 c5 k5
  have b5 := F5.binds (ps := ["one", "other"]) fun _ _ _ _ _ _ us hl => match us, hl with | [_, _], _ => rfl
  have F6 := fun_mk (st := s_most_sign) l6 c6 k6
  have b6 := F6.binds (ps := ["one", "other", "third"]) fun _ _ _ _ _ _ us hl => match us, hl with | [_, _, _], _ => rfl
  have F7 := fun_mk (st := s_by_bits) l7 c7 k7
  have b7 := F7.binds (ps := ["rule", "one", "other"]) fun _ _ _ _ _ _ us hl => match us, hl with | [_, _, _], _ => rfl
  have F8 := fun_mk (st := s_not_value) l8 c8 k8
  have b8 := F8.binds (ps := ["value"]) fun _ _ _ _ _ _ us hl => match us, hl with | [_], _ => rfl
  have F9 := fun_mk (st := s_and_value) l9 c9 k9
  have b9 := F9.binds (ps := ["one", "other"]) fun _ _ _ _ _ _ us hl => match us, hl with | [_, _], _ => rfl
  have F10 := fun_mk (st := s_or_value) l10 c10 k10
  have b10 := F10.binds (ps := ["one", "other"]) fun _ _ _ _ _ _ us hl => match us, hl with | [_, _], _ => rfl
  have F11 := fun_mk (st := s_xor_value) l11 c11 k11
  have b11 := F11.binds (ps := ["one", "other"]) fun _ _ _ _ _ _ us hl => match us, hl with | [_, _], _ => rfl
  have F12 := fun_mk (st := s_plus_value) l12 c12 k12
  have b12 := F12.binds (ps := ["one", "other"]) fun _ _ _ _ _ _ us hl => match us, hl with | [_, _], _ => rfl
  have F13 := fun_mk (st := s_any_value) l13 c13 k13
  have b13 := F13.binds (ps := ["value"]) fun _ _ _ _ _ _ us hl => match us, hl with | [_], _ => rfl
  have F14 := fun_mk (st := s_all_value) l14 c14 k14
  have b14 := F14.binds (ps := ["value"]) fun _ _ _ _ _ _ us hl => match us, hl with | [_], _ => rfl
  have F15 := fun_mk (st := s_same_value) l15 c15 k15
  have b15 := F15.binds (ps := ["one", "other"]) fun _ _ _ _ _ _ us hl => match us, hl with | [_, _], _ => rfl
  have F16 := fun_mk (st := s_lowest) l16 c16 k16
  have b16 := F16.binds (ps := ["value"]) fun _ _ _ _ _ _ us hl => match us, hl with | [_], _ => rfl
  have F17 := fun_mk (st := s_highest) l17 c17 k17
  have b17 := F17.binds (ps := ["value"]) fun _ _ _ _ _ _ us hl => match us, hl with | [_], _ => rfl
  have F18 := fun_mk (st := s_less_value) l18 c18 k18
  have b18 := F18.binds (ps := ["one", "other"]) fun _ _ _ _ _ _ us hl => match us, hl with | [_, _], _ => rfl
  have F19 := fun_mk (st := s_pick_value) l19 c19 k19
  have b19 := F19.binds (ps := ["choice", "one", "other"]) fun _ _ _ _ _ _ us hl => match us, hl with | [_, _, _], _ => rfl
  have F20 := fun_mk (st := s_join_value) l20 c20 k20
  have b20 := F20.binds (ps := ["one", "other"]) fun _ _ _ _ _ _ us hl => match us, hl with | [_, _], _ => rfl
  have F21 := fun_mk (st := s_part_value) l21 c21 k21
  have b21 := F21.binds (ps := ["value", "high", "low"]) fun _ _ _ _ _ _ us hl => match us, hl with | [_, _, _], _ => rfl
  have F22 : FunD K "operated" "operated" (defArgs s_operated) (defBody s_operated) (defScope s_operated) [] [("high", .int 0), ("low", .int 0)] g22 (PySem.W.fnOf "operated" "operated" (defArgs s_operated) (defBody s_operated) (defScope s_operated) .none (.ref Dk22) dc22 pm22 an22 cd22 ct22) := ⟨⟨_, _, _, _, _, _, _, _, _, _, rfl, l22, c22, .inl ⟨rfl, rfl⟩, .inr ⟨Dk22, rfl, fun q hq => by
    simp only [List.mem_cons, List.not_mem_nil, or_false] at hq
    rcases hq with rfl | rfl
    · exact ⟨_, d22_0, _, rfl⟩
    · exact ⟨_, d22_1, _, rfl⟩
    ⟩⟩, k22⟩
  obtain ⟨ds22, v22_0, b22_0⟩ := F22.binds0 (ps := ["word", "values", "high", "low"]) 2 (by decide) rfl fun D doc pm an cdv ct us ks hu hk => match us, ks, hu, hk with | [_, _], [_, _], _, _ => ⟨_, _, _, _, _, _, rfl, rfl, ⟨_, _, _, _, _, _, rfl, rfl, rfl⟩⟩
  have kb_operated_high_low : KBn K (PySem.W.fnOf "operated" "operated" (defArgs s_operated) (defBody s_operated) (defScope s_operated) .none (.ref Dk22) dc22 pm22 an22 cd22 ct22) ["word", "values", "high", "low"] 2 ["high", "low"] (fun us ws => us ++ ws) (fun vs zs => vs ++ zs) := ⟨fun s us ws _ hu hw => match us, ws, hu, hw with | [_, _], [_, _], _, _ => .of_eq rfl, fun r1 r2 => r1.append r2⟩
  have F23 := fun_mk (st := s_arguments_of) l23 c23 k23
  have b23 := F23.binds (ps := ["term"]) fun _ _ _ _ _ _ us hl => match us, hl with | [_], _ => rfl
  have F24 := fun_mk (st := s_value_of_term) l24 c24 k24
  have b24 := F24.binds (ps := ["term", "values"]) fun _ _ _ _ _ _ us hl => match us, hl with | [_, _], _ => rfl
  have F25 := fun_mk (st := s_mixed_values) l25 c25 k25
  have b25 := F25.binds (ps := ["choice", "one", "other", "values"]) fun _ _ _ _ _ _ us hl => match us, hl with | [_, _, _, _], _ => rfl
  have F26 := fun_mk (st := s_behind_if) l26 c26 k26
  have b26 := F26.binds (ps := ["statement", "values", "ahead", "told", "chosen"]) fun _ _ _ _ _ _ us hl => match us, hl with | [_, _, _, _, _], _ => rfl
  have F27 := fun_mk (st := s_behind_body) l27 c27 k27
  have b27 := F27.binds (ps := ["body", "values", "ahead", "told", "chosen"]) fun _ _ _ _ _ _ us hl => match us, hl with | [_, _, _, _, _], _ => rfl
  have F28 := fun_mk (st := s_body_done) l28 c28 k28
  have b28 := F28.binds (ps := ["body", "values"]) fun _ _ _ _ _ _ us hl => match us, hl with | [_, _], _ => rfl
  have F29 := fun_mk (st := s__law_pot) l29 c29 k29
  have b29 := F29.binds (ps := ["_law_script", "_law_k"]) fun _ _ _ _ _ _ us hl => match us, hl with | [_, _], _ => rfl
  have F30 := fun_mk (st := s__law_take) l30 c30 k30
  have b30 := F30.binds (ps := ["_law_pot_here", "_law_many"]) fun _ _ _ _ _ _ us hl => match us, hl with | [_, _], _ => rfl
  have F31 := fun_mk (st := s__law_signs) l31 c31 k31
  have b31 := F31.binds (ps := ["_law_pot_here", "_law_width_here", "_law_signs_here"]) fun _ _ _ _ _ _ us hl => match us, hl with | [_, _, _], _ => rfl
  have F32 := fun_mk (st := s__law_width) l32 c32 k32
  have b32 := F32.binds (ps := ["_law_pot_here"]) fun _ _ _ _ _ _ us hl => match us, hl with | [_], _ => rfl
  have F33 := fun_mk (st := s__law_leaf) l33 c33 k33
  have b33 := F33.binds (ps := ["_law_pot_here", "_law_widths", "_law_width_here"]) fun _ _ _ _ _ _ us hl => match us, hl with | [_, _, _], _ => rfl
  have F34 := fun_mk (st := s__law_name) l34 c34 k34
  have b34 := F34.binds (ps := ["_law_pot_here", "_law_taken"]) fun _ _ _ _ _ _ us hl => match us, hl with | [_, _], _ => rfl
  have F35 := fun_mk (st := s__law_bit) l35 c35 k35
  have b35 := F35.binds (ps := ["_law_pot_here", "_law_widths", "_law_deep"]) fun _ _ _ _ _ _ us hl => match us, hl with | [_, _, _], _ => rfl
  have F36 := fun_mk (st := s__law_term) l36 c36 k36
  have b36 := F36.binds (ps := ["_law_pot_here", "_law_widths", "_law_width_here", "_law_deep"]) fun _ _ _ _ _ _ us hl => match us, hl with | [_, _, _, _], _ => rfl
  have F37 := fun_mk (st := s__law_statement) l37 c37 k37
  have b37 := F37.binds (ps := ["_law_pot_here", "_law_widths", "_law_ways", "_law_deep", "_law_room"]) fun _ _ _ _ _ _ us hl => match us, hl with | [_, _, _, _, _], _ => rfl
  have F38 := fun_mk (st := s__law_body) l38 c38 k38
  have b38 := F38.binds (ps := ["_law_pot_here", "_law_widths", "_law_ways", "_law_deep", "_law_room"]) fun _ _ _ _ _ _ us hl => match us, hl with | [_, _, _, _, _], _ => rfl
  have F39 := fun_mk (st := s__law_scene) l39 c39 k39
  have b39 := F39.binds (ps := ["_law_pot_here"]) fun _ _ _ _ _ _ us hl => match us, hl with | [_], _ => rfl
  have F40 := fun_mk (st := s__law_values) l40 c40 k40
  have b40 := F40.binds (ps := ["_law_pot_here", "_law_widths", "_law_ways", "_law_signs_here"]) fun _ _ _ _ _ _ us hl => match us, hl with | [_, _, _, _], _ => rfl
  have F41 := fun_mk (st := s__law_fillings) l41 c41 k41
  have b41 := F41.binds (ps := ["_law_many"]) fun _ _ _ _ _ _ us hl => match us, hl with | [_], _ => rfl
  have F42 := fun_mk (st := s__law_is_so) l42 c42 k42
  have b42 := F42.binds (ps := ["_law_one", "_law_other"]) fun _ _ _ _ _ _ us hl => match us, hl with | [_, _], _ => rfl
  have F43 := fun_mk (st := s__law_put) l43 c43 k43
  have b43 := F43.binds (ps := ["_law_given", "_law_holes_here", "_law_signs_here"]) fun _ _ _ _ _ _ us hl => match us, hl with | [_, _, _], _ => rfl
  have F44 := fun_mk (st := s__law_covers) l44 c44 k44
  have b44 := F44.binds (ps := ["_law_told", "_law_other", "_law_values_here"]) fun _ _ _ _ _ _ us hl => match us, hl with | [_, _, _], _ => rfl
  have F45 := fun_mk (st := s__law_holes) l45 c45 k45
  have b45 := F45.binds (ps := ["_law_pot_here", "_law_given", "_law_names", "_law_room"]) fun _ _ _ _ _ _ us hl => match us, hl with | [_, _, _, _], _ => rfl
  have F46 := fun_mk (st := s__law_right) l46 c46 k46
  have b46 := F46.binds (ps := ["_law_body_here", "_law_values_here", "_law_holes_here"]) fun _ _ _ _ _ _ us hl => match us, hl with | [_, _, _], _ => rfl
  have F47 := fun_mk (st := s_law) l47 c47 k47
  refine ⟨PySem.W.fnOf "law" "law" (defArgs s_law) (defBody s_law) (defScope s_law) .none kV47 dc47 pm47 an47 cd47 ct47, fun s v => .of_eq rfl, fun base _ _ => ?_⟩
  have E0 : Df l.prog w K mg base CX0 "read" 1 g0 _ ["value"] (spRead) := ⟨ok_read F0 B  , PySem.W.mg_of X G a0, k0, b0⟩
  have E1 : Df l.prog w K mg base CX0 "mixed_sign" 1 g1 _ ["one", "other"] (spMixS) := ⟨ok_mixed_sign F1 B  , PySem.W.mg_of X G a1, k1, b1⟩
  have E2 : Df l.prog w K mg base CX0 "mixed" 2 g2 _ ["one", "other"] (spMixed) := ⟨ok_mixed F2 B  E1, PySem.W.mg_of X G a2, k2, b2⟩
  have E3 : Df l.prog w K mg base CX0 "and_sign" 1 qa _ ["one", "other"] (spSg andS) := ⟨ok_and_sign F3 B  , PySem.W.mg_of X G a3, k3, b3⟩
  have E4 : Df l.prog w K mg base CX0 "or_sign" 1 qo _ ["one", "other"] (spSg orS) := ⟨ok_or_sign F4 B  , PySem.W.mg_of X G a4, k4, b4⟩
  have E5 : Df l.prog w K mg base CX0 "xor_sign" 1 qx _ ["one", "other"] (spSg xorS) := ⟨ok_xor_sign F5 B  , PySem.W.mg_of X G a5, k5, b5⟩
  have E6 : Df l.prog w K mg base CX0 "most_sign" 1 g6 _ ["one", "other", "third"] (spMost) := ⟨ok_most_sign F6 B  , PySem.W.mg_of X G a6, k6, b6⟩
  have E7 : Df l.prog w K mg base CX0 "by_bits" 2 g7 _ ["rule", "one", "other"] (spBits qa qo qx) := ⟨ok_by_bits F7 B  E3 E4 E5, PySem.W.mg_of X G a7, k7, b7⟩
  have E8 : Df l.prog w K mg base CX0 "not_value" 4 g8 _ ["value"] (spNot) := ⟨ok_not_value F8 B  , PySem.W.mg_of X G a8, k8, b8⟩
  have E9 : Df l.prog w K mg base CX0 "and_value" 4 g9 _ ["one", "other"] (spTwo 1) := ⟨ok_and_value F9 B  E7, PySem.W.mg_of X G a9, k9, b9⟩
  have E10 : Df l.prog w K mg base CX0 "or_value" 4 g10 _ ["one", "other"] (spTwo 2) := ⟨ok_or_value F10 B  E7, PySem.W.mg_of X G a10, k10, b10⟩
  have E11 : Df l.prog w K mg base CX0 "xor_value" 3 g11 _ ["one", "other"] (spTwo 3) := ⟨ok_xor_value F11 B  E7, PySem.W.mg_of X G a11, k11, b11⟩
  have E12 : Df l.prog w K mg base CX0 "plus_value" 4 g12 _ ["one", "other"] (spTwoS plusS) := ⟨ok_plus_value F12 B  E5 E6, PySem.W.mg_of X G a12, k12, b12⟩
  have E13 : Df l.prog w K mg base CX0 "any_value" 1 g13 _ ["value"] (spOne anyS) := ⟨ok_any_value F13 B  , PySem.W.mg_of X G a13, k13, b13⟩
  have E14 : Df l.prog w K mg base CX0 "all_value" 4 g14 _ ["value"] (spOne allS) := ⟨ok_all_value F14 B  , PySem.W.mg_of X G a14, k14, b14⟩
  have E15 : Df l.prog w K mg base CX0 "same_value" 4 g15 _ ["one", "other"] (spTwoS fun a b => [sameS a b]) := ⟨ok_same_value F15 B  E13 E11, PySem.W.mg_of X G a15, k15, b15⟩
  have E16 : Df l.prog w K mg base CX0 "lowest" 1 g16 _ ["value"] (spMapS loS) := ⟨ok_lowest F16 B  , PySem.W.mg_of X G a16, k16, b16⟩
  have E17 : Df l.prog w K mg base CX0 "highest" 1 g17 _ ["value"] (spMapS hiS) := ⟨ok_highest F17 B  , PySem.W.mg_of X G a17, k17, b17⟩
  have E18 : Df l.prog w K mg base CX0 "less_value" 4 g18 _ ["one", "other"] (spTwoS fun a b => [lessS a b]) := ⟨ok_less_value F18 B  E17 E16, PySem.W.mg_of X G a18, k18, b18⟩
  have E19 : Df l.prog w K mg base CX0 "pick_value" 4 g19 _ ["choice", "one", "other"] (spPick) := ⟨ok_pick_value F19 B  E2, PySem.W.mg_of X G a19, k19, b19⟩
  have E20 : Df l.prog w K mg base CX0 "join_value" 4 g20 _ ["one", "other"] (spJoin) := ⟨ok_join_value F20 B  , PySem.W.mg_of X G a20, k20, b20⟩
  have E21 : Df l.prog w K mg base CX0 "part_value" 1 g21 _ ["value", "high", "low"] (spPart) := ⟨ok_part_value F21 B  , PySem.W.mg_of X G a21, k21, b21⟩
  have E22 : DfD l.prog w K mg base CX0 "operated" 5 g22 _ ["word", "values", "high", "low"] (spOp K) := ⟨ok_operated F22 B ⟨_, _, _, yl_A, yk_A, ye_not, rfl⟩ ⟨_, _, _, yl_A, yk_A, ye_and, rfl⟩ ⟨_, _, _, yl_A, yk_A, ye_or, rfl⟩ ⟨_, _, _, yl_A, yk_A, ye_xor, rfl⟩ ⟨_, _, _, yl_A, yk_A, ye_plus, rfl⟩ ⟨_, _, _, yl_A, yk_A, ye_same, rfl⟩ ⟨_, _, _, yl_A, yk_A, ye_less, rfl⟩ ⟨_, _, _, yl_A, yk_A, ye_any, rfl⟩ ⟨_, _, _, yl_A, yk_A, ye_all, rfl⟩ ⟨_, _, _, yl_A, yk_A, ye_pick, rfl⟩ ⟨_, _, _, yl_A, yk_A, ye_join, rfl⟩ E0 E21 E8 E9 E10 E11 E12 E15 E18 E13 E14 E19 E20, PySem.W.mg_of X G a22, k22⟩
  have E23 : Df l.prog w K mg base CX0 "arguments_of" 1 g23 _ ["term"] (spArgs) := ⟨ok_arguments_of F23 B  , PySem.W.mg_of X G a23, k23, b23⟩
  have value_of_term_0 : Df l.prog w K mg base CX0 "value_of_term" 6 qv _ ["term", "values"] (spVT 0) := ⟨F24.ok sc_value_of_term (fun vs H Q E h => by obtain ⟨v, d, t, m, ws, E', rfl, _⟩ := h; rfl) (fun cdv A outer s H vs Q E hr h => by obtain ⟨v, d, t, m, ws, E', _, _, hd, _⟩ := h; exact absurd hd (by have := dep_pos t; omega)), PySem.W.mg_of X G a24, k24, b24⟩
  have value_of_term_1 : Df l.prog w K mg base CX0 "value_of_term" 7 qv _ ["term", "values"] (spVT 1) := ⟨ok_value_of_term (n := 0) (k := 6) F24 B (by decide) E0 E23 E22 b22_0 v22_0 kb_operated_high_low value_of_term_0, PySem.W.mg_of X G a24, k24, b24⟩
  have value_of_term_2 : Df l.prog w K mg base CX0 "value_of_term" 8 qv _ ["term", "values"] (spVT 2) := ⟨ok_value_of_term (n := 1) (k := 7) F24 B (by decide) E0 E23 E22 b22_0 v22_0 kb_operated_high_low value_of_term_1, PySem.W.mg_of X G a24, k24, b24⟩
  have value_of_term_3 : Df l.prog w K mg base CX0 "value_of_term" 9 qv _ ["term", "values"] (spVT 3) := ⟨ok_value_of_term (n := 2) (k := 8) F24 B (by decide) E0 E23 E22 b22_0 v22_0 kb_operated_high_low value_of_term_2, PySem.W.mg_of X G a24, k24, b24⟩
  have value_of_term_4 : Df l.prog w K mg base CX0 "value_of_term" 10 qv _ ["term", "values"] (spVT 4) := ⟨ok_value_of_term (n := 3) (k := 9) F24 B (by decide) E0 E23 E22 b22_0 v22_0 kb_operated_high_low value_of_term_3, PySem.W.mg_of X G a24, k24, b24⟩
  have value_of_term_5 : Df l.prog w K mg base CX0 "value_of_term" 11 qv _ ["term", "values"] (spVT 5) := ⟨ok_value_of_term (n := 4) (k := 10) F24 B (by decide) E0 E23 E22 b22_0 v22_0 kb_operated_high_low value_of_term_4, PySem.W.mg_of X G a24, k24, b24⟩
  have value_of_term_6 : Df l.prog w K mg base CX0 "value_of_term" 12 qv _ ["term", "values"] (spVT 6) := ⟨ok_value_of_term (n := 5) (k := 11) F24 B (by decide) E0 E23 E22 b22_0 v22_0 kb_operated_high_low value_of_term_5, PySem.W.mg_of X G a24, k24, b24⟩
  have value_of_term_7 : Df l.prog w K mg base CX0 "value_of_term" 13 qv _ ["term", "values"] (spVT 7) := ⟨ok_value_of_term (n := 6) (k := 12) F24 B (by decide) E0 E23 E22 b22_0 v22_0 kb_operated_high_low value_of_term_6, PySem.W.mg_of X G a24, k24, b24⟩
  have value_of_term_8 : Df l.prog w K mg base CX0 "value_of_term" 14 qv _ ["term", "values"] (spVT 8) := ⟨ok_value_of_term (n := 7) (k := 13) F24 B (by decide) E0 E23 E22 b22_0 v22_0 kb_operated_high_low value_of_term_7, PySem.W.mg_of X G a24, k24, b24⟩
  have value_of_term_9 : Df l.prog w K mg base CX0 "value_of_term" 15 qv _ ["term", "values"] (spVT 9) := ⟨ok_value_of_term (n := 8) (k := 14) F24 B (by decide) E0 E23 E22 b22_0 v22_0 kb_operated_high_low value_of_term_8, PySem.W.mg_of X G a24, k24, b24⟩
  have value_of_term_10 : Df l.prog w K mg base CX0 "value_of_term" 16 qv _ ["term", "values"] (spVT 10) := ⟨ok_value_of_term (n := 9) (k := 15) F24 B (by decide) E0 E23 E22 b22_0 v22_0 kb_operated_high_low value_of_term_9, PySem.W.mg_of X G a24, k24, b24⟩
  have E24 : Df l.prog w K mg base CX0 "value_of_term" 17 qv _ ["term", "values"] (spVT 11) := ⟨ok_value_of_term (n := 10) (k := 16) F24 B (by decide) E0 E23 E22 b22_0 v22_0 kb_operated_high_low value_of_term_10, PySem.W.mg_of X G a24, k24, b24⟩
  have E25 : Df l.prog w K mg base CX0 "mixed_values" 3 qm _ ["choice", "one", "other", "values"] (spMixV) := ⟨ok_mixed_values F25 B  E2, PySem.W.mg_of X G a25, k25, b25⟩
  have I0 : Df l.prog w K mg base CX0 "behind_if" 17 g26 _ ["statement", "values", "ahead", "told", "chosen"] (spBIP qv qm 0) := ⟨F26.ok sc_behind_if (fun vs H Q E h => h.elim) (fun cdv A outer s H vs Q E hr h => h.elim), PySem.W.mg_of X G a26, k26, b26⟩
  have BB0 : Df l.prog w K mg base CX0 "behind_body" 18 g27 _ ["body", "values", "ahead", "told", "chosen"] (spBB qv qm 0) := ⟨ok_behind_body (n := 0) (k := 17) F27 B (by decide) E24 E25 I0, PySem.W.mg_of X G a27, k27, b27⟩
  have I1 : Df l.prog w K mg base CX0 "behind_if" 19 g26 _ ["statement", "values", "ahead", "told", "chosen"] (spBIP qv qm 1) := ⟨ok_behind_if (n := 0) (k := 18) F26 B (by decide) E24 E25 BB0, PySem.W.mg_of X G a26, k26, b26⟩
  have BB1 : Df l.prog w K mg base CX0 "behind_body" 20 g27 _ ["body", "values", "ahead", "told", "chosen"] (spBB qv qm 1) := ⟨ok_behind_body (n := 1) (k := 19) F27 B (by decide) E24 E25 I1, PySem.W.mg_of X G a27, k27, b27⟩
  have I2 : Df l.prog w K mg base CX0 "behind_if" 21 g26 _ ["statement", "values", "ahead", "told", "chosen"] (spBIP qv qm 2) := ⟨ok_behind_if (n := 1) (k := 20) F26 B (by decide) E24 E25 BB1, PySem.W.mg_of X G a26, k26, b26⟩
  have BB2 : Df l.prog w K mg base CX0 "behind_body" 22 g27 _ ["body", "values", "ahead", "told", "chosen"] (spBB qv qm 2) := ⟨ok_behind_body (n := 2) (k := 21) F27 B (by decide) E24 E25 I2, PySem.W.mg_of X G a27, k27, b27⟩
  have I3 : Df l.prog w K mg base CX0 "behind_if" 23 g26 _ ["statement", "values", "ahead", "told", "chosen"] (spBIP qv qm 3) := ⟨ok_behind_if (n := 2) (k := 22) F26 B (by decide) E24 E25 BB2, PySem.W.mg_of X G a26, k26, b26⟩
  have BB3 : Df l.prog w K mg base CX0 "behind_body" 24 g27 _ ["body", "values", "ahead", "told", "chosen"] (spBB qv qm 3) := ⟨ok_behind_body (n := 3) (k := 23) F27 B (by decide) E24 E25 I3, PySem.W.mg_of X G a27, k27, b27⟩
  have I4 : Df l.prog w K mg base CX0 "behind_if" 25 g26 _ ["statement", "values", "ahead", "told", "chosen"] (spBIP qv qm 4) := ⟨ok_behind_if (n := 3) (k := 24) F26 B (by decide) E24 E25 BB3, PySem.W.mg_of X G a26, k26, b26⟩
  have E27 : Df l.prog w K mg base CX0 "behind_body" 26 g27 _ ["body", "values", "ahead", "told", "chosen"] (spBB qv qm 4) := ⟨ok_behind_body (n := 4) (k := 25) F27 B (by decide) E24 E25 I4, PySem.W.mg_of X G a27, k27, b27⟩
  have E28 : Df l.prog w K mg base CX0 "body_done" 27 g28 _ ["body", "values"] (spBD) := ⟨ok_body_done F28 B  E27, PySem.W.mg_of X G a28, k28, b28⟩
  have E29 : Df l.prog w K mg base CX0 "_law_pot" 1 g29 _ ["_law_script", "_law_k"] (spPot K) := ⟨ok__law_pot F29 B  , PySem.W.mg_of X G a29, k29, b29⟩
  have E30 : Df l.prog w K mg base CX0 "_law_take" 1 g30 _ ["_law_pot_here", "_law_many"] (spTake) := ⟨ok__law_take F30 B  , PySem.W.mg_of X G a30, k30, b30⟩
  have E31 : Df l.prog w K mg base CX0 "_law_signs" 2 g31 _ ["_law_pot_here", "_law_width_here", "_law_signs_here"] (spSigns) := ⟨ok__law_signs F31 B  E30, PySem.W.mg_of X G a31, k31, b31⟩
  have E32 : Df l.prog w K mg base CX0 "_law_width" 2 g32 _ ["_law_pot_here"] (spWidthK) := ⟨ok__law_width F32 B  E30, PySem.W.mg_of X G a32, k32, b32⟩
  have E33 : Df l.prog w K mg base CX0 "_law_leaf" 3 g33 _ ["_law_pot_here", "_law_widths", "_law_width_here"] (spLeafK) := ⟨ok__law_leaf F33 B  E30 E31, PySem.W.mg_of X G a33, k33, b33⟩
  have E34 : Df l.prog w K mg base CX0 "_law_name" 3 g34 _ ["_law_pot_here", "_law_taken"] (spNameK) := ⟨ok__law_name F34 B  E30 E31, PySem.W.mg_of X G a34, k34, b34⟩
  have N0 : Df l.prog w K mg base CX0 "_law_term" 3 g36 _ ["_law_pot_here", "_law_widths", "_law_width_here", "_law_deep"] (spTermK 0) := ⟨F36.ok sc__law_term (fun vs H Q E h => by obtain ⟨p, qd, m, n, ws, rfl, _⟩ := h; rfl) (fun cdv A outer s H vs Q E hr h => by obtain ⟨p, qd, m, n, ws, _, hn, _⟩ := h; exact absurd hn (by omega)), PySem.W.mg_of X G a36, k36, b36⟩
  have B0 : Df l.prog w K mg base CX0 "_law_bit" 4 g35 _ ["_law_pot_here", "_law_widths", "_law_deep"] (spBitK 0) := ⟨ok__law_bit (N := 0) (k := 3) F35 B (by decide) E30 N0, PySem.W.mg_of X G a35, k35, b35⟩
  have N1 : Df l.prog w K mg base CX0 "_law_term" 5 g36 _ ["_law_pot_here", "_law_widths", "_law_width_here", "_law_deep"] (spTermK 1) := ⟨ok__law_term (N := 0) (k := 3) F36 B (by decide) E30 E33 B0 N0, PySem.W.mg_of X G a36, k36, b36⟩
  have B1 : Df l.prog w K mg base CX0 "_law_bit" 6 g35 _ ["_law_pot_here", "_law_widths", "_law_deep"] (spBitK 1) := ⟨ok__law_bit (N := 1) (k := 5) F35 B (by decide) E30 N1, PySem.W.mg_of X G a35, k35, b35⟩
  have N2 : Df l.prog w K mg base CX0 "_law_term" 7 g36 _ ["_law_pot_here", "_law_widths", "_law_width_here", "_law_deep"] (spTermK 2) := ⟨ok__law_term (N := 1) (k := 5) F36 B (by decide) E30 E33 B1 N1, PySem.W.mg_of X G a36, k36, b36⟩
  have B2 : Df l.prog w K mg base CX0 "_law_bit" 8 g35 _ ["_law_pot_here", "_law_widths", "_law_deep"] (spBitK 2) := ⟨ok__law_bit (N := 2) (k := 7) F35 B (by decide) E30 N2, PySem.W.mg_of X G a35, k35, b35⟩
  have E36 : Df l.prog w K mg base CX0 "_law_term" 9 g36 _ ["_law_pot_here", "_law_widths", "_law_width_here", "_law_deep"] (spTermK 3) := ⟨ok__law_term (N := 2) (k := 7) F36 B (by decide) E30 E33 B2 N2, PySem.W.mg_of X G a36, k36, b36⟩
  have LB0 : Df l.prog w K mg base CX0 "_law_body" 9 g38 _ ["_law_pot_here", "_law_widths", "_law_ways", "_law_deep", "_law_room"] (spBodyK 0) := ⟨F38.ok sc__law_body (fun vs H Q E h => by obtain ⟨p, qd, d, r, n, R, ws, wy, rfl, _⟩ := h; rfl) (fun cdv A outer s H vs Q E hr h => by obtain ⟨p, qd, d, r, n, R, ws, wy, _, hn, _⟩ := h; exact absurd hn (by omega)), PySem.W.mg_of X G a38, k38, b38⟩
  have LS0 : Df l.prog w K mg base CX0 "_law_statement" 10 g37 _ ["_law_pot_here", "_law_widths", "_law_ways", "_law_deep", "_law_room"] (spStmK 0) := ⟨ok__law_statement (N := 0) (k := 9) F37 B (by decide) E30 E36 LB0, PySem.W.mg_of X G a37, k37, b37⟩
  have LB1 : Df l.prog w K mg base CX0 "_law_body" 11 g38 _ ["_law_pot_here", "_law_widths", "_law_ways", "_law_deep", "_law_room"] (spBodyK 1) := ⟨ok__law_body (N := 0) (k := 10) F38 B (by decide) E30 LS0, PySem.W.mg_of X G a38, k38, b38⟩
  have LS1 : Df l.prog w K mg base CX0 "_law_statement" 12 g37 _ ["_law_pot_here", "_law_widths", "_law_ways", "_law_deep", "_law_room"] (spStmK 1) := ⟨ok__law_statement (N := 1) (k := 11) F37 B (by decide) E30 E36 LB1, PySem.W.mg_of X G a37, k37, b37⟩
  have LB2 : Df l.prog w K mg base CX0 "_law_body" 13 g38 _ ["_law_pot_here", "_law_widths", "_law_ways", "_law_deep", "_law_room"] (spBodyK 2) := ⟨ok__law_body (N := 1) (k := 12) F38 B (by decide) E30 LS1, PySem.W.mg_of X G a38, k38, b38⟩
  have LS2 : Df l.prog w K mg base CX0 "_law_statement" 14 g37 _ ["_law_pot_here", "_law_widths", "_law_ways", "_law_deep", "_law_room"] (spStmK 2) := ⟨ok__law_statement (N := 2) (k := 13) F37 B (by decide) E30 E36 LB2, PySem.W.mg_of X G a37, k37, b37⟩
  have LB3 : Df l.prog w K mg base CX0 "_law_body" 15 g38 _ ["_law_pot_here", "_law_widths", "_law_ways", "_law_deep", "_law_room"] (spBodyK 3) := ⟨ok__law_body (N := 2) (k := 14) F38 B (by decide) E30 LS2, PySem.W.mg_of X G a38, k38, b38⟩
  have LS3 : Df l.prog w K mg base CX0 "_law_statement" 16 g37 _ ["_law_pot_here", "_law_widths", "_law_ways", "_law_deep", "_law_room"] (spStmK 3) := ⟨ok__law_statement (N := 3) (k := 15) F37 B (by decide) E30 E36 LB3, PySem.W.mg_of X G a37, k37, b37⟩
  have E38 : Df l.prog w K mg base CX0 "_law_body" 17 g38 _ ["_law_pot_here", "_law_widths", "_law_ways", "_law_deep", "_law_room"] (spBodyK 4) := ⟨ok__law_body (N := 3) (k := 16) F38 B (by decide) E30 LS3, PySem.W.mg_of X G a38, k38, b38⟩
  have E39 : Df l.prog w K mg base CX0 "_law_scene" 4 g39 _ ["_law_pot_here"] (spSceneK) := ⟨ok__law_scene F39 B  E30 E34 E32, PySem.W.mg_of X G a39, k39, b39⟩
  have E40 : Df l.prog w K mg base CX0 "_law_values" 3 g40 _ ["_law_pot_here", "_law_widths", "_law_ways", "_law_signs_here"] (spValues45) := ⟨ok__law_values F40 B  E31, PySem.W.mg_of X G a40, k40, b40⟩
  have E41 : Df l.prog w K mg base CX0 "_law_fillings" 1 g41 _ ["_law_many"] (spFillK) := ⟨ok__law_fillings F41 B  , PySem.W.mg_of X G a41, k41, b41⟩
  have E42 : Df l.prog w K mg base CX0 "_law_is_so" 1 g42 _ ["_law_one", "_law_other"] (spSoK) := ⟨ok__law_is_so F42 B  , PySem.W.mg_of X G a42, k42, b42⟩
  have E43 : Df l.prog w K mg base CX0 "_law_put" 1 g43 _ ["_law_given", "_law_holes_here", "_law_signs_here"] (spPutK) := ⟨ok__law_put F43 B  , PySem.W.mg_of X G a43, k43, b43⟩
  have E44 : Df l.prog w K mg base CX0 "_law_covers" 2 g44 _ ["_law_told", "_law_other", "_law_values_here"] (spCovK) := ⟨ok__law_covers F44 B  E42, PySem.W.mg_of X G a44, k44, b44⟩
  have E45 : Df l.prog w K mg base CX0 "_law_holes" 2 g45 _ ["_law_pot_here", "_law_given", "_law_names", "_law_room"] (spHolesK) := ⟨ok__law_holes F45 B  E30, PySem.W.mg_of X G a45, k45, b45⟩
  have E46 : Df l.prog w K mg base CX0 "_law_right" 28 g46 _ ["_law_body_here", "_law_values_here", "_law_holes_here"] (spRight45) := ⟨ok__law_right F46 B  E28 E43 E41 E44, PySem.W.mg_of X G a46, k46, b46⟩
  exact ok_law F47 B  E29 E39 E38 E40 E45 E46
end Dw
open PySem PySem.W PyProof.Rows
set_option maxHeartbeats 0 in
theorem PySem.Challenge.cw_deltawires_k45_whole_bodies_hold_holds : PySem.Challenge.rw_deltawires_k45_whole_bodies_hold.Holds := by
  w_on; o_law; k_head; (case hw => w_witness2)
  k_fill
  refine L2.walk_of (l := PySem.Challenge.rw_deltawires_k45_whole_bodies_hold) (n := 63) (k := 29) (x := "_law_script") (CX := fun _ => L2.CX0) (sp := fun w => Dw.spLaw _) rfl (by decide) rfl ⟨rfl, by decide, by decide⟩ (fun w h Y => PySem.W.kIn_of Y) ?F (fun _ _ a ns hl _ hS => ⟨a, ns, rfl, hS, hl, fun _ => rfl⟩) (fun _ _ _ _ _ h => h)
  case F =>
    intro w mg fa h KX G hmg
    refine' Dw.all_mk KX G hmg ?a0 ?l0 ?c0 ?k0 ?a1 ?l1 ?c1 ?k1 ?a2 ?l2 ?c2 ?k2 ?a3 ?l3 ?c3 ?k3 ?a4 ?l4 ?c4 ?k4 ?a5 ?l5 ?c5 ?k5 ?a6 ?l6 ?c6 ?k6 ?a7 ?l7 ?c7 ?k7 ?a8 ?l8 ?c8 ?k8 ?a9 ?l9 ?c9 ?k9 ?a10 ?l10 ?c10 ?k10 ?a11 ?l11 ?c11 ?k11 ?a12 ?l12 ?c12 ?k12 ?a13 ?l13 ?c13 ?k13 ?a14 ?l14 ?c14 ?k14 ?a15 ?l15 ?c15 ?k15 ?a16 ?l16 ?c16 ?k16 ?a17 ?l17 ?c17 ?k17 ?a18 ?l18 ?c18 ?k18 ?a19 ?l19 ?c19 ?k19 ?a20 ?l20 ?c20 ?k20 ?a21 ?l21 ?c21 ?k21 ?a22 ?l22 ?c22 ?k22 ?d22_0 ?d22_1 ?a23 ?l23 ?c23 ?k23 ?a24 ?l24 ?c24 ?k24 ?a25 ?l25 ?c25 ?k25 ?a26 ?l26 ?c26 ?k26 ?a27 ?l27 ?c27 ?k27 ?a28 ?l28 ?c28 ?k28 ?a29 ?l29 ?c29 ?k29 ?a30 ?l30 ?c30 ?k30 ?a31 ?l31 ?c31 ?k31 ?a32 ?l32 ?c32 ?k32 ?a33 ?l33 ?c33 ?k33 ?a34 ?l34 ?c34 ?k34 ?a35 ?l35 ?c35 ?k35 ?a36 ?l36 ?c36 ?k36 ?a37 ?l37 ?c37 ?k37 ?a38 ?l38 ?c38 ?k38 ?a39 ?l39 ?c39 ?k39 ?a40 ?l40 ?c40 ?k40 ?a41 ?l41 ?c41 ?k41 ?a42 ?l42 ?c42 ?k42 ?a43 ?l43 ?c43 ?k43 ?a44 ?l44 ?c44 ?k44 ?a45 ?l45 ?c45 ?k45 ?a46 ?l46 ?c46 ?k46 ?a47 ?l47 ?c47 ?k47 ?z0 ?z1 ?z2 ?z3 ?z4 ?z5 ?z6 ?z7 ?z8 ?z9 ?z10 ?y0 ?y_A ?yl_A ?yk_A ?ye_not ?ye_and ?ye_or ?ye_xor ?ye_plus ?ye_same ?ye_less ?ye_any ?ye_all ?ye_pick ?ye_join ?y_T ?yl_T ?yk_T ?ye_T0 ?ye_T1 ?ye_Tx ?y_G ?yl_G ?yk_G ?ye_G_not ?ye_G_and ?ye_G_or ?ye_G_xor ?ye_G_plus ?ye_G_same ?ye_G_less ?ye_G_any ?ye_G_all ?ye_G_pick ?ye_G_join ?ye_G_part
    (case a0 => k_is)
    (case l0 => k_is)
    (case c0 => k_is)
    (case k0 => k_is)
    (case a1 => k_is)
    (case l1 => k_is)
    (case c1 => k_is)
    (case k1 => k_is)
    (case a2 => k_is)
    (case l2 => k_is)
    (case c2 => k_is)
    (case k2 => k_is)
    (case a3 => k_is)
    (case l3 => k_is)
    (case c3 => k_is)
    (case k3 => k_is)
    (case a4 => k_is)
    (case l4 => k_is)
    (case c4 => k_is)
    (case k4 => k_is)
    (case a5 => k_is)
    (case l5 => k_is)
    (case c5 => k_is)
    (case k5 => k_is)
    (case a6 => k_is)
    (case l6 => k_is)
    (case c6 => k_is)
    (case k6 => k_is)
    (case a7 => k_is)
    (case l7 => k_is)
    (case c7 => k_is)
    (case k7 => k_is)
    (case a8 => k_is)
    (case l8 => k_is)
    (case c8 => k_is)
    (case k8 => k_is)
    (case a9 => k_is)
    (case l9 => k_is)
    (case c9 => k_is)
    (case k9 => k_is)
    (case a10 => k_is)
    (case l10 => k_is)
    (case c10 => k_is)
    (case k10 => k_is)
    (case a11 => k_is)
    (case l11 => k_is)
    (case c11 => k_is)
    (case k11 => k_is)
    (case a12 => k_is)
    (case l12 => k_is)
    (case c12 => k_is)
    (case k12 => k_is)
    (case a13 => k_is)
    (case l13 => k_is)
    (case c13 => k_is)
    (case k13 => k_is)
    (case a14 => k_is)
    (case l14 => k_is)
    (case c14 => k_is)
    (case k14 => k_is)
    (case a15 => k_is)
    (case l15 => k_is)
    (case c15 => k_is)
    (case k15 => k_is)
    (case a16 => k_is)
    (case l16 => k_is)
    (case c16 => k_is)
    (case k16 => k_is)
    (case a17 => k_is)
    (case l17 => k_is)
    (case c17 => k_is)
    (case k17 => k_is)
    (case a18 => k_is)
    (case l18 => k_is)
    (case c18 => k_is)
    (case k18 => k_is)
    (case a19 => k_is)
    (case l19 => k_is)
    (case c19 => k_is)
    (case k19 => k_is)
    (case a20 => k_is)
    (case l20 => k_is)
    (case c20 => k_is)
    (case k20 => k_is)
    (case a21 => k_is)
    (case l21 => k_is)
    (case c21 => k_is)
    (case k21 => k_is)
    (case a22 => k_is)
    (case l22 => k_is)
    (case c22 => k_is)
    (case k22 => k_is)
    (case d22_0 => k_is)
    (case d22_1 => k_is)
    (case a23 => k_is)
    (case l23 => k_is)
    (case c23 => k_is)
    (case k23 => k_is)
    (case a24 => k_is)
    (case l24 => k_is)
    (case c24 => k_is)
    (case k24 => k_is)
    (case a25 => k_is)
    (case l25 => k_is)
    (case c25 => k_is)
    (case k25 => k_is)
    (case a26 => k_is)
    (case l26 => k_is)
    (case c26 => k_is)
    (case k26 => k_is)
    (case a27 => k_is)
    (case l27 => k_is)
    (case c27 => k_is)
    (case k27 => k_is)
    (case a28 => k_is)
    (case l28 => k_is)
    (case c28 => k_is)
    (case k28 => k_is)
    (case a29 => k_is)
    (case l29 => k_is)
    (case c29 => k_is)
    (case k29 => k_is)
    (case a30 => k_is)
    (case l30 => k_is)
    (case c30 => k_is)
    (case k30 => k_is)
    (case a31 => k_is)
    (case l31 => k_is)
    (case c31 => k_is)
    (case k31 => k_is)
    (case a32 => k_is)
    (case l32 => k_is)
    (case c32 => k_is)
    (case k32 => k_is)
    (case a33 => k_is)
    (case l33 => k_is)
    (case c33 => k_is)
    (case k33 => k_is)
    (case a34 => k_is)
    (case l34 => k_is)
    (case c34 => k_is)
    (case k34 => k_is)
    (case a35 => k_is)
    (case l35 => k_is)
    (case c35 => k_is)
    (case k35 => k_is)
    (case a36 => k_is)
    (case l36 => k_is)
    (case c36 => k_is)
    (case k36 => k_is)
    (case a37 => k_is)
    (case l37 => k_is)
    (case c37 => k_is)
    (case k37 => k_is)
    (case a38 => k_is)
    (case l38 => k_is)
    (case c38 => k_is)
    (case k38 => k_is)
    (case a39 => k_is)
    (case l39 => k_is)
    (case c39 => k_is)
    (case k39 => k_is)
    (case a40 => k_is)
    (case l40 => k_is)
    (case c40 => k_is)
    (case k40 => k_is)
    (case a41 => k_is)
    (case l41 => k_is)
    (case c41 => k_is)
    (case k41 => k_is)
    (case a42 => k_is)
    (case l42 => k_is)
    (case c42 => k_is)
    (case k42 => k_is)
    (case a43 => k_is)
    (case l43 => k_is)
    (case c43 => k_is)
    (case k43 => k_is)
    (case a44 => k_is)
    (case l44 => k_is)
    (case c44 => k_is)
    (case k44 => k_is)
    (case a45 => k_is)
    (case l45 => k_is)
    (case c45 => k_is)
    (case k45 => k_is)
    (case a46 => k_is)
    (case l46 => k_is)
    (case c46 => k_is)
    (case k46 => k_is)
    (case a47 => k_is)
    (case l47 => k_is)
    (case c47 => k_is)
    (case k47 => k_is)
    (case z0 => k_is)
    (case z1 => k_is)
    (case z2 => k_is)
    (case z3 => k_is)
    (case z4 => k_is)
    (case z5 => k_is)
    (case z6 => k_is)
    (case z7 => k_is)
    (case z8 => k_is)
    (case z9 => k_is)
    (case z10 => k_is)
    (case y0 => k_is)
    (case y_A => k_is)
    (case yl_A => k_is)
    (case yk_A => k_keys)
    (case ye_not => k_is)
    (case ye_and => k_is)
    (case ye_or => k_is)
    (case ye_xor => k_is)
    (case ye_plus => k_is)
    (case ye_same => k_is)
    (case ye_less => k_is)
    (case ye_any => k_is)
    (case ye_all => k_is)
    (case ye_pick => k_is)
    (case ye_join => k_is)
    (case y_T => k_is)
    (case yl_T => k_is)
    (case yk_T => k_keys)
    (case ye_T0 => k_is)
    (case ye_T1 => k_is)
    (case ye_Tx => k_is)
    (case y_G => k_is)
    (case yl_G => k_is)
    (case yk_G => k_keys)
    (case ye_G_not => k_is)
    (case ye_G_and => k_is)
    (case ye_G_or => k_is)
    (case ye_G_xor => k_is)
    (case ye_G_plus => k_is)
    (case ye_G_same => k_is)
    (case ye_G_less => k_is)
    (case ye_G_any => k_is)
    (case ye_G_all => k_is)
    (case ye_G_pick => k_is)
    (case ye_G_join => k_is)
    (case ye_G_part => k_is)
