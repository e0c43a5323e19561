import PyProof.Rows.All
import Wide.All
import OpenK.AllK
import Wide.FinOn
import PySem.Challenge.RW_polychains_k04_whole_spaces
import HandS.ForMost
import HandS.Exc
import HandS.ExcOwn
import HandS.WordsExc
import HandS.ExcInit
import HandS.ExcField
import HandS.IsInst
import HandS.Wide
import HandS.SortInts
import HandS.TupLe
import HandS.FStr
import HandS.ClsMeth
import HandS.Conv
import HandS.Flow
import HandS.Codes
import HandS.ExcIs
import HandS.Walk
import HandS.Zip
import HandS.TupMul
import HandS.TupAny
import HandS.Star
import HandS.Deep
import HandS.Strs
import HandS.Style
import HandS.GenList
import KE.SortData
import KE.KExcIs
set_option Elab.async false
set_option linter.all false
set_option maxRecDepth 100000
set_option maxHeartbeats 4000000
namespace K04
open PySem PySem.Spec PyProof.Rows L2
section
variable {P : Program} {w : World} {K : PySem.W.Frag} {mg : Str → Option Value} {base : Heap}
theorem yesT {σ : L2.St} {H : Hp} {A B : Hp → Prop} (h : A H) : tYes σ H (fun b H3 => if b = true then A H3 else B H3) := h
/-! operators that hand on a letter -/
def rL (g : Int → Int → Int) : R2 := fun x y H Q => ∃ i j, x = .int i ∧ y = .int j ∧ ∀ z, z = g i j → Q (.int z) H
theorem op_addL {X : Cx} : OpR X (binaryOp .Add) (rL fun i j => i + j) := by
  intro pins s σ H x y v u Q I rx ry h
  obtain ⟨i, j, hx, hy, q⟩ := h
  exact op_add pins s σ H x y v u Q I rx ry ⟨i, j, hx, hy, q _ rfl⟩
theorem op_subL {X : Cx} : OpR X (binaryOp .Sub) (rL fun i j => i - j) := by
  intro pins s σ H x y v u Q I rx ry h
  obtain ⟨i, j, hx, hy, q⟩ := h
  exact op_sub pins s σ H x y v u Q I rx ry ⟨i, j, hx, hy, q _ rfl⟩
theorem call_lenL {X : Cx} : CallR X (.builtin "len") (fun xs H Q => ∃ p ys, xs = [.ref p] ∧ (SqL X.K H p ys ∨ SqT X.K H p ys) ∧ ∀ z : Int, z = (ys.length : Int) → Q (.int z) H) := by
  intro pins s σ H xs us Q I r h
  obtain ⟨p, ys, e, hs, q⟩ := h
  exact call_len_seq pins s σ H xs us Q I r ⟨p, ys, e, hs, q _ rfl⟩
theorem iteB {b : Bool} {A B : Prop} (h : b = false) (q : B) : if b = true then A else B := by
  rw [h]
  exact iteF q
theorem iteA {b : Bool} {A B : Prop} (h : b = true) (q : A) : if b = true then A else B := by
  rw [h]
  exact iteT q
theorem not_dec {p : Prop} [Decidable p] (h : p) : (!decide p) = false := by rw [decide_eq_true h]; rfl
theorem same_new {H : Hp} {p : Addr} {o : HO} (h : H p = none) : Same H (upd H p o) := fun b x e => by
  rw [upd_ne (ne_of_none e h)]
  exact e
/-- a list at o that was new may change -/
theorem same_mut {H H' : Hp} {o : Addr} {u : HO} (e : Same H H') (h : H o = none) : Same H (upd H' o u) := fun b x hb => by
  rw [upd_ne (ne_of_none hb h)]
  exact e b x hb
theorem op_modE {X : Cx} : OpR X (binaryOp .Mod) (fun x y H Q => ∃ i j : Int, x = .int i ∧ y = .int j ∧ 0 < j ∧ Q (.int (i % j)) H) := by
  intro pins s σ H x y v u Q I rx ry h
  obtain ⟨i, j, hx, hy, hj, q⟩ := h
  refine op_modN pins s σ H x y v u Q I rx ry ⟨i, j, hx, hy, (show j ≠ 0 by omega), ?_⟩
  show Q (V.int (i.fmod j)) H
  rw [Int.fmod_eq_emod_of_nonneg _ (Int.le_of_lt hj)]
  exact q
/-! ### tuples of ints, tuples of pairs, as data -/
theorem dpAll_ints {H : Hp} : ∀ ns : List Int, DpAll K H (ns.map V.int) (ns.map PyData.int)
  | [] => .nil
  | n :: r => .cons (.int n) (dpAll_ints r)
def dInts (ns : List Int) : PyData := .tuple (ns.map PyData.int)
def dPair (x : Int × Int) : PyData := .tuple [.int x.1, .int x.2]
def dPairs (l : List (Int × Int)) : PyData := .tuple (l.map dPair)
theorem dp_ints {H : Hp} {a : Addr} {ns : List Int} (h : SqT K H a (ns.map V.int)) : Dp K H (.ref a) (dInts ns) := .tup h (dpAll_ints ns)
theorem shaped_dInts (ns : List Int) : SeqAt.shaped (dInts ns) = true := by
  have h1 := PySem.W.depthAll_ints ns
  have h2 : PyData.depth (.tuple (ns.map PyData.int)) ≤ 64 := by simp only [PyData.depth]; omega
  show (PyData.canLay0 (.tuple (ns.map PyData.int)) && decide (PyData.depth (.tuple (ns.map PyData.int)) ≤ 64)) = true
  rw [Bool.and_eq_true]
  exact ⟨by simp only [PyData.canLay0]; exact PySem.W.canLayAll0_ints ns, decide_eq_true h2⟩
theorem canLay_dPairs : ∀ l : List (Int × Int), PyData.canLayAll0 (l.map dPair) = true
  | [] => by simp [PyData.canLayAll0]
  | x :: r => by simp [PyData.canLayAll0, PyData.canLay0, dPair, canLay_dPairs r]
theorem depth_dPairs : ∀ l : List (Int × Int), PyData.depthAll (l.map dPair) ≤ 2
  | [] => by simp [PyData.depthAll]
  | x :: r => by
    have := depth_dPairs r
    simp only [List.map_cons, PyData.depthAll, PyData.depth, dPair]
    omega
theorem shaped_dPairs (l : List (Int × Int)) : SeqAt.shaped (dPairs l) = true := by
  have h1 := depth_dPairs l
  have h2 : PyData.depth (.tuple (l.map dPair)) ≤ 64 := by simp only [PyData.depth]; omega
  show (PyData.canLay0 (.tuple (l.map dPair)) && decide (PyData.depth (.tuple (l.map dPair)) ≤ 64)) = true
  rw [Bool.and_eq_true]
  exact ⟨by simp only [PyData.canLay0]; exact canLay_dPairs l, decide_eq_true h2⟩
theorem eqvAll_ints : ∀ ns ms : List Int, PyData.eqvAll (ns.map PyData.int) (ms.map PyData.int) = decide (ns = ms)
  | [], [] => by simp [PyData.eqvAll]
  | [], _ :: _ => by simp [PyData.eqvAll]
  | _ :: _, [] => by simp [PyData.eqvAll]
  | n :: r, k :: q => by
    simp only [List.map_cons, PyData.eqvAll, PyData.eqv, eqvAll_ints r q]
    by_cases h : n = k <;> simp [h]
theorem eqv_dInts (ns ms : List Int) : PyData.eqv (dInts ns) (dInts ms) = decide (ns = ms) := by
  unfold dInts
  rw [PyData.eqv]
  exact eqvAll_ints ns ms
theorem eqvAll_dPairs : ∀ l : List (Int × Int), PyData.eqvAll (l.map dPair) (l.map dPair) = true
  | [] => by simp [PyData.eqvAll]
  | x :: r => by
    simp only [List.map_cons, PyData.eqvAll, eqvAll_dPairs r, Bool.and_true]
    unfold dPair
    simp [PyData.eqv, PyData.eqvAll]
theorem eqv_dPairs (l : List (Int × Int)) : PyData.eqv (dPairs l) (dPairs l) = true := by
  unfold dPairs
  rw [PyData.eqv]
  exact eqvAll_dPairs l
theorem dpAll_pairs {H : Hp} : ∀ {ts : List Addr} {l : List (Int × Int)}, Paired (fun t x => H t = some (.tup [.int x.1, .int x.2])) ts l → DpAll K H (ts.map V.ref) (l.map dPair)
  | _, _, .nil => .nil
  | _, _, .cons h r => .cons (.tup (.inl (.inl h)) (.cons (.int _) (.cons (.int _) .nil))) (dpAll_pairs r)
theorem dp_pairs {H : Hp} {a : Addr} {ts : List Addr} {l : List (Int × Int)} (h : SqT K H a (ts.map V.ref)) (hp : Paired (fun t x => H t = some (.tup [.int x.1, .int x.2])) ts l) : Dp K H (.ref a) (dPairs l) := .tup h (dpAll_pairs hp)
/-! ### things that stand in the heap as data: stable relations; comprehensions by them -/
structure Stable {α : Type} (R : Hp → V → α → Prop) : Prop where
  same : ∀ {H H' : Hp} {v : V} {x : α}, Same H H' → R H v x → R H' v x
  put : ∀ {H : Hp} {D : Addr} {xs ys : List V} {v : V} {x : α}, H D = some (.lst xs) → R H v x → R (upd H D (.lst ys)) v x
theorem Stable.all {α : Type} {R : Hp → V → α → Prop} (S : Stable R) {H H' : Hp} (e : Same H H') : ∀ {vs : List V} {xs : List α}, Paired (R H) vs xs → Paired (R H') vs xs
  | _, _, .nil => .nil
  | _, _, .cons h t => .cons (S.same e h) (S.all e t)
theorem Stable.allPut {α : Type} {R : Hp → V → α → Prop} (S : Stable R) {H : Hp} {D : Addr} {ys zs : List V} (e : H D = some (.lst ys)) : ∀ {vs : List V} {xs : List α}, Paired (R H) vs xs → Paired (R (upd H D (.lst zs))) vs xs
  | _, _, .nil => .nil
  | _, _, .cons h t => .cons (S.put e h) (S.allPut e t)
theorem paired_app {α β : Type} {R : α → β → Prop} : ∀ {as : List α} {bs : List β} {cs : List α} {ds : List β}, Paired R as bs → Paired R cs ds → Paired R (as ++ cs) (bs ++ ds)
  | _, _, _, _, .nil, k => k
  | _, _, _, _, .cons h t, k => .cons h (paired_app t k)
theorem paired_add {α β : Type} {R : α → β → Prop} {as : List α} {bs : List β} {a : α} {b : β} (h : Paired R as bs) (k : R a b) : Paired R (as ++ [a]) (bs ++ [b]) := paired_app h (.cons k .nil)
theorem paired_get {α β : Type} {R : α → β → Prop} : ∀ {as : List α} {bs : List β} {i : Nat} {a : α}, Paired R as bs → as[i]? = some a → ∃ b, bs[i]? = some b ∧ R a b
  | _, _, 0, _, .cons h _, e => ⟨_, rfl, by cases e; exact h⟩
  | _, _, i + 1, _, .cons _ t, e => paired_get (i := i) t e
  | _, _, 0, _, .nil, e => by cases e
  | _, _, i + 1, _, .nil, e => by cases e
theorem paired_get2 {α β : Type} {R : α → β → Prop} : ∀ {as : List α} {bs : List β} {i : Nat} {b : β}, Paired R as bs → bs[i]? = some b → ∃ a, as[i]? = some a ∧ R a b
  | _, _, 0, _, .cons h _, e => ⟨_, rfl, by cases e; exact h⟩
  | _, _, i + 1, _, .cons _ t, e => paired_get2 (i := i) t e
  | _, _, 0, _, .nil, e => by cases e
  | _, _, i + 1, _, .nil, e => by cases e
def RI : Hp → V → Int → Prop := fun _ v x => v = .int x
/-- a row at t: a tuple, known to its object -/
def RowAt (H : Hp) (t : Addr) (r : List Int) : Prop := ∃ o : Obj, o.dict = none ∧ H t = some (.frz o (.tup (r.map V.int)))
theorem RowAt.sq {K : PySem.W.Frag} {H : Hp} {t : Addr} {r : List Int} (h : RowAt H t r) : SqT K H t (r.map V.int) := by
  obtain ⟨o, _, e⟩ := h
  exact .inl (.inr ⟨o, e⟩)
theorem RowAt.mono {H H' : Hp} {t : Addr} {r : List Int} (e : Same H H') (h : RowAt H t r) : RowAt H' t r := by
  obtain ⟨o, d, h⟩ := h
  exact ⟨o, d, e _ _ h⟩
def RR : Hp → V → List Int → Prop := fun H v r => ∃ t, v = .ref t ∧ RowAt H t r
theorem st_RI : Stable RI := ⟨fun _ h => h, fun _ h => h⟩
theorem upd_put {H : Hp} {D t : Addr} {xs ys : List V} {o : HO} (e : H D = some (.lst xs)) (h : H t = some o) (hn : ∀ zs, o ≠ .lst zs) : (upd H D (.lst ys)) t = some o := by
  rw [upd_ne (fun z => by rw [z, e] at h; exact hn _ (Option.some.inj h).symm)]
  exact h
theorem st_RR : Stable RR := ⟨fun e ⟨t, a, b⟩ => ⟨t, a, b.mono e⟩, fun e ⟨t, a, o, d, b⟩ => ⟨t, a, o, d, upd_put e b (fun _ z => by cases z)⟩⟩
theorem ints_of {H : Hp} : ∀ {vs : List V} {ns : List Int}, Paired (RI H) vs ns → vs = ns.map V.int
  | _, _, .nil => rfl
  | _, _, @Paired.cons _ _ _ v n vs ns h t => by
    have e : v = .int n := h
    rw [e, ints_of t]
    rfl
theorem small2000 {n : Nat} (h : n ≤ 100000) : n < sizeLine := Nat.lt_of_le_of_lt h (by decide)
/-- a comprehension without a test; each element stands for f i -/
theorem lc_rep {α : Type} {J : It} {n : Nat} {G : Hp → Prop} {Y : Nat → Hp → V → Hp → Prop} (w : Walk J n G Y) {R : Hp → V → α → Prop} (S : Stable R) (f : Nat → α) (hn : n ≤ 100000) {g : TG} {te : TE} {vs : List Nat} {σ : L2.St} {H1 : Hp} {D : Addr} {Qd : Hp → Prop}
    (nD : H1 D = none) (hG : ∀ H, Same H1 H → G H)
    (hs : ∀ i x H H' (Q : VK), i < n → Same H1 H → Y i H x H' → (∀ y H4, Same H H4 → R H4 y (f i) → Q y H4) → g x (wipe σ vs) H' fun σ2 H2 => wipe σ2 vs = wipe σ vs ∧ te σ2 H2 Q)
    (hd : ∀ H acc, Same H1 H → H D = some (.lst acc) → Paired (R H) acc ((List.range n).map f) → Qd H) :
    ∃ W : Nat → Nat → Hp → Prop, (∃ m, W 0 m (upd H1 D (.lst []))) ∧ ∀ i m H, W i m H →
      (J.stop i H ∧ Qd H) ∨ (J.go i H ∧ ∃ Nx : Hp → Prop, (∀ H', Nx H' → ∃ m', m' < m ∧ W (i + 1) m' H') ∧ ∀ x H', J.yld i H x H' → g x (wipe σ vs) H' fun σ2 H2 => wipe σ2 vs = wipe σ vs ∧ tYes σ2 H2 fun b H3 =>
        if b = true then te σ2 H3 fun y H4 => ∃ acc, H4 D = some (.lst acc) ∧ acc.length < sizeLine ∧ Nx (upd H4 D (.lst (acc ++ [y]))) else Nx H3) := by
  refine lc_it w (fun i H => i ≤ n ∧ Same H1 H ∧ ∃ acc, H D = some (.lst acc) ∧ Paired (R H) acc ((List.range i).map f)) ⟨Nat.zero_le n, same_new nD, [], upd_same, .nil⟩ (fun i H _ h => hG H h.2.1) (fun i x H H' hi hP hY => ?_) (fun H hP => ?_)
  · obtain ⟨hin, sm, acc, eD, hp⟩ := hP
    have hlen : acc.length = i := by
      have := Paired.length hp
      rw [List.length_map, List.length_range] at this
      exact this
    have z := hs i x H H' (fun y H4 => ∃ acc, H4 D = some (.lst acc) ∧ acc.length < sizeLine ∧ (i + 1 ≤ n ∧ Same H1 (upd H4 D (.lst (acc ++ [y]))) ∧ ∃ acc2, (upd H4 D (.lst (acc ++ [y]))) D = some (.lst acc2) ∧ Paired (R (upd H4 D (.lst (acc ++ [y])))) acc2 ((List.range (i + 1)).map f))) hi sm hY (fun y H4 sm4 r => by
      have eD4 := sm4 _ _ eD
      refine ⟨acc, eD4, small2000 (by omega), hi, fun b u hb => ?_, _, upd_same, ?_⟩
      · rw [upd_ne (ne_of_none hb nD)]
        exact sm4 _ _ (sm _ _ hb)
      · rw [List.range_succ, List.map_append]
        exact S.allPut eD4 (paired_add (S.all sm4 hp) r))
    exact z
  · obtain ⟨_, sm, acc, eD, hp⟩ := hP
    exact hd H acc sm eD hp
theorem map_range {α : Type} (f : Nat → α) (xs : List α) (h : ∀ i x, xs[i]? = some x → f i = x) : (List.range xs.length).map f = xs := by
  apply List.ext_getElem?
  intro i
  rw [List.getElem?_map]
  by_cases hi : i < xs.length
  · rw [List.getElem?_range hi, List.getElem?_eq_getElem hi]
    exact congrArg some (h i _ (List.getElem?_eq_getElem hi))
  · rw [List.getElem?_eq_none (by rw [List.length_range]; omega), List.getElem?_eq_none (by omega)]
    rfl
/-! ### rules that the layer lacked: (x,) * k for k = 0 and 1, t[::-1], t.index(int), sorted of rows -/
namespace Own
open PySem PySem.Spec PyProof.Rows L2
open MeetsSeq MeetsSeq2 MeetsSeq3 SeqRoads2
theorem tuple_mul0 (l : Addr) (items : Array Value) (n : Nat) (dd : Option Addr) (sl : Array (Option Value)) (x : Int) (u : Tok) (c0 : (decide (x < -(2 ^ 63)) || decide (x ≥ 2 ^ 63)) = false) (c1 : (items.isEmpty || x == 1) = false) (c2 : (decide (x ≤ 0) || items.isEmpty) = true) :
    Meets (Builtin.«tuple.__mul__» ⟨[.ref l, .int x u], []⟩) (fun _ R s => s.heap.get? l = some { cls := .type "tuple", dict := dd, data := .seq items n, slots := sl } ∧
      R (.ok (.ret (Value.ref s.heap.objs.size))) { s with heap := s.heap.push { cls := Value.type "tuple", data := Data.seq #[] }, toks := s.toks }) :=
  .of_wp fun prog w A R s h => by
    obtain ⟨hp, g, d, tk, os⟩ := s
    obtain ⟨hl, h⟩ := h
    have f1 := AutoSeq1.idx_int
    wp_walk using AutoSeq1.wpAny_loadPart' hl
    repeat (first
      | (refine wpAny_ite_false (decide_eq_false (by rw [c0]; exact Bool.false_ne_true)) ?_; wp_walk using AutoSeq1.wpAny_loadPart' hl)
      | (refine wpAny_ite_false (decide_eq_false (by rw [c1]; exact Bool.false_ne_true)) ?_; wp_walk using AutoSeq1.wpAny_loadPart' hl)
      | (refine wpAny_ite_true (decide_eq_true (by rw [c2])) ?_; wp_walk using AutoSeq1.wpAny_loadPart' hl))
    exact ⟨_, rfl, h⟩
theorem tuple_mul1 (l : Addr) (items : Array Value) (n : Nat) (dd : Option Addr) (sl : Array (Option Value)) (x : Int) (u : Tok) (c0 : (decide (x < -(2 ^ 63)) || decide (x ≥ 2 ^ 63)) = false) (c1 : (items.isEmpty || x == 1) = true) :
    Meets (Builtin.«tuple.__mul__» ⟨[.ref l, .int x u], []⟩) (fun _ R s => s.heap.get? l = some { cls := .type "tuple", dict := dd, data := .seq items n, slots := sl } ∧
      R (.ok (.ret (Value.ref l))) s) :=
  .of_wp fun prog w A R s h => by
    obtain ⟨hp, g, d, tk, os⟩ := s
    obtain ⟨hl, h⟩ := h
    have f1 := AutoSeq1.idx_int
    wp_walk using AutoSeq1.wpAny_loadPart' hl
    repeat (first
      | (refine wpAny_ite_false (decide_eq_false (by rw [c0]; exact Bool.false_ne_true)) ?_; wp_walk using AutoSeq1.wpAny_loadPart' hl)
      | (refine wpAny_ite_true (decide_eq_true (by rw [c1])) ?_; wp_walk using AutoSeq1.wpAny_loadPart' hl))
    exact ⟨_, rfl, h⟩
/-- a tuple, as it is tracked, so many times -/
def rRepA : R2 := fun x y H Q => ∃ l k xs, x = .ref l ∧ y = .int k ∧ H l = some (.tup xs) ∧ xs ≠ [] ∧ 0 ≤ k ∧ k ≤ 1000 ∧ xs.length ≤ 1000 ∧ ∀ t H', Same H H' → H' t = some (.tup (List.replicate k.toNat xs).flatten) → Q (.ref t) H'
theorem op_repA {X : Cx} : OpR X (binaryOp .Mult) rRepA := by
  intro pins s σ H x y v u Q I rx ry h
  obtain ⟨l, k, xs, rfl, rfl, hT, hne, h0, h2, hz, q⟩ := h
  by_cases hk : 2 ≤ k
  · exact op_repT pins s σ H _ _ v u Q I rx ry ⟨l, k, xs, rfl, rfl, .inl (.inl hT), hne, hk, h2, hz, fun p np => q p _ (same_new np) upd_same⟩
  cases rx
  obtain ⟨t, rfl⟩ := ry
  obtain ⟨its, r, ⟨⟨cls, dd, data, sl⟩, ho, hc, n, hd⟩, hs⟩ := I.tuple (show SqT X.K H l xs from .inl (.inl hT))
  simp only at hc hd
  subst hc hd
  have hle : its.length = xs.length := r.length.symm
  have hn : its ≠ [] := fun e => hne (by
    rw [e] at hle
    exact List.eq_nil_of_length_eq_zero hle.symm)
  have hi : its.toArray.isEmpty = false := by
    cases its with
    | nil => exact absurd rfl hn
    | cons a b => rfl
  have c0 : (decide (k < -(2 ^ 63)) || decide (k ≥ 2 ^ 63)) = false := by
    rw [decide_eq_false (by omega), decide_eq_false (by omega)] <;> rfl
  by_cases hk0 : k = 0
  · subst hk0
    have c1 : (its.toArray.isEmpty || (0 : Int) == 1) = false := by
      rw [hi, Bool.false_or]
      exact beq_eq_false_iff_ne.mpr (by omega)
    have c2 : (decide ((0 : Int) ≤ 0) || its.toArray.isEmpty) = true := by
      rw [hi, Bool.or_false]
      exact decide_eq_true (by omega)
    refine wpAny_binaryOp_repeat_ref (T := "tuple") (U := "int") (by decide) ⟨_, ho, rfl⟩ (fun s' => typeIs_int s' 0 t) noFill_tuple_mul F.fills_int_mul F.slot_int_rmul repeat_tuple F.slot_int_index.lookup
      (call_meets F.slot_int_rmul (typeIs_int s 0 t) F.entry_int_rmul (F.args_int_rmul_2 _ _) (int_rmul_tuple 0 t l its.toArray n dd sl)
        ⟨ho, rfl, ⟨_, ho, rfl⟩, call_meets F.slot_tuple_mul ⟨_, ho, rfl⟩ F.entry_tuple_mul (F.args_tuple_mul_2 _ _) (tuple_mul0 l its.toArray n dd sl 0 t c0 c1 c2) ⟨ho, ?_⟩⟩)
    refine ⟨.ref s.heap.objs.size, _, I.laid (t' := s.toks) (o := .tup []) (fun b ob q => Heap.get?_push_of_some _ q) (Nat.le_refl _) ?_, rfl, q _ _ (same_new (I.hok.fresh (Nat.le_refl _))) (by rw [upd_same]; rfl)⟩
    exact ⟨Nat.zero_le _, [], .nil, IsTup.new _ _⟩
  · have hk1 : k = 1 := by omega
    subst hk1
    have c1 : (its.toArray.isEmpty || (1 : Int) == 1) = true := by
      rw [hi, Bool.false_or]
      rfl
    refine wpAny_binaryOp_repeat_ref (T := "tuple") (U := "int") (by decide) ⟨_, ho, rfl⟩ (fun s' => typeIs_int s' 1 t) noFill_tuple_mul F.fills_int_mul F.slot_int_rmul repeat_tuple F.slot_int_index.lookup
      (call_meets F.slot_int_rmul (typeIs_int s 1 t) F.entry_int_rmul (F.args_int_rmul_2 _ _) (int_rmul_tuple 1 t l its.toArray n dd sl)
        ⟨ho, rfl, ⟨_, ho, rfl⟩, call_meets F.slot_tuple_mul ⟨_, ho, rfl⟩ F.entry_tuple_mul (F.args_tuple_mul_2 _ _) (tuple_mul1 l its.toArray n dd sl 1 t c0 c1) ⟨ho, ?_⟩⟩)
    refine ⟨.ref l, H, I, rfl, q l H (Same.refl H) ?_⟩
    rw [hT]
    show some (HO.tup xs) = some (HO.tup (List.replicate 1 xs).flatten)
    simp
/-- t.index(x), ints, the first place -/
theorem mt_tup_indexI {X : Cx} : MtR X "tuple.index" (fun x xs H Q => ∃ p, ∃ ys : List Int, ∃ z j, x = .ref p ∧ xs = [.int z] ∧ SqT X.K H p (ys.map V.int) ∧ ys[j]? = some z ∧ (∀ m, m < j → ys[m]? ≠ some z) ∧ Q (.int (j : Nat)) H) := by
  intro pins s σ H x xs v us Q I rx rs h
  obtain ⟨p, ys, z, j, rfl, rfl, hq, hy, hno, q⟩ := h
  cases rx
  obtain ⟨u, rfl, t, rfl⟩ := vals1 rs
  obtain ⟨its, r, pl, hz⟩ := I.tuple hq
  obtain ⟨⟨cls, dd, dt, sl⟩, ho, hc, n, hd⟩ := pl
  simp only at hc hd
  subst hc
  subst hd
  have hl : its.toArray.size = ys.length := by rw [List.size_toArray, ← r.length, List.length_map]
  have hj : j < its.toArray.size := by rw [hl]; exact (List.getElem?_eq_some_iff.mp hy).1
  have at' : ∀ (m : Nat) (hm : m < its.toArray.size), ∃ y t', ys[m]? = some y ∧ its.toArray[m] = Value.int y t' := fun m hm => by
    have hm' : m < ys.length := by rw [← hl]; exact hm
    obtain ⟨w, hw, t', hw'⟩ := r.get (i := m) (x := .int ys[m]) (by simp [hm'])
    refine ⟨ys[m], t', List.getElem?_eq_getElem hm', ?_⟩
    have e := (List.getElem?_eq_some_iff.mp hw).2
    rw [← hw', ← e]
    simp
  have hflat : (ys.map V.int).all flatV = true := by
    rw [List.all_map]
    exact List.all_eq_true.mpr fun _ _ => rfl
  refine call_meets PySem.F.slot_tuple_index ⟨_, ho, rfl⟩ PySem.F.entry_tuple_index (PySem.F.args_tuple_index_2 _ _) (TI.tuple_indexAt p its.toArray n dd sl (.int z t) (eqU (.int z)) j hj ?_ ?_)
    ⟨ho, fun w hw => mem_eqAt (x := .int z) ⟨t, rfl⟩ rfl r hflat w (by simpa using hw), ⟨.int (j : Nat), H, I.tok _, ⟨_, rfl⟩, q⟩⟩
  · obtain ⟨y, t', h1, h2⟩ := at' j hj
    rw [hy] at h1
    cases h1
    rw [h2]
    show (z == z) = true
    exact beq_self_eq_true z
  · intro m hm hmj
    obtain ⟨y, t', h1, h2⟩ := at' m hm
    rw [h2]
    show (y == z) = false
    exact beq_eq_false_iff_ne.mpr fun e => hno m hmj (e ▸ h1)
/-! t[::-1] -/
section
variable {prog : Program} {w : World} {A : Around} {E : Value → Shared → Prop} {s : Shared}
theorem places_back (n : Nat) : Builtin.Slice.slicePlaces ((n : Int) - 1) (-1) (-1) = n := by
  unfold Builtin.Slice.slicePlaces
  have h1 : ¬ ((-1 : Int) > 0) := by omega
  have h2 : ∀ x : Int, x / (- -1) = x := fun x => by
    rw [show (- -1 : Int) = 1 by decide, Int.ediv_one]
  simp only [h1, if_false]
  split
  · rw [h2]; omega
  · omega
theorem sliceApplied_back {sl : Addr} {t : Tok} {n : Nat} {Q : Int × Int × Nat → Shared → Prop} (hs : s.heap.IsSliceOf sl .none .none (.int (-1) t))
    (h : Q ((n : Int) - 1, -1, n) s) : wpAny (model prog w) A (Builtin.Slice.sliceApplied (.ref sl) (pure (n : Int))) Q E s := by
  obtain ⟨os, hos, hcs, hds⟩ := id hs
  unfold Builtin.Slice.sliceApplied Builtin.Slice.sliceFields
  refine wpAny_bind (wpAny_bind (wpAny_field hos hds (x := .none) rfl (wpAny_bind (wpAny_field hos hds (x := .none) rfl (wpAny_bind (wpAny_field hos hds (x := .int (-1) t) rfl (wpAny_pure ?_)))))))
  refine wpAny_bind (slicePart_int ?_)
  show wpAny _ _ (if ((-1 : Int) == 0) = true then _ else _) _ _ s
  rw [if_neg (by decide)]
  refine wpAny_bind (slicePart_none (wpAny_bind (slicePart_none (wpAny_bind (wpAny_pure ?_)))))
  show wpAny _ _ (pure ((n : Int) - 1, (-1 : Int), Builtin.Slice.slicePlaces ((n : Int) - 1) (-1) (-1))) _ _ s
  rw [places_back]
  exact wpAny_pure h
theorem filterMap_agree {α β : Type} {f g : α → Option β} : ∀ {l : List α}, (∀ a ∈ l, f a = g a) → l.filterMap f = l.filterMap g
  | [], _ => rfl
  | a :: l, h => by
    rw [List.filterMap_cons, List.filterMap_cons, h a (List.mem_cons_self ..), filterMap_agree fun b hb => h b (List.mem_cons_of_mem _ hb)]
theorem pick_back (xs : Array Value) : ((List.range xs.size).filterMap fun (m : Nat) => xs[((xs.size : Int) - 1 + (m : Int) * (-1)).toNat]?).toArray = xs.toList.reverse.toArray := by
  congr 1
  have e : (List.range xs.size).filterMap (fun (m : Nat) => xs[((xs.size : Int) - 1 + (m : Int) * (-1)).toNat]?) = ((List.range xs.size).map fun k => xs.size - 1 - k).filterMap (xs[·]?) := by
    rw [List.filterMap_map]
    apply filterMap_agree
    intro m hm
    have hm := List.mem_range.mp hm
    show xs[((xs.size : Int) - 1 + (m : Int) * (-1)).toNat]? = xs[xs.size - 1 - m]?
    have : ((xs.size : Int) - 1 + (m : Int) * (-1)).toNat = xs.size - 1 - m := by omega
    rw [this]
  rw [e, PySem.W.krv_range, List.filterMap_reverse, PySem.W.krv_all]
theorem getItem_tuple_back {t sl : Addr} {items : Array Value} {tk : Tok} {Q : Value → Shared → Prop} (ht : IsTup s.heap t items) (hs : s.heap.IsSliceOf sl .none .none (.int (-1) tk))
    (h : Q (.ref s.heap.objs.size) { s with heap := s.heap.push { cls := .type "tuple", data := .seq items.toList.reverse.toArray } }) (hsz : items.size ≤ sizeLine) : wpAny (model prog w) A (getItem (.ref t) (.ref sl)) Q E s := by
  have htake : sizeOk (.seq items.toList.reverse.toArray) := by
    show items.toList.reverse.toArray.size ≤ sizeLine
    rw [List.size_toArray, List.length_reverse, Array.length_toList]
    exact hsz
  obtain ⟨os, hos, hcs, hds⟩ := id hs
  have hTs : s.TypeIs (.ref sl) "slice" := ⟨os, hos, hcs⟩
  unfold getItem
  try with_reducible refine wpAny_holding ?_
  first | refine wpAny_bind (wpAny_pure ?_) | skip
  refine wpAny_bind (wpAny_sequenceKey ht.typeIs (by decide) ?_)
  refine wpAny_bind (wpAny_callSpecial?_slot (name := Str.ofString "__getitem__") ht.typeIs PyProof.Rows.slot_tuple_getitem
    (wpAny_call_entry PyProof.Rows.slot_tuple_getitem ht.typeIs entry_tuple_getitem ?_ (args_tuple_getitem _ _)))
  show wpAny _ _ (Builtin.Tuple.tupleItemsOf (.ref t) >>= _) _ _ s
  refine wpAny_bind (tupleItemsOf_ ht ?_)
  refine wpAny_bind (wpAny_typeOf hTs ?_)
  rw [if_pos (by decide)]
  refine wpAny_bind (sliceApplied_back hs ?_)
  have hno : ¬ (((items.size : Int) - 1 == 0 && (-1 : Int) == 1 && items.size == items.size) = true) := by
    intro q
    rw [Bool.and_eq_true, Bool.and_eq_true] at q
    exact absurd q.1.2 (by decide)
  show wpAny _ _ (if ((items.size : Int) - 1 == 0 && (-1 : Int) == 1 && items.size == items.size) = true then _ else _) _ _ s
  rw [if_neg hno, pick_back]
  first
    | exact wpAny_bind (m := Builtin.Tuple.tupleExact _) (wpAny_newObj_type (wpAny_pure ⟨_, rfl, wpAny_pure h⟩) htake)
    | exact wpAny_bind (m := Builtin.Tuple.tupleExact _) (wpAny_newObj_type (wpAny_bind (wpAny_pure (wpAny_pure ⟨_, rfl, wpAny_pure h⟩))) htake)
    | exact wpAny_bind (wpAny_bind (m := Builtin.Tuple.tupleExact _) (wpAny_newObj_type (wpAny_pure (wpAny_pure ⟨_, rfl, wpAny_pure h⟩)) htake))
    | exact wpAny_bind (wpAny_bind (m := Builtin.Tuple.tupleExact _) (wpAny_newObj_type (wpAny_pure ⟨_, rfl, wpAny_pure h⟩) htake))
end
def tRevT (K : PySem.W.Frag) (te : TE) : TE := fun σ H Q => te σ H fun x H1 => ∃ a xs, x = .ref a ∧ SqT K H1 a xs ∧ ∀ p, H1 p = none → Q (.ref p) (upd H1 p (.tup xs.reverse))
theorem pe_revT {X : Cx} {e : Expr} {te : TE} {k : Nat} {p1 p2 p3 pos : Pos} (he : PE X e te) : PE X (.Subscript e (.Slice none none (some (.UnaryOp .USub (.Constant (.int 1) k p1) p2)) p3) pos) (tRevT X.K te) := by
  refine ⟨fun pins s σ H Q I h => ?_⟩
  refine Subscript_ (thn (he.run pins s σ H _ I h) fun v s1 ⟨x, H1, I1, r1, q1⟩ => ?_)
  obtain ⟨a, xs, ex, hx, q⟩ := q1
  subst ex
  cases r1
  have hst : PO X (some (.UnaryOp .USub (.Constant (.int 1) k p1) p2)) (tPart (tUn (rU fun i => .int (-i)) (tC (.int 1)))) := po_some (pe_un un_neg pe_int)
  refine wpAny_Slice (thn (po_none.run pins s1 σ H1 (fun o H2 => o = none ∧ H2 = H1) I1 ⟨rfl, rfl⟩) fun vl s2 ⟨l, H2, I2, pl, el, e2⟩ => ?_)
  subst el e2
  refine thn (po_none.run pins s2 σ H2 (fun o H3 => o = none ∧ H3 = H2) I2 ⟨rfl, rfl⟩) fun vu s3 ⟨u, H3, I3, pu, eu, e3⟩ => ?_
  subst eu e3
  refine thn (hst.run pins s3 σ H3 (fun o H4 => o = some (-1) ∧ H4 = H3) I3 ⟨1, rfl, -1, rfl, rfl, rfl⟩) fun vs s4 ⟨o, H4, I4, ps, eo, e4⟩ => ?_
  subst eo e4
  have I5 : Inv X pins σ H4 { s4 with heap := s4.heap.push { cls := .type "slice", data := .fields #[vl, vu, vs] } } := I4.kept (t' := s4.toks) fun b ob q => Heap.get?_push_of_some _ q
  obtain ⟨its, r, ht, hz⟩ := I5.tuple hx
  have hlen := r.length
  cases pl
  cases pu
  cases ps
  show wpAny (model X.prog X.w) X.A (subscriptTail e (.Slice none none (some (.UnaryOp .USub (.Constant (.int 1) k p1) p2)) p3) (.ref a) (.ref s4.heap.objs.size)) (EP X pins σ Q) X.xe { s4 with heap := s4.heap.push { cls := .type "slice", data := .fields #[_, _, _] } }
  refine tail_any (ops := [.ref a, .ref s4.heap.objs.size]) ht.typeIs (PyProof.Rows.slot_tuple_getitem.lookup) ?_ (by with_unfolding_all rfl)
  refine getItem_tuple_back ht (Heap.IsSliceOf.new _ _ _ _) ?_ (by rw [List.size_toArray]; omega)
  refine ⟨.ref _, _, I5.laid (t' := s4.toks) (o := .tup xs.reverse) (fun b ob q => Heap.get?_push_of_some _ q) (Nat.le_refl _) ?_, rfl, q _ (I5.hok.fresh (Nat.le_refl _))⟩
  exact ⟨by rw [List.length_reverse]; exact hz, _, r.reverse, IsTup.new _ _⟩
/-- tuple(list): the new tuple known to its object -/
theorem call_tuple_ofF {X : Cx} : CallR X (.type "tuple") (fun xs H Q => ∃ p ys, xs = [.ref p] ∧ SqL X.K H p ys ∧ ∀ (l : Addr) (ob : Obj), H l = none → ob.dict = none → Q (.ref l) (upd H l (.frz ob (.tup ys)))) := by
  intro pins s σ H xs us Q I r h
  obtain ⟨p, ys, rfl, hq, q⟩ := h
  obtain ⟨u, rfl, rx⟩ := vals1 r
  cases rx
  obtain ⟨its, r', pl, hz⟩ := I.list hq
  have hlen := r'.length
  refine call_tuple_list pl.isList (fun h' kp => ?_) (by simp only [List.size_toArray] <;> omega)
  have I1 : Inv X pins σ H { s with heap := h' } := I.kept (t' := s.toks) kp
  have I2 : Inv X pins σ (upd H h'.objs.size (.frz { cls := .type "tuple", data := .seq its.toArray } (.tup ys))) { s with heap := h'.push { cls := .type "tuple", data := .seq its.toArray } } :=
    I1.laid (t' := s.toks) (fun b o e => Heap.get?_push_of_some _ e) (Nat.le_refl _) (show ObjOk X.prog X.w _ _ _ (.frz _ (.tup ys)) from ⟨Heap.get?_push_size _ rfl, hz, its, r', IsTup.new _ _⟩)
  exact ⟨.ref h'.objs.size, _, I2, rfl, q _ _ (I1.hok.fresh (Nat.le_refl _)) rfl⟩
/-- a method of such a tuple -/
def tBMT (r : V → List V → Hp → VK → Prop) (to : TE) (t : TA) : TE := fun σ H Q => to σ H fun x H1 => (∃ a ob ys, x = .ref a ∧ ob.dict = none ∧ H1 a = some (.frz ob (.tup ys))) ∧ t σ H1 fun xs H2 => r x xs H2 Q
theorem pe_bmT {X : Cx} {o e : Expr} {es : List Expr} {to : TE} {t : TA} {name : Str} {apos cpos : Pos} {id : String} {r : V → List V → Hp → VK → Prop} (pa : PlainAttrs "tuple") (slot : Slot "tuple" name id) (hty : typeOf (.builtin id) = pure (.type "method_descriptor")) (hm : MtR X id r) (ho : PE X o to) (ha : PA X (e :: es) t)
    (hbase : attributeBase o name X.env (eval o X.env) = eval o X.env := by rfl)
    (hfew : ((backTo cpos (starEach (e :: es) X.env)).all (fun x => !x.1) && (backToKw cpos (keywordEach [] X.env)).all (fun x => x.1.isSome)
      && decide ((e :: es).length + ([] : List Keyword).length + (if ([] : List Keyword).isEmpty then 0 else 1) < 30)) = true := by rfl)
    (hline : (apos.endLine == cpos.line) = true := by rfl) (hs : starEach (e :: es) X.env = (false, eval e X.env) :: starEach es X.env := by rfl) (hplain : (backTo cpos (starEach es X.env)).any (·.1) = false := by rfl) :
    PE X (.Call (.Attribute o name apos) (e :: es) [] cpos) (tBMT r to t) := by
  refine ⟨fun pins s σ H Q I h => ?_⟩
  refine wpAny_Call_method_late hbase hfew hline rfl (thn (ho.run pins s σ H _ I h) fun v s1 ⟨x, H1, I1, r1, ty, q1⟩ => ?_)
  obtain ⟨a, ob, ys, rfl, hd, ea⟩ := ty
  cases r1
  obtain ⟨e1, _, its, rv, o2, h1, h2, h3⟩ := (show ObjOk X.prog X.w H1 s1.heap a (.frz ob (.tup ys)) from I1.hok a _ ea)
  refine ⟨"tuple", id, pa, slot, hty, ⟨o2, h1, h2⟩, fun b eb => ?_, ?_⟩
  · cases eb
    exact ⟨ob, e1, hd⟩
  have hA := ha.run cpos pins s1 σ H1 _ I1 q1
  rw [hs] at hA ⊢
  refine Calls.callWith_builtin (by show (false || (backTo cpos (starEach es X.env)).any (·.1)) = false; rw [hplain] <;> rfl) (Calls.evalArgs_plain ?_)
  exact thn hA fun us s2 ⟨vs, H2, I2, r2, q2⟩ => hm pins s2 σ H2 (.ref a) vs (.ref a) us Q I2 rfl r2 q2
end Own
/-! ### sorted of rows of one width, any number of them -/
namespace Own
open PySem PySem.Spec PyProof.Rows L2 PySem.W PySem.SeqAt
def encB (b : Addr × List Int) : PyData := .tuple (b.2.map PyData.int)
def leB (a b : Addr × List Int) : Bool := decide (a.2 ≤ b.2)
theorem dataLe_encB : dataLe false encB = leB := by
  funext p q
  show (!dataLt (.tuple (q.2.map PyData.int)) (.tuple (p.2.map PyData.int))) = _
  rw [dataLt_tuple]
  show (!rowLt (q.2.map PyData.int) (p.2.map PyData.int)) = decide (p.2 ≤ q.2)
  rw [dataLt_ints]
  by_cases h : q.2 < p.2
  · have h' : ¬ p.2 ≤ q.2 := fun r => List.not_lt.mpr r h
    simp [h, h']
  · have h' : p.2 ≤ q.2 := List.not_lt.mp h
    simp [h, h']
theorem each_refs : ∀ (bs : List (Addr × List Int)), EachIs (fun (v : Value) (b : Addr × List Int) => v = .ref b.1) (bs.map fun b => Value.ref b.1) bs
  | [] => .nil
  | b :: bs => .cons rfl (each_refs bs)
theorem each_reads {h : Heap} : ∀ (bs : List (Addr × List Int)), (∀ b ∈ bs, ∃ as, Reads h (.ref b.1) (encB b) as) → EachIs (fun (v : Value) (b : Addr × List Int) => ∃ as, Reads h v (encB b) as) (bs.map fun b => Value.ref b.1) bs
  | [], _ => .nil
  | b :: bs, k => .cons (k b (List.mem_cons_self ..)) (each_reads bs fun c hc => k c (List.mem_cons_of_mem _ hc))
theorem refs_of : ∀ {bs : List (Addr × List Int)} {its : List Value}, Vals (bs.map fun b => V.ref b.1) its → its = bs.map fun b => Value.ref b.1
  | [], _, .nil => rfl
  | b :: bs, _, .cons r t => by
    rw [refs_of t]
    have r' : _ = Value.ref b.1 := r
    rw [r']
    rfl
theorem out_refs : ∀ {out : List Value} {bs : List (Addr × List Int)}, EachIs (fun (v : Value) (b : Addr × List Int) => v = .ref b.1) out bs → Vals (bs.map fun b => V.ref b.1) out
  | _, _, .nil => .nil
  | _, _, .cons h t => .cons h (out_refs t)
theorem depth_encB (b : Addr × List Int) : (encB b).depth ≤ 2 := by
  have h := PySem.W.depthAll_ints b.2
  unfold encB
  simp only [PyData.depth]
  omega
theorem alike_encB (a b : Addr × List Int) : alike (encB a) (encB b) = true := by
  unfold encB
  rw [alike]
  exact alike_ints a.2 b.2
theorem sortsAt_few {prog : Program} {w : World} {A : Around} {s : Shared} {vs : List Value} {ds : List PyData} (e : EachIs (fun v d => ∃ as, Reads s.heap v d as) vs ds) (hal : AllAlike ds) (hn : ∀ d ∈ ds, d ≠ .none) (hlen : vs.length ≤ 1) (hu : ∀ d, d ∈ ds → A.units + d.depth < cLine) : SortsAt prog w A s (dataKind s.heap ds) vs := by
  refine ⟨fun v hv => ?_, general', ?_, fun h2 => absurd h2 (by omega)⟩
  · obtain ⟨d, hd, as, r⟩ := e.left v hv
    exact ⟨_, dataKind_some hal hd r⟩
  · intro E x y a b Q ha hb hq
    obtain ⟨d, as, hd, ra, rfl⟩ := dataKind_inv ha
    obtain ⟨d', as', hd', rb, rfl⟩ := dataKind_inv hb
    show wpAny _ _ (oneLt' false x y) _ _ _
    exact oneLt_alike (fun z => Bool.noConfusion z) ra rb (hal d hd d' hd') (hn d hd) (Nat.lt_of_le_of_lt (Nat.add_le_add_left (Nat.min_le_left _ _) _) (hu d hd)) hq
def rSortedR (K : PySem.W.Frag) : List V → Hp → VK → Prop := fun vs H Q => ∃ (a : Addr) (bs : List (Addr × List Int)), vs = [V.ref a] ∧ SqL K H a (bs.map fun b => V.ref b.1) ∧ (∀ b ∈ bs, SqT K H b.1 (b.2.map V.int)) ∧ ((∀ b ∈ bs, b.2 ≠ []) ∨ bs.length ≤ 1) ∧
  ∀ p, H p = none → Q (.ref p) (upd H p (.lst ((bs.mergeSort leB).map fun b => V.ref b.1)))
theorem cr_sortedR {X : Cx} (hu : X.A.units + 64 < cLine) : CallR X (.builtin "sorted") (rSortedR X.K) := by
  intro pins s σ H vs us Q I r h
  obtain ⟨a, bs, rfl, hs, hb, hne, q⟩ := h
  obtain ⟨its, rv, hl, hz⟩ := I.list hs
  rw [Vals.ref1 r]
  have eits := refs_of rv
  subst eits
  rw [List.length_map] at hz
  have reads : ∀ b ∈ bs, ∃ as, Reads s.heap (.ref b.1) (encB b) as := fun b hbm => Dp.reads I (encB b) (.ref b.1) (.ref b.1) (.tup (hb b hbm) (dpAll_ints b.2)) rfl
  have er := each_reads bs reads
  have e := each_refs bs
  have fin : ∀ out : List Value, out.length = bs.length → EachIs (fun (v : Value) (b : Addr × List Int) => v = .ref b.1) out (bs.mergeSort (dataLe false encB)) → EP X pins σ Q (.ref (s.heap.objs.size + 1)) { s with heap := sortedAll s.heap (bs.map fun b => Value.ref b.1) (List.toArray out) } := fun out ho he => by
    rw [dataLe_encB] at he
    obtain ⟨ep, he'⟩ := PyProof.Rows.sortedAll_at s.heap (bs.map fun b => Value.ref b.1) out.toArray
    have hlen : ((bs.mergeSort leB).map fun b => V.ref b.1).length ≤ sizeLine := by
      rw [List.length_map, List.length_mergeSort]
      exact hz
    exact ⟨.ref _, upd H (s.heap.objs.size + 1) (.lst ((bs.mergeSort leB).map fun b => V.ref b.1)), I.laid (t' := s.toks) (fun _ _ => PyProof.Rows.sortedAll_old) (Nat.le_succ _) ⟨hlen, out, ep, out_refs he, he'⟩, rfl, q _ (I.hok.fresh (Nat.le_succ _))⟩
  have hd2 : ∀ b ∈ bs, X.A.units + 2 + (encB b).depth < cLine := fun b _ => by
    have := depth_encB b
    omega
  rcases hne with hne | hone
  · refine sorted_data hl.isList e er (AllAlike.of alike_encB) (.inl fun d hd => ?_) hz hd2 fin
    obtain ⟨b, hbm, rfl⟩ := List.mem_map.mp hd
    unfold encB
    cases hb2 : b.2 with
    | nil => exact absurd hb2 (hne b hbm)
    | cons x r => exact ⟨_, _, rfl⟩
  · have hal : AllAlike (bs.map encB) := AllAlike.of alike_encB
    have er' : EachIs (fun (v : Value) (b : Addr × List Int) => ∃ as, Reads (sortingHeap (copyHeap s.heap (bs.map fun b => Value.ref b.1)) (s.heap.objs.size + 1) (bs.map fun b => Value.ref b.1)) v (encB b) as) (bs.map fun b => Value.ref b.1) bs := er.mono fun _ _ ⟨as, r⟩ => ⟨as, PyProof.Rows.Reads.keeps (fun _ _ => sorting_copy_old) r⟩
    refine sorted_vals hl.isList (sortsAt_few (s := { s with heap := sortingHeap (copyHeap s.heap (bs.map fun b => Value.ref b.1)) (s.heap.objs.size + 1) (bs.map fun b => Value.ref b.1) }) (each_map (R := fun v d => ∃ as, Reads (sortingHeap (copyHeap s.heap (bs.map fun b => Value.ref b.1)) (s.heap.objs.size + 1) (bs.map fun b => Value.ref b.1)) v d as) encB er') hal (fun d hd => ?_) (by rw [List.length_map]; exact hone) (bound_map hd2)) (by rw [List.length_map]; exact hz)
      (fin _ (by rw [sortVals_length false rfl, List.length_map]) (sortVals_data false e er' hal))
    obtain ⟨b, _, rfl⟩ := List.mem_map.mp hd
    exact fun z => nomatch z
end Own
namespace Own
open PySem PySem.Spec PyProof.Rows L2
def SqB (b : Bool) (K : PySem.W.Frag) (H : Hp) (a : Addr) (us : List V) : Prop := match b with
  | true => SqL K H a us
  | false => SqT K H a us
theorem same_tup {K : PySem.W.Frag} {H H' : Hp} {a : Addr} {xs : List V} (e : Same H H') (h : SqT K H a xs) : SqT K H' a xs := by
  rcases h with (h | ⟨o, h⟩) | h
  · exact .inl (.inl (e _ _ h))
  · exact .inl (.inr ⟨o, e _ _ h⟩)
  · exact .inr h
theorem same_sqb {b : Bool} {K : PySem.W.Frag} {H H' : Hp} {a : Addr} {us : List V} (e : Same H H') (h : SqB b K H a us) : SqB b K H' a us := by
  cases b with
  | true => exact e.seq h
  | false => exact same_tup e h
/-- for .. in a list or a tuple: one walk for both -/
def iSeq (K : PySem.W.Frag) (tl : TE) : TI := fun σ H R => tl σ H fun x H1 => ∃ a us b, x = .ref a ∧ SqB b K H1 a us ∧
  ∀ J, Walk J us.length (fun H => SqB b K H a us) (YAt us) → R J H1
theorem pi_seq {X : Cx} {tg l : Expr} {tl : TE} (hl : PE X l tl) : PI X tg l (iSeq X.K tl) := by
  refine ⟨fun pins s σ H R I h => ?_⟩
  refine thn (hl.run pins s σ H _ I h) fun v s1 ⟨x, H1, I1, r1, q1⟩ => ?_
  obtain ⟨a, us, b, e, hq, q⟩ := q1
  subst e
  cases r1
  cases b with
  | true =>
    have hq : SqL X.K H1 a us := hq
    obtain ⟨its, rv, p, hz⟩ := I1.list hq
    refine wpAny_pyIter_list p.isList ?_
    refine ⟨s1.heap.objs.size, [s1.heap.objs.size], _, _, H1, rfl, I1.kept (t' := s1.toks) fun b o e => Heap.get?_push_of_some _ e, turn_list a _, ⟨_, Heap.get?_push_size _ rfl, rfl, rfl⟩, fun b hb => ?_, q _ walk_list⟩
    have e : b = s1.heap.objs.size := by simpa using hb
    subst e
    exact I1.fpOk (Nat.le_refl _) (I1.hok.fresh (Nat.le_refl _))
  | false =>
    have hq : SqT X.K H1 a us := hq
    obtain ⟨its, rv, p, hz⟩ := I1.tuple hq
    refine wpAny_pyIter_tuple (show s1.heap.IsTuple a its.toArray from p) ?_
    refine ⟨s1.heap.objs.size, [s1.heap.objs.size], _, _, H1, rfl, I1.kept (t' := s1.toks) fun b o e => Heap.get?_push_of_some _ e, turn_tuple a _, ⟨_, Heap.get?_push_size _ rfl, rfl, rfl⟩, fun b hb => ?_, q _ walk_tup⟩
    have e : b = s1.heap.objs.size := by simpa using hb
    subst e
    exact I1.fpOk (Nat.le_refl _) (I1.hok.fresh (Nat.le_refl _))
theorem sqb_of {K : PySem.W.Frag} {H : Hp} {a : Addr} {us : List V} (h : SqL K H a us ∨ SqT K H a us) : ∃ b, SqB b K H a us := h.elim (fun h => ⟨true, h⟩) fun h => ⟨false, h⟩
end Own
/-! rows as plain tuples -/
def RS (K : PySem.W.Frag) : Hp → V → List Int → Prop := fun H v r => ∃ t, v = .ref t ∧ SqT K H t (r.map V.int)
theorem st_RS {K : PySem.W.Frag} : Stable (RS K) := ⟨fun e ⟨t, a, b⟩ => ⟨t, a, Own.same_tup e b⟩, fun e ⟨t, a, b⟩ => ⟨t, a, by
  rcases b with (b | ⟨o, b⟩) | b
  · exact .inl (.inl (upd_put e b (fun _ z => by cases z)))
  · exact .inl (.inr ⟨o, upd_put e b (fun _ z => by cases z)⟩)
  · exact .inr b⟩⟩
theorem rs_of {K : PySem.W.Frag} {H : Hp} {v : V} {r : List Int} (h : RR H v r) : RS K H v r := by
  obtain ⟨t, e, b⟩ := h
  exact ⟨t, e, b.sq⟩
theorem rs_all {K : PySem.W.Frag} {H : Hp} : ∀ {us : List V} {rs : List (List Int)}, Paired (RR H) us rs → Paired (RS K H) us rs
  | _, _, .nil => .nil
  | _, _, .cons h t => .cons (rs_of h) (rs_all t)
/-! ### zip of a list and a tuple: by what the two iterators do -/
namespace Own
open PySem PySem.Spec PyProof.Rows L2
structure Src (prog : Program) (w : World) (A : Around) (it l : Addr) (xs : Array Value) (S : Heap → Nat → Prop) : Prop where
  keep : ∀ {c : Addr} {h h' : Heap} {k : Nat}, it ≠ c → l ≠ c → Heap.ExtBut c h h' → S h k → S h' k
  item : ∀ {E Q : Value → Shared → Prop} {s : Shared} {k : Nat} {x : Value}, S s.heap k → xs[k]? = some x → (∀ g, S g (k + 1) → Heap.SameBut it s.heap g → Q x { s with heap := g }) → wpAny (model prog w) A (Builtin.SmallTypes.nextOf (.ref it)) Q E s
  stop : ∀ {E Q : Value → Shared → Prop} {s : Shared} {k : Nat}, A.handled = none → S s.heap k → xs[k]? = none → (∀ g e, Heap.ExtBut it s.heap g → (∃ o, g.get? e = some o ∧ o.cls = .type "StopIteration") → E (.ref e) { s with heap := g }) → wpAny (model prog w) A (Builtin.SmallTypes.nextOf (.ref it)) Q E s
section
variable {prog : Program} {w : World} {A : Around} {s : Shared} {z TI TO i1 i2 l1 l2 : Addr} {k1 k2 : Nat} {xs ys : Array Value} {A1 A2 : Heap → Nat → Prop}
theorem src_list {it l : Addr} (hne : l ≠ it) : Src prog w A it l xs fun h k => h.IsListIter it l k ∧ h.IsList l xs :=
  ⟨fun h1 h2 e ⟨p, q⟩ => ⟨p.extBut e h1, q.extBut e h2⟩, fun ⟨p, q⟩ hx f => wpAny_nextOf_list_item p q hx fun g p' sb => f g ⟨p', q.extBut sb.extBut hne⟩ sb, fun hh ⟨p, q⟩ hx f => wpAny_nextOf_list_end hh p q hx f⟩
theorem src_tup {it l : Addr} (hne : l ≠ it) : Src prog w A it l xs fun h k => h.IsTupleIter it l k ∧ h.IsTuple l xs :=
  ⟨fun h1 h2 e ⟨p, q⟩ => ⟨p.extBut e h1, q.extBut e h2⟩, fun ⟨p, q⟩ hx f => RZ.nextOf_tuple_item p q hx fun g p' sb => f g ⟨p', q.extBut sb.extBut hne⟩ sb, fun hh ⟨p, q⟩ hx f => RZ.nextOf_tuple_end hh p q hx f⟩
theorem zipG_item {x y a b : Value} {Q E : Value → Shared → Prop} (D : ZipApart z TI TO i1 i2 l1 l2) (S1 : Src prog w A i1 l1 xs A1) (S2 : Src prog w A i2 l2 ys A2) (hz : IsZip s.heap z TI TO .none) (hTI : IsPair s.heap TI (.ref i1) (.ref i2)) (hTO : IsPair s.heap TO a b) (a1 : A1 s.heap k1) (a2 : A2 s.heap k2) (hx : xs[k1]? = some x) (hy : ys[k2]? = some y)
    (hQ : ∀ g, IsZip g z TI TO (rawInt s.heap.objs.size) → IsPair g TO x y → A1 g (k1 + 1) → A2 g (k2 + 1) → IsPair g s.heap.objs.size x y → g.objs.size = s.heap.objs.size + 1 → (∀ c o, c ≠ z → c ≠ TO → c ≠ i1 → c ≠ i2 → s.heap.get? c = some o → g.get? c = some o) → Q (.ref s.heap.objs.size) { s with heap := g }) :
    wpAny (model prog w) A (Builtin.«zip.__next__» ⟨[.ref z], []⟩) (fun fin s' => ∃ v, fin = .done (.ret v) ∧ Q v s') E s := by
  show wpAny _ _ (field (.ref z) 2 >>= _) _ _ _; refine wpAny_bind (wpAny_field hz rfl (x := .bool false) rfl ?_); show wpAny _ _ (field (.ref z) 3 >>= _) _ _ _
  refine wpAny_bind (wpAny_field hz rfl (x := .ref TI) rfl ?_); refine wpAny_bind (wpAny_seqItems hTI rfl ?_); show wpAny _ _ (Builtin.SmallTypes.ownedTupleIsFree (.ref z) >>= _) _ _ _
  refine wpAny_bind ?_; unfold Builtin.SmallTypes.ownedTupleIsFree; refine wpAny_bind (wpAny_field hz rfl (x := .none) rfl (wpAny_pure ?_)); simp only [if_true]
  refine wpAny_bind (wpAny_rule ?_); refine wpAny_bind (wpAny_field hz rfl (x := .ref TO) rfl ?_); refine wpAny_bind (wpAny_setField_rec hz (by simp) fun g1 z1 b1 => ?_)
  replace z1 : IsZip g1 z TI TO .ellipsis := z1
  refine wpAny_bind ?_; simp only [List.zipIdx_cons, List.zipIdx_nil, List.forIn_cons, List.forIn_nil]; refine wpAny_bind (wpAny_bind (wpAny_onRaise ?_)); show wpAny _ _ (Builtin.SmallTypes.nextOf (.ref i1) >>= _) _ _ _
  refine wpAny_bind (S1.item (S1.keep D.i1z D.l1z b1.extBut a1) hx fun g2 c1 b2 => wpAny_pure ?_)
  have t2 : IsPair g2 TO a b := b2.extBut _ _ D.TOi1 (b1.extBut _ _ D.TOz hTO)
  refine wpAny_bind (wpAny_seqItems t2 rfl ?_); refine wpAny_bind (wpAny_updateSeq_pair t2 fun g3 t3 b3 => ?_)
  replace t3 : IsPair g3 TO x b := t3
  refine wpAny_bind (wpAny_letGo (wpAny_pure ?_)); refine wpAny_bind (wpAny_bind (wpAny_onRaise ?_)); show wpAny _ _ (Builtin.SmallTypes.nextOf (.ref i2) >>= _) _ _ _
  refine wpAny_bind (S2.item (S2.keep D.TOi2.symm D.l2TO b3.extBut (S2.keep D.i12.symm D.l2i1 b2.extBut (S2.keep D.i2z D.l2z b1.extBut a2))) hy fun g4 c2 b4 => wpAny_pure ?_)
  have t4 : IsPair g4 TO x b := b4.extBut _ _ D.TOi2 t3
  refine wpAny_bind (wpAny_seqItems t4 rfl ?_); refine wpAny_bind (wpAny_updateSeq_pair t4 fun g5 t5 b5 => ?_)
  replace t5 : IsPair g5 TO x y := t5
  refine wpAny_bind (wpAny_letGo (wpAny_pure (wpAny_pure ?_))); refine wpAny_bind (wpAny_seqItems t5 rfl ?_); refine wpAny_bind (wpAny_newTuple ?_)
  have sz : g5.objs.size = s.heap.objs.size := by rw [b5.1, b4.1, b3.1, b2.1, b1.1]
  have z5 : IsZip g5 z TI TO .ellipsis := b5.extBut _ _ D.TOz.symm (b4.extBut _ _ D.i2z.symm (b3.extBut _ _ D.TOz.symm (b2.extBut _ _ D.i1z.symm z1)))
  have k5 : ∀ c o, c ≠ z → c ≠ TO → c ≠ i1 → c ≠ i2 → s.heap.get? c = some o → g5.get? c = some o := fun c o n1 n2 n3 n4 e => b5.extBut _ _ n2 (b4.extBut _ _ n4 (b3.extBut _ _ n2 (b2.extBut _ _ n3 (b1.extBut _ _ n1 e))))
  have c15 : A1 g5 (k1 + 1) := S1.keep D.TOi1.symm D.l1TO b5.extBut (S1.keep D.i12 D.l1i2 b4.extBut (S1.keep D.TOi1.symm D.l1TO b3.extBut c1))
  have c25 : A2 g5 (k2 + 1) := S2.keep D.TOi2.symm D.l2TO b5.extBut c2
  have zlt : z < g5.objs.size := Heap.lt_size z5
  show wpAny _ _ (Builtin.SmallTypes.ownedTupleHandOut (.ref z) (.ref g5.objs.size) >>= _) _ _ _
  refine wpAny_bind ?_; unfold Builtin.SmallTypes.ownedTupleHandOut
  have z6 : IsZip (g5.push { cls := .type "tuple", data := .seq #[x, y] }) z TI TO .ellipsis := Heap.get?_push_of_some _ z5
  refine wpAny_bind (wpAny_setField_rec z6 (by simp) fun g7 z7 b7 => ?_)
  replace z7 : IsZip g7 z TI TO (rawInt g5.objs.size) := z7
  refine wpAny_setField_rec z7 (by simp) fun g8 z8 b8 => ?_
  replace z8 : IsZip g8 z TI TO (rawInt g5.objs.size) := z8
  have up : ∀ c o, c ≠ z → g5.get? c = some o → g8.get? c = some o := fun c o n1 e => b8.extBut _ _ n1 (b7.extBut _ _ n1 (Heap.get?_push_of_some _ e))
  have t8 : IsPair g8 g5.objs.size x y := b8.extBut _ _ (Nat.ne_of_gt zlt) (b7.extBut _ _ (Nat.ne_of_gt zlt) (Heap.get?_push_size _ rfl))
  have s8 : g8.objs.size = g5.objs.size + 1 := by rw [b8.1, b7.1, Heap.size_push]
  rw [sz] at z8 t8 s8
  refine wpAny_pure ⟨_, rfl, ?_⟩; show Q (.ref g5.objs.size) _; rw [sz]
  exact hQ g8 z8 (up _ _ D.TOz t5) (S1.keep D.i1z D.l1z up c15) (S2.keep D.i2z D.l2z up c25) t8 s8 fun c o n1 n2 n3 n4 e => up c o n1 (k5 c o n1 n2 n3 n4 e)
theorem zipG_end {a b : Value} {Q : Fin → Shared → Prop} {E : Value → Shared → Prop} (hh : A.handled = none) (D : ZipApart z TI TO i1 i2 l1 l2) (S1 : Src prog w A i1 l1 xs A1) (S2 : Src prog w A i2 l2 ys A2) (hz : IsZip s.heap z TI TO .none) (hTI : IsPair s.heap TI (.ref i1) (.ref i2)) (hTO : IsPair s.heap TO a b) (a1 : A1 s.heap k1) (a2 : A2 s.heap k2) (hend : xs[k1]? = none ∨ ys[k2]? = none)
    (hE : ∀ g e, (∀ c o, c ≠ z → c ≠ TO → c ≠ i1 → c ≠ i2 → s.heap.get? c = some o → g.get? c = some o) → (∃ o, g.get? e = some o ∧ o.cls = .type "StopIteration") → E (.ref e) { s with heap := g }) :
    wpAny (model prog w) A (Builtin.«zip.__next__» ⟨[.ref z], []⟩) Q E s := by
  show wpAny _ _ (field (.ref z) 2 >>= _) _ _ _; refine wpAny_bind (wpAny_field hz rfl (x := .bool false) rfl ?_); show wpAny _ _ (field (.ref z) 3 >>= _) _ _ _
  refine wpAny_bind (wpAny_field hz rfl (x := .ref TI) rfl ?_); refine wpAny_bind (wpAny_seqItems hTI rfl ?_); show wpAny _ _ (Builtin.SmallTypes.ownedTupleIsFree (.ref z) >>= _) _ _ _
  refine wpAny_bind ?_; unfold Builtin.SmallTypes.ownedTupleIsFree; refine wpAny_bind (wpAny_field hz rfl (x := .none) rfl (wpAny_pure ?_)); simp only [if_true]
  refine wpAny_bind (wpAny_rule ?_); refine wpAny_bind (wpAny_field hz rfl (x := .ref TO) rfl ?_); refine wpAny_bind (wpAny_setField_rec hz (by simp) fun g1 z1 b1 => ?_)
  replace z1 : IsZip g1 z TI TO .ellipsis := z1
  refine wpAny_bind ?_; simp only [List.zipIdx_cons, List.zipIdx_nil, List.forIn_cons, List.forIn_nil]; refine wpAny_bind (wpAny_bind (wpAny_onRaise ?_)); show wpAny _ _ (Builtin.SmallTypes.nextOf (.ref i1) >>= _) _ _ _
  have d1 := S1.keep D.i1z D.l1z b1.extBut a1
  cases hx : xs[k1]? with
  | none =>
    refine wpAny_bind (S1.stop hh d1 hx fun g2 e b2 he => ?_)
    obtain ⟨oe, h1, h2⟩ := he
    have z2 : IsZip g2 z TI TO .ellipsis := b2 _ _ D.i1z.symm z1
    have ne : e ≠ z := fun q => by subst q; rw [z2] at h1; cases h1; simp at h2
    exact wpAny_setField_rec z2 (by simp) fun g3 _ b3 => hE g3 e (fun c o n1 _ n3 _ q => b3.extBut _ _ n1 (b2 _ _ n3 (b1.extBut _ _ n1 q))) ⟨oe, b3.extBut _ _ ne h1, h2⟩
  | some x =>
    have hy : ys[k2]? = none := hend.elim (fun h => by rw [hx] at h; cases h) id
    refine wpAny_bind (S1.item d1 hx fun g2 c1 b2 => wpAny_pure ?_)
    have t2 : IsPair g2 TO a b := b2.extBut _ _ D.TOi1 (b1.extBut _ _ D.TOz hTO)
    refine wpAny_bind (wpAny_seqItems t2 rfl ?_); refine wpAny_bind (wpAny_updateSeq_pair t2 fun g3 t3 b3 => ?_)
    refine wpAny_bind (wpAny_letGo (wpAny_pure ?_)); refine wpAny_bind (wpAny_bind (wpAny_onRaise ?_)); show wpAny _ _ (Builtin.SmallTypes.nextOf (.ref i2) >>= _) _ _ _
    refine wpAny_bind (S2.stop hh (S2.keep D.TOi2.symm D.l2TO b3.extBut (S2.keep D.i12.symm D.l2i1 b2.extBut (S2.keep D.i2z D.l2z b1.extBut a2))) hy fun g4 e b4 he => ?_)
    obtain ⟨oe, h1, h2⟩ := he
    have z4 : IsZip g4 z TI TO .ellipsis := b4 _ _ D.i2z.symm (b3.extBut _ _ D.TOz.symm (b2.extBut _ _ D.i1z.symm z1))
    have ne : e ≠ z := fun q => by subst q; rw [z4] at h1; cases h1; simp at h2
    exact wpAny_setField_rec z4 (by simp) fun g5 _ b5 => hE g5 e (fun c o n1 n2 n3 n4 q => b5.extBut _ _ n1 (b4 _ _ n4 (b3.extBut _ _ n2 (b2.extBut _ _ n3 (b1.extBut _ _ n1 q))))) ⟨oe, b5.extBut _ _ ne h1, h2⟩
theorem nextG_item {x y a b : Value} {Q : Option Value → Shared → Prop} {E : Value → Shared → Prop} (D : ZipApart z TI TO i1 i2 l1 l2) (S1 : Src prog w A.in1 i1 l1 xs A1) (S2 : Src prog w A.in1 i2 l2 ys A2) (hz : IsZip s.heap z TI TO .none) (hTI : IsPair s.heap TI (.ref i1) (.ref i2)) (hTO : IsPair s.heap TO a b) (a1 : A1 s.heap k1) (a2 : A2 s.heap k2) (hx : xs[k1]? = some x) (hy : ys[k2]? = some y)
    (hQ : ∀ g, IsZip g z TI TO (rawInt s.heap.objs.size) → IsPair g TO x y → A1 g (k1 + 1) → A2 g (k2 + 1) → IsPair g s.heap.objs.size x y → g.objs.size = s.heap.objs.size + 1 → (∀ c o, c ≠ z → c ≠ TO → c ≠ i1 → c ≠ i2 → s.heap.get? c = some o → g.get? c = some o) → Q (some (.ref s.heap.objs.size)) { s with heap := g }) :
    wpAny (model prog w) A (pyNext (.ref z)) Q E s := by
  have hT : s.TypeIs (.ref z) "zip" := ⟨_, hz, rfl⟩
  unfold pyNext
  refine wpAny_bind (wpAny_attempt (wpAny_callSpecial?_slot (name := Str.ofString "__next__") hT F.slot_zip_next (wpAny_call_entry F.slot_zip_next hT F.entry_zip_next (zipG_item D S1 S2 hz hTI hTO a1 a2 hx hy fun g p1 p2 p3 p4 p5 p6 p7 => wpAny_pure (hQ g p1 p2 p3 p4 p5 p6 p7)) (F.args_zip_next_1 _))))
theorem nextG_end {a b : Value} {Q : Option Value → Shared → Prop} {E : Value → Shared → Prop} (hh : A.handled = none) (D : ZipApart z TI TO i1 i2 l1 l2) (S1 : Src prog w A.in1 i1 l1 xs A1) (S2 : Src prog w A.in1 i2 l2 ys A2) (hz : IsZip s.heap z TI TO .none) (hTI : IsPair s.heap TI (.ref i1) (.ref i2)) (hTO : IsPair s.heap TO a b) (a1 : A1 s.heap k1) (a2 : A2 s.heap k2) (hend : xs[k1]? = none ∨ ys[k2]? = none)
    (hQ : ∀ g, (∀ c o, c ≠ z → c ≠ TO → c ≠ i1 → c ≠ i2 → s.heap.get? c = some o → g.get? c = some o) → Q none { s with heap := g }) : wpAny (model prog w) A (pyNext (.ref z)) Q E s := by
  have hT : s.TypeIs (.ref z) "zip" := ⟨_, hz, rfl⟩
  unfold pyNext
  refine wpAny_bind (wpAny_attempt (wpAny_callSpecial?_slot (name := Str.ofString "__next__") hT F.slot_zip_next (wpAny_call_entry F.slot_zip_next hT F.entry_zip_next (zipG_end hh D S1 S2 hz hTI hTO a1 a2 hend fun g e hk he => ?_) (F.args_zip_next_1 _))))
  obtain ⟨oe, h1, h2⟩ := he
  exact wpAny_bind (wpAny_isInstance (T := "StopIteration") (b := true) ⟨oe, h1, h2⟩ isSubtype_stop (wpAny_pure (hQ _ hk)))
end
/-! the call: an iterator of the list, one of the tuple, two pairs, the zip -/
section
variable (h : Heap) (l1 l2 : Addr)
abbrev zm1 : Heap := h.push { cls := .type "list_iterator", data := .fields #[.ref l1, .int 0 0] }
abbrev zm2 : Heap := (zm1 h l1).push { cls := .type "tuple_iterator", data := .fields #[.ref l2, .int 0 0] }
abbrev zm3 : Heap := (zm2 h l1 l2).push { cls := .type "tuple", data := .seq #[.ref h.objs.size, .ref (zm1 h l1).objs.size] }
abbrev zm4 : Heap := (zm3 h l1 l2).push { cls := .type "tuple", data := .seq #[.none, .none] }
abbrev zm5 : Heap := (zm4 h l1 l2).push { cls := .type "zip", data := .fields #[.none, .bool false, .bool false, .ref (zm2 h l1 l2).objs.size, .ref (zm3 h l1 l2).objs.size] }
end
theorem zipM_new (l1 l2 : Addr) (xs ys : Array Value) : Meets (Builtin.«zip.__new__» ⟨[.type "zip", .ref l1, .ref l2], []⟩) (fun _ R s => s.heap.IsList l1 xs ∧ s.heap.IsTuple l2 ys ∧ R (.ok (.ret (.ref (zm4 s.heap l1 l2).objs.size))) { s with heap := zm5 s.heap l1 l2 }) :=
  .of_wp fun prog w A R s q => by
    obtain ⟨hp, g, d, tk, os⟩ := s
    obtain ⟨p1, p2, q⟩ := q
    have hs := sub_zip
    have q1 : Heap.IsList (Shared.heap ⟨hp, g, d, tk, os⟩) l1 xs := p1
    have q2 : Heap.IsTuple (Shared.heap ⟨hp.push { cls := .type "list_iterator", data := .fields #[.ref l1, .int 0 0] }, g, d, tk, os⟩) l2 ys := Heap.IsTuple.push p2 _
    wp_walk using wpAny_pyIter_list q1, wpAny_pyIter_tuple q2
    exact ⟨_, rfl, q⟩
section
variable {prog : Program} {w : World} {A : Around} {E : Value → Shared → Prop} {s : Shared}
theorem call_zipM {l1 l2 : Addr} {xs ys : Array Value} {Q : Value → Shared → Prop} (p1 : s.heap.IsList l1 xs) (p2 : s.heap.IsTuple l2 ys)
    (q : ∀ g, IsZip g (s.heap.objs.size + 4) (s.heap.objs.size + 2) (s.heap.objs.size + 3) .none → IsPair g (s.heap.objs.size + 2) (.ref s.heap.objs.size) (.ref (s.heap.objs.size + 1)) → IsPair g (s.heap.objs.size + 3) .none .none → g.IsListIter s.heap.objs.size l1 0 → g.IsTupleIter (s.heap.objs.size + 1) l2 0 → (∀ c o, s.heap.get? c = some o → g.get? c = some o) → Q (.ref (s.heap.objs.size + 4)) { s with heap := g }) :
    wpAny (model prog w) A (call (.type "zip") [.ref l1, .ref l2]) Q E s := by
  refine callType_new F.called_zip (by decide) (F.typeCall_zip_2 _ _) (F.newCall_zip_2 _ _) (fun o => F.args_object_init_3 o _ _) F.entry_zip_new (zipM_new l1 l2 xs ys) ⟨p1, p2, ?_⟩
  have n1 : (zm1 s.heap l1).objs.size = s.heap.objs.size + 1 := Heap.size_push ..
  have n2 : (zm2 s.heap l1 l2).objs.size = s.heap.objs.size + 2 := by rw [Heap.size_push, n1]
  have n3 : (zm3 s.heap l1 l2).objs.size = s.heap.objs.size + 3 := by rw [Heap.size_push, n2]
  have n4 : (zm4 s.heap l1 l2).objs.size = s.heap.objs.size + 4 := by rw [Heap.size_push, n3]
  have f5 : (zm5 s.heap l1 l2).get? (zm4 s.heap l1 l2).objs.size = some _ := Heap.get?_push_size _ rfl
  have f4 : (zm5 s.heap l1 l2).get? (zm3 s.heap l1 l2).objs.size = some _ := Heap.get?_push_of_some _ (Heap.get?_push_size _ rfl)
  have f3 : (zm5 s.heap l1 l2).get? (zm2 s.heap l1 l2).objs.size = some _ := Heap.get?_push_of_some _ (Heap.get?_push_of_some _ (Heap.get?_push_size _ rfl))
  have f2 : (zm5 s.heap l1 l2).get? (zm1 s.heap l1).objs.size = some _ := Heap.get?_push_of_some _ (Heap.get?_push_of_some _ (Heap.get?_push_of_some _ (Heap.get?_push_size _ rfl)))
  have f1 : (zm5 s.heap l1 l2).get? s.heap.objs.size = some _ := Heap.get?_push_of_some _ (Heap.get?_push_of_some _ (Heap.get?_push_of_some _ (Heap.get?_push_of_some _ (Heap.get?_push_size _ rfl))))
  show _ ∧ _
  rw [n2, n3, n4] at f5; rw [n1, n2] at f3; rw [n3] at f4; rw [n1] at f2; rw [n4]
  exact ⟨⟨_, f5, rfl⟩, q _ f5 f3 f4 ⟨_, f1, rfl, rfl⟩ ⟨_, f2, rfl, rfl⟩ fun c o e => Heap.get?_push_of_some _ (Heap.get?_push_of_some _ (Heap.get?_push_of_some _ (Heap.get?_push_of_some _ (Heap.get?_push_of_some _ e))))⟩
end
/-- a list at a, a tuple at b -/
def ItzM (K : PySem.W.Frag) (a b : Addr) : It :=
  ⟨fun i H => ∃ (xs ys : List V) (x y : V), SqL K H a xs ∧ SqT K H b ys ∧ xs[i]? = some x ∧ ys[i]? = some y, fun i H v H' => ∃ T x y, v = .ref T ∧ H T = none ∧ H' = upd H T (.tup [x, y]) ∧ (∀ xs, SqL K H a xs → xs[i]? = some x) ∧ ∀ ys, SqT K H b ys → ys[i]? = some y, fun i H => ∃ xs ys : List V, SqL K H a xs ∧ SqT K H b ys ∧ (xs.length ≤ i ∨ ys.length ≤ i)⟩
theorem mem5 {z TI TO i1 i2 c : Addr} (h : c ∈ [z, TI, TO, i1, i2]) : c = z ∨ c = TI ∨ c = TO ∨ c = i1 ∨ c = i2 := by simpa using h
theorem turn_zipM {P : Program} {w : World} {K : PySem.W.Frag} {elts : List Expr} {kk : Nat} {tpos : Pos} {a b z TI TO i1 i2 : Addr} (D : ZipApart z TI TO i1 i2 a b) :
    Turn P w K (.Tuple elts kk tpos) (ItzM K a b) [z, TI, TO, i1, i2] z (fun i h => IsZip h z TI TO .none ∧ IsPair h TI (.ref i1) (.ref i2) ∧ (∃ x y, IsPair h TO x y) ∧ h.IsListIter i1 a i ∧ h.IsTupleIter i2 b i) where
  mem := by simp
  obj := fun i h st c hc => by
    obtain ⟨hz, hTI, ⟨x, y, hTO⟩, ⟨o1, e1, _, d1⟩, ⟨o2, e2, _, d2⟩⟩ := st
    rcases mem5 hc with rfl | rfl | rfl | rfl | rfl
    · exact ⟨_, hz, nofun⟩
    · exact ⟨_, hTI, nofun⟩
    · exact ⟨_, hTO, nofun⟩
    · exact ⟨o1, e1, fun u e => by rw [d1] at e; cases e⟩
    · exact ⟨o2, e2, fun u e => by rw [d2] at e; cases e⟩
  keep := fun i h h' st k => by
    obtain ⟨hz, hTI, ⟨x, y, hTO⟩, q1, q2⟩ := st
    refine ⟨k z (by simp) _ hz, k TI (by simp) _ hTI, ⟨x, y, k TO (by simp) _ hTO⟩, ?_, ?_⟩
    · exact q1.at fun o e => k i1 (by simp) o e
    · exact q2.at fun o e => k i2 (by simp) o e
  item := by
    intro X hP hw hK hc i pins s σ H E I hf st hg
    subst hP hw hK
    obtain ⟨hz, hTI, ⟨x0, y0, hTO⟩, q1, q2⟩ := st
    obtain ⟨xs, ys, x, y, hqx, hqy, hx, hy⟩ := hg
    obtain ⟨is1, rv1, m1, _⟩ := I.list hqx; obtain ⟨is2, rv2, m2, _⟩ := I.tuple hqy
    obtain ⟨u1, e1, r1⟩ := rv1.get hx; obtain ⟨u2, e2, r2⟩ := rv2.get hy
    have hzl : z < s.heap.objs.size := Heap.lt_size hz
    refine nextG_item D (src_list (l := a) D.l1i1) (src_tup (l := b) D.l2i2) hz hTI hTO ⟨q1, m1.isList⟩ ⟨q2, m2⟩ (x := u1) (y := u2) (by simpa using e1) (by simpa using e2) fun g z' TO' ⟨q1', _⟩ ⟨q2', _⟩ hT hsz hk => ?_
    refine ⟨_, rfl, wpAny_letOwnedTupleGo_zip (s := { s with heap := g }) z' fun g2 z2 sb => ?_⟩
    have t2 : g2.get? s.heap.objs.size = some { cls := .type "tuple", data := .seq #[u1, u2] } := (sb.2 _ (Nat.ne_of_gt hzl)).trans hT
    have nw : ObjOk X.prog X.w (upd H s.heap.objs.size (.tup [x, y])) g2 s.heap.objs.size (.tup [x, y]) := ⟨by show 2 ≤ sizeLine; decide, [u1, u2], .cons r1 (.cons r2 .nil), ⟨_, t2, rfl, _, rfl⟩⟩
    have J : Inv X pins σ (upd H s.heap.objs.size (.tup [x, y])) { s with heap := g2 } := I.turnedNew (t' := s.toks) (ch := [z, TI, TO, i1, i2]) (fun c o hb q => (sb.2 c (fun e => hb (by simp [e]))).trans (hk c o (fun e => hb (by simp [e])) (fun e => hb (by simp [e])) (fun e => hb (by simp [e])) (fun e => hb (by simp [e])) q)) hf (Nat.le_refl _) nw
    refine ⟨.ref s.heap.objs.size, _, J, rfl, ⟨_, x, y, rfl, I.hok.fresh (Nat.le_refl _), rfl, fun l hl => by rw [I.list_inj hl hqx]; exact hx, fun l hl => by rw [I.tuple_inj hl hqy]; exact hy⟩, ⟨z2, (sb.2 _ D.TIz).trans (hk _ _ D.TIz D.TITO D.TIi1 D.TIi2 hTI), ⟨u1, u2, (sb.2 _ D.TOz).trans TO'⟩, q1'.at fun o q => (sb.2 _ D.i1z).trans q, q2'.at fun o q => (sb.2 _ D.i2z).trans q⟩, fun c hcm => ?_⟩
    have hlt : c < s.heap.objs.size := by
      rcases mem5 hcm with rfl | rfl | rfl | rfl | rfl
      · exact hzl
      · exact Heap.lt_size hTI
      · exact Heap.lt_size hTO
      · exact q1.elim fun _ e => Heap.lt_size e.1
      · exact q2.elim fun _ e => Heap.lt_size e.1
    rw [upd_ne (Nat.ne_of_lt hlt)]; exact (hf c hcm).1
  done := by
    intro X hP hw hK hc i pins s σ H E I hf st hg
    subst hP hw hK
    obtain ⟨hz, hTI, ⟨x0, y0, hTO⟩, q1, q2⟩ := st
    obtain ⟨xs, ys, hqx, hqy, hend⟩ := hg
    obtain ⟨is1, rv1, m1, _⟩ := I.list hqx; obtain ⟨is2, rv2, m2, _⟩ := I.tuple hqy
    have n1 := rv1.length; have n2 := rv2.length
    have he : is1.toArray[i]? = none ∨ is2.toArray[i]? = none := hend.elim (fun q => .inl (by simp; omega)) fun q => .inr (by simp; omega)
    exact nextG_end (I.ok.hd hc) D (src_list (l := a) D.l1i1) (src_tup (l := b) D.l2i2) hz hTI hTO ⟨q1, m1.isList⟩ ⟨q2, m2⟩ he fun g hk => ⟨rfl, I.turnedL (t' := s.toks) (ch := [z, TI, TO, i1, i2]) (fun c o hb q => hk c o (fun e => hb (by simp [e])) (fun e => hb (by simp [e])) (fun e => hb (by simp [e])) (fun e => hb (by simp [e])) q) hf⟩
  self := fun A i s Q E st q => wpAny_pyIter_zip st.1 q
theorem walk_zipM {K : PySem.W.Frag} {a b : Addr} {xs ys : List V} {n : Nat} (h1 : n = xs.length) (h2 : n = ys.length) : Walk (ItzM K a b) n (fun H => SqL K H a xs ∧ SqT K H b ys) (YPair (fun i => xs[i]?) (fun i => ys[i]?)) :=
  { goes := fun i _ hi k => ⟨xs, ys, _, _, k.1, k.2, List.getElem?_eq_getElem (by omega), List.getElem?_eq_getElem (by omega)⟩
    stops := fun _ k => ⟨xs, ys, k.1, k.2, .inl (by omega)⟩
    yields := fun i H x H' _ k ⟨T, x1, x2, e1, e2, e3, e4, e5⟩ => ⟨T, x1, x2, e1, e2, e3, e4 xs k.1, e5 ys k.2⟩ }
/-- two lists, or a list and a tuple, of one length -/
def iZipM (K : PySem.W.Frag) (ta : TA) : TI := fun σ H R => ta σ H fun vs H1 => ∃ a b xs ys bb, vs = [.ref a, .ref b] ∧ SqL K H1 a xs ∧ SqB bb K H1 b ys ∧ xs.length = ys.length ∧ ∀ J, Walk J xs.length (fun H => SqL K H a xs ∧ SqB bb K H b ys) (YPair (fun i => xs[i]?) (fun i => ys[i]?)) → R J H1
theorem pi_zipM {X : Cx} {e e2 : Expr} {ta : TA} {p pos tpos : Pos} {elts : List Expr} {kk : Nat} (hg : Gl X "zip") (hm : X.mg "zip" = none) (ha : PA X [e, e2] ta)
    (hs : starEach [e, e2] X.env = (false, eval e X.env) :: starEach [e2] X.env := by rfl) (hpl : (backTo pos (starEach [e2] X.env)).any (·.1) = false := by rfl) : PI X (.Tuple elts kk tpos) (.Call (.Name "zip" p) [e, e2] [] pos) (iZipM X.K ta) := by
  refine ⟨fun pins s σ H R I q => Call_ (ld_blt I hg hm PyProof.Rows.boot_zip (PyProof.Rows.callWith_type1 (thn (ha.run pos pins s σ H _ I q) fun us s1 ⟨vs, H1, I1, r1, q1⟩ => ?_) hs hpl))⟩
  obtain ⟨a, b, xs, ys, bb, rfl, hqx, hqb, hlen, q1⟩ := q1
  obtain ⟨v1, v2, rfl, e1, e2⟩ := vals2 r1
  cases e1; cases e2
  have fr : ∀ c, c ∈ [s1.heap.objs.size + 4, s1.heap.objs.size + 2, s1.heap.objs.size + 3, s1.heap.objs.size, s1.heap.objs.size + 1] → FpOk X pins H1 c := fun c hcm => by
    have hle : s1.heap.objs.size ≤ c := by rcases mem5 hcm with rfl | rfl | rfl | rfl | rfl <;> omega
    exact I1.fpOk hle (I1.hok.fresh hle)
  obtain ⟨is1, rv1, m1, _⟩ := I1.list hqx
  cases bb with
  | true =>
    have hqy : SqL X.K H1 b ys := hqb
    have q := q1 (Itz X.K a b) (walk_zip (by rw [hlen, Nat.min_self]))
    obtain ⟨is2, rv2, m2, _⟩ := I1.list hqy
    refine call_zip_2 m1.isList m2.isList fun g hz hTI hTO p1 p2 _ hk => wpAny_pyIter_zip hz ?_
    exact ⟨_, [s1.heap.objs.size + 4, s1.heap.objs.size + 2, s1.heap.objs.size + 3, s1.heap.objs.size, s1.heap.objs.size + 1], _, _, H1, rfl, I1.kept (t' := s1.toks) hk, turn_zip (PySem.W.ktu_apart s1.heap.objs.size a b m1.lt m2.lt), ⟨hz, hTI, ⟨_, _, hTO⟩, p1, p2⟩, fr, q⟩
  | false =>
    have hqy : SqT X.K H1 b ys := hqb
    have q := q1 (ItzM X.K a b) (walk_zipM rfl hlen)
    obtain ⟨is2, rv2, m2, _⟩ := I1.tuple hqy
    obtain ⟨o2, ho2, _⟩ := id m2
    refine call_zipM m1.isList (show s1.heap.IsTuple b is2.toArray from m2) fun g hz hTI hTO p1 p2 hk => wpAny_pyIter_zip hz ?_
    exact ⟨_, [s1.heap.objs.size + 4, s1.heap.objs.size + 2, s1.heap.objs.size + 3, s1.heap.objs.size, s1.heap.objs.size + 1], _, _, H1, rfl, I1.kept (t' := s1.toks) hk, turn_zipM (PySem.W.ktu_apart s1.heap.objs.size a b m1.lt (Heap.lt_size ho2)), ⟨hz, hTI, ⟨_, _, hTO⟩, p1, p2⟩, fr, q⟩
end Own
/-! ### generators of our own that raise nothing, taken by a consumer that holds some objects between the turns -/
namespace Gn
open PySem PySem.Spec PyProof.Rows L2 GenW
/-- by what has come so far: the consumer's objects, as they stand -/
abbrev Hold := List V → List (Addr × Obj) → Prop
structure HoldAt (J : Hold) (ad : List Addr) : Prop where
  here : ∀ {ys cs}, J ys cs → cs.map (·.1) = ad
  flat : ∀ {ys cs}, J ys cs → ∀ p ∈ cs, ∀ v, p.2.data ≠ .cell v
/-- from a to b the consumer works, at its objects alone -/
structure Idle (ad : List Addr) (cs : List (Addr × Obj)) (a b : Shared) : Prop where
  sys : b.os = a.os
  gens : AllBare b.gens
  rest : ∀ x u, x ∉ ad → a.heap.get? x = some u → b.heap.get? x = some u
  mine : ∀ p ∈ cs, b.heap.get? p.1 = some p.2
def Away (X : Cx) (ad : List Addr) : Prop := ∀ x ∈ ad, X.s_0.heap.objs.size ≤ x ∧ x ≠ X.env.locals ∧ ∀ y c, X.env.cells.lookup y = some c → c ≠ x
theorem awake {X : Cx} {J : Hold} {ad : List Addr} {ys zs : List V} {cs ds : List (Addr × Obj)} {σ : L2.St} {H : Hp} {a b : Shared} (hJ : HoldAt J ad) (hA : Away X ad) (hp : ∀ p ∈ X.pn, p.1 ∉ ad) (I : Inv X cs σ H a) (j : J ys cs) (j' : J zs ds) (z : Idle ad ds a b) :
    Inv X ds σ H b := by
  have hN : ∀ x ∈ ad, H x = none ∧ x ∉ X.fs := fun x hx => by
    rw [← hJ.here j] at hx
    obtain ⟨p, hp, rfl⟩ := List.mem_map.mp hx
    have q := I.pin p (List.mem_append_right _ hp)
    exact ⟨q.2.1, q.2.2.2.1⟩
  have I0 : Inv X [] σ H a := I.pins_of fun p hp => by simp at hp
  obtain ⟨hb, gb, db, tb, ob⟩ := b
  obtain rfl : ob = a.os := z.sys
  have noTrack : ∀ x u, H x = some u → x ∉ ad := fun x u e hx => by
    rw [(hN x hx).1] at e
    cases e
  have I1 : Inv X [] σ H { a with heap := hb, gens := gb, drawn := db, toks := tb } := by
    refine I0.step (g' := gb) (t' := tb) (d' := db) (ch := ad) (fun x hx => ⟨.inr (hA x hx).1, (hA x hx).2.1, (hA x hx).2.2, fun p hq e => ?_⟩) (fun x u _ _ hc e _ => z.rest x u hc e)
      (fun x u _ _ hc e _ => ⟨u.slots, z.rest x u hc e⟩) (fun _ _ _ _ n => n) (fun x u hc e => ⟨u, z.rest x u hc e⟩) (fun _ _ e => e) (fun _ _ _ e => e) (fun x ps e => ⟨#[], by rw [e]; simp⟩) (fun m hm => ?_) (fun x u e => ?_) z.gens
    · rcases List.mem_append.mp hq with hq | hq
      · exact hp p hq (e ▸ hx)
      · simp at hq
    · obtain ⟨u, es, ep, hu, r⟩ := hm
      exact ⟨u, es, ep, z.rest _ u (fun hx => (hA _ hx).2.1 rfl) hu, r⟩
    · refine (I0.hok x u e).stay (fun c v hc y => z.rest c v ?_ y) (fun _ y => y) fun _ _ y => y
      rcases hc with y | y
      · rw [y]
        exact noTrack x u e
      · exact noTrack c _ y
  refine I1.pins_of fun p hp => ?_
  have hx : p.1 ∈ ad := by
    rw [← hJ.here j']
    exact List.mem_map_of_mem hp
  exact ⟨z.mine p hp, (hN _ hx).1, (hA _ hx).2.1, (hN _ hx).2, hJ.flat j' p hp⟩

/-- an item goes out -/
def Out (X : Cx) (J : Hold) (ad : List Addr) : Protocol := fun n _ v s kap =>
  ∃ ys x cs σ H, n + 1 + ys.length = sizeLine ∧ RelV x v ∧ J ys cs ∧ Inv X cs σ H s ∧ ∀ s' ds, J (ys ++ [x]) ds → Idle ad ds s s' → kap (.send .none) s'
def Fl (X : Cx) (J : Hold) (D : GEnds) (ys : List V) (f : Flow) (s : Shared) : Prop := ∃ cs, J ys cs ∧ SP X cs (D.at ys) f s
structure Spot (X : Cx) (ad : List Addr) (A : Around) (c : Code) (fs : List Frame) (gd : Bool → Bool) : Prop where
  away : Away X ad
  own : ∀ p ∈ X.pn, p.1 ∉ ad
  calm : ∀ e s, X.xe e s → False
  over : A.over c fs = X.A
  split : splitAtGen fs = none
  bare : fs.any Frame.guarded = false
  gd : gd false = false
/-- what comes behind -/
def Nxt (X : Cx) (J : Hold) (ad : List Addr) (A : Around) (R : GenEnd) (c : Code) (fs : List Frame) (K : Flow → Sem PySem.Fin) (D : GEnds) : Prop :=
  ∀ (n : Nat) (ys : List V) (s₀ s : Shared) (f : Flow), n + ys.length = sizeLine → Fl X J D ys f s → Seg (model X.prog X.w) A R (Out X J ad) n s₀ c (K f) fs s
/-- a piece of a generator's body -/
structure Sg (X : Cx) (m : Sem Flow) (t : TGn) : Prop where
  run : ∀ (A : Around) (J : Hold) (ad : List Addr) (R : GenEnd) (n : Nat) (ys : List V) (s₀ : Shared) (c : Code) (fs : List Frame) (K : Flow → Sem PySem.Fin) (B : Value → Sem PySem.Fin) (gd : Bool → Bool) (lv : List Value → List Value) (s : Shared) (σ : L2.St) (H : Hp) (D : GEnds) (cs : List (Addr × Obj)),
    Spot X ad A c fs gd → HoldAt J ad → n + ys.length = sizeLine → Nxt X J ad A R c fs K D → J ys cs → Inv X cs σ H s → t D ys σ H → Seg (model X.prog X.w) A R (Out X J ad) n s₀ c (m.wrap K B gd lv) fs s
section
variable {X : Cx}
theorem sg_ps {st : Stmt} {t : TS} (h : PS X st t) : Sg X (exec st X.env) (tPlain t) := by
  refine ⟨fun A J ad R n ys s₀ c fs K B gd lv s σ H D cs sp hJ hn k j I ht => seg_wrap ?_⟩
  rw [sp.over]
  exact wpAny_mono (h.run cs s σ H (D.at ys) I ht) (fun f s' q => k n ys s₀ s' f hn ⟨cs, j, q⟩) fun e s' q => (sp.calm e s' q).elim
theorem sg_nil : Sg X (execs [] X.env) tG0 :=
  ⟨fun A J ad R n ys s₀ c fs K B gd lv s σ H D cs sp hJ hn k j I ht => seg_execs_nil (k n ys s₀ s .next hn ⟨cs, j, σ, H, I, ht⟩)⟩
theorem sg_cons {st : Stmt} {r : List Stmt} {t u : TGn} (a : Sg X (exec st X.env) t) (b : Sg X (execs r X.env) u) : Sg X (execs (st :: r) X.env) (tGThen t u) := by
  refine ⟨fun A J ad R n ys s₀ c fs K B gd lv s σ H D cs sp hJ hn k j I ht => seg_execs_cons ?_⟩
  refine a.run A J ad R n ys s₀ c fs _ B gd lv s σ H { D with nx := fun ys' σ' H' => u D ys' σ' H' } cs sp hJ hn (fun n' ys' s₀' s' f hn' q => ?_) j I ht
  obtain ⟨cs', j', q⟩ := q
  cases f with
  | next =>
    obtain ⟨σ', H', I', q⟩ := q
    exact b.run A J ad R n' ys' s₀' c fs K B gd lv s' σ' H' D cs' sp hJ hn' k j' I' q
  | brk => exact k n' ys' s₀' s' .brk hn' ⟨cs', j', q⟩
  | cont => exact k n' ys' s₀' s' .cont hn' ⟨cs', j', q⟩
  | ret v => exact k n' ys' s₀' s' (.ret v) hn' ⟨cs', j', q⟩
theorem sg_one {st : Stmt} {t : TGn} (a : Sg X (exec st X.env) t) : Sg X (execs [st] X.env) (tGThen t tG0) := sg_cons a sg_nil
def tGIf (c : TT) (t u : TGn) : TGn := fun D ys σ H => c σ H fun b H1 => if b = true then t D ys σ H1 else u D ys σ H1
theorem sg_if {c : Expr} {a b : List Stmt} {pos : Pos} {tc : TT} {t u : TGn} (hc : PT X c tc) (ha : Sg X (execs a X.env) t) (hb : Sg X (execs b X.env) u) : Sg X (exec (.If c a b pos) X.env) (tGIf tc t u) := by
  refine ⟨fun A J ad R n ys s₀ cd fs K B gd lv s σ H D cs sp hJ hn k j I ht => ?_⟩
  rw [exec_If]
  refine seg_bind_wrap (wpAny_standAt (seg_bind_wrap ?_))
  rw [sp.over]
  refine wpAny_mono (hc.run cs s σ H _ I ht) (fun d s' q => ?_) fun e s' q => (sp.calm e s' q).elim
  obtain ⟨H1, I1, q⟩ := q
  cases d with
  | true => exact ha.run A J ad R n ys s₀ cd fs K B gd lv s' σ H1 D cs sp hJ hn k j I1 q
  | false => exact hb.run A J ad R n ys s₀ cd fs K B gd lv s' σ H1 D cs sp hJ hn k j I1 q
theorem sg_yield {e : Expr} {yp pos : Pos} {te : TE} (he : PE X e te) (hco : X.env.scope.isCoroutine = false := by rfl) (hi : interactive X.env = false := by rfl) : Sg X (exec (.Expr (.Yield (some e) yp) pos) X.env) (tGYield te) := by
  refine ⟨fun A J ad R n ys s₀ c fs K B gd lv s σ H D cs sp hJ hn k j I ht => ?_⟩
  obtain ⟨hlt, ht⟩ := ht
  obtain ⟨m, rfl⟩ : ∃ m, n = m + 1 := ⟨n - 1, by omega⟩
  refine seg_Expr_Yield sp.split sp.gd sp.bare ?_ hco hi
  rw [sp.over]
  refine wpAny_mono (he.run cs s σ H _ I ht) (fun v s' q => ?_) fun e s' q => (sp.calm e s' q).elim
  obtain ⟨x, H1, I1, rv, q⟩ := q
  intro kap hk
  refine ⟨ys, x, cs, σ, H1, hn, rv, j, I1, fun s2 ds j2 z => hk .none s2 ?_⟩
  exact k m (ys ++ [x]) s2 s2 .next (by rw [List.length_append, List.length_singleton]; omega) ⟨ds, j2, σ, H1, awake hJ sp.away sp.own I1 j j2 z, q⟩
theorem sg_while {test : Expr} {body : List Stmt} {pos : Pos} {tc : TT} {tb : TGn} (hc : PT X test tc) (hb : Sg X (execs body X.env) tb) : Sg X (exec (.While test body [] pos) X.env) (tGWhile tc tb) := by
  refine ⟨fun A J ad R n ys s₀ c fs K B gd lv s σ H D cs sp hJ hn k j I ht => ?_⟩
  obtain ⟨W, ⟨m0, w0⟩, turn⟩ := ht
  refine seg_While fun p => ?_
  have spot : ∀ (kk : Result → Sem PySem.Fin), Spot X ad A (.whileLoop test body [] X.env) (.ret kk none (gd false) (lv []) c p [] :: fs) id := fun kk =>
    { away := sp.away, own := sp.own, calm := sp.calm, over := (over_loop rfl rfl).trans sp.over
      split := by
        show (splitAtGen fs).map _ = none
        rw [sp.split]
        rfl
      bare := by
        show (gd false || fs.any Frame.guarded) = false
        rw [sp.gd, sp.bare]
        rfl
      gd := rfl }
  generalize hkk : (fun (r : Result) => Sem.wrap K B gd lv (Sem.onRaise (match r with | .ok f => (.pure f : Sem Flow) | .error e => .raise e) fun (x : Value) => do
        if (← field x 1) == Value.none then unsupported "frame.own-activation:exception-without-traceback"
        setFlight x X.env.frame)) = kk
  have kok : ∀ f, kk (.ok f) = K f := fun f => by
    rw [← hkk]
    rfl
  clear hkk
  have go : ∀ (m n : Nat) (ys : List V) (s₀ s : Shared) (σ : L2.St) (H : Hp) (cs : List (Addr × Obj)), n + ys.length = sizeLine → W m ys σ H → J ys cs → Inv X cs σ H s →
      Seg (model X.prog X.w) A R (Out X J ad) n s₀ (.whileLoop test body [] X.env) ((model X.prog X.w).den (.whileLoop test body [] X.env)) (.ret kk none (gd false) (lv []) c p [] :: fs) s := by
    intro m
    induction m using Nat.strongRecOn with
    | ind m ih =>
      intro n ys s₀ s σ H cs hn w j I
      refine seg_whileLoop ?_
      rw [(spot kk).over]
      refine wpAny_mono (hc.run cs s σ H _ I (turn m ys σ H w)) (fun b s' q => ?_) fun e s' q => (sp.calm e s' q).elim
      obtain ⟨H2, I2, q⟩ := q
      cases b with
      | true =>
        obtain ⟨N, hN, q⟩ := q
        rw [if_pos rfl]
        refine hb.run A J ad R n ys s₀ _ _ _ _ id id s' σ H2 { D with nx := N, ct := N, bk := D.nx } cs (spot kk) hJ hn (fun n' ys' s₀' s3 f hn' z => ?_) j I2 q
        obtain ⟨cs', j', z⟩ := z
        cases f with
        | next =>
          obtain ⟨σ3, H3, I3, z⟩ := z
          obtain ⟨m', hm, w'⟩ := hN ys' σ3 H3 z
          exact seg_again rfl (ih m' hm n' ys' s₀' s3 σ3 H3 cs' hn' w' j' I3)
        | cont =>
          obtain ⟨σ3, H3, I3, z⟩ := z
          obtain ⟨m', hm, w'⟩ := hN ys' σ3 H3 z
          exact seg_again rfl (ih m' hm n' ys' s₀' s3 σ3 H3 cs' hn' w' j' I3)
        | brk => exact seg_leaf (.ok .next) (by rw [kok]; exact k n' ys' s₀' s3 .next hn' ⟨cs', j', z⟩)
        | ret v => exact seg_leaf (.ok (.ret v)) (by rw [kok]; exact k n' ys' s₀' s3 (.ret v) hn' ⟨cs', j', z⟩)
      | false =>
        rw [if_neg Bool.false_ne_true]
        exact seg_execs_nil (seg_leaf (.ok .next) (by rw [kok]; exact k n ys s₀ s' .next hn ⟨cs, j, σ, H2, I2, q⟩))
  exact go m0 n ys s₀ s σ H cs hn w0 j I
end
end Gn
namespace Gn
open PySem PySem.Spec PyProof.Rows L2 GenW
/-- what a generator def promises: arguments, heap, what is wanted of all that comes and of the heap at the end -/
abbrev SpN := List V → Hp → (List V → Hp → Prop) → Prop
def ctx (P : Program) (w : World) (K : PySem.W.Frag) (mg : Str → Option Value) (base : Heap) (N : List Str) (qual : Str) (scope : Scope) (f : Addr) (cd : Value) (A : Around) (outer : List Env) (s : Shared) (H : Hp) (pn : List (Addr × Obj)) : Cx :=
  { cxOf (fun _ _ _ _ _ _ => False) P w K mg base N qual scope f cd A outer s H (fun _ _ _ => False) with pn := pn, xe := fun _ _ => False }
/-- it has come to its end -/
def Done (P : Program) (w : World) (outer : List Env) (H : Hp) (s : Shared) (J : Hold) (Q : List V → Hp → Prop) (b : Shared) : Prop :=
  ∃ H' ys cs, b.os = s.os ∧ AllBare b.gens ∧ Un (frs outer) [] H H' s.heap b.heap ∧ HOk P w H' b.heap ∧ J ys cs ∧ (∀ p ∈ cs, H' p.1 = none ∧ b.heap.get? p.1 = some p.2) ∧ ys.length ≤ sizeLine ∧ Q ys H'
def Stop (P : Program) (w : World) (outer : List Env) (H : Hp) (s : Shared) (J : Hold) (Q : List V → Hp → Prop) : GenEnd := fun _ _ r b =>
  ((r = .ok (.ret .none) ∨ r = .ok .next) ∧ Done P w outer H s J Q b) ∨ ∃ e, r = .error e ∧ False
def Item (s : Shared) (J : Hold) (ad : List Addr) (a : Addr) (g : Nat) : Protocol := fun n _ v b kap =>
  b.os = s.os ∧ AllBare b.gens ∧ b.heap.NoLimit ∧ b.heap.IsGen a g ∧ ∃ ys x cs, RelV x v ∧ n + 1 + ys.length = sizeLine ∧ J ys cs ∧ (∀ p ∈ cs, b.heap.get? p.1 = some p.2) ∧
    ∀ c ds, J (ys ++ [x]) ds → Idle ad ds b c → kap (.send .none) c
/-- called, it stands at its beginning -/
def Made (P : Program) (w : World) (k : Nat) (outer : List Env) (H : Hp) (s : Shared) (Q : List V → Hp → Prop) (u : Value) (b : Shared) : Prop :=
  ∃ (a : Addr) (g : Nat) (c : Code), u = .ref a ∧ s.heap.objs.size ≤ a ∧ a < b.heap.objs.size ∧ b.heap.IsGen a g ∧ b.gens[g]? = some (.fresh c) ∧ b.os = s.os ∧ AllBare b.gens ∧ b.heap.NoLimit ∧ (∀ x o, s.heap.get? x = some o → b.heap.get? x = some o) ∧
    ∀ (A : Around) (J : Hold) (ad : List Addr) (cs : List (Addr × Obj)) (d : Shared), Room k A → A.frames = some outer → HoldAt J ad → (∀ x ∈ ad, b.heap.objs.size ≤ x) → (∀ x o, b.heap.get? x = some o → d.heap.get? x = some o) → J [] cs → (∀ p ∈ cs, d.heap.get? p.1 = some p.2) → d.os = s.os → AllBare d.gens →
      Seg (model P w) A (Stop P w outer H s J Q) (Item s J ad a g) sizeLine d c ((model P w).den c) [] d
structure GDef (P : Program) (w : World) (K : PySem.W.Frag) (mg : Str → Option Value) (base : Heap) (k : Nat) (f : Addr) (fd : FuncData) (ps : List Str) (sp : SpN) : Prop where
  len : ∀ vs H Q, sp vs H Q → vs.length = ps.length
  run : ∀ (A : Around) (outer : List Env) (s : Shared) (H : Hp) (args : Args) (us : List Value) (vs : List V) (Q : List V → Hp → Prop), Room k A → Env0 P w K mg base A outer s H → BindsTo s fd args (ps.zip us) → Vals vs us → sp vs H Q →
    codeAny (model P w) A (.call (.ref f) args) (fun r b => match r with | .ok (.ret u) => Made P w k outer H s Q u b | _ => False) s

theorem begun {P : Program} {w : World} {K : PySem.W.Frag} {mg : Str → Option Value} {base : Heap} {N ps : List Str} {qual : Str} {scope : Scope} {f : Addr} {cd : Value} {A : Around} {outer : List Env} {s s1 : Shared} {H : Hp} {us : List Value} {vs : List V}
    (S : GScope N ps scope) (hd : A.handled = none) (e0 : Env0 P w K mg base A outer s H) (hl : vs.length = ps.length) (r : Vals vs us)
    (x : InCallC s s.heap.objs.size (bindL (envOfC qual scope s.heap.objs.size f cd).kindOf (ps.zip us) fun _ => none) (cellsFrom (s.heap.objs.size + 1) scope.names []) (bindC (envOfC qual scope s.heap.objs.size f cd).kindOf (ps.zip us) fun _ => none) s1) :
    Inv (ctx P w K mg base N qual scope f cd A outer s H []) [] (start N vs) H s1 := by
  have I := inv_startG (E := fun _ _ _ => False) S hd e0 hl r x
  exact ⟨⟨I.ok.mod, I.ok.kind, I.ok.glob, I.ok.blt, I.ok.above, I.ok.inj, I.ok.has, I.ok.cab, I.ok.hd, I.ok.frames, I.ok.stk, I.ok.exf, I.ok.bs, I.ok.bsz, I.ok.noex, I.ok.exfs, I.ok.funs, I.ok.frf⟩, I.os, I.bare, I.base, I.loc, I.cell, I.free, I.freeC, I.pin, I.hok, I.len⟩
theorem more_pins {P : Program} {w : World} {K : PySem.W.Frag} {mg : Str → Option Value} {base : Heap} {N : List Str} {qual : Str} {scope : Scope} {f : Addr} {cd : Value} {A : Around} {outer : List Env} {s b : Shared} {H H' : Hp} {pn pins : List (Addr × Obj)} {σ : L2.St}
    (I : Inv (ctx P w K mg base N qual scope f cd A outer s H []) [] σ H' b) (h : ∀ p ∈ pn ++ pins, b.heap.get? p.1 = some p.2 ∧ H' p.1 = none ∧ p.1 ≠ (envOfC qual scope s.heap.objs.size f cd).locals ∧ p.1 ∉ frs outer ∧ ∀ v, p.2.data ≠ .cell v) :
    Inv (ctx P w K mg base N qual scope f cd A outer s H pn) pins σ H' b :=
  ⟨⟨I.ok.mod, I.ok.kind, I.ok.glob, I.ok.blt, I.ok.above, I.ok.inj, I.ok.has, I.ok.cab, I.ok.hd, I.ok.frames, I.ok.stk, I.ok.exf, I.ok.bs, I.ok.bsz, I.ok.noex, I.ok.exfs, I.ok.funs, I.ok.frf⟩, I.os, I.bare, I.base, I.loc, I.cell, I.free, I.freeC, h, I.hok, I.len⟩

/-- a generator def by its body -/
theorem gdef_of {P : Program} {w : World} {K : PySem.W.Frag} {mg : Str → Option Value} {base : Heap} {k : Nat} {f : Addr} {name qual : Str} {params : Arguments} {body : List Stmt} {scope : Scope} {dV kV doc pm cdv ct oc : Value} {an od : Option Addr} {osl : Array (Option Value)} {N ps : List Str} {sp : SpN}
    (lk : K.lookup f = some ⟨oc, od, .func (PySem.W.fnOf name qual params body scope dV kV doc pm an cdv ct), osl⟩) (hcd : PySem.W.codeIn K cdv qual = true) (S : GScope N ps scope) (len : ∀ vs H Q, sp vs H Q → vs.length = ps.length)
    (hbody : ∀ (A : Around) (outer : List Env) (s : Shared) (H : Hp) (vs : List V) (Q : List V → Hp → Prop) (pn : List (Addr × Obj)), Room k (A.deeper (envOfC qual scope s.heap.objs.size f cdv)) → sp vs H Q →
      ∃ t, Sg (ctx P w K mg base N qual scope f cdv A outer s H pn) (execs body (ctx P w K mg base N qual scope f cdv A outer s H pn).env) t ∧ t { nx := fun ys _ H' => ys.length ≤ sizeLine → Q ys H', rt := fun ys v H' => v = .non ∧ Q ys H' } [] (start N vs) H) :
    GDef P w K mg base (k + 1) f (PySem.W.fnOf name qual params body scope dV kV doc pm an cdv ct) ps sp := by
  refine ⟨len, fun A outer s H args us vs Q hr e0 hb r hsp => ?_⟩
  have KX : K.In s.heap := e0.mod.kin.keeps fun b o e => (e0.bs b o e).1
  have lim : s.heap.NoLimit := e0.mod.nolimit.keeps fun b o e => (e0.bs b o e).1
  have hkind : ∀ y ∈ ps.zip us, scope.names.lookup y.1 = some .local ∨ (scope.names.lookup y.1 = some .cell ∧ ((cellsFrom (s.heap.objs.size + 1) scope.names []).lookup y.1).isSome = true) := fun y hy => by
    obtain ⟨y1, y2⟩ := y
    rcases S.par y1 (List.of_mem_zip hy).1 with q | q
    · exact .inl q
    · exact .inr ⟨q, PySem.W.cellsFrom_some _ _ _ (.inl q)⟩
  refine codeAny_call_generator hr.depth (KX _ _ lk) rfl S.co S.gen rfl (PySem.W.codeRec_of KX hcd) (hb _ _ _ _ ?_)
  refine wpAny_newFunctionEnv_cells S.kind hkind fun env he s1 x => ?_
  subst he
  have kp1 : ∀ b o, s.heap.get? b = some o → s1.heap.get? b = some o := x.toInCall.keep
  have lim1 : s1.heap.NoLimit := lim.keeps kp1
  refine ⟨lim1, ?_⟩
  obtain ⟨_, _, es1, _⟩ := x.done
  have os1 : s1.os = s.os := by rw [es1]
  have gen1 : s1.gens = s.gens := by rw [es1]
  have lt1 : s.heap.objs.size < s1.heap.objs.size := x.toInCall.ns.lt
  have main : ∀ (go : Obj) (nm qn : Value) (tk : Nat), go.cls = .type "generator" → go.data = .fields #[.int s1.gens.size 0, nm, qn] → go.slots = #[] → (∀ h : Heap, (h.push go).get? h.objs.size = some go) →
      Made P w (k + 1) outer H s Q (.ref s1.heap.objs.size) { s1 with gens := s1.gens.push (.fresh (.func body (envOfC qual scope s.heap.objs.size f cdv))), toks := tk, heap := s1.heap.push go } := by
    intro go nm qn tk gc gd gs gp
    have isg : ∀ h : Heap, h.get? s1.heap.objs.size = some go → h.IsGen s1.heap.objs.size s1.gens.size := fun h e => ⟨go, nm, qn, e, gc, gd, gs⟩
    refine ⟨s1.heap.objs.size, s1.gens.size, _, rfl, Nat.le_of_lt lt1, ?_, isg _ (gp _), Array.getElem?_push_size .., os1, AllBare.push (by rw [gen1]; exact e0.bare) rfl, lim1.keeps fun b o e => Heap.get?_push_of_some _ e, fun b o e => Heap.get?_push_of_some _ (kp1 b o e), ?_⟩
    · show _ < (s1.heap.push go).objs.size
      rw [Heap.size_push]
      exact Nat.lt_succ_self _
    intro Aw J ad cs s2 rw' fr hJ hyoung hk2 j0 hc os2 ba2
    have e0w : Env0 P w K mg base Aw outer s H := ⟨fr, e0.mod, e0.bs, e0.bsz, e0.funs, e0.frf, e0.hok, e0.bare⟩
    generalize hpn : [(s1.heap.objs.size, go)] = pn
    obtain ⟨t, ht, hq⟩ := hbody Aw outer s H vs Q pn (rw'.deeper _) hsp
    have I1 := begun S rw'.hd e0w (len _ _ _ hsp) r x
    have I2 : Inv (ctx P w K mg base N qual scope f cdv Aw outer s H []) [] (start N vs) H s2 :=
      I1.call' (ch := []) (os2.trans os1.symm) (Un.kept fun b o e => hk2 b o (Heap.get?_push_of_some _ e)) (I1.hok.kept fun b o e => hk2 b o (Heap.get?_push_of_some _ e)) ba2 fun b z => by simp at z
    have young : ∀ b, s1.heap.objs.size ≤ b → H b = none ∧ b ≠ s.heap.objs.size ∧ b ∉ frs outer ∧ s.heap.objs.size ≤ b ∧ ∀ y c, (cellsFrom (s.heap.objs.size + 1) scope.names []).lookup y = some c → c ≠ b := fun b hb => by
      refine ⟨I1.hok.fresh hb, Nat.ne_of_gt (Nat.lt_of_lt_of_le lt1 hb), I1.nofs hb, Nat.le_trans (Nat.le_of_lt lt1) hb, fun y c e z => ?_⟩
      obtain ⟨v, ob, ho, _⟩ := I1.cell y c e
      have lt := Heap.lt_size ho
      rw [z] at lt
      exact Nat.lt_irrefl _ (Nat.lt_of_lt_of_le lt hb)
    have hsz : ∀ y ∈ ad, s1.heap.objs.size < y := fun y hy => by
      have q : (s1.heap.push go).objs.size ≤ y := hyoung y hy
      rw [Heap.size_push] at q
      exact q
    have hcs : ∀ p ∈ cs, p.1 ∈ ad := fun p hp => by
      rw [← hJ.here j0]
      exact List.mem_map_of_mem hp
    have I3 : Inv (ctx P w K mg base N qual scope f cdv Aw outer s H pn) cs (start N vs) H s2 := more_pins I2 fun p hp => by
      rcases List.mem_append.mp hp with z | z
      · rw [← hpn] at z
        rw [List.mem_singleton.mp z]
        have y := young s1.heap.objs.size (Nat.le_refl _)
        exact ⟨hk2 _ go (gp _), y.1, y.2.1, y.2.2.1, fun v q => by rw [gd] at q; cases q⟩
      · have y := young p.1 (Nat.le_of_lt (hsz _ (hcs p z)))
        exact ⟨hc p z, y.1, y.2.1, y.2.2.1, hJ.flat j0 p z⟩
    have spot : Spot (ctx P w K mg base N qual scope f cdv Aw outer s H pn) ad Aw (.func body (envOfC qual scope s.heap.objs.size f cdv)) [] id :=
      { away := fun y hy => by
          have z := young y (Nat.le_of_lt (hsz y hy))
          exact ⟨z.2.2.2.1, z.2.1, z.2.2.2.2⟩
        own := fun p hp hy => by
          have hp : p ∈ pn := hp
          rw [← hpn] at hp
          rw [List.mem_singleton.mp hp] at hy
          exact Nat.lt_irrefl _ (hsz _ hy)
        calm := fun _ _ q => q, over := over_func, split := rfl, bare := rfl, gd := rfl }
    have still : ∀ {cs' : List (Addr × Obj)} {s' : Shared} {σ' : L2.St} {H' : Hp}, Inv (ctx P w K mg base N qual scope f cdv Aw outer s H pn) cs' σ' H' s' → s'.heap.IsGen s1.heap.objs.size s1.gens.size := fun {cs' s' σ' H'} I => by
      refine isg _ (I.pin (s1.heap.objs.size, go) (List.mem_append_left _ ?_)).1
      show _ ∈ pn
      rw [← hpn]
      exact List.mem_singleton.mpr rfl
    have closing : ∀ {n : Nat} {ys : List V} {cs' : List (Addr × Obj)} {s' : Shared} {σ' : L2.St} {H' : Hp}, n + ys.length = sizeLine → J ys cs' → Inv (ctx P w K mg base N qual scope f cdv Aw outer s H pn) cs' σ' H' s' → Q ys H' → Done P w outer H s J Q s' := fun {n ys cs' s' σ' H'} hn j I q =>
      ⟨H', ys, cs', I.os, I.bare, I.base, I.hok, j, fun p hp => ⟨(I.pin p (List.mem_append_right _ hp)).2.1, (I.pin p (List.mem_append_right _ hp)).1⟩, by omega, q⟩
    refine seg_func (seg_imp (R := Stop P w outer H s J Q) (Y := Out (ctx P w K mg base N qual scope f cdv Aw outer s H pn) J ad) (fun _ _ _ _ q => q) (fun n s₀ v s' kap kap' imp y => ?_) sizeLine ?_)
    · obtain ⟨ys, xx, cs', σ', H', hn, rv, j, I, up⟩ := y
      exact ⟨I.os, I.bare, I.nolimit, still I, ys, xx, cs', rv, hn, j, fun p hp => (I.pin p (List.mem_append_right _ hp)).1, fun c ds j2 z => imp _ _ (up c ds j2 z)⟩
    · refine ht.run Aw J ad _ sizeLine [] s2 _ [] _ _ id id s2 (start N vs) H _ cs spot hJ (Nat.add_zero _) (fun n ys s₀ s' fl hn q => ?_) j0 I3 hq
      obtain ⟨cs', j', q⟩ := q
      cases fl with
      | next =>
        obtain ⟨σ', H', I', q⟩ := q
        exact seg_end (.ok (.ret .none)) (.inl ⟨.inl rfl, closing hn j' I' (q (by omega))⟩)
      | brk => obtain ⟨_, _, _, q⟩ := q; exact False.elim q
      | cont => obtain ⟨_, _, _, q⟩ := q; exact False.elim q
      | ret u =>
        obtain ⟨v, σ', H', I', rv, ev, q⟩ := q
        subst ev
        have eu : u = Value.none := rv
        subst eu
        exact seg_end (.ok (.ret .none)) (.inl ⟨.inl rfl, closing hn j' I' q⟩)
  exact main _ _ _ _ rfl rfl rfl fun h => Heap.get?_push_size _ rfl
end Gn
namespace Gn
open PySem PySem.Spec PyProof.Rows L2 GenW
/-- an expression whose value is such a generator at its beginning -/
structure PGn (X : Cx) (k : Nat) (e : Expr) (tg : TGen) : Prop where
  run : ∀ (pins : List (Addr × Obj)) (s : Shared) (σ : L2.St) (H : Hp) (cont : List V → Hp → Prop), Inv X pins σ H s → tg σ H cont →
    wpAny (model X.prog X.w) X.A (eval e X.env) (fun u b => ∃ H1 sc, Inv X pins σ H1 sc ∧ Made X.prog X.w k X.stack H1 sc cont u b) X.xe s
def tGen (sp : SpN) (t : TA) : TGen := fun σ H cont => t σ H fun vs H1 => sp vs H1 cont
theorem pgn_call {X : Cx} {k : Nat} {f : Addr} {fd : FuncData} {ps : List Str} {sp : SpN} {x : Str} {p pos : Pos} {e : Expr} {es : List Expr} {t : TA} (F : GDef X.prog X.w X.K X.mg X.base k f fd ps sp) (hr : Room k X.A) (hg : Gl X x) (hm : X.mg x = some (.ref f)) (hk : PySem.W.keepIn X.K (.ref f) = true)
    (hb : Binds X.K fd ps []) (ha : PA X (e :: es) t) (hdb : (x == ("__debug__" : Str)) = false := by decide) (he : starEach (e :: es) X.env = (false, eval e X.env) :: starEach es X.env := by rfl) (hpl : (backTo pos (starEach es X.env)).any (·.1) = false := by rfl) :
    PGn X k (.Call (.Name x p) (e :: es) [] pos) (tGen sp t) := by
  refine ⟨fun pins s σ H cont I h => wpAny_Call_Name_kw (ld_glob I hg hm ?_ hdb)⟩
  refine PySem.W.callWith_K (h₀ := X.base) I.ok.mod.kin hk (thn (ha.run pos pins s σ H _ I h) fun us s1 q => ?_) he hpl
  obtain ⟨vs, H1, I1, r, q⟩ := q
  refine ⟨I1.kIn, ?_⟩
  have hl : (us ++ []).length = ps.length := by
    rw [List.append_nil, ← r.length]
    exact F.len _ _ _ q
  refine wpAny_call (codeAny_mono (F.run X.A X.stack s1 H1 ⟨us, []⟩ (us ++ []) vs cont hr I1.env0 (hb s1 us I1.kIn hl) (by rw [List.append_nil]; exact r) q) fun r s' z => ?_)
  cases r with
  | error e => exact False.elim z
  | ok fl =>
    cases fl with
    | ret u => exact ⟨H1, s1, I1, z⟩
    | next => exact False.elim z
    | brk => exact False.elim z
    | cont => exact False.elim z
/-- for list(..) of the layer -/
def Jl (S : Addr) : Hold := fun ys cs => ∃ acc c, cs = [(S, lstObj acc c)] ∧ Vals ys acc.toList
theorem holds_l (S : Addr) : HoldAt (Jl S) [S] := ⟨fun ⟨_, _, e, _⟩ => by rw [e]; rfl, fun ⟨_, _, e, _⟩ p hp v q => by
  rw [e] at hp
  rw [List.mem_singleton.mp hp] at q
  cases q⟩
theorem pgen_of {X : Cx} {k : Nat} {e : Expr} {tg : TGen} (h : PGn X k e tg) : PGen X k e tg (fun _ _ _ => False) := by
  refine ⟨fun pins s σ H cont I q => thn (h.run pins s σ H cont I q) fun u b z => ?_⟩
  obtain ⟨H1, sc, I1, a, g, c, eu, z1, z2, z3, z4, z5, z6, z7, z8, wake⟩ := z
  refine ⟨H1, sc, [], I1, .nil, a, g, c, eu, z1, z2, z3, z4, z5, z6, z7, z8, fun A S s2 hr hf hS kp hS2 os ba => ?_⟩
  obtain ⟨c0, e0⟩ := hS2
  refine seg_imp (fun n s₀ r b q => ?_) (fun n s₀ v b kap kap' imp y => ?_) sizeLine (wake A (Jl S) [S] [(S, lstObj #[] c0)] s2 hr hf (holds_l S) (fun x hx => by rw [List.mem_singleton.mp hx]; exact hS) kp ⟨_, _, rfl, .nil⟩ (fun p hp => by rw [List.mem_singleton.mp hp]; exact e0) os ba)
  · rcases q with ⟨hr, H', ys, cs, q1, q2, q3, q4, ⟨acc, cc, rfl, rv⟩, q6, q7, q8⟩ | ⟨_, _, q⟩
    · obtain ⟨q61, q62⟩ := q6 _ (List.mem_singleton.mpr rfl)
      exact .inl ⟨hr, H', ys, acc, cc, q1, q2, q3, q4, q61, q62, rv, q7, q8⟩
    · exact q.elim
  · obtain ⟨q1, q2, q3, q4, ys, x, cs, rv, hn, ⟨acc, cc, rfl, va⟩, own, up⟩ := y
    have eS : b.heap.get? S = some (lstObj acc cc) := own (S, _) (List.mem_singleton.mpr rfl)
    have hz : acc.size = ys.length := by
      rw [va.length, Array.length_toList]
    refine ⟨q1, q2, q3, q4, ⟨acc, cc, eS, by rw [hz]; exact hn⟩, fun d z => imp _ _ ?_⟩
    obtain ⟨c', e'⟩ := z.own acc cc eS
    refine up d [(S, lstObj (acc.push v) c')] ⟨_, _, rfl, ?_⟩ ⟨z.os, z.bare, fun x u hx e => z.keep x u (fun w => hx (List.mem_singleton.mpr w)) e, fun p hp => ?_⟩
    · rw [Array.toList_push]
      exact va.append (.cons rv .nil)
    · rw [List.mem_singleton.mp hp]
      exact e'
/-! [x for x in g(..)] -/
def Jc (D C : Addr) : Hold := fun ys cs => ∃ acc c ob es ep, cs = [(D, lstObj acc c), (C, ob)] ∧ Vals ys acc.toList ∧ ob.data = .dict es ep ∧ StrKeys es
theorem holds_c (D C : Addr) : HoldAt (Jc D C) [D, C] := ⟨fun ⟨_, _, _, _, _, e, _⟩ => by rw [e]; rfl, fun ⟨_, _, _, _, _, e, _, hd, _⟩ p hp v q => by
  rw [e] at hp
  rcases List.mem_cons.mp hp with hp | hp
  · rw [hp] at q
    cases q
  · rw [List.mem_singleton.mp hp] at q
    rw [hd] at q
    cases q⟩
theorem pe_lcG {X : Cx} {x : Str} {px pe pos : Pos} {iter : Expr} {scope : Scope} {k : Nat} {tg : TGen} (hc : X.calm = true) (hi : PGn X k iter tg) (hr : Room (k + 1) X.A) (hkind : scope.kind = .function) (hnf : ∀ y ∈ scope.names, y.2 ≠ .free) (huq : ∀ y ∈ scope.names, y.2 = .local → scope.names.lookup y.1 = some .local)
    (hx : scope.names.lookup x = some .local) (hdb : (x == ("__debug__" : Str)) = false := by decide) (hs : ∀ x, foldedSetIterable iter X.env x = pure x := by intro _; rfl) : PE X (.ListComp (.Name x pe) [⟨.Name x px, iter, [], 0⟩] scope pos) (tListG tg) := by
  refine ⟨fun pins s σ H Q I h => ?_⟩
  rw [eval_ListComp]
  refine wpAny_comprehension_free (use := none) rfl hs (closure_ok fun y hy e => absurd e (hnf y hy)) hkind huq (thn (hi.run pins s σ H _ I h) fun u s1 M => ?_)
  obtain ⟨H1, sc, I1, a, g, c, rfl, ha1, ha2, hg1, hgs1, os1, ba1, lim1, kp1, wake⟩ := M
  refine wpAny_pyIter_gen hg1 (wpAny_newObj_type (newEnv_comp ?_) (by show 0 ≤ sizeLine; decide))
  generalize hD : s1.heap.objs.size = D
  generalize hh2 : s1.heap.push { cls := .type "list", data := .seq ([] : List Value).toArray } = h2
  generalize hC : h2.objs.size = C
  have eCD : C = D + 1 := by rw [← hC, ← hh2, Heap.size_push, hD]
  have neq : D ≠ C := by rw [eCD]; exact Nat.ne_of_lt (Nat.lt_succ_self _)
  show codeAny _ _ (.compStart (.ListComp (.Name x pe) [⟨.Name x px, iter, [], 0⟩] scope pos) 0 (.ref a) (.ref D) (compEnvC scope (cellsFrom (C + 1) scope.names (cloFrom X.env.cells scope.names [])) C X.env)) (compPost (model X.prog X.w) X.A X.xe none (EP X pins σ Q) (.ref D) C) { s1 with heap := pushCells (h2.push { cls := .type "dict", data := .dict #[] }) scope.names }
  generalize hce : compEnvC scope (cellsFrom (C + 1) scope.names (cloFrom X.env.cells scope.names [])) C X.env = ce
  have cL : ce.locals = C := by rw [← hce]; rfl
  have cx : ce.kindOf x = some .local := by rw [← hce]; exact lookup_relabel_local hx
  have ck : ce.scope.kind = .function := by rw [← hce]; exact hkind
  generalize hh3 : pushCells (h2.push { cls := .type "dict", data := .dict #[] }) scope.names = h3
  have kp2 : ∀ b o, s1.heap.get? b = some o → h2.get? b = some o := fun b o e => by rw [← hh2]; exact Heap.get?_push_of_some _ e
  have kp3' : ∀ b o, h2.get? b = some o → h3.get? b = some o := fun b o e => by rw [← hh3]; exact pushCells_keeps _ _ _ _ (Heap.get?_push_of_some _ e)
  have kp3 : ∀ b o, s1.heap.get? b = some o → h3.get? b = some o := fun b o e => kp3' b o (kp2 b o e)
  have eD3 : h3.get? D = some (lstObj #[] 0) := kp3' _ _ (by rw [← hh2, ← hD]; exact Heap.get?_push_size _ rfl)
  have eC3 : h3.get? C = some { cls := .type "dict", data := .dict #[] } := by rw [← hh3, ← hC]; exact pushCells_keeps _ _ _ _ (Heap.get?_push_size _ rfl)
  have room : Room k X.A.in1 := ⟨hr.hd, by have := hr.dp; show X.A.depth + 3 * k + 5 < _; omega, by have := hr.un; show X.A.units + 1 + 16 * k + 200 < _; omega⟩
  have ge : ∀ y ∈ [D, C], s1.heap.objs.size ≤ y := fun y hy => by
    rcases List.mem_cons.mp hy with rfl | hy
    · exact Nat.le_of_eq hD
    · rw [List.mem_singleton.mp hy, eCD, hD]
      exact Nat.le_succ _
  have begin_ := wake X.A.in1 (Jc D C) [D, C] [(D, lstObj #[] 0), (C, { cls := .type "dict", data := .dict #[] })] (({ s1 with heap := h3 } : Shared).setGen g .running) room I1.ok.frames (holds_c D C) ge kp3
    ⟨_, _, _, _, _, rfl, .nil, rfl, fun i hi => absurd hi (by simp)⟩ (fun p hp => by
      rcases List.mem_cons.mp hp with hp | hp
      · rw [hp]
        exact eD3
      · rw [List.mem_singleton.mp hp]
        exact eC3) os1 (allBare_setGen (s := { s1 with heap := h3 }) ba1 rfl)
  let St : Nat → Shared → Prop := fun n b => b.heap.IsGen a g ∧ b.heap.NoLimit ∧ ∃ gs, b.gens[g]? = some gs ∧ gs.Goes (model X.prog X.w) X.A.in1 (Stop X.prog X.w X.stack H1 sc (Jc D C) fun out H2 => ∀ p, H2 p = none → Q (.ref p) (upd H2 p (.lst out))) (Item sc (Jc D C) [D, C] a g) n (.send .none) (b.setGen g .running)
  have loop : codeAny (model X.prog X.w) X.A (.compLoop (.ListComp (.Name x pe) [⟨.Name x px, iter, [], 0⟩] scope pos) 0 (.ref a) (.ref D) ce) (compPost (model X.prog X.w) X.A X.xe none (EP X pins σ Q) (.ref D) C) { s1 with heap := h3 } := by
    refine codeAny_compLoop_list St ?_ sizeLine ⟨hg1.keeps kp3, lim1.keeps kp3, _, hgs1, rfl, begin_⟩
    rintro n s5 ⟨hg5, lim5, gs, hgs5, go⟩
    have hlt : g < s5.gens.size := (Array.getElem?_eq_some_iff.mp hgs5).1
    refine wpAny_gsz (n := g + 1) hlt (next_genG (A := X.A) (n := n) (F := fun _ _ b => Done X.prog X.w X.stack H1 sc (Jc D C) (fun out H2 => ∀ p, H2 p = none → Q (.ref p) (upd H2 p (.lst out))) b) (Er := fun _ _ => False) (Y := Item sc (Jc D C) [D, C] a g) (I1.ok.hd hc) lim5 (by have := hr.dp; omega) hg5 hgs5 go
      (fun v s6 gs' hbare y => ?_) (fun s6 dn h' hk => ?_) fun e s6 q => q.elim)
    · intro hsz
      obtain ⟨os6, ba6, lim6, hg6, ys, xv, cs, rv, hn6, ⟨acc, cc, ob, es, ep, rfl, va, hob, sk⟩, own, up⟩ := y
      have eD : s6.heap.get? D = some (lstObj acc cc) := own (D, _) List.mem_cons_self
      have eC : s6.heap.get? C = some ob := own (C, ob) (List.mem_cons_of_mem _ (List.mem_singleton.mpr rfl))
      have hz : acc.size = ys.length := by rw [va.length, Array.length_toList]
      have hns : (s6.setGen g gs').heap.Ns ce.locals (nsFind es) := by
        rw [cL]
        exact ⟨ob, es, ep, eC, hob, sk, fun _ => rfl⟩
      have hsz6 : g < s6.gens.size := by
        have q : (s6.setGen g gs').gens.size = s6.gens.size := setGen_size _ _ _
        have q2 : g + 1 ≤ (s6.setGen g gs').gens.size := hsz
        omega
      refine wpAny_assign_Name (wpAny_storeName_local (m := nsFind es) cx hns (fun h7 hn7 sb7 => ?_) (by rw [ck]; rfl))
      rw [cL] at sb7
      rw [PySem.eval_Name (env := ce) x pe hdb]
      refine wpAny_bind (wpAny_standAt (wpAny_loadName_local ck cx hn7 (v := v) (by simp) ?_))
      rw [cL] at hn7
      have eD7 : h7.get? D = some (lstObj acc cc) := (sb7.2 D neq).trans eD
      refine append_at (hsz := by omega) eD7 fun h8 sb8 eD8 => ?_
      obtain ⟨o8, es8, ep8, ho8, hd8, sk8, _⟩ := hn7.sameBut sb8 (Ne.symm neq)
      have kp8 : ∀ b o, b ∉ [D, C] → s6.heap.get? b = some o → h8.get? b = some o := fun b o hb e => (sb8.2 b fun z => hb (by rw [z]; exact List.mem_cons_self)).trans ((sb7.2 b fun z => hb (by rw [z]; exact List.mem_cons_of_mem _ List.mem_cons_self)).trans e)
      have gone : a ∉ [D, C] := fun z => Nat.lt_irrefl _ (Nat.lt_of_lt_of_le ha2 (ge a z))
      have stat : cStatics ∉ [D, C] := fun z => by
        obtain ⟨mc, hnc, _⟩ := lim1
        exact Nat.lt_irrefl _ (Nat.lt_of_lt_of_le hnc.lt (ge _ z))
      have next_ := up (({ s6.setGen g gs' with heap := h8, toks := (s6.setGen g gs').toks + 1 } : Shared).setGen g .running) [(D, lstObj (acc.push v) (cc + 1)), (C, o8)]
        ⟨_, _, _, _, _, rfl, by rw [Array.toList_push]; exact va.append (.cons rv .nil), hd8, sk8⟩ ⟨rfl, allBare_setGen (s := { s6.setGen g gs' with heap := h8, toks := (s6.setGen g gs').toks + 1 }) (allBare_setGen ba6 hbare) rfl, kp8, fun p hp => by
          rcases List.mem_cons.mp hp with hp | hp
          · rw [hp]
            exact eD8
          · rw [List.mem_singleton.mp hp]
            exact ho8⟩
      cases n with
      | zero => exact False.elim next_
      | succ m =>
        refine ⟨m, Nat.lt_succ_self m, ?_, ?_, gs', setGen_at hsz6, next_⟩
        · obtain ⟨o, nm, qn, ho, r⟩ := hg6
          exact ⟨o, nm, qn, kp8 a o gone ho, r⟩
        · obtain ⟨mc, hnc, hnn⟩ := lim6
          exact ⟨mc, hnc.at' fun o e => kp8 _ o stat e, hnn⟩
    · intro _
      obtain ⟨H', ys, cs, d1, d2, d3, d4, ⟨acc, cc, ob, es, ep, rfl, va, hob, sk⟩, own, hle, hq⟩ := dn
      obtain ⟨nD, eD⟩ := own (D, _) List.mem_cons_self
      obtain ⟨nC, eC⟩ := own (C, ob) (List.mem_cons_of_mem _ (List.mem_singleton.mpr rfl))
      have szD : sc.heap.objs.size ≤ D := by rw [← hD]; exact Nat.le_trans ha1 (Nat.le_of_lt ha2)
      have I2 := I1.drained (s' := { s6.setGen g .finished with heap := h' }) szD hle (hk _ _ eD) va .nil d1 (allBare_setGen d2 rfl) (d3.trans (Un.kept hk)) (d4.kept hk) nD
      refine ⟨nsFind es, ⟨ob, es, ep, hk _ _ eC, hob, sk, fun _ => rfl⟩, fun h9 sb9 => ?_⟩
      obtain ⟨f0, f1, f2, f3, f4, f5⟩ := I1.fpOk (H' := upd H' D (.lst ys)) (b := C) (by rw [eCD]; exact Nat.le_succ_of_le szD) (by rw [upd_ne (Ne.symm neq)]; exact nC)
      exact ⟨.ref D, _, I2.turned (t' := s6.toks) (fun b o hb e => (sb9.2 b hb).trans e) f0 f1 f3 f4 f5, rfl, hq D nD⟩
  exact codeAny_compStart_list loop (wpAny_pyIter_gen (hg1.keeps kp3) loop)
theorem no_pass {X : Cx} : Passes (L2.CX X.prog X.w) X (fun _ _ _ => False) := fun _ _ _ _ _ _ _ c => by
  obtain ⟨_, _, _, _, _, _, _, _, _, _, _, _, h⟩ := c
  exact h.elim
theorem no_stop {K : PySem.W.Frag} : NoStop K (fun _ _ _ => False) := fun _ _ _ h => h.elim
end Gn
end
def topS (i : Nat) : Stmt := PySem.Challenge.pw_polychains_k04_whole_spaces.main.body.getD i (.Pass ⟨0, 0, 0, 0⟩)
abbrev s_is_integer : Stmt := topS 4
abbrev N_is_integer : List Str := ["value"]
theorem sc_is_integer : FnScope N_is_integer ["value"] (defScope s_is_integer) := ⟨rfl, rfl, rfl, by decide +kernel, rfl, by decide +kernel, by decide +kernel⟩
abbrev s_power : Stmt := topS 5
abbrev N_power : List Str := ["a", "k", "result"]
theorem sc_power : FnScope N_power ["a", "k"] (defScope s_power) := ⟨rfl, rfl, rfl, by decide +kernel, rfl, by decide +kernel, by decide +kernel⟩
abbrev s_inverse : Stmt := topS 6
abbrev N_inverse : List Str := ["a", "p", "remainder"]
theorem sc_inverse : FnScope N_inverse ["a", "p"] (defScope s_inverse) := ⟨rfl, rfl, rfl, by decide +kernel, rfl, by decide +kernel, by decide +kernel⟩
abbrev s_is_row : Stmt := topS 8
abbrev N_is_row : List Str := ["value", "p", "n", "item"]
theorem sc_is_row : FnScope N_is_row ["value", "p", "n"] (defScope s_is_row) := ⟨rfl, rfl, rfl, by decide +kernel, rfl, by decide +kernel, by decide +kernel⟩
abbrev s_add : Stmt := topS 9
abbrev N_add : List Str := ["v", "w", "p", "x", "y"]
theorem sc_add : FnScope N_add ["v", "w", "p"] (defScope s_add) := ⟨rfl, rfl, rfl, by decide +kernel, rfl, by decide +kernel, by decide +kernel⟩
abbrev s_scaled : Stmt := topS 10
abbrev N_scaled : List Str := ["v", "a", "p", "x"]
theorem sc_scaled : FnScope N_scaled ["v", "a", "p"] (defScope s_scaled) := ⟨rfl, rfl, rfl, by decide +kernel, rfl, by decide +kernel, by decide +kernel⟩
abbrev s_dot : Stmt := topS 11
abbrev N_dot : List Str := ["v", "w", "p", "x", "y"]
theorem sc_dot : FnScope N_dot ["v", "w", "p"] (defScope s_dot) := ⟨rfl, rfl, rfl, by decide +kernel, rfl, by decide +kernel, by decide +kernel⟩
abbrev s_combine : Stmt := topS 12
abbrev N_combine : List Str := ["rows", "weights", "width", "p", "total", "row", "weight"]
theorem sc_combine : FnScope N_combine ["rows", "weights", "width", "p"] (defScope s_combine) := ⟨rfl, rfl, rfl, by decide +kernel, rfl, by decide +kernel, by decide +kernel⟩
abbrev s__zeros : Stmt := topS 13
abbrev N__zeros : List Str := ["width"]
theorem sc__zeros : FnScope N__zeros ["width"] (defScope s__zeros) := ⟨rfl, rfl, rfl, by decide +kernel, rfl, by decide +kernel, by decide +kernel⟩
abbrev s__unit : Stmt := topS 14
abbrev N__unit : List Str := ["n", "at", "place"]
theorem sc__unit : FnScope N__unit ["n", "at"] (defScope s__unit) := ⟨rfl, rfl, rfl, by decide +kernel, rfl, by decide +kernel, by decide +kernel⟩
abbrev s__cleared : Stmt := topS 15
abbrev N__cleared : List Str := ["row", "lead", "at", "p"]
theorem sc__cleared : FnScope N__cleared ["row", "lead", "at", "p"] (defScope s__cleared) := ⟨rfl, rfl, rfl, by decide +kernel, rfl, by decide +kernel, by decide +kernel⟩
abbrev s__lead_at : Stmt := topS 16
abbrev N__lead_at : List Str := ["rows", "at", "p", "row"]
theorem sc__lead_at : FnScope N__lead_at ["rows", "at", "p"] (defScope s__lead_at) := ⟨rfl, rfl, rfl, by decide +kernel, rfl, by decide +kernel, by decide +kernel⟩
abbrev s_reduced : Stmt := topS 17
abbrev N_reduced : List Str := ["rows", "width", "p", "left", "table", "pivots", "at", "lead", "row"]
theorem sc_reduced : FnScope N_reduced ["rows", "width", "p"] (defScope s_reduced) := ⟨rfl, rfl, rfl, by decide +kernel, rfl, by decide +kernel, by decide +kernel⟩
abbrev s_span : Stmt := topS 18
abbrev N_span : List Str := ["rows", "width", "p", "table", "_"]
theorem sc_span : FnScope N_span ["rows", "width", "p"] (defScope s_span) := ⟨rfl, rfl, rfl, by decide +kernel, rfl, by decide +kernel, by decide +kernel⟩
abbrev s_kernel : Stmt := topS 19
abbrev N_kernel : List Str := ["rows", "width", "p", "table", "pivots", "found", "free", "solution", "row", "pivot"]
theorem sc_kernel : FnScope N_kernel ["rows", "width", "p"] (defScope s_kernel) := ⟨rfl, rfl, rfl, by decide +kernel, rfl, by decide +kernel, by decide +kernel⟩
abbrev s__columns : Stmt := topS 20
abbrev N__columns : List Str := ["rows", "width", "at", "row"]
theorem sc__columns : FnScope N__columns ["rows", "width"] (defScope s__columns) := ⟨rfl, rfl, rfl, by decide +kernel, rfl, by decide +kernel, by decide +kernel⟩
abbrev s_relations : Stmt := topS 21
abbrev N_relations : List Str := ["rows", "width", "p"]
theorem sc_relations : FnScope N_relations ["rows", "width", "p"] (defScope s_relations) := ⟨rfl, rfl, rfl, by decide +kernel, rfl, by decide +kernel, by decide +kernel⟩
abbrev s_sum_of : Stmt := topS 22
abbrev N_sum_of : List Str := ["a", "b", "width", "p"]
theorem sc_sum_of : FnScope N_sum_of ["a", "b", "width", "p"] (defScope s_sum_of) := ⟨rfl, rfl, rfl, by decide +kernel, rfl, by decide +kernel, by decide +kernel⟩
abbrev s_common_part : Stmt := topS 23
abbrev N_common_part : List Str := ["a", "b", "width", "p", "many", "pairs", "weights"]
theorem sc_common_part : FnScope N_common_part ["a", "b", "width", "p"] (defScope s_common_part) := ⟨rfl, rfl, rfl, by decide +kernel, rfl, by decide +kernel, by decide +kernel⟩
abbrev s_all_rows : Stmt := topS 24
abbrev N_all_rows : List Str := ["space", "width", "p", "row", "at"]
theorem sc_all_rows : GScope N_all_rows ["space", "width", "p"] (defScope s_all_rows) := ⟨rfl, rfl, rfl, by decide +kernel, rfl, by decide +kernel, by decide +kernel⟩
abbrev s__law_state : Stmt := topS 26
abbrev N__law_state : List Str := ["script", "seed", "total", "cell"]
theorem sc__law_state : FnScope N__law_state ["script"] (defScope s__law_state) := ⟨rfl, rfl, rfl, by decide +kernel, rfl, by decide +kernel, by decide +kernel⟩
abbrev s__law_take : Stmt := topS 27
abbrev N__law_take : List Str := ["state", "m", "value"]
theorem sc__law_take : FnScope N__law_take ["state", "m"] (defScope s__law_take) := ⟨rfl, rfl, rfl, by decide +kernel, rfl, by decide +kernel, by decide +kernel⟩
abbrev s__law_sum : Stmt := topS 28
abbrev N__law_sum : List Str := ["v", "w", "p", "k"]
theorem sc__law_sum : FnScope N__law_sum ["v", "w", "p"] (defScope s__law_sum) := ⟨rfl, rfl, rfl, by decide +kernel, rfl, by decide +kernel, by decide +kernel⟩
abbrev s__law_scaled : Stmt := topS 29
abbrev N__law_scaled : List Str := ["v", "a", "p", "x"]
theorem sc__law_scaled : FnScope N__law_scaled ["v", "a", "p"] (defScope s__law_scaled) := ⟨rfl, rfl, rfl, by decide +kernel, rfl, by decide +kernel, by decide +kernel⟩
abbrev s__law_zero : Stmt := topS 30
abbrev N__law_zero : List Str := ["n", "k"]
theorem sc__law_zero : FnScope N__law_zero ["n"] (defScope s__law_zero) := ⟨rfl, rfl, rfl, by decide +kernel, rfl, by decide +kernel, by decide +kernel⟩
abbrev s__law_element : Stmt := topS 31
abbrev N__law_element : List Str := ["state", "p", "n", "k"]
theorem sc__law_element : FnScope N__law_element ["state", "p", "n"] (defScope s__law_element) := ⟨rfl, rfl, rfl, by decide +kernel, rfl, by decide +kernel, by decide +kernel⟩
abbrev s__law_span : Stmt := topS 32
abbrev N__law_span : List Str := ["rows", "n", "p", "found", "row", "longer", "word", "a"]
theorem sc__law_span : FnScope N__law_span ["rows", "n", "p"] (defScope s__law_span) := ⟨rfl, rfl, rfl, by decide +kernel, rfl, by decide +kernel, by decide +kernel⟩
abbrev s__law_in_form : Stmt := topS 33
abbrev N__law_in_form : List Str := ["told", "n", "last", "i", "heads", "k", "j"]
theorem sc__law_in_form : FnScope N__law_in_form ["told", "n"] (defScope s__law_in_form) := ⟨rfl, rfl, rfl, by decide +kernel, rfl, by decide +kernel, by decide +kernel⟩
abbrev s__law_shows : Stmt := topS 34
abbrev N__law_shows : List Str := ["told", "words", "n", "p"]
theorem sc__law_shows : FnScope N__law_shows ["told", "words", "n", "p"] (defScope s__law_shows) := ⟨rfl, rfl, rfl, by decide +kernel, rfl, by decide +kernel, by decide +kernel⟩
abbrev s__law_prime : Stmt := topS 35
abbrev N__law_prime : List Str := ["state"]
theorem sc__law_prime : FnScope N__law_prime ["state"] (defScope s__law_prime) := ⟨rfl, rfl, rfl, by decide +kernel, rfl, by decide +kernel, by decide +kernel⟩
abbrev s__law_width : Stmt := topS 36
abbrev N__law_width : List Str := ["state", "p"]
theorem sc__law_width : FnScope N__law_width ["state", "p"] (defScope s__law_width) := ⟨rfl, rfl, rfl, by decide +kernel, rfl, by decide +kernel, by decide +kernel⟩
abbrev s__law_rows : Stmt := topS 37
abbrev N__law_rows : List Str := ["state", "p", "n", "most", "k"]
theorem sc__law_rows : FnScope N__law_rows ["state", "p", "n", "most"] (defScope s__law_rows) := ⟨rfl, rfl, rfl, by decide +kernel, rfl, by decide +kernel, by decide +kernel⟩
abbrev s__law_dot : Stmt := topS 38
abbrev N__law_dot : List Str := ["p", "v", "w", "k"]
theorem sc__law_dot : FnScope N__law_dot ["p", "v", "w"] (defScope s__law_dot) := ⟨rfl, rfl, rfl, by decide +kernel, rfl, by decide +kernel, by decide +kernel⟩
abbrev s__law_total : Stmt := topS 39
abbrev N__law_total : List Str := ["p", "rows", "weights", "n", "total", "k"]
theorem sc__law_total : FnScope N__law_total ["p", "rows", "weights", "n"] (defScope s__law_total) := ⟨rfl, rfl, rfl, by decide +kernel, rfl, by decide +kernel, by decide +kernel⟩
abbrev s__law_kinds : Stmt := topS 40
abbrev N__law_kinds : List Str := ["v", "n", "p", "wrong", "value"]
theorem sc__law_kinds : FnScope N__law_kinds ["v", "n", "p"] (defScope s__law_kinds) := ⟨rfl, rfl, rfl, by decide +kernel, rfl, by decide +kernel, by decide +kernel⟩
abbrev s_law : Stmt := topS 41
abbrev N_law : List Str := ["script", "state", "p", "n", "first", "second", "one", "two", "a", "b", "wide", "part", "v", "w", "c", "weights", "row"]
theorem sc_law : FnScope N_law ["script"] (defScope s_law) := ⟨rfl, rfl, rfl, by decide +kernel, rfl, by decide +kernel, by decide +kernel⟩
structure Txt (K : PySem.W.Frag) (mg : Str → Option Value) where
  a_is_integer : Addr
  d_is_integer : FuncData
  F_is_integer : Fun K "is_integer" "is_integer" s_is_integer a_is_integer d_is_integer
  g_is_integer : mg "is_integer" = some (.ref a_is_integer)
  b_is_integer : Binds K d_is_integer ["value"] []
  a_power : Addr
  d_power : FuncData
  F_power : Fun K "power" "power" s_power a_power d_power
  g_power : mg "power" = some (.ref a_power)
  b_power : Binds K d_power ["a", "k"] []
  a_inverse : Addr
  d_inverse : FuncData
  F_inverse : Fun K "inverse" "inverse" s_inverse a_inverse d_inverse
  g_inverse : mg "inverse" = some (.ref a_inverse)
  b_inverse : Binds K d_inverse ["a", "p"] []
  a_is_row : Addr
  d_is_row : FuncData
  F_is_row : Fun K "is_row" "is_row" s_is_row a_is_row d_is_row
  g_is_row : mg "is_row" = some (.ref a_is_row)
  b_is_row : Binds K d_is_row ["value", "p", "n"] []
  a_add : Addr
  d_add : FuncData
  F_add : Fun K "add" "add" s_add a_add d_add
  g_add : mg "add" = some (.ref a_add)
  b_add : Binds K d_add ["v", "w", "p"] []
  a_scaled : Addr
  d_scaled : FuncData
  F_scaled : Fun K "scaled" "scaled" s_scaled a_scaled d_scaled
  g_scaled : mg "scaled" = some (.ref a_scaled)
  b_scaled : Binds K d_scaled ["v", "a", "p"] []
  a_dot : Addr
  d_dot : FuncData
  F_dot : Fun K "dot" "dot" s_dot a_dot d_dot
  g_dot : mg "dot" = some (.ref a_dot)
  b_dot : Binds K d_dot ["v", "w", "p"] []
  a_combine : Addr
  d_combine : FuncData
  F_combine : Fun K "combine" "combine" s_combine a_combine d_combine
  g_combine : mg "combine" = some (.ref a_combine)
  b_combine : Binds K d_combine ["rows", "weights", "width", "p"] []
  a__zeros : Addr
  d__zeros : FuncData
  F__zeros : Fun K "_zeros" "_zeros" s__zeros a__zeros d__zeros
  g__zeros : mg "_zeros" = some (.ref a__zeros)
  b__zeros : Binds K d__zeros ["width"] []
  a__unit : Addr
  d__unit : FuncData
  F__unit : Fun K "_unit" "_unit" s__unit a__unit d__unit
  g__unit : mg "_unit" = some (.ref a__unit)
  b__unit : Binds K d__unit ["n", "at"] []
  a__cleared : Addr
  d__cleared : FuncData
  F__cleared : Fun K "_cleared" "_cleared" s__cleared a__cleared d__cleared
  g__cleared : mg "_cleared" = some (.ref a__cleared)
  b__cleared : Binds K d__cleared ["row", "lead", "at", "p"] []
  a__lead_at : Addr
  d__lead_at : FuncData
  F__lead_at : Fun K "_lead_at" "_lead_at" s__lead_at a__lead_at d__lead_at
  g__lead_at : mg "_lead_at" = some (.ref a__lead_at)
  b__lead_at : Binds K d__lead_at ["rows", "at", "p"] []
  a_reduced : Addr
  d_reduced : FuncData
  F_reduced : Fun K "reduced" "reduced" s_reduced a_reduced d_reduced
  g_reduced : mg "reduced" = some (.ref a_reduced)
  b_reduced : Binds K d_reduced ["rows", "width", "p"] []
  a_span : Addr
  d_span : FuncData
  F_span : Fun K "span" "span" s_span a_span d_span
  g_span : mg "span" = some (.ref a_span)
  b_span : Binds K d_span ["rows", "width", "p"] []
  a_kernel : Addr
  d_kernel : FuncData
  F_kernel : Fun K "kernel" "kernel" s_kernel a_kernel d_kernel
  g_kernel : mg "kernel" = some (.ref a_kernel)
  b_kernel : Binds K d_kernel ["rows", "width", "p"] []
  a__columns : Addr
  d__columns : FuncData
  F__columns : Fun K "_columns" "_columns" s__columns a__columns d__columns
  g__columns : mg "_columns" = some (.ref a__columns)
  b__columns : Binds K d__columns ["rows", "width"] []
  a_relations : Addr
  d_relations : FuncData
  F_relations : Fun K "relations" "relations" s_relations a_relations d_relations
  g_relations : mg "relations" = some (.ref a_relations)
  b_relations : Binds K d_relations ["rows", "width", "p"] []
  a_sum_of : Addr
  d_sum_of : FuncData
  F_sum_of : Fun K "sum_of" "sum_of" s_sum_of a_sum_of d_sum_of
  g_sum_of : mg "sum_of" = some (.ref a_sum_of)
  b_sum_of : Binds K d_sum_of ["a", "b", "width", "p"] []
  a_common_part : Addr
  d_common_part : FuncData
  F_common_part : Fun K "common_part" "common_part" s_common_part a_common_part d_common_part
  g_common_part : mg "common_part" = some (.ref a_common_part)
  b_common_part : Binds K d_common_part ["a", "b", "width", "p"] []
  a_all_rows : Addr
  d_all_rows : FuncData
  F_all_rows : Fun K "all_rows" "all_rows" s_all_rows a_all_rows d_all_rows
  g_all_rows : mg "all_rows" = some (.ref a_all_rows)
  b_all_rows : Binds K d_all_rows ["space", "width", "p"] []
  a__law_state : Addr
  d__law_state : FuncData
  F__law_state : Fun K "_law_state" "_law_state" s__law_state a__law_state d__law_state
  g__law_state : mg "_law_state" = some (.ref a__law_state)
  b__law_state : Binds K d__law_state ["script"] []
  a__law_take : Addr
  d__law_take : FuncData
  F__law_take : Fun K "_law_take" "_law_take" s__law_take a__law_take d__law_take
  g__law_take : mg "_law_take" = some (.ref a__law_take)
  b__law_take : Binds K d__law_take ["state", "m"] []
  a__law_sum : Addr
  d__law_sum : FuncData
  F__law_sum : Fun K "_law_sum" "_law_sum" s__law_sum a__law_sum d__law_sum
  g__law_sum : mg "_law_sum" = some (.ref a__law_sum)
  b__law_sum : Binds K d__law_sum ["v", "w", "p"] []
  a__law_scaled : Addr
  d__law_scaled : FuncData
  F__law_scaled : Fun K "_law_scaled" "_law_scaled" s__law_scaled a__law_scaled d__law_scaled
  g__law_scaled : mg "_law_scaled" = some (.ref a__law_scaled)
  b__law_scaled : Binds K d__law_scaled ["v", "a", "p"] []
  a__law_zero : Addr
  d__law_zero : FuncData
  F__law_zero : Fun K "_law_zero" "_law_zero" s__law_zero a__law_zero d__law_zero
  g__law_zero : mg "_law_zero" = some (.ref a__law_zero)
  b__law_zero : Binds K d__law_zero ["n"] []
  a__law_element : Addr
  d__law_element : FuncData
  F__law_element : Fun K "_law_element" "_law_element" s__law_element a__law_element d__law_element
  g__law_element : mg "_law_element" = some (.ref a__law_element)
  b__law_element : Binds K d__law_element ["state", "p", "n"] []
  a__law_span : Addr
  d__law_span : FuncData
  F__law_span : Fun K "_law_span" "_law_span" s__law_span a__law_span d__law_span
  g__law_span : mg "_law_span" = some (.ref a__law_span)
  b__law_span : Binds K d__law_span ["rows", "n", "p"] []
  a__law_in_form : Addr
  d__law_in_form : FuncData
  F__law_in_form : Fun K "_law_in_form" "_law_in_form" s__law_in_form a__law_in_form d__law_in_form
  g__law_in_form : mg "_law_in_form" = some (.ref a__law_in_form)
  b__law_in_form : Binds K d__law_in_form ["told", "n"] []
  a__law_shows : Addr
  d__law_shows : FuncData
  F__law_shows : Fun K "_law_shows" "_law_shows" s__law_shows a__law_shows d__law_shows
  g__law_shows : mg "_law_shows" = some (.ref a__law_shows)
  b__law_shows : Binds K d__law_shows ["told", "words", "n", "p"] []
  a__law_prime : Addr
  d__law_prime : FuncData
  F__law_prime : Fun K "_law_prime" "_law_prime" s__law_prime a__law_prime d__law_prime
  g__law_prime : mg "_law_prime" = some (.ref a__law_prime)
  b__law_prime : Binds K d__law_prime ["state"] []
  a__law_width : Addr
  d__law_width : FuncData
  F__law_width : Fun K "_law_width" "_law_width" s__law_width a__law_width d__law_width
  g__law_width : mg "_law_width" = some (.ref a__law_width)
  b__law_width : Binds K d__law_width ["state", "p"] []
  a__law_rows : Addr
  d__law_rows : FuncData
  F__law_rows : Fun K "_law_rows" "_law_rows" s__law_rows a__law_rows d__law_rows
  g__law_rows : mg "_law_rows" = some (.ref a__law_rows)
  b__law_rows : Binds K d__law_rows ["state", "p", "n", "most"] []
  a__law_dot : Addr
  d__law_dot : FuncData
  F__law_dot : Fun K "_law_dot" "_law_dot" s__law_dot a__law_dot d__law_dot
  g__law_dot : mg "_law_dot" = some (.ref a__law_dot)
  b__law_dot : Binds K d__law_dot ["p", "v", "w"] []
  a__law_total : Addr
  d__law_total : FuncData
  F__law_total : Fun K "_law_total" "_law_total" s__law_total a__law_total d__law_total
  g__law_total : mg "_law_total" = some (.ref a__law_total)
  b__law_total : Binds K d__law_total ["p", "rows", "weights", "n"] []
  a__law_kinds : Addr
  d__law_kinds : FuncData
  F__law_kinds : Fun K "_law_kinds" "_law_kinds" s__law_kinds a__law_kinds d__law_kinds
  g__law_kinds : mg "_law_kinds" = some (.ref a__law_kinds)
  b__law_kinds : Binds K d__law_kinds ["v", "n", "p"] []
  a_law : Addr
  d_law : FuncData
  F_law : Fun K "law" "law" s_law a_law d_law
  g_law : mg "law" = some (.ref a_law)
  b_law : Binds K d_law ["script"] []
  n_isinstance : mg "isinstance" = none
  n_int : mg "int" = none
  n_bool : mg "bool" = none
  n_all : mg "all" = none
  n_tuple : mg "tuple" = none
  n_len : mg "len" = none
  n_zip : mg "zip" = none
  n_sum : mg "sum" = none
  n_range : mg "range" = none
  n_list : mg "list" = none
  n_abs : mg "abs" = none
  n_sorted : mg "sorted" = none
def txt_mk {K : PySem.W.Frag} {h : Heap} {mg : Str → Option Value} (X : K.In h) (G : h.Ns mainGlobals mg)
    {f_is_integer : Addr} {od_is_integer an_is_integer : Option Addr} {sl_is_integer : Array (Option Value)} {oc_is_integer kV_is_integer dc_is_integer pm_is_integer cd_is_integer ct_is_integer : Value}
    (a_is_integer : PySem.W.nsIn K mainGlobals "is_integer" = some (some (.ref f_is_integer))) (l_is_integer : K.lookup f_is_integer = some ⟨oc_is_integer, od_is_integer, .func (PySem.W.fnOf "is_integer" "is_integer" (defArgs s_is_integer) (defBody s_is_integer) (defScope s_is_integer) .none kV_is_integer dc_is_integer pm_is_integer an_is_integer cd_is_integer ct_is_integer), sl_is_integer⟩)
    (c_is_integer : PySem.W.codeIn K cd_is_integer "is_integer" = true) (k_is_integer : PySem.W.keepIn K (.ref f_is_integer) = true)
    {f_power : Addr} {od_power an_power : Option Addr} {sl_power : Array (Option Value)} {oc_power kV_power dc_power pm_power cd_power ct_power : Value}
    (a_power : PySem.W.nsIn K mainGlobals "power" = some (some (.ref f_power))) (l_power : K.lookup f_power = some ⟨oc_power, od_power, .func (PySem.W.fnOf "power" "power" (defArgs s_power) (defBody s_power) (defScope s_power) .none kV_power dc_power pm_power an_power cd_power ct_power), sl_power⟩)
    (c_power : PySem.W.codeIn K cd_power "power" = true) (k_power : PySem.W.keepIn K (.ref f_power) = true)
    {f_inverse : Addr} {od_inverse an_inverse : Option Addr} {sl_inverse : Array (Option Value)} {oc_inverse kV_inverse dc_inverse pm_inverse cd_inverse ct_inverse : Value}
    (a_inverse : PySem.W.nsIn K mainGlobals "inverse" = some (some (.ref f_inverse))) (l_inverse : K.lookup f_inverse = some ⟨oc_inverse, od_inverse, .func (PySem.W.fnOf "inverse" "inverse" (defArgs s_inverse) (defBody s_inverse) (defScope s_inverse) .none kV_inverse dc_inverse pm_inverse an_inverse cd_inverse ct_inverse), sl_inverse⟩)
    (c_inverse : PySem.W.codeIn K cd_inverse "inverse" = true) (k_inverse : PySem.W.keepIn K (.ref f_inverse) = true)
    {f_is_row : Addr} {od_is_row an_is_row : Option Addr} {sl_is_row : Array (Option Value)} {oc_is_row kV_is_row dc_is_row pm_is_row cd_is_row ct_is_row : Value}
    (a_is_row : PySem.W.nsIn K mainGlobals "is_row" = some (some (.ref f_is_row))) (l_is_row : K.lookup f_is_row = some ⟨oc_is_row, od_is_row, .func (PySem.W.fnOf "is_row" "is_row" (defArgs s_is_row) (defBody s_is_row) (defScope s_is_row) .none kV_is_row dc_is_row pm_is_row an_is_row cd_is_row ct_is_row), sl_is_row⟩)
    (c_is_row : PySem.W.codeIn K cd_is_row "is_row" = true) (k_is_row : PySem.W.keepIn K (.ref f_is_row) = true)
    {f_add : Addr} {od_add an_add : Option Addr} {sl_add : Array (Option Value)} {oc_add kV_add dc_add pm_add cd_add ct_add : Value}
    (a_add : PySem.W.nsIn K mainGlobals "add" = some (some (.ref f_add))) (l_add : K.lookup f_add = some ⟨oc_add, od_add, .func (PySem.W.fnOf "add" "add" (defArgs s_add) (defBody s_add) (defScope s_add) .none kV_add dc_add pm_add an_add cd_add ct_add), sl_add⟩)
    (c_add : PySem.W.codeIn K cd_add "add" = true) (k_add : PySem.W.keepIn K (.ref f_add) = true)
    {f_scaled : Addr} {od_scaled an_scaled : Option Addr} {sl_scaled : Array (Option Value)} {oc_scaled kV_scaled dc_scaled pm_scaled cd_scaled ct_scaled : Value}
    (a_scaled : PySem.W.nsIn K mainGlobals "scaled" = some (some (.ref f_scaled))) (l_scaled : K.lookup f_scaled = some ⟨oc_scaled, od_scaled, .func (PySem.W.fnOf "scaled" "scaled" (defArgs s_scaled) (defBody s_scaled) (defScope s_scaled) .none kV_scaled dc_scaled pm_scaled an_scaled cd_scaled ct_scaled), sl_scaled⟩)
    (c_scaled : PySem.W.codeIn K cd_scaled "scaled" = true) (k_scaled : PySem.W.keepIn K (.ref f_scaled) = true)
    {f_dot : Addr} {od_dot an_dot : Option Addr} {sl_dot : Array (Option Value)} {oc_dot kV_dot dc_dot pm_dot cd_dot ct_dot : Value}
    (a_dot : PySem.W.nsIn K mainGlobals "dot" = some (some (.ref f_dot))) (l_dot : K.lookup f_dot = some ⟨oc_dot, od_dot, .func (PySem.W.fnOf "dot" "dot" (defArgs s_dot) (defBody s_dot) (defScope s_dot) .none kV_dot dc_dot pm_dot an_dot cd_dot ct_dot), sl_dot⟩)
    (c_dot : PySem.W.codeIn K cd_dot "dot" = true) (k_dot : PySem.W.keepIn K (.ref f_dot) = true)
    {f_combine : Addr} {od_combine an_combine : Option Addr} {sl_combine : Array (Option Value)} {oc_combine kV_combine dc_combine pm_combine cd_combine ct_combine : Value}
    (a_combine : PySem.W.nsIn K mainGlobals "combine" = some (some (.ref f_combine))) (l_combine : K.lookup f_combine = some ⟨oc_combine, od_combine, .func (PySem.W.fnOf "combine" "combine" (defArgs s_combine) (defBody s_combine) (defScope s_combine) .none kV_combine dc_combine pm_combine an_combine cd_combine ct_combine), sl_combine⟩)
    (c_combine : PySem.W.codeIn K cd_combine "combine" = true) (k_combine : PySem.W.keepIn K (.ref f_combine) = true)
    {f__zeros : Addr} {od__zeros an__zeros : Option Addr} {sl__zeros : Array (Option Value)} {oc__zeros kV__zeros dc__zeros pm__zeros cd__zeros ct__zeros : Value}
    (a__zeros : PySem.W.nsIn K mainGlobals "_zeros" = some (some (.ref f__zeros))) (l__zeros : K.lookup f__zeros = some ⟨oc__zeros, od__zeros, .func (PySem.W.fnOf "_zeros" "_zeros" (defArgs s__zeros) (defBody s__zeros) (defScope s__zeros) .none kV__zeros dc__zeros pm__zeros an__zeros cd__zeros ct__zeros), sl__zeros⟩)
    (c__zeros : PySem.W.codeIn K cd__zeros "_zeros" = true) (k__zeros : PySem.W.keepIn K (.ref f__zeros) = true)
    {f__unit : Addr} {od__unit an__unit : Option Addr} {sl__unit : Array (Option Value)} {oc__unit kV__unit dc__unit pm__unit cd__unit ct__unit : Value}
    (a__unit : PySem.W.nsIn K mainGlobals "_unit" = some (some (.ref f__unit))) (l__unit : K.lookup f__unit = some ⟨oc__unit, od__unit, .func (PySem.W.fnOf "_unit" "_unit" (defArgs s__unit) (defBody s__unit) (defScope s__unit) .none kV__unit dc__unit pm__unit an__unit cd__unit ct__unit), sl__unit⟩)
    (c__unit : PySem.W.codeIn K cd__unit "_unit" = true) (k__unit : PySem.W.keepIn K (.ref f__unit) = true)
    {f__cleared : Addr} {od__cleared an__cleared : Option Addr} {sl__cleared : Array (Option Value)} {oc__cleared kV__cleared dc__cleared pm__cleared cd__cleared ct__cleared : Value}
    (a__cleared : PySem.W.nsIn K mainGlobals "_cleared" = some (some (.ref f__cleared))) (l__cleared : K.lookup f__cleared = some ⟨oc__cleared, od__cleared, .func (PySem.W.fnOf "_cleared" "_cleared" (defArgs s__cleared) (defBody s__cleared) (defScope s__cleared) .none kV__cleared dc__cleared pm__cleared an__cleared cd__cleared ct__cleared), sl__cleared⟩)
    (c__cleared : PySem.W.codeIn K cd__cleared "_cleared" = true) (k__cleared : PySem.W.keepIn K (.ref f__cleared) = true)
    {f__lead_at : Addr} {od__lead_at an__lead_at : Option Addr} {sl__lead_at : Array (Option Value)} {oc__lead_at kV__lead_at dc__lead_at pm__lead_at cd__lead_at ct__lead_at : Value}
    (a__lead_at : PySem.W.nsIn K mainGlobals "_lead_at" = some (some (.ref f__lead_at))) (l__lead_at : K.lookup f__lead_at = some ⟨oc__lead_at, od__lead_at, .func (PySem.W.fnOf "_lead_at" "_lead_at" (defArgs s__lead_at) (defBody s__lead_at) (defScope s__lead_at) .none kV__lead_at dc__lead_at pm__lead_at an__lead_at cd__lead_at ct__lead_at), sl__lead_at⟩)
    (c__lead_at : PySem.W.codeIn K cd__lead_at "_lead_at" = true) (k__lead_at : PySem.W.keepIn K (.ref f__lead_at) = true)
    {f_reduced : Addr} {od_reduced an_reduced : Option Addr} {sl_reduced : Array (Option Value)} {oc_reduced kV_reduced dc_reduced pm_reduced cd_reduced ct_reduced : Value}
    (a_reduced : PySem.W.nsIn K mainGlobals "reduced" = some (some (.ref f_reduced))) (l_reduced : K.lookup f_reduced = some ⟨oc_reduced, od_reduced, .func (PySem.W.fnOf "reduced" "reduced" (defArgs s_reduced) (defBody s_reduced) (defScope s_reduced) .none kV_reduced dc_reduced pm_reduced an_reduced cd_reduced ct_reduced), sl_reduced⟩)
    (c_reduced : PySem.W.codeIn K cd_reduced "reduced" = true) (k_reduced : PySem.W.keepIn K (.ref f_reduced) = true)
    {f_span : Addr} {od_span an_span : Option Addr} {sl_span : Array (Option Value)} {oc_span kV_span dc_span pm_span cd_span ct_span : Value}
    (a_span : PySem.W.nsIn K mainGlobals "span" = some (some (.ref f_span))) (l_span : K.lookup f_span = some ⟨oc_span, od_span, .func (PySem.W.fnOf "span" "span" (defArgs s_span) (defBody s_span) (defScope s_span) .none kV_span dc_span pm_span an_span cd_span ct_span), sl_span⟩)
    (c_span : PySem.W.codeIn K cd_span "span" = true) (k_span : PySem.W.keepIn K (.ref f_span) = true)
    {f_kernel : Addr} {od_kernel an_kernel : Option Addr} {sl_kernel : Array (Option Value)} {oc_kernel kV_kernel dc_kernel pm_kernel cd_kernel ct_kernel : Value}
    (a_kernel : PySem.W.nsIn K mainGlobals "kernel" = some (some (.ref f_kernel))) (l_kernel : K.lookup f_kernel = some ⟨oc_kernel, od_kernel, .func (PySem.W.fnOf "kernel" "kernel" (defArgs s_kernel) (defBody s_kernel) (defScope s_kernel) .none kV_kernel dc_kernel pm_kernel an_kernel cd_kernel ct_kernel), sl_kernel⟩)
    (c_kernel : PySem.W.codeIn K cd_kernel "kernel" = true) (k_kernel : PySem.W.keepIn K (.ref f_kernel) = true)
    {f__columns : Addr} {od__columns an__columns : Option Addr} {sl__columns : Array (Option Value)} {oc__columns kV__columns dc__columns pm__columns cd__columns ct__columns : Value}
    (a__columns : PySem.W.nsIn K mainGlobals "_columns" = some (some (.ref f__columns))) (l__columns : K.lookup f__columns = some ⟨oc__columns, od__columns, .func (PySem.W.fnOf "_columns" "_columns" (defArgs s__columns) (defBody s__columns) (defScope s__columns) .none kV__columns dc__columns pm__columns an__columns cd__columns ct__columns), sl__columns⟩)
    (c__columns : PySem.W.codeIn K cd__columns "_columns" = true) (k__columns : PySem.W.keepIn K (.ref f__columns) = true)
    {f_relations : Addr} {od_relations an_relations : Option Addr} {sl_relations : Array (Option Value)} {oc_relations kV_relations dc_relations pm_relations cd_relations ct_relations : Value}
    (a_relations : PySem.W.nsIn K mainGlobals "relations" = some (some (.ref f_relations))) (l_relations : K.lookup f_relations = some ⟨oc_relations, od_relations, .func (PySem.W.fnOf "relations" "relations" (defArgs s_relations) (defBody s_relations) (defScope s_relations) .none kV_relations dc_relations pm_relations an_relations cd_relations ct_relations), sl_relations⟩)
    (c_relations : PySem.W.codeIn K cd_relations "relations" = true) (k_relations : PySem.W.keepIn K (.ref f_relations) = true)
    {f_sum_of : Addr} {od_sum_of an_sum_of : Option Addr} {sl_sum_of : Array (Option Value)} {oc_sum_of kV_sum_of dc_sum_of pm_sum_of cd_sum_of ct_sum_of : Value}
    (a_sum_of : PySem.W.nsIn K mainGlobals "sum_of" = some (some (.ref f_sum_of))) (l_sum_of : K.lookup f_sum_of = some ⟨oc_sum_of, od_sum_of, .func (PySem.W.fnOf "sum_of" "sum_of" (defArgs s_sum_of) (defBody s_sum_of) (defScope s_sum_of) .none kV_sum_of dc_sum_of pm_sum_of an_sum_of cd_sum_of ct_sum_of), sl_sum_of⟩)
    (c_sum_of : PySem.W.codeIn K cd_sum_of "sum_of" = true) (k_sum_of : PySem.W.keepIn K (.ref f_sum_of) = true)
    {f_common_part : Addr} {od_common_part an_common_part : Option Addr} {sl_common_part : Array (Option Value)} {oc_common_part kV_common_part dc_common_part pm_common_part cd_common_part ct_common_part : Value}
    (a_common_part : PySem.W.nsIn K mainGlobals "common_part" = some (some (.ref f_common_part))) (l_common_part : K.lookup f_common_part = some ⟨oc_common_part, od_common_part, .func (PySem.W.fnOf "common_part" "common_part" (defArgs s_common_part) (defBody s_common_part) (defScope s_common_part) .none kV_common_part dc_common_part pm_common_part an_common_part cd_common_part ct_common_part), sl_common_part⟩)
    (c_common_part : PySem.W.codeIn K cd_common_part "common_part" = true) (k_common_part : PySem.W.keepIn K (.ref f_common_part) = true)
    {f_all_rows : Addr} {od_all_rows an_all_rows : Option Addr} {sl_all_rows : Array (Option Value)} {oc_all_rows kV_all_rows dc_all_rows pm_all_rows cd_all_rows ct_all_rows : Value}
    (a_all_rows : PySem.W.nsIn K mainGlobals "all_rows" = some (some (.ref f_all_rows))) (l_all_rows : K.lookup f_all_rows = some ⟨oc_all_rows, od_all_rows, .func (PySem.W.fnOf "all_rows" "all_rows" (defArgs s_all_rows) (defBody s_all_rows) (defScope s_all_rows) .none kV_all_rows dc_all_rows pm_all_rows an_all_rows cd_all_rows ct_all_rows), sl_all_rows⟩)
    (c_all_rows : PySem.W.codeIn K cd_all_rows "all_rows" = true) (k_all_rows : PySem.W.keepIn K (.ref f_all_rows) = true)
    {f__law_state : Addr} {od__law_state an__law_state : Option Addr} {sl__law_state : Array (Option Value)} {oc__law_state kV__law_state dc__law_state pm__law_state cd__law_state ct__law_state : Value}
    (a__law_state : PySem.W.nsIn K mainGlobals "_law_state" = some (some (.ref f__law_state))) (l__law_state : K.lookup f__law_state = some ⟨oc__law_state, od__law_state, .func (PySem.W.fnOf "_law_state" "_law_state" (defArgs s__law_state) (defBody s__law_state) (defScope s__law_state) .none kV__law_state dc__law_state pm__law_state an__law_state cd__law_state ct__law_state), sl__law_state⟩)
    (c__law_state : PySem.W.codeIn K cd__law_state "_law_state" = true) (k__law_state : PySem.W.keepIn K (.ref f__law_state) = true)
    {f__law_take : Addr} {od__law_take an__law_take : Option Addr} {sl__law_take : Array (Option Value)} {oc__law_take kV__law_take dc__law_take pm__law_take cd__law_take ct__law_take : Value}
    (a__law_take : PySem.W.nsIn K mainGlobals "_law_take" = some (some (.ref f__law_take))) (l__law_take : K.lookup f__law_take = some ⟨oc__law_take, od__law_take, .func (PySem.W.fnOf "_law_take" "_law_take" (defArgs s__law_take) (defBody s__law_take) (defScope s__law_take) .none kV__law_take dc__law_take pm__law_take an__law_take cd__law_take ct__law_take), sl__law_take⟩)
    (c__law_take : PySem.W.codeIn K cd__law_take "_law_take" = true) (k__law_take : PySem.W.keepIn K (.ref f__law_take) = true)
    {f__law_sum : Addr} {od__law_sum an__law_sum : Option Addr} {sl__law_sum : Array (Option Value)} {oc__law_sum kV__law_sum dc__law_sum pm__law_sum cd__law_sum ct__law_sum : Value}
    (a__law_sum : PySem.W.nsIn K mainGlobals "_law_sum" = some (some (.ref f__law_sum))) (l__law_sum : K.lookup f__law_sum = some ⟨oc__law_sum, od__law_sum, .func (PySem.W.fnOf "_law_sum" "_law_sum" (defArgs s__law_sum) (defBody s__law_sum) (defScope s__law_sum) .none kV__law_sum dc__law_sum pm__law_sum an__law_sum cd__law_sum ct__law_sum), sl__law_sum⟩)
    (c__law_sum : PySem.W.codeIn K cd__law_sum "_law_sum" = true) (k__law_sum : PySem.W.keepIn K (.ref f__law_sum) = true)
    {f__law_scaled : Addr} {od__law_scaled an__law_scaled : Option Addr} {sl__law_scaled : Array (Option Value)} {oc__law_scaled kV__law_scaled dc__law_scaled pm__law_scaled cd__law_scaled ct__law_scaled : Value}
    (a__law_scaled : PySem.W.nsIn K mainGlobals "_law_scaled" = some (some (.ref f__law_scaled))) (l__law_scaled : K.lookup f__law_scaled = some ⟨oc__law_scaled, od__law_scaled, .func (PySem.W.fnOf "_law_scaled" "_law_scaled" (defArgs s__law_scaled) (defBody s__law_scaled) (defScope s__law_scaled) .none kV__law_scaled dc__law_scaled pm__law_scaled an__law_scaled cd__law_scaled ct__law_scaled), sl__law_scaled⟩)
    (c__law_scaled : PySem.W.codeIn K cd__law_scaled "_law_scaled" = true) (k__law_scaled : PySem.W.keepIn K (.ref f__law_scaled) = true)
    {f__law_zero : Addr} {od__law_zero an__law_zero : Option Addr} {sl__law_zero : Array (Option Value)} {oc__law_zero kV__law_zero dc__law_zero pm__law_zero cd__law_zero ct__law_zero : Value}
    (a__law_zero : PySem.W.nsIn K mainGlobals "_law_zero" = some (some (.ref f__law_zero))) (l__law_zero : K.lookup f__law_zero = some ⟨oc__law_zero, od__law_zero, .func (PySem.W.fnOf "_law_zero" "_law_zero" (defArgs s__law_zero) (defBody s__law_zero) (defScope s__law_zero) .none kV__law_zero dc__law_zero pm__law_zero an__law_zero cd__law_zero ct__law_zero), sl__law_zero⟩)
    (c__law_zero : PySem.W.codeIn K cd__law_zero "_law_zero" = true) (k__law_zero : PySem.W.keepIn K (.ref f__law_zero) = true)
    {f__law_element : Addr} {od__law_element an__law_element : Option Addr} {sl__law_element : Array (Option Value)} {oc__law_element kV__law_element dc__law_element pm__law_element cd__law_element ct__law_element : Value}
    (a__law_element : PySem.W.nsIn K mainGlobals "_law_element" = some (some (.ref f__law_element))) (l__law_element : K.lookup f__law_element = some ⟨oc__law_element, od__law_element, .func (PySem.W.fnOf "_law_element" "_law_element" (defArgs s__law_element) (defBody s__law_element) (defScope s__law_element) .none kV__law_element dc__law_element pm__law_element an__law_element cd__law_element ct__law_element), sl__law_element⟩)
    (c__law_element : PySem.W.codeIn K cd__law_element "_law_element" = true) (k__law_element : PySem.W.keepIn K (.ref f__law_element) = true)
    {f__law_span : Addr} {od__law_span an__law_span : Option Addr} {sl__law_span : Array (Option Value)} {oc__law_span kV__law_span dc__law_span pm__law_span cd__law_span ct__law_span : Value}
    (a__law_span : PySem.W.nsIn K mainGlobals "_law_span" = some (some (.ref f__law_span))) (l__law_span : K.lookup f__law_span = some ⟨oc__law_span, od__law_span, .func (PySem.W.fnOf "_law_span" "_law_span" (defArgs s__law_span) (defBody s__law_span) (defScope s__law_span) .none kV__law_span dc__law_span pm__law_span an__law_span cd__law_span ct__law_span), sl__law_span⟩)
    (c__law_span : PySem.W.codeIn K cd__law_span "_law_span" = true) (k__law_span : PySem.W.keepIn K (.ref f__law_span) = true)
    {f__law_in_form : Addr} {od__law_in_form an__law_in_form : Option Addr} {sl__law_in_form : Array (Option Value)} {oc__law_in_form kV__law_in_form dc__law_in_form pm__law_in_form cd__law_in_form ct__law_in_form : Value}
    (a__law_in_form : PySem.W.nsIn K mainGlobals "_law_in_form" = some (some (.ref f__law_in_form))) (l__law_in_form : K.lookup f__law_in_form = some ⟨oc__law_in_form, od__law_in_form, .func (PySem.W.fnOf "_law_in_form" "_law_in_form" (defArgs s__law_in_form) (defBody s__law_in_form) (defScope s__law_in_form) .none kV__law_in_form dc__law_in_form pm__law_in_form an__law_in_form cd__law_in_form ct__law_in_form), sl__law_in_form⟩)
    (c__law_in_form : PySem.W.codeIn K cd__law_in_form "_law_in_form" = true) (k__law_in_form : PySem.W.keepIn K (.ref f__law_in_form) = true)
    {f__law_shows : Addr} {od__law_shows an__law_shows : Option Addr} {sl__law_shows : Array (Option Value)} {oc__law_shows kV__law_shows dc__law_shows pm__law_shows cd__law_shows ct__law_shows : Value}
    (a__law_shows : PySem.W.nsIn K mainGlobals "_law_shows" = some (some (.ref f__law_shows))) (l__law_shows : K.lookup f__law_shows = some ⟨oc__law_shows, od__law_shows, .func (PySem.W.fnOf "_law_shows" "_law_shows" (defArgs s__law_shows) (defBody s__law_shows) (defScope s__law_shows) .none kV__law_shows dc__law_shows pm__law_shows an__law_shows cd__law_shows ct__law_shows), sl__law_shows⟩)
    (c__law_shows : PySem.W.codeIn K cd__law_shows "_law_shows" = true) (k__law_shows : PySem.W.keepIn K (.ref f__law_shows) = true)
    {f__law_prime : Addr} {od__law_prime an__law_prime : Option Addr} {sl__law_prime : Array (Option Value)} {oc__law_prime kV__law_prime dc__law_prime pm__law_prime cd__law_prime ct__law_prime : Value}
    (a__law_prime : PySem.W.nsIn K mainGlobals "_law_prime" = some (some (.ref f__law_prime))) (l__law_prime : K.lookup f__law_prime = some ⟨oc__law_prime, od__law_prime, .func (PySem.W.fnOf "_law_prime" "_law_prime" (defArgs s__law_prime) (defBody s__law_prime) (defScope s__law_prime) .none kV__law_prime dc__law_prime pm__law_prime an__law_prime cd__law_prime ct__law_prime), sl__law_prime⟩)
    (c__law_prime : PySem.W.codeIn K cd__law_prime "_law_prime" = true) (k__law_prime : PySem.W.keepIn K (.ref f__law_prime) = true)
    {f__law_width : Addr} {od__law_width an__law_width : Option Addr} {sl__law_width : Array (Option Value)} {oc__law_width kV__law_width dc__law_width pm__law_width cd__law_width ct__law_width : Value}
    (a__law_width : PySem.W.nsIn K mainGlobals "_law_width" = some (some (.ref f__law_width))) (l__law_width : K.lookup f__law_width = some ⟨oc__law_width, od__law_width, .func (PySem.W.fnOf "_law_width" "_law_width" (defArgs s__law_width) (defBody s__law_width) (defScope s__law_width) .none kV__law_width dc__law_width pm__law_width an__law_width cd__law_width ct__law_width), sl__law_width⟩)
    (c__law_width : PySem.W.codeIn K cd__law_width "_law_width" = true) (k__law_width : PySem.W.keepIn K (.ref f__law_width) = true)
    {f__law_rows : Addr} {od__law_rows an__law_rows : Option Addr} {sl__law_rows : Array (Option Value)} {oc__law_rows kV__law_rows dc__law_rows pm__law_rows cd__law_rows ct__law_rows : Value}
    (a__law_rows : PySem.W.nsIn K mainGlobals "_law_rows" = some (some (.ref f__law_rows))) (l__law_rows : K.lookup f__law_rows = some ⟨oc__law_rows, od__law_rows, .func (PySem.W.fnOf "_law_rows" "_law_rows" (defArgs s__law_rows) (defBody s__law_rows) (defScope s__law_rows) .none kV__law_rows dc__law_rows pm__law_rows an__law_rows cd__law_rows ct__law_rows), sl__law_rows⟩)
    (c__law_rows : PySem.W.codeIn K cd__law_rows "_law_rows" = true) (k__law_rows : PySem.W.keepIn K (.ref f__law_rows) = true)
    {f__law_dot : Addr} {od__law_dot an__law_dot : Option Addr} {sl__law_dot : Array (Option Value)} {oc__law_dot kV__law_dot dc__law_dot pm__law_dot cd__law_dot ct__law_dot : Value}
    (a__law_dot : PySem.W.nsIn K mainGlobals "_law_dot" = some (some (.ref f__law_dot))) (l__law_dot : K.lookup f__law_dot = some ⟨oc__law_dot, od__law_dot, .func (PySem.W.fnOf "_law_dot" "_law_dot" (defArgs s__law_dot) (defBody s__law_dot) (defScope s__law_dot) .none kV__law_dot dc__law_dot pm__law_dot an__law_dot cd__law_dot ct__law_dot), sl__law_dot⟩)
    (c__law_dot : PySem.W.codeIn K cd__law_dot "_law_dot" = true) (k__law_dot : PySem.W.keepIn K (.ref f__law_dot) = true)
    {f__law_total : Addr} {od__law_total an__law_total : Option Addr} {sl__law_total : Array (Option Value)} {oc__law_total kV__law_total dc__law_total pm__law_total cd__law_total ct__law_total : Value}
    (a__law_total : PySem.W.nsIn K mainGlobals "_law_total" = some (some (.ref f__law_total))) (l__law_total : K.lookup f__law_total = some ⟨oc__law_total, od__law_total, .func (PySem.W.fnOf "_law_total" "_law_total" (defArgs s__law_total) (defBody s__law_total) (defScope s__law_total) .none kV__law_total dc__law_total pm__law_total an__law_total cd__law_total ct__law_total), sl__law_total⟩)
    (c__law_total : PySem.W.codeIn K cd__law_total "_law_total" = true) (k__law_total : PySem.W.keepIn K (.ref f__law_total) = true)
    {f__law_kinds : Addr} {od__law_kinds an__law_kinds : Option Addr} {sl__law_kinds : Array (Option Value)} {oc__law_kinds kV__law_kinds dc__law_kinds pm__law_kinds cd__law_kinds ct__law_kinds : Value}
    (a__law_kinds : PySem.W.nsIn K mainGlobals "_law_kinds" = some (some (.ref f__law_kinds))) (l__law_kinds : K.lookup f__law_kinds = some ⟨oc__law_kinds, od__law_kinds, .func (PySem.W.fnOf "_law_kinds" "_law_kinds" (defArgs s__law_kinds) (defBody s__law_kinds) (defScope s__law_kinds) .none kV__law_kinds dc__law_kinds pm__law_kinds an__law_kinds cd__law_kinds ct__law_kinds), sl__law_kinds⟩)
    (c__law_kinds : PySem.W.codeIn K cd__law_kinds "_law_kinds" = true) (k__law_kinds : PySem.W.keepIn K (.ref f__law_kinds) = true)
    {f_law : Addr} {od_law an_law : Option Addr} {sl_law : Array (Option Value)} {oc_law kV_law dc_law pm_law cd_law ct_law : Value}
    (a_law : PySem.W.nsIn K mainGlobals "law" = some (some (.ref f_law))) (l_law : K.lookup f_law = some ⟨oc_law, od_law, .func (PySem.W.fnOf "law" "law" (defArgs s_law) (defBody s_law) (defScope s_law) .none kV_law dc_law pm_law an_law cd_law ct_law), sl_law⟩)
    (c_law : PySem.W.codeIn K cd_law "law" = true) (k_law : PySem.W.keepIn K (.ref f_law) = true)
    (z_isinstance : PySem.W.nsIn K mainGlobals "isinstance" = some none)
    (z_int : PySem.W.nsIn K mainGlobals "int" = some none)
    (z_bool : PySem.W.nsIn K mainGlobals "bool" = some none)
    (z_all : PySem.W.nsIn K mainGlobals "all" = some none)
    (z_tuple : PySem.W.nsIn K mainGlobals "tuple" = some none)
    (z_len : PySem.W.nsIn K mainGlobals "len" = some none)
    (z_zip : PySem.W.nsIn K mainGlobals "zip" = some none)
    (z_sum : PySem.W.nsIn K mainGlobals "sum" = some none)
    (z_range : PySem.W.nsIn K mainGlobals "range" = some none)
    (z_list : PySem.W.nsIn K mainGlobals "list" = some none)
    (z_abs : PySem.W.nsIn K mainGlobals "abs" = some none)
    (z_sorted : PySem.W.nsIn K mainGlobals "sorted" = some none) : Txt K mg :=
  have F_is_integer := fun_mk (st := s_is_integer) l_is_integer c_is_integer k_is_integer
  have b_is_integer := F_is_integer.binds (ps := ["value"]) fun _ _ _ _ _ _ us hl => match us, hl with | [_], _ => rfl
  have F_power := fun_mk (st := s_power) l_power c_power k_power
  have b_power := F_power.binds (ps := ["a", "k"]) fun _ _ _ _ _ _ us hl => match us, hl with | [_, _], _ => rfl
  have F_inverse := fun_mk (st := s_inverse) l_inverse c_inverse k_inverse
  have b_inverse := F_inverse.binds (ps := ["a", "p"]) fun _ _ _ _ _ _ us hl => match us, hl with | [_, _], _ => rfl
  have F_is_row := fun_mk (st := s_is_row) l_is_row c_is_row k_is_row
  have b_is_row := F_is_row.binds (ps := ["value", "p", "n"]) fun _ _ _ _ _ _ us hl => match us, hl with | [_, _, _], _ => rfl
  have F_add := fun_mk (st := s_add) l_add c_add k_add
  have b_add := F_add.binds (ps := ["v", "w", "p"]) fun _ _ _ _ _ _ us hl => match us, hl with | [_, _, _], _ => rfl
  have F_scaled := fun_mk (st := s_scaled) l_scaled c_scaled k_scaled
  have b_scaled := F_scaled.binds (ps := ["v", "a", "p"]) fun _ _ _ _ _ _ us hl => match us, hl with | [_, _, _], _ => rfl
  have F_dot := fun_mk (st := s_dot) l_dot c_dot k_dot
  have b_dot := F_dot.binds (ps := ["v", "w", "p"]) fun _ _ _ _ _ _ us hl => match us, hl with | [_, _, _], _ => rfl
  have F_combine := fun_mk (st := s_combine) l_combine c_combine k_combine
  have b_combine := F_combine.binds (ps := ["rows", "weights", "width", "p"]) fun _ _ _ _ _ _ us hl => match us, hl with | [_, _, _, _], _ => rfl
  have F__zeros := fun_mk (st := s__zeros) l__zeros c__zeros k__zeros
  have b__zeros := F__zeros.binds (ps := ["width"]) fun _ _ _ _ _ _ us hl => match us, hl with | [_], _ => rfl
  have F__unit := fun_mk (st := s__unit) l__unit c__unit k__unit
  have b__unit := F__unit.binds (ps := ["n", "at"]) fun _ _ _ _ _ _ us hl => match us, hl with | [_, _], _ => rfl
  have F__cleared := fun_mk (st := s__cleared) l__cleared c__cleared k__cleared
  have b__cleared := F__cleared.binds (ps := ["row", "lead", "at", "p"]) fun _ _ _ _ _ _ us hl => match us, hl with | [_, _, _, _], _ => rfl
  have F__lead_at := fun_mk (st := s__lead_at) l__lead_at c__lead_at k__lead_at
  have b__lead_at := F__lead_at.binds (ps := ["rows", "at", "p"]) fun _ _ _ _ _ _ us hl => match us, hl with | [_, _, _], _ => rfl
  have F_reduced := fun_mk (st := s_reduced) l_reduced c_reduced k_reduced
  have b_reduced := F_reduced.binds (ps := ["rows", "width", "p"]) fun _ _ _ _ _ _ us hl => match us, hl with | [_, _, _], _ => rfl
  have F_span := fun_mk (st := s_span) l_span c_span k_span
  have b_span := F_span.binds (ps := ["rows", "width", "p"]) fun _ _ _ _ _ _ us hl => match us, hl with | [_, _, _], _ => rfl
  have F_kernel := fun_mk (st := s_kernel) l_kernel c_kernel k_kernel
  have b_kernel := F_kernel.binds (ps := ["rows", "width", "p"]) fun _ _ _ _ _ _ us hl => match us, hl with | [_, _, _], _ => rfl
  have F__columns := fun_mk (st := s__columns) l__columns c__columns k__columns
  have b__columns := F__columns.binds (ps := ["rows", "width"]) fun _ _ _ _ _ _ us hl => match us, hl with | [_, _], _ => rfl
  have F_relations := fun_mk (st := s_relations) l_relations c_relations k_relations
  have b_relations := F_relations.binds (ps := ["rows", "width", "p"]) fun _ _ _ _ _ _ us hl => match us, hl with | [_, _, _], _ => rfl
  have F_sum_of := fun_mk (st := s_sum_of) l_sum_of c_sum_of k_sum_of
  have b_sum_of := F_sum_of.binds (ps := ["a", "b", "width", "p"]) fun _ _ _ _ _ _ us hl => match us, hl with | [_, _, _, _], _ => rfl
  have F_common_part := fun_mk (st := s_common_part) l_common_part c_common_part k_common_part
  have b_common_part := F_common_part.binds (ps := ["a", "b", "width", "p"]) fun _ _ _ _ _ _ us hl => match us, hl with | [_, _, _, _], _ => rfl
  have F_all_rows := fun_mk (st := s_all_rows) l_all_rows c_all_rows k_all_rows
  have b_all_rows := F_all_rows.binds (ps := ["space", "width", "p"]) fun _ _ _ _ _ _ us hl => match us, hl with | [_, _, _], _ => rfl
  have F__law_state := fun_mk (st := s__law_state) l__law_state c__law_state k__law_state
  have b__law_state := F__law_state.binds (ps := ["script"]) fun _ _ _ _ _ _ us hl => match us, hl with | [_], _ => rfl
  have F__law_take := fun_mk (st := s__law_take) l__law_take c__law_take k__law_take
  have b__law_take := F__law_take.binds (ps := ["state", "m"]) fun _ _ _ _ _ _ us hl => match us, hl with | [_, _], _ => rfl
  have F__law_sum := fun_mk (st := s__law_sum) l__law_sum c__law_sum k__law_sum
  have b__law_sum := F__law_sum.binds (ps := ["v", "w", "p"]) fun _ _ _ _ _ _ us hl => match us, hl with | [_, _, _], _ => rfl
  have F__law_scaled := fun_mk (st := s__law_scaled) l__law_scaled c__law_scaled k__law_scaled
  have b__law_scaled := F__law_scaled.binds (ps := ["v", "a", "p"]) fun _ _ _ _ _ _ us hl => match us, hl with | [_, _, _], _ => rfl
  have F__law_zero := fun_mk (st := s__law_zero) l__law_zero c__law_zero k__law_zero
  have b__law_zero := F__law_zero.binds (ps := ["n"]) fun _ _ _ _ _ _ us hl => match us, hl with | [_], _ => rfl
  have F__law_element := fun_mk (st := s__law_element) l__law_element c__law_element k__law_element
  have b__law_element := F__law_element.binds (ps := ["state", "p", "n"]) fun _ _ _ _ _ _ us hl => match us, hl with | [_, _, _], _ => rfl
  have F__law_span := fun_mk (st := s__law_span) l__law_span c__law_span k__law_span
  have b__law_span := F__law_span.binds (ps := ["rows", "n", "p"]) fun _ _ _ _ _ _ us hl => match us, hl with | [_, _, _], _ => rfl
  have F__law_in_form := fun_mk (st := s__law_in_form) l__law_in_form c__law_in_form k__law_in_form
  have b__law_in_form := F__law_in_form.binds (ps := ["told", "n"]) fun _ _ _ _ _ _ us hl => match us, hl with | [_, _], _ => rfl
  have F__law_shows := fun_mk (st := s__law_shows) l__law_shows c__law_shows k__law_shows
  have b__law_shows := F__law_shows.binds (ps := ["told", "words", "n", "p"]) fun _ _ _ _ _ _ us hl => match us, hl with | [_, _, _, _], _ => rfl
  have F__law_prime := fun_mk (st := s__law_prime) l__law_prime c__law_prime k__law_prime
  have b__law_prime := F__law_prime.binds (ps := ["state"]) fun _ _ _ _ _ _ us hl => match us, hl with | [_], _ => rfl
  have F__law_width := fun_mk (st := s__law_width) l__law_width c__law_width k__law_width
  have b__law_width := F__law_width.binds (ps := ["state", "p"]) fun _ _ _ _ _ _ us hl => match us, hl with | [_, _], _ => rfl
  have F__law_rows := fun_mk (st := s__law_rows) l__law_rows c__law_rows k__law_rows
  have b__law_rows := F__law_rows.binds (ps := ["state", "p", "n", "most"]) fun _ _ _ _ _ _ us hl => match us, hl with | [_, _, _, _], _ => rfl
  have F__law_dot := fun_mk (st := s__law_dot) l__law_dot c__law_dot k__law_dot
  have b__law_dot := F__law_dot.binds (ps := ["p", "v", "w"]) fun _ _ _ _ _ _ us hl => match us, hl with | [_, _, _], _ => rfl
  have F__law_total := fun_mk (st := s__law_total) l__law_total c__law_total k__law_total
  have b__law_total := F__law_total.binds (ps := ["p", "rows", "weights", "n"]) fun _ _ _ _ _ _ us hl => match us, hl with | [_, _, _, _], _ => rfl
  have F__law_kinds := fun_mk (st := s__law_kinds) l__law_kinds c__law_kinds k__law_kinds
  have b__law_kinds := F__law_kinds.binds (ps := ["v", "n", "p"]) fun _ _ _ _ _ _ us hl => match us, hl with | [_, _, _], _ => rfl
  have F_law := fun_mk (st := s_law) l_law c_law k_law
  have b_law := F_law.binds (ps := ["script"]) fun _ _ _ _ _ _ us hl => match us, hl with | [_], _ => rfl
  { a_is_integer := f_is_integer, d_is_integer := _, F_is_integer := F_is_integer, g_is_integer := PySem.W.mg_of X G a_is_integer, b_is_integer := b_is_integer, a_power := f_power, d_power := _, F_power := F_power, g_power := PySem.W.mg_of X G a_power, b_power := b_power, a_inverse := f_inverse, d_inverse := _, F_inverse := F_inverse, g_inverse := PySem.W.mg_of X G a_inverse, b_inverse := b_inverse, a_is_row := f_is_row, d_is_row := _, F_is_row := F_is_row, g_is_row := PySem.W.mg_of X G a_is_row, b_is_row := b_is_row, a_add := f_add, d_add := _, F_add := F_add, g_add := PySem.W.mg_of X G a_add, b_add := b_add, a_scaled := f_scaled, d_scaled := _, F_scaled := F_scaled, g_scaled := PySem.W.mg_of X G a_scaled, b_scaled := b_scaled, a_dot := f_dot, d_dot := _, F_dot := F_dot, g_dot := PySem.W.mg_of X G a_dot, b_dot := b_dot, a_combine := f_combine, d_combine := _, F_combine := F_combine, g_combine := PySem.W.mg_of X G a_combine, b_combine := b_combine, a__zeros := f__zeros, d__zeros := _, F__zeros := F__zeros, g__zeros := PySem.W.mg_of X G a__zeros, b__zeros := b__zeros, a__unit := f__unit, d__unit := _, F__unit := F__unit, g__unit := PySem.W.mg_of X G a__unit, b__unit := b__unit, a__cleared := f__cleared, d__cleared := _, F__cleared := F__cleared, g__cleared := PySem.W.mg_of X G a__cleared, b__cleared := b__cleared, a__lead_at := f__lead_at, d__lead_at := _, F__lead_at := F__lead_at, g__lead_at := PySem.W.mg_of X G a__lead_at, b__lead_at := b__lead_at, a_reduced := f_reduced, d_reduced := _, F_reduced := F_reduced, g_reduced := PySem.W.mg_of X G a_reduced, b_reduced := b_reduced, a_span := f_span, d_span := _, F_span := F_span, g_span := PySem.W.mg_of X G a_span, b_span := b_span, a_kernel := f_kernel, d_kernel := _, F_kernel := F_kernel, g_kernel := PySem.W.mg_of X G a_kernel, b_kernel := b_kernel, a__columns := f__columns, d__columns := _, F__columns := F__columns, g__columns := PySem.W.mg_of X G a__columns, b__columns := b__columns, a_relations := f_relations, d_relations := _, F_relations := F_relations, g_relations := PySem.W.mg_of X G a_relations, b_relations := b_relations, a_sum_of := f_sum_of, d_sum_of := _, F_sum_of := F_sum_of, g_sum_of := PySem.W.mg_of X G a_sum_of, b_sum_of := b_sum_of, a_common_part := f_common_part, d_common_part := _, F_common_part := F_common_part, g_common_part := PySem.W.mg_of X G a_common_part, b_common_part := b_common_part, a_all_rows := f_all_rows, d_all_rows := _, F_all_rows := F_all_rows, g_all_rows := PySem.W.mg_of X G a_all_rows, b_all_rows := b_all_rows, a__law_state := f__law_state, d__law_state := _, F__law_state := F__law_state, g__law_state := PySem.W.mg_of X G a__law_state, b__law_state := b__law_state, a__law_take := f__law_take, d__law_take := _, F__law_take := F__law_take, g__law_take := PySem.W.mg_of X G a__law_take, b__law_take := b__law_take, a__law_sum := f__law_sum, d__law_sum := _, F__law_sum := F__law_sum, g__law_sum := PySem.W.mg_of X G a__law_sum, b__law_sum := b__law_sum, a__law_scaled := f__law_scaled, d__law_scaled := _, F__law_scaled := F__law_scaled, g__law_scaled := PySem.W.mg_of X G a__law_scaled, b__law_scaled := b__law_scaled, a__law_zero := f__law_zero, d__law_zero := _, F__law_zero := F__law_zero, g__law_zero := PySem.W.mg_of X G a__law_zero, b__law_zero := b__law_zero, a__law_element := f__law_element, d__law_element := _, F__law_element := F__law_element, g__law_element := PySem.W.mg_of X G a__law_element, b__law_element := b__law_element, a__law_span := f__law_span, d__law_span := _, F__law_span := F__law_span, g__law_span := PySem.W.mg_of X G a__law_span, b__law_span := b__law_span, a__law_in_form := f__law_in_form, d__law_in_form := _, F__law_in_form := F__law_in_form, g__law_in_form := PySem.W.mg_of X G a__law_in_form, b__law_in_form := b__law_in_form, a__law_shows := f__law_shows, d__law_shows := _, F__law_shows := F__law_shows, g__law_shows := PySem.W.mg_of X G a__law_shows, b__law_shows := b__law_shows, a__law_prime := f__law_prime, d__law_prime := _, F__law_prime := F__law_prime, g__law_prime := PySem.W.mg_of X G a__law_prime, b__law_prime := b__law_prime, a__law_width := f__law_width, d__law_width := _, F__law_width := F__law_width, g__law_width := PySem.W.mg_of X G a__law_width, b__law_width := b__law_width, a__law_rows := f__law_rows, d__law_rows := _, F__law_rows := F__law_rows, g__law_rows := PySem.W.mg_of X G a__law_rows, b__law_rows := b__law_rows, a__law_dot := f__law_dot, d__law_dot := _, F__law_dot := F__law_dot, g__law_dot := PySem.W.mg_of X G a__law_dot, b__law_dot := b__law_dot, a__law_total := f__law_total, d__law_total := _, F__law_total := F__law_total, g__law_total := PySem.W.mg_of X G a__law_total, b__law_total := b__law_total, a__law_kinds := f__law_kinds, d__law_kinds := _, F__law_kinds := F__law_kinds, g__law_kinds := PySem.W.mg_of X G a__law_kinds, b__law_kinds := b__law_kinds, a_law := f_law, d_law := _, F_law := F_law, g_law := PySem.W.mg_of X G a_law, b_law := b_law, n_isinstance := PySem.W.mg_none_of X G z_isinstance, n_int := PySem.W.mg_none_of X G z_int, n_bool := PySem.W.mg_none_of X G z_bool, n_all := PySem.W.mg_none_of X G z_all, n_tuple := PySem.W.mg_none_of X G z_tuple, n_len := PySem.W.mg_none_of X G z_len, n_zip := PySem.W.mg_none_of X G z_zip, n_sum := PySem.W.mg_none_of X G z_sum, n_range := PySem.W.mg_none_of X G z_range, n_list := PySem.W.mg_none_of X G z_list, n_abs := PySem.W.mg_none_of X G z_abs, n_sorted := PySem.W.mg_none_of X G z_sorted }
section
variable {P : Program} {w : World} {K : PySem.W.Frag} {mg : Str → Option Value} {base : Heap}
/-! ### power -/
def spPower : Sp := fun vs H Q _ => ∃ (a : Int) (k : Nat), vs = [.int a, .int k] ∧ a.natAbs < 2 ^ 40 ∧ k ≤ 1000 ∧ Q (.int (a ^ k)) H
theorem pow_size {a : Int} (h : a.natAbs < 2 ^ 40) (e : Nat) : (a ^ e).natAbs < 2 ^ (40 * e + 1) := by
  rw [Int.natAbs_pow]
  have h1 : a.natAbs ^ e ≤ (2 ^ 40) ^ e := Nat.pow_le_pow_left (Nat.le_of_lt h) e
  rw [← Nat.pow_mul] at h1
  exact Nat.lt_of_le_of_lt h1 (Nat.pow_lt_pow_right (by decide) (by omega))
theorem bit1 (m : Nat) : Builtin.bitAnd (m : Int) 1 = ((m % 2 : Nat) : Int) := by
  have h : Builtin.bitAnd (m : Int) ((1 : Nat) : Int) = ((m &&& 1 : Nat) : Int) := rfl
  have h2 : Builtin.bitAnd (m : Int) 1 = ((m &&& 1 : Nat) : Int) := h
  rw [h2, Nat.and_one_is_mod]
theorem ok_power (T : Txt K mg) : FnOk P w K mg base CX0 1 T.a_power T.d_power ["a", "k"] spPower := by
  refine T.F_power.ok sc_power (fun vs H Q E h => ?_) (fun cdv A outer s H vs Q E hr h => ?_)
  · obtain ⟨a, k, rfl, _⟩ := h
    rfl
  · obtain ⟨a, k, rfl, ha, hk, q⟩ := h
    refine ⟨_, (pss_cons (ps_set (i := 2) sc_power.nd rfl (.inl rfl) pe_int) 
    (pss_cons (ps_while PassesOwn.never (pt_cmpR op_gt (pv 1) pe_int (nomark _)) 
      (pss_cons (ps_if (pt_truth (pe_op op_and (pv 1) pe_int) (by intro _; rfl)) 
        (pss_one (ps_set (i := 2) sc_power.nd rfl (.inl rfl) (pe_op op_mulW (pv 2) (pv 0)))) pss_nil) 
      (pss_cons (ps_set (i := 1) sc_power.nd rfl (.inl rfl) (pe_op op_shr (pv 1) pe_int)) 
      (pss_one (ps_if (pt_cmpR op_gt (pv 1) pe_int (nomark _)) 
        (pss_one (ps_set (i := 0) sc_power.nd rfl (.inl rfl) (pe_op op_mulW (pv 0) (pv 0)))) pss_nil))))) 
    (pss_one (ps_ret (pv 2))))), ?_⟩
    refine ⟨fun m σ H' => ∃ (e r : Nat) (x z y : Int), σ = [some (.int x), some (.int z), some (.int y)] ∧ x = a ^ e ∧ z = (m : Int) ∧ y = a ^ r ∧ e * m + r = k ∧ (0 < m → e ≤ k) ∧ H' = H,
      ⟨k, 1, 0, a, (k : Int), 1, rfl, (Int.pow_one a).symm, rfl, (Int.pow_zero a).symm, by omega, fun _ => by omega, rfl⟩, fun m σ H' hW => ?_⟩
    obtain ⟨e, r, x, z, y, rfl, hx, hz, hy, hs, he, rfl⟩ := hW
    refine ⟨_, rfl, _, _, rfl, rfl, _, rfl, ite2 (fun c => ?_) (fun c => ?_)⟩
    · have c1 : 0 < m := by
        have := of_decide_eq_true c
        omega
      have he1 := he c1
      have hm : e * m = e * 2 * (m / 2) + e * (m % 2) := by
        rw [Nat.mul_assoc, ← Nat.mul_add, Nat.div_add_mod]
      have sz := fun n : Nat => pow_size ha n
      have hbit : Builtin.bitAnd z 1 = ((m % 2 : Nat) : Int) := by rw [hz, bit1]
      have hdiv : z / 2 ^ (1 : Int).toNat = ((m / 2 : Nat) : Int) := by
        rw [hz]
        show (m : Int) / 2 = _
        omega
      have hee : x * x = a ^ (e * 2) := by rw [hx, ← Int.pow_add, Nat.mul_two]
      have hmul : ∀ i j : Nat, i ≤ k → j ≤ k → ∀ u v : Int, u = a ^ i → v = a ^ j → CMulW u v := fun i j hi hj u v eu ev => by
        rw [eu, ev]
        exact wide_mul (sz i) (sz j) (by omega) (by omega) (by omega)
      refine ⟨fun σ' H'' => H'' = H' ∧ ∃ (e2 r2 : Nat) (x2 z2 y2 : Int), σ' = [some (.int x2), some (.int z2), some (.int y2)] ∧ x2 = a ^ e2 ∧ z2 = ((m / 2 : Nat) : Int) ∧ y2 = a ^ r2 ∧ e2 * (m / 2) + r2 = k ∧ (0 < m / 2 → e2 ≤ k), fun σ' H'' hN => ?_, ?_⟩
      · obtain ⟨rfl, e2, r2, x2, z2, y2, rfl, h1, h2, h3, hs2, he2⟩ := hN
        exact ⟨m / 2, by omega, e2, r2, x2, z2, y2, rfl, h1, h2, h3, hs2, he2, rfl⟩
      refine ⟨_, rfl, _, _, rfl, rfl, _, rfl, ite2 (fun c2 => ?_) (fun c2 => ?_)⟩
      · have odd : m % 2 = 1 := by
          have c3 : Builtin.bitAnd z 1 ≠ 0 := bne_iff_ne.mp c2
          omega
        rw [odd, Nat.mul_one] at hm
        refine ⟨_, rfl, _, rfl, _, _, rfl, rfl, hmul r e (by omega) he1 _ _ hy hx, ?_⟩
        have hyy : y * x = a ^ (r + e) := by rw [hx, hy, ← Int.pow_add]
        refine ⟨_, rfl, _, _, rfl, rfl, (by show (0 : Int) ≤ 1; decide), ?_⟩
        refine ⟨_, rfl, _, _, rfl, rfl, _, rfl, ite2 (fun c4 => ?_) (fun c4 => ?_)⟩
        · have c5 : 0 < m / 2 := by
            have := of_decide_eq_true c4
            omega
          have : e * 2 ≤ e * 2 * (m / 2) := Nat.le_mul_of_pos_right _ c5
          exact ⟨_, rfl, _, rfl, _, _, rfl, rfl, hmul e e he1 he1 _ _ hx hx, rfl, e * 2, r + e, _, _, _, rfl, hee, hdiv, hyy, by omega, fun _ => by omega⟩
        · have c5 : m / 2 = 0 := by
            have h6 : ¬ (0 < z / 2 ^ (1 : Int).toNat) := fun h7 => c4 (decide_eq_true h7)
            omega
          rw [c5] at hm
          exact ⟨rfl, e, r + e, _, _, _, rfl, hx, hdiv, hyy, by rw [c5]; omega, fun h => by omega⟩
      · have ev : m % 2 = 0 := by
          have c3 : Builtin.bitAnd z 1 = 0 := by
            cases h7 : (Builtin.bitAnd z 1 != 0) with
            | true => exact absurd h7 c2
            | false => exact bne_eq_false_iff_eq.mp h7
          omega
        rw [ev, Nat.mul_zero] at hm
        refine ⟨_, rfl, _, _, rfl, rfl, (by show (0 : Int) ≤ 1; decide), ?_⟩
        have c5 : 0 < m / 2 := by omega
        refine ⟨_, rfl, _, _, rfl, rfl, _, rfl, ite2 (fun c4 => ?_) (fun c4 => ?_)⟩
        · have : e * 2 ≤ e * 2 * (m / 2) := Nat.le_mul_of_pos_right _ c5
          exact ⟨_, rfl, _, rfl, _, _, rfl, rfl, hmul e e he1 he1 _ _ hx hx, rfl, e * 2, r, _, _, _, rfl, hee, hdiv, hy, by omega, fun _ => by omega⟩
        · exact absurd (decide_eq_true (show 0 < z / 2 ^ (1 : Int).toNat by omega)) c4
    · have c1 : m = 0 := by
        have h6 : ¬ (0 < z) := fun h7 => c (decide_eq_true h7)
        omega
      rw [c1, Nat.mul_zero] at hs
      have e1 : r = k := by omega
      subst e1
      rw [← hy] at q
      exact ⟨_, rfl, q⟩
/-! ### rows modulo p, as lists of ints -/
def addR (p : Int) (v w : List Int) : List Int := (v.zip w).map fun x => (x.1 + x.2) % p
def scR (p : Int) (v : List Int) (a : Int) : List Int := v.map fun x => (a * x) % p
def atR (v : List Int) (i : Nat) : Int := v.getD i 0
def clrR (p : Int) (row lead : List Int) (at_ : Nat) : List Int := if atR row at_ = 0 then row else addR p row (scR p lead (-(atR row at_)))
def invR (p a : Int) : Int := ((a % p) ^ (p - 2).toNat) % p
def leadR (p : Int) : List (List Int) → Nat → Option (List Int)
  | [], _ => none
  | r :: rs, at_ => if atR r at_ = 0 then leadR p rs at_ else some (scR p r (invR p (atR r at_)))
structure Elim where
  left : List (List Int)
  table : List (List Int)
  piv : List Nat
def stepE (p : Int) (s : Elim) (at_ : Nat) : Elim := match leadR p s.left at_ with
  | none => s
  | some l => ⟨s.left.map fun r => clrR p r l at_, (s.table.map fun r => clrR p r l at_) ++ [l], s.piv ++ [at_]⟩
def elimE (p : Int) (rows : List (List Int)) : Nat → Elim
  | 0 => ⟨rows, [], []⟩
  | k + 1 => stepE p (elimE p rows k) k
def redT (p : Int) (n : Nat) (rows : List (List Int)) : List (List Int) := (elimE p rows n).table
def redP (p : Int) (n : Nat) (rows : List (List Int)) : List Nat := (elimE p rows n).piv
/-- a row: so many ints from 0 to p - 1 -/
def Vr (p : Int) (n : Nat) (r : List Int) : Prop := r.length = n ∧ ∀ x ∈ r, 0 ≤ x ∧ x < p
theorem atR_get {v : List Int} {i : Nat} (h : i < v.length) : v[i]? = some (atR v i) := by
  unfold atR
  rw [List.getD_eq_getElem?_getD, List.getElem?_eq_getElem h]
  rfl
theorem atR_mem {v : List Int} {i : Nat} (h : i < v.length) : atR v i ∈ v := List.mem_of_getElem? (atR_get h)
theorem Vr.at {p : Int} {n : Nat} {r : List Int} (h : Vr p n r) {i : Nat} (hi : i < n) : 0 ≤ atR r i ∧ atR r i < p := h.2 _ (atR_mem (by rw [h.1]; exact hi))
theorem emod_in {p : Int} (hp : 0 < p) (x : Int) : 0 ≤ x % p ∧ x % p < p := ⟨Int.emod_nonneg _ (by omega), Int.emod_lt_of_pos _ hp⟩
theorem addR_vr {p : Int} {n : Nat} {v w : List Int} (hp : 0 < p) (hv : Vr p n v) (hw : Vr p n w) : Vr p n (addR p v w) := by
  refine ⟨by unfold addR; rw [List.length_map, List.length_zip, hv.1, hw.1, Nat.min_self], fun x hx => ?_⟩
  obtain ⟨y, _, rfl⟩ := List.mem_map.mp hx
  exact emod_in hp _
theorem scR_vr {p : Int} {n : Nat} {v : List Int} (hp : 0 < p) (hv : v.length = n) (a : Int) : Vr p n (scR p v a) := by
  refine ⟨by unfold scR; rw [List.length_map, hv], fun x hx => ?_⟩
  obtain ⟨y, _, rfl⟩ := List.mem_map.mp hx
  exact emod_in hp _
theorem clrR_vr {p : Int} {n : Nat} {r l : List Int} (hp : 0 < p) (hr : Vr p n r) (hl : Vr p n l) (k : Nat) : Vr p n (clrR p r l k) := by
  unfold clrR
  split
  · exact hr
  · exact addR_vr hp hr (scR_vr hp hl.1 _)
theorem leadR_vr {p : Int} {n : Nat} (hp : 0 < p) : ∀ {rs : List (List Int)} {k : Nat} {l : List Int}, (∀ r ∈ rs, Vr p n r) → leadR p rs k = some l → Vr p n l
  | [], _, _, _, h => by cases h
  | r :: rs, k, l, hr, h => by
    rw [leadR] at h
    split at h
    · exact leadR_vr hp (fun r hr' => hr r (List.mem_cons_of_mem _ hr')) h
    · cases h
      exact scR_vr hp (hr r (List.mem_cons_self ..)).1 _
theorem elimE_vr {p : Int} {n : Nat} {rows : List (List Int)} (hp : 0 < p) (hr : ∀ r ∈ rows, Vr p n r) : ∀ k, (∀ r ∈ (elimE p rows k).left, Vr p n r) ∧ (∀ r ∈ (elimE p rows k).table, Vr p n r)
  | 0 => ⟨hr, fun r h => by cases h⟩
  | k + 1 => by
    obtain ⟨h1, h2⟩ := elimE_vr hp hr k
    rw [elimE, stepE]
    split
    · exact ⟨h1, h2⟩
    · rename_i l hl
      have hv := leadR_vr hp h1 hl
      refine ⟨fun r h => ?_, fun r h => ?_⟩
      · obtain ⟨y, hy, rfl⟩ := List.mem_map.mp h
        exact clrR_vr hp (h1 y hy) hv _
      · rcases List.mem_append.mp h with h | h
        · obtain ⟨y, hy, rfl⟩ := List.mem_map.mp h
          exact clrR_vr hp (h2 y hy) hv _
        · rw [List.mem_singleton.mp h]
          exact hv
theorem elimE_len {p : Int} {rows : List (List Int)} : ∀ k, (elimE p rows k).left.length = rows.length ∧ (elimE p rows k).table.length = (elimE p rows k).piv.length ∧ (elimE p rows k).piv.length ≤ k
  | 0 => ⟨rfl, rfl, Nat.le_refl _⟩
  | k + 1 => by
    obtain ⟨h1, h2, h3⟩ := elimE_len (p := p) (rows := rows) k
    rw [elimE, stepE]
    split
    · exact ⟨h1, h2, by omega⟩
    · refine ⟨by rw [List.length_map, h1], by rw [List.length_append, List.length_map, h2, List.length_append]; rfl, by rw [List.length_append, List.length_singleton]; omega⟩
/-- a row comes back; what was tracked stands -/
def RetR (H : Hp) (Q : VK) (r : List Int) : Prop := ∀ v H', Same H H' → RR H' v r → Q v H'
theorem walk_zipT {a b : Addr} {xs ys : List V} {n : Nat} (hn : n = min xs.length ys.length) : Walk (RZ.ItzT K a b) n (fun H => SqT K H a xs ∧ SqT K H b ys) (YPair (fun i => xs[i]?) (fun i => ys[i]?)) := by
  subst hn
  refine ⟨fun i _ hi q => ?_, fun _ q => ⟨xs, ys, q.1, q.2, by omega⟩, fun i H v H' _ q y => ?_⟩
  · have h1 : i < xs.length := by omega
    have h2 : i < ys.length := by omega
    exact ⟨xs, ys, xs[i], ys[i], q.1, q.2, by simp [h1], by simp [h2]⟩
  · obtain ⟨T, x, z, h1, h2, h3, h4, h5⟩ := y
    exact ⟨T, x, z, h1, h2, h3, h4 xs q.1, h5 ys q.2⟩
theorem walk_row {a : Addr} {v : List Int} : Walk (Itt K a) v.length (fun H => SqT K H a (v.map V.int)) (YAt (v.map V.int)) := by
  have h := walk_tup (K := K) (a := a) (xs := v.map V.int)
  rw [List.length_map] at h
  exact h
/-! ### add, scaled, _cleared, inverse, _lead_at -/
def Sm (r : List Int) : Prop := ∀ x ∈ r, x.natAbs < 2 ^ 40
theorem Vr.sm {p : Int} {n : Nat} {r : List Int} (h : Vr p n r) (hp : p ≤ 31) : Sm r := fun x hx => by
  have := h.2 x hx
  omega
def spAdd (K : PySem.W.Frag) : Sp := fun vs H Q _ => ∃ (a b : V) (p : Int) (v w : List Int), vs = [a, b, .int p] ∧ RS K H a v ∧ RS K H b w ∧ 0 < p ∧ v.length ≤ 1000 ∧ v.length = w.length ∧ RetR H Q (addR p v w)
theorem ok_add (T : Txt K mg) : FnOk P w K mg base CX0 1 T.a_add T.d_add ["v", "w", "p"] (spAdd K) := by
  refine T.F_add.ok sc_add (fun vs H Q E h => ?_) (fun cdv A outer s H vs Q E hr h => ?_)
  · obtain ⟨a, b, p, v, w, rfl, _⟩ := h
    rfl
  · obtain ⟨_, _, p, v, w, rfl, ⟨a, rfl, ea⟩, ⟨b, rfl, eb⟩, hp, hl, hvw, q⟩ := h
    refine ⟨_, (pss_one (ps_ret (pe_callTy Own.call_tuple_ofF (by rfl) T.n_tuple (by decide +kernel) (pa_cons (pe_lc (own := [("x", 3), ("y", 4)]) (g := gTup K 2 (gCons (gName 3) (gCons (gName 4) gNil))) rfl sc_add.nd (RZ.pi_zipA (by rfl) T.n_zip (pa_cons (pv 0) (pa_cons (pv 1) pa_nil))) (blkOk_by (N := N_add) (sc := defScope s_add) (own := [("x", 3), ("y", 4)]) (by decide +kernel)) (fun _ _ _ _ _ => by exact (pg_tup rfl (pgs_cons (pg_name (i := 3) sc_add.nd rfl (.inl rfl)) (pgs_cons (pg_name (i := 4) sc_add.nd rfl (.inl rfl)) pgs_nil)))) (fun _ _ _ _ _ => pts_nil) (fun _ _ _ _ _ => (pe_op op_modE (pe_op op_add (pv 3) (pv 4)) (pv 2)))) pa_nil)))), ?_⟩
    refine ⟨_, rfl, _, rfl, a, b, v.map V.int, w.map V.int, rfl, .inr ⟨ea, eb, fun D nD => ?_⟩⟩
    refine lc_rep (walk_zipT (n := v.length) (by rw [List.length_map, List.length_map, ← hvw, Nat.min_self])) st_RI (fun i => (atR v i + atR w i) % p) (by omega) nD (fun H2 sm => ⟨Own.same_tup sm ea, Own.same_tup sm eb⟩) (fun i x H2 H3 Q2 hi sm hY q2 => ?_) (fun H2 acc sm eD hP => ?_)
    · obtain ⟨t, x1, x2, rfl, nt, rfl, g1, g2⟩ := hY
      have g1 : (v.map V.int)[i]? = some x1 := g1
      have g2 : (w.map V.int)[i]? = some x2 := g2
      have e1 : x1 = .int (atR v i) := by
        rw [List.getElem?_map, atR_get hi] at g1
        exact (Option.some.inj g1).symm
      have e2 : x2 = .int (atR w i) := by
        rw [List.getElem?_map, atR_get (by omega)] at g2
        exact (Option.some.inj g2).symm
      subst e1 e2
      refine ⟨t, [.int (atR v i), .int (atR w i)], rfl, .inl (.inl upd_same), rfl, _, [.int (atR w i)], rfl, _, [], rfl, rfl, rfl, ?_⟩
      exact ⟨_, rfl, _, rfl, _, _, rfl, rfl, _, rfl, _, _, rfl, rfl, hp, q2 _ _ (same_new nt) rfl⟩
    · have e := ints_of hP
      have e2 : (List.range v.length).map (fun i => (atR v i + atR w i) % p) = addR p v w := by
        have e3 : v.length = (addR p v w).length := by
          unfold addR
          rw [List.length_map, List.length_zip, ← hvw, Nat.min_self]
        rw [e3]
        refine map_range _ _ fun i x hx => ?_
        have hi : i < v.length := by
          rw [e3]
          exact (List.getElem?_eq_some_iff.mp hx).1
        unfold addR at hx
        rw [List.getElem?_map, List.zip, List.getElem?_zipWith, atR_get hi, atR_get (by omega : i < w.length)] at hx
        exact Option.some.inj hx
      rw [e2] at e
      subst e
      exact ⟨D, _, rfl, .inl (.inl eD), fun u ob nu hob => q _ _ (sm.trans (same_new nu)) ⟨u, rfl, ob, hob, upd_same⟩⟩
def spScaled (K : PySem.W.Frag) : Sp := fun vs H Q _ => ∃ (a : V) (c p : Int) (v : List Int), vs = [a, .int c, .int p] ∧ RS K H a v ∧ 0 < p ∧ v.length ≤ 1000 ∧ c.natAbs < 2 ^ 40 ∧ Sm v ∧ RetR H Q (scR p v c)
theorem ok_scaled (T : Txt K mg) : FnOk P w K mg base CX0 1 T.a_scaled T.d_scaled ["v", "a", "p"] (spScaled K) := by
  refine T.F_scaled.ok sc_scaled (fun vs H Q E h => ?_) (fun cdv A outer s H vs Q E hr h => ?_)
  · obtain ⟨a, c, p, v, rfl, _⟩ := h
    rfl
  · obtain ⟨_, c, p, v, rfl, ⟨a, rfl, ea⟩, hp, hl, hc, hv, q⟩ := h
    refine ⟨_, (pss_one (ps_ret (pe_callTy Own.call_tuple_ofF (by rfl) T.n_tuple (by decide +kernel) (pa_cons (pe_lc (own := [("x", 3)]) rfl sc_scaled.nd (pi_tup (pv 0)) (blkOk_by (N := N_scaled) (sc := defScope s_scaled) (own := [("x", 3)]) (by decide +kernel)) (fun _ _ _ _ _ => (pg_name (i := 3) sc_scaled.nd rfl (.inl rfl))) (fun _ _ _ _ _ => pts_nil) (fun _ _ _ _ _ => (pe_op op_modE (pe_op op_mulW (pv 1) (pv 3)) (pv 2)))) pa_nil)))), ?_⟩
    refine ⟨_, rfl, a, rfl, ⟨_, ea⟩, fun D nD => ?_⟩
    refine lc_rep (walk_row (v := v)) st_RI (fun i => (c * atR v i) % p) (by omega) nD (fun H2 sm => Own.same_tup sm ea) (fun i x H2 H3 Q2 hi sm hY q2 => ?_) (fun H2 acc sm eD hP => ?_)
    · obtain ⟨rfl, g1⟩ := hY
      have e1 : x = .int (atR v i) := by
        rw [List.getElem?_map, atR_get hi] at g1
        exact (Option.some.inj g1).symm
      subst e1
      exact ⟨rfl, _, rfl, _, rfl, _, _, rfl, rfl, wide_mul hc (hv _ (atR_mem hi)) (by decide) (by decide) (by decide), _, rfl, _, _, rfl, rfl, hp, q2 _ _ (Same.refl _) rfl⟩
    · have e := ints_of hP
      have e2 : (List.range v.length).map (fun i => (c * atR v i) % p) = scR p v c := by
        have e3 : v.length = (scR p v c).length := by
          unfold scR
          rw [List.length_map]
        rw [e3]
        refine map_range _ _ fun i x hx => ?_
        have hi : i < v.length := by
          rw [e3]
          exact (List.getElem?_eq_some_iff.mp hx).1
        unfold scR at hx
        rw [List.getElem?_map, atR_get hi] at hx
        exact Option.some.inj hx
      rw [e2] at e
      subst e
      exact ⟨D, _, rfl, .inl (.inl eD), fun u ob nu hob => q _ _ (sm.trans (same_new nu)) ⟨u, rfl, ob, hob, upd_same⟩⟩
def spCleared (K : PySem.W.Frag) : Sp := fun vs H Q _ => ∃ (a b : V) (k n : Nat) (p : Int) (r l : List Int), vs = [a, b, .int (k : Int), .int p] ∧ RS K H a r ∧ RS K H b l ∧ 0 < p ∧ p ≤ 31 ∧ k < n ∧ n ≤ 1000 ∧ Vr p n r ∧ Vr p n l ∧ ∀ v' H', Same H H' → RS K H' v' (clrR p r l k) → (RR H a r → RR H' v' (clrR p r l k)) → Q v' H'
theorem atV {r : List Int} {k : Nat} (h : k < r.length) : atI (r.map V.int) (k : Int) = some (.int (atR r k)) := atI_nat (by rw [List.getElem?_map, atR_get h]; rfl)
theorem ok_cleared (T : Txt K mg) : FnOk P w K mg base CX0 2 T.a__cleared T.d__cleared ["row", "lead", "at", "p"] (spCleared K) := by
  have G_add : FnOk P w K mg base CX0 1 T.a_add T.d_add ["v", "w", "p"] (spAdd K) := ok_add T
  have G_scaled : FnOk P w K mg base CX0 1 T.a_scaled T.d_scaled ["v", "a", "p"] (spScaled K) := ok_scaled T
  refine T.F__cleared.ok sc__cleared (fun vs H Q E h => ?_) (fun cdv A outer s H vs Q E hr h => ?_)
  · obtain ⟨a, b, k, n, p, r, l, rfl, _⟩ := h
    rfl
  · obtain ⟨_, _, k, n, p, r, l, rfl, ⟨a, rfl, ea⟩, ⟨b, rfl, eb⟩, hp, hp2, hk, hn, hvr, hvl, q⟩ := h
    have hkr : k < r.length := by rw [hvr.1]; exact hk
    refine ⟨_, (pss_cons (ps_if (pt_cmpR op_eq (pe_ix ix_tup (pv 0) (pv 2) (fun _ _ => rfl)) pe_int (nomark _)) 
      (pss_one (ps_ret (pv 0))) pss_nil) 
    (pss_one (ps_ret (pe_call G_add (hr.mono (by decide)) (by rfl) T.g_add T.F_add.kp T.b_add .nil pass0 (pa_cons (pv 0) (pa_cons (pe_call G_scaled (hr.mono (by decide)) (by rfl) T.g_scaled T.F_scaled.kp T.b_scaled .nil pass0 (pa_cons (pv 1) (pa_cons (pe_un un_neg (pe_ix ix_tup (pv 0) (pv 2) (fun _ _ => rfl))) (pa_cons (pv 3) pa_nil)))) (pa_cons (pv 3) pa_nil))))))), ?_⟩
    refine ⟨_, rfl, _, rfl, a, _, _, _, rfl, rfl, ea, atV hkr, rfl, _, rfl, ite2 (fun c => ?_) (fun c => ?_)⟩
    · have c1 : atR r k = 0 := V.int.inj (of_decide_eq_true c)
      have e : clrR p r l k = r := by unfold clrR; rw [if_pos c1]
      exact ⟨_, rfl, q _ _ (Same.refl _) ⟨a, rfl, by rw [e]; exact ea⟩ fun h => by rw [e]; exact h⟩
    · have c1 : ¬ atR r k = 0 := fun z => c (decide_eq_true (congrArg V.int z))
      have hb := hvr.at hk
      refine ⟨_, rfl, _, rfl, _, rfl, _, rfl, a, _, _, _, rfl, rfl, ea, atV hkr, _, rfl, _, rfl, .ref b, -(atR r k), p, l, rfl, ⟨b, rfl, eb⟩, hp, by rw [hvl.1]; exact hn, by omega, hvl.sm hp2, fun v2 H2 sm2 hR2 => ?_⟩
      refine ⟨_, rfl, .ref a, v2, p, r, _, rfl, ⟨a, rfl, Own.same_tup sm2 ea⟩, rs_of hR2, hp, by rw [hvr.1]; exact hn, by rw [hvr.1, (scR_vr hp hvl.1 _).1], fun v3 H3 sm3 hR3 => ?_⟩
      have e : clrR p r l k = addR p r (scR p l (-(atR r k))) := by unfold clrR; rw [if_neg c1]
      rw [← e] at hR3
      exact q _ _ (sm2.trans sm3) (rs_of hR3) fun _ => hR3
def spInv0 : Sp := fun vs H Q _ => ∃ (a p : Int), vs = [.int a, .int p] ∧ 2 ≤ p ∧ p ≤ 31 ∧ a % p ≠ 0 ∧ Q (.int (invR p a)) H
theorem ok_inv0 (T : Txt K mg) : FnOk P w K mg base CX0 2 T.a_inverse T.d_inverse ["a", "p"] spInv0 := by
  have G_power : FnOk P w K mg base CX0 1 T.a_power T.d_power ["a", "k"] spPower := ok_power T
  refine T.F_inverse.ok sc_inverse (fun vs H Q E h => ?_) (fun cdv A outer s H vs Q E hr h => ?_)
  · obtain ⟨a, p, rfl, _⟩ := h
    rfl
  · obtain ⟨a, p, rfl, h2, h31, h0, q⟩ := h
    refine ⟨_, (pss_cons (ps_set (i := 2) sc_inverse.nd rfl (.inl rfl) (pe_op op_modE (pv 0) (pv 1))) 
    (pss_cons (ps_if (pt_cmpR op_eq (pv 2) pe_int (nomark _)) 
      (pss_one ps_never) pss_nil) 
    (pss_one (ps_ret (pe_op op_modE (pe_call G_power (hr.mono (by decide)) (by rfl) T.g_power T.F_power.kp T.b_power .nil pass0 (pa_cons (pv 2) (pa_cons (pe_op op_sub (pv 1) pe_int) pa_nil))) (pv 1)))))), ?_⟩
    have hp : 0 < p := by omega
    have hr1 := emod_in hp a
    refine ⟨_, rfl, _, rfl, _, _, rfl, rfl, hp, ?_⟩
    refine ⟨_, rfl, rfl, _, rfl, ite2 (fun c => ?_) (fun c => ?_)⟩
    · exact absurd (V.int.inj (of_decide_eq_true c)) h0
    · have e1 : p - 2 = ((p - 2).toNat : Int) := by omega
      refine ⟨_, rfl, _, rfl, _, _, rfl, rfl, a % p, (p - 2).toNat, ?_, by omega, by omega, _, rfl, _, _, rfl, rfl, hp, q⟩
      rw [← e1]
      rfl
/-! ### _lead_at, reduced, span -/
theorem emod_small {p x : Int} (h0 : 0 ≤ x) (h1 : x < p) : x % p = x := Int.emod_eq_of_lt h0 h1
theorem invR_small {p : Int} (h2 : 2 ≤ p) (a : Int) : 0 ≤ invR p a ∧ invR p a < p := emod_in (by omega) _
def spLead (K : PySem.W.Frag) : Sp := fun vs H Q _ => ∃ (a : Addr) (us : List V) (k n : Nat) (p : Int) (rs : List (List Int)), vs = [.ref a, .int (k : Int), .int p] ∧ SqL K H a us ∧ Paired (RS K H) us rs ∧ 2 ≤ p ∧ p ≤ 31 ∧ k < n ∧ n ≤ 1000 ∧ (∀ r ∈ rs, Vr p n r) ∧
  (leadR p rs k = none → Q .non H) ∧ (∀ l, leadR p rs k = some l → RetR H Q l)
theorem leadR_drop {p : Int} {k : Nat} : ∀ (rs : List (List Int)) (i : Nat), (∀ j r, j < i → rs[j]? = some r → atR r k = 0) → leadR p rs k = leadR p (rs.drop i) k
  | rs, 0, _ => rfl
  | [], i + 1, _ => by rw [List.drop_nil]
  | r :: rs, i + 1, h => by
    have h0 := h 0 r (Nat.succ_pos i) rfl
    rw [leadR, if_pos h0, List.drop_succ_cons]
    exact leadR_drop rs i fun j r' hj e => h (j + 1) r' (Nat.succ_lt_succ hj) e
theorem ok_lead (T : Txt K mg) : FnOk P w K mg base CX0 3 T.a__lead_at T.d__lead_at ["rows", "at", "p"] (spLead K) := by
  have G_inverse : FnOk P w K mg base CX0 2 T.a_inverse T.d_inverse ["a", "p"] spInv0 := ok_inv0 T
  have G_scaled : FnOk P w K mg base CX0 1 T.a_scaled T.d_scaled ["v", "a", "p"] (spScaled K) := ok_scaled T
  refine T.F__lead_at.ok sc__lead_at (fun vs H Q E h => ?_) (fun cdv A outer s H vs Q E hr h => ?_)
  · obtain ⟨a, us, k, n, p, rs, rfl, _⟩ := h
    rfl
  · obtain ⟨a, us, k, n, p, rs, rfl, hS, hP, h2, h31, hk, hn, hv, q0, q1⟩ := h
    refine ⟨_, (pss_cons (ps_for PassesOwn.never rfl (pi_list (pv 0)) (pg_name (i := 3) sc__lead_at.nd rfl (.inl rfl)) 
      (pss_one (ps_if (pt_cmpR op_ne (pe_ix ix_tup (pv 3) (pv 1) (fun _ _ => rfl)) pe_int (nomark _)) 
        (pss_one (ps_ret (pe_call G_scaled (hr.mono (by decide)) (by rfl) T.g_scaled T.F_scaled.kp T.b_scaled .nil pass0 (pa_cons (pv 3) (pa_cons (pe_call G_inverse (hr.mono (by decide)) (by rfl) T.g_inverse T.F_inverse.kp T.b_inverse .nil pass0 (pa_cons (pe_ix ix_tup (pv 3) (pv 1) (fun _ _ => rfl)) (pa_cons (pv 2) pa_nil))) (pa_cons (pv 2) pa_nil)))))) pss_nil))) 
    (pss_one (ps_ret pe_non))), ?_⟩
    refine ⟨_, rfl, a, rfl, ⟨_, hS⟩, for_list (xs := us) (fun i σ H' => ∃ y : Option V, σ = [some (.ref a), some (.int (k : Int)), some (.int p), y] ∧ H' = H ∧ ∀ j r, j < i → rs[j]? = some r → atR r k = 0)
      ⟨none, rfl, rfl, fun j r hj => absurd hj (Nat.not_lt_zero j)⟩ (fun i σ H' _ ⟨_, _, e, _⟩ => by rw [e]; exact hS) ?_ ?_⟩
    · rintro i x σ H' hi ⟨y, rfl, rfl, hz⟩
      obtain ⟨r, er, t, rfl, et⟩ := paired_get hP hi
      have hvr := hv r (List.mem_of_getElem? er)
      have hkr : k < r.length := by rw [hvr.1]; exact hk
      refine ⟨_, rfl, _, rfl, t, _, _, _, rfl, rfl, et, atV hkr, rfl, _, rfl, ite2 (fun c => ?_) (fun c => ?_)⟩
      · have c1 : ¬ atR r k = 0 := fun z => by
          have c : (!decide (V.int (atR r k) = V.int 0)) = true := c
          rw [z] at c
          exact absurd c (by decide)
        have hb := hvr.at hk
        have hl : leadR p rs k = some (scR p r (invR p (atR r k))) := by
          rw [leadR_drop rs i hz]
          have hlt := (List.getElem?_eq_some_iff.mp er).1
          have ed : rs.drop i = r :: rs.drop (i + 1) := by
            rw [List.drop_eq_getElem_cons hlt]
            have := List.getElem?_eq_getElem hlt
            rw [er] at this
            rw [← Option.some.inj this]
          rw [ed, leadR, if_neg c1]
        have hi2 := invR_small h2 (atR r k)
        refine ⟨_, rfl, _, rfl, _, rfl, t, _, _, _, rfl, rfl, et, atV hkr, _, rfl, atR r k, p, rfl, h2, h31, by rw [emod_small hb.1 hb.2]; exact c1, _, rfl, .ref t, _, p, r, rfl, ⟨t, rfl, et⟩, by omega, by rw [hvr.1]; exact hn, by omega, hvr.sm h31, fun v2 H2 sm2 hR2 => ?_⟩
        exact q1 _ hl v2 H2 sm2 hR2
      · refine ⟨_, rfl, rfl, fun j r' hj e => ?_⟩
        by_cases hji : j = i
        · subst hji
          have e2 : r' = r := Option.some.inj (e.symm.trans er)
          rw [e2]
          have c : ¬ (!decide (V.int (atR r k) = V.int 0)) = true := c
          by_cases hz0 : atR r k = 0
          · exact hz0
          · exact absurd (by rw [decide_eq_false (fun z => hz0 (V.int.inj z))]; rfl) c
        · exact hz j r' (by omega) e
    · rintro σ H' ⟨y, rfl, rfl, hz⟩
      refine q0 ?_
      rw [leadR_drop rs us.length hz, Paired.length hP, List.drop_length]
      rfl
/-- a list or tuple of rows -/
def Rws (K : PySem.W.Frag) (H : Hp) (a : Addr) (rs : List (List Int)) : Prop := ∃ us, (SqL K H a us ∨ SqT K H a us) ∧ Paired (RR H) us rs
/-- a list or tuple of rows, plain tuples among them -/
def RwS (K : PySem.W.Frag) (H : Hp) (a : Addr) (rs : List (List Int)) : Prop := ∃ us, (SqL K H a us ∨ SqT K H a us) ∧ Paired (RS K H) us rs
theorem Rws.s {H : Hp} {a : Addr} {rs : List (List Int)} (h : Rws K H a rs) : RwS K H a rs := by
  obtain ⟨us, h1, h2⟩ := h
  exact ⟨us, h1, rs_all h2⟩
def natV (l : List Nat) : List V := l.map fun k : Nat => V.int (k : Int)
/-- the pair of the table and the pivots, at t -/
structure RedAt (H : Hp) (t : Addr) (tb : List (List Int)) (pv_ : List Nat) : Prop where
  ex : ∃ (a b : Addr) (us : List V), H t = some (.tup [.ref a, .ref b]) ∧ H a = some (.tup us) ∧ Paired (RR H) us tb ∧ H b = some (.tup (natV pv_))
theorem RedAt.mono {H H' : Hp} {t : Addr} {tb : List (List Int)} {pv_ : List Nat} (e : Same H H') (h : RedAt H t tb pv_) : RedAt H' t tb pv_ := by
  obtain ⟨a, b, us, h1, h2, h3, h4⟩ := h.ex
  exact ⟨a, b, us, e _ _ h1, e _ _ h2, st_RR.all e h3, e _ _ h4⟩
def spReduced (K : PySem.W.Frag) : Sp := fun vs H Q _ => ∃ (a : Addr) (n : Nat) (p : Int) (rs : List (List Int)), vs = [.ref a, .int (n : Int), .int p] ∧ RwS K H a rs ∧ 2 ≤ p ∧ p ≤ 31 ∧ n ≤ 1000 ∧ rs.length ≤ 1000 ∧ (∀ r ∈ rs, Vr p n r) ∧
  ∀ t H', Same H H' → RedAt H' t (redT p n rs) (redP p n rs) → Q (.ref t) H'
theorem paired_map {α : Type} {R : Hp → V → α → Prop} {H : Hp} {us : List V} {xs ys : List α} (h : Paired (R H) us xs) (e : xs = ys) : Paired (R H) us ys := e ▸ h
theorem range_map_get {α β : Type} (g : α → β) (d : α) (xs : List α) : (List.range xs.length).map (fun i => g (xs.getD i d)) = xs.map g := by
  have h := map_range (fun i => g (xs.getD i d)) (xs.map g) (fun i x hx => by
    rw [List.getElem?_map] at hx
    cases e : xs[i]? with
    | none => rw [e] at hx; cases hx
    | some y =>
      rw [e] at hx
      rw [List.getD_eq_getElem?_getD, e]
      exact Option.some.inj hx)
  rw [List.length_map] at h
  exact h
theorem ok_reduced (T : Txt K mg) : FnOk P w K mg base CX0 4 T.a_reduced T.d_reduced ["rows", "width", "p"] (spReduced K) := by
  have G__lead_at : FnOk P w K mg base CX0 3 T.a__lead_at T.d__lead_at ["rows", "at", "p"] (spLead K) := ok_lead T
  have G__cleared : FnOk P w K mg base CX0 2 T.a__cleared T.d__cleared ["row", "lead", "at", "p"] (spCleared K) := ok_cleared T
  refine T.F_reduced.ok sc_reduced (fun vs H Q E h => ?_) (fun cdv A outer s H vs Q E hr h => ?_)
  · obtain ⟨a, n, p, rs, rfl, _⟩ := h
    rfl
  · obtain ⟨a, n, p, rs, rfl, ⟨us, hS, hP⟩, h2, h31, hn, hrl, hv, q⟩ := h
    have hp : 0 < p := by omega
    refine ⟨_, (pss_cons (ps_set (i := 3) sc_reduced.nd rfl (.inl rfl) (pe_callTy call_list_of (by rfl) T.n_list (by decide +kernel) (pa_cons (pv 0) pa_nil))) 
    (pss_cons (ps_set (i := 4) sc_reduced.nd rfl (.inl rfl) (pe_lst pa_nil)) 
    (pss_cons (ps_set (i := 5) sc_reduced.nd rfl (.inl rfl) (pe_lst pa_nil)) 
    (pss_cons (ps_for PassesOwn.never rfl (pi_range1 (by rfl) T.n_range (pa_cons (pv 1) pa_nil)) (pg_name (i := 6) sc_reduced.nd rfl (.inr rfl)) 
      (pss_cons (ps_set (i := 7) sc_reduced.nd rfl (.inr rfl) (pe_call G__lead_at (hr.mono (by decide)) (by rfl) T.g__lead_at T.F__lead_at.kp T.b__lead_at .nil pass0 (pa_cons (pv 3) (pa_cons (pv 6) (pa_cons (pv 2) pa_nil))))) 
      (pss_one (ps_if (pt_cmpR op_notN (pv 7) pe_non (nomark _)) 
        (pss_cons (ps_setLc (i := 3) (own := [("row", 8)]) rfl sc_reduced.nd rfl rfl (sw_true rfl rfl rfl (by decide +kernel)) (pi_list (pv 3)) (blkOk_by (N := N_reduced) (sc := defScope s_reduced) (own := [("row", 8)]) (by decide +kernel)) (fun _ _ _ _ _ => (pg_name (i := 8) sc_reduced.nd rfl (.inl rfl))) (fun _ _ _ _ _ => pts_nil) (fun _ _ _ _ _ => (pe_call G__cleared (hr.mono (by decide)) (by rfl) T.g__cleared T.F__cleared.kp T.b__cleared .nil pass0 (pa_cons (pv 8) (pa_cons (pv 7) (pa_cons (pv 6) (pa_cons (pv 2) pa_nil))))))) 
        (pss_cons (ps_setLc (i := 4) (own := [("row", 8)]) rfl sc_reduced.nd rfl rfl (sw_true rfl rfl rfl (by decide +kernel)) (pi_list (pv 4)) (blkOk_by (N := N_reduced) (sc := defScope s_reduced) (own := [("row", 8)]) (by decide +kernel)) (fun _ _ _ _ _ => (pg_name (i := 8) sc_reduced.nd rfl (.inl rfl))) (fun _ _ _ _ _ => pts_nil) (fun _ _ _ _ _ => (pe_call G__cleared (hr.mono (by decide)) (by rfl) T.g__cleared T.F__cleared.kp T.b__cleared .nil pass0 (pa_cons (pv 8) (pa_cons (pv 7) (pa_cons (pv 6) (pa_cons (pv 2) pa_nil))))))) 
        (pss_cons (ps_expr (pe_bm PySem.F.plainAttrs_list PySem.F.slot_list_append PySem.F.type_list_append mt_append (pv 4) (pa_cons (pv 7) pa_nil))) 
        (pss_one (ps_expr (pe_bm PySem.F.plainAttrs_list PySem.F.slot_list_append PySem.F.type_list_append mt_append (pv 5) (pa_cons (pv 6) pa_nil))))))) pss_nil)))) 
    (pss_one (ps_ret (pe_tup (pa_cons (pe_callTy call_tuple_of (by rfl) T.n_tuple (by decide +kernel) (pa_cons (pv 4) pa_nil)) (pa_cons (pe_callTy call_tuple_of (by rfl) T.n_tuple (by decide +kernel) (pa_cons (pv 5) pa_nil)) pa_nil))))))))), ?_⟩
    refine ⟨_, rfl, a, us, rfl, hS, fun lo nlo => ?_⟩
    have sm1 := same_new (o := .lst us) nlo
    refine ⟨Nat.zero_le _, fun tb ntb => ?_⟩
    have sm2 := same_new (o := .lst []) ntb
    refine ⟨Nat.zero_le _, fun pi_ npi => ?_⟩
    have sm3 := same_new (o := .lst []) npi
    have hlotb : lo ≠ tb := ne_of_none upd_same ntb
    have hne : tb ≠ pi_ := ne_of_none upd_same npi
    have eL : (upd (upd (upd H lo (.lst us)) tb (.lst [])) pi_ (.lst [])) lo = some (.lst us) := sm3 _ _ (sm2 _ _ upd_same)
    have eT : (upd (upd (upd H lo (.lst us)) tb (.lst [])) pi_ (.lst [])) tb = some (.lst []) := sm3 _ _ upd_same
    have smA : Same H (upd (upd (upd H lo (.lst us)) tb (.lst [])) pi_ (.lst [])) := sm1.trans (sm2.trans sm3)
    refine ⟨_, rfl, (n : Int), rfl, by omega, by omega, for_range (lo := 0) (n := n) (fun i σ H' => ∃ (lo tb : Addr) (ls ts : List V) (y6 y7 : Option V), σ = [some (.ref a), some (.int (n : Int)), some (.int p), some (.ref lo), some (.ref tb), some (.ref pi_), y6, y7, none] ∧ Same H H' ∧ tb ≠ pi_ ∧ H tb = none ∧ H pi_ = none ∧
        H' lo = some (.lst ls) ∧ Paired (RS K H') ls (elimE p rs i).left ∧ H' tb = some (.lst ts) ∧ Paired (RR H') ts (elimE p rs i).table ∧ H' pi_ = some (.lst (natV (elimE p rs i).piv)))
      ⟨lo, tb, us, [], none, none, rfl, smA, hne, (sm1.free ntb), (sm1.trans sm2).free npi, eL, st_RS.all smA hP, eT, .nil, upd_same⟩ (fun i σ H' hi hPv => ?_) (fun σ H' hPv => ?_)⟩
    · obtain ⟨lo, tb, ls, ts, y6, y7, rfl, sm, hne, nT, nP, eL, hL, eT, hT, ePi⟩ := hPv
      have hva := elimE_vr hp hv i
      have hle := elimE_len (p := p) (rows := rs) i
      have hstep : elimE p rs (i + 1) = stepE p (elimE p rs i) i := rfl
      have e0 : ((0 : Int) + (i : Int)) = (i : Int) := by omega
      refine ⟨_, rfl, _, rfl, _, rfl, lo, ls, i, n, p, (elimE p rs i).left, by rw [e0]; rfl, .inl (.inl eL), hL, h2, h31, hi, hn, hva.1, fun hnone => ?_, fun l hl => fun v7 H2 sm2 hR => ?_⟩
      · refine ⟨_, rfl, rfl, _, rfl, iteB rfl ?_⟩
        refine ⟨lo, tb, ls, ts, _, _, rfl, sm, hne, nT, nP, eL, ?_, eT, ?_, ?_⟩
        all_goals (rw [hstep, stepE, hnone]; assumption)
      · have hvl := leadR_vr hp hva.1 hl
        obtain ⟨tl, rfl, etl⟩ := hR
        refine ⟨_, rfl, rfl, _, rfl, iteA rfl ?_⟩
        have hst2 : elimE p rs (i + 1) = ⟨(elimE p rs i).left.map (fun r => clrR p r l i), ((elimE p rs i).table.map fun r => clrR p r l i) ++ [l], (elimE p rs i).piv ++ [i]⟩ := by
          rw [hstep, stepE, hl]
        -- left
        refine ⟨_, rfl, lo, rfl, ⟨_, .inl (.inl (sm2 _ _ eL))⟩, fun D nD => ?_⟩
        refine lc_rep walk_list (st_RS (K := K)) (fun j => clrR p ((elimE p rs i).left.getD j []) l i) (by rw [Paired.length hL, hle.1]; omega) nD (fun H3 sm3 => .inl (.inl (sm3 _ _ (sm2 _ _ eL)))) (fun j x H3 H4 Q2 hj sm3 hY q2 => ?_) (fun H3 acc sm3 eD hPa => ?_)
        · obtain ⟨rfl, g1⟩ := hY
          obtain ⟨r, er, t, rfl, et⟩ := paired_get hL g1
          have hr2 : (elimE p rs i).left.getD j [] = r := by rw [List.getD_eq_getElem?_getD, er]; rfl
          refine ⟨rfl, _, rfl, _, rfl, _, rfl, _, rfl, .ref t, .ref tl, i, n, p, r, l, by rw [e0]; rfl, ⟨t, rfl, Own.same_tup (sm2.trans sm3) et⟩, ⟨tl, rfl, (etl.mono sm3).sq⟩, hp, h31, hi, hn, hva.1 r (List.mem_of_getElem? er), hvl, fun v H5 sm5 hR5 _ => ?_⟩
          refine q2 v H5 sm5 ?_
          rw [hr2]
          exact hR5
        · have hPa : Paired (RS K H3) acc ((elimE p rs i).left.map fun r => clrR p r l i) := by
            rw [Paired.length hL] at hPa
            exact paired_map hPa (range_map_get (fun r => clrR p r l i) [] _)
          have smB := sm2.trans sm3
          -- table
          refine ⟨_, rfl, tb, rfl, ⟨_, .inl (.inl (smB _ _ eT))⟩, fun D2 nD2 => ?_⟩
          refine lc_rep walk_list st_RR (fun j => clrR p ((elimE p rs i).table.getD j []) l i) (by rw [Paired.length hT, hle.2.1]; omega) nD2 (fun H5 sm5 => .inl (.inl (sm5 _ _ (smB _ _ eT)))) (fun j x H5 H6 Q2 hj sm5 hY q2 => ?_) (fun H5 acc2 sm5 eD2 hPb => ?_)
          · obtain ⟨rfl, g1⟩ := hY
            obtain ⟨r, er, t, rfl, et⟩ := paired_get hT g1
            have hr2 : (elimE p rs i).table.getD j [] = r := by rw [List.getD_eq_getElem?_getD, er]; rfl
            refine ⟨rfl, _, rfl, _, rfl, _, rfl, _, rfl, .ref t, .ref tl, i, n, p, r, l, by rw [e0]; rfl, ⟨t, rfl, ((et.mono smB).mono sm5).sq⟩, ⟨tl, rfl, ((etl.mono sm3).mono sm5).sq⟩, hp, h31, hi, hn, hva.2 r (List.mem_of_getElem? er), hvl, fun v H7 sm7 _ hR7 => ?_⟩
            have hR7 := hR7 ⟨t, rfl, (et.mono smB).mono sm5⟩
            refine q2 v H7 sm7 ?_
            rw [hr2]
            exact hR7
          · have hPb : Paired (RR H5) acc2 ((elimE p rs i).table.map fun r => clrR p r l i) := by
              rw [Paired.length hT] at hPb
              exact paired_map hPb (range_map_get (fun r => clrR p r l i) [] _)
            have smC := smB.trans sm5
            have nD2H : H D2 = none := (sm.trans smB).free nD2
            have hD2pi : D2 ≠ pi_ := fun z => by
              rw [z] at nD2
              rw [smB _ _ ePi] at nD2
              cases nD2
            have hlenb : acc2.length ≤ 1000 := by rw [Paired.length hPb, List.length_map, hle.2.1]; omega
            -- table.append(lead)
            refine ⟨.ref D2, rfl, .inl ⟨rfl, _, .inl (.inl eD2)⟩, _, rfl, D2, _, _, rfl, rfl, eD2, small1000 hlenb, ?_⟩
            have ePi2 : (upd H5 D2 (.lst (acc2 ++ [.ref tl]))) pi_ = some (.lst (natV (elimE p rs i).piv)) := by
              rw [upd_ne hD2pi.symm]
              exact smC _ _ ePi
            -- pivots.append(at)
            refine ⟨.ref pi_, rfl, .inl ⟨rfl, _, .inl (.inl ePi2)⟩, _, rfl, pi_, _, _, rfl, rfl, ePi2, small1000 (by unfold natV; rw [List.length_map]; omega), ?_⟩
            have hDD2 : D ≠ D2 := fun z => by
              rw [← z, eD] at nD2
              cases nD2
            have hDpi : D ≠ pi_ := fun z => by
              rw [z] at nD
              rw [sm2 _ _ ePi] at nD
              cases nD
            refine ⟨D, D2, acc, acc2 ++ [.ref tl], _, _, rfl, same_mut (same_mut (sm.trans smC) nD2H) nP, hD2pi, nD2H, nP, ?_, ?_, ?_, ?_, ?_⟩
            · rw [upd_ne hDpi, upd_ne hDD2]
              exact sm5 _ _ eD
            · rw [hst2]
              exact st_RS.allPut ePi2 (st_RS.allPut eD2 (st_RS.all sm5 hPa))
            · rw [upd_ne hD2pi, upd_same]
            · rw [hst2]
              exact st_RR.allPut ePi2 (st_RR.allPut eD2 (paired_add hPb ⟨tl, rfl, (etl.mono sm3).mono sm5⟩))
            · rw [upd_same, hst2, e0]
              unfold natV
              rw [List.map_append]
              rfl
    · obtain ⟨lo, tb, ls, ts, y6, y7, rfl, sm, hne, nT, nP, eL, hL, eT, hT, ePi⟩ := hPv
      refine ⟨_, rfl, tb, _, rfl, .inl ⟨.inl (.inl eT), fun t1 nt1 => ?_⟩⟩
      have s1 := same_new (o := .tup ts) nt1
      refine ⟨_, rfl, pi_, _, rfl, .inl ⟨.inl (.inl (s1 _ _ ePi)), fun t2 nt2 => ?_⟩⟩
      have s2 := same_new (o := .tup (natV (elimE p rs n).piv)) nt2
      refine ⟨by show 2 ≤ sizeLine; decide, fun t3 nt3 => ?_⟩
      have s3 := same_new (o := .tup [.ref t1, .ref t2]) nt3
      exact q _ _ (sm.trans (s1.trans (s2.trans s3))) ⟨t1, t2, ts, upd_same, s3 _ _ (s2 _ _ upd_same), st_RR.all (s1.trans (s2.trans s3)) hT, s3 _ _ upd_same⟩
def spSpan (K : PySem.W.Frag) : Sp := fun vs H Q _ => ∃ (a : Addr) (n : Nat) (p : Int) (rs : List (List Int)), vs = [.ref a, .int (n : Int), .int p] ∧ RwS K H a rs ∧ 2 ≤ p ∧ p ≤ 31 ∧ n ≤ 1000 ∧ rs.length ≤ 1000 ∧ (∀ r ∈ rs, Vr p n r) ∧
  ∀ t us H', Same H H' → H' t = some (.tup us) → Paired (RR H') us (redT p n rs) → Q (.ref t) H'
theorem ok_span (T : Txt K mg) : FnOk P w K mg base CX0 5 T.a_span T.d_span ["rows", "width", "p"] (spSpan K) := by
  have G_reduced : FnOk P w K mg base CX0 4 T.a_reduced T.d_reduced ["rows", "width", "p"] (spReduced K) := ok_reduced T
  refine T.F_span.ok sc_span (fun vs H Q E h => ?_) (fun cdv A outer s H vs Q E hr h => ?_)
  · obtain ⟨a, n, p, rs, rfl, _⟩ := h
    rfl
  · obtain ⟨a, n, p, rs, rfl, hW, h2, h31, hn, hrl, hv, q⟩ := h
    refine ⟨_, (pss_cons (ps_asg (pe_call G_reduced (hr.mono (by decide)) (by rfl) T.g_reduced T.F_reduced.kp T.b_reduced .nil pass0 (pa_cons (pv 0) (pa_cons (pv 1) (pa_cons (pv 2) pa_nil)))) (pg_tup rfl (pgs_cons (pg_name (i := 3) sc_span.nd rfl (.inl rfl)) (pgs_cons (pg_name (i := 4) sc_span.nd rfl (.inl rfl)) pgs_nil)))) 
    (pss_one (ps_ret (pv 3)))), ?_⟩
    refine ⟨_, rfl, _, rfl, _, rfl, a, n, p, rs, rfl, hW, h2, h31, hn, hrl, hv, fun t H' sm hR => ?_⟩
    obtain ⟨t1, t2, us, e1, e2, e3, e4⟩ := hR.ex
    refine ⟨t, [.ref t1, .ref t2], rfl, .inl (.inl e1), rfl, _, [.ref t2], rfl, _, [], rfl, rfl, ?_⟩
    exact ⟨_, rfl, q t1 us H' sm e2 e3⟩
/-! ### rows of 0; rest (the mirror) -/
def zeroR (n : Nat) : List Int := List.replicate n 0
theorem zeroR_vr {p : Int} (hp : 0 < p) (n : Nat) : Vr p n (zeroR n) := ⟨List.length_replicate, fun x hx => by
  have := List.eq_of_mem_replicate hx
  omega⟩
theorem flat_rep {α : Type} (x : α) : ∀ n, (List.replicate n [x]).flatten = List.replicate n x
  | 0 => rfl
  | n + 1 => by rw [List.replicate_succ, List.flatten_cons, flat_rep x n]; rfl
/-- the first place with a 1 -/
def oneAt (r : List Int) : Nat := r.findIdx fun x => decide (x = 1)
def restR (p : Int) : List (List Int) → List Int → List Int
  | [], v => v
  | r :: rs, v => restR p rs (clrR p v r (oneAt r))
/-- each row of the table has a 1, at a place below n -/
def Ones (n : Nat) (rs : List (List Int)) : Prop := ∀ r ∈ rs, oneAt r < n
theorem oneAt_get {r : List Int} (h : oneAt r < r.length) : r[oneAt r]? = some 1 ∧ ∀ m, m < oneAt r → r[m]? ≠ some 1 := by
  have hh : r.findIdx (fun x => decide (x = 1)) < r.length := h
  refine ⟨?_, fun m hm => ?_⟩
  · have h2 := List.findIdx_getElem (xs := r) (p := fun x => decide (x = 1)) (w := hh)
    have e := of_decide_eq_true h2
    show r[r.findIdx fun x => decide (x = 1)]? = some 1
    rw [List.getElem?_eq_getElem hh, e]
  · intro z
    have h2 := List.not_of_lt_findIdx (xs := r) (p := fun x => decide (x = 1)) hm
    obtain ⟨hlt, e⟩ := List.getElem?_eq_some_iff.mp z
    rw [e] at h2
    exact absurd h2 (by decide)
theorem restR_vr {p : Int} {n : Nat} (hp : 0 < p) : ∀ (rs : List (List Int)) (v : List Int), (∀ r ∈ rs, Vr p n r) → Vr p n v → Vr p n (restR p rs v)
  | [], v, _, h => h
  | r :: rs, v, hr, h => restR_vr hp rs _ (fun r hr' => hr r (List.mem_cons_of_mem _ hr')) (clrR_vr hp h (hr r (List.mem_cons_self ..)) _)
/-! ### _law_state, _law_take -/
theorem mem_cut {xs : List V} {lo hi : Option Int} {i : Nat} {x : V} (h : (cutV xs lo hi)[i]? = some x) : x ∈ xs :=
  List.mem_of_mem_drop (List.mem_of_mem_take (List.mem_of_getElem? h))
theorem mem_ints {ns : List Int} {x : V} (h : x ∈ ns.map V.int) : ∃ z, x = .int z := by
  obtain ⟨z, _, e⟩ := List.mem_map.mp h
  exact ⟨z, e.symm⟩
def spState (K : PySem.W.Frag) : Sp := fun vs H Q _ => ∃ (a : Addr) (ns : List Int), vs = [.ref a] ∧ SqL K H a (ns.map V.int) ∧
  ∀ H' p (s t : Int), Same H H' → H p = none → H' p = some (.lst [.int s, .int t]) → Q (.ref p) H'
theorem ok_state (T : Txt K mg) : FnOk P w K mg base CX0 1 T.a__law_state T.d__law_state ["script"] (spState K) := by
  refine T.F__law_state.ok sc__law_state (fun vs H Q E h => ?_) (fun cdv A outer s H vs Q E hr h => ?_)
  · obtain ⟨a, ns, rfl, _⟩ := h
    rfl
  · obtain ⟨a, ns, rfl, hS, q⟩ := h
    refine ⟨_, (pss_cons (ps_set (i := 1) sc__law_state.nd rfl (.inl rfl) pe_int) 
    (pss_cons (ps_set (i := 2) sc__law_state.nd rfl (.inl rfl) pe_int) 
    (pss_cons (ps_for PassesOwn.never rfl (pi_list (pe_slice sl_list (pv 0) po_none (po_some pe_int))) (pg_name (i := 3) sc__law_state.nd rfl (.inl rfl)) 
      (pss_cons (ps_set (i := 1) sc__law_state.nd rfl (.inl rfl) (pe_op op_add (pe_op op_mul (pv 1) pe_int) (pe_callB call_abs (by rfl) T.n_abs (by decide +kernel) (pa_cons (pv 3) pa_nil)))) 
      (pss_one (ps_set (i := 2) sc__law_state.nd rfl (.inl rfl) (pe_op op_modN (pe_callTy call_int1 (by rfl) T.n_int (by decide +kernel) (pa_cons (pe_op op_add (pe_op op_mul (pv 2) pe_int) (pv 3)) pa_nil)) pe_int))))) 
    (pss_one (ps_ret (pe_lst (pa_cons (pv 1) (pa_cons (pv 2) pa_nil)))))))), ?_⟩
    refine ⟨.ref a, rfl, 63, rfl, a, ns.map V.int, rfl, hS, fun c nc => ?_⟩
    refine ⟨c, rfl, ⟨_, .inl (.inl upd_same)⟩, for_list (xs := cutV (ns.map V.int) none (some 63)) (fun i σ H' => ∃ (s t : Int) (y : Option V), σ = [some (.ref a), some (.int s), some (.int t), y] ∧ Same H H' ∧ H' c = some (.lst (cutV (ns.map V.int) none (some 63))))
      ⟨0, 1, none, rfl, same_new nc, upd_same⟩ (fun i σ H' _ ⟨_, _, _, _, _, e⟩ => .inl (.inl e)) ?_ ?_⟩
    · rintro i x σ H' hi ⟨s, t, y, rfl, sm, ec⟩
      obtain ⟨z, rfl⟩ := mem_ints (mem_cut hi)
      refine ⟨_, rfl, _, _, rfl, rfl, .inr ⟨by decide, by decide⟩, _, rfl, _, rfl, _, _, rfl, rfl, ?_⟩
      refine ⟨_, rfl, _, _, rfl, rfl, .inr ⟨by decide, by decide⟩, _, rfl, _, _, rfl, rfl, .inl ⟨_, rfl, _, _, rfl, rfl, (show (2147483647 : Int) ≠ 0 by decide), ?_⟩⟩
      exact ⟨_, _, _, rfl, sm, ec⟩
    · rintro σ H' ⟨s, t, y, rfl, sm, ec⟩
      refine ⟨_, rfl, _, rfl, (by show 2 ≤ sizeLine; decide), fun p np => ?_⟩
      exact q _ p s t (sm.trans (same_new np)) (sm.free np) upd_same
/-- a draw: some number below m, the state changed -/
def spTake : Sp := fun vs H Q _ => ∃ (a : Addr) (m : Int) (s t : Int), vs = [.ref a, .int m] ∧ 0 < m ∧ m < 1000000 ∧ H a = some (.lst [.int s, .int t]) ∧
  ∀ (v s' t' : Int), 0 ≤ v → v < m → Q (.int v) (upd H a (.lst [.int s', .int t']))
theorem ok_take (T : Txt K mg) : FnOk P w K mg base CX0 1 T.a__law_take T.d__law_take ["state", "m"] spTake := by
  refine T.F__law_take.ok sc__law_take (fun vs H Q E h => ?_) (fun cdv A outer s H vs Q E hr h => ?_)
  · obtain ⟨a, m, s, t, rfl, _⟩ := h
    rfl
  · obtain ⟨a, m, s, t, rfl, h0, hm, hS, q⟩ := h
    refine ⟨_, (pss_cons (ps_if (pt_cmpR op_gt (pe_ix ix_list (pv 0) pe_int (fun _ _ => rfl)) pe_int (nomark _)) 
      (pss_cons (ps_set (i := 2) sc__law_take.nd rfl (.inl rfl) (pe_op op_modN (pe_callTy call_int1 (by rfl) T.n_int (by decide +kernel) (pa_cons (pe_ix ix_list (pv 0) pe_int (fun _ _ => rfl)) pa_nil)) (pv 1))) 
      (pss_cons (ps_asg (pe_op op_fdivN (pe_ix ix_list (pv 0) pe_int (fun _ _ => rfl)) (pv 1)) (pg_sub (pv 0) pe_int set_list)) 
      (pss_one (ps_ret (pv 2))))) pss_nil) 
    (pss_cons (ps_asg (pe_op op_modN (pe_callTy call_int1 (by rfl) T.n_int (by decide +kernel) (pa_cons (pe_op op_add (pe_op op_mul (pe_ix ix_list (pv 0) pe_int (fun _ _ => rfl)) pe_int) pe_int) pa_nil)) pe_int) (pg_sub (pv 0) pe_int set_list)) 
    (pss_one (ps_ret (pe_op op_modN (pe_callTy call_int1 (by rfl) T.n_int (by decide +kernel) (pa_cons (pe_op op_fdivN (pe_ix ix_list (pv 0) pe_int (fun _ _ => rfl)) pe_int) pa_nil)) (pv 1)))))), ?_⟩
    have hmod : ∀ x : Int, 0 ≤ x.fmod m ∧ x.fmod m < m := fun x => by
      rw [Int.fmod_eq_emod_of_nonneg _ (by omega)]
      exact ⟨Int.emod_nonneg _ (by omega), Int.emod_lt_of_pos _ h0⟩
    have hne : m ≠ 0 := by omega
    have hdv : m ≠ 0 ∧ m.natAbs < 1073741824 := by omega
    refine ⟨.ref a, rfl, a, _, 0, _, rfl, rfl, .inl (.inl hS), atI_nat (j := 0) rfl, _, _, rfl, rfl, _, rfl, ite2 (fun c => ?_) (fun c => ?_)⟩
    · refine ⟨.ref a, rfl, a, _, 0, _, rfl, rfl, .inl (.inl hS), atI_nat (j := 0) rfl, .inl ⟨_, rfl, _, rfl, _, _, rfl, rfl, hne, ?_⟩⟩
      refine ⟨.ref a, rfl, a, _, 0, _, rfl, rfl, .inl (.inl hS), atI_nat (j := 0) rfl, _, rfl, _, _, rfl, rfl, hdv, ?_⟩
      refine ⟨.ref a, rfl, a, _, _, 0, rfl, rfl, hS, rfl, ?_⟩
      exact ⟨_, rfl, q _ _ _ (hmod s).1 (hmod s).2⟩
    · refine ⟨.ref a, rfl, a, _, 1, _, rfl, rfl, .inl (.inl hS), atI_nat (j := 1) rfl, _, _, rfl, rfl, .inr ⟨by decide, by decide⟩, _, _, rfl, rfl, .inl ⟨_, rfl, _, _, rfl, rfl, (show (2147483647 : Int) ≠ 0 by decide), ?_⟩⟩
      refine ⟨.ref a, rfl, a, _, _, 1, rfl, rfl, hS, rfl, ?_⟩
      refine ⟨.ref a, rfl, a, _, 1, _, rfl, rfl, .inl (.inl upd_same), atI_nat (j := 1) rfl, _, _, rfl, rfl, ⟨by decide, by decide⟩, .inl ⟨_, rfl, _, rfl, _, _, rfl, rfl, hne, ?_⟩⟩
      exact q _ _ _ (hmod _).1 (hmod _).2
/-! ### _zeros -/
def spZeros : Sp := fun vs H Q _ => ∃ (n : Nat), vs = [.int (n : Int)] ∧ n ≤ 1000 ∧ ∀ t H', Same H H' → H' t = some (.tup ((zeroR n).map V.int)) → Q (.ref t) H'
theorem ok_zeros (T : Txt K mg) : FnOk P w K mg base CX0 1 T.a__zeros T.d__zeros ["width"] spZeros := by
  refine T.F__zeros.ok sc__zeros (fun vs H Q E h => ?_) (fun cdv A outer s H vs Q E hr h => ?_)
  · obtain ⟨n, rfl, _⟩ := h
    rfl
  · obtain ⟨n, rfl, hn, q⟩ := h
    refine ⟨_, (pss_one (ps_ret (pe_op Own.op_repA (pe_tup (pa_cons pe_int pa_nil)) (pv 0)))), ?_⟩
    refine ⟨by show 1 ≤ sizeLine; decide, fun t nt => ?_⟩
    refine ⟨_, rfl, t, (n : Int), [.int 0], rfl, rfl, upd_same, by simp, by omega, by omega, by show 1 ≤ 1000; decide, fun t2 H2 sm2 e2 => q t2 _ ((same_new nt).trans sm2) ?_⟩
    rw [e2, flat_rep]
    unfold zeroR
    rw [List.map_replicate]
    rfl
/-! ### the law's own rows -/
def spLSum : Sp := fun vs H Q _ => ∃ (a b : V) (p : Int) (v w : List Int), vs = [a, b, .int p] ∧ RR H a v ∧ RR H b w ∧ 0 < p ∧ v.length ≤ 1000 ∧ v.length = w.length ∧ RetR H Q (addR p v w)
theorem addR_map {p : Int} {v w : List Int} (hvw : v.length = w.length) : (List.range v.length).map (fun i => (atR v i + atR w i) % p) = addR p v w := by
  have e3 : v.length = (addR p v w).length := by
    unfold addR
    rw [List.length_map, List.length_zip, ← hvw, Nat.min_self]
  rw [e3]
  refine map_range _ _ fun i x hx => ?_
  have hi : i < v.length := by
    rw [e3]
    exact (List.getElem?_eq_some_iff.mp hx).1
  unfold addR at hx
  rw [List.getElem?_map, List.zip, List.getElem?_zipWith, atR_get hi, atR_get (by omega : i < w.length)] at hx
  exact Option.some.inj hx
theorem scR_map {p c : Int} {v : List Int} : (List.range v.length).map (fun i => (c * atR v i) % p) = scR p v c := by
  have e3 : v.length = (scR p v c).length := by
    unfold scR
    rw [List.length_map]
  rw [e3]
  refine map_range _ _ fun i x hx => ?_
  have hi : i < v.length := by
    rw [e3]
    exact (List.getElem?_eq_some_iff.mp hx).1
  unfold scR at hx
  rw [List.getElem?_map, atR_get hi] at hx
  exact Option.some.inj hx
theorem ok_lsum (T : Txt K mg) : FnOk P w K mg base CX0 1 T.a__law_sum T.d__law_sum ["v", "w", "p"] spLSum := by
  refine T.F__law_sum.ok sc__law_sum (fun vs H Q E h => ?_) (fun cdv A outer s H vs Q E hr h => ?_)
  · obtain ⟨a, b, p, v, w, rfl, _⟩ := h
    rfl
  · obtain ⟨_, _, p, v, w, rfl, ⟨a, rfl, ea⟩, ⟨b, rfl, eb⟩, hp, hl, hvw, q⟩ := h
    refine ⟨_, (pss_one (ps_ret (pe_callTy Own.call_tuple_ofF (by rfl) T.n_tuple (by decide +kernel) (pa_cons (pe_lc (own := [("k", 3)]) rfl sc__law_sum.nd (pi_range1 (by rfl) T.n_range (pa_cons (pe_callB call_len_seq (by rfl) T.n_len (by decide +kernel) (pa_cons (pv 0) pa_nil)) pa_nil)) (blkOk_by (N := N__law_sum) (sc := defScope s__law_sum) (own := [("k", 3)]) (by decide +kernel)) (fun _ _ _ _ _ => (pg_name (i := 3) sc__law_sum.nd rfl (.inl rfl))) (fun _ _ _ _ _ => pts_nil) (fun _ _ _ _ _ => (pe_op op_modE (pe_callTy call_int1 (by rfl) T.n_int (by decide +kernel) (pa_cons (pe_op op_add (pe_ix (show IxR _ (rIxT K) from ix_tup) (pv 0) (pv 3) (fun _ _ => rfl)) (pe_ix (show IxR _ (rIxT K) from ix_tup) (pv 1) (pv 3) (fun _ _ => rfl))) pa_nil)) (pv 2)))) pa_nil)))), ?_⟩
    have hlen : ((v.map V.int).length : Int).toNat = v.length := by rw [List.length_map]; rfl
    refine ⟨_, rfl, a, _, rfl, .inr ea.sq, _, rfl, by rw [List.length_map]; omega, by rw [List.length_map]; omega, fun D nD => ?_⟩
    rw [hlen]
    refine lc_rep (walk_range (lo := 0) (n := v.length)) st_RI (fun i => (atR v i + atR w i) % p) (by omega) nD (fun H2 sm => trivial) (fun i x H2 H3 Q2 hi sm hY q2 => ?_) (fun H2 acc sm eD hP => ?_)
    · obtain ⟨rfl, rfl⟩ := hY
      have e0 : ((0 : Int) + (i : Int)) = (i : Int) := by omega
      refine ⟨rfl, _, rfl, _, rfl, a, _, _, _, rfl, rfl, (ea.mono sm).sq, by rw [e0]; exact atV hi, _, rfl, _, rfl, b, _, _, _, rfl, rfl, (eb.mono sm).sq, by rw [e0]; exact atV (by omega), _, _, rfl, rfl, .inl ⟨_, rfl, _, rfl, _, _, rfl, rfl, hp, q2 _ _ (Same.refl _) rfl⟩⟩
    · have e := ints_of hP
      rw [addR_map hvw] at e
      subst e
      exact ⟨D, _, rfl, .inl (.inl eD), fun u ob nu hob => q _ _ (sm.trans (same_new nu)) ⟨u, rfl, ob, hob, upd_same⟩⟩
def spLScaled : Sp := fun vs H Q _ => ∃ (a : V) (c p : Int) (v : List Int), vs = [a, .int c, .int p] ∧ RR H a v ∧ 0 < p ∧ v.length ≤ 1000 ∧ c.natAbs < 2 ^ 40 ∧ Sm v ∧ RetR H Q (scR p v c)
theorem ok_lscaled (T : Txt K mg) : FnOk P w K mg base CX0 1 T.a__law_scaled T.d__law_scaled ["v", "a", "p"] spLScaled := by
  refine T.F__law_scaled.ok sc__law_scaled (fun vs H Q E h => ?_) (fun cdv A outer s H vs Q E hr h => ?_)
  · obtain ⟨a, c, p, v, rfl, _⟩ := h
    rfl
  · obtain ⟨_, c, p, v, rfl, ⟨a, rfl, ea⟩, hp, hl, hc, hv, q⟩ := h
    refine ⟨_, (pss_one (ps_ret (pe_callTy Own.call_tuple_ofF (by rfl) T.n_tuple (by decide +kernel) (pa_cons (pe_lc (own := [("x", 3)]) rfl sc__law_scaled.nd (pi_tup (pv 0)) (blkOk_by (N := N__law_scaled) (sc := defScope s__law_scaled) (own := [("x", 3)]) (by decide +kernel)) (fun _ _ _ _ _ => (pg_name (i := 3) sc__law_scaled.nd rfl (.inl rfl))) (fun _ _ _ _ _ => pts_nil) (fun _ _ _ _ _ => (pe_op op_modE (pe_callTy call_int1 (by rfl) T.n_int (by decide +kernel) (pa_cons (pe_op op_mulW (pv 3) (pv 1)) pa_nil)) (pv 2)))) pa_nil)))), ?_⟩
    refine ⟨_, rfl, a, rfl, ⟨_, ea.sq⟩, fun D nD => ?_⟩
    refine lc_rep (walk_row (v := v)) st_RI (fun i => (c * atR v i) % p) (by omega) nD (fun H2 sm => (ea.mono sm).sq) (fun i x H2 H3 Q2 hi sm hY q2 => ?_) (fun H2 acc sm eD hP => ?_)
    · obtain ⟨rfl, g1⟩ := hY
      have e1 : x = .int (atR v i) := by
        rw [List.getElem?_map, atR_get hi] at g1
        exact (Option.some.inj g1).symm
      subst e1
      exact ⟨rfl, _, rfl, _, rfl, _, _, rfl, rfl, wide_mul (hv _ (atR_mem hi)) hc (by decide) (by decide) (by decide), .inl ⟨_, rfl, _, rfl, _, _, rfl, rfl, hp, q2 _ _ (Same.refl _) (by rw [Int.mul_comm]; rfl)⟩⟩
    · have e := ints_of hP
      rw [scR_map] at e
      subst e
      exact ⟨D, _, rfl, .inl (.inl eD), fun u ob nu hob => q _ _ (sm.trans (same_new nu)) ⟨u, rfl, ob, hob, upd_same⟩⟩
def spLZero : Sp := fun vs H Q _ => ∃ (n : Nat), vs = [.int (n : Int)] ∧ n ≤ 1000 ∧ RetR H Q (zeroR n)
theorem ok_lzero (T : Txt K mg) : FnOk P w K mg base CX0 1 T.a__law_zero T.d__law_zero ["n"] spLZero := by
  refine T.F__law_zero.ok sc__law_zero (fun vs H Q E h => ?_) (fun cdv A outer s H vs Q E hr h => ?_)
  · obtain ⟨n, rfl, _⟩ := h
    rfl
  · obtain ⟨n, rfl, hn, q⟩ := h
    refine ⟨_, (pss_one (ps_ret (pe_callTy Own.call_tuple_ofF (by rfl) T.n_tuple (by decide +kernel) (pa_cons (pe_lc (own := [("k", 1)]) rfl sc__law_zero.nd (pi_range1 (by rfl) T.n_range (pa_cons (pv 0) pa_nil)) (blkOk_by (N := N__law_zero) (sc := defScope s__law_zero) (own := [("k", 1)]) (by decide +kernel)) (fun _ _ _ _ _ => (pg_name (i := 1) sc__law_zero.nd rfl (.inl rfl))) (fun _ _ _ _ _ => pts_nil) (fun _ _ _ _ _ => pe_int)) pa_nil)))), ?_⟩
    refine ⟨_, rfl, (n : Int), rfl, by omega, by omega, fun D nD => ?_⟩
    refine lc_rep (walk_range (lo := 0) (n := n)) st_RI (fun _ => 0) (by omega) nD (fun H2 sm => trivial) (fun i x H2 H3 Q2 hi sm hY q2 => ?_) (fun H2 acc sm eD hP => ?_)
    · obtain ⟨rfl, rfl⟩ := hY
      exact ⟨rfl, q2 _ _ (Same.refl _) rfl⟩
    · have e := ints_of hP
      have e2 : (List.range n).map (fun _ => (0 : Int)) = zeroR n := by
        unfold zeroR
        rw [List.map_const', List.length_range]
      rw [e2] at e
      subst e
      exact ⟨D, _, rfl, .inl (.inl eD), fun u ob nu hob => q _ _ (sm.trans (same_new nu)) ⟨u, rfl, ob, hob, upd_same⟩⟩
/-- all that was tracked stands, but for a -/
def SameX (a : Addr) (H H' : Hp) : Prop := ∀ b o, b ≠ a → H b = some o → H' b = some o
theorem SameX.trans {a : Addr} {H H1 H2 : Hp} (h : SameX a H H1) (k : SameX a H1 H2) : SameX a H H2 := fun b o n e => k b o n (h b o n e)
theorem Same.x {a : Addr} {H H' : Hp} (h : Same H H') : SameX a H H' := fun b o _ e => h b o e
theorem SameX.put {a : Addr} {H : Hp} {u : HO} : SameX a H (upd H a u) := fun b o n e => by rw [upd_ne n]; exact e
theorem RR.x {a : Addr} {H H' : Hp} {xs : List V} (e : SameX a H H') (ha : H a = some (.lst xs)) {v : V} {r : List Int} (h : RR H v r) : RR H' v r := by
  obtain ⟨t, rfl, o, d, h⟩ := h
  exact ⟨t, rfl, o, d, e t _ (fun z => by rw [z, ha] at h; cases h) h⟩
theorem RR.allx {a : Addr} {H H' : Hp} {xs : List V} (e : SameX a H H') (ha : H a = some (.lst xs)) : ∀ {vs : List V} {rs : List (List Int)}, Paired (RR H) vs rs → Paired (RR H') vs rs
  | _, _, .nil => .nil
  | _, _, .cons h t => .cons (RR.x e ha h) (RR.allx e ha t)
def StA (H : Hp) (a : Addr) : Prop := ∃ s t : Int, H a = some (.lst [.int s, .int t])
def spLElement : Sp := fun vs H Q _ => ∃ (a : Addr) (p : Int) (n : Nat), vs = [.ref a, .int p, .int (n : Int)] ∧ StA H a ∧ 0 < p ∧ p < 1000 ∧ n ≤ 1000 ∧
  ∀ v H' r, SameX a H H' → StA H' a → RR H' v r → Vr p n r → Q v H'
theorem ok_lelement (T : Txt K mg) : FnOk P w K mg base CX0 2 T.a__law_element T.d__law_element ["state", "p", "n"] spLElement := by
  have G__law_take : FnOk P w K mg base CX0 1 T.a__law_take T.d__law_take ["state", "m"] spTake := ok_take T
  refine T.F__law_element.ok sc__law_element (fun vs H Q E h => ?_) (fun cdv A outer s H vs Q E hr h => ?_)
  · obtain ⟨a, p, n, rfl, _⟩ := h
    rfl
  · obtain ⟨a, p, n, rfl, hst, hp, hp2, hn, q⟩ := h
    refine ⟨_, (pss_one (ps_ret (pe_callTy Own.call_tuple_ofF (by rfl) T.n_tuple (by decide +kernel) (pa_cons (pe_lc (own := [("k", 3)]) rfl sc__law_element.nd (pi_range1 (by rfl) T.n_range (pa_cons (pv 2) pa_nil)) (blkOk_by (N := N__law_element) (sc := defScope s__law_element) (own := [("k", 3)]) (by decide +kernel)) (fun _ _ _ _ _ => (pg_name (i := 3) sc__law_element.nd rfl (.inl rfl))) (fun _ _ _ _ _ => pts_nil) (fun _ _ _ _ _ => (pe_call G__law_take (hr.mono (by decide)) (by rfl) T.g__law_take T.F__law_take.kp T.b__law_take .nil pass0 (pa_cons (pv 0) (pa_cons (pv 1) pa_nil))))) pa_nil)))), ?_⟩
    refine ⟨_, rfl, (n : Int), rfl, by omega, by omega, fun D nD => ?_⟩
    obtain ⟨s0, t0, est⟩ := hst
    have haD : a ≠ D := ne_of_none est nD
    refine lc_it (walk_range (lo := 0) (n := n)) (fun i H2 => i ≤ n ∧ ∃ r : List Int, SameX a H H2 ∧ StA H2 a ∧ H2 D = some (.lst (r.map V.int)) ∧ Vr p i r)
      ⟨Nat.zero_le n, [], (Same.x (same_new nD)), ⟨s0, t0, same_new nD _ _ est⟩, upd_same, rfl, fun x h => by cases h⟩ (fun _ _ _ _ => trivial) (fun i x H2 H3 hi hP hY => ?_) (fun H2 hP => ?_)
    · obtain ⟨_, r, sx, ⟨s1, t1, es1⟩, eD, hvr⟩ := hP
      obtain ⟨rfl, rfl⟩ := hY
      refine ⟨rfl, ?_⟩
      refine yesT ?_
      refine ⟨_, rfl, _, rfl, a, p, s1, t1, rfl, hp, by omega, es1, fun v s' t' hv0 hv1 => ?_⟩
      refine ⟨r.map V.int, by rw [upd_ne haD.symm]; exact eD, small1000 (by rw [List.length_map, hvr.1]; omega), hi, r ++ [v], ?_, ⟨s', t', by rw [upd_ne haD, upd_same]⟩, by rw [upd_same, List.map_append]; rfl, by rw [List.length_append, hvr.1]; rfl, fun y hy => ?_⟩
      · intro b o nb hb
        rw [upd_ne (ne_of_none hb nD), upd_ne nb]
        exact sx b o nb hb
      · rcases List.mem_append.mp hy with hy | hy
        · exact hvr.2 y hy
        · rw [List.mem_singleton.mp hy]
          exact ⟨hv0, hv1⟩
    · obtain ⟨_, r, sx, ⟨s1, t1, es1⟩, eD, hvr⟩ := hP
      exact ⟨D, _, rfl, .inl (.inl eD), fun u ob nu hob => q _ _ r (sx.trans (Same.x (same_new nu))) ⟨s1, t1, same_new nu _ _ es1⟩ ⟨u, rfl, ob, hob, upd_same⟩ hvr⟩
/-! ### _law_rows -/
def spLRows : Sp := fun vs H Q _ => ∃ (a : Addr) (p : Int) (n m : Nat), vs = [.ref a, .int p, .int (n : Int), .int (m : Int)] ∧ StA H a ∧ 0 < p ∧ p < 1000 ∧ n ≤ 1000 ∧ m ≤ 1000 ∧
  ∀ l us H' (rs : List (List Int)), SameX a H H' → StA H' a → H' l = some (.lst us) → l ≠ a → Paired (RR H') us rs → rs.length ≤ m → (∀ r ∈ rs, Vr p n r) → Q (.ref l) H'
theorem ok_lrows (T : Txt K mg) : FnOk P w K mg base CX0 3 T.a__law_rows T.d__law_rows ["state", "p", "n", "most"] spLRows := by
  have G__law_take : FnOk P w K mg base CX0 1 T.a__law_take T.d__law_take ["state", "m"] spTake := ok_take T
  have G__law_element : FnOk P w K mg base CX0 2 T.a__law_element T.d__law_element ["state", "p", "n"] spLElement := ok_lelement T
  refine T.F__law_rows.ok sc__law_rows (fun vs H Q E h => ?_) (fun cdv A outer s H vs Q E hr h => ?_)
  · obtain ⟨a, p, n, m, rfl, _⟩ := h
    rfl
  · obtain ⟨a, p, n, m, rfl, ⟨s0, t0, est⟩, hp, hp2, hn, hm, q⟩ := h
    refine ⟨_, (pss_one (ps_ret (pe_lc (own := [("k", 4)]) rfl sc__law_rows.nd (pi_range1 (by rfl) T.n_range (pa_cons (pe_call G__law_take (hr.mono (by decide)) (by rfl) T.g__law_take T.F__law_take.kp T.b__law_take .nil pass0 (pa_cons (pv 0) (pa_cons (pe_op op_add (pv 3) pe_int) pa_nil))) pa_nil)) (blkOk_by (N := N__law_rows) (sc := defScope s__law_rows) (own := [("k", 4)]) (by decide +kernel)) (fun _ _ _ _ _ => (pg_name (i := 4) sc__law_rows.nd rfl (.inl rfl))) (fun _ _ _ _ _ => pts_nil) (fun _ _ _ _ _ => (pe_call G__law_element (hr.mono (by decide)) (by rfl) T.g__law_element T.F__law_element.kp T.b__law_element .nil pass0 (pa_cons (pv 0) (pa_cons (pv 1) (pa_cons (pv 2) pa_nil)))))))), ?_⟩
    refine ⟨_, rfl, _, rfl, _, _, rfl, rfl, a, _, s0, t0, rfl, by show (0 : Int) < (m : Int) + 1; omega, by show (m : Int) + 1 < 1000000; omega, est, fun v s' t' hv0 hv1 => ?_⟩
    have hv1 : v < (m : Int) + 1 := hv1
    have smA : SameX a H (upd H a (.lst [.int s', .int t'])) := SameX.put
    refine ⟨v, rfl, by omega, by omega, fun D nD => ?_⟩
    have haD : a ≠ D := ne_of_none upd_same nD
    refine lc_it (walk_range (lo := 0) (n := v.toNat)) (fun i H2 => i ≤ v.toNat ∧ ∃ (us : List V) (rs : List (List Int)), SameX a H H2 ∧ StA H2 a ∧ H2 D = some (.lst us) ∧ Paired (RR H2) us rs ∧ rs.length = i ∧ ∀ r ∈ rs, Vr p n r)
      ⟨Nat.zero_le _, [], [], smA.trans (Same.x (same_new nD)), ⟨s', t', by rw [upd_ne haD, upd_same]⟩, upd_same, .nil, rfl, fun r h => by cases h⟩ (fun _ _ _ _ => trivial) (fun i x H2 H3 hi hP hY => ?_) (fun H2 hP => ?_)
    · obtain ⟨_, us, rs, sx, ⟨s1, t1, es1⟩, eD, hPr, hl, hv⟩ := hP
      obtain ⟨rfl, rfl⟩ := hY
      refine ⟨rfl, ?_⟩
      refine yesT ?_
      refine ⟨_, rfl, _, rfl, _, rfl, a, p, n, rfl, ⟨s1, t1, es1⟩, hp, hp2, hn, fun v2 H4 r sx4 ⟨s2, t2, es2⟩ hR hvr => ?_⟩
      have eD4 := sx4 _ _ haD.symm eD
      have nDH : H D = none := by
        rw [upd_ne haD.symm] at nD
        exact nD
      refine ⟨us, eD4, small1000 (by rw [Paired.length hPr]; omega), hi, us ++ [v2], rs ++ [r], ?_, ⟨s2, t2, by rw [upd_ne haD]; exact es2⟩, upd_same, st_RR.allPut eD4 (paired_add (RR.allx sx4 es1 hPr) hR), by rw [List.length_append, hl]; rfl, fun y hy => ?_⟩
      · intro b o nb hb
        rw [upd_ne (ne_of_none hb nDH)]
        exact sx4 b o nb (sx b o nb hb)
      · rcases List.mem_append.mp hy with hy | hy
        · exact hv y hy
        · rw [List.mem_singleton.mp hy]
          exact hvr
    · obtain ⟨_, us, rs, sx, hst, eD, hPr, hl, hv⟩ := hP
      exact q D us H2 rs sx hst eD haD.symm hPr (by omega) hv
/-! ### _law_span -/
def spanStep (p : Int) (L : List (List Int)) (r : List Int) : List (List Int) := if r ∈ L then L else L.flatMap fun w => (List.range p.toNat).map fun a : Nat => addR p w (scR p r (a : Int))
def lspan (p : Int) (n : Nat) (rs : List (List Int)) : List (List Int) := rs.foldl (spanStep p) [zeroR n]
def leR (a b : List Int) : Bool := decide (a ≤ b)
def lspanS (p : Int) (n : Nat) (rs : List (List Int)) : List (List Int) := (lspan p n rs).mergeSort leR
theorem flat_len {α β : Type} {c : Nat} (f : α → List β) : ∀ (L : List α), (∀ x ∈ L, (f x).length = c) → (L.flatMap f).length = c * L.length
  | [], _ => by rw [List.flatMap_nil]; rfl
  | x :: L, h => by
    rw [List.flatMap_cons, List.length_append, h x (List.mem_cons_self ..), flat_len f L fun y hy => h y (List.mem_cons_of_mem _ hy), List.length_cons, Nat.mul_succ, Nat.add_comm]
theorem spanStep_len {p : Int} (hp : 2 ≤ p) (L : List (List Int)) (r : List Int) : (spanStep p L r).length ≤ p.toNat * L.length := by
  unfold spanStep
  split
  · exact Nat.le_mul_of_pos_left _ (by omega)
  · rw [flat_len (c := p.toNat) _ L fun x _ => by rw [List.length_map, List.length_range]]
    exact Nat.le_refl _
theorem lspan_step {p : Int} {n : Nat} {rs : List (List Int)} {i : Nat} {r : List Int} (h : rs[i]? = some r) : lspan p n (rs.take (i + 1)) = spanStep p (lspan p n (rs.take i)) r := by
  unfold lspan
  rw [List.take_add_one, h, List.foldl_append]
  rfl
theorem lspan_len {p : Int} {n : Nat} {rs : List (List Int)} (hp : 2 ≤ p) : ∀ i, i ≤ rs.length → (lspan p n (rs.take i)).length ≤ p.toNat ^ i
  | 0, _ => Nat.le_refl 1
  | i + 1, h => by
    have hi := lspan_len (rs := rs) (n := n) hp i (by omega)
    obtain ⟨r, hr⟩ : ∃ r, rs[i]? = some r := ⟨rs[i], List.getElem?_eq_getElem (by omega)⟩
    rw [lspan_step hr, Nat.pow_succ, Nat.mul_comm]
    exact Nat.le_trans (spanStep_len hp _ _) (Nat.mul_le_mul_left _ hi)
theorem spanStep_vr {p : Int} {n : Nat} (hp : 0 < p) {L : List (List Int)} {r : List Int} (hL : ∀ v ∈ L, Vr p n v) (hr : Vr p n r) : ∀ v ∈ spanStep p L r, Vr p n v := by
  unfold spanStep
  split
  · exact hL
  · intro v hv
    obtain ⟨w, hw, hv⟩ := List.mem_flatMap.mp hv
    obtain ⟨a, _, rfl⟩ := List.mem_map.mp hv
    exact addR_vr hp (hL w hw) (scR_vr hp hr.1 _)
theorem lspan_vr {p : Int} {n : Nat} (hp : 0 < p) {rs : List (List Int)} (hr : ∀ r ∈ rs, Vr p n r) : ∀ v ∈ lspan p n rs, Vr p n v := by
  unfold lspan
  have h0 : ∀ v ∈ [zeroR n], Vr p n v := fun v hv => by rw [List.mem_singleton.mp hv]; exact zeroR_vr hp n
  revert h0
  generalize [zeroR n] = L
  induction rs generalizing L with
  | nil => intro h0; exact h0
  | cons r rs ih =>
    intro h0
    exact ih (fun r' h' => hr r' (List.mem_cons_of_mem _ h')) _ (spanStep_vr hp h0 (hr r (List.mem_cons_self ..)))
def dRows (L : List (List Int)) : PyData := .list (L.map dInts)
theorem canLay_rows : ∀ L : List (List Int), PyData.canLayAll0 (L.map dInts) = true
  | [] => by simp [PyData.canLayAll0]
  | x :: r => by
    have h : (dInts x).canLay0 = true := SeqAt.canLay_of_shaped (shaped_dInts x)
    simp [PyData.canLayAll0, h, canLay_rows r]
theorem depth_rows : ∀ L : List (List Int), PyData.depthAll (L.map dInts) ≤ 2
  | [] => by simp [PyData.depthAll]
  | x :: r => by
    have h := depth_rows r
    have h1 := PySem.W.depthAll_ints x
    have h2 : (dInts x).depth ≤ 2 := by
      unfold dInts
      simp only [PyData.depth]
      omega
    simp only [List.map_cons, PyData.depthAll]
    omega
theorem shaped_dRows (L : List (List Int)) : SeqAt.shaped (dRows L) = true := by
  have h1 := depth_rows L
  have h2 : PyData.depth (.list (L.map dInts)) ≤ 64 := by simp only [PyData.depth]; omega
  show (PyData.canLay0 (.list (L.map dInts)) && decide (PyData.depth (.list (L.map dInts)) ≤ 64)) = true
  rw [Bool.and_eq_true]
  exact ⟨by simp only [PyData.canLay0]; exact canLay_rows L, decide_eq_true h2⟩
theorem dpAll_rows {H : Hp} : ∀ {us : List V} {L : List (List Int)}, Paired (RR H) us L → DpAll K H us (L.map dInts)
  | _, _, .nil => .nil
  | _, _, .cons h t => .cons (by obtain ⟨t, rfl, ht⟩ := h; exact dp_ints ht.sq) (dpAll_rows t)
theorem dp_rowsL {H : Hp} {a : Addr} {us : List V} {L : List (List Int)} (h : SqL K H a us) (hP : Paired (RR H) us L) : Dp K H (.ref a) (dRows L) := .lst h (dpAll_rows hP)
theorem dpAll_rowsS {H : Hp} : ∀ {us : List V} {L : List (List Int)}, Paired (RS K H) us L → DpAll K H us (L.map dInts)
  | _, _, .nil => .nil
  | _, _, .cons h t => .cons (by obtain ⟨t, rfl, ht⟩ := h; exact dp_ints ht) (dpAll_rowsS t)
theorem dp_rowsS {H : Hp} {a : Addr} {us : List V} {L : List (List Int)} (h : SqL K H a us) (hP : Paired (RS K H) us L) : Dp K H (.ref a) (dRows L) := .lst h (dpAll_rowsS hP)
theorem any_rows (L : List (List Int)) (r : List Int) : (L.map dInts).any (fun z => PyData.eqv z (dInts r)) = decide (r ∈ L) := by
  induction L with
  | nil => rfl
  | cons x L ih =>
    rw [List.map_cons, List.any_cons, ih, eqv_dInts]
    by_cases h : x = r
    · subst h
      simp
    · have h' : ¬ r = x := fun z => h z.symm
      simp [h, h']
theorem eqvAll_rows : ∀ L M : List (List Int), PyData.eqvAll (L.map dInts) (M.map dInts) = decide (L = M)
  | [], [] => by simp [PyData.eqvAll]
  | [], _ :: _ => by simp [PyData.eqvAll]
  | _ :: _, [] => by simp [PyData.eqvAll]
  | x :: L, y :: M => by
    simp only [List.map_cons, PyData.eqvAll, eqv_dInts, eqvAll_rows L M]
    by_cases h : x = y <;> simp [h]
theorem eqv_dRows (L M : List (List Int)) : PyData.eqv (dRows L) (dRows M) = decide (L = M) := by
  unfold dRows
  rw [PyData.eqv]
  exact eqvAll_rows L M
theorem unpair {H : Hp} : ∀ {us : List V} {L : List (List Int)}, Paired (RR H) us L → ∃ bs : List (Addr × List Int), us = bs.map (fun b => V.ref b.1) ∧ L = bs.map (·.2) ∧ ∀ b ∈ bs, RowAt H b.1 b.2
  | _, _, .nil => ⟨[], rfl, rfl, fun b h => by cases h⟩
  | _, _, @Paired.cons _ _ _ v r us rs h t => by
    obtain ⟨bs, e1, e2, e3⟩ := unpair t
    obtain ⟨t0, rfl, ht⟩ := h
    refine ⟨(t0, r) :: bs, by rw [e1]; rfl, by rw [e2]; rfl, fun b hb => ?_⟩
    rcases List.mem_cons.mp hb with rfl | hb
    · exact ht
    · exact e3 b hb
theorem repair {H : Hp} : ∀ {bs : List (Addr × List Int)}, (∀ b ∈ bs, RowAt H b.1 b.2) → Paired (RR H) (bs.map fun b => V.ref b.1) (bs.map (·.2))
  | [], _ => .nil
  | b :: bs, h => .cons ⟨b.1, rfl, h b (List.mem_cons_self ..)⟩ (repair fun c hc => h c (List.mem_cons_of_mem _ hc))
theorem hu65 {A : Around} {k : Nat} (hr : Room k A) : A.units + 65 < cLine := by
  have := hr.un
  omega
/-- the rows are few at every step -/
def spLSpanG (K : PySem.W.Frag) : Sp := fun vs H Q _ => ∃ (a : Addr) (n : Nat) (p : Int) (rs : List (List Int)), vs = [.ref a, .int (n : Int), .int p] ∧ Rws K H a rs ∧ 2 ≤ p ∧ p ≤ 31 ∧ n ≤ 1000 ∧ (∀ i, i ≤ rs.length → (lspan p n (rs.take i)).length ≤ 2000) ∧ (∀ r ∈ rs, Vr p n r) ∧
  ∀ l us H', Same H H' → H l = none → H' l = some (.lst us) → Paired (RR H') us (lspanS p n rs) → Q (.ref l) H'
def spLSpan (K : PySem.W.Frag) : Sp := fun vs H Q _ => ∃ (a : Addr) (n : Nat) (p : Int) (rs : List (List Int)), vs = [.ref a, .int (n : Int), .int p] ∧ Rws K H a rs ∧ 2 ≤ p ∧ p ≤ 31 ∧ n ≤ 1000 ∧ p.toNat ^ rs.length ≤ 2000 ∧ (∀ r ∈ rs, Vr p n r) ∧
  ∀ l us H', Same H H' → H l = none → H' l = some (.lst us) → Paired (RR H') us (lspanS p n rs) → Q (.ref l) H'
theorem lspan_zero {p : Int} {rs : List (List Int)} (hr : ∀ r ∈ rs, Vr p 0 r) : lspan p 0 rs = [[]] := by
  unfold lspan
  induction rs with
  | nil => rfl
  | cons r rs ih =>
    have h := (hr r (List.mem_cons_self ..)).1
    have e : r = [] := List.eq_nil_of_length_eq_zero h
    rw [List.foldl_cons]
    have e2 : spanStep p [zeroR 0] r = [zeroR 0] := by
      unfold spanStep
      rw [if_pos (by rw [e]; exact List.mem_singleton.mpr rfl)]
    rw [e2]
    exact ih fun r' h' => hr r' (List.mem_cons_of_mem _ h')
theorem ok_lspanG (T : Txt K mg) : FnOk P w K mg base CX0 2 T.a__law_span T.d__law_span ["rows", "n", "p"] (spLSpanG K) := by
  have G__law_zero : FnOk P w K mg base CX0 1 T.a__law_zero T.d__law_zero ["n"] spLZero := ok_lzero T
  have G__law_sum : FnOk P w K mg base CX0 1 T.a__law_sum T.d__law_sum ["v", "w", "p"] spLSum := ok_lsum T
  have G__law_scaled : FnOk P w K mg base CX0 1 T.a__law_scaled T.d__law_scaled ["v", "a", "p"] spLScaled := ok_lscaled T
  refine T.F__law_span.ok sc__law_span (fun vs H Q E h => ?_) (fun cdv A outer s H vs Q E hr h => ?_)
  · obtain ⟨a, n, p, rs, rfl, _⟩ := h
    rfl
  · obtain ⟨a, n, p, rs, rfl, ⟨vs0, hS, hP⟩, h2, h31, hn, hlb, hv, q⟩ := h
    have hp : 0 < p := by omega
    refine ⟨_, (pss_cons (ps_set (i := 3) sc__law_span.nd rfl (.inl rfl) (pe_lst (pa_cons (pe_call G__law_zero (hr.mono (by decide)) (by rfl) T.g__law_zero T.F__law_zero.kp T.b__law_zero .nil pass0 (pa_cons (pv 1) pa_nil)) pa_nil))) 
    (pss_cons (ps_for PassesOwn.never rfl (Own.pi_seq (pv 0)) (pg_name (i := 4) sc__law_span.nd rfl (.inr rfl)) 
      (pss_one (ps_if (pt_cmpR (op_notInD (hu65 hr)) (pv 4) (pv 3) rfl) 
        (pss_cons (ps_set (i := 5) sc__law_span.nd rfl (.inl rfl) (pe_lst pa_nil)) 
        (pss_cons (ps_for PassesOwn.never rfl (pi_list (pv 3)) (pg_name (i := 6) sc__law_span.nd rfl (.inr rfl)) 
          (pss_one (ps_set (i := 5) sc__law_span.nd rfl (.inl rfl) (pe_op op_cat (pv 5) (pe_lc (own := [("a", 7)]) rfl sc__law_span.nd (pi_range1 (by rfl) T.n_range (pa_cons (pv 2) pa_nil)) (blkOk_by (N := N__law_span) (sc := defScope s__law_span) (own := [("a", 7)]) (by decide +kernel)) (fun _ _ _ _ _ => (pg_name (i := 7) sc__law_span.nd rfl (.inl rfl))) (fun _ _ _ _ _ => pts_nil) (fun _ _ _ _ _ => (pe_call G__law_sum (hr.mono (by decide)) (by rfl) T.g__law_sum T.F__law_sum.kp T.b__law_sum .nil pass0 (pa_cons (pv 6) (pa_cons (pe_call G__law_scaled (hr.mono (by decide)) (by rfl) T.g__law_scaled T.F__law_scaled.kp T.b__law_scaled .nil pass0 (pa_cons (pv 4) (pa_cons (pv 7) (pa_cons (pv 2) pa_nil)))) (pa_cons (pv 2) pa_nil)))))))))) 
        (pss_one (ps_set (i := 3) sc__law_span.nd rfl (.inl rfl) (pe_callTy call_list_of (by rfl) T.n_list (by decide +kernel) (pa_cons (pv 5) pa_nil)))))) pss_nil))) 
    (pss_one (ps_ret (pe_callB (Own.cr_sortedR hr.units) (by rfl) T.n_sorted (by decide +kernel) (pa_cons (pv 3) pa_nil)))))), ?_⟩
    refine ⟨_, rfl, n, rfl, hn, fun z H1 sm1 hz => ⟨by show 1 ≤ sizeLine; decide, fun fo nfo => ?_⟩⟩
    have smF := sm1.trans (same_new (o := .lst [z]) nfo)
    obtain ⟨b, hB⟩ := Own.sqb_of hS
    refine ⟨_, rfl, a, vs0, b, rfl, Own.same_sqb smF hB, fun J wJ => ?_⟩
    refine for_it wJ (fun i σ H' => ∃ (fo : Addr) (us : List V) (y4 y5 y6 : Option V), σ = [some (.ref a), some (.int (n : Int)), some (.int p), some (.ref fo), y4, y5, y6, none] ∧ Same H H' ∧ H fo = none ∧ H' fo = some (.lst us) ∧ Paired (RR H') us (lspan p n (rs.take i)))
      ⟨fo, [z], none, none, none, rfl, smF, sm1.free nfo, upd_same, .cons (st_RR.same (same_new nfo) hz) .nil⟩ (fun i σ H' _ ⟨_, _, _, _, _, _, sm, _⟩ => Own.same_sqb sm hB) ?_ ?_
    · rintro i x σ H' H2 hi ⟨fo, us, y4, y5, y6, rfl, sm, nfo, ef, hL⟩ ⟨rfl, hx⟩
      obtain ⟨r, er, hRr⟩ := paired_get hP hx
      have hvr := hv r (List.mem_of_getElem? er)
      have hRr := st_RR.same sm hRr
      have hilt : i < rs.length := (List.getElem?_eq_some_iff.mp er).1
      have hstep := lspan_step (p := p) (n := n) er
      have hlen := hlb i (by omega)
      have hLv := lspan_vr (n := n) hp (rs := rs.take i) (fun r hr => hv r (List.mem_of_mem_take hr))
      have hin : Paired (RR H2) us (lspan p n (rs.take i)) := hL
      refine ⟨_, rfl, _, rfl, dInts r, (lspan p n (rs.take i)).map dInts, by obtain ⟨t, rfl, ht⟩ := hRr; exact dp_ints ht.sq, dp_rowsL (.inl (.inl ef)) hL, shaped_dInts r, shaped_dRows _, _, rfl, ?_⟩
      rw [any_rows]
      by_cases hmem : r ∈ lspan p n (rs.take i)
      · refine iteB (not_dec hmem) ⟨fo, us, _, _, _, rfl, sm, nfo, ef, ?_⟩
        rw [hstep]
        unfold spanStep
        rw [if_pos hmem]
        exact hL
      · refine iteA (by rw [decide_eq_false hmem]; rfl) ?_
        have hstep2 : lspan p n (rs.take (i + 1)) = (lspan p n (rs.take i)).flatMap fun w => (List.range p.toNat).map fun a : Nat => addR p w (scR p r (a : Int)) := by
          rw [hstep]
          unfold spanStep
          rw [if_neg hmem]
        generalize hLL : lspan p n (rs.take i) = L at *
        refine ⟨Nat.zero_le _, fun lo nlo => ?_⟩
        have ef1 := same_new (o := .lst []) nlo _ _ ef
        refine ⟨_, rfl, fo, rfl, ⟨_, .inl (.inl ef1)⟩, for_list (xs := us) (fun j σ H3 => ∃ (lo : Addr) (ls : List V) (y6 : Option V), σ = [some (.ref a), some (.int (n : Int)), some (.int p), some (.ref fo), some x, some (.ref lo), y6, none] ∧ Same H2 H3 ∧ H2 lo = none ∧ H3 lo = some (.lst ls) ∧ Paired (RR H3) ls ((L.take j).flatMap fun w => (List.range p.toNat).map fun a : Nat => addR p w (scR p r (a : Int))))
          ⟨lo, [], y6, rfl, same_new nlo, nlo, upd_same, .nil⟩ (fun j σ H3 _ ⟨_, _, _, _, sm3, _⟩ => .inl (.inl (sm3 _ _ ef))) ?_ ?_⟩
        · rintro j x2 σ H3 hj ⟨lo, ls, y6, rfl, sm3, nlo, elo, hls⟩
          obtain ⟨w, ew, hRw⟩ := paired_get hL hj
          have hvw := hLv w (List.mem_of_getElem? ew)
          have hRw := st_RR.same sm3 hRw
          have hRr3 := st_RR.same sm3 hRr
          refine ⟨_, rfl, _, rfl, p, rfl, by omega, by omega, fun D nD => ?_⟩
          refine lc_rep (walk_range (lo := 0) (n := p.toNat)) st_RR (fun c => addR p w (scR p r (c : Int))) (by omega) nD (fun H4 _ => trivial) (fun c x3 H4 H5 Q2 hc sm4 hY q2 => ?_) (fun H4 acc sm4 eD hPa => ?_)
          · obtain ⟨rfl, rfl⟩ := hY
            have e0 : ((0 : Int) + (c : Int)) = (c : Int) := by omega
            refine ⟨rfl, _, rfl, _, rfl, _, rfl, _, rfl, _, (c : Int), p, r, by show [x, V.int ((0 : Int) + (c : Int)), V.int p] = [x, V.int (c : Int), V.int p]; rw [e0], st_RR.same sm4 hRr3, hp, by rw [hvr.1]; exact hn, by omega, hvr.sm h31, fun v2 H6 sm6 hR6 => ?_⟩
            refine ⟨_, rfl, _, v2, p, w, _, rfl, st_RR.same sm6 (st_RR.same sm4 hRw), hR6, hp, by rw [hvw.1]; exact hn, by rw [hvw.1, (scR_vr hp hvr.1 _).1], fun v7 H7 sm7 hR7 => q2 v7 H7 (sm6.trans sm7) hR7⟩
          · have elo4 := sm4 _ _ elo
            have hlj : ls.length ≤ 70000 := by
              rw [Paired.length hls, flat_len (c := p.toNat) _ _ fun x _ => by rw [List.length_map, List.length_range]]
              have h1 : (L.take j).length ≤ 2000 := by rw [List.length_take]; omega
              exact Nat.le_trans (Nat.mul_le_mul (show p.toNat ≤ 31 by omega) h1) (by decide)
            have hac : acc.length = p.toNat := by rw [Paired.length hPa, List.length_map, List.length_range]
            refine ⟨lo, D, _, _, rfl, rfl, elo4, eD, Nat.le_of_lt (small2000 (by rw [hac]; omega)), fun u nu => ?_⟩
            refine ⟨u, ls ++ acc, _, rfl, sm3.trans (sm4.trans (same_new nu)), (sm3.trans sm4).free nu, upd_same, ?_⟩
            rw [List.take_add_one, ew, List.flatMap_append]
            refine st_RR.all (same_new nu) (paired_app (st_RR.all sm4 hls) ?_)
            show Paired (RR H4) acc ([w].flatMap fun w => (List.range p.toNat).map fun a : Nat => addR p w (scR p r (a : Int)))
            rw [List.flatMap_cons, List.flatMap_nil, List.append_nil]
            exact hPa
        · rintro σ H3 ⟨lo, ls, y6, rfl, sm3, nlo, elo, hls⟩
          rw [Paired.length hL, List.take_length] at hls
          refine ⟨_, rfl, lo, ls, rfl, .inl (.inl (.inl elo)), fun u nu => ?_⟩
          refine ⟨u, ls, _, _, _, rfl, sm.trans (sm3.trans (same_new nu)), (sm.trans sm3).free nu, upd_same, ?_⟩
          rw [hstep2]
          exact st_RR.all (same_new nu) hls
    · rintro σ H' ⟨fo, us, y4, y5, y6, rfl, sm, nfo, ef, hL⟩
      rw [Paired.length hP, List.take_length] at hL
      obtain ⟨bs, e1, e2, e3⟩ := unpair hL
      have hvv := lspan_vr (n := n) hp hv
      refine ⟨_, rfl, fo, bs, rfl, by rw [← e1]; exact .inl (.inl ef), fun b hb => (e3 b hb).sq, ?_, fun l nl => ?_⟩
      · by_cases hn0 : n = 0
        · refine .inr ?_
          subst hn0
          have := congrArg List.length e2
          rw [lspan_zero hv, List.length_map] at this
          exact Nat.le_of_eq this.symm
        · refine .inl fun b hb z => ?_
          have := (hvv b.2 (by rw [e2]; exact List.mem_map.mpr ⟨b, hb, rfl⟩)).1
          rw [z] at this
          exact hn0 this.symm
      · refine q l _ _ (sm.trans (same_new nl)) (sm.free nl) upd_same ?_
        have hsort : (bs.mergeSort Own.leB).map (·.2) = lspanS p n rs := by
          unfold lspanS
          rw [e2]
          exact PySem.W.sort_maps (fun b : Addr × List Int => b.2) fun _ _ _ _ => rfl
        rw [← hsort]
        exact st_RR.all (same_new nl) (repair fun b hb => e3 b (List.mem_mergeSort.mp hb))
theorem lspan_few {p : Int} {n : Nat} {rs : List (List Int)} (h2 : 2 ≤ p) (hpow : p.toNat ^ rs.length ≤ 2000) : ∀ i, i ≤ rs.length → (lspan p n (rs.take i)).length ≤ 2000 := fun i hi => Nat.le_trans (lspan_len h2 i hi) (Nat.le_trans (Nat.pow_le_pow_right (by omega) hi) hpow)
theorem ok_lspan (T : Txt K mg) : FnOk P w K mg base CX0 2 T.a__law_span T.d__law_span ["rows", "n", "p"] (spLSpan K) :=
  (ok_lspanG T).imp fun _ _ _ _ ⟨a, n, p, rs, e, hR, h2, h31, hn, hpow, hv, q⟩ => ⟨a, n, p, rs, e, hR, h2, h31, hn, lspan_few h2 hpow, hv, q⟩
/-! ### reduced tables -/
structure Form (p : Int) (n : Nat) (tb : List (List Int)) (pv_ : List Nat) : Prop where
  len : tb.length = pv_.length
  vr : ∀ r ∈ tb, Vr p n r
  lt : ∀ k ∈ pv_, k < n
  inc : pv_.Pairwise (· < ·)
  one : ∀ (i : Nat) (r : List Int) (k : Nat), tb[i]? = some r → pv_[i]? = some k → atR r k = 1
  lead : ∀ (i : Nat) (r : List Int) (k : Nat), tb[i]? = some r → pv_[i]? = some k → ∀ j, j < k → atR r j = 0
  zero : ∀ (i : Nat) (r : List Int) (j k : Nat), tb[i]? = some r → pv_[j]? = some k → i ≠ j → atR r k = 0
def headsR (r : List Int) (j : Nat) : List Nat := (List.range j).filter fun k => decide (atR r k ≠ 0)
theorem headsR_more (r : List Int) (j : Nat) : headsR r (j + 1) = headsR r j ++ (if atR r j ≠ 0 then [j] else []) := by
  unfold headsR
  rw [List.range_succ, List.filter_append]
  congr 1
  by_cases h : atR r j ≠ 0
  · rw [if_pos h, List.filter_cons_of_pos (by exact decide_eq_true h), List.filter_nil]
  · rw [if_neg h, List.filter_cons_of_neg (by rw [decide_eq_false h]; exact Bool.false_ne_true), List.filter_nil]
theorem headsR_len (r : List Int) (j : Nat) : (headsR r j).length ≤ j := by
  unfold headsR
  refine Nat.le_trans (List.length_filter_le _ _) ?_
  rw [List.length_range]
  exact Nat.le_refl j
theorem headsR_lead {r : List Int} {k : Nat} (h0 : ∀ j, j < k → atR r j = 0) (h1 : atR r k ≠ 0) : ∀ n, k < n → ∃ rest, headsR r n = k :: rest
  | 0, h => absurd h (Nat.not_lt_zero k)
  | n + 1, h => by
    by_cases hk : k < n
    · obtain ⟨rest, e⟩ := headsR_lead h0 h1 n hk
      exact ⟨_, by rw [headsR_more, e]; rfl⟩
    · have e : k = n := by omega
      subst e
      have e0 : headsR r k = [] := by
        unfold headsR
        rw [List.filter_eq_nil_iff]
        intro j hj
        have := h0 j (List.mem_range.mp hj)
        rw [this]
        decide
      exact ⟨[], by rw [headsR_more, e0, if_pos h1]; rfl⟩
theorem natV_add (l : List Nat) (k : Nat) : natV (l ++ [k]) = natV l ++ [.int (k : Int)] := by
  unfold natV
  rw [List.map_append]
  rfl
theorem bl_ne {x y : Int} (h : x ≠ y) : (!decide (V.int x = V.int y)) = true := by rw [decide_eq_false (fun z => h (V.int.inj z))]; rfl
/-! ### _law_prime -/
def primesL : List Int := [2, 2, 3, 3, 5, 7, 31]
def spPrime : Sp := fun vs H Q _ => ∃ (a : Addr), vs = [.ref a] ∧ StA H a ∧ ∀ H' p, SameX a H H' → StA H' a → p ∈ primesL → Q (.int p) H'
theorem take_in {L : List Int} {v : Int} (h0 : 0 ≤ v) (h1 : v < (L.length : Int)) : ∃ p, p ∈ L ∧ atI (L.map V.int) v = some (.int p) := by
  obtain ⟨j, rfl⟩ := Int.eq_ofNat_of_zero_le h0
  have hj : j < L.length := by omega
  refine ⟨L[j], List.getElem_mem hj, atI_nat ?_⟩
  rw [List.getElem?_map, List.getElem?_eq_getElem hj]
  rfl
theorem ok_prime (T : Txt K mg) : FnOk P w K mg base CX0 2 T.a__law_prime T.d__law_prime ["state"] spPrime := by
  have G__law_take : FnOk P w K mg base CX0 1 T.a__law_take T.d__law_take ["state", "m"] spTake := ok_take T
  refine T.F__law_prime.ok sc__law_prime (fun vs H Q E h => ?_) (fun cdv A outer s H vs Q E hr h => ?_)
  · obtain ⟨a, rfl, _⟩ := h
    rfl
  · obtain ⟨a, rfl, ⟨s0, t0, est⟩, q⟩ := h
    refine ⟨_, (pss_one (ps_ret (pe_ix ix_list (pe_lst (pa_cons pe_int (pa_cons pe_int (pa_cons pe_int (pa_cons pe_int (pa_cons pe_int (pa_cons pe_int (pa_cons pe_int pa_nil)))))))) (pe_call G__law_take (hr.mono (by decide)) (by rfl) T.g__law_take T.F__law_take.kp T.b__law_take .nil pass0 (pa_cons (pv 0) (pa_cons pe_int pa_nil))) (fun _ _ => rfl)))), ?_⟩
    refine ⟨by show 7 ≤ sizeLine; decide, fun l nl => ?_⟩
    have est1 := same_new (o := .lst (primesL.map V.int)) nl _ _ est
    have hla : l ≠ a := fun z => by rw [z, est] at nl; cases nl
    refine ⟨_, rfl, a, 7, _, _, rfl, by decide, by decide, est1, fun v s1 t1 h0 h1 => ?_⟩
    obtain ⟨p, hp, hat⟩ := take_in (L := primesL) h0 h1
    refine ⟨l, primesL.map V.int, v, .int p, rfl, rfl, .inl (.inl (by rw [upd_ne hla, upd_same]; rfl)), hat, ?_⟩
    exact q _ p ((Same.x (same_new nl)).trans SameX.put) ⟨s1, t1, upd_same⟩ hp
def widthsL : List Int := [0, 0, 5, 5, 0, 4, 0, 4]
theorem prime_facts : ∀ p ∈ primesL, 2 ≤ p ∧ p ≤ 31 ∧ (p < 8 → (widthsL.map V.int)[p.toNat]? = some (.int (if p ≤ 3 then 5 else 4)) ∧ 0 ≤ p) := by decide
/-! ### _law_width -/
def spWidth : Sp := fun vs H Q _ => ∃ (a : Addr) (p : Int), vs = [.ref a, .int p] ∧ StA H a ∧ p ∈ primesL ∧ ∀ H' (n : Nat), SameX a H H' → StA H' a → n ≤ 4 → (3 < p → n ≤ 3) → (7 < p → n ≤ 1) → Q (.int (n : Int)) H'
theorem ok_width (T : Txt K mg) : FnOk P w K mg base CX0 2 T.a__law_width T.d__law_width ["state", "p"] spWidth := by
  have G__law_take : FnOk P w K mg base CX0 1 T.a__law_take T.d__law_take ["state", "m"] spTake := ok_take T
  refine T.F__law_width.ok sc__law_width (fun vs H Q E h => ?_) (fun cdv A outer s H vs Q E hr h => ?_)
  · obtain ⟨a, p, rfl, _⟩ := h
    rfl
  · obtain ⟨a, p, rfl, ⟨s0, t0, est⟩, hp, q⟩ := h
    obtain ⟨h2, h31, hw⟩ := prime_facts p hp
    refine ⟨_, (pss_one (ps_ret (pe_call G__law_take (hr.mono (by decide)) (by rfl) T.g__law_take T.F__law_take.kp T.b__law_take .nil pass0 (pa_cons (pv 0) (pa_cons (pe_ifExp (pt_cmpR op_lt (pv 1) pe_int (nomark _)) (pe_ix ix_list (pe_lst (pa_cons pe_int (pa_cons pe_int (pa_cons pe_int (pa_cons pe_int (pa_cons pe_int (pa_cons pe_int (pa_cons pe_int (pa_cons pe_int pa_nil))))))))) (pv 1) (fun _ _ => rfl)) pe_int) pa_nil))))), ?_⟩
    refine ⟨_, rfl, _, rfl, _, _, rfl, rfl, _, rfl, ite2 (fun c => ?_) (fun c => ?_)⟩
    · have c1 : p < 8 := of_decide_eq_true c
      obtain ⟨hg, _⟩ := hw c1
      refine ⟨by show 8 ≤ sizeLine; decide, fun l nl => ?_⟩
      have est1 := same_new (o := .lst (widthsL.map V.int)) nl _ _ est
      refine ⟨_, rfl, l, widthsL.map V.int, p, .int (if p ≤ 3 then 5 else 4), rfl, rfl, .inl (.inl upd_same), ?_, ?_⟩
      · have e : p = ((p.toNat : Nat) : Int) := by omega
        have h8 := atI_nat hg
        rw [← e] at h8
        exact h8
      · refine ⟨a, _, _, _, rfl, by split <;> omega, by split <;> omega, est1, fun v s1 t1 h0 h1 => ?_⟩
        obtain ⟨n, rfl⟩ := Int.eq_ofNat_of_zero_le h0
        exact q _ n ((Same.x (same_new nl)).trans SameX.put) ⟨s1, t1, upd_same⟩ (by split at h1 <;> omega) (fun h => by split at h1 <;> omega) (fun h => by omega)
    · have c1 : ¬ p < 8 := fun z => c (decide_eq_true z)
      refine ⟨a, 2, _, _, rfl, by decide, by decide, est, fun v s1 t1 h0 h1 => ?_⟩
      obtain ⟨n, rfl⟩ := Int.eq_ofNat_of_zero_le h0
      exact q _ n SameX.put ⟨s1, t1, upd_same⟩ (by omega) (fun h => by omega) (fun h => by omega)
/-! ### linear algebra modulo p, on lists -/
theorem atR_add {p : Int} {v w : List Int} {i : Nat} (hv : i < v.length) (hw : i < w.length) : atR (addR p v w) i = (atR v i + atR w i) % p := by
  unfold addR
  have h : ((v.zip w).map fun x => (x.1 + x.2) % p)[i]? = some ((atR v i + atR w i) % p) := by
    rw [List.getElem?_map, List.zip, List.getElem?_zipWith, atR_get hv, atR_get hw]
    rfl
  unfold atR
  rw [List.getD_eq_getElem?_getD, h]
  rfl
theorem atR_sc {p c : Int} {v : List Int} {i : Nat} (hv : i < v.length) : atR (scR p v c) i = (c * atR v i) % p := by
  have h : (v.map fun x => (c * x) % p)[i]? = some ((c * atR v i) % p) := by
    rw [List.getElem?_map, atR_get hv]
    rfl
  unfold scR
  show (v.map fun x => (c * x) % p).getD i 0 = _
  rw [List.getD_eq_getElem?_getD, h]
  rfl
theorem atR_zero {n i : Nat} : atR (zeroR n) i = 0 := by
  unfold atR zeroR
  rw [List.getD_eq_getElem?_getD]
  by_cases h : i < n
  · rw [List.getElem?_replicate, if_pos h]; rfl
  · rw [List.getElem?_replicate, if_neg h]; rfl
theorem ext_at {p : Int} {n : Nat} {u v : List Int} (hu : Vr p n u) (hv : Vr p n v) (h : ∀ i, i < n → atR u i = atR v i) : u = v := by
  apply List.ext_getElem?
  intro i
  by_cases hi : i < n
  · rw [atR_get (by rw [hu.1]; exact hi), atR_get (by rw [hv.1]; exact hi), h i hi]
  · rw [List.getElem?_eq_none (by rw [hu.1]; omega), List.getElem?_eq_none (by rw [hv.1]; omega)]
section
variable {p : Int} {n : Nat}
theorem mm (a b : Int) : (a * (b % p)) % p = (a * b) % p := by rw [Int.mul_emod, Int.emod_emod_of_dvd _ (Int.dvd_refl p), ← Int.mul_emod]
theorem add_comm' {u v : List Int} (hp : 0 < p) (hu : Vr p n u) (hv : Vr p n v) : addR p u v = addR p v u :=
  ext_at (addR_vr hp hu hv) (addR_vr hp hv hu) fun i hi => by
    rw [atR_add (by rw [hu.1]; exact hi) (by rw [hv.1]; exact hi), atR_add (by rw [hv.1]; exact hi) (by rw [hu.1]; exact hi), Int.add_comm]
theorem add_assoc' {u v w_ : List Int} (hp : 0 < p) (hu : Vr p n u) (hv : Vr p n v) (hw : Vr p n w_) : addR p (addR p u v) w_ = addR p u (addR p v w_) :=
  ext_at (addR_vr hp (addR_vr hp hu hv) hw) (addR_vr hp hu (addR_vr hp hv hw)) fun i hi => by
    have a1 := hu.1; have a2 := hv.1; have a3 := hw.1
    have a4 := (addR_vr hp hu hv).1; have a5 := (addR_vr hp hv hw).1
    rw [atR_add (by omega) (by omega), atR_add (by omega) (by omega), atR_add (by omega) (by omega), atR_add (by omega) (by omega), Int.emod_add_emod, Int.add_emod_emod, Int.add_assoc]
theorem add_zero' {v : List Int} (hp : 0 < p) (hv : Vr p n v) : addR p v (zeroR n) = v :=
  ext_at (addR_vr hp hv (zeroR_vr hp n)) hv fun i hi => by
    have hb := hv.at hi
    rw [atR_add (by rw [hv.1]; exact hi) (by rw [(zeroR_vr hp n).1]; exact hi), atR_zero, Int.add_zero, emod_small hb.1 hb.2]
theorem zero_add' {v : List Int} (hp : 0 < p) (hv : Vr p n v) : addR p (zeroR n) v = v := by
  rw [add_comm' hp (zeroR_vr hp n) hv, add_zero' hp hv]
theorem la_sc_add {v w_ : List Int} (hp : 0 < p) (hv : Vr p n v) (hw : Vr p n w_) (c : Int) : scR p (addR p v w_) c = addR p (scR p v c) (scR p w_ c) := by
  have hs := scR_vr hp (addR_vr hp hv hw).1 c
  have h1 := scR_vr hp hv.1 c
  have h2 := scR_vr hp hw.1 c
  refine ext_at hs (addR_vr hp h1 h2) fun i hi => ?_
  have a1 := hv.1; have a2 := hw.1; have a3 := (addR_vr hp hv hw).1; have a4 := h1.1; have a5 := h2.1
  rw [atR_sc (by omega), atR_add (by omega) (by omega), atR_add (by omega) (by omega), atR_sc (by omega), atR_sc (by omega), mm, Int.mul_add, ← Int.add_emod]
theorem la_sc_sc {v : List Int} (hp : 0 < p) (hv : Vr p n v) (c d : Int) : scR p (scR p v c) d = scR p v (d * c) := by
  have h1 := scR_vr hp hv.1 c
  refine ext_at (scR_vr hp h1.1 d) (scR_vr hp hv.1 _) fun i hi => ?_
  have a1 := hv.1; have a2 := h1.1
  rw [atR_sc (by omega), atR_sc (by omega), atR_sc (by omega), mm, Int.mul_assoc]
theorem la_add_sc {v : List Int} (hp : 0 < p) (hv : Vr p n v) (c d : Int) : addR p (scR p v c) (scR p v d) = scR p v (c + d) := by
  have h1 := scR_vr hp hv.1 c
  have h2 := scR_vr hp hv.1 d
  refine ext_at (addR_vr hp h1 h2) (scR_vr hp hv.1 _) fun i hi => ?_
  have a1 := hv.1; have a2 := h1.1; have a3 := h2.1
  rw [atR_add (by omega) (by omega), atR_sc (by omega), atR_sc (by omega), atR_sc (by omega), ← Int.add_emod, Int.add_mul]
theorem la_sc_mod {v : List Int} (hp : 0 < p) (hv : Vr p n v) (c : Int) : scR p v (c % p) = scR p v c := by
  refine ext_at (scR_vr hp hv.1 _) (scR_vr hp hv.1 _) fun i hi => ?_
  have a1 := hv.1
  rw [atR_sc (by omega), atR_sc (by omega), Int.mul_emod, Int.emod_emod_of_dvd _ (Int.dvd_refl p), ← Int.mul_emod]
theorem la_sc_zero {v : List Int} (hp : 0 < p) (hv : Vr p n v) : scR p v 0 = zeroR n := by
  refine ext_at (scR_vr hp hv.1 _) (zeroR_vr hp n) fun i hi => ?_
  rw [atR_sc (by rw [hv.1]; exact hi), atR_zero, Int.zero_mul, Int.zero_emod]
theorem la_sc_one {v : List Int} (hp : 0 < p) (hv : Vr p n v) : scR p v 1 = v := by
  refine ext_at (scR_vr hp hv.1 _) hv fun i hi => ?_
  have hb := hv.at hi
  rw [atR_sc (by rw [hv.1]; exact hi), Int.one_mul, emod_small hb.1 hb.2]
theorem la_sc_dvd {v : List Int} (hp : 0 < p) (hv : Vr p n v) {c : Int} (h : c % p = 0) : scR p v c = zeroR n := by
  rw [← la_sc_mod hp hv, h, la_sc_zero hp hv]
theorem la_zero_sc (hp : 0 < p) (c : Int) : scR p (zeroR n) c = zeroR n := by
  have hz := zeroR_vr hp n
  refine ext_at (scR_vr hp hz.1 _) hz fun i hi => ?_
  rw [atR_sc (by rw [hz.1]; exact hi), atR_zero, Int.mul_zero, Int.zero_emod]
theorem add_back {r l : List Int} (hp : 0 < p) (hr : Vr p n r) (hl : Vr p n l) (a : Int) : addR p (addR p r (scR p l (-a))) (scR p l a) = r := by
  have h1 := scR_vr hp hl.1 (-a)
  have h2 := scR_vr hp hl.1 a
  rw [add_assoc' hp hr h1 h2, la_add_sc hp hl, show -a + a = 0 by omega, la_sc_zero hp hl, add_zero' hp hr]
/-! the space of some rows -/
def Spn (p : Int) (n : Nat) : List (List Int) → List Int → Prop
  | [], v => v = zeroR n
  | r :: R, v => ∃ (c : Int) (w_ : List Int), Spn p n R w_ ∧ v = addR p w_ (scR p r c)
def AllV (p : Int) (n : Nat) (R : List (List Int)) : Prop := ∀ r ∈ R, Vr p n r
theorem AllV.tail {r : List Int} {R : List (List Int)} (h : AllV p n (r :: R)) : AllV p n R := fun x hx => h x (List.mem_cons_of_mem _ hx)
theorem AllV.head {r : List Int} {R : List (List Int)} (h : AllV p n (r :: R)) : Vr p n r := h r (List.mem_cons_self ..)
theorem Spn.vr (hp : 0 < p) : ∀ {R : List (List Int)} {v : List Int}, AllV p n R → Spn p n R v → Vr p n v
  | [], _, _, h => by rw [show _ = zeroR n from h]; exact zeroR_vr hp n
  | r :: R, _, hR, ⟨c, w_, hw, e⟩ => by rw [e]; exact addR_vr hp (Spn.vr hp hR.tail hw) (scR_vr hp hR.head.1 _)
theorem Spn.zero (hp : 0 < p) : ∀ {R : List (List Int)}, AllV p n R → Spn p n R (zeroR n)
  | [], _ => rfl
  | r :: R, hR => ⟨0, zeroR n, Spn.zero hp hR.tail, by rw [la_sc_zero hp hR.head, add_zero' hp (zeroR_vr hp n)]⟩
theorem add4 {a b c d : List Int} (hp : 0 < p) (ha : Vr p n a) (hb : Vr p n b) (hc : Vr p n c) (hd : Vr p n d) : addR p (addR p a b) (addR p c d) = addR p (addR p a c) (addR p b d) := by
  rw [add_assoc' hp ha hb (addR_vr hp hc hd), ← add_assoc' hp hb hc hd, add_comm' hp hb hc, add_assoc' hp hc hb hd, ← add_assoc' hp ha hc (addR_vr hp hb hd)]
theorem Spn.add (hp : 0 < p) : ∀ {R : List (List Int)} {u v : List Int}, AllV p n R → Spn p n R u → Spn p n R v → Spn p n R (addR p u v)
  | [], _, _, _, h, k => by
    rw [show _ = zeroR n from h, show _ = zeroR n from k]
    exact add_zero' hp (zeroR_vr hp n)
  | r :: R, _, _, hR, ⟨c, w1, h1, e1⟩, ⟨d, w2, h2, e2⟩ => by
    refine ⟨c + d, addR p w1 w2, Spn.add hp hR.tail h1 h2, ?_⟩
    rw [e1, e2, add4 hp (h1.vr hp hR.tail) (scR_vr hp hR.head.1 _) (h2.vr hp hR.tail) (scR_vr hp hR.head.1 _), la_add_sc hp hR.head]
theorem Spn.sc (hp : 0 < p) : ∀ {R : List (List Int)} {v : List Int}, AllV p n R → Spn p n R v → ∀ c : Int, Spn p n R (scR p v c)
  | [], _, _, h, c => by
    rw [show _ = zeroR n from h]
    exact la_zero_sc hp c
  | r :: R, _, hR, ⟨d, w1, h1, e1⟩, c => by
    refine ⟨c * d, scR p w1 c, Spn.sc hp hR.tail h1 c, ?_⟩
    rw [e1, la_sc_add hp (h1.vr hp hR.tail) (scR_vr hp hR.head.1 _), la_sc_sc hp hR.head]
theorem Spn.mem (hp : 0 < p) : ∀ {R : List (List Int)} {r : List Int}, AllV p n R → r ∈ R → Spn p n R r
  | r :: R, x, hR, h => by
    rcases List.mem_cons.mp h with rfl | h
    · exact ⟨1, zeroR n, Spn.zero hp hR.tail, by rw [la_sc_one hp hR.head, zero_add' hp hR.head]⟩
    · have hx := hR x (List.mem_cons_of_mem _ h)
      exact ⟨0, x, Spn.mem hp hR.tail h, by rw [la_sc_zero hp hR.head, add_zero' hp hx]⟩
theorem Spn.sub (hp : 0 < p) : ∀ {R S : List (List Int)}, AllV p n R → AllV p n S → (∀ r ∈ R, Spn p n S r) → ∀ v, Spn p n R v → Spn p n S v
  | [], S, _, hS, _, v, h => by rw [show v = zeroR n from h]; exact Spn.zero hp hS
  | r :: R, S, hR, hS, k, v, ⟨c, w_, hw, e⟩ => by
    rw [e]
    exact Spn.add hp hS (Spn.sub hp hR.tail hS (fun x hx => k x (List.mem_cons_of_mem _ hx)) w_ hw) (Spn.sc hp hS (k r (List.mem_cons_self ..)) c)
/-- one row at the end -/
theorem Spn.last (hp : 0 < p) {R : List (List Int)} {r : List Int} (hR : AllV p n R) (hr : Vr p n r) (v : List Int) : Spn p n (R ++ [r]) v ↔ ∃ (c : Int) (w_ : List Int), Spn p n R w_ ∧ v = addR p w_ (scR p r c) := by
  have hRr : AllV p n (R ++ [r]) := fun x hx => by
    rcases List.mem_append.mp hx with h | h
    · exact hR x h
    · rw [List.mem_singleton.mp h]; exact hr
  have hrR : AllV p n (r :: R) := fun x hx => by
    rcases List.mem_cons.mp hx with rfl | h
    · exact hr
    · exact hR x h
  constructor
  · intro h
    exact Spn.sub hp hRr hrR (fun x hx => Spn.mem hp hrR (by
      rcases List.mem_append.mp hx with h | h
      · exact List.mem_cons_of_mem _ h
      · rw [List.mem_singleton.mp h]; exact List.mem_cons_self ..)) v h
  · rintro ⟨c, w_, hw, rfl⟩
    exact Spn.add hp hRr (Spn.sub hp hR hRr (fun x hx => Spn.mem hp hRr (List.mem_append_left _ hx)) w_ hw) (Spn.sc hp hRr (Spn.mem hp hRr (List.mem_append_right _ (List.mem_singleton.mpr rfl))) c)
/-! primes -/
structure Pr (p : Int) : Prop where
  two : 2 ≤ p
  le : p ≤ 31
  inv : ∀ a : Int, a % p ≠ 0 → (invR p a * a) % p = 1
theorem pr_check : (primesL.all fun p => (List.range 31).all fun r => decide (r = 0) || decide (p ≤ (r : Int)) || decide ((invR p (r : Int) * (r : Int)) % p = 1)) = true := by decide +kernel
theorem pr_of {p : Int} (h : p ∈ primesL) : Pr p := by
  obtain ⟨h2, h31, _⟩ := prime_facts p h
  refine ⟨h2, h31, fun a ha => ?_⟩
  have hb := emod_in (p := p) (by omega) a
  have k := List.all_eq_true.mp (List.all_eq_true.mp pr_check p h) (a % p).toNat (List.mem_range.mpr (by omega))
  have e2 : ((a % p).toNat : Int) = a % p := by omega
  rw [e2] at k
  simp only [Bool.or_eq_true, decide_eq_true_eq] at k
  rcases k with (k | k) | k
  · omega
  · omega
  · have e3 : invR p (a % p) = invR p a := by
      unfold invR
      rw [Int.emod_emod_of_dvd _ (Int.dvd_refl p)]
    rw [e3, mm] at k
    exact k
theorem Pr.pos {p : Int} (h : Pr p) : 0 < p := by have := h.two; omega
end
/-! ### the elimination -/
section
variable {p : Int} {n : Nat}
theorem AllV.app {R S : List (List Int)} (h : AllV p n R) (k : AllV p n S) : AllV p n (R ++ S) := fun x hx => (List.mem_append.mp hx).elim (h x) (k x)
theorem clr_at {r l : List Int} {k i : Nat} (hp : 0 < p) (hr : Vr p n r) (hl : Vr p n l) (hi : i < n) : atR (clrR p r l k) i = (atR r i - atR r k * atR l i) % p := by
  have hb := hr.at hi
  have h2 := scR_vr hp hl.1 (-(atR r k))
  unfold clrR
  split
  · rename_i h0
    rw [h0, Int.zero_mul, Int.sub_zero, emod_small hb.1 hb.2]
  · rw [atR_add (by rw [hr.1]; exact hi) (by rw [h2.1]; exact hi), atR_sc (by rw [hl.1]; exact hi), Int.add_emod_emod, Int.neg_mul]
    rfl
theorem clr_eq {r l : List Int} {k : Nat} (hp : 0 < p) (hr : Vr p n r) (hl : Vr p n l) : clrR p r l k = addR p r (scR p l (-(atR r k))) := by
  unfold clrR
  split
  · rename_i h0
    rw [h0, Int.neg_zero, la_sc_zero hp hl, add_zero' hp hr]
  · rfl
theorem leadR_none {k : Nat} : ∀ {rs : List (List Int)}, leadR p rs k = none → ∀ r ∈ rs, atR r k = 0
  | r :: rs, h, x, hx => by
    rw [leadR] at h
    split at h
    · rename_i h0
      rcases List.mem_cons.mp hx with rfl | hx
      · exact h0
      · exact leadR_none h x hx
    · cases h
theorem leadR_some {k : Nat} : ∀ {rs : List (List Int)} {l : List Int}, leadR p rs k = some l → ∃ r ∈ rs, atR r k ≠ 0 ∧ l = scR p r (invR p (atR r k))
  | r :: rs, l, h => by
    rw [leadR] at h
    split at h
    · obtain ⟨x, hx, h1, h2⟩ := leadR_some h
      exact ⟨x, List.mem_cons_of_mem _ hx, h1, h2⟩
    · rename_i h0
      cases h
      exact ⟨r, List.mem_cons_self .., h0, rfl⟩
structure Elm (p : Int) (n : Nat) (rs : List (List Int)) (k : Nat) (s : Elim) : Prop where
  vl : AllV p n s.left
  F : Form p n s.table s.piv
  below : ∀ j ∈ s.piv, j < k
  zeros : ∀ r ∈ s.left, ∀ j, j < k → atR r j = 0
  span : ∀ v, Spn p n rs v ↔ Spn p n (s.left ++ s.table) v
theorem getElem?_map_some {α β : Type} {f : α → β} {l : List α} {i : Nat} {y : β} (h : (l.map f)[i]? = some y) : ∃ x, l[i]? = some x ∧ y = f x := by
  rw [List.getElem?_map] at h
  cases e : l[i]? with
  | none => rw [e] at h; cases h
  | some x =>
    rw [e] at h
    exact ⟨x, rfl, (Option.some.inj h).symm⟩
theorem app_get {α : Type} {l : List α} {x y : α} {i : Nat} (h : (l ++ [x])[i]? = some y) : (i < l.length ∧ l[i]? = some y) ∨ (i = l.length ∧ y = x) := by
  by_cases hi : i < l.length
  · rw [List.getElem?_append_left hi] at h
    exact .inl ⟨hi, h⟩
  · rw [List.getElem?_append_right (by omega)] at h
    have : i - l.length = 0 := by
      by_cases h0 : i - l.length = 0
      · exact h0
      · rw [List.getElem?_eq_none (by rw [List.length_singleton]; omega)] at h
        cases h
    rw [this] at h
    exact .inr ⟨by omega, (Option.some.inj h).symm⟩
theorem elm_step (P : Pr p) {rs : List (List Int)} {k : Nat} (hk : k < n) {s : Elim} (h : Elm p n rs k s) : Elm p n rs (k + 1) (stepE p s k) := by
  have hp := P.pos
  unfold stepE
  split
  · rename_i hnone
    have hz := leadR_none hnone
    exact ⟨h.vl, h.F, fun j hj => Nat.lt_succ_of_lt (h.below j hj), fun r hr j hj => by
      by_cases e : j = k
      · rw [e]; exact hz r hr
      · exact h.zeros r hr j (by omega), h.span⟩
  · rename_i l hl
    obtain ⟨r0, hr0, hne, el⟩ := leadR_some hl
    have hv0 := h.vl r0 hr0
    have hvl : Vr p n l := by rw [el]; exact scR_vr hp hv0.1 _
    have hb0 := hv0.at hk
    have hlk : atR l k = 1 := by
      rw [el, atR_sc (by rw [hv0.1]; exact hk)]
      exact P.inv _ (by rw [emod_small hb0.1 hb0.2]; exact hne)
    have hlj : ∀ j, j < k → atR l j = 0 := fun j hj => by
      rw [el, atR_sc (by rw [hv0.1]; omega), h.zeros r0 hr0 j hj, Int.mul_zero, Int.zero_emod]
    have hcv : ∀ r, Vr p n r → Vr p n (clrR p r l k) := fun r hr => clrR_vr hp hr hvl k
    have hck : ∀ r, Vr p n r → atR (clrR p r l k) k = 0 := fun r hr => by
      rw [clr_at hp hr hvl hk, hlk, Int.mul_one, Int.sub_self, Int.zero_emod]
    have hcj : ∀ r, Vr p n r → ∀ j, j < k → atR (clrR p r l k) j = atR r j := fun r hr j hj => by
      have hb := hr.at (show j < n by omega)
      rw [clr_at hp hr hvl (by omega), hlj j hj, Int.mul_zero, Int.sub_zero, emod_small hb.1 hb.2]
    have vl' : AllV p n (s.left.map fun r => clrR p r l k) := fun x hx => by
      obtain ⟨y, hy, rfl⟩ := List.mem_map.mp hx
      exact hcv y (h.vl y hy)
    have vt' : AllV p n ((s.table.map fun r => clrR p r l k) ++ [l]) := fun x hx => by
      rcases List.mem_append.mp hx with hx | hx
      · obtain ⟨y, hy, rfl⟩ := List.mem_map.mp hx
        exact hcv y (h.F.vr y hy)
      · rw [List.mem_singleton.mp hx]; exact hvl
    have hlen2 : (s.table.map fun r => clrR p r l k).length = s.piv.length := by rw [List.length_map, h.F.len]
    have oldA : AllV p n (s.left ++ s.table) := h.vl.app h.F.vr
    have newA := vl'.app vt'
    refine ⟨vl', ⟨by rw [List.length_append, hlen2, List.length_append]; rfl, vt', fun j hj => ?_, ?_, ?_, ?_, ?_⟩, fun j hj => ?_, fun r hr j hj => ?_, fun v => ?_⟩
    · rcases List.mem_append.mp hj with hj | hj
      · exact h.F.lt j hj
      · rw [List.mem_singleton.mp hj]; exact hk
    · rw [List.pairwise_append]
      exact ⟨h.F.inc, List.pairwise_singleton _ _, fun a ha b hb => by rw [List.mem_singleton.mp hb]; exact h.below a ha⟩
    · intro i r j hr hj
      rcases app_get hr with ⟨hi, hr⟩ | ⟨hi, rfl⟩
      · obtain ⟨y, hy, rfl⟩ := getElem?_map_some hr
        rcases app_get hj with ⟨_, hj⟩ | ⟨hj2, _⟩
        · rw [hcj y (h.F.vr y (List.mem_of_getElem? hy)) j (h.below j (List.mem_of_getElem? hj))]
          exact h.F.one i y j hy hj
        · rw [hlen2] at hi
          omega
      · rcases app_get hj with ⟨hj2, _⟩ | ⟨_, rfl⟩
        · rw [hlen2] at hi
          omega
        · exact hlk
    · intro i r j hr hj m hm
      rcases app_get hr with ⟨hi, hr⟩ | ⟨hi, rfl⟩
      · obtain ⟨y, hy, rfl⟩ := getElem?_map_some hr
        rcases app_get hj with ⟨_, hj⟩ | ⟨hj2, _⟩
        · have hjk := h.below j (List.mem_of_getElem? hj)
          rw [hcj y (h.F.vr y (List.mem_of_getElem? hy)) m (by omega)]
          exact h.F.lead i y j hy hj m hm
        · rw [hlen2] at hi
          omega
      · rcases app_get hj with ⟨hj2, _⟩ | ⟨_, rfl⟩
        · rw [hlen2] at hi
          omega
        · exact hlj m hm
    · intro i r j m hr hm hij
      rcases app_get hr with ⟨hi, hr⟩ | ⟨hi, rfl⟩
      · obtain ⟨y, hy, rfl⟩ := getElem?_map_some hr
        have hvy := h.F.vr y (List.mem_of_getElem? hy)
        rcases app_get hm with ⟨_, hm⟩ | ⟨_, rfl⟩
        · rw [hcj y hvy m (h.below m (List.mem_of_getElem? hm))]
          exact h.F.zero i y j m hy hm hij
        · exact hck y hvy
      · rcases app_get hm with ⟨_, hm⟩ | ⟨hj2, _⟩
        · exact hlj m (h.below m (List.mem_of_getElem? hm))
        · rw [hlen2] at hi
          omega
    · rcases List.mem_append.mp hj with hj | hj
      · exact Nat.lt_succ_of_lt (h.below j hj)
      · rw [List.mem_singleton.mp hj]; exact Nat.lt_succ_self k
    · obtain ⟨y, hy, rfl⟩ := List.mem_map.mp hr
      by_cases e : j = k
      · rw [e]; exact hck y (h.vl y hy)
      · rw [hcj y (h.vl y hy) j (by omega)]
        exact h.zeros y hy j (by omega)
    · rw [h.span v]
      have l_old : Spn p n (s.left ++ s.table) l := by
        rw [el]
        exact Spn.sc hp oldA (Spn.mem hp oldA (List.mem_append_left _ hr0)) _
      have l_new : Spn p n ((s.left.map fun r => clrR p r l k) ++ ((s.table.map fun r => clrR p r l k) ++ [l])) l :=
        Spn.mem hp newA (List.mem_append_right _ (List.mem_append_right _ (List.mem_singleton.mpr rfl)))
      have toOld : ∀ y ∈ s.left ++ s.table, Spn p n (s.left ++ s.table) (clrR p y l k) := fun y hy => by
        rw [clr_eq hp (oldA y hy) hvl]
        exact Spn.add hp oldA (Spn.mem hp oldA hy) (Spn.sc hp oldA l_old _)
      constructor
      · refine Spn.sub hp oldA newA (fun y hy => ?_) v
        have hvy := oldA y hy
        have hin : clrR p y l k ∈ (s.left.map fun r => clrR p r l k) ++ ((s.table.map fun r => clrR p r l k) ++ [l]) := by
          rcases List.mem_append.mp hy with hy | hy
          · exact List.mem_append_left _ (List.mem_map.mpr ⟨y, hy, rfl⟩)
          · exact List.mem_append_right _ (List.mem_append_left _ (List.mem_map.mpr ⟨y, hy, rfl⟩))
        have e := add_back (n := n) hp hvy hvl (atR y k)
        rw [← clr_eq hp hvy hvl] at e
        rw [← e]
        exact Spn.add hp newA (Spn.mem hp newA hin) (Spn.sc hp newA l_new _)
      · refine Spn.sub hp newA oldA (fun y hy => ?_) v
        rcases List.mem_append.mp hy with hy | hy
        · obtain ⟨z, hz, rfl⟩ := List.mem_map.mp hy
          exact toOld z (List.mem_append_left _ hz)
        · rcases List.mem_append.mp hy with hy | hy
          · obtain ⟨z, hz, rfl⟩ := List.mem_map.mp hy
            exact toOld z (List.mem_append_right _ hz)
          · rw [List.mem_singleton.mp hy]
            exact l_old
theorem elm_all (P : Pr p) {rs : List (List Int)} (hv : AllV p n rs) : ∀ k, k ≤ n → Elm p n rs k (elimE p rs k)
  | 0, _ => by
    have et : ∀ (i : Nat) (r : List Int), (elimE p rs 0).table[i]? = some r → False := fun i r h => by
      rw [show (elimE p rs 0).table = [] from rfl, List.getElem?_nil] at h
      cases h
    refine ⟨hv, ⟨rfl, (fun r h => by cases h), (fun r h => by cases h), List.Pairwise.nil, fun i r k h => (et i r h).elim, fun i r k h => (et i r h).elim, fun i r j k h => (et i r h).elim⟩, (fun r h => by cases h), fun r _ j h => absurd h (Nat.not_lt_zero j), fun v => ?_⟩
    show _ ↔ Spn p n (rs ++ []) v
    rw [List.append_nil]
  | k + 1, h => elm_step P h (elm_all P hv k (by omega))
theorem red_form (P : Pr p) {rs : List (List Int)} (hv : AllV p n rs) : Form p n (redT p n rs) (redP p n rs) := (elm_all P hv n (Nat.le_refl n)).F
theorem red_span (P : Pr p) {rs : List (List Int)} (hv : AllV p n rs) (v : List Int) : Spn p n rs v ↔ Spn p n (redT p n rs) v := by
  have hp := P.pos
  have E := elm_all P hv n (Nat.le_refl n)
  rw [E.span v]
  have hA := E.vl.app E.F.vr
  constructor
  · refine Spn.sub hp hA E.F.vr (fun y hy => ?_) v
    rcases List.mem_append.mp hy with hy | hy
    · have e : y = zeroR n := ext_at (E.vl y hy) (zeroR_vr hp n) fun i hi => by rw [E.zeros y hy i hi, atR_zero]
      rw [e]
      exact Spn.zero hp E.F.vr
    · exact Spn.mem hp E.F.vr hy
  · exact Spn.sub hp E.F.vr hA (fun y hy => Spn.mem hp hA (List.mem_append_right _ hy)) v
/-! the law's own span -/
theorem lspan_mem (P : Pr p) {rs : List (List Int)} (hv : AllV p n rs) : ∀ i, i ≤ rs.length → (∀ v, v ∈ lspan p n (rs.take i) ↔ Spn p n (rs.take i) v) ∧ (lspan p n (rs.take i)).Nodup
  | 0, _ => ⟨fun v => by
      show v ∈ [zeroR n] ↔ v = zeroR n
      exact List.mem_singleton, by show [zeroR n].Nodup; simp⟩
  | i + 1, h => by
    have hp := P.pos
    obtain ⟨h1, h2⟩ := lspan_mem P hv i (by omega)
    obtain ⟨r, hr⟩ : ∃ r, rs[i]? = some r := ⟨rs[i], List.getElem?_eq_getElem (by omega)⟩
    have hvr := hv r (List.mem_of_getElem? hr)
    have hvi : AllV p n (rs.take i) := fun x hx => hv x (List.mem_of_mem_take hx)
    have et : rs.take (i + 1) = rs.take i ++ [r] := by rw [List.take_add_one, hr]; rfl
    rw [lspan_step hr, et]
    generalize lspan p n (rs.take i) = L at *
    generalize rs.take i = R at *
    unfold spanStep
    split
    · rename_i hmem
      refine ⟨fun v => ?_, h2⟩
      rw [h1 v, Spn.last hp hvi hvr]
      have hrS := (h1 r).mp hmem
      constructor
      · intro k
        exact ⟨0, v, k, by rw [la_sc_zero hp hvr, add_zero' hp (k.vr hp hvi)]⟩
      · rintro ⟨c, w_, hw, rfl⟩
        exact Spn.add hp hvi hw (Spn.sc hp hvi hrS c)
    · rename_i hmem
      have hrS : ¬ Spn p n R r := fun k => hmem ((h1 r).mpr k)
      refine ⟨fun v => ?_, ?_⟩
      · rw [Spn.last hp hvi hvr, List.mem_flatMap]
        constructor
        · rintro ⟨w_, hw, hv2⟩
          obtain ⟨c, _, rfl⟩ := List.mem_map.mp hv2
          exact ⟨(c : Int), w_, (h1 w_).mp hw, rfl⟩
        · rintro ⟨c, w_, hw, rfl⟩
          refine ⟨w_, (h1 w_).mpr hw, List.mem_map.mpr ⟨(c % p).toNat, List.mem_range.mpr ?_, ?_⟩⟩
          · have := emod_in hp c
            omega
          · have := emod_in hp c
            have e : (((c % p).toNat : Nat) : Int) = c % p := by omega
            rw [e, la_sc_mod hp hvr]
      · -- unlike pairs give unlike rows
        have cancel : ∀ (w1 w2 : List Int) (a b : Nat), Spn p n R w1 → Spn p n R w2 → a < p.toNat → b < p.toNat → addR p w1 (scR p r (a : Int)) = addR p w2 (scR p r (b : Int)) → a = b ∧ w1 = w2 := by
          intro w1 w2 a b k1 k2 ha hb e
          have v1 := k1.vr hp hvi
          have v2 := k2.vr hp hvi
          have sa := scR_vr hp hvr.1 (a : Int)
          have sb := scR_vr hp hvr.1 (b : Int)
          by_cases hab : a = b
          · subst hab
            refine ⟨rfl, ?_⟩
            have e2 := congrArg (fun x => addR p x (scR p r (-(a : Int)))) e
            have sc' := scR_vr hp hvr.1 (-(a : Int))
            try dsimp only at e2
            rw [add_assoc' hp v1 sa sc', add_assoc' hp v2 sa sc', la_add_sc hp hvr, show (a : Int) + -(a : Int) = 0 by omega, la_sc_zero hp hvr, add_zero' hp v1, add_zero' hp v2] at e2
            exact e2
          · exfalso
            have hd : ((a : Int) - (b : Int)) % p ≠ 0 := by
              intro z
              have hdv := Int.dvd_of_emod_eq_zero z
              obtain ⟨q, hq⟩ := hdv
              have h2' := P.two
              rcases Int.lt_trichotomy q 0 with hq0 | hq0 | hq0
              · have : p * q ≤ p * (-1) := Int.mul_le_mul_of_nonneg_left (by omega) (by omega)
                omega
              · rw [hq0, Int.mul_zero] at hq
                omega
              · have : p * 1 ≤ p * q := Int.mul_le_mul_of_nonneg_left (by omega) (by omega)
                omega
            apply hrS
            -- (a - b) r = w2 - w1
            have e3 : scR p r ((a : Int) - (b : Int)) = addR p w2 (scR p w1 (-1)) := by
              have e2 := congrArg (fun x => addR p (addR p x (scR p r (-(b : Int)))) (scR p w1 (-1))) e
              have sc' := scR_vr hp hvr.1 (-(b : Int))
              have s1' := scR_vr hp v1.1 (-1)
              try dsimp only at e2
              have sd := scR_vr hp hvr.1 ((a : Int) + -(b : Int))
              have e1z : addR p w1 (scR p w1 (-1)) = zeroR n := by
                have t := la_add_sc hp v1 1 (-1)
                rw [la_sc_one hp v1, show (1 : Int) + -1 = 0 by omega, la_sc_zero hp v1] at t
                exact t
              rw [add_assoc' hp v1 sa sc', la_add_sc hp hvr, add_comm' hp v1 sd, add_assoc' hp sd v1 s1', e1z, add_zero' hp sd, add_assoc' hp v2 sb sc', la_add_sc hp hvr, show (b : Int) + -(b : Int) = 0 by omega, la_sc_zero hp hvr, add_zero' hp v2] at e2
              rw [show (a : Int) - (b : Int) = (a : Int) + -(b : Int) by omega]
              exact e2
            have e4 : r = scR p (scR p r ((a : Int) - (b : Int))) (invR p ((a : Int) - (b : Int))) := by
              rw [la_sc_sc hp hvr, ← la_sc_mod hp hvr, P.inv _ hd, la_sc_one hp hvr]
            rw [e4, e3]
            exact Spn.sc hp hvi (Spn.add hp hvi k2 (Spn.sc hp hvi k1 _)) _
        rw [List.nodup_iff_pairwise_ne] at h2 ⊢
        rw [List.pairwise_flatMap]
        refine ⟨fun w_ hw => ?_, ?_⟩
        · rw [List.pairwise_map]
          refine (List.pairwise_lt_range (n := p.toNat)).imp_of_mem ?_
          intro a b ha hb hlt e
          have := (cancel w_ w_ a b ((h1 w_).mp hw) ((h1 w_).mp hw) (List.mem_range.mp ha) (List.mem_range.mp hb) e).1
          omega
        · refine h2.imp_of_mem ?_
          intro w1 w2 hw1 hw2 hne x hx y hy exy
          obtain ⟨a, ha, rfl⟩ := List.mem_map.mp hx
          obtain ⟨b, hb, rfl⟩ := List.mem_map.mp hy
          exact hne (cancel w1 w2 a b ((h1 w1).mp hw1) ((h1 w2).mp hw2) (List.mem_range.mp ha) (List.mem_range.mp hb) exy).2
theorem lspan_iff (P : Pr p) {rs : List (List Int)} (hv : AllV p n rs) (v : List Int) : v ∈ lspan p n rs ↔ Spn p n rs v := by
  have h := (lspan_mem P hv rs.length (Nat.le_refl _)).1 v
  rw [List.take_length] at h
  exact h
theorem lspan_nodup (P : Pr p) {rs : List (List Int)} (hv : AllV p n rs) : (lspan p n rs).Nodup := by
  have h := (lspan_mem P hv rs.length (Nat.le_refl _)).2
  rw [List.take_length] at h
  exact h
theorem leR_trans (a b c : List Int) (h : leR a b = true) (k : leR b c = true) : leR a c = true := decide_eq_true (List.le_trans (of_decide_eq_true h) (of_decide_eq_true k))
theorem leR_total (a b : List Int) : (leR a b || leR b a) = true := by
  rw [Bool.or_eq_true]
  rcases List.le_total a b with h | h
  · exact .inl (decide_eq_true h)
  · exact .inr (decide_eq_true h)
theorem sort_perm {L M : List (List Int)} (h : L.Perm M) : L.mergeSort leR = M.mergeSort leR := by
  have s1 := List.pairwise_mergeSort leR_trans leR_total L
  have s2 := List.pairwise_mergeSort leR_trans leR_total M
  have hp : (L.mergeSort leR).Perm (M.mergeSort leR) := (List.mergeSort_perm L leR).trans (h.trans (List.mergeSort_perm M leR).symm)
  exact hp.eq_of_pairwise (fun a b _ _ h1 h2 => List.le_antisymm (of_decide_eq_true h1) (of_decide_eq_true h2)) s1 s2
theorem lspanS_same (P : Pr p) {R S : List (List Int)} (hR : AllV p n R) (hS : AllV p n S) (h : ∀ v, Spn p n R v ↔ Spn p n S v) : lspanS p n R = lspanS p n S := by
  unfold lspanS
  refine sort_perm ?_
  rw [List.perm_ext_iff_of_nodup (lspan_nodup P hR) (lspan_nodup P hS)]
  intro v
  rw [lspan_iff P hR, lspan_iff P hS, h v]
end
/-! ### reduced tables are one; the rest of a row -/
section
variable {p : Int} {n : Nat}
/-- the table row by row -/
def Diag : List (List Int) → List Nat → Prop
  | [], [] => True
  | r :: T, k :: ks => atR r k = 1 ∧ (∀ j, j < k → atR r j = 0) ∧ (∀ r' ∈ T, atR r' k = 0) ∧ (∀ k' ∈ ks, atR r k' = 0) ∧ (∀ k' ∈ ks, k < k') ∧ Diag T ks
  | _, _ => False
theorem diag_of : ∀ {T : List (List Int)} {ks : List Nat}, Form p n T ks → Diag T ks
  | [], [], _ => trivial
  | [], k :: ks, F => by have := F.len; simp at this
  | r :: T, [], F => by have := F.len; simp at this
  | r :: T, k :: ks, F => by
    have hp := List.pairwise_cons.mp F.inc
    refine ⟨F.one 0 r k rfl rfl, F.lead 0 r k rfl rfl, fun r' hr' => ?_, fun k' hk' => ?_, hp.1, diag_of ⟨?_, fun x hx => F.vr x (List.mem_cons_of_mem _ hx), fun j hj => F.lt j (List.mem_cons_of_mem _ hj), hp.2, fun i x j h1 h2 => F.one (i + 1) x j h1 h2, fun i x j h1 h2 => F.lead (i + 1) x j h1 h2, fun i x j m h1 h2 h3 => F.zero (i + 1) x (j + 1) m h1 h2 (by omega)⟩⟩
    · obtain ⟨i, hi⟩ := List.mem_iff_getElem?.mp hr'
      exact F.zero (i + 1) r' 0 k hi rfl (by omega)
    · obtain ⟨i, hi⟩ := List.mem_iff_getElem?.mp hk'
      exact F.zero 0 r (i + 1) k' rfl hi (by omega)
    · have := F.len
      simp at this
      exact this
theorem Spn.at0 (hp : 0 < p) : ∀ {R : List (List Int)} {v : List Int} {k : Nat}, AllV p n R → k < n → (∀ r ∈ R, atR r k = 0) → Spn p n R v → atR v k = 0
  | [], v, k, _, _, _, h => by rw [show v = zeroR n from h, atR_zero]
  | r :: R, v, k, hR, hk, h0, ⟨c, w_, hw, e⟩ => by
    have hvw := hw.vr hp hR.tail
    have h1 := scR_vr hp hR.head.1 c
    rw [e, atR_add (by rw [hvw.1]; exact hk) (by rw [h1.1]; exact hk), atR_sc (by rw [hR.head.1]; exact hk), h0 r (List.mem_cons_self ..), Spn.at0 hp hR.tail hk (fun x hx => h0 x (List.mem_cons_of_mem _ hx)) hw]
    simp
/-- a row of the space with 0 at the pivots is 0 -/
theorem spn_zero (hp : 0 < p) : ∀ {T : List (List Int)} {ks : List Nat} {v : List Int}, AllV p n T → (∀ k ∈ ks, k < n) → Diag T ks → Spn p n T v → (∀ k ∈ ks, atR v k = 0) → v = zeroR n
  | [], [], v, _, _, _, h, _ => h
  | r :: T, k :: ks, v, hT, hk, ⟨d1, _, d3, d4, _, d5⟩, ⟨c, w_, hw, e⟩, h0 => by
    have hvw := hw.vr hp hT.tail
    have hr := hT.head
    have h1 := scR_vr hp hr.1 c
    have hkn := hk k (List.mem_cons_self ..)
    have hwk := Spn.at0 hp hT.tail hkn d3 hw
    have hvk := h0 k (List.mem_cons_self ..)
    rw [e, atR_add (by rw [hvw.1]; exact hkn) (by rw [h1.1]; exact hkn), atR_sc (by rw [hr.1]; exact hkn), hwk, d1, Int.mul_one, Int.zero_add, Int.emod_emod_of_dvd _ (Int.dvd_refl p)] at hvk
    have hs : scR p r c = zeroR n := la_sc_dvd hp hr hvk
    have ev : v = w_ := by rw [e, hs, add_zero' hp hvw]
    subst ev
    exact spn_zero hp hT.tail (fun j hj => hk j (List.mem_cons_of_mem _ hj)) d5 hw fun j hj => h0 j (List.mem_cons_of_mem _ hj)
  | [], _ :: _, _, _, _, h, _, _ => h.elim
  | _ :: _, [], _, _, _, h, _, _ => h.elim
/-- where a row of the space begins, there is a pivot -/
theorem spn_lead (hp : 0 < p) : ∀ {T : List (List Int)} {ks : List Nat} {v : List Int} {m : Nat}, AllV p n T → (∀ k ∈ ks, k < n) → Diag T ks → m < n → Spn p n T v → (∀ k ∈ ks, k < m → atR v k = 0) → m ∉ ks → atR v m = 0
  | [], [], v, m, _, _, _, _, h, _, _ => by rw [show v = zeroR n from h, atR_zero]
  | r :: T, k :: ks, v, m, hT, hk, ⟨d1, d2, d3, d4, d6, d5⟩, hm, ⟨c, w_, hw, e⟩, h0, hnot => by
    have hvw := hw.vr hp hT.tail
    have hr := hT.head
    have h1 := scR_vr hp hr.1 c
    have hkn := hk k (List.mem_cons_self ..)
    have hwk := Spn.at0 hp hT.tail hkn d3 hw
    have hnot2 : m ∉ ks := fun z => hnot (List.mem_cons_of_mem _ z)
    have hat : ∀ j, j < n → atR v j = (atR w_ j + c * atR r j) % p := fun j hj => by
      rw [e, atR_add (by rw [hvw.1]; exact hj) (by rw [h1.1]; exact hj), atR_sc (by rw [hr.1]; exact hj), Int.add_emod_emod]
    have ihk : ∀ j ∈ ks, j < n := fun j hj => hk j (List.mem_cons_of_mem _ hj)
    have hwj : ∀ j, j < n → atR r j = 0 → atR v j = atR w_ j := fun j hj hz => by
      have hb := hvw.at hj
      rw [hat j hj, hz, Int.mul_zero, Int.add_zero, emod_small hb.1 hb.2]
    by_cases hkm : k < m
    · have hvk := h0 k (List.mem_cons_self ..) hkm
      rw [hat k hkn, hwk, d1, Int.mul_one, Int.zero_add] at hvk
      have hs : scR p r c = zeroR n := la_sc_dvd hp hr hvk
      have ev : v = w_ := by rw [e, hs, add_zero' hp hvw]
      subst ev
      exact spn_lead hp hT.tail ihk d5 hm hw (fun j hj hlt => h0 j (List.mem_cons_of_mem _ hj) hlt) hnot2
    · have hne : m ≠ k := fun z => hnot (by rw [z]; exact List.mem_cons_self ..)
      have hrm := d2 m (by omega)
      rw [hwj m hm hrm]
      refine spn_lead hp hT.tail ihk d5 hm hw (fun j hj hlt => ?_) hnot2
      rw [← hwj j (ihk j hj) (d4 j hj)]
      exact h0 j (List.mem_cons_of_mem _ hj) hlt
  | [], _ :: _, _, _, _, _, h, _, _, _, _ => h.elim
  | _ :: _, [], _, _, _, _, h, _, _, _, _ => h.elim
theorem piv_sub (hp : 0 < p) {T U : List (List Int)} {ks ls : List Nat} (F : Form p n T ks) (G : Form p n U ls) (h : ∀ v, Spn p n T v → Spn p n U v) : ∀ k ∈ ks, k ∈ ls := by
  intro k hk
  obtain ⟨i, hi⟩ := List.mem_iff_getElem?.mp hk
  have hil : i < T.length := by rw [F.len]; exact (List.getElem?_eq_some_iff.mp hi).1
  have hr : T[i]? = some T[i] := List.getElem?_eq_getElem hil
  have hrm := List.getElem_mem hil
  have hS := h T[i] (Spn.mem hp F.vr hrm)
  have one := F.one i _ k hr hi
  by_cases hin : k ∈ ls
  · exact hin
  · have hz := spn_lead hp G.vr G.lt (diag_of G) (F.lt k hk) hS (fun j _ hj => F.lead i _ k hr hi j hj) hin
    rw [one] at hz
    exact absurd hz (by decide)
theorem inc_eq : ∀ {a b : List Nat}, a.Pairwise (· < ·) → b.Pairwise (· < ·) → (∀ x, x ∈ a ↔ x ∈ b) → a = b := by
  intro a b ha hb h
  have na : a.Nodup := List.nodup_iff_pairwise_ne.mpr (ha.imp fun h => Nat.ne_of_lt h)
  have nb : b.Nodup := List.nodup_iff_pairwise_ne.mpr (hb.imp fun h => Nat.ne_of_lt h)
  have hp : a.Perm b := (List.perm_ext_iff_of_nodup na nb).mpr h
  exact hp.eq_of_pairwise (fun x y _ _ h1 h2 => absurd (Nat.lt_trans h1 h2) (Nat.lt_irrefl _)) ha hb
theorem form_unique (hp : 0 < p) {T U : List (List Int)} {ks ls : List Nat} (F : Form p n T ks) (G : Form p n U ls) (h : ∀ v, Spn p n T v ↔ Spn p n U v) : T = U ∧ ks = ls := by
  have e : ks = ls := inc_eq F.inc G.inc fun x => ⟨piv_sub hp F G (fun v => (h v).mp) x, piv_sub hp G F (fun v => (h v).mpr) x⟩
  subst e
  refine ⟨?_, rfl⟩
  apply List.ext_getElem?
  intro i
  by_cases hi : i < T.length
  · have hi2 : i < U.length := by rw [G.len, ← F.len]; exact hi
    have hi3 : i < ks.length := by rw [← F.len]; exact hi
    have h1 : T[i]? = some T[i] := List.getElem?_eq_getElem hi
    have h2 : U[i]? = some U[i] := List.getElem?_eq_getElem hi2
    have hk : ks[i]? = some ks[i] := List.getElem?_eq_getElem hi3
    rw [h1, h2]
    congr 1
    have v1 := F.vr _ (List.getElem_mem hi)
    have v2 := G.vr _ (List.getElem_mem hi2)
    -- the difference has 0 at the pivots
    have s2 := scR_vr hp v2.1 (-1)
    have hd : Spn p n T (addR p T[i] (scR p U[i] (-1))) := Spn.add hp F.vr (Spn.mem hp F.vr (List.getElem_mem hi)) (Spn.sc hp F.vr ((h _).mpr (Spn.mem hp G.vr (List.getElem_mem hi2))) _)
    have hz := spn_zero hp F.vr F.lt (diag_of F) hd fun k hkm => by
      have hkn := F.lt k hkm
      obtain ⟨j, hj⟩ := List.mem_iff_getElem?.mp hkm
      rw [atR_add (by rw [v1.1]; exact hkn) (by rw [s2.1]; exact hkn), atR_sc (by rw [v2.1]; exact hkn), Int.add_emod_emod]
      by_cases hij : i = j
      · subst hij
        rw [F.one i _ k h1 hj, G.one i _ k h2 hj]
        exact Int.zero_emod p
      · rw [F.zero i _ j k h1 hj hij, G.zero i _ j k h2 hj hij]
        exact Int.zero_emod p
    have e2 := congrArg (fun x => addR p x U[i]) hz
    have e3 : addR p (addR p T[i] (scR p U[i] (-1))) U[i] = addR p (zeroR n) U[i] := e2
    rw [add_assoc' hp v1 s2 v2, zero_add' hp v2] at e3
    have t := la_add_sc hp v2 (-1) 1
    rw [la_sc_one hp v2, show (-1 : Int) + 1 = 0 by decide, la_sc_zero hp v2] at t
    rw [t, add_zero' hp v1] at e3
    exact e3
  · rw [List.getElem?_eq_none (by omega), List.getElem?_eq_none (by rw [G.len, ← F.len]; omega)]
/-! the rest -/
theorem oneAt_piv {r : List Int} {k : Nat} (h1 : atR r k = 1) (h0 : ∀ j, j < k → atR r j = 0) (hk : k < r.length) : oneAt r = k := by
  unfold oneAt
  have hm : k < r.length := hk
  refine (List.findIdx_eq hm).mpr ⟨?_, fun j hj => ?_⟩
  · have e := atR_get hm
    rw [List.getElem?_eq_getElem hm] at e
    rw [Option.some.inj e, h1]
    rfl
  · have hjl : j < r.length := by omega
    have e := atR_get hjl
    rw [List.getElem?_eq_getElem hjl] at e
    rw [Option.some.inj e, h0 j hj]
    rfl
theorem ones_form {T : List (List Int)} {ks : List Nat} (F : Form p n T ks) : Ones n T := fun r hr => by
  obtain ⟨i, hi⟩ := List.mem_iff_getElem?.mp hr
  have hil := (List.getElem?_eq_some_iff.mp hi).1
  have hi3 : i < ks.length := by rw [← F.len]; exact hil
  have hk : ks[i]? = some ks[i] := List.getElem?_eq_getElem hi3
  have hkn := F.lt _ (List.getElem_mem hi3)
  rw [oneAt_piv (F.one i r _ hi hk) (F.lead i r _ hi hk) (by rw [(F.vr r hr).1]; exact hkn)]
  exact hkn
theorem rest_facts (hp : 0 < p) : ∀ {T : List (List Int)} {ks : List Nat} {v : List Int}, AllV p n T → (∀ k ∈ ks, k < n) → Diag T ks → Vr p n v →
    (∀ k ∈ ks, atR (restR p T v) k = 0) ∧ (∀ k, k < n → (∀ r ∈ T, atR r k = 0) → atR (restR p T v) k = atR v k) ∧ ∃ s, Spn p n T s ∧ v = addR p (restR p T v) s
  | [], [], v, _, _, _, hv => ⟨(fun k h => by cases h), fun k _ _ => rfl, zeroR n, rfl, (add_zero' hp hv).symm⟩
  | r :: T, k :: ks, v, hT, hk, ⟨d1, d2, d3, d4, d6, d5⟩, hv => by
    have hr := hT.head
    have hkn := hk k (List.mem_cons_self ..)
    have e1 : oneAt r = k := oneAt_piv d1 d2 (by rw [hr.1]; exact hkn)
    have hvc := clrR_vr hp hv hr k
    obtain ⟨i1, i2, s, hs, i3⟩ := rest_facts hp hT.tail (fun j hj => hk j (List.mem_cons_of_mem _ hj)) d5 hvc
    have er : restR p (r :: T) v = restR p T (clrR p v r k) := by rw [restR, e1]
    have hvr := restR_vr hp T _ hT.tail hvc
    rw [er]
    refine ⟨fun j hj => ?_, fun j hj h0 => ?_, ?_⟩
    · rcases List.mem_cons.mp hj with rfl | hj
      · rw [i2 _ hkn d3, clr_at hp hv hr hkn, d1, Int.mul_one, Int.sub_self, Int.zero_emod]
      · exact i1 j hj
    · rw [i2 j hj fun x hx => h0 x (List.mem_cons_of_mem _ hx), clr_at hp hv hr hj, h0 r (List.mem_cons_self ..), Int.mul_zero, Int.sub_zero]
      have hb := hv.at hj
      exact emod_small hb.1 hb.2
    · refine ⟨addR p s (scR p r (atR v k)), ⟨_, s, hs, rfl⟩, ?_⟩
      have hsv := hs.vr hp hT.tail
      have hsr := scR_vr hp hr.1 (atR v k)
      rw [← add_assoc' hp hvr hsv hsr, ← i3, clr_eq hp hv hr, add_back hp hv hr]
  | [], _ :: _, _, _, _, h, _ => h.elim
  | _ :: _, [], _, _, _, h, _ => h.elim
theorem add_cancel {u s : List Int} (hp : 0 < p) (hu : Vr p n u) (hs : Vr p n s) : addR p (addR p u s) (scR p u (-1)) = s := by
  have h1 := scR_vr hp hu.1 (-1)
  have t := la_add_sc hp hu 1 (-1)
  rw [la_sc_one hp hu, show (1 : Int) + -1 = 0 by decide, la_sc_zero hp hu] at t
  rw [add_comm' hp hu hs, add_assoc' hp hs hu h1, t, add_zero' hp hs]
theorem rest_zero (hp : 0 < p) {T : List (List Int)} {ks : List Nat} {v : List Int} (F : Form p n T ks) (hv : Vr p n v) : restR p T v = zeroR n ↔ Spn p n T v := by
  obtain ⟨h1, _, s, hs, e⟩ := rest_facts hp F.vr F.lt (diag_of F) hv
  have hvr := restR_vr hp T v F.vr hv
  have hsv := hs.vr hp F.vr
  constructor
  · intro z
    rw [z, zero_add' hp hsv] at e
    rw [e]
    exact hs
  · intro k
    have hr : Spn p n T (restR p T v) := by
      have e2 : restR p T v = addR p v (scR p s (-1)) := by
        have := add_cancel hp hsv hvr
        rw [add_comm' hp hsv hvr, ← e] at this
        exact this.symm
      rw [e2]
      exact Spn.add hp F.vr k (Spn.sc hp F.vr hs _)
    exact spn_zero hp F.vr F.lt (diag_of F) hr h1
theorem rest_diff (hp : 0 < p) {T : List (List Int)} {ks : List Nat} {v : List Int} (F : Form p n T ks) (hv : Vr p n v) : Spn p n T (addR p v (scR p (restR p T v) (-1))) := by
  obtain ⟨_, _, s, hs, e⟩ := rest_facts hp F.vr F.lt (diag_of F) hv
  have hvr := restR_vr hp T v F.vr hv
  have h := add_cancel hp hvr (hs.vr hp F.vr)
  rw [← e] at h
  rw [h]
  exact hs
theorem red_idem (P : Pr p) {rs : List (List Int)} (hv : AllV p n rs) {S : List (List Int)} (hS : AllV p n S) (h : ∀ v, Spn p n S v ↔ Spn p n rs v) : redT p n S = redT p n rs ∧ redP p n S = redP p n rs :=
  form_unique P.pos (red_form P hS) (red_form P hv) fun v => ((red_span P hS v).symm.trans (h v)).trans (red_span P hv v)
end
/-! ### sums; products of rows; spaces of the rows with product 0 -/
section
variable {p : Int} {n : Nat}
def sumN (f : Nat → Int) : Nat → Int
  | 0 => 0
  | n + 1 => sumN f n + f n
theorem sumN_congr {f g : Nat → Int} : ∀ {n : Nat}, (∀ k, k < n → f k = g k) → sumN f n = sumN g n
  | 0, _ => rfl
  | n + 1, h => by rw [sumN, sumN, sumN_congr (n := n) fun k hk => h k (by omega), h n (Nat.lt_succ_self n)]
theorem sumN_mod {f g : Nat → Int} : ∀ {n : Nat}, (∀ k, k < n → f k % p = g k % p) → sumN f n % p = sumN g n % p
  | 0, _ => rfl
  | n + 1, h => by rw [sumN, sumN, Int.add_emod, sumN_mod (n := n) fun k hk => h k (by omega), h n (Nat.lt_succ_self n), ← Int.add_emod]
theorem sumN_zero {f : Nat → Int} {n : Nat} (h : ∀ k, k < n → f k % p = 0) : sumN f n % p = 0 := by
  induction n with
  | zero => exact Int.zero_emod p
  | succ n ih => rw [sumN, Int.add_emod, ih fun k hk => h k (by omega), h n (Nat.lt_succ_self n), Int.add_zero, Int.zero_emod]
theorem sumN_one {f : Nat → Int} {a : Nat} : ∀ {n : Nat}, a < n → (∀ k, k < n → k ≠ a → f k % p = 0) → sumN f n % p = f a % p
  | 0, h, _ => absurd h (Nat.not_lt_zero a)
  | n + 1, h, hz => by
    rw [sumN, Int.add_emod]
    by_cases e : a = n
    · subst e
      rw [sumN_zero fun k hk => hz k (by omega) (by omega), Int.zero_add, Int.emod_emod_of_dvd _ (Int.dvd_refl p)]
    · rw [sumN_one (n := n) (by omega) fun k hk => hz k (by omega), hz n (Nat.lt_succ_self n) (by omega), Int.add_zero, Int.emod_emod_of_dvd _ (Int.dvd_refl p)]
theorem sumN_two {f : Nat → Int} {a b : Nat} (hab : a ≠ b) : ∀ {n : Nat}, a < n → b < n → (∀ k, k < n → k ≠ a → k ≠ b → f k % p = 0) → sumN f n % p = (f a + f b) % p
  | 0, h, _, _ => absurd h (Nat.not_lt_zero a)
  | n + 1, ha, hb, hz => by
    rw [sumN, Int.add_emod]
    by_cases e : a = n
    · subst e
      rw [sumN_one (a := b) (n := a) (by omega) fun k hk hkb => hz k (by omega) (by omega) hkb, ← Int.add_emod, Int.add_comm]
    · by_cases e2 : b = n
      · subst e2
        rw [sumN_one (a := a) (n := b) (by omega) fun k hk hka => hz k (by omega) hka (by omega), ← Int.add_emod]
      · rw [sumN_two hab (n := n) (by omega) (by omega) fun k hk => hz k (by omega), hz n (Nat.lt_succ_self n) (by omega) (by omega), Int.add_zero, Int.emod_emod_of_dvd _ (Int.dvd_refl p)]
theorem sumN_add {f g : Nat → Int} : ∀ n : Nat, sumN (fun k => f k + g k) n = sumN f n + sumN g n
  | 0 => rfl
  | n + 1 => by
    rw [sumN, sumN, sumN, sumN_add n]
    omega
theorem sumN_mul {f : Nat → Int} (c : Int) : ∀ n : Nat, sumN (fun k => c * f k) n = c * sumN f n
  | 0 => (Int.mul_zero c).symm
  | n + 1 => by rw [sumN, sumN, sumN_mul c n, Int.mul_add]
theorem sumN_range (f : Nat → Int) : ∀ n : Nat, ((List.range n).map f).sum = sumN f n
  | 0 => rfl
  | n + 1 => by
    rw [List.range_succ, List.map_append, List.sum_append, sumN_range f n]
    show _ + (f n + 0) = _
    rw [Int.add_zero]
    rfl
def dotN (n : Nat) (v w : List Int) : Int := sumN (fun k => atR v k * atR w k) n
def Orth (p : Int) (n : Nat) (v w : List Int) : Prop := dotN n v w % p = 0
theorem dotN_comm (v w : List Int) : dotN n v w = dotN n w v := sumN_congr fun k _ => Int.mul_comm _ _
theorem Orth.symm {v w : List Int} (h : Orth p n v w) : Orth p n w v := by unfold Orth; rw [dotN_comm]; exact h
theorem dotN_add {u v w : List Int} (hu : Vr p n u) (hv : Vr p n v) : dotN n (addR p u v) w % p = (dotN n u w + dotN n v w) % p := by
  unfold dotN
  rw [← sumN_add]
  refine sumN_mod fun k hk => ?_
  rw [atR_add (by rw [hu.1]; exact hk) (by rw [hv.1]; exact hk), Int.mul_emod, Int.emod_emod_of_dvd _ (Int.dvd_refl p), ← Int.mul_emod, Int.add_mul]
theorem dotN_sc {v w : List Int} (hv : Vr p n v) (c : Int) : dotN n (scR p v c) w % p = (c * dotN n v w) % p := by
  unfold dotN
  rw [← sumN_mul]
  refine sumN_mod fun k hk => ?_
  rw [atR_sc (by rw [hv.1]; exact hk), Int.mul_emod, Int.emod_emod_of_dvd _ (Int.dvd_refl p), ← Int.mul_emod, Int.mul_assoc]
theorem orth_zero (w : List Int) : Orth p n (zeroR n) w := sumN_zero fun k _ => by rw [atR_zero, Int.zero_mul, Int.zero_emod]
theorem Orth.add {u v w : List Int} (hu : Vr p n u) (hv : Vr p n v) (h : Orth p n u w) (k : Orth p n v w) : Orth p n (addR p u v) w := by
  unfold Orth at *
  rw [dotN_add hu hv, Int.add_emod, h, k]
  rfl
theorem Orth.sc {v w : List Int} (hv : Vr p n v) (c : Int) (h : Orth p n v w) : Orth p n (scR p v c) w := by
  unfold Orth at *
  rw [dotN_sc hv, Int.mul_emod, h, Int.mul_zero]
  rfl
theorem orth_spn (hp : 0 < p) : ∀ {R : List (List Int)} {v w : List Int}, AllV p n R → (∀ r ∈ R, Orth p n r w) → Spn p n R v → Orth p n v w
  | [], v, w, _, _, h => by rw [show v = zeroR n from h]; exact orth_zero w
  | r :: R, v, w, hR, ho, ⟨c, u, hu, e⟩ => by
    rw [e]
    exact Orth.add (hu.vr hp hR.tail) (scR_vr hp hR.head.1 _) (orth_spn hp hR.tail (fun x hx => ho x (List.mem_cons_of_mem _ hx)) hu) (Orth.sc hR.head c (ho r (List.mem_cons_self ..)))
/-! rows with unit places -/
structure UniI (n : Nat) (R : List (List Int)) (qs : List Nat) : Prop where
  len : R.length = qs.length
  lt : ∀ k ∈ qs, k < n
  one : ∀ (i : Nat) (r : List Int) (k : Nat), R[i]? = some r → qs[i]? = some k → atR r k = 1
  zero : ∀ (i : Nat) (r : List Int) (j k : Nat), R[i]? = some r → qs[j]? = some k → i ≠ j → atR r k = 0
theorem uni_form {T : List (List Int)} {ks : List Nat} (F : Form p n T ks) : UniI n T ks := ⟨F.len, F.lt, F.one, F.zero⟩
theorem UniI.tail {r : List Int} {R : List (List Int)} {q : Nat} {qs : List Nat} (U : UniI n (r :: R) (q :: qs)) : UniI n R qs :=
  ⟨by have := U.len; simpa using this, fun k hk => U.lt k (List.mem_cons_of_mem _ hk), fun i x k h1 h2 => U.one (i + 1) x k h1 h2, fun i x j k h1 h2 h3 => U.zero (i + 1) x (j + 1) k h1 h2 (by omega)⟩
theorem UniI.head_tail {r : List Int} {R : List (List Int)} {q : Nat} {qs : List Nat} (U : UniI n (r :: R) (q :: qs)) : ∀ k ∈ qs, atR r k = 0 := fun k hk => by
  obtain ⟨j, hj⟩ := List.mem_iff_getElem?.mp hk
  exact U.zero 0 r (j + 1) k rfl hj (by omega)
theorem UniI.tail_head {r : List Int} {R : List (List Int)} {q : Nat} {qs : List Nat} (U : UniI n (r :: R) (q :: qs)) : ∀ x ∈ R, atR x q = 0 := fun x hx => by
  obtain ⟨j, hj⟩ := List.mem_iff_getElem?.mp hx
  exact U.zero (j + 1) x 0 q hj rfl (by omega)
theorem uni_row {R : List (List Int)} {qs : List Nat} (U : UniI n R qs) {k : Nat} (hk : k ∈ qs) : ∃ r ∈ R, atR r k = 1 ∧ ∀ j ∈ qs, j ≠ k → atR r j = 0 := by
  obtain ⟨i, hi⟩ := List.mem_iff_getElem?.mp hk
  have hil : i < R.length := by rw [U.len]; exact (List.getElem?_eq_some_iff.mp hi).1
  have hr := List.getElem?_eq_getElem hil
  refine ⟨R[i], List.getElem_mem hil, U.one i _ k hr hi, fun j hj hjk => ?_⟩
  obtain ⟨m, hm⟩ := List.mem_iff_getElem?.mp hj
  refine U.zero i _ m j hr hm fun e => hjk ?_
  subst e
  rw [hi] at hm
  exact (Option.some.inj hm).symm
/-- what is left behind the unit places -/
theorem uni_clear (hp : 0 < p) : ∀ {S : List (List Int)} {fs : List Nat} {v : List Int}, AllV p n S → UniI n S fs → Vr p n v →
    ∃ s w, Spn p n S s ∧ Vr p n w ∧ v = addR p w s ∧ ∀ k ∈ fs, atR w k = 0
  | [], [], v, _, _, hv => ⟨zeroR n, v, rfl, hv, (add_zero' hp hv).symm, fun k h => by cases h⟩
  | [], k :: fs, v, _, U, _ => by have := U.len; simp at this
  | r :: S, [], v, _, U, _ => by have := U.len; simp at this
  | r :: S, k :: fs, v, hS, U, hv => by
    obtain ⟨s, w, hs, hw, e, hz⟩ := uni_clear hp hS.tail U.tail hv
    have hr := hS.head
    have hkn := U.lt k (List.mem_cons_self ..)
    refine ⟨addR p s (scR p r (atR w k)), clrR p w r k, ⟨_, s, hs, rfl⟩, clrR_vr hp hw hr k, ?_, fun j hj => ?_⟩
    · have hsv := hs.vr hp hS.tail
      have hsr := scR_vr hp hr.1 (atR w k)
      have hc := clrR_vr hp hw hr k
      rw [e, add_comm' hp hsv hsr, ← add_assoc' hp hc hsr hsv, clr_eq hp hw hr, add_back hp hw hr]
    · rcases List.mem_cons.mp hj with rfl | hj
      · rw [clr_at hp hw hr hkn, U.one 0 r j rfl rfl, Int.mul_one, Int.sub_self, Int.zero_emod]
      · have hjn := U.lt j (List.mem_cons_of_mem _ hj)
        rw [clr_at hp hw hr hjn, U.head_tail j hj, hz j hj, Int.mul_zero, Int.sub_zero, Int.zero_emod]
/-- two tables that stand upright on one another, and fill the width -/
structure Dual (p : Int) (n : Nat) (T : List (List Int)) (ks : List Nat) (S : List (List Int)) (fs : List Nat) : Prop where
  vT : AllV p n T
  vS : AllV p n S
  uT : UniI n T ks
  uS : UniI n S fs
  all : ∀ k, k < n → k ∈ ks ∨ k ∈ fs
  orth : ∀ t ∈ T, ∀ s ∈ S, Orth p n t s
theorem Dual.symm {T : List (List Int)} {ks : List Nat} {S : List (List Int)} {fs : List Nat} (D : Dual p n T ks S fs) : Dual p n S fs T ks :=
  ⟨D.vS, D.vT, D.uS, D.uT, fun k hk => (D.all k hk).symm, fun s hs t ht => (D.orth t ht s hs).symm⟩
theorem dual_span (hp : 0 < p) {T : List (List Int)} {ks : List Nat} {S : List (List Int)} {fs : List Nat} (D : Dual p n T ks S fs) {v : List Int} (hv : Vr p n v) (h : ∀ t ∈ T, Orth p n t v) : Spn p n S v := by
  obtain ⟨s, w, hs, hw, e, hz⟩ := uni_clear hp D.vS D.uS hv
  have hsv := hs.vr hp D.vS
  have hw0 : w = zeroR n := by
    refine ext_at hw (zeroR_vr hp n) fun k hk => ?_
    rw [atR_zero]
    rcases D.all k hk with hk1 | hk1
    · obtain ⟨t, ht, h1, h0⟩ := uni_row D.uT hk1
      have hts : Orth p n s t := orth_spn hp D.vS (fun x hx => (D.orth t ht x hx).symm) hs
      have htv : dotN n (addR p w s) t % p = 0 := by rw [← e]; exact (h t ht).symm
      rw [dotN_add hw hsv, Int.add_emod, show dotN n s t % p = 0 from hts, Int.add_zero, Int.emod_emod_of_dvd _ (Int.dvd_refl p)] at htv
      have h3 : dotN n w t % p = (atR w k * atR t k) % p := sumN_one (f := fun k => atR w k * atR t k) hk fun j hj hjk => by
        show (atR w j * atR t j) % p = 0
        rcases D.all j hj with hj1 | hj1
        · rw [h0 j hj1 hjk, Int.mul_zero, Int.zero_emod]
        · rw [hz j hj1, Int.zero_mul, Int.zero_emod]
      rw [h3, h1, Int.mul_one] at htv
      have hb := hw.at hk
      rw [emod_small hb.1 hb.2] at htv
      exact htv
    · exact hz k hk1
  rw [e, hw0, zero_add' hp hsv]
  exact hs
theorem dual_iff (hp : 0 < p) {T : List (List Int)} {ks : List Nat} {S : List (List Int)} {fs : List Nat} (D : Dual p n T ks S fs) {v : List Int} (hv : Vr p n v) : Spn p n S v ↔ ∀ t ∈ T, Orth p n t v :=
  ⟨fun h t ht => (orth_spn hp D.vS (fun x hx => (D.orth t ht x hx).symm) h).symm, dual_span hp D hv⟩
/-! how many rows a space has -/
theorem lspan_uni (P : Pr p) {R : List (List Int)} {qs : List Nat} (hR : AllV p n R) (U : UniI n R qs) : ∀ i, i ≤ R.length → (lspan p n (R.take i)).length = p.toNat ^ i
  | 0, _ => rfl
  | i + 1, h => by
    have ih := lspan_uni P hR U i (by omega)
    have hr := List.getElem?_eq_getElem (show i < R.length by omega)
    have hq := List.getElem?_eq_getElem (show i < qs.length by rw [← U.len]; omega)
    have ht : AllV p n (R.take i) := fun x hx => hR x (List.mem_of_mem_take hx)
    have hn : R[i] ∉ lspan p n (R.take i) := fun hm => by
      have hs := (lspan_iff P ht _).mp hm
      have h0 := Spn.at0 P.pos ht (U.lt _ (List.mem_of_getElem? hq)) (fun x hx => by
        obtain ⟨j, hj⟩ := List.mem_iff_getElem?.mp hx
        have hji : j < i := by
          have := (List.getElem?_eq_some_iff.mp hj).1
          rw [List.length_take] at this
          omega
        rw [List.getElem?_take_of_lt hji] at hj
        exact U.zero j x i _ hj hq (by omega)) hs
      rw [U.one i _ _ hr hq] at h0
      exact absurd h0 (by decide)
    rw [lspan_step hr, spanStep, if_neg hn, flat_len (c := p.toNat) _ _ fun x _ => by rw [List.length_map, List.length_range], ih, Nat.pow_succ, Nat.mul_comm]
theorem lspan_same_len (P : Pr p) {R S : List (List Int)} (hR : AllV p n R) (hS : AllV p n S) (h : ∀ v, Spn p n R v ↔ Spn p n S v) : (lspan p n R).length = (lspan p n S).length := by
  have e := congrArg List.length (lspanS_same P hR hS h)
  unfold lspanS at e
  rw [List.length_mergeSort, List.length_mergeSort] at e
  exact e
theorem pow_len {p : Int} (P : Pr p) {a b : Nat} (h : p.toNat ^ a ≤ p.toNat ^ b) : a ≤ b := by
  have h2 := P.two
  exact (Nat.pow_le_pow_iff_right (show 1 < p.toNat by omega)).mp h
theorem uni_len (P : Pr p) {R S : List (List Int)} {qs : List Nat} (hR : AllV p n R) (hS : AllV p n S) (U : UniI n R qs) (h : ∀ v, Spn p n R v ↔ Spn p n S v) : R.length ≤ S.length := by
  refine pow_len P ?_
  have h1 := lspan_uni P hR U R.length (Nat.le_refl _)
  have h2 := lspan_len (p := p) (n := n) (rs := S) P.two S.length (Nat.le_refl _)
  rw [List.take_length] at h1 h2
  rw [← h1, lspan_same_len P hR hS h]
  exact h2
theorem red_len (P : Pr p) {rs : List (List Int)} (hv : AllV p n rs) : (redT p n rs).length ≤ rs.length :=
  uni_len P (red_form P hv).vr hv (uni_form (red_form P hv)) fun v => (red_span P hv v).symm
end
/-! ### kernels (the mirror), and what they hold -/
section
variable {p : Int} {n : Nat}
def unitR (n a : Nat) : List Int := (List.range n).map fun k => if k = a then 1 else 0
theorem at_map {g : Nat → Int} {k : Nat} (h : k < n) : atR ((List.range n).map g) k = g k := by
  unfold atR
  rw [List.getD_eq_getElem?_getD, List.getElem?_map, List.getElem?_range h]
  rfl
theorem unitR_vr (h2 : 2 ≤ p) (n a : Nat) : Vr p n (unitR n a) := by
  refine ⟨by unfold unitR; rw [List.length_map, List.length_range], fun x hx => ?_⟩
  obtain ⟨k, _, rfl⟩ := List.mem_map.mp hx
  split <;> omega
theorem unitR_at {n a k : Nat} (h : k < n) : atR (unitR n a) k = if k = a then 1 else 0 := at_map h
/-- the row for a free place, the first i pivots put in -/
def solI (p : Int) (n : Nat) (T : List (List Int)) (ks : List Nat) (f : Nat) : Nat → List Int
  | 0 => unitR n f
  | i + 1 => (solI p n T ks f i).set (ks.getD i 0) ((-(atR (T.getD i []) f)) % p)
def solR (p : Int) (n : Nat) (T : List (List Int)) (ks : List Nat) (f : Nat) : List Int := solI p n T ks f T.length
theorem set_at {v : List Int} {k j : Nat} {x : Int} (h : k < v.length) : atR (v.set k x) j = if j = k then x else atR v j := by
  unfold atR
  rw [List.getD_eq_getElem?_getD, List.getElem?_set]
  by_cases e : j = k
  · subst e
    rw [if_pos rfl, if_pos h, if_pos rfl]
    rfl
  · rw [if_neg fun z => e z.symm, if_neg e, ← List.getD_eq_getElem?_getD]
theorem solI_vr (h2 : 2 ≤ p) {T : List (List Int)} {ks : List Nat} {f : Nat} : ∀ i, Vr p n (solI p n T ks f i)
  | 0 => unitR_vr h2 n f
  | i + 1 => by
    have h := solI_vr h2 (T := T) (ks := ks) (f := f) i
    refine ⟨by rw [solI, List.length_set]; exact h.1, fun x hx => ?_⟩
    rcases List.mem_or_eq_of_mem_set hx with hx | rfl
    · exact h.2 x hx
    · exact emod_in (by omega) _
theorem getD_some {α : Type} {l : List α} {i : Nat} {x d : α} (h : l[i]? = some x) : l.getD i d = x := by rw [List.getD_eq_getElem?_getD, h]; rfl
theorem inc_lt {ks : List Nat} (h : ks.Pairwise (· < ·)) {i j a b : Nat} (hij : i < j) (ha : ks[i]? = some a) (hb : ks[j]? = some b) : a < b := by
  obtain ⟨h1, e1⟩ := List.getElem?_eq_some_iff.mp ha
  obtain ⟨h2, e2⟩ := List.getElem?_eq_some_iff.mp hb
  have := List.pairwise_iff_getElem.mp h i j h1 h2 hij
  rw [e1, e2] at this
  exact this
theorem solI_at (h2 : 2 ≤ p) {T : List (List Int)} {ks : List Nat} {f : Nat} (F : Form p n T ks) : ∀ i, i ≤ T.length →
    (∀ j, (∀ m k, m < i → ks[m]? = some k → k ≠ j) → atR (solI p n T ks f i) j = atR (unitR n f) j) ∧
    (∀ m k r, m < i → ks[m]? = some k → T[m]? = some r → atR (solI p n T ks f i) k = (-(atR r f)) % p)
  | 0, _ => ⟨fun j _ => rfl, fun m k r hm => absurd hm (Nat.not_lt_zero m)⟩
  | i + 1, hi => by
    obtain ⟨i1, i2⟩ := solI_at h2 F i (by omega)
    have hv := solI_vr (n := n) h2 (T := T) (ks := ks) (f := f) i
    have hr := List.getElem?_eq_getElem (show i < T.length by omega)
    obtain ⟨k0, hk⟩ : ∃ k, ks[i]? = some k := ⟨_, List.getElem?_eq_getElem (show i < ks.length by rw [← F.len]; omega)⟩
    have hkn := F.lt _ (List.mem_of_getElem? hk)
    have e : solI p n T ks f (i + 1) = (solI p n T ks f i).set k0 ((-(atR T[i] f)) % p) := by rw [solI, getD_some hk, getD_some hr]
    rw [e]
    refine ⟨fun j hj => ?_, fun m k r hm h1 h3 => ?_⟩
    · rw [set_at (by rw [hv.1]; exact hkn), if_neg fun z => hj i _ (Nat.lt_succ_self i) hk z.symm]
      exact i1 j fun m k hm => hj m k (by omega)
    · rw [set_at (by rw [hv.1]; exact hkn)]
      by_cases em : m = i
      · subst em
        rw [hk] at h1
        rw [hr] at h3
        cases h1
        cases h3
        rw [if_pos rfl]
      · have := inc_lt F.inc (show m < i by omega) h1 hk
        rw [if_neg (by omega)]
        exact i2 m k r (by omega) h1 h3
/-- what such a row is -/
structure IsSol (p : Int) (n : Nat) (T : List (List Int)) (ks : List Nat) (f : Nat) (s : List Int) : Prop where
  vr : Vr p n s
  one : atR s f = 1
  zero : ∀ j, j < n → j ∉ ks → j ≠ f → atR s j = 0
  piv : ∀ (i : Nat) (r : List Int) (k : Nat), T[i]? = some r → ks[i]? = some k → atR s k = (-(atR r f)) % p
theorem solR_is (h2 : 2 ≤ p) {T : List (List Int)} {ks : List Nat} {f : Nat} (F : Form p n T ks) (hf : f < n) (hfk : f ∉ ks) : IsSol p n T ks f (solR p n T ks f) := by
  obtain ⟨i1, i2⟩ := solI_at h2 (f := f) F T.length (Nat.le_refl _)
  have hno : ∀ j, j ∉ ks → ∀ m k, m < T.length → ks[m]? = some k → k ≠ j := fun j hj m k _ h e => hj (e ▸ List.mem_of_getElem? h)
  refine ⟨solI_vr h2 _, ?_, fun j hj hjk hjf => ?_, fun i r k h1 h3 => i2 i k r (List.getElem?_eq_some_iff.mp h1).1 h3 h1⟩
  · rw [solR, i1 f (hno f hfk), unitR_at hf, if_pos rfl]
  · rw [solR, i1 j (hno j hjk), unitR_at hj, if_neg hjf]
def freeL (n : Nat) (ks : List Nat) : List Nat := (List.range n).filter fun f => decide (f ∉ ks)
theorem mem_free {ks : List Nat} {f : Nat} : f ∈ freeL n ks ↔ f < n ∧ f ∉ ks := by
  unfold freeL
  rw [List.mem_filter, List.mem_range, decide_eq_true_iff]
theorem free_nodup (ks : List Nat) : (freeL n ks).Nodup := List.Nodup.sublist List.filter_sublist List.nodup_range
def kerF (p : Int) (n : Nat) (T : List (List Int)) (ks : List Nat) : List (List Int) := (freeL n ks).map (solR p n T ks)
def kerR (p : Int) (n : Nat) (rs : List (List Int)) : List (List Int) := redT p n (kerF p n (redT p n rs) (redP p n rs))
theorem kerF_vr (h2 : 2 ≤ p) (T : List (List Int)) (ks : List Nat) : AllV p n (kerF p n T ks) := fun r hr => by
  obtain ⟨f, _, rfl⟩ := List.mem_map.mp hr
  exact solI_vr h2 _
theorem nodup_ne {l : List Nat} (h : l.Nodup) {i j a b : Nat} (hij : i ≠ j) (ha : l[i]? = some a) (hb : l[j]? = some b) : a ≠ b := fun e => by
  subst e
  obtain ⟨h1, e1⟩ := List.getElem?_eq_some_iff.mp ha
  obtain ⟨h2, e2⟩ := List.getElem?_eq_some_iff.mp hb
  have h := List.pairwise_iff_getElem.mp h
  by_cases hlt : i < j
  · exact h i j h1 h2 hlt (e1.trans e2.symm)
  · exact h j i h2 h1 (by omega) (e2.trans e1.symm)
theorem kerF_dual (h2 : 2 ≤ p) {T : List (List Int)} {ks : List Nat} (F : Form p n T ks) : Dual p n T ks (kerF p n T ks) (freeL n ks) := by
  have sol : ∀ f ∈ freeL n ks, IsSol p n T ks f (solR p n T ks f) := fun f hf => solR_is h2 F (mem_free.mp hf).1 (mem_free.mp hf).2
  refine ⟨F.vr, kerF_vr h2 T ks, uni_form F, ⟨by unfold kerF; rw [List.length_map], fun k hk => (mem_free.mp hk).1, fun i r k h1 h3 => ?_, fun i r j k h1 h3 hij => ?_⟩, fun k hk => ?_, fun t ht s hs => ?_⟩
  · obtain ⟨f, hf, rfl⟩ := getElem?_map_some h1
    have h4 := (sol f (List.mem_of_getElem? hf)).one
    rw [hf] at h3
    cases h3
    exact h4
  · obtain ⟨f, hf, rfl⟩ := getElem?_map_some h1
    have hk := mem_free.mp (List.mem_of_getElem? h3)
    exact (sol f (List.mem_of_getElem? hf)).zero k hk.1 hk.2 fun e => nodup_ne (free_nodup ks) hij hf h3 e.symm
  · by_cases h : k ∈ ks
    · exact .inl h
    · exact .inr (mem_free.mpr ⟨hk, h⟩)
  · obtain ⟨f, hf, rfl⟩ := List.mem_map.mp hs
    have S := sol f hf
    have hfn := mem_free.mp hf
    obtain ⟨i, hi⟩ := List.mem_iff_getElem?.mp ht
    obtain ⟨k0, hk⟩ : ∃ k, ks[i]? = some k := ⟨_, List.getElem?_eq_getElem (show i < ks.length by rw [← F.len]; exact (List.getElem?_eq_some_iff.mp hi).1)⟩
    have hkn := F.lt _ (List.mem_of_getElem? hk)
    have hne : k0 ≠ f := fun e => hfn.2 (e ▸ List.mem_of_getElem? hk)
    unfold Orth dotN
    rw [sumN_two (f := fun k => atR t k * atR (solR p n T ks f) k) hne hkn hfn.1 fun j hj h1 h3 => ?_]
    · show (atR t _ * atR (solR p n T ks f) _ + atR t f * atR (solR p n T ks f) f) % p = 0
      rw [F.one i t _ hi hk, S.piv i t _ hi hk, S.one, Int.one_mul, Int.mul_one, Int.emod_add_emod, show -(atR t f) + atR t f = 0 by omega, Int.zero_emod]
    · show (atR t j * atR (solR p n T ks f) j) % p = 0
      by_cases hjk : j ∈ ks
      · obtain ⟨m, hm⟩ := List.mem_iff_getElem?.mp hjk
        rw [F.zero i t m j hi hm fun e => h1 (by subst e; rw [hm] at hk; exact Option.some.inj hk), Int.zero_mul, Int.zero_emod]
      · rw [S.zero j hj hjk h3, Int.mul_zero, Int.zero_emod]
theorem filter_len2 {α : Type} (q : α → Bool) : ∀ l : List α, (l.filter q).length + (l.filter fun x => !q x).length = l.length
  | [] => rfl
  | x :: l => by
    have ih := filter_len2 q l
    cases h : q x with
    | true =>
      rw [List.filter_cons_of_pos h, List.filter_cons_of_neg (by rw [h]; decide), List.length_cons, List.length_cons]
      omega
    | false =>
      rw [List.filter_cons_of_neg (by rw [h]; decide), List.filter_cons_of_pos (by rw [h]; rfl), List.length_cons, List.length_cons]
      omega
theorem free_len {ks : List Nat} (h : ks.Pairwise (· < ·)) (hl : ∀ k ∈ ks, k < n) : (freeL n ks).length + ks.length = n := by
  have hnd : ks.Nodup := h.imp fun hab => Nat.ne_of_lt hab
  have h1 := filter_len2 (fun f => decide (f ∉ ks)) (List.range n)
  rw [List.length_range] at h1
  have h3 : (List.range n).filter (fun f => !decide (f ∉ ks)) |>.Perm ks := by
    rw [List.perm_ext_iff_of_nodup (List.Nodup.sublist List.filter_sublist List.nodup_range) hnd]
    intro a
    rw [List.mem_filter, List.mem_range]
    constructor
    · intro ⟨_, h⟩
      by_cases e : a ∈ ks
      · exact e
      · rw [decide_eq_true e] at h
        cases h
    · intro h
      exact ⟨hl a h, by rw [decide_eq_false (fun z => z h)]; rfl⟩
  have h4 := h3.length_eq
  unfold freeL
  omega
theorem kerR_iff (P : Pr p) {rs : List (List Int)} (hv : AllV p n rs) {v : List Int} (hw : Vr p n v) : Spn p n (kerR p n rs) v ↔ ∀ r ∈ rs, Orth p n r v := by
  have h2 := P.two
  have F := red_form P hv
  have D := kerF_dual h2 F
  unfold kerR
  rw [← red_span P (kerF_vr h2 _ _) v, dual_iff P.pos D hw]
  constructor
  · intro h r hr
    exact orth_spn P.pos F.vr h ((red_span P hv r).mp (Spn.mem P.pos hv hr))
  · intro h t ht
    exact orth_spn P.pos hv h ((red_span P hv t).mpr (Spn.mem P.pos F.vr ht))
theorem kerR_form (P : Pr p) (rs : List (List Int)) : ∃ ks, Form p n (kerR p n rs) ks := ⟨_, red_form P (kerF_vr P.two _ _)⟩
theorem kerR_vr (P : Pr p) (rs : List (List Int)) : AllV p n (kerR p n rs) := (red_form P (kerF_vr P.two _ _)).vr
theorem kerR_len (P : Pr p) {rs : List (List Int)} (hv : AllV p n rs) : (kerR p n rs).length + (redT p n rs).length = n := by
  have h2 := P.two
  have F := red_form P hv
  have D := kerF_dual h2 F
  have hk := kerF_vr (n := n) h2 (redT p n rs) (redP p n rs)
  have G := red_form P hk
  have a := red_len P hk
  have b := uni_len P hk G.vr D.uS fun v => red_span P hk v
  have c : (kerF p n (redT p n rs) (redP p n rs)).length = (freeL n (redP p n rs)).length := by unfold kerF; rw [List.length_map]
  have d := free_len F.inc F.lt
  have e := F.len
  unfold kerR
  omega
theorem kerR_kerR (P : Pr p) {rs : List (List Int)} (hv : AllV p n rs) : kerR p n (kerR p n rs) = redT p n rs := by
  have h2 := P.two
  have F := red_form P hv
  have D := kerF_dual h2 F
  have hk := kerF_vr (n := n) h2 (redT p n rs) (redP p n rs)
  obtain ⟨ls, G⟩ := kerR_form (n := n) P (kerR p n rs)
  refine (form_unique P.pos G F fun v => ?_).1
  constructor
  · intro h
    have hw := h.vr P.pos G.vr
    have h' := (kerR_iff P (kerR_vr P rs) hw).mp h
    refine (dual_iff P.pos D.symm hw).mpr fun t ht => ?_
    exact orth_spn P.pos (kerR_vr P rs) h' ((red_span P hk t).mp (Spn.mem P.pos hk ht))
  · intro h
    have hw := h.vr P.pos F.vr
    refine (kerR_iff P (kerR_vr P rs) hw).mpr fun r hr => ?_
    have hr2 : Spn p n (kerR p n rs) r := Spn.mem P.pos (kerR_vr P rs) hr
    have ho := (kerR_iff P hv (kerR_vr P rs r hr)).mp hr2
    exact (orth_spn P.pos hv ho ((red_span P hv v).mpr h)).symm
end
/-! ### all rows of a width; relations -/
section
variable {p : Int} {n : Nat}
def allR (p : Int) : Nat → List (List Int)
  | 0 => [[]]
  | n + 1 => (allR p n).flatMap fun w => (List.range p.toNat).map fun a : Nat => w ++ [(a : Int)]
theorem mem_all (hp : 0 < p) : ∀ {n : Nat} {v : List Int}, v ∈ allR p n ↔ Vr p n v
  | 0, v => by
    rw [allR, List.mem_singleton]
    exact ⟨fun h => by rw [h]; exact ⟨rfl, fun x hx => by cases hx⟩, fun h => List.eq_nil_of_length_eq_zero h.1⟩
  | n + 1, v => by
    rw [allR, List.mem_flatMap]
    constructor
    · rintro ⟨w, hw, h⟩
      obtain ⟨a, ha, rfl⟩ := List.mem_map.mp h
      have hv := (mem_all hp).mp hw
      have ha := List.mem_range.mp ha
      refine ⟨by rw [List.length_append, hv.1]; rfl, fun x hx => ?_⟩
      rcases List.mem_append.mp hx with hx | hx
      · exact hv.2 x hx
      · rw [List.mem_singleton.mp hx]
        omega
    · intro h
      have hne : v ≠ [] := fun e => by rw [e] at h; exact absurd h.1 (by simp)
      have hl := List.dropLast_concat_getLast hne
      have hb := h.2 _ (List.getLast_mem hne)
      refine ⟨v.dropLast, (mem_all hp).mpr ⟨by rw [List.length_dropLast, h.1]; rfl, fun x hx => h.2 x ((List.dropLast_subset v) hx)⟩, List.mem_map.mpr ⟨(v.getLast hne).toNat, List.mem_range.mpr (by omega), ?_⟩⟩
      rw [Int.toNat_of_nonneg hb.1]
      exact hl
theorem lt_app {x y : List Int} : ∀ {u v : List Int}, u.length = v.length → u < v → u ++ x < v ++ y
  | [], [], _, h => absurd h (List.lt_irrefl _)
  | [], _ :: _, h, _ => by simp at h
  | _ :: _, [], h, _ => by simp at h
  | a :: u, b :: v, hl, h => by
    rw [List.cons_append, List.cons_append]
    rcases List.cons_lt_cons_iff.mp h with h | ⟨e, h⟩
    · exact List.cons_lt_cons_iff.mpr (.inl h)
    · exact List.cons_lt_cons_iff.mpr (.inr ⟨e, lt_app (by simpa using hl) h⟩)
theorem app_lt {a b : Int} (h : a < b) : ∀ w : List Int, w ++ [a] < w ++ [b]
  | [] => List.cons_lt_cons_iff.mpr (.inl h)
  | x :: w => List.cons_lt_cons_iff.mpr (.inr ⟨rfl, app_lt h w⟩)
theorem all_sorted (hp : 0 < p) : ∀ n : Nat, (allR p n).Pairwise (· < ·)
  | 0 => List.pairwise_singleton _ _
  | n + 1 => by
    rw [allR, List.pairwise_flatMap]
    refine ⟨fun w _ => ?_, (List.Pairwise.and_mem.mp (all_sorted hp n)).imp fun {u v} ⟨hu, hv, h⟩ x hx y hy => ?_⟩
    · rw [List.pairwise_map]
      refine List.pairwise_lt_range.imp fun h => app_lt (by omega) w
    · obtain ⟨a, _, rfl⟩ := List.mem_map.mp hx
      obtain ⟨b, _, rfl⟩ := List.mem_map.mp hy
      exact lt_app (by rw [((mem_all hp).mp hu).1, ((mem_all hp).mp hv).1]) h
/-- the rows of a table, in order, are those that a test finds among all -/
theorem lspanS_filter (P : Pr p) {S : List (List Int)} (hS : AllV p n S) (f : List Int → Bool) (h : ∀ v, Vr p n v → (Spn p n S v ↔ f v = true)) : lspanS p n S = (allR p n).filter f := by
  have hs := (all_sorted P.pos n).filter f
  have hn : ((allR p n).filter f).Nodup := hs.imp fun {a b} hab e => by rw [e] at hab; exact List.lt_irrefl _ hab
  have hp : (lspan p n S).Perm ((allR p n).filter f) := by
    rw [List.perm_ext_iff_of_nodup (lspan_nodup P hS) hn]
    intro v
    rw [lspan_iff P hS, List.mem_filter, mem_all P.pos]
    exact ⟨fun k => have hv := k.vr P.pos hS; ⟨hv, (h v hv).mp k⟩, fun ⟨hv, k⟩ => (h v hv).mpr k⟩
  unfold lspanS
  rw [sort_perm hp]
  exact List.mergeSort_of_pairwise (hs.imp fun {a b} hab => decide_eq_true (List.le_of_lt hab))
/-! columns -/
def colR (rs : List (List Int)) (n : Nat) : List (List Int) := (List.range n).map fun j => rs.map fun r => atR r j
theorem col_vr {rs : List (List Int)} (hv : AllV p n rs) {j : Nat} (hj : j < n) : Vr p rs.length (rs.map fun r => atR r j) := by
  refine ⟨List.length_map _, fun x hx => ?_⟩
  obtain ⟨r, hr, rfl⟩ := List.mem_map.mp hx
  exact (hv r hr).at hj
theorem colR_vr {rs : List (List Int)} (hv : AllV p n rs) : AllV p rs.length (colR rs n) := fun c hc => by
  obtain ⟨j, hj, rfl⟩ := List.mem_map.mp hc
  exact col_vr hv (List.mem_range.mp hj)
theorem col_at {rs : List (List Int)} {j a : Nat} (ha : a < rs.length) : atR (rs.map fun r => atR r j) a = atR (rs.getD a []) j := by
  unfold atR
  rw [List.getD_eq_getElem?_getD, List.getElem?_map, List.getElem?_eq_getElem ha, List.getD_eq_getElem?_getD (l := rs), List.getElem?_eq_getElem ha]
  rfl
theorem map_at {r : List Int} (h : r.length = n) : (List.range n).map (fun j => atR r j) = r := by
  rw [← h]
  exact map_range _ r fun i x hx => getD_some hx
theorem col_col {rs : List (List Int)} (hv : AllV p n rs) : colR (colR rs n) rs.length = rs := by
  unfold colR
  refine map_range _ rs fun i r hr => ?_
  have hi := (List.getElem?_eq_some_iff.mp hr).1
  rw [List.map_map]
  refine Eq.trans (List.map_congr_left fun j _ => ?_) (map_at (hv r (List.mem_of_getElem? hr)).1)
  show atR (rs.map fun r => atR r j) i = atR r j
  rw [col_at hi, getD_some hr]
/-- the sum of the multiples -/
def totI (p : Int) (n : Nat) (rs : List (List Int)) (w : List Int) : Nat → List Int
  | 0 => zeroR n
  | k + 1 => addR p (totI p n rs w k) (scR p (rs.getD k []) (atR w k))
def totR (p : Int) (n : Nat) (rs : List (List Int)) (w : List Int) : List Int := totI p n rs w rs.length
theorem getD_vr {rs : List (List Int)} (hv : AllV p n rs) {k : Nat} (hk : k < rs.length) : Vr p n (rs.getD k []) := by
  rw [getD_some (List.getElem?_eq_getElem hk)]
  exact hv _ (List.getElem_mem hk)
theorem totI_vr (hp : 0 < p) {rs : List (List Int)} (hv : AllV p n rs) (w : List Int) : ∀ k, k ≤ rs.length → Vr p n (totI p n rs w k)
  | 0, _ => zeroR_vr hp n
  | k + 1, h => addR_vr hp (totI_vr hp hv w k (by omega)) (scR_vr hp (getD_vr hv (by omega)).1 _)
theorem totI_at (hp : 0 < p) {rs : List (List Int)} (hv : AllV p n rs) (w : List Int) {j : Nat} (hj : j < n) : ∀ k, k ≤ rs.length → atR (totI p n rs w k) j = sumN (fun i => atR w i * atR (rs.getD i []) j) k % p
  | 0, _ => by rw [totI, atR_zero, sumN, Int.zero_emod]
  | k + 1, h => by
    have h1 := totI_vr hp hv w k (by omega)
    have h2 := getD_vr hv (show k < rs.length by omega)
    have h3 := scR_vr hp h2.1 (atR w k)
    rw [totI, atR_add (by rw [h1.1]; exact hj) (by rw [h3.1]; exact hj), atR_sc (by rw [h2.1]; exact hj), totI_at hp hv w hj k (by omega), ← Int.add_emod]
    rfl
theorem totR_zero (hp : 0 < p) {rs : List (List Int)} (hv : AllV p n rs) (w : List Int) : totR p n rs w = zeroR n ↔ ∀ c ∈ colR rs n, Orth p rs.length c w := by
  have key : ∀ j, j < n → (atR (totR p n rs w) j = dotN rs.length (rs.map fun r => atR r j) w % p) := fun j hj => by
    rw [totR, totI_at hp hv w hj _ (Nat.le_refl _)]
    refine congrArg (· % p) (sumN_congr fun i hi => ?_)
    rw [col_at hi, Int.mul_comm]
  constructor
  · intro h c hc
    obtain ⟨j, hj, rfl⟩ := List.mem_map.mp hc
    have := key j (List.mem_range.mp hj)
    rw [h, atR_zero] at this
    exact this.symm
  · intro h
    refine ext_at (totI_vr hp hv w _ (Nat.le_refl _)) (zeroR_vr hp n) fun j hj => ?_
    rw [atR_zero]
    exact (key j hj).trans (h _ (List.mem_map.mpr ⟨j, List.mem_range.mpr hj, rfl⟩))
/-! the columns of the pivots span the columns -/
def combL (p : Int) (n : Nat) : List (List Int) → List Int → List Int
  | [], _ => zeroR n
  | _ :: _, [] => zeroR n
  | r :: T, c :: cs => addR p (combL p n T cs) (scR p r c)
def zsum : List Int → List Int → Int
  | c :: cs, x :: xs => c * x + zsum cs xs
  | _, _ => 0
theorem zsum_comm : ∀ a b : List Int, zsum a b = zsum b a
  | [], [] => rfl
  | [], _ :: _ => rfl
  | _ :: _, [] => rfl
  | a :: as, b :: bs => by rw [zsum, zsum, zsum_comm as bs, Int.mul_comm]
theorem combL_vr (hp : 0 < p) : ∀ {T : List (List Int)} {cs : List Int}, AllV p n T → Vr p n (combL p n T cs)
  | [], _, _ => by rw [combL]; exact zeroR_vr hp n
  | _ :: _, [], _ => by rw [combL]; exact zeroR_vr hp n
  | r :: T, c :: cs, h => addR_vr hp (combL_vr hp h.tail) (scR_vr hp h.head.1 _)
theorem combL_spn (hp : 0 < p) : ∀ {T : List (List Int)} {cs : List Int}, AllV p n T → Spn p n T (combL p n T cs)
  | [], _, h => Spn.zero hp h
  | _ :: _, [], h => Spn.zero hp h
  | r :: T, c :: cs, h => ⟨c, _, combL_spn hp h.tail, rfl⟩
theorem combL_at (hp : 0 < p) {j : Nat} (hj : j < n) : ∀ {T : List (List Int)} {cs : List Int}, AllV p n T → atR (combL p n T cs) j = zsum cs (T.map fun r => atR r j) % p
  | [], [], _ => by rw [combL, atR_zero]; rfl
  | [], _ :: _, _ => by rw [combL, atR_zero]; rfl
  | _ :: _, [], _ => by rw [combL, atR_zero]; rfl
  | r :: T, c :: cs, h => by
    have h1 := combL_vr hp h.tail (cs := cs)
    have h2 := scR_vr hp h.head.1 c
    rw [combL, atR_add (by rw [h1.1]; exact hj) (by rw [h2.1]; exact hj), atR_sc (by rw [h.head.1]; exact hj), combL_at hp hj h.tail, ← Int.add_emod, List.map_cons, zsum, Int.add_comm]
theorem spn_comb (hp : 0 < p) : ∀ {T : List (List Int)} {ks : List Nat} {v : List Int}, AllV p n T → UniI n T ks → Spn p n T v → v = combL p n T (ks.map (atR v))
  | [], ks, v, _, _, h => by rw [combL]; exact h
  | r :: T, [], v, _, U, _ => by have := U.len; simp at this
  | r :: T, k :: ks, v, hT, U, ⟨c, w, hw, e⟩ => by
    have hr := hT.head
    have hwv := hw.vr hp hT.tail
    have hs := scR_vr hp hr.1 c
    have hkn := U.lt k (List.mem_cons_self ..)
    have at' : ∀ j, j < n → atR v j = (atR w j + c * atR r j) % p := fun j hj => by
      rw [e, atR_add (by rw [hwv.1]; exact hj) (by rw [hs.1]; exact hj), atR_sc (by rw [hr.1]; exact hj), Int.add_emod_emod]
    have hk : atR v k = c % p := by
      rw [at' k hkn, Spn.at0 hp hT.tail hkn U.tail_head hw, U.one 0 r k rfl rfl, Int.mul_one, Int.zero_add]
    have hks : ks.map (atR v) = ks.map (atR w) := List.map_congr_left fun j hj => by
      have hjn := U.lt j (List.mem_cons_of_mem _ hj)
      have hb := hwv.at hjn
      rw [at' j hjn, U.head_tail j hj, Int.mul_zero, Int.add_zero, emod_small hb.1 hb.2]
    rw [List.map_cons, combL, hk, la_sc_mod hp hr, hks, ← spn_comb hp hT.tail U.tail hw]
    exact e
theorem rank_le (P : Pr p) {rs : List (List Int)} (hv : AllV p n rs) : (redT p rs.length (colR rs n)).length ≤ (redT p n rs).length := by
  have F := red_form P hv
  have hC := colR_vr hv
  have hS : AllV p rs.length ((redP p n rs).map fun k => rs.map fun r => atR r k) := fun c hc => by
    obtain ⟨k, hk, rfl⟩ := List.mem_map.mp hc
    exact col_vr hv (F.lt k hk)
  have sub1 : ∀ c ∈ (redP p n rs).map (fun k => rs.map fun r => atR r k), Spn p rs.length (colR rs n) c := fun c hc => by
    obtain ⟨k, hk, rfl⟩ := List.mem_map.mp hc
    exact Spn.mem P.pos hC (List.mem_map.mpr ⟨k, List.mem_range.mpr (F.lt k hk), rfl⟩)
  have sub2 : ∀ c ∈ colR rs n, Spn p rs.length ((redP p n rs).map fun k => rs.map fun r => atR r k) c := fun c hc => by
    obtain ⟨j, hj, rfl⟩ := List.mem_map.mp hc
    have hj := List.mem_range.mp hj
    have e : rs.map (fun r => atR r j) = combL p rs.length ((redP p n rs).map fun k => rs.map fun r => atR r k) ((redT p n rs).map fun t => atR t j) := by
      refine ext_at (col_vr hv hj) (combL_vr P.pos hS) fun a ha => ?_
      have hr := getD_vr hv ha
      have hsp : Spn p n (redT p n rs) (rs.getD a []) := (red_span P hv _).mp (Spn.mem P.pos hv (by rw [getD_some (List.getElem?_eq_getElem ha)]; exact List.getElem_mem ha))
      have e1 := spn_comb P.pos F.vr (uni_form F) hsp
      have e2 := combL_at P.pos hj (cs := (redP p n rs).map (atR (rs.getD a []))) F.vr
      rw [← e1] at e2
      rw [combL_at P.pos ha hS, List.map_map, col_at ha, e2, zsum_comm]
      refine congrArg (fun z => zsum _ z % p) (List.map_congr_left fun k hk => ?_)
      show _ = atR (rs.map fun r => atR r k) a
      rw [col_at ha]
    rw [e]
    exact combL_spn P.pos hS
  have hspan : ∀ v, Spn p rs.length ((redP p n rs).map fun k => rs.map fun r => atR r k) v ↔ Spn p rs.length (colR rs n) v := fun v =>
    ⟨Spn.sub P.pos hS hC sub1 v, Spn.sub P.pos hC hS sub2 v⟩
  have h1 := red_len P hS
  rw [(red_idem P hC hS hspan).1, List.length_map] at h1
  have h2 := F.len
  omega
theorem rank_eq (P : Pr p) {rs : List (List Int)} (hv : AllV p n rs) : (redT p rs.length (colR rs n)).length = (redT p n rs).length := by
  refine Nat.le_antisymm (rank_le P hv) ?_
  have h := rank_le P (colR_vr hv)
  have hl : (colR rs n).length = n := by unfold colR; rw [List.length_map, List.length_range]
  rw [hl, col_col hv] at h
  exact h
theorem rel_len (P : Pr p) {rs : List (List Int)} (hv : AllV p n rs) : (kerR p rs.length (colR rs n)).length + (redT p n rs).length = rs.length := by
  rw [← rank_eq P hv]
  exact kerR_len P (colR_vr hv)
theorem rel_iff (P : Pr p) {rs : List (List Int)} (hv : AllV p n rs) {w : List Int} (hw : Vr p rs.length w) : Spn p rs.length (kerR p rs.length (colR rs n)) w ↔ totR p n rs w = zeroR n := by
  rw [kerR_iff P (colR_vr hv) hw, totR_zero P.pos hv]
end
/-! ### sums of multiples -/
section
variable {p : Int} {n : Nat}
theorem sumN_swap (f : Nat → Nat → Int) (m : Nat) : ∀ n, sumN (fun i => sumN (fun j => f i j) m) n = sumN (fun j => sumN (fun i => f i j) n) m
  | 0 => by
    show (0 : Int) = sumN (fun _ => 0) m
    induction m with
    | zero => rfl
    | succ m ih => rw [sumN, ← ih]; rfl
  | n + 1 => by
    rw [sumN, sumN_swap f m n, ← sumN_add]
    rfl
theorem zsum_range : ∀ (c : List Int) (k : Nat) (g : Nat → Int), c.length = k → zsum c ((List.range k).map g) = sumN (fun i => atR c i * g i) k := by
  intro c
  induction c with
  | nil =>
    intro k g hk
    cases k with
    | zero => rfl
    | succ k => simp at hk
  | cons x c ih =>
    intro k g hk
    cases k with
    | zero => simp at hk
    | succ k =>
      rw [List.range_succ_eq_map, List.map_cons, List.map_map, zsum, ih k _ (by simpa using hk)]
      have sh : ∀ (h : Nat → Int) (k : Nat), sumN h (k + 1) = h 0 + sumN (fun i => h (i + 1)) k := by
        intro h k
        induction k with
        | zero => simp [sumN]
        | succ k ih2 =>
          rw [sumN, ih2, sumN]
          omega
      rw [sh]
      rfl
theorem comb_sum (hp : 0 < p) {m : Nat} {R : List (List Int)} (hR : AllV p m R) {c : List Int} (hl : R.length = n) (hc : c.length = n) {j : Nat} (hj : j < m) : atR (combL p m R c) j = sumN (fun i => atR c i * atR (R.getD i []) j) n % p := by
  have h := range_map_get (fun r : List Int => atR r j) [] R
  rw [combL_at hp hj hR, ← h, hl, zsum_range c n _ hc]
theorem spn_some (hp : 0 < p) {m : Nat} : ∀ {R : List (List Int)} {v : List Int}, Spn p m R v → ∃ c : List Int, c.length = R.length ∧ v = combL p m R c
  | [], v, h => ⟨[], rfl, h⟩
  | r :: R, v, ⟨c, w, hw, e⟩ => by
    obtain ⟨cs, h1, h2⟩ := spn_some hp hw
    exact ⟨c :: cs, by rw [List.length_cons, h1]; rfl, by rw [combL, ← h2]; exact e⟩
theorem full_piv {ks : List Nat} (h : ks.Pairwise (· < ·)) (hl : ∀ k ∈ ks, k < n) (hn : ks.length = n) {i : Nat} (hi : i < n) : i ∈ ks := by
  have hf := free_len h hl
  have h0 : freeL n ks = [] := List.eq_nil_of_length_eq_zero (by omega)
  refine Decidable.byContradiction fun hno => ?_
  have := mem_free.mpr ⟨hi, hno⟩
  rw [h0] at this
  cases this
end
/-! ### the rows of a space in order, as the odometer goes through them -/
section
variable {p : Int} {n : Nat}
def rowsOf (p : Int) : List (List Int) → List Int → List (List Int)
  | [], v => [v]
  | t :: T, v => (List.range p.toNat).flatMap fun a : Nat => rowsOf p T (addR p v (scR p t (a : Int)))
/-- what is still to come, the first k places of the table left -/
def remR (p : Int) (T : List (List Int)) : Nat → List Int → List (List Int)
  | 0, _ => []
  | k + 1, v => (((List.range p.toNat).drop ((atR v (oneAt (T.getD k []))).toNat + 1)).flatMap fun a : Nat => rowsOf p (T.drop (k + 1)) (addR p v (scR p (T.getD k []) ((a : Int) - atR v (oneAt (T.getD k [])))))) ++
      remR p T k (addR p v (scR p (T.getD k []) (-(atR v (oneAt (T.getD k []))))))
/-- the digits from the place j on are 0 -/
def Zd (T : List (List Int)) (j : Nat) (v : List Int) : Prop := ∀ (i : Nat) (r : List Int), j ≤ i → T[i]? = some r → atR v (oneAt r) = 0
theorem form_one {T : List (List Int)} {ks : List Nat} (F : Form p n T ks) {i : Nat} {r : List Int} (h : T[i]? = some r) : ∃ k, ks[i]? = some k ∧ oneAt r = k ∧ k < n := by
  have hl : i < ks.length := by
    rw [← F.len]
    exact (List.getElem?_eq_some_iff.mp h).1
  have hk : ks[i]? = some ks[i] := List.getElem?_eq_getElem hl
  have hn := F.lt _ (List.getElem_mem hl)
  have hv := F.vr r (List.mem_of_getElem? h)
  exact ⟨_, hk, oneAt_piv (F.one i r _ h hk) (F.lead i r _ h hk) (by rw [hv.1]; exact hn), hn⟩
theorem form_dig {T : List (List Int)} {ks : List Nat} (F : Form p n T ks) {i j : Nat} {r s : List Int} (h : T[i]? = some r) (k : T[j]? = some s) : atR r (oneAt s) = if i = j then 1 else 0 := by
  obtain ⟨q, hq, eq, _⟩ := form_one F k
  rw [eq]
  by_cases e : i = j
  · subst e
    rw [if_pos rfl]
    exact F.one i r q h hq
  · rw [if_neg e]
    exact F.zero i r j q h hq e
theorem sh (hp : 0 < p) {v t : List Int} (hv : Vr p n v) (ht : Vr p n t) (c d : Int) : addR p (addR p v (scR p t c)) (scR p t d) = addR p v (scR p t (c + d)) := by
  rw [add_assoc' hp hv (scR_vr hp ht.1 c) (scR_vr hp ht.1 d), la_add_sc hp ht]
theorem dig_add (hp : 0 < p) {v t : List Int} (hv : Vr p n v) (ht : Vr p n t) {j : Nat} (hj : j < n) (c : Int) : atR (addR p v (scR p t c)) j = (atR v j + c * atR t j) % p := by
  rw [atR_add (by rw [hv.1]; exact hj) (by rw [(scR_vr hp ht.1 c).1]; exact hj), atR_sc (by rw [ht.1]; exact hj), Int.add_emod, Int.emod_emod_of_dvd _ (Int.dvd_refl p), ← Int.add_emod]
theorem range_tail {k m : Nat} (h : k < m) : (List.range m).drop k = k :: (List.range m).drop (k + 1) := by
  rw [List.drop_eq_getElem_cons (by rw [List.length_range]; exact h), List.getElem_range]
theorem drop_get {T : List (List Int)} {k : Nat} (h : k < T.length) : T.drop k = T.getD k [] :: T.drop (k + 1) := by
  rw [List.drop_eq_getElem_cons h, getD_some (List.getElem?_eq_getElem h)]
theorem rem_tail (h2 : 2 ≤ p) {T : List (List Int)} {ks : List Nat} (F : Form p n T ks) : ∀ (m j : Nat) (v : List Int), j + m = T.length → Vr p n v → Zd T j v → v :: remR p T T.length v = rowsOf p (T.drop j) v ++ remR p T j v
  | 0, j, v, hj, _, _ => by
    have e : j = T.length := hj
    subst e
    rw [List.drop_length]
    rfl
  | m + 1, j, v, hj, hv, hz => by
    have hp : 0 < p := by omega
    have hlt : j < T.length := by omega
    have et : T[j]? = some (T.getD j []) := by rw [getD_some (List.getElem?_eq_getElem hlt)]; exact List.getElem?_eq_getElem hlt
    have ht := F.vr _ (List.mem_of_getElem? et)
    rw [rem_tail h2 F m (j + 1) v (by omega) hv (fun i r hi e => hz i r (by omega) e), drop_get hlt, rowsOf, remR, hz j _ (Nat.le_refl _) et]
    have e0 : addR p v (scR p (T.getD j []) (-0)) = v := by
      rw [show (-0 : Int) = 0 by rfl, la_sc_zero hp ht, add_zero' hp hv]
    rw [e0, show (0 : Int).toNat + 1 = 1 by rfl, show List.range p.toNat = 0 :: (List.range p.toNat).drop 1 by have := range_tail (k := 0) (m := p.toNat) (by omega); rw [List.drop_zero] at this; exact this, List.flatMap_cons, List.append_assoc]
    have e1 : addR p v (scR p (T.getD j []) ((0 : Nat) : Int)) = v := e0
    rw [e1]
    simp only [Int.sub_zero, List.append_assoc]
    rfl
/-- one step; over the top of a digit -/
theorem rem_over (h2 : 2 ≤ p) {T : List (List Int)} {ks : List Nat} (F : Form p n T ks) {k : Nat} {t v : List Int} (et : T[k]? = some t) (hv : Vr p n v) (h0 : atR (addR p v t) (oneAt t) = 0) : remR p T (k + 1) v = remR p T k (addR p v t) := by
  have hp : 0 < p := by omega
  have ht := F.vr _ (List.mem_of_getElem? et)
  obtain ⟨q, hq, eq, hqn⟩ := form_one F et
  have hd := form_dig F et et
  rw [if_pos rfl] at hd
  have hb := hv.at (by rw [eq]; exact hqn : oneAt t < n)
  have e1 : addR p v t = addR p v (scR p t 1) := by rw [la_sc_one hp ht]
  rw [e1, dig_add hp hv ht (by rw [eq]; exact hqn), hd] at h0
  have ed : atR v (oneAt t) = p - 1 := by
    by_cases c : atR v (oneAt t) + 1 < p
    · rw [show atR v (oneAt t) + 1 * 1 = atR v (oneAt t) + 1 by omega, Int.emod_eq_of_lt (by omega) c] at h0
      omega
    · omega
  rw [remR, getD_some et, ed, List.drop_of_length_le (l := List.range p.toNat) (by rw [List.length_range]; omega), List.flatMap_nil, List.nil_append, e1]
  congr 2
  rw [← la_sc_mod hp ht, show (-(p - 1)) % p = 1 % p by
    rw [show -(p - 1) = 1 + p * (-1) by omega, Int.add_mul_emod_self_left], la_sc_mod hp ht]
theorem rem_on (h2 : 2 ≤ p) {T : List (List Int)} {ks : List Nat} (F : Form p n T ks) {k : Nat} {t v : List Int} (et : T[k]? = some t) (hv : Vr p n v) (hz : Zd T (k + 1) v) (h0 : atR (addR p v t) (oneAt t) ≠ 0) :
    remR p T (k + 1) v = addR p v t :: remR p T T.length (addR p v t) := by
  have hp : 0 < p := by omega
  have hk : k < T.length := (List.getElem?_eq_some_iff.mp et).1
  have ht := F.vr _ (List.mem_of_getElem? et)
  obtain ⟨q, hq, eq, hqn⟩ := form_one F et
  have hd := form_dig F et et
  rw [if_pos rfl] at hd
  have hb := hv.at (by rw [eq]; exact hqn : oneAt t < n)
  have e1 : addR p v t = addR p v (scR p t 1) := by rw [la_sc_one hp ht]
  have hv1 : Vr p n (addR p v t) := addR_vr hp hv ht
  have d1 : atR (addR p v t) (oneAt t) = (atR v (oneAt t) + 1) % p := by
    rw [e1, dig_add hp hv ht (by rw [eq]; exact hqn), hd, Int.mul_one]
  have lt : atR v (oneAt t) + 1 < p := by
    by_cases c : atR v (oneAt t) + 1 < p
    · exact c
    · rw [d1, show atR v (oneAt t) + 1 = p by omega, Int.emod_self] at h0
      exact absurd rfl h0
  have d2 : atR (addR p v t) (oneAt t) = atR v (oneAt t) + 1 := by rw [d1, Int.emod_eq_of_lt (by omega) lt]
  have hz1 : Zd T (k + 1) (addR p v t) := fun i r hi er => by
    obtain ⟨q2, _, eq2, hqn2⟩ := form_one F er
    have hd2 := form_dig F et er
    rw [if_neg (by omega)] at hd2
    rw [e1, dig_add hp hv ht (by rw [eq2]; exact hqn2), hd2, hz i r hi er]
    rfl
  rw [rem_tail h2 F (T.length - (k + 1)) (k + 1) _ (by omega) hv1 hz1, remR, remR, getD_some et, d2, range_tail (k := (atR v (oneAt t)).toNat + 1) (m := p.toNat) (by omega), List.flatMap_cons, ← List.append_assoc]
  have en : (atR v (oneAt t) + 1).toNat = (atR v (oneAt t)).toNat + 1 := by omega
  rw [en]
  have ec : ((((atR v (oneAt t)).toNat + 1 : Nat) : Int) - atR v (oneAt t)) = 1 := by omega
  rw [ec, ← e1]
  congr 1
  · congr 1
    refine congrArg (fun f => List.flatMap f _) (funext fun a => ?_)
    rw [e1, sh hp hv ht]
    congr 3
    omega
  · rw [e1, sh hp hv ht]
    congr 3
    omega
theorem zd_over (hp : 0 < p) {T : List (List Int)} {ks : List Nat} (F : Form p n T ks) {k : Nat} {t v : List Int} (et : T[k]? = some t) (hv : Vr p n v) (hz : Zd T (k + 1) v) (h0 : atR (addR p v t) (oneAt t) = 0) : Zd T k (addR p v t) := fun i r hi er => by
  have ht := F.vr _ (List.mem_of_getElem? et)
  by_cases c : i = k
  · subst c
    rw [et] at er
    cases er
    exact h0
  · obtain ⟨q2, _, eq2, hqn2⟩ := form_one F er
    have hd2 := form_dig F et er
    rw [if_neg (fun e => c e.symm)] at hd2
    have e1 : addR p v t = addR p v (scR p t 1) := by rw [la_sc_one hp ht]
    rw [e1, dig_add hp hv ht (by rw [eq2]; exact hqn2), hd2, hz i r (by omega) er]
    rfl
/-! ascending, and all -/
theorem lt_at {u w : List Int} {k : Nat} (hl : u.length = w.length) (h : ∀ j, j < k → atR u j = atR w j) (hk : k < u.length) (hlt : atR u k < atR w k) : u < w := by
  rw [List.lt_iff_exists]
  refine .inr ⟨k, hk, by omega, fun j hj => ?_, ?_⟩
  · have e := h j hj
    have h1 := atR_get (v := u) (i := j) (by omega)
    have h2 := atR_get (v := w) (i := j) (by omega)
    rw [List.getElem?_eq_getElem (by omega)] at h1 h2
    rw [Option.some.inj h1, Option.some.inj h2]
    exact e
  · have h1 := atR_get (v := u) (i := k) hk
    have h2 := atR_get (v := w) (i := k) (by omega)
    rw [List.getElem?_eq_getElem (by omega)] at h1 h2
    rw [Option.some.inj h1, Option.some.inj h2]
    exact hlt
theorem rowsOf_mem (hp : 0 < p) : ∀ {T : List (List Int)} {v w : List Int}, AllV p n T → Vr p n v → (w ∈ rowsOf p T v ↔ ∃ s, Spn p n T s ∧ w = addR p v s)
  | [], v, w, _, hv => by
    rw [rowsOf, List.mem_singleton]
    exact ⟨fun h => ⟨zeroR n, rfl, by rw [add_zero' hp hv]; exact h⟩, fun ⟨s, hs, h⟩ => by rw [h, show s = zeroR n from hs, add_zero' hp hv]⟩
  | t :: T, v, w, hT, hv => by
    rw [rowsOf, List.mem_flatMap]
    have ht := hT.head
    have key : ∀ (c : Int) (s : List Int), Spn p n T s → addR p (addR p v (scR p t c)) s = addR p v (addR p s (scR p t c)) := fun c s hs => by
      have hs' := hs.vr hp hT.tail
      have hc := scR_vr hp ht.1 c
      rw [add_assoc' hp hv hc hs', add_comm' hp hc hs']
    constructor
    · rintro ⟨a, _, h⟩
      obtain ⟨s, hs, rfl⟩ := (rowsOf_mem hp hT.tail (addR_vr hp hv (scR_vr hp ht.1 _))).mp h
      exact ⟨_, ⟨(a : Int), s, hs, rfl⟩, key _ s hs⟩
    · rintro ⟨_, ⟨c, s, hs, rfl⟩, rfl⟩
      have hb := emod_in hp c
      refine ⟨(c % p).toNat, List.mem_range.mpr (by omega), (rowsOf_mem hp hT.tail (addR_vr hp hv (scR_vr hp ht.1 _))).mpr ⟨s, hs, ?_⟩⟩
      rw [key _ s hs, Int.toNat_of_nonneg hb.1, la_sc_mod hp ht]
theorem rowsOf_asc (h2 : 2 ≤ p) : ∀ {T : List (List Int)} {ks : List Nat} {v : List Int}, AllV p n T → (∀ k ∈ ks, k < n) → Diag T ks → (∀ r ∈ T, ∀ k ∈ ks, ∀ j, j < k → atR r k = 1 → True) → Vr p n v → (∀ k ∈ ks, atR v k = 0) → (rowsOf p T v).Pairwise (· < ·)
  | [], _, v, _, _, _, _, _, _ => List.pairwise_singleton _ _
  | t :: T, [], v, _, _, h, _, _, _ => h.elim
  | t :: T, k :: ks, v, hT, hk, ⟨d1, d2, d3, d4, d5, d6⟩, _, hv, hz => by
    have hp : 0 < p := by omega
    have ht := hT.head
    have hkn := hk k (List.mem_cons_self ..)
    have zk := hz k (List.mem_cons_self ..)
    have low : ∀ {T' : List (List Int)} {ls : List Nat}, Diag T' ls → (∀ l ∈ ls, k < l) → ∀ r ∈ T', ∀ j, j < k → atR r j = 0 := by
      intro T'
      induction T' with
      | nil => intro ls _ _ r hr; cases hr
      | cons r' T' ih =>
        intro ls hd hl r hr j hj
        cases ls with
        | nil => exact hd.elim
        | cons l ls =>
          obtain ⟨e1, e2, e3, e4, e5, e6⟩ := hd
          rcases List.mem_cons.mp hr with rfl | hr
          · exact e2 j (by have := hl l (List.mem_cons_self ..); omega)
          · exact ih e6 (fun x hx => hl x (List.mem_cons_of_mem _ hx)) r hr j hj
    have val : ∀ (a : Nat) (w : List Int), a < p.toNat → w ∈ rowsOf p T (addR p v (scR p t (a : Int))) → w.length = n ∧ (∀ j, j < k → atR w j = atR v j) ∧ atR w k = (a : Int) := fun a w ha hw => by
      have hc := scR_vr hp ht.1 (a : Int)
      obtain ⟨s, hs, rfl⟩ := (rowsOf_mem hp hT.tail (addR_vr hp hv hc)).mp hw
      have hs' := hs.vr hp hT.tail
      refine ⟨(addR_vr hp (addR_vr hp hv hc) hs').1, fun j hj => ?_, ?_⟩
      · have z := Spn.at0 hp hT.tail (show j < n by omega) (fun r hr => low d6 d5 r hr j hj) hs
        rw [atR_add (by rw [(addR_vr hp hv hc).1]; omega) (by rw [hs'.1]; omega), z, dig_add hp hv ht (by omega), d2 j hj, Int.mul_zero, Int.add_zero, Int.add_zero, Int.emod_emod_of_dvd _ (Int.dvd_refl p)]
        have hb := hv.at (show j < n by omega)
        exact Int.emod_eq_of_lt hb.1 hb.2
      · have z := Spn.at0 hp hT.tail hkn d3 hs
        rw [atR_add (by rw [(addR_vr hp hv hc).1]; exact hkn) (by rw [hs'.1]; exact hkn), z, dig_add hp hv ht hkn, d1, zk, Int.add_zero, Int.zero_add, Int.mul_one, Int.emod_emod_of_dvd _ (Int.dvd_refl p)]
        exact Int.emod_eq_of_lt (by omega) (by omega)
    rw [rowsOf, List.pairwise_flatMap]
    refine ⟨fun a ha => ?_, ?_⟩
    · refine rowsOf_asc h2 hT.tail (fun x hx => hk x (List.mem_cons_of_mem _ hx)) d6 (fun _ _ _ _ _ _ _ => trivial) (addR_vr hp hv (scR_vr hp ht.1 _)) fun x hx => ?_
      rw [dig_add hp hv ht (hk x (List.mem_cons_of_mem _ hx)), d4 x hx, hz x (List.mem_cons_of_mem _ hx), Int.mul_zero]
      rfl
    · refine (List.Pairwise.and_mem.mp (List.pairwise_lt_range (n := p.toNat))).imp fun {a b} h x hx y hy => ?_
      obtain ⟨ha, hb, hab⟩ := h
      obtain ⟨x1, x2, x3⟩ := val a x (List.mem_range.mp ha) hx
      obtain ⟨y1, y2, y3⟩ := val b y (List.mem_range.mp hb) hy
      exact lt_at (by rw [x1, y1]) (fun j hj => by rw [x2 j hj, y2 j hj]) (by rw [x1]; exact hkn) (by rw [x3, y3]; omega)
theorem rowsOf_all (P : Pr p) {T : List (List Int)} {ks : List Nat} (F : Form p n T ks) : rowsOf p T (zeroR n) = lspanS p n T := by
  have hp := P.pos
  have hv : AllV p n T := F.vr
  have hs := rowsOf_asc P.two hv F.lt (diag_of F) (fun _ _ _ _ _ _ _ => trivial) (zeroR_vr hp n) (fun _ _ => atR_zero)
  have hn : (rowsOf p T (zeroR n)).Nodup := hs.imp fun {a b} hab e => by rw [e] at hab; exact List.lt_irrefl _ hab
  have hpm : (lspan p n T).Perm (rowsOf p T (zeroR n)) := by
    rw [List.perm_ext_iff_of_nodup (lspan_nodup P hv) hn]
    intro v
    rw [lspan_iff P hv, rowsOf_mem hp hv (zeroR_vr hp n)]
    exact ⟨fun h => ⟨v, h, by rw [zero_add' hp (h.vr hp hv)]⟩, fun ⟨s, h, e⟩ => by rw [e, zero_add' hp (h.vr hp hv)]; exact h⟩
  unfold lspanS
  rw [sort_perm hpm]
  exact (List.mergeSort_of_pairwise (hs.imp fun {a b} hab => decide_eq_true (List.le_of_lt hab))).symm
theorem rem_all (P : Pr p) {T : List (List Int)} {ks : List Nat} (F : Form p n T ks) : zeroR n :: remR p T T.length (zeroR n) = lspanS p n T := by
  have h := rem_tail P.two F T.length 0 (zeroR n) (Nat.zero_add _) (zeroR_vr P.pos n) fun _ _ _ _ => atR_zero
  rw [h, List.drop_zero, remR, List.append_nil]
  exact rowsOf_all P F
end
/-! ### equations -/
section
variable {p : Int} {n : Nat}
def wideR (p : Int) (rs : List (List Int)) (rt : List Int) : List (List Int) := (rs.zip rt).map fun x => x.1 ++ [x.2 % p]
theorem wideR_get {rs : List (List Int)} {rt : List Int} {i : Nat} {r : List Int} {x : Int} (h1 : rs[i]? = some r) (h2 : rt[i]? = some x) : (wideR p rs rt)[i]? = some (r ++ [x % p]) := by
  unfold wideR
  rw [List.getElem?_map, List.zip, List.getElem?_zipWith, h1, h2]
  rfl
theorem wideR_some {rs : List (List Int)} {rt : List Int} (hl : rt.length = rs.length) {i : Nat} {y : List Int} (h : (wideR p rs rt)[i]? = some y) : ∃ r x, rs[i]? = some r ∧ rt[i]? = some x ∧ y = r ++ [x % p] := by
  have h0 := (List.getElem?_eq_some_iff.mp h).1
  have hlen : (wideR p rs rt).length = rs.length := by unfold wideR; rw [List.length_map, List.length_zip, hl, Nat.min_self]
  rw [hlen] at h0
  have e1 := List.getElem?_eq_getElem h0
  have e2 := List.getElem?_eq_getElem (show i < rt.length by omega)
  rw [wideR_get e1 e2] at h
  exact ⟨_, _, e1, e2, (Option.some.inj h).symm⟩
theorem wideR_len {rs : List (List Int)} {rt : List Int} (hl : rt.length = rs.length) : (wideR p rs rt).length = rs.length := by unfold wideR; rw [List.length_map, List.length_zip, hl, Nat.min_self]
theorem snoc_vr (hp : 0 < p) {r : List Int} (hr : Vr p n r) (x : Int) : Vr p (n + 1) (r ++ [x % p]) :=
  ⟨by rw [List.length_append, hr.1]; rfl, fun y hy => (List.mem_append.mp hy).elim (hr.2 y) fun h => by rw [List.mem_singleton.mp h]; exact emod_in hp x⟩
theorem wideR_vr (hp : 0 < p) {rs : List (List Int)} {rt : List Int} (hv : AllV p n rs) (hl : rt.length = rs.length) : AllV p (n + 1) (wideR p rs rt) := fun y hy => by
  obtain ⟨i, hi⟩ := List.mem_iff_getElem?.mp hy
  obtain ⟨r, x, e1, _, rfl⟩ := wideR_some hl hi
  exact snoc_vr hp (hv r (List.mem_of_getElem? e1)) x
def Fit (p : Int) (n : Nat) (rs : List (List Int)) (rt : List Int) (v : List Int) : Prop := ∀ (i : Nat) (r : List Int) (x : Int), rs[i]? = some r → rt[i]? = some x → dotN n r v % p = x % p
theorem at_appS {u v : List Int} {i : Nat} : atR (u ++ v) i = if i < u.length then atR u i else atR v (i - u.length) := by
  unfold atR
  rw [List.getD_eq_getElem?_getD, List.getD_eq_getElem?_getD, List.getD_eq_getElem?_getD]
  by_cases h : i < u.length
  · rw [if_pos h, List.getElem?_append_left h]
  · rw [if_neg h, List.getElem?_append_right (by omega)]
theorem at_snoc {u : List Int} {x : Int} {k : Nat} (hu : u.length = n) : atR (u ++ [x]) k = if k < n then atR u k else if k = n then x else 0 := by
  rw [at_appS, hu]
  by_cases h : k < n
  · rw [if_pos h, if_pos h]
  · rw [if_neg h, if_neg h]
    by_cases e : k = n
    · subst e
      rw [if_pos rfl, Nat.sub_self]
      rfl
    · rw [if_neg e]
      unfold atR
      rw [List.getD_eq_getElem?_getD, List.getElem?_eq_none (by show 1 ≤ _; omega)]
      rfl
theorem dot_snoc {y v : List Int} {c : Int} (hv : v.length = n) : dotN (n + 1) y (v ++ [c]) = dotN n y v + atR y n * c := by
  unfold dotN
  rw [sumN, at_snoc hv, if_neg (Nat.lt_irrefl n), if_pos rfl]
  congr 1
  refine sumN_congr fun k hk => ?_
  rw [at_snoc hv, if_pos hk]
theorem dot_take {r v : List Int} {x : Int} (hr : r.length = n) : dotN n (r ++ [x]) v = dotN n r v := sumN_congr fun k hk => by rw [at_snoc hr, if_pos hk]
theorem mod_sub_zero {a b : Int} : (a + b * (-1)) % p = 0 ↔ a % p = b % p := by
  rw [show a + b * (-1) = a - b by omega]
  exact (Int.emod_eq_emod_iff_emod_sub_eq_zero).symm
theorem fit_iff (hp : 0 < p) {rs : List (List Int)} {rt v : List Int} (hv : AllV p n rs) (hl : rt.length = rs.length) (hw : v.length = n) : Fit p n rs rt v ↔ ∀ y ∈ wideR p rs rt, Orth p (n + 1) y (v ++ [-1]) := by
  have key : ∀ {r : List Int} {x : Int}, Vr p n r → (Orth p (n + 1) (r ++ [x % p]) (v ++ [-1]) ↔ dotN n r v % p = x % p) := fun {r x} hr => by
    unfold Orth
    rw [dot_snoc hw, dot_take hr.1, at_snoc hr.1, if_neg (Nat.lt_irrefl n), if_pos rfl, mod_sub_zero, Int.emod_emod_of_dvd _ (Int.dvd_refl p)]
  constructor
  · intro h y hy
    obtain ⟨i, hi⟩ := List.mem_iff_getElem?.mp hy
    obtain ⟨r, x, e1, e2, rfl⟩ := wideR_some hl hi
    exact (key (hv r (List.mem_of_getElem? e1))).mpr (h i r x e1 e2)
  · intro h i r x e1 e2
    exact (key (hv r (List.mem_of_getElem? e1))).mp (h _ (List.mem_of_getElem? (wideR_get e1 e2)))
theorem fit_red (P : Pr p) {rs : List (List Int)} {rt v : List Int} (hv : AllV p n rs) (hl : rt.length = rs.length) (hw : v.length = n) : Fit p n rs rt v ↔ ∀ t ∈ redT p (n + 1) (wideR p rs rt), Orth p (n + 1) t (v ++ [-1]) := by
  have hW := wideR_vr P.pos hv hl
  have F := red_form P hW
  rw [fit_iff P.pos hv hl hw]
  exact ⟨fun h t ht => orth_spn P.pos hW h ((red_span P hW t).mpr (Spn.mem P.pos F.vr ht)), fun h y hy => orth_spn P.pos F.vr h ((red_span P hW y).mp (Spn.mem P.pos hW hy))⟩
/-- the solution, i places put in -/
def slvI (n : Nat) (T : List (List Int)) (ks : List Nat) : Nat → List Int
  | 0 => zeroR n
  | i + 1 => (slvI n T ks i).set (ks.getD i 0) (atR (T.getD i []) n)
def slvR (n : Nat) (T : List (List Int)) (ks : List Nat) : List Int := slvI n T ks T.length
theorem slvI_len {T : List (List Int)} {ks : List Nat} : ∀ i, (slvI n T ks i).length = n
  | 0 => List.length_replicate
  | i + 1 => by rw [slvI, List.length_set, slvI_len i]
theorem slvI_at {T : List (List Int)} {ks : List Nat} (F : Form p (n + 1) T ks) (hno : n ∉ ks) : ∀ i, i ≤ T.length →
    (∀ j, (∀ (m k : Nat), m < i → ks[m]? = some k → k ≠ j) → atR (slvI n T ks i) j = 0) ∧ (∀ (m k : Nat) (r : List Int), m < i → ks[m]? = some k → T[m]? = some r → atR (slvI n T ks i) k = atR r n)
  | 0, _ => ⟨fun j _ => atR_zero, fun m k r hm => absurd hm (Nat.not_lt_zero m)⟩
  | i + 1, hi => by
    obtain ⟨i1, i2⟩ := slvI_at F hno i (by omega)
    have hr := List.getElem?_eq_getElem (show i < T.length by omega)
    obtain ⟨k0, hk⟩ : ∃ k, ks[i]? = some k := ⟨_, List.getElem?_eq_getElem (show i < ks.length by rw [← F.len]; omega)⟩
    have hkn : k0 < n := by
      have h1 := F.lt _ (List.mem_of_getElem? hk)
      have h2 : k0 ≠ n := fun e => hno (e ▸ List.mem_of_getElem? hk)
      omega
    rw [slvI, getD_some hk, getD_some hr]
    have hl := slvI_len (n := n) (T := T) (ks := ks) i
    refine ⟨fun j hj => ?_, fun m k r hm h1 h3 => ?_⟩
    · rw [set_at (by rw [hl]; exact hkn), if_neg fun z => hj i _ (Nat.lt_succ_self i) hk z.symm]
      exact i1 j fun m k hm => hj m k (by omega)
    · rw [set_at (by rw [hl]; exact hkn)]
      by_cases em : m = i
      · subst em
        rw [hk] at h1
        rw [hr] at h3
        cases h1
        cases h3
        rw [if_pos rfl]
      · have := inc_lt F.inc (show m < i by omega) h1 hk
        rw [if_neg (by omega)]
        exact i2 m k r (by omega) h1 h3
theorem slvR_at {T : List (List Int)} {ks : List Nat} (F : Form p (n + 1) T ks) (hno : n ∉ ks) : (∀ j, j ∉ ks → atR (slvR n T ks) j = 0) ∧ (∀ (m k : Nat) (r : List Int), ks[m]? = some k → T[m]? = some r → atR (slvR n T ks) k = atR r n) := by
  obtain ⟨h1, h2⟩ := slvI_at F hno T.length (Nat.le_refl _)
  exact ⟨fun j hj => h1 j fun m k _ h e => hj (e ▸ List.mem_of_getElem? h), fun m k r hk hr => h2 m k r (List.getElem?_eq_some_iff.mp hr).1 hk hr⟩
theorem slvR_vr (hp : 0 < p) {T : List (List Int)} {ks : List Nat} (F : Form p (n + 1) T ks) (hno : n ∉ ks) : Vr p n (slvR n T ks) := by
  obtain ⟨h1, h2⟩ := slvR_at F hno
  have hl : (slvR n T ks).length = n := slvI_len _
  refine ⟨hl, fun x hx => ?_⟩
  obtain ⟨j, hj⟩ := List.mem_iff_getElem?.mp hx
  have hx2 : atR (slvR n T ks) j = x := getD_some hj
  rw [← hx2]
  by_cases hjk : j ∈ ks
  · obtain ⟨m, hm⟩ := List.mem_iff_getElem?.mp hjk
    have hr := List.getElem?_eq_getElem (show m < T.length by rw [F.len]; exact (List.getElem?_eq_some_iff.mp hm).1)
    rw [h2 m j _ hm hr]
    exact (F.vr _ (List.mem_of_getElem? hr)).at (Nat.lt_succ_self n)
  · rw [h1 j hjk]
    omega
/-- a row of the table, at a row with 0 at the free places -/
theorem row_dot {T : List (List Int)} {ks : List Nat} (F : Form p (n + 1) T ks) (hno : n ∉ ks) {v : List Int} (hv : v.length = n) (hz : ∀ j, j < n → j ∉ ks → atR v j = 0) {m k : Nat} {t : List Int} (hk : ks[m]? = some k) (ht : T[m]? = some t) :
    dotN (n + 1) t (v ++ [-1]) % p = (atR v k + atR t n * (-1)) % p := by
  have hkn : k < n := by
    have h1 := F.lt _ (List.mem_of_getElem? hk)
    have h2 : k ≠ n := fun e => hno (e ▸ List.mem_of_getElem? hk)
    omega
  unfold dotN
  rw [sumN_two (f := fun j => atR t j * atR (v ++ [-1]) j) (show k ≠ n by omega) (by omega) (Nat.lt_succ_self n) fun j hj h1 h2 => ?_]
  · show (atR t k * atR (v ++ [-1]) k + atR t n * atR (v ++ [-1]) n) % p = _
    rw [F.one m t k ht hk, at_snoc hv, if_pos hkn, at_snoc hv, if_neg (Nat.lt_irrefl n), if_pos rfl, Int.one_mul]
  · show (atR t j * atR (v ++ [-1]) j) % p = 0
    have hjn : j < n := by omega
    by_cases hjk : j ∈ ks
    · obtain ⟨q, hq⟩ := List.mem_iff_getElem?.mp hjk
      rw [F.zero m t q j ht hq fun e => h1 (by subst e; rw [hq] at hk; exact Option.some.inj hk), Int.zero_mul, Int.zero_emod]
    · rw [at_snoc hv, if_pos hjn, hz j hjn hjk, Int.mul_zero, Int.zero_emod]
theorem no_fit (P : Pr p) {rs : List (List Int)} {rt v : List Int} (hv : AllV p n rs) (hl : rt.length = rs.length) (hw : v.length = n) (hin : n ∈ redP p (n + 1) (wideR p rs rt)) : ¬ Fit p n rs rt v := by
  intro h
  have F := red_form P (wideR_vr P.pos hv hl)
  obtain ⟨m, hm⟩ := List.mem_iff_getElem?.mp hin
  obtain ⟨t0, hr⟩ : ∃ t, (redT p (n + 1) (wideR p rs rt))[m]? = some t := ⟨_, List.getElem?_eq_getElem (by rw [F.len]; exact (List.getElem?_eq_some_iff.mp hm).1)⟩
  have h1 := (fit_red P hv hl hw).mp h _ (List.mem_of_getElem? hr)
  unfold Orth at h1
  rw [dot_snoc hw, F.one m _ n hr hm] at h1
  have h0 : dotN n t0 v = 0 := by
    have : dotN n t0 v = sumN (fun _ => 0 * 0) n := sumN_congr fun k hk => by rw [F.lead m t0 n hr hm k hk, Int.zero_mul]; rfl
    rw [this, sumN_mul]
    exact Int.zero_mul _
  rw [h0] at h1
  have h2 := P.two
  have h3 : ((0 : Int) + 1 * (-1)) % p = p - 1 := by
    rw [show (0 : Int) + 1 * (-1) = -1 by decide, ← Int.add_emod_right (-1) p, Int.emod_eq_of_lt (show (0 : Int) ≤ -1 + p by omega) (by omega)]
    omega
  omega
theorem slv_fit (P : Pr p) {rs : List (List Int)} {rt : List Int} (hv : AllV p n rs) (hl : rt.length = rs.length) (hno : n ∉ redP p (n + 1) (wideR p rs rt)) : Fit p n rs rt (slvR n (redT p (n + 1) (wideR p rs rt)) (redP p (n + 1) (wideR p rs rt))) := by
  have F := red_form P (wideR_vr P.pos hv hl)
  obtain ⟨h1, h2⟩ := slvR_at F hno
  have hs := slvR_vr P.pos F hno
  refine (fit_red P hv hl hs.1).mpr fun t ht => ?_
  obtain ⟨m, hm⟩ := List.mem_iff_getElem?.mp ht
  obtain ⟨k, hk⟩ : ∃ k, (redP p (n + 1) (wideR p rs rt))[m]? = some k := ⟨_, List.getElem?_eq_getElem (by rw [← F.len]; exact (List.getElem?_eq_some_iff.mp hm).1)⟩
  unfold Orth
  rw [row_dot F hno hs.1 (fun j _ hj => h1 j hj) hk hm, h2 m k t hk hm, mod_sub_zero]
theorem slv_uniq (P : Pr p) {rs : List (List Int)} {rt v : List Int} (hv : AllV p n rs) (hl : rt.length = rs.length) (hno : n ∉ redP p (n + 1) (wideR p rs rt)) (hw : Vr p n v) (hf : Fit p n rs rt v) (hz : ∀ j, j < n → j ∉ redP p (n + 1) (wideR p rs rt) → atR v j = 0) :
    v = slvR n (redT p (n + 1) (wideR p rs rt)) (redP p (n + 1) (wideR p rs rt)) := by
  have F := red_form P (wideR_vr P.pos hv hl)
  obtain ⟨h1, h2⟩ := slvR_at F hno
  have hs := slvR_vr P.pos F hno
  refine ext_at hw hs fun k hk => ?_
  by_cases hkk : k ∈ redP p (n + 1) (wideR p rs rt)
  · obtain ⟨m, hm⟩ := List.mem_iff_getElem?.mp hkk
    have hr := List.getElem?_eq_getElem (show m < (redT p (n + 1) (wideR p rs rt)).length by rw [F.len]; exact (List.getElem?_eq_some_iff.mp hm).1)
    have h3 := (fit_red P hv hl hw.1).mp hf _ (List.mem_of_getElem? hr)
    unfold Orth at h3
    rw [row_dot F hno hw.1 hz hm hr, mod_sub_zero] at h3
    have hb := hw.at hk
    have hc := (F.vr _ (List.mem_of_getElem? hr)).at (Nat.lt_succ_self n)
    rw [emod_small hb.1 hb.2, emod_small hc.1 hc.2] at h3
    rw [h3, h2 m k _ hm hr]
  · rw [hz k hk hkk, h1 k hkk]
/-! the pivots are those of the rows -/
theorem take_add {u v : List Int} : (addR p u v).take n = addR p (u.take n) (v.take n) := by
  unfold addR
  rw [← List.map_take, List.zip, List.take_zipWith]
theorem take_sc {u : List Int} {c : Int} : (scR p u c).take n = scR p (u.take n) c := List.map_take.symm
theorem take_zeroR : (zeroR (n + 1)).take n = zeroR n := by
  unfold zeroR
  rw [List.take_replicate, Nat.min_eq_left (Nat.le_succ n)]
theorem spn_take : ∀ {R : List (List Int)} {v : List Int}, Spn p n (R.map fun r => r.take n) v ↔ ∃ y, Spn p (n + 1) R y ∧ y.take n = v
  | [], v => ⟨fun h => ⟨zeroR (n + 1), rfl, by rw [take_zeroR]; exact h.symm⟩, fun ⟨y, h1, h2⟩ => by rw [← h2, show y = zeroR (n + 1) from h1]; exact take_zeroR⟩
  | r :: R, v => by
    constructor
    · rintro ⟨c, w, hw, rfl⟩
      obtain ⟨y, h1, h2⟩ := spn_take.mp hw
      exact ⟨_, ⟨c, y, h1, rfl⟩, by rw [take_add, take_sc, h2]⟩
    · rintro ⟨_, ⟨c, y, h1, rfl⟩, h2⟩
      exact ⟨c, y.take n, spn_take.mpr ⟨y, h1, rfl⟩, by rw [← h2, take_add, take_sc]⟩
theorem take_vr {r : List Int} (h : Vr p (n + 1) r) : Vr p n (r.take n) := ⟨by rw [List.length_take, h.1]; omega, fun x hx => h.2 x (List.mem_of_mem_take hx)⟩
theorem at_take {r : List Int} {k : Nat} (h : k < n) : atR (r.take n) k = atR r k := by
  unfold atR
  rw [List.getD_eq_getElem?_getD, List.getElem?_take_of_lt h, ← List.getD_eq_getElem?_getD]
theorem wide_piv (P : Pr p) {rs : List (List Int)} {rt : List Int} (hv : AllV p n rs) (hl : rt.length = rs.length) (hno : n ∉ redP p (n + 1) (wideR p rs rt)) : redP p n rs = redP p (n + 1) (wideR p rs rt) := by
  have hW := wideR_vr P.pos hv hl
  have F := red_form P hW
  have hrs : (wideR p rs rt).map (fun r => r.take n) = rs := by
    apply List.ext_getElem?
    intro i
    rw [List.getElem?_map]
    by_cases hi : i < rs.length
    · have e1 := List.getElem?_eq_getElem hi
      have e2 := List.getElem?_eq_getElem (show i < rt.length by omega)
      have hr := hv _ (List.mem_of_getElem? e1)
      rw [wideR_get e1 e2, e1]
      show some ((rs[i] ++ [_]).take n) = some rs[i]
      rw [List.take_append_of_le_length (by rw [hr.1]; exact Nat.le_refl n), ← hr.1, List.take_length]
    · rw [List.getElem?_eq_none (by rw [wideR_len hl]; omega), List.getElem?_eq_none (by omega)]
      rfl
  have hlt : ∀ k ∈ redP p (n + 1) (wideR p rs rt), k < n := fun k hk => by
    have h1 := F.lt k hk
    have h2 : k ≠ n := fun e => hno (e ▸ hk)
    omega
  have G : Form p n ((redT p (n + 1) (wideR p rs rt)).map fun r => r.take n) (redP p (n + 1) (wideR p rs rt)) := by
    refine ⟨by rw [List.length_map]; exact F.len, fun r hr => ?_, hlt, F.inc, fun i r k h1 h2 => ?_, fun i r k h1 h2 j hj => ?_, fun i r j k h1 h2 h3 => ?_⟩
    · obtain ⟨x, hx, rfl⟩ := List.mem_map.mp hr
      exact take_vr (F.vr x hx)
    · obtain ⟨x, hx, rfl⟩ := getElem?_map_some h1
      rw [at_take (hlt k (List.mem_of_getElem? h2))]
      exact F.one i x k hx h2
    · obtain ⟨x, hx, rfl⟩ := getElem?_map_some h1
      have := hlt k (List.mem_of_getElem? h2)
      rw [at_take (by omega)]
      exact F.lead i x k hx h2 j hj
    · obtain ⟨x, hx, rfl⟩ := getElem?_map_some h1
      rw [at_take (hlt k (List.mem_of_getElem? h2))]
      exact F.zero i x j k hx h2 h3
  refine (form_unique P.pos (red_form P hv) G fun v => ?_).2
  rw [← red_span P hv v, spn_take]
  have h0 : Spn p n rs v ↔ ∃ y, Spn p (n + 1) (wideR p rs rt) y ∧ y.take n = v := by
    rw [← spn_take, hrs]
  rw [h0]
  exact ⟨fun ⟨y, h1, h2⟩ => ⟨y, (red_span P hW y).mp h1, h2⟩, fun ⟨y, h1, h2⟩ => ⟨y, (red_span P hW y).mpr h1, h2⟩⟩
end
/-! ### sums of multiples are linear; what two spaces have in common -/
section
variable {p : Int} {n : Nat}
theorem emod_mul_l (a b : Int) : (a % p * b) % p = (a * b) % p := by rw [Int.mul_comm, mm, Int.mul_comm]
theorem tot_at (hp : 0 < p) {rs : List (List Int)} (hv : AllV p n rs) (w : List Int) {j : Nat} (hj : j < n) : atR (totR p n rs w) j = sumN (fun i => atR w i * atR (rs.getD i []) j) rs.length % p := totI_at hp hv w hj _ (Nat.le_refl _)
theorem tot_vr (hp : 0 < p) {rs : List (List Int)} (hv : AllV p n rs) (w : List Int) : Vr p n (totR p n rs w) := totI_vr hp hv w _ (Nat.le_refl _)
theorem tot_add (hp : 0 < p) {rs : List (List Int)} (hv : AllV p n rs) {u w : List Int} (hu : u.length = rs.length) (hw : w.length = rs.length) : totR p n rs (addR p u w) = addR p (totR p n rs u) (totR p n rs w) := by
  have h1 := tot_vr hp hv u
  have h2 := tot_vr hp hv w
  refine ext_at (tot_vr hp hv _) (addR_vr hp h1 h2) fun j hj => ?_
  rw [tot_at hp hv _ hj, atR_add (by rw [h1.1]; exact hj) (by rw [h2.1]; exact hj), tot_at hp hv _ hj, tot_at hp hv _ hj, ← Int.add_emod, ← sumN_add]
  refine sumN_mod fun i hi => ?_
  rw [atR_add (by omega) (by omega), emod_mul_l, Int.add_mul]
theorem tot_sc (hp : 0 < p) {rs : List (List Int)} (hv : AllV p n rs) {u : List Int} (hu : u.length = rs.length) (c : Int) : totR p n rs (scR p u c) = scR p (totR p n rs u) c := by
  have h1 := tot_vr hp hv u
  refine ext_at (tot_vr hp hv _) (scR_vr hp h1.1 c) fun j hj => ?_
  rw [tot_at hp hv _ hj, atR_sc (by rw [h1.1]; exact hj), tot_at hp hv _ hj, mm, ← sumN_mul]
  refine sumN_mod fun i hi => ?_
  rw [atR_sc (by omega), emod_mul_l, Int.mul_assoc]
theorem sumN_split (f : Nat → Int) (a : Nat) : ∀ b, sumN f (a + b) = sumN f a + sumN (fun i => f (a + i)) b
  | 0 => by rw [Nat.add_zero, sumN, Int.add_zero]
  | b + 1 => by
    rw [← Nat.add_assoc, sumN, sumN_split f a b, sumN, Int.add_assoc]
theorem at_take' {w : List Int} {a i : Nat} (h : i < a) : atR (w.take a) i = atR w i := by
  unfold atR
  rw [List.getD_eq_getElem?_getD, List.getD_eq_getElem?_getD, List.getElem?_take_of_lt h]
theorem at_drop' {w : List Int} {a i : Nat} : atR (w.drop a) i = atR w (a + i) := by
  unfold atR
  rw [List.getD_eq_getElem?_getD, List.getD_eq_getElem?_getD, List.getElem?_drop]
theorem tot_split (hp : 0 < p) {A B : List (List Int)} (hA : AllV p n A) (hB : AllV p n B) (w : List Int) : totR p n (A ++ B) w = addR p (totR p n A (w.take A.length)) (totR p n B (w.drop A.length)) := by
  have h1 := tot_vr hp hA (w.take A.length)
  have h2 := tot_vr hp hB (w.drop A.length)
  have hAB := hA.app hB
  refine ext_at (tot_vr hp hAB _) (addR_vr hp h1 h2) fun j hj => ?_
  rw [tot_at hp hAB _ hj, atR_add (by rw [h1.1]; exact hj) (by rw [h2.1]; exact hj), tot_at hp hA _ hj, tot_at hp hB _ hj, ← Int.add_emod, List.length_append, sumN_split]
  congr 1
  congr 1
  · refine sumN_congr fun i hi => ?_
    rw [at_take' hi, List.getD_eq_getElem?_getD, List.getElem?_append_left hi, ← List.getD_eq_getElem?_getD]
  · refine sumN_congr fun i hi => ?_
    rw [at_drop', List.getD_eq_getElem?_getD, List.getElem?_append_right (by omega), Nat.add_sub_cancel_left, ← List.getD_eq_getElem?_getD]
theorem tot_spn (hp : 0 < p) {rs : List (List Int)} (hv : AllV p n rs) (w : List Int) : Spn p n rs (totR p n rs w) := by
  have key : ∀ k, k ≤ rs.length → Spn p n rs (totI p n rs w k) := by
    intro k
    induction k with
    | zero => exact fun _ => Spn.zero hp hv
    | succ k ih =>
      intro h
      rw [totI, getD_some (List.getElem?_eq_getElem (show k < rs.length by omega))]
      exact Spn.add hp hv (ih (by omega)) (Spn.sc hp hv (Spn.mem hp hv (List.getElem_mem _)) _)
  exact key _ (Nat.le_refl _)
theorem spn_tot (hp : 0 < p) {rs : List (List Int)} (hv : AllV p n rs) {v : List Int} (h : Spn p n rs v) : ∃ u, Vr p rs.length u ∧ totR p n rs u = v := by
  obtain ⟨c, hc, rfl⟩ := spn_some hp h
  refine ⟨c.map (· % p), ⟨by rw [List.length_map, hc], fun x hx => ?_⟩, ?_⟩
  · obtain ⟨y, _, rfl⟩ := List.mem_map.mp hx
    exact emod_in hp y
  · refine ext_at (tot_vr hp hv _) (combL_vr hp hv) fun j hj => ?_
    rw [tot_at hp hv _ hj, comb_sum hp hv rfl hc hj]
    refine sumN_mod fun i hi => ?_
    have e : atR (c.map (· % p)) i = atR c i % p := by
      unfold atR
      rw [List.getD_eq_getElem?_getD, List.getD_eq_getElem?_getD, List.getElem?_map, List.getElem?_eq_getElem (by omega)]
      rfl
    rw [e, emod_mul_l]
theorem spn_map {N : Nat} {f : List Int → List Int} (ha : ∀ u v, Vr p N u → Vr p N v → f (addR p u v) = addR p (f u) (f v)) (hs : ∀ u c, Vr p N u → f (scR p u c) = scR p (f u) c) (h0 : f (zeroR N) = zeroR n) (hp : 0 < p) :
    ∀ {R : List (List Int)} {v : List Int}, AllV p N R → (Spn p n (R.map f) v ↔ ∃ w, Spn p N R w ∧ f w = v)
  | [], v, _ => ⟨fun h => ⟨zeroR N, rfl, by rw [h0]; exact Eq.symm h⟩, fun ⟨w, hw, e⟩ => by
      show v = zeroR n
      rw [← e, show w = zeroR N from hw, h0]⟩
  | r :: R, v, hR => by
    constructor
    · rintro ⟨c, w1, h1, e⟩
      obtain ⟨w, hw, rfl⟩ := (spn_map ha hs h0 hp hR.tail).mp h1
      refine ⟨addR p w (scR p r c), ⟨c, w, hw, rfl⟩, ?_⟩
      rw [ha _ _ (hw.vr hp hR.tail) (scR_vr hp hR.head.1 c), hs _ _ hR.head, e]
    · rintro ⟨_, ⟨c, w, hw, rfl⟩, rfl⟩
      exact ⟨c, f w, (spn_map ha hs h0 hp hR.tail).mpr ⟨w, hw, rfl⟩, by rw [ha _ _ (hw.vr hp hR.tail) (scR_vr hp hR.head.1 c), hs _ _ hR.head]⟩
/-- the relations of both tables, and their parts over the first one -/
def pairsR (p : Int) (n : Nat) (A B : List (List Int)) : List (List Int) := kerR p (A ++ B).length (colR (A ++ B) n)
def partF (p : Int) (n : Nat) (A B : List (List Int)) : List (List Int) := (pairsR p n A B).map fun w => totR p n A (w.take A.length)
def partR (p : Int) (n : Nat) (A B : List (List Int)) : List (List Int) := redT p n (partF p n A B)
theorem pairs_vr (P : Pr p) (A B : List (List Int)) : AllV p (A ++ B).length (pairsR p n A B) := kerR_vr P _
theorem partF_vr (P : Pr p) {A : List (List Int)} (hA : AllV p n A) (B : List (List Int)) : AllV p n (partF p n A B) := fun x hx => by
  obtain ⟨w, _, rfl⟩ := List.mem_map.mp hx
  exact tot_vr P.pos hA _
theorem part_map (P : Pr p) {A : List (List Int)} (hA : AllV p n A) (B : List (List Int)) {v : List Int} : Spn p n (partF p n A B) v ↔ ∃ w, Spn p (A ++ B).length (pairsR p n A B) w ∧ totR p n A (w.take A.length) = v := by
  have hp := P.pos
  have tl : ∀ {u : List Int}, Vr p (A ++ B).length u → (u.take A.length).length = A.length := fun hu => by
    rw [List.length_take, hu.1, List.length_append]
    omega
  refine spn_map (f := fun w => totR p n A (w.take A.length)) (fun u v hu hv => ?_) (fun u c hu => ?_) ?_ hp (pairs_vr P A B)
  · show totR p n A ((addR p u v).take A.length) = _
    rw [take_add, tot_add hp hA (tl hu) (tl hv)]
  · show totR p n A ((scR p u c).take A.length) = _
    rw [take_sc, tot_sc hp hA (tl hu)]
  · show totR p n A ((zeroR (A ++ B).length).take A.length) = _
    have h0 := zeroR_vr hp (A ++ B).length
    have e : (zeroR (A ++ B).length).take A.length = scR p ((zeroR (A ++ B).length).take A.length) 0 := by
      rw [← take_sc, la_sc_zero hp h0]
    rw [e, tot_sc hp hA (tl h0), la_sc_zero hp (tot_vr hp hA _)]
theorem part_iff (P : Pr p) {A B : List (List Int)} (hA : AllV p n A) (hB : AllV p n B) (v : List Int) : Spn p n (partF p n A B) v ↔ Spn p n A v ∧ Spn p n B v := by
  have hp := P.pos
  have hAB := hA.app hB
  rw [part_map P hA B]
  constructor
  · rintro ⟨w, hw, rfl⟩
    have h0 := (rel_iff P hAB (hw.vr hp (pairs_vr P A B))).mp hw
    rw [tot_split hp hA hB] at h0
    have h1 := tot_vr hp hA (w.take A.length)
    have h2 := tot_vr hp hB (w.drop A.length)
    refine ⟨tot_spn hp hA _, ?_⟩
    have h3 := scR_vr hp h2.1 (-1)
    have e : totR p n A (w.take A.length) = scR p (totR p n B (w.drop A.length)) (-1) := by
      have e1 : addR p (addR p (totR p n A (w.take A.length)) (totR p n B (w.drop A.length))) (scR p (totR p n B (w.drop A.length)) (-1)) = totR p n A (w.take A.length) := by
        rw [add_assoc' hp h1 h2 h3]
        have e2 : addR p (totR p n B (w.drop A.length)) (scR p (totR p n B (w.drop A.length)) (-1)) = zeroR n := by
          have := la_add_sc hp h2 1 (-1)
          rw [la_sc_one hp h2] at this
          rw [this]
          exact la_sc_zero hp h2
        rw [e2, add_zero' hp h1]
      rw [← e1, h0, zero_add' hp h3]
    rw [e]
    exact Spn.sc hp hB (tot_spn hp hB _) _
  · rintro ⟨h1, h2⟩
    obtain ⟨u, hu, e1⟩ := spn_tot hp hA h1
    obtain ⟨w, hw, e2⟩ := spn_tot hp hB h2
    have hv := h1.vr hp hA
    have hsw := scR_vr hp hw.1 (-1)
    have et : (u ++ scR p w (-1)).take A.length = u := by rw [← hu.1, List.take_left']; rfl
    have ed : (u ++ scR p w (-1)).drop A.length = scR p w (-1) := by rw [← hu.1, List.drop_left']; rfl
    have hvr : Vr p (A ++ B).length (u ++ scR p w (-1)) := ⟨by rw [List.length_append, List.length_append, hu.1, hsw.1], fun x hx => (List.mem_append.mp hx).elim (hu.2 x) (hsw.2 x)⟩
    refine ⟨u ++ scR p w (-1), (rel_iff P hAB hvr).mpr ?_, by rw [et]; exact e1⟩
    rw [tot_split hp hA hB, et, ed, e1, tot_sc hp hB hw.1, e2]
    have := la_add_sc hp hv 1 (-1)
    rw [la_sc_one hp hv] at this
    rw [this]
    exact la_sc_zero hp hv
/-- rows of a table: the multiples are read off at the pivots -/
theorem tot_piv (hp : 0 < p) {A : List (List Int)} {ks : List Nat} (F : Form p n A ks) {u : List Int} (hu : Vr p A.length u) (h : totR p n A u = zeroR n) : u = zeroR A.length := by
  refine ext_at hu (zeroR_vr hp _) fun i hi => ?_
  have hkl : i < ks.length := by rw [← F.len]; exact hi
  have hk : ks[i]? = some ks[i] := List.getElem?_eq_getElem hkl
  have hn := F.lt _ (List.getElem_mem hkl)
  have er : A[i]? = some A[i] := List.getElem?_eq_getElem hi
  have e := tot_at hp F.vr u hn
  rw [h, atR_zero, sumN_one hi (fun j hj hne => ?_), getD_some er, F.one i _ _ er hk, Int.mul_one] at e
  · have hb := hu.at hi
    rw [Int.emod_eq_of_lt hb.1 hb.2] at e
    rw [atR_zero]
    exact e.symm
  · have ej : A[j]? = some A[j] := List.getElem?_eq_getElem hj
    rw [getD_some ej, F.zero j _ i _ ej hk hne, Int.mul_zero, Int.zero_emod]
theorem part_len (P : Pr p) {A B : List (List Int)} {ks ls : List Nat} (F : Form p n A ks) (G : Form p n B ls) : (partR p n A B).length = (pairsR p n A B).length := by
  have hp := P.pos
  have hA : AllV p n A := F.vr
  have hB : AllV p n B := G.vr
  have hW := pairs_vr (n := n) P A B
  have hpf := partF_vr P hA B
  have F1 := red_form P hpf
  obtain ⟨qs, FW⟩ := kerR_form (n := (A ++ B).length) P (colR (A ++ B) n)
  have l1 := lspan_uni P F1.vr (uni_form F1) _ (Nat.le_refl _)
  have l2 := lspan_uni P FW.vr (uni_form FW) _ (Nat.le_refl _)
  rw [List.take_length] at l1 l2
  have inj : ∀ w, Spn p (A ++ B).length (pairsR p n A B) w → totR p n A (w.take A.length) = zeroR n → w = zeroR (A ++ B).length := fun w hw h => by
    have hwv := hw.vr hp hW
    have h0 := (rel_iff P (hA.app hB) hwv).mp hw
    rw [tot_split hp hA hB, h, zero_add' hp (tot_vr hp hB _)] at h0
    have v1 : Vr p A.length (w.take A.length) := ⟨by rw [List.length_take, hwv.1, List.length_append]; omega, fun x hx => hwv.2 x (List.mem_of_mem_take hx)⟩
    have v2 : Vr p B.length (w.drop A.length) := ⟨by rw [List.length_drop, hwv.1, List.length_append]; omega, fun x hx => hwv.2 x (List.mem_of_mem_drop hx)⟩
    have e1 := tot_piv hp F v1 h
    have e2 := tot_piv hp G v2 h0
    rw [← List.take_append_drop A.length w, e1, e2]
    unfold zeroR
    rw [List.length_append, List.replicate_append_replicate]
  have nd : ((lspan p (A ++ B).length (pairsR p n A B)).map fun w => totR p n A (w.take A.length)).Nodup := by
    unfold List.Nodup
    rw [List.pairwise_map]
    refine (List.Pairwise.and_mem.mp (lspan_nodup P hW)).imp fun {x y} h e => ?_
    obtain ⟨hx, hy, hne⟩ := h
    have hx := (lspan_iff P hW x).mp hx
    have hy := (lspan_iff P hW y).mp hy
    have hxv := hx.vr hp hW
    have hyv := hy.vr hp hW
    have tl : ∀ {u : List Int}, Vr p (A ++ B).length u → (u.take A.length).length = A.length := fun hu => by
      rw [List.length_take, hu.1, List.length_append]
      omega
    have hd := Spn.add hp hW hx (Spn.sc hp hW hy (-1))
    have z := inj _ hd (by
      rw [take_add, take_sc, tot_add hp hA (tl hxv) (by rw [(scR_vr hp (tl hyv) (-1)).1]), tot_sc hp hA (tl hyv), e]
      have := la_add_sc hp (tot_vr hp hA (y.take A.length)) 1 (-1)
      rw [la_sc_one hp (tot_vr hp hA _)] at this
      rw [this]
      exact la_sc_zero hp (tot_vr hp hA _))
    refine hne ?_
    have b := add_back hp hxv hyv 1
    rw [z, zero_add' hp (scR_vr hp hyv.1 1), la_sc_one hp hyv] at b
    exact b.symm
  have hpm : (lspan p n (partR p n A B)).Perm ((lspan p (A ++ B).length (pairsR p n A B)).map fun w => totR p n A (w.take A.length)) := by
    show (lspan p n (redT p n (partF p n A B))).Perm _
    rw [List.perm_ext_iff_of_nodup (lspan_nodup P F1.vr) nd]
    intro v
    rw [lspan_iff P F1.vr, ← red_span P hpf, part_map P hA B, List.mem_map]
    constructor
    · rintro ⟨w, hw, e⟩
      exact ⟨w, (lspan_iff P hW w).mpr hw, e⟩
    · rintro ⟨w, hw, e⟩
      exact ⟨w, (lspan_iff P hW w).mp hw, e⟩
  have hl := hpm.length_eq
  rw [List.length_map] at hl
  have l1' : (lspan p n (partR p n A B)).length = p.toNat ^ (partR p n A B).length := l1
  have l2' : (lspan p (A ++ B).length (pairsR p n A B)).length = p.toNat ^ (pairsR p n A B).length := l2
  rw [l1', l2'] at hl
  exact Nat.le_antisymm (pow_len P (Nat.le_of_eq hl)) (pow_len P (Nat.le_of_eq hl.symm))
theorem dims (P : Pr p) {A B : List (List Int)} {ks ls : List Nat} (F : Form p n A ks) (G : Form p n B ls) : (redT p n (A ++ B)).length + (partR p n A B).length = A.length + B.length := by
  have hAB : AllV p n (A ++ B) := AllV.app F.vr G.vr
  have h := rel_len P hAB
  have e : (kerR p (A ++ B).length (colR (A ++ B) n)).length = (pairsR p n A B).length := rfl
  rw [part_len P F G]
  rw [e, List.length_append] at h
  omega
theorem spn_swap (hp : 0 < p) {A B : List (List Int)} (hA : AllV p n A) (hB : AllV p n B) (v : List Int) : Spn p n (B ++ A) v ↔ Spn p n (A ++ B) v := by
  have h1 := hA.app hB
  have h2 := hB.app hA
  exact ⟨Spn.sub hp h2 h1 (fun r hr => Spn.mem hp h1 (List.mem_append.mpr (List.mem_append.mp hr).symm)) v, Spn.sub hp h1 h2 (fun r hr => Spn.mem hp h2 (List.mem_append.mpr (List.mem_append.mp hr).symm)) v⟩
theorem sum_swap (P : Pr p) {A B : List (List Int)} (hA : AllV p n A) (hB : AllV p n B) : redT p n (B ++ A) = redT p n (A ++ B) := (red_idem P (hA.app hB) (hB.app hA) (spn_swap P.pos hA hB)).1
theorem part_swap (P : Pr p) {A B : List (List Int)} (hA : AllV p n A) (hB : AllV p n B) : partR p n B A = partR p n A B :=
  (red_idem P (partF_vr P hA B) (partF_vr P hB A) fun v => by rw [part_iff P hB hA, part_iff P hA hB]; exact And.comm).1
theorem spn_red2 (P : Pr p) {A B : List (List Int)} (hA : AllV p n A) (hB : AllV p n B) (v : List Int) : Spn p n (redT p n A ++ redT p n B) v ↔ Spn p n (A ++ B) v := by
  have F := red_form P hA
  have G := red_form P hB
  have hp := P.pos
  have h1 := hA.app hB
  have h2 : AllV p n (redT p n A ++ redT p n B) := AllV.app F.vr G.vr
  have up : ∀ {R S : List (List Int)}, AllV p n R → AllV p n S → (∀ r ∈ R, r ∈ S) → ∀ v, Spn p n R v → Spn p n S v := fun hR hS k => Spn.sub hp hR hS fun r hr => Spn.mem hp hS (k r hr)
  constructor
  · refine Spn.sub hp h2 h1 (fun r hr => ?_) v
    rcases List.mem_append.mp hr with hr | hr
    · exact up hA h1 (fun r hr => List.mem_append_left _ hr) r ((red_span P hA r).mpr (Spn.mem hp F.vr hr))
    · exact up hB h1 (fun r hr => List.mem_append_right _ hr) r ((red_span P hB r).mpr (Spn.mem hp G.vr hr))
  · refine Spn.sub hp h1 h2 (fun r hr => ?_) v
    rcases List.mem_append.mp hr with hr | hr
    · exact up F.vr h2 (fun r hr => List.mem_append_left _ hr) r ((red_span P hA r).mp (Spn.mem hp hA hr))
    · exact up G.vr h2 (fun r hr => List.mem_append_right _ hr) r ((red_span P hB r).mp (Spn.mem hp hB hr))
/-- the rows of both spaces, found among those of the first one -/
theorem meet_rows (P : Pr p) {A B S : List (List Int)} (hA : AllV p n A) (hB : AllV p n B) (hS : AllV p n S) (h : ∀ v, Spn p n S v ↔ Spn p n A v ∧ Spn p n B v) : (lspanS p n A).filter (fun v => decide (v ∈ lspanS p n B)) = lspanS p n S := by
  have key : ∀ {R : List (List Int)}, AllV p n R → ∀ v, v ∈ lspanS p n R ↔ Spn p n R v := fun hR v => by
    unfold lspanS
    rw [List.mem_mergeSort, lspan_iff P hR]
  rw [lspanS_filter P hA (fun v => decide (v ∈ lspanS p n A)) fun v _ => by rw [decide_eq_true_iff, key hA],
    lspanS_filter P hS (fun v => decide (v ∈ lspanS p n A) && decide (v ∈ lspanS p n B)) fun v _ => by rw [Bool.and_eq_true, decide_eq_true_iff, decide_eq_true_iff, key hA, key hB, h v], List.filter_filter]
  congr 1
  funext v
  exact Bool.and_comm _ _
end
/-! ### lists and tuples of ints -/
def Sq (K : PySem.W.Frag) (H : Hp) (a : Addr) (us : List V) : Prop := SqL K H a us ∨ SqT K H a us
theorem Sq.mono {H H' : Hp} {a : Addr} {us : List V} (e : Same H H') (h : Sq K H a us) : Sq K H' a us := by
  obtain ⟨b, hB⟩ := Own.sqb_of h
  have := Own.same_sqb e hB
  cases b with
  | true => exact .inl this
  | false => exact .inr this
theorem rix {H : Hp} {a : Addr} {us : List V} {i : Int} {v : V} {Q : VK} (h : Sq K H a us) (hi : atI us i = some v) (q : Q v H) : rIx K (.ref a) (.int i) H Q := by
  rcases h with h | h
  · exact .inl ⟨a, us, i, v, rfl, rfl, h, hi, q⟩
  · exact .inr (.inl ⟨a, us, i, v, rfl, rfl, h, hi, q⟩)
/-- ints in a list or a tuple -/
def RQ (K : PySem.W.Frag) (H : Hp) (v : V) (r : List Int) : Prop := ∃ t, v = .ref t ∧ Sq K H t (r.map V.int)
theorem RQ.mono {H H' : Hp} {v : V} {r : List Int} (e : Same H H') (h : RQ K H v r) : RQ K H' v r := by
  obtain ⟨t, h1, h2⟩ := h
  exact ⟨t, h1, h2.mono e⟩
theorem rq_of {H : Hp} {v : V} {r : List Int} (h : RS K H v r) : RQ K H v r := by
  obtain ⟨t, h1, h2⟩ := h
  exact ⟨t, h1, .inr h2⟩
theorem rq_rr {H : Hp} {v : V} {r : List Int} (h : RR H v r) : RQ K H v r := rq_of (rs_of h)
/-! ### _law_in_form, _law_shows -/
def spForm : Sp := fun vs H Q _ => ∃ (a : Addr) (us : List V) (n : Nat) (p : Int) (tb : List (List Int)) (pv_ : List Nat), vs = [.ref a, .int (n : Int)] ∧ H a = some (.tup us) ∧ Paired (RR H) us tb ∧ Form p n tb pv_ ∧ n ≤ 1000 ∧ tb.length ≤ 1000 ∧ ∀ H', Same H H' → Q (.bl true) H'
theorem ok_form (T : Txt K mg) : FnOk P w K mg base CX0 1 T.a__law_in_form T.d__law_in_form ["told", "n"] spForm := by
  refine T.F__law_in_form.ok sc__law_in_form (fun vs H Q E h => ?_) (fun cdv A outer s H vs Q E hr h => ?_)
  · obtain ⟨a, us, n, p, tb, pv_, rfl, _⟩ := h
    rfl
  · obtain ⟨a, us, n, p, tb, pv_, rfl, ea, hP, F, hn, hl, q⟩ := h
    have hul : us.length = tb.length := Paired.length hP
    refine ⟨_, (pss_cons (ps_set (i := 2) sc__law_in_form.nd rfl (.inl rfl) (pe_un un_neg pe_int)) 
    (pss_cons (ps_if (pt_not (pt_val (pe_callB call_isi (by rfl) T.n_isinstance (by decide +kernel) (pa_cons (pv 0) (pa_cons (pe_bltn (v := .ty "tuple") (by rfl) T.n_tuple (by decide +kernel) rfl) pa_nil))))) 
      (pss_one (ps_ret pe_bl)) pss_nil) 
    (pss_cons (ps_for PassesOwn.never rfl (pi_range1 (by rfl) T.n_range (pa_cons (pe_callB call_len_seq (by rfl) T.n_len (by decide +kernel) (pa_cons (pv 0) pa_nil)) pa_nil)) (pg_name (i := 3) sc__law_in_form.nd rfl (.inr rfl)) 
      (pss_cons (ps_if (PW.pt (pw_or (pt_not (pt_val (pe_callB call_isi (by rfl) T.n_isinstance (by decide +kernel) (pa_cons (pe_ix (show IxR _ (rIxT K) from ix_tup) (pv 0) (pv 3) (fun _ _ => rfl)) (pa_cons (pe_bltn (v := .ty "tuple") (by rfl) T.n_tuple (by decide +kernel) rfl) pa_nil))))) (pw_or1 (pt_cmpR op_ne (pe_callB call_len_seq (by rfl) T.n_len (by decide +kernel) (pa_cons (pe_ix (show IxR _ (rIxT K) from ix_tup) (pv 0) (pv 3) (fun _ _ => rfl)) pa_nil)) (pv 1) (nomark _))))) 
        (pss_one (ps_ret pe_bl)) pss_nil) 
      (pss_cons (ps_setLc (i := 4) (own := [("j", 6)]) rfl sc__law_in_form.nd rfl rfl (sw_true rfl rfl rfl (by decide +kernel)) (pi_range1 (by rfl) T.n_range (pa_cons (pv 1) pa_nil)) (blkOk_by (N := N__law_in_form) (sc := defScope s__law_in_form) (own := [("j", 6)]) (by decide +kernel)) (fun _ _ _ _ _ => (pg_name (i := 6) sc__law_in_form.nd rfl (.inl rfl))) (fun _ _ _ _ _ => (pts_one (pt_cmpR op_ne (pe_ix (show IxR _ (rIxT K) from ix_tup) (pe_ix (show IxR _ (rIxT K) from ix_tup) (pv 0) (pv 3) (fun _ _ => rfl)) (pv 6) (fun _ _ => rfl)) pe_int (nomark _)))) (fun _ _ _ _ _ => (pv 6))) 
      (pss_cons (ps_if (PW.pt (pw_or (pt_cmpR op_eq (pe_callB call_len_seq (by rfl) T.n_len (by decide +kernel) (pa_cons (pv 4) pa_nil)) pe_int (nomark _)) (pw_or (pt_cmpR op_le (pe_ix ix_list (pv 4) pe_int (fun _ _ => rfl)) (pv 2) (nomark _)) (pw_or1 (pt_cmpR op_ne (pe_ix (show IxR _ (rIxT K) from ix_tup) (pe_ix (show IxR _ (rIxT K) from ix_tup) (pv 0) (pv 3) (fun _ _ => rfl)) (pe_ix ix_list (pv 4) pe_int (fun _ _ => rfl)) (fun _ _ => rfl)) pe_int (nomark _)))))) 
        (pss_one (ps_ret pe_bl)) pss_nil) 
      (pss_cons (ps_set (i := 2) sc__law_in_form.nd rfl (.inl rfl) (pe_ix ix_list (pv 4) pe_int (fun _ _ => rfl))) 
      (pss_one (ps_for PassesOwn.never rfl (pi_range1 (by rfl) T.n_range (pa_cons (pe_callB call_len_seq (by rfl) T.n_len (by decide +kernel) (pa_cons (pv 0) pa_nil)) pa_nil)) (pg_name (i := 5) sc__law_in_form.nd rfl (.inl rfl)) 
        (pss_one (ps_if (PW.pt (pw_and (pt_cmpR op_ne (pv 5) (pv 3) (nomark _)) (pw_and1 (pt_cmpR op_ne (pe_ix (show IxR _ (rIxT K) from ix_tup) (pe_ix (show IxR _ (rIxT K) from ix_tup) (pv 0) (pv 5) (fun _ _ => rfl)) (pv 2) (fun _ _ => rfl)) pe_int (nomark _))))) 
          (pss_one (ps_ret pe_bl)) pss_nil))))))))) 
    (pss_one (ps_ret pe_bl))))), ?_⟩
    refine ⟨1, rfl, ?_⟩
    refine ⟨_, rfl, _, _, _, _, true, rfl, .ty "tuple", .base (.tup ea), kit_ty (by decide +kernel), true, rfl, iteF ?_⟩
    refine ⟨_, rfl, a, us, rfl, .inr (.inl (.inl ea)), _, rfl, by omega, by omega, ?_⟩
    have e0 : ((us.length : Int)).toNat = us.length := rfl
    rw [e0]
    refine for_range (lo := 0) (n := us.length) (fun i σ H' => ∃ (L : Int) (y3 y4 y5 : Option V), σ = [some (.ref a), some (.int (n : Int)), some (.int L), y3, y4, y5, none] ∧ Same H H' ∧ ∀ k, pv_[i]? = some k → L < (k : Int))
      ⟨-1, none, none, none, rfl, Same.refl H, fun k _ => by omega⟩ (fun i σ H' hi hPv => ?_) (fun σ H' hPv => ?_)
    · obtain ⟨L, y3, y4, y5, rfl, sm, hL⟩ := hPv
      have ei : ((0 : Int) + (i : Int)) = (i : Int) := by omega
      obtain ⟨r, er⟩ : ∃ r, tb[i]? = some r := ⟨tb[i], List.getElem?_eq_getElem (by omega)⟩
      obtain ⟨k, ek⟩ : ∃ k, pv_[i]? = some k := ⟨pv_[i]'(by rw [← F.len]; omega), List.getElem?_eq_getElem (by rw [← F.len]; omega)⟩
      obtain ⟨u, eu, hRu⟩ := paired_get2 hP er
      obtain ⟨t, rfl, ht⟩ := hRu
      have hvr := F.vr r (List.mem_of_getElem? er)
      have hk := F.lt k (List.mem_of_getElem? ek)
      have h1 := F.one i r k er ek
      have hat : atI us ((0 : Int) + (i : Int)) = some (.ref t) := by rw [ei]; exact atI_nat eu
      have ea' := sm _ _ ea
      obtain ⟨ob, hob, eob⟩ := id (ht.mono sm)
      -- told[i] is a tuple of n
      refine ⟨_, rfl, _, rfl, a, us, _, _, rfl, rfl, .inl (.inl ea'), hat, ?_⟩
      refine ⟨_, _, _, _, true, rfl, .ty "tuple", .fTuple eob, kit_ty (by decide +kernel), true, rfl, iteF ?_⟩
      refine ⟨_, rfl, _, rfl, a, us, _, _, rfl, rfl, .inl (.inl ea'), hat, t, _, rfl, .inr (ht.mono sm).sq, _, rfl, rfl, _, rfl, iteB (not_dec (by rw [List.length_map, hvr.1])) ?_⟩
      -- heads
      refine ⟨_, rfl, (n : Int), rfl, by omega, by omega, fun D nD => ?_⟩
      refine lc_it (walk_range (lo := 0) (n := n)) (fun j H2 => Same H' H2 ∧ H2 D = some (.lst (natV (headsR r j)))) ⟨same_new nD, upd_same⟩ (fun _ _ _ _ => trivial) (fun j x H2 H3 hj hPj hY => ?_) (fun H2 hPj => ?_)
      · obtain ⟨sm2, eD⟩ := hPj
        obtain ⟨rfl, rfl⟩ := hY
        have ej : ((0 : Int) + (j : Int)) = (j : Int) := by omega
        have sm3 := sm.trans sm2
        refine ⟨rfl, ?_⟩
        refine ⟨_, rfl, _, rfl, a, us, _, _, rfl, rfl, .inl (.inl (sm3 _ _ ea)), hat, _, rfl, t, _, _, _, rfl, rfl, (ht.mono sm3).sq, by rw [ej]; exact atV (by rw [hvr.1]; exact hj), rfl, _, rfl, ?_⟩
        by_cases hz : atR r j = 0
        · refine iteB (not_dec (congrArg V.int hz)) ⟨sm2, ?_⟩
          rw [headsR_more, if_neg (by rw [hz]; exact fun z => z rfl), List.append_nil]
          exact eD
        · refine iteA (bl_ne hz) ⟨_, rfl, natV (headsR r j), eD, small1000 (by unfold natV; rw [List.length_map]; have := headsR_len r j; omega), same_mut sm2 nD, ?_⟩
          rw [upd_same, headsR_more, if_pos hz, natV_add]
          show some (HO.lst (natV (headsR r j) ++ [V.int ((0 : Int) + (j : Int))])) = _
          rw [ej]
      obtain ⟨sm2, eD⟩ := hPj
      obtain ⟨rest, eh⟩ := headsR_lead (F.lead i r k er ek) (by rw [h1]; decide) n hk
      rw [eh] at eD
      have sm3 := sm.trans sm2
      have hLk := hL k ek
      have hD0 : atI (natV (k :: rest)) 0 = some (.int (k : Int)) := atI_nat (j := 0) rfl
      have hrk : atI (r.map V.int) (k : Int) = some (.int (atR r k)) := atV (by rw [hvr.1]; exact hk)
      refine ⟨_, rfl, D, _, rfl, .inl (.inl (.inl eD)), rfl, _, rfl, iteB (decide_eq_false (fun z => by
        have := V.int.inj z
        simp [natV] at this
        omega)) ?_⟩
      refine ⟨_, rfl, D, _, _, _, rfl, rfl, .inl (.inl eD), hD0, _, rfl, _, _, rfl, rfl, _, rfl, iteB (decide_eq_false (by omega)) ?_⟩
      refine ⟨_, rfl, _, rfl, a, us, _, _, rfl, rfl, .inl (.inl (sm3 _ _ ea)), hat, _, rfl, D, _, _, _, rfl, rfl, .inl (.inl eD), hD0, t, _, _, _, rfl, rfl, (ht.mono sm3).sq, hrk, rfl, _, rfl, iteB (not_dec (congrArg V.int h1)) ?_⟩
      -- last
      refine ⟨_, rfl, D, _, _, _, rfl, rfl, .inl (.inl eD), hD0, ?_⟩
      refine ⟨_, rfl, a, us, rfl, .inr (.inl (.inl (sm3 _ _ ea))), _, rfl, by omega, by omega, ?_⟩
      rw [e0]
      refine for_range (lo := 0) (n := us.length) (fun j σ H3 => ∃ (y5 : Option V), σ = [some (.ref a), some (.int (n : Int)), some (.int (k : Int)), some (.int ((0 : Int) + (i : Int))), some (.ref D), y5, none] ∧ H3 = H2)
        ⟨y5, rfl, rfl⟩ (fun j σ H3 hj hPj => ?_) (fun σ H3 hPj => ?_)
      · obtain ⟨y5, rfl, rfl⟩ := hPj
        have ej : ((0 : Int) + (j : Int)) = (j : Int) := by omega
        refine ⟨_, rfl, _, rfl, rfl, _, rfl, ?_⟩
        by_cases hji : j = i
        · subst hji
          exact iteB (not_dec rfl) ⟨_, rfl, rfl⟩
        · refine iteA (bl_ne (by omega)) ?_
          obtain ⟨r2, er2⟩ : ∃ r, tb[j]? = some r := ⟨tb[j], List.getElem?_eq_getElem (by omega)⟩
          obtain ⟨u2, eu2, hRu2⟩ := paired_get2 hP er2
          obtain ⟨t2, rfl, ht2⟩ := hRu2
          have hvr2 := F.vr r2 (List.mem_of_getElem? er2)
          have hat2 : atI us ((0 : Int) + (j : Int)) = some (.ref t2) := by rw [ej]; exact atI_nat eu2
          have hz2 := F.zero j r2 i k er2 ek hji
          refine ⟨_, rfl, _, rfl, a, us, _, _, rfl, rfl, .inl (.inl (sm3 _ _ ea)), hat2, _, rfl, t2, _, _, _, rfl, rfl, (ht2.mono sm3).sq, atV (by rw [hvr2.1]; exact hk), rfl, _, rfl, iteB (not_dec (congrArg V.int hz2)) ⟨_, rfl, rfl⟩⟩
      · obtain ⟨y5, rfl, rfl⟩ := hPj
        refine ⟨(k : Int), _, _, _, rfl, sm3, fun k2 ek2 => ?_⟩
        have hp := List.pairwise_iff_getElem.mp F.inc
        obtain ⟨h1', e1'⟩ := List.getElem?_eq_some_iff.mp ek
        obtain ⟨h2', e2'⟩ := List.getElem?_eq_some_iff.mp ek2
        have := hp i (i + 1) h1' h2' (Nat.lt_succ_self i)
        rw [e1', e2'] at this
        omega
    · obtain ⟨L, y3, y4, y5, rfl, sm, _⟩ := hPv
      exact q _ sm
def spShows (K : PySem.W.Frag) : Sp := fun vs H Q _ => ∃ (a b : Addr) (us ws : List V) (n : Nat) (p : Int) (tb : List (List Int)) (pv_ : List Nat) (L : List (List Int)), vs = [.ref a, .ref b, .int (n : Int), .int p] ∧ H a = some (.tup us) ∧ Paired (RR H) us tb ∧ Form p n tb pv_ ∧ n ≤ 1000 ∧ tb.length ≤ 1000 ∧
  2 ≤ p ∧ p ≤ 31 ∧ p.toNat ^ tb.length ≤ 2000 ∧ H b = some (.lst ws) ∧ Paired (RS K H) ws L ∧ lspanS p n tb = L ∧ ∀ H', Same H H' → Q (.bl true) H'
theorem ok_shows (T : Txt K mg) : FnOk P w K mg base CX0 3 T.a__law_shows T.d__law_shows ["told", "words", "n", "p"] (spShows K) := by
  have G__law_in_form : FnOk P w K mg base CX0 1 T.a__law_in_form T.d__law_in_form ["told", "n"] spForm := ok_form T
  have G__law_span : FnOk P w K mg base CX0 2 T.a__law_span T.d__law_span ["rows", "n", "p"] (spLSpan K) := ok_lspan T
  refine T.F__law_shows.ok sc__law_shows (fun vs H Q E h => ?_) (fun cdv A outer s H vs Q E hr h => ?_)
  · obtain ⟨a, b, us, ws, n, p, tb, pv_, L, rfl, _⟩ := h
    rfl
  · obtain ⟨a, b, us, ws, n, p, tb, pv_, L, rfl, ea, hP, F, hn, hl, h2, h31, hpow, eb, hL, hS, q⟩ := h
    refine ⟨_, (pss_one (ps_ret (pe_and (pe_call G__law_in_form (hr.mono (by decide)) (by rfl) T.g__law_in_form T.F__law_in_form.kp T.b__law_in_form .nil pass0 (pa_cons (pv 0) (pa_cons (pv 2) pa_nil))) (pe_one (pe_cmpR (op_eqD hr.units) (pe_call G__law_span (hr.mono (by decide)) (by rfl) T.g__law_span T.F__law_span.kp T.b__law_span .nil pass0 (pa_cons (pv 0) (pa_cons (pv 2) (pa_cons (pv 3) pa_nil)))) (pv 1) (nomark _)))))), ?_⟩
    refine ⟨_, rfl, _, rfl, a, us, n, p, tb, pv_, rfl, ea, hP, F, hn, hl, fun H1 sm1 => ⟨true, rfl, iteT ?_⟩⟩
    refine ⟨_, rfl, _, rfl, _, rfl, a, n, p, tb, rfl, ⟨us, .inr (.inl (.inl (sm1 _ _ ea))), st_RR.all sm1 hP⟩, h2, h31, hn, hpow, F.vr, fun l ls H2 sm2 _ el hls => ?_⟩
    have smA := sm1.trans sm2
    refine ⟨_, rfl, dRows (lspanS p n tb), dRows L, dp_rowsL (.inl (.inl el)) hls, dp_rowsS (.inl (.inl (smA _ _ eb))) (st_RS.all smA hL), shaped_dRows _, shaped_dRows _, ?_⟩
    rw [eqv_dRows, decide_eq_true hS]
    exact q _ smA
/-! ### _law_dot -/
def spLDot (K : PySem.W.Frag) : Sp := fun vs H Q _ => ∃ (a b : V) (p : Int) (v w : List Int), vs = [.int p, a, b] ∧ RQ K H a v ∧ RQ K H b w ∧ 0 < p ∧ v.length ≤ 1000 ∧ v.length = w.length ∧ Sm v ∧ Sm w ∧ ∀ H', Same H H' → Q (.int (dotN v.length v w % p)) H'
theorem ok_ldot (T : Txt K mg) : FnOk P w K mg base CX0 1 T.a__law_dot T.d__law_dot ["p", "v", "w"] (spLDot K) := by
  refine T.F__law_dot.ok sc__law_dot (fun vs H Q E h => ?_) (fun cdv A outer s H vs Q E hr h => ?_)
  · obtain ⟨a, b, p, v, w, rfl, _⟩ := h
    rfl
  · obtain ⟨_, _, p, v, w, rfl, ⟨a, rfl, ea⟩, ⟨b, rfl, eb⟩, hp, hl, hvw, hsv, hsw, q⟩ := h
    refine ⟨_, (pss_one (ps_ret (pe_op op_modE (pe_callTy call_int1 (by rfl) T.n_int (by decide +kernel) (pa_cons (pe_callB (cr_sum rfl) (by rfl) T.n_sum (by decide +kernel) (pa_cons (pe_lc (own := [("k", 3)]) rfl sc__law_dot.nd (pi_range1 (by rfl) T.n_range (pa_cons (pe_callB call_len_seq (by rfl) T.n_len (by decide +kernel) (pa_cons (pv 1) pa_nil)) pa_nil)) (blkOk_by (N := N__law_dot) (sc := defScope s__law_dot) (own := [("k", 3)]) (by decide +kernel)) (fun _ _ _ _ _ => (pg_name (i := 3) sc__law_dot.nd rfl (.inl rfl))) (fun _ _ _ _ _ => pts_nil) (fun _ _ _ _ _ => (pe_op op_mulW (pe_ix (show IxR _ (rIx K) from ix_seq) (pv 1) (pv 3) (fun _ _ => rfl)) (pe_ix (show IxR _ (rIx K) from ix_seq) (pv 2) (pv 3) (fun _ _ => rfl))))) pa_nil)) pa_nil)) (pv 0)))), ?_⟩
    have hlen : ((v.map V.int).length : Int).toNat = v.length := by rw [List.length_map]; rfl
    refine ⟨_, rfl, a, _, rfl, ea, _, rfl, by rw [List.length_map]; omega, by rw [List.length_map]; omega, fun D nD => ?_⟩
    rw [hlen]
    refine lc_rep (walk_range (lo := 0) (n := v.length)) st_RI (fun i => atR v i * atR w i) (by omega) nD (fun H2 sm => trivial) (fun i x H2 H3 Q2 hi sm hY q2 => ?_) (fun H2 acc sm eD hP => ?_)
    · obtain ⟨rfl, rfl⟩ := hY
      have e0 : ((0 : Int) + (i : Int)) = (i : Int) := by omega
      refine ⟨rfl, _, rfl, _, rfl, rix (ea.mono sm) (by rw [e0]; exact atV hi) ⟨_, rfl, _, rfl, rix (eb.mono sm) (by rw [e0]; exact atV (by omega)) ⟨_, _, rfl, rfl, wide_mul (hsv _ (atR_mem hi)) (hsw _ (atR_mem (by omega))) (by decide) (by decide) (by decide), q2 _ _ (Same.refl _) rfl⟩⟩⟩
    · have e := ints_of hP
      subst e
      refine ⟨D, _, rfl, .inl (.inl eD), .inl ⟨_, rfl, _, rfl, _, _, rfl, rfl, hp, ?_⟩⟩
      rw [sumN_range]
      exact q _ sm
/-! ### _law_total -/
def spLTotal (K : PySem.W.Frag) : Sp := fun vs H Q _ => ∃ (a : Addr) (b : V) (n : Nat) (p : Int) (rs : List (List Int)) (w : List Int), vs = [.int p, .ref a, b, .int (n : Int)] ∧ Rws K H a rs ∧ RQ K H b w ∧ 0 < p ∧ p ≤ 31 ∧ n ≤ 1000 ∧ rs.length ≤ 1000 ∧ w.length = rs.length ∧ (∀ r ∈ rs, Vr p n r) ∧ Sm w ∧ RetR H Q (totR p n rs w)
theorem ok_ltotal (T : Txt K mg) : FnOk P w K mg base CX0 2 T.a__law_total T.d__law_total ["p", "rows", "weights", "n"] (spLTotal K) := by
  have G__law_zero : FnOk P w K mg base CX0 1 T.a__law_zero T.d__law_zero ["n"] spLZero := ok_lzero T
  have G__law_sum : FnOk P w K mg base CX0 1 T.a__law_sum T.d__law_sum ["v", "w", "p"] spLSum := ok_lsum T
  have G__law_scaled : FnOk P w K mg base CX0 1 T.a__law_scaled T.d__law_scaled ["v", "a", "p"] spLScaled := ok_lscaled T
  refine T.F__law_total.ok sc__law_total (fun vs H Q E h => ?_) (fun cdv A outer s H vs Q E hr h => ?_)
  · obtain ⟨a, b, n, p, rs, w, rfl, _⟩ := h
    rfl
  · obtain ⟨a, b0, n, p, rs, w, rfl, ⟨us, hS, hP⟩, ⟨b, rfl, eb⟩, hp, h31, hn, hl, hwl, hv, hsw, q⟩ := h
    have hS : Sq K H a us := hS
    have hul := Paired.length hP
    refine ⟨_, (pss_cons (ps_set (i := 4) sc__law_total.nd rfl (.inl rfl) (pe_call G__law_zero (hr.mono (by decide)) (by rfl) T.g__law_zero T.F__law_zero.kp T.b__law_zero .nil pass0 (pa_cons (pv 3) pa_nil))) 
    (pss_cons (ps_for PassesOwn.never rfl (pi_range1 (by rfl) T.n_range (pa_cons (pe_callB call_len_seq (by rfl) T.n_len (by decide +kernel) (pa_cons (pv 1) pa_nil)) pa_nil)) (pg_name (i := 5) sc__law_total.nd rfl (.inl rfl)) 
      (pss_one (ps_set (i := 4) sc__law_total.nd rfl (.inl rfl) (pe_call G__law_sum (hr.mono (by decide)) (by rfl) T.g__law_sum T.F__law_sum.kp T.b__law_sum .nil pass0 (pa_cons (pv 4) (pa_cons (pe_call G__law_scaled (hr.mono (by decide)) (by rfl) T.g__law_scaled T.F__law_scaled.kp T.b__law_scaled .nil pass0 (pa_cons (pe_ix ix_seq (pv 1) (pv 5) (fun _ _ => rfl)) (pa_cons (pe_ix ix_seq (pv 2) (pv 5) (fun _ _ => rfl)) (pa_cons (pv 0) pa_nil)))) (pa_cons (pv 0) pa_nil))))))) 
    (pss_one (ps_ret (pv 4))))), ?_⟩
    refine ⟨_, rfl, n, rfl, hn, fun z H1 sm1 hz => ?_⟩
    have e0 : ((us.length : Int)).toNat = rs.length := by omega
    refine ⟨_, rfl, a, us, rfl, hS.mono sm1, _, rfl, by omega, by omega, ?_⟩
    rw [e0]
    refine for_range (lo := 0) (n := rs.length) (fun i σ H' => ∃ (t : V) (y : Option V), σ = [some (.int p), some (.ref a), some (.ref b), some (.int (n : Int)), some t, y] ∧ Same H H' ∧ RR H' t (totI p n rs w i))
      ⟨z, none, rfl, sm1, hz⟩ (fun i σ H' hi hPv => ?_) (fun σ H' hPv => ?_)
    · obtain ⟨t, y, rfl, sm, hR⟩ := hPv
      have ei : ((0 : Int) + (i : Int)) = (i : Int) := by omega
      obtain ⟨r, er⟩ : ∃ r, rs[i]? = some r := ⟨rs[i], List.getElem?_eq_getElem hi⟩
      obtain ⟨u, eu, hRu⟩ := paired_get2 hP er
      have hvr := hv r (List.mem_of_getElem? er)
      have htv := totI_vr hp hv w i (by omega)
      refine ⟨_, rfl, _, rfl, _, rfl, rix (hS.mono sm) (by rw [ei]; exact atI_nat eu) ⟨_, rfl, _, rfl, rix (eb.mono sm) (by rw [ei]; exact atV (by omega)) ⟨_, rfl, u, _, p, r, rfl, st_RR.same sm hRu, hp, by rw [hvr.1]; exact hn, hsw _ (atR_mem (by omega)), hvr.sm h31, fun sv H2 sm2 hRs => ?_⟩⟩⟩
      have hsl := (scR_vr hp hvr.1 (atR w i)).1
      refine ⟨_, rfl, t, sv, p, _, _, rfl, st_RR.same sm2 hR, hRs, hp, by rw [htv.1]; exact hn, by rw [htv.1, hsl], fun tv H3 sm3 hRt => ?_⟩
      refine ⟨tv, _, rfl, sm.trans (sm2.trans sm3), ?_⟩
      rw [totI, getD_some er]
      exact hRt
    · obtain ⟨t, y, rfl, sm, hR⟩ := hPv
      exact ⟨_, rfl, q _ _ sm hR⟩
/-! ### _unit -/
def rTupF (K : PySem.W.Frag) : List V → Hp → VK → Prop := fun xs H Q => ∃ p ys, xs = [.ref p] ∧ SqL K H p ys ∧ ∀ (l : Addr) (ob : Obj), H l = none → ob.dict = none → Q (.ref l) (upd H l (.frz ob (.tup ys)))
theorem call_tupF {X : Cx} : CallR X (.type "tuple") (rTupF X.K) := Own.call_tuple_ofF
def spUnit : Sp := fun vs H Q _ => ∃ (n a : Nat), vs = [.int (n : Int), .int (a : Int)] ∧ n ≤ 1000 ∧ RetR H Q (unitR n a)
theorem ok_unit (T : Txt K mg) : FnOk P w K mg base CX0 1 T.a__unit T.d__unit ["n", "at"] spUnit := by
  refine T.F__unit.ok sc__unit (fun vs H Q E h => ?_) (fun cdv A outer s H vs Q E hr h => ?_)
  · obtain ⟨n, a, rfl, _⟩ := h
    rfl
  · obtain ⟨n, a, rfl, hn, q⟩ := h
    refine ⟨_, (pss_one (ps_ret (pe_callTy Own.call_tuple_ofF (by rfl) T.n_tuple (by decide +kernel) (pa_cons (pe_lc (own := [("place", 2)]) rfl sc__unit.nd (pi_range1 (by rfl) T.n_range (pa_cons (pv 0) pa_nil)) (blkOk_by (N := N__unit) (sc := defScope s__unit) (own := [("place", 2)]) (by decide +kernel)) (fun _ _ _ _ _ => (pg_name (i := 2) sc__unit.nd rfl (.inl rfl))) (fun _ _ _ _ _ => pts_nil) (fun _ _ _ _ _ => (pe_ifExp (pt_cmpR op_eq (pv 2) (pv 1) (nomark _)) pe_int pe_int))) pa_nil)))), ?_⟩
    refine ⟨_, rfl, (n : Int), rfl, by omega, by omega, fun D nD => ?_⟩
    refine lc_rep (walk_range (lo := 0) (n := n)) st_RI (fun k => if k = a then 1 else 0) (by omega) nD (fun H2 sm => trivial) (fun i x H2 H3 Q2 hi sm hY q2 => ?_) (fun H2 acc sm eD hP => ?_)
    · obtain ⟨rfl, rfl⟩ := hY
      refine ⟨rfl, _, rfl, _, rfl, rfl, _, rfl, ite2 (fun c => ?_) (fun c => ?_)⟩
      · have c1 : (0 : Int) + (i : Int) = (a : Int) := V.int.inj (of_decide_eq_true c)
        exact q2 _ _ (Same.refl _) (by show V.int 1 = V.int (if i = a then 1 else 0); rw [if_pos (by omega)])
      · have c1 : ¬ i = a := fun z => c (decide_eq_true (congrArg V.int (by omega)))
        exact q2 _ _ (Same.refl _) (by show V.int 0 = V.int (if i = a then 1 else 0); rw [if_neg c1])
    · have e := ints_of hP
      subst e
      exact ⟨D, _, rfl, .inl (.inl eD), fun u ob nu hob => q _ _ (sm.trans (same_new nu)) ⟨u, rfl, ob, hob, upd_same⟩⟩
/-! ### kernel, _columns, relations -/
theorem inV_nat (ks : List Nat) (f : Nat) : inV (.int (f : Int)) (natV ks) = decide (f ∈ ks) := by
  unfold inV natV
  rw [List.any_map]
  induction ks with
  | nil => rfl
  | cons k ks ih =>
    rw [List.any_cons, ih]
    have e : ((fun y => eqV y (V.int (f : Int))) ∘ fun k : Nat => V.int (k : Int)) k = decide (f = k) := by
      show ((k : Int) == (f : Int)) = decide (f = k)
      by_cases h : f = k
      · rw [decide_eq_true h]
        exact beq_iff_eq.mpr (by omega)
      · rw [decide_eq_false h]
        exact beq_eq_false_iff_ne.mpr (by omega)
    rw [e]
    by_cases h : f = k
    · simp [h]
    · simp [h]
theorem flat_natV (ks : List Nat) : (natV ks).all flatV = true := by
  unfold natV
  rw [List.all_map]
  exact List.all_eq_true.mpr fun _ _ => rfl
theorem free_more (i : Nat) (ks : List Nat) : freeL (i + 1) ks = freeL i ks ++ (if i ∉ ks then [i] else []) := by
  unfold freeL
  rw [List.range_succ, List.filter_append]
  congr 1
  by_cases h : i ∉ ks
  · rw [if_pos h, List.filter_cons_of_pos (by exact decide_eq_true h), List.filter_nil]
  · rw [if_neg h, List.filter_cons_of_neg (by rw [decide_eq_false h]; exact Bool.false_ne_true), List.filter_nil]
theorem freeL_le (i : Nat) (ks : List Nat) : (freeL i ks).length ≤ i := by
  unfold freeL
  refine Nat.le_trans (List.length_filter_le _ _) ?_
  rw [List.length_range]
  exact Nat.le_refl i
theorem natV_get {ks : List Nat} {i : Nat} {x : V} (h : (natV ks)[i]? = some x) : ∃ k, ks[i]? = some k ∧ x = .int (k : Int) := getElem?_map_some h
theorem set_map (v : List Int) (k : Nat) (x : Int) : (v.map V.int).set k (.int x) = (v.set k x).map V.int := (List.map_set).symm
def spKernel (K : PySem.W.Frag) : Sp := fun vs H Q _ => ∃ (a : Addr) (n : Nat) (p : Int) (rs : List (List Int)), vs = [.ref a, .int (n : Int), .int p] ∧ Rws K H a rs ∧ Pr p ∧ n ≤ 1000 ∧ rs.length ≤ 1000 ∧ (∀ r ∈ rs, Vr p n r) ∧
  ∀ t us H', Same H H' → H' t = some (.tup us) → Paired (RR H') us (kerR p n rs) → Q (.ref t) H'
theorem ok_kernel (T : Txt K mg) : FnOk P w K mg base CX0 6 T.a_kernel T.d_kernel ["rows", "width", "p"] (spKernel K) := by
  have G_reduced : FnOk P w K mg base CX0 4 T.a_reduced T.d_reduced ["rows", "width", "p"] (spReduced K) := ok_reduced T
  have G_span : FnOk P w K mg base CX0 5 T.a_span T.d_span ["rows", "width", "p"] (spSpan K) := ok_span T
  have G__unit : FnOk P w K mg base CX0 1 T.a__unit T.d__unit ["n", "at"] spUnit := ok_unit T
  refine T.F_kernel.ok sc_kernel (fun vs H Q E h => ?_) (fun cdv A outer s H vs Q E hr h => ?_)
  · obtain ⟨a, n, p, rs, rfl, _⟩ := h
    rfl
  · obtain ⟨a, n, p, rs, rfl, hW, P, hn, hrl, hv, q⟩ := h
    have h2 := P.two
    have h31 := P.le
    have hp := P.pos
    have F := red_form P hv
    refine ⟨_, (pss_cons (ps_asg (pe_call G_reduced (hr.mono (by decide)) (by rfl) T.g_reduced T.F_reduced.kp T.b_reduced .nil pass0 (pa_cons (pv 0) (pa_cons (pv 1) (pa_cons (pv 2) pa_nil)))) (pg_tup rfl (pgs_cons (pg_name (i := 3) sc_kernel.nd rfl (.inl rfl)) (pgs_cons (pg_name (i := 4) sc_kernel.nd rfl (.inl rfl)) pgs_nil)))) 
    (pss_cons (ps_set (i := 5) sc_kernel.nd rfl (.inl rfl) (pe_lst pa_nil)) 
    (pss_cons (ps_for PassesOwn.never rfl (pi_range1 (by rfl) T.n_range (pa_cons (pv 1) pa_nil)) (pg_name (i := 6) sc_kernel.nd rfl (.inl rfl)) 
      (pss_one (ps_if (pt_cmpR op_notIn_seq (pv 6) (pv 4) rfl) 
        (pss_cons (ps_set (i := 7) sc_kernel.nd rfl (.inl rfl) (pe_callTy call_list_of (by rfl) T.n_list (by decide +kernel) (pa_cons (pe_call G__unit (hr.mono (by decide)) (by rfl) T.g__unit T.F__unit.kp T.b__unit .nil pass0 (pa_cons (pv 1) (pa_cons (pv 6) pa_nil))) pa_nil))) 
        (pss_cons (ps_for PassesOwn.never rfl (RZ.pi_zipA (by rfl) T.n_zip (pa_cons (pv 3) (pa_cons (pv 4) pa_nil))) (pg_tup rfl (pgs_cons (pg_name (i := 8) sc_kernel.nd rfl (.inl rfl)) (pgs_cons (pg_name (i := 9) sc_kernel.nd rfl (.inl rfl)) pgs_nil))) 
          (pss_one (ps_asg (pe_op op_modE (pe_un un_neg (pe_ix (show IxR _ (rIxT K) from ix_tup) (pv 8) (pv 6) (fun _ _ => rfl))) (pv 2)) (pg_sub (pv 7) (pv 9) set_list)))) 
        (pss_one (ps_expr (pe_bm PySem.F.plainAttrs_list PySem.F.slot_list_append PySem.F.type_list_append mt_append (pv 5) (pa_cons (pe_callTy Own.call_tuple_ofF (by rfl) T.n_tuple (by decide +kernel) (pa_cons (pv 7) pa_nil)) pa_nil)))))) pss_nil))) 
    (pss_one (ps_ret (pe_call G_span (hr.mono (by decide)) (by rfl) T.g_span T.F_span.kp T.b_span .nil pass0 (pa_cons (pv 5) (pa_cons (pv 1) (pa_cons (pv 2) pa_nil))))))))), ?_⟩
    refine ⟨_, rfl, _, rfl, _, rfl, a, n, p, rs, rfl, hW.s, h2, h31, hn, hrl, hv, fun t H1 sm1 hR => ?_⟩
    obtain ⟨ta, tb, tus, e1, e2, e3, e4⟩ := hR.ex
    refine ⟨t, [.ref ta, .ref tb], rfl, .inl (.inl e1), rfl, _, [.ref tb], rfl, _, [], rfl, rfl, ?_⟩
    generalize hT : redT p n rs = TT at *
    generalize hK : redP p n rs = ks at *
    have hTl : TT.length ≤ n := by
      have := elimE_len (p := p) (rows := rs) n
      rw [← hT]
      show (elimE p rs n).table.length ≤ n
      omega
    refine ⟨Nat.zero_le _, fun fo nfo => ?_⟩
    have s0 := same_new (o := .lst []) nfo
    refine ⟨_, rfl, (n : Int), rfl, by omega, by omega, ?_⟩
    refine for_range (lo := 0) (n := n) (fun i σ H' => ∃ (us : List V) (y6 y7 y8 y9 : Option V), σ = [some (.ref a), some (.int (n : Int)), some (.int p), some (.ref ta), some (.ref tb), some (.ref fo), y6, y7, y8, y9] ∧ Same H1 H' ∧ H' fo = some (.lst us) ∧ Paired (RR H') us ((freeL i ks).map (solR p n TT ks)))
      ⟨[], none, none, none, none, rfl, s0, upd_same, .nil⟩ (fun i σ H' hi hPv => ?_) (fun σ H' hPv => ?_)
    · obtain ⟨us, y6, y7, y8, y9, rfl, sm, ef, hL⟩ := hPv
      have ei : ((0 : Int) + (i : Int)) = (i : Int) := by omega
      refine ⟨_, rfl, _, rfl, tb, _, rfl, .inr (.inl (.inl (sm _ _ e4))), rfl, flat_natV ks, _, rfl, ?_⟩
      show if (!inV (V.int ((0 : Int) + (i : Int))) (natV ks)) = true then _ else _
      rw [ei, inV_nat]
      by_cases hik : i ∈ ks
      · refine iteB (not_dec hik) ⟨us, _, y7, y8, y9, rfl, sm, ef, ?_⟩
        rw [free_more, if_neg (fun z => z hik), List.append_nil]
        exact hL
      · refine iteA (by rw [decide_eq_false hik]; rfl) ?_
        have hlen : us.length ≤ 1000 := by
          rw [Paired.length hL, List.length_map]
          have := freeL_le i ks
          omega
        refine ⟨_, rfl, _, rfl, n, i, rfl, hn, fun uv H2 sm2 hRu => ?_⟩
        obtain ⟨ut, rfl, hut⟩ := hRu
        refine ⟨ut, _, rfl, .inr hut.sq, fun so nso => ?_⟩
        have s3 := same_new (o := .lst ((unitR n i).map V.int)) nso
        have smB := sm.trans sm2
        have efB := sm2 _ _ ef
        have hfs : fo ≠ so := fun z => by rw [z] at efB; rw [efB] at nso; cases nso
        refine ⟨_, rfl, _, rfl, ta, tb, tus, natV ks, rfl, .inr ⟨.inl (.inl (s3 _ _ (smB _ _ e2))), .inl (.inl (s3 _ _ (smB _ _ e4))), ?_⟩⟩
        refine RZ.for_zipT (by rw [Paired.length e3, F.len]; unfold natV; rw [List.length_map]) (fun j σ H' => ∃ (y8 y9 : Option V), σ = [some (.ref a), some (.int (n : Int)), some (.int p), some (.ref ta), some (.ref tb), some (.ref fo), some (.int (i : Int)), some (.ref so), y8, y9] ∧ Same H2 H' ∧ H' so = some (.lst ((solI p n TT ks i j).map V.int)))
          ⟨y8, y9, rfl, s3, upd_same⟩ (fun j σ H' ⟨_, _, _, sm3, _⟩ => ⟨.inl (.inl (sm3 _ _ (smB _ _ e2))), .inl (.inl (sm3 _ _ (smB _ _ e4)))⟩) (fun j x y tt σ H3 hx hy hPv nT => ?_) (fun σ H3 hPv => ?_)
        · obtain ⟨y8, y9, rfl, sm3, eso⟩ := hPv
          obtain ⟨r, er, tr, rfl, htr⟩ := paired_get e3 hx
          obtain ⟨k, ek, rfl⟩ := natV_get hy
          have hvr := F.vr r (List.mem_of_getElem? er)
          have hk := F.lt k (List.mem_of_getElem? ek)
          have s4 := same_new (o := .tup [.ref tr, .int (k : Int)]) nT
          have sm4 := sm3.trans s4
          have hsv := solI_vr (n := n) h2 (T := TT) (ks := ks) (f := i) j
          refine ⟨tt, [.ref tr, .int (k : Int)], rfl, .inl (.inl upd_same), rfl, _, [.int (k : Int)], rfl, _, [], rfl, rfl, ?_⟩
          refine ⟨_, rfl, _, rfl, tr, _, _, _, rfl, rfl, (htr.mono (smB.trans sm4)).sq, atV (by rw [hvr.1]; exact hi), _, rfl, _, rfl, _, _, rfl, rfl, hp, ?_⟩
          refine ⟨_, rfl, _, rfl, so, _, (k : Int), k, rfl, rfl, s4 _ _ eso, ?_, ?_⟩
          · unfold ixN
            rw [if_pos (by omega), if_pos (by rw [List.length_map, hsv.1]; omega)]
            rfl
          · refine ⟨_, _, rfl, same_mut sm4 nso, ?_⟩
            rw [upd_same, set_map, solI, getD_some ek, getD_some er]
        · obtain ⟨y8, y9, rfl, sm3, eso⟩ := hPv
          have eso : H3 so = some (.lst ((solR p n TT ks i).map V.int)) := by
            rw [eso, Paired.length e3]
            rfl
          refine ⟨.ref fo, rfl, .inl ⟨rfl, _, .inl (.inl (sm3 _ _ efB))⟩, _, rfl, so, _, rfl, .inl (.inl eso), fun u ob nu hob => ?_⟩
          have s5 := same_new (o := .frz ob (.tup ((solR p n TT ks i).map V.int))) nu
          have smC := sm3.trans s5
          refine ⟨fo, us, _, rfl, rfl, smC _ _ efB, small1000 hlen, ?_⟩
          refine ⟨us ++ [.ref u], _, _, _, _, rfl, same_mut (smB.trans smC) nfo, upd_same, ?_⟩
          rw [free_more, if_pos hik, List.map_append]
          exact st_RR.allPut (smC _ _ efB) (paired_add (st_RR.all (sm2.trans smC) hL) ⟨u, rfl, ob, hob, upd_same⟩)
    · obtain ⟨us, y6, y7, y8, y9, rfl, sm, ef, hL⟩ := hPv
      have hkl : (kerF p n TT ks).length ≤ 1000 := by
        unfold kerF
        rw [List.length_map]
        have := freeL_le n ks
        omega
      refine ⟨_, rfl, _, rfl, _, rfl, fo, n, p, kerF p n TT ks, rfl, ⟨us, .inl (.inl (.inl ef)), rs_all hL⟩, h2, h31, hn, hkl, kerF_vr h2 TT ks, fun t us2 H2 sm2 et hP2 => ?_⟩
      refine q t us2 H2 (sm1.trans (sm.trans sm2)) et ?_
      unfold kerR
      rw [hT, hK]
      exact hP2
def spColumns (K : PySem.W.Frag) : Sp := fun vs H Q _ => ∃ (a : Addr) (n : Nat) (p : Int) (rs : List (List Int)), vs = [.ref a, .int (n : Int)] ∧ Rws K H a rs ∧ n ≤ 1000 ∧ rs.length ≤ 1000 ∧ (∀ r ∈ rs, Vr p n r) ∧
  ∀ l us H', Same H H' → H' l = some (.lst us) → Paired (RR H') us (colR rs n) → Q (.ref l) H'
theorem ok_columns (T : Txt K mg) : FnOk P w K mg base CX0 1 T.a__columns T.d__columns ["rows", "width"] (spColumns K) := by
  refine T.F__columns.ok sc__columns (fun vs H Q E h => ?_) (fun cdv A outer s H vs Q E hr h => ?_)
  · obtain ⟨a, n, p, rs, rfl, _⟩ := h
    rfl
  · obtain ⟨a, n, p, rs, rfl, ⟨us, hS, hP⟩, hn, hrl, hv, q⟩ := h
    obtain ⟨b, hB⟩ := Own.sqb_of hS
    have hul := Paired.length hP
    refine ⟨_, (pss_one (ps_ret (pe_lc (own := [("at", 2)]) rfl sc__columns.nd (pi_range1 (by rfl) T.n_range (pa_cons (pv 1) pa_nil)) (blkOk_by (N := N__columns) (sc := defScope s__columns) (own := [("at", 2)]) (by decide +kernel)) (fun _ _ _ _ _ => (pg_name (i := 2) sc__columns.nd rfl (.inr rfl))) (fun _ _ _ _ _ => pts_nil) (fun _ _ _ _ _ => (pe_callTy (show CallR _ (.type "tuple") (rTupF K) from call_tupF) (by rfl) T.n_tuple (by decide +kernel) (pa_cons (pe_lc (own := [("row", 3)]) rfl sc__columns.nd ((show PI _ _ _ (Own.iSeq K _) from Own.pi_seq (pv 0))) (blkOk_by (N := N__columns) (own := [("row", 3)]) (by rfl)) (fun _ _ _ _ _ => (pg_name (i := 3) sc__columns.nd rfl (.inl rfl))) (fun _ _ _ _ _ => pts_nil) (fun _ _ _ _ _ => (pe_ix (show IxR _ (rIxT K) from ix_tup) (pv 3) (pv 2) (fun _ _ => rfl)))) pa_nil)))))), ?_⟩
    refine ⟨_, rfl, (n : Int), rfl, by omega, by omega, fun D nD => ?_⟩
    refine lc_rep (walk_range (lo := 0) (n := n)) st_RR (fun j => rs.map fun r => atR r j) (by omega) nD (fun H2 sm => trivial) (fun j x H2 H3 Q2 hj sm hY q2 => ?_) (fun H2 acc sm eD hPa => ?_)
    · obtain ⟨rfl, rfl⟩ := hY
      have ej : ((0 : Int) + (j : Int)) = (j : Int) := by omega
      refine ⟨rfl, _, rfl, a, us, b, rfl, Own.same_sqb sm hB, fun J wJ => fun D2 nD2 => ?_⟩
      refine lc_rep wJ st_RI (fun i => atR (rs.getD i []) j) (by omega) nD2 (fun H4 sm4 => Own.same_sqb (sm.trans sm4) hB) (fun i x2 H4 H5 Q3 hi sm4 hY2 q3 => ?_) (fun H4 acc2 sm4 eD2 hPb => ?_)
      · obtain ⟨rfl, hx⟩ := hY2
        obtain ⟨r, er, t, rfl, ht⟩ := paired_get hP hx
        have hvr := hv r (List.mem_of_getElem? er)
        refine ⟨rfl, _, rfl, _, rfl, t, _, _, _, rfl, rfl, (ht.mono (sm.trans sm4)).sq, by rw [ej]; exact atV (by rw [hvr.1]; exact hj), q3 _ _ (Same.refl _) ?_⟩
        show V.int _ = V.int _
        rw [getD_some er]
      · have e := ints_of hPb
        rw [hul, range_map_get (fun r => atR r j) [] rs] at e
        subst e
        exact ⟨D2, _, rfl, .inl (.inl eD2), fun u ob nu hob => q2 _ _ (sm4.trans (same_new nu)) ⟨u, rfl, ob, hob, upd_same⟩⟩
    · exact q D acc _ sm eD hPa
def spRelations (K : PySem.W.Frag) : Sp := fun vs H Q _ => ∃ (a : Addr) (n : Nat) (p : Int) (rs : List (List Int)), vs = [.ref a, .int (n : Int), .int p] ∧ Rws K H a rs ∧ Pr p ∧ n ≤ 1000 ∧ rs.length ≤ 1000 ∧ (∀ r ∈ rs, Vr p n r) ∧
  ∀ t us H', Same H H' → H' t = some (.tup us) → Paired (RR H') us (kerR p rs.length (colR rs n)) → Q (.ref t) H'
theorem ok_relations (T : Txt K mg) : FnOk P w K mg base CX0 7 T.a_relations T.d_relations ["rows", "width", "p"] (spRelations K) := by
  have G_kernel : FnOk P w K mg base CX0 6 T.a_kernel T.d_kernel ["rows", "width", "p"] (spKernel K) := ok_kernel T
  have G__columns : FnOk P w K mg base CX0 1 T.a__columns T.d__columns ["rows", "width"] (spColumns K) := ok_columns T
  refine T.F_relations.ok sc_relations (fun vs H Q E h => ?_) (fun cdv A outer s H vs Q E hr h => ?_)
  · obtain ⟨a, n, p, rs, rfl, _⟩ := h
    rfl
  · obtain ⟨a, n, p, rs, rfl, ⟨us, hS, hP⟩, Pp, hn, hrl, hv, q⟩ := h
    have hul := Paired.length hP
    have hS : Sq K H a us := hS
    have hcl : (colR rs n).length = n := by unfold colR; rw [List.length_map, List.length_range]
    refine ⟨_, (pss_one (ps_ret (pe_call G_kernel (hr.mono (by decide)) (by rfl) T.g_kernel T.F_kernel.kp T.b_kernel .nil pass0 (pa_cons (pe_call G__columns (hr.mono (by decide)) (by rfl) T.g__columns T.F__columns.kp T.b__columns .nil pass0 (pa_cons (pv 0) (pa_cons (pv 1) pa_nil))) (pa_cons (pe_callB call_len_seq (by rfl) T.n_len (by decide +kernel) (pa_cons (pv 0) pa_nil)) (pa_cons (pv 2) pa_nil)))))), ?_⟩
    refine ⟨_, rfl, _, rfl, a, n, p, rs, rfl, ⟨us, hS, hP⟩, hn, hrl, hv, fun l cs H1 sm1 el hC => ?_⟩
    refine ⟨_, rfl, a, us, rfl, hS.mono sm1, _, rfl, l, rs.length, p, colR rs n, by rw [hul]; rfl, ⟨cs, .inl (.inl (.inl el)), hC⟩, Pp, hrl, by omega, colR_vr hv, fun t us2 H2 sm2 et hP2 => q t us2 H2 (sm1.trans sm2) et hP2⟩
/-! ### comprehensions with a test -/
theorem lc_filt {α : Type} {J : It} {n : Nat} {G : Hp → Prop} {Y : Nat → Hp → V → Hp → Prop} (w : Walk J n G Y) {R : Hp → V → α → Prop} (S : Stable R) (h : Nat → Bool) (f : Nat → α) (hn : n ≤ 100000) {g : TG} {tt : L2.St → Hp → (Bool → Hp → Prop) → Prop} {te : TE} {vs : List Nat} {σ : L2.St} {H1 : Hp} {D : Addr} {Qd : Hp → Prop}
    (nD : H1 D = none) (hG : ∀ H, Same H1 H → G H)
    (hs : ∀ i x H H' (Q : VK) (N : Hp → Prop), i < n → Same H1 H → Y i H x H' → (h i = true → ∀ y H4, Same H H4 → R H4 y (f i) → Q y H4) → (h i = false → ∀ H4, Same H H4 → N H4) → g x (wipe σ vs) H' fun σ2 H2 => wipe σ2 vs = wipe σ vs ∧ tt σ2 H2 fun b H3 => if b = true then te σ2 H3 Q else N H3)
    (hd : ∀ H acc, Same H1 H → H D = some (.lst acc) → Paired (R H) acc (((List.range n).filter h).map f) → Qd H) :
    ∃ W : Nat → Nat → Hp → Prop, (∃ m, W 0 m (upd H1 D (.lst []))) ∧ ∀ i m H, W i m H →
      (J.stop i H ∧ Qd H) ∨ (J.go i H ∧ ∃ Nx : Hp → Prop, (∀ H', Nx H' → ∃ m', m' < m ∧ W (i + 1) m' H') ∧ ∀ x H', J.yld i H x H' → g x (wipe σ vs) H' fun σ2 H2 => wipe σ2 vs = wipe σ vs ∧ tt σ2 H2 fun b H3 =>
        if b = true then te σ2 H3 fun y H4 => ∃ acc, H4 D = some (.lst acc) ∧ acc.length < sizeLine ∧ Nx (upd H4 D (.lst (acc ++ [y]))) else Nx H3) := by
  have more : ∀ i, (List.range (i + 1)).filter h = (List.range i).filter h ++ (if h i = true then [i] else []) := fun i => by
    rw [List.range_succ, List.filter_append]
    congr 1
    by_cases e : h i = true
    · rw [if_pos e, List.filter_cons_of_pos e, List.filter_nil]
    · rw [if_neg e, List.filter_cons_of_neg e, List.filter_nil]
  refine lc_it w (fun i H => i ≤ n ∧ Same H1 H ∧ ∃ acc, H D = some (.lst acc) ∧ Paired (R H) acc (((List.range i).filter h).map f)) ⟨Nat.zero_le n, same_new nD, [], upd_same, .nil⟩ (fun i H _ k => hG H k.2.1) (fun i x H H' hi hP hY => ?_) (fun H hP => ?_)
  · obtain ⟨hin, sm, acc, eD, hp⟩ := hP
    have hlen : acc.length ≤ i := by
      rw [Paired.length hp, List.length_map]
      refine Nat.le_trans (List.length_filter_le _ _) ?_
      rw [List.length_range]
      exact Nat.le_refl i
    exact hs i x H H' (fun y H4 => ∃ acc, H4 D = some (.lst acc) ∧ acc.length < sizeLine ∧ (i + 1 ≤ n ∧ Same H1 (upd H4 D (.lst (acc ++ [y]))) ∧ ∃ acc2, (upd H4 D (.lst (acc ++ [y]))) D = some (.lst acc2) ∧ Paired (R (upd H4 D (.lst (acc ++ [y])))) acc2 (((List.range (i + 1)).filter h).map f))) (fun H4 => i + 1 ≤ n ∧ Same H1 H4 ∧ ∃ acc2, H4 D = some (.lst acc2) ∧ Paired (R H4) acc2 (((List.range (i + 1)).filter h).map f)) hi sm hY (fun e y H4 sm4 r => by
      have eD4 := sm4 _ _ eD
      refine ⟨acc, eD4, small2000 (by omega), hi, same_mut (sm.trans sm4) nD, _, upd_same, ?_⟩
      rw [more, if_pos e, List.map_append]
      exact S.allPut eD4 (paired_add (S.all sm4 hp) r)) (fun e H4 sm4 => by
      refine ⟨hi, sm.trans sm4, acc, sm4 _ _ eD, ?_⟩
      rw [more, if_neg (by rw [e]; exact Bool.false_ne_true), List.append_nil]
      exact S.all sm4 hp)
  · obtain ⟨_, sm, acc, eD, hp⟩ := hP
    exact hd H acc sm eD hp
theorem range_filter {α : Type} (pr : α → Bool) (d : α) (L : List α) : ((List.range L.length).filter fun i => pr (L.getD i d)).map (fun i => L.getD i d) = L.filter pr := by
  have h := List.filter_map (p := pr) (f := fun i => L.getD i d) (l := List.range L.length)
  have e : (List.range L.length).map (fun i => L.getD i d) = L := by
    have := range_map_get (fun x : α => x) d L
    rw [List.map_id'] at this
    exact this
  rw [e] at h
  exact h.symm
def rLen (K : PySem.W.Frag) : List V → Hp → VK → Prop := fun xs H Q => ∃ p ys, xs = [.ref p] ∧ (SqL K H p ys ∨ SqT K H p ys) ∧ Q (.int (ys.length : Int)) H
theorem call_lenK {X : Cx} : CallR X (.builtin "len") (rLen X.K) := call_len_seq
/-! ### lists of ints as data -/
def dL (ns : List Int) : PyData := .list (ns.map PyData.int)
theorem dp_L {H : Hp} {a : Addr} {ns : List Int} (h : SqL K H a (ns.map V.int)) : Dp K H (.ref a) (dL ns) := .lst h (dpAll_ints ns)
theorem shaped_dL (ns : List Int) : SeqAt.shaped (dL ns) = true := by
  have h1 := PySem.W.depthAll_ints ns
  have h2 : PyData.depth (.list (ns.map PyData.int)) ≤ 64 := by simp only [PyData.depth]; omega
  show (PyData.canLay0 (.list (ns.map PyData.int)) && decide (PyData.depth (.list (ns.map PyData.int)) ≤ 64)) = true
  rw [Bool.and_eq_true]
  exact ⟨by simp only [PyData.canLay0]; exact PySem.W.canLayAll0_ints ns, decide_eq_true h2⟩
theorem eqv_dL (ns ms : List Int) : PyData.eqv (dL ns) (dL ms) = decide (ns = ms) := by
  unfold dL
  rw [PyData.eqv]
  exact eqvAll_ints ns ms
/-! ### tuples of rows as data -/
theorem eqvAll_tup (L M : List (List Int)) : PyData.eqv (.tuple (L.map dInts)) (.tuple (M.map dInts)) = decide (L = M) := by
  rw [PyData.eqv]
  exact eqvAll_rows L M
def dRowsT (L : List (List Int)) : PyData := .tuple (L.map dInts)
theorem shaped_dRowsT (L : List (List Int)) : SeqAt.shaped (dRowsT L) = true := by
  have h1 := depth_rows L
  have h2 : PyData.depth (.tuple (L.map dInts)) ≤ 64 := by simp only [PyData.depth]; omega
  show (PyData.canLay0 (.tuple (L.map dInts)) && decide (PyData.depth (.tuple (L.map dInts)) ≤ 64)) = true
  rw [Bool.and_eq_true]
  exact ⟨by simp only [PyData.canLay0]; exact canLay_rows L, decide_eq_true h2⟩
theorem dp_rowsT {H : Hp} {a : Addr} {us : List V} {L : List (List Int)} (h : SqT K H a us) (hP : Paired (RR H) us L) : Dp K H (.ref a) (dRowsT L) := .tup h (dpAll_rows hP)
theorem pow_bound2 : ∀ p ∈ primesL, p.toNat ^ (if p > 7 then 1 else if p > 3 then 3 else 4) ≤ 2000 := by decide
theorem pow_le {p : Int} {k m : Nat} (h2 : 2 ≤ p) (hk : k ≤ m) (h : p.toNat ^ m ≤ 2000) : p.toNat ^ k ≤ 2000 := Nat.le_trans (Nat.pow_le_pow_right (by omega) hk) h
/-! ### is_integer -/
def IsI (K : PySem.W.Frag) (H : Hp) (x : V) (b : Bool) : Prop := ∃ (t : Value) (b1 b2 : Bool), TyX K H x t ∧ PySem.W.kitOne K t (.type "int") = some b1 ∧ PySem.W.kitOne K t (.type "bool") = some b2 ∧ b = (b1 && !b2) ∧ (b = true → ∃ i, x = .int i)
theorem isI_int {H : Hp} (i : Int) : IsI K H (.int i) true := ⟨_, true, false, .base (.int i), kit_ty (by decide +kernel), kit_ty (by decide +kernel), rfl, fun _ => ⟨i, rfl⟩⟩
theorem isI_bl {H : Hp} (b : Bool) : IsI K H (.bl b) false := ⟨_, true, true, .base (.bl b), kit_ty (by decide +kernel), kit_ty (by decide +kernel), rfl, fun h => Bool.noConfusion h⟩
theorem isI_non {H : Hp} : IsI K H .non false := ⟨_, false, false, .base .non, kit_ty (by decide +kernel), kit_ty (by decide +kernel), rfl, fun h => Bool.noConfusion h⟩
theorem isI_str {H : Hp} (s : Str) : IsI K H (.str s) false := ⟨_, false, false, .base (.str s), kit_ty (by decide +kernel), kit_ty (by decide +kernel), rfl, fun h => Bool.noConfusion h⟩
theorem isI_lst {H : Hp} {a : Addr} {xs : List V} (e : H a = some (.lst xs)) : IsI K H (.ref a) false := ⟨_, false, false, .base (.lst e), kit_ty (by decide +kernel), kit_ty (by decide +kernel), rfl, fun h => Bool.noConfusion h⟩
theorem isI_tup {H : Hp} {a : Addr} {xs : List V} (e : H a = some (.tup xs)) : IsI K H (.ref a) false := ⟨_, false, false, .base (.tup e), kit_ty (by decide +kernel), kit_ty (by decide +kernel), rfl, fun h => Bool.noConfusion h⟩
def spIsInt (K : PySem.W.Frag) : Sp := fun vs H Q _ => ∃ (x : V) (b : Bool), vs = [x] ∧ IsI K H x b ∧ Q (.bl b) H
theorem ok_isint (T : Txt K mg) : FnOk P w K mg base CX0 1 T.a_is_integer T.d_is_integer ["value"] (spIsInt K) := by
  refine T.F_is_integer.ok sc_is_integer (fun vs H Q E h => ?_) (fun cdv A outer s H vs Q E hr h => ?_)
  · obtain ⟨x, b, rfl, _⟩ := h
    rfl
  · obtain ⟨x, b, rfl, ⟨t, b1, b2, ty, k1, k2, rfl, _⟩, q⟩ := h
    refine ⟨_, (pss_one (ps_ret (pe_and (pe_callB call_isi (by rfl) T.n_isinstance (by decide +kernel) (pa_cons (pv 0) (pa_cons (pe_bltn (v := .ty "int") (by rfl) T.n_int (by decide +kernel) rfl) pa_nil))) (pe_one (pe_not (pe_callB call_isi (by rfl) T.n_isinstance (by decide +kernel) (pa_cons (pv 0) (pa_cons (pe_bltn (v := .ty "bool") (by rfl) T.n_bool (by decide +kernel) rfl) pa_nil)))))))), ?_⟩
    refine ⟨_, rfl, _, _, _, _, b1, rfl, .ty "int", ty, k1, b1, rfl, ?_⟩
    cases b1 with
    | true => exact iteT ⟨_, rfl, _, _, _, _, b2, rfl, .ty "bool", ty, k2, b2, rfl, q⟩
    | false => exact iteF q
/-! ### values of other forms; is_row, is_matrix -/
/-- a value; is it an integer; is it a tuple -/
inductive Kd (K : PySem.W.Frag) (H : Hp) : V → Bool → Bool → Prop
  | int (i : Int) : Kd K H (.int i) true false
  | bl (b : Bool) : Kd K H (.bl b) false false
  | non : Kd K H .non false false
  | str (s : Str) : Kd K H (.str s) false false
  | lst {a : Addr} {xs : List V} (e : H a = some (.lst xs)) : Kd K H (.ref a) false false
  | tup {a : Addr} {xs : List V} (e : SqT K H a xs) : Kd K H (.ref a) false true
theorem Kd.mono {H H' : Hp} {x : V} {i t : Bool} (e : Same H H') (h : Kd K H x i t) : Kd K H' x i t := by
  cases h with
  | int i => exact .int i
  | bl b => exact .bl b
  | non => exact .non
  | str s => exact .str s
  | lst h => exact .lst (e _ _ h)
  | tup h => exact .tup (Own.same_tup e h)
theorem ty_sqT {H : Hp} {a : Addr} {xs : List V} (h : SqT K H a xs) : TyX K H (.ref a) (.type "tuple") := by
  rcases h with (h | ⟨o, h⟩) | h
  · exact .base (.tup h)
  · exact .fTuple h
  · obtain ⟨o, its, k, h1, h2, _⟩ := h
    exact .kTuple h1 h2
theorem Kd.isI {H : Hp} {x : V} {i t : Bool} (h : Kd K H x i t) : IsI K H x i := by
  cases h with
  | int i => exact isI_int i
  | bl b => exact isI_bl b
  | non => exact isI_non
  | str s => exact isI_str s
  | lst h => exact isI_lst h
  | tup h => exact ⟨_, false, false, ty_sqT h, kit_ty (by decide +kernel), kit_ty (by decide +kernel), rfl, fun h => Bool.noConfusion h⟩
theorem Kd.isT {H : Hp} {x : V} {i t : Bool} (h : Kd K H x i t) : ∃ ty, TyX K H x ty ∧ PySem.W.kitOne K ty (.type "tuple") = some t := by
  cases h with
  | int i => exact ⟨_, .base (.int i), kit_ty (by decide +kernel)⟩
  | bl b => exact ⟨_, .base (.bl b), kit_ty (by decide +kernel)⟩
  | non => exact ⟨_, .base .non, kit_ty (by decide +kernel)⟩
  | str s => exact ⟨_, .base (.str s), kit_ty (by decide +kernel)⟩
  | lst h => exact ⟨_, .base (.lst h), kit_ty (by decide +kernel)⟩
  | tup h => exact ⟨_, ty_sqT h, kit_ty (by decide +kernel)⟩
/-- an item of a row -/
inductive ItV (K : PySem.W.Frag) (H : Hp) (p : Int) : V → Bool → Prop
  | int (i : Int) : ItV K H p (.int i) (decide (0 ≤ i) && decide (i < p))
  | oth {x : V} {t : Bool} (h : Kd K H x false t) : ItV K H p x false
theorem ItV.mono {H H' : Hp} {p : Int} {x : V} {b : Bool} (e : Same H H') (h : ItV K H p x b) : ItV K H' p x b := by
  cases h with
  | int i => exact .int i
  | oth h => exact .oth (h.mono e)
/-- what is_row says of a value -/
inductive RowV (K : PySem.W.Frag) (H : Hp) (p : Int) (n : Nat) : V → Bool → Prop
  | no {x : V} {i : Bool} (h : Kd K H x i false) : RowV K H p n x false
  | len {a : Addr} {xs : List V} (h : SqT K H a xs) (hl : xs.length ≠ n) : RowV K H p n (.ref a) false
  | yes {a : Addr} {xs : List V} {bs : List Bool} (h : SqT K H a xs) (hl : xs.length = n) (hb : Paired (ItV K H p) xs bs) : RowV K H p n (.ref a) (bs.all id)
theorem Paired.mono2 {α β : Type} {R S : α → β → Prop} (f : ∀ a b, R a b → S a b) : ∀ {xs : List α} {ys : List β}, Paired R xs ys → Paired S xs ys
  | _, _, .nil => .nil
  | _, _, .cons h t => .cons (f _ _ h) (Paired.mono2 f t)
theorem RowV.mono {H H' : Hp} {p : Int} {n : Nat} {x : V} {b : Bool} (e : Same H H') (h : RowV K H p n x b) : RowV K H' p n x b := by
  cases h with
  | no h => exact .no (h.mono e)
  | len h hl => exact .len (Own.same_tup e h) hl
  | yes h hl hb => exact .yes (Own.same_tup e h) hl (Paired.mono2 (fun _ _ k => k.mono e) hb)
def RB : Hp → V → Bool → Prop := fun _ v b => v = .bl b
theorem st_RB : Stable RB := ⟨fun _ h => h, fun _ h => h⟩
theorem bools_of {H : Hp} : ∀ {vs : List V} {bs : List Bool}, Paired (RB H) vs bs → vs = bs.map V.bl
  | _, _, .nil => rfl
  | _, _, @Paired.cons _ _ _ v b vs bs h t => by
    have e : v = .bl b := h
    rw [e, bools_of t]
    rfl
def spIsRow (K : PySem.W.Frag) : Sp := fun vs H Q _ => ∃ (x : V) (p : Int) (n : Nat) (b : Bool), vs = [x, .int p, .int (n : Int)] ∧ n ≤ 1000 ∧ RowV K H p n x b ∧ ∀ H', Same H H' → Q (.bl b) H'
theorem ok_isrow (T : Txt K mg) : FnOk P w K mg base CX0 2 T.a_is_row T.d_is_row ["value", "p", "n"] (spIsRow K) := by
  have G_is_integer : FnOk P w K mg base CX0 1 T.a_is_integer T.d_is_integer ["value"] (spIsInt K) := ok_isint T
  refine T.F_is_row.ok sc_is_row (fun vs H Q E h => ?_) (fun cdv A outer s H vs Q E hr h => ?_)
  · obtain ⟨x, p, n, b, rfl, _⟩ := h
    rfl
  · obtain ⟨x, p, n, b, rfl, hn, hR, q⟩ := h
    refine ⟨_, (pss_cons (ps_if (PW.pt (pw_or (pt_not (pt_val (pe_callB call_isi (by rfl) T.n_isinstance (by decide +kernel) (pa_cons (pv 0) (pa_cons (pe_bltn (v := .ty "tuple") (by rfl) T.n_tuple (by decide +kernel) rfl) pa_nil))))) (pw_or1 (pt_cmpR op_ne (pe_callB call_len_seq (by rfl) T.n_len (by decide +kernel) (pa_cons (pv 0) pa_nil)) (pv 2) (nomark _))))) 
      (pss_one (ps_ret pe_bl)) pss_nil) 
    (pss_one (ps_ret (pe_callB (cr_all rfl) (by rfl) T.n_all (by decide +kernel) (pa_cons (pe_lc (own := [("item", 3)]) rfl sc_is_row.nd (pi_tup (pv 0)) (blkOk_by (N := N_is_row) (sc := defScope s_is_row) (own := [("item", 3)]) (by decide +kernel)) (fun _ _ _ _ _ => (pg_name (i := 3) sc_is_row.nd rfl (.inl rfl))) (fun _ _ _ _ _ => pts_nil) (fun _ _ _ _ _ => (pe_and (pe_call G_is_integer (hr.mono (by decide)) (by rfl) T.g_is_integer T.F_is_integer.kp T.b_is_integer .nil pass0 (pa_cons (pv 3) pa_nil)) (pe_one (pe_chain op_le op_lt pe_int (pv 3) (pv 1)))))) pa_nil))))), ?_⟩
    have cs : (∃ i, Kd K H x i false ∧ b = false) ∨ ∃ a xs, x = .ref a ∧ SqT K H a xs ∧ ((xs.length ≠ n ∧ b = false) ∨ (xs.length = n ∧ ∃ bs, Paired (ItV K H p) xs bs ∧ b = bs.all id)) := by
      cases hR with
      | no h => exact .inl ⟨_, h, rfl⟩
      | len h hl => exact .inr ⟨_, _, rfl, h, .inl ⟨hl, rfl⟩⟩
      | yes h hl hb => exact .inr ⟨_, _, rfl, h, .inr ⟨hl, _, hb, rfl⟩⟩
    rcases cs with ⟨i, hk, rfl⟩ | ⟨a, xs, rfl, hS, cs⟩
    · obtain ⟨ty, hty, hkit⟩ := hk.isT
      exact ⟨_, rfl, _, _, _, _, false, rfl, .ty "tuple", hty, hkit, false, rfl, iteT (q H (Same.refl H))⟩
    · obtain ⟨ty, hty, hkit⟩ := (Kd.tup hS).isT
      refine ⟨_, rfl, _, _, _, _, true, rfl, .ty "tuple", hty, hkit, true, rfl, iteF ?_⟩
      refine ⟨_, rfl, a, xs, rfl, .inr hS, _, rfl, rfl, _, rfl, ?_⟩
      rcases cs with ⟨hl, rfl⟩ | ⟨hl, bs, hb, rfl⟩
      · exact iteA (bl_ne (by omega)) (q H (Same.refl H))
      · refine iteB (not_dec (congrArg V.int (by rw [hl]))) ?_
        refine ⟨_, rfl, a, rfl, ⟨_, hS⟩, fun D nD => ?_⟩
        refine lc_rep (walk_tup (xs := xs)) st_RB (fun i => bs.getD i false) (by omega) nD (fun H2 sm => Own.same_tup sm hS) (fun i x H2 H3 Q2 hi sm hY q2 => ?_) (fun H2 acc sm eD hP => ?_)
        · obtain ⟨rfl, hx⟩ := hY
          obtain ⟨bb, eb, hI⟩ := paired_get hb hx
          have hI := hI.mono sm
          have eg : bs.getD i false = bb := getD_some eb
          rw [eg] at q2
          refine ⟨rfl, ?_⟩
          cases hI with
          | int k =>
            refine ⟨_, rfl, .int k, true, rfl, isI_int k, true, rfl, iteA rfl ?_⟩
            refine ⟨_, rfl, _, _, rfl, rfl, _, rfl, ?_⟩
            by_cases h0 : 0 ≤ k
            · refine iteA (decide_eq_true h0) ⟨_, rfl, _, _, rfl, rfl, q2 _ _ (Same.refl _) ?_⟩
              show V.bl _ = V.bl _
              rw [decide_eq_true h0, Bool.true_and]
            · refine iteB (decide_eq_false h0) (q2 _ _ (Same.refl _) ?_)
              show V.bl _ = V.bl _
              rw [decide_eq_false h0, Bool.false_and]
          | oth h => exact ⟨_, rfl, x, false, rfl, h.isI, false, rfl, iteB rfl (q2 _ _ (Same.refl _) rfl)⟩
        · have e := bools_of hP
          have e2 := range_map_get (fun b : Bool => b) false bs
          rw [List.map_id', ← Paired.length hb] at e2
          rw [e2] at e
          subst e
          exact ⟨D, bs, rfl, .inl (.inl eD), q H2 sm⟩
/-! ### slices and sums of tuples -/
theorem slA_q {H : Hp} {a : Addr} {xs : List V} {lo hi : Option Int} {Q : VK} (h : SqT K H a xs) (q : ∀ t H', Same H H' → SqT K H' t (cutV xs lo hi) → Q (.ref t) H') : rSlA K (.ref a) lo hi H Q := by
  refine ⟨a, xs, rfl, h, fun ⟨h0, h1⟩ => q a H (Same.refl H) ?_, fun _ t nt => q t _ (same_new nt) (.inl (.inl upd_same))⟩
  unfold cutV
  rw [h0, h1, List.drop_zero, Nat.sub_zero, List.take_length]
  exact h
theorem catA_q {H : Hp} {a b : Addr} {xs ys : List V} {Q : VK} (hx : SqT K H a xs) (hy : SqT K H b ys) (hl : xs.length + ys.length ≤ 2000) (q : ∀ t H', Same H H' → SqT K H' t (xs ++ ys) → Q (.ref t) H') : rCatA K (.ref a) (.ref b) H Q := by
  refine ⟨a, b, xs, ys, rfl, rfl, hx, hy, Nat.le_of_lt (small2000 (by omega)), fun e => q b H (Same.refl H) ?_, fun _ e => q a H (Same.refl H) ?_, fun _ _ t nt => q t _ (same_new nt) (.inl (.inl upd_same))⟩
  · rw [e, List.nil_append]
    exact hy
  · rw [e, List.append_nil]
    exact hx
theorem cut_init {xs : List V} (h : 0 < xs.length) : cutV xs none (some (-1)) = xs.take (xs.length - 1) := by
  unfold cutV
  have e : HT.sIx xs.length xs.length (some (-1)) = xs.length - 1 := by
    show (if (-1 : Int) < 0 then ((-1 : Int) + (xs.length : Int)).toNat else min (-1 : Int).toNat xs.length) = _
    rw [if_pos (by decide)]
    omega
  rw [HT.sIx_none, e, List.drop_zero, Nat.sub_zero]
theorem cut_one {xs : List V} : cutV xs none (some 1) = xs.take 1 := by
  unfold cutV
  have e : HT.sIx xs.length xs.length (some 1) = min 1 xs.length := HT.sIx_nat _ _ 1
  rw [HT.sIx_none, e, List.drop_zero, Nat.sub_zero]
  cases xs with
  | nil => rfl
  | cons x xs => rw [show min 1 (x :: xs).length = 1 by simp]
theorem at_last {xs : List V} {x : V} (h : xs[xs.length - 1]? = some x) : atI xs (-1) = some x := by
  have h0 : 0 < xs.length := by
    have := (List.getElem?_eq_some_iff.mp h).1
    omega
  unfold atI ixN
  rw [if_neg (by decide), if_pos (by omega)]
  show xs[((-1 : Int) + (xs.length : Int)).toNat]? = some x
  rw [show ((-1 : Int) + (xs.length : Int)).toNat = xs.length - 1 by omega]
  exact h
/-! ### rows and values that are none -/
theorem rowV_good {H : Hp} {p : Int} {n : Nat} {x : V} {r : List Int} (h : RR H x r) (hr : Vr p n r) : RowV K H p n x true := by
  obtain ⟨t, rfl, ht⟩ := h
  have key : ∀ r : List Int, (∀ y ∈ r, 0 ≤ y ∧ y < p) → ∃ bs : List Bool, Paired (ItV K H p) (r.map V.int) bs ∧ bs.all id = true := by
    intro r
    induction r with
    | nil => exact fun _ => ⟨[], .nil, rfl⟩
    | cons y r ih =>
      intro h
      obtain ⟨bs, h1, h2⟩ := ih fun z hz => h z (List.mem_cons_of_mem _ hz)
      have hy := h y (List.mem_cons_self ..)
      refine ⟨_ :: bs, .cons (.int y) h1, ?_⟩
      rw [List.all_cons, h2, decide_eq_true hy.1, decide_eq_true hy.2]
      rfl
  obtain ⟨bs, h1, h2⟩ := key r hr.2
  have := RowV.yes (K := K) (H := H) (p := p) (n := n) ht.sq (by rw [List.length_map]; exact hr.1) h1
  rw [h2] at this
  exact this
theorem rowV_bad {H : Hp} {p : Int} {n : Nat} {t : Addr} {r : List Int} {x : V} (h : SqT K H t ((r.map V.int).take (n - 1) ++ [x])) (hr : Vr p n r) (h0 : 0 < n) (hx : ItV K H p x false) : RowV K H p n (.ref t) false := by
  have key : ∀ r : List Int, ∃ bs : List Bool, Paired (ItV K H p) (r.map V.int) bs := by
    intro r
    induction r with
    | nil => exact ⟨[], .nil⟩
    | cons y r ih =>
      obtain ⟨bs, h1⟩ := ih
      exact ⟨_ :: bs, .cons (.int y) h1⟩
  rw [← List.map_take] at h
  obtain ⟨bs, k1⟩ := key (r.take (n - 1))
  have := RowV.yes (K := K) (H := H) (p := p) (n := n) h (by rw [List.length_append, List.length_map, List.length_take, hr.1]; show min _ _ + 1 = n; omega) (paired_app k1 (.cons hx .nil))
  rw [List.all_append] at this
  have e : ([false] : List Bool).all id = false := rfl
  rw [e, Bool.and_false] at this
  exact this
/-! ### helpers of the law -/
theorem lc_draw {J : It} {n : Nat} {G : Hp → Prop} {Y : Nat → Hp → V → Hp → Prop} (w : Walk J n G Y) {g : TG} {te : TE} {vs : List Nat} {σ : L2.St} {H1 : Hp} {D st : Addr} {Qd : Hp → Prop} (hn : n ≤ 900) (nD : H1 D = none) (hst : StA H1 st) (hG : ∀ H, SameX st H1 H → G H)
    (hs : ∀ (i : Nat) (x : V) (H H' : Hp) (Q : VK), i < n → SameX st H1 H → StA H st → Y i H x H' → (∀ (c : Int) H2, SameX st H H2 → StA H2 st → c.natAbs < 1000 → Q (.int c) H2) → g x (wipe σ vs) H' fun σ2 H2 => wipe σ2 vs = wipe σ vs ∧ te σ2 H2 Q)
    (hd : ∀ (H : Hp) (rt : List Int), SameX st H1 H → StA H st → H D = some (.lst (rt.map V.int)) → rt.length = n → (∀ c ∈ rt, c.natAbs < 1000) → Qd H) :
    ∃ W : Nat → Nat → Hp → Prop, (∃ m, W 0 m (upd H1 D (.lst []))) ∧ ∀ i m H, W i m H →
      (J.stop i H ∧ Qd H) ∨ (J.go i H ∧ ∃ Nx : Hp → Prop, (∀ H', Nx H' → ∃ m', m' < m ∧ W (i + 1) m' H') ∧ ∀ x H', J.yld i H x H' → g x (wipe σ vs) H' fun σ2 H2 => wipe σ2 vs = wipe σ vs ∧ tYes σ2 H2 fun b H3 =>
        if b = true then te σ2 H3 fun y H4 => ∃ acc, H4 D = some (.lst acc) ∧ acc.length < sizeLine ∧ Nx (upd H4 D (.lst (acc ++ [y]))) else Nx H3) := by
  obtain ⟨s0, t0, est⟩ := hst
  have hD : st ≠ D := ne_of_none est nD
  refine lc_it w (fun i H2 => i ≤ n ∧ ∃ rt : List Int, SameX st H1 H2 ∧ StA H2 st ∧ H2 D = some (.lst (rt.map V.int)) ∧ rt.length = i ∧ ∀ c ∈ rt, c.natAbs < 1000)
    ⟨Nat.zero_le _, [], Same.x (same_new nD), ⟨s0, t0, by rw [upd_ne hD]; exact est⟩, upd_same, rfl, fun r h => by cases h⟩ (fun i H _ k => hG H (k.2.elim fun _ k => k.1)) (fun i x H2 H3 hi hP hY => ?_) (fun H2 hP => ?_)
  · obtain ⟨_, rt, sx, hst2, eD, hl, hv⟩ := hP
    obtain ⟨s1, t1, es1⟩ := id hst2
    exact hs i x H2 H3 (fun y H4 => ∃ acc, H4 D = some (.lst acc) ∧ acc.length < sizeLine ∧ (i + 1 ≤ n ∧ ∃ rt : List Int, SameX st H1 (upd H4 D (.lst (acc ++ [y]))) ∧ StA (upd H4 D (.lst (acc ++ [y]))) st ∧ (upd H4 D (.lst (acc ++ [y]))) D = some (.lst (rt.map V.int)) ∧ rt.length = i + 1 ∧ ∀ c ∈ rt, c.natAbs < 1000)) hi sx hst2 hY fun c H4 sx4 ⟨s2, t2, es2⟩ hc => by
      have eD4 := sx4 _ _ hD.symm eD
      refine ⟨rt.map V.int, eD4, small1000 (by rw [List.length_map]; omega), hi, rt ++ [c], fun b o nb hb => ?_, ⟨s2, t2, by rw [upd_ne hD]; exact es2⟩, by rw [upd_same, List.map_append]; rfl, by rw [List.length_append, hl]; rfl, fun y hy => ?_⟩
      · rw [upd_ne (ne_of_none hb nD)]
        exact sx4 b o nb (sx b o nb hb)
      · rcases List.mem_append.mp hy with hy | hy
        · exact hv y hy
        · rw [List.mem_singleton.mp hy]
          exact hc
  · obtain ⟨_, rt, sx, hst2, eD, hl, hv⟩ := hP
    exact hd H2 rt sx hst2 eD hl hv
/-! ### combine, sum_of, common_part -/
def spCombB (K : PySem.W.Frag) : Sp := fun vs H Q _ => ∃ (bb : Bool) (a b : Addr) (n : Nat) (p : Int) (us : List V) (rs : List (List Int)) (w : List Int), vs = [.ref a, .ref b, .int (n : Int), .int p] ∧ Own.SqB bb K H a us ∧ Paired (RS K H) us rs ∧ Own.SqB bb K H b (w.map V.int) ∧ w.length = rs.length ∧
  0 < p ∧ p ≤ 31 ∧ n ≤ 1000 ∧ rs.length ≤ 1000 ∧ AllV p n rs ∧ Sm w ∧ ∀ v H', Same H H' → RS K H' v (totR p n rs w) → Q v H'
theorem ok_combB (T : Txt K mg) : FnOk P w K mg base CX0 2 T.a_combine T.d_combine ["rows", "weights", "width", "p"] (spCombB K) := by
  have G_add : FnOk P w K mg base CX0 1 T.a_add T.d_add ["v", "w", "p"] (spAdd K) := ok_add T
  have G_scaled : FnOk P w K mg base CX0 1 T.a_scaled T.d_scaled ["v", "a", "p"] (spScaled K) := ok_scaled T
  have G__zeros : FnOk P w K mg base CX0 1 T.a__zeros T.d__zeros ["width"] spZeros := ok_zeros T
  refine T.F_combine.ok sc_combine (fun vs H Q E h => ?_) (fun cdv A outer s H vs Q E hr h => ?_)
  · obtain ⟨bb, a, b, n, p, us, rs, w, rfl, _⟩ := h
    rfl
  · obtain ⟨bb, a, b, n, p, us, rs, w, rfl, hS, hP, hB, hwl, hp, h31, hn, hrl, hv, hsw, q⟩ := h
    refine ⟨_, (pss_cons (ps_set (i := 4) sc_combine.nd rfl (.inl rfl) (pe_call G__zeros (hr.mono (by decide)) (by rfl) T.g__zeros T.F__zeros.kp T.b__zeros .nil pass0 (pa_cons (pv 2) pa_nil))) 
    (pss_cons (ps_for PassesOwn.never rfl (RZ.pi_zipA (by rfl) T.n_zip (pa_cons (pv 0) (pa_cons (pv 1) pa_nil))) (pg_tup rfl (pgs_cons (pg_name (i := 5) sc_combine.nd rfl (.inl rfl)) (pgs_cons (pg_name (i := 6) sc_combine.nd rfl (.inl rfl)) pgs_nil))) 
      (pss_one (ps_set (i := 4) sc_combine.nd rfl (.inl rfl) (pe_call G_add (hr.mono (by decide)) (by rfl) T.g_add T.F_add.kp T.b_add .nil pass0 (pa_cons (pv 4) (pa_cons (pe_call G_scaled (hr.mono (by decide)) (by rfl) T.g_scaled T.F_scaled.kp T.b_scaled .nil pass0 (pa_cons (pv 5) (pa_cons (pv 6) (pa_cons (pv 3) pa_nil)))) (pa_cons (pv 3) pa_nil))))))) 
    (pss_one (ps_ret (pv 4))))), ?_⟩
    refine ⟨_, rfl, n, rfl, hn, fun z H1 sm1 ez => ?_⟩
    have hul := Paired.length hP
    have hlen : rs.length = min us.length (w.map V.int).length := by rw [hul, List.length_map, hwl, Nat.min_self]
    refine ⟨_, rfl, _, rfl, a, b, us, w.map V.int, rfl, ?_⟩
    generalize hPv : (fun (i : Nat) (σ : L2.St) (H' : Hp) => ∃ (t : V) (y5 y6 : Option V), σ = [some (.ref a), some (.ref b), some (.int (n : Int)), some (.int p), some t, y5, y6] ∧ Same H H' ∧ RS K H' t (totI p n rs w i)) = Pv
    have p0 : Pv 0 [some (.ref a), some (.ref b), some (.int (n : Int)), some (.int p), some (.ref z), none, none] H1 := by
      rw [← hPv]
      exact ⟨.ref z, none, none, rfl, sm1, ⟨z, rfl, .inl (.inl ez)⟩⟩
    have pG : ∀ i σ H', i ≤ rs.length → Pv i σ H' → Own.SqB bb K H' a us ∧ Own.SqB bb K H' b (w.map V.int) := fun i σ H' _ h => by
      rw [← hPv] at h
      obtain ⟨_, _, _, _, sm, _⟩ := h
      exact ⟨Own.same_sqb sm hS, Own.same_sqb sm hB⟩
    cases bb
    rotate_left
    all_goals first
      | refine .inl ⟨Own.same_sqb (b := true) sm1 hS, Own.same_sqb (b := true) sm1 hB, for_it (walk_zip hlen) Pv p0 pG ?_ ?_⟩
      | refine .inr ⟨Own.same_sqb (b := false) sm1 hS, Own.same_sqb (b := false) sm1 hB, for_it (walk_zipT hlen) Pv p0 pG ?_ ?_⟩
    all_goals subst hPv
    all_goals first
      | (rintro i xx σ H' H2 hi hPv hY
         obtain ⟨tt, x, y, rfl, nT, rfl, hx, hy⟩ := hY
         have hy : (w.map V.int)[i]? = some y := hy
         obtain ⟨t, y5, y6, rfl, sm, hR⟩ := hPv
         obtain ⟨r, er, hRr⟩ := paired_get hP hx
         have ey : y = .int (atR w i) := by
           rw [List.getElem?_map, atR_get (by omega)] at hy
           exact (Option.some.inj hy).symm
         subst ey
         have hvr := hv r (List.mem_of_getElem? er)
         have htv := totI_vr hp hv w i (by omega)
         have s1 := same_new (o := .tup [x, .int (atR w i)]) nT
         refine ⟨tt, [x, .int (atR w i)], rfl, .inl (.inl upd_same), rfl, _, [.int (atR w i)], rfl, _, [], rfl, rfl, ?_⟩
         refine ⟨_, rfl, _, rfl, _, rfl, _, rfl, x, _, p, r, rfl, st_RS.same (sm.trans s1) hRr, hp, by rw [hvr.1]; exact hn, hsw _ (atR_mem (by omega)), hvr.sm h31, fun sv H2 sm2 hRs => ?_⟩
         have hsl := (scR_vr hp hvr.1 (atR w i)).1
         refine ⟨_, rfl, t, sv, p, _, _, rfl, st_RS.same (s1.trans sm2) hR, rs_of hRs, hp, by rw [htv.1]; exact hn, by rw [htv.1, hsl], fun tv H3 sm3 hRt => ?_⟩
         refine ⟨tv, _, _, rfl, sm.trans (s1.trans (sm2.trans sm3)), ?_⟩
         rw [totI, getD_some er]
         exact rs_of hRt)
      | (rintro σ H' ⟨t, y5, y6, rfl, sm, hR⟩
         exact ⟨_, rfl, q _ _ sm hR⟩)
def spSumOf (K : PySem.W.Frag) : Sp := fun vs H Q _ => ∃ (a b : Addr) (n : Nat) (p : Int) (A B : List (List Int)), vs = [.ref a, .ref b, .int (n : Int), .int p] ∧ Rws K H a A ∧ Rws K H b B ∧ 2 ≤ p ∧ p ≤ 31 ∧ n ≤ 1000 ∧ A.length + B.length ≤ 1000 ∧ AllV p n A ∧ AllV p n B ∧
  ∀ t us H', Same H H' → H' t = some (.tup us) → Paired (RR H') us (redT p n (A ++ B)) → Q (.ref t) H'
theorem ok_sumof (T : Txt K mg) : FnOk P w K mg base CX0 6 T.a_sum_of T.d_sum_of ["a", "b", "width", "p"] (spSumOf K) := by
  have G_span : FnOk P w K mg base CX0 5 T.a_span T.d_span ["rows", "width", "p"] (spSpan K) := ok_span T
  refine T.F_sum_of.ok sc_sum_of (fun vs H Q E h => ?_) (fun cdv A outer s H vs Q E hr h => ?_)
  · obtain ⟨a, b, n, p, A, B, rfl, _⟩ := h
    rfl
  · obtain ⟨a, b, n, p, A, B, rfl, ⟨us, hS, hP⟩, ⟨ws, hSb, hPb⟩, h2, h31, hn, hl, hA, hB, q⟩ := h
    have lu := Paired.length hP
    have lw := Paired.length hPb
    refine ⟨_, (pss_one (ps_ret (pe_call G_span (hr.mono (by decide)) (by rfl) T.g_span T.F_span.kp T.b_span .nil pass0 (pa_cons (pe_lst (StX.pa_star (pv 0) (StX.pa_star (pv 1) pa_nil))) (pa_cons (pv 2) (pa_cons (pv 3) pa_nil)))))), ?_⟩
    refine ⟨_, rfl, a, us, rfl, hS.symm, _, rfl, b, ws, rfl, hSb.symm, Nat.le_of_lt (small2000 (by rw [List.length_append, List.append_nil]; omega)), fun l nl => ?_⟩
    have s1 := same_new (o := .lst (us ++ (ws ++ []))) nl
    refine ⟨_, rfl, _, rfl, l, n, p, A ++ B, rfl, Rws.s ⟨_, .inl (.inl (.inl upd_same)), paired_app (st_RR.all s1 hP) (paired_map (paired_app (st_RR.all s1 hPb) .nil) (List.append_nil B))⟩, h2, h31, hn, by rw [List.length_append]; exact hl, hA.app hB, fun t us2 H2 sm2 et hT => q t us2 H2 (s1.trans sm2) et hT⟩
def spCommon (K : PySem.W.Frag) : Sp := fun vs H Q _ => ∃ (a b : Addr) (n : Nat) (p : Int) (us : List V) (A B : List (List Int)), vs = [.ref a, .ref b, .int (n : Int), .int p] ∧ SqT K H a us ∧ Paired (RR H) us A ∧ Rws K H b B ∧ Pr p ∧ n ≤ 1000 ∧ A.length + B.length ≤ 1000 ∧ AllV p n A ∧ AllV p n B ∧
  ∀ t us H', Same H H' → H' t = some (.tup us) → Paired (RR H') us (partR p n A B) → Q (.ref t) H'
theorem cut_nat {xs : List V} {k : Nat} (h : k ≤ xs.length) : cutV xs none (some (k : Int)) = xs.take k := by
  unfold cutV
  rw [HT.sIx_none, HT.sIx_nat, List.drop_zero, Nat.sub_zero, Nat.min_eq_left h]
theorem ok_common (T : Txt K mg) : FnOk P w K mg base CX0 8 T.a_common_part T.d_common_part ["a", "b", "width", "p"] (spCommon K) := by
  have G_span : FnOk P w K mg base CX0 5 T.a_span T.d_span ["rows", "width", "p"] (spSpan K) := ok_span T
  have G_relations : FnOk P w K mg base CX0 7 T.a_relations T.d_relations ["rows", "width", "p"] (spRelations K) := ok_relations T
  have G_combine : FnOk P w K mg base CX0 2 T.a_combine T.d_combine ["rows", "weights", "width", "p"] (spCombB K) := ok_combB T
  refine T.F_common_part.ok sc_common_part (fun vs H Q E h => ?_) (fun cdv A outer s H vs Q E hr h => ?_)
  · obtain ⟨a, b, n, p, us, A, B, rfl, _⟩ := h
    rfl
  · obtain ⟨a, b, n, p, us, A, B, rfl, hS, hP, ⟨ws, hSb, hPb⟩, Pp, hn, hl, hA, hB, q⟩ := h
    have lu := Paired.length hP
    have lw := Paired.length hPb
    have hp := Pp.pos
    refine ⟨_, (pss_cons (ps_set (i := 4) sc_common_part.nd rfl (.inr rfl) (pe_callB call_len_seq (by rfl) T.n_len (by decide +kernel) (pa_cons (pv 0) pa_nil))) 
    (pss_cons (ps_set (i := 5) sc_common_part.nd rfl (.inl rfl) (pe_call G_relations (hr.mono (by decide)) (by rfl) T.g_relations T.F_relations.kp T.b_relations .nil pass0 (pa_cons (pe_lst (StX.pa_star (pv 0) (StX.pa_star (pv 1) pa_nil))) (pa_cons (pv 2) (pa_cons (pv 3) pa_nil))))) 
    (pss_one (ps_ret (pe_call G_span (hr.mono (by decide)) (by rfl) T.g_span T.F_span.kp T.b_span .nil pass0 (pa_cons (pe_lc (own := [("weights", 6)]) rfl sc_common_part.nd (pi_tup (pv 5)) (blkOk_by (N := N_common_part) (sc := defScope s_common_part) (own := [("weights", 6)]) (by decide +kernel)) (fun _ _ _ _ _ => (pg_name (i := 6) sc_common_part.nd rfl (.inl rfl))) (fun _ _ _ _ _ => pts_nil) (fun _ _ _ _ _ => (pe_call G_combine (hr.mono (by decide)) (by rfl) T.g_combine T.F_combine.kp T.b_combine .nil pass0 (pa_cons (pv 0) (pa_cons (pe_slice (show SlR _ (rSlA K) from sl_tupA) (pv 6) po_none (po_some (pv 4))) (pa_cons (pv 2) (pa_cons (pv 3) pa_nil))))))) (pa_cons (pv 2) (pa_cons (pv 3) pa_nil)))))))), ?_⟩
    refine ⟨_, rfl, a, us, rfl, .inr hS, ?_⟩
    rw [lu]
    refine ⟨_, rfl, a, us, rfl, .inl hS, _, rfl, b, ws, rfl, hSb.symm, Nat.le_of_lt (small2000 (by rw [List.length_append, List.append_nil]; omega)), fun l nl => ?_⟩
    have s1 := same_new (o := .lst (us ++ (ws ++ []))) nl
    refine ⟨_, rfl, _, rfl, l, n, p, A ++ B, rfl, ⟨_, .inl (.inl (.inl upd_same)), paired_app (st_RR.all s1 hP) (paired_map (paired_app (st_RR.all s1 hPb) .nil) (List.append_nil B))⟩, Pp, hn, by rw [List.length_append]; exact hl, hA.app hB, fun t tus H2 sm2 et hT => ?_⟩
    have smA := s1.trans sm2
    have hW := pairs_vr (n := n) Pp A B
    have hT : Paired (RR H2) tus (pairsR p n A B) := hT
    have ltu := Paired.length hT
    have hrl := rel_len Pp (hA.app hB)
    rw [List.length_append] at hrl
    have hwl : (pairsR p n A B).length ≤ 1000 := by
      have e : (kerR p (A ++ B).length (colR (A ++ B) n)).length = (pairsR p n A B).length := rfl
      rw [List.length_append] at e
      omega
    refine ⟨_, rfl, t, rfl, ⟨_, .inl (.inl et)⟩, fun D nD => ?_⟩
    refine lc_rep (walk_tup (xs := tus)) (st_RS (K := K)) (fun i => totR p n A (((pairsR p n A B).getD i []).take A.length)) (by omega) nD (fun H3 sm => .inl (.inl (sm _ _ et))) (fun i x H3 H4 Q2 hi sm3 hY q2 => ?_) (fun H3 acc sm3 eD hPa => ?_)
    · obtain ⟨rfl, hx⟩ := hY
      obtain ⟨v, ev, tv, rfl, htv⟩ := paired_get hT hx
      have hvv := hW v (List.mem_of_getElem? ev)
      rw [getD_some ev] at q2
      refine ⟨rfl, ?_⟩
      refine ⟨_, rfl, _, rfl, _, rfl, (A.length : Int), rfl, slA_q (htv.mono sm3).sq fun u H5 sm5 hU => ?_⟩
      rw [cut_nat (by rw [List.length_map, hvv.1, List.length_append]; omega), ← List.map_take] at hU
      have smB := smA.trans (sm3.trans sm5)
      refine ⟨_, rfl, _, rfl, false, a, u, n, p, us, A, v.take A.length, rfl, Own.same_tup smB hS, rs_all (st_RR.all smB hP), hU, by rw [List.length_take, hvv.1, List.length_append]; omega, hp, Pp.le, hn, by omega, hA, fun x hx => hvv.sm Pp.le x (List.mem_of_mem_take hx), fun rv H6 sm6 hR => q2 rv H6 (sm5.trans sm6) hR⟩
    · rw [ltu] at hPa
      have hPa : Paired (RS K H3) acc (partF p n A B) := by
        have e := range_map_get (fun w : List Int => totR p n A (w.take A.length)) [] (pairsR p n A B)
        rw [e] at hPa
        exact hPa
      refine ⟨_, rfl, _, rfl, D, n, p, partF p n A B, rfl, ⟨acc, .inl (.inl (.inl eD)), hPa⟩, Pp.two, Pp.le, hn, by unfold partF; rw [List.length_map]; exact hwl, partF_vr Pp hA B, fun t2 us2 H5 sm5 e2 hR => q t2 us2 H5 (smA.trans (sm3.trans sm5)) e2 hR⟩
/-! ### all_rows -/
def spAllRows (K : PySem.W.Frag) : Gn.SpN := fun vs H Q => ∃ (a : Addr) (n : Nat) (p : Int) (tb : List (List Int)) (ks : List Nat) (us : List V), vs = [.ref a, .int (n : Int), .int p] ∧ SqT K H a us ∧ Paired (RR H) us tb ∧ Form p n tb ks ∧ Pr p ∧ n ≤ 1000 ∧ (lspanS p n tb).length ≤ 2000 ∧
  ∀ ys H', Same H H' → Paired (RS K H') ys (lspanS p n tb) → Q ys H'
theorem ok_allrows (T : Txt K mg) : Gn.GDef P w K mg base 2 T.a_all_rows T.d_all_rows ["space", "width", "p"] (spAllRows K) := by
  have G_add : FnOk P w K mg base CX0 1 T.a_add T.d_add ["v", "w", "p"] (spAdd K) := ok_add T
  have G__zeros : FnOk P w K mg base CX0 1 T.a__zeros T.d__zeros ["width"] spZeros := ok_zeros T
  obtain ⟨oc, od, kV, doc, pm, an, cdv, ct, osl, e, lk, hcd⟩ := T.F_all_rows.ex
  rw [e] at lk ⊢
  refine Gn.gdef_of (N := N_all_rows) lk hcd sc_all_rows (fun vs H Q h => ?_) (fun A outer s H vs Q pn hr h => ?_)
  · obtain ⟨a, n, p, tb, ks, us, rfl, _⟩ := h
    rfl
  · obtain ⟨a, n, p, tb, ks, us, rfl, hS, hP, F, Pp, hn, hlen, q⟩ := h
    have hp := Pp.pos
    have h2 := Pp.two
    have hul := Paired.length hP
    have hall := rem_all Pp F
    refine ⟨_, (Gn.sg_cons (Gn.sg_ps (ps_set (i := 3) sc_all_rows.nd rfl (.inl rfl) (pe_call G__zeros (hr.mono (by decide)) (by rfl) T.g__zeros T.F__zeros.kp T.b__zeros .nil pass0 (pa_cons (pv 1) pa_nil)))) 
    (Gn.sg_cons (Gn.sg_yield (pv 3)) 
    (Gn.sg_cons (Gn.sg_ps (ps_set (i := 4) sc_all_rows.nd rfl (.inl rfl) (pe_op op_subL (pe_callB call_len_seq (by rfl) T.n_len (by decide +kernel) (pa_cons (pv 0) pa_nil)) pe_int))) 
    (Gn.sg_cons (Gn.sg_while (pt_cmpR op_ge (pv 4) pe_int (nomark _)) 
      (Gn.sg_cons (Gn.sg_ps (ps_set (i := 3) sc_all_rows.nd rfl (.inl rfl) (pe_call G_add (hr.mono (by decide)) (by rfl) T.g_add T.F_add.kp T.b_add .nil pass0 (pa_cons (pv 3) (pa_cons (pe_ix (show IxR _ (rIxT K) from ix_tup) (pv 0) (pv 4) (fun _ _ => rfl)) (pa_cons (pv 2) pa_nil)))))) 
      (Gn.sg_cons (Gn.sg_if (pt_cmpR op_eq (pe_ix (show IxR _ (rIxT K) from ix_tup) (pv 3) (Own.pe_bmT PySem.F.plainAttrs_tuple PySem.F.slot_tuple_index PySem.F.type_tuple_index Own.mt_tup_indexI (pe_ix (show IxR _ (rIxT K) from ix_tup) (pv 0) (pv 4) (fun _ _ => rfl)) (pa_cons pe_int pa_nil)) (fun _ _ => rfl)) pe_int (nomark _)) 
        (Gn.sg_cons (Gn.sg_ps (ps_aug (i := 4) sc_all_rows.nd rfl (.inl rfl) pe_int ip_sub)) 
        Gn.sg_nil) 
        (Gn.sg_cons (Gn.sg_yield (pv 3)) 
        (Gn.sg_cons (Gn.sg_ps (ps_set (i := 4) sc_all_rows.nd rfl (.inl rfl) (pe_op op_subL (pe_callB call_len_seq (by rfl) T.n_len (by decide +kernel) (pa_cons (pv 0) pa_nil)) pe_int))) 
        Gn.sg_nil))) 
      Gn.sg_nil))) 
    Gn.sg_nil)))), ?_⟩
    refine ⟨_, rfl, n, rfl, hn, fun z H1 sm1 ez => ?_⟩
    refine ⟨by show (0 : Nat) < sizeLine; decide, _, rfl, ?_⟩
    refine ⟨_, rfl, a, us, rfl, .inr (Own.same_tup sm1 hS), _, _, rfl, rfl, fun z1 hz1 => ?_⟩
    refine ⟨fun m ys σ H' => ∃ (k : Nat) (v : List Int) (rv : V) (at_ : Int) (done : List (List Int)), σ = [some (.ref a), some (.int (n : Int)), some (.int p), some rv, some (.int at_)] ∧ at_ = (k : Int) - 1 ∧ k ≤ tb.length ∧ Same H H' ∧ RS K H' rv v ∧ Vr p n v ∧ Zd tb k v ∧
      m = (remR p tb k v).length * (tb.length + 1) + k ∧ Paired (RS K H') ys done ∧ done ++ remR p tb k v = lspanS p n tb,
      ⟨_, tb.length, zeroR n, .ref z, z1, [zeroR n], rfl, by rw [hz1, hul], Nat.le_refl _, sm1, ⟨z, rfl, .inl (.inl ez)⟩, zeroR_vr hp n, fun _ _ _ _ => atR_zero, rfl, .cons ⟨z, rfl, .inl (.inl ez)⟩ .nil, hall⟩, ?_⟩
    rintro m ys σ H2 ⟨k, v, rv, at_, done, rfl, eat, hk, sm, hR, hv, hz, rfl, hD, htot⟩
    have hdl : done.length ≤ 2000 := by
      have := congrArg List.length htot
      rw [List.length_append] at this
      omega
    refine ⟨_, rfl, _, _, rfl, rfl, _, rfl, ?_⟩
    cases k with
    | zero =>
      refine iteB (decide_eq_false (by omega)) fun _ => q ys H2 sm ?_
      rw [remR, List.append_nil] at htot
      rw [← htot]
      exact hD
    | succ k =>
      have eat : at_ = (k : Int) := by omega
      subst eat
      refine iteA (decide_eq_true (by omega)) ⟨fun ys' σ' H' => ∃ m', m' < (remR p tb (k + 1) v).length * (tb.length + 1) + (k + 1) ∧ ∃ (k : Nat) (v : List Int) (rv : V) (at_ : Int) (done : List (List Int)), σ' = [some (.ref a), some (.int (n : Int)), some (.int p), some rv, some (.int at_)] ∧ at_ = (k : Int) - 1 ∧ k ≤ tb.length ∧ Same H H' ∧ RS K H' rv v ∧ Vr p n v ∧ Zd tb k v ∧
        m' = (remR p tb k v).length * (tb.length + 1) + k ∧ Paired (RS K H') ys' done ∧ done ++ remR p tb k v = lspanS p n tb, fun _ _ _ h => h, ?_⟩
      have et : tb[k]? = some tb[k] := List.getElem?_eq_getElem hk
      obtain ⟨x, ex, tx, rfl, htx⟩ := paired_get2 hP et
      have hvt := F.vr _ (List.getElem_mem hk)
      generalize tb[k] = t at et htx hvt
      obtain ⟨q1, _, eq1, hq1⟩ := form_one F et
      obtain ⟨g1, g2⟩ := oneAt_get (by rw [hvt.1, eq1]; exact hq1)
      have hS2 := Own.same_tup sm hS
      have htx2 := htx.mono sm
      -- row = add(row, space[at], p)
      refine ⟨_, rfl, _, rfl, _, rfl, a, us, _, .ref tx, rfl, rfl, hS2, atI_nat ex, _, rfl, rv, .ref tx, p, v, t, rfl, hR, rs_of ⟨tx, rfl, htx2⟩, hp, by rw [hv.1]; exact hn, by rw [hv.1, hvt.1], fun nv H3 sm3 hRn => ?_⟩
      have hS3 := Own.same_tup sm3 hS2
      have htx3 := htx2.mono sm3
      have hv1 : Vr p n (addR p v t) := addR_vr hp hv hvt
      obtain ⟨ta, rfl, hta⟩ := hRn
      obtain ⟨ob, hob, eob⟩ := id htx3
      have h1n : oneAt t < n := by rw [eq1]; exact hq1
      refine ⟨_, rfl, _, rfl, _, rfl, a, us, _, .ref tx, rfl, rfl, hS3, atI_nat ex, ⟨tx, ob, _, rfl, hob, eob⟩, tx, t, 1, oneAt t, rfl, rfl, htx3.sq, g1, g2, ta, _, _, _, rfl, rfl, hta.sq, atV (by rw [hv1.1]; exact h1n), rfl, _, rfl, ?_⟩
      by_cases h0 : atR (addR p v t) (oneAt t) = 0
      · refine iteA (decide_eq_true (congrArg V.int h0)) ?_
        have er := rem_over h2 F et hv h0
        refine ⟨_, rfl, _, _, rfl, rfl, ?_⟩
        refine ⟨_, ?_, k, _, .ref ta, _, done, rfl, rfl, by omega, sm.trans sm3, rs_of ⟨ta, rfl, hta⟩, hv1, zd_over hp F et hv hz h0, rfl, st_RS.all sm3 hD, by rw [← er]; exact htot⟩
        rw [← er]
        omega
      · refine iteB (decide_eq_false fun e => h0 (V.int.inj e)) ?_
        have er := rem_on h2 F et hv hz h0
        have hyl := Paired.length hD
        refine ⟨by rw [hyl]; exact small2000 (by omega), _, rfl, ?_⟩
        refine ⟨_, rfl, a, us, rfl, .inr hS3, _, _, rfl, rfl, fun z2 hz2 => ?_⟩
        refine ⟨_, ?_, tb.length, _, .ref ta, _, done ++ [addR p v t], rfl, by rw [hz2, hul], Nat.le_refl _, sm.trans sm3, rs_of ⟨ta, rfl, hta⟩, hv1, fun i r hi e => ?_, rfl, paired_add (st_RS.all sm3 hD) (rs_of ⟨ta, rfl, hta⟩), by rw [List.append_assoc, List.singleton_append, ← er]; exact htot⟩
        · rw [er, List.length_cons, Nat.add_mul, Nat.one_mul]
          omega
        · have := (List.getElem?_eq_some_iff.mp e).1
          omega
/-! ### _law_kinds -/
theorem rowV_one {H : Hp} {p : Int} {n : Nat} {t : Addr} {x : V} (h : SqT K H t [x]) (hx : ItV K H p x false) : RowV K H p n (.ref t) false := by
  by_cases e : n = 1
  · subst e
    exact RowV.yes h rfl (.cons hx .nil)
  · exact .len h (fun z => e z.symm)
def spKinds (K : PySem.W.Frag) : Sp := fun vs H Q _ => ∃ (x : V) (n : Nat) (p : Int) (r : List Int), vs = [x, .int (n : Int), .int p] ∧ RR H x r ∧ Vr p n r ∧ n ≤ 100 ∧ ∀ H', Same H H' → Q (.bl true) H'
theorem ok_kinds (T : Txt K mg) : FnOk P w K mg base CX0 3 T.a__law_kinds T.d__law_kinds ["v", "n", "p"] (spKinds K) := by
  have G_is_row : FnOk P w K mg base CX0 2 T.a_is_row T.d_is_row ["value", "p", "n"] (spIsRow K) := ok_isrow T
  refine T.F__law_kinds.ok sc__law_kinds (fun vs H Q E h => ?_) (fun cdv A outer s H vs Q E hr h => ?_)
  · obtain ⟨x, n, p, r, rfl, _⟩ := h
    rfl
  · obtain ⟨x, n, p, r, rfl, hR, hvr, hn, q⟩ := h
    refine ⟨_, (C8.pss_cut (ps_set (i := 3) sc__law_kinds.nd rfl (.inl rfl) (pe_lst (pa_cons (pe_callTy call_list_of (by rfl) T.n_list (by decide +kernel) (pa_cons (pv 0) pa_nil)) (pa_cons (pe_op op_catA (pv 0) (pe_tup (pa_cons pe_int pa_nil))) (pa_cons pe_non (pa_cons pe_int (pa_cons pe_str (pa_cons (pe_tup (pa_cons pe_non pa_nil)) (pa_cons pe_bl pa_nil))))))))) 
    (C8.pss_cut (ps_if (pt_cmpR op_gt (pv 1) pe_int (nomark _)) 
      (pss_one (ps_set (i := 3) sc__law_kinds.nd rfl (.inl rfl) (pe_op op_cat (pv 3) (pe_lst (pa_cons (pe_op op_catA (pe_slice sl_tupA (pv 0) po_none (po_some (pe_un un_neg pe_int))) (pe_tup (pa_cons (pv 2) pa_nil))) (pa_cons (pe_op op_catA (pe_slice sl_tupA (pv 0) po_none (po_some (pe_un un_neg pe_int))) (pe_tup (pa_cons (pe_un un_neg pe_int) pa_nil))) (pa_cons (pe_op op_catA (pe_slice sl_tupA (pv 0) po_none (po_some (pe_un un_neg pe_int))) (pe_tup (pa_cons pe_bl pa_nil))) (pa_cons (pe_op op_catA (pe_slice sl_tupA (pv 0) po_none (po_some (pe_un un_neg pe_int))) (pe_tup (pa_cons pe_non pa_nil))) (pa_cons (pe_op op_catA (pe_slice sl_tupA (pv 0) po_none (po_some (pe_un un_neg pe_int))) (pe_tup (pa_cons (pe_tup pa_nil) pa_nil))) (pa_cons (pe_slice sl_tupA (pv 0) po_none (po_some (pe_un un_neg pe_int))) pa_nil)))))))))) pss_nil) 
    (pss_one (ps_ret (pe_and (pe_cmpR op_is_bl (pe_call G_is_row (hr.mono (by decide)) (by rfl) T.g_is_row T.F_is_row.kp T.b_is_row .nil pass0 (pa_cons (pv 0) (pa_cons (pv 2) (pa_cons (pv 1) pa_nil)))) pe_bl (nomark _)) (pe_one (pe_cmpR op_eq (pe_callB call_len_seq (by rfl) T.n_len (by decide +kernel) (pa_cons (pe_lc (own := [("value", 4)]) rfl sc__law_kinds.nd (pi_list (pv 3)) (blkOk_by (N := N__law_kinds) (sc := defScope s__law_kinds) (own := [("value", 4)]) (by decide +kernel)) (fun _ _ _ _ _ => (pg_name (i := 4) sc__law_kinds.nd rfl (.inl rfl))) (fun _ _ _ _ _ => (pts_one (pt_cmpR op_isnot_bl (pe_call G_is_row (hr.mono (by decide)) (by rfl) T.g_is_row T.F_is_row.kp T.b_is_row .nil pass0 (pa_cons (pv 4) (pa_cons (pv 2) (pa_cons (pv 1) pa_nil)))) pe_bl (nomark _)))) (fun _ _ _ _ _ => (pv 4))) pa_nil)) pe_int (nomark _)))))))), ?_⟩
    have hR0 := hR
    obtain ⟨t, rfl, ht⟩ := hR
    have hS : SqT K H t (r.map V.int) := ht.sq
    have hrl : (r.map V.int).length = n := by rw [List.length_map]; exact hvr.1
    refine ⟨fun σ H' => Same H H' ∧ ∃ (wl : Addr) (ws : List V), H' wl = some (.lst ws) ∧ ws.length ≤ 20 ∧ (∀ x ∈ ws, RowV K H' p n x false) ∧ σ = [some (.ref t), some (.int (n : Int)), some (.int p), some (.ref wl), none], ?_, ?_⟩
    · refine ⟨_, rfl, t, _, rfl, .inr hS, fun l nl => ?_⟩
      have s1 := same_new (o := .lst (r.map V.int)) nl
      have w1 : RowV K (upd H l (.lst (r.map V.int))) p n (.ref l) false := .no (.lst upd_same)
      refine ⟨_, rfl, by show 1 ≤ sizeLine; decide, fun t2 n2 => ?_⟩
      have s2 := same_new (o := .tup [V.int 0]) n2
      refine catA_q (Own.same_tup (s1.trans s2) hS) (.inl (.inl upd_same)) (by rw [hrl]; show n + 1 ≤ 2000; omega) fun t3 H3 s3 hT3 => ?_
      have w2 : RowV K H3 p n (.ref t3) false := .len hT3 (by rw [List.length_append, hrl]; show n + 1 ≠ n; omega)
      refine ⟨by show 1 ≤ sizeLine; decide, fun t4 n4 => ?_⟩
      have s4 := same_new (o := .tup [V.non]) n4
      have w3 : RowV K (upd H3 t4 (.tup [V.non])) p n (.ref t4) false := rowV_one (.inl (.inl upd_same)) (.oth .non)
      refine ⟨by show 7 ≤ sizeLine; decide, fun wl nwl => ?_⟩
      have s5 := same_new (o := .lst [V.ref l, .ref t3, .non, .int 1, .str "0", .ref t4, .bl true]) nwl
      refine ⟨s1.trans (s2.trans (s3.trans (s4.trans s5))), wl, _, upd_same, by show 7 ≤ 20; decide, fun x hx => ?_, rfl⟩
      simp only [List.mem_cons, List.not_mem_nil, or_false] at hx
      rcases hx with rfl | rfl | rfl | rfl | rfl | rfl | rfl
      · exact w1.mono (s2.trans (s3.trans (s4.trans s5)))
      · exact w2.mono (s4.trans s5)
      · exact .no .non
      · exact .no (.int 1)
      · exact .no (.str _)
      · exact w3.mono s5
      · exact .no (.bl true)
    rintro σ1 H1 ⟨sm1, wl, ws, ewl, hwl, hww, rfl⟩
    refine ⟨fun σ H' => Same H H' ∧ ∃ (wl : Addr) (ws : List V), H' wl = some (.lst ws) ∧ ws.length ≤ 100 ∧ (∀ x ∈ ws, RowV K H' p n x false) ∧ σ = [some (.ref t), some (.int (n : Int)), some (.int p), some (.ref wl), none], ?_, ?_⟩
    · refine ⟨_, rfl, _, _, rfl, rfl, _, rfl, ite2 (fun c => ?_) (fun c => ?_)⟩
      · have h0 : 0 < n := by
          have := of_decide_eq_true c
          omega
        have hS1 := Own.same_tup sm1 hS
        have hlt : ((r.map V.int).take (n - 1)).length ≤ 1000 := by rw [List.length_take]; omega
        have hp0 : ∀ H, ItV K H p (.int p) false := fun H => by
          have := ItV.int (K := K) (H := H) (p := p) p
          rw [decide_eq_false (Int.lt_irrefl p), Bool.and_false] at this
          exact this
        refine ⟨_, rfl, ?_⟩
        -- (p,)
        refine ⟨_, rfl, 1, rfl, _, rfl, slA_q hS1 fun u1 G1 g1 hU1 => ?_⟩
        rw [cut_init (by omega), hrl] at hU1
        refine ⟨_, rfl, by show 1 ≤ sizeLine; decide, fun u2 n2 => ?_⟩
        have g2 := same_new (o := .tup [V.int p]) n2
        refine catA_q (Own.same_tup g2 hU1) (.inl (.inl upd_same)) (by show _ + 1 ≤ 2000; omega) fun u3 G3 g3 hU3 => ?_
        have v1 : RowV K G3 p n (.ref u3) false := rowV_bad hU3 hvr h0 (hp0 _)
        have c3 := g1.trans (g2.trans g3)
        have hS3 := Own.same_tup c3 hS1
        clear hU1 hU3 g1 g2 g3 n2
        -- (-1,)
        refine ⟨_, rfl, 1, rfl, _, rfl, slA_q hS3 fun u4 G4 g1 hU1 => ?_⟩
        rw [cut_init (by omega), hrl] at hU1
        refine ⟨1, rfl, by show 1 ≤ sizeLine; decide, fun u5 n2 => ?_⟩
        have g2 := same_new (o := .tup [V.int (-1)]) n2
        refine catA_q (Own.same_tup g2 hU1) (.inl (.inl upd_same)) (by show _ + 1 ≤ 2000; omega) fun u6 G6 g3 hU3 => ?_
        have v2 : RowV K G6 p n (.ref u6) false := rowV_bad hU3 hvr h0 (by
          have := ItV.int (K := K) (H := G6) (p := p) (-1)
          rw [decide_eq_false (by decide), Bool.false_and] at this
          exact this)
        have c6 := g1.trans (g2.trans g3)
        have v1 := v1.mono c6
        have hS6 := Own.same_tup c6 hS3
        clear hU1 hU3 g1 g2 g3 n2
        -- (True,)
        refine ⟨_, rfl, 1, rfl, _, rfl, slA_q hS6 fun u7 G7 g1 hU1 => ?_⟩
        rw [cut_init (by omega), hrl] at hU1
        refine ⟨by show 1 ≤ sizeLine; decide, fun u8 n2 => ?_⟩
        have g2 := same_new (o := .tup [V.bl true]) n2
        refine catA_q (Own.same_tup g2 hU1) (.inl (.inl upd_same)) (by show _ + 1 ≤ 2000; omega) fun u9 G9 g3 hU3 => ?_
        have v3 : RowV K G9 p n (.ref u9) false := rowV_bad hU3 hvr h0 (.oth (.bl true))
        have c9 := g1.trans (g2.trans g3)
        have v1 := v1.mono c9
        have v2 := v2.mono c9
        have hS9 := Own.same_tup c9 hS6
        clear hU1 hU3 g1 g2 g3 n2
        -- (None,)
        refine ⟨_, rfl, 1, rfl, _, rfl, slA_q hS9 fun u10 G10 g1 hU1 => ?_⟩
        rw [cut_init (by omega), hrl] at hU1
        refine ⟨by show 1 ≤ sizeLine; decide, fun u11 n2 => ?_⟩
        have g2 := same_new (o := .tup [V.non]) n2
        refine catA_q (Own.same_tup g2 hU1) (.inl (.inl upd_same)) (by show _ + 1 ≤ 2000; omega) fun u12 G12 g3 hU3 => ?_
        have v4 : RowV K G12 p n (.ref u12) false := rowV_bad hU3 hvr h0 (.oth .non)
        have c12 := g1.trans (g2.trans g3)
        have v1 := v1.mono c12
        have v2 := v2.mono c12
        have v3 := v3.mono c12
        have hS12 := Own.same_tup c12 hS9
        clear hU1 hU3 g1 g2 g3 n2
        -- ((),)
        refine ⟨_, rfl, 1, rfl, _, rfl, slA_q hS12 fun u13 G13 g1 hU1 => ?_⟩
        rw [cut_init (by omega), hrl] at hU1
        refine ⟨by show 0 ≤ sizeLine; decide, fun u14 n1 => ?_⟩
        have g2 := same_new (o := .tup ([] : List V)) n1
        refine ⟨by show 1 ≤ sizeLine; decide, fun u15 n2 => ?_⟩
        have g3 := same_new (o := .tup [V.ref u14]) n2
        refine catA_q (Own.same_tup (g2.trans g3) hU1) (.inl (.inl upd_same)) (by show _ + 1 ≤ 2000; omega) fun u16 G16 g4 hU3 => ?_
        have v5 : RowV K G16 p n (.ref u16) false := rowV_bad hU3 hvr h0 (.oth (.tup (.inl (.inl ((g3.trans g4) _ _ upd_same)))))
        have c16 := g1.trans (g2.trans (g3.trans g4))
        have v1 := v1.mono c16
        have v2 := v2.mono c16
        have v3 := v3.mono c16
        have v4 := v4.mono c16
        have hS16 := Own.same_tup c16 hS12
        clear hU1 hU3 g1 g2 g3 g4 n2 n1
        -- v[:-1]
        refine ⟨_, rfl, 1, rfl, _, rfl, slA_q hS16 fun u17 G17 g1 hU1 => ?_⟩
        rw [cut_init (by omega), hrl] at hU1
        have v6 : RowV K G17 p n (.ref u17) false := .len hU1 (by rw [List.length_take]; omega)
        have c17 := c3.trans (c6.trans (c9.trans (c12.trans (c16.trans g1))))
        refine ⟨by show 6 ≤ sizeLine; decide, fun l6 nl6 => ?_⟩
        have g5 := same_new (o := .lst [V.ref u3, .ref u6, .ref u9, .ref u12, .ref u16, .ref u17]) nl6
        have c18 := c17.trans g5
        refine ⟨wl, l6, _, _, rfl, rfl, c18 _ _ ewl, upd_same, Nat.le_of_lt (small2000 (by show ws.length + 6 ≤ 100000; omega)), fun w2 nw2 => ?_⟩
        have g6 := same_new (o := .lst (ws ++ [V.ref u3, .ref u6, .ref u9, .ref u12, .ref u16, .ref u17])) nw2
        refine ⟨sm1.trans (c18.trans g6), w2, _, upd_same, by rw [List.length_append]; show ws.length + 6 ≤ 100; omega, fun x hx => ?_, rfl⟩
        have g7 := g5.trans g6
        rcases List.mem_append.mp hx with hx | hx
        · exact (hww x hx).mono (c18.trans g6)
        · simp only [List.mem_cons, List.not_mem_nil, or_false] at hx
          rcases hx with rfl | rfl | rfl | rfl | rfl | rfl
          · exact v1.mono (g1.trans g7)
          · exact v2.mono (g1.trans g7)
          · exact v3.mono (g1.trans g7)
          · exact v4.mono (g1.trans g7)
          · exact v5.mono (g1.trans g7)
          · exact v6.mono g7
      · exact ⟨sm1, wl, ws, ewl, by omega, hww, rfl⟩
    rintro σ2 H2 ⟨sm2, wl2, ws2, ewl2, hwl2, hww2, rfl⟩
    refine ⟨_, rfl, _, rfl, _, rfl, .ref t, p, n, true, rfl, by omega, rowV_good (st_RR.same sm2 hR0) hvr, fun H3 sm3 => ⟨_, _, rfl, rfl, true, rfl, iteA rfl ?_⟩⟩
    refine ⟨_, rfl, wl2, rfl, ⟨_, .inl (.inl (sm3 _ _ ewl2))⟩, fun D nD => ?_⟩
    refine lc_filt (walk_list (xs := ws2)) st_RI (fun _ => false) (fun _ => (0 : Int)) (by omega) nD (fun H2 sm => .inl (.inl (sm _ _ (sm3 _ _ ewl2)))) (fun i x H4 H5 Q2 N2 hi sm4 hY q2 nq => ?_) (fun H4 acc sm4 eD hPa => ?_)
    · obtain ⟨rfl, hx⟩ := hY
      have hw := (hww2 x (List.mem_of_getElem? hx)).mono (sm3.trans sm4)
      exact ⟨rfl, _, rfl, _, rfl, _, rfl, x, p, n, false, rfl, by omega, hw, fun H6 sm6 => ⟨_, _, rfl, rfl, _, rfl, iteB rfl (nq rfl _ sm6)⟩⟩
    · have e : (List.range ws2.length).filter (fun _ => false) = [] := by rw [List.filter_eq_nil_iff]; exact fun _ _ => Bool.false_ne_true
      rw [e] at hPa
      have hl : acc.length = 0 := Paired.length hPa
      have ed : decide (V.int ((0 : Nat) : Int) = V.int 0) = true := decide_eq_true rfl
      refine ⟨D, acc, rfl, .inl (.inl (.inl eD)), rfl, ?_⟩
      rw [hl, ed]
      exact q H4 (sm2.trans (sm3.trans sm4))
/-! ### dot, unsolved, solve, coordinates, _law_independent -/
def spDot (K : PySem.W.Frag) : Sp := fun vs H Q _ => ∃ (a b : V) (p : Int) (v w : List Int), vs = [a, b, .int p] ∧ RS K H a v ∧ RS K H b w ∧ 0 < p ∧ v.length ≤ 1000 ∧ v.length = w.length ∧ Sm v ∧ Sm w ∧ ∀ H', Same H H' → Q (.int (dotN v.length v w % p)) H'
theorem ok_dot (T : Txt K mg) : FnOk P w K mg base CX0 1 T.a_dot T.d_dot ["v", "w", "p"] (spDot K) := by
  refine T.F_dot.ok sc_dot (fun vs H Q E h => ?_) (fun cdv A outer s H vs Q E hr h => ?_)
  · obtain ⟨a, b, p, v, w, rfl, _⟩ := h
    rfl
  · obtain ⟨_, _, p, v, w, rfl, ⟨a, rfl, ea⟩, ⟨b, rfl, eb⟩, hp, hl, hvw, hsv, hsw, q⟩ := h
    refine ⟨_, (pss_one (ps_ret (pe_op op_modE (pe_callB (cr_sum rfl) (by rfl) T.n_sum (by decide +kernel) (pa_cons (pe_lc (own := [("x", 3), ("y", 4)]) (g := gTup K 2 (gCons (gName 3) (gCons (gName 4) gNil))) rfl sc_dot.nd (RZ.pi_zipA (by rfl) T.n_zip (pa_cons (pv 0) (pa_cons (pv 1) pa_nil))) (blkOk_by (N := N_dot) (sc := defScope s_dot) (own := [("x", 3), ("y", 4)]) (by decide +kernel)) (fun _ _ _ _ _ => by exact (pg_tup rfl (pgs_cons (pg_name (i := 3) sc_dot.nd rfl (.inl rfl)) (pgs_cons (pg_name (i := 4) sc_dot.nd rfl (.inl rfl)) pgs_nil)))) (fun _ _ _ _ _ => pts_nil) (fun _ _ _ _ _ => (pe_op op_mulW (pv 3) (pv 4)))) pa_nil)) (pv 2)))), ?_⟩
    refine ⟨_, rfl, _, rfl, a, b, v.map V.int, w.map V.int, rfl, .inr ⟨ea, eb, fun D nD => ?_⟩⟩
    refine lc_rep (walk_zipT (n := v.length) (by rw [List.length_map, List.length_map, ← hvw, Nat.min_self])) st_RI (fun i => atR v i * atR w i) (by omega) nD (fun H2 sm => ⟨Own.same_tup sm ea, Own.same_tup sm eb⟩) (fun i x H2 H3 Q2 hi sm hY q2 => ?_) (fun H2 acc sm eD hP => ?_)
    · obtain ⟨t, x1, x2, rfl, nt, rfl, g1, g2⟩ := hY
      have g1 : (v.map V.int)[i]? = some x1 := g1
      have g2 : (w.map V.int)[i]? = some x2 := g2
      have e1 : x1 = .int (atR v i) := by
        rw [List.getElem?_map, atR_get hi] at g1
        exact (Option.some.inj g1).symm
      have e2 : x2 = .int (atR w i) := by
        rw [List.getElem?_map, atR_get (by omega)] at g2
        exact (Option.some.inj g2).symm
      subst e1 e2
      refine ⟨t, [.int (atR v i), .int (atR w i)], rfl, .inl (.inl upd_same), rfl, _, [.int (atR w i)], rfl, _, [], rfl, rfl, rfl, ?_⟩
      exact ⟨_, rfl, _, rfl, _, _, rfl, rfl, wide_mul (hsv _ (atR_mem hi)) (hsw _ (atR_mem (by omega))) (by decide) (by decide) (by decide), q2 _ _ (same_new nt) rfl⟩
    · have e := ints_of hP
      subst e
      refine ⟨D, _, rfl, .inl (.inl eD), _, rfl, _, _, rfl, rfl, hp, ?_⟩
      rw [sumN_range]
      exact q _ sm
/-! ### the law -/
def sp_law (K : PySem.W.Frag) : Sp := fun vs H Q _ => ∃ (a : Addr) (ns : List Int), vs = [.ref a] ∧ SqL K H a (ns.map V.int) ∧ ns.length ≤ 63 ∧ ∀ H', Q (.bl true) H'
theorem all_len4 {p : Int} : ∀ n : Nat, (allR p n).length = p.toNat ^ n
  | 0 => rfl
  | n + 1 => by
    rw [allR, flat_len (c := p.toNat) _ _ fun x _ => by rw [List.length_map, List.length_range], all_len4 n, Nat.pow_succ, Nat.mul_comm]
theorem lspan_most {p : Int} {n : Nat} (P : Pr p) {rs : List (List Int)} (hv : AllV p n rs) : (lspan p n rs).length ≤ p.toNat ^ n := by
  have e := lspanS_filter P hv (fun v => decide (v ∈ lspan p n rs)) fun v _ => by rw [decide_eq_true_iff, lspan_iff P hv]
  have l := congrArg List.length e
  unfold lspanS at l
  rw [List.length_mergeSort] at l
  rw [l, ← all_len4 (p := p) n]
  exact List.length_filter_le _ _
theorem lspan_most2 {p : Int} {n : Nat} (P : Pr p) {rs : List (List Int)} (hv : AllV p n rs) (h : p.toNat ^ n ≤ 2000) : ∀ i, i ≤ rs.length → (lspan p n (rs.take i)).length ≤ 2000 := fun i _ => Nat.le_trans (lspan_most P fun r hr => hv r (List.mem_of_mem_take hr)) h
/-- what stands behind the draws -/
structure W04 (p : Int) (n : Nat) (A B : List (List Int)) (st l l2 o t a b wd pt : Addr) (H : Hp) : Prop where
  st_ : StA H st
  l_ : ∃ us, H l = some (.lst us) ∧ Paired (RR H) us A
  l2_ : ∃ us, H l2 = some (.lst us) ∧ Paired (RR H) us B
  o_ : ∃ us, H o = some (.lst us) ∧ Paired (RR H) us (lspanS p n A)
  t_ : ∃ us, H t = some (.lst us) ∧ Paired (RR H) us (lspanS p n B)
  a_ : ∃ us, H a = some (.tup us) ∧ Paired (RR H) us (redT p n A)
  b_ : ∃ us, H b = some (.tup us) ∧ Paired (RR H) us (redT p n B)
  wd_ : ∃ us, H wd = some (.tup us) ∧ Paired (RR H) us (redT p n (redT p n A ++ redT p n B))
  pt_ : ∃ us, H pt = some (.tup us) ∧ Paired (RR H) us (partR p n (redT p n A) (redT p n B))
theorem keepO {H H' : Hp} {a : Addr} {f : List V → HO} {L : List (List Int)} (e : Same H H') (h : ∃ us, H a = some (f us) ∧ Paired (RR H) us L) : ∃ us, H' a = some (f us) ∧ Paired (RR H') us L := by
  obtain ⟨us, h1, h2⟩ := h
  exact ⟨us, e _ _ h1, st_RR.all e h2⟩
theorem W04.mono {p : Int} {n : Nat} {A B : List (List Int)} {st l l2 o t a b wd pt : Addr} {H H' : Hp} (h : W04 p n A B st l l2 o t a b wd pt H) (e : Same H H') : W04 p n A B st l l2 o t a b wd pt H' := by
  obtain ⟨⟨s, q, h1⟩, h2, h3, h4, h5, h6, h7, h8, h9⟩ := h
  exact ⟨⟨s, q, e _ _ h1⟩, keepO e h2, keepO e h3, keepO e h4, keepO e h5, keepO (f := .tup) e h6, keepO (f := .tup) e h7, keepO (f := .tup) e h8, keepO (f := .tup) e h9⟩
theorem W04.ne {p : Int} {n : Nat} {A B : List (List Int)} {st l l2 o t a b wd pt : Addr} {H : Hp} (h : W04 p n A B st l l2 o t a b wd pt H) : True := trivial
theorem dp_rr {H : Hp} {v : V} {r : List Int} (h : RR H v r) : Dp K H v (dInts r) := by
  obtain ⟨t, rfl, ht⟩ := h
  exact dp_ints ht.sq
theorem dp_rs {H : Hp} {v : V} {r : List Int} (h : RS K H v r) : Dp K H v (dInts r) := by
  obtain ⟨t, rfl, ht⟩ := h
  exact dp_ints ht
theorem ok_law (T : Txt K mg) : FnOk P w K mg base CX0 9 T.a_law T.d_law ["script"] (sp_law K) := by
  have G__law_state : FnOk P w K mg base CX0 1 T.a__law_state T.d__law_state ["script"] (spState K) := ok_state T
  have G__law_take : FnOk P w K mg base CX0 1 T.a__law_take T.d__law_take ["state", "m"] spTake := ok_take T
  have G__law_prime : FnOk P w K mg base CX0 2 T.a__law_prime T.d__law_prime ["state"] spPrime := ok_prime T
  have G__law_width : FnOk P w K mg base CX0 2 T.a__law_width T.d__law_width ["state", "p"] spWidth := ok_width T
  have G__law_element : FnOk P w K mg base CX0 2 T.a__law_element T.d__law_element ["state", "p", "n"] spLElement := ok_lelement T
  have G__law_rows : FnOk P w K mg base CX0 3 T.a__law_rows T.d__law_rows ["state", "p", "n", "most"] spLRows := ok_lrows T
  have G__law_sum : FnOk P w K mg base CX0 1 T.a__law_sum T.d__law_sum ["v", "w", "p"] spLSum := ok_lsum T
  have G__law_scaled : FnOk P w K mg base CX0 1 T.a__law_scaled T.d__law_scaled ["v", "a", "p"] spLScaled := ok_lscaled T
  have G__law_dot : FnOk P w K mg base CX0 1 T.a__law_dot T.d__law_dot ["p", "v", "w"] (spLDot K) := ok_ldot T
  have G__law_total : FnOk P w K mg base CX0 2 T.a__law_total T.d__law_total ["p", "rows", "weights", "n"] (spLTotal K) := ok_ltotal T
  have G__law_span : FnOk P w K mg base CX0 2 T.a__law_span T.d__law_span ["rows", "n", "p"] (spLSpanG K) := ok_lspanG T
  have G__law_shows : FnOk P w K mg base CX0 3 T.a__law_shows T.d__law_shows ["told", "words", "n", "p"] (spShows K) := ok_shows T
  have G__law_kinds : FnOk P w K mg base CX0 3 T.a__law_kinds T.d__law_kinds ["v", "n", "p"] (spKinds K) := ok_kinds T
  have G_span : FnOk P w K mg base CX0 5 T.a_span T.d_span ["rows", "width", "p"] (spSpan K) := ok_span T
  have G_sum_of : FnOk P w K mg base CX0 6 T.a_sum_of T.d_sum_of ["a", "b", "width", "p"] (spSumOf K) := ok_sumof T
  have G_common_part : FnOk P w K mg base CX0 8 T.a_common_part T.d_common_part ["a", "b", "width", "p"] (spCommon K) := ok_common T
  have G_all_rows : Gn.GDef P w K mg base 2 T.a_all_rows T.d_all_rows ["space", "width", "p"] (spAllRows K) := ok_allrows T
  have G_add : FnOk P w K mg base CX0 1 T.a_add T.d_add ["v", "w", "p"] (spAdd K) := ok_add T
  have G_scaled : FnOk P w K mg base CX0 1 T.a_scaled T.d_scaled ["v", "a", "p"] (spScaled K) := ok_scaled T
  have G_dot : FnOk P w K mg base CX0 1 T.a_dot T.d_dot ["v", "w", "p"] (spDot K) := ok_dot T
  have G_combine : FnOk P w K mg base CX0 2 T.a_combine T.d_combine ["rows", "weights", "width", "p"] (spCombB K) := ok_combB T
  refine T.F_law.ok sc_law (fun vs H Q E h => ?_) (fun cdv A outer s H vs Q E hr h => ?_)
  · obtain ⟨a, ns, rfl, _⟩ := h
    rfl
  · obtain ⟨as, ns, rfl, hS, hlen, q⟩ := h
    refine ⟨_, (pss_cons (ps_set (i := 1) sc_law.nd rfl (.inr rfl) (pe_call G__law_state (hr.mono (by decide)) (by rfl) T.g__law_state T.F__law_state.kp T.b__law_state .nil pass0 (pa_cons (pv 0) pa_nil))) 
    (pss_cons (ps_set (i := 2) sc_law.nd rfl (.inl rfl) (pe_call G__law_prime (hr.mono (by decide)) (by rfl) T.g__law_prime T.F__law_prime.kp T.b__law_prime .nil pass0 (pa_cons (pv 1) pa_nil))) 
    (pss_cons (ps_set (i := 3) sc_law.nd rfl (.inl rfl) (pe_call G__law_width (hr.mono (by decide)) (by rfl) T.g__law_width T.F__law_width.kp T.b__law_width .nil pass0 (pa_cons (pv 1) (pa_cons (pv 2) pa_nil)))) 
    (pss_cons (ps_set (i := 4) sc_law.nd rfl (.inl rfl) (pe_call G__law_rows (hr.mono (by decide)) (by rfl) T.g__law_rows T.F__law_rows.kp T.b__law_rows .nil pass0 (pa_cons (pv 1) (pa_cons (pv 2) (pa_cons (pv 3) (pa_cons (pe_op op_subL pe_int (pe_callTy call_int1 (by rfl) T.n_int (by decide +kernel) (pa_cons (pe_cmpR op_gt (pv 2) pe_int (nomark _)) pa_nil))) pa_nil)))))) 
    (pss_cons (ps_set (i := 5) sc_law.nd rfl (.inl rfl) (pe_call G__law_rows (hr.mono (by decide)) (by rfl) T.g__law_rows T.F__law_rows.kp T.b__law_rows .nil pass0 (pa_cons (pv 1) (pa_cons (pv 2) (pa_cons (pv 3) (pa_cons (pe_op op_subL pe_int (pe_callTy call_int1 (by rfl) T.n_int (by decide +kernel) (pa_cons (pe_cmpR op_gt (pv 2) pe_int (nomark _)) pa_nil))) pa_nil)))))) 
    (C8.pss_cut (ps_if (pt_cmpR op_eq (pe_call G__law_take (hr.mono (by decide)) (by rfl) T.g__law_take T.F__law_take.kp T.b__law_take .nil pass0 (pa_cons (pv 1) (pa_cons pe_int pa_nil))) pe_int (nomark _)) 
      (pss_one (ps_set (i := 5) sc_law.nd rfl (.inl rfl) (pe_op op_cat (pv 5) (pe_slice sl_list (pv 4) po_none (po_some pe_int))))) pss_nil) 
    (pss_cons (ps_set (i := 6) sc_law.nd rfl (.inl rfl) (pe_call G__law_span (hr.mono (by decide)) (by rfl) T.g__law_span T.F__law_span.kp T.b__law_span .nil pass0 (pa_cons (pv 4) (pa_cons (pv 3) (pa_cons (pv 2) pa_nil))))) 
    (pss_cons (ps_set (i := 7) sc_law.nd rfl (.inr rfl) (pe_call G__law_span (hr.mono (by decide)) (by rfl) T.g__law_span T.F__law_span.kp T.b__law_span .nil pass0 (pa_cons (pv 5) (pa_cons (pv 3) (pa_cons (pv 2) pa_nil))))) 
    (pss_cons (ps_set (i := 8) sc_law.nd rfl (.inl rfl) (pe_call G_span (hr.mono (by decide)) (by rfl) T.g_span T.F_span.kp T.b_span .nil pass0 (pa_cons (pv 4) (pa_cons (pv 3) (pa_cons (pv 2) pa_nil))))) 
    (pss_cons (ps_set (i := 9) sc_law.nd rfl (.inl rfl) (pe_call G_span (hr.mono (by decide)) (by rfl) T.g_span T.F_span.kp T.b_span .nil pass0 (pa_cons (pv 5) (pa_cons (pv 3) (pa_cons (pv 2) pa_nil))))) 
    (pss_cons (ps_set (i := 10) sc_law.nd rfl (.inl rfl) (pe_call G_sum_of (hr.mono (by decide)) (by rfl) T.g_sum_of T.F_sum_of.kp T.b_sum_of .nil pass0 (pa_cons (pv 8) (pa_cons (pv 9) (pa_cons (pv 3) (pa_cons (pv 2) pa_nil)))))) 
    (C8.pss_cut (ps_set (i := 11) sc_law.nd rfl (.inl rfl) (pe_call G_common_part (hr.mono (by decide)) (by rfl) T.g_common_part T.F_common_part.kp T.b_common_part .nil pass0 (pa_cons (pv 8) (pa_cons (pv 9) (pa_cons (pv 3) (pa_cons (pv 2) pa_nil)))))) 
    (C8.pss_cut (ps_if (PW.pt (pw_or (pt_not (pt_val (pe_call G__law_shows (hr.mono (by decide)) (by rfl) T.g__law_shows T.F__law_shows.kp T.b__law_shows .nil pass0 (pa_cons (pv 10) (pa_cons (pe_call G__law_span (hr.mono (by decide)) (by rfl) T.g__law_span T.F__law_span.kp T.b__law_span .nil pass0 (pa_cons (pe_op op_cat (pv 4) (pv 5)) (pa_cons (pv 3) (pa_cons (pv 2) pa_nil)))) (pa_cons (pv 3) (pa_cons (pv 2) pa_nil))))))) (pw_or1 (pt_not (pt_val (pe_call G__law_shows (hr.mono (by decide)) (by rfl) T.g__law_shows T.F__law_shows.kp T.b__law_shows .nil pass0 (pa_cons (pv 11) (pa_cons (pe_lc (own := [("v", 12)]) rfl sc_law.nd (pi_list (pv 6)) (blkOk_by (N := N_law) (sc := defScope s_law) (own := [("v", 12)]) (by decide +kernel)) (fun _ _ _ _ _ => (pg_name (i := 12) sc_law.nd rfl (.inl rfl))) (fun _ _ _ _ _ => (pts_one (pt_cmpR (show OpR _ _ (rInD K) from op_inD (hu65 hr)) (pv 12) (pv 7) rfl))) (fun _ _ _ _ _ => (pv 12))) (pa_cons (pv 3) (pa_cons (pv 2) pa_nil)))))))))) 
      (pss_one (ps_ret pe_bl)) pss_nil) 
    (C8.pss_cut (ps_if (PW.pt (pw_or (pt_cmpR op_ne (pe_op op_add (pe_callB call_len_seq (by rfl) T.n_len (by decide +kernel) (pa_cons (pv 10) pa_nil)) (pe_callB call_len_seq (by rfl) T.n_len (by decide +kernel) (pa_cons (pv 11) pa_nil))) (pe_op op_add (pe_callB call_len_seq (by rfl) T.n_len (by decide +kernel) (pa_cons (pv 8) pa_nil)) (pe_callB call_len_seq (by rfl) T.n_len (by decide +kernel) (pa_cons (pv 9) pa_nil))) (nomark _)) (pw_or (pt_cmpR (op_neD hr.units) (pe_call G_sum_of (hr.mono (by decide)) (by rfl) T.g_sum_of T.F_sum_of.kp T.b_sum_of .nil pass0 (pa_cons (pv 9) (pa_cons (pv 8) (pa_cons (pv 3) (pa_cons (pv 2) pa_nil))))) (pv 10) (nomark _)) (pw_or1 (pt_cmpR (op_neD hr.units) (pe_call G_common_part (hr.mono (by decide)) (by rfl) T.g_common_part T.F_common_part.kp T.b_common_part .nil pass0 (pa_cons (pv 9) (pa_cons (pv 8) (pa_cons (pv 3) (pa_cons (pv 2) pa_nil))))) (pv 11) (nomark _)))))) 
      (pss_one (ps_ret pe_bl)) pss_nil) 
    (C8.pss_cut (ps_if (PW.pt (pw_or (pt_cmpR (op_neD hr.units) (Gn.pe_lcG rfl (Gn.pgn_call G_all_rows (hr.mono (by decide)) (by rfl) T.g_all_rows T.F_all_rows.kp T.b_all_rows (pa_cons (pv 8) (pa_cons (pv 3) (pa_cons (pv 2) pa_nil)))) (hr.mono (by decide)) rfl (by decide +kernel) (by decide +kernel) (by decide +kernel)) (pv 6) (nomark _)) (pw_or1 (pt_cmpR (op_neD hr.units) (pe_listG (Gn.pgen_of (Gn.pgn_call G_all_rows (hr.mono (by decide)) (by rfl) T.g_all_rows T.F_all_rows.kp T.b_all_rows (pa_cons (pv 9) (pa_cons (pv 3) (pa_cons (pv 2) pa_nil))))) Gn.no_pass Gn.no_stop (hr.mono (by decide)) (by rfl) T.n_list (by decide +kernel)) (pv 7) (nomark _))))) 
      (pss_one (ps_ret pe_bl)) pss_nil) 
    (C8.pss_cut (ps_par (i := 12) (j := 13) (by rfl) sc_law.nd rfl rfl (by decide) rfl rfl (pa_cons (pe_call G__law_element (hr.mono (by decide)) (by rfl) T.g__law_element T.F__law_element.kp T.b__law_element .nil pass0 (pa_cons (pv 1) (pa_cons (pv 2) (pa_cons (pv 3) pa_nil)))) (pa_cons (pe_call G__law_element (hr.mono (by decide)) (by rfl) T.g__law_element T.F__law_element.kp T.b__law_element .nil pass0 (pa_cons (pv 1) (pa_cons (pv 2) (pa_cons (pv 3) pa_nil)))) pa_nil)) (by rfl)) 
    (pss_cons (ps_set (i := 14) sc_law.nd rfl (.inl rfl) (pe_op op_sub (pe_call G__law_take (hr.mono (by decide)) (by rfl) T.g__law_take T.F__law_take.kp T.b__law_take .nil pass0 (pa_cons (pv 1) (pa_cons pe_int pa_nil))) pe_int)) 
    (C8.pss_cut (ps_if (PW.pt (pw_or (pt_cmpR (op_neD hr.units) (pe_call G_add (hr.mono (by decide)) (by rfl) T.g_add T.F_add.kp T.b_add .nil pass0 (pa_cons (pv 12) (pa_cons (pv 13) (pa_cons (pv 2) pa_nil)))) (pe_call G__law_sum (hr.mono (by decide)) (by rfl) T.g__law_sum T.F__law_sum.kp T.b__law_sum .nil pass0 (pa_cons (pv 12) (pa_cons (pv 13) (pa_cons (pv 2) pa_nil)))) (nomark _)) (pw_or (pt_cmpR (op_neD hr.units) (pe_call G_scaled (hr.mono (by decide)) (by rfl) T.g_scaled T.F_scaled.kp T.b_scaled .nil pass0 (pa_cons (pv 12) (pa_cons (pv 14) (pa_cons (pv 2) pa_nil)))) (pe_call G__law_scaled (hr.mono (by decide)) (by rfl) T.g__law_scaled T.F__law_scaled.kp T.b__law_scaled .nil pass0 (pa_cons (pv 12) (pa_cons (pv 14) (pa_cons (pv 2) pa_nil)))) (nomark _)) (pw_or1 (pt_cmpR op_ne (pe_call G_dot (hr.mono (by decide)) (by rfl) T.g_dot T.F_dot.kp T.b_dot .nil pass0 (pa_cons (pv 12) (pa_cons (pv 13) (pa_cons (pv 2) pa_nil)))) (pe_call G__law_dot (hr.mono (by decide)) (by rfl) T.g__law_dot T.F__law_dot.kp T.b__law_dot .nil pass0 (pa_cons (pv 2) (pa_cons (pv 12) (pa_cons (pv 13) pa_nil)))) (nomark _)))))) 
      (pss_one (ps_ret pe_bl)) pss_nil) 
    (C8.pss_cut (ps_setLc (i := 15) (own := [("row", 16)]) rfl sc_law.nd rfl rfl (sw_true rfl rfl rfl (by decide +kernel)) (pi_list (pv 4)) (blkOk_by (N := N_law) (sc := defScope s_law) (own := [("row", 16)]) (by decide +kernel)) (fun _ _ _ _ _ => (pg_name (i := 16) sc_law.nd rfl (.inl rfl))) (fun _ _ _ _ _ => pts_nil) (fun _ _ _ _ _ => (pe_op op_sub (pe_call G__law_take (hr.mono (by decide)) (by rfl) T.g__law_take T.F__law_take.kp T.b__law_take .nil pass0 (pa_cons (pv 1) (pa_cons pe_int pa_nil))) pe_int))) 
    (pss_cons (ps_if (PW.pt (pw_or (pt_cmpR (op_neD hr.units) (pe_call G_combine (hr.mono (by decide)) (by rfl) T.g_combine T.F_combine.kp T.b_combine .nil pass0 (pa_cons (pv 4) (pa_cons (pv 15) (pa_cons (pv 3) (pa_cons (pv 2) pa_nil))))) (pe_call G__law_total (hr.mono (by decide)) (by rfl) T.g__law_total T.F__law_total.kp T.b__law_total .nil pass0 (pa_cons (pv 2) (pa_cons (pv 4) (pa_cons (pv 15) (pa_cons (pv 3) pa_nil))))) (nomark _)) (pw_or1 (pt_cmpR (op_neD hr.units) (pe_call G_combine (hr.mono (by decide)) (by rfl) T.g_combine T.F_combine.kp T.b_combine .nil pass0 (pa_cons (pe_callTy call_tuple_of (by rfl) T.n_tuple (by decide +kernel) (pa_cons (pv 4) pa_nil)) (pa_cons (pe_callTy call_tuple_of (by rfl) T.n_tuple (by decide +kernel) (pa_cons (pv 15) pa_nil)) (pa_cons (pv 3) (pa_cons (pv 2) pa_nil))))) (pe_call G_combine (hr.mono (by decide)) (by rfl) T.g_combine T.F_combine.kp T.b_combine .nil pass0 (pa_cons (pv 4) (pa_cons (pv 15) (pa_cons (pv 3) (pa_cons (pv 2) pa_nil))))) (nomark _))))) 
      (pss_one (ps_ret pe_bl)) pss_nil) 
    (pss_one (ps_ret (pe_call G__law_kinds (hr.mono (by decide)) (by rfl) T.g__law_kinds T.F__law_kinds.kp T.b__law_kinds .nil pass0 (pa_cons (pv 12) (pa_cons (pv 3) (pa_cons (pv 2) pa_nil)))))))))))))))))))))))))), ?_⟩
    refine ⟨_, rfl, as, ns, rfl, hS, fun H1 st s0 t0 _ _ est => ?_⟩
    refine ⟨_, rfl, st, rfl, ⟨s0, t0, est⟩, fun H2 p sx2 hst2 hp => ?_⟩
    have P := pr_of hp
    have hpp := P.pos
    have h2 := P.two
    have h31 := P.le
    refine ⟨_, rfl, _, rfl, st, p, rfl, hst2, hp, fun H3 n sx3 hst3 hn4 hn3 hn1 => ?_⟩
    have hpow2 : ∀ j, j ≤ n → p.toNat ^ j ≤ 2000 := fun j hj => by
      have hb := pow_bound2 p hp
      by_cases c : 7 < p
      · rw [if_pos (by exact c)] at hb
        exact pow_le h2 (Nat.le_trans hj (hn1 c)) hb
      · rw [if_neg (by exact c)] at hb
        by_cases c3 : 3 < p
        · rw [if_pos (by exact c3)] at hb
          exact pow_le h2 (Nat.le_trans hj (hn3 c3)) hb
        · rw [if_neg (by exact c3)] at hb
          exact pow_le h2 (Nat.le_trans hj hn4) hb
    have few : ∀ {rs : List (List Int)}, AllV p n rs → ∀ i, i ≤ rs.length → (lspan p n (rs.take i)).length ≤ 2000 := fun hv => lspan_most2 P hv (hpow2 n (Nat.le_refl n))
    -- first
    refine ⟨_, rfl, _, rfl, _, rfl, ?_⟩
    refine ⟨_, rfl, _, _, rfl, rfl, .inr ⟨_, rfl, _, _, rfl, rfl, fun z hz => ?_⟩⟩
    have hmz : ∀ z : Int, z = 2 - b2i (decide (7 < p)) → ∃ m : Nat, z = (m : Int) ∧ m ≤ 2 := fun z hz => by
      by_cases c7 : 7 < p
      · exact ⟨1, by rw [hz, decide_eq_true c7]; decide, by decide⟩
      · exact ⟨2, by rw [hz, decide_eq_false c7]; decide, by decide⟩
    obtain ⟨m, rfl, hm⟩ := hmz z hz
    refine ⟨st, p, n, m, rfl, hst3, hpp, by omega, by omega, by omega, fun l us H4 A sx4 hst4 el hls hP hAm hA => ?_⟩
    -- second
    refine ⟨_, rfl, _, rfl, _, rfl, ?_⟩
    refine ⟨_, rfl, _, _, rfl, rfl, .inr ⟨_, rfl, _, _, rfl, rfl, fun z' hz' => ?_⟩⟩
    obtain ⟨m', rfl, hm'⟩ := hmz z' hz'
    obtain ⟨s4, t4, es4⟩ := id hst4
    refine ⟨st, p, n, m', rfl, hst4, hpp, by omega, by omega, by omega, fun l2 us2 H5 B0 sx5 hst5 el2 hls2 hP2 hBm hB0 => ?_⟩
    have el5 := sx5 _ _ hls el
    have hP5 := RR.allx sx5 es4 hP
    clear hz hz' sx2 sx3 sx4 sx5 est hst2 hst3 hst4 es4 hP el
    refine ⟨fun σ H => ∃ (l2 : Addr) (B : List (List Int)), (∃ us2, H l2 = some (.lst us2) ∧ Paired (RR H) us2 B) ∧ AllV p n B ∧ B.length ≤ 3 ∧ l2 ≠ st ∧ StA H st ∧ (∃ us, H l = some (.lst us) ∧ Paired (RR H) us A) ∧ σ = [some (.ref as), some (.ref st), some (.int p), some (.int (n : Int)), some (.ref l), some (.ref l2), none, none, none, none, none, none, none, none, none, none, none], ?_, ?_⟩
    · obtain ⟨s6, t6, e6⟩ := hst5
      refine ⟨_, rfl, st, 3, s6, t6, rfl, by decide, by decide, e6, fun z s2 t2 z0 z1 => ⟨rfl, _, rfl, ?_⟩⟩
      have sxA : SameX st H5 (upd H5 st (.lst [.int s2, .int t2])) := SameX.put
      have el6 := sxA _ _ hls el5
      have el26 := sxA _ _ hls2 el2
      have hP6 := RR.allx sxA e6 hP5
      have hP26 := RR.allx sxA e6 hP2
      have hst6 : StA (upd H5 st (.lst [.int s2, .int t2])) st := ⟨s2, t2, upd_same⟩
      generalize upd H5 st (.lst [.int s2, .int t2]) = H6 at *
      refine ite2 (fun c => ?_) (fun c => ⟨l2, B0, ⟨us2, el26, hP26⟩, hB0, by omega, hls2, hst6, ⟨us, el6, hP6⟩, rfl⟩)
      refine ⟨_, rfl, _, rfl, _, rfl, l, us, rfl, .inl (.inl el6), fun u nu => ?_⟩
      rw [cut_one]
      have su := same_new (o := .lst (us.take 1)) nu
      have tk : ∀ {xs : List V} {L : List (List Int)} {H : Hp}, Paired (RR H) xs L → Paired (RR H) (xs.take 1) (L.take 1) := fun h => by
        cases h with
        | nil => exact .nil
        | cons h t => exact .cons h .nil
      have ul := Paired.length hP6
      have ul2 := Paired.length hP26
      refine ⟨l2, u, us2, us.take 1, rfl, rfl, su _ _ el26, upd_same, Nat.le_of_lt (small2000 (by rw [List.length_take]; omega)), fun l3 nl3 => ?_⟩
      have s3 := su.trans (same_new (o := .lst (us2 ++ us.take 1)) nl3)
      obtain ⟨s7, t7, e7⟩ := hst6
      refine ⟨l3, B0 ++ A.take 1, ⟨_, upd_same, paired_app (st_RR.all s3 hP26) (st_RR.all s3 (tk hP6))⟩, AllV.app hB0 fun r hr => hA r (List.mem_of_mem_take hr), by rw [List.length_append, List.length_take]; omega, fun z => ?_, ⟨s7, t7, s3 _ _ e7⟩, ⟨us, s3 _ _ el6, st_RR.all s3 hP6⟩, rfl⟩
      have e8 := su _ _ e7
      rw [← z, nl3] at e8
      cases e8
    clear el5 hP5 hB0 hBm hP2 el2 hls2 hst5
    rintro σ6 H6 ⟨l2, B, ⟨us2, el2, hP2⟩, hB, hBm, hls2, hst6, ⟨us, el, hP⟩, rfl⟩
    have hAB : AllV p n (A ++ B) := AllV.app hA hB
    have lA := red_len P hA
    have lB := red_len P hB
    have FA := red_form P hA
    have FB := red_form P hB
    have hAr : AllV p n (redT p n A) := FA.vr
    have hBr : AllV p n (redT p n B) := FB.vr
    -- one, two, a, b, wide, part
    refine ⟨_, rfl, _, rfl, _, rfl, l, n, p, A, rfl, ⟨us, .inl (.inl (.inl el)), hP⟩, h2, h31, by omega, few hA, hA, fun o ous H7 sm7 _ eo hO => ?_⟩
    refine ⟨_, rfl, _, rfl, _, rfl, l2, n, p, B, rfl, ⟨us2, .inl (.inl (.inl (sm7 _ _ el2))), st_RR.all sm7 hP2⟩, h2, h31, by omega, few hB, hB, fun t tus H8 sm8 _ et hT => ?_⟩
    have smA := sm7.trans sm8
    refine ⟨_, rfl, _, rfl, _, rfl, l, n, p, A, rfl, Rws.s ⟨us, .inl (.inl (.inl (smA _ _ el))), st_RR.all smA hP⟩, h2, h31, by omega, by omega, hA, fun a aus H9 sm9 ea hAa => ?_⟩
    have smB := smA.trans sm9
    refine ⟨_, rfl, _, rfl, _, rfl, l2, n, p, B, rfl, Rws.s ⟨us2, .inl (.inl (.inl (smB _ _ el2))), st_RR.all smB hP2⟩, h2, h31, by omega, by omega, hB, fun b bus H10 sm10 eb hBb => ?_⟩
    have smC := smB.trans sm10
    have ea10 := sm10 _ _ ea
    have hAa10 := st_RR.all sm10 hAa
    refine ⟨_, rfl, _, rfl, _, rfl, _, rfl, a, b, n, p, _, _, rfl, ⟨aus, .inr (.inl (.inl ea10)), hAa10⟩, ⟨bus, .inr (.inl (.inl eb)), hBb⟩, h2, h31, by omega, by omega, hAr, hBr, fun wd wus H11 sm11 ew hW => ?_⟩
    refine ⟨fun σ H => ∃ pt, W04 p n A B st l l2 o t a b wd pt H ∧ σ = [some (.ref as), some (.ref st), some (.int p), some (.int (n : Int)), some (.ref l), some (.ref l2), some (.ref o), some (.ref t), some (.ref a), some (.ref b), some (.ref wd), some (.ref pt), none, none, none, none, none], ?_, ?_⟩
    · refine ⟨_, rfl, _, rfl, _, rfl, _, rfl, a, b, n, p, aus, _, _, rfl, .inl (.inl (sm11 _ _ ea10)), st_RR.all sm11 hAa10, ⟨bus, .inr (.inl (.inl (sm11 _ _ eb))), st_RR.all sm11 hBb⟩, P, by omega, by omega, hAr, hBr, fun pt pus H12 sm12 ep hPp => ?_⟩
      have smD := sm11.trans sm12
      have smE := smC.trans smD
      obtain ⟨s6, t6, e6⟩ := hst6
      exact ⟨pt, ⟨⟨s6, t6, smE _ _ e6⟩, ⟨us, smE _ _ el, st_RR.all smE hP⟩, ⟨us2, smE _ _ el2, st_RR.all smE hP2⟩, keepO (f := .lst) (sm8.trans (sm9.trans (sm10.trans smD))) ⟨ous, eo, hO⟩, keepO (f := .lst) (sm9.trans (sm10.trans smD)) ⟨tus, et, hT⟩,
        keepO (f := .tup) (sm10.trans smD) ⟨aus, ea, hAa⟩, keepO (f := .tup) smD ⟨bus, eb, hBb⟩, keepO (f := .tup) sm12 ⟨wus, ew, hW⟩, ⟨pus, ep, hPp⟩⟩, rfl⟩
    clear hst6 hP2 el2 hP el eo hO et hT ea hAa eb hBb ea10 hAa10 ew hW smA smB smC sm7 sm8 sm9 sm10 sm11
    rintro σ12 H12 ⟨pt, W12, rfl⟩
    have hABr : AllV p n (redT p n A ++ redT p n B) := AllV.app hAr hBr
    have FW := red_form P hABr
    have FP := red_form P (partF_vr P hAr (redT p n B))
    have hdim := dims P FA FB
    have hsw : ∀ v, Spn p n (redT p n (redT p n A ++ redT p n B)) v ↔ Spn p n (A ++ B) v := fun v => (red_span P hABr v).symm.trans (spn_red2 P hA hB v)
    have hsp : ∀ v, Spn p n (partR p n (redT p n A) (redT p n B)) v ↔ Spn p n A v ∧ Spn p n B v := fun v => (red_span P (partF_vr P hAr (redT p n B)) v).symm.trans ((part_iff P hAr hBr v).trans (and_congr (red_span P hA v).symm (red_span P hB v).symm))
    have lW : (redT p n (redT p n A ++ redT p n B)).length ≤ n := by
      have := elimE_len (p := p) (rows := redT p n A ++ redT p n B) n
      show (elimE p _ n).table.length ≤ n
      omega
    have lP : (partR p n (redT p n A) (redT p n B)).length ≤ n := by
      have := elimE_len (p := p) (rows := partF p n (redT p n A) (redT p n B)) n
      show (elimE p _ n).table.length ≤ n
      omega
    -- wide and part are as told
    refine ⟨fun σ H => W04 p n A B st l l2 o t a b wd pt H ∧ σ = [some (.ref as), some (.ref st), some (.int p), some (.int (n : Int)), some (.ref l), some (.ref l2), some (.ref o), some (.ref t), some (.ref a), some (.ref b), some (.ref wd), some (.ref pt), none, none, none, none, none], ?_, ?_⟩
    · obtain ⟨us, el, hP⟩ := W12.l_
      obtain ⟨us2, el2, hP2⟩ := W12.l2_
      have ul := Paired.length hP
      have ul2 := Paired.length hP2
      refine ⟨_, rfl, _, rfl, _, rfl, l, l2, us, us2, rfl, rfl, el, el2, Nat.le_of_lt (small2000 (by omega)), fun l3 nl3 => ?_⟩
      have s1 := same_new (o := .lst (us ++ us2)) nl3
      refine ⟨_, rfl, _, rfl, l3, n, p, A ++ B, rfl, ⟨_, .inl (.inl (.inl upd_same)), paired_app (st_RR.all s1 hP) (st_RR.all s1 hP2)⟩, h2, h31, by omega, few hAB, hAB, fun so sous H13 sm13 _ es hSo => ?_⟩
      have smA := s1.trans sm13
      have W13 := W12.mono smA
      obtain ⟨wus, ew, hW⟩ := W13.wd_
      refine ⟨_, rfl, _, rfl, wd, so, wus, sous, n, p, _, _, _, rfl, ew, hW, FW, by omega, by omega, h2, h31, hpow2 _ lW, es, rs_all hSo, lspanS_same P FW.vr hAB hsw, fun H14 sm14 => ⟨true, rfl, iteF ?_⟩⟩
      have W14 := W13.mono sm14
      obtain ⟨ous, eo, hO⟩ := W14.o_
      obtain ⟨tus, et, hT⟩ := W14.t_
      refine ⟨_, rfl, _, rfl, o, rfl, ⟨_, .inl (.inl eo)⟩, fun D nD => ?_⟩
      have loul := Paired.length hO
      have lol : (lspanS p n A).length ≤ 2000 := by
        unfold lspanS
        rw [List.length_mergeSort]
        exact Nat.le_trans (lspan_most P hA) (hpow2 n (Nat.le_refl n))
      refine lc_filt (walk_list (xs := ous)) st_RR (fun i => decide ((lspanS p n A).getD i [] ∈ lspanS p n B)) (fun i => (lspanS p n A).getD i []) (by omega) nD (fun H2 sm => .inl (.inl (sm _ _ eo))) (fun i x H15 H16 Q2 N2 hi sm15 hY q2 nq => ?_) (fun H15 acc sm15 eD hPa => ?_)
      · obtain ⟨rfl, hx⟩ := hY
        obtain ⟨v, ev, hRv⟩ := paired_get hO hx
        rw [getD_some ev] at q2 nq
        have hRv2 := st_RR.same sm15 hRv
        refine ⟨rfl, ?_⟩
        refine ⟨_, rfl, _, rfl, dInts v, (lspanS p n B).map dInts, dp_rr hRv2, dp_rowsL (.inl (.inl (sm15 _ _ et))) (st_RR.all sm15 hT), shaped_dInts v, shaped_dRows _, _, rfl, ?_⟩
        rw [any_rows]
        by_cases hm : v ∈ lspanS p n B
        · exact iteA (decide_eq_true hm) ⟨_, rfl, q2 (decide_eq_true hm) _ _ (Same.refl _) hRv2⟩
        · exact iteB (decide_eq_false hm) (nq (decide_eq_false hm) _ (Same.refl _))
      rw [loul, range_filter (fun v => decide (v ∈ lspanS p n B)) [] (lspanS p n A), meet_rows P hA hB FP.vr hsp] at hPa
      have W15 := W14.mono sm15
      obtain ⟨pus, ep, hPp⟩ := W15.pt_
      refine ⟨_, rfl, _, rfl, pt, D, pus, acc, n, p, _, _, _, rfl, ep, hPp, FP, by omega, by omega, h2, h31, hpow2 _ lP, eD, rs_all hPa, rfl, fun H17 sm17 => ⟨true, rfl, iteF ⟨W15.mono sm17, rfl⟩⟩⟩
    rintro σ13 H13 ⟨W13, rfl⟩
    clear W12
    -- the dimensions; the other order
    refine ⟨fun σ H => W04 p n A B st l l2 o t a b wd pt H ∧ σ = [some (.ref as), some (.ref st), some (.int p), some (.int (n : Int)), some (.ref l), some (.ref l2), some (.ref o), some (.ref t), some (.ref a), some (.ref b), some (.ref wd), some (.ref pt), none, none, none, none, none], ?_, ?_⟩
    · obtain ⟨aus, ea, hAa⟩ := W13.a_
      obtain ⟨bus, eb, hBb⟩ := W13.b_
      obtain ⟨wus, ew, hW⟩ := W13.wd_
      obtain ⟨pus, ep, hPp⟩ := W13.pt_
      refine ⟨_, rfl, wd, wus, rfl, .inr (.inl (.inl ew)), _, rfl, pt, pus, rfl, .inr (.inl (.inl ep)), _, _, rfl, rfl, _, rfl, a, aus, rfl, .inr (.inl (.inl ea)), _, rfl, b, bus, rfl, .inr (.inl (.inl eb)), _, _, rfl, rfl, rfl, _, rfl, iteB (not_dec (congrArg V.int (by rw [Paired.length hW, Paired.length hPp, Paired.length hAa, Paired.length hBb]; omega))) ?_⟩
      refine ⟨_, rfl, _, rfl, _, rfl, _, rfl, b, a, n, p, _, _, rfl, ⟨bus, .inr (.inl (.inl eb)), hBb⟩, ⟨aus, .inr (.inl (.inl ea)), hAa⟩, h2, h31, by omega, by omega, hBr, hAr, fun w2 w2us H14 sm14 ew2 hW2 => ?_⟩
      rw [sum_swap P hAr hBr] at hW2
      refine ⟨_, rfl, dRowsT _, dRowsT _, dp_rowsT (.inl (.inl ew2)) hW2, dp_rowsT (.inl (.inl (sm14 _ _ ew))) (st_RR.all sm14 hW), shaped_dRowsT _, shaped_dRowsT _, _, rfl, iteB (by unfold dRowsT; rw [eqvAll_tup]; exact not_dec rfl) ?_⟩
      refine ⟨_, rfl, _, rfl, _, rfl, _, rfl, b, a, n, p, bus, _, _, rfl, .inl (.inl (sm14 _ _ eb)), st_RR.all sm14 hBb, ⟨aus, .inr (.inl (.inl (sm14 _ _ ea))), st_RR.all sm14 hAa⟩, P, by omega, by omega, hBr, hAr, fun p2 p2us H15 sm15 ep2 hPp2 => ?_⟩
      rw [part_swap P hAr hBr] at hPp2
      have smA := sm14.trans sm15
      exact ⟨_, rfl, dRowsT _, dRowsT _, dp_rowsT (.inl (.inl ep2)) hPp2, dp_rowsT (.inl (.inl (smA _ _ ep))) (st_RR.all smA hPp), shaped_dRowsT _, shaped_dRowsT _, _, rfl, iteB (by unfold dRowsT; rw [eqvAll_tup]; exact not_dec rfl) ⟨W13.mono smA, rfl⟩⟩
    rintro σ14 H14 ⟨W14, rfl⟩
    clear W13
    -- all rows, in order
    refine ⟨fun σ H => StA H st ∧ (∃ us, H l = some (.lst us) ∧ Paired (RR H) us A) ∧ σ = [some (.ref as), some (.ref st), some (.int p), some (.int (n : Int)), some (.ref l), some (.ref l2), some (.ref o), some (.ref t), some (.ref a), some (.ref b), some (.ref wd), some (.ref pt), none, none, none, none, none], ?_, ?_⟩
    · obtain ⟨aus, ea, hAa⟩ := W14.a_
      obtain ⟨bus, eb, hBb⟩ := W14.b_
      have lspL : ∀ {L : List (List Int)}, AllV p n L → (lspanS p n (redT p n L)).length ≤ 2000 := fun hL => by
        unfold lspanS
        rw [List.length_mergeSort]
        exact Nat.le_trans (lspan_most P (red_form P hL).vr) (hpow2 n (Nat.le_refl n))
      have lsame : ∀ {L : List (List Int)}, AllV p n L → lspanS p n (redT p n L) = lspanS p n L := fun hL => lspanS_same P (red_form P hL).vr hL fun v => (red_span P hL v).symm
      refine ⟨_, rfl, _, rfl, _, rfl, a, n, p, _, _, aus, rfl, .inl (.inl ea), hAa, FA, P, by omega, lspL hA, fun ys H15 sm15 hys D nD => ?_⟩
      rw [lsame hA] at hys
      have s1 := same_new (o := .lst ys) nD
      have smA := sm15.trans s1
      have W15 := W14.mono smA
      obtain ⟨ous, eo, hO⟩ := W15.o_
      refine ⟨_, rfl, dRows _, dRows _, dp_rowsS (.inl (.inl upd_same)) (st_RS.all s1 hys), dp_rowsL (.inl (.inl eo)) hO, shaped_dRows _, shaped_dRows _, _, rfl, iteB (by rw [eqv_dRows]; exact not_dec rfl) ?_⟩
      obtain ⟨bus, eb, hBb⟩ := W15.b_
      refine ⟨_, rfl, _, rfl, _, rfl, b, n, p, _, _, bus, rfl, .inl (.inl eb), hBb, FB, P, by omega, lspL hB, fun ys2 H16 sm16 hys2 D2 nD2 => ?_⟩
      rw [lsame hB] at hys2
      have s2 := same_new (o := .lst ys2) nD2
      have W16 := W15.mono (sm16.trans s2)
      obtain ⟨tus, et, hT⟩ := W16.t_
      exact ⟨_, rfl, dRows _, dRows _, dp_rowsS (.inl (.inl upd_same)) (st_RS.all s2 hys2), dp_rowsL (.inl (.inl et)) hT, shaped_dRows _, shaped_dRows _, _, rfl, iteB (by rw [eqv_dRows]; exact not_dec rfl) ⟨W16.st_, W16.l_, rfl⟩⟩
    clear W14 hsw hsp hdim lW lP FW FP hABr FA FB hAr hBr lA lB
    rintro σ15 H15 ⟨hst15, hl15, rfl⟩
    -- v, w
    refine ⟨fun σ H => ∃ (v w' : V) (r s' : List Int), StA H st ∧ (∃ us, H l = some (.lst us) ∧ Paired (RR H) us A) ∧ RR H v r ∧ RR H w' s' ∧ Vr p n r ∧ Vr p n s' ∧ σ = [some (.ref as), some (.ref st), some (.int p), some (.int (n : Int)), some (.ref l), some (.ref l2), some (.ref o), some (.ref t), some (.ref a), some (.ref b), some (.ref wd), some (.ref pt), some v, some w', none, none, none], ?_, ?_⟩
    · obtain ⟨us, el, hP⟩ := hl15
      obtain ⟨s5, t5, e5⟩ := id hst15
      refine ⟨_, rfl, _, rfl, _, rfl, st, p, n, rfl, hst15, hpp, by omega, by omega, fun v H16 r sx16 hst16 hRv hvr => ?_⟩
      obtain ⟨s6, t6, e6⟩ := id hst16
      refine ⟨_, rfl, _, rfl, _, rfl, st, p, n, rfl, hst16, hpp, by omega, by omega, fun w' H17 s' sx17 hst17 hRw hvs => ?_⟩
      exact ⟨v, w', rfl, v, w', r, s', hst17, ⟨us, sx17 _ _ hls (sx16 _ _ hls el), RR.allx sx17 e6 (RR.allx sx16 e5 hP)⟩, RR.x sx17 e6 hRv, hRw, hvr, hvs, rfl⟩
    clear hst15 hl15
    rintro σ16 H16 ⟨v, w', r, s', hst16, hl16, hRv, hRw, hvr, hvs, rfl⟩
    -- c
    obtain ⟨us, el, hP⟩ := hl16
    obtain ⟨s6, t6, e6⟩ := hst16
    refine ⟨_, rfl, st, 21, s6, t6, rfl, by decide, by decide, e6, fun c s2 t2 c0 c1 => ⟨_, _, rfl, rfl, ?_⟩⟩
    have sxA : SameX st H16 (upd H16 st (.lst [.int s2, .int t2])) := SameX.put
    have el7 := sxA _ _ hls el
    have hP7 := RR.allx sxA e6 hP
    have hRv7 := RR.x sxA e6 hRv
    have hRw7 := RR.x sxA e6 hRw
    have hst7 : StA (upd H16 st (.lst [.int s2, .int t2])) st := ⟨s2, t2, upd_same⟩
    generalize upd H16 st (.lst [.int s2, .int t2]) = H7 at *
    clear el hP e6 hRv hRw sxA
    have smr := hvr.sm h31
    have sms := hvs.sm h31
    -- add, scaled, dot
    refine ⟨fun σ H => StA H st ∧ (∃ us, H l = some (.lst us) ∧ Paired (RR H) us A) ∧ RR H v r ∧ σ = [some (.ref as), some (.ref st), some (.int p), some (.int (n : Int)), some (.ref l), some (.ref l2), some (.ref o), some (.ref t), some (.ref a), some (.ref b), some (.ref wd), some (.ref pt), some v, some w', some (.int (c - 10)), none, none], ?_, ?_⟩
    · refine ⟨_, rfl, _, rfl, _, rfl, v, w', p, r, s', rfl, rs_of hRv7, rs_of hRw7, hpp, by rw [hvr.1]; omega, by rw [hvr.1, hvs.1], fun t1 H8 sm8 h1 => ?_⟩
      refine ⟨_, rfl, _, rfl, _, rfl, v, w', p, r, s', rfl, st_RR.same sm8 hRv7, st_RR.same sm8 hRw7, hpp, by rw [hvr.1]; omega, by rw [hvr.1, hvs.1], fun t2' H9 sm9 h2' => ?_⟩
      refine ⟨dInts _, dInts _, dp_rr (st_RR.same sm9 h1), dp_rr h2', shaped_dInts _, shaped_dInts _, _, rfl, iteB (by rw [eqv_dInts]; exact not_dec rfl) ?_⟩
      have smA := sm8.trans sm9
      refine ⟨_, rfl, _, rfl, _, rfl, v, c - 10, p, r, rfl, rs_of (st_RR.same smA hRv7), hpp, by rw [hvr.1]; omega, by omega, smr, fun t3 H10 sm10 h3 => ?_⟩
      have smB := smA.trans sm10
      refine ⟨_, rfl, _, rfl, _, rfl, v, c - 10, p, r, rfl, st_RR.same smB hRv7, hpp, by rw [hvr.1]; omega, by omega, smr, fun t4 H11 sm11 h4 => ?_⟩
      refine ⟨dInts _, dInts _, dp_rr (st_RR.same sm11 h3), dp_rr h4, shaped_dInts _, shaped_dInts _, _, rfl, iteB (by rw [eqv_dInts]; exact not_dec rfl) ?_⟩
      have smC := smB.trans sm11
      refine ⟨_, rfl, _, rfl, _, rfl, v, w', p, r, s', rfl, rs_of (st_RR.same smC hRv7), rs_of (st_RR.same smC hRw7), hpp, by rw [hvr.1]; omega, by rw [hvr.1, hvs.1], smr, sms, fun H12 sm12 => ?_⟩
      have smD := smC.trans sm12
      refine ⟨_, rfl, _, rfl, _, rfl, v, w', p, r, s', rfl, rq_rr (st_RR.same smD hRv7), rq_rr (st_RR.same smD hRw7), hpp, by rw [hvr.1]; omega, by rw [hvr.1, hvs.1], smr, sms, fun H13 sm13 => ⟨rfl, _, rfl, iteB (not_dec rfl) ?_⟩⟩
      have smE := smD.trans sm13
      obtain ⟨s9, t9, e9⟩ := hst7
      exact ⟨⟨s9, t9, smE _ _ e9⟩, ⟨us, smE _ _ el7, st_RR.all smE hP7⟩, st_RR.same smE hRv7, rfl⟩
    clear hst7 hRv7 hRw7 hP7 el7 us hvs sms
    rintro σ17 H17 ⟨hst17, ⟨us, el, hP⟩, hRv, rfl⟩
    have ul := Paired.length hP
    -- weights
    refine ⟨fun σ H => ∃ (D : Addr) (ws : List Int), (∃ us, H l = some (.lst us) ∧ Paired (RR H) us A) ∧ RR H v r ∧ H D = some (.lst (ws.map V.int)) ∧ ws.length = A.length ∧ (∀ x ∈ ws, x.natAbs < 1000) ∧ σ = [some (.ref as), some (.ref st), some (.int p), some (.int (n : Int)), some (.ref l), some (.ref l2), some (.ref o), some (.ref t), some (.ref a), some (.ref b), some (.ref wd), some (.ref pt), some v, some w', some (.int (c - 10)), some (.ref D), none], ?_, ?_⟩
    · refine ⟨_, rfl, l, rfl, ⟨_, .inl (.inl el)⟩, fun D nD => ?_⟩
      obtain ⟨s7, t7, e7⟩ := id hst17
      refine lc_draw (walk_list (xs := us)) (by omega) nD hst17 (fun H sx => .inl (.inl (sx _ _ hls el))) (fun i x H18 H19 Q2 hi sx18 hst18 hY q2 => ?_) (fun H18 ws sx18 hst18 eD hwl hwb => ?_)
      · obtain ⟨rfl, _⟩ := hY
        obtain ⟨s8, t8, e8⟩ := hst18
        exact ⟨rfl, _, rfl, st, 9, s8, t8, rfl, by decide, by decide, e8, fun z s2 t2 z0 z1 => ⟨_, _, rfl, rfl, q2 (z - 4) _ SameX.put ⟨s2, t2, upd_same⟩ (by omega)⟩⟩
      · exact ⟨D, ws, ⟨us, sx18 _ _ hls el, RR.allx sx18 e7 hP⟩, RR.x sx18 e7 hRv, eD, by omega, hwb, rfl⟩
    clear hst17 el hP hRv ul us
    rintro σ18 H18 ⟨D, ws, ⟨us, el, hP⟩, hRv, eD, hwl, hwb, rfl⟩
    have ul := Paired.length hP
    have smw : Sm ws := fun x hx => by
      have := hwb x hx
      omega
    -- combine
    refine ⟨_, rfl, _, rfl, _, rfl, _, rfl, true, l, D, n, p, us, A, ws, rfl, .inl (.inl el), rs_all hP, .inl (.inl eD), hwl, hpp, h31, by omega, by omega, hA, smw, fun t1 H19 sm19 h1 => ?_⟩
    refine ⟨_, rfl, _, rfl, _, rfl, _, rfl, l, .ref D, n, p, A, ws, rfl, ⟨us, .inl (.inl (.inl (sm19 _ _ el))), st_RR.all sm19 hP⟩, ⟨D, rfl, .inl (.inl (.inl (sm19 _ _ eD)))⟩, hpp, h31, by omega, by omega, hwl, hA, smw, fun t2 H20 sm20 h2' => ?_⟩
    refine ⟨dInts _, dInts _, dp_rs (st_RS.same sm20 h1), dp_rr h2', shaped_dInts _, shaped_dInts _, _, rfl, iteB (by rw [eqv_dInts]; exact not_dec rfl) ?_⟩
    have smA := sm19.trans sm20
    refine ⟨_, rfl, l, us, rfl, .inl ⟨.inl (.inl (smA _ _ el)), fun u nu => ?_⟩⟩
    have s1 := same_new (o := .tup us) nu
    have smB := smA.trans s1
    refine ⟨_, rfl, D, _, rfl, .inl ⟨.inl (.inl (smB _ _ eD)), fun u2 nu2 => ?_⟩⟩
    have s2 := same_new (o := .tup (ws.map V.int)) nu2
    have smC := smB.trans s2
    refine ⟨_, rfl, _, rfl, false, u, u2, n, p, us, A, ws, rfl, .inl (.inl (s2 _ _ upd_same)), rs_all (st_RR.all smC hP), .inl (.inl upd_same), hwl, hpp, h31, by omega, by omega, hA, smw, fun t3 H21 sm21 h3 => ?_⟩
    have smD := smC.trans sm21
    refine ⟨_, rfl, _, rfl, _, rfl, _, rfl, true, l, D, n, p, us, A, ws, rfl, .inl (.inl (smD _ _ el)), rs_all (st_RR.all smD hP), .inl (.inl (smD _ _ eD)), hwl, hpp, h31, by omega, by omega, hA, smw, fun t4 H22 sm22 h4 => ?_⟩
    refine ⟨dInts _, dInts _, dp_rs (st_RS.same sm22 h3), dp_rs h4, shaped_dInts _, shaped_dInts _, _, rfl, iteB (by rw [eqv_dInts]; exact not_dec rfl) ?_⟩
    have smE := smD.trans sm22
    exact ⟨_, rfl, _, rfl, _, rfl, v, n, p, r, rfl, st_RR.same smE hRv, hvr, by omega, fun H' _ => q H'⟩
end
theorem all_mk {l : PySem.W.OpenLaw} {w : World} {K : PySem.W.Frag} {h : Heap} {mg : Str → Option Value} {fa : Addr} (X : K.In h) (G : h.Ns mainGlobals mg) (hfa : mg "law" = some (.ref fa))
    {f_is_integer : Addr} {od_is_integer an_is_integer : Option Addr} {sl_is_integer : Array (Option Value)} {oc_is_integer kV_is_integer dc_is_integer pm_is_integer cd_is_integer ct_is_integer : Value}
    (a_is_integer : PySem.W.nsIn K mainGlobals "is_integer" = some (some (.ref f_is_integer))) (l_is_integer : K.lookup f_is_integer = some ⟨oc_is_integer, od_is_integer, .func (PySem.W.fnOf "is_integer" "is_integer" (defArgs s_is_integer) (defBody s_is_integer) (defScope s_is_integer) .none kV_is_integer dc_is_integer pm_is_integer an_is_integer cd_is_integer ct_is_integer), sl_is_integer⟩)
    (c_is_integer : PySem.W.codeIn K cd_is_integer "is_integer" = true) (k_is_integer : PySem.W.keepIn K (.ref f_is_integer) = true)
    {f_power : Addr} {od_power an_power : Option Addr} {sl_power : Array (Option Value)} {oc_power kV_power dc_power pm_power cd_power ct_power : Value}
    (a_power : PySem.W.nsIn K mainGlobals "power" = some (some (.ref f_power))) (l_power : K.lookup f_power = some ⟨oc_power, od_power, .func (PySem.W.fnOf "power" "power" (defArgs s_power) (defBody s_power) (defScope s_power) .none kV_power dc_power pm_power an_power cd_power ct_power), sl_power⟩)
    (c_power : PySem.W.codeIn K cd_power "power" = true) (k_power : PySem.W.keepIn K (.ref f_power) = true)
    {f_inverse : Addr} {od_inverse an_inverse : Option Addr} {sl_inverse : Array (Option Value)} {oc_inverse kV_inverse dc_inverse pm_inverse cd_inverse ct_inverse : Value}
    (a_inverse : PySem.W.nsIn K mainGlobals "inverse" = some (some (.ref f_inverse))) (l_inverse : K.lookup f_inverse = some ⟨oc_inverse, od_inverse, .func (PySem.W.fnOf "inverse" "inverse" (defArgs s_inverse) (defBody s_inverse) (defScope s_inverse) .none kV_inverse dc_inverse pm_inverse an_inverse cd_inverse ct_inverse), sl_inverse⟩)
    (c_inverse : PySem.W.codeIn K cd_inverse "inverse" = true) (k_inverse : PySem.W.keepIn K (.ref f_inverse) = true)
    {f_is_row : Addr} {od_is_row an_is_row : Option Addr} {sl_is_row : Array (Option Value)} {oc_is_row kV_is_row dc_is_row pm_is_row cd_is_row ct_is_row : Value}
    (a_is_row : PySem.W.nsIn K mainGlobals "is_row" = some (some (.ref f_is_row))) (l_is_row : K.lookup f_is_row = some ⟨oc_is_row, od_is_row, .func (PySem.W.fnOf "is_row" "is_row" (defArgs s_is_row) (defBody s_is_row) (defScope s_is_row) .none kV_is_row dc_is_row pm_is_row an_is_row cd_is_row ct_is_row), sl_is_row⟩)
    (c_is_row : PySem.W.codeIn K cd_is_row "is_row" = true) (k_is_row : PySem.W.keepIn K (.ref f_is_row) = true)
    {f_add : Addr} {od_add an_add : Option Addr} {sl_add : Array (Option Value)} {oc_add kV_add dc_add pm_add cd_add ct_add : Value}
    (a_add : PySem.W.nsIn K mainGlobals "add" = some (some (.ref f_add))) (l_add : K.lookup f_add = some ⟨oc_add, od_add, .func (PySem.W.fnOf "add" "add" (defArgs s_add) (defBody s_add) (defScope s_add) .none kV_add dc_add pm_add an_add cd_add ct_add), sl_add⟩)
    (c_add : PySem.W.codeIn K cd_add "add" = true) (k_add : PySem.W.keepIn K (.ref f_add) = true)
    {f_scaled : Addr} {od_scaled an_scaled : Option Addr} {sl_scaled : Array (Option Value)} {oc_scaled kV_scaled dc_scaled pm_scaled cd_scaled ct_scaled : Value}
    (a_scaled : PySem.W.nsIn K mainGlobals "scaled" = some (some (.ref f_scaled))) (l_scaled : K.lookup f_scaled = some ⟨oc_scaled, od_scaled, .func (PySem.W.fnOf "scaled" "scaled" (defArgs s_scaled) (defBody s_scaled) (defScope s_scaled) .none kV_scaled dc_scaled pm_scaled an_scaled cd_scaled ct_scaled), sl_scaled⟩)
    (c_scaled : PySem.W.codeIn K cd_scaled "scaled" = true) (k_scaled : PySem.W.keepIn K (.ref f_scaled) = true)
    {f_dot : Addr} {od_dot an_dot : Option Addr} {sl_dot : Array (Option Value)} {oc_dot kV_dot dc_dot pm_dot cd_dot ct_dot : Value}
    (a_dot : PySem.W.nsIn K mainGlobals "dot" = some (some (.ref f_dot))) (l_dot : K.lookup f_dot = some ⟨oc_dot, od_dot, .func (PySem.W.fnOf "dot" "dot" (defArgs s_dot) (defBody s_dot) (defScope s_dot) .none kV_dot dc_dot pm_dot an_dot cd_dot ct_dot), sl_dot⟩)
    (c_dot : PySem.W.codeIn K cd_dot "dot" = true) (k_dot : PySem.W.keepIn K (.ref f_dot) = true)
    {f_combine : Addr} {od_combine an_combine : Option Addr} {sl_combine : Array (Option Value)} {oc_combine kV_combine dc_combine pm_combine cd_combine ct_combine : Value}
    (a_combine : PySem.W.nsIn K mainGlobals "combine" = some (some (.ref f_combine))) (l_combine : K.lookup f_combine = some ⟨oc_combine, od_combine, .func (PySem.W.fnOf "combine" "combine" (defArgs s_combine) (defBody s_combine) (defScope s_combine) .none kV_combine dc_combine pm_combine an_combine cd_combine ct_combine), sl_combine⟩)
    (c_combine : PySem.W.codeIn K cd_combine "combine" = true) (k_combine : PySem.W.keepIn K (.ref f_combine) = true)
    {f__zeros : Addr} {od__zeros an__zeros : Option Addr} {sl__zeros : Array (Option Value)} {oc__zeros kV__zeros dc__zeros pm__zeros cd__zeros ct__zeros : Value}
    (a__zeros : PySem.W.nsIn K mainGlobals "_zeros" = some (some (.ref f__zeros))) (l__zeros : K.lookup f__zeros = some ⟨oc__zeros, od__zeros, .func (PySem.W.fnOf "_zeros" "_zeros" (defArgs s__zeros) (defBody s__zeros) (defScope s__zeros) .none kV__zeros dc__zeros pm__zeros an__zeros cd__zeros ct__zeros), sl__zeros⟩)
    (c__zeros : PySem.W.codeIn K cd__zeros "_zeros" = true) (k__zeros : PySem.W.keepIn K (.ref f__zeros) = true)
    {f__unit : Addr} {od__unit an__unit : Option Addr} {sl__unit : Array (Option Value)} {oc__unit kV__unit dc__unit pm__unit cd__unit ct__unit : Value}
    (a__unit : PySem.W.nsIn K mainGlobals "_unit" = some (some (.ref f__unit))) (l__unit : K.lookup f__unit = some ⟨oc__unit, od__unit, .func (PySem.W.fnOf "_unit" "_unit" (defArgs s__unit) (defBody s__unit) (defScope s__unit) .none kV__unit dc__unit pm__unit an__unit cd__unit ct__unit), sl__unit⟩)
    (c__unit : PySem.W.codeIn K cd__unit "_unit" = true) (k__unit : PySem.W.keepIn K (.ref f__unit) = true)
    {f__cleared : Addr} {od__cleared an__cleared : Option Addr} {sl__cleared : Array (Option Value)} {oc__cleared kV__cleared dc__cleared pm__cleared cd__cleared ct__cleared : Value}
    (a__cleared : PySem.W.nsIn K mainGlobals "_cleared" = some (some (.ref f__cleared))) (l__cleared : K.lookup f__cleared = some ⟨oc__cleared, od__cleared, .func (PySem.W.fnOf "_cleared" "_cleared" (defArgs s__cleared) (defBody s__cleared) (defScope s__cleared) .none kV__cleared dc__cleared pm__cleared an__cleared cd__cleared ct__cleared), sl__cleared⟩)
    (c__cleared : PySem.W.codeIn K cd__cleared "_cleared" = true) (k__cleared : PySem.W.keepIn K (.ref f__cleared) = true)
    {f__lead_at : Addr} {od__lead_at an__lead_at : Option Addr} {sl__lead_at : Array (Option Value)} {oc__lead_at kV__lead_at dc__lead_at pm__lead_at cd__lead_at ct__lead_at : Value}
    (a__lead_at : PySem.W.nsIn K mainGlobals "_lead_at" = some (some (.ref f__lead_at))) (l__lead_at : K.lookup f__lead_at = some ⟨oc__lead_at, od__lead_at, .func (PySem.W.fnOf "_lead_at" "_lead_at" (defArgs s__lead_at) (defBody s__lead_at) (defScope s__lead_at) .none kV__lead_at dc__lead_at pm__lead_at an__lead_at cd__lead_at ct__lead_at), sl__lead_at⟩)
    (c__lead_at : PySem.W.codeIn K cd__lead_at "_lead_at" = true) (k__lead_at : PySem.W.keepIn K (.ref f__lead_at) = true)
    {f_reduced : Addr} {od_reduced an_reduced : Option Addr} {sl_reduced : Array (Option Value)} {oc_reduced kV_reduced dc_reduced pm_reduced cd_reduced ct_reduced : Value}
    (a_reduced : PySem.W.nsIn K mainGlobals "reduced" = some (some (.ref f_reduced))) (l_reduced : K.lookup f_reduced = some ⟨oc_reduced, od_reduced, .func (PySem.W.fnOf "reduced" "reduced" (defArgs s_reduced) (defBody s_reduced) (defScope s_reduced) .none kV_reduced dc_reduced pm_reduced an_reduced cd_reduced ct_reduced), sl_reduced⟩)
    (c_reduced : PySem.W.codeIn K cd_reduced "reduced" = true) (k_reduced : PySem.W.keepIn K (.ref f_reduced) = true)
    {f_span : Addr} {od_span an_span : Option Addr} {sl_span : Array (Option Value)} {oc_span kV_span dc_span pm_span cd_span ct_span : Value}
    (a_span : PySem.W.nsIn K mainGlobals "span" = some (some (.ref f_span))) (l_span : K.lookup f_span = some ⟨oc_span, od_span, .func (PySem.W.fnOf "span" "span" (defArgs s_span) (defBody s_span) (defScope s_span) .none kV_span dc_span pm_span an_span cd_span ct_span), sl_span⟩)
    (c_span : PySem.W.codeIn K cd_span "span" = true) (k_span : PySem.W.keepIn K (.ref f_span) = true)
    {f_kernel : Addr} {od_kernel an_kernel : Option Addr} {sl_kernel : Array (Option Value)} {oc_kernel kV_kernel dc_kernel pm_kernel cd_kernel ct_kernel : Value}
    (a_kernel : PySem.W.nsIn K mainGlobals "kernel" = some (some (.ref f_kernel))) (l_kernel : K.lookup f_kernel = some ⟨oc_kernel, od_kernel, .func (PySem.W.fnOf "kernel" "kernel" (defArgs s_kernel) (defBody s_kernel) (defScope s_kernel) .none kV_kernel dc_kernel pm_kernel an_kernel cd_kernel ct_kernel), sl_kernel⟩)
    (c_kernel : PySem.W.codeIn K cd_kernel "kernel" = true) (k_kernel : PySem.W.keepIn K (.ref f_kernel) = true)
    {f__columns : Addr} {od__columns an__columns : Option Addr} {sl__columns : Array (Option Value)} {oc__columns kV__columns dc__columns pm__columns cd__columns ct__columns : Value}
    (a__columns : PySem.W.nsIn K mainGlobals "_columns" = some (some (.ref f__columns))) (l__columns : K.lookup f__columns = some ⟨oc__columns, od__columns, .func (PySem.W.fnOf "_columns" "_columns" (defArgs s__columns) (defBody s__columns) (defScope s__columns) .none kV__columns dc__columns pm__columns an__columns cd__columns ct__columns), sl__columns⟩)
    (c__columns : PySem.W.codeIn K cd__columns "_columns" = true) (k__columns : PySem.W.keepIn K (.ref f__columns) = true)
    {f_relations : Addr} {od_relations an_relations : Option Addr} {sl_relations : Array (Option Value)} {oc_relations kV_relations dc_relations pm_relations cd_relations ct_relations : Value}
    (a_relations : PySem.W.nsIn K mainGlobals "relations" = some (some (.ref f_relations))) (l_relations : K.lookup f_relations = some ⟨oc_relations, od_relations, .func (PySem.W.fnOf "relations" "relations" (defArgs s_relations) (defBody s_relations) (defScope s_relations) .none kV_relations dc_relations pm_relations an_relations cd_relations ct_relations), sl_relations⟩)
    (c_relations : PySem.W.codeIn K cd_relations "relations" = true) (k_relations : PySem.W.keepIn K (.ref f_relations) = true)
    {f_sum_of : Addr} {od_sum_of an_sum_of : Option Addr} {sl_sum_of : Array (Option Value)} {oc_sum_of kV_sum_of dc_sum_of pm_sum_of cd_sum_of ct_sum_of : Value}
    (a_sum_of : PySem.W.nsIn K mainGlobals "sum_of" = some (some (.ref f_sum_of))) (l_sum_of : K.lookup f_sum_of = some ⟨oc_sum_of, od_sum_of, .func (PySem.W.fnOf "sum_of" "sum_of" (defArgs s_sum_of) (defBody s_sum_of) (defScope s_sum_of) .none kV_sum_of dc_sum_of pm_sum_of an_sum_of cd_sum_of ct_sum_of), sl_sum_of⟩)
    (c_sum_of : PySem.W.codeIn K cd_sum_of "sum_of" = true) (k_sum_of : PySem.W.keepIn K (.ref f_sum_of) = true)
    {f_common_part : Addr} {od_common_part an_common_part : Option Addr} {sl_common_part : Array (Option Value)} {oc_common_part kV_common_part dc_common_part pm_common_part cd_common_part ct_common_part : Value}
    (a_common_part : PySem.W.nsIn K mainGlobals "common_part" = some (some (.ref f_common_part))) (l_common_part : K.lookup f_common_part = some ⟨oc_common_part, od_common_part, .func (PySem.W.fnOf "common_part" "common_part" (defArgs s_common_part) (defBody s_common_part) (defScope s_common_part) .none kV_common_part dc_common_part pm_common_part an_common_part cd_common_part ct_common_part), sl_common_part⟩)
    (c_common_part : PySem.W.codeIn K cd_common_part "common_part" = true) (k_common_part : PySem.W.keepIn K (.ref f_common_part) = true)
    {f_all_rows : Addr} {od_all_rows an_all_rows : Option Addr} {sl_all_rows : Array (Option Value)} {oc_all_rows kV_all_rows dc_all_rows pm_all_rows cd_all_rows ct_all_rows : Value}
    (a_all_rows : PySem.W.nsIn K mainGlobals "all_rows" = some (some (.ref f_all_rows))) (l_all_rows : K.lookup f_all_rows = some ⟨oc_all_rows, od_all_rows, .func (PySem.W.fnOf "all_rows" "all_rows" (defArgs s_all_rows) (defBody s_all_rows) (defScope s_all_rows) .none kV_all_rows dc_all_rows pm_all_rows an_all_rows cd_all_rows ct_all_rows), sl_all_rows⟩)
    (c_all_rows : PySem.W.codeIn K cd_all_rows "all_rows" = true) (k_all_rows : PySem.W.keepIn K (.ref f_all_rows) = true)
    {f__law_state : Addr} {od__law_state an__law_state : Option Addr} {sl__law_state : Array (Option Value)} {oc__law_state kV__law_state dc__law_state pm__law_state cd__law_state ct__law_state : Value}
    (a__law_state : PySem.W.nsIn K mainGlobals "_law_state" = some (some (.ref f__law_state))) (l__law_state : K.lookup f__law_state = some ⟨oc__law_state, od__law_state, .func (PySem.W.fnOf "_law_state" "_law_state" (defArgs s__law_state) (defBody s__law_state) (defScope s__law_state) .none kV__law_state dc__law_state pm__law_state an__law_state cd__law_state ct__law_state), sl__law_state⟩)
    (c__law_state : PySem.W.codeIn K cd__law_state "_law_state" = true) (k__law_state : PySem.W.keepIn K (.ref f__law_state) = true)
    {f__law_take : Addr} {od__law_take an__law_take : Option Addr} {sl__law_take : Array (Option Value)} {oc__law_take kV__law_take dc__law_take pm__law_take cd__law_take ct__law_take : Value}
    (a__law_take : PySem.W.nsIn K mainGlobals "_law_take" = some (some (.ref f__law_take))) (l__law_take : K.lookup f__law_take = some ⟨oc__law_take, od__law_take, .func (PySem.W.fnOf "_law_take" "_law_take" (defArgs s__law_take) (defBody s__law_take) (defScope s__law_take) .none kV__law_take dc__law_take pm__law_take an__law_take cd__law_take ct__law_take), sl__law_take⟩)
    (c__law_take : PySem.W.codeIn K cd__law_take "_law_take" = true) (k__law_take : PySem.W.keepIn K (.ref f__law_take) = true)
    {f__law_sum : Addr} {od__law_sum an__law_sum : Option Addr} {sl__law_sum : Array (Option Value)} {oc__law_sum kV__law_sum dc__law_sum pm__law_sum cd__law_sum ct__law_sum : Value}
    (a__law_sum : PySem.W.nsIn K mainGlobals "_law_sum" = some (some (.ref f__law_sum))) (l__law_sum : K.lookup f__law_sum = some ⟨oc__law_sum, od__law_sum, .func (PySem.W.fnOf "_law_sum" "_law_sum" (defArgs s__law_sum) (defBody s__law_sum) (defScope s__law_sum) .none kV__law_sum dc__law_sum pm__law_sum an__law_sum cd__law_sum ct__law_sum), sl__law_sum⟩)
    (c__law_sum : PySem.W.codeIn K cd__law_sum "_law_sum" = true) (k__law_sum : PySem.W.keepIn K (.ref f__law_sum) = true)
    {f__law_scaled : Addr} {od__law_scaled an__law_scaled : Option Addr} {sl__law_scaled : Array (Option Value)} {oc__law_scaled kV__law_scaled dc__law_scaled pm__law_scaled cd__law_scaled ct__law_scaled : Value}
    (a__law_scaled : PySem.W.nsIn K mainGlobals "_law_scaled" = some (some (.ref f__law_scaled))) (l__law_scaled : K.lookup f__law_scaled = some ⟨oc__law_scaled, od__law_scaled, .func (PySem.W.fnOf "_law_scaled" "_law_scaled" (defArgs s__law_scaled) (defBody s__law_scaled) (defScope s__law_scaled) .none kV__law_scaled dc__law_scaled pm__law_scaled an__law_scaled cd__law_scaled ct__law_scaled), sl__law_scaled⟩)
    (c__law_scaled : PySem.W.codeIn K cd__law_scaled "_law_scaled" = true) (k__law_scaled : PySem.W.keepIn K (.ref f__law_scaled) = true)
    {f__law_zero : Addr} {od__law_zero an__law_zero : Option Addr} {sl__law_zero : Array (Option Value)} {oc__law_zero kV__law_zero dc__law_zero pm__law_zero cd__law_zero ct__law_zero : Value}
    (a__law_zero : PySem.W.nsIn K mainGlobals "_law_zero" = some (some (.ref f__law_zero))) (l__law_zero : K.lookup f__law_zero = some ⟨oc__law_zero, od__law_zero, .func (PySem.W.fnOf "_law_zero" "_law_zero" (defArgs s__law_zero) (defBody s__law_zero) (defScope s__law_zero) .none kV__law_zero dc__law_zero pm__law_zero an__law_zero cd__law_zero ct__law_zero), sl__law_zero⟩)
    (c__law_zero : PySem.W.codeIn K cd__law_zero "_law_zero" = true) (k__law_zero : PySem.W.keepIn K (.ref f__law_zero) = true)
    {f__law_element : Addr} {od__law_element an__law_element : Option Addr} {sl__law_element : Array (Option Value)} {oc__law_element kV__law_element dc__law_element pm__law_element cd__law_element ct__law_element : Value}
    (a__law_element : PySem.W.nsIn K mainGlobals "_law_element" = some (some (.ref f__law_element))) (l__law_element : K.lookup f__law_element = some ⟨oc__law_element, od__law_element, .func (PySem.W.fnOf "_law_element" "_law_element" (defArgs s__law_element) (defBody s__law_element) (defScope s__law_element) .none kV__law_element dc__law_element pm__law_element an__law_element cd__law_element ct__law_element), sl__law_element⟩)
    (c__law_element : PySem.W.codeIn K cd__law_element "_law_element" = true) (k__law_element : PySem.W.keepIn K (.ref f__law_element) = true)
    {f__law_span : Addr} {od__law_span an__law_span : Option Addr} {sl__law_span : Array (Option Value)} {oc__law_span kV__law_span dc__law_span pm__law_span cd__law_span ct__law_span : Value}
    (a__law_span : PySem.W.nsIn K mainGlobals "_law_span" = some (some (.ref f__law_span))) (l__law_span : K.lookup f__law_span = some ⟨oc__law_span, od__law_span, .func (PySem.W.fnOf "_law_span" "_law_span" (defArgs s__law_span) (defBody s__law_span) (defScope s__law_span) .none kV__law_span dc__law_span pm__law_span an__law_span cd__law_span ct__law_span), sl__law_span⟩)
    (c__law_span : PySem.W.codeIn K cd__law_span "_law_span" = true) (k__law_span : PySem.W.keepIn K (.ref f__law_span) = true)
    {f__law_in_form : Addr} {od__law_in_form an__law_in_form : Option Addr} {sl__law_in_form : Array (Option Value)} {oc__law_in_form kV__law_in_form dc__law_in_form pm__law_in_form cd__law_in_form ct__law_in_form : Value}
    (a__law_in_form : PySem.W.nsIn K mainGlobals "_law_in_form" = some (some (.ref f__law_in_form))) (l__law_in_form : K.lookup f__law_in_form = some ⟨oc__law_in_form, od__law_in_form, .func (PySem.W.fnOf "_law_in_form" "_law_in_form" (defArgs s__law_in_form) (defBody s__law_in_form) (defScope s__law_in_form) .none kV__law_in_form dc__law_in_form pm__law_in_form an__law_in_form cd__law_in_form ct__law_in_form), sl__law_in_form⟩)
    (c__law_in_form : PySem.W.codeIn K cd__law_in_form "_law_in_form" = true) (k__law_in_form : PySem.W.keepIn K (.ref f__law_in_form) = true)
    {f__law_shows : Addr} {od__law_shows an__law_shows : Option Addr} {sl__law_shows : Array (Option Value)} {oc__law_shows kV__law_shows dc__law_shows pm__law_shows cd__law_shows ct__law_shows : Value}
    (a__law_shows : PySem.W.nsIn K mainGlobals "_law_shows" = some (some (.ref f__law_shows))) (l__law_shows : K.lookup f__law_shows = some ⟨oc__law_shows, od__law_shows, .func (PySem.W.fnOf "_law_shows" "_law_shows" (defArgs s__law_shows) (defBody s__law_shows) (defScope s__law_shows) .none kV__law_shows dc__law_shows pm__law_shows an__law_shows cd__law_shows ct__law_shows), sl__law_shows⟩)
    (c__law_shows : PySem.W.codeIn K cd__law_shows "_law_shows" = true) (k__law_shows : PySem.W.keepIn K (.ref f__law_shows) = true)
    {f__law_prime : Addr} {od__law_prime an__law_prime : Option Addr} {sl__law_prime : Array (Option Value)} {oc__law_prime kV__law_prime dc__law_prime pm__law_prime cd__law_prime ct__law_prime : Value}
    (a__law_prime : PySem.W.nsIn K mainGlobals "_law_prime" = some (some (.ref f__law_prime))) (l__law_prime : K.lookup f__law_prime = some ⟨oc__law_prime, od__law_prime, .func (PySem.W.fnOf "_law_prime" "_law_prime" (defArgs s__law_prime) (defBody s__law_prime) (defScope s__law_prime) .none kV__law_prime dc__law_prime pm__law_prime an__law_prime cd__law_prime ct__law_prime), sl__law_prime⟩)
    (c__law_prime : PySem.W.codeIn K cd__law_prime "_law_prime" = true) (k__law_prime : PySem.W.keepIn K (.ref f__law_prime) = true)
    {f__law_width : Addr} {od__law_width an__law_width : Option Addr} {sl__law_width : Array (Option Value)} {oc__law_width kV__law_width dc__law_width pm__law_width cd__law_width ct__law_width : Value}
    (a__law_width : PySem.W.nsIn K mainGlobals "_law_width" = some (some (.ref f__law_width))) (l__law_width : K.lookup f__law_width = some ⟨oc__law_width, od__law_width, .func (PySem.W.fnOf "_law_width" "_law_width" (defArgs s__law_width) (defBody s__law_width) (defScope s__law_width) .none kV__law_width dc__law_width pm__law_width an__law_width cd__law_width ct__law_width), sl__law_width⟩)
    (c__law_width : PySem.W.codeIn K cd__law_width "_law_width" = true) (k__law_width : PySem.W.keepIn K (.ref f__law_width) = true)
    {f__law_rows : Addr} {od__law_rows an__law_rows : Option Addr} {sl__law_rows : Array (Option Value)} {oc__law_rows kV__law_rows dc__law_rows pm__law_rows cd__law_rows ct__law_rows : Value}
    (a__law_rows : PySem.W.nsIn K mainGlobals "_law_rows" = some (some (.ref f__law_rows))) (l__law_rows : K.lookup f__law_rows = some ⟨oc__law_rows, od__law_rows, .func (PySem.W.fnOf "_law_rows" "_law_rows" (defArgs s__law_rows) (defBody s__law_rows) (defScope s__law_rows) .none kV__law_rows dc__law_rows pm__law_rows an__law_rows cd__law_rows ct__law_rows), sl__law_rows⟩)
    (c__law_rows : PySem.W.codeIn K cd__law_rows "_law_rows" = true) (k__law_rows : PySem.W.keepIn K (.ref f__law_rows) = true)
    {f__law_dot : Addr} {od__law_dot an__law_dot : Option Addr} {sl__law_dot : Array (Option Value)} {oc__law_dot kV__law_dot dc__law_dot pm__law_dot cd__law_dot ct__law_dot : Value}
    (a__law_dot : PySem.W.nsIn K mainGlobals "_law_dot" = some (some (.ref f__law_dot))) (l__law_dot : K.lookup f__law_dot = some ⟨oc__law_dot, od__law_dot, .func (PySem.W.fnOf "_law_dot" "_law_dot" (defArgs s__law_dot) (defBody s__law_dot) (defScope s__law_dot) .none kV__law_dot dc__law_dot pm__law_dot an__law_dot cd__law_dot ct__law_dot), sl__law_dot⟩)
    (c__law_dot : PySem.W.codeIn K cd__law_dot "_law_dot" = true) (k__law_dot : PySem.W.keepIn K (.ref f__law_dot) = true)
    {f__law_total : Addr} {od__law_total an__law_total : Option Addr} {sl__law_total : Array (Option Value)} {oc__law_total kV__law_total dc__law_total pm__law_total cd__law_total ct__law_total : Value}
    (a__law_total : PySem.W.nsIn K mainGlobals "_law_total" = some (some (.ref f__law_total))) (l__law_total : K.lookup f__law_total = some ⟨oc__law_total, od__law_total, .func (PySem.W.fnOf "_law_total" "_law_total" (defArgs s__law_total) (defBody s__law_total) (defScope s__law_total) .none kV__law_total dc__law_total pm__law_total an__law_total cd__law_total ct__law_total), sl__law_total⟩)
    (c__law_total : PySem.W.codeIn K cd__law_total "_law_total" = true) (k__law_total : PySem.W.keepIn K (.ref f__law_total) = true)
    {f__law_kinds : Addr} {od__law_kinds an__law_kinds : Option Addr} {sl__law_kinds : Array (Option Value)} {oc__law_kinds kV__law_kinds dc__law_kinds pm__law_kinds cd__law_kinds ct__law_kinds : Value}
    (a__law_kinds : PySem.W.nsIn K mainGlobals "_law_kinds" = some (some (.ref f__law_kinds))) (l__law_kinds : K.lookup f__law_kinds = some ⟨oc__law_kinds, od__law_kinds, .func (PySem.W.fnOf "_law_kinds" "_law_kinds" (defArgs s__law_kinds) (defBody s__law_kinds) (defScope s__law_kinds) .none kV__law_kinds dc__law_kinds pm__law_kinds an__law_kinds cd__law_kinds ct__law_kinds), sl__law_kinds⟩)
    (c__law_kinds : PySem.W.codeIn K cd__law_kinds "_law_kinds" = true) (k__law_kinds : PySem.W.keepIn K (.ref f__law_kinds) = true)
    {f_law : Addr} {od_law an_law : Option Addr} {sl_law : Array (Option Value)} {oc_law kV_law dc_law pm_law cd_law ct_law : Value}
    (a_law : PySem.W.nsIn K mainGlobals "law" = some (some (.ref f_law))) (l_law : K.lookup f_law = some ⟨oc_law, od_law, .func (PySem.W.fnOf "law" "law" (defArgs s_law) (defBody s_law) (defScope s_law) .none kV_law dc_law pm_law an_law cd_law ct_law), sl_law⟩)
    (c_law : PySem.W.codeIn K cd_law "law" = true) (k_law : PySem.W.keepIn K (.ref f_law) = true)
    (z_isinstance : PySem.W.nsIn K mainGlobals "isinstance" = some none)
    (z_int : PySem.W.nsIn K mainGlobals "int" = some none)
    (z_bool : PySem.W.nsIn K mainGlobals "bool" = some none)
    (z_all : PySem.W.nsIn K mainGlobals "all" = some none)
    (z_tuple : PySem.W.nsIn K mainGlobals "tuple" = some none)
    (z_len : PySem.W.nsIn K mainGlobals "len" = some none)
    (z_zip : PySem.W.nsIn K mainGlobals "zip" = some none)
    (z_sum : PySem.W.nsIn K mainGlobals "sum" = some none)
    (z_range : PySem.W.nsIn K mainGlobals "range" = some none)
    (z_list : PySem.W.nsIn K mainGlobals "list" = some none)
    (z_abs : PySem.W.nsIn K mainGlobals "abs" = some none)
    (z_sorted : PySem.W.nsIn K mainGlobals "sorted" = some none) :
    ∃ fd : FuncData, (∀ (s : Shared) (v : Value), BindsTo s fd ⟨[v], []⟩ [("script", v)]) ∧ ∀ base : Heap, K.In base → base.Ns mainGlobals mg → FnOk l.prog w K mg base CX0 9 fa fd ["script"] (sp_law K) := by
  have e := hfa.symm.trans (PySem.W.mg_of X G a_law)
  cases e
  let T : Txt K mg := txt_mk X G a_is_integer l_is_integer c_is_integer k_is_integer a_power l_power c_power k_power a_inverse l_inverse c_inverse k_inverse a_is_row l_is_row c_is_row k_is_row a_add l_add c_add k_add a_scaled l_scaled c_scaled k_scaled a_dot l_dot c_dot k_dot a_combine l_combine c_combine k_combine a__zeros l__zeros c__zeros k__zeros a__unit l__unit c__unit k__unit a__cleared l__cleared c__cleared k__cleared a__lead_at l__lead_at c__lead_at k__lead_at a_reduced l_reduced c_reduced k_reduced a_span l_span c_span k_span a_kernel l_kernel c_kernel k_kernel a__columns l__columns c__columns k__columns a_relations l_relations c_relations k_relations a_sum_of l_sum_of c_sum_of k_sum_of a_common_part l_common_part c_common_part k_common_part a_all_rows l_all_rows c_all_rows k_all_rows a__law_state l__law_state c__law_state k__law_state a__law_take l__law_take c__law_take k__law_take a__law_sum l__law_sum c__law_sum k__law_sum a__law_scaled l__law_scaled c__law_scaled k__law_scaled a__law_zero l__law_zero c__law_zero k__law_zero a__law_element l__law_element c__law_element k__law_element a__law_span l__law_span c__law_span k__law_span a__law_in_form l__law_in_form c__law_in_form k__law_in_form a__law_shows l__law_shows c__law_shows k__law_shows a__law_prime l__law_prime c__law_prime k__law_prime a__law_width l__law_width c__law_width k__law_width a__law_rows l__law_rows c__law_rows k__law_rows a__law_dot l__law_dot c__law_dot k__law_dot a__law_total l__law_total c__law_total k__law_total a__law_kinds l__law_kinds c__law_kinds k__law_kinds a_law l_law c_law k_law z_isinstance z_int z_bool z_all z_tuple z_len z_zip z_sum z_range z_list z_abs z_sorted
  exact ⟨PySem.W.fnOf "law" "law" (defArgs s_law) (defBody s_law) (defScope s_law) .none kV_law dc_law pm_law an_law cd_law ct_law, fun s v => .of_eq rfl, fun base _ _ => ok_law T⟩
end K04
open PySem PySem.W PyProof.Rows
set_option maxRecDepth 100000 in
set_option maxHeartbeats 0 in
theorem PySem.Challenge.cw_polychains_k04_whole_spaces_holds : PySem.Challenge.rw_polychains_k04_whole_spaces.Holds := by
  w_on; o_law; k_head; (case hw => w_witness2)
  k_fill
  refine L2.walk_of (l := PySem.Challenge.rw_polychains_k04_whole_spaces) (n := 63) (k := 9) (x := "script") (CX := fun _ => L2.CX0) (sp := fun w => K04.sp_law _) rfl (by decide) rfl ⟨rfl, by decide, by decide⟩ (fun w h Y => PySem.W.kIn_of Y) ?F (fun _ _ a ns hl _ hS => ⟨a, ns, rfl, hS, hl, fun _ => rfl⟩) (fun _ _ _ _ _ h => h)
  case F =>
    intro w mg fa h KX G hmg
    refine' K04.all_mk KX G hmg ?a_is_integer ?l_is_integer ?c_is_integer ?k_is_integer ?a_power ?l_power ?c_power ?k_power ?a_inverse ?l_inverse ?c_inverse ?k_inverse ?a_is_row ?l_is_row ?c_is_row ?k_is_row ?a_add ?l_add ?c_add ?k_add ?a_scaled ?l_scaled ?c_scaled ?k_scaled ?a_dot ?l_dot ?c_dot ?k_dot ?a_combine ?l_combine ?c_combine ?k_combine ?a__zeros ?l__zeros ?c__zeros ?k__zeros ?a__unit ?l__unit ?c__unit ?k__unit ?a__cleared ?l__cleared ?c__cleared ?k__cleared ?a__lead_at ?l__lead_at ?c__lead_at ?k__lead_at ?a_reduced ?l_reduced ?c_reduced ?k_reduced ?a_span ?l_span ?c_span ?k_span ?a_kernel ?l_kernel ?c_kernel ?k_kernel ?a__columns ?l__columns ?c__columns ?k__columns ?a_relations ?l_relations ?c_relations ?k_relations ?a_sum_of ?l_sum_of ?c_sum_of ?k_sum_of ?a_common_part ?l_common_part ?c_common_part ?k_common_part ?a_all_rows ?l_all_rows ?c_all_rows ?k_all_rows ?a__law_state ?l__law_state ?c__law_state ?k__law_state ?a__law_take ?l__law_take ?c__law_take ?k__law_take ?a__law_sum ?l__law_sum ?c__law_sum ?k__law_sum ?a__law_scaled ?l__law_scaled ?c__law_scaled ?k__law_scaled ?a__law_zero ?l__law_zero ?c__law_zero ?k__law_zero ?a__law_element ?l__law_element ?c__law_element ?k__law_element ?a__law_span ?l__law_span ?c__law_span ?k__law_span ?a__law_in_form ?l__law_in_form ?c__law_in_form ?k__law_in_form ?a__law_shows ?l__law_shows ?c__law_shows ?k__law_shows ?a__law_prime ?l__law_prime ?c__law_prime ?k__law_prime ?a__law_width ?l__law_width ?c__law_width ?k__law_width ?a__law_rows ?l__law_rows ?c__law_rows ?k__law_rows ?a__law_dot ?l__law_dot ?c__law_dot ?k__law_dot ?a__law_total ?l__law_total ?c__law_total ?k__law_total ?a__law_kinds ?l__law_kinds ?c__law_kinds ?k__law_kinds ?a_law ?l_law ?c_law ?k_law ?z_isinstance ?z_int ?z_bool ?z_all ?z_tuple ?z_len ?z_zip ?z_sum ?z_range ?z_list ?z_abs ?z_sorted
    (case a_is_integer => k_is)
    (case l_is_integer => k_is)
    (case c_is_integer => k_is)
    (case k_is_integer => k_is)
    (case a_power => k_is)
    (case l_power => k_is)
    (case c_power => k_is)
    (case k_power => k_is)
    (case a_inverse => k_is)
    (case l_inverse => k_is)
    (case c_inverse => k_is)
    (case k_inverse => k_is)
    (case a_is_row => k_is)
    (case l_is_row => k_is)
    (case c_is_row => k_is)
    (case k_is_row => k_is)
    (case a_add => k_is)
    (case l_add => k_is)
    (case c_add => k_is)
    (case k_add => k_is)
    (case a_scaled => k_is)
    (case l_scaled => k_is)
    (case c_scaled => k_is)
    (case k_scaled => k_is)
    (case a_dot => k_is)
    (case l_dot => k_is)
    (case c_dot => k_is)
    (case k_dot => k_is)
    (case a_combine => k_is)
    (case l_combine => k_is)
    (case c_combine => k_is)
    (case k_combine => k_is)
    (case a__zeros => k_is)
    (case l__zeros => k_is)
    (case c__zeros => k_is)
    (case k__zeros => k_is)
    (case a__unit => k_is)
    (case l__unit => k_is)
    (case c__unit => k_is)
    (case k__unit => k_is)
    (case a__cleared => k_is)
    (case l__cleared => k_is)
    (case c__cleared => k_is)
    (case k__cleared => k_is)
    (case a__lead_at => k_is)
    (case l__lead_at => k_is)
    (case c__lead_at => k_is)
    (case k__lead_at => k_is)
    (case a_reduced => k_is)
    (case l_reduced => k_is)
    (case c_reduced => k_is)
    (case k_reduced => k_is)
    (case a_span => k_is)
    (case l_span => k_is)
    (case c_span => k_is)
    (case k_span => k_is)
    (case a_kernel => k_is)
    (case l_kernel => k_is)
    (case c_kernel => k_is)
    (case k_kernel => k_is)
    (case a__columns => k_is)
    (case l__columns => k_is)
    (case c__columns => k_is)
    (case k__columns => k_is)
    (case a_relations => k_is)
    (case l_relations => k_is)
    (case c_relations => k_is)
    (case k_relations => k_is)
    (case a_sum_of => k_is)
    (case l_sum_of => k_is)
    (case c_sum_of => k_is)
    (case k_sum_of => k_is)
    (case a_common_part => k_is)
    (case l_common_part => k_is)
    (case c_common_part => k_is)
    (case k_common_part => k_is)
    (case a_all_rows => k_is)
    (case l_all_rows => k_is)
    (case c_all_rows => k_is)
    (case k_all_rows => k_is)
    (case a__law_state => k_is)
    (case l__law_state => k_is)
    (case c__law_state => k_is)
    (case k__law_state => k_is)
    (case a__law_take => k_is)
    (case l__law_take => k_is)
    (case c__law_take => k_is)
    (case k__law_take => k_is)
    (case a__law_sum => k_is)
    (case l__law_sum => k_is)
    (case c__law_sum => k_is)
    (case k__law_sum => k_is)
    (case a__law_scaled => k_is)
    (case l__law_scaled => k_is)
    (case c__law_scaled => k_is)
    (case k__law_scaled => k_is)
    (case a__law_zero => k_is)
    (case l__law_zero => k_is)
    (case c__law_zero => k_is)
    (case k__law_zero => k_is)
    (case a__law_element => k_is)
    (case l__law_element => k_is)
    (case c__law_element => k_is)
    (case k__law_element => k_is)
    (case a__law_span => k_is)
    (case l__law_span => k_is)
    (case c__law_span => k_is)
    (case k__law_span => k_is)
    (case a__law_in_form => k_is)
    (case l__law_in_form => k_is)
    (case c__law_in_form => k_is)
    (case k__law_in_form => k_is)
    (case a__law_shows => k_is)
    (case l__law_shows => k_is)
    (case c__law_shows => k_is)
    (case k__law_shows => k_is)
    (case a__law_prime => k_is)
    (case l__law_prime => k_is)
    (case c__law_prime => k_is)
    (case k__law_prime => k_is)
    (case a__law_width => k_is)
    (case l__law_width => k_is)
    (case c__law_width => k_is)
    (case k__law_width => k_is)
    (case a__law_rows => k_is)
    (case l__law_rows => k_is)
    (case c__law_rows => k_is)
    (case k__law_rows => k_is)
    (case a__law_dot => k_is)
    (case l__law_dot => k_is)
    (case c__law_dot => k_is)
    (case k__law_dot => k_is)
    (case a__law_total => k_is)
    (case l__law_total => k_is)
    (case c__law_total => k_is)
    (case k__law_total => k_is)
    (case a__law_kinds => k_is)
    (case l__law_kinds => k_is)
    (case c__law_kinds => k_is)
    (case k__law_kinds => k_is)
    (case a_law => k_is)
    (case l_law => k_is)
    (case c_law => k_is)
    (case k_law => k_is)
    (case z_isinstance => k_is)
    (case z_int => k_is)
    (case z_bool => k_is)
    (case z_all => k_is)
    (case z_tuple => k_is)
    (case z_len => k_is)
    (case z_zip => k_is)
    (case z_sum => k_is)
    (case z_range => k_is)
    (case z_list => k_is)
    (case z_abs => k_is)
    (case z_sorted => k_is)
