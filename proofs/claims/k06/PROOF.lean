import PyProof.Rows.All
import Wide.All
import OpenK.AllK
import Wide.FinOn
import PySem.Challenge.RW_polychains_k06_presentations
import HandS.ForMost
import HandS.Exc
import HandS.ExcOwn
import HandS.WordsExc
import HandS.ExcInit
import HandS.ExcField
import HandS.IsInst
import HandS.Wide
import HandS.SortInts
import HandS.TupLe
import HandS.FStr
import HandS.ClsMeth
import HandS.Conv
import HandS.Flow
import HandS.Codes
import HandS.ExcIs
import HandS.Walk
import HandS.Zip
import HandS.TupMul
import HandS.TupAny
import HandS.Star
import HandS.Deep
import HandS.Strs
import HandS.Style
import HandS.GenList
import HandS.Dict
import PyProof.TupleKey
import PyProof.DictKinds
import PyProof.DictRoadsH
import KE.SortData
import KE.KExcIs
import KE.GoesMore
set_option Elab.async false
set_option linter.all false
set_option maxRecDepth 100000
set_option maxHeartbeats 4000000
namespace K06
open PySem PySem.Spec PyProof.Rows L2
section
variable {P : Program} {w : World} {K : PySem.W.Frag} {mg : Str → Option Value} {base : Heap}
theorem yesT {σ : L2.St} {H : Hp} {A B : Hp → Prop} (h : A H) : tYes σ H (fun b H3 => if b = true then A H3 else B H3) := h
/-! operators that hand on a letter -/
def rL (g : Int → Int → Int) : R2 := fun x y H Q => ∃ i j, x = .int i ∧ y = .int j ∧ ∀ z, z = g i j → Q (.int z) H
theorem op_addL {X : Cx} : OpR X (binaryOp .Add) (rL fun i j => i + j) := by
  intro pins s σ H x y v u Q I rx ry h
  obtain ⟨i, j, hx, hy, q⟩ := h
  exact op_add pins s σ H x y v u Q I rx ry ⟨i, j, hx, hy, q _ rfl⟩
theorem op_subL {X : Cx} : OpR X (binaryOp .Sub) (rL fun i j => i - j) := by
  intro pins s σ H x y v u Q I rx ry h
  obtain ⟨i, j, hx, hy, q⟩ := h
  exact op_sub pins s σ H x y v u Q I rx ry ⟨i, j, hx, hy, q _ rfl⟩
theorem call_lenL {X : Cx} : CallR X (.builtin "len") (fun xs H Q => ∃ p ys, xs = [.ref p] ∧ (SqL X.K H p ys ∨ SqT X.K H p ys) ∧ ∀ z : Int, z = (ys.length : Int) → Q (.int z) H) := by
  intro pins s σ H xs us Q I r h
  obtain ⟨p, ys, e, hs, q⟩ := h
  exact call_len_seq pins s σ H xs us Q I r ⟨p, ys, e, hs, q _ rfl⟩
theorem iteB {b : Bool} {A B : Prop} (h : b = false) (q : B) : if b = true then A else B := by
  rw [h]
  exact iteF q
theorem iteA {b : Bool} {A B : Prop} (h : b = true) (q : A) : if b = true then A else B := by
  rw [h]
  exact iteT q
theorem not_dec {p : Prop} [Decidable p] (h : p) : (!decide p) = false := by rw [decide_eq_true h]; rfl
theorem same_new {H : Hp} {p : Addr} {o : HO} (h : H p = none) : Same H (upd H p o) := fun b x e => by
  rw [upd_ne (ne_of_none e h)]
  exact e
/-- a list at o that was new may change -/
theorem same_mut {H H' : Hp} {o : Addr} {u : HO} (e : Same H H') (h : H o = none) : Same H (upd H' o u) := fun b x hb => by
  rw [upd_ne (ne_of_none hb h)]
  exact e b x hb
theorem op_modE {X : Cx} : OpR X (binaryOp .Mod) (fun x y H Q => ∃ i j : Int, x = .int i ∧ y = .int j ∧ 0 < j ∧ Q (.int (i % j)) H) := by
  intro pins s σ H x y v u Q I rx ry h
  obtain ⟨i, j, hx, hy, hj, q⟩ := h
  refine op_modN pins s σ H x y v u Q I rx ry ⟨i, j, hx, hy, (show j ≠ 0 by omega), ?_⟩
  show Q (V.int (i.fmod j)) H
  rw [Int.fmod_eq_emod_of_nonneg _ (Int.le_of_lt hj)]
  exact q
/-! ### the error with a reason -/
theorem pe_finit {X : Cx} {e : Expr} {es : List Expr} {ta : TA} {p1 p2 pos : Pos} {f : Str} {CF : Addr} {pl : Sem Bool} (hg : Gl X f) (hm : X.mg f = some (.ref CF)) (r : ClX.CRead X.K CF (.type "type"))
    (kv : PySem.W.findCls X.K (.ref CF) (.type "type") "__init__" = some (.val (.builtin "ValueError.__init__"))) (ha : PA X (e :: es) ta)
    (hc : eval (.Call (.Attribute (.Name f p1) "__init__" p2) (e :: es) [] pos) X.env = (do
      let ov ← eval (.Name f p1) X.env
      standAt p2.atName
      let (f, first) ← holding [ov] (getMethod ov "__init__" pl)
      callWith pos f first (backTo pos (starEach (e :: es) X.env)) (backToKw pos (keywordEach [] X.env))) := by rfl)
    (hd : (f == ("__debug__" : Str)) = false := by decide)
    (he : starEach (e :: es) X.env = (false, eval e X.env) :: starEach es X.env := by rfl) (hpl : (backTo pos (starEach es X.env)).any (·.1) = false := by rfl) :
    PE X (.Call (.Attribute (.Name f p1) "__init__" p2) (e :: es) [] pos) (tVeI X.K ta) := by
  refine ⟨fun pins s σ H Q I h => ?_⟩
  refine PySem.W.methodCall_KW (ld_glob I hg hm ?_ hd) hc
  refine PySem.W.method_cls I.kIn r.ga (PySem.W.cls_value I.kIn r.rd kv (by decide +kernel) ?_)
  have I := I.tok s.toks.succ
  show wpAny _ _ (callWith pos (Value.builtin "ValueError.__init__") [] (backTo pos (starEach (e :: es) X.env)) []) _ _ _
  refine PyProof.Rows.callWith_method1 (thn (ha.run pos pins _ σ H _ I h) fun us s1 ⟨vs, H1, I1, r1, a, C, ws, ev, hl, T, ea, q⟩ => ?_) he hpl
  subst ev
  cases r1 with
  | @cons _ u0 _ ur ra rw' =>
    obtain rfl : u0 = Value.ref a := ra
    have hlen : ur.length ≤ sizeLine := by
      rw [← Paired.length rw', sizeLine_eq]
      omega
    exact oinit_ok T I1 ea hlen fun s' J => ⟨.non, H1, J, rfl, q⟩
/-- what isinstance asks of the class of an exception that has its dict -/
structure ExcD (K : PySem.W.Frag) (D : Addr) : Prop where
  hg : PySem.W.findIn K (.ref D) "__getattribute__" = some (some (.builtin "BaseException.__getattribute__"))
  hk : PySem.W.findIn K (.ref D) "__getattr__" = some none
  hs : PySem.W.subIn K (.ref D) (.type "BaseException") = some true
  hc : PySem.W.isClsIn K D = true
  ha : PySem.W.findIn K (.ref D) "__class__" = some (some (.builtin "object.__class__"))
  hn : PySem.W.specialIn K (.builtin "object.__class__") "__get__" = some (some (.builtin "getset_descriptor.__get__"))
  ht : PySem.W.takesIn K (.builtin "object.__class__") = some true
  hm : PySem.W.mroIn K D (.type "object") = some true
def rIsD (K : PySem.W.Frag) (D a : Addr) (cls : Value) (d : Option Addr) : List V → Hp → VK → Prop := fun xs H Q => ∃ (c : V) (cv : Value) (b : Bool) (dd : Addr) (fs : List (Str × V)), xs = [.ref a, c] ∧ ClsV c cv ∧ cls = .ref D ∧ d = some dd ∧ H dd = some (.xd fs) ∧ PySem.W.kitOne K (.ref D) cv = some b ∧ Q (.bl b) H
def rIsDT (K : PySem.W.Frag) (D a : Addr) (cls : Value) (d : Option Addr) : List V → Hp → VK → Prop := fun xs H Q => ∃ (tp : Addr) (cs : List V) (us : List Value) (b : Bool) (dd : Addr) (fs : List (Str × V)), xs = [.ref a, .ref tp] ∧ H tp = some (.tup cs) ∧ Paired ClsV cs us ∧ cls = .ref D ∧ d = some dd ∧ H dd = some (.xd fs) ∧ PySem.W.kitAny K (.ref D) us = some b ∧ Q (.bl b) H
section
variable {X : Cx} {a D : Addr} {oe : Obj} {cls : Value} {d : Option Addr} {pn : List (Addr × Obj)}
theorem inst_of {pins : List (Addr × Obj)} {σ : L2.St} {H : Hp} {s : Shared} {dd : Addr} {fs : List (Str × V)} (I : Inv (X.suite a ((a, oe) :: pn)) pins σ H s) (hz : Zc (.ref D) (some dd) oe) (hf : ∃ vs, oe.data = .fields vs) (ea : H dd = some (.xd fs)) :
    ∃ od : Obj, PySem.W.InstAt s.heap a oe D (some od) := by
  obtain ⟨ha, _⟩ := I.pin (a, oe) (List.mem_append_left _ List.mem_cons_self)
  obtain ⟨vs, hd⟩ := hf
  obtain ⟨mA, hns, hr⟩ := (show ObjOk X.prog X.w H s.heap dd (.xd fs) from I.hok dd _ ea)
  obtain ⟨od, ho, hl⟩ := lookIn_ns hns
  exact ⟨od, ha, hz.1, by unfold PySem.W.notCls; rw [hd] <;> rfl, by rw [hz.2]; exact ho⟩
theorem call_isD (C : ExcD X.K D) (hz : Zc cls d oe) (hf : ∃ vs, oe.data = .fields vs) : CallR (X.suite a ((a, oe) :: pn)) (.builtin "isinstance") (rIsD X.K D a cls d) := by
  intro pins s σ H xs us Q I r h
  obtain ⟨c, cv, b, dd, fs, rfl, hcv, rfl, rfl, ea, e, q⟩ := h
  obtain ⟨u1, u2, rfl, r1, r2⟩ := vals2 r
  cases (show u1 = Value.ref a from r1)
  have ec := hcv.eq r2
  cases ec
  obtain ⟨od, J⟩ := inst_of I hz hf ea
  exact PySem.W.kia_one (PySem.W.kitx_exc C.hc C.hg C.hk C.hs C.ha C.hn C.ht C.hm) I.kIn J e (fun z => nomatch z) fun tk => ⟨.bl b, H, I.tok tk, rfl, q⟩
theorem call_isDT (C : ExcD X.K D) (hz : Zc cls d oe) (hf : ∃ vs, oe.data = .fields vs) : CallR (X.suite a ((a, oe) :: pn)) (.builtin "isinstance") (rIsDT X.K D a cls d) := by
  intro pins s σ H xs us Q I r h
  obtain ⟨tp, cs, ws, b, dd, fs, rfl, hT, hcv, rfl, rfl, ea, e, q⟩ := h
  obtain ⟨u1, u2, rfl, r1, r2⟩ := vals2 r
  cases (show u1 = Value.ref a from r1)
  cases (show u2 = Value.ref tp from r2)
  obtain ⟨od, J⟩ := inst_of I hz hf ea
  obtain ⟨_, its, rv, o, h1, h2, n, h3⟩ := (show ObjOk X.prog X.w H s.heap tp (.tup cs) from I.hok tp _ hT)
  have e3 := ClsV.all hcv rv
  subst e3
  obtain ⟨oc, od', dt, sl⟩ := o
  simp only at h2 h3
  subst h2 h3
  exact PySem.W.kia_tup (PySem.W.kitx_exc C.hc C.hg C.hk C.hs C.ha C.hn C.ht C.hm) I.kIn J h1 e (fun z => nomatch z) fun tk => ⟨.bl b, H, I.tok tk, rfl, q⟩
end
theorem kit_self {K : PySem.W.Frag} {C : Addr} : PySem.W.kitOne K (.ref C) (.ref C) = some true := by
  unfold PySem.W.kitOne
  rw [if_pos (beq_self_eq_true _)]
theorem kit_base {K : PySem.W.Frag} {C : Addr} {T : String} {b : Bool} (hm : PySem.W.kitMeta T = true) (h : PySem.W.subIn K (.ref C) (.type T) = some b) : PySem.W.kitOne K (.ref C) (.type T) = some b := by
  unfold PySem.W.kitOne
  rw [if_neg (by intro z; exact nomatch (beq_iff_eq.mp z))]
  show (if PySem.W.kitMeta T = true then PySem.W.subIn K (.ref C) (.type T) else none) = some b
  rw [if_pos hm]
  exact h
theorem kit_other {K : PySem.W.Frag} {C D : Addr} (hne : ((Value.ref C) == (Value.ref D)) = false) (hc : PySem.W.isClsIn K D = true) (ht : PySem.W.typeIn K (.ref D) = some (.type "type")) (h : PySem.W.subIn K (.ref C) (.ref D) = some false) : PySem.W.kitOne K (.ref C) (.ref D) = some false := by
  unfold PySem.W.kitOne
  rw [if_neg (by rw [hne]; exact Bool.false_ne_true)]
  show (if ((PySem.W.clsIn K D).isSome && PySem.W.typeIn K (.ref D) == some (.type "type")) = true then PySem.W.subIn K (.ref C) (.ref D) else none) = some false
  have h2 : (PySem.W.clsIn K D).isSome = true := hc
  rw [if_pos (by rw [h2, ht]; rfl)]
  exact h
/-- what the written part says of Refused, over Fault -/
structure RefC (K : PySem.W.Frag) (mg : Str → Option Value) (st : Stmt) where
  C : Addr
  CF : Addr
  fI : Addr
  dI : FuncData
  gC : mg "Refused" = some (.ref C)
  gF : mg "Fault" = some (.ref CF)
  rF : ClX.CRead K CF (.type "type")
  vF : PySem.W.findCls K (.ref CF) (.type "type") "__init__" = some (.val (.builtin "ValueError.__init__"))
  ox : OexC K C
  iC : PySem.W.findIn K (.ref C) "__init__" = some (some (.ref fI))
  tI : PySem.W.typeIn K (.ref fI) = some (.type "function")
  FI : Fun K "__init__" "Refused.__init__" st fI dI
  bI : Binds K dI ["self", "reason"] []
  nf : PySem.W.findIn K (.ref C) "reason" = some none
  ed : ExcD K C
  xf : XfC K C
  ex : PySem.W.exmOne K (.ref C) (.ref CF) = some true
  cF : PySem.W.isClsIn K CF = true
/-! ### tuples of ints, tuples of pairs, as data -/
theorem dpAll_ints {H : Hp} : ∀ ns : List Int, DpAll K H (ns.map V.int) (ns.map PyData.int)
  | [] => .nil
  | n :: r => .cons (.int n) (dpAll_ints r)
def dInts (ns : List Int) : PyData := .tuple (ns.map PyData.int)
def dPair (x : Int × Int) : PyData := .tuple [.int x.1, .int x.2]
def dPairs (l : List (Int × Int)) : PyData := .tuple (l.map dPair)
theorem dp_ints {H : Hp} {a : Addr} {ns : List Int} (h : SqT K H a (ns.map V.int)) : Dp K H (.ref a) (dInts ns) := .tup h (dpAll_ints ns)
theorem shaped_dInts (ns : List Int) : SeqAt.shaped (dInts ns) = true := by
  have h1 := PySem.W.depthAll_ints ns
  have h2 : PyData.depth (.tuple (ns.map PyData.int)) ≤ 64 := by simp only [PyData.depth]; omega
  show (PyData.canLay0 (.tuple (ns.map PyData.int)) && decide (PyData.depth (.tuple (ns.map PyData.int)) ≤ 64)) = true
  rw [Bool.and_eq_true]
  exact ⟨by simp only [PyData.canLay0]; exact PySem.W.canLayAll0_ints ns, decide_eq_true h2⟩
theorem canLay_dPairs : ∀ l : List (Int × Int), PyData.canLayAll0 (l.map dPair) = true
  | [] => by simp [PyData.canLayAll0]
  | x :: r => by simp [PyData.canLayAll0, PyData.canLay0, dPair, canLay_dPairs r]
theorem depth_dPairs : ∀ l : List (Int × Int), PyData.depthAll (l.map dPair) ≤ 2
  | [] => by simp [PyData.depthAll]
  | x :: r => by
    have := depth_dPairs r
    simp only [List.map_cons, PyData.depthAll, PyData.depth, dPair]
    omega
theorem shaped_dPairs (l : List (Int × Int)) : SeqAt.shaped (dPairs l) = true := by
  have h1 := depth_dPairs l
  have h2 : PyData.depth (.tuple (l.map dPair)) ≤ 64 := by simp only [PyData.depth]; omega
  show (PyData.canLay0 (.tuple (l.map dPair)) && decide (PyData.depth (.tuple (l.map dPair)) ≤ 64)) = true
  rw [Bool.and_eq_true]
  exact ⟨by simp only [PyData.canLay0]; exact canLay_dPairs l, decide_eq_true h2⟩
theorem eqvAll_ints : ∀ ns ms : List Int, PyData.eqvAll (ns.map PyData.int) (ms.map PyData.int) = decide (ns = ms)
  | [], [] => by simp [PyData.eqvAll]
  | [], _ :: _ => by simp [PyData.eqvAll]
  | _ :: _, [] => by simp [PyData.eqvAll]
  | n :: r, k :: q => by
    simp only [List.map_cons, PyData.eqvAll, PyData.eqv, eqvAll_ints r q]
    by_cases h : n = k <;> simp [h]
theorem eqv_dInts (ns ms : List Int) : PyData.eqv (dInts ns) (dInts ms) = decide (ns = ms) := by
  unfold dInts
  rw [PyData.eqv]
  exact eqvAll_ints ns ms
theorem eqvAll_dPairs : ∀ l : List (Int × Int), PyData.eqvAll (l.map dPair) (l.map dPair) = true
  | [] => by simp [PyData.eqvAll]
  | x :: r => by
    simp only [List.map_cons, PyData.eqvAll, eqvAll_dPairs r, Bool.and_true]
    unfold dPair
    simp [PyData.eqv, PyData.eqvAll]
theorem eqv_dPairs (l : List (Int × Int)) : PyData.eqv (dPairs l) (dPairs l) = true := by
  unfold dPairs
  rw [PyData.eqv]
  exact eqvAll_dPairs l
theorem dpAll_pairs {H : Hp} : ∀ {ts : List Addr} {l : List (Int × Int)}, Paired (fun t x => H t = some (.tup [.int x.1, .int x.2])) ts l → DpAll K H (ts.map V.ref) (l.map dPair)
  | _, _, .nil => .nil
  | _, _, .cons h r => .cons (.tup (.inl (.inl h)) (.cons (.int _) (.cons (.int _) .nil))) (dpAll_pairs r)
theorem dp_pairs {H : Hp} {a : Addr} {ts : List Addr} {l : List (Int × Int)} (h : SqT K H a (ts.map V.ref)) (hp : Paired (fun t x => H t = some (.tup [.int x.1, .int x.2])) ts l) : Dp K H (.ref a) (dPairs l) := .tup h (dpAll_pairs hp)
/-! ### things that stand in the heap as data: stable relations; comprehensions by them -/
structure Stable {α : Type} (R : Hp → V → α → Prop) : Prop where
  same : ∀ {H H' : Hp} {v : V} {x : α}, Same H H' → R H v x → R H' v x
  put : ∀ {H : Hp} {D : Addr} {xs ys : List V} {v : V} {x : α}, H D = some (.lst xs) → R H v x → R (upd H D (.lst ys)) v x
theorem Stable.all {α : Type} {R : Hp → V → α → Prop} (S : Stable R) {H H' : Hp} (e : Same H H') : ∀ {vs : List V} {xs : List α}, Paired (R H) vs xs → Paired (R H') vs xs
  | _, _, .nil => .nil
  | _, _, .cons h t => .cons (S.same e h) (S.all e t)
theorem Stable.allPut {α : Type} {R : Hp → V → α → Prop} (S : Stable R) {H : Hp} {D : Addr} {ys zs : List V} (e : H D = some (.lst ys)) : ∀ {vs : List V} {xs : List α}, Paired (R H) vs xs → Paired (R (upd H D (.lst zs))) vs xs
  | _, _, .nil => .nil
  | _, _, .cons h t => .cons (S.put e h) (S.allPut e t)
theorem paired_app {α β : Type} {R : α → β → Prop} : ∀ {as : List α} {bs : List β} {cs : List α} {ds : List β}, Paired R as bs → Paired R cs ds → Paired R (as ++ cs) (bs ++ ds)
  | _, _, _, _, .nil, k => k
  | _, _, _, _, .cons h t, k => .cons h (paired_app t k)
theorem paired_add {α β : Type} {R : α → β → Prop} {as : List α} {bs : List β} {a : α} {b : β} (h : Paired R as bs) (k : R a b) : Paired R (as ++ [a]) (bs ++ [b]) := paired_app h (.cons k .nil)
theorem paired_get {α β : Type} {R : α → β → Prop} : ∀ {as : List α} {bs : List β} {i : Nat} {a : α}, Paired R as bs → as[i]? = some a → ∃ b, bs[i]? = some b ∧ R a b
  | _, _, 0, _, .cons h _, e => ⟨_, rfl, by cases e; exact h⟩
  | _, _, i + 1, _, .cons _ t, e => paired_get (i := i) t e
  | _, _, 0, _, .nil, e => by cases e
  | _, _, i + 1, _, .nil, e => by cases e
theorem paired_get2 {α β : Type} {R : α → β → Prop} : ∀ {as : List α} {bs : List β} {i : Nat} {b : β}, Paired R as bs → bs[i]? = some b → ∃ a, as[i]? = some a ∧ R a b
  | _, _, 0, _, .cons h _, e => ⟨_, rfl, by cases e; exact h⟩
  | _, _, i + 1, _, .cons _ t, e => paired_get2 (i := i) t e
  | _, _, 0, _, .nil, e => by cases e
  | _, _, i + 1, _, .nil, e => by cases e
def RI : Hp → V → Int → Prop := fun _ v x => v = .int x
/-- a row at t: a tuple, known to its object -/
def RowAt (H : Hp) (t : Addr) (r : List Int) : Prop := ∃ o : Obj, o.dict = none ∧ H t = some (.frz o (.tup (r.map V.int)))
theorem RowAt.sq {K : PySem.W.Frag} {H : Hp} {t : Addr} {r : List Int} (h : RowAt H t r) : SqT K H t (r.map V.int) := by
  obtain ⟨o, _, e⟩ := h
  exact .inl (.inr ⟨o, e⟩)
theorem RowAt.mono {H H' : Hp} {t : Addr} {r : List Int} (e : Same H H') (h : RowAt H t r) : RowAt H' t r := by
  obtain ⟨o, d, h⟩ := h
  exact ⟨o, d, e _ _ h⟩
def RR : Hp → V → List Int → Prop := fun H v r => ∃ t, v = .ref t ∧ RowAt H t r
theorem st_RI : Stable RI := ⟨fun _ h => h, fun _ h => h⟩
theorem upd_put {H : Hp} {D t : Addr} {xs ys : List V} {o : HO} (e : H D = some (.lst xs)) (h : H t = some o) (hn : ∀ zs, o ≠ .lst zs) : (upd H D (.lst ys)) t = some o := by
  rw [upd_ne (fun z => by rw [z, e] at h; exact hn _ (Option.some.inj h).symm)]
  exact h
theorem st_RR : Stable RR := ⟨fun e ⟨t, a, b⟩ => ⟨t, a, b.mono e⟩, fun e ⟨t, a, o, d, b⟩ => ⟨t, a, o, d, upd_put e b (fun _ z => by cases z)⟩⟩
theorem ints_of {H : Hp} : ∀ {vs : List V} {ns : List Int}, Paired (RI H) vs ns → vs = ns.map V.int
  | _, _, .nil => rfl
  | _, _, @Paired.cons _ _ _ v n vs ns h t => by
    have e : v = .int n := h
    rw [e, ints_of t]
    rfl
theorem small2000 {n : Nat} (h : n ≤ 100000) : n < sizeLine := Nat.lt_of_le_of_lt h (by decide)
/-- a comprehension without a test; each element stands for f i -/
theorem lc_rep {α : Type} {J : It} {n : Nat} {G : Hp → Prop} {Y : Nat → Hp → V → Hp → Prop} (w : Walk J n G Y) {R : Hp → V → α → Prop} (S : Stable R) (f : Nat → α) (hn : n ≤ 100000) {g : TG} {te : TE} {vs : List Nat} {σ : L2.St} {H1 : Hp} {D : Addr} {Qd : Hp → Prop}
    (nD : H1 D = none) (hG : ∀ H, Same H1 H → G H)
    (hs : ∀ i x H H' (Q : VK), i < n → Same H1 H → Y i H x H' → (∀ y H4, Same H H4 → R H4 y (f i) → Q y H4) → g x (wipe σ vs) H' fun σ2 H2 => wipe σ2 vs = wipe σ vs ∧ te σ2 H2 Q)
    (hd : ∀ H acc, Same H1 H → H D = some (.lst acc) → Paired (R H) acc ((List.range n).map f) → Qd H) :
    ∃ W : Nat → Nat → Hp → Prop, (∃ m, W 0 m (upd H1 D (.lst []))) ∧ ∀ i m H, W i m H →
      (J.stop i H ∧ Qd H) ∨ (J.go i H ∧ ∃ Nx : Hp → Prop, (∀ H', Nx H' → ∃ m', m' < m ∧ W (i + 1) m' H') ∧ ∀ x H', J.yld i H x H' → g x (wipe σ vs) H' fun σ2 H2 => wipe σ2 vs = wipe σ vs ∧ tYes σ2 H2 fun b H3 =>
        if b = true then te σ2 H3 fun y H4 => ∃ acc, H4 D = some (.lst acc) ∧ acc.length < sizeLine ∧ Nx (upd H4 D (.lst (acc ++ [y]))) else Nx H3) := by
  refine lc_it w (fun i H => i ≤ n ∧ Same H1 H ∧ ∃ acc, H D = some (.lst acc) ∧ Paired (R H) acc ((List.range i).map f)) ⟨Nat.zero_le n, same_new nD, [], upd_same, .nil⟩ (fun i H _ h => hG H h.2.1) (fun i x H H' hi hP hY => ?_) (fun H hP => ?_)
  · obtain ⟨hin, sm, acc, eD, hp⟩ := hP
    have hlen : acc.length = i := by
      have := Paired.length hp
      rw [List.length_map, List.length_range] at this
      exact this
    have z := hs i x H H' (fun y H4 => ∃ acc, H4 D = some (.lst acc) ∧ acc.length < sizeLine ∧ (i + 1 ≤ n ∧ Same H1 (upd H4 D (.lst (acc ++ [y]))) ∧ ∃ acc2, (upd H4 D (.lst (acc ++ [y]))) D = some (.lst acc2) ∧ Paired (R (upd H4 D (.lst (acc ++ [y])))) acc2 ((List.range (i + 1)).map f))) hi sm hY (fun y H4 sm4 r => by
      have eD4 := sm4 _ _ eD
      refine ⟨acc, eD4, small2000 (by omega), hi, fun b u hb => ?_, _, upd_same, ?_⟩
      · rw [upd_ne (ne_of_none hb nD)]
        exact sm4 _ _ (sm _ _ hb)
      · rw [List.range_succ, List.map_append]
        exact S.allPut eD4 (paired_add (S.all sm4 hp) r))
    exact z
  · obtain ⟨_, sm, acc, eD, hp⟩ := hP
    exact hd H acc sm eD hp
theorem map_range {α : Type} (f : Nat → α) (xs : List α) (h : ∀ i x, xs[i]? = some x → f i = x) : (List.range xs.length).map f = xs := by
  apply List.ext_getElem?
  intro i
  rw [List.getElem?_map]
  by_cases hi : i < xs.length
  · rw [List.getElem?_range hi, List.getElem?_eq_getElem hi]
    exact congrArg some (h i _ (List.getElem?_eq_getElem hi))
  · rw [List.getElem?_eq_none (by rw [List.length_range]; omega), List.getElem?_eq_none (by omega)]
    rfl
/-! ### rules that the layer lacked: (x,) * k for k = 0 and 1, t[::-1], t.index(int), sorted of rows -/
namespace Own
open PySem PySem.Spec PyProof.Rows L2
open MeetsSeq MeetsSeq2 MeetsSeq3 SeqRoads2
theorem tuple_mul0 (l : Addr) (items : Array Value) (n : Nat) (dd : Option Addr) (sl : Array (Option Value)) (x : Int) (u : Tok) (c0 : (decide (x < -(2 ^ 63)) || decide (x ≥ 2 ^ 63)) = false) (c1 : (items.isEmpty || x == 1) = false) (c2 : (decide (x ≤ 0) || items.isEmpty) = true) :
    Meets (Builtin.«tuple.__mul__» ⟨[.ref l, .int x u], []⟩) (fun _ R s => s.heap.get? l = some { cls := .type "tuple", dict := dd, data := .seq items n, slots := sl } ∧
      R (.ok (.ret (Value.ref s.heap.objs.size))) { s with heap := s.heap.push { cls := Value.type "tuple", data := Data.seq #[] }, toks := s.toks }) :=
  .of_wp fun prog w A R s h => by
    obtain ⟨hp, g, d, tk, os⟩ := s
    obtain ⟨hl, h⟩ := h
    have f1 := AutoSeq1.idx_int
    wp_walk using AutoSeq1.wpAny_loadPart' hl
    repeat (first
      | (refine wpAny_ite_false (decide_eq_false (by rw [c0]; exact Bool.false_ne_true)) ?_; wp_walk using AutoSeq1.wpAny_loadPart' hl)
      | (refine wpAny_ite_false (decide_eq_false (by rw [c1]; exact Bool.false_ne_true)) ?_; wp_walk using AutoSeq1.wpAny_loadPart' hl)
      | (refine wpAny_ite_true (decide_eq_true (by rw [c2])) ?_; wp_walk using AutoSeq1.wpAny_loadPart' hl))
    exact ⟨_, rfl, h⟩
theorem tuple_mul1 (l : Addr) (items : Array Value) (n : Nat) (dd : Option Addr) (sl : Array (Option Value)) (x : Int) (u : Tok) (c0 : (decide (x < -(2 ^ 63)) || decide (x ≥ 2 ^ 63)) = false) (c1 : (items.isEmpty || x == 1) = true) :
    Meets (Builtin.«tuple.__mul__» ⟨[.ref l, .int x u], []⟩) (fun _ R s => s.heap.get? l = some { cls := .type "tuple", dict := dd, data := .seq items n, slots := sl } ∧
      R (.ok (.ret (Value.ref l))) s) :=
  .of_wp fun prog w A R s h => by
    obtain ⟨hp, g, d, tk, os⟩ := s
    obtain ⟨hl, h⟩ := h
    have f1 := AutoSeq1.idx_int
    wp_walk using AutoSeq1.wpAny_loadPart' hl
    repeat (first
      | (refine wpAny_ite_false (decide_eq_false (by rw [c0]; exact Bool.false_ne_true)) ?_; wp_walk using AutoSeq1.wpAny_loadPart' hl)
      | (refine wpAny_ite_true (decide_eq_true (by rw [c1])) ?_; wp_walk using AutoSeq1.wpAny_loadPart' hl))
    exact ⟨_, rfl, h⟩
/-- a tuple, as it is tracked, so many times -/
def rRepA : R2 := fun x y H Q => ∃ l k xs, x = .ref l ∧ y = .int k ∧ H l = some (.tup xs) ∧ xs ≠ [] ∧ 0 ≤ k ∧ k ≤ 1000 ∧ xs.length ≤ 1000 ∧ ∀ t H', Same H H' → H' t = some (.tup (List.replicate k.toNat xs).flatten) → Q (.ref t) H'
theorem op_repA {X : Cx} : OpR X (binaryOp .Mult) rRepA := by
  intro pins s σ H x y v u Q I rx ry h
  obtain ⟨l, k, xs, rfl, rfl, hT, hne, h0, h2, hz, q⟩ := h
  by_cases hk : 2 ≤ k
  · exact op_repT pins s σ H _ _ v u Q I rx ry ⟨l, k, xs, rfl, rfl, .inl (.inl hT), hne, hk, h2, hz, fun p np => q p _ (same_new np) upd_same⟩
  cases rx
  obtain ⟨t, rfl⟩ := ry
  obtain ⟨its, r, ⟨⟨cls, dd, data, sl⟩, ho, hc, n, hd⟩, hs⟩ := I.tuple (show SqT X.K H l xs from .inl (.inl hT))
  simp only at hc hd
  subst hc hd
  have hle : its.length = xs.length := r.length.symm
  have hn : its ≠ [] := fun e => hne (by
    rw [e] at hle
    exact List.eq_nil_of_length_eq_zero hle.symm)
  have hi : its.toArray.isEmpty = false := by
    cases its with
    | nil => exact absurd rfl hn
    | cons a b => rfl
  have c0 : (decide (k < -(2 ^ 63)) || decide (k ≥ 2 ^ 63)) = false := by
    rw [decide_eq_false (by omega), decide_eq_false (by omega)] <;> rfl
  by_cases hk0 : k = 0
  · subst hk0
    have c1 : (its.toArray.isEmpty || (0 : Int) == 1) = false := by
      rw [hi, Bool.false_or]
      exact beq_eq_false_iff_ne.mpr (by omega)
    have c2 : (decide ((0 : Int) ≤ 0) || its.toArray.isEmpty) = true := by
      rw [hi, Bool.or_false]
      exact decide_eq_true (by omega)
    refine wpAny_binaryOp_repeat_ref (T := "tuple") (U := "int") (by decide) ⟨_, ho, rfl⟩ (fun s' => typeIs_int s' 0 t) noFill_tuple_mul F.fills_int_mul F.slot_int_rmul repeat_tuple F.slot_int_index.lookup
      (call_meets F.slot_int_rmul (typeIs_int s 0 t) F.entry_int_rmul (F.args_int_rmul_2 _ _) (int_rmul_tuple 0 t l its.toArray n dd sl)
        ⟨ho, rfl, ⟨_, ho, rfl⟩, call_meets F.slot_tuple_mul ⟨_, ho, rfl⟩ F.entry_tuple_mul (F.args_tuple_mul_2 _ _) (tuple_mul0 l its.toArray n dd sl 0 t c0 c1 c2) ⟨ho, ?_⟩⟩)
    refine ⟨.ref s.heap.objs.size, _, I.laid (t' := s.toks) (o := .tup []) (fun b ob q => Heap.get?_push_of_some _ q) (Nat.le_refl _) ?_, rfl, q _ _ (same_new (I.hok.fresh (Nat.le_refl _))) (by rw [upd_same]; rfl)⟩
    exact ⟨Nat.zero_le _, [], .nil, IsTup.new _ _⟩
  · have hk1 : k = 1 := by omega
    subst hk1
    have c1 : (its.toArray.isEmpty || (1 : Int) == 1) = true := by
      rw [hi, Bool.false_or]
      rfl
    refine wpAny_binaryOp_repeat_ref (T := "tuple") (U := "int") (by decide) ⟨_, ho, rfl⟩ (fun s' => typeIs_int s' 1 t) noFill_tuple_mul F.fills_int_mul F.slot_int_rmul repeat_tuple F.slot_int_index.lookup
      (call_meets F.slot_int_rmul (typeIs_int s 1 t) F.entry_int_rmul (F.args_int_rmul_2 _ _) (int_rmul_tuple 1 t l its.toArray n dd sl)
        ⟨ho, rfl, ⟨_, ho, rfl⟩, call_meets F.slot_tuple_mul ⟨_, ho, rfl⟩ F.entry_tuple_mul (F.args_tuple_mul_2 _ _) (tuple_mul1 l its.toArray n dd sl 1 t c0 c1) ⟨ho, ?_⟩⟩)
    refine ⟨.ref l, H, I, rfl, q l H (Same.refl H) ?_⟩
    rw [hT]
    show some (HO.tup xs) = some (HO.tup (List.replicate 1 xs).flatten)
    simp
/-- t.index(x), ints, the first place -/
theorem mt_tup_indexI {X : Cx} : MtR X "tuple.index" (fun x xs H Q => ∃ p, ∃ ys : List Int, ∃ z j, x = .ref p ∧ xs = [.int z] ∧ SqT X.K H p (ys.map V.int) ∧ ys[j]? = some z ∧ (∀ m, m < j → ys[m]? ≠ some z) ∧ Q (.int (j : Nat)) H) := by
  intro pins s σ H x xs v us Q I rx rs h
  obtain ⟨p, ys, z, j, rfl, rfl, hq, hy, hno, q⟩ := h
  cases rx
  obtain ⟨u, rfl, t, rfl⟩ := vals1 rs
  obtain ⟨its, r, pl, hz⟩ := I.tuple hq
  obtain ⟨⟨cls, dd, dt, sl⟩, ho, hc, n, hd⟩ := pl
  simp only at hc hd
  subst hc
  subst hd
  have hl : its.toArray.size = ys.length := by rw [List.size_toArray, ← r.length, List.length_map]
  have hj : j < its.toArray.size := by rw [hl]; exact (List.getElem?_eq_some_iff.mp hy).1
  have at' : ∀ (m : Nat) (hm : m < its.toArray.size), ∃ y t', ys[m]? = some y ∧ its.toArray[m] = Value.int y t' := fun m hm => by
    have hm' : m < ys.length := by rw [← hl]; exact hm
    obtain ⟨w, hw, t', hw'⟩ := r.get (i := m) (x := .int ys[m]) (by simp [hm'])
    refine ⟨ys[m], t', List.getElem?_eq_getElem hm', ?_⟩
    have e := (List.getElem?_eq_some_iff.mp hw).2
    rw [← hw', ← e]
    simp
  have hflat : (ys.map V.int).all flatV = true := by
    rw [List.all_map]
    exact List.all_eq_true.mpr fun _ _ => rfl
  refine call_meets PySem.F.slot_tuple_index ⟨_, ho, rfl⟩ PySem.F.entry_tuple_index (PySem.F.args_tuple_index_2 _ _) (TI.tuple_indexAt p its.toArray n dd sl (.int z t) (eqU (.int z)) j hj ?_ ?_)
    ⟨ho, fun w hw => mem_eqAt (x := .int z) ⟨t, rfl⟩ rfl r hflat w (by simpa using hw), ⟨.int (j : Nat), H, I.tok _, ⟨_, rfl⟩, q⟩⟩
  · obtain ⟨y, t', h1, h2⟩ := at' j hj
    rw [hy] at h1
    cases h1
    rw [h2]
    show (z == z) = true
    exact beq_self_eq_true z
  · intro m hm hmj
    obtain ⟨y, t', h1, h2⟩ := at' m hm
    rw [h2]
    show (y == z) = false
    exact beq_eq_false_iff_ne.mpr fun e => hno m hmj (e ▸ h1)
/-! t[::-1] -/
section
variable {prog : Program} {w : World} {A : Around} {E : Value → Shared → Prop} {s : Shared}
theorem places_back (n : Nat) : Builtin.Slice.slicePlaces ((n : Int) - 1) (-1) (-1) = n := by
  unfold Builtin.Slice.slicePlaces
  have h1 : ¬ ((-1 : Int) > 0) := by omega
  have h2 : ∀ x : Int, x / (- -1) = x := fun x => by
    rw [show (- -1 : Int) = 1 by decide, Int.ediv_one]
  simp only [h1, if_false]
  split
  · rw [h2]; omega
  · omega
theorem sliceApplied_back {sl : Addr} {t : Tok} {n : Nat} {Q : Int × Int × Nat → Shared → Prop} (hs : s.heap.IsSliceOf sl .none .none (.int (-1) t))
    (h : Q ((n : Int) - 1, -1, n) s) : wpAny (model prog w) A (Builtin.Slice.sliceApplied (.ref sl) (pure (n : Int))) Q E s := by
  obtain ⟨os, hos, hcs, hds⟩ := id hs
  unfold Builtin.Slice.sliceApplied Builtin.Slice.sliceFields
  refine wpAny_bind (wpAny_bind (wpAny_field hos hds (x := .none) rfl (wpAny_bind (wpAny_field hos hds (x := .none) rfl (wpAny_bind (wpAny_field hos hds (x := .int (-1) t) rfl (wpAny_pure ?_)))))))
  refine wpAny_bind (slicePart_int ?_)
  show wpAny _ _ (if ((-1 : Int) == 0) = true then _ else _) _ _ s
  rw [if_neg (by decide)]
  refine wpAny_bind (slicePart_none (wpAny_bind (slicePart_none (wpAny_bind (wpAny_pure ?_)))))
  show wpAny _ _ (pure ((n : Int) - 1, (-1 : Int), Builtin.Slice.slicePlaces ((n : Int) - 1) (-1) (-1))) _ _ s
  rw [places_back]
  exact wpAny_pure h
theorem filterMap_agree {α β : Type} {f g : α → Option β} : ∀ {l : List α}, (∀ a ∈ l, f a = g a) → l.filterMap f = l.filterMap g
  | [], _ => rfl
  | a :: l, h => by
    rw [List.filterMap_cons, List.filterMap_cons, h a (List.mem_cons_self ..), filterMap_agree fun b hb => h b (List.mem_cons_of_mem _ hb)]
theorem pick_back (xs : Array Value) : ((List.range xs.size).filterMap fun (m : Nat) => xs[((xs.size : Int) - 1 + (m : Int) * (-1)).toNat]?).toArray = xs.toList.reverse.toArray := by
  congr 1
  have e : (List.range xs.size).filterMap (fun (m : Nat) => xs[((xs.size : Int) - 1 + (m : Int) * (-1)).toNat]?) = ((List.range xs.size).map fun k => xs.size - 1 - k).filterMap (xs[·]?) := by
    rw [List.filterMap_map]
    apply filterMap_agree
    intro m hm
    have hm := List.mem_range.mp hm
    show xs[((xs.size : Int) - 1 + (m : Int) * (-1)).toNat]? = xs[xs.size - 1 - m]?
    have : ((xs.size : Int) - 1 + (m : Int) * (-1)).toNat = xs.size - 1 - m := by omega
    rw [this]
  rw [e, PySem.W.krv_range, List.filterMap_reverse, PySem.W.krv_all]
theorem getItem_tuple_back {t sl : Addr} {items : Array Value} {tk : Tok} {Q : Value → Shared → Prop} (ht : IsTup s.heap t items) (hs : s.heap.IsSliceOf sl .none .none (.int (-1) tk))
    (h : Q (.ref s.heap.objs.size) { s with heap := s.heap.push { cls := .type "tuple", data := .seq items.toList.reverse.toArray } }) (hsz : items.size ≤ sizeLine) : wpAny (model prog w) A (getItem (.ref t) (.ref sl)) Q E s := by
  have htake : sizeOk (.seq items.toList.reverse.toArray) := by
    show items.toList.reverse.toArray.size ≤ sizeLine
    rw [List.size_toArray, List.length_reverse, Array.length_toList]
    exact hsz
  obtain ⟨os, hos, hcs, hds⟩ := id hs
  have hTs : s.TypeIs (.ref sl) "slice" := ⟨os, hos, hcs⟩
  unfold getItem
  try with_reducible refine wpAny_holding ?_
  first | refine wpAny_bind (wpAny_pure ?_) | skip
  refine wpAny_bind (wpAny_sequenceKey ht.typeIs (by decide) ?_)
  refine wpAny_bind (wpAny_callSpecial?_slot (name := Str.ofString "__getitem__") ht.typeIs PyProof.Rows.slot_tuple_getitem
    (wpAny_call_entry PyProof.Rows.slot_tuple_getitem ht.typeIs entry_tuple_getitem ?_ (args_tuple_getitem _ _)))
  show wpAny _ _ (Builtin.Tuple.tupleItemsOf (.ref t) >>= _) _ _ s
  refine wpAny_bind (tupleItemsOf_ ht ?_)
  refine wpAny_bind (wpAny_typeOf hTs ?_)
  rw [if_pos (by decide)]
  refine wpAny_bind (sliceApplied_back hs ?_)
  have hno : ¬ (((items.size : Int) - 1 == 0 && (-1 : Int) == 1 && items.size == items.size) = true) := by
    intro q
    rw [Bool.and_eq_true, Bool.and_eq_true] at q
    exact absurd q.1.2 (by decide)
  show wpAny _ _ (if ((items.size : Int) - 1 == 0 && (-1 : Int) == 1 && items.size == items.size) = true then _ else _) _ _ s
  rw [if_neg hno, pick_back]
  first
    | exact wpAny_bind (m := Builtin.Tuple.tupleExact _) (wpAny_newObj_type (wpAny_pure ⟨_, rfl, wpAny_pure h⟩) htake)
    | exact wpAny_bind (m := Builtin.Tuple.tupleExact _) (wpAny_newObj_type (wpAny_bind (wpAny_pure (wpAny_pure ⟨_, rfl, wpAny_pure h⟩))) htake)
    | exact wpAny_bind (wpAny_bind (m := Builtin.Tuple.tupleExact _) (wpAny_newObj_type (wpAny_pure (wpAny_pure ⟨_, rfl, wpAny_pure h⟩)) htake))
    | exact wpAny_bind (wpAny_bind (m := Builtin.Tuple.tupleExact _) (wpAny_newObj_type (wpAny_pure ⟨_, rfl, wpAny_pure h⟩) htake))
end
def tRevT (K : PySem.W.Frag) (te : TE) : TE := fun σ H Q => te σ H fun x H1 => ∃ a xs, x = .ref a ∧ SqT K H1 a xs ∧ ∀ p, H1 p = none → Q (.ref p) (upd H1 p (.tup xs.reverse))
theorem pe_revT {X : Cx} {e : Expr} {te : TE} {k : Nat} {p1 p2 p3 pos : Pos} (he : PE X e te) : PE X (.Subscript e (.Slice none none (some (.UnaryOp .USub (.Constant (.int 1) k p1) p2)) p3) pos) (tRevT X.K te) := by
  refine ⟨fun pins s σ H Q I h => ?_⟩
  refine Subscript_ (thn (he.run pins s σ H _ I h) fun v s1 ⟨x, H1, I1, r1, q1⟩ => ?_)
  obtain ⟨a, xs, ex, hx, q⟩ := q1
  subst ex
  cases r1
  have hst : PO X (some (.UnaryOp .USub (.Constant (.int 1) k p1) p2)) (tPart (tUn (rU fun i => .int (-i)) (tC (.int 1)))) := po_some (pe_un un_neg pe_int)
  refine wpAny_Slice (thn (po_none.run pins s1 σ H1 (fun o H2 => o = none ∧ H2 = H1) I1 ⟨rfl, rfl⟩) fun vl s2 ⟨l, H2, I2, pl, el, e2⟩ => ?_)
  subst el e2
  refine thn (po_none.run pins s2 σ H2 (fun o H3 => o = none ∧ H3 = H2) I2 ⟨rfl, rfl⟩) fun vu s3 ⟨u, H3, I3, pu, eu, e3⟩ => ?_
  subst eu e3
  refine thn (hst.run pins s3 σ H3 (fun o H4 => o = some (-1) ∧ H4 = H3) I3 ⟨1, rfl, -1, rfl, rfl, rfl⟩) fun vs s4 ⟨o, H4, I4, ps, eo, e4⟩ => ?_
  subst eo e4
  have I5 : Inv X pins σ H4 { s4 with heap := s4.heap.push { cls := .type "slice", data := .fields #[vl, vu, vs] } } := I4.kept (t' := s4.toks) fun b ob q => Heap.get?_push_of_some _ q
  obtain ⟨its, r, ht, hz⟩ := I5.tuple hx
  have hlen := r.length
  cases pl
  cases pu
  cases ps
  show wpAny (model X.prog X.w) X.A (subscriptTail e (.Slice none none (some (.UnaryOp .USub (.Constant (.int 1) k p1) p2)) p3) (.ref a) (.ref s4.heap.objs.size)) (EP X pins σ Q) X.xe { s4 with heap := s4.heap.push { cls := .type "slice", data := .fields #[_, _, _] } }
  refine tail_any (ops := [.ref a, .ref s4.heap.objs.size]) ht.typeIs (PyProof.Rows.slot_tuple_getitem.lookup) ?_ (by with_unfolding_all rfl)
  refine getItem_tuple_back ht (Heap.IsSliceOf.new _ _ _ _) ?_ (by rw [List.size_toArray]; omega)
  refine ⟨.ref _, _, I5.laid (t' := s4.toks) (o := .tup xs.reverse) (fun b ob q => Heap.get?_push_of_some _ q) (Nat.le_refl _) ?_, rfl, q _ (I5.hok.fresh (Nat.le_refl _))⟩
  exact ⟨by rw [List.length_reverse]; exact hz, _, r.reverse, IsTup.new _ _⟩
/-- tuple(list): the new tuple known to its object -/
theorem call_tuple_ofF {X : Cx} : CallR X (.type "tuple") (fun xs H Q => ∃ p ys, xs = [.ref p] ∧ SqL X.K H p ys ∧ ∀ (l : Addr) (ob : Obj), H l = none → ob.dict = none → Q (.ref l) (upd H l (.frz ob (.tup ys)))) := by
  intro pins s σ H xs us Q I r h
  obtain ⟨p, ys, rfl, hq, q⟩ := h
  obtain ⟨u, rfl, rx⟩ := vals1 r
  cases rx
  obtain ⟨its, r', pl, hz⟩ := I.list hq
  have hlen := r'.length
  refine call_tuple_list pl.isList (fun h' kp => ?_) (by simp only [List.size_toArray] <;> omega)
  have I1 : Inv X pins σ H { s with heap := h' } := I.kept (t' := s.toks) kp
  have I2 : Inv X pins σ (upd H h'.objs.size (.frz { cls := .type "tuple", data := .seq its.toArray } (.tup ys))) { s with heap := h'.push { cls := .type "tuple", data := .seq its.toArray } } :=
    I1.laid (t' := s.toks) (fun b o e => Heap.get?_push_of_some _ e) (Nat.le_refl _) (show ObjOk X.prog X.w _ _ _ (.frz _ (.tup ys)) from ⟨Heap.get?_push_size _ rfl, hz, its, r', IsTup.new _ _⟩)
  exact ⟨.ref h'.objs.size, _, I2, rfl, q _ _ (I1.hok.fresh (Nat.le_refl _)) rfl⟩
/-- a method of such a tuple -/
def tBMT (r : V → List V → Hp → VK → Prop) (to : TE) (t : TA) : TE := fun σ H Q => to σ H fun x H1 => (∃ a ob ys, x = .ref a ∧ ob.dict = none ∧ H1 a = some (.frz ob (.tup ys))) ∧ t σ H1 fun xs H2 => r x xs H2 Q
theorem pe_bmT {X : Cx} {o e : Expr} {es : List Expr} {to : TE} {t : TA} {name : Str} {apos cpos : Pos} {id : String} {r : V → List V → Hp → VK → Prop} (pa : PlainAttrs "tuple") (slot : Slot "tuple" name id) (hty : typeOf (.builtin id) = pure (.type "method_descriptor")) (hm : MtR X id r) (ho : PE X o to) (ha : PA X (e :: es) t)
    (hbase : attributeBase o name X.env (eval o X.env) = eval o X.env := by rfl)
    (hfew : ((backTo cpos (starEach (e :: es) X.env)).all (fun x => !x.1) && (backToKw cpos (keywordEach [] X.env)).all (fun x => x.1.isSome)
      && decide ((e :: es).length + ([] : List Keyword).length + (if ([] : List Keyword).isEmpty then 0 else 1) < 30)) = true := by rfl)
    (hline : (apos.endLine == cpos.line) = true := by rfl) (hs : starEach (e :: es) X.env = (false, eval e X.env) :: starEach es X.env := by rfl) (hplain : (backTo cpos (starEach es X.env)).any (·.1) = false := by rfl) :
    PE X (.Call (.Attribute o name apos) (e :: es) [] cpos) (tBMT r to t) := by
  refine ⟨fun pins s σ H Q I h => ?_⟩
  refine wpAny_Call_method_late hbase hfew hline rfl (thn (ho.run pins s σ H _ I h) fun v s1 ⟨x, H1, I1, r1, ty, q1⟩ => ?_)
  obtain ⟨a, ob, ys, rfl, hd, ea⟩ := ty
  cases r1
  obtain ⟨e1, _, its, rv, o2, h1, h2, h3⟩ := (show ObjOk X.prog X.w H1 s1.heap a (.frz ob (.tup ys)) from I1.hok a _ ea)
  refine ⟨"tuple", id, pa, slot, hty, ⟨o2, h1, h2⟩, fun b eb => ?_, ?_⟩
  · cases eb
    exact ⟨ob, e1, hd⟩
  have hA := ha.run cpos pins s1 σ H1 _ I1 q1
  rw [hs] at hA ⊢
  refine Calls.callWith_builtin (by show (false || (backTo cpos (starEach es X.env)).any (·.1)) = false; rw [hplain] <;> rfl) (Calls.evalArgs_plain ?_)
  exact thn hA fun us s2 ⟨vs, H2, I2, r2, q2⟩ => hm pins s2 σ H2 (.ref a) vs (.ref a) us Q I2 rfl r2 q2
end Own
/-! ### sorted of rows of one width, any number of them -/
namespace Own
open PySem PySem.Spec PyProof.Rows L2 PySem.W PySem.SeqAt
def encB (b : Addr × List Int) : PyData := .tuple (b.2.map PyData.int)
def leB (a b : Addr × List Int) : Bool := decide (a.2 ≤ b.2)
theorem dataLe_encB : dataLe false encB = leB := by
  funext p q
  show (!dataLt (.tuple (q.2.map PyData.int)) (.tuple (p.2.map PyData.int))) = _
  rw [dataLt_tuple]
  show (!rowLt (q.2.map PyData.int) (p.2.map PyData.int)) = decide (p.2 ≤ q.2)
  rw [dataLt_ints]
  by_cases h : q.2 < p.2
  · have h' : ¬ p.2 ≤ q.2 := fun r => List.not_lt.mpr r h
    simp [h, h']
  · have h' : p.2 ≤ q.2 := List.not_lt.mp h
    simp [h, h']
theorem each_refs : ∀ (bs : List (Addr × List Int)), EachIs (fun (v : Value) (b : Addr × List Int) => v = .ref b.1) (bs.map fun b => Value.ref b.1) bs
  | [] => .nil
  | b :: bs => .cons rfl (each_refs bs)
theorem each_reads {h : Heap} : ∀ (bs : List (Addr × List Int)), (∀ b ∈ bs, ∃ as, Reads h (.ref b.1) (encB b) as) → EachIs (fun (v : Value) (b : Addr × List Int) => ∃ as, Reads h v (encB b) as) (bs.map fun b => Value.ref b.1) bs
  | [], _ => .nil
  | b :: bs, k => .cons (k b (List.mem_cons_self ..)) (each_reads bs fun c hc => k c (List.mem_cons_of_mem _ hc))
theorem refs_of : ∀ {bs : List (Addr × List Int)} {its : List Value}, Vals (bs.map fun b => V.ref b.1) its → its = bs.map fun b => Value.ref b.1
  | [], _, .nil => rfl
  | b :: bs, _, .cons r t => by
    rw [refs_of t]
    have r' : _ = Value.ref b.1 := r
    rw [r']
    rfl
theorem out_refs : ∀ {out : List Value} {bs : List (Addr × List Int)}, EachIs (fun (v : Value) (b : Addr × List Int) => v = .ref b.1) out bs → Vals (bs.map fun b => V.ref b.1) out
  | _, _, .nil => .nil
  | _, _, .cons h t => .cons h (out_refs t)
theorem depth_encB (b : Addr × List Int) : (encB b).depth ≤ 2 := by
  have h := PySem.W.depthAll_ints b.2
  unfold encB
  simp only [PyData.depth]
  omega
theorem alike_encB (a b : Addr × List Int) : alike (encB a) (encB b) = true := by
  unfold encB
  rw [alike]
  exact alike_ints a.2 b.2
theorem sortsAt_few {prog : Program} {w : World} {A : Around} {s : Shared} {vs : List Value} {ds : List PyData} (e : EachIs (fun v d => ∃ as, Reads s.heap v d as) vs ds) (hal : AllAlike ds) (hn : ∀ d ∈ ds, d ≠ .none) (hlen : vs.length ≤ 1) (hu : ∀ d, d ∈ ds → A.units + d.depth < cLine) : SortsAt prog w A s (dataKind s.heap ds) vs := by
  refine ⟨fun v hv => ?_, general', ?_, fun h2 => absurd h2 (by omega)⟩
  · obtain ⟨d, hd, as, r⟩ := e.left v hv
    exact ⟨_, dataKind_some hal hd r⟩
  · intro E x y a b Q ha hb hq
    obtain ⟨d, as, hd, ra, rfl⟩ := dataKind_inv ha
    obtain ⟨d', as', hd', rb, rfl⟩ := dataKind_inv hb
    show wpAny _ _ (oneLt' false x y) _ _ _
    exact oneLt_alike (fun z => Bool.noConfusion z) ra rb (hal d hd d' hd') (hn d hd) (Nat.lt_of_le_of_lt (Nat.add_le_add_left (Nat.min_le_left _ _) _) (hu d hd)) hq
def rSortedR (K : PySem.W.Frag) : List V → Hp → VK → Prop := fun vs H Q => ∃ (a : Addr) (bs : List (Addr × List Int)), vs = [V.ref a] ∧ SqL K H a (bs.map fun b => V.ref b.1) ∧ (∀ b ∈ bs, SqT K H b.1 (b.2.map V.int)) ∧ ((∀ b ∈ bs, b.2 ≠ []) ∨ bs.length ≤ 1) ∧
  ∀ p, H p = none → Q (.ref p) (upd H p (.lst ((bs.mergeSort leB).map fun b => V.ref b.1)))
theorem cr_sortedR {X : Cx} (hu : X.A.units + 64 < cLine) : CallR X (.builtin "sorted") (rSortedR X.K) := by
  intro pins s σ H vs us Q I r h
  obtain ⟨a, bs, rfl, hs, hb, hne, q⟩ := h
  obtain ⟨its, rv, hl, hz⟩ := I.list hs
  rw [Vals.ref1 r]
  have eits := refs_of rv
  subst eits
  rw [List.length_map] at hz
  have reads : ∀ b ∈ bs, ∃ as, Reads s.heap (.ref b.1) (encB b) as := fun b hbm => Dp.reads I (encB b) (.ref b.1) (.ref b.1) (.tup (hb b hbm) (dpAll_ints b.2)) rfl
  have er := each_reads bs reads
  have e := each_refs bs
  have fin : ∀ out : List Value, out.length = bs.length → EachIs (fun (v : Value) (b : Addr × List Int) => v = .ref b.1) out (bs.mergeSort (dataLe false encB)) → EP X pins σ Q (.ref (s.heap.objs.size + 1)) { s with heap := sortedAll s.heap (bs.map fun b => Value.ref b.1) (List.toArray out) } := fun out ho he => by
    rw [dataLe_encB] at he
    obtain ⟨ep, he'⟩ := PyProof.Rows.sortedAll_at s.heap (bs.map fun b => Value.ref b.1) out.toArray
    have hlen : ((bs.mergeSort leB).map fun b => V.ref b.1).length ≤ sizeLine := by
      rw [List.length_map, List.length_mergeSort]
      exact hz
    exact ⟨.ref _, upd H (s.heap.objs.size + 1) (.lst ((bs.mergeSort leB).map fun b => V.ref b.1)), I.laid (t' := s.toks) (fun _ _ => PyProof.Rows.sortedAll_old) (Nat.le_succ _) ⟨hlen, out, ep, out_refs he, he'⟩, rfl, q _ (I.hok.fresh (Nat.le_succ _))⟩
  have hd2 : ∀ b ∈ bs, X.A.units + 2 + (encB b).depth < cLine := fun b _ => by
    have := depth_encB b
    omega
  rcases hne with hne | hone
  · refine sorted_data hl.isList e er (AllAlike.of alike_encB) (.inl fun d hd => ?_) hz hd2 fin
    obtain ⟨b, hbm, rfl⟩ := List.mem_map.mp hd
    unfold encB
    cases hb2 : b.2 with
    | nil => exact absurd hb2 (hne b hbm)
    | cons x r => exact ⟨_, _, rfl⟩
  · have hal : AllAlike (bs.map encB) := AllAlike.of alike_encB
    have er' : EachIs (fun (v : Value) (b : Addr × List Int) => ∃ as, Reads (sortingHeap (copyHeap s.heap (bs.map fun b => Value.ref b.1)) (s.heap.objs.size + 1) (bs.map fun b => Value.ref b.1)) v (encB b) as) (bs.map fun b => Value.ref b.1) bs := er.mono fun _ _ ⟨as, r⟩ => ⟨as, PyProof.Rows.Reads.keeps (fun _ _ => sorting_copy_old) r⟩
    refine sorted_vals hl.isList (sortsAt_few (s := { s with heap := sortingHeap (copyHeap s.heap (bs.map fun b => Value.ref b.1)) (s.heap.objs.size + 1) (bs.map fun b => Value.ref b.1) }) (each_map (R := fun v d => ∃ as, Reads (sortingHeap (copyHeap s.heap (bs.map fun b => Value.ref b.1)) (s.heap.objs.size + 1) (bs.map fun b => Value.ref b.1)) v d as) encB er') hal (fun d hd => ?_) (by rw [List.length_map]; exact hone) (bound_map hd2)) (by rw [List.length_map]; exact hz)
      (fin _ (by rw [sortVals_length false rfl, List.length_map]) (sortVals_data false e er' hal))
    obtain ⟨b, _, rfl⟩ := List.mem_map.mp hd
    exact fun z => nomatch z
end Own
namespace Own
open PySem PySem.Spec PyProof.Rows L2
def SqB (b : Bool) (K : PySem.W.Frag) (H : Hp) (a : Addr) (us : List V) : Prop := match b with
  | true => SqL K H a us
  | false => SqT K H a us
theorem same_tup {K : PySem.W.Frag} {H H' : Hp} {a : Addr} {xs : List V} (e : Same H H') (h : SqT K H a xs) : SqT K H' a xs := by
  rcases h with (h | ⟨o, h⟩) | h
  · exact .inl (.inl (e _ _ h))
  · exact .inl (.inr ⟨o, e _ _ h⟩)
  · exact .inr h
theorem same_sqb {b : Bool} {K : PySem.W.Frag} {H H' : Hp} {a : Addr} {us : List V} (e : Same H H') (h : SqB b K H a us) : SqB b K H' a us := by
  cases b with
  | true => exact e.seq h
  | false => exact same_tup e h
/-- for .. in a list or a tuple: one walk for both -/
def iSeq (K : PySem.W.Frag) (tl : TE) : TI := fun σ H R => tl σ H fun x H1 => ∃ a us b, x = .ref a ∧ SqB b K H1 a us ∧
  ∀ J, Walk J us.length (fun H => SqB b K H a us) (YAt us) → R J H1
theorem pi_seq {X : Cx} {tg l : Expr} {tl : TE} (hl : PE X l tl) : PI X tg l (iSeq X.K tl) := by
  refine ⟨fun pins s σ H R I h => ?_⟩
  refine thn (hl.run pins s σ H _ I h) fun v s1 ⟨x, H1, I1, r1, q1⟩ => ?_
  obtain ⟨a, us, b, e, hq, q⟩ := q1
  subst e
  cases r1
  cases b with
  | true =>
    have hq : SqL X.K H1 a us := hq
    obtain ⟨its, rv, p, hz⟩ := I1.list hq
    refine wpAny_pyIter_list p.isList ?_
    refine ⟨s1.heap.objs.size, [s1.heap.objs.size], _, _, H1, rfl, I1.kept (t' := s1.toks) fun b o e => Heap.get?_push_of_some _ e, turn_list a _, ⟨_, Heap.get?_push_size _ rfl, rfl, rfl⟩, fun b hb => ?_, q _ walk_list⟩
    have e : b = s1.heap.objs.size := by simpa using hb
    subst e
    exact I1.fpOk (Nat.le_refl _) (I1.hok.fresh (Nat.le_refl _))
  | false =>
    have hq : SqT X.K H1 a us := hq
    obtain ⟨its, rv, p, hz⟩ := I1.tuple hq
    refine wpAny_pyIter_tuple (show s1.heap.IsTuple a its.toArray from p) ?_
    refine ⟨s1.heap.objs.size, [s1.heap.objs.size], _, _, H1, rfl, I1.kept (t' := s1.toks) fun b o e => Heap.get?_push_of_some _ e, turn_tuple a _, ⟨_, Heap.get?_push_size _ rfl, rfl, rfl⟩, fun b hb => ?_, q _ walk_tup⟩
    have e : b = s1.heap.objs.size := by simpa using hb
    subst e
    exact I1.fpOk (Nat.le_refl _) (I1.hok.fresh (Nat.le_refl _))
theorem sqb_of {K : PySem.W.Frag} {H : Hp} {a : Addr} {us : List V} (h : SqL K H a us ∨ SqT K H a us) : ∃ b, SqB b K H a us := h.elim (fun h => ⟨true, h⟩) fun h => ⟨false, h⟩
end Own
/-! rows as plain tuples -/
def RS (K : PySem.W.Frag) : Hp → V → List Int → Prop := fun H v r => ∃ t, v = .ref t ∧ SqT K H t (r.map V.int)
theorem st_RS {K : PySem.W.Frag} : Stable (RS K) := ⟨fun e ⟨t, a, b⟩ => ⟨t, a, Own.same_tup e b⟩, fun e ⟨t, a, b⟩ => ⟨t, a, by
  rcases b with (b | ⟨o, b⟩) | b
  · exact .inl (.inl (upd_put e b (fun _ z => by cases z)))
  · exact .inl (.inr ⟨o, upd_put e b (fun _ z => by cases z)⟩)
  · exact .inr b⟩⟩
theorem rs_of {K : PySem.W.Frag} {H : Hp} {v : V} {r : List Int} (h : RR H v r) : RS K H v r := by
  obtain ⟨t, e, b⟩ := h
  exact ⟨t, e, b.sq⟩
theorem rs_all {K : PySem.W.Frag} {H : Hp} : ∀ {us : List V} {rs : List (List Int)}, Paired (RR H) us rs → Paired (RS K H) us rs
  | _, _, .nil => .nil
  | _, _, .cons h t => .cons (rs_of h) (rs_all t)
/-! ### zip of a list and a tuple: by what the two iterators do -/
namespace Own
open PySem PySem.Spec PyProof.Rows L2
structure Src (prog : Program) (w : World) (A : Around) (it l : Addr) (xs : Array Value) (S : Heap → Nat → Prop) : Prop where
  keep : ∀ {c : Addr} {h h' : Heap} {k : Nat}, it ≠ c → l ≠ c → Heap.ExtBut c h h' → S h k → S h' k
  item : ∀ {E Q : Value → Shared → Prop} {s : Shared} {k : Nat} {x : Value}, S s.heap k → xs[k]? = some x → (∀ g, S g (k + 1) → Heap.SameBut it s.heap g → Q x { s with heap := g }) → wpAny (model prog w) A (Builtin.SmallTypes.nextOf (.ref it)) Q E s
  stop : ∀ {E Q : Value → Shared → Prop} {s : Shared} {k : Nat}, A.handled = none → S s.heap k → xs[k]? = none → (∀ g e, Heap.ExtBut it s.heap g → (∃ o, g.get? e = some o ∧ o.cls = .type "StopIteration") → E (.ref e) { s with heap := g }) → wpAny (model prog w) A (Builtin.SmallTypes.nextOf (.ref it)) Q E s
section
variable {prog : Program} {w : World} {A : Around} {s : Shared} {z TI TO i1 i2 l1 l2 : Addr} {k1 k2 : Nat} {xs ys : Array Value} {A1 A2 : Heap → Nat → Prop}
theorem src_list {it l : Addr} (hne : l ≠ it) : Src prog w A it l xs fun h k => h.IsListIter it l k ∧ h.IsList l xs :=
  ⟨fun h1 h2 e ⟨p, q⟩ => ⟨p.extBut e h1, q.extBut e h2⟩, fun ⟨p, q⟩ hx f => wpAny_nextOf_list_item p q hx fun g p' sb => f g ⟨p', q.extBut sb.extBut hne⟩ sb, fun hh ⟨p, q⟩ hx f => wpAny_nextOf_list_end hh p q hx f⟩
theorem src_tup {it l : Addr} (hne : l ≠ it) : Src prog w A it l xs fun h k => h.IsTupleIter it l k ∧ h.IsTuple l xs :=
  ⟨fun h1 h2 e ⟨p, q⟩ => ⟨p.extBut e h1, q.extBut e h2⟩, fun ⟨p, q⟩ hx f => RZ.nextOf_tuple_item p q hx fun g p' sb => f g ⟨p', q.extBut sb.extBut hne⟩ sb, fun hh ⟨p, q⟩ hx f => RZ.nextOf_tuple_end hh p q hx f⟩
theorem zipG_item {x y a b : Value} {Q E : Value → Shared → Prop} (D : ZipApart z TI TO i1 i2 l1 l2) (S1 : Src prog w A i1 l1 xs A1) (S2 : Src prog w A i2 l2 ys A2) (hz : IsZip s.heap z TI TO .none) (hTI : IsPair s.heap TI (.ref i1) (.ref i2)) (hTO : IsPair s.heap TO a b) (a1 : A1 s.heap k1) (a2 : A2 s.heap k2) (hx : xs[k1]? = some x) (hy : ys[k2]? = some y)
    (hQ : ∀ g, IsZip g z TI TO (rawInt s.heap.objs.size) → IsPair g TO x y → A1 g (k1 + 1) → A2 g (k2 + 1) → IsPair g s.heap.objs.size x y → g.objs.size = s.heap.objs.size + 1 → (∀ c o, c ≠ z → c ≠ TO → c ≠ i1 → c ≠ i2 → s.heap.get? c = some o → g.get? c = some o) → Q (.ref s.heap.objs.size) { s with heap := g }) :
    wpAny (model prog w) A (Builtin.«zip.__next__» ⟨[.ref z], []⟩) (fun fin s' => ∃ v, fin = .done (.ret v) ∧ Q v s') E s := by
  show wpAny _ _ (field (.ref z) 2 >>= _) _ _ _; refine wpAny_bind (wpAny_field hz rfl (x := .bool false) rfl ?_); show wpAny _ _ (field (.ref z) 3 >>= _) _ _ _
  refine wpAny_bind (wpAny_field hz rfl (x := .ref TI) rfl ?_); refine wpAny_bind (wpAny_seqItems hTI rfl ?_); show wpAny _ _ (Builtin.SmallTypes.ownedTupleIsFree (.ref z) >>= _) _ _ _
  refine wpAny_bind ?_; unfold Builtin.SmallTypes.ownedTupleIsFree; refine wpAny_bind (wpAny_field hz rfl (x := .none) rfl (wpAny_pure ?_)); simp only [if_true]
  refine wpAny_bind (wpAny_rule ?_); refine wpAny_bind (wpAny_field hz rfl (x := .ref TO) rfl ?_); refine wpAny_bind (wpAny_setField_rec hz (by simp) fun g1 z1 b1 => ?_)
  replace z1 : IsZip g1 z TI TO .ellipsis := z1
  refine wpAny_bind ?_; simp only [List.zipIdx_cons, List.zipIdx_nil, List.forIn_cons, List.forIn_nil]; refine wpAny_bind (wpAny_bind (wpAny_onRaise ?_)); show wpAny _ _ (Builtin.SmallTypes.nextOf (.ref i1) >>= _) _ _ _
  refine wpAny_bind (S1.item (S1.keep D.i1z D.l1z b1.extBut a1) hx fun g2 c1 b2 => wpAny_pure ?_)
  have t2 : IsPair g2 TO a b := b2.extBut _ _ D.TOi1 (b1.extBut _ _ D.TOz hTO)
  refine wpAny_bind (wpAny_seqItems t2 rfl ?_); refine wpAny_bind (wpAny_updateSeq_pair t2 fun g3 t3 b3 => ?_)
  replace t3 : IsPair g3 TO x b := t3
  refine wpAny_bind (wpAny_letGo (wpAny_pure ?_)); refine wpAny_bind (wpAny_bind (wpAny_onRaise ?_)); show wpAny _ _ (Builtin.SmallTypes.nextOf (.ref i2) >>= _) _ _ _
  refine wpAny_bind (S2.item (S2.keep D.TOi2.symm D.l2TO b3.extBut (S2.keep D.i12.symm D.l2i1 b2.extBut (S2.keep D.i2z D.l2z b1.extBut a2))) hy fun g4 c2 b4 => wpAny_pure ?_)
  have t4 : IsPair g4 TO x b := b4.extBut _ _ D.TOi2 t3
  refine wpAny_bind (wpAny_seqItems t4 rfl ?_); refine wpAny_bind (wpAny_updateSeq_pair t4 fun g5 t5 b5 => ?_)
  replace t5 : IsPair g5 TO x y := t5
  refine wpAny_bind (wpAny_letGo (wpAny_pure (wpAny_pure ?_))); refine wpAny_bind (wpAny_seqItems t5 rfl ?_); refine wpAny_bind (wpAny_newTuple ?_)
  have sz : g5.objs.size = s.heap.objs.size := by rw [b5.1, b4.1, b3.1, b2.1, b1.1]
  have z5 : IsZip g5 z TI TO .ellipsis := b5.extBut _ _ D.TOz.symm (b4.extBut _ _ D.i2z.symm (b3.extBut _ _ D.TOz.symm (b2.extBut _ _ D.i1z.symm z1)))
  have k5 : ∀ c o, c ≠ z → c ≠ TO → c ≠ i1 → c ≠ i2 → s.heap.get? c = some o → g5.get? c = some o := fun c o n1 n2 n3 n4 e => b5.extBut _ _ n2 (b4.extBut _ _ n4 (b3.extBut _ _ n2 (b2.extBut _ _ n3 (b1.extBut _ _ n1 e))))
  have c15 : A1 g5 (k1 + 1) := S1.keep D.TOi1.symm D.l1TO b5.extBut (S1.keep D.i12 D.l1i2 b4.extBut (S1.keep D.TOi1.symm D.l1TO b3.extBut c1))
  have c25 : A2 g5 (k2 + 1) := S2.keep D.TOi2.symm D.l2TO b5.extBut c2
  have zlt : z < g5.objs.size := Heap.lt_size z5
  show wpAny _ _ (Builtin.SmallTypes.ownedTupleHandOut (.ref z) (.ref g5.objs.size) >>= _) _ _ _
  refine wpAny_bind ?_; unfold Builtin.SmallTypes.ownedTupleHandOut
  have z6 : IsZip (g5.push { cls := .type "tuple", data := .seq #[x, y] }) z TI TO .ellipsis := Heap.get?_push_of_some _ z5
  refine wpAny_bind (wpAny_setField_rec z6 (by simp) fun g7 z7 b7 => ?_)
  replace z7 : IsZip g7 z TI TO (rawInt g5.objs.size) := z7
  refine wpAny_setField_rec z7 (by simp) fun g8 z8 b8 => ?_
  replace z8 : IsZip g8 z TI TO (rawInt g5.objs.size) := z8
  have up : ∀ c o, c ≠ z → g5.get? c = some o → g8.get? c = some o := fun c o n1 e => b8.extBut _ _ n1 (b7.extBut _ _ n1 (Heap.get?_push_of_some _ e))
  have t8 : IsPair g8 g5.objs.size x y := b8.extBut _ _ (Nat.ne_of_gt zlt) (b7.extBut _ _ (Nat.ne_of_gt zlt) (Heap.get?_push_size _ rfl))
  have s8 : g8.objs.size = g5.objs.size + 1 := by rw [b8.1, b7.1, Heap.size_push]
  rw [sz] at z8 t8 s8
  refine wpAny_pure ⟨_, rfl, ?_⟩; show Q (.ref g5.objs.size) _; rw [sz]
  exact hQ g8 z8 (up _ _ D.TOz t5) (S1.keep D.i1z D.l1z up c15) (S2.keep D.i2z D.l2z up c25) t8 s8 fun c o n1 n2 n3 n4 e => up c o n1 (k5 c o n1 n2 n3 n4 e)
theorem zipG_end {a b : Value} {Q : Fin → Shared → Prop} {E : Value → Shared → Prop} (hh : A.handled = none) (D : ZipApart z TI TO i1 i2 l1 l2) (S1 : Src prog w A i1 l1 xs A1) (S2 : Src prog w A i2 l2 ys A2) (hz : IsZip s.heap z TI TO .none) (hTI : IsPair s.heap TI (.ref i1) (.ref i2)) (hTO : IsPair s.heap TO a b) (a1 : A1 s.heap k1) (a2 : A2 s.heap k2) (hend : xs[k1]? = none ∨ ys[k2]? = none)
    (hE : ∀ g e, (∀ c o, c ≠ z → c ≠ TO → c ≠ i1 → c ≠ i2 → s.heap.get? c = some o → g.get? c = some o) → (∃ o, g.get? e = some o ∧ o.cls = .type "StopIteration") → E (.ref e) { s with heap := g }) :
    wpAny (model prog w) A (Builtin.«zip.__next__» ⟨[.ref z], []⟩) Q E s := by
  show wpAny _ _ (field (.ref z) 2 >>= _) _ _ _; refine wpAny_bind (wpAny_field hz rfl (x := .bool false) rfl ?_); show wpAny _ _ (field (.ref z) 3 >>= _) _ _ _
  refine wpAny_bind (wpAny_field hz rfl (x := .ref TI) rfl ?_); refine wpAny_bind (wpAny_seqItems hTI rfl ?_); show wpAny _ _ (Builtin.SmallTypes.ownedTupleIsFree (.ref z) >>= _) _ _ _
  refine wpAny_bind ?_; unfold Builtin.SmallTypes.ownedTupleIsFree; refine wpAny_bind (wpAny_field hz rfl (x := .none) rfl (wpAny_pure ?_)); simp only [if_true]
  refine wpAny_bind (wpAny_rule ?_); refine wpAny_bind (wpAny_field hz rfl (x := .ref TO) rfl ?_); refine wpAny_bind (wpAny_setField_rec hz (by simp) fun g1 z1 b1 => ?_)
  replace z1 : IsZip g1 z TI TO .ellipsis := z1
  refine wpAny_bind ?_; simp only [List.zipIdx_cons, List.zipIdx_nil, List.forIn_cons, List.forIn_nil]; refine wpAny_bind (wpAny_bind (wpAny_onRaise ?_)); show wpAny _ _ (Builtin.SmallTypes.nextOf (.ref i1) >>= _) _ _ _
  have d1 := S1.keep D.i1z D.l1z b1.extBut a1
  cases hx : xs[k1]? with
  | none =>
    refine wpAny_bind (S1.stop hh d1 hx fun g2 e b2 he => ?_)
    obtain ⟨oe, h1, h2⟩ := he
    have z2 : IsZip g2 z TI TO .ellipsis := b2 _ _ D.i1z.symm z1
    have ne : e ≠ z := fun q => by subst q; rw [z2] at h1; cases h1; simp at h2
    exact wpAny_setField_rec z2 (by simp) fun g3 _ b3 => hE g3 e (fun c o n1 _ n3 _ q => b3.extBut _ _ n1 (b2 _ _ n3 (b1.extBut _ _ n1 q))) ⟨oe, b3.extBut _ _ ne h1, h2⟩
  | some x =>
    have hy : ys[k2]? = none := hend.elim (fun h => by rw [hx] at h; cases h) id
    refine wpAny_bind (S1.item d1 hx fun g2 c1 b2 => wpAny_pure ?_)
    have t2 : IsPair g2 TO a b := b2.extBut _ _ D.TOi1 (b1.extBut _ _ D.TOz hTO)
    refine wpAny_bind (wpAny_seqItems t2 rfl ?_); refine wpAny_bind (wpAny_updateSeq_pair t2 fun g3 t3 b3 => ?_)
    refine wpAny_bind (wpAny_letGo (wpAny_pure ?_)); refine wpAny_bind (wpAny_bind (wpAny_onRaise ?_)); show wpAny _ _ (Builtin.SmallTypes.nextOf (.ref i2) >>= _) _ _ _
    refine wpAny_bind (S2.stop hh (S2.keep D.TOi2.symm D.l2TO b3.extBut (S2.keep D.i12.symm D.l2i1 b2.extBut (S2.keep D.i2z D.l2z b1.extBut a2))) hy fun g4 e b4 he => ?_)
    obtain ⟨oe, h1, h2⟩ := he
    have z4 : IsZip g4 z TI TO .ellipsis := b4 _ _ D.i2z.symm (b3.extBut _ _ D.TOz.symm (b2.extBut _ _ D.i1z.symm z1))
    have ne : e ≠ z := fun q => by subst q; rw [z4] at h1; cases h1; simp at h2
    exact wpAny_setField_rec z4 (by simp) fun g5 _ b5 => hE g5 e (fun c o n1 n2 n3 n4 q => b5.extBut _ _ n1 (b4 _ _ n4 (b3.extBut _ _ n2 (b2.extBut _ _ n3 (b1.extBut _ _ n1 q))))) ⟨oe, b5.extBut _ _ ne h1, h2⟩
theorem nextG_item {x y a b : Value} {Q : Option Value → Shared → Prop} {E : Value → Shared → Prop} (D : ZipApart z TI TO i1 i2 l1 l2) (S1 : Src prog w A.in1 i1 l1 xs A1) (S2 : Src prog w A.in1 i2 l2 ys A2) (hz : IsZip s.heap z TI TO .none) (hTI : IsPair s.heap TI (.ref i1) (.ref i2)) (hTO : IsPair s.heap TO a b) (a1 : A1 s.heap k1) (a2 : A2 s.heap k2) (hx : xs[k1]? = some x) (hy : ys[k2]? = some y)
    (hQ : ∀ g, IsZip g z TI TO (rawInt s.heap.objs.size) → IsPair g TO x y → A1 g (k1 + 1) → A2 g (k2 + 1) → IsPair g s.heap.objs.size x y → g.objs.size = s.heap.objs.size + 1 → (∀ c o, c ≠ z → c ≠ TO → c ≠ i1 → c ≠ i2 → s.heap.get? c = some o → g.get? c = some o) → Q (some (.ref s.heap.objs.size)) { s with heap := g }) :
    wpAny (model prog w) A (pyNext (.ref z)) Q E s := by
  have hT : s.TypeIs (.ref z) "zip" := ⟨_, hz, rfl⟩
  unfold pyNext
  refine wpAny_bind (wpAny_attempt (wpAny_callSpecial?_slot (name := Str.ofString "__next__") hT F.slot_zip_next (wpAny_call_entry F.slot_zip_next hT F.entry_zip_next (zipG_item D S1 S2 hz hTI hTO a1 a2 hx hy fun g p1 p2 p3 p4 p5 p6 p7 => wpAny_pure (hQ g p1 p2 p3 p4 p5 p6 p7)) (F.args_zip_next_1 _))))
theorem nextG_end {a b : Value} {Q : Option Value → Shared → Prop} {E : Value → Shared → Prop} (hh : A.handled = none) (D : ZipApart z TI TO i1 i2 l1 l2) (S1 : Src prog w A.in1 i1 l1 xs A1) (S2 : Src prog w A.in1 i2 l2 ys A2) (hz : IsZip s.heap z TI TO .none) (hTI : IsPair s.heap TI (.ref i1) (.ref i2)) (hTO : IsPair s.heap TO a b) (a1 : A1 s.heap k1) (a2 : A2 s.heap k2) (hend : xs[k1]? = none ∨ ys[k2]? = none)
    (hQ : ∀ g, (∀ c o, c ≠ z → c ≠ TO → c ≠ i1 → c ≠ i2 → s.heap.get? c = some o → g.get? c = some o) → Q none { s with heap := g }) : wpAny (model prog w) A (pyNext (.ref z)) Q E s := by
  have hT : s.TypeIs (.ref z) "zip" := ⟨_, hz, rfl⟩
  unfold pyNext
  refine wpAny_bind (wpAny_attempt (wpAny_callSpecial?_slot (name := Str.ofString "__next__") hT F.slot_zip_next (wpAny_call_entry F.slot_zip_next hT F.entry_zip_next (zipG_end hh D S1 S2 hz hTI hTO a1 a2 hend fun g e hk he => ?_) (F.args_zip_next_1 _))))
  obtain ⟨oe, h1, h2⟩ := he
  exact wpAny_bind (wpAny_isInstance (T := "StopIteration") (b := true) ⟨oe, h1, h2⟩ isSubtype_stop (wpAny_pure (hQ _ hk)))
end
/-! the call: an iterator of the list, one of the tuple, two pairs, the zip -/
section
variable (h : Heap) (l1 l2 : Addr)
abbrev zm1 : Heap := h.push { cls := .type "list_iterator", data := .fields #[.ref l1, .int 0 0] }
abbrev zm2 : Heap := (zm1 h l1).push { cls := .type "tuple_iterator", data := .fields #[.ref l2, .int 0 0] }
abbrev zm3 : Heap := (zm2 h l1 l2).push { cls := .type "tuple", data := .seq #[.ref h.objs.size, .ref (zm1 h l1).objs.size] }
abbrev zm4 : Heap := (zm3 h l1 l2).push { cls := .type "tuple", data := .seq #[.none, .none] }
abbrev zm5 : Heap := (zm4 h l1 l2).push { cls := .type "zip", data := .fields #[.none, .bool false, .bool false, .ref (zm2 h l1 l2).objs.size, .ref (zm3 h l1 l2).objs.size] }
end
theorem zipM_new (l1 l2 : Addr) (xs ys : Array Value) : Meets (Builtin.«zip.__new__» ⟨[.type "zip", .ref l1, .ref l2], []⟩) (fun _ R s => s.heap.IsList l1 xs ∧ s.heap.IsTuple l2 ys ∧ R (.ok (.ret (.ref (zm4 s.heap l1 l2).objs.size))) { s with heap := zm5 s.heap l1 l2 }) :=
  .of_wp fun prog w A R s q => by
    obtain ⟨hp, g, d, tk, os⟩ := s
    obtain ⟨p1, p2, q⟩ := q
    have hs := sub_zip
    have q1 : Heap.IsList (Shared.heap ⟨hp, g, d, tk, os⟩) l1 xs := p1
    have q2 : Heap.IsTuple (Shared.heap ⟨hp.push { cls := .type "list_iterator", data := .fields #[.ref l1, .int 0 0] }, g, d, tk, os⟩) l2 ys := Heap.IsTuple.push p2 _
    wp_walk using wpAny_pyIter_list q1, wpAny_pyIter_tuple q2
    exact ⟨_, rfl, q⟩
section
variable {prog : Program} {w : World} {A : Around} {E : Value → Shared → Prop} {s : Shared}
theorem call_zipM {l1 l2 : Addr} {xs ys : Array Value} {Q : Value → Shared → Prop} (p1 : s.heap.IsList l1 xs) (p2 : s.heap.IsTuple l2 ys)
    (q : ∀ g, IsZip g (s.heap.objs.size + 4) (s.heap.objs.size + 2) (s.heap.objs.size + 3) .none → IsPair g (s.heap.objs.size + 2) (.ref s.heap.objs.size) (.ref (s.heap.objs.size + 1)) → IsPair g (s.heap.objs.size + 3) .none .none → g.IsListIter s.heap.objs.size l1 0 → g.IsTupleIter (s.heap.objs.size + 1) l2 0 → (∀ c o, s.heap.get? c = some o → g.get? c = some o) → Q (.ref (s.heap.objs.size + 4)) { s with heap := g }) :
    wpAny (model prog w) A (call (.type "zip") [.ref l1, .ref l2]) Q E s := by
  refine callType_new F.called_zip (by decide) (F.typeCall_zip_2 _ _) (F.newCall_zip_2 _ _) (fun o => F.args_object_init_3 o _ _) F.entry_zip_new (zipM_new l1 l2 xs ys) ⟨p1, p2, ?_⟩
  have n1 : (zm1 s.heap l1).objs.size = s.heap.objs.size + 1 := Heap.size_push ..
  have n2 : (zm2 s.heap l1 l2).objs.size = s.heap.objs.size + 2 := by rw [Heap.size_push, n1]
  have n3 : (zm3 s.heap l1 l2).objs.size = s.heap.objs.size + 3 := by rw [Heap.size_push, n2]
  have n4 : (zm4 s.heap l1 l2).objs.size = s.heap.objs.size + 4 := by rw [Heap.size_push, n3]
  have f5 : (zm5 s.heap l1 l2).get? (zm4 s.heap l1 l2).objs.size = some _ := Heap.get?_push_size _ rfl
  have f4 : (zm5 s.heap l1 l2).get? (zm3 s.heap l1 l2).objs.size = some _ := Heap.get?_push_of_some _ (Heap.get?_push_size _ rfl)
  have f3 : (zm5 s.heap l1 l2).get? (zm2 s.heap l1 l2).objs.size = some _ := Heap.get?_push_of_some _ (Heap.get?_push_of_some _ (Heap.get?_push_size _ rfl))
  have f2 : (zm5 s.heap l1 l2).get? (zm1 s.heap l1).objs.size = some _ := Heap.get?_push_of_some _ (Heap.get?_push_of_some _ (Heap.get?_push_of_some _ (Heap.get?_push_size _ rfl)))
  have f1 : (zm5 s.heap l1 l2).get? s.heap.objs.size = some _ := Heap.get?_push_of_some _ (Heap.get?_push_of_some _ (Heap.get?_push_of_some _ (Heap.get?_push_of_some _ (Heap.get?_push_size _ rfl))))
  show _ ∧ _
  rw [n2, n3, n4] at f5; rw [n1, n2] at f3; rw [n3] at f4; rw [n1] at f2; rw [n4]
  exact ⟨⟨_, f5, rfl⟩, q _ f5 f3 f4 ⟨_, f1, rfl, rfl⟩ ⟨_, f2, rfl, rfl⟩ fun c o e => Heap.get?_push_of_some _ (Heap.get?_push_of_some _ (Heap.get?_push_of_some _ (Heap.get?_push_of_some _ (Heap.get?_push_of_some _ e))))⟩
end
/-- a list at a, a tuple at b -/
def ItzM (K : PySem.W.Frag) (a b : Addr) : It :=
  ⟨fun i H => ∃ (xs ys : List V) (x y : V), SqL K H a xs ∧ SqT K H b ys ∧ xs[i]? = some x ∧ ys[i]? = some y, fun i H v H' => ∃ T x y, v = .ref T ∧ H T = none ∧ H' = upd H T (.tup [x, y]) ∧ (∀ xs, SqL K H a xs → xs[i]? = some x) ∧ ∀ ys, SqT K H b ys → ys[i]? = some y, fun i H => ∃ xs ys : List V, SqL K H a xs ∧ SqT K H b ys ∧ (xs.length ≤ i ∨ ys.length ≤ i)⟩
theorem mem5 {z TI TO i1 i2 c : Addr} (h : c ∈ [z, TI, TO, i1, i2]) : c = z ∨ c = TI ∨ c = TO ∨ c = i1 ∨ c = i2 := by simpa using h
theorem turn_zipM {P : Program} {w : World} {K : PySem.W.Frag} {elts : List Expr} {kk : Nat} {tpos : Pos} {a b z TI TO i1 i2 : Addr} (D : ZipApart z TI TO i1 i2 a b) :
    Turn P w K (.Tuple elts kk tpos) (ItzM K a b) [z, TI, TO, i1, i2] z (fun i h => IsZip h z TI TO .none ∧ IsPair h TI (.ref i1) (.ref i2) ∧ (∃ x y, IsPair h TO x y) ∧ h.IsListIter i1 a i ∧ h.IsTupleIter i2 b i) where
  mem := by simp
  obj := fun i h st c hc => by
    obtain ⟨hz, hTI, ⟨x, y, hTO⟩, ⟨o1, e1, _, d1⟩, ⟨o2, e2, _, d2⟩⟩ := st
    rcases mem5 hc with rfl | rfl | rfl | rfl | rfl
    · exact ⟨_, hz, nofun⟩
    · exact ⟨_, hTI, nofun⟩
    · exact ⟨_, hTO, nofun⟩
    · exact ⟨o1, e1, fun u e => by rw [d1] at e; cases e⟩
    · exact ⟨o2, e2, fun u e => by rw [d2] at e; cases e⟩
  keep := fun i h h' st k => by
    obtain ⟨hz, hTI, ⟨x, y, hTO⟩, q1, q2⟩ := st
    refine ⟨k z (by simp) _ hz, k TI (by simp) _ hTI, ⟨x, y, k TO (by simp) _ hTO⟩, ?_, ?_⟩
    · exact q1.at fun o e => k i1 (by simp) o e
    · exact q2.at fun o e => k i2 (by simp) o e
  item := by
    intro X hP hw hK hc i pins s σ H E I hf st hg
    subst hP hw hK
    obtain ⟨hz, hTI, ⟨x0, y0, hTO⟩, q1, q2⟩ := st
    obtain ⟨xs, ys, x, y, hqx, hqy, hx, hy⟩ := hg
    obtain ⟨is1, rv1, m1, _⟩ := I.list hqx; obtain ⟨is2, rv2, m2, _⟩ := I.tuple hqy
    obtain ⟨u1, e1, r1⟩ := rv1.get hx; obtain ⟨u2, e2, r2⟩ := rv2.get hy
    have hzl : z < s.heap.objs.size := Heap.lt_size hz
    refine nextG_item D (src_list (l := a) D.l1i1) (src_tup (l := b) D.l2i2) hz hTI hTO ⟨q1, m1.isList⟩ ⟨q2, m2⟩ (x := u1) (y := u2) (by simpa using e1) (by simpa using e2) fun g z' TO' ⟨q1', _⟩ ⟨q2', _⟩ hT hsz hk => ?_
    refine ⟨_, rfl, wpAny_letOwnedTupleGo_zip (s := { s with heap := g }) z' fun g2 z2 sb => ?_⟩
    have t2 : g2.get? s.heap.objs.size = some { cls := .type "tuple", data := .seq #[u1, u2] } := (sb.2 _ (Nat.ne_of_gt hzl)).trans hT
    have nw : ObjOk X.prog X.w (upd H s.heap.objs.size (.tup [x, y])) g2 s.heap.objs.size (.tup [x, y]) := ⟨by show 2 ≤ sizeLine; decide, [u1, u2], .cons r1 (.cons r2 .nil), ⟨_, t2, rfl, _, rfl⟩⟩
    have J : Inv X pins σ (upd H s.heap.objs.size (.tup [x, y])) { s with heap := g2 } := I.turnedNew (t' := s.toks) (ch := [z, TI, TO, i1, i2]) (fun c o hb q => (sb.2 c (fun e => hb (by simp [e]))).trans (hk c o (fun e => hb (by simp [e])) (fun e => hb (by simp [e])) (fun e => hb (by simp [e])) (fun e => hb (by simp [e])) q)) hf (Nat.le_refl _) nw
    refine ⟨.ref s.heap.objs.size, _, J, rfl, ⟨_, x, y, rfl, I.hok.fresh (Nat.le_refl _), rfl, fun l hl => by rw [I.list_inj hl hqx]; exact hx, fun l hl => by rw [I.tuple_inj hl hqy]; exact hy⟩, ⟨z2, (sb.2 _ D.TIz).trans (hk _ _ D.TIz D.TITO D.TIi1 D.TIi2 hTI), ⟨u1, u2, (sb.2 _ D.TOz).trans TO'⟩, q1'.at fun o q => (sb.2 _ D.i1z).trans q, q2'.at fun o q => (sb.2 _ D.i2z).trans q⟩, fun c hcm => ?_⟩
    have hlt : c < s.heap.objs.size := by
      rcases mem5 hcm with rfl | rfl | rfl | rfl | rfl
      · exact hzl
      · exact Heap.lt_size hTI
      · exact Heap.lt_size hTO
      · exact q1.elim fun _ e => Heap.lt_size e.1
      · exact q2.elim fun _ e => Heap.lt_size e.1
    rw [upd_ne (Nat.ne_of_lt hlt)]; exact (hf c hcm).1
  done := by
    intro X hP hw hK hc i pins s σ H E I hf st hg
    subst hP hw hK
    obtain ⟨hz, hTI, ⟨x0, y0, hTO⟩, q1, q2⟩ := st
    obtain ⟨xs, ys, hqx, hqy, hend⟩ := hg
    obtain ⟨is1, rv1, m1, _⟩ := I.list hqx; obtain ⟨is2, rv2, m2, _⟩ := I.tuple hqy
    have n1 := rv1.length; have n2 := rv2.length
    have he : is1.toArray[i]? = none ∨ is2.toArray[i]? = none := hend.elim (fun q => .inl (by simp; omega)) fun q => .inr (by simp; omega)
    exact nextG_end (I.ok.hd hc) D (src_list (l := a) D.l1i1) (src_tup (l := b) D.l2i2) hz hTI hTO ⟨q1, m1.isList⟩ ⟨q2, m2⟩ he fun g hk => ⟨rfl, I.turnedL (t' := s.toks) (ch := [z, TI, TO, i1, i2]) (fun c o hb q => hk c o (fun e => hb (by simp [e])) (fun e => hb (by simp [e])) (fun e => hb (by simp [e])) (fun e => hb (by simp [e])) q) hf⟩
  self := fun A i s Q E st q => wpAny_pyIter_zip st.1 q
theorem walk_zipM {K : PySem.W.Frag} {a b : Addr} {xs ys : List V} {n : Nat} (h1 : n = xs.length) (h2 : n = ys.length) : Walk (ItzM K a b) n (fun H => SqL K H a xs ∧ SqT K H b ys) (YPair (fun i => xs[i]?) (fun i => ys[i]?)) :=
  { goes := fun i _ hi k => ⟨xs, ys, _, _, k.1, k.2, List.getElem?_eq_getElem (by omega), List.getElem?_eq_getElem (by omega)⟩
    stops := fun _ k => ⟨xs, ys, k.1, k.2, .inl (by omega)⟩
    yields := fun i H x H' _ k ⟨T, x1, x2, e1, e2, e3, e4, e5⟩ => ⟨T, x1, x2, e1, e2, e3, e4 xs k.1, e5 ys k.2⟩ }
/-- two lists, or a list and a tuple, of one length -/
def iZipM (K : PySem.W.Frag) (ta : TA) : TI := fun σ H R => ta σ H fun vs H1 => ∃ a b xs ys bb, vs = [.ref a, .ref b] ∧ SqL K H1 a xs ∧ SqB bb K H1 b ys ∧ xs.length = ys.length ∧ ∀ J, Walk J xs.length (fun H => SqL K H a xs ∧ SqB bb K H b ys) (YPair (fun i => xs[i]?) (fun i => ys[i]?)) → R J H1
theorem pi_zipM {X : Cx} {e e2 : Expr} {ta : TA} {p pos tpos : Pos} {elts : List Expr} {kk : Nat} (hg : Gl X "zip") (hm : X.mg "zip" = none) (ha : PA X [e, e2] ta)
    (hs : starEach [e, e2] X.env = (false, eval e X.env) :: starEach [e2] X.env := by rfl) (hpl : (backTo pos (starEach [e2] X.env)).any (·.1) = false := by rfl) : PI X (.Tuple elts kk tpos) (.Call (.Name "zip" p) [e, e2] [] pos) (iZipM X.K ta) := by
  refine ⟨fun pins s σ H R I q => Call_ (ld_blt I hg hm PyProof.Rows.boot_zip (PyProof.Rows.callWith_type1 (thn (ha.run pos pins s σ H _ I q) fun us s1 ⟨vs, H1, I1, r1, q1⟩ => ?_) hs hpl))⟩
  obtain ⟨a, b, xs, ys, bb, rfl, hqx, hqb, hlen, q1⟩ := q1
  obtain ⟨v1, v2, rfl, e1, e2⟩ := vals2 r1
  cases e1; cases e2
  have fr : ∀ c, c ∈ [s1.heap.objs.size + 4, s1.heap.objs.size + 2, s1.heap.objs.size + 3, s1.heap.objs.size, s1.heap.objs.size + 1] → FpOk X pins H1 c := fun c hcm => by
    have hle : s1.heap.objs.size ≤ c := by rcases mem5 hcm with rfl | rfl | rfl | rfl | rfl <;> omega
    exact I1.fpOk hle (I1.hok.fresh hle)
  obtain ⟨is1, rv1, m1, _⟩ := I1.list hqx
  cases bb with
  | true =>
    have hqy : SqL X.K H1 b ys := hqb
    have q := q1 (Itz X.K a b) (walk_zip (by rw [hlen, Nat.min_self]))
    obtain ⟨is2, rv2, m2, _⟩ := I1.list hqy
    refine call_zip_2 m1.isList m2.isList fun g hz hTI hTO p1 p2 _ hk => wpAny_pyIter_zip hz ?_
    exact ⟨_, [s1.heap.objs.size + 4, s1.heap.objs.size + 2, s1.heap.objs.size + 3, s1.heap.objs.size, s1.heap.objs.size + 1], _, _, H1, rfl, I1.kept (t' := s1.toks) hk, turn_zip (PySem.W.ktu_apart s1.heap.objs.size a b m1.lt m2.lt), ⟨hz, hTI, ⟨_, _, hTO⟩, p1, p2⟩, fr, q⟩
  | false =>
    have hqy : SqT X.K H1 b ys := hqb
    have q := q1 (ItzM X.K a b) (walk_zipM rfl hlen)
    obtain ⟨is2, rv2, m2, _⟩ := I1.tuple hqy
    obtain ⟨o2, ho2, _⟩ := id m2
    refine call_zipM m1.isList (show s1.heap.IsTuple b is2.toArray from m2) fun g hz hTI hTO p1 p2 hk => wpAny_pyIter_zip hz ?_
    exact ⟨_, [s1.heap.objs.size + 4, s1.heap.objs.size + 2, s1.heap.objs.size + 3, s1.heap.objs.size, s1.heap.objs.size + 1], _, _, H1, rfl, I1.kept (t' := s1.toks) hk, turn_zipM (PySem.W.ktu_apart s1.heap.objs.size a b m1.lt (Heap.lt_size ho2)), ⟨hz, hTI, ⟨_, _, hTO⟩, p1, p2⟩, fr, q⟩
end Own
/-! ### dicts whose keys are pairs of an int and a tuple of ints -/
namespace Pk
open PySem
section
variable {prog : Program} {w : World}
abbrev PK : Type := Int × List Int
/-- the pair (j, t) stands at a -/
def IsPK (prog : Program) (w : World) (h : Heap) (k : PK) (a : Addr) : Prop := ∃ o items n tk b, h.get? a = some o ∧ o.cls = .type "tuple" ∧ o.data = .seq items n ∧ items.toList = [.int k.1 tk, .ref b] ∧ IsTupleKey (PySem.intKind prog w) h k.2 b
theorem IsPK.ty {s : Shared} {k : PK} {a : Addr} (x : IsPK prog w s.heap k a) : s.TypeIs (.ref a) "tuple" := let ⟨o, _, _, _, _, h1, h2, _⟩ := x; ⟨o, h1, h2⟩
theorem IsPK.inj {h : Heap} {a : Addr} {x y : PK} (hx : IsPK prog w h x a) (hy : IsPK prog w h y a) : x = y := by
  obtain ⟨o, i1, n1, t1, b1, e1, _, d1, l1, k1⟩ := hx
  obtain ⟨o', i2, n2, t2, b2, e2, _, d2, l2, k2⟩ := hy
  rw [e1] at e2
  cases e2
  rw [d1] at d2
  injection d2 with d2 _
  subst d2
  rw [l1] at l2
  injection l2 with l3 l4
  injection l3 with l3 _
  injection l4 with l4 _
  injection l4 with l4
  subst l4
  exact Prod.ext l3 (k1.inj k2)
theorem IsPK.keeps {h h' : Heap} {k : PK} {a d : Addr} {o : Obj} {es ep} (x : IsPK prog w h k a) (ho : h.get? d = some o) (hd : o.data = .dict es ep) (hs : Heap.SameBut d h h') : IsPK prog w h' k a := by
  obtain ⟨o1, items, n, tk, b, e1, c1, d1, l1, k1⟩ := x
  refine ⟨o1, items, n, tk, b, (hs.2 a fun z => ?_).trans e1, c1, d1, l1, k1.keeps ho hd hs⟩
  rw [z, ho] at e1
  cases e1
  rw [hd] at d1
  cases d1
def pkHash (prog : Program) (w : World) (k : PK) : Int := reduceHash (Builtin.Tuple.tupleHashOf [(PySem.intKind prog w).hash k.1, tupleKeyHash (PySem.intKind prog w) k.2])
variable {A : Around} {E : Value → Shared → Prop} {s : Shared}
theorem hash_pk {k : PK} {a : Addr} {Q : Int → Shared → Prop} (hu : A.units + 1 < cLine) (hk : IsPK prog w s.heap k a) (h : Q (pkHash prog w k) { s with toks := s.toks + (k.2.length + 3) }) : wpAny (model prog w) A (pyHash (.ref a)) Q E s := by
  have ty := hk.ty
  obtain ⟨o, items, n, tk, b, e1, _, d1, l1, k1⟩ := hk
  unfold pyHash
  first | unfold pyHashByItsType | skip
  first | refine wpAny_bind (wpAny_cRoomFor_or (.inr (by omega)) ?_) | skip
  refine wpAny_bind (wpAny_specialOf ty F.slot_tuple_hash.lookup ?_); show wpAny _ _ (if (some (Value.builtin "tuple.__hash__") == some Value.none) = true then _ else _) Q E s
  rw [if_neg (by rw [beq_builtin_none]; decide)]
  refine wpAny_bind (wpAny_specialOf ty F.slot_tuple_hash.lookup ?_); show wpAny _ _ (callSpecialIfBoundUnlessNone? (.ref a) "__hash__" _ >>= _) Q E s
  refine wpAny_bind (wpAny_callSpecialIfBoundUnlessNone?_slot ty F.slot_tuple_hash (wpAny_call_entry F.slot_tuple_hash ty F.entry_tuple_hash ?_ (F.args_tuple_hash_1 _)))
  show wpAny _ _ (Builtin.Tuple.tupleItemsOf (.ref a) >>= _) _ _ s
  refine wpAny_bind (wpAny_tupleItemsOf e1 d1 (wpAny_bind ?_))
  rw [← Array.forIn_toList, l1, List.forIn_cons]
  refine wpAny_bind (wpAny_bind ((PySem.intKind prog w).pyHash (k := k.1) (by simp [PySem.intKind, Value.isInt]) ?_))
  have step2 : ∀ {R : Int → Shared → Prop} {E' : Value → Shared → Prop} {B : Around}, B.units < cLine → R (tupleKeyHash (PySem.intKind prog w) k.2) { s with toks := s.toks + 1 + (k.2.length + 1) } → wpAny (model prog w) B (pyHash (.ref b)) R E' { s with toks := s.toks + 1 } := fun hB hR =>
    wpAny_pyHash_tuple (s := { s with toks := s.toks + 1 }) hB k1 hR
  refine wpAny_pure ?_
  try dsimp only
  rw [List.forIn_cons]
  refine wpAny_bind (wpAny_bind (step2 (by show A.units + 1 < cLine; exact hu) ?_))
  refine wpAny_pure ?_
  try dsimp only
  rw [List.forIn_nil]
  refine wpAny_pure ?_
  generalize hg : Builtin.Tuple.tupleHashOf [(PySem.intKind prog w).hash k.1, tupleKeyHash (PySem.intKind prog w) k.2] = g at h
  show wpAny _ _ (retInt (Builtin.Tuple.tupleHashOf [(PySem.intKind prog w).hash k.1, tupleKeyHash (PySem.intKind prog w) k.2])) _ _ _
  rw [hg]
  have eh : pkHash prog w k = reduceHash g := by unfold pkHash; rw [hg]
  rw [eh] at h
  have et : s.toks + 1 + (k.2.length + 1) + 1 = s.toks + (k.2.length + 3) := by omega
  refine wpAny_ret_mkInt ?_
  show wpAny _ _ (if (decide (-(2 : Int) ^ 63 ≤ g) && decide (g < 2 ^ 63)) = true then _ else _) Q E { s with toks := s.toks + 1 + (k.2.length + 1) + 1 }
  rw [et]
  unfold reduceHash at h
  by_cases c : (decide (-(2 : Int) ^ 63 ≤ g) && decide (g < 2 ^ 63)) = true
  · rw [if_pos c] at h ⊢
    exact wpAny_pure h
  · rw [if_neg c] at h ⊢
    exact wpAny_bind (wpAny_rule (wpAny_pure h))
theorem eq_pk {x y : PK} {a b : Addr} {Q : Bool → Shared → Prop} (hu : A.units + 1 < cLine) (hx : IsPK prog w s.heap x a) (hy : IsPK prog w s.heap y b) (h : Q (decide (x = y)) s) : wpAny (model prog w) A (eqBool (.ref a) (.ref b)) Q E s := by
  unfold eqBool
  try with_reducible refine wpAny_holding ?_
  show wpAny _ _ (if (Value.ref a == Value.ref b) = true then _ else _) Q E s
  by_cases hab : (Value.ref a == Value.ref b) = true
  · rw [if_pos hab]
    have e : a = b := by
      have := eq_of_beq hab
      injection this
    subst e
    have exy := hx.inj hy
    subst exy
    exact wpAny_bind (wpAny_rule (wpAny_pure (by simpa using h)))
  · rw [if_neg hab]
    refine wpAny_bind (wpAny_richCompare_same_room (op := .Eq) hx.ty hy.ty F.slot_tuple_eq (wpAny_call_entry F.slot_tuple_eq hx.ty F.entry_tuple_eq ?_ (F.args_tuple_eq_2 _ _)) (by omega))
    have tyb := hy.ty
    obtain ⟨o1, i1, n1, t1, b1, e1, _, d1, l1, k1⟩ := hx
    obtain ⟨o2, i2, n2, t2, b2, e2, _, d2, l2, k2⟩ := hy
    show wpAny _ _ (isInstance (.ref b) (.type "tuple") >>= _) _ _ s
    refine wpAny_bind (wpAny_isInstance tyb isSubtype_tuple_tuple ?_)
    simp only [Bool.not_true, Bool.false_eq_true, if_false]
    refine wpAny_bind (wpAny_tupleItemsOf e1 d1 (wpAny_bind (wpAny_tupleItemsOf e2 d2 (wpAny_bind ?_))))
    have z1 : i1.size = 2 := by rw [← Array.length_toList, l1]; rfl
    have z2 : i2.size = 2 := by rw [← Array.length_toList, l2]; rfl
    have fin : ∀ {B : Around} {E' : Value → Shared → Prop} (v : Bool), v = decide (x = y) → wpAny (model prog w) B (ret (.bool v)) (fun (f : Fin) s' => ∃ u, f = Fin.done (Flow.ret u) ∧ u ≠ Value.notImplemented ∧ wpAny (model prog w) A (truthOfDropped u) Q E s') E' s := fun v e => by
      subst e
      exact wpAny_pure ⟨_, rfl, (fun q => nomatch q), wpAny_truthy_bool h⟩
    rw [l1, l2, z1, z2]
    show wpAny _ _ (forIn [(Value.int x.1 t1, Value.int y.1 t2), (Value.ref b1, Value.ref b2)] _ _) _ _ s
    rw [List.forIn_cons]
    refine wpAny_bind (wpAny_bind ((PySem.intKind prog w).eqBool (a := x.1) (b := y.1) (by simp [PySem.intKind, Value.isInt]) (by simp [PySem.intKind, Value.isInt]) ?_))
    by_cases c1 : x.1 = y.1
    · rw [decide_eq_true c1]
      simp only [Bool.not_true, Bool.false_eq_true, if_false]
      refine wpAny_pure ?_
      try dsimp only
      rw [List.forIn_cons]
      refine wpAny_bind (wpAny_bind (wpAny_eqBool_tuple (by show A.units + 1 < cLine; exact hu) k1 k2 ?_))
      by_cases c2 : x.2 = y.2
      · rw [decide_eq_true c2]
        simp only [Bool.not_true, Bool.false_eq_true, if_false]
        refine wpAny_pure ?_
        try dsimp only
        rw [List.forIn_nil]
        exact wpAny_pure (fin true (decide_eq_true (Prod.ext c1 c2)).symm)
      · rw [decide_eq_false c2]
        simp only [Bool.not_false, if_true]
        have hf := decide_eq_false (fun q : x = y => c2 (congrArg Prod.snd q))
        rw [hf] at h
        exact wpAny_bind (wpAny_pure (wpAny_pure (wpAny_pure (wpAny_pure ⟨_, rfl, (fun q => nomatch q), wpAny_truthy_bool h⟩))))
    · rw [decide_eq_false c1]
      simp only [Bool.not_false, if_true]
      have hf := decide_eq_false (fun q : x = y => c1 (congrArg Prod.fst q))
      rw [hf] at h
      exact wpAny_bind (wpAny_pure (wpAny_pure (wpAny_pure (wpAny_pure ⟨_, rfl, (fun q => nomatch q), wpAny_truthy_bool h⟩))))
theorem quiet_ints {ks : List Int} {b : Addr} {n : Nat} {Q : Bool → Shared → Prop} (hk : IsTupleKey (PySem.intKind prog w) s.heap ks b) (h : Q true s) : wpAny (model prog w) A (eqIsQuiet (n + 1) (.ref b)) Q E s := by
  have ty := hk.typeIs
  obtain ⟨o, items, m, ho, _, hd, hi⟩ := hk
  unfold eqIsQuiet
  refine wpAny_bind (wpAny_specialOf ty F.slot_tuple_eq.lookup ?_)
  show wpAny _ _ (isInstance (.ref b) (.type "tuple") >>= _) _ _ s
  refine wpAny_bind (wpAny_isInstance ty isSubtype_tuple_tuple ?_)
  simp only [Bool.not_true, Bool.false_eq_true, if_false]
  refine wpAny_bind (wpAny_seqItems ho hd (wpAny_bind ?_))
  show wpAny _ _ (forIn items _ _) _ _ s
  rw [← Array.forIn_toList]
  refine wpAny_forIn_list _ (fun rest r s' => r.1 = none ∧ s' = s ∧ ∀ v ∈ rest, carriedByValue v = true) _ (fun v rest r s' q => ?_) (fun r s' q => ?_) _ _ ⟨rfl, rfl, hi.byValue⟩
  · obtain ⟨q1, rfl, q3⟩ := q
    rw [eqIsQuiet_byValue _ (q3 v List.mem_cons_self)]
    refine wpAny_bind (wpAny_pure ?_)
    simp only [Bool.not_true, Bool.false_eq_true, if_false]
    exact wpAny_pure ⟨rfl, rfl, fun u hu => q3 u (List.mem_cons_of_mem _ hu)⟩
  · obtain ⟨r1, r2⟩ := r
    obtain ⟨q1, rfl, _⟩ := q
    simp only at q1
    subst q1
    exact wpAny_pure h
theorem quiet_pk {k : PK} {a : Addr} {Q : Bool → Shared → Prop} (hk : IsPK prog w s.heap k a) (h : Q true s) : wpAny (model prog w) A (eqIsQuiet 8 (.ref a)) Q E s := by
  have ty := hk.ty
  obtain ⟨o, items, m, tk, b, ho, _, hd, hl, kb⟩ := hk
  unfold eqIsQuiet
  refine wpAny_bind (wpAny_specialOf ty F.slot_tuple_eq.lookup ?_)
  show wpAny _ _ (isInstance (.ref a) (.type "tuple") >>= _) _ _ s
  refine wpAny_bind (wpAny_isInstance ty isSubtype_tuple_tuple ?_)
  simp only [Bool.not_true, Bool.false_eq_true, if_false]
  refine wpAny_bind (wpAny_seqItems ho hd (wpAny_bind ?_))
  show wpAny _ _ (forIn items _ _) _ _ s
  rw [← Array.forIn_toList, hl, List.forIn_cons, eqIsQuiet_byValue _ rfl]
  refine wpAny_bind (wpAny_bind (wpAny_pure ?_))
  simp only [Bool.not_true, Bool.false_eq_true, if_false]
  refine wpAny_pure ?_
  try dsimp only
  rw [List.forIn_cons]
  refine wpAny_bind (wpAny_bind (quiet_ints kb ?_))
  simp only [Bool.not_true, Bool.false_eq_true, if_false]
  refine wpAny_pure ?_
  try dsimp only
  rw [List.forIn_nil]
  exact wpAny_pure (wpAny_pure h)
end
def pkKind (prog : Program) (w : World) : HeapKind prog w PK where
  is := IsPK prog w
  hash := pkHash prog w
  draws := fun k => k.2.length + 3
  room := fun A => A.units + 1 < cLine
  inj := fun hx hy => hx.inj hy
  keeps := fun x ho hd hs => x.keeps ho hd hs
  pyHash := fun hu hk h => hash_pk hu hk h
  eqBool := fun hu hx hy h => eq_pk hu hx hy h
  quiet := fun hk h => quiet_pk hk h
end Pk
namespace Pk
open PySem PySem.Spec PyProof.Rows L2
/-- the pair stands at c, all of it known -/
def KeyAt (K : PySem.W.Frag) (H : Hp) (k : PK) (c : Addr) : Prop := ∃ b, SqT K H c [.int k.1, .ref b] ∧ SqT K H b (k.2.map V.int)
theorem KeyAt.via {K : PySem.W.Frag} {H H' : Hp} {k : PK} {c : Addr} (e : ∀ {a : Addr} {xs : List V}, SqT K H a xs → SqT K H' a xs) (h : KeyAt K H k c) : KeyAt K H' k c := let ⟨b, h1, h2⟩ := h; ⟨b, e h1, e h2⟩
def Dphi (P : Program) (w : World) (d : Addr) (xs : List (PK × Addr × Value)) : Heap → Prop := fun h => ∃ o es ep, h.get? d = some o ∧ o.ExactDict ∧ o.data = .dict es ep ∧ es.toList = xs.map (entryOfKey (pkKind P w))
structure KDx (P : Program) (w : World) (K : PySem.W.Frag) (H : Hp) (d : Addr) (kvs : List (PK × V)) (xs : List (PK × Addr × Value)) : Prop where
  here : H d = some (.ext (Dphi P w d xs))
  nm : (d == sysModules) = false
  rel : Paired (fun p q => p.1 = q.1 ∧ KeyAt K H p.1 q.2.1 ∧ RelV p.2 q.2.2) kvs xs
  nd : (xs.map (·.1)).Nodup
  few : xs.length ≤ sizeLine
/-- at d a dict of such keys -/
def KD (P : Program) (w : World) (K : PySem.W.Frag) (H : Hp) (d : Addr) (kvs : List (PK × V)) : Prop := ∃ xs, KDx P w K H d kvs xs
theorem pair_via {α β : Type} {R S : α → β → Prop} (f : ∀ a b, R a b → S a b) : ∀ {xs : List α} {ys : List β}, Paired R xs ys → Paired S xs ys
  | _, _, .nil => .nil
  | _, _, .cons h t => .cons (f _ _ h) (pair_via f t)
theorem KD.mono {P : Program} {w : World} {K : PySem.W.Frag} {H H' : Hp} {d : Addr} {kvs : List (PK × V)} (e : Same H H') (h : KD P w K H d kvs) : KD P w K H' d kvs := by
  obtain ⟨xs, h⟩ := h
  exact ⟨xs, e _ _ h.here, h.nm, pair_via (fun _ _ q => ⟨q.1, q.2.1.via (Own.same_tup e), q.2.2⟩) h.rel, h.nd, h.few⟩
section
variable {X : Cx} {pins : List (Addr × Obj)} {σ : L2.St} {H : Hp} {s : Shared}
theorem ints_are {P : Program} {w : World} : ∀ {ks : List Int} {us : List Value}, Vals (ks.map V.int) us → ItemsAre (PySem.intKind P w) ks us
  | [], _, r => by cases r; exact .nil
  | k :: ks, _, r => by
    cases r with
    | cons h t =>
      obtain ⟨tk, rfl⟩ := (show ∃ t, _ = Value.int k t from h)
      exact .cons (by simp [PySem.intKind, Value.isInt]) (ints_are t)
theorem key_is (I : Inv X pins σ H s) {k : PK} {c : Addr} (h : KeyAt X.K H k c) : IsPK X.prog X.w s.heap k c := by
  obtain ⟨b, h1, h2⟩ := h
  obtain ⟨i1, r1, ⟨o1, e1, c1, n1, d1⟩, _⟩ := I.tuple h1
  obtain ⟨i2, r2, ⟨o2, e2, c2, n2, d2⟩, _⟩ := I.tuple h2
  cases r1 with
  | cons ra rb =>
    cases rb with
    | cons rb rc =>
      cases rc
      obtain ⟨tk, rfl⟩ := (show ∃ t, _ = Value.int k.1 t from ra)
      cases (show _ = Value.ref b from rb)
      exact ⟨o1, _, n1, tk, b, e1, c1, d1, rfl, o2, _, n2, e2, c2, d2, by simpa using ints_are r2⟩
theorem dict_is (I : Inv X pins σ H s) {d : Addr} {kvs : List (PK × V)} {xs : List (PK × Addr × Value)} (h : KDx X.prog X.w X.K H d kvs xs) : s.heap.DictOfH (pkKind X.prog X.w) d xs := by
  obtain ⟨⟨o, es, ep, e1, e2, e3, e4⟩, _, _⟩ := (show ObjOk X.prog X.w H s.heap d (.ext (Dphi X.prog X.w d xs)) from I.hok d _ h.here)
  refine ⟨o, es, ep, e1, e2, e3, e4, ?_, h.nd⟩
  have all : ∀ {l : List (PK × V)} {m : List (PK × Addr × Value)}, Paired (fun p q => p.1 = q.1 ∧ KeyAt X.K H p.1 q.2.1 ∧ RelV p.2 q.2.2) l m → ∀ x ∈ m, (pkKind X.prog X.w).is s.heap x.1 x.2.1 := by
    intro l m q
    induction q with
    | nil => intro x hx; cases hx
    | cons hq _ ih =>
      intro x hx
      rcases List.mem_cons.mp hx with rfl | hx
      · rw [← hq.1]
        exact key_is I hq.2.1
      · exact ih x hx
  exact all h.rel
theorem val_rel {R : PK × V → PK × Addr × Value → Prop} (hR : ∀ p q, R p q → p.1 = q.1 ∧ RelV p.2 q.2.2) {kvs : List (PK × V)} {xs : List (PK × Addr × Value)} (r : Paired R kvs xs) (k : PK) : RelO (valV kvs k) ((atKey xs k).map (·.2)) := by
  induction r with
  | nil => exact True.intro
  | @cons p q ps qs h _ ih =>
    obtain ⟨h1, h2⟩ := hR p q h
    by_cases e : p.1 = k
    · have b : atKey (q :: qs) k = some q.2 := by simp [atKey, List.find?_cons, h1.symm.trans e]
      rw [valV_pos e, b]
      exact h2
    · have e' : ¬ q.1 = k := fun z => e (h1.trans z)
      have b : atKey (q :: qs) k = atKey qs k := by simp [atKey, List.find?_cons, e']
      rw [valV_neg e, b]
      exact ih
theorem KDx.val {d : Addr} {kvs : List (PK × V)} {xs : List (PK × Addr × Value)} (h : KDx X.prog X.w X.K H d kvs xs) (k : PK) : RelO (valV kvs k) ((atKey xs k).map (·.2)) := val_rel (fun _ _ q => ⟨q.1, q.2.2⟩) h.rel k
theorem KDx.some_eq {d : Addr} {kvs : List (PK × V)} {xs : List (PK × Addr × Value)} (h : KDx X.prog X.w X.K H d kvs xs) (k : PK) : (atKey xs k).isSome = (valV kvs k).isSome := by
  have q := (h.val k).isSome_eq
  rw [Option.isSome_map] at q
  exact q.symm
theorem put_rel {R : PK × V → PK × Addr × Value → Prop} {k : PK} {v : V} {u : Value} (h1 : ∀ p q, R p q → p.1 = k → R (p.1, v) (q.1, q.2.1, u)) (h2 : ∀ p q, R p q → p.1 = q.1) : ∀ {kvs : List (PK × V)} {xs : List (PK × Addr × Value)}, Paired R kvs xs →
    Paired R (kvs.map fun kv => if kv.1 = k then (kv.1, v) else kv) (xs.map (putAt k u))
  | _, _, .nil => .nil
  | _, _, @Paired.cons _ _ _ p q ps qs h t => by
    rw [List.map_cons, List.map_cons]
    refine .cons ?_ (put_rel h1 h2 t)
    unfold putAt
    by_cases e : p.1 = k
    · rw [if_pos e, if_pos ((h2 p q h).symm.trans e)]
      exact h1 p q h e
    · rw [if_neg e, if_neg (fun z => e ((h2 p q h).trans z))]
      exact h
def rNotInP (P : Program) (w : World) (K : PySem.W.Frag) : R2 := fun x y H Q => ∃ d c k kvs, x = .ref c ∧ y = .ref d ∧ KeyAt K H k c ∧ KD P w K H d kvs ∧ Q (.bl (!(valV kvs k).isSome)) H
theorem op_notInP (hu : X.A.units + 2 < cLine) : OpR X (compareOp .NotIn) (rNotInP X.prog X.w X.K) := by
  intro pins s σ H x y v u Q I rx ry h
  obtain ⟨d, c, k, kvs, rfl, rfl, hk, ⟨xs, hd⟩, q⟩ := h
  cases rx
  cases ry
  refine wpAny_notIn_heap (knd := pkKind X.prog X.w) (by show X.A.units + 1 + 1 < cLine; omega) (key_is I hk) hd.nm (dict_is I hd) ?_
  rw [hd.some_eq k]
  exact ⟨.bl (!(valV kvs k).isSome), H, I.tok _, rfl, q⟩
def rIxP (P : Program) (w : World) (K : PySem.W.Frag) : R2 := fun x y H Q => ∃ d c k kvs v, x = .ref d ∧ y = .ref c ∧ KeyAt K H k c ∧ KD P w K H d kvs ∧ valV kvs k = some v ∧ Q v H
theorem ix_dictP (hu : X.A.units + 2 < cLine) : IxR X (rIxP X.prog X.w X.K) := by
  intro value slice pins s σ H x y v u Q I rx ry h hs
  obtain ⟨d, c, k, kvs, z, rfl, rfl, hk, ⟨xs, hd⟩, hv, q⟩ := h
  cases rx
  cases ry
  have hD := dict_is I hd
  have hr := hd.val k
  rw [hv] at hr
  obtain ⟨w', hw, rw'⟩ := RelO.some_of hr
  obtain ⟨p, hp, hp2⟩ := Option.map_eq_some_iff.mp hw
  refine subscriptTail_builtinR (x := p.2) hD.typeIs PySem.F.slot_dict_getitem.lookup (wpAny_getItem_heap (knd := pkKind X.prog X.w) (Q := fun r s' => r = p.2 ∧ EP X pins σ Q r s') (by show X.A.units + 1 + 1 < cLine; omega) (key_is I hk) hD hp ⟨rfl, ?_⟩) hs
  rw [hp2]
  exact ⟨z, H, I.tok _, rw', q⟩
/-- all else stands -/
def SameBut (d : Addr) (H H' : Hp) : Prop := ∀ b o, b ≠ d → H b = some o → H' b = some o
def rSetP (P : Program) (w : World) (K : PySem.W.Frag) : V → V → V → Hp → (Hp → Prop) → Prop := fun o i v H Q => ∃ d c k kvs, o = .ref d ∧ i = .ref c ∧ KeyAt K H k c ∧ KD P w K H d kvs ∧ kvs.length < sizeLine ∧ ∀ H', SameBut d H H' → KD P w K H' d (putK kvs k v) → Q H'
theorem set_dictP (hu : X.A.units + 2 < cLine) : PSet X (rSetP X.prog X.w X.K) := by
  intro pins s σ H o i v ov iv u Q I ro ri rv h
  obtain ⟨d, c, k, kvs, rfl, rfl, hk, ⟨xs, hd⟩, hl, q⟩ := h
  cases ro
  cases ri
  have ll := Paired.length hd.rel
  have ntup : ∀ {a : Addr} {ys : List V}, SqT X.K H a ys → ∀ ob, SqT X.K (upd H d ob) a ys := fun {a ys} hS ob => by
    rcases hS with (h1 | ⟨o1, h1⟩) | h1
    · exact .inl (.inl (by rw [upd_ne (ne_of h1 hd.here (fun z => nomatch z))]; exact h1))
    · exact .inl (.inr ⟨o1, by rw [upd_ne (ne_of h1 hd.here (fun z => nomatch z))]; exact h1⟩)
    · exact .inr h1
  have stored : ∀ ob : HO, Paired (fun p q => p.1 = q.1 ∧ KeyAt X.K (upd H d ob) p.1 q.2.1 ∧ RelV p.2 q.2.2) (putK kvs k v) (storedH xs k c u) := fun ob => by
    have old : Paired (fun (p : PK × V) (q : PK × Addr × Value) => p.1 = q.1 ∧ KeyAt X.K (upd H d ob) p.1 q.2.1 ∧ RelV p.2 q.2.2) kvs xs := pair_via (fun _ _ q => ⟨q.1, q.2.1.via (fun hS => ntup hS ob), q.2.2⟩) hd.rel
    unfold putK storedH
    rw [valV_any, ← hd.some_eq k]
    by_cases e : (atKey xs k).isSome = true
    · rw [if_pos e, if_pos e]
      exact put_rel (fun p q h z => ⟨h.1, h.2.1, rv⟩) (fun _ _ h => h.1) old
    · rw [if_neg e, if_neg e]
      exact paired_add old ⟨rfl, hk.via (fun hS => ntup hS ob), rv⟩
  have hlen : (storedH xs k c u).length ≤ sizeLine := by
    have h1 := Paired.length (stored (.lst []))
    have h2 := length_putK kvs k v
    omega
  refine wpAny_setItem_heap (knd := pkKind X.prog X.w) (hsz := hd.few) (by show X.A.units + 1 + 1 < cLine; omega) (key_is I hk) (dict_is I hd) fun h' hD hs => ?_
  obtain ⟨o2, es, ep, e1, e2, e3, e4, _, e6⟩ := hD
  refine ⟨upd H d (.ext (Dphi X.prog X.w d (storedH xs k c u))), I.write (x := d) (e := d) (by rw [hd.here]; exact True.intro) (.inl rfl) (fun b ob nb e => (hs.2 b nb).trans e) ⟨o2, e1⟩ ?_, q _ (fun b ob nb e => by rw [upd_ne nb]; exact e) ⟨_, upd_same, hd.nm, stored _, e6, hlen⟩⟩
  exact ⟨⟨o2, es, ep, e1, e2, e3, e4⟩, ⟨o2, e1⟩, fun h1 h2 ⟨ob, es', ep', z1, z2, z3, z4⟩ k' => ⟨ob, es', ep', k' _ z1, z2, z3, z4⟩⟩
def tNewP (P : Program) (w : World) (K : PySem.W.Frag) : TE := fun _ H Q => ∀ p H', H p = none → Same H H' → KD P w K H' p [] → Q (.ref p) H'
theorem pe_dnewP {pos : Pos} : PE X (.Dict [] [] pos) (tNewP X.prog X.w X.K) := ⟨fun pins s σ H Q I h => by
  have nm : (s.heap.objs.size == sysModules) = false := beq_eq_false_iff_ne.mpr (Ne.symm (Nat.ne_of_lt I.big))
  have np := I.hok.fresh (Nat.le_refl s.heap.objs.size)
  refine wpAny_Dict_empty ⟨.ref s.heap.objs.size, _, I.laid (a := s.heap.objs.size) (o := .ext (Dphi X.prog X.w s.heap.objs.size [])) (t' := s.toks) (fun _ _ q => Heap.get?_push_of_some _ q) (Nat.le_refl _) ?_, rfl, h _ _ np (same_new np) ⟨[], upd_same, nm, .nil, List.nodup_nil, Nat.zero_le _⟩⟩
  refine ⟨⟨_, #[], 0, Heap.get?_push_size _ rfl, ⟨rfl, rfl, rfl⟩, rfl, rfl⟩, ⟨_, Heap.get?_push_size _ rfl⟩, fun h1 h2 ⟨ob, es', ep', z1, z2, z3, z4⟩ k' => ⟨ob, es', ep', k' _ z1, z2, z3, z4⟩⟩⟩
end
end Pk
/-! ### enumerate of a tuple; any of a tuple of ints -/
namespace Own
open PySem PySem.Spec PyProof.Rows L2
/-- the tuple's iterator, and the enumerate over it -/
abbrev itT (h : Heap) (l : Addr) : Heap := h.push { cls := .type "tuple_iterator", data := .fields #[.ref l, .int 0 0] }
abbrev enT (h : Heap) (l : Addr) : Heap := (itT h l).push { cls := .type "enumerate", data := .fields #[.none, .bool false, .ref h.objs.size, rawInt 0, .none, .none] }
theorem newT_does (l : Addr) (xs : Array Value) : Meets (Builtin.«enumerate.__new__» ⟨[.type "enumerate", .ref l], []⟩) (fun _ R s => s.heap.IsTuple l xs ∧ R (.ok (.ret (.ref (itT s.heap l).objs.size))) { s with heap := enT s.heap l }) := .of_wp fun prog w A R ⟨hp, g, d, tk, os⟩ ⟨p, q⟩ => by
  have sub := sub_enumerate
  have p0 : Heap.IsTuple (Shared.heap ⟨hp, g, d, tk, os⟩) l xs := p
  obtain ⟨⟨c, dd, dt, sl⟩, e, ec, n, ed⟩ := id p
  simp only at ec ed
  subst ec ed
  wp_walk using AutoSeq1.wpAny_loadPart' e
  refine wpAny_stack_any fun _ => wpAny_pure ?_
  split <;> (try rename_i c _ _ _ _ _; cases (c == Value.type "enumerate")) <;> wp_walk using AutoSeq1.wpAny_loadPart' e, wpAny_pyIter_tuple p0 <;> exact ⟨_, rfl, q⟩
theorem callT_does {prog : Program} {w : World} {A : Around} {E Q : Value → Shared → Prop} {s : Shared} {l : Addr} {xs : Array Value} (p : s.heap.IsTuple l xs)
    (q : IsEnum (enT s.heap l) (s.heap.objs.size + 1) s.heap.objs.size 0 .none → (enT s.heap l).IsTupleIter s.heap.objs.size l 0 → (∀ b o, s.heap.get? b = some o → (enT s.heap l).get? b = some o) → Q (.ref (s.heap.objs.size + 1)) { s with heap := enT s.heap l }) : wpAny (model prog w) A (call (.type "enumerate") [.ref l]) Q E s := by
  have z : (itT s.heap l).objs.size = s.heap.objs.size + 1 := Heap.size_push ..
  have e : IsEnum (enT s.heap l) (itT s.heap l).objs.size s.heap.objs.size 0 .none := Heap.get?_push_size _ rfl
  rw [z] at e
  refine callType_new F.called_enumerate (by decide) (F.typeCall_enumerate_1 _) (F.newCall_enumerate_1 _) (fun o => F.args_object_init_2 o _) F.entry_enumerate_new (newT_does l xs) ⟨p, ?_⟩
  show _ ∧ _
  rw [z]
  exact ⟨⟨_, e, rfl⟩, q e ⟨_, Heap.get?_push_of_some _ (Heap.get?_push_size _ rfl), rfl, rfl⟩ fun _ _ k => Heap.get?_push_of_some _ (Heap.get?_push_of_some _ k)⟩
/-- the tuple at a as it stands, each item in a new pair -/
def IteT (K : PySem.W.Frag) (a : Addr) : It :=
  ⟨fun i H => ∃ (xs : List V) (x : V), SqT K H a xs ∧ xs[i]? = some x, fun i H v H' => ∃ T x, v = .ref T ∧ H T = none ∧ H' = upd H T (.tup [.int (i : Nat), x]) ∧ ∀ xs, SqT K H a xs → xs[i]? = some x, fun i H => ∃ xs : List V, SqT K H a xs ∧ xs.length = i⟩
/-- where a walk over it stands -/
structure EnSt (a e it : Addr) (i : Nat) (h : Heap) : Prop where
  en : ∃ old, IsEnum h e it ((i : Nat) : Int) old
  at_ : h.IsTupleIter it a i
  n1 : e ≠ it
  n2 : a ≠ it
  n3 : e ≠ a
theorem turn_enumT {P : Program} {w : World} {K : PySem.W.Frag} {es : List Expr} {kk : Nat} {tp : Pos} (a e it : Addr) : Turn P w K (.Tuple es kk tp) (IteT K a) [e, it] e (EnSt a e it) where
  mem := List.mem_cons_self
  obj := fun i h t b hb => by
    obtain ⟨old, x⟩ := t.en
    obtain ⟨o, y, _, dd⟩ := t.at_
    rcases List.mem_cons.mp hb with rfl | hb
    · exact ⟨_, x, nofun⟩
    · rw [List.mem_singleton.mp hb]
      exact ⟨o, y, fun v z => by rw [dd] at z; cases z⟩
  keep := fun i h h' t k => ⟨let ⟨old, x⟩ := t.en; ⟨old, k e (by simp) _ x⟩, t.at_.at fun o x => k it (by simp) o x, t.n1, t.n2, t.n3⟩
  item := fun X hP hw hK hc i pins s σ H E I hf t ⟨xs, x, hq, hx⟩ => by
    subst hP hw hK
    obtain ⟨old, hen⟩ := t.en
    obtain ⟨its, rv, p, _⟩ := I.tuple hq
    obtain ⟨u, hu, ru⟩ := rv.get hx
    have le : e < s.heap.objs.size := Heap.lt_size hen
    have li : it < s.heap.objs.size := t.at_.elim fun _ k => Heap.lt_size k.1
    have lt : i < its.toArray.size := by simpa using (List.getElem?_eq_some_iff.mp hu).1
    refine wpAny_pyNext_enum_itemD (Draws.tuple (A := X.A.in1) (I.ok.hd hc) it a t.n2 its.toArray) hen ⟨t.at_, p⟩ lt t.n1 (by simp [t.n1, t.n3]) fun y g tk py out ⟨it', _⟩ pair _ keep => ?_
    have ey : y = u := Option.some.inj ((show its[i]? = some y by simpa using py).symm.trans hu)
    subst ey
    refine ⟨_, rfl, wpAny_letOwnedTupleGo_enum (s := { s with heap := g, toks := tk + 1 }) out fun g2 en2 sb => ?_⟩
    have same : ∀ b o, b ∉ [e, it] → s.heap.get? b = some o → g2.get? b = some o := fun b o nb k => (sb.2 b fun z => nb (by simp [z])).trans (keep b o (fun z => nb (by simp [z])) (fun z => nb (by simp [z])) k)
    have there : ObjOk X.prog X.w (upd H s.heap.objs.size (.tup [.int (i : Nat), x])) g2 s.heap.objs.size (.tup [.int (i : Nat), x]) := ⟨by show 2 ≤ sizeLine; decide, [.int i tk, y], .cons ⟨_, rfl⟩ (.cons ru .nil), ⟨_, (sb.2 _ (Nat.ne_of_gt le)).trans pair, rfl, _, rfl⟩⟩
    refine ⟨.ref s.heap.objs.size, _, I.turnedNew (ch := [e, it]) same hf (Nat.le_refl _) there, rfl, ⟨_, x, rfl, I.hok.fresh (Nat.le_refl _), rfl, fun ys hy => by rw [I.tuple_inj hy hq]; exact hx⟩, ⟨⟨y, ?_⟩, it'.at fun o k => (sb.2 it t.n1.symm).trans k, t.n1, t.n2, t.n3⟩, fun b hb => ?_⟩
    · rw [show ((i + 1 : Nat) : Int) = (i : Int) + 1 by omega]
      exact en2
    · rw [upd_ne (Nat.ne_of_lt (by rcases List.mem_cons.mp hb with rfl | hb; exact le; rw [List.mem_singleton.mp hb]; exact li))]
      exact (hf b hb).1
  done := fun X hP hw hK hc i pins s σ H E I hf t ⟨xs, hq, hx⟩ => by
    subst hP hw hK
    obtain ⟨old, hen⟩ := t.en
    obtain ⟨its, rv, p, _⟩ := I.tuple hq
    obtain ⟨f0, f1, _, f3, f4, f5⟩ := hf it (by simp)
    have hl : its.toArray.size = i := by rw [List.size_toArray, ← rv.length]; exact hx
    exact wpAny_pyNext_enum_endD (Draws.tuple (A := X.A.in1) (I.ok.hd hc) it a t.n2 its.toArray) hen (by rw [hl]; exact ⟨t.at_, p⟩) fun g eb => ⟨rfl, I.turned (t' := s.toks) (fun b o hb k => eb b o hb k) f0 f1 f3 f4 f5⟩
  self := fun A i s Q E t h => t.en.elim fun _ k => wpAny_pyIter_enum k h
def iEnumT (K : PySem.W.Frag) (ta : TA) : TI := fun σ H R => ta σ H fun vs H1 => ∃ a xs, vs = [.ref a] ∧ SqT K H1 a xs ∧ R (IteT K a) H1
theorem pi_enumT {X : Cx} {e : Expr} {ta : TA} {p pos tp : Pos} {es : List Expr} {kk : Nat} (hg : Gl X "enumerate") (hm : X.mg "enumerate" = none) (ha : PA X [e] ta) (hs : starEach [e] X.env = [(false, eval e X.env)] := by rfl) : PI X (.Tuple es kk tp) (.Call (.Name "enumerate" p) [e] [] pos) (iEnumT X.K ta) :=
  ⟨fun pins s σ H R I h => Call_ (ld_blt I hg hm boot_enumerate (PyProof.Rows.callWith_type1 (thn (ha.run pos pins s σ H _ I h) fun us s1 ⟨vs, H1, I1, r1, a, xs, ex, hq, q⟩ => by
    subst ex
    obtain ⟨u, rfl, ru⟩ := vals1 r1
    cases ru
    obtain ⟨its, rv, p', _⟩ := I1.tuple hq
    have la : a < s1.heap.objs.size := p'.elim fun _ k => Heap.lt_size k.1
    refine callT_does (show s1.heap.IsTuple a its.toArray from p') fun en at_ keep => wpAny_pyIter_enum en ?_
    refine ⟨_, [s1.heap.objs.size + 1, s1.heap.objs.size], _, _, H1, rfl, I1.kept (t' := s1.toks) keep, turn_enumT a (s1.heap.objs.size + 1) s1.heap.objs.size, ⟨⟨.none, en⟩, at_, Nat.succ_ne_self _, Nat.ne_of_lt la, Nat.ne_of_gt (Nat.lt_succ_of_lt la)⟩, fun b hb => ?_, q⟩
    have le : s1.heap.objs.size ≤ b := by
      rcases List.mem_cons.mp hb with rfl | hb
      · exact Nat.le_succ _
      · rw [List.mem_singleton.mp hb]
        exact Nat.le_refl _
    exact I1.fpOk le (I1.hok.fresh le)) hs rfl))⟩
theorem walk_enumT {K : PySem.W.Frag} {a : Addr} {xs : List V} : Walk (IteT K a) xs.length (fun H => SqT K H a xs) (YPair (fun i => some (.int (i : Nat))) (fun i => xs[i]?)) := by
  refine ⟨fun i _ hi q => ⟨xs, xs[i], q, by simp [hi]⟩, fun _ q => ⟨xs, q, rfl⟩, fun i H v H' _ q y => ?_⟩
  obtain ⟨T, x, h1, h2, h3, h4⟩ := y
  exact ⟨T, _, x, h1, h2, h3, rfl, h4 xs q⟩
theorem truth_ints {prog : Program} {w : World} {A : Around} {ns : List Int} {its : List Value} (r : Vals (ns.map V.int) its) :
    TruthOf prog w A (fun i v => its.toArray[i]? = some v) (fun i => ns.getD i 0 != 0) := fun i v s Q E hv hq => by
  have hv' : its[i]? = some v := by simpa using hv
  have hi : i < ns.length := by
    have := (List.getElem?_eq_some_iff.mp hv').1
    have := r.length
    rw [List.length_map] at this
    omega
  obtain ⟨u, hu, t, hu2⟩ := r.get (i := i) (x := .int ns[i]) (by rw [List.getElem?_map, List.getElem?_eq_getElem hi]; rfl)
  rw [hv'] at hu
  cases hu
  have hg : ns.getD i 0 = ns[i] := by rw [List.getD_eq_getElem?_getD, List.getElem?_eq_getElem hi]; rfl
  have hq' : Q (ns.getD i 0 != 0) s := hq
  rw [hg] at hq'
  rw [hu2]
  exact PyProof.Rows.truthy_int hq'
theorem any_rangeI : ∀ ns : List Int, (List.range ns.length).any (fun i => ns.getD i 0 != 0) = ns.any (· != 0)
  | [] => rfl
  | b :: bs => by
    rw [List.length_cons, List.range_succ_eq_map, List.any_cons, List.any_map, List.any_cons, ← any_rangeI bs]
    all_goals rfl
def rAnyI (K : PySem.W.Frag) : List V → Hp → VK → Prop := fun vs H Q => ∃ (a : Addr) (ns : List Int), vs = [V.ref a] ∧ SqT K H a (ns.map V.int) ∧ Q (.bl (ns.any (· != 0))) H
theorem cr_anyI {X : Cx} (hc : X.calm = true) : CallR X (.builtin "any") (rAnyI X.K) := fun pins s σ H vs us Q I r ⟨a, ns, ev, hs, q⟩ => by
  subst ev
  obtain ⟨its, rv, hl, _⟩ := I.tuple hs
  have hlen := rv.length
  rw [Vals.ref1 r]
  have la : a < s.heap.objs.size := hl.elim fun _ k => Heap.lt_size k.1
  refine call_any_walk (wpAny_pyIter_tuple (show s.heap.IsTuple a its.toArray from hl) ⟨_, _, _, _, _, _, _, rfl, Walks.tuple (A := X.A.in1) (I.ok.hd hc) s.heap.objs.size a (Nat.ne_of_lt la) its.toArray, ⟨⟨_, Heap.get?_push_size _ rfl, rfl, rfl⟩, Heap.IsTuple.push hl _⟩, truth_ints rv, fun g tk k => ?_⟩)
  refine ⟨.bl _, H, I.kept fun b o eo => k b o (fun hm => ?_) (Heap.get?_push_of_some _ eo), ?_, q⟩
  · exact absurd (Heap.lt_size eo) (by rw [List.mem_singleton.mp hm]; exact Nat.lt_irrefl _)
  · show Value.bool _ = Value.bool _
    rw [← any_rangeI, List.size_toArray, ← hlen, List.length_map]
end Own
/-! ### several except clauses, some with a name: what has landed at the try, and what each clause does with it -/
namespace Own
open PySem PySem.Spec PyProof.Rows L2
abbrev Cl : Type := Value × Option Nat × (Addr → Value → Option Addr → TS)
/-- the wishes behind a clause's suite: a name's slot is empty again -/
def aft (D : Ends) : Option Nat → Ends
  | none => D
  | some i => ⟨fun σ => D.nx (σ.set i none), D.rt, fun σ => D.bk (σ.set i none), fun σ => D.ct (σ.set i none)⟩
def bef (σ : L2.St) (a : Addr) : Option Nat → L2.St
  | none => σ
  | some i => σ.set i (some (.ref a))
def wMix (K : PySem.W.Frag) (Wout : WX) (D : Ends) : List Cl → WX
  | [] => Wout
  | k :: r => fun cls d σ H => ∃ b, PySem.W.exmOne K cls k.1 = some b ∧ (b = true → ∀ a, H a = none → k.2.2 a cls d (aft D k.2.1) (bef σ a k.2.1) H) ∧ (b = false → wMix K Wout D r cls d σ H)
/-- an exception of this class stands at a, caught by the try -/
structure Ld (X : Cx) (pins : List (Addr × Obj)) (σ : L2.St) (H : Hp) (cls : Value) (d : Option Addr) (a : Addr) (s : Shared) : Prop where
  ex : ∃ (B : Heap) (q : Shared), L2.Inv X pins σ H q ∧ (∀ b o, q.heap.get? b = some o → b ∉ frs X.stack → B.get? b = some o) ∧ HandSPX.FlyingZ B (X.env :: X.outer) a (Zc cls d) s.heap ∧ q.heap.UpToSlots s.heap ∧ s.os = q.os ∧ AllBare s.gens
  na : H a = none
section
variable {X : Cx} {pins : List (Addr × Obj)} {σ : L2.St} {H : Hp} {cls : Value} {d : Option Addr} {a : Addr} {s : Shared}
theorem Ld.inv (l : Ld X pins σ H cls d a s) : L2.Inv X pins σ H s := by
  obtain ⟨B, q, J, nb, f, u, o, g⟩ := l.ex
  exact J.landed nb f.1 u o g
theorem Ld.obj (hf : X.env.frame = some X.env.locals) (l : Ld X pins σ H cls d a s) : ∃ oe vs, s.heap.get? a = some oe ∧ Zc cls d oe ∧ oe.data = .fields vs ∧ L2.Inv (X.suite a ((a, oe) :: (X.pn ++ pins))) [] σ H s := by
  obtain ⟨B, q, J, nb, f, u, o, g⟩ := l.ex
  obtain ⟨oe, vs, e, z, dd⟩ := f.there
  have out : ∀ env ∈ X.env :: X.outer, env.frame ≠ some a := fun env hm hq => by
    obtain ⟨_, o', e', hn⟩ := f.2.2.1.mem (List.mem_filterMap.mpr ⟨env, hm, hq⟩)
    cases e.symm.trans e'
    exact hn _ dd
  exact ⟨oe, vs, e, z, dd, l.inv.suite e dd l.na (fun hq => out _ List.mem_cons_self (by rw [hf, hq])) fun hm => let ⟨env, h1, h2⟩ := List.mem_filterMap.mp hm; out env (List.mem_cons_of_mem _ h1) h2⟩
theorem Ld.again {Q : Unit → Shared → Prop} {E : Value → Shared → Prop} {A : Around} {M : Model} (l : Ld X pins σ H cls d a s) (h : ∀ g, Ld X pins σ H cls d a { s with heap := g } → Q () { s with heap := g }) : wpAny M A (setFlight (.ref a) none) Q E s := by
  obtain ⟨B, q, J, nb, f, u, o, g⟩ := l.ex
  exact HandSPX.lands_againZ f fun h' f' u' => h h' ⟨⟨B, q, J, nb, f', u.trans u', o, g⟩, l.na⟩
/-- what an except clause does: its test, then its suite or the clauses behind it -/
def Does (X : Cx) (h : ExceptHandler) (k : Cl) : Prop := ∀ (_ : X.env.frame = some X.env.locals) (D : Ends) (rest : List ExceptHandler) (pins : List (Addr × Obj)) (σ : L2.St) (H : Hp) (cls : Value) (d : Option Addr) (a : Addr) (s : Shared) (b : Bool), Ld X pins σ H cls d a s →
  PySem.W.exmOne X.K cls k.1 = some b → (b = true → k.2.2 a cls d (aft D k.2.1) (bef σ a k.2.1) H) → (b = false → wpAny (model X.prog X.w) X.A (handleBy (.ref a) X.env rest) (SP X pins D) X.xe s) → wpAny (model X.prog X.w) X.A (handleBy (.ref a) X.env (h :: rest)) (SP X pins D) X.xe s
/-- a suite, walked while the exception is handled -/
def Suites (X : Cx) (st : List Stmt) (ts : Addr → Value → Option Addr → TS) : Prop := ∀ (a : Addr) (oe : Obj) (cls : Value) (d : Option Addr) (pn : List (Addr × Obj)), Zc cls d oe → (∃ vs, oe.data = .fields vs) → PSs (X.suite a ((a, oe) :: pn)) st (ts a cls d)
theorem Ld.look {x : Str} {c : Value} {np : Pos} {b : Bool} {Q : Value → Shared → Prop} {R : Bool → Shared → Prop} {E1 E2 : Value → Shared → Prop} (hf : X.env.frame = some X.env.locals) (l : Ld X pins σ H cls d a s) (n : Names X x c) (hb : PySem.W.exmOne X.K cls c = some b)
    (hQ : ∀ s1, Q c s1 = wpAny (model X.prog X.w) (X.A.mark (some (.ref a))) (excMatches (.ref a) c) R E2 s1) (h : R b s) : wpAny (model X.prog X.w) (X.A.mark (some (.ref a))) (eval (.Name x np) X.env) Q E1 s := by
  obtain ⟨oe, vs, e, z, dd, S⟩ := l.obj hf
  have q : Q c s := by
    rw [hQ]
    exact (PySem.W.exm_one (M := model X.prog X.w) l.inv.kIn (fun A Q E s k q => wpAny_typeOf_ref (k _ _ e) (by rw [z.1]; exact q)) hb).here h
  obtain ⟨hg, nd, hm | ⟨hm, hv, nn⟩⟩ := n
  · exact ld_glob (X := X.suite a ((a, oe) :: (X.pn ++ pins))) S hg hm q nd
  · exact ld_blt (X := X.suite a ((a, oe) :: (X.pn ++ pins))) S hg hm hv q nn nd
theorem sp_up {pn pn' : List (Addr × Obj)} {q : Addr × Obj} {D : Ends} {f : Flow} (ok : X.Ok) (hq : pn' = q :: (X.pn ++ pins)) (h : SP (X.suite a pn') pn D f s) : SP X pins D f s := by
  subst hq
  match f, h with
  | .next, ⟨_, _, S, k⟩ => exact ⟨_, _, S.unsuite ok, k⟩
  | .brk, ⟨_, _, S, k⟩ => exact ⟨_, _, S.unsuite ok, k⟩
  | .cont, ⟨_, _, S, k⟩ => exact ⟨_, _, S.unsuite ok, k⟩
  | .ret _, ⟨_, _, _, S, r, k⟩ => exact ⟨_, _, _, S.unsuite ok, r, k⟩
theorem does_plain {x : Str} {c : Value} {ts : Addr → Value → Option Addr → TS} {b₀ : Stmt} {suite : List Stmt} {np p : Pos} (n : Names X x c) (hs : Suites X (b₀ :: suite) ts) : Does X (.ExceptHandler (some (.Name x np)) none (b₀ :: suite) p) (c, none, ts) := by
  intro hf D rest pins σ H cls d a s b l hb hy hn
  refine wpAny_handleBy_cons (codeAny_handlers_test (l.look hf n hb (fun _ => rfl) ?_)) (fun q => nomatch q)
  match b, hb, hy, hn with
  | false, _, _, hn => exact hn rfl
  | true, _, hy, _ =>
    refine codeAny_handlers_suite (l.again fun g l2 => ?_)
    obtain ⟨oe, vs, _, z, dd, S⟩ := l2.obj hf
    exact wpAny_mono ((hs a oe cls d (X.pn ++ pins) z ⟨vs, dd⟩).run [] _ _ H _ S (hy rfl)) (fun _ _ r => sp_up l.inv.ok rfl r) fun _ _ z => z.elim
theorem does_as {x n : Str} {i : Nat} {c : Value} {ts : Addr → Value → Option Addr → TS} {b₀ : Stmt} {suite : List Stmt} {np p : Pos} (nd : X.N.Nodup) (hi : X.N[i]? = some n) (hk : X.env.kindOf n = some .local) (nm : Names X x c) (hs : Suites X (b₀ :: suite) ts) : Does X (.ExceptHandler (some (.Name x np)) (some n) (b₀ :: suite) p) (c, some i, ts) := by
  intro hf D rest pins σ H cls d a s b l hb hy hn
  refine wpAny_handleBy_cons (codeAny_handlers_test (l.look hf nm hb (fun _ => rfl) ?_)) (fun q => nomatch q)
  match b, hb, hy, hn with
  | false, _, _, hn => exact hn rfl
  | true, _, hy, _ =>
    refine codeAny_handlers_suite_as (l.again fun g l2 => ?_)
    obtain ⟨oe, vs, _, z, dd, S⟩ := l2.obj hf
    have ok := l.inv.ok
    refine store_ok (X := X.suite a ((a, oe) :: (X.pn ++ pins))) (v := .ref a) S nd hi (.inl hk) rfl (fun s5 S5 => ?_) (.inr hk)
    refine wpAny_mono ((hs a oe cls d (X.pn ++ pins) z ⟨vs, dd⟩).run [] s5 _ H _ S5 (hy rfl)) (fun f s6 r => ?_) fun _ _ z => z.elim
    match f, r with
    | .next, ⟨_, _, T, k⟩ => exact gone_ok (T.unsuite ok) nd hi hk fun _ J => ⟨_, _, J, k⟩
    | .brk, ⟨_, _, T, k⟩ => exact gone_ok (T.unsuite ok) nd hi hk fun _ J => ⟨_, _, J, k⟩
    | .cont, ⟨_, _, T, k⟩ => exact gone_ok (T.unsuite ok) nd hi hk fun _ J => ⟨_, _, J, k⟩
    | .ret _, ⟨_, _, _, T, rv, k⟩ => exact gone_ok (T.unsuite ok) nd hi hk fun _ J => ⟨_, _, _, J, rv, k⟩
/-- clause by clause -/
theorem all_do {Wout : WX} (hs : X.stack = X.env :: X.outer) (hf : X.env.frame = some X.env.locals) (tk : Takes X Wout) (D : Ends) : ∀ {hds : List ExceptHandler} {ks : List Cl}, Paired (Does X) hds ks → Ld X pins σ H cls d a s → wMix X.K Wout D ks cls d σ H → wpAny (model X.prog X.w) X.A (handleBy (.ref a) X.env hds) (SP X pins D) X.xe s
  | _, _, .cons h r, l, ⟨b, e, y, n⟩ => h hf D _ pins σ H cls d a s b l e (fun t => y t a l.na) fun t => all_do hs hf tk D r l (n t)
  | _, _, .nil, l, w => by
    obtain ⟨B, q, J, nb, f, u, o, g⟩ := l.ex
    obtain ⟨_, _, _, oe, vs, T, oT, ts, he, _, hd, h1, _⟩ := id f
    refine wpAny_handleBy_nil ?_
    have fin : wpAny (model X.prog X.w) X.A (setFlight (.ref a) X.env.frame) (fun _ s4 => wpAny (model X.prog X.w) X.A (throw (.ref a) : Sem Flow) (SP X pins D) X.xe s4) X.xe s := by
      rw [hf]
      exact HandSPX.setFlight_upZ f fun h4 held up => wpAny_throw (tk _ _ ⟨a, B, q, pins, σ, H, cls, d, rfl, J, nb, u.trans up, .inr (.inr (by rw [hs]; exact held)), l.na, o, g, w⟩)
    unfold PySem.passOn
    refine wpAny_bind (wpAny_field he hd h1 ?_)
    rw [if_neg (fun z : (Value.ref T == Value.none) = true => by simp at z)]
    first | exact wpAny_bind (wpAny_pure (wpAny_bind fin)) | exact wpAny_bind fin
end
section
variable {X : Cx} {body : List Stmt} {h₀ : ExceptHandler} {hds : List ExceptHandler} {ks : List Cl} {pos : Pos} {tb : WX → TS} {Wout : WX}
theorem ps_try_mix (hs : X.stack = X.env :: X.outer) (hf : X.env.frame = some X.env.locals) (tk : Takes X Wout) (hh : Paired (Does X) (h₀ :: hds) ks)
    (hb : ∀ (W : WX) (pn : List (Addr × Obj)) (xe : Value → Shared → Prop), Takes (X.tr pn xe) W → PassesOwn (model X.prog X.w) X.A X.env xe → PSs (X.tr pn xe) body (tb W)) : PS X (.Try body (h₀ :: hds) [] [] pos) (fun D => tb (wMix X.K Wout D ks) D) := by
  refine ⟨fun pins s σ H D I q => wpAny_Try_except ?_⟩
  have fr : X.A.frames = some (X.env :: X.outer) := by rw [I.ok.frames, hs]
  let go : Value → Shared → Prop := fun e => wpAny (model X.prog X.w) X.A (noteFrame e X.env) (fun _ => wpAny (model X.prog X.w) X.A (setFlight e none) (fun _ => wpAny (model X.prog X.w) X.A (handleBy e X.env (h₀ :: hds)) (SP X pins D) X.xe) X.xe) X.xe
  have tk2 : Takes (X.tr (X.pn ++ pins) go) (wMix X.K Wout D ks) := fun u s' ⟨a, B, sI, _, σ', H', cls, d, eu, J, nb, up, sky, na, os, ag, w⟩ => by
    subst eu
    have sk : Sky B (X.env :: X.outer) a (Zc cls d) X.env.locals s'.heap := by rw [← hs]; exact sky
    exact Sky.land Zc.steady fr hf sk fun g fl up2 => all_do (s := { s' with heap := g }) hs hf tk D hh ⟨⟨B, sI, J.ofTry I.ok, nb, fl, up.trans up2, os, ag⟩, na⟩ w
  have run := (hb (wMix X.K Wout D ks) (X.pn ++ pins) go tk2 PassesOwn.looking).run [] s σ H D (I.toTry _) q
  refine wpAny_mono run (fun f s1 r => ?_) fun _ _ z => z
  match f, r with
  | .next, ⟨_, _, J, k⟩ => exact wpAny_execs_nil ⟨_, _, J.ofTry I.ok, k⟩
  | .brk, ⟨_, _, J, k⟩ => exact ⟨_, _, J.ofTry I.ok, k⟩
  | .cont, ⟨_, _, J, k⟩ => exact ⟨_, _, J.ofTry I.ok, k⟩
  | .ret _, ⟨_, _, _, J, rv, k⟩ => exact ⟨_, _, _, J.ofTry I.ok, rv, k⟩
end
end Own
/-! ### == by an own __eq__, whatever it answers -/
namespace Own
open PySem PySem.Spec PyProof.Rows L2
/-- what may stand at the right: None, a tuple, an object of the class -/
inductive EqY (K : PySem.W.Frag) (H : Hp) (C : Addr) : V → Value → Prop
  | non : EqY K H C .non (.type "NoneType")
  | tup {a : Addr} {xs : List V} (e : SqT K H a xs) : EqY K H C (.ref a) (.type "tuple")
  | ins {a dx : Addr} {fs : List (Str × V)} (e : H a = some (.ins C dx fs)) : EqY K H C (.ref a) (.ref C)
theorem EqY.look {X : Cx} {pins : List (Addr × Obj)} {σ : L2.St} {H : Hp} {s : Shared} {C : Addr} {y : V} {t u : Value} (I : L2.Inv X pins σ H s) (r : L2.RelV y u) (h : EqY X.K H C y t) : PySem.W.Looks (model X.prog X.w) s.heap (typeOf u) t := by
  cases h with
  | non =>
    cases r
    exact fun A Q E s k q => wpAny_pure q
  | tup e =>
    cases r
    obtain ⟨its, _, ⟨o, ho, hc, _⟩, _⟩ := I.tuple e
    exact fun A Q E s k q => wpAny_typeOf_ref (k _ _ ho) (by rw [hc]; exact q)
  | ins e =>
    cases r
    obtain ⟨_, J, _⟩ := ins_get I.hok e
    obtain ⟨_, J, _⟩ := J.look
    exact J.type
def rEqO (K : PySem.W.Frag) (C : Addr) (sp : Sp) (E : XK) : R2 := fun x y H Q => ∃ a dx fs t, x = .ref a ∧ H a = some (.ins C dx fs) ∧ EqY K H C y t ∧ PySem.W.notFirst K C t = true ∧ sp [.ref a, y] H (fun v H' => (∃ b, v = .bl b) ∧ Q v H') E
theorem op_eqO {X : Cx} {n : Nat} {C f : Addr} {fd : FuncData} {p1 p2 : Str} {sp : Sp} (F : FnOk X.prog X.w X.K X.mg X.base CX0 n f fd [p1, p2] sp) (hr : Room n X.A) (hs : PySem.W.findIn X.K (.ref C) "__eq__" = some (some (.ref f))) (hf : PySem.W.isFn X.K (.ref f) = true) (hb : L2.Binds X.K fd [p1, p2] []) : OpR X (compareOp .Eq) (rEqO X.K C sp E0) := by
  intro pins s σ H x y v u Q I rx ry ⟨a, dx, fs, t, ex, ha, hy, nf, hsp⟩
  subst ex
  cases rx
  have lk := hy.look I ry
  obtain ⟨_, J, _⟩ := ins_get I.hok ha
  obtain ⟨_, J, _⟩ := J.look
  obtain ⟨m, fr⟩ := I.fr
  refine PySem.W.cmp_K (op := .Eq) (tb := t) hr.units0 fr I.ok.mod.kin J lk nf hs hf ?_
  have bd := hb s [.ref a, u] I.kIn rfl
  refine wpAny_call (codeAny_mono (F.run X.A X.stack s H ⟨[.ref a, u], []⟩ [.ref a, u] [.ref a, y] _ E0 hr I.env0 (by simpa using bd) (.cons rfl (.cons ry .nil)) hsp) fun r s' q => ?_)
  match r, q with
  | .error e, q => exact q.elim
  | .ok (.ret w), q =>
    obtain ⟨z, H', I', rz, ⟨b, eb⟩, k⟩ := I.after q
    subst eb
    cases rz
    exact ⟨.bl b, H', I', rfl, k⟩
end Own
end
def topS (i : Nat) : Stmt := PySem.Challenge.pw_polychains_k06_presentations.main.body.getD i (.Pass ⟨0, 0, 0, 0⟩)
abbrev s_is_integer : Stmt := topS 6
abbrev N_is_integer : List Str := ["value"]
theorem sc_is_integer : FnScope N_is_integer ["value"] (defScope s_is_integer) := ⟨rfl, rfl, rfl, by decide +kernel, rfl, by decide +kernel, by decide +kernel⟩
abbrev s_is_small_prime : Stmt := topS 7
abbrev N_is_small_prime : List Str := ["value"]
theorem sc_is_small_prime : FnScope N_is_small_prime ["value"] (defScope s_is_small_prime) := ⟨rfl, rfl, rfl, by decide +kernel, rfl, by decide +kernel, by decide +kernel⟩
abbrev s__is_row : Stmt := topS 11
abbrev N__is_row : List Str := ["value", "primes", "item", "p"]
theorem sc__is_row : FnScope N__is_row ["value", "primes"] (defScope s__is_row) := ⟨rfl, rfl, rfl, by decide +kernel, rfl, by decide +kernel, by decide +kernel⟩
abbrev s__is_right_side : Stmt := topS 12
abbrev N__is_right_side : List Str := ["value", "primes", "i"]
theorem sc__is_right_side : FnScope N__is_right_side ["value", "primes", "i"] (defScope s__is_right_side) := ⟨rfl, rfl, rfl, by decide +kernel, rfl, by decide +kernel, by decide +kernel⟩
abbrev s__are_right_sides : Stmt := topS 13
abbrev N__are_right_sides : List Str := ["value", "many", "primes", "i", "row"]
theorem sc__are_right_sides : FnScope N__are_right_sides ["value", "many", "primes", "i"] (defScope s__are_right_sides) := ⟨rfl, rfl, rfl, by decide +kernel, rfl, by decide +kernel, by decide +kernel⟩
abbrev s__are_primes : Stmt := topS 14
abbrev N__are_primes : List Str := ["value", "p"]
theorem sc__are_primes : FnScope N__are_primes ["value"] (defScope s__are_primes) := ⟨rfl, rfl, rfl, by decide +kernel, rfl, by decide +kernel, by decide +kernel⟩
abbrev s__are_powers : Stmt := topS 15
abbrev N__are_powers : List Str := ["value", "primes", "i", "row"]
theorem sc__are_powers : FnScope N__are_powers ["value", "primes"] (defScope s__are_powers) := ⟨rfl, rfl, rfl, by decide +kernel, rfl, by decide +kernel, by decide +kernel⟩
abbrev s__are_conjugates : Stmt := topS 16
abbrev N__are_conjugates : List Str := ["value", "primes", "n", "i", "rows"]
theorem sc__are_conjugates : FnScope N__are_conjugates ["value", "primes"] (defScope s__are_conjugates) := ⟨rfl, rfl, rfl, by decide +kernel, rfl, by decide +kernel, by decide +kernel⟩
abbrev s__order_of : Stmt := topS 17
abbrev N__order_of : List Str := ["primes", "order", "p"]
theorem sc__order_of : FnScope N__order_of ["primes"] (defScope s__order_of) := ⟨rfl, rfl, rfl, by decide +kernel, rfl, by decide +kernel, by decide +kernel⟩
abbrev s__row_text : Stmt := topS 18
abbrev N__row_text : List Str := ["row", "item"]
theorem sc__row_text : FnScope N__row_text ["row"] (defScope s__row_text) := ⟨rfl, rfl, rfl, by decide +kernel, rfl, by decide +kernel, by decide +kernel⟩
abbrev s__right_sides : Stmt := topS 20
abbrev N__right_sides : List Str := ["presentation", "found", "power", "rows"]
theorem sc__right_sides : FnScope N__right_sides ["presentation"] (defScope s__right_sides) := ⟨rfl, rfl, rfl, by decide +kernel, rfl, by decide +kernel, by decide +kernel⟩
abbrev s__law_state : Stmt := topS 22
abbrev N__law_state : List Str := ["script", "seed", "total", "cell"]
theorem sc__law_state : FnScope N__law_state ["script"] (defScope s__law_state) := ⟨rfl, rfl, rfl, by decide +kernel, rfl, by decide +kernel, by decide +kernel⟩
abbrev s__law_take : Stmt := topS 23
abbrev N__law_take : List Str := ["state", "m", "value"]
theorem sc__law_take : FnScope N__law_take ["state", "m"] (defScope s__law_take) := ⟨rfl, rfl, rfl, by decide +kernel, rfl, by decide +kernel, by decide +kernel⟩
abbrev s__law_made : Stmt := topS 24
abbrev N__law_made : List Str := ["primes", "powers", "conjugates", "n", "i", "k", "own", "e", "j", "rows", "pairs", "row", "part"]
theorem sc__law_made : FnScope N__law_made ["primes", "powers", "conjugates"] (defScope s__law_made) := ⟨rfl, rfl, rfl, by decide +kernel, rfl, by decide +kernel, by decide +kernel⟩
abbrev s__law_size : Stmt := topS 25
abbrev N__law_size : List Str := ["table", "total", "p"]
theorem sc__law_size : FnScope N__law_size ["table"] (defScope s__law_size) := ⟨rfl, rfl, rfl, by decide +kernel, rfl, by decide +kernel, by decide +kernel⟩
abbrev s__law_steep : Stmt := topS 26
abbrev N__law_steep : List Str := ["state", "pick", "a", "b"]
theorem sc__law_steep : FnScope N__law_steep ["state", "pick"] (defScope s__law_steep) := ⟨rfl, rfl, rfl, by decide +kernel, rfl, by decide +kernel, by decide +kernel⟩
abbrev s__law_flat : Stmt := topS 27
abbrev N__law_flat : List Str := ["state", "pick", "k", "q", "p", "m", "i"]
theorem sc__law_flat : FnScope N__law_flat ["state"] (defScope s__law_flat) := ⟨rfl, rfl, rfl, by decide +kernel, rfl, by decide +kernel, by decide +kernel⟩
abbrev s__law_beside : Stmt := topS 28
abbrev N__law_beside : List Str := ["one", "two", "n", "m", "first", "last", "powers", "parts", "i", "more", "k", "j", "row", "part"]
theorem sc__law_beside : FnScope N__law_beside ["one", "two"] (defScope s__law_beside) := ⟨rfl, rfl, rfl, by decide +kernel, rfl, by decide +kernel, by decide +kernel⟩
abbrev s__law_step : Stmt := topS 29
abbrev N__law_step : List Str := ["table", "known", "row", "j", "key", "n", "place", "k", "found", "turn"]
theorem sc__law_step : FnScope N__law_step ["table", "known", "row", "j"] (defScope s__law_step) := ⟨rfl, rfl, rfl, by decide +kernel, rfl, by decide +kernel, by decide +kernel⟩
abbrev s__law_times : Stmt := topS 30
abbrev N__law_times : List Str := ["table", "known", "x", "y", "k", "turn"]
theorem sc__law_times : FnScope N__law_times ["table", "known", "x", "y"] (defScope s__law_times) := ⟨rfl, rfl, rfl, by decide +kernel, rfl, by decide +kernel, by decide +kernel⟩
abbrev s__law_inverse : Stmt := topS 31
abbrev N__law_inverse : List Str := ["table", "known", "x", "found", "k", "e", "turn"]
theorem sc__law_inverse : FnScope N__law_inverse ["table", "known", "x"] (defScope s__law_inverse) := ⟨rfl, rfl, rfl, by decide +kernel, rfl, by decide +kernel, by decide +kernel⟩
abbrev s__law_conjugated : Stmt := topS 32
abbrev N__law_conjugated : List Str := ["table", "known", "x", "y"]
theorem sc__law_conjugated : FnScope N__law_conjugated ["table", "known", "x", "y"] (defScope s__law_conjugated) := ⟨rfl, rfl, rfl, by decide +kernel, rfl, by decide +kernel, by decide +kernel⟩
abbrev s__law_generator : Stmt := topS 33
abbrev N__law_generator : List Str := ["n", "k", "i"]
theorem sc__law_generator : FnScope N__law_generator ["n", "k"] (defScope s__law_generator) := ⟨rfl, rfl, rfl, by decide +kernel, rfl, by decide +kernel, by decide +kernel⟩
abbrev s__law_new_row : Stmt := topS 34
abbrev N__law_new_row : List Str := ["table", "known", "x", "i", "own", "n", "tail", "turn", "k"]
theorem sc__law_new_row : FnScope N__law_new_row ["table", "known", "x", "i", "own"] (defScope s__law_new_row) := ⟨rfl, rfl, rfl, by decide +kernel, rfl, by decide +kernel, by decide +kernel⟩
abbrev s__law_twisted : Stmt := topS 35
abbrev N__law_twisted : List Str := ["state", "table", "n", "known", "i", "k", "own", "names", "powers", "parts", "found", "turn", "rows", "j"]
theorem sc__law_twisted : FnScope N__law_twisted ["state", "table"] (defScope s__law_twisted) := ⟨rfl, rfl, rfl, by decide +kernel, rfl, by decide +kernel, by decide +kernel⟩
abbrev s__law_group : Stmt := topS 36
abbrev N__law_group : List Str := ["state", "most", "table", "q", "turn"]
theorem sc__law_group : FnScope N__law_group ["state", "most"] (defScope s__law_group) := ⟨rfl, rfl, rfl, by decide +kernel, rfl, by decide +kernel, by decide +kernel⟩
abbrev s__law_bent : Stmt := topS 37
abbrev N__law_bent : List Str := ["state", "table", "n", "powers", "parts", "turn", "i", "k", "e", "at", "row", "part"]
theorem sc__law_bent : FnScope N__law_bent ["state", "table"] (defScope s__law_bent) := ⟨rfl, rfl, rfl, by decide +kernel, rfl, by decide +kernel, by decide +kernel⟩
abbrev s__law_letters : Stmt := topS 38
abbrev N__law_letters : List Str := ["row", "found", "k", "turn"]
theorem sc__law_letters : FnScope N__law_letters ["row"] (defScope s__law_letters) := ⟨rfl, rfl, rfl, by decide +kernel, rfl, by decide +kernel, by decide +kernel⟩
abbrev s__law_reason : Stmt := topS 39
abbrev N__law_reason : List Str := ["primes", "powers", "parts", "e"]
theorem sc__law_reason : FnScope N__law_reason ["primes", "powers", "parts"] (defScope s__law_reason) := ⟨rfl, rfl, rfl, by decide +kernel, rfl, by decide +kernel, by decide +kernel⟩
abbrev s__law_forms : Stmt := topS 40
abbrev N__law_forms : List Str := ["table", "primes", "powers", "parts", "n", "value", "zero", "wrong", "row", "k"]
theorem sc__law_forms : FnScope N__law_forms ["table"] (defScope s__law_forms) := ⟨rfl, rfl, rfl, by decide +kernel, rfl, by decide +kernel, by decide +kernel⟩
abbrev s_law : Stmt := topS 41
abbrev N_law : List Str := ["script", "state", "table", "primes", "powers", "parts", "n", "own", "i", "row", "value", "item", "other", "sizes", "wide", "p", "k", "j"]
theorem sc_law : FnScope N_law ["script"] (defScope s_law) := ⟨rfl, rfl, rfl, by decide +kernel, rfl, by decide +kernel, by decide +kernel⟩
abbrev s_Presentation___init__ : Stmt := inClass (topS 19) 0
abbrev N_Presentation___init__ : List Str := ["self", "primes", "powers", "conjugates"]
theorem sc_Presentation___init__ : FnScope N_Presentation___init__ ["self", "primes", "powers", "conjugates"] (defScope s_Presentation___init__) := ⟨rfl, rfl, rfl, by decide +kernel, rfl, by decide +kernel, by decide +kernel⟩
abbrev s_Presentation___eq__ : Stmt := inClass (topS 19) 1
abbrev N_Presentation___eq__ : List Str := ["self", "other"]
theorem sc_Presentation___eq__ : FnScope N_Presentation___eq__ ["self", "other"] (defScope s_Presentation___eq__) := ⟨rfl, rfl, rfl, by decide +kernel, rfl, by decide +kernel, by decide +kernel⟩
abbrev s_Presentation___str__ : Stmt := inClass (topS 19) 2
abbrev N_Presentation___str__ : List Str := ["self", "row"]
theorem sc_Presentation___str__ : FnScope N_Presentation___str__ ["self"] (defScope s_Presentation___str__) := ⟨rfl, rfl, rfl, by decide +kernel, rfl, by decide +kernel, by decide +kernel⟩
abbrev s_Presentation_is_row : Stmt := inClass (topS 19) 3
abbrev N_Presentation_is_row : List Str := ["self", "value"]
theorem sc_Presentation_is_row : FnScope N_Presentation_is_row ["self", "value"] (defScope s_Presentation_is_row) := ⟨rfl, rfl, rfl, by decide +kernel, rfl, by decide +kernel, by decide +kernel⟩
abbrev s_Presentation_conjugate_row : Stmt := inClass (topS 19) 4
abbrev N_Presentation_conjugate_row : List Str := ["self", "i", "j"]
theorem sc_Presentation_conjugate_row : FnScope N_Presentation_conjugate_row ["self", "i", "j"] (defScope s_Presentation_conjugate_row) := ⟨rfl, rfl, rfl, by decide +kernel, rfl, by decide +kernel, by decide +kernel⟩
abbrev s_Presentation_letters : Stmt := inClass (topS 19) 5
abbrev N_Presentation_letters : List Str := ["self", "row", "at", "item", "_"]
theorem sc_Presentation_letters : FnScope N_Presentation_letters ["self", "row"] (defScope s_Presentation_letters) := ⟨rfl, rfl, rfl, by decide +kernel, rfl, by decide +kernel, by decide +kernel⟩
structure Txt (K : PySem.W.Frag) (mg : Str → Option Value) where
  a_is_integer : Addr
  d_is_integer : FuncData
  F_is_integer : Fun K "is_integer" "is_integer" s_is_integer a_is_integer d_is_integer
  g_is_integer : mg "is_integer" = some (.ref a_is_integer)
  b_is_integer : Binds K d_is_integer ["value"] []
  a_is_small_prime : Addr
  d_is_small_prime : FuncData
  F_is_small_prime : Fun K "is_small_prime" "is_small_prime" s_is_small_prime a_is_small_prime d_is_small_prime
  g_is_small_prime : mg "is_small_prime" = some (.ref a_is_small_prime)
  b_is_small_prime : Binds K d_is_small_prime ["value"] []
  a__is_row : Addr
  d__is_row : FuncData
  F__is_row : Fun K "_is_row" "_is_row" s__is_row a__is_row d__is_row
  g__is_row : mg "_is_row" = some (.ref a__is_row)
  b__is_row : Binds K d__is_row ["value", "primes"] []
  a__is_right_side : Addr
  d__is_right_side : FuncData
  F__is_right_side : Fun K "_is_right_side" "_is_right_side" s__is_right_side a__is_right_side d__is_right_side
  g__is_right_side : mg "_is_right_side" = some (.ref a__is_right_side)
  b__is_right_side : Binds K d__is_right_side ["value", "primes", "i"] []
  a__are_right_sides : Addr
  d__are_right_sides : FuncData
  F__are_right_sides : Fun K "_are_right_sides" "_are_right_sides" s__are_right_sides a__are_right_sides d__are_right_sides
  g__are_right_sides : mg "_are_right_sides" = some (.ref a__are_right_sides)
  b__are_right_sides : Binds K d__are_right_sides ["value", "many", "primes", "i"] []
  a__are_primes : Addr
  d__are_primes : FuncData
  F__are_primes : Fun K "_are_primes" "_are_primes" s__are_primes a__are_primes d__are_primes
  g__are_primes : mg "_are_primes" = some (.ref a__are_primes)
  b__are_primes : Binds K d__are_primes ["value"] []
  a__are_powers : Addr
  d__are_powers : FuncData
  F__are_powers : Fun K "_are_powers" "_are_powers" s__are_powers a__are_powers d__are_powers
  g__are_powers : mg "_are_powers" = some (.ref a__are_powers)
  b__are_powers : Binds K d__are_powers ["value", "primes"] []
  a__are_conjugates : Addr
  d__are_conjugates : FuncData
  F__are_conjugates : Fun K "_are_conjugates" "_are_conjugates" s__are_conjugates a__are_conjugates d__are_conjugates
  g__are_conjugates : mg "_are_conjugates" = some (.ref a__are_conjugates)
  b__are_conjugates : Binds K d__are_conjugates ["value", "primes"] []
  a__order_of : Addr
  d__order_of : FuncData
  F__order_of : Fun K "_order_of" "_order_of" s__order_of a__order_of d__order_of
  g__order_of : mg "_order_of" = some (.ref a__order_of)
  b__order_of : Binds K d__order_of ["primes"] []
  a__row_text : Addr
  d__row_text : FuncData
  F__row_text : Fun K "_row_text" "_row_text" s__row_text a__row_text d__row_text
  g__row_text : mg "_row_text" = some (.ref a__row_text)
  b__row_text : Binds K d__row_text ["row"] []
  a__right_sides : Addr
  d__right_sides : FuncData
  F__right_sides : Fun K "_right_sides" "_right_sides" s__right_sides a__right_sides d__right_sides
  g__right_sides : mg "_right_sides" = some (.ref a__right_sides)
  b__right_sides : Binds K d__right_sides ["presentation"] []
  a__law_state : Addr
  d__law_state : FuncData
  F__law_state : Fun K "_law_state" "_law_state" s__law_state a__law_state d__law_state
  g__law_state : mg "_law_state" = some (.ref a__law_state)
  b__law_state : Binds K d__law_state ["script"] []
  a__law_take : Addr
  d__law_take : FuncData
  F__law_take : Fun K "_law_take" "_law_take" s__law_take a__law_take d__law_take
  g__law_take : mg "_law_take" = some (.ref a__law_take)
  b__law_take : Binds K d__law_take ["state", "m"] []
  a__law_made : Addr
  d__law_made : FuncData
  F__law_made : Fun K "_law_made" "_law_made" s__law_made a__law_made d__law_made
  g__law_made : mg "_law_made" = some (.ref a__law_made)
  b__law_made : Binds K d__law_made ["primes", "powers", "conjugates"] []
  a__law_size : Addr
  d__law_size : FuncData
  F__law_size : Fun K "_law_size" "_law_size" s__law_size a__law_size d__law_size
  g__law_size : mg "_law_size" = some (.ref a__law_size)
  b__law_size : Binds K d__law_size ["table"] []
  a__law_steep : Addr
  d__law_steep : FuncData
  F__law_steep : Fun K "_law_steep" "_law_steep" s__law_steep a__law_steep d__law_steep
  g__law_steep : mg "_law_steep" = some (.ref a__law_steep)
  b__law_steep : Binds K d__law_steep ["state", "pick"] []
  a__law_flat : Addr
  d__law_flat : FuncData
  F__law_flat : Fun K "_law_flat" "_law_flat" s__law_flat a__law_flat d__law_flat
  g__law_flat : mg "_law_flat" = some (.ref a__law_flat)
  b__law_flat : Binds K d__law_flat ["state"] []
  a__law_beside : Addr
  d__law_beside : FuncData
  F__law_beside : Fun K "_law_beside" "_law_beside" s__law_beside a__law_beside d__law_beside
  g__law_beside : mg "_law_beside" = some (.ref a__law_beside)
  b__law_beside : Binds K d__law_beside ["one", "two"] []
  a__law_step : Addr
  d__law_step : FuncData
  F__law_step : Fun K "_law_step" "_law_step" s__law_step a__law_step d__law_step
  g__law_step : mg "_law_step" = some (.ref a__law_step)
  b__law_step : Binds K d__law_step ["table", "known", "row", "j"] []
  a__law_times : Addr
  d__law_times : FuncData
  F__law_times : Fun K "_law_times" "_law_times" s__law_times a__law_times d__law_times
  g__law_times : mg "_law_times" = some (.ref a__law_times)
  b__law_times : Binds K d__law_times ["table", "known", "x", "y"] []
  a__law_inverse : Addr
  d__law_inverse : FuncData
  F__law_inverse : Fun K "_law_inverse" "_law_inverse" s__law_inverse a__law_inverse d__law_inverse
  g__law_inverse : mg "_law_inverse" = some (.ref a__law_inverse)
  b__law_inverse : Binds K d__law_inverse ["table", "known", "x"] []
  a__law_conjugated : Addr
  d__law_conjugated : FuncData
  F__law_conjugated : Fun K "_law_conjugated" "_law_conjugated" s__law_conjugated a__law_conjugated d__law_conjugated
  g__law_conjugated : mg "_law_conjugated" = some (.ref a__law_conjugated)
  b__law_conjugated : Binds K d__law_conjugated ["table", "known", "x", "y"] []
  a__law_generator : Addr
  d__law_generator : FuncData
  F__law_generator : Fun K "_law_generator" "_law_generator" s__law_generator a__law_generator d__law_generator
  g__law_generator : mg "_law_generator" = some (.ref a__law_generator)
  b__law_generator : Binds K d__law_generator ["n", "k"] []
  a__law_new_row : Addr
  d__law_new_row : FuncData
  F__law_new_row : Fun K "_law_new_row" "_law_new_row" s__law_new_row a__law_new_row d__law_new_row
  g__law_new_row : mg "_law_new_row" = some (.ref a__law_new_row)
  b__law_new_row : Binds K d__law_new_row ["table", "known", "x", "i", "own"] []
  a__law_twisted : Addr
  d__law_twisted : FuncData
  F__law_twisted : Fun K "_law_twisted" "_law_twisted" s__law_twisted a__law_twisted d__law_twisted
  g__law_twisted : mg "_law_twisted" = some (.ref a__law_twisted)
  b__law_twisted : Binds K d__law_twisted ["state", "table"] []
  a__law_group : Addr
  d__law_group : FuncData
  F__law_group : Fun K "_law_group" "_law_group" s__law_group a__law_group d__law_group
  g__law_group : mg "_law_group" = some (.ref a__law_group)
  b__law_group : Binds K d__law_group ["state", "most"] []
  a__law_bent : Addr
  d__law_bent : FuncData
  F__law_bent : Fun K "_law_bent" "_law_bent" s__law_bent a__law_bent d__law_bent
  g__law_bent : mg "_law_bent" = some (.ref a__law_bent)
  b__law_bent : Binds K d__law_bent ["state", "table"] []
  a__law_letters : Addr
  d__law_letters : FuncData
  F__law_letters : Fun K "_law_letters" "_law_letters" s__law_letters a__law_letters d__law_letters
  g__law_letters : mg "_law_letters" = some (.ref a__law_letters)
  b__law_letters : Binds K d__law_letters ["row"] []
  a__law_reason : Addr
  d__law_reason : FuncData
  F__law_reason : Fun K "_law_reason" "_law_reason" s__law_reason a__law_reason d__law_reason
  g__law_reason : mg "_law_reason" = some (.ref a__law_reason)
  b__law_reason : Binds K d__law_reason ["primes", "powers", "parts"] []
  a__law_forms : Addr
  d__law_forms : FuncData
  F__law_forms : Fun K "_law_forms" "_law_forms" s__law_forms a__law_forms d__law_forms
  g__law_forms : mg "_law_forms" = some (.ref a__law_forms)
  b__law_forms : Binds K d__law_forms ["table"] []
  a_law : Addr
  d_law : FuncData
  F_law : Fun K "law" "law" s_law a_law d_law
  g_law : mg "law" = some (.ref a_law)
  b_law : Binds K d_law ["script"] []
  n_isinstance : mg "isinstance" = none
  n_int : mg "int" = none
  n_bool : mg "bool" = none
  n_all : mg "all" = none
  n_tuple : mg "tuple" = none
  n_len : mg "len" = none
  n_zip : mg "zip" = none
  n_any : mg "any" = none
  n_enumerate : mg "enumerate" = none
  n_str : mg "str" = none
  n_abs : mg "abs" = none
  n_range : mg "range" = none
  n_list : mg "list" = none
  q_SMALL_PRIMES : Addr
  g_SMALL_PRIMES : mg "SMALL_PRIMES" = some (.ref q_SMALL_PRIMES)
  t_SMALL : ∀ H : Hp, SqT K H q_SMALL_PRIMES ([2, 3, 5, 7, 11, 13, 17, 19, 23, 29, 31].map V.int)
  v_MOST_GENERATORS : Value
  g_MOST_GENERATORS : mg "MOST_GENERATORS" = some v_MOST_GENERATORS
  r_MOST_GENERATORS : RelV (.int 10) v_MOST_GENERATORS
  v_MOST_ORDER : Value
  g_MOST_ORDER : mg "MOST_ORDER" = some v_MOST_ORDER
  r_MOST_ORDER : RelV (.int 1024) v_MOST_ORDER
def txt_mk {K : PySem.W.Frag} {h : Heap} {mg : Str → Option Value} (X : K.In h) (G : h.Ns mainGlobals mg)
    {f_is_integer : Addr} {od_is_integer an_is_integer : Option Addr} {sl_is_integer : Array (Option Value)} {oc_is_integer kV_is_integer dc_is_integer pm_is_integer cd_is_integer ct_is_integer : Value}
    (a_is_integer : PySem.W.nsIn K mainGlobals "is_integer" = some (some (.ref f_is_integer))) (l_is_integer : K.lookup f_is_integer = some ⟨oc_is_integer, od_is_integer, .func (PySem.W.fnOf "is_integer" "is_integer" (defArgs s_is_integer) (defBody s_is_integer) (defScope s_is_integer) .none kV_is_integer dc_is_integer pm_is_integer an_is_integer cd_is_integer ct_is_integer), sl_is_integer⟩)
    (c_is_integer : PySem.W.codeIn K cd_is_integer "is_integer" = true) (k_is_integer : PySem.W.keepIn K (.ref f_is_integer) = true)
    {f_is_small_prime : Addr} {od_is_small_prime an_is_small_prime : Option Addr} {sl_is_small_prime : Array (Option Value)} {oc_is_small_prime kV_is_small_prime dc_is_small_prime pm_is_small_prime cd_is_small_prime ct_is_small_prime : Value}
    (a_is_small_prime : PySem.W.nsIn K mainGlobals "is_small_prime" = some (some (.ref f_is_small_prime))) (l_is_small_prime : K.lookup f_is_small_prime = some ⟨oc_is_small_prime, od_is_small_prime, .func (PySem.W.fnOf "is_small_prime" "is_small_prime" (defArgs s_is_small_prime) (defBody s_is_small_prime) (defScope s_is_small_prime) .none kV_is_small_prime dc_is_small_prime pm_is_small_prime an_is_small_prime cd_is_small_prime ct_is_small_prime), sl_is_small_prime⟩)
    (c_is_small_prime : PySem.W.codeIn K cd_is_small_prime "is_small_prime" = true) (k_is_small_prime : PySem.W.keepIn K (.ref f_is_small_prime) = true)
    {f__is_row : Addr} {od__is_row an__is_row : Option Addr} {sl__is_row : Array (Option Value)} {oc__is_row kV__is_row dc__is_row pm__is_row cd__is_row ct__is_row : Value}
    (a__is_row : PySem.W.nsIn K mainGlobals "_is_row" = some (some (.ref f__is_row))) (l__is_row : K.lookup f__is_row = some ⟨oc__is_row, od__is_row, .func (PySem.W.fnOf "_is_row" "_is_row" (defArgs s__is_row) (defBody s__is_row) (defScope s__is_row) .none kV__is_row dc__is_row pm__is_row an__is_row cd__is_row ct__is_row), sl__is_row⟩)
    (c__is_row : PySem.W.codeIn K cd__is_row "_is_row" = true) (k__is_row : PySem.W.keepIn K (.ref f__is_row) = true)
    {f__is_right_side : Addr} {od__is_right_side an__is_right_side : Option Addr} {sl__is_right_side : Array (Option Value)} {oc__is_right_side kV__is_right_side dc__is_right_side pm__is_right_side cd__is_right_side ct__is_right_side : Value}
    (a__is_right_side : PySem.W.nsIn K mainGlobals "_is_right_side" = some (some (.ref f__is_right_side))) (l__is_right_side : K.lookup f__is_right_side = some ⟨oc__is_right_side, od__is_right_side, .func (PySem.W.fnOf "_is_right_side" "_is_right_side" (defArgs s__is_right_side) (defBody s__is_right_side) (defScope s__is_right_side) .none kV__is_right_side dc__is_right_side pm__is_right_side an__is_right_side cd__is_right_side ct__is_right_side), sl__is_right_side⟩)
    (c__is_right_side : PySem.W.codeIn K cd__is_right_side "_is_right_side" = true) (k__is_right_side : PySem.W.keepIn K (.ref f__is_right_side) = true)
    {f__are_right_sides : Addr} {od__are_right_sides an__are_right_sides : Option Addr} {sl__are_right_sides : Array (Option Value)} {oc__are_right_sides kV__are_right_sides dc__are_right_sides pm__are_right_sides cd__are_right_sides ct__are_right_sides : Value}
    (a__are_right_sides : PySem.W.nsIn K mainGlobals "_are_right_sides" = some (some (.ref f__are_right_sides))) (l__are_right_sides : K.lookup f__are_right_sides = some ⟨oc__are_right_sides, od__are_right_sides, .func (PySem.W.fnOf "_are_right_sides" "_are_right_sides" (defArgs s__are_right_sides) (defBody s__are_right_sides) (defScope s__are_right_sides) .none kV__are_right_sides dc__are_right_sides pm__are_right_sides an__are_right_sides cd__are_right_sides ct__are_right_sides), sl__are_right_sides⟩)
    (c__are_right_sides : PySem.W.codeIn K cd__are_right_sides "_are_right_sides" = true) (k__are_right_sides : PySem.W.keepIn K (.ref f__are_right_sides) = true)
    {f__are_primes : Addr} {od__are_primes an__are_primes : Option Addr} {sl__are_primes : Array (Option Value)} {oc__are_primes kV__are_primes dc__are_primes pm__are_primes cd__are_primes ct__are_primes : Value}
    (a__are_primes : PySem.W.nsIn K mainGlobals "_are_primes" = some (some (.ref f__are_primes))) (l__are_primes : K.lookup f__are_primes = some ⟨oc__are_primes, od__are_primes, .func (PySem.W.fnOf "_are_primes" "_are_primes" (defArgs s__are_primes) (defBody s__are_primes) (defScope s__are_primes) .none kV__are_primes dc__are_primes pm__are_primes an__are_primes cd__are_primes ct__are_primes), sl__are_primes⟩)
    (c__are_primes : PySem.W.codeIn K cd__are_primes "_are_primes" = true) (k__are_primes : PySem.W.keepIn K (.ref f__are_primes) = true)
    {f__are_powers : Addr} {od__are_powers an__are_powers : Option Addr} {sl__are_powers : Array (Option Value)} {oc__are_powers kV__are_powers dc__are_powers pm__are_powers cd__are_powers ct__are_powers : Value}
    (a__are_powers : PySem.W.nsIn K mainGlobals "_are_powers" = some (some (.ref f__are_powers))) (l__are_powers : K.lookup f__are_powers = some ⟨oc__are_powers, od__are_powers, .func (PySem.W.fnOf "_are_powers" "_are_powers" (defArgs s__are_powers) (defBody s__are_powers) (defScope s__are_powers) .none kV__are_powers dc__are_powers pm__are_powers an__are_powers cd__are_powers ct__are_powers), sl__are_powers⟩)
    (c__are_powers : PySem.W.codeIn K cd__are_powers "_are_powers" = true) (k__are_powers : PySem.W.keepIn K (.ref f__are_powers) = true)
    {f__are_conjugates : Addr} {od__are_conjugates an__are_conjugates : Option Addr} {sl__are_conjugates : Array (Option Value)} {oc__are_conjugates kV__are_conjugates dc__are_conjugates pm__are_conjugates cd__are_conjugates ct__are_conjugates : Value}
    (a__are_conjugates : PySem.W.nsIn K mainGlobals "_are_conjugates" = some (some (.ref f__are_conjugates))) (l__are_conjugates : K.lookup f__are_conjugates = some ⟨oc__are_conjugates, od__are_conjugates, .func (PySem.W.fnOf "_are_conjugates" "_are_conjugates" (defArgs s__are_conjugates) (defBody s__are_conjugates) (defScope s__are_conjugates) .none kV__are_conjugates dc__are_conjugates pm__are_conjugates an__are_conjugates cd__are_conjugates ct__are_conjugates), sl__are_conjugates⟩)
    (c__are_conjugates : PySem.W.codeIn K cd__are_conjugates "_are_conjugates" = true) (k__are_conjugates : PySem.W.keepIn K (.ref f__are_conjugates) = true)
    {f__order_of : Addr} {od__order_of an__order_of : Option Addr} {sl__order_of : Array (Option Value)} {oc__order_of kV__order_of dc__order_of pm__order_of cd__order_of ct__order_of : Value}
    (a__order_of : PySem.W.nsIn K mainGlobals "_order_of" = some (some (.ref f__order_of))) (l__order_of : K.lookup f__order_of = some ⟨oc__order_of, od__order_of, .func (PySem.W.fnOf "_order_of" "_order_of" (defArgs s__order_of) (defBody s__order_of) (defScope s__order_of) .none kV__order_of dc__order_of pm__order_of an__order_of cd__order_of ct__order_of), sl__order_of⟩)
    (c__order_of : PySem.W.codeIn K cd__order_of "_order_of" = true) (k__order_of : PySem.W.keepIn K (.ref f__order_of) = true)
    {f__row_text : Addr} {od__row_text an__row_text : Option Addr} {sl__row_text : Array (Option Value)} {oc__row_text kV__row_text dc__row_text pm__row_text cd__row_text ct__row_text : Value}
    (a__row_text : PySem.W.nsIn K mainGlobals "_row_text" = some (some (.ref f__row_text))) (l__row_text : K.lookup f__row_text = some ⟨oc__row_text, od__row_text, .func (PySem.W.fnOf "_row_text" "_row_text" (defArgs s__row_text) (defBody s__row_text) (defScope s__row_text) .none kV__row_text dc__row_text pm__row_text an__row_text cd__row_text ct__row_text), sl__row_text⟩)
    (c__row_text : PySem.W.codeIn K cd__row_text "_row_text" = true) (k__row_text : PySem.W.keepIn K (.ref f__row_text) = true)
    {f__right_sides : Addr} {od__right_sides an__right_sides : Option Addr} {sl__right_sides : Array (Option Value)} {oc__right_sides kV__right_sides dc__right_sides pm__right_sides cd__right_sides ct__right_sides : Value}
    (a__right_sides : PySem.W.nsIn K mainGlobals "_right_sides" = some (some (.ref f__right_sides))) (l__right_sides : K.lookup f__right_sides = some ⟨oc__right_sides, od__right_sides, .func (PySem.W.fnOf "_right_sides" "_right_sides" (defArgs s__right_sides) (defBody s__right_sides) (defScope s__right_sides) .none kV__right_sides dc__right_sides pm__right_sides an__right_sides cd__right_sides ct__right_sides), sl__right_sides⟩)
    (c__right_sides : PySem.W.codeIn K cd__right_sides "_right_sides" = true) (k__right_sides : PySem.W.keepIn K (.ref f__right_sides) = true)
    {f__law_state : Addr} {od__law_state an__law_state : Option Addr} {sl__law_state : Array (Option Value)} {oc__law_state kV__law_state dc__law_state pm__law_state cd__law_state ct__law_state : Value}
    (a__law_state : PySem.W.nsIn K mainGlobals "_law_state" = some (some (.ref f__law_state))) (l__law_state : K.lookup f__law_state = some ⟨oc__law_state, od__law_state, .func (PySem.W.fnOf "_law_state" "_law_state" (defArgs s__law_state) (defBody s__law_state) (defScope s__law_state) .none kV__law_state dc__law_state pm__law_state an__law_state cd__law_state ct__law_state), sl__law_state⟩)
    (c__law_state : PySem.W.codeIn K cd__law_state "_law_state" = true) (k__law_state : PySem.W.keepIn K (.ref f__law_state) = true)
    {f__law_take : Addr} {od__law_take an__law_take : Option Addr} {sl__law_take : Array (Option Value)} {oc__law_take kV__law_take dc__law_take pm__law_take cd__law_take ct__law_take : Value}
    (a__law_take : PySem.W.nsIn K mainGlobals "_law_take" = some (some (.ref f__law_take))) (l__law_take : K.lookup f__law_take = some ⟨oc__law_take, od__law_take, .func (PySem.W.fnOf "_law_take" "_law_take" (defArgs s__law_take) (defBody s__law_take) (defScope s__law_take) .none kV__law_take dc__law_take pm__law_take an__law_take cd__law_take ct__law_take), sl__law_take⟩)
    (c__law_take : PySem.W.codeIn K cd__law_take "_law_take" = true) (k__law_take : PySem.W.keepIn K (.ref f__law_take) = true)
    {f__law_made : Addr} {od__law_made an__law_made : Option Addr} {sl__law_made : Array (Option Value)} {oc__law_made kV__law_made dc__law_made pm__law_made cd__law_made ct__law_made : Value}
    (a__law_made : PySem.W.nsIn K mainGlobals "_law_made" = some (some (.ref f__law_made))) (l__law_made : K.lookup f__law_made = some ⟨oc__law_made, od__law_made, .func (PySem.W.fnOf "_law_made" "_law_made" (defArgs s__law_made) (defBody s__law_made) (defScope s__law_made) .none kV__law_made dc__law_made pm__law_made an__law_made cd__law_made ct__law_made), sl__law_made⟩)
    (c__law_made : PySem.W.codeIn K cd__law_made "_law_made" = true) (k__law_made : PySem.W.keepIn K (.ref f__law_made) = true)
    {f__law_size : Addr} {od__law_size an__law_size : Option Addr} {sl__law_size : Array (Option Value)} {oc__law_size kV__law_size dc__law_size pm__law_size cd__law_size ct__law_size : Value}
    (a__law_size : PySem.W.nsIn K mainGlobals "_law_size" = some (some (.ref f__law_size))) (l__law_size : K.lookup f__law_size = some ⟨oc__law_size, od__law_size, .func (PySem.W.fnOf "_law_size" "_law_size" (defArgs s__law_size) (defBody s__law_size) (defScope s__law_size) .none kV__law_size dc__law_size pm__law_size an__law_size cd__law_size ct__law_size), sl__law_size⟩)
    (c__law_size : PySem.W.codeIn K cd__law_size "_law_size" = true) (k__law_size : PySem.W.keepIn K (.ref f__law_size) = true)
    {f__law_steep : Addr} {od__law_steep an__law_steep : Option Addr} {sl__law_steep : Array (Option Value)} {oc__law_steep kV__law_steep dc__law_steep pm__law_steep cd__law_steep ct__law_steep : Value}
    (a__law_steep : PySem.W.nsIn K mainGlobals "_law_steep" = some (some (.ref f__law_steep))) (l__law_steep : K.lookup f__law_steep = some ⟨oc__law_steep, od__law_steep, .func (PySem.W.fnOf "_law_steep" "_law_steep" (defArgs s__law_steep) (defBody s__law_steep) (defScope s__law_steep) .none kV__law_steep dc__law_steep pm__law_steep an__law_steep cd__law_steep ct__law_steep), sl__law_steep⟩)
    (c__law_steep : PySem.W.codeIn K cd__law_steep "_law_steep" = true) (k__law_steep : PySem.W.keepIn K (.ref f__law_steep) = true)
    {f__law_flat : Addr} {od__law_flat an__law_flat : Option Addr} {sl__law_flat : Array (Option Value)} {oc__law_flat kV__law_flat dc__law_flat pm__law_flat cd__law_flat ct__law_flat : Value}
    (a__law_flat : PySem.W.nsIn K mainGlobals "_law_flat" = some (some (.ref f__law_flat))) (l__law_flat : K.lookup f__law_flat = some ⟨oc__law_flat, od__law_flat, .func (PySem.W.fnOf "_law_flat" "_law_flat" (defArgs s__law_flat) (defBody s__law_flat) (defScope s__law_flat) .none kV__law_flat dc__law_flat pm__law_flat an__law_flat cd__law_flat ct__law_flat), sl__law_flat⟩)
    (c__law_flat : PySem.W.codeIn K cd__law_flat "_law_flat" = true) (k__law_flat : PySem.W.keepIn K (.ref f__law_flat) = true)
    {f__law_beside : Addr} {od__law_beside an__law_beside : Option Addr} {sl__law_beside : Array (Option Value)} {oc__law_beside kV__law_beside dc__law_beside pm__law_beside cd__law_beside ct__law_beside : Value}
    (a__law_beside : PySem.W.nsIn K mainGlobals "_law_beside" = some (some (.ref f__law_beside))) (l__law_beside : K.lookup f__law_beside = some ⟨oc__law_beside, od__law_beside, .func (PySem.W.fnOf "_law_beside" "_law_beside" (defArgs s__law_beside) (defBody s__law_beside) (defScope s__law_beside) .none kV__law_beside dc__law_beside pm__law_beside an__law_beside cd__law_beside ct__law_beside), sl__law_beside⟩)
    (c__law_beside : PySem.W.codeIn K cd__law_beside "_law_beside" = true) (k__law_beside : PySem.W.keepIn K (.ref f__law_beside) = true)
    {f__law_step : Addr} {od__law_step an__law_step : Option Addr} {sl__law_step : Array (Option Value)} {oc__law_step kV__law_step dc__law_step pm__law_step cd__law_step ct__law_step : Value}
    (a__law_step : PySem.W.nsIn K mainGlobals "_law_step" = some (some (.ref f__law_step))) (l__law_step : K.lookup f__law_step = some ⟨oc__law_step, od__law_step, .func (PySem.W.fnOf "_law_step" "_law_step" (defArgs s__law_step) (defBody s__law_step) (defScope s__law_step) .none kV__law_step dc__law_step pm__law_step an__law_step cd__law_step ct__law_step), sl__law_step⟩)
    (c__law_step : PySem.W.codeIn K cd__law_step "_law_step" = true) (k__law_step : PySem.W.keepIn K (.ref f__law_step) = true)
    {f__law_times : Addr} {od__law_times an__law_times : Option Addr} {sl__law_times : Array (Option Value)} {oc__law_times kV__law_times dc__law_times pm__law_times cd__law_times ct__law_times : Value}
    (a__law_times : PySem.W.nsIn K mainGlobals "_law_times" = some (some (.ref f__law_times))) (l__law_times : K.lookup f__law_times = some ⟨oc__law_times, od__law_times, .func (PySem.W.fnOf "_law_times" "_law_times" (defArgs s__law_times) (defBody s__law_times) (defScope s__law_times) .none kV__law_times dc__law_times pm__law_times an__law_times cd__law_times ct__law_times), sl__law_times⟩)
    (c__law_times : PySem.W.codeIn K cd__law_times "_law_times" = true) (k__law_times : PySem.W.keepIn K (.ref f__law_times) = true)
    {f__law_inverse : Addr} {od__law_inverse an__law_inverse : Option Addr} {sl__law_inverse : Array (Option Value)} {oc__law_inverse kV__law_inverse dc__law_inverse pm__law_inverse cd__law_inverse ct__law_inverse : Value}
    (a__law_inverse : PySem.W.nsIn K mainGlobals "_law_inverse" = some (some (.ref f__law_inverse))) (l__law_inverse : K.lookup f__law_inverse = some ⟨oc__law_inverse, od__law_inverse, .func (PySem.W.fnOf "_law_inverse" "_law_inverse" (defArgs s__law_inverse) (defBody s__law_inverse) (defScope s__law_inverse) .none kV__law_inverse dc__law_inverse pm__law_inverse an__law_inverse cd__law_inverse ct__law_inverse), sl__law_inverse⟩)
    (c__law_inverse : PySem.W.codeIn K cd__law_inverse "_law_inverse" = true) (k__law_inverse : PySem.W.keepIn K (.ref f__law_inverse) = true)
    {f__law_conjugated : Addr} {od__law_conjugated an__law_conjugated : Option Addr} {sl__law_conjugated : Array (Option Value)} {oc__law_conjugated kV__law_conjugated dc__law_conjugated pm__law_conjugated cd__law_conjugated ct__law_conjugated : Value}
    (a__law_conjugated : PySem.W.nsIn K mainGlobals "_law_conjugated" = some (some (.ref f__law_conjugated))) (l__law_conjugated : K.lookup f__law_conjugated = some ⟨oc__law_conjugated, od__law_conjugated, .func (PySem.W.fnOf "_law_conjugated" "_law_conjugated" (defArgs s__law_conjugated) (defBody s__law_conjugated) (defScope s__law_conjugated) .none kV__law_conjugated dc__law_conjugated pm__law_conjugated an__law_conjugated cd__law_conjugated ct__law_conjugated), sl__law_conjugated⟩)
    (c__law_conjugated : PySem.W.codeIn K cd__law_conjugated "_law_conjugated" = true) (k__law_conjugated : PySem.W.keepIn K (.ref f__law_conjugated) = true)
    {f__law_generator : Addr} {od__law_generator an__law_generator : Option Addr} {sl__law_generator : Array (Option Value)} {oc__law_generator kV__law_generator dc__law_generator pm__law_generator cd__law_generator ct__law_generator : Value}
    (a__law_generator : PySem.W.nsIn K mainGlobals "_law_generator" = some (some (.ref f__law_generator))) (l__law_generator : K.lookup f__law_generator = some ⟨oc__law_generator, od__law_generator, .func (PySem.W.fnOf "_law_generator" "_law_generator" (defArgs s__law_generator) (defBody s__law_generator) (defScope s__law_generator) .none kV__law_generator dc__law_generator pm__law_generator an__law_generator cd__law_generator ct__law_generator), sl__law_generator⟩)
    (c__law_generator : PySem.W.codeIn K cd__law_generator "_law_generator" = true) (k__law_generator : PySem.W.keepIn K (.ref f__law_generator) = true)
    {f__law_new_row : Addr} {od__law_new_row an__law_new_row : Option Addr} {sl__law_new_row : Array (Option Value)} {oc__law_new_row kV__law_new_row dc__law_new_row pm__law_new_row cd__law_new_row ct__law_new_row : Value}
    (a__law_new_row : PySem.W.nsIn K mainGlobals "_law_new_row" = some (some (.ref f__law_new_row))) (l__law_new_row : K.lookup f__law_new_row = some ⟨oc__law_new_row, od__law_new_row, .func (PySem.W.fnOf "_law_new_row" "_law_new_row" (defArgs s__law_new_row) (defBody s__law_new_row) (defScope s__law_new_row) .none kV__law_new_row dc__law_new_row pm__law_new_row an__law_new_row cd__law_new_row ct__law_new_row), sl__law_new_row⟩)
    (c__law_new_row : PySem.W.codeIn K cd__law_new_row "_law_new_row" = true) (k__law_new_row : PySem.W.keepIn K (.ref f__law_new_row) = true)
    {f__law_twisted : Addr} {od__law_twisted an__law_twisted : Option Addr} {sl__law_twisted : Array (Option Value)} {oc__law_twisted kV__law_twisted dc__law_twisted pm__law_twisted cd__law_twisted ct__law_twisted : Value}
    (a__law_twisted : PySem.W.nsIn K mainGlobals "_law_twisted" = some (some (.ref f__law_twisted))) (l__law_twisted : K.lookup f__law_twisted = some ⟨oc__law_twisted, od__law_twisted, .func (PySem.W.fnOf "_law_twisted" "_law_twisted" (defArgs s__law_twisted) (defBody s__law_twisted) (defScope s__law_twisted) .none kV__law_twisted dc__law_twisted pm__law_twisted an__law_twisted cd__law_twisted ct__law_twisted), sl__law_twisted⟩)
    (c__law_twisted : PySem.W.codeIn K cd__law_twisted "_law_twisted" = true) (k__law_twisted : PySem.W.keepIn K (.ref f__law_twisted) = true)
    {f__law_group : Addr} {od__law_group an__law_group : Option Addr} {sl__law_group : Array (Option Value)} {oc__law_group kV__law_group dc__law_group pm__law_group cd__law_group ct__law_group : Value}
    (a__law_group : PySem.W.nsIn K mainGlobals "_law_group" = some (some (.ref f__law_group))) (l__law_group : K.lookup f__law_group = some ⟨oc__law_group, od__law_group, .func (PySem.W.fnOf "_law_group" "_law_group" (defArgs s__law_group) (defBody s__law_group) (defScope s__law_group) .none kV__law_group dc__law_group pm__law_group an__law_group cd__law_group ct__law_group), sl__law_group⟩)
    (c__law_group : PySem.W.codeIn K cd__law_group "_law_group" = true) (k__law_group : PySem.W.keepIn K (.ref f__law_group) = true)
    {f__law_bent : Addr} {od__law_bent an__law_bent : Option Addr} {sl__law_bent : Array (Option Value)} {oc__law_bent kV__law_bent dc__law_bent pm__law_bent cd__law_bent ct__law_bent : Value}
    (a__law_bent : PySem.W.nsIn K mainGlobals "_law_bent" = some (some (.ref f__law_bent))) (l__law_bent : K.lookup f__law_bent = some ⟨oc__law_bent, od__law_bent, .func (PySem.W.fnOf "_law_bent" "_law_bent" (defArgs s__law_bent) (defBody s__law_bent) (defScope s__law_bent) .none kV__law_bent dc__law_bent pm__law_bent an__law_bent cd__law_bent ct__law_bent), sl__law_bent⟩)
    (c__law_bent : PySem.W.codeIn K cd__law_bent "_law_bent" = true) (k__law_bent : PySem.W.keepIn K (.ref f__law_bent) = true)
    {f__law_letters : Addr} {od__law_letters an__law_letters : Option Addr} {sl__law_letters : Array (Option Value)} {oc__law_letters kV__law_letters dc__law_letters pm__law_letters cd__law_letters ct__law_letters : Value}
    (a__law_letters : PySem.W.nsIn K mainGlobals "_law_letters" = some (some (.ref f__law_letters))) (l__law_letters : K.lookup f__law_letters = some ⟨oc__law_letters, od__law_letters, .func (PySem.W.fnOf "_law_letters" "_law_letters" (defArgs s__law_letters) (defBody s__law_letters) (defScope s__law_letters) .none kV__law_letters dc__law_letters pm__law_letters an__law_letters cd__law_letters ct__law_letters), sl__law_letters⟩)
    (c__law_letters : PySem.W.codeIn K cd__law_letters "_law_letters" = true) (k__law_letters : PySem.W.keepIn K (.ref f__law_letters) = true)
    {f__law_reason : Addr} {od__law_reason an__law_reason : Option Addr} {sl__law_reason : Array (Option Value)} {oc__law_reason kV__law_reason dc__law_reason pm__law_reason cd__law_reason ct__law_reason : Value}
    (a__law_reason : PySem.W.nsIn K mainGlobals "_law_reason" = some (some (.ref f__law_reason))) (l__law_reason : K.lookup f__law_reason = some ⟨oc__law_reason, od__law_reason, .func (PySem.W.fnOf "_law_reason" "_law_reason" (defArgs s__law_reason) (defBody s__law_reason) (defScope s__law_reason) .none kV__law_reason dc__law_reason pm__law_reason an__law_reason cd__law_reason ct__law_reason), sl__law_reason⟩)
    (c__law_reason : PySem.W.codeIn K cd__law_reason "_law_reason" = true) (k__law_reason : PySem.W.keepIn K (.ref f__law_reason) = true)
    {f__law_forms : Addr} {od__law_forms an__law_forms : Option Addr} {sl__law_forms : Array (Option Value)} {oc__law_forms kV__law_forms dc__law_forms pm__law_forms cd__law_forms ct__law_forms : Value}
    (a__law_forms : PySem.W.nsIn K mainGlobals "_law_forms" = some (some (.ref f__law_forms))) (l__law_forms : K.lookup f__law_forms = some ⟨oc__law_forms, od__law_forms, .func (PySem.W.fnOf "_law_forms" "_law_forms" (defArgs s__law_forms) (defBody s__law_forms) (defScope s__law_forms) .none kV__law_forms dc__law_forms pm__law_forms an__law_forms cd__law_forms ct__law_forms), sl__law_forms⟩)
    (c__law_forms : PySem.W.codeIn K cd__law_forms "_law_forms" = true) (k__law_forms : PySem.W.keepIn K (.ref f__law_forms) = true)
    {f_law : Addr} {od_law an_law : Option Addr} {sl_law : Array (Option Value)} {oc_law kV_law dc_law pm_law cd_law ct_law : Value}
    (a_law : PySem.W.nsIn K mainGlobals "law" = some (some (.ref f_law))) (l_law : K.lookup f_law = some ⟨oc_law, od_law, .func (PySem.W.fnOf "law" "law" (defArgs s_law) (defBody s_law) (defScope s_law) .none kV_law dc_law pm_law an_law cd_law ct_law), sl_law⟩)
    (c_law : PySem.W.codeIn K cd_law "law" = true) (k_law : PySem.W.keepIn K (.ref f_law) = true)
    (z_isinstance : PySem.W.nsIn K mainGlobals "isinstance" = some none)
    (z_int : PySem.W.nsIn K mainGlobals "int" = some none)
    (z_bool : PySem.W.nsIn K mainGlobals "bool" = some none)
    (z_all : PySem.W.nsIn K mainGlobals "all" = some none)
    (z_tuple : PySem.W.nsIn K mainGlobals "tuple" = some none)
    (z_len : PySem.W.nsIn K mainGlobals "len" = some none)
    (z_zip : PySem.W.nsIn K mainGlobals "zip" = some none)
    (z_any : PySem.W.nsIn K mainGlobals "any" = some none)
    (z_enumerate : PySem.W.nsIn K mainGlobals "enumerate" = some none)
    (z_str : PySem.W.nsIn K mainGlobals "str" = some none)
    (z_abs : PySem.W.nsIn K mainGlobals "abs" = some none)
    (z_range : PySem.W.nsIn K mainGlobals "range" = some none)
    (z_list : PySem.W.nsIn K mainGlobals "list" = some none)
    {q_S : Addr} {dd_S : Option Addr} {its_S : Array Value} {n_S : Nat} {sl_S : Array (Option Value)}
    (a_S : PySem.W.nsIn K mainGlobals "SMALL_PRIMES" = some (some (.ref q_S))) (l_S : K.lookup q_S = some ⟨.type "tuple", dd_S, .seq its_S n_S, sl_S⟩) (v_S : Vals ([2, 3, 5, 7, 11, 13, 17, 19, 23, 29, 31].map V.int) its_S.toList)
    {tk_MOST_GENERATORS : Tok} (a_MOST_GENERATORS : PySem.W.nsIn K mainGlobals "MOST_GENERATORS" = some (some (.int 10 tk_MOST_GENERATORS)))
    {tk_MOST_ORDER : Tok} (a_MOST_ORDER : PySem.W.nsIn K mainGlobals "MOST_ORDER" = some (some (.int 1024 tk_MOST_ORDER))) : Txt K mg :=
  have F_is_integer := fun_mk (st := s_is_integer) l_is_integer c_is_integer k_is_integer
  have b_is_integer := F_is_integer.binds (ps := ["value"]) fun _ _ _ _ _ _ us hl => match us, hl with | [_], _ => rfl
  have F_is_small_prime := fun_mk (st := s_is_small_prime) l_is_small_prime c_is_small_prime k_is_small_prime
  have b_is_small_prime := F_is_small_prime.binds (ps := ["value"]) fun _ _ _ _ _ _ us hl => match us, hl with | [_], _ => rfl
  have F__is_row := fun_mk (st := s__is_row) l__is_row c__is_row k__is_row
  have b__is_row := F__is_row.binds (ps := ["value", "primes"]) fun _ _ _ _ _ _ us hl => match us, hl with | [_, _], _ => rfl
  have F__is_right_side := fun_mk (st := s__is_right_side) l__is_right_side c__is_right_side k__is_right_side
  have b__is_right_side := F__is_right_side.binds (ps := ["value", "primes", "i"]) fun _ _ _ _ _ _ us hl => match us, hl with | [_, _, _], _ => rfl
  have F__are_right_sides := fun_mk (st := s__are_right_sides) l__are_right_sides c__are_right_sides k__are_right_sides
  have b__are_right_sides := F__are_right_sides.binds (ps := ["value", "many", "primes", "i"]) fun _ _ _ _ _ _ us hl => match us, hl with | [_, _, _, _], _ => rfl
  have F__are_primes := fun_mk (st := s__are_primes) l__are_primes c__are_primes k__are_primes
  have b__are_primes := F__are_primes.binds (ps := ["value"]) fun _ _ _ _ _ _ us hl => match us, hl with | [_], _ => rfl
  have F__are_powers := fun_mk (st := s__are_powers) l__are_powers c__are_powers k__are_powers
  have b__are_powers := F__are_powers.binds (ps := ["value", "primes"]) fun _ _ _ _ _ _ us hl => match us, hl with | [_, _], _ => rfl
  have F__are_conjugates := fun_mk (st := s__are_conjugates) l__are_conjugates c__are_conjugates k__are_conjugates
  have b__are_conjugates := F__are_conjugates.binds (ps := ["value", "primes"]) fun _ _ _ _ _ _ us hl => match us, hl with | [_, _], _ => rfl
  have F__order_of := fun_mk (st := s__order_of) l__order_of c__order_of k__order_of
  have b__order_of := F__order_of.binds (ps := ["primes"]) fun _ _ _ _ _ _ us hl => match us, hl with | [_], _ => rfl
  have F__row_text := fun_mk (st := s__row_text) l__row_text c__row_text k__row_text
  have b__row_text := F__row_text.binds (ps := ["row"]) fun _ _ _ _ _ _ us hl => match us, hl with | [_], _ => rfl
  have F__right_sides := fun_mk (st := s__right_sides) l__right_sides c__right_sides k__right_sides
  have b__right_sides := F__right_sides.binds (ps := ["presentation"]) fun _ _ _ _ _ _ us hl => match us, hl with | [_], _ => rfl
  have F__law_state := fun_mk (st := s__law_state) l__law_state c__law_state k__law_state
  have b__law_state := F__law_state.binds (ps := ["script"]) fun _ _ _ _ _ _ us hl => match us, hl with | [_], _ => rfl
  have F__law_take := fun_mk (st := s__law_take) l__law_take c__law_take k__law_take
  have b__law_take := F__law_take.binds (ps := ["state", "m"]) fun _ _ _ _ _ _ us hl => match us, hl with | [_, _], _ => rfl
  have F__law_made := fun_mk (st := s__law_made) l__law_made c__law_made k__law_made
  have b__law_made := F__law_made.binds (ps := ["primes", "powers", "conjugates"]) fun _ _ _ _ _ _ us hl => match us, hl with | [_, _, _], _ => rfl
  have F__law_size := fun_mk (st := s__law_size) l__law_size c__law_size k__law_size
  have b__law_size := F__law_size.binds (ps := ["table"]) fun _ _ _ _ _ _ us hl => match us, hl with | [_], _ => rfl
  have F__law_steep := fun_mk (st := s__law_steep) l__law_steep c__law_steep k__law_steep
  have b__law_steep := F__law_steep.binds (ps := ["state", "pick"]) fun _ _ _ _ _ _ us hl => match us, hl with | [_, _], _ => rfl
  have F__law_flat := fun_mk (st := s__law_flat) l__law_flat c__law_flat k__law_flat
  have b__law_flat := F__law_flat.binds (ps := ["state"]) fun _ _ _ _ _ _ us hl => match us, hl with | [_], _ => rfl
  have F__law_beside := fun_mk (st := s__law_beside) l__law_beside c__law_beside k__law_beside
  have b__law_beside := F__law_beside.binds (ps := ["one", "two"]) fun _ _ _ _ _ _ us hl => match us, hl with | [_, _], _ => rfl
  have F__law_step := fun_mk (st := s__law_step) l__law_step c__law_step k__law_step
  have b__law_step := F__law_step.binds (ps := ["table", "known", "row", "j"]) fun _ _ _ _ _ _ us hl => match us, hl with | [_, _, _, _], _ => rfl
  have F__law_times := fun_mk (st := s__law_times) l__law_times c__law_times k__law_times
  have b__law_times := F__law_times.binds (ps := ["table", "known", "x", "y"]) fun _ _ _ _ _ _ us hl => match us, hl with | [_, _, _, _], _ => rfl
  have F__law_inverse := fun_mk (st := s__law_inverse) l__law_inverse c__law_inverse k__law_inverse
  have b__law_inverse := F__law_inverse.binds (ps := ["table", "known", "x"]) fun _ _ _ _ _ _ us hl => match us, hl with | [_, _, _], _ => rfl
  have F__law_conjugated := fun_mk (st := s__law_conjugated) l__law_conjugated c__law_conjugated k__law_conjugated
  have b__law_conjugated := F__law_conjugated.binds (ps := ["table", "known", "x", "y"]) fun _ _ _ _ _ _ us hl => match us, hl with | [_, _, _, _], _ => rfl
  have F__law_generator := fun_mk (st := s__law_generator) l__law_generator c__law_generator k__law_generator
  have b__law_generator := F__law_generator.binds (ps := ["n", "k"]) fun _ _ _ _ _ _ us hl => match us, hl with | [_, _], _ => rfl
  have F__law_new_row := fun_mk (st := s__law_new_row) l__law_new_row c__law_new_row k__law_new_row
  have b__law_new_row := F__law_new_row.binds (ps := ["table", "known", "x", "i", "own"]) fun _ _ _ _ _ _ us hl => match us, hl with | [_, _, _, _, _], _ => rfl
  have F__law_twisted := fun_mk (st := s__law_twisted) l__law_twisted c__law_twisted k__law_twisted
  have b__law_twisted := F__law_twisted.binds (ps := ["state", "table"]) fun _ _ _ _ _ _ us hl => match us, hl with | [_, _], _ => rfl
  have F__law_group := fun_mk (st := s__law_group) l__law_group c__law_group k__law_group
  have b__law_group := F__law_group.binds (ps := ["state", "most"]) fun _ _ _ _ _ _ us hl => match us, hl with | [_, _], _ => rfl
  have F__law_bent := fun_mk (st := s__law_bent) l__law_bent c__law_bent k__law_bent
  have b__law_bent := F__law_bent.binds (ps := ["state", "table"]) fun _ _ _ _ _ _ us hl => match us, hl with | [_, _], _ => rfl
  have F__law_letters := fun_mk (st := s__law_letters) l__law_letters c__law_letters k__law_letters
  have b__law_letters := F__law_letters.binds (ps := ["row"]) fun _ _ _ _ _ _ us hl => match us, hl with | [_], _ => rfl
  have F__law_reason := fun_mk (st := s__law_reason) l__law_reason c__law_reason k__law_reason
  have b__law_reason := F__law_reason.binds (ps := ["primes", "powers", "parts"]) fun _ _ _ _ _ _ us hl => match us, hl with | [_, _, _], _ => rfl
  have F__law_forms := fun_mk (st := s__law_forms) l__law_forms c__law_forms k__law_forms
  have b__law_forms := F__law_forms.binds (ps := ["table"]) fun _ _ _ _ _ _ us hl => match us, hl with | [_], _ => rfl
  have F_law := fun_mk (st := s_law) l_law c_law k_law
  have b_law := F_law.binds (ps := ["script"]) fun _ _ _ _ _ _ us hl => match us, hl with | [_], _ => rfl
  { a_is_integer := f_is_integer, d_is_integer := _, F_is_integer := F_is_integer, g_is_integer := PySem.W.mg_of X G a_is_integer, b_is_integer := b_is_integer, a_is_small_prime := f_is_small_prime, d_is_small_prime := _, F_is_small_prime := F_is_small_prime, g_is_small_prime := PySem.W.mg_of X G a_is_small_prime, b_is_small_prime := b_is_small_prime, a__is_row := f__is_row, d__is_row := _, F__is_row := F__is_row, g__is_row := PySem.W.mg_of X G a__is_row, b__is_row := b__is_row, a__is_right_side := f__is_right_side, d__is_right_side := _, F__is_right_side := F__is_right_side, g__is_right_side := PySem.W.mg_of X G a__is_right_side, b__is_right_side := b__is_right_side, a__are_right_sides := f__are_right_sides, d__are_right_sides := _, F__are_right_sides := F__are_right_sides, g__are_right_sides := PySem.W.mg_of X G a__are_right_sides, b__are_right_sides := b__are_right_sides, a__are_primes := f__are_primes, d__are_primes := _, F__are_primes := F__are_primes, g__are_primes := PySem.W.mg_of X G a__are_primes, b__are_primes := b__are_primes, a__are_powers := f__are_powers, d__are_powers := _, F__are_powers := F__are_powers, g__are_powers := PySem.W.mg_of X G a__are_powers, b__are_powers := b__are_powers, a__are_conjugates := f__are_conjugates, d__are_conjugates := _, F__are_conjugates := F__are_conjugates, g__are_conjugates := PySem.W.mg_of X G a__are_conjugates, b__are_conjugates := b__are_conjugates, a__order_of := f__order_of, d__order_of := _, F__order_of := F__order_of, g__order_of := PySem.W.mg_of X G a__order_of, b__order_of := b__order_of, a__row_text := f__row_text, d__row_text := _, F__row_text := F__row_text, g__row_text := PySem.W.mg_of X G a__row_text, b__row_text := b__row_text, a__right_sides := f__right_sides, d__right_sides := _, F__right_sides := F__right_sides, g__right_sides := PySem.W.mg_of X G a__right_sides, b__right_sides := b__right_sides, a__law_state := f__law_state, d__law_state := _, F__law_state := F__law_state, g__law_state := PySem.W.mg_of X G a__law_state, b__law_state := b__law_state, a__law_take := f__law_take, d__law_take := _, F__law_take := F__law_take, g__law_take := PySem.W.mg_of X G a__law_take, b__law_take := b__law_take, a__law_made := f__law_made, d__law_made := _, F__law_made := F__law_made, g__law_made := PySem.W.mg_of X G a__law_made, b__law_made := b__law_made, a__law_size := f__law_size, d__law_size := _, F__law_size := F__law_size, g__law_size := PySem.W.mg_of X G a__law_size, b__law_size := b__law_size, a__law_steep := f__law_steep, d__law_steep := _, F__law_steep := F__law_steep, g__law_steep := PySem.W.mg_of X G a__law_steep, b__law_steep := b__law_steep, a__law_flat := f__law_flat, d__law_flat := _, F__law_flat := F__law_flat, g__law_flat := PySem.W.mg_of X G a__law_flat, b__law_flat := b__law_flat, a__law_beside := f__law_beside, d__law_beside := _, F__law_beside := F__law_beside, g__law_beside := PySem.W.mg_of X G a__law_beside, b__law_beside := b__law_beside, a__law_step := f__law_step, d__law_step := _, F__law_step := F__law_step, g__law_step := PySem.W.mg_of X G a__law_step, b__law_step := b__law_step, a__law_times := f__law_times, d__law_times := _, F__law_times := F__law_times, g__law_times := PySem.W.mg_of X G a__law_times, b__law_times := b__law_times, a__law_inverse := f__law_inverse, d__law_inverse := _, F__law_inverse := F__law_inverse, g__law_inverse := PySem.W.mg_of X G a__law_inverse, b__law_inverse := b__law_inverse, a__law_conjugated := f__law_conjugated, d__law_conjugated := _, F__law_conjugated := F__law_conjugated, g__law_conjugated := PySem.W.mg_of X G a__law_conjugated, b__law_conjugated := b__law_conjugated, a__law_generator := f__law_generator, d__law_generator := _, F__law_generator := F__law_generator, g__law_generator := PySem.W.mg_of X G a__law_generator, b__law_generator := b__law_generator, a__law_new_row := f__law_new_row, d__law_new_row := _, F__law_new_row := F__law_new_row, g__law_new_row := PySem.W.mg_of X G a__law_new_row, b__law_new_row := b__law_new_row, a__law_twisted := f__law_twisted, d__law_twisted := _, F__law_twisted := F__law_twisted, g__law_twisted := PySem.W.mg_of X G a__law_twisted, b__law_twisted := b__law_twisted, a__law_group := f__law_group, d__law_group := _, F__law_group := F__law_group, g__law_group := PySem.W.mg_of X G a__law_group, b__law_group := b__law_group, a__law_bent := f__law_bent, d__law_bent := _, F__law_bent := F__law_bent, g__law_bent := PySem.W.mg_of X G a__law_bent, b__law_bent := b__law_bent, a__law_letters := f__law_letters, d__law_letters := _, F__law_letters := F__law_letters, g__law_letters := PySem.W.mg_of X G a__law_letters, b__law_letters := b__law_letters, a__law_reason := f__law_reason, d__law_reason := _, F__law_reason := F__law_reason, g__law_reason := PySem.W.mg_of X G a__law_reason, b__law_reason := b__law_reason, a__law_forms := f__law_forms, d__law_forms := _, F__law_forms := F__law_forms, g__law_forms := PySem.W.mg_of X G a__law_forms, b__law_forms := b__law_forms, a_law := f_law, d_law := _, F_law := F_law, g_law := PySem.W.mg_of X G a_law, b_law := b_law, n_isinstance := PySem.W.mg_none_of X G z_isinstance, n_int := PySem.W.mg_none_of X G z_int, n_bool := PySem.W.mg_none_of X G z_bool, n_all := PySem.W.mg_none_of X G z_all, n_tuple := PySem.W.mg_none_of X G z_tuple, n_len := PySem.W.mg_none_of X G z_len, n_zip := PySem.W.mg_none_of X G z_zip, n_any := PySem.W.mg_none_of X G z_any, n_enumerate := PySem.W.mg_none_of X G z_enumerate, n_str := PySem.W.mg_none_of X G z_str, n_abs := PySem.W.mg_none_of X G z_abs, n_range := PySem.W.mg_none_of X G z_range, n_list := PySem.W.mg_none_of X G z_list, q_SMALL_PRIMES := q_S, g_SMALL_PRIMES := PySem.W.mg_of X G a_S, t_SMALL := fun H => .inr ⟨_, its_S, n_S, l_S, rfl, rfl, by rw [← Array.length_toList, ← Vals.length v_S]; decide, v_S⟩, v_MOST_GENERATORS := _, g_MOST_GENERATORS := PySem.W.mg_of X G a_MOST_GENERATORS, r_MOST_GENERATORS := ⟨_, rfl⟩, v_MOST_ORDER := _, g_MOST_ORDER := PySem.W.mg_of X G a_MOST_ORDER, r_MOST_ORDER := ⟨_, rfl⟩ }
structure ClMalformed (K : PySem.W.Frag) (mg : Str → Option Value) where
  C : Addr
  gC : mg "Malformed" = some (.ref C)
  q : PySem.W.excIn K C [.type "ValueError", .type "Exception", .type "BaseException", .type "object"] "ValueError.__new__" = true
  kC : PySem.W.keepIn K (.ref C) = true
  eC : PySem.W.subIn K (.ref C) (.type "BaseException") = some true
  yC : PySem.W.typeIn K (.ref C) = some (.type "type")
theorem ClMalformed.F {K : PySem.W.Frag} {mg : Str → Option Value} (_ : ClMalformed K mg) : ExcBaseFacts "ValueError" "ValueError.__new__" "ValueError.__init__" [.type "ValueError", .type "Exception", .type "BaseException", .type "object"] := PySem.F.excBase_ValueError
theorem ClMalformed.r {X : Cx} {mg : Str → Option Value} (c : ClMalformed X.K mg) : Raises X (.ref c.C) := raises_own c.eC c.yC
structure ClPresentation (K : PySem.W.Frag) (mg : Str → Option Value) where
  C : Addr
  gC : mg "Presentation" = some (.ref C)
  cl : Cls K C
  a___init__ : Addr
  d___init__ : FuncData
  F___init__ : Fun K "__init__" "Presentation.__init__" s_Presentation___init__ a___init__ d___init__
  m___init__ : Meth K C "__init__" a___init__
  b___init__ : Binds K d___init__ ["self", "primes", "powers", "conjugates"] []
  a___eq__ : Addr
  d___eq__ : FuncData
  F___eq__ : Fun K "__eq__" "Presentation.__eq__" s_Presentation___eq__ a___eq__ d___eq__
  m___eq__ : Meth K C "__eq__" a___eq__
  b___eq__ : Binds K d___eq__ ["self", "other"] []
  a___str__ : Addr
  d___str__ : FuncData
  F___str__ : Fun K "__str__" "Presentation.__str__" s_Presentation___str__ a___str__ d___str__
  m___str__ : Meth K C "__str__" a___str__
  b___str__ : Binds K d___str__ ["self"] []
  a_is_row : Addr
  d_is_row : FuncData
  F_is_row : Fun K "is_row" "Presentation.is_row" s_Presentation_is_row a_is_row d_is_row
  m_is_row : Meth K C "is_row" a_is_row
  b_is_row : Binds K d_is_row ["self", "value"] []
  a_conjugate_row : Addr
  d_conjugate_row : FuncData
  F_conjugate_row : Fun K "conjugate_row" "Presentation.conjugate_row" s_Presentation_conjugate_row a_conjugate_row d_conjugate_row
  m_conjugate_row : Meth K C "conjugate_row" a_conjugate_row
  b_conjugate_row : Binds K d_conjugate_row ["self", "i", "j"] []
  a_letters : Addr
  d_letters : FuncData
  F_letters : Fun K "letters" "Presentation.letters" s_Presentation_letters a_letters d_letters
  m_letters : Meth K C "letters" a_letters
  b_letters : Binds K d_letters ["self", "row"] []
  mkr : Mk K C a___init__
  n_n : NoAttr K C "n"
  n_primes : NoAttr K C "primes"
  n_powers : NoAttr K C "powers"
  n_conjugates : NoAttr K C "conjugates"
  n_order : NoAttr K C "order"
  ha : PySem.W.findIn K (.ref C) "__class__" = some (some (.builtin "object.__class__"))
  hn : PySem.W.specialIn K (.builtin "object.__class__") "__get__" = some (some (.builtin "getset_descriptor.__get__"))
  ht : PySem.W.takesIn K (.builtin "object.__class__") = some true
  hm : PySem.W.mroIn K C (.type "object") = some true
  ci : PySem.W.isClsIn K C = true
  ty : PySem.W.typeIn K (.ref C) = some (.type "type")
section
variable {P : Program} {w : World} {K : PySem.W.Frag} {mg : Str → Option Value} {base : Heap}
/-! ### rows modulo p, as lists of ints -/
def addR (p : Int) (v w : List Int) : List Int := (v.zip w).map fun x => (x.1 + x.2) % p
def scR (p : Int) (v : List Int) (a : Int) : List Int := v.map fun x => (a * x) % p
def atR (v : List Int) (i : Nat) : Int := v.getD i 0
def clrR (p : Int) (row lead : List Int) (at_ : Nat) : List Int := if atR row at_ = 0 then row else addR p row (scR p lead (-(atR row at_)))
def invR (p a : Int) : Int := ((a % p) ^ (p - 2).toNat) % p
def leadR (p : Int) : List (List Int) → Nat → Option (List Int)
  | [], _ => none
  | r :: rs, at_ => if atR r at_ = 0 then leadR p rs at_ else some (scR p r (invR p (atR r at_)))
structure Elim where
  left : List (List Int)
  table : List (List Int)
  piv : List Nat
def stepE (p : Int) (s : Elim) (at_ : Nat) : Elim := match leadR p s.left at_ with
  | none => s
  | some l => ⟨s.left.map fun r => clrR p r l at_, (s.table.map fun r => clrR p r l at_) ++ [l], s.piv ++ [at_]⟩
def elimE (p : Int) (rows : List (List Int)) : Nat → Elim
  | 0 => ⟨rows, [], []⟩
  | k + 1 => stepE p (elimE p rows k) k
def redT (p : Int) (n : Nat) (rows : List (List Int)) : List (List Int) := (elimE p rows n).table
def redP (p : Int) (n : Nat) (rows : List (List Int)) : List Nat := (elimE p rows n).piv
/-- a row: so many ints from 0 to p - 1 -/
def Vr (p : Int) (n : Nat) (r : List Int) : Prop := r.length = n ∧ ∀ x ∈ r, 0 ≤ x ∧ x < p
theorem atR_get {v : List Int} {i : Nat} (h : i < v.length) : v[i]? = some (atR v i) := by
  unfold atR
  rw [List.getD_eq_getElem?_getD, List.getElem?_eq_getElem h]
  rfl
theorem atR_mem {v : List Int} {i : Nat} (h : i < v.length) : atR v i ∈ v := List.mem_of_getElem? (atR_get h)
theorem Vr.at {p : Int} {n : Nat} {r : List Int} (h : Vr p n r) {i : Nat} (hi : i < n) : 0 ≤ atR r i ∧ atR r i < p := h.2 _ (atR_mem (by rw [h.1]; exact hi))
theorem emod_in {p : Int} (hp : 0 < p) (x : Int) : 0 ≤ x % p ∧ x % p < p := ⟨Int.emod_nonneg _ (by omega), Int.emod_lt_of_pos _ hp⟩
theorem addR_vr {p : Int} {n : Nat} {v w : List Int} (hp : 0 < p) (hv : Vr p n v) (hw : Vr p n w) : Vr p n (addR p v w) := by
  refine ⟨by unfold addR; rw [List.length_map, List.length_zip, hv.1, hw.1, Nat.min_self], fun x hx => ?_⟩
  obtain ⟨y, _, rfl⟩ := List.mem_map.mp hx
  exact emod_in hp _
theorem scR_vr {p : Int} {n : Nat} {v : List Int} (hp : 0 < p) (hv : v.length = n) (a : Int) : Vr p n (scR p v a) := by
  refine ⟨by unfold scR; rw [List.length_map, hv], fun x hx => ?_⟩
  obtain ⟨y, _, rfl⟩ := List.mem_map.mp hx
  exact emod_in hp _
theorem clrR_vr {p : Int} {n : Nat} {r l : List Int} (hp : 0 < p) (hr : Vr p n r) (hl : Vr p n l) (k : Nat) : Vr p n (clrR p r l k) := by
  unfold clrR
  split
  · exact hr
  · exact addR_vr hp hr (scR_vr hp hl.1 _)
theorem leadR_vr {p : Int} {n : Nat} (hp : 0 < p) : ∀ {rs : List (List Int)} {k : Nat} {l : List Int}, (∀ r ∈ rs, Vr p n r) → leadR p rs k = some l → Vr p n l
  | [], _, _, _, h => by cases h
  | r :: rs, k, l, hr, h => by
    rw [leadR] at h
    split at h
    · exact leadR_vr hp (fun r hr' => hr r (List.mem_cons_of_mem _ hr')) h
    · cases h
      exact scR_vr hp (hr r (List.mem_cons_self ..)).1 _
theorem elimE_vr {p : Int} {n : Nat} {rows : List (List Int)} (hp : 0 < p) (hr : ∀ r ∈ rows, Vr p n r) : ∀ k, (∀ r ∈ (elimE p rows k).left, Vr p n r) ∧ (∀ r ∈ (elimE p rows k).table, Vr p n r)
  | 0 => ⟨hr, fun r h => by cases h⟩
  | k + 1 => by
    obtain ⟨h1, h2⟩ := elimE_vr hp hr k
    rw [elimE, stepE]
    split
    · exact ⟨h1, h2⟩
    · rename_i l hl
      have hv := leadR_vr hp h1 hl
      refine ⟨fun r h => ?_, fun r h => ?_⟩
      · obtain ⟨y, hy, rfl⟩ := List.mem_map.mp h
        exact clrR_vr hp (h1 y hy) hv _
      · rcases List.mem_append.mp h with h | h
        · obtain ⟨y, hy, rfl⟩ := List.mem_map.mp h
          exact clrR_vr hp (h2 y hy) hv _
        · rw [List.mem_singleton.mp h]
          exact hv
theorem elimE_len {p : Int} {rows : List (List Int)} : ∀ k, (elimE p rows k).left.length = rows.length ∧ (elimE p rows k).table.length = (elimE p rows k).piv.length ∧ (elimE p rows k).piv.length ≤ k
  | 0 => ⟨rfl, rfl, Nat.le_refl _⟩
  | k + 1 => by
    obtain ⟨h1, h2, h3⟩ := elimE_len (p := p) (rows := rows) k
    rw [elimE, stepE]
    split
    · exact ⟨h1, h2, by omega⟩
    · refine ⟨by rw [List.length_map, h1], by rw [List.length_append, List.length_map, h2, List.length_append]; rfl, by rw [List.length_append, List.length_singleton]; omega⟩
/-- a row comes back; what was tracked stands -/
def RetR (H : Hp) (Q : VK) (r : List Int) : Prop := ∀ v H', Same H H' → RR H' v r → Q v H'
theorem walk_zipT {a b : Addr} {xs ys : List V} {n : Nat} (hn : n = min xs.length ys.length) : Walk (RZ.ItzT K a b) n (fun H => SqT K H a xs ∧ SqT K H b ys) (YPair (fun i => xs[i]?) (fun i => ys[i]?)) := by
  subst hn
  refine ⟨fun i _ hi q => ?_, fun _ q => ⟨xs, ys, q.1, q.2, by omega⟩, fun i H v H' _ q y => ?_⟩
  · have h1 : i < xs.length := by omega
    have h2 : i < ys.length := by omega
    exact ⟨xs, ys, xs[i], ys[i], q.1, q.2, by simp [h1], by simp [h2]⟩
  · obtain ⟨T, x, z, h1, h2, h3, h4, h5⟩ := y
    exact ⟨T, x, z, h1, h2, h3, h4 xs q.1, h5 ys q.2⟩
theorem walk_row {a : Addr} {v : List Int} : Walk (Itt K a) v.length (fun H => SqT K H a (v.map V.int)) (YAt (v.map V.int)) := by
  have h := walk_tup (K := K) (a := a) (xs := v.map V.int)
  rw [List.length_map] at h
  exact h
/-! ### rows of 0; rest (the mirror) -/
def zeroR (n : Nat) : List Int := List.replicate n 0
theorem zeroR_vr {p : Int} (hp : 0 < p) (n : Nat) : Vr p n (zeroR n) := ⟨List.length_replicate, fun x hx => by
  have := List.eq_of_mem_replicate hx
  omega⟩
theorem flat_rep {α : Type} (x : α) : ∀ n, (List.replicate n [x]).flatten = List.replicate n x
  | 0 => rfl
  | n + 1 => by rw [List.replicate_succ, List.flatten_cons, flat_rep x n]; rfl
/-- the first place with a 1 -/
def oneAt (r : List Int) : Nat := r.findIdx fun x => decide (x = 1)
def restR (p : Int) : List (List Int) → List Int → List Int
  | [], v => v
  | r :: rs, v => restR p rs (clrR p v r (oneAt r))
/-- each row of the table has a 1, at a place below n -/
def Ones (n : Nat) (rs : List (List Int)) : Prop := ∀ r ∈ rs, oneAt r < n
theorem oneAt_get {r : List Int} (h : oneAt r < r.length) : r[oneAt r]? = some 1 ∧ ∀ m, m < oneAt r → r[m]? ≠ some 1 := by
  have hh : r.findIdx (fun x => decide (x = 1)) < r.length := h
  refine ⟨?_, fun m hm => ?_⟩
  · have h2 := List.findIdx_getElem (xs := r) (p := fun x => decide (x = 1)) (w := hh)
    have e := of_decide_eq_true h2
    show r[r.findIdx fun x => decide (x = 1)]? = some 1
    rw [List.getElem?_eq_getElem hh, e]
  · intro z
    have h2 := List.not_of_lt_findIdx (xs := r) (p := fun x => decide (x = 1)) hm
    obtain ⟨hlt, e⟩ := List.getElem?_eq_some_iff.mp z
    rw [e] at h2
    exact absurd h2 (by decide)
theorem restR_vr {p : Int} {n : Nat} (hp : 0 < p) : ∀ (rs : List (List Int)) (v : List Int), (∀ r ∈ rs, Vr p n r) → Vr p n v → Vr p n (restR p rs v)
  | [], v, _, h => h
  | r :: rs, v, hr, h => restR_vr hp rs _ (fun r hr' => hr r (List.mem_cons_of_mem _ hr')) (clrR_vr hp h (hr r (List.mem_cons_self ..)) _)
section
variable {p : Int} {n : Nat}
theorem atR_zero {n i : Nat} : atR (zeroR n) i = 0 := by
  unfold atR zeroR
  rw [List.getD_eq_getElem?_getD]
  by_cases h : i < n
  · rw [List.getElem?_replicate, if_pos h]; rfl
  · rw [List.getElem?_replicate, if_neg h]; rfl
theorem ext_at {p : Int} {n : Nat} {u v : List Int} (hu : Vr p n u) (hv : Vr p n v) (h : ∀ i, i < n → atR u i = atR v i) : u = v := by
  apply List.ext_getElem?
  intro i
  by_cases hi : i < n
  · rw [atR_get (by rw [hu.1]; exact hi), atR_get (by rw [hv.1]; exact hi), h i hi]
  · rw [List.getElem?_eq_none (by rw [hu.1]; omega), List.getElem?_eq_none (by rw [hv.1]; omega)]
end
section
variable {p : Int} {n : Nat}
def unitR (n a : Nat) : List Int := (List.range n).map fun k => if k = a then 1 else 0
theorem at_map {g : Nat → Int} {k : Nat} (h : k < n) : atR ((List.range n).map g) k = g k := by
  unfold atR
  rw [List.getD_eq_getElem?_getD, List.getElem?_map, List.getElem?_range h]
  rfl
theorem unitR_vr (h2 : 2 ≤ p) (n a : Nat) : Vr p n (unitR n a) := by
  refine ⟨by unfold unitR; rw [List.length_map, List.length_range], fun x hx => ?_⟩
  obtain ⟨k, _, rfl⟩ := List.mem_map.mp hx
  split <;> omega
theorem unitR_at {n a k : Nat} (h : k < n) : atR (unitR n a) k = if k = a then 1 else 0 := at_map h
/-- the row for a free place, the first i pivots put in -/
theorem set_at {v : List Int} {k j : Nat} {x : Int} (h : k < v.length) : atR (v.set k x) j = if j = k then x else atR v j := by
  unfold atR
  rw [List.getD_eq_getElem?_getD, List.getElem?_set]
  by_cases e : j = k
  · subst e
    rw [if_pos rfl, if_pos h, if_pos rfl]
    rfl
  · rw [if_neg fun z => e z.symm, if_neg e, ← List.getD_eq_getElem?_getD]
theorem getD_some {α : Type} {l : List α} {i : Nat} {x d : α} (h : l[i]? = some x) : l.getD i d = x := by rw [List.getD_eq_getElem?_getD, h]; rfl
end
/-! ### the state may change, all else stands -/
def SameX (a : Addr) (H H' : Hp) : Prop := ∀ b o, b ≠ a → H b = some o → H' b = some o
theorem SameX.trans {a : Addr} {H H1 H2 : Hp} (h : SameX a H H1) (k : SameX a H1 H2) : SameX a H H2 := fun b o n e => k b o n (h b o n e)
theorem Same.x {a : Addr} {H H' : Hp} (h : Same H H') : SameX a H H' := fun b o _ e => h b o e
theorem SameX.put {a : Addr} {H : Hp} {u : HO} : SameX a H (upd H a u) := fun b o n e => by rw [upd_ne n]; exact e
theorem RR.x {a : Addr} {H H' : Hp} {xs : List V} (e : SameX a H H') (ha : H a = some (.lst xs)) {v : V} {r : List Int} (h : RR H v r) : RR H' v r := by
  obtain ⟨t, rfl, o, d, h⟩ := h
  exact ⟨t, rfl, o, d, e t _ (fun z => by rw [z, ha] at h; cases h) h⟩
theorem RR.allx {a : Addr} {H H' : Hp} {xs : List V} (e : SameX a H H') (ha : H a = some (.lst xs)) : ∀ {vs : List V} {rs : List (List Int)}, Paired (RR H) vs rs → Paired (RR H') vs rs
  | _, _, .nil => .nil
  | _, _, .cons h t => .cons (RR.x e ha h) (RR.allx e ha t)
def StA (H : Hp) (a : Addr) : Prop := ∃ s t : Int, H a = some (.lst [.int s, .int t])
/-! ### _law_state, _law_take -/
theorem mem_cut {xs : List V} {lo hi : Option Int} {i : Nat} {x : V} (h : (cutV xs lo hi)[i]? = some x) : x ∈ xs :=
  List.mem_of_mem_drop (List.mem_of_mem_take (List.mem_of_getElem? h))
theorem mem_ints {ns : List Int} {x : V} (h : x ∈ ns.map V.int) : ∃ z, x = .int z := by
  obtain ⟨z, _, e⟩ := List.mem_map.mp h
  exact ⟨z, e.symm⟩
def spState (K : PySem.W.Frag) : Sp := fun vs H Q _ => ∃ (a : Addr) (ns : List Int), vs = [.ref a] ∧ SqL K H a (ns.map V.int) ∧
  ∀ H' p (s t : Int), Same H H' → H p = none → H' p = some (.lst [.int s, .int t]) → Q (.ref p) H'
theorem ok_state (T : Txt K mg) : FnOk P w K mg base CX0 1 T.a__law_state T.d__law_state ["script"] (spState K) := by
  refine T.F__law_state.ok sc__law_state (fun vs H Q E h => ?_) (fun cdv A outer s H vs Q E hr h => ?_)
  · obtain ⟨a, ns, rfl, _⟩ := h
    rfl
  · obtain ⟨a, ns, rfl, hS, q⟩ := h
    refine ⟨_, (pss_cons (ps_set (i := 1) sc__law_state.nd rfl (.inl rfl) pe_int) 
    (pss_cons (ps_set (i := 2) sc__law_state.nd rfl (.inl rfl) pe_int) 
    (pss_cons (ps_for PassesOwn.never rfl (pi_list (pe_slice sl_list (pv 0) po_none (po_some pe_int))) (pg_name (i := 3) sc__law_state.nd rfl (.inl rfl)) 
      (pss_cons (ps_set (i := 1) sc__law_state.nd rfl (.inl rfl) (pe_op op_add (pe_op op_mul (pv 1) pe_int) (pe_callB call_abs (by rfl) T.n_abs (by decide +kernel) (pa_cons (pv 3) pa_nil)))) 
      (pss_one (ps_set (i := 2) sc__law_state.nd rfl (.inl rfl) (pe_op op_modN (pe_callTy call_int1 (by rfl) T.n_int (by decide +kernel) (pa_cons (pe_op op_add (pe_op op_mul (pv 2) pe_int) (pv 3)) pa_nil)) pe_int))))) 
    (pss_one (ps_ret (pe_lst (pa_cons (pv 1) (pa_cons (pv 2) pa_nil)))))))), ?_⟩
    refine ⟨.ref a, rfl, 63, rfl, a, ns.map V.int, rfl, hS, fun c nc => ?_⟩
    refine ⟨c, rfl, ⟨_, .inl (.inl upd_same)⟩, for_list (xs := cutV (ns.map V.int) none (some 63)) (fun i σ H' => ∃ (s t : Int) (y : Option V), σ = [some (.ref a), some (.int s), some (.int t), y] ∧ Same H H' ∧ H' c = some (.lst (cutV (ns.map V.int) none (some 63))))
      ⟨0, 1, none, rfl, same_new nc, upd_same⟩ (fun i σ H' _ ⟨_, _, _, _, _, e⟩ => .inl (.inl e)) ?_ ?_⟩
    · rintro i x σ H' hi ⟨s, t, y, rfl, sm, ec⟩
      obtain ⟨z, rfl⟩ := mem_ints (mem_cut hi)
      refine ⟨_, rfl, _, _, rfl, rfl, .inr ⟨by decide, by decide⟩, _, rfl, _, rfl, _, _, rfl, rfl, ?_⟩
      refine ⟨_, rfl, _, _, rfl, rfl, .inr ⟨by decide, by decide⟩, _, rfl, _, _, rfl, rfl, .inl ⟨_, rfl, _, _, rfl, rfl, (show (2147483647 : Int) ≠ 0 by decide), ?_⟩⟩
      exact ⟨_, _, _, rfl, sm, ec⟩
    · rintro σ H' ⟨s, t, y, rfl, sm, ec⟩
      refine ⟨_, rfl, _, rfl, (by show 2 ≤ sizeLine; decide), fun p np => ?_⟩
      exact q _ p s t (sm.trans (same_new np)) (sm.free np) upd_same
/-- a draw: some number below m, the state changed -/
def spTake : Sp := fun vs H Q _ => ∃ (a : Addr) (m : Int) (s t : Int), vs = [.ref a, .int m] ∧ 0 < m ∧ m < 1000000 ∧ H a = some (.lst [.int s, .int t]) ∧
  ∀ (v s' t' : Int), 0 ≤ v → v < m → Q (.int v) (upd H a (.lst [.int s', .int t']))
theorem ok_take (T : Txt K mg) : FnOk P w K mg base CX0 1 T.a__law_take T.d__law_take ["state", "m"] spTake := by
  refine T.F__law_take.ok sc__law_take (fun vs H Q E h => ?_) (fun cdv A outer s H vs Q E hr h => ?_)
  · obtain ⟨a, m, s, t, rfl, _⟩ := h
    rfl
  · obtain ⟨a, m, s, t, rfl, h0, hm, hS, q⟩ := h
    refine ⟨_, (pss_cons (ps_if (pt_cmpR op_gt (pe_ix ix_list (pv 0) pe_int (fun _ _ => rfl)) pe_int (nomark _)) 
      (pss_cons (ps_set (i := 2) sc__law_take.nd rfl (.inl rfl) (pe_op op_modN (pe_callTy call_int1 (by rfl) T.n_int (by decide +kernel) (pa_cons (pe_ix ix_list (pv 0) pe_int (fun _ _ => rfl)) pa_nil)) (pv 1))) 
      (pss_cons (ps_asg (pe_op op_fdivN (pe_ix ix_list (pv 0) pe_int (fun _ _ => rfl)) (pv 1)) (pg_sub (pv 0) pe_int set_list)) 
      (pss_one (ps_ret (pv 2))))) pss_nil) 
    (pss_cons (ps_asg (pe_op op_modN (pe_callTy call_int1 (by rfl) T.n_int (by decide +kernel) (pa_cons (pe_op op_add (pe_op op_mul (pe_ix ix_list (pv 0) pe_int (fun _ _ => rfl)) pe_int) pe_int) pa_nil)) pe_int) (pg_sub (pv 0) pe_int set_list)) 
    (pss_one (ps_ret (pe_op op_modN (pe_callTy call_int1 (by rfl) T.n_int (by decide +kernel) (pa_cons (pe_op op_fdivN (pe_ix ix_list (pv 0) pe_int (fun _ _ => rfl)) pe_int) pa_nil)) (pv 1)))))), ?_⟩
    have hmod : ∀ x : Int, 0 ≤ x.fmod m ∧ x.fmod m < m := fun x => by
      rw [Int.fmod_eq_emod_of_nonneg _ (by omega)]
      exact ⟨Int.emod_nonneg _ (by omega), Int.emod_lt_of_pos _ h0⟩
    have hne : m ≠ 0 := by omega
    have hdv : m ≠ 0 ∧ m.natAbs < 1073741824 := by omega
    refine ⟨.ref a, rfl, a, _, 0, _, rfl, rfl, .inl (.inl hS), atI_nat (j := 0) rfl, _, _, rfl, rfl, _, rfl, ite2 (fun c => ?_) (fun c => ?_)⟩
    · refine ⟨.ref a, rfl, a, _, 0, _, rfl, rfl, .inl (.inl hS), atI_nat (j := 0) rfl, .inl ⟨_, rfl, _, rfl, _, _, rfl, rfl, hne, ?_⟩⟩
      refine ⟨.ref a, rfl, a, _, 0, _, rfl, rfl, .inl (.inl hS), atI_nat (j := 0) rfl, _, rfl, _, _, rfl, rfl, hdv, ?_⟩
      refine ⟨.ref a, rfl, a, _, _, 0, rfl, rfl, hS, rfl, ?_⟩
      exact ⟨_, rfl, q _ _ _ (hmod s).1 (hmod s).2⟩
    · refine ⟨.ref a, rfl, a, _, 1, _, rfl, rfl, .inl (.inl hS), atI_nat (j := 1) rfl, _, _, rfl, rfl, .inr ⟨by decide, by decide⟩, _, _, rfl, rfl, .inl ⟨_, rfl, _, _, rfl, rfl, (show (2147483647 : Int) ≠ 0 by decide), ?_⟩⟩
      refine ⟨.ref a, rfl, a, _, _, 1, rfl, rfl, hS, rfl, ?_⟩
      refine ⟨.ref a, rfl, a, _, 1, _, rfl, rfl, .inl (.inl upd_same), atI_nat (j := 1) rfl, _, _, rfl, rfl, ⟨by decide, by decide⟩, .inl ⟨_, rfl, _, rfl, _, _, rfl, rfl, hne, ?_⟩⟩
      exact q _ _ _ (hmod _).1 (hmod _).2
/-! ### written data: ints, tuples and lists of such -/
inductive Tr where
  | int (i : Int)
  | tup (ts : List Tr)
  | lst (ts : List Tr)
inductive Has (K : PySem.W.Frag) (H : Hp) : V → Tr → Prop
  | int (i : Int) : Has K H (.int i) (.int i)
  | tup {a : Addr} {us : List V} {ts : List Tr} (h : SqT K H a us) (l : us.length = ts.length) (g : ∀ (i : Nat) (u : V) (t : Tr), us[i]? = some u → ts[i]? = some t → Has K H u t) : Has K H (.ref a) (.tup ts)
  | lst {a : Addr} {us : List V} {ts : List Tr} (h : H a = some (.lst us)) (l : us.length = ts.length) (g : ∀ (i : Nat) (u : V) (t : Tr), us[i]? = some u → ts[i]? = some t → Has K H u t) : Has K H (.ref a) (.lst ts)
theorem Has.mono {H H' : Hp} {v : V} {t : Tr} (e : Same H H') (h : Has K H v t) : Has K H' v t := by
  induction h with
  | int i => exact .int i
  | tup h l g ih => exact .tup (Own.same_tup e h) l ih
  | lst h l g ih => exact .lst (e _ _ h) l ih
/-- so many values, each as told -/
def Hass (K : PySem.W.Frag) (H : Hp) (us : List V) (ts : List Tr) : Prop := us.length = ts.length ∧ ∀ (i : Nat) (u : V) (t : Tr), us[i]? = some u → ts[i]? = some t → Has K H u t
def EvD (K : PySem.W.Frag) (te : TE) (σ : L2.St) (t : Tr) : Prop := ∀ (H : Hp) (Q : VK), (∀ v H', Same H H' → Has K H' v t → Q v H') → te σ H Q
def EvDs (K : PySem.W.Frag) (ta : TA) (σ : L2.St) (ts : List Tr) : Prop := ∀ (H : Hp) (Q : List V → Hp → Prop), (∀ vs H', Same H H' → Hass K H' vs ts → Q vs H') → ta σ H Q
theorem ed_int {σ : L2.St} {i : Int} : EvD K (tC (.int i)) σ (.int i) := fun H Q q => q _ H (Same.refl H) (.int i)
theorem ed_var {σ : L2.St} {i : Nat} {z : Int} (h : σ[i]? = some (some (.int z))) : EvD K (tVar i) σ (.int z) := fun H Q q => ⟨_, h, q _ H (Same.refl H) (.int z)⟩
theorem ed_nil {σ : L2.St} : EvDs K tNil σ [] := fun H Q q => q [] H (Same.refl H) ⟨rfl, fun i u t h => by simp at h⟩
theorem ed_cons {σ : L2.St} {te : TE} {ta : TA} {t : Tr} {ts : List Tr} (h : EvD K te σ t) (k : EvDs K ta σ ts) : EvDs K (tCons te ta) σ (t :: ts) := fun H Q q => h H _ fun v H1 s1 hv => k H1 _ fun vs H2 s2 hs => q (v :: vs) H2 (s1.trans s2) ⟨by rw [List.length_cons, List.length_cons, hs.1], fun i u t' h1 h2 => by
  cases i with
  | zero =>
    cases h1
    cases h2
    exact hv.mono s2
  | succ i => exact hs.2 i u t' h1 h2⟩
theorem ed_tup {σ : L2.St} {ta : TA} {ts : List Tr} (h : EvDs K ta σ ts) (hl : ts.length ≤ 1000) : EvD K (tTup ta) σ (.tup ts) := fun H Q q => h H _ fun vs H1 s1 hs => ⟨Nat.le_of_lt (small2000 (by rw [hs.1]; omega)), fun t nt => q _ _ (s1.trans (same_new nt)) (.tup (.inl (.inl upd_same)) hs.1 fun i u t' h1 h2 => (hs.2 i u t' h1 h2).mono (same_new nt))⟩
theorem ed_lst {σ : L2.St} {ta : TA} {ts : List Tr} (h : EvDs K ta σ ts) (hl : ts.length ≤ 1000) : EvD K (tLst ta) σ (.lst ts) := fun H Q q => h H _ fun vs H1 s1 hs => ⟨Nat.le_of_lt (small2000 (by rw [hs.1]; omega)), fun t nt => q _ _ (s1.trans (same_new nt)) (.lst upd_same hs.1 fun i u t' h1 h2 => (hs.2 i u t' h1 h2).mono (same_new nt))⟩
/-! tables -/
structure Tb where
  ps : List Int
  pw : List (List Int)
  cj : List (List (List Int))
def Tup1 (K : PySem.W.Frag) (H : Hp) (v : V) (M : List (List Int)) : Prop := ∃ t us, v = .ref t ∧ SqT K H t us ∧ Paired (RS K H) us M
structure TbAt (K : PySem.W.Frag) (H : Hp) (v : V) (t : Tb) : Prop where
  ex : ∃ (x a b c : Addr) (us : List V), v = .ref x ∧ SqT K H x [.ref a, .ref b, .ref c] ∧ SqT K H a (t.ps.map V.int) ∧ Tup1 K H (.ref b) t.pw ∧ SqT K H c us ∧ Paired (Tup1 K H) us t.cj
/-- all tuples stand -/
def Tps (K : PySem.W.Frag) (H H' : Hp) : Prop := ∀ (a : Addr) (xs : List V), SqT K H a xs → SqT K H' a xs
theorem Tps.of {H H' : Hp} (e : Same H H') : Tps K H H' := fun _ _ h => Own.same_tup e h
theorem Tps.trans {H H1 H2 : Hp} (h : Tps K H H1) (k : Tps K H1 H2) : Tps K H H2 := fun a xs e => k a xs (h a xs e)
theorem Tps.x {H H' : Hp} {a : Addr} {xs : List V} (e : SameX a H H') (ha : H a = some (.lst xs)) : Tps K H H' := fun b ys h => by
  rcases h with (h | ⟨o, h⟩) | h
  · exact .inl (.inl (e b _ (fun z => by rw [z, ha] at h; cases h) h))
  · exact .inl (.inr ⟨o, e b _ (fun z => by rw [z, ha] at h; cases h) h⟩)
  · exact .inr h
theorem rs_tps {H H' : Hp} (e : Tps K H H') {v : V} {r : List Int} (h : RS K H v r) : RS K H' v r := let ⟨t, a, b⟩ := h; ⟨t, a, e _ _ b⟩
theorem paired_via {α β : Type} {R S : α → β → Prop} (f : ∀ a b, R a b → S a b) : ∀ {xs : List α} {ys : List β}, Paired R xs ys → Paired S xs ys
  | _, _, .nil => .nil
  | _, _, .cons h t => .cons (f _ _ h) (paired_via f t)
theorem tup1_tps {H H' : Hp} (e : Tps K H H') {v : V} {M : List (List Int)} (h : Tup1 K H v M) : Tup1 K H' v M := let ⟨t, us, a, b, c⟩ := h; ⟨t, us, a, e _ _ b, paired_via (fun _ _ => rs_tps e) c⟩
theorem TbAt.tps {H H' : Hp} (e : Tps K H H') {v : V} {t : Tb} (h : TbAt K H v t) : TbAt K H' v t := by
  obtain ⟨x, a, b, c, us, h1, h2, h3, h4, h5, h6⟩ := h.ex
  exact ⟨x, a, b, c, us, h1, e _ _ h2, e _ _ h3, tup1_tps e h4, e _ _ h5, paired_via (fun _ _ => tup1_tps e) h6⟩
/-! lists of lists, each its own -/
def Rw1 (H : Hp) (x : Addr) (r : List Int) : Prop := H x = some (.lst (r.map V.int))
/-- a list of lists of ints; it and they are newer than H0 -/
structure LL (H0 H : Hp) (a : Addr) (L : List (List Int)) : Prop where
  ex : ∃ as : List Addr, H a = some (.lst (as.map V.ref)) ∧ as.Nodup ∧ Paired (Rw1 H) as L ∧ (∀ x ∈ as, H0 x = none ∧ x ≠ a) ∧ H0 a = none
theorem LL.mono {H0 H H' : Hp} {a : Addr} {L : List (List Int)} (e : Same H H') (h : LL H0 H a L) : LL H0 H' a L := by
  obtain ⟨as, h1, h2, h3, h4⟩ := h.ex
  exact ⟨as, e _ _ h1, h2, paired_via (fun _ _ q => e _ _ q) h3, h4⟩
theorem paired_set {α β : Type} {R : α → β → Prop} {b : β} : ∀ {as : List α} {bs : List β} {i : Nat} {a : α}, Paired R as bs → as[i]? = some a → R a b → Paired R as (bs.set i b)
  | _, _, 0, _, .cons _ t, e, h => by cases e; exact .cons h t
  | _, _, i + 1, _, .cons q t, e, h => .cons q (paired_set (i := i) t e h)
  | _, _, 0, _, .nil, e, _ => by cases e
  | _, _, i + 1, _, .nil, e, _ => by cases e
/-- one of them is changed -/
theorem paired_upd {H : Hp} {x : Addr} {r' : List Int} {ys : List V} : ∀ {as : List Addr} {L : List (List Int)} {i : Nat}, Paired (Rw1 H) as L → as.Nodup → as[i]? = some x → ys = r'.map V.int → Paired (Rw1 (upd H x (.lst ys))) as (L.set i r')
  | _, _, 0, @Paired.cons _ _ _ b r bs rs h t, nd, e, ey => by
    cases e
    subst ey
    obtain ⟨h1, _⟩ := List.nodup_cons.mp nd
    refine .cons upd_same ?_
    have key : ∀ {cs : List Addr} {M : List (List Int)}, (x ∉ cs) → Paired (Rw1 H) cs M → Paired (Rw1 (upd H x (.lst (r'.map V.int)))) cs M := by
      intro cs M hn q
      induction q with
      | nil => exact .nil
      | cons q _ ih =>
        refine .cons ?_ (ih fun z => hn (List.mem_cons_of_mem _ z))
        unfold Rw1
        rw [upd_ne (fun z => hn (by rw [← z]; exact List.mem_cons_self))]
        exact q
    exact key h1 t
  | _, _, i + 1, @Paired.cons _ _ _ b r bs rs h t, nd, e, ey => by
    obtain ⟨h1, h2⟩ := List.nodup_cons.mp nd
    refine .cons ?_ (paired_upd (i := i) t h2 e ey)
    unfold Rw1
    rw [upd_ne (fun z => h1 (by rw [z]; exact List.mem_of_getElem? e))]
    exact h
  | _, _, 0, .nil, _, e, _ => by cases e
  | _, _, i + 1, .nil, _, e, _ => by cases e
/-- a comprehension of fresh things: each element a new object -/
theorem lc_new {α : Type} {J : It} {n : Nat} {G : Hp → Prop} {Y : Nat → Hp → V → Hp → Prop} (w : Walk J n G Y) (R : Hp → Addr → α → Prop) (hR : ∀ {H H' : Hp} {x : Addr} {y : α}, Same H H' → R H x y → R H' x y) (hput : ∀ {H : Hp} {D x : Addr} {ds : List Addr} {ws : List V} {y : α}, H D = some (.lst (ds.map V.ref)) → x ≠ D → R H x y → R (upd H D (.lst ws)) x y) (hin : ∀ {H : Hp} {x : Addr} {y : α}, R H x y → ∃ o, H x = some o) (f : Nat → α) (hn : n ≤ 1000)
    {g : TG} {te : TE} {vs : List Nat} {σ : L2.St} {H1 : Hp} {D : Addr} {Qd : Hp → Prop} (nD : H1 D = none) (hG : ∀ H, Same H1 H → G H)
    (hs : ∀ i x H H' (Q : VK), i < n → Same H1 H → Y i H x H' → (∀ y H4, Same H H4 → H y = none → R H4 y (f i) → Q (.ref y) H4) → g x (wipe σ vs) H' fun σ2 H2 => wipe σ2 vs = wipe σ vs ∧ te σ2 H2 Q)
    (hd : ∀ H as, Same H1 H → H D = some (.lst (as.map V.ref)) → as.Nodup → (∀ x ∈ as, H1 x = none ∧ x ≠ D) → Paired (R H) as ((List.range n).map f) → Qd H) :
    ∃ W : Nat → Nat → Hp → Prop, (∃ m, W 0 m (upd H1 D (.lst []))) ∧ ∀ i m H, W i m H →
      (J.stop i H ∧ Qd H) ∨ (J.go i H ∧ ∃ Nx : Hp → Prop, (∀ H', Nx H' → ∃ m', m' < m ∧ W (i + 1) m' H') ∧ ∀ x H', J.yld i H x H' → g x (wipe σ vs) H' fun σ2 H2 => wipe σ2 vs = wipe σ vs ∧ tYes σ2 H2 fun b H3 =>
        if b = true then te σ2 H3 fun y H4 => ∃ acc, H4 D = some (.lst acc) ∧ acc.length < sizeLine ∧ Nx (upd H4 D (.lst (acc ++ [y]))) else Nx H3) := by
  refine lc_it w (fun i H => i ≤ n ∧ Same H1 H ∧ ∃ as : List Addr, H D = some (.lst (as.map V.ref)) ∧ as.Nodup ∧ (∀ x ∈ as, H1 x = none ∧ x ≠ D) ∧ Paired (R H) as ((List.range i).map f)) ⟨Nat.zero_le n, same_new nD, [], upd_same, List.nodup_nil, (fun x hx => by cases hx), .nil⟩ (fun i H _ h => hG H h.2.1) (fun i x H H' hi hP hY => ?_) (fun H hP => ?_)
  · obtain ⟨_, sm, as, eD, nd, hno, hp⟩ := hP
    have hlen : as.length = i := by
      have := Paired.length hp
      rw [List.length_map, List.length_range] at this
      exact this
    have z := hs i x H H' (fun y H4 => ∃ acc, H4 D = some (.lst acc) ∧ acc.length < sizeLine ∧ (i + 1 ≤ n ∧ Same H1 (upd H4 D (.lst (acc ++ [y]))) ∧ ∃ as : List Addr, (upd H4 D (.lst (acc ++ [y]))) D = some (.lst (as.map V.ref)) ∧ as.Nodup ∧ (∀ x ∈ as, H1 x = none ∧ x ≠ D) ∧ Paired (R (upd H4 D (.lst (acc ++ [y])))) as ((List.range (i + 1)).map f))) hi sm hY (fun y H4 sm4 ny r => by
      have eD4 := sm4 _ _ eD
      have hyD : y ≠ D := fun q => by rw [q, eD] at ny; cases ny
      have hall : ∀ x ∈ as ++ [y], H1 x = none ∧ x ≠ D := fun x hx => by
        rcases List.mem_append.mp hx with hx | hx
        · exact hno x hx
        · rw [List.mem_singleton.mp hx]
          exact ⟨sm.free ny, hyD⟩
      have hnd : (as ++ [y]).Nodup := by
        rw [List.nodup_append]
        refine ⟨nd, List.nodup_cons.mpr ⟨by simp, List.nodup_nil⟩, fun a ha b hb e => ?_⟩
        rw [List.mem_singleton.mp hb] at e
        obtain ⟨j, hj⟩ := List.mem_iff_getElem?.mp ha
        obtain ⟨z, _, hz⟩ := paired_get hp hj
        obtain ⟨o, ho⟩ := hin hz
        rw [e, ny] at ho
        cases ho
      refine ⟨as.map V.ref, eD4, small2000 (by rw [List.length_map]; omega), hi, same_mut (sm.trans sm4) nD, as ++ [y], by rw [upd_same, List.map_append]; rfl, hnd, hall, ?_⟩
      rw [List.range_succ, List.map_append]
      have up : ∀ {cs : List Addr} {M : List α}, (∀ x ∈ cs, x ≠ D) → Paired (R H4) cs M → Paired (R (upd H4 D (.lst (as.map V.ref ++ [V.ref y])))) cs M := by
        intro cs M hc q
        induction q with
        | nil => exact .nil
        | cons q _ ih => exact .cons (hput eD4 (hc _ List.mem_cons_self) q) (ih fun x hx => hc x (List.mem_cons_of_mem _ hx))
      exact up (fun x hx => (hall x hx).2) (paired_add (paired_via (fun _ _ q => hR sm4 q) hp) r))
    exact z
  · obtain ⟨_, sm, as, eD, nd, hno, hp⟩ := hP
    exact hd H as sm eD nd hno hp
/-! slices and sums of tuples -/
theorem slA_q {H : Hp} {a : Addr} {xs : List V} {lo hi : Option Int} {Q : VK} (h : SqT K H a xs) (q : ∀ t H', Same H H' → SqT K H' t (cutV xs lo hi) → Q (.ref t) H') : rSlA K (.ref a) lo hi H Q := by
  refine ⟨a, xs, rfl, h, fun ⟨h0, h1⟩ => q a H (Same.refl H) ?_, fun _ t nt => q t _ (same_new nt) (.inl (.inl upd_same))⟩
  unfold cutV
  rw [h0, h1, List.drop_zero, Nat.sub_zero, List.take_length]
  exact h
theorem catA_q {H : Hp} {a b : Addr} {xs ys : List V} {Q : VK} (hx : SqT K H a xs) (hy : SqT K H b ys) (hl : xs.length + ys.length ≤ 2000) (q : ∀ t H', Same H H' → SqT K H' t (xs ++ ys) → Q (.ref t) H') : rCatA K (.ref a) (.ref b) H Q := by
  refine ⟨a, b, xs, ys, rfl, rfl, hx, hy, Nat.le_of_lt (small2000 (by omega)), fun e => q b H (Same.refl H) ?_, fun _ e => q a H (Same.refl H) ?_, fun _ _ t nt => q t _ (same_new nt) (.inl (.inl upd_same))⟩
  · rw [e, List.nil_append]
    exact hy
  · rw [e, List.append_nil]
    exact hx
/-! ### _law_made: the mirror -/
abbrev PwE : Type := Nat × Nat × Int
abbrev CjE : Type := Nat × Nat × List (Nat × Int)
def trP (x : PwE) : Tr := .tup [.int (x.1 : Int), .int (x.2.1 : Int), .int x.2.2]
def trE (y : Nat × Int) : Tr := .tup [.int (y.1 : Int), .int y.2]
def trC (x : CjE) : Tr := .tup [.int (x.1 : Int), .int (x.2.1 : Int), .lst (x.2.2.map trE)]
def putR (L : List (List Int)) (x : PwE) : List (List Int) := L.set x.1 ((L.getD x.1 []).set x.2.1 x.2.2)
def madeP (n : Nat) (pws : List PwE) : List (List Int) := pws.foldl putR (List.replicate n (zeroR n))
def rows0 (n : Nat) : List (List (List Int)) := (List.range n).map fun i => (List.range (n - (i + 1))).map fun m => unitR n (i + 1 + m)
def pairR (n : Nat) (prs : List (Nat × Int)) : List Int := prs.foldl (fun r y => r.set y.1 y.2) (zeroR n)
def putC (n : Nat) (C : List (List (List Int))) (x : CjE) : List (List (List Int)) := C.set x.1 ((C.getD x.1 []).set (x.2.1 - x.1 - 1) (pairR n x.2.2))
def madeC (n : Nat) (cjs : List CjE) : List (List (List Int)) := cjs.foldl (putC n) (rows0 n)
def madeT (ps : List Int) (pws : List PwE) (cjs : List CjE) : Tb := ⟨ps, madeP ps.length pws, madeC ps.length cjs⟩
theorem putR_len {L : List (List Int)} {n : Nat} (x : PwE) (h : L.length = n ∧ ∀ r ∈ L, r.length = n) (hx : x.1 < n) : (putR L x).length = n ∧ ∀ r ∈ putR L x, r.length = n := by
  unfold putR
  refine ⟨by rw [List.length_set]; exact h.1, fun r hr => ?_⟩
  rcases List.mem_or_eq_of_mem_set hr with hr | rfl
  · exact h.2 r hr
  · rw [List.length_set, getD_some (List.getElem?_eq_getElem (by rw [h.1]; exact hx))]
    exact h.2 _ (List.getElem_mem _)
theorem take_fold {α β : Type} (f : β → α → β) (b : β) (l : List α) {i : Nat} {x : α} (h : l[i]? = some x) : (l.take (i + 1)).foldl f b = f ((l.take i).foldl f b) x := by
  rw [List.take_add_one, h, List.foldl_append]
  rfl
theorem foldP_len {n : Nat} : ∀ (pws : List PwE) {L : List (List Int)}, (∀ x ∈ pws, x.1 < n) → (L.length = n ∧ ∀ r ∈ L, r.length = n) → ((pws.foldl putR L).length = n ∧ ∀ r ∈ pws.foldl putR L, r.length = n)
  | [], _, _, h => h
  | x :: pws, L, hx, h => foldP_len pws (fun y hy => hx y (List.mem_cons_of_mem _ hy)) (putR_len x h (hx x (List.mem_cons_self ..)))
theorem rep_len (n : Nat) : (List.replicate n (zeroR n)).length = n ∧ ∀ r ∈ List.replicate n (zeroR n), r.length = n := ⟨List.length_replicate, fun r hr => by
  rw [List.eq_of_mem_replicate hr]
  exact List.length_replicate⟩
/-- the shape of the conjugates -/
def CSh (n : Nat) (C : List (List (List Int))) : Prop := C.length = n ∧ ∀ (i : Nat) (M : List (List Int)), C[i]? = some M → M.length = n - (i + 1) ∧ ∀ r ∈ M, r.length = n
theorem pairR_len {n : Nat} : ∀ (prs : List (Nat × Int)) (r : List Int), r.length = n → (prs.foldl (fun r y => r.set y.1 y.2) r).length = n
  | [], _, h => h
  | y :: prs, r, h => pairR_len prs _ (by rw [List.length_set]; exact h)
theorem putC_sh {n : Nat} {C : List (List (List Int))} (x : CjE) (h : CSh n C) (hx : x.1 < n) : CSh n (putC n C x) := by
  unfold putC
  refine ⟨by rw [List.length_set]; exact h.1, fun i M e => ?_⟩
  rw [List.getElem?_set] at e
  by_cases c : x.1 = i
  · subst c
    rw [if_pos rfl, if_pos (by rw [h.1]; exact hx)] at e
    cases e
    have hx2 : x.1 < C.length := by rw [h.1]; exact hx
    have e1 : C[x.1]? = some C[x.1] := List.getElem?_eq_getElem hx2
    obtain ⟨h1, h2⟩ := h.2 _ _ e1
    rw [getD_some e1]
    refine ⟨by rw [List.length_set]; exact h1, fun r hr => ?_⟩
    rcases List.mem_or_eq_of_mem_set hr with hr | rfl
    · exact h2 r hr
    · exact pairR_len _ _ List.length_replicate
  · rw [if_neg c] at e
    exact h.2 i M e
theorem rows0_sh (n : Nat) : CSh n (rows0 n) := by
  unfold rows0
  refine ⟨by rw [List.length_map, List.length_range], fun i M e => ?_⟩
  rw [List.getElem?_map] at e
  have hi : i < n := by
    rcases Nat.lt_or_ge i n with h | h
    · exact h
    · rw [List.getElem?_eq_none (by rw [List.length_range]; exact h)] at e
      cases e
  rw [List.getElem?_range hi] at e
  cases e
  refine ⟨by rw [List.length_map, List.length_range], fun r hr => ?_⟩
  obtain ⟨m, _, rfl⟩ := List.mem_map.mp hr
  unfold unitR
  rw [List.length_map, List.length_range]
theorem foldC_sh {n : Nat} : ∀ (cjs : List CjE) {C : List (List (List Int))}, (∀ x ∈ cjs, x.1 < n) → CSh n C → CSh n (cjs.foldl (putC n) C)
  | [], _, _, h => h
  | x :: cjs, C, hx, h => foldC_sh cjs (fun y hy => hx y (List.mem_cons_of_mem _ hy)) (putC_sh x h (hx x (List.mem_cons_self ..)))
/-! ### _law_made -/
theorem same_sql {H H' : Hp} {a : Addr} {xs : List V} (e : Same H H') (h : SqL K H a xs) : SqL K H' a xs := by
  rcases h with (h | ⟨o, h⟩) | h
  · exact .inl (.inl (e _ _ h))
  · exact .inl (.inr ⟨o, e _ _ h⟩)
  · exact .inr h
theorem has_int {H : Hp} {v : V} {i : Int} (h : Has K H v (.int i)) : v = .int i := by cases h; rfl
theorem has_lst {H : Hp} {v : V} {ts : List Tr} (h : Has K H v (.lst ts)) : ∃ a us, v = .ref a ∧ H a = some (.lst us) ∧ us.length = ts.length ∧ ∀ (i : Nat) (u : V) (t : Tr), us[i]? = some u → ts[i]? = some t → Has K H u t := by
  cases h with
  | lst h l g => exact ⟨_, _, rfl, h, l, g⟩
theorem has_tup {H : Hp} {v : V} {ts : List Tr} (h : Has K H v (.tup ts)) : ∃ a us, v = .ref a ∧ SqT K H a us ∧ us.length = ts.length ∧ ∀ (i : Nat) (u : V) (t : Tr), us[i]? = some u → ts[i]? = some t → Has K H u t := by
  cases h with
  | tup h l g => exact ⟨_, _, rfl, h, l, g⟩
theorem has_tup3 {H : Hp} {v : V} {a b c : Tr} (h : Has K H v (.tup [a, b, c])) : ∃ t x y z, v = .ref t ∧ SqT K H t [x, y, z] ∧ Has K H x a ∧ Has K H y b ∧ Has K H z c := by
  obtain ⟨t, us, rfl, hS, hl, g⟩ := has_tup h
  match us, hl with
  | [x, y, z], _ => exact ⟨t, x, y, z, rfl, hS, g 0 _ _ rfl rfl, g 1 _ _ rfl rfl, g 2 _ _ rfl rfl⟩
theorem has_tup2 {H : Hp} {v : V} {a b : Tr} (h : Has K H v (.tup [a, b])) : ∃ t x y, v = .ref t ∧ SqT K H t [x, y] ∧ Has K H x a ∧ Has K H y b := by
  obtain ⟨t, us, rfl, hS, hl, g⟩ := has_tup h
  match us, hl with
  | [x, y], _ => exact ⟨t, x, y, rfl, hS, g 0 _ _ rfl rfl, g 1 _ _ rfl rfl⟩
theorem range_zero (n : Nat) : (List.range n).map (fun _ => (0 : Int)) = zeroR n := by
  unfold zeroR
  rw [List.map_const', List.length_range]
def rTupL (K : PySem.W.Frag) : List V → Hp → VK → Prop := fun xs H Q => ∃ p ys, xs = [.ref p] ∧ SqL K H p ys ∧ ∀ (l : Addr) (ob : Obj), H l = none → ob.dict = none → Q (.ref l) (upd H l (.frz ob (.tup ys)))
theorem call_tupL {X : Cx} : CallR X (.type "tuple") (rTupL X.K) := Own.call_tuple_ofF
def spMade (K : PySem.W.Frag) : Sp := fun vs H Q _ => ∃ (l : Addr) (u v : V) (ps : List Int) (pws : List PwE) (cjs : List CjE), vs = [.ref l, u, v] ∧ SqL K H l (ps.map V.int) ∧ Has K H u (.lst (pws.map trP)) ∧ Has K H v (.lst (cjs.map trC)) ∧ ps.length ≤ 100 ∧ (∀ x ∈ pws, x.1 < ps.length ∧ x.2.1 < ps.length) ∧
  (∀ x ∈ cjs, x.1 < x.2.1 ∧ x.2.1 < ps.length ∧ ∀ y ∈ x.2.2, y.1 < ps.length) ∧ ∀ z H', Same H H' → TbAt K H' z (madeT ps pws cjs) → Q z H'
theorem ixN_ok {n k : Nat} (h : k < n) : ixN n (k : Int) = some k := by
  unfold ixN
  rw [if_pos (by omega), if_pos (by omega)]
  rfl
/-- a list of rows, none empty -/
def Rws1 (H : Hp) (x : Addr) (M : List (List Int)) : Prop := ∃ bs : List Addr, H x = some (.lst (bs.map V.ref)) ∧ Paired (Rw1 H) bs M ∧ ∀ r ∈ M, r ≠ []
theorem refs_ints {bs : List Addr} {r : List Int} (h : bs.map V.ref = r.map V.int) : r = [] := by
  cases r with
  | nil => rfl
  | cons x r =>
    cases bs with
    | nil => cases h
    | cons b bs => cases h
theorem rw1_upd {H : Hp} {x y : Addr} {bs : List Addr} {r : List Int} {o : HO} (hx : H x = some (.lst (bs.map V.ref))) (hr : r ≠ []) (h : Rw1 H y r) : Rw1 (upd H x o) y r := by
  unfold Rw1 at h ⊢
  rw [upd_ne (fun z => by
    rw [z, hx] at h
    injection h with h
    injection h with h
    exact hr (refs_ints h))]
  exact h
theorem rws_upd {H : Hp} {x y : Addr} {bs : List Addr} {M : List (List Int)} {o : HO} (hx : H x = some (.lst (bs.map V.ref))) (ne : y ≠ x) (h : Rws1 H y M) : Rws1 (upd H x o) y M := by
  obtain ⟨cs, h1, h2, h3⟩ := h
  refine ⟨cs, by rw [upd_ne ne]; exact h1, ?_, h3⟩
  have key : ∀ {cs : List Addr} {M : List (List Int)}, (∀ r ∈ M, r ≠ []) → Paired (Rw1 H) cs M → Paired (Rw1 (upd H x o)) cs M := by
    intro cs M hM q
    induction q with
    | nil => exact .nil
    | cons q _ ih => exact .cons (rw1_upd hx (hM _ List.mem_cons_self) q) (ih fun r hr => hM r (List.mem_cons_of_mem _ hr))
  exact key h3 h2
/-- the rows of the conjugates while they are made -/
structure LLL (H0 H : Hp) (a : Addr) (C : List (List (List Int))) : Prop where
  ex : ∃ as : List Addr, H a = some (.lst (as.map V.ref)) ∧ as.Nodup ∧ Paired (Rws1 H) as C ∧ (∀ x ∈ as, H0 x = none ∧ x ≠ a) ∧ H0 a = none
theorem rws_mono {H H' : Hp} (e : Same H H') {x : Addr} {M : List (List Int)} (h : Rws1 H x M) : Rws1 H' x M := let ⟨bs, h1, h2, h3⟩ := h; ⟨bs, e _ _ h1, paired_via (fun _ _ q => e _ _ q) h2, h3⟩
theorem LLL.mono {H0 H H' : Hp} {a : Addr} {C : List (List (List Int))} (e : Same H H') (h : LLL H0 H a C) : LLL H0 H' a C := by
  obtain ⟨as, h1, h2, h3, h4⟩ := h.ex
  exact ⟨as, e _ _ h1, h2, paired_via (fun _ _ q => rws_mono e q) h3, h4⟩
/-- one row of one list is put in -/
theorem LLL.put {H0 H : Hp} {a : Addr} {C : List (List (List Int))} (h : LLL H0 H a C) {i k : Nat} {M : List (List Int)} {ro : Addr} {r : List Int} (ei : C[i]? = some M) (hk : k < M.length) (hro : Rw1 H ro r) (hr : r ≠ []) :
    ∃ (as : List Addr) (x : Addr) (bs : List Addr), H a = some (.lst (as.map V.ref)) ∧ as[i]? = some x ∧ H x = some (.lst (bs.map V.ref)) ∧ k < bs.length ∧ H0 x = none ∧ LLL H0 (upd H x (.lst ((bs.map V.ref).set k (.ref ro)))) a (C.set i (M.set k r)) := by
  obtain ⟨as, h1, h2, h3, h4, h5⟩ := h.ex
  obtain ⟨x, ex, hx⟩ := paired_get2 h3 ei
  obtain ⟨bs, hb1, hb2, hb3⟩ := hx
  have hlen := Paired.length hb2
  obtain ⟨z1, z2⟩ := h4 x (List.mem_of_getElem? ex)
  refine ⟨as, x, bs, h1, ex, hb1, by omega, z1, as, by rw [upd_ne (Ne.symm z2)]; exact h1, h2, ?_, h4, h5⟩
  have key : ∀ {as : List Addr} {C : List (List (List Int))} {i : Nat}, Paired (Rws1 H) as C → as.Nodup → as[i]? = some x → Paired (Rws1 (upd H x (.lst ((bs.map V.ref).set k (.ref ro))))) as (C.set i (M.set k r)) := by
    intro as C i q
    induction q generalizing i with
    | nil => intro _ e; cases e
    | @cons y N as C q t ih =>
      intro nd e
      obtain ⟨n1, n2⟩ := List.nodup_cons.mp nd
      cases i with
      | zero =>
        cases e
        refine .cons ⟨bs.set k ro, by rw [upd_same, List.map_set], ?_, fun r' hr' => ?_⟩ ?_
        · have up : ∀ {cs : List Addr} {N : List (List Int)}, (∀ r ∈ N, r ≠ []) → Paired (Rw1 H) cs N → Paired (Rw1 (upd H x (.lst ((bs.map V.ref).set k (.ref ro))))) cs N := by
            intro cs N hN q
            induction q with
            | nil => exact .nil
            | cons q _ ih => exact .cons (rw1_upd hb1 (hN _ List.mem_cons_self) q) (ih fun r hr => hN r (List.mem_cons_of_mem _ hr))
          have st : ∀ {R : Addr → List Int → Prop} {as : List Addr} {L : List (List Int)} {k : Nat}, Paired R as L → R ro r → Paired R (as.set k ro) (L.set k r) := by
            intro R as L k q
            induction q generalizing k with
            | nil => intro _; exact .nil
            | cons q t ih =>
              intro hh
              cases k with
              | zero => exact .cons hh t
              | succ k => exact .cons q (ih hh)
          exact st (up hb3 hb2) (rw1_upd hb1 hr hro)
        · rcases List.mem_or_eq_of_mem_set hr' with hr' | rfl
          · exact hb3 r' hr'
          · exact hr
        · have up : ∀ {cs : List Addr} {N : List (List (List Int))}, x ∉ cs → Paired (Rws1 H) cs N → Paired (Rws1 (upd H x (.lst ((bs.map V.ref).set k (.ref ro))))) cs N := by
            intro cs N hn q
            induction q with
            | nil => exact .nil
            | cons q _ ih => exact .cons (rws_upd hb1 (fun z => hn (by rw [← z]; exact List.mem_cons_self)) q) (ih fun z => hn (List.mem_cons_of_mem _ z))
          exact up n1 t
      | succ i => exact .cons (rws_upd hb1 (fun z => n1 (by rw [z]; exact List.mem_of_getElem? e)) q) (ih n2 e)
  exact key h3 h2 ex
theorem range_getD {α : Type} {L : List α} (d : α) {n : Nat} (h : L.length = n) : (List.range n).map (fun i => L.getD i d) = L := by
  subst h
  exact map_range _ _ fun i x e => getD_some e
theorem st_Tup1 : Stable (Tup1 K) := ⟨fun e h => tup1_tps (Tps.of e) h, fun e h => tup1_tps (Tps.x SameX.put e) h⟩
theorem ok_made (T : Txt K mg) : FnOk P w K mg base CX0 1 T.a__law_made T.d__law_made ["primes", "powers", "conjugates"] (spMade K) := by
  refine T.F__law_made.ok sc__law_made (fun vs H Q E h => ?_) (fun cdv A outer s H vs Q E hr h => ?_)
  · obtain ⟨l, u, v, ps, pws, cjs, rfl, _⟩ := h
    rfl
  · obtain ⟨l, u, v, ps, pws, cjs, rfl, hl, hu, hv, hn, hpw, hcj, q⟩ := h
    obtain ⟨b, us, rfl, eb, hbl, hbg⟩ := has_lst hu
    obtain ⟨c, ws, rfl, ec, hcl, hcg⟩ := has_lst hv
    refine ⟨_, (pss_cons (ps_set (i := 3) sc__law_made.nd rfl (.inr rfl) (pe_callB call_len_seq (by rfl) T.n_len (by decide +kernel) (pa_cons (pv 0) pa_nil))) 
    (C8.pss_cut (ps_setLc (i := 6) (own := [("i", 4)]) rfl sc__law_made.nd rfl rfl (sw_true rfl rfl rfl (by decide +kernel)) (pi_range1 (by rfl) T.n_range (pa_cons (pv 3) pa_nil)) (blkOk_by (N := N__law_made) (sc := defScope s__law_made) (own := [("i", 4)]) (by decide +kernel)) (fun _ _ _ _ _ => (pg_name (i := 4) sc__law_made.nd rfl (.inl rfl))) (fun _ _ _ _ _ => pts_nil) (fun _ _ _ _ _ => (pe_lc (own := [("k", 5)]) rfl sc__law_made.nd (pi_range1 (by rfl) T.n_range (pa_cons (pv 3) pa_nil)) (blkOk_by (N := N__law_made) (own := [("k", 5)]) (by rfl)) (fun _ _ _ _ _ => (pg_name (i := 5) sc__law_made.nd rfl (.inl rfl))) (fun _ _ _ _ _ => pts_nil) (fun _ _ _ _ _ => pe_int)))) 
    (C8.pss_cut (ps_for PassesOwn.never rfl (pi_list (pv 1)) (pg_tup rfl (pgs_cons (pg_name (i := 4) sc__law_made.nd rfl (.inl rfl)) (pgs_cons (pg_name (i := 5) sc__law_made.nd rfl (.inl rfl)) (pgs_cons (pg_name (i := 7) sc__law_made.nd rfl (.inl rfl)) pgs_nil)))) 
      (pss_one (ps_asg (pv 7) (pg_sub (pe_ix ix_list (pv 6) (pv 4) (fun _ _ => rfl)) (pv 5) set_list)))) 
    (C8.pss_cut (ps_setLc (i := 9) (own := [("i", 4)]) rfl sc__law_made.nd rfl rfl (sw_true rfl rfl rfl (by decide +kernel)) (pi_range1 (by rfl) T.n_range (pa_cons (pv 3) pa_nil)) (blkOk_by (N := N__law_made) (sc := defScope s__law_made) (own := [("i", 4)]) (by decide +kernel)) (fun _ _ _ _ _ => (pg_name (i := 4) sc__law_made.nd rfl (.inl rfl))) (fun _ _ _ _ _ => pts_nil) (fun _ _ _ _ _ => (pe_lc (own := [("j", 8)]) rfl sc__law_made.nd (pi_range2 (by rfl) T.n_range (pa_cons (pe_op op_add (pv 4) pe_int) (pa_cons (pv 3) pa_nil))) (blkOk_by (N := N__law_made) (own := [("j", 8)]) (by rfl)) (fun _ _ _ _ _ => (pg_name (i := 8) sc__law_made.nd rfl (.inr rfl))) (fun _ _ _ _ _ => pts_nil) (fun _ _ _ _ _ => (pe_lc (own := [("k", 5)]) rfl sc__law_made.nd (pi_range1 (by rfl) T.n_range (pa_cons (pv 3) pa_nil)) (blkOk_by (N := N__law_made) (own := [("k", 5)]) (by rfl)) (fun _ _ _ _ _ => (pg_name (i := 5) sc__law_made.nd rfl (.inl rfl))) (fun _ _ _ _ _ => pts_nil) (fun _ _ _ _ _ => (pe_callTy call_int1 (by rfl) T.n_int (by decide +kernel) (pa_cons (pe_cmpR op_eq (pv 5) (pv 8) (nomark _)) pa_nil)))))))) 
    (C8.pss_cut (ps_for PassesOwn.never rfl (pi_list (pv 2)) (pg_tup rfl (pgs_cons (pg_name (i := 4) sc__law_made.nd rfl (.inl rfl)) (pgs_cons (pg_name (i := 8) sc__law_made.nd rfl (.inl rfl)) (pgs_cons (pg_name (i := 10) sc__law_made.nd rfl (.inl rfl)) pgs_nil)))) 
      (pss_cons (ps_setLc (i := 11) (own := [("k", 5)]) rfl sc__law_made.nd rfl rfl (sw_true rfl rfl rfl (by decide +kernel)) (pi_range1 (by rfl) T.n_range (pa_cons (pv 3) pa_nil)) (blkOk_by (N := N__law_made) (sc := defScope s__law_made) (own := [("k", 5)]) (by decide +kernel)) (fun _ _ _ _ _ => (pg_name (i := 5) sc__law_made.nd rfl (.inl rfl))) (fun _ _ _ _ _ => pts_nil) (fun _ _ _ _ _ => pe_int)) 
      (pss_cons (ps_for PassesOwn.never rfl (pi_list (pv 10)) (pg_tup rfl (pgs_cons (pg_name (i := 5) sc__law_made.nd rfl (.inl rfl)) (pgs_cons (pg_name (i := 7) sc__law_made.nd rfl (.inl rfl)) pgs_nil))) 
        (pss_one (ps_asg (pv 7) (pg_sub (pv 11) (pv 5) set_list)))) 
      (pss_one (ps_asg (pv 11) (pg_sub (pe_ix ix_list (pv 9) (pv 4) (fun _ _ => rfl)) (pe_op op_sub (pe_op op_sub (pv 8) (pv 4)) pe_int) set_list)))))) 
    (pss_one (ps_ret (pe_tup (pa_cons (pe_callTy call_tuple_of (by rfl) T.n_tuple (by decide +kernel) (pa_cons (pv 0) pa_nil)) (pa_cons (pe_callTy call_tuple_of (by rfl) T.n_tuple (by decide +kernel) (pa_cons (pe_lc (own := [("row", 11)]) rfl sc__law_made.nd (pi_list (pv 6)) (blkOk_by (N := N__law_made) (sc := defScope s__law_made) (own := [("row", 11)]) (by decide +kernel)) (fun _ _ _ _ _ => (pg_name (i := 11) sc__law_made.nd rfl (.inl rfl))) (fun _ _ _ _ _ => pts_nil) (fun _ _ _ _ _ => (pe_callTy (show CallR _ (.type "tuple") (rTupL K) from call_tupL) (by rfl) T.n_tuple (by decide +kernel) (pa_cons (pv 11) pa_nil)))) pa_nil)) (pa_cons (pe_callTy call_tuple_of (by rfl) T.n_tuple (by decide +kernel) (pa_cons (pe_lc (own := [("part", 12)]) rfl sc__law_made.nd (pi_list (pv 9)) (blkOk_by (N := N__law_made) (sc := defScope s__law_made) (own := [("part", 12)]) (by decide +kernel)) (fun _ _ _ _ _ => (pg_name (i := 12) sc__law_made.nd rfl (.inl rfl))) (fun _ _ _ _ _ => pts_nil) (fun _ _ _ _ _ => (pe_callTy (show CallR _ (.type "tuple") (rTupL K) from call_tupL) (by rfl) T.n_tuple (by decide +kernel) (pa_cons (pe_lc (own := [("row", 11)]) rfl sc__law_made.nd (show PI _ _ _ (Own.iSeq K _) from Own.pi_seq (pv 12)) (blkOk_by (N := N__law_made) (own := [("row", 11)]) (by rfl)) (fun _ _ _ _ _ => (pg_name (i := 11) sc__law_made.nd rfl (.inl rfl))) (fun _ _ _ _ _ => pts_nil) (fun _ _ _ _ _ => (pe_callTy (show CallR _ (.type "tuple") (rTupL K) from call_tupL) (by rfl) T.n_tuple (by decide +kernel) (pa_cons (pv 11) pa_nil)))) pa_nil)))) pa_nil)) pa_nil))))))))))), ?_⟩
    refine ⟨_, rfl, l, _, rfl, .inl hl, ?_⟩
    generalize hN : ps.length = n at *
    rw [List.length_map, hN]
    -- own
    refine ⟨fun σ H' => Same H H' ∧ ∃ a, LL H H' a (List.replicate n (zeroR n)) ∧ σ = [some (.ref l), some (.ref b), some (.ref c), some (.int (n : Int)), none, none, some (.ref a), none, none, none, none, none, none], ?_, ?_⟩
    · refine ⟨_, rfl, (n : Int), rfl, by omega, by omega, fun D nD => ?_⟩
      refine lc_new (walk_range (lo := 0) (n := n)) Rw1 (fun e q => e _ _ q) (fun _ ne q => by unfold Rw1; rw [upd_ne ne]; exact q) (fun q => ⟨_, q⟩) (fun _ => zeroR n) (by omega) nD (fun _ _ => trivial) (fun i x H1 H2 Q2 hi sm hY q2 => ?_) (fun H1 as sm eD nd hf hp => ?_)
      · obtain ⟨rfl, rfl⟩ := hY
        refine ⟨rfl, _, rfl, (n : Int), rfl, by omega, by omega, fun D2 nD2 => ?_⟩
        refine lc_rep (walk_range (lo := 0) (n := n)) st_RI (fun _ => 0) (by omega) nD2 (fun _ _ => trivial) (fun i x H3 H4 Q3 hi sm3 hY q3 => ?_) (fun H3 acc sm3 eD2 hp => ?_)
        · obtain ⟨rfl, rfl⟩ := hY
          exact ⟨rfl, q3 _ _ (Same.refl _) rfl⟩
        · have e := ints_of hp
          rw [range_zero] at e
          subst e
          exact q2 D2 H3 sm3 nD2 eD2
      · refine ⟨sm, D, ⟨as, eD, nd, ?_, hf, nD⟩, rfl⟩
        rw [List.map_const', List.length_range] at hp
        exact hp
    rintro σ1 H1 ⟨sm1, a, hLL, rfl⟩
    -- own[i][k] = e
    refine ⟨fun σ H' => Same H H' ∧ LL H H' a (madeP n pws) ∧ ∃ y4 y5 y7, σ = [some (.ref l), some (.ref b), some (.ref c), some (.int (n : Int)), y4, y5, some (.ref a), y7, none, none, none, none, none], ?_, ?_⟩
    · refine ⟨_, rfl, b, rfl, ⟨_, .inl (.inl (sm1 _ _ eb))⟩, for_list (xs := us) (fun j σ H' => Same H H' ∧ LL H H' a ((pws.take j).foldl putR (List.replicate n (zeroR n))) ∧ ∃ y4 y5 y7, σ = [some (.ref l), some (.ref b), some (.ref c), some (.int (n : Int)), y4, y5, some (.ref a), y7, none, none, none, none, none])
        ⟨sm1, hLL, none, none, none, rfl⟩ (fun j σ H' _ ⟨sm, _⟩ => .inl (.inl (sm _ _ eb))) ?_ ?_⟩
      · rintro j x σ H' hj ⟨sm, hL, y4, y5, y7, rfl⟩
        have hjl : j < pws.length := by
          have := (List.getElem?_eq_some_iff.mp hj).1
          rw [hbl, List.length_map] at this
          exact this
        have ep : pws[j]? = some pws[j] := List.getElem?_eq_getElem hjl
        have hx := hbg j x (trP pws[j]) hj (by rw [List.getElem?_map, ep]; rfl)
        obtain ⟨hx1, hx2⟩ := hpw _ (List.getElem_mem hjl)
        generalize pws[j] = z at *
        obtain ⟨t, u0, u1, u2, rfl, hS, g0, g1, g2⟩ := has_tup3 hx
        have e0 := has_int g0
        have e1 := has_int g1
        have e2 := has_int g2
        subst e0
        subst e1
        subst e2
        refine ⟨t, _, rfl, Own.same_tup sm hS, rfl, _, _, rfl, _, _, rfl, _, [], rfl, rfl, ?_⟩
        obtain ⟨as, h1, h2, h3, h4, h5⟩ := hL.ex
        have hl3 := foldP_len (pws.take j) (fun x hx => (hpw x (List.mem_of_mem_take hx)).1) (rep_len n)
        have hi : z.1 < ((pws.take j).foldl putR (List.replicate n (zeroR n))).length := by rw [hl3.1]; exact hx1
        have er := List.getElem?_eq_getElem hi
        obtain ⟨x0, ex0, hx0⟩ := paired_get2 h3 er
        have hrl := hl3.2 _ (List.getElem_mem hi)
        generalize hrr : ((pws.take j).foldl putR (List.replicate n (zeroR n)))[z.1] = r at *
        have hx0' : H' x0 = some (.lst (r.map V.int)) := hx0
        refine ⟨_, rfl, _, rfl, _, rfl, a, _, _, .ref x0, rfl, rfl, .inl (.inl h1), atI_nat (by rw [List.getElem?_map, ex0]; rfl), _, rfl, x0, _, _, z.2.1, rfl, rfl, hx0', ixN_ok (by rw [List.length_map]; omega), ?_⟩
        obtain ⟨f1, f2⟩ := h4 x0 (List.mem_of_getElem? ex0)
        refine ⟨same_mut sm f1, ⟨as, by rw [upd_ne (Ne.symm f2)]; exact h1, h2, ?_, h4, h5⟩, _, _, _, rfl⟩
        rw [take_fold putR _ pws ep]
        show Paired _ as ((List.set _ z.1 ((List.getD _ z.1 []).set z.2.1 z.2.2)))
        rw [getD_some er]
        exact paired_upd h3 h2 ex0 (by rw [List.map_set])
      · rintro σ H' ⟨sm, hL, y4, y5, y7, rfl⟩
        rw [hbl, List.length_map, List.take_length] at hL
        exact ⟨sm, hL, y4, y5, y7, rfl⟩
    clear hLL sm1
    rintro σ2 H2 ⟨sm2, hLL, y4, y5, y7, rfl⟩
    refine ⟨fun σ H' => Same H2 H' ∧ ∃ d, LLL H2 H' d (rows0 n) ∧ ∃ y4 y5 y7, σ = [some (.ref l), some (.ref b), some (.ref c), some (.int (n : Int)), y4, y5, some (.ref a), y7, none, some (.ref d), none, none, none], ?_, ?_⟩
    · refine ⟨_, rfl, (n : Int), rfl, by omega, by omega, fun D nD => ?_⟩
      refine lc_new (walk_range (lo := 0) (n := n)) Rws1 (fun e q => rws_mono e q) (fun e ne q => rws_upd e ne q) (fun q => let ⟨bs, h, _⟩ := q; ⟨_, h⟩) (fun i => (List.range (n - (i + 1))).map fun m => unitR n (i + 1 + m)) (by omega) nD (fun _ _ => trivial) (fun i x H3 H4 Q2 hi sm hY q2 => ?_) (fun H3 as sm eD nd hf hp => ?_)
      · obtain ⟨rfl, rfl⟩ := hY
        refine ⟨rfl, _, rfl, _, _, rfl, rfl, _, rfl, _, _, rfl, ⟨by omega, by omega, by omega, by omega⟩, fun D2 nD2 => ?_⟩
        refine lc_new (walk_range (lo := 0 + (i : Int) + 1) (n := ((n : Int) - (0 + (i : Int) + 1)).toNat)) Rw1 (fun e q => e _ _ q) (fun _ ne q => by unfold Rw1; rw [upd_ne ne]; exact q) (fun q => ⟨_, q⟩) (fun m => unitR n (i + 1 + m)) (by omega) nD2 (fun _ _ => trivial) (fun m x H5 H6 Q3 hm sm5 hY q3 => ?_) (fun H5 bs sm5 eD2 nd hf hp => ?_)
        · obtain ⟨rfl, rfl⟩ := hY
          refine ⟨rfl, _, rfl, (n : Int), rfl, by omega, by omega, fun D3 nD3 => ?_⟩
          refine lc_rep (walk_range (lo := 0) (n := n)) st_RI (fun k => if k = i + 1 + m then 1 else 0) (by omega) nD3 (fun _ _ => trivial) (fun k x H7 H8 Q4 hk sm7 hY q4 => ?_) (fun H7 acc sm7 eD3 hp => ?_)
          · obtain ⟨rfl, rfl⟩ := hY
            refine ⟨rfl, _, rfl, _, rfl, rfl, .inr ⟨_, rfl, q4 _ _ (Same.refl _) ?_⟩⟩
            by_cases c : k = i + 1 + m
            · rw [if_pos c, if_pos (decide_eq_true (show V.int (0 + (k : Int)) = V.int (0 + (i : Int) + 1 + (m : Int)) from congrArg V.int (by omega)))]
              rfl
            · rw [if_neg c, if_neg (fun z => c (by have := V.int.inj (of_decide_eq_true z); omega))]
              rfl
          · have e := ints_of hp
            subst e
            exact q3 D3 H7 sm7 nD3 eD3
        · rw [show ((n : Int) - (0 + (i : Int) + 1)).toNat = n - (i + 1) from by omega] at hp
          refine q2 D2 H5 sm5 nD2 ⟨bs, eD2, hp, fun r hr => ?_⟩
          obtain ⟨m, _, rfl⟩ := List.mem_map.mp hr
          exact fun z => by
            have := congrArg List.length z
            unfold unitR at this
            rw [List.length_map, List.length_range] at this
            exact absurd this (by simp; omega)
      · refine ⟨sm, D, ⟨as, eD, nd, hp, hf, nD⟩, _, _, _, rfl⟩
    clear y4 y5 y7
    rintro σ3 H3 ⟨sm3, d, hLLL, y4, y5, y7, rfl⟩
    refine ⟨fun σ H' => Same H2 H' ∧ LLL H2 H' d (madeC n cjs) ∧ ∃ y4 y5 y7 y8 y10 y11 y12, σ = [some (.ref l), some (.ref b), some (.ref c), some (.int (n : Int)), y4, y5, some (.ref a), y7, y8, some (.ref d), y10, y11, y12], ?_, ?_⟩
    · refine ⟨_, rfl, c, rfl, ⟨_, .inl (.inl (sm3 _ _ (sm2 _ _ ec)))⟩, for_list (xs := ws) (fun j σ H' => Same H2 H' ∧ LLL H2 H' d ((cjs.take j).foldl (putC n) (rows0 n)) ∧ ∃ y4 y5 y7 y8 y10 y11 y12, σ = [some (.ref l), some (.ref b), some (.ref c), some (.int (n : Int)), y4, y5, some (.ref a), y7, y8, some (.ref d), y10, y11, y12])
        ⟨sm3, hLLL, _, _, _, _, _, _, _, rfl⟩ (fun j σ H' _ ⟨sm, _⟩ => .inl (.inl (sm _ _ (sm2 _ _ ec)))) ?_ ?_⟩
      · rintro j x σ H' hj ⟨smB, hC, z4, z5, z7, z8, z10, z11, z12, rfl⟩
        have sm := sm2.trans smB
        have hjl : j < cjs.length := by
          have := (List.getElem?_eq_some_iff.mp hj).1
          rw [hcl, List.length_map] at this
          exact this
        have ep : cjs[j]? = some cjs[j] := List.getElem?_eq_getElem hjl
        have hx := hcg j x (trC cjs[j]) hj (by rw [List.getElem?_map, ep]; rfl)
        obtain ⟨hx1, hx2, hx3⟩ := hcj _ (List.getElem_mem hjl)
        generalize cjs[j] = z at *
        obtain ⟨t, u0, u1, u2, rfl, hS, g0, g1, g2⟩ := has_tup3 hx
        have e0 := has_int g0
        have e1 := has_int g1
        subst e0
        subst e1
        obtain ⟨g, gs, rfl, eg, hgl, hgg⟩ := has_lst g2
        refine ⟨t, _, rfl, Own.same_tup sm hS, rfl, _, _, rfl, _, _, rfl, _, [], rfl, rfl, ?_⟩
        refine ⟨_, rfl, (n : Int), rfl, by omega, by omega, fun ro fro => ?_⟩
        refine lc_rep (walk_range (lo := 0) (n := n)) st_RI (fun _ => 0) (by omega) fro (fun _ _ => trivial) (fun i x H3 H4 Q3 hi sm3 hY q3 => ?_) (fun H5 acc sm5 hro hp => ?_)
        · obtain ⟨rfl, rfl⟩ := hY
          exact ⟨rfl, q3 _ _ (Same.refl _) rfl⟩
        have e := ints_of hp
        rw [range_zero] at e
        subst e
        refine ⟨_, rfl, g, rfl, ⟨_, .inl (.inl (sm5 _ _ (sm _ _ eg)))⟩, for_list (xs := gs) (fun j σ H7 => Same H' H7 ∧ Rw1 H7 ro ((z.2.2.take j).foldl (fun r y => r.set y.1 y.2) (zeroR n)) ∧ ∃ y5 y7, σ = [some (.ref l), some (.ref b), some (.ref c), some (.int (n : Int)), some (.int (z.1 : Int)), y5, some (.ref a), y7, some (.int (z.2.1 : Int)), some (.ref d), some (.ref g), some (.ref ro), z12])
            ⟨sm5, hro, _, _, rfl⟩ (fun j σ H7 _ ⟨s2, _⟩ => .inl (.inl (s2 _ _ (sm _ _ eg)))) ?_ ?_⟩
        · rintro m x σ H7 hm ⟨s2, hr, y5, y7, rfl⟩
          have hml : m < z.2.2.length := by
            have := (List.getElem?_eq_some_iff.mp hm).1
            rw [hgl, List.length_map] at this
            exact this
          have ey : z.2.2[m]? = some z.2.2[m] := List.getElem?_eq_getElem hml
          have hy := hgg m x (trE z.2.2[m]) hm (by rw [List.getElem?_map, ey]; rfl)
          have hy3 := hx3 _ (List.getElem_mem hml)
          generalize z.2.2[m] = y at *
          obtain ⟨t2, v0, v1, rfl, hS2, k0, k1⟩ := has_tup2 hy
          have f0 := has_int k0
          have f1 := has_int k1
          subst f0
          subst f1
          refine ⟨t2, _, rfl, Own.same_tup s2 (Own.same_tup sm hS2), rfl, _, _, rfl, _, [], rfl, rfl, ?_⟩
          have hrl : ((z.2.2.take m).foldl (fun r y => r.set y.1 y.2) (zeroR n)).length = n := pairR_len _ _ List.length_replicate
          refine ⟨_, rfl, _, rfl, _, rfl, ro, _, _, y.1, rfl, rfl, hr, ixN_ok (by rw [List.length_map]; omega), ?_⟩
          refine ⟨same_mut s2 fro, ?_, _, _, rfl⟩
          show (upd _ _ _) _ = _
          have tf := take_fold (fun (r : List Int) (y : Nat × Int) => r.set y.1 y.2) (zeroR n) z.2.2 ey
          rw [upd_same, tf, List.map_set]
        rintro σ6 H6 ⟨s6, hr6, y5b, y7, rfl⟩
        rw [hgl, List.length_map, List.take_length] at hr6
        have hr6 : Rw1 H6 ro (pairR n z.2.2) := hr6
        have hC6 := hC.mono s6
        have hsh := foldC_sh (cjs.take j) (fun x hx => by have := hcj x (List.mem_of_mem_take hx); omega) (rows0_sh n)
        have hi : z.1 < ((cjs.take j).foldl (putC n) (rows0 n)).length := by rw [hsh.1]; omega
        have er := List.getElem?_eq_getElem hi
        have hM := hsh.2 _ _ er
        have hk : z.2.1 - z.1 - 1 < (((cjs.take j).foldl (putC n) (rows0 n))[z.1]).length := by rw [hM.1]; omega
        have hne : pairR n z.2.2 ≠ [] := fun w => by
          have := pairR_len z.2.2 (zeroR n) List.length_replicate
          have h2 := congrArg List.length w
          unfold pairR at h2
          rw [this] at h2
          exact absurd h2 (by simp; omega)
        obtain ⟨as, x0, bs, p1, p2, p3, p4, p5, p6⟩ := hC6.put er hk hr6 hne
        refine ⟨_, rfl, _, rfl, _, rfl, d, _, _, .ref x0, rfl, rfl, .inl (.inl p1), atI_nat (by rw [List.getElem?_map, p2]; rfl), _, rfl, _, rfl, _, _, rfl, rfl, _, _, rfl, rfl, x0, _, _, z.2.1 - z.1 - 1, rfl, rfl, p3, ?_, ?_⟩
        · rw [show ((z.2.1 : Int) - (z.1 : Int) - 1) = ((z.2.1 - z.1 - 1 : Nat) : Int) from by omega]
          exact ixN_ok (by rw [List.length_map]; omega)
        · refine ⟨same_mut (smB.trans s6) p5, ?_, _, _, _, _, _, _, _, rfl⟩
          · rw [take_fold (putC n) _ cjs ep]
            show LLL _ _ _ (List.set _ z.1 ((List.getD _ z.1 []).set (z.2.1 - z.1 - 1) (pairR n z.2.2)))
            rw [getD_some er]
            exact p6
      · rintro σ H' ⟨sm, hC, y⟩
        rw [hcl, List.length_map, List.take_length] at hC
        exact ⟨sm, hC, y⟩
    clear hLLL sm3 y4 y5 y7
    rintro σ4 H4 ⟨sm4, hLLL, y4, y5, y7, y8, y10, y11, y12, rfl⟩
    obtain ⟨as, a1, a2, a3, a4, a5⟩ := (hLL.mono sm4).ex
    obtain ⟨ds, d1, d2, d3, d4, d5⟩ := hLLL.ex
    have hPl := foldP_len pws (fun x hx => (hpw x hx).1) (rep_len n)
    have hCl := foldC_sh cjs (fun x hx => by have := hcj x hx; omega) (rows0_sh n)
    have hasl : as.length = n := (Paired.length a3).trans hPl.1
    have hdsl : ds.length = n := (Paired.length d3).trans hCl.1
    refine ⟨_, rfl, l, _, rfl, .inl ⟨same_sql (sm2.trans sm4) hl, fun tp ntp => ?_⟩⟩
    refine ⟨_, rfl, a, rfl, ?_⟩
    have s5 := same_new (o := .tup (ps.map V.int)) ntp
    refine ⟨⟨_, .inl (.inl (s5 _ _ a1))⟩, fun D nD => ?_⟩
    have hPlen := hPl.1
    refine lc_rep (walk_list (xs := as.map V.ref)) (st_RS (K := K)) (fun i => (madeP n pws).getD i []) (by rw [List.length_map]; omega) nD (fun H6 s6 => .inl (.inl (s6 _ _ (s5 _ _ a1)))) (fun i x H6 H7 Q2 hi s6 hY q2 => ?_) (fun H6 acc s6 eD hPa => ?_)
    · obtain ⟨rfl, hx⟩ := hY
      rw [List.getElem?_map] at hx
      obtain ⟨x0, hx0, rfl⟩ := Option.map_eq_some_iff.mp hx
      obtain ⟨r, er, hr1⟩ := paired_get a3 hx0
      refine ⟨rfl, _, rfl, x0, _, rfl, .inl (.inl (s6 _ _ (s5 _ _ hr1))), fun t ob nt nob => q2 _ _ (same_new nt) ⟨t, rfl, .inl (.inr ⟨ob, ?_⟩)⟩⟩
      rw [getD_some er]
      exact upd_same
    rw [List.length_map, hasl, range_getD [] (show (madeP n pws).length = n from hPl.1)] at hPa
    refine ⟨D, _, rfl, .inl ⟨.inl (.inl eD), fun tq ntq => ?_⟩⟩
    have s7 := same_new (o := .tup acc) ntq
    have s47 := s5.trans (s6.trans s7)
    have hClen := hCl.1
    refine ⟨_, rfl, d, rfl, ⟨_, .inl (.inl (s47 _ _ d1))⟩, fun D2 nD2 => ?_⟩
    refine lc_rep (walk_list (xs := ds.map V.ref)) (st_Tup1 (K := K)) (fun i => (madeC n cjs).getD i []) (by rw [List.length_map]; omega) nD2 (fun H8 s8 => .inl (.inl (s8 _ _ (s47 _ _ d1)))) (fun i x H8 H9 Q2 hi s8 hY q2 => ?_) (fun H8 acc2 s8 eD2 hPb => ?_)
    · obtain ⟨rfl, hx⟩ := hY
      rw [List.getElem?_map] at hx
      obtain ⟨x0, hx0, rfl⟩ := Option.map_eq_some_iff.mp hx
      obtain ⟨M, eM, bs, hb1, hb2, hb3⟩ := paired_get d3 hx0
      have hML := (hCl.2 _ _ eM).1
      have hbl := Paired.length hb2
      have s48 := s47.trans s8
      refine ⟨rfl, _, rfl, x0, _, true, rfl, .inl (.inl (s8 _ _ (s47 _ _ hb1))), fun J wJ => ?_⟩
      intro D3 nD3
      refine lc_rep wJ (st_RS (K := K)) (fun j => M.getD j []) (by rw [List.length_map]; omega) nD3 (fun H10 s10 => .inl (.inl (s10 _ _ (s48 _ _ hb1)))) (fun j x H10 H11 Q3 hj s10 hY3 q3 => ?_) (fun H10 acc3 s10 eD3 hPc => ?_)
      · obtain ⟨rfl, hx3⟩ := hY3
        rw [List.getElem?_map] at hx3
        obtain ⟨x3, hx4, rfl⟩ := Option.map_eq_some_iff.mp hx3
        obtain ⟨r, er, hr1⟩ := paired_get hb2 hx4
        refine ⟨rfl, _, rfl, x3, _, rfl, .inl (.inl (s10 _ _ (s48 _ _ hr1))), fun t ob nt nob => q3 _ _ (same_new nt) ⟨t, rfl, .inl (.inr ⟨ob, ?_⟩)⟩⟩
        rw [getD_some er]
        exact upd_same
      · rw [List.length_map, hbl, range_getD [] rfl] at hPc
        refine ⟨D3, _, rfl, .inl (.inl eD3), fun t ob nt nob => q2 _ _ (s10.trans (same_new nt)) ⟨t, _, rfl, .inl (.inr ⟨ob, upd_same⟩), ?_⟩⟩
        rw [getD_some eM]
        exact st_RS.all (same_new nt) hPc
    rw [List.length_map, hdsl, range_getD [] (show (madeC n cjs).length = n from hCl.1)] at hPb
    refine ⟨D2, _, rfl, .inl ⟨.inl (.inl eD2), fun tr ntr => ⟨by show 3 ≤ sizeLine; decide, fun tz ntz => ?_⟩⟩⟩
    have s9 := same_new (o := .tup acc2) ntr
    have s10 := same_new (o := .tup [V.ref tp, V.ref tq, V.ref tr]) ntz
    have sAll := s47.trans (s8.trans (s9.trans s10))
    refine q _ _ (sm2.trans (sm4.trans sAll)) ⟨tz, tp, tq, tr, acc2, rfl, .inl (.inl upd_same), ?_, ?_, .inl (.inl (s10 _ _ upd_same)), ?_⟩
    · exact .inl (.inl ((s6.trans (s7.trans (s8.trans (s9.trans s10)))) _ _ upd_same))
    · refine ⟨tq, acc, rfl, .inl (.inl ((s8.trans (s9.trans s10)) _ _ upd_same)), ?_⟩
      show Paired _ _ (madeP ps.length pws)
      rw [hN]
      exact st_RS.all (s7.trans (s8.trans (s9.trans s10))) hPa
    · show Paired _ _ (madeC ps.length cjs)
      rw [hN]
      exact st_Tup1.all (s9.trans s10) hPb
/-! ### valid tables -/
def pr31 : List Int := [2, 3, 5, 7, 11, 13, 17, 19, 23, 29, 31]
/-- a row below the primes -/
def Bl (ps r : List Int) : Prop := r.length = ps.length ∧ ∀ k, k < ps.length → 0 ≤ atR r k ∧ atR r k < atR ps k
/-- 0 below a place -/
def Zb (r : List Int) (k : Nat) : Prop := ∀ i, i < k → atR r i = 0
def prodN : List Int → Nat
  | [] => 1
  | p :: ps => p.toNat * prodN ps
structure Vd (t : Tb) : Prop where
  pr : ∀ p ∈ t.ps, p ∈ pr31
  n10 : t.ps.length ≤ 10
  sz : prodN t.ps ≤ 1000
  pwl : t.pw.length = t.ps.length
  pwr : ∀ i r, t.pw[i]? = some r → Bl t.ps r ∧ Zb r (i + 1)
  cjl : t.cj.length = t.ps.length
  cjr : ∀ i M, t.cj[i]? = some M → M.length = t.ps.length - (i + 1) ∧ ∀ r ∈ M, Bl t.ps r ∧ Zb r (i + 1)
theorem pr31_in {p : Int} (h : p ∈ pr31) : 2 ≤ p ∧ p ≤ 31 := by
  simp only [pr31, List.mem_cons, List.not_mem_nil, or_false] at h
  omega
theorem atR_in {v : List Int} {i : Nat} (h : i < v.length) : atR v i ∈ v := List.mem_of_getElem? (atR_get h)
theorem Vd.p2 {t : Tb} (h : Vd t) {k : Nat} (hk : k < t.ps.length) : 2 ≤ atR t.ps k ∧ atR t.ps k ≤ 31 := pr31_in (h.pr _ (atR_in hk))
theorem ext_at2 {u v : List Int} (hl : u.length = v.length) (h : ∀ i, i < v.length → atR u i = atR v i) : u = v := by
  apply List.ext_getElem?
  intro i
  by_cases hi : i < v.length
  · rw [atR_get (by rw [hl]; exact hi), atR_get hi, h i hi]
  · rw [List.getElem?_eq_none (by omega), List.getElem?_eq_none (by omega)]
theorem atR_cons {x : Int} {r : List Int} : atR (x :: r) 0 = x := rfl
theorem atR_succ {x : Int} {r : List Int} {i : Nat} : atR (x :: r) (i + 1) = atR r i := rfl
theorem atR_drop {r : List Int} {j i : Nat} : atR (r.drop j) i = atR r (j + i) := by
  unfold atR
  rw [List.getD_eq_getElem?_getD, List.getElem?_drop, ← List.getD_eq_getElem?_getD]
theorem atR_take {r : List Int} {j i : Nat} (h : i < j) : atR (r.take j) i = atR r i := by
  unfold atR
  rw [List.getD_eq_getElem?_getD, List.getElem?_take, if_pos h, ← List.getD_eq_getElem?_getD]
theorem atR_app1 {u v : List Int} {i : Nat} (h : i < u.length) : atR (u ++ v) i = atR u i := by
  unfold atR
  rw [List.getD_eq_getElem?_getD, List.getElem?_append_left h, ← List.getD_eq_getElem?_getD]
theorem atR_app2 {u v : List Int} {i : Nat} (h : u.length ≤ i) : atR (u ++ v) i = atR v (i - u.length) := by
  unfold atR
  rw [List.getD_eq_getElem?_getD, List.getElem?_append_right h, ← List.getD_eq_getElem?_getD]
/-! all rows, all keys -/
def allB : List Int → List (List Int)
  | [] => [[]]
  | p :: ps => (List.range p.toNat).flatMap fun a : Nat => (allB ps).map fun r => ((a : Nat) : Int) :: r
def allK : Nat → List Int → List (Int × List Int)
  | _, [] => []
  | j, p :: ps => (allB (p :: ps)).map (fun r => ((j : Int), r)) ++ allK (j + 1) ps
theorem flat_len2 {α β : Type} {c : Nat} (f : α → List β) : ∀ (l : List α), (∀ x ∈ l, (f x).length = c) → (l.flatMap f).length = l.length * c
  | [], _ => by simp
  | x :: l, h => by
    rw [List.flatMap_cons, List.length_append, h x (List.mem_cons_self ..), flat_len2 f l fun y hy => h y (List.mem_cons_of_mem _ hy), List.length_cons, Nat.succ_mul, Nat.add_comm]
theorem allB_len : ∀ ps : List Int, (allB ps).length = prodN ps
  | [] => rfl
  | p :: ps => by
    unfold allB prodN
    rw [flat_len2 (c := prodN ps) _ _ (fun x _ => by rw [List.length_map, allB_len ps]), List.length_range]
theorem allB_mem : ∀ {ps r : List Int}, Bl ps r → r ∈ allB ps
  | [], r, h => by
    have := List.eq_nil_of_length_eq_zero h.1
    subst this
    exact List.mem_singleton.mpr rfl
  | p :: ps, [], h => by cases h.1
  | p :: ps, x :: r, h => by
    have h0 := h.2 0 (Nat.zero_lt_succ _)
    rw [atR_cons, atR_cons] at h0
    unfold allB
    refine List.mem_flatMap.mpr ⟨x.toNat, List.mem_range.mpr (by omega), List.mem_map.mpr ⟨r, allB_mem ⟨Nat.succ.inj h.1, fun k hk => ?_⟩, ?_⟩⟩
    · exact h.2 (k + 1) (Nat.succ_lt_succ hk)
    · rw [Int.toNat_of_nonneg h0.1]
theorem prodN_pos : ∀ {ps : List Int}, (∀ p ∈ ps, 2 ≤ p) → 1 ≤ prodN ps
  | [], _ => Nat.le_refl 1
  | p :: ps, h => by
    have h1 := h p (List.mem_cons_self ..)
    have h2 := prodN_pos (ps := ps) fun q hq => h q (List.mem_cons_of_mem _ hq)
    exact Nat.mul_pos (by omega) h2
theorem allK_len : ∀ (j : Nat) {ps : List Int} {c : Nat}, (∀ p ∈ ps, 2 ≤ p) → prodN ps ≤ c → (allK j ps).length ≤ ps.length * c
  | _, [], _, _, _ => Nat.zero_le _
  | j, p :: ps, c, h, hc => by
    have h1 := h p (List.mem_cons_self ..)
    have h2 : prodN ps ≤ prodN (p :: ps) := Nat.le_mul_of_pos_left _ (by omega)
    have h3 := allK_len (j + 1) (ps := ps) (c := c) (fun q hq => h q (List.mem_cons_of_mem _ hq)) (by omega)
    unfold allK
    rw [List.length_append, List.length_map, allB_len, List.length_cons, Nat.succ_mul]
    omega
theorem allK_mem : ∀ {ps : List Int} {i : Nat} (j : Nat) {ks : List Int}, i < ps.length → Bl (ps.drop i) ks → (((j + i : Nat) : Int), ks) ∈ allK j ps
  | [], _, _, _, h, _ => by cases h
  | p :: ps, 0, j, ks, _, hb => List.mem_append_left _ (List.mem_map.mpr ⟨ks, allB_mem hb, rfl⟩)
  | p :: ps, i + 1, j, ks, h, hb => by
    have := allK_mem (j + 1) (Nat.lt_of_succ_lt_succ h) hb
    rw [show j + (i + 1) = j + 1 + i by omega]
    exact List.mem_append_right _ this
theorem nodup_few {α : Type} [DecidableEq α] : ∀ {l m : List α}, l.Nodup → (∀ x ∈ l, x ∈ m) → l.length ≤ m.length
  | [], _, _, _ => Nat.zero_le _
  | x :: l, m, h, hs => by
    obtain ⟨h1, h2⟩ := List.nodup_cons.mp h
    have hx := hs x (List.mem_cons_self ..)
    have := nodup_few (l := l) (m := m.erase x) h2 fun y hy => (List.mem_erase_of_ne (fun e => h1 (by rw [← e]; exact hy))).mpr (hs y (List.mem_cons_of_mem _ hy))
    rw [List.length_erase_of_mem hx] at this
    have : 0 < m.length := List.length_pos_of_mem hx
    rw [List.length_cons]
    omega
/-! what a step and a product keep -/
structure StpR (ps r r' : List Int) (j : Nat) : Prop where
  bl : Bl ps r'
  lo : ∀ i, i < j → atR r' i = atR r i
  pl : atR r' j = (atR r j + 1) % atR ps j
structure AdR (ps x y x' : List Int) : Prop where
  bl : Bl ps x'
  ad : ∀ m, m ≤ ps.length → Zb y m → (∀ i, i < m → atR x' i = atR x i) ∧ (m < ps.length → atR x' m = (atR x m + atR y m) % atR ps m)
/-- behind k places and t turns at the next -/
structure AdP (ps x y x' : List Int) (k t : Nat) : Prop where
  bl : Bl ps x'
  ad : ∀ m, m ≤ ps.length → Zb y m → (∀ i, i < m → atR x' i = atR x i) ∧ (m < ps.length → atR x' m = (atR x m + (if m < k then atR y m else if m = k then (t : Int) else 0)) % atR ps m)
theorem AdP.init {ps x y : List Int} (h : Bl ps x) : AdP ps x y x 0 0 := ⟨h, fun m hm _ => ⟨fun _ _ => rfl, fun hl => by
  have := h.2 m hl
  have e : (if m < 0 then atR y m else if m = 0 then ((0 : Nat) : Int) else 0) = 0 := by
    rw [if_neg (Nat.not_lt_zero m)]
    split <;> rfl
  rw [e, Int.add_zero, Int.emod_eq_of_lt this.1 this.2]⟩⟩
theorem AdP.step {ps x y x1 x2 : List Int} {k t : Nat} (h : AdP ps x y x1 k t) (s : StpR ps x1 x2 k) (hk : k < ps.length) (ht : (t : Int) < atR y k) : AdP ps x y x2 k (t + 1) := ⟨s.bl, fun m hm hz => by
  have hmk : m ≤ k := by
    rcases Nat.lt_or_ge k m with c | c
    · have := hz k c
      omega
    · exact c
  obtain ⟨h1, h2⟩ := h.ad m hm hz
  refine ⟨fun i hi => by rw [s.lo i (by omega)]; exact h1 i hi, fun hl => ?_⟩
  rcases Nat.lt_or_ge m k with c | c
  · rw [s.lo m c, h2 hl, if_pos c, if_pos c]
  · have e : m = k := by omega
    subst e
    rw [s.pl, h2 hl, if_neg (Nat.lt_irrefl _), if_neg (Nat.lt_irrefl _), if_pos rfl, if_pos rfl, Int.emod_add_emod]
    congr 1
    omega⟩
theorem AdP.next {ps x y x1 : List Int} {k t : Nat} (h : AdP ps x y x1 k t) (ht : (t : Int) = atR y k) : AdP ps x y x1 (k + 1) 0 := ⟨h.bl, fun m hm hz => by
  obtain ⟨h1, h2⟩ := h.ad m hm hz
  refine ⟨h1, fun hl => ?_⟩
  rw [h2 hl]
  congr 2
  rcases Nat.lt_trichotomy m k with c | c | c
  · rw [if_pos c, if_pos (by omega)]
  · subst c
    rw [if_neg (Nat.lt_irrefl _), if_pos rfl, if_pos (by omega), ht]
  · rw [if_neg (by omega), if_neg (by omega), if_neg (by omega)]
    split <;> rfl⟩
theorem AdP.done {ps x y x1 : List Int} (h : AdP ps x y x1 ps.length 0) : AdR ps x y x1 := ⟨h.bl, fun m hm hz => by
  obtain ⟨h1, h2⟩ := h.ad m hm hz
  refine ⟨h1, fun hl => ?_⟩
  rw [h2 hl, if_pos hl]⟩
/-- the inverse's exponents -/
structure IvR (ps x f : List Int) : Prop where
  bl : Bl ps f
  iv : ∀ m, m ≤ ps.length → Zb x m → Zb f m ∧ (m < ps.length → atR f m = (atR ps m - atR x m) % atR ps m)
structure IvP (ps x x1 f : List Int) (k : Nat) : Prop where
  bl : Bl ps x1
  len : f.length = k
  fb : ∀ i, i < k → 0 ≤ atR f i ∧ atR f i < atR ps i
  iv : ∀ m, m ≤ ps.length → Zb x m → (k ≤ m → x1 = x) ∧ (∀ i, i < m → i < k → atR f i = 0) ∧ (m < ps.length → m < k → atR f m = (atR ps m - atR x m) % atR ps m)
theorem IvP.init {ps x : List Int} (h : Bl ps x) : IvP ps x x [] 0 := ⟨h, rfl, fun i hi => absurd hi (Nat.not_lt_zero i), fun m _ _ => ⟨fun _ => rfl, fun i _ hi => absurd hi (Nat.not_lt_zero i), fun _ hi => absurd hi (Nat.not_lt_zero m)⟩⟩
theorem IvP.next {ps x x1 x2 f : List Int} {k : Nat} {e : Int} (h : IvP ps x x1 f k) (hk : k < ps.length) (hp : 0 < atR ps k) (he : e = (atR ps k - atR x1 k) % atR ps k) (h2 : Bl ps x2) (h0 : e = 0 → x2 = x1) : IvP ps x x2 (f ++ [e]) (k + 1) := by
  have hb : 0 ≤ e ∧ e < atR ps k := by
    rw [he]
    exact ⟨Int.emod_nonneg _ (by omega), Int.emod_lt_of_pos _ hp⟩
  have l1 : ∀ i, i < k → atR (f ++ [e]) i = atR f i := fun i hi => atR_app1 (by rw [h.len]; exact hi)
  have l2 : atR (f ++ [e]) k = e := by
    rw [atR_app2 (by rw [h.len]; exact Nat.le_refl k), h.len, Nat.sub_self]
    rfl
  refine ⟨h2, by rw [List.length_append, h.len]; rfl, fun i hi => ?_, fun m hm hz => ?_⟩
  · rcases Nat.lt_or_ge i k with c | c
    · rw [l1 i c]
      exact h.fb i c
    · have c2 : i = k := by omega
      rw [c2, l2]
      exact hb
  · obtain ⟨g1, g2, g3⟩ := h.iv m hm hz
    refine ⟨fun hm2 => ?_, fun i hi hi2 => ?_, fun hl hmk => ?_⟩
    · have e1 := g1 (by omega)
      rw [e1] at he h0
      have ez : e = 0 := by
        rw [he, hz k (by omega), Int.sub_zero, Int.emod_self]
      exact h0 ez
    · rcases Nat.lt_or_ge i k with c | c
      · rw [l1 i c]
        exact g2 i hi c
      · have c2 : i = k := by omega
        have e1 := g1 (by omega)
        rw [c2, l2, he, e1, hz k (by omega), Int.sub_zero, Int.emod_self]
    · rcases Nat.lt_or_ge m k with c | c
      · rw [l1 m c]
        exact g3 hl c
      · have c2 : m = k := by omega
        subst c2
        rw [l2, he, g1 (Nat.le_refl _)]
theorem IvP.done {ps x x1 f : List Int} (h : IvP ps x x1 f ps.length) : IvR ps x f := ⟨⟨h.len, h.fb⟩, fun m hm hz => by
  obtain ⟨_, g2, g3⟩ := h.iv m hm hz
  exact ⟨fun i hi => g2 i hi (by omega), fun hl => g3 hl hl⟩⟩
/-- generators and powers -/
structure GnR (ps r : List Int) (k : Nat) : Prop where
  bl : Bl ps r
  zb : Zb r k
  one : atR r k = 1
structure NwR (ps x r' : List Int) (i : Nat) : Prop where
  bl : Bl ps r'
  lo : ∀ a, a ≤ i → atR r' a = atR x a
  same : atR x i = 0 → r' = x
theorem NwR.zb {ps x r' : List Int} {i k : Nat} (h : NwR ps x r' i) (hz : Zb x (k + 1)) : Zb r' (k + 1) := by
  rcases Nat.lt_or_ge i k with c | c
  · rw [h.same (hz i (by omega))]
    exact hz
  · intro a ha
    rw [h.lo a (by omega)]
    exact hz a ha
/-- the conjugate's place -/
theorem conj_zb {ps x y xy v f : List Int} {j k : Nat} (hj : k < j) (hjn : j < ps.length) (p2 : 2 ≤ atR ps k) (hx : GnR ps x j) (hy : GnR ps y k) (h1 : AdR ps x y xy) (h2 : IvR ps y v) (h3 : AdR ps v xy f) : Zb f (k + 1) := by
  obtain ⟨a1, a2⟩ := h1.ad k (by omega) hy.zb
  obtain ⟨b1, b2⟩ := h2.iv k (by omega) hy.zb
  have hxy : Zb xy k := fun i hi => by rw [a1 i hi]; exact hx.zb i (by omega)
  obtain ⟨c1, c2⟩ := h3.ad k (by omega) hxy
  intro i hi
  rcases Nat.lt_or_ge i k with c | c
  · rw [c1 i c]
    exact b1 i c
  · have e : i = k := by omega
    subst e
    rw [c2 (by omega), a2 (by omega), b2 (by omega), hy.one, hx.zb i hj, Int.zero_add]
    rw [Int.emod_eq_of_lt (show (0 : Int) ≤ 1 by omega) (show (1 : Int) < atR ps i by omega), Int.emod_eq_of_lt (show (0 : Int) ≤ atR ps i - 1 by omega) (show atR ps i - 1 < atR ps i by omega)]
    rw [show atR ps i - 1 + 1 = atR ps i by omega, Int.emod_self]
/-- the powers' places -/
structure PwP (ps g f : List Int) (k t : Nat) : Prop where
  bl : Bl ps f
  zb : Zb f k
  pl : atR f k = (t : Int) % atR ps k
theorem PwP.init {ps g : List Int} {k : Nat} (hk : k < ps.length) (p2 : 2 ≤ atR ps k) (h : GnR ps g k) : PwP ps g g k 1 := ⟨h.bl, h.zb, by
  rw [h.one]
  exact (Int.emod_eq_of_lt (show (0 : Int) ≤ 1 by omega) (by omega)).symm⟩
theorem PwP.step {ps g f f2 : List Int} {k t : Nat} (hk : k < ps.length) (h : GnR ps g k) (q : PwP ps g f k t) (a : AdR ps f g f2) : PwP ps g f2 k (t + 1) := by
  obtain ⟨a1, a2⟩ := a.ad k (by omega) h.zb
  refine ⟨a.bl, fun i hi => by rw [a1 i hi]; exact q.zb i hi, ?_⟩
  rw [a2 hk, q.pl, h.one, Int.emod_add_emod]
  congr 1
theorem PwP.done {ps g f : List Int} {k t : Nat} (q : PwP ps g f k t) (e : (t : Int) = atR ps k) : Zb f (k + 1) := by
  intro i hi
  rcases Nat.lt_or_ge i k with c | c
  · exact q.zb i c
  · have c2 : i = k := by omega
    rw [c2, q.pl, e, Int.emod_self]
/-! ### the dict of known steps -/
def KnOK (P : Program) (w : World) (K : PySem.W.Frag) (H : Hp) (kn : Addr) (t : Tb) : Prop := ∃ kvs : List (Pk.PK × V), Pk.KD P w K H kn kvs ∧ ∀ kv ∈ kvs, ∃ j : Nat, kv.1.1 = (j : Int) ∧ j < t.ps.length ∧ Bl (t.ps.drop j) kv.1.2 ∧ ∃ v, RS K H kv.2 v ∧ Bl (t.ps.drop j) v ∧ atR v 0 = (atR kv.1.2 0 + 1) % atR t.ps j
theorem paired_fst {α β γ : Type} {R : α × β → α × γ → Prop} (h : ∀ a b, R a b → a.1 = b.1) : ∀ {xs : List (α × β)} {ys : List (α × γ)}, Paired R xs ys → xs.map (·.1) = ys.map (·.1)
  | _, _, .nil => rfl
  | _, _, .cons q t => by rw [List.map_cons, List.map_cons, h _ _ q, paired_fst h t]
theorem kd_nodup {H : Hp} {d : Addr} {kvs : List (Pk.PK × V)} (h : Pk.KD P w K H d kvs) : (kvs.map (·.1)).Nodup := by
  obtain ⟨xs, h⟩ := h
  rw [paired_fst (fun _ _ q => q.1) h.rel]
  exact h.nd
theorem KnOK.few {H : Hp} {kn : Addr} {t : Tb} (hv : Vd t) {kvs : List (Pk.PK × V)} (h : Pk.KD P w K H kn kvs) (hk : ∀ kv ∈ kvs, ∃ j : Nat, kv.1.1 = (j : Int) ∧ j < t.ps.length ∧ Bl (t.ps.drop j) kv.1.2) : kvs.length < sizeLine := by
  have h1 := nodup_few (m := allK 0 t.ps) (kd_nodup h) fun x hx => by
    obtain ⟨kv, hkv, rfl⟩ := List.mem_map.mp hx
    obtain ⟨j, e, hj, hb⟩ := hk kv hkv
    have := allK_mem 0 hj hb
    rw [Nat.zero_add] at this
    rw [← Prod.eta kv.1, e]
    exact this
  have h2 := allK_len 0 (ps := t.ps) (c := 1000) (fun p hp => (pr31_in (hv.pr p hp)).1) hv.sz
  have h3 : t.ps.length * 1000 ≤ 10 * 1000 := Nat.mul_le_mul_right _ hv.n10
  rw [List.length_map] at h1
  exact small2000 (by omega)
theorem KnOK.mono {H H' : Hp} {kn : Addr} {t : Tb} (e : Same H H') (h : KnOK P w K H kn t) : KnOK P w K H' kn t := by
  obtain ⟨kvs, h1, h2⟩ := h
  refine ⟨kvs, h1.mono e, fun kv hkv => ?_⟩
  obtain ⟨j, a, b, c, v, d, f⟩ := h2 kv hkv
  exact ⟨j, a, b, c, v, rs_tps (Tps.of e) d, f⟩
theorem KnOK.ext {H : Hp} {kn : Addr} {t : Tb} (h : KnOK P w K H kn t) : ∃ φ, H kn = some (.ext φ) := by
  obtain ⟨kvs, ⟨xs, h⟩, _⟩ := h
  exact ⟨_, h.here⟩
theorem Tps.xe {H H' : Hp} {a : Addr} {φ : Heap → Prop} (e : SameX a H H') (ha : H a = some (.ext φ)) : Tps K H H' := fun b ys h => by
  rcases h with (h | ⟨o, h⟩) | h
  · exact .inl (.inl (e b _ (fun z => by rw [z, ha] at h; cases h) h))
  · exact .inl (.inr ⟨o, e b _ (fun z => by rw [z, ha] at h; cases h) h⟩)
  · exact .inr h
theorem valV_mem {κ : Type} [DecidableEq κ] {k : κ} {v : V} : ∀ {kvs : List (κ × V)}, valV kvs k = some v → (k, v) ∈ kvs
  | [], h => by cases h
  | p :: kvs, h => by
    by_cases e : p.1 = k
    · rw [valV_pos e] at h
      cases h
      rw [← e]
      exact List.mem_cons_self
    · rw [valV_neg e] at h
      exact List.mem_cons_of_mem _ (valV_mem h)
theorem mem_putK {κ : Type} [DecidableEq κ] {k : κ} {v : V} {kvs : List (κ × V)} {kv : κ × V} (h : kv ∈ putK kvs k v) : kv ∈ kvs ∨ (kv.1 = k ∧ kv.2 = v) := by
  unfold putK at h
  split at h
  · obtain ⟨q, hq, rfl⟩ := List.mem_map.mp h
    by_cases e : q.1 = k
    · rw [if_pos e]
      exact .inr ⟨e, rfl⟩
    · rw [if_neg e]
      exact .inl hq
  · rcases List.mem_append.mp h with h | h
    · exact .inl h
    · rw [List.mem_singleton.mp h]
      exact .inr ⟨rfl, rfl⟩
/-- one more -/
theorem KnOK.put {H H' : Hp} {kn : Addr} {t : Tb} {kvs : List (Pk.PK × V)} {k : Pk.PK} {x : V} (e : Tps K H H') (hk : ∀ kv ∈ kvs, ∃ j : Nat, kv.1.1 = (j : Int) ∧ j < t.ps.length ∧ Bl (t.ps.drop j) kv.1.2 ∧ ∃ v, RS K H kv.2 v ∧ Bl (t.ps.drop j) v ∧ atR v 0 = (atR kv.1.2 0 + 1) % atR t.ps j)
    (hn : ∃ j : Nat, k.1 = (j : Int) ∧ j < t.ps.length ∧ Bl (t.ps.drop j) k.2 ∧ ∃ v, RS K H x v ∧ Bl (t.ps.drop j) v ∧ atR v 0 = (atR k.2 0 + 1) % atR t.ps j) (h : Pk.KD P w K H' kn (putK kvs k x)) : KnOK P w K H' kn t := by
  refine ⟨_, h, fun kv hkv => ?_⟩
  rcases mem_putK hkv with q | ⟨q1, q2⟩
  · obtain ⟨j, a, b, c, v, d, f⟩ := hk kv q
    exact ⟨j, a, b, c, v, rs_tps e d, f⟩
  · obtain ⟨j, a, b, c, v, d, f⟩ := hn
    rw [q1, q2]
    exact ⟨j, a, b, c, v, rs_tps e d, f⟩
theorem TbAt.rd {H : Hp} {z : V} {t : Tb} (h : TbAt K H z t) : ∃ (x a b c : Addr) (us vs : List V), z = .ref x ∧ SqT K H x [.ref a, .ref b, .ref c] ∧ SqT K H a (t.ps.map V.int) ∧ SqT K H b us ∧ Paired (RS K H) us t.pw ∧ SqT K H c vs ∧ Paired (Tup1 K H) vs t.cj := by
  obtain ⟨x, a, b, c, vs, h1, h2, h3, ⟨b', us, eb, h4, h5⟩, h6, h7⟩ := h.ex
  cases eb
  exact ⟨x, a, b, c, us, vs, h1, h2, h3, h4, h5, h6, h7⟩
theorem cut_from {xs : List V} {j : Nat} (h : j ≤ xs.length) : cutV xs (some (j : Int)) none = xs.drop j := by
  unfold cutV
  rw [HT.sIx_none, HT.sIx_nat, Nat.min_eq_left h]
  exact List.take_of_length_le (by rw [List.length_drop]; exact Nat.le_refl _)
theorem cut_to {xs : List V} {j : Nat} (h : j ≤ xs.length) : cutV xs none (some (j : Int)) = xs.take j := by
  unfold cutV
  rw [HT.sIx_none, HT.sIx_nat, Nat.min_eq_left h, List.drop_zero, Nat.sub_zero]
theorem Bl.drop {ps r : List Int} (h : Bl ps r) (j : Nat) : Bl (ps.drop j) (r.drop j) := ⟨by rw [List.length_drop, List.length_drop, h.1], fun k hk => by
  rw [List.length_drop] at hk
  rw [atR_drop, atR_drop]
  exact h.2 (j + k) (by omega)⟩
theorem atW {r : List Int} {k : Nat} (h : k < r.length) : atI (r.map V.int) (k : Int) = some (.int (atR r k)) := atI_nat (by rw [List.getElem?_map, atR_get h]; rfl)
theorem hu2 {A : Around} {k : Nat} (hr : Room k A) : A.units + 2 < cLine := by
  have := hr.un
  omega
/-- a step's row: the old up to the place, then the known -/
theorem step_row {ps r v : List Int} {j : Nat} (hr : Bl ps r) (hj : j < ps.length) (hv : Bl (ps.drop j) v) (h0 : atR v 0 = (atR r j + 1) % atR ps j) : StpR ps r (r.take j ++ v) j := by
  have hl : (r.take j).length = j := by rw [List.length_take, hr.1]; omega
  have hvl := hv.1
  rw [List.length_drop] at hvl
  refine ⟨⟨by rw [List.length_append, hl, hvl]; omega, fun k hk => ?_⟩, fun i hi => ?_, ?_⟩
  · rcases Nat.lt_or_ge k j with c | c
    · rw [atR_app1 (by omega), atR_take c]
      exact hr.2 k hk
    · rw [atR_app2 (by omega), hl]
      have := hv.2 (k - j) (by rw [List.length_drop]; omega)
      rw [atR_drop, show j + (k - j) = k by omega] at this
      exact this
  · rw [atR_app1 (by omega), atR_take hi]
  · rw [atR_app2 (by omega), hl, Nat.sub_self]
    exact h0
/-- a known row: the place, then the found -/
theorem known_row {ps f : List Int} {j : Nat} {pl : Int} (hf : Bl ps f) (hj : j < ps.length) (h0 : 0 ≤ pl) (h1 : pl < atR ps j) : Bl (ps.drop j) (pl :: f.drop (j + 1)) := by
  refine ⟨by rw [List.length_cons, List.length_drop, List.length_drop, hf.1]; omega, fun k hk => ?_⟩
  rw [List.length_drop] at hk
  rw [atR_drop]
  cases k with
  | zero => exact ⟨h0, h1⟩
  | succ k =>
    rw [atR_succ, atR_drop, show j + (k + 1) = j + 1 + k by omega]
    exact hf.2 (j + 1 + k) (by omega)
/-! ### _law_step, _law_times -/
def spStep (P : Program) (w : World) (K : PySem.W.Frag) (d : Nat) : Sp := fun vs H Q _ => ∃ (kn : Addr) (z rv : V) (t : Tb) (r : List Int) (j : Nat), vs = [z, .ref kn, rv, .int (j : Int)] ∧ TbAt K H z t ∧ Vd t ∧ KnOK P w K H kn t ∧ RS K H rv r ∧ Bl t.ps r ∧ j < t.ps.length ∧ t.ps.length ≤ j + d ∧
  ∀ z' r' H', SameX kn H H' → Tps K H H' → KnOK P w K H' kn t → RS K H' z' r' → StpR t.ps r r' j → Q z' H'
def spTimes (P : Program) (w : World) (K : PySem.W.Frag) (d : Nat) : Sp := fun vs H Q _ => ∃ (kn : Addr) (z xv yv : V) (t : Tb) (x y : List Int), vs = [z, .ref kn, xv, yv] ∧ TbAt K H z t ∧ Vd t ∧ KnOK P w K H kn t ∧ RS K H xv x ∧ RS K H yv y ∧ Bl t.ps x ∧ Bl t.ps y ∧ (∀ i, i + d < t.ps.length → atR y i = 0) ∧
  ∀ z' r' H', SameX kn H H' → Tps K H H' → KnOK P w K H' kn t → RS K H' z' r' → AdR t.ps x y r' → Q z' H'
theorem ok_times0 {d : Nat} (T : Txt K mg) (G__law_step : FnOk P w K mg base CX0 (2 * d + 1) T.a__law_step T.d__law_step ["table", "known", "row", "j"] (spStep P w K d)) : FnOk P w K mg base CX0 (2 * d + 2) T.a__law_times T.d__law_times ["table", "known", "x", "y"] (spTimes P w K d) := by
  refine T.F__law_times.ok sc__law_times (fun vs H Q E h => ?_) (fun cdv A outer s H vs Q E hr h => ?_)
  · obtain ⟨kn, z, xv, yv, t, x, y, rfl, _⟩ := h
    rfl
  · obtain ⟨kn, z, xv, yv, t, x, y, rfl, hT, hV, hK, hx, hy, hbx, hby, hy0, q⟩ := h
    refine ⟨_, (pss_cons (ps_for PassesOwn.never rfl (pi_range1 (by rfl) T.n_range (pa_cons (pe_callB call_len_seq (by rfl) T.n_len (by decide +kernel) (pa_cons (pv 3) pa_nil)) pa_nil)) (pg_name (i := 4) sc__law_times.nd rfl (.inl rfl)) 
      (pss_one (ps_for PassesOwn.never rfl (pi_range1 (by rfl) T.n_range (pa_cons (pe_ix ix_tup (pv 3) (pv 4) (fun _ _ => rfl)) pa_nil)) (pg_name (i := 5) sc__law_times.nd rfl (.inl rfl)) 
        (pss_one (ps_set (i := 2) sc__law_times.nd rfl (.inl rfl) (pe_call G__law_step (hr.mono (by omega)) (by rfl) T.g__law_step T.F__law_step.kp T.b__law_step .nil pass0 (pa_cons (pv 0) (pa_cons (pv 1) (pa_cons (pv 2) (pa_cons (pv 4) pa_nil)))))))))) 
    (pss_one (ps_ret (pv 2)))), ?_⟩
    obtain ⟨yt, rfl, hyS⟩ := id hy
    have hn := hV.n10
    refine ⟨_, rfl, yt, _, rfl, .inr hyS, _, rfl, by rw [List.length_map, hby.1]; omega, by rw [List.length_map, hby.1]; omega, ?_⟩
    rw [List.length_map, hby.1, Int.toNat_natCast]
    refine for_range (lo := 0) (n := t.ps.length) (fun k σ H' => ∃ (xv : V) (x1 : List Int) (y4 y5 : Option V), σ = [some z, some (.ref kn), some xv, some (.ref yt), y4, y5] ∧ SameX kn H H' ∧ Tps K H H' ∧ KnOK P w K H' kn t ∧ RS K H' xv x1 ∧ AdP t.ps x y x1 k 0)
      ⟨xv, x, none, none, rfl, Same.x (Same.refl H), Tps.of (Same.refl H), hK, hx, AdP.init hbx⟩ ?_ ?_
    · rintro k σ H' hk ⟨xv, x1, y4, y5, rfl, sx, tp, hK, hx1, hA⟩
      rw [Int.zero_add]
      have hyk := hby.2 k hk
      have hp2 := hV.p2 hk
      refine ⟨_, rfl, _, rfl, yt, _, _, _, rfl, rfl, tp _ _ hyS, atW (by rw [hby.1]; exact hk), _, rfl, by omega, by omega, ?_⟩
      refine for_range (lo := 0) (n := (atR y k).toNat) (fun m σ H' => ∃ (xv : V) (x1 : List Int) (y5 : Option V), σ = [some z, some (.ref kn), some xv, some (.ref yt), some (.int (k : Int)), y5] ∧ SameX kn H H' ∧ Tps K H H' ∧ KnOK P w K H' kn t ∧ RS K H' xv x1 ∧ AdP t.ps x y x1 k m)
        ⟨xv, x1, _, rfl, sx, tp, hK, hx1, hA⟩ ?_ ?_
      · rintro m σ H2 hm ⟨xv, x1, y5, rfl, sx, tp, hK, hx1, hA⟩
        refine ⟨_, rfl, _, rfl, _, rfl, _, rfl, kn, z, xv, t, x1, k, rfl, hT.tps tp, hV, hK, hx1, hA.bl, hk, ?_, fun z' r' H3 sx3 tp3 hK3 hr3 hs3 => ?_⟩
        · rcases Nat.lt_or_ge (k + d) t.ps.length with c | c
          · have := hy0 k c
            omega
          · exact c
        · exact ⟨z', r', _, rfl, sx.trans sx3, tp.trans tp3, hK3, hr3, hA.step hs3 hk (by omega)⟩
      · rintro σ H2 ⟨xv, x1, y5, rfl, sx, tp, hK, hx1, hA⟩
        exact ⟨xv, x1, _, _, rfl, sx, tp, hK, hx1, hA.next (by omega)⟩
    · rintro σ H' ⟨xv, x1, y4, y5, rfl, sx, tp, hK, hx1, hA⟩
      exact ⟨_, rfl, q _ _ _ sx tp hK hx1 hA.done⟩
theorem ok_step0 {d : Nat} (T : Txt K mg) (G__law_times : FnOk P w K mg base CX0 (2 * d + 2) T.a__law_times T.d__law_times ["table", "known", "x", "y"] (spTimes P w K d)) : FnOk P w K mg base CX0 (2 * d + 3) T.a__law_step T.d__law_step ["table", "known", "row", "j"] (spStep P w K (d + 1)) := by
  refine T.F__law_step.ok sc__law_step (fun vs H Q E h => ?_) (fun cdv A outer s H vs Q E hr h => ?_)
  · obtain ⟨kn, z, rv, t, r, j, rfl, _⟩ := h
    rfl
  · obtain ⟨kn, z, rv, t, r, j, rfl, hT, hV, hK, hr_, hbr, hj, hd, q⟩ := h
    refine ⟨_, (pss_cons (ps_set (i := 4) sc__law_step.nd rfl (.inl rfl) (pe_tup (pa_cons (pv 3) (pa_cons (pe_slice sl_tupA (pv 2) (po_some (pv 3)) po_none) pa_nil)))) 
    (C8.pss_cut (ps_if (pt_cmpR (Pk.op_notInP (hu2 hr)) (pv 4) (pv 1) rfl) 
      (pss_cons (ps_set (i := 5) sc__law_step.nd rfl (.inl rfl) (pe_callB call_len_seq (by rfl) T.n_len (by decide +kernel) (pa_cons (pv 2) pa_nil))) 
      (pss_cons (ps_set (i := 6) sc__law_step.nd rfl (.inl rfl) (pe_op op_add (pe_ix ix_tup (pv 2) (pv 3) (fun _ _ => rfl)) pe_int)) 
      (pss_cons (ps_set (i := 8) sc__law_step.nd rfl (.inl rfl) (pe_callTy call_tuple_of (by rfl) T.n_tuple (by decide +kernel) (pa_cons (pe_lc (own := [("k", 7)]) rfl sc__law_step.nd (pi_range1 (by rfl) T.n_range (pa_cons (pv 5) pa_nil)) (blkOk_by (N := N__law_step) (sc := defScope s__law_step) (own := [("k", 7)]) (by decide +kernel)) (fun _ _ _ _ _ => (pg_name (i := 7) sc__law_step.nd rfl (.inl rfl))) (fun _ _ _ _ _ => pts_nil) (fun _ _ _ _ _ => pe_int)) pa_nil))) 
      (C8.pss_cut (ps_if (pt_cmpR op_eq (pv 6) (pe_ix ix_tup (pe_ix ix_tup (pv 0) pe_int (fun _ _ => rfl)) (pv 3) (fun _ _ => rfl)) (nomark _)) 
        (pss_cons (ps_set (i := 6) sc__law_step.nd rfl (.inl rfl) pe_int) 
        (pss_one (ps_set (i := 8) sc__law_step.nd rfl (.inl rfl) (pe_ix ix_tup (pe_ix ix_tup (pv 0) pe_int (fun _ _ => rfl)) (pv 3) (fun _ _ => rfl))))) pss_nil) 
      (pss_cons (ps_for PassesOwn.never rfl (pi_range2 (by rfl) T.n_range (pa_cons (pe_op op_add (pv 3) pe_int) (pa_cons (pv 5) pa_nil))) (pg_name (i := 7) sc__law_step.nd rfl (.inl rfl)) 
        (pss_one (ps_for PassesOwn.never rfl (pi_range1 (by rfl) T.n_range (pa_cons (pe_ix ix_tup (pv 2) (pv 7) (fun _ _ => rfl)) pa_nil)) (pg_name (i := 9) sc__law_step.nd rfl (.inl rfl)) 
          (pss_one (ps_set (i := 8) sc__law_step.nd rfl (.inl rfl) (pe_call G__law_times (hr.mono (by omega)) (by rfl) T.g__law_times T.F__law_times.kp T.b__law_times .nil pass0 (pa_cons (pv 0) (pa_cons (pv 1) (pa_cons (pv 8) (pa_cons (pe_ix ix_tup (pe_ix ix_tup (pe_ix ix_tup (pv 0) pe_int (fun _ _ => rfl)) (pv 3) (fun _ _ => rfl)) (pe_op op_sub (pe_op op_sub (pv 7) (pv 3)) pe_int) (fun _ _ => rfl)) pa_nil)))))))))) 
      (pss_one (ps_asg (pe_op op_catA (pe_tup (pa_cons (pv 6) pa_nil)) (pe_slice sl_tupA (pv 8) (po_some (pe_op op_add (pv 3) pe_int)) po_none)) (pg_sub (pv 1) (pv 4) (Pk.set_dictP (hu2 hr)))))))))) pss_nil) 
    (pss_one (ps_ret (pe_op op_catA (pe_slice sl_tupA (pv 2) po_none (po_some (pv 3))) (pe_ix (Pk.ix_dictP (hu2 hr)) (pv 1) (pv 4) (fun _ _ => rfl))))))), ?_⟩
    obtain ⟨rt, rfl, hrS⟩ := id hr_
    have hn := hV.n10
    have hp2 := hV.p2 hj
    have hrj := hbr.2 j hj
    have hrl : (r.map V.int).length = t.ps.length := by rw [List.length_map]; exact hbr.1
    refine ⟨_, rfl, _, rfl, _, rfl, (j : Int), rfl, ?_⟩
    unfold tNoPart
    refine slA_q (lo := some (j : Int)) (hi := none) hrS fun dt H1 s1 hdt => ⟨by show 2 ≤ sizeLine; decide, fun kt nkt => ?_⟩
    rw [cut_from (by rw [hrl]; omega), ← List.map_drop] at hdt
    have s2 := same_new (o := .tup [V.int (j : Int), V.ref dt]) nkt
    have hKA : Pk.KeyAt K (upd H1 kt (.tup [V.int (j : Int), V.ref dt])) ((j : Int), r.drop j) kt := ⟨dt, .inl (.inl upd_same), Own.same_tup s2 hdt⟩
    have s12 := s1.trans s2
    have tp0 := Tps.of (K := K) s12
    have hK1 := hK.mono s12
    generalize upd H1 kt (.tup [V.int (j : Int), V.ref dt]) = H2 at *
    refine ⟨fun σ H' => SameX kn H H' ∧ Tps K H H' ∧ KnOK P w K H' kn t ∧ ∃ kvs vv v, Pk.KD P w K H' kn kvs ∧ valV kvs ((j : Int), r.drop j) = some vv ∧ RS K H' vv v ∧ Bl (t.ps.drop j) v ∧ atR v 0 = (atR r j + 1) % atR t.ps j ∧ Pk.KeyAt K H' ((j : Int), r.drop j) kt ∧ ∃ y5 y6 y7 y8 y9, σ = [some z, some (.ref kn), some (.ref rt), some (.int (j : Int)), some (.ref kt), y5, y6, y7, y8, y9], ?_, ?_⟩
    · obtain ⟨kvs, hKD, hkv⟩ := id hK1
      refine ⟨_, rfl, _, rfl, kn, kt, ((j : Int), r.drop j), kvs, rfl, rfl, hKA, hKD, _, rfl, ?_⟩
      cases hval : valV kvs ((j : Int), r.drop j) with
      | some vv =>
        obtain ⟨j2, e1, _, _, v, hv1, hv2, hv3⟩ := hkv _ (valV_mem hval)
        have e2 : j = j2 := by
          have : (j : Int) = (j2 : Int) := e1
          omega
        subst e2
        have hv3 : atR v 0 = (atR (r.drop j) 0 + 1) % atR t.ps j := hv3
        rw [atR_drop, Nat.add_zero] at hv3
        exact iteB (by simp) ⟨Same.x s12, tp0, hK1, kvs, vv, v, hKD, hval, hv1, hv2, hv3, hKA, _, _, _, _, _, rfl⟩
      | none =>
        refine iteA (by simp) ?_
        refine ⟨_, rfl, rt, _, rfl, .inr (tp0 _ _ hrS), ?_⟩
        refine ⟨_, rfl, _, rfl, rt, _, _, _, rfl, rfl, tp0 _ _ hrS, atW (by rw [hbr.1]; exact hj), _, _, rfl, rfl, ?_⟩
        rw [hrl]
        obtain ⟨x, a, b, c, us, vs, rfl, hSx, hSa, hSb, hPw, hSc, hPc⟩ := (hT.tps tp0).rd
        refine ⟨_, rfl, (t.ps.length : Int), rfl, by omega, by omega, fun D nD => ?_⟩
        refine lc_rep (walk_range (lo := 0) (n := t.ps.length)) st_RI (fun _ => 0) (by omega) nD (fun H2 sm => trivial) (fun i x H2 H3 Q2 hi sm hY q2 => ?_) (fun H3 acc s3 eD hP => ?_)
        · obtain ⟨rfl, rfl⟩ := hY
          exact ⟨rfl, q2 _ _ (Same.refl _) rfl⟩
        have e := ints_of hP
        have e2 : (List.range t.ps.length).map (fun _ => (0 : Int)) = zeroR t.ps.length := by
          unfold zeroR
          rw [List.map_const', List.length_range]
        rw [e2] at e
        subst e
        refine ⟨D, _, rfl, .inl ⟨.inl (.inl eD), fun u nu => ?_⟩⟩
        have s4 := s3.trans (same_new (o := .tup ((zeroR t.ps.length).map V.int)) nu)
        have hz : RS K (upd H3 u (.tup ((zeroR t.ps.length).map V.int))) (.ref u) (zeroR t.ps.length) := ⟨u, rfl, .inl (.inl upd_same)⟩
        generalize upd H3 u (.tup ((zeroR t.ps.length).map V.int)) = H4 at *
        have hbz : Bl t.ps (zeroR t.ps.length) := ⟨by unfold zeroR; rw [List.length_replicate], fun k hk => by
          rw [atR_zero]
          have := hV.p2 hk
          omega⟩
        refine ⟨fun σ H' => Same H4 H' ∧ ∃ (pl : Int) (fv : V) (f : List Int) (y7 y9 : Option V), σ = [some (.ref x), some (.ref kn), some (.ref rt), some (.int j), some (.ref kt), some (.int (t.ps.length : Int)), some (.int pl), y7, some fv, y9] ∧ pl = (atR r j + 1) % atR t.ps j ∧ RS K H' fv f ∧ Bl t.ps f, ?_, ?_⟩
        · refine ⟨_, rfl, _, rfl, x, _, 0, _, rfl, rfl, Own.same_tup s4 hSx, atI_nat (j := 0) rfl, _, rfl, a, _, (j : Int), _, rfl, rfl, Own.same_tup s4 hSa, atW hj, rfl, _, rfl, ite2 (fun c1 => ?_) (fun c1 => ?_)⟩
          · have c2 : atR r j + 1 = atR t.ps j := by simpa using c1
            obtain ⟨f, ef⟩ : ∃ f, t.pw[j]? = some f := ⟨_, List.getElem?_eq_getElem (by rw [hV.pwl]; exact hj)⟩
            obtain ⟨fv, efv, hfv⟩ := paired_get2 hPw ef
            refine ⟨_, rfl, x, _, 1, _, rfl, rfl, Own.same_tup s4 hSx, atI_nat (j := 1) rfl, _, rfl, b, _, (j : Int), _, rfl, rfl, Own.same_tup s4 hSb, atI_nat efv, ?_⟩
            exact ⟨Same.refl _, 0, fv, f, _, _, rfl, by rw [c2, Int.emod_self], rs_tps (Tps.of s4) hfv, (hV.pwr j f ef).1⟩
          · have c2 : atR r j + 1 ≠ atR t.ps j := by simpa using c1
            exact ⟨Same.refl _, atR r j + 1, _, _, _, _, rfl, by rw [Int.emod_eq_of_lt (by omega) (by omega)], hz, hbz⟩
        · rintro σ H5 ⟨s5, pl, fv, f, y7, y9, rfl, epl, hf, hbf⟩
          have s15 := s4.trans s5
          have hSx := Own.same_tup s15 hSx
          have hSc := Own.same_tup s15 hSc
          have hT5 := (hT.tps tp0).tps (Tps.of s15)
          have hK5 := hK1.mono s15
          have hKA5 := hKA.via (Own.same_tup s15)
          have hrS5 := Own.same_tup s15 (tp0 _ _ hrS)
          have tp5 := tp0.trans (Tps.of s15)
          refine ⟨_, rfl, _, _, rfl, rfl, _, rfl, _, _, rfl, ⟨by omega, by omega, by omega, by omega⟩, ?_⟩
          refine for_range (lo := (j : Int) + 1) (n := ((t.ps.length : Int) - ((j : Int) + 1)).toNat) (fun m σ H' => ∃ (fv : V) (f : List Int) (y7 y9 : Option V), σ = [some (.ref x), some (.ref kn), some (.ref rt), some (.int j), some (.ref kt), some (.int (t.ps.length : Int)), some (.int pl), y7, some fv, y9] ∧ SameX kn H5 H' ∧ Tps K H5 H' ∧ KnOK P w K H' kn t ∧ RS K H' fv f ∧ Bl t.ps f)
            ⟨fv, f, _, _, rfl, Same.x (Same.refl _), Tps.of (Same.refl _), hK5, hf, hbf⟩ ?_ ?_
          · rintro m σ H6 hm ⟨fv, f, y7, y9, rfl, sx6, tp6, hK6, hf6, hbf6⟩
            have hkn : j + 1 + m < t.ps.length := by omega
            rw [show (j : Int) + 1 + (m : Int) = ((j + 1 + m : Nat) : Int) by omega]
            have hrk := hbr.2 _ hkn
            have hpk := hV.p2 hkn
            refine ⟨_, rfl, _, rfl, rt, _, _, _, rfl, rfl, tp6 _ _ hrS5, atW (by rw [hbr.1]; exact hkn), _, rfl, by omega, by omega, ?_⟩
            refine for_range (lo := 0) (n := (atR r (j + 1 + m)).toNat) (fun _ σ H' => ∃ (fv : V) (f : List Int) (y9 : Option V), σ = [some (.ref x), some (.ref kn), some (.ref rt), some (.int j), some (.ref kt), some (.int (t.ps.length : Int)), some (.int pl), some (.int ((j + 1 + m : Nat) : Int)), some fv, y9] ∧ SameX kn H5 H' ∧ Tps K H5 H' ∧ KnOK P w K H' kn t ∧ RS K H' fv f ∧ Bl t.ps f)
              ⟨fv, f, _, rfl, sx6, tp6, hK6, hf6, hbf6⟩ ?_ ?_
            · rintro l σ H7 hl ⟨fv, f, y9, rfl, sx7, tp7, hK7, hf7, hbf7⟩
              obtain ⟨M, eM⟩ : ∃ M, t.cj[j]? = some M := ⟨_, List.getElem?_eq_getElem (by rw [hV.cjl]; exact hj)⟩
              obtain ⟨Mv, eMv, hMv⟩ := paired_get2 hPc eM
              obtain ⟨hMl, hMr⟩ := hV.cjr j M eM
              obtain ⟨y, ey⟩ : ∃ y, M[m]? = some y := ⟨_, List.getElem?_eq_getElem (by omega)⟩
              obtain ⟨Mt, us2, rfl, hMt, hMp⟩ := tup1_tps ((Tps.of s15).trans tp7) hMv
              obtain ⟨yv, eyv, hyv⟩ := paired_get2 hMp ey
              obtain ⟨hby, hzy⟩ := hMr y (List.mem_of_getElem? ey)
              refine ⟨_, rfl, _, rfl, _, rfl, _, rfl, x, _, 2, _, rfl, rfl, tp7 _ _ hSx, atI_nat (j := 2) rfl, _, rfl, c, _, (j : Int), _, rfl, rfl, tp7 _ _ hSc, atI_nat eMv, _, rfl, _, rfl, _, _, rfl, rfl, _, _, rfl, rfl, Mt, _, _, _, rfl, rfl, hMt, by rw [show ((j + 1 + m : Nat) : Int) - (j : Int) - 1 = (m : Int) by omega]; exact atI_nat eyv, ?_⟩
              refine ⟨kn, .ref x, fv, yv, t, f, y, rfl, hT5.tps tp7, hV, hK7, hf7, hyv, hbf7, hby, fun i hi => hzy i (by omega), fun z' r' H8 sx8 tp8 hK8 hr8 hA8 => ?_⟩
              exact ⟨z', r', _, rfl, sx7.trans sx8, tp7.trans tp8, hK8, hr8, hA8.bl⟩
            · rintro σ H7 ⟨fv, f, y9, rfl, sx7, tp7, hK7, hf7, hbf7⟩
              exact ⟨fv, f, _, _, rfl, sx7, tp7, hK7, hf7, hbf7⟩
          · rintro σ H6 ⟨fv, f, y7, y9, rfl, sx6, tp6, hK6, hf6, hbf6⟩
            refine ⟨_, rfl, by show 1 ≤ sizeLine; decide, fun pt npt => ?_⟩
            have s7 := same_new (o := .tup [V.int pl]) npt
            have hpt : SqT K (upd H6 pt (.tup [V.int pl])) pt ([pl].map V.int) := .inl (.inl upd_same)
            have tp7 := (tp5.trans tp6).trans (Tps.of s7)
            have sx7 : SameX kn H (upd H6 pt (.tup [V.int pl])) := ((Same.x (s12.trans s15)).trans sx6).trans (Same.x s7)
            have hK7 := hK6.mono s7
            have hKA7 := (hKA5.via (fun h => tp6 _ _ h)).via (Own.same_tup s7)
            have hf7 := rs_tps (Tps.of s7) hf6
            generalize upd H6 pt (.tup [V.int pl]) = H7 at *
            obtain ⟨ft, rfl, hfS⟩ := hf7
            refine ⟨_, rfl, _, rfl, _, _, rfl, rfl, (j : Int) + 1, rfl, ?_⟩
            refine slA_q (lo := some ((j : Int) + 1)) (hi := none) hfS fun gt H8 s8 hgt => ?_
            rw [show (j : Int) + 1 = ((j + 1 : Nat) : Int) by omega, cut_from (by rw [List.length_map, hbf6.1]; omega), ← List.map_drop] at hgt
            refine catA_q (Own.same_tup s8 hpt) hgt (by rw [List.length_map, List.length_map, List.length_drop, hbf6.1, List.length_singleton]; omega) fun ot H9 s9 hot => ?_
            rw [← List.map_append] at hot
            have s89 := s8.trans s9
            have hv : Bl (t.ps.drop j) ([pl] ++ f.drop (j + 1)) := known_row hbf6 hj (by rw [epl]; exact Int.emod_nonneg _ (by omega)) (by rw [epl]; exact Int.emod_lt_of_pos _ (by omega))
            have hv0 : atR ([pl] ++ f.drop (j + 1)) 0 = (atR r j + 1) % atR t.ps j := epl
            obtain ⟨kvs2, hKD2, hkv2⟩ := hK7.mono s89
            have hKA9 := hKA7.via (Own.same_tup s89)
            refine ⟨_, rfl, _, rfl, kn, kt, _, kvs2, rfl, rfl, hKA9, hKD2, KnOK.few hV hKD2 (fun kv hkv => let ⟨j, a, b, c, _⟩ := hkv2 kv hkv; ⟨j, a, b, c⟩), fun H10 sb hKD3 => ?_⟩
            have tp10 : Tps K H9 H10 := Tps.xe sb (KnOK.ext (hK7.mono s89)).choose_spec
            refine ⟨(sx7.trans (Same.x s89)).trans sb, (tp7.trans (Tps.of s89)).trans tp10, KnOK.put tp10 hkv2 ⟨j, rfl, hj, hbr.drop j, _, ⟨ot, rfl, hot⟩, hv, by rw [hv0]; show _ = (atR (r.drop j) 0 + 1) % _; rw [atR_drop, Nat.add_zero]⟩ hKD3, _, _, _, hKD3, (by rw [valV_put, if_pos rfl]), rs_tps tp10 ⟨ot, rfl, hot⟩, hv, hv0, hKA9.via (fun h => tp10 _ _ h), _, _, _, _, _, rfl⟩
    · rintro σ H3 ⟨sx, tp, hK3, kvs, vv, v, hKD, hval, hv1, hv2, hv3, hKA3, y5, y6, y7, y8, y9, rfl⟩
      refine ⟨_, rfl, _, rfl, (j : Int), rfl, slA_q (tp _ _ hrS) fun pt H4 s4 hpt => ?_⟩
      rw [cut_to (by rw [hrl]; omega), ← List.map_take] at hpt
      refine ⟨_, rfl, _, rfl, kn, kt, _, kvs, vv, rfl, rfl, hKA3.via (Own.same_tup s4), hKD.mono s4, hval, ?_⟩
      obtain ⟨vt, rfl, hvS⟩ := rs_tps (Tps.of s4) hv1
      have hvl := hv2.1
      rw [List.length_drop] at hvl
      refine catA_q hpt hvS (by rw [List.length_map, List.length_map, List.length_take, hbr.1, hvl]; omega) fun ot H5 s5 hot => ?_
      rw [← List.map_append] at hot
      have s45 := s4.trans s5
      exact q _ _ _ (sx.trans (Same.x s45)) (tp.trans (Tps.of s45)) (hK3.mono s45) ⟨ot, rfl, hot⟩ (step_row hbr hj hv2 hv3)
theorem ok_both0 (T : Txt K mg) : ∀ d : Nat, FnOk P w K mg base CX0 (2 * d + 1) T.a__law_step T.d__law_step ["table", "known", "row", "j"] (spStep P w K d) ∧ FnOk P w K mg base CX0 (2 * d + 2) T.a__law_times T.d__law_times ["table", "known", "x", "y"] (spTimes P w K d)
  | 0 => by
    have h1 : FnOk P w K mg base CX0 1 T.a__law_step T.d__law_step ["table", "known", "row", "j"] (spStep P w K 0) := by
      refine T.F__law_step.ok sc__law_step (fun vs H Q E h => ?_) (fun cdv A outer s H vs Q E hr h => ?_)
      · obtain ⟨kn, z, rv, t, r, j, rfl, _⟩ := h
        rfl
      · obtain ⟨kn, z, rv, t, r, j, rfl, hT, hV, hK, hr_, hbr, hj, hd, q⟩ := h
        exact absurd hd (by omega)
    exact ⟨h1, ok_times0 T h1⟩
  | d + 1 => by
    have h1 := ok_step0 T (ok_both0 T d).2
    exact ⟨h1, ok_times0 T h1⟩
theorem ok_lstep (T : Txt K mg) : FnOk P w K mg base CX0 21 T.a__law_step T.d__law_step ["table", "known", "row", "j"] (spStep P w K 10) := (ok_both0 T 10).1
theorem ok_ltimes (T : Txt K mg) : FnOk P w K mg base CX0 22 T.a__law_times T.d__law_times ["table", "known", "x", "y"] (spTimes P w K 10) := (ok_both0 T 10).2
/-! ### _law_inverse, _law_conjugated, _law_generator, _law_new_row -/
/-- what a run of steps leaves -/
structure Go (P : Program) (w : World) (K : PySem.W.Frag) (kn : Addr) (t : Tb) (H H' : Hp) : Prop where
  sx : SameX kn H H'
  tp : Tps K H H'
  ok : KnOK P w K H' kn t
theorem Go.trans {kn : Addr} {t : Tb} {H H1 H2 : Hp} (a : Go P w K kn t H H1) (b : Go P w K kn t H1 H2) : Go P w K kn t H H2 := ⟨a.sx.trans b.sx, a.tp.trans b.tp, b.ok⟩
theorem Go.same {kn : Addr} {t : Tb} {H H1 H2 : Hp} (a : Go P w K kn t H H1) (s : Same H1 H2) : Go P w K kn t H H2 := ⟨a.sx.trans (Same.x s), a.tp.trans (Tps.of s), a.ok.mono s⟩
theorem Go.init {kn : Addr} {t : Tb} {H H1 : Hp} (h : KnOK P w K H kn t) (s : Same H H1) : Go P w K kn t H H1 := ⟨Same.x s, Tps.of s, h.mono s⟩
theorem KnOK.put2 {H : Hp} {kn a : Addr} {t : Tb} {xs ys : List V} (ha : H a = some (.lst xs)) (h : KnOK P w K H kn t) : KnOK P w K (upd H a (.lst ys)) kn t := by
  obtain ⟨kvs, ⟨xs', h1⟩, h2⟩ := h
  have tp := Tps.x (K := K) (SameX.put (a := a) (H := H) (u := .lst ys)) ha
  refine ⟨kvs, ⟨xs', by rw [upd_ne (fun e => by have := h1.here; rw [e, ha] at this; cases this)]; exact h1.here, h1.nm, Pk.pair_via (fun _ _ q => ⟨q.1, q.2.1.via (fun h => tp _ _ h), q.2.2⟩) h1.rel, h1.nd, h1.few⟩, fun kv hkv => ?_⟩
  obtain ⟨j, a, b, c, v, d, f⟩ := h2 kv hkv
  exact ⟨j, a, b, c, v, rs_tps tp d, f⟩
/-- a list that was new is changed -/
theorem Go.put {kn a : Addr} {t : Tb} {H H1 : Hp} {xs ys : List V} (g : Go P w K kn t H H1) (n : H a = none) (e : H1 a = some (.lst xs)) : Go P w K kn t H (upd H1 a (.lst ys)) :=
  ⟨fun b o nb hb => by rw [upd_ne (ne_of_none hb n)]; exact g.sx b o nb hb, g.tp.trans (Tps.x SameX.put e), g.ok.put2 e⟩
def spInv (P : Program) (w : World) (K : PySem.W.Frag) : Sp := fun vs H Q _ => ∃ (kn : Addr) (z xv : V) (t : Tb) (x : List Int), vs = [z, .ref kn, xv] ∧ TbAt K H z t ∧ Vd t ∧ KnOK P w K H kn t ∧ RS K H xv x ∧ Bl t.ps x ∧
  ∀ z' r' H', Go P w K kn t H H' → RS K H' z' r' → IvR t.ps x r' → Q z' H'
theorem ok_linv (T : Txt K mg) : FnOk P w K mg base CX0 22 T.a__law_inverse T.d__law_inverse ["table", "known", "x"] (spInv P w K) := by
  have G__law_step : FnOk P w K mg base CX0 21 T.a__law_step T.d__law_step ["table", "known", "row", "j"] (spStep P w K 10) := ok_lstep T
  refine T.F__law_inverse.ok sc__law_inverse (fun vs H Q E h => ?_) (fun cdv A outer s H vs Q E hr h => ?_)
  · obtain ⟨kn, z, xv, t, x, rfl, _⟩ := h
    rfl
  · obtain ⟨kn, z, xv, t, x, rfl, hT, hV, hK, hx, hbx, q⟩ := h
    refine ⟨_, (pss_cons (ps_set (i := 3) sc__law_inverse.nd rfl (.inl rfl) (pe_lst pa_nil)) 
    (pss_cons (ps_for PassesOwn.never rfl (pi_range1 (by rfl) T.n_range (pa_cons (pe_callB call_len_seq (by rfl) T.n_len (by decide +kernel) (pa_cons (pv 2) pa_nil)) pa_nil)) (pg_name (i := 4) sc__law_inverse.nd rfl (.inl rfl)) 
      (pss_cons (ps_set (i := 5) sc__law_inverse.nd rfl (.inl rfl) (pe_op op_modE (pe_callTy call_int1 (by rfl) T.n_int (by decide +kernel) (pa_cons (pe_op op_sub (pe_ix ix_tup (pe_ix ix_tup (pv 0) pe_int (fun _ _ => rfl)) (pv 4) (fun _ _ => rfl)) (pe_ix ix_tup (pv 2) (pv 4) (fun _ _ => rfl))) pa_nil)) (pe_ix ix_tup (pe_ix ix_tup (pv 0) pe_int (fun _ _ => rfl)) (pv 4) (fun _ _ => rfl)))) 
      (pss_cons (ps_for PassesOwn.never rfl (pi_range1 (by rfl) T.n_range (pa_cons (pv 5) pa_nil)) (pg_name (i := 6) sc__law_inverse.nd rfl (.inl rfl)) 
        (pss_one (ps_set (i := 2) sc__law_inverse.nd rfl (.inl rfl) (pe_call G__law_step (hr.mono (by decide)) (by rfl) T.g__law_step T.F__law_step.kp T.b__law_step .nil pass0 (pa_cons (pv 0) (pa_cons (pv 1) (pa_cons (pv 2) (pa_cons (pv 4) pa_nil)))))))) 
      (pss_one (ps_expr (pe_bm PySem.F.plainAttrs_list PySem.F.slot_list_append PySem.F.type_list_append mt_append (pv 3) (pa_cons (pv 5) pa_nil))))))) 
    (pss_one (ps_ret (pe_callTy call_tuple_of (by rfl) T.n_tuple (by decide +kernel) (pa_cons (pv 3) pa_nil)))))), ?_⟩
    have hn := hV.n10
    obtain ⟨x0, a, b, c, us, vs, rfl, hSx, hSa, hSb, hPw, hSc, hPc⟩ := hT.rd
    refine ⟨Nat.zero_le _, fun fo nfo => ?_⟩
    obtain ⟨xt, rfl, hxS⟩ := id hx
    refine ⟨_, rfl, xt, _, rfl, .inr (Own.same_tup (same_new nfo) hxS), _, rfl, by rw [List.length_map, hbx.1]; omega, by rw [List.length_map, hbx.1]; omega, ?_⟩
    rw [List.length_map, hbx.1, Int.toNat_natCast]
    refine for_range (lo := 0) (n := t.ps.length) (fun k σ H' => ∃ (xv : V) (x1 f : List Int) (y4 y5 y6 : Option V), σ = [some (.ref x0), some (.ref kn), some xv, some (.ref fo), y4, y5, y6] ∧ Go P w K kn t H H' ∧ RS K H' xv x1 ∧ H' fo = some (.lst (f.map V.int)) ∧ IvP t.ps x x1 f k)
      ⟨.ref xt, x, [], none, none, none, rfl, Go.init hK (same_new nfo), rs_tps (Tps.of (same_new nfo)) hx, upd_same, IvP.init hbx⟩ ?_ ?_
    · rintro k σ H' hk ⟨xv, x1, f, y4, y5, y6, rfl, hg, hx1, hfo, hI⟩
      rw [Int.zero_add]
      have hp2 := hV.p2 hk
      have hxk := hI.bl.2 k hk
      obtain ⟨xt1, rfl, hxS1⟩ := id hx1
      refine ⟨_, rfl, x0, _, 0, _, rfl, rfl, hg.tp _ _ hSx, atI_nat (j := 0) rfl, _, rfl, a, _, (k : Int), _, rfl, rfl, hg.tp _ _ hSa, atW hk, _, rfl, _, rfl, xt1, _, (k : Int), _, rfl, rfl, hxS1, atW (by rw [hI.bl.1]; exact hk), _, _, rfl, rfl, .inl ⟨_, rfl, ?_⟩⟩
      refine ⟨_, rfl, x0, _, 0, _, rfl, rfl, hg.tp _ _ hSx, atI_nat (j := 0) rfl, _, rfl, a, _, (k : Int), _, rfl, rfl, hg.tp _ _ hSa, atW hk, _, _, rfl, rfl, by omega, ?_⟩
      have he0 : 0 ≤ (atR t.ps k - atR x1 k) % atR t.ps k := Int.emod_nonneg _ (by omega)
      have he1 : (atR t.ps k - atR x1 k) % atR t.ps k < atR t.ps k := Int.emod_lt_of_pos _ (by omega)
      have hee : (atR t.ps k - atR x1 k) % atR t.ps k = (atR t.ps k - atR x1 k) % atR t.ps k := rfl
      generalize hE : (atR t.ps k - atR x1 k) % atR t.ps k = e at *
      refine ⟨_, rfl, e, rfl, by omega, by omega, ?_⟩
      refine for_range (lo := 0) (n := e.toNat) (fun m σ H' => ∃ (xv : V) (x2 : List Int) (y6 : Option V), σ = [some (.ref x0), some (.ref kn), some xv, some (.ref fo), some (.int k), some (.int e), y6] ∧ Go P w K kn t H H' ∧ RS K H' xv x2 ∧ H' fo = some (.lst (f.map V.int)) ∧ Bl t.ps x2 ∧ (m = 0 → x2 = x1))
        ⟨.ref xt1, x1, _, rfl, hg, hx1, hfo, hI.bl, fun _ => rfl⟩ ?_ ?_
      · rintro m σ H2 hm ⟨xv, x2, y6, rfl, hg2, hx2, hfo2, hb2, _⟩
        refine ⟨_, rfl, _, rfl, _, rfl, _, rfl, kn, .ref x0, xv, t, x2, k, rfl, hT.tps hg2.tp, hV, hg2.ok, hx2, hb2, hk, by omega, fun z' r' H3 sx3 tp3 hK3 hr3 hs3 => ?_⟩
        exact ⟨z', r', _, rfl, hg2.trans ⟨sx3, tp3, hK3⟩, hr3, sx3 _ _ (fun e => by have := hK.ext; rw [← e, nfo] at this; obtain ⟨_, h⟩ := this; cases h) hfo2, hs3.bl, fun h => absurd h (by omega)⟩
      · rintro σ H2 ⟨xv, x2, y6, rfl, hg2, hx2, hfo2, hb2, h0⟩
        have hgt : f.length ≤ 10 := by rw [hI.len]; omega
        refine ⟨_, rfl, .inl ⟨rfl, _, .inl (.inl hfo2)⟩, _, rfl, fo, _, _, rfl, rfl, hfo2, small2000 (by rw [List.length_map]; omega), ?_⟩
        refine ⟨xv, x2, f ++ [e], _, _, _, rfl, hg2.put nfo hfo2, rs_tps (Tps.x SameX.put hfo2) hx2, by rw [upd_same, List.map_append]; rfl, hI.next hk (by omega) hE.symm hb2 (fun h => h0 (by omega))⟩
    · rintro σ H' ⟨xv, x1, f, y4, y5, y6, rfl, hg, hx1, hfo, hI⟩
      refine ⟨_, rfl, fo, _, rfl, .inl ⟨.inl (.inl hfo), fun u nu => ?_⟩⟩
      exact q _ _ _ (hg.same (same_new nu)) ⟨u, rfl, .inl (.inl upd_same)⟩ hI.done
def spConj (P : Program) (w : World) (K : PySem.W.Frag) : Sp := fun vs H Q _ => ∃ (kn : Addr) (z xv yv : V) (t : Tb) (x y : List Int), vs = [z, .ref kn, xv, yv] ∧ TbAt K H z t ∧ Vd t ∧ KnOK P w K H kn t ∧ RS K H xv x ∧ RS K H yv y ∧ Bl t.ps x ∧ Bl t.ps y ∧
  ∀ z' xy v f H', Go P w K kn t H H' → RS K H' z' f → AdR t.ps x y xy → IvR t.ps y v → AdR t.ps v xy f → Q z' H'
theorem ok_lconj (T : Txt K mg) : FnOk P w K mg base CX0 23 T.a__law_conjugated T.d__law_conjugated ["table", "known", "x", "y"] (spConj P w K) := by
  have G__law_times : FnOk P w K mg base CX0 22 T.a__law_times T.d__law_times ["table", "known", "x", "y"] (spTimes P w K 10) := ok_ltimes T
  have G__law_inverse : FnOk P w K mg base CX0 22 T.a__law_inverse T.d__law_inverse ["table", "known", "x"] (spInv P w K) := ok_linv T
  refine T.F__law_conjugated.ok sc__law_conjugated (fun vs H Q E h => ?_) (fun cdv A outer s H vs Q E hr h => ?_)
  · obtain ⟨kn, z, xv, yv, t, x, y, rfl, _⟩ := h
    rfl
  · obtain ⟨kn, z, xv, yv, t, x, y, rfl, hT, hV, hK, hx, hy, hbx, hby, q⟩ := h
    refine ⟨_, (pss_one (ps_ret (pe_call G__law_times (hr.mono (by decide)) (by rfl) T.g__law_times T.F__law_times.kp T.b__law_times .nil pass0 (pa_cons (pv 0) (pa_cons (pv 1) (pa_cons (pe_call G__law_inverse (hr.mono (by decide)) (by rfl) T.g__law_inverse T.F__law_inverse.kp T.b__law_inverse .nil pass0 (pa_cons (pv 0) (pa_cons (pv 1) (pa_cons (pv 3) pa_nil)))) (pa_cons (pe_call G__law_times (hr.mono (by decide)) (by rfl) T.g__law_times T.F__law_times.kp T.b__law_times .nil pass0 (pa_cons (pv 0) (pa_cons (pv 1) (pa_cons (pv 2) (pa_cons (pv 3) pa_nil))))) pa_nil))))))), ?_⟩
    have hn := hV.n10
    refine ⟨_, rfl, _, rfl, _, rfl, _, rfl, _, rfl, kn, z, yv, t, y, rfl, hT, hV, hK, hy, hby, fun iv v H1 g1 hv hI => ?_⟩
    refine ⟨_, rfl, _, rfl, _, rfl, _, rfl, kn, z, xv, yv, t, x, y, rfl, hT.tps g1.tp, hV, g1.ok, rs_tps g1.tp hx, rs_tps g1.tp hy, hbx, hby, fun i hi => by omega, fun pv_ xy H2 sx2 tp2 hK2 hxy hA => ?_⟩
    have g2 := g1.trans ⟨sx2, tp2, hK2⟩
    refine ⟨kn, z, iv, pv_, t, v, xy, rfl, hT.tps g2.tp, hV, g2.ok, rs_tps tp2 hv, hxy, hI.bl, hA.bl, fun i hi => by omega, fun z' f H3 sx3 tp3 hK3 hf hA3 => ?_⟩
    exact q z' xy v f H3 (g2.trans ⟨sx3, tp3, hK3⟩) hf hA hI hA3
def spGen (K : PySem.W.Frag) : Sp := fun vs H Q _ => ∃ n k : Nat, vs = [.int (n : Int), .int (k : Int)] ∧ n ≤ 1000 ∧ ∀ z' H', Same H H' → RS K H' z' (unitR n k) → Q z' H'
theorem ok_lgen (T : Txt K mg) : FnOk P w K mg base CX0 1 T.a__law_generator T.d__law_generator ["n", "k"] (spGen K) := by
  refine T.F__law_generator.ok sc__law_generator (fun vs H Q E h => ?_) (fun cdv A outer s H vs Q E hr h => ?_)
  · obtain ⟨n, k, rfl, _⟩ := h
    rfl
  · obtain ⟨n, k, rfl, hn, q⟩ := h
    refine ⟨_, (pss_one (ps_ret (pe_callTy call_tuple_of (by rfl) T.n_tuple (by decide +kernel) (pa_cons (pe_lc (own := [("i", 2)]) rfl sc__law_generator.nd (pi_range1 (by rfl) T.n_range (pa_cons (pv 0) pa_nil)) (blkOk_by (N := N__law_generator) (sc := defScope s__law_generator) (own := [("i", 2)]) (by decide +kernel)) (fun _ _ _ _ _ => (pg_name (i := 2) sc__law_generator.nd rfl (.inl rfl))) (fun _ _ _ _ _ => pts_nil) (fun _ _ _ _ _ => (pe_callTy call_int1 (by rfl) T.n_int (by decide +kernel) (pa_cons (pe_cmpR op_eq (pv 2) (pv 1) (nomark _)) pa_nil)))) pa_nil)))), ?_⟩
    refine ⟨_, rfl, (n : Int), rfl, by omega, by omega, fun D nD => ?_⟩
    refine lc_rep (walk_range (lo := 0) (n := n)) st_RI (fun i => if i = k then 1 else 0) (by omega) nD (fun H2 sm => trivial) (fun i x H2 H3 Q2 hi sm hY q2 => ?_) (fun H2 acc sm eD hP => ?_)
    · obtain ⟨rfl, rfl⟩ := hY
      refine ⟨rfl, _, rfl, _, rfl, rfl, .inr ⟨_, rfl, q2 _ _ (Same.refl _) ?_⟩⟩
      show V.int (if decide (V.int ((0 : Int) + (i : Int)) = V.int (k : Int)) = true then 1 else 0) = V.int (if i = k then 1 else 0)
      by_cases e : i = k
      · rw [if_pos e, if_pos (decide_eq_true (by rw [e, Int.zero_add]))]
      · rw [if_neg e, if_neg (fun h => e (by have := V.int.inj (of_decide_eq_true h); omega))]
    · have e := ints_of hP
      subst e
      refine ⟨D, _, rfl, .inl ⟨.inl (.inl eD), fun u nu => ?_⟩⟩
      exact q _ _ (sm.trans (same_new nu)) ⟨u, rfl, .inl (.inl upd_same)⟩
def spNewRow (P : Program) (w : World) (K : PySem.W.Frag) : Sp := fun vs H Q _ => ∃ (kn : Addr) (z xv ov : V) (t : Tb) (x o : List Int) (i : Nat), vs = [z, .ref kn, xv, .int (i : Int), ov] ∧ TbAt K H z t ∧ Vd t ∧ KnOK P w K H kn t ∧ RS K H xv x ∧ Bl t.ps x ∧ RS K H ov o ∧ Bl t.ps o ∧ i < t.ps.length ∧
  ∀ z' r H', Go P w K kn t H H' → RS K H' z' r → NwR t.ps x r i → Q z' H'
theorem ok_lnew (T : Txt K mg) : FnOk P w K mg base CX0 23 T.a__law_new_row T.d__law_new_row ["table", "known", "x", "i", "own"] (spNewRow P w K) := by
  have G__law_times : FnOk P w K mg base CX0 22 T.a__law_times T.d__law_times ["table", "known", "x", "y"] (spTimes P w K 10) := ok_ltimes T
  have G__law_inverse : FnOk P w K mg base CX0 22 T.a__law_inverse T.d__law_inverse ["table", "known", "x"] (spInv P w K) := ok_linv T
  refine T.F__law_new_row.ok sc__law_new_row (fun vs H Q E h => ?_) (fun cdv A outer s H vs Q E hr h => ?_)
  · obtain ⟨kn, z, xv, ov, t, x, o, i, rfl, _⟩ := h
    rfl
  · obtain ⟨kn, z, xv, ov, t, x, o, i, rfl, hT, hV, hK, hx, hbx, ho, hbo, hi, q⟩ := h
    refine ⟨_, (pss_cons (ps_set (i := 5) sc__law_new_row.nd rfl (.inl rfl) (pe_callB call_len_seq (by rfl) T.n_len (by decide +kernel) (pa_cons (pv 2) pa_nil))) 
    (pss_cons (ps_set (i := 6) sc__law_new_row.nd rfl (.inl rfl) (pe_callTy call_tuple_of (by rfl) T.n_tuple (by decide +kernel) (pa_cons (pe_lc (own := [("k", 8)]) rfl sc__law_new_row.nd (pi_range1 (by rfl) T.n_range (pa_cons (pv 5) pa_nil)) (blkOk_by (N := N__law_new_row) (sc := defScope s__law_new_row) (own := [("k", 8)]) (by decide +kernel)) (fun _ _ _ _ _ => (pg_name (i := 8) sc__law_new_row.nd rfl (.inl rfl))) (fun _ _ _ _ _ => pts_nil) (fun _ _ _ _ _ => (pe_ifExp (pt_cmpR op_lt (pv 8) (pv 3) (nomark _)) pe_int (pe_ix (show IxR _ (rIxT K) from ix_tup) (pv 2) (pv 8) (fun _ _ => rfl))))) pa_nil))) 
    (pss_cons (ps_for PassesOwn.never rfl (pi_range1 (by rfl) T.n_range (pa_cons (pe_ix (show IxR _ (rIxT K) from ix_tup) (pv 2) (pv 3) (fun _ _ => rfl)) pa_nil)) (pg_name (i := 7) sc__law_new_row.nd rfl (.inl rfl)) 
      (pss_one (ps_set (i := 6) sc__law_new_row.nd rfl (.inl rfl) (pe_call G__law_times (hr.mono (by decide)) (by rfl) T.g__law_times T.F__law_times.kp T.b__law_times .nil pass0 (pa_cons (pv 0) (pa_cons (pv 1) (pa_cons (pe_call G__law_inverse (hr.mono (by decide)) (by rfl) T.g__law_inverse T.F__law_inverse.kp T.b__law_inverse .nil pass0 (pa_cons (pv 0) (pa_cons (pv 1) (pa_cons (pv 4) pa_nil)))) (pa_cons (pv 6) pa_nil)))))))) 
    (pss_one (ps_ret (pe_op op_catA (pe_slice sl_tupA (pv 2) po_none (po_some (pe_op op_add (pv 3) pe_int))) (pe_slice sl_tupA (pv 6) (po_some (pe_op op_add (pv 3) pe_int)) po_none))))))), ?_⟩
    have hn := hV.n10
    obtain ⟨xt, rfl, hxS⟩ := id hx
    have hxi := hbx.2 i hi
    have hpi := hV.p2 hi
    refine ⟨_, rfl, xt, _, rfl, .inr hxS, ?_⟩
    rw [List.length_map, hbx.1]
    refine ⟨_, rfl, (t.ps.length : Int), rfl, by omega, by omega, fun D nD => ?_⟩
    refine lc_rep (walk_range (lo := 0) (n := t.ps.length)) st_RI (fun k => if k < i then 0 else atR x k) (by omega) nD (fun H2 sm => trivial) (fun k y H2 H3 Q2 hk sm hY q2 => ?_) (fun H2 acc sm eD hP => ?_)
    · obtain ⟨rfl, rfl⟩ := hY
      refine ⟨rfl, _, rfl, _, rfl, _, _, rfl, rfl, _, rfl, ite2 (fun c => ?_) (fun c => ?_)⟩
      · have c2 : k < i := by
          have := of_decide_eq_true c
          omega
        exact q2 _ _ (Same.refl _) (by rw [if_pos c2]; rfl)
      · have c2 : ¬ k < i := fun z => c (decide_eq_true (by omega))
        refine ⟨_, rfl, _, rfl, xt, _, (k : Int), _, rfl, by show V.int (0 + (k : Int)) = _; rw [Int.zero_add], Own.same_tup sm hxS, atW (by rw [hbx.1]; exact hk), q2 _ _ (Same.refl _) (by rw [if_neg c2]; rfl)⟩
    · have e := ints_of hP
      subst e
      refine ⟨D, _, rfl, .inl ⟨.inl (.inl eD), fun u nu => ?_⟩⟩
      have s1 := sm.trans (same_new (o := .tup (((List.range t.ps.length).map fun k => if k < i then 0 else atR x k).map V.int)) nu)
      have hu : RS K (upd H2 u (.tup (((List.range t.ps.length).map fun k => if k < i then 0 else atR x k).map V.int))) (.ref u) ((List.range t.ps.length).map fun k => if k < i then 0 else atR x k) := ⟨u, rfl, .inl (.inl upd_same)⟩
      have eat : ∀ k, k < t.ps.length → atR ((List.range t.ps.length).map fun k => if k < i then 0 else atR x k) k = if k < i then 0 else atR x k := fun k hk => at_map hk
      have hbl : Bl t.ps ((List.range t.ps.length).map fun k => if k < i then 0 else atR x k) := ⟨by rw [List.length_map, List.length_range], fun k hk => by
        rw [eat k hk]
        have h1 := hbx.2 k hk
        split <;> omega⟩
      generalize (List.range t.ps.length).map (fun k => if k < i then 0 else atR x k) = tl at *
      generalize upd H2 u (.tup (tl.map V.int)) = H3 at *
      refine ⟨_, rfl, _, rfl, xt, _, (i : Int), _, rfl, rfl, Own.same_tup s1 hxS, atW (by rw [hbx.1]; exact hi), _, rfl, by omega, by omega, ?_⟩
      refine for_range (lo := 0) (n := (atR x i).toNat) (fun m σ H' => ∃ (tv : V) (tl' : List Int) (y7 y8 : Option V), σ = [some z, some (.ref kn), some (.ref xt), some (.int i), some ov, some (.int (t.ps.length : Int)), some tv, y7, y8] ∧ Go P w K kn t H H' ∧ RS K H' tv tl' ∧ Bl t.ps tl' ∧ (m = 0 → tl' = tl))
        ⟨.ref u, tl, none, none, rfl, Go.init hK s1, hu, hbl, fun _ => rfl⟩ ?_ ?_
      · rintro m σ H4 hm ⟨tv, tl', y7, y8, rfl, hg, htv, hbt, _⟩
        refine ⟨_, rfl, _, rfl, _, rfl, _, rfl, _, rfl, kn, z, ov, t, o, rfl, hT.tps hg.tp, hV, hg.ok, rs_tps hg.tp ho, hbo, fun iv v H5 g5 hv hI => ?_⟩
        have hg5 := hg.trans g5
        refine ⟨_, rfl, kn, z, iv, tv, t, v, tl', rfl, hT.tps hg5.tp, hV, hg5.ok, hv, rs_tps g5.tp htv, hI.bl, hbt, fun i hi => by omega, fun z' f H6 sx6 tp6 hK6 hf hA => ?_⟩
        exact ⟨z', f, _, _, rfl, hg5.trans ⟨sx6, tp6, hK6⟩, hf, hA.bl, fun e => absurd e (by omega)⟩
      · rintro σ H4 ⟨tv, tl', y7, y8, rfl, hg, htv, hbt, h0⟩
        obtain ⟨tt, rfl, htS⟩ := htv
        refine ⟨_, rfl, _, rfl, _, _, rfl, rfl, (i : Int) + 1, rfl, slA_q (hg.tp _ _ hxS) fun u1 H5 s5 h5 => ?_⟩
        rw [show (i : Int) + 1 = ((i + 1 : Nat) : Int) by omega, cut_to (by rw [List.length_map, hbx.1]; omega), ← List.map_take] at h5
        refine ⟨_, rfl, _, rfl, _, _, rfl, rfl, (i : Int) + 1, rfl, ?_⟩
        unfold tNoPart
        refine slA_q (lo := some ((i : Int) + 1)) (hi := none) (Own.same_tup s5 htS) fun u2 H6 s6 h6 => ?_
        rw [show (i : Int) + 1 = ((i + 1 : Nat) : Int) by omega, cut_from (by rw [List.length_map, hbt.1]; omega), ← List.map_drop] at h6
        refine catA_q (Own.same_tup s6 h5) h6 (by rw [List.length_map, List.length_map, List.length_take, List.length_drop, hbx.1, hbt.1]; omega) fun u3 H7 s7 h7 => ?_
        rw [← List.map_append] at h7
        have hlt : (x.take (i + 1)).length = i + 1 := by rw [List.length_take, hbx.1]; omega
        have a1 : ∀ k, k ≤ i → atR (x.take (i + 1) ++ tl'.drop (i + 1)) k = atR x k := fun k hk => by rw [atR_app1 (by omega), atR_take (by omega)]
        have a2 : ∀ k, i < k → atR (x.take (i + 1) ++ tl'.drop (i + 1)) k = atR tl' k := fun k hk => by
          rw [atR_app2 (by omega), hlt, atR_drop]
          congr 1
          omega
        have hlen : (x.take (i + 1) ++ tl'.drop (i + 1)).length = t.ps.length := by
          rw [List.length_append, hlt, List.length_drop, hbt.1]
          omega
        refine q _ _ H7 (hg.same ((s5.trans s6).trans s7)) ⟨u3, rfl, h7⟩ ⟨⟨hlen, fun k hk => ?_⟩, a1, fun hz => ?_⟩
        · rcases Nat.lt_or_ge i k with c | c
          · rw [a2 k c]
            exact hbt.2 k hk
          · rw [a1 k c]
            exact hbx.2 k hk
        · refine ext_at2 (by rw [hlen, hbx.1]) fun k hk => ?_
          rw [hbx.1] at hk
          rcases Nat.lt_or_ge i k with c | c
          · rw [a2 k c, h0 (by omega), eat k hk, if_neg (by omega)]
          · exact a1 k c
/-! ### _law_twisted -/
/-- a comprehension of drawn ints -/
theorem lc_drawP {J : It} {n : Nat} {G : Hp → Prop} {Y : Nat → Hp → V → Hp → Prop} (w : Walk J n G Y) (Pi : Nat → Int → Prop) {g : TG} {te : TE} {vs : List Nat} {σ : L2.St} {H1 : Hp} {D st : Addr} {Qd : Hp → Prop} (hn : n ≤ 900) (nD : H1 D = none) (hst : StA H1 st) (hG : ∀ H, SameX st H1 H → G H)
    (hs : ∀ (i : Nat) (x : V) (H H' : Hp) (Q : VK), i < n → SameX st H1 H → StA H st → Y i H x H' → (∀ (c : Int) H2, SameX st H H2 → StA H2 st → Pi i c → Q (.int c) H2) → g x (wipe σ vs) H' fun σ2 H2 => wipe σ2 vs = wipe σ vs ∧ te σ2 H2 Q)
    (hd : ∀ (H : Hp) (rt : List Int), SameX st H1 H → StA H st → H D = some (.lst (rt.map V.int)) → rt.length = n → (∀ i, i < n → Pi i (atR rt i)) → Qd H) :
    ∃ W : Nat → Nat → Hp → Prop, (∃ m, W 0 m (upd H1 D (.lst []))) ∧ ∀ i m H, W i m H →
      (J.stop i H ∧ Qd H) ∨ (J.go i H ∧ ∃ Nx : Hp → Prop, (∀ H', Nx H' → ∃ m', m' < m ∧ W (i + 1) m' H') ∧ ∀ x H', J.yld i H x H' → g x (wipe σ vs) H' fun σ2 H2 => wipe σ2 vs = wipe σ vs ∧ tYes σ2 H2 fun b H3 =>
        if b = true then te σ2 H3 fun y H4 => ∃ acc, H4 D = some (.lst acc) ∧ acc.length < sizeLine ∧ Nx (upd H4 D (.lst (acc ++ [y]))) else Nx H3) := by
  obtain ⟨s0, t0, est⟩ := hst
  have hD : st ≠ D := ne_of_none est nD
  refine lc_it w (fun i H2 => i ≤ n ∧ ∃ rt : List Int, SameX st H1 H2 ∧ StA H2 st ∧ H2 D = some (.lst (rt.map V.int)) ∧ rt.length = i ∧ ∀ j, j < i → Pi j (atR rt j))
    ⟨Nat.zero_le _, [], Same.x (same_new nD), ⟨s0, t0, by rw [upd_ne hD]; exact est⟩, upd_same, rfl, fun r h => absurd h (Nat.not_lt_zero r)⟩ (fun i H _ k => hG H (k.2.elim fun _ k => k.1)) (fun i x H2 H3 hi hP hY => ?_) (fun H2 hP => ?_)
  · obtain ⟨_, rt, sx, hst2, eD, hl, hv⟩ := hP
    obtain ⟨s1, t1, es1⟩ := id hst2
    exact hs i x H2 H3 (fun y H4 => ∃ acc, H4 D = some (.lst acc) ∧ acc.length < sizeLine ∧ (i + 1 ≤ n ∧ ∃ rt : List Int, SameX st H1 (upd H4 D (.lst (acc ++ [y]))) ∧ StA (upd H4 D (.lst (acc ++ [y]))) st ∧ (upd H4 D (.lst (acc ++ [y]))) D = some (.lst (rt.map V.int)) ∧ rt.length = i + 1 ∧ ∀ j, j < i + 1 → Pi j (atR rt j))) hi sx hst2 hY fun c H4 sx4 ⟨s2, t2, es2⟩ hc => by
      have eD4 := sx4 _ _ hD.symm eD
      refine ⟨rt.map V.int, eD4, small1000 (by rw [List.length_map]; omega), hi, rt ++ [c], fun b o nb hb => ?_, ⟨s2, t2, by rw [upd_ne hD]; exact es2⟩, by rw [upd_same, List.map_append]; rfl, by rw [List.length_append, hl]; rfl, fun j hj => ?_⟩
      · rw [upd_ne (ne_of_none hb nD)]
        exact sx4 b o nb (sx b o nb hb)
      · rcases Nat.lt_or_ge j i with c2 | c2
        · rw [atR_app1 (by omega)]
          exact hv j c2
        · have e : j = i := by omega
          rw [e, atR_app2 (by omega), hl, Nat.sub_self]
          exact hc
  · obtain ⟨_, rt, sx, hst2, eD, hl, hv⟩ := hP
    exact hd H2 rt sx hst2 eD hl hv
theorem KnOK.tps {H H' : Hp} {kn : Addr} {t : Tb} (h : KnOK P w K H kn t) (tp : Tps K H H') (e : ∀ o, H kn = some o → H' kn = some o) : KnOK P w K H' kn t := by
  obtain ⟨kvs, ⟨xs', h1⟩, h2⟩ := h
  refine ⟨kvs, ⟨xs', e _ h1.here, h1.nm, Pk.pair_via (fun _ _ q => ⟨q.1, q.2.1.via (fun h => tp _ _ h), q.2.2⟩) h1.rel, h1.nd, h1.few⟩, fun kv hkv => ?_⟩
  obtain ⟨j, a, b, c, v, d, f⟩ := h2 kv hkv
  exact ⟨j, a, b, c, v, rs_tps tp d, f⟩
theorem bl_unit {t : Tb} (hV : Vd t) {k : Nat} (hk : k < t.ps.length) : GnR t.ps (unitR t.ps.length k) k := by
  refine ⟨⟨by unfold unitR; rw [List.length_map, List.length_range], fun i hi => ?_⟩, fun i hi => ?_, ?_⟩
  · rw [unitR_at hi]
    have := hV.p2 hi
    split <;> omega
  · rw [unitR_at (by omega), if_neg (by omega)]
  · rw [unitR_at hk, if_pos rfl]
def spTwist (K : PySem.W.Frag) : Sp := fun vs H Q _ => ∃ (st : Addr) (z : V) (t : Tb), vs = [.ref st, z] ∧ StA H st ∧ TbAt K H z t ∧ Vd t ∧
  ∀ z' t' H', SameX st H H' → StA H' st → TbAt K H' z' t' → Vd t' → t'.ps = t.ps → Q z' H'
/-- so far: the powers' rows and the conjugates' -/
structure Twp (t : Tb) (pws : List (List Int)) (cjs : List (List (List Int))) (k : Nat) : Prop where
  pl : pws.length = k
  pr : ∀ i r, pws[i]? = some r → Bl t.ps r ∧ Zb r (i + 1)
  cl : cjs.length = k
  cr : ∀ i M, cjs[i]? = some M → M.length = t.ps.length - (i + 1) ∧ ∀ r ∈ M, Bl t.ps r ∧ Zb r (i + 1)
theorem get_app {α : Type} {l : List α} {x y : α} {i : Nat} (h : (l ++ [x])[i]? = some y) : l[i]? = some y ∨ (i = l.length ∧ y = x) := by
  rcases Nat.lt_or_ge i l.length with c | c
  · rw [List.getElem?_append_left c] at h
    exact .inl h
  · rw [List.getElem?_append_right c] at h
    have e : i - l.length = 0 := by
      rcases Nat.eq_zero_or_pos (i - l.length) with e | e
      · exact e
      · rw [List.getElem?_eq_none (by rw [List.length_singleton]; omega)] at h
        cases h
    rw [e] at h
    cases h
    exact .inr ⟨by omega, rfl⟩
theorem Twp.next {t : Tb} {pws : List (List Int)} {cjs : List (List (List Int))} {k : Nat} {r : List Int} {M : List (List Int)} (h : Twp t pws cjs k) (hr : Bl t.ps r ∧ Zb r (k + 1)) (hM : M.length = t.ps.length - (k + 1)) (hM2 : ∀ r ∈ M, Bl t.ps r ∧ Zb r (k + 1)) : Twp t (pws ++ [r]) (cjs ++ [M]) (k + 1) :=
  ⟨by rw [List.length_append, h.pl]; rfl, fun i x e => by
    rcases get_app e with e | ⟨e1, e2⟩
    · exact h.pr i x e
    · rw [h.pl] at e1
      rw [e1, e2]
      exact hr, by rw [List.length_append, h.cl]; rfl, fun i x e => by
    rcases get_app e with e | ⟨e1, e2⟩
    · exact h.cr i x e
    · rw [h.cl] at e1
      rw [e1, e2]
      exact ⟨hM, hM2⟩⟩
theorem ok_twist (T : Txt K mg) : FnOk P w K mg base CX0 24 T.a__law_twisted T.d__law_twisted ["state", "table"] (spTwist K) := by
  have G__law_take : FnOk P w K mg base CX0 1 T.a__law_take T.d__law_take ["state", "m"] spTake := ok_take T
  have G__law_generator : FnOk P w K mg base CX0 1 T.a__law_generator T.d__law_generator ["n", "k"] (spGen K) := ok_lgen T
  have G__law_times : FnOk P w K mg base CX0 22 T.a__law_times T.d__law_times ["table", "known", "x", "y"] (spTimes P w K 10) := ok_ltimes T
  have G__law_conjugated : FnOk P w K mg base CX0 23 T.a__law_conjugated T.d__law_conjugated ["table", "known", "x", "y"] (spConj P w K) := ok_lconj T
  have G__law_new_row : FnOk P w K mg base CX0 23 T.a__law_new_row T.d__law_new_row ["table", "known", "x", "i", "own"] (spNewRow P w K) := ok_lnew T
  refine T.F__law_twisted.ok sc__law_twisted (fun vs H Q E h => ?_) (fun cdv A outer s H vs Q E hr h => ?_)
  · obtain ⟨st, z, t, rfl, _⟩ := h
    rfl
  · obtain ⟨st, z, t, rfl, hst, hT, hV, q⟩ := h
    refine ⟨_, (pss_cons (ps_set (i := 2) sc__law_twisted.nd rfl (.inr rfl) (pe_callB call_len_seq (by rfl) T.n_len (by decide +kernel) (pa_cons (pe_ix (show IxR _ (rIxT K) from ix_tup) (pv 1) pe_int (fun _ _ => rfl)) pa_nil))) 
    (pss_cons (ps_if (pt_cmpR op_lt (pv 2) pe_int (nomark _)) 
      (pss_one (ps_ret (pv 1))) pss_nil) 
    (pss_cons (ps_set (i := 3) sc__law_twisted.nd rfl (.inl rfl) Pk.pe_dnewP) 
    (pss_cons (ps_set (i := 4) sc__law_twisted.nd rfl (.inr rfl) (pe_call G__law_take (hr.mono (by decide)) (by rfl) T.g__law_take T.F__law_take.kp T.b__law_take .nil pass0 (pa_cons (pv 0) (pa_cons (pe_op op_sub (pv 2) pe_int) pa_nil)))) 
    (pss_cons (ps_set (i := 6) sc__law_twisted.nd rfl (.inr rfl) (pe_callTy call_tuple_of (by rfl) T.n_tuple (by decide +kernel) (pa_cons (pe_lc (own := [("k", 5)]) rfl sc__law_twisted.nd (pi_range1 (by rfl) T.n_range (pa_cons (pv 2) pa_nil)) (blkOk_by (N := N__law_twisted) (sc := defScope s__law_twisted) (own := [("k", 5)]) (by decide +kernel)) (fun _ _ _ _ _ => (pg_name (i := 5) sc__law_twisted.nd rfl (.inl rfl))) (fun _ _ _ _ _ => pts_nil) (fun _ _ _ _ _ => (pe_ifExp (pt_cmpR op_le (pv 5) (pv 4) (nomark _)) (pe_callTy call_int1 (by rfl) T.n_int (by decide +kernel) (pa_cons (pe_cmpR op_eq (pv 5) (pv 4) (nomark _)) pa_nil)) (pe_call G__law_take (hr.mono (by decide)) (by rfl) T.g__law_take T.F__law_take.kp T.b__law_take .nil pass0 (pa_cons (pv 0) (pa_cons (pe_ix (show IxR _ (rIxT K) from ix_tup) (pe_ix (show IxR _ (rIxT K) from ix_tup) (pv 1) pe_int (fun _ _ => rfl)) (pv 5) (fun _ _ => rfl)) pa_nil)))))) pa_nil))) 
    (C8.pss_cut (ps_setLc (i := 7) (own := [("k", 5)]) rfl sc__law_twisted.nd rfl rfl (sw_true rfl rfl rfl (by decide +kernel)) (pi_range1 (by rfl) T.n_range (pa_cons (pv 2) pa_nil)) (blkOk_by (N := N__law_twisted) (sc := defScope s__law_twisted) (own := [("k", 5)]) (by decide +kernel)) (fun _ _ _ _ _ => (pg_name (i := 5) sc__law_twisted.nd rfl (.inl rfl))) (fun _ _ _ _ _ => pts_nil) (fun _ _ _ _ _ => (pe_ifExp (pt_cmpR op_eq (pv 5) (pv 4) (nomark _)) (pv 6) (pe_call G__law_generator (hr.mono (by decide)) (by rfl) T.g__law_generator T.F__law_generator.kp T.b__law_generator .nil pass0 (pa_cons (pv 2) (pa_cons (pv 5) pa_nil)))))) 
    (pss_cons (ps_set (i := 8) sc__law_twisted.nd rfl (.inl rfl) (pe_lst pa_nil)) 
    (pss_cons (ps_set (i := 9) sc__law_twisted.nd rfl (.inl rfl) (pe_lst pa_nil)) 
    (pss_cons (ps_for PassesOwn.never rfl (pi_range1 (by rfl) T.n_range (pa_cons (pv 2) pa_nil)) (pg_name (i := 5) sc__law_twisted.nd rfl (.inl rfl)) 
      (pss_cons (ps_set (i := 10) sc__law_twisted.nd rfl (.inl rfl) (pe_ix ix_list (pv 7) (pv 5) (fun _ _ => rfl))) 
      (pss_cons (ps_for PassesOwn.never rfl (pi_range1 (by rfl) T.n_range (pa_cons (pe_op op_sub (pe_ix (show IxR _ (rIxT K) from ix_tup) (pe_ix (show IxR _ (rIxT K) from ix_tup) (pv 1) pe_int (fun _ _ => rfl)) (pv 5) (fun _ _ => rfl)) pe_int) pa_nil)) (pg_name (i := 11) sc__law_twisted.nd rfl (.inl rfl)) 
        (pss_one (ps_set (i := 10) sc__law_twisted.nd rfl (.inl rfl) (pe_call G__law_times (hr.mono (by decide)) (by rfl) T.g__law_times T.F__law_times.kp T.b__law_times .nil pass0 (pa_cons (pv 1) (pa_cons (pv 3) (pa_cons (pv 10) (pa_cons (pe_ix ix_list (pv 7) (pv 5) (fun _ _ => rfl)) pa_nil)))))))) 
      (pss_cons (ps_expr (pe_bm PySem.F.plainAttrs_list PySem.F.slot_list_append PySem.F.type_list_append mt_append (pv 8) (pa_cons (pe_call G__law_new_row (hr.mono (by decide)) (by rfl) T.g__law_new_row T.F__law_new_row.kp T.b__law_new_row .nil pass0 (pa_cons (pv 1) (pa_cons (pv 3) (pa_cons (pv 10) (pa_cons (pv 4) (pa_cons (pv 6) pa_nil)))))) pa_nil))) 
      (pss_cons (ps_set (i := 12) sc__law_twisted.nd rfl (.inl rfl) (pe_lst pa_nil)) 
      (pss_cons (ps_for PassesOwn.never rfl (pi_range2 (by rfl) T.n_range (pa_cons (pe_op op_add (pv 5) pe_int) (pa_cons (pv 2) pa_nil))) (pg_name (i := 13) sc__law_twisted.nd rfl (.inl rfl)) 
        (pss_one (ps_expr (pe_bm PySem.F.plainAttrs_list PySem.F.slot_list_append PySem.F.type_list_append mt_append (pv 12) (pa_cons (pe_call G__law_new_row (hr.mono (by decide)) (by rfl) T.g__law_new_row T.F__law_new_row.kp T.b__law_new_row .nil pass0 (pa_cons (pv 1) (pa_cons (pv 3) (pa_cons (pe_call G__law_conjugated (hr.mono (by decide)) (by rfl) T.g__law_conjugated T.F__law_conjugated.kp T.b__law_conjugated .nil pass0 (pa_cons (pv 1) (pa_cons (pv 3) (pa_cons (pe_ix ix_list (pv 7) (pv 13) (fun _ _ => rfl)) (pa_cons (pe_ix ix_list (pv 7) (pv 5) (fun _ _ => rfl)) pa_nil))))) (pa_cons (pv 4) (pa_cons (pv 6) pa_nil)))))) pa_nil))))) 
      (pss_one (ps_expr (pe_bm PySem.F.plainAttrs_list PySem.F.slot_list_append PySem.F.type_list_append mt_append (pv 9) (pa_cons (pe_callTy call_tuple_of (by rfl) T.n_tuple (by decide +kernel) (pa_cons (pv 12) pa_nil)) pa_nil)))))))))) 
    (pss_one (ps_ret (pe_tup (pa_cons (pe_ix (show IxR _ (rIxT K) from ix_tup) (pv 1) pe_int (fun _ _ => rfl)) (pa_cons (pe_callTy call_tuple_of (by rfl) T.n_tuple (by decide +kernel) (pa_cons (pv 8) pa_nil)) (pa_cons (pe_callTy call_tuple_of (by rfl) T.n_tuple (by decide +kernel) (pa_cons (pv 9) pa_nil)) pa_nil))))))))))))))), ?_⟩
    have hn := hV.n10
    obtain ⟨x0, a, b, c, us, vs, rfl, hSx, hSa, hSb, hPw, hSc, hPc⟩ := hT.rd
    refine ⟨_, rfl, x0, _, 0, _, rfl, rfl, hSx, atI_nat (j := 0) rfl, a, _, rfl, .inr hSa, ?_⟩
    rw [List.length_map]
    refine ⟨_, rfl, _, _, rfl, rfl, _, rfl, ite2 (fun c1 => ?_) (fun c1 => ?_)⟩
    · exact ⟨_, rfl, q _ t H (Same.x (Same.refl H)) hst hT hV rfl⟩
    · have hn2 : 2 ≤ t.ps.length := by
        have h : ¬ ((t.ps.length : Int) < 2) := fun z => c1 (decide_eq_true z)
        omega
      intro kn H1 nkn s1 hKD
      have hK1 : KnOK P w K H1 kn t := ⟨[], hKD, fun kv h => by cases h⟩
      obtain ⟨s0, t0, est⟩ := id hst
      have est1 := s1 _ _ est
      have hne : st ≠ kn := ne_of_none est nkn
      refine ⟨_, rfl, _, rfl, _, _, rfl, rfl, st, _, s0, t0, rfl, by omega, by omega, est1, fun v s' t' hv0 hv1 => ?_⟩
      obtain ⟨i, rfl⟩ : ∃ i : Nat, v = (i : Int) := ⟨v.toNat, by rw [Int.toNat_of_nonneg hv0]⟩
      have hi : i + 1 < t.ps.length := by omega
      have hK2 := hK1.put2 (ys := [.int s', .int t']) est1
      have sx2 : SameX st H (upd H1 st (.lst [.int s', .int t'])) := (Same.x s1).trans SameX.put
      have tp2 : Tps K H (upd H1 st (.lst [.int s', .int t'])) := (Tps.of s1).trans (Tps.x SameX.put est1)
      have hst2 : StA (upd H1 st (.lst [.int s', .int t'])) st := ⟨s', t', upd_same⟩
      have nkn2 : ∃ φ, (upd H1 st (.lst [.int s', .int t'])) kn = some (.ext φ) := hK2.ext
      generalize upd H1 st (.lst [.int s', .int t']) = H2 at *
      refine ⟨_, rfl, (t.ps.length : Int), rfl, by omega, by omega, fun D nD => ?_⟩
      refine lc_drawP (walk_range (lo := 0) (n := t.ps.length)) (fun k c => if k ≤ i then c = (if k = i then 1 else 0) else 0 ≤ c ∧ c < atR t.ps k) (by omega) nD hst2 (fun _ _ => trivial) (fun k x H3 H4 Q2 hk sx3 hst3 hY q2 => ?_) (fun H3 o sx3 hst3 eD hol hov => ?_)
      · obtain ⟨rfl, rfl⟩ := hY
        refine ⟨rfl, _, rfl, _, rfl, _, _, rfl, rfl, _, rfl, ite2 (fun c2 => ?_) (fun c2 => ?_)⟩
        · have c3 : k ≤ i := by
            have := of_decide_eq_true c2
            omega
          refine ⟨_, rfl, _, rfl, rfl, .inr ⟨_, rfl, ?_⟩⟩
          refine q2 (if decide (V.int ((0 : Int) + (k : Int)) = V.int (i : Int)) = true then 1 else 0) _ (Same.x (Same.refl _)) hst3 ?_
          rw [if_pos c3]
          by_cases e : k = i
          · rw [if_pos e, if_pos (decide_eq_true (by rw [e, Int.zero_add]))]
          · rw [if_neg e, if_neg (fun h => e (by have := V.int.inj (of_decide_eq_true h); omega))]
        · have c3 : ¬ k ≤ i := fun z => c2 (decide_eq_true (by omega))
          have hpk := hV.p2 hk
          obtain ⟨s5, t5, est5⟩ := hst3
          obtain ⟨s6, t6, est6⟩ := id hst2
          have tp3 := tp2.trans (Tps.x sx3 est6)
          refine ⟨_, rfl, _, rfl, x0, _, 0, _, rfl, rfl, tp3 _ _ hSx, atI_nat (j := 0) rfl, _, rfl, a, _, (k : Int), _, rfl, by show V.int (0 + (k : Int)) = _; rw [Int.zero_add], tp3 _ _ hSa, atW hk, st, _, s5, t5, rfl, by omega, by omega, est5, fun v s7 t7 hv0 hv1 => ?_⟩
          refine q2 v _ SameX.put ⟨s7, t7, upd_same⟩ ?_
          rw [if_neg c3]
          exact ⟨hv0, hv1⟩
      have hgo : GnR t.ps o i := by
        refine ⟨⟨hol, fun k hk => ?_⟩, fun k hk => ?_, ?_⟩
        · have h1 := hov k hk
          have h2 := hV.p2 hk
          split at h1
          · rw [h1]
            split <;> omega
          · exact h1
        · have h1 := hov k (by omega)
          rw [if_pos (by omega), if_neg (by omega)] at h1
          exact h1
        · have h1 := hov i (by omega)
          rw [if_pos (Nat.le_refl _), if_pos rfl] at h1
          exact h1
      refine ⟨D, _, rfl, .inl ⟨.inl (.inl eD), fun u nu => ?_⟩⟩
      obtain ⟨s6, t6, est6⟩ := id hst2
      have tp4 := (tp2.trans (Tps.x sx3 est6)).trans (Tps.of (same_new (o := .tup (o.map V.int)) nu))
      have sx4 := (sx2.trans sx3).trans (Same.x (same_new (o := .tup (o.map V.int)) nu))
      have hst4 : StA (upd H3 u (.tup (o.map V.int))) st := let ⟨a, b, e⟩ := hst3; ⟨a, b, same_new nu _ _ e⟩
      have hK4 : KnOK P w K (upd H3 u (.tup (o.map V.int))) kn t := hK2.tps ((Tps.x sx3 est6).trans (Tps.of (same_new nu))) (fun ob h => same_new nu _ _ (sx3 _ _ hne.symm h))
      have hou : RS K (upd H3 u (.tup (o.map V.int))) (.ref u) o := ⟨u, rfl, .inl (.inl upd_same)⟩
      generalize upd H3 u (.tup (o.map V.int)) = H4 at *
      -- names
      refine ⟨fun σ H' => Same H4 H' ∧ ∃ (nm : Addr) (nvs : List V) (y5 : Option V), σ = [some (.ref st), some (.ref x0), some (.int (t.ps.length : Int)), some (.ref kn), some (.int i), y5, some (.ref u), some (.ref nm), none, none, none, none, none, none] ∧ H' nm = some (.lst nvs) ∧ ∀ k, k < t.ps.length → ∃ gv g, nvs[k]? = some gv ∧ RS K H' gv g ∧ GnR t.ps g k, ?_, ?_⟩
      · refine ⟨_, rfl, (t.ps.length : Int), rfl, by omega, by omega, fun D nD => ?_⟩
        refine lc_rep (walk_range (lo := 0) (n := t.ps.length)) (st_RS (K := K)) (fun k => if k = i then o else unitR t.ps.length k) (by omega) nD (fun _ _ => trivial) (fun k x H5 H6 Q2 hk sm hY q2 => ?_) (fun H5 acc sm eD hP => ?_)
        · obtain ⟨rfl, rfl⟩ := hY
          refine ⟨rfl, _, rfl, _, rfl, rfl, _, rfl, ite2 (fun c2 => ?_) (fun c2 => ?_)⟩
          · have e : k = i := by
              have := V.int.inj (of_decide_eq_true c2)
              omega
            exact ⟨_, rfl, q2 _ _ (Same.refl _) (by rw [if_pos e]; exact st_RS.same sm hou)⟩
          · have e : k ≠ i := fun z => c2 (decide_eq_true (by rw [z]; show V.int (0 + (i : Int)) = _; rw [Int.zero_add]))
            refine ⟨_, rfl, _, rfl, t.ps.length, k, by show [V.int _, V.int (0 + (k : Int))] = _; rw [Int.zero_add], by omega, fun z' H6 s6 h6 => q2 _ _ s6 (by rw [if_neg e]; exact h6)⟩
        · refine ⟨sm, D, acc, _, rfl, eD, fun k hk => ?_⟩
          obtain ⟨gv, e1, e2⟩ := paired_get2 hP (show ((List.range t.ps.length).map fun k => if k = i then o else unitR t.ps.length k)[k]? = some (if k = i then o else unitR t.ps.length k) by rw [List.getElem?_map, List.getElem?_range hk]; rfl)
          refine ⟨gv, _, e1, e2, ?_⟩
          by_cases e : k = i
          · rw [if_pos e, e]
            exact hgo
          · rw [if_neg e]
            exact bl_unit hV hk
      rintro σ H5 ⟨s5, nm, nvs, y5, rfl, enm, hnv⟩
      have sx5 := sx4.trans (Same.x s5)
      have tp5 := tp4.trans (Tps.of s5)
      have hst5 : StA H5 st := let ⟨a, b, e⟩ := hst4; ⟨a, b, s5 _ _ e⟩
      have hK5 := hK4.mono s5
      have hou5 := rs_tps (Tps.of s5) hou
      have hT5 := hT.tps tp5
      have hSx5 := tp5 _ _ hSx
      have hSa5 := tp5 _ _ hSa
      clear hK4 hK2 hK1 hst4 hst3 sx4 sx3 sx2 tp4 tp2 s5 hPc hPw hSb hSc hou hov
      obtain ⟨φ, ekn⟩ := hK5.ext
      have hnk : nm ≠ kn := fun e => by rw [e, ekn] at enm; cases enm
      refine ⟨Nat.zero_le _, fun pw npw => ⟨Nat.zero_le _, fun pa npa => ?_⟩⟩
      have npa5 : H5 pa = none := same_new npw |>.free npa
      have hwa : pw ≠ pa := ne_of_none upd_same npa
      have hwk : pw ≠ kn := fun e => by rw [e, ekn] at npw; cases npw
      have hak : pa ≠ kn := fun e => by rw [e, ekn] at npa5; cases npa5
      refine ⟨_, rfl, (t.ps.length : Int), rfl, by omega, by omega, ?_⟩
      rw [Int.toNat_natCast]
      refine for_range (lo := 0) (n := t.ps.length) (fun k σ H' => ∃ (pvs cvs : List V) (pws : List (List Int)) (cjs : List (List (List Int))) (y5 y10 y11 y12 y13 : Option V), σ = [some (.ref st), some (.ref x0), some (.int (t.ps.length : Int)), some (.ref kn), some (.int i), y5, some (.ref u), some (.ref nm), some (.ref pw), some (.ref pa), y10, y11, y12, y13] ∧ Go P w K kn t H5 H' ∧ H' pw = some (.lst pvs) ∧ Paired (RS K H') pvs pws ∧ H' pa = some (.lst cvs) ∧ Paired (Tup1 K H') cvs cjs ∧ Twp t pws cjs k)
        ⟨[], [], [], [], _, _, _, _, _, rfl, Go.init hK5 ((same_new npw).trans (same_new npa)), by rw [upd_ne hwa]; exact upd_same, .nil, upd_same, .nil, rfl, (fun i r h => by cases h), rfl, (fun i r h => by cases h)⟩ ?_ ?_
      · rintro k σ H' hk ⟨pvs, cvs, pws, cjs, y5, y10, y11, y12, y13, rfl, hg, epw, hpw, epa, hpa, hW⟩
        rw [Int.zero_add]
        obtain ⟨gv, g, eg, hg1, hgn⟩ := hnv k hk
        have hp2 := hV.p2 hk
        refine ⟨_, rfl, _, rfl, nm, _, (k : Int), _, rfl, rfl, .inl (.inl (hg.sx _ _ hnk enm)), atI_nat eg, ?_⟩
        refine ⟨_, rfl, x0, _, 0, _, rfl, rfl, hg.tp _ _ hSx5, atI_nat (j := 0) rfl, _, rfl, a, _, (k : Int), _, rfl, rfl, hg.tp _ _ hSa5, atW hk, _, _, rfl, rfl, _, rfl, by omega, by omega, ?_⟩
        refine for_range (lo := 0) (n := (atR t.ps k - 1).toNat) (fun m σ H2 => ∃ (fv : V) (f : List Int) (y11 : Option V), σ = [some (.ref st), some (.ref x0), some (.int (t.ps.length : Int)), some (.ref kn), some (.int i), some (.int k), some (.ref u), some (.ref nm), some (.ref pw), some (.ref pa), some fv, y11, y12, y13] ∧ Go P w K kn t H' H2 ∧ RS K H2 fv f ∧ PwP t.ps g f k (m + 1))
          ⟨gv, g, _, rfl, Go.init hg.ok (Same.refl _), rs_tps hg.tp hg1, PwP.init hk hp2.1 hgn⟩ ?_ ?_
        · rintro m σ H6 hm ⟨fv, f, y11, rfl, hg6, hf, hP⟩
          have hq := hg.trans hg6
          refine ⟨_, rfl, _, rfl, _, rfl, _, rfl, _, rfl, nm, _, (k : Int), _, rfl, rfl, .inl (.inl (hq.sx _ _ hnk enm)), atI_nat eg, ?_⟩
          refine ⟨kn, .ref x0, fv, gv, t, f, g, rfl, hT5.tps hq.tp, hV, hg6.ok, hf, rs_tps hq.tp hg1, hP.bl, hgn.bl, fun i hi => by omega, fun z' r' H7 sx7 tp7 hK7 hr7 hA => ?_⟩
          exact ⟨z', r', _, rfl, hg6.trans ⟨sx7, tp7, hK7⟩, hr7, hP.step hk hgn hA⟩
        · rintro σ H6 ⟨fv, f, y11, rfl, hg6, hf, hP⟩
          have hzf := hP.done (by omega)
          have hq6 := hg.trans hg6
          refine ⟨_, rfl, .inl ⟨rfl, _, .inl (.inl (hg6.sx _ _ hwk epw))⟩, _, rfl, _, rfl, _, rfl, _, rfl, _, rfl, kn, .ref x0, fv, .ref u, t, f, o, i, rfl, hT5.tps hq6.tp, hV, hg6.ok, hf, hP.bl, rs_tps hq6.tp hou5, hgo.bl, by omega, fun z7 r7 H7 g7 hr7 hN7 => ?_⟩
          have hq7 := hq6.trans g7
          have h67 := hg6.trans g7
          have epw7 := h67.sx _ _ hwk epw
          have hpl : pvs.length = k := by rw [Paired.length hpw, hW.pl]
          have hcl : cvs.length = k := by rw [Paired.length hpa, hW.cl]
          refine ⟨pw, _, _, rfl, rfl, epw7, small2000 (by omega), ?_⟩
          have hq8 := hq7.put (ys := pvs ++ [z7]) npw epw7
          have tp8 : Tps K H7 (upd H7 pw (.lst (pvs ++ [z7]))) := Tps.x SameX.put epw7
          have epw8 : (upd H7 pw (.lst (pvs ++ [z7]))) pw = some (.lst (pvs ++ [z7])) := upd_same
          have epa8 : (upd H7 pw (.lst (pvs ++ [z7]))) pa = some (.lst cvs) := by rw [upd_ne hwa.symm]; exact h67.sx _ _ hak epa
          have hpw8 := paired_add (paired_via (fun _ _ => rs_tps (h67.tp.trans tp8)) hpw) (rs_tps tp8 hr7)
          have hpa8 := paired_via (fun _ _ => tup1_tps (h67.tp.trans tp8)) hpa
          generalize upd H7 pw (.lst (pvs ++ [z7])) = H8 at *
          refine ⟨Nat.zero_le _, fun ro nro => ?_⟩
          have hro : ro ≠ kn := fun e => by obtain ⟨ψ, e2⟩ := hq8.ok.ext; rw [e, e2] at nro; cases nro
          refine ⟨_, rfl, _, _, rfl, rfl, _, rfl, _, _, rfl, ⟨by omega, by omega, by omega, by omega⟩, ?_⟩
          refine for_range (lo := (k : Int) + 1) (n := ((t.ps.length : Int) - ((k : Int) + 1)).toNat) (fun m σ H9 => ∃ (rvs : List V) (M : List (List Int)) (y13 : Option V), σ = [some (.ref st), some (.ref x0), some (.int (t.ps.length : Int)), some (.ref kn), some (.int i), some (.int k), some (.ref u), some (.ref nm), some (.ref pw), some (.ref pa), some fv, y11, some (.ref ro), y13] ∧ Go P w K kn t H8 H9 ∧ H9 ro = some (.lst rvs) ∧ Paired (RS K H9) rvs M ∧ M.length = m ∧ ∀ r ∈ M, Bl t.ps r ∧ Zb r (k + 1))
            ⟨[], [], _, rfl, Go.init hq8.ok (same_new nro), upd_same, .nil, rfl, fun r h => by cases h⟩ ?_ ?_
          · rintro m σ H9 hm ⟨rvs, M, y13, rfl, hg9, ero, hM, hMl, hMr⟩
            have hjn : k + 1 + m < t.ps.length := by omega
            rw [show (k : Int) + 1 + (m : Int) = ((k + 1 + m : Nat) : Int) by omega]
            obtain ⟨hv, h2, eh, hh1, hhn⟩ := hnv _ hjn
            have hq9 := hq8.trans hg9
            refine ⟨_, rfl, .inl ⟨rfl, _, .inl (.inl ero)⟩, _, rfl, _, rfl, _, rfl, _, rfl, _, rfl, _, rfl, nm, _, _, _, rfl, rfl, .inl (.inl (hq9.sx _ _ hnk enm)), atI_nat eh, _, rfl, _, rfl, nm, _, (k : Int), _, rfl, rfl, .inl (.inl (hq9.sx _ _ hnk enm)), atI_nat eg, ?_⟩
            refine ⟨kn, .ref x0, hv, gv, t, h2, g, rfl, hT5.tps hq9.tp, hV, hg9.ok, rs_tps hq9.tp hh1, rs_tps hq9.tp hg1, hhn.bl, hgn.bl, fun z10 xy v f10 H10 g10 hf10 hA1 hI hA2 => ?_⟩
            have hq10 := hq9.trans g10
            refine ⟨_, rfl, _, rfl, kn, .ref x0, z10, .ref u, t, f10, o, i, rfl, hT5.tps hq10.tp, hV, g10.ok, hf10, hA2.bl, rs_tps hq10.tp hou5, hgo.bl, by omega, fun z11 r11 H11 g11 hr11 hN11 => ?_⟩
            have h11 := g10.trans g11
            have ero11 := h11.sx _ _ hro ero
            have hrl : rvs.length = m := by rw [Paired.length hM, hMl]
            refine ⟨ro, _, _, rfl, rfl, ero11, small2000 (by omega), ?_⟩
            have tp12 : Tps K H11 (upd H11 ro (.lst (rvs ++ [z11]))) := Tps.x SameX.put ero11
            refine ⟨rvs ++ [z11], M ++ [r11], _, rfl, (hg9.trans h11).put nro ero11, upd_same, paired_add (paired_via (fun _ _ => rs_tps (h11.tp.trans tp12)) hM) (rs_tps tp12 hr11), by rw [List.length_append, hMl]; rfl, fun r hr => ?_⟩
            rcases List.mem_append.mp hr with hr | hr
            · exact hMr r hr
            · rw [List.mem_singleton.mp hr]
              exact ⟨hN11.bl, hN11.zb (conj_zb (by omega) hjn hp2.1 hhn hgn hA1 hI hA2)⟩
          · rintro σ H9 ⟨rvs, M, y13, rfl, hg9, ero, hM, hMl, hMr⟩
            have hq9 := hq8.trans hg9
            have epa9 := hg9.sx _ _ hak epa8
            refine ⟨_, rfl, .inl ⟨rfl, _, .inl (.inl epa9)⟩, _, rfl, ro, _, rfl, .inl ⟨.inl (.inl ero), fun u2 nu2 => ?_⟩⟩
            have s10 := same_new (o := .tup rvs) nu2
            refine ⟨pa, _, _, rfl, rfl, s10 _ _ epa9, small2000 (by omega), ?_⟩
            have hq10 := (hq9.same s10).put (ys := cvs ++ [.ref u2]) npa5 (s10 _ _ epa9)
            have tp11 : Tps K (upd H9 u2 (.tup rvs)) (upd (upd H9 u2 (.tup rvs)) pa (.lst (cvs ++ [.ref u2]))) := Tps.x SameX.put (s10 _ _ epa9)
            have tp10 := (Tps.of (K := K) s10).trans tp11
            refine ⟨pvs ++ [z7], cvs ++ [.ref u2], pws ++ [r7], cjs ++ [M], _, _, _, _, _, rfl, hq10, by rw [upd_ne hwa]; exact s10 _ _ (hg9.sx _ _ hwk epw8), paired_via (fun _ _ => rs_tps (hg9.tp.trans tp10)) hpw8, upd_same, paired_add (paired_via (fun _ _ => tup1_tps (hg9.tp.trans tp10)) hpa8) ⟨u2, rvs, rfl, tp11 _ _ (.inl (.inl upd_same)), paired_via (fun _ _ => rs_tps tp10) hM⟩, hW.next ⟨hN7.bl, hN7.zb hzf⟩ (by omega) hMr⟩
      · rintro σ H' ⟨pvs, cvs, pws, cjs, y5, y10, y11, y12, y13, rfl, hg, epw, hpw, epa, hpa, hW⟩
        refine ⟨_, rfl, x0, _, 0, _, rfl, rfl, hg.tp _ _ hSx5, atI_nat (j := 0) rfl, _, rfl, pw, _, rfl, .inl ⟨.inl (.inl epw), fun u1 nu1 => ?_⟩⟩
        have s1' := same_new (o := .tup pvs) nu1
        refine ⟨_, rfl, pa, _, rfl, .inl ⟨.inl (.inl (s1' _ _ epa)), fun u2 nu2 => ⟨by show 3 ≤ sizeLine; decide, fun u3 nu3 => ?_⟩⟩⟩
        have s2 := same_new (o := .tup cvs) nu2
        have s3 := same_new (o := .tup [V.ref a, V.ref u1, V.ref u2]) nu3
        have s123 := (s1'.trans s2).trans s3
        refine q (.ref u3) ⟨t.ps, pws, cjs⟩ _ ?_ ?_ ⟨u3, a, u1, u2, cvs, rfl, .inl (.inl upd_same), Own.same_tup s123 (hg.tp _ _ hSa5), ⟨u1, pvs, rfl, Own.same_tup (s2.trans s3) (.inl (.inl upd_same)), paired_via (fun _ _ => rs_tps (Tps.of s123)) hpw⟩, Own.same_tup s3 (.inl (.inl upd_same)), paired_via (fun _ _ => tup1_tps (Tps.of s123)) hpa⟩ ⟨hV.pr, hV.n10, hV.sz, hW.pl, hW.pr, hW.cl, hW.cr⟩ rfl
        · intro b o nb hb
          have hbk : b ≠ kn := ne_of_none hb nkn
          exact s123 _ _ (hg.sx _ _ hbk (sx5 _ _ nb hb))
        · obtain ⟨s8, t8, e8⟩ := hst5
          exact ⟨s8, t8, s123 _ _ (hg.sx _ _ hne e8)⟩
/-! ### made tables are valid -/
theorem bl_zero {ps : List Int} (h : ∀ p ∈ ps, 2 ≤ p) : Bl ps (zeroR ps.length) := ⟨by unfold zeroR; rw [List.length_replicate], fun k hk => by
  rw [atR_zero]
  have := h _ (atR_in hk)
  omega⟩
theorem zb_zero {n m : Nat} : Zb (zeroR n) m := fun _ _ => atR_zero
theorem bl_set {ps r : List Int} {k : Nat} {e : Int} (h : Bl ps r) (hk : k < ps.length) (h0 : 0 ≤ e) (h1 : e < atR ps k) : Bl ps (r.set k e) := ⟨by rw [List.length_set]; exact h.1, fun j hj => by
  rw [set_at (by rw [h.1]; exact hk)]
  split
  · rename_i c
    rw [c]
    exact ⟨h0, h1⟩
  · exact h.2 j hj⟩
theorem zb_set {r : List Int} {k m : Nat} {e : Int} (h : Zb r m) (hl : k < r.length) (hk : m ≤ k) : Zb (r.set k e) m := fun i hi => by
  rw [set_at hl, if_neg (by omega)]
  exact h i hi
def PwV (ps : List Int) (L : List (List Int)) : Prop := L.length = ps.length ∧ ∀ (i : Nat) (r : List Int), L[i]? = some r → Bl ps r ∧ Zb r (i + 1)
def CjV (ps : List Int) (C : List (List (List Int))) : Prop := C.length = ps.length ∧ ∀ (i : Nat) (M : List (List Int)), C[i]? = some M → M.length = ps.length - (i + 1) ∧ ∀ r ∈ M, Bl ps r ∧ Zb r (i + 1)
def OkP (ps : List Int) (x : PwE) : Prop := x.1 < x.2.1 ∧ x.2.1 < ps.length ∧ 0 ≤ x.2.2 ∧ x.2.2 < atR ps x.2.1
def OkC (ps : List Int) (x : CjE) : Prop := x.1 < x.2.1 ∧ x.2.1 < ps.length ∧ ∀ y ∈ x.2.2, x.1 < y.1 ∧ y.1 < ps.length ∧ 0 ≤ y.2 ∧ y.2 < atR ps y.1
theorem pwv_put {ps : List Int} {L : List (List Int)} {x : PwE} (h : PwV ps L) (hx : OkP ps x) : PwV ps (putR L x) := by
  unfold putR
  refine ⟨by rw [List.length_set]; exact h.1, fun i r e => ?_⟩
  have hl : x.1 < L.length := by rw [h.1]; have := hx.1; have := hx.2.1; omega
  rw [List.getElem?_set] at e
  by_cases c : x.1 = i
  · rw [if_pos c, if_pos hl] at e
    cases e
    have e1 : L[x.1]? = some L[x.1] := List.getElem?_eq_getElem hl
    obtain ⟨h1, h2⟩ := h.2 _ _ e1
    rw [getD_some e1]
    refine ⟨bl_set h1 hx.2.1 hx.2.2.1 hx.2.2.2, ?_⟩
    rw [← c]
    exact zb_set h2 (by rw [h1.1]; exact hx.2.1) hx.1
  · rw [if_neg c] at e
    exact h.2 i r e
theorem pwv_fold {ps : List Int} : ∀ {pws : List PwE} {L : List (List Int)}, (∀ x ∈ pws, OkP ps x) → PwV ps L → PwV ps (pws.foldl putR L)
  | [], _, _, h => h
  | x :: pws, L, hx, h => pwv_fold (pws := pws) (L := putR L x) (fun y hy => hx y (List.mem_cons_of_mem _ hy)) (pwv_put h (hx x (List.mem_cons_self ..)))
theorem pair_ok {ps : List Int} {i : Nat} : ∀ {prs : List (Nat × Int)} {r : List Int}, (∀ y ∈ prs, i < y.1 ∧ y.1 < ps.length ∧ 0 ≤ y.2 ∧ y.2 < atR ps y.1) → Bl ps r ∧ Zb r (i + 1) → Bl ps (prs.foldl (fun r y => r.set y.1 y.2) r) ∧ Zb (prs.foldl (fun r y => r.set y.1 y.2) r) (i + 1)
  | [], _, _, h => h
  | y :: prs, r, hy, h => by
    obtain ⟨a, b, c, d⟩ := hy y (List.mem_cons_self ..)
    exact pair_ok (prs := prs) (r := r.set y.1 y.2) (fun z hz => hy z (List.mem_cons_of_mem _ hz)) ⟨bl_set h.1 b c d, zb_set h.2 (by rw [h.1.1]; exact b) a⟩
theorem cjv_put {ps : List Int} {C : List (List (List Int))} {x : CjE} (h2 : ∀ p ∈ ps, 2 ≤ p) (h : CjV ps C) (hx : OkC ps x) : CjV ps (putC ps.length C x) := by
  unfold putC
  refine ⟨by rw [List.length_set]; exact h.1, fun i M e => ?_⟩
  have hl : x.1 < C.length := by rw [h.1]; have := hx.1; have := hx.2.1; omega
  rw [List.getElem?_set] at e
  by_cases c : x.1 = i
  · rw [if_pos c, if_pos hl] at e
    cases e
    have e1 : C[x.1]? = some C[x.1] := List.getElem?_eq_getElem hl
    obtain ⟨a1, a2⟩ := h.2 _ _ e1
    rw [getD_some e1]
    refine ⟨by rw [List.length_set, a1, c], fun r hr => ?_⟩
    rw [← c]
    rcases List.mem_or_eq_of_mem_set hr with hr | rfl
    · exact a2 r hr
    · exact pair_ok hx.2.2 ⟨bl_zero h2, zb_zero⟩
  · rw [if_neg c] at e
    exact h.2 i M e
theorem cjv_fold {ps : List Int} (h2 : ∀ p ∈ ps, 2 ≤ p) : ∀ {cjs : List CjE} {C : List (List (List Int))}, (∀ x ∈ cjs, OkC ps x) → CjV ps C → CjV ps (cjs.foldl (putC ps.length) C)
  | [], _, _, h => h
  | x :: cjs, C, hx, h => cjv_fold (cjs := cjs) (C := putC ps.length C x) h2 (fun y hy => hx y (List.mem_cons_of_mem _ hy)) (cjv_put h2 h (hx x (List.mem_cons_self ..)))
theorem unit_ok {ps : List Int} (h2 : ∀ p ∈ ps, 2 ≤ p) {i k : Nat} (hk : k < ps.length) (hi : i < k) : Bl ps (unitR ps.length k) ∧ Zb (unitR ps.length k) (i + 1) := by
  refine ⟨⟨by unfold unitR; rw [List.length_map, List.length_range], fun j hj => ?_⟩, fun j hj => ?_⟩
  · rw [unitR_at hj]
    have := h2 _ (atR_in hj)
    split <;> omega
  · rw [unitR_at (by omega), if_neg (by omega)]
theorem cjv_rows0 {ps : List Int} (h2 : ∀ p ∈ ps, 2 ≤ p) : CjV ps (rows0 ps.length) := by
  obtain ⟨h1, h3⟩ := rows0_sh ps.length
  refine ⟨h1, fun i M e => ⟨(h3 i M e).1, fun r hr => ?_⟩⟩
  have hi : i < ps.length := by
    have := (List.getElem?_eq_some_iff.mp e).1
    rw [h1] at this
    exact this
  unfold rows0 at e
  rw [List.getElem?_map, List.getElem?_range hi] at e
  cases e
  obtain ⟨m, hm, rfl⟩ := List.mem_map.mp hr
  have hm := List.mem_range.mp hm
  exact unit_ok h2 (by omega) (by omega)
theorem vd_made {ps : List Int} {pws : List PwE} {cjs : List CjE} (hp : ∀ p ∈ ps, p ∈ pr31) (hn : ps.length ≤ 10) (hs : prodN ps ≤ 1000) (h1 : ∀ x ∈ pws, OkP ps x) (hc : ∀ x ∈ cjs, OkC ps x) : Vd (madeT ps pws cjs) := by
  have h2 : ∀ p ∈ ps, 2 ≤ p := fun p h => (pr31_in (hp p h)).1
  have a : PwV ps (madeP ps.length pws) := pwv_fold h1 ⟨List.length_replicate, fun i r e => by
    rw [List.eq_of_mem_replicate (List.mem_of_getElem? e)]
    exact ⟨bl_zero h2, zb_zero⟩⟩
  have b : CjV ps (madeC ps.length cjs) := cjv_fold h2 hc (cjv_rows0 h2)
  exact ⟨hp, hn, hs, a.1, a.2, b.1, b.2⟩
theorem prodN_app : ∀ (a b : List Int), prodN (a ++ b) = prodN a * prodN b
  | [], b => by rw [List.nil_append, prodN, Nat.one_mul]
  | p :: a, b => by rw [List.cons_append, prodN, prodN, prodN_app a b, Nat.mul_assoc]
/-! ### _law_size -/
def spSize (K : PySem.W.Frag) : Sp := fun vs H Q _ => ∃ (z : V) (t : Tb), vs = [z] ∧ TbAt K H z t ∧ (∀ p ∈ t.ps, p ∈ pr31) ∧ prodN t.ps ≤ 1000 ∧ Q (.int (prodN t.ps : Int)) H
theorem ok_size (T : Txt K mg) : FnOk P w K mg base CX0 1 T.a__law_size T.d__law_size ["table"] (spSize K) := by
  refine T.F__law_size.ok sc__law_size (fun vs H Q E h => ?_) (fun cdv A outer s H vs Q E hr h => ?_)
  · obtain ⟨z, t, rfl, _⟩ := h
    rfl
  · obtain ⟨z, t, rfl, hT, hp, hs, q⟩ := h
    refine ⟨_, (pss_cons (ps_set (i := 1) sc__law_size.nd rfl (.inl rfl) pe_int) 
    (pss_cons (ps_for PassesOwn.never rfl (pi_tup (pe_ix ix_tup (pv 0) pe_int (fun _ _ => rfl))) (pg_name (i := 2) sc__law_size.nd rfl (.inl rfl)) 
      (pss_one (ps_set (i := 1) sc__law_size.nd rfl (.inl rfl) (pe_op op_mulW (pv 1) (pv 2))))) 
    (pss_one (ps_ret (pv 1))))), ?_⟩
    obtain ⟨x0, a, b, c, us, vs, rfl, hSx, hSa, hSb, hPw, hSc, hPc⟩ := hT.rd
    refine ⟨_, rfl, x0, _, 0, _, rfl, rfl, hSx, atI_nat (j := 0) rfl, a, rfl, ⟨_, hSa⟩, for_tup (xs := t.ps.map V.int) (fun i σ H' => H' = H ∧ ∃ y2, σ = [some (.ref x0), some (.int (prodN (t.ps.take i) : Int)), y2])
      ⟨rfl, none, rfl⟩ (fun i σ H' _ ⟨e, _⟩ => by rw [e]; exact hSa) ?_ ?_⟩
    · rintro i x σ H' hi ⟨rfl, y2, rfl⟩
      rw [List.getElem?_map] at hi
      cases hx : t.ps[i]? with
      | none => rw [hx] at hi; cases hi
      | some p =>
        rw [hx] at hi
        cases hi
        have hp2 := pr31_in (hp p (List.mem_of_getElem? hx))
        have hk : prodN (t.ps.take i) ≤ prodN t.ps := by
          have e := prodN_app (t.ps.take i) (t.ps.drop i)
          rw [List.take_append_drop] at e
          rw [e]
          exact Nat.le_mul_of_pos_right _ (prodN_pos fun p h => (pr31_in (hp p (List.mem_of_mem_drop h))).1)
        refine ⟨_, rfl, _, rfl, _, _, rfl, rfl, wide_mul (a := 10) (b := 5 + 1) (by omega) (by omega) (by decide) (by decide) (by decide), rfl, some (.int p), ?_⟩
        rw [List.take_add_one, hx, prodN_app]
        show [_, _, _] = [_, some (V.int ((prodN (t.ps.take i) * (p.toNat * 1) : Nat) : Int)), _]
        rw [Nat.mul_one, Int.natCast_mul, Int.toNat_of_nonneg (by omega)]
    · rintro σ H' ⟨rfl, y2, rfl⟩
      rw [List.length_map, List.take_length]
      exact ⟨_, rfl, q⟩
/-! ### _law_steep, _law_flat -/
instance {ps : List Int} {x : PwE} : Decidable (OkP ps x) := by unfold OkP; infer_instance
instance {ps : List Int} {x : CjE} : Decidable (OkC ps x) := by unfold OkC; infer_instance
def VB (ps : List Int) (pws : List PwE) (cjs : List CjE) : Prop := (∀ p ∈ ps, p ∈ pr31) ∧ ps.length ≤ 4 ∧ prodN ps ≤ 125 ∧ (∀ x ∈ pws, OkP ps x) ∧ ∀ x ∈ cjs, OkC ps x
instance {ps : List Int} {pws : List PwE} {cjs : List CjE} : Decidable (VB ps pws cjs) := by unfold VB; infer_instance
theorem VB.vd {ps : List Int} {pws : List PwE} {cjs : List CjE} (h : VB ps pws cjs) : Vd (madeT ps pws cjs) := vd_made h.1 (by have := h.2.1; omega) (by have := h.2.2.1; omega) h.2.2.2.1 h.2.2.2.2
/-- a table of few elements -/
structure Sm (t : Tb) : Prop where
  vd : Vd t
  len : t.ps.length ≤ 4
  sz : prodN t.ps ≤ 125
theorem VB.sm {ps : List Int} {pws : List PwE} {cjs : List CjE} (h : VB ps pws cjs) : Sm (madeT ps pws cjs) := ⟨h.vd, h.2.1, h.2.2.1⟩
theorem has_ints {H : Hp} {v : V} {ps : List Int} (h : Has K H v (.lst (ps.map Tr.int))) : ∃ a, v = .ref a ∧ H a = some (.lst (ps.map V.int)) := by
  obtain ⟨a, us, rfl, ea, hul, hug⟩ := has_lst h
  have e : us = ps.map V.int := by
    apply List.ext_getElem?
    intro i
    rw [List.getElem?_map]
    rw [List.length_map] at hul
    by_cases hi : i < ps.length
    · have e1 : us[i]? = some us[i] := List.getElem?_eq_getElem (by omega)
      have e2 : ps[i]? = some ps[i] := List.getElem?_eq_getElem hi
      have := has_int (hug i _ (Tr.int ps[i]) e1 (by rw [List.getElem?_map, e2]; rfl))
      rw [e1, e2, this]
      rfl
    · rw [List.getElem?_eq_none (by omega), List.getElem?_eq_none (by omega)]
      rfl
  exact ⟨a, rfl, by rw [← e]; exact ea⟩
theorem made_use {u v z : V} {H : Hp} {Q : VK} {E : XK} {ps : List Int} {pws : List PwE} {cjs : List CjE} (hu : Has K H u (.lst (ps.map Tr.int))) (hv : Has K H v (.lst (pws.map trP))) (hz : Has K H z (.lst (cjs.map trC))) (h : VB ps pws cjs)
    (q : ∀ z H', Same H H' → TbAt K H' z (madeT ps pws cjs) → Q z H') : spMade K [u, v, z] H Q E := by
  obtain ⟨a, rfl, ea⟩ := has_ints hu
  refine ⟨a, v, z, ps, pws, cjs, rfl, .inl (.inl ea), hv, hz, by have := h.2.1; omega, fun x hx => ?_, fun x hx => ?_, q⟩
  · have := h.2.2.2.1 x hx
    exact ⟨Nat.lt_trans this.1 this.2.1, this.2.1⟩
  · have := h.2.2.2.2 x hx
    exact ⟨this.1, this.2.1, fun y hy => (this.2.2 y hy).2.1⟩
theorem made_call {args : TA} {σ : L2.St} {H : Hp} {Q : VK} {ps : List Int} {pws : List PwE} {cjs : List CjE} (hE : EvDs K args σ [.lst (ps.map Tr.int), .lst (pws.map trP), .lst (cjs.map trC)]) (h : VB ps pws cjs)
    (q : ∀ z H', Same H H' → TbAt K H' z (madeT ps pws cjs) → Q z H') : tCall (spMade K) [] E0 args σ H Q := hE H _ fun vs H1 s1 hs => by
  obtain ⟨hl, hg⟩ := hs
  match vs, hl with
  | [u, v, z], _ => exact made_use (hg 0 _ _ rfl rfl) (hg 1 _ _ rfl rfl) (hg 2 _ _ rfl rfl) h fun z H' s k => q z H' (s1.trans s) k
def spSteep (K : PySem.W.Frag) : Sp := fun vs H Q _ => ∃ (st : Addr) (pk : Int), vs = [.ref st, .int pk] ∧ StA H st ∧ ∀ z t H', SameX st H H' → StA H' st → TbAt K H' z t → Sm t → Q z H'
theorem ok_steep (T : Txt K mg) : FnOk P w K mg base CX0 2 T.a__law_steep T.d__law_steep ["state", "pick"] (spSteep K) := by
  have G__law_take : FnOk P w K mg base CX0 1 T.a__law_take T.d__law_take ["state", "m"] spTake := ok_take T
  have G__law_made : FnOk P w K mg base CX0 1 T.a__law_made T.d__law_made ["primes", "powers", "conjugates"] (spMade K) := ok_made T
  refine T.F__law_steep.ok sc__law_steep (fun vs H Q E h => ?_) (fun cdv A outer s H vs Q E hr h => ?_)
  · obtain ⟨st, pk, rfl, _⟩ := h
    rfl
  · obtain ⟨st, pk, rfl, ⟨s0, t0, est⟩, q⟩ := h
    refine ⟨_, (pss_cons (ps_par (i := 2) (j := 3) (by rfl) sc__law_steep.nd rfl rfl (by decide) rfl rfl (pa_cons (pe_call G__law_take (hr.mono (by decide)) (by rfl) T.g__law_take T.F__law_take.kp T.b__law_take .nil pass0 (pa_cons (pv 0) (pa_cons pe_int pa_nil))) (pa_cons (pe_call G__law_take (hr.mono (by decide)) (by rfl) T.g__law_take T.F__law_take.kp T.b__law_take .nil pass0 (pa_cons (pv 0) (pa_cons pe_int pa_nil))) pa_nil)) (by rfl)) 
    (pss_cons (ps_if (pt_cmpR op_eq (pv 1) pe_int (nomark _)) 
      (pss_one (ps_ret (pe_call G__law_made (hr.mono (by decide)) (by rfl) T.g__law_made T.F__law_made.kp T.b__law_made .nil pass0 (pa_cons (pe_lst (pa_cons pe_int (pa_cons pe_int (pa_cons pe_int pa_nil)))) (pa_cons (pe_lst (pa_cons (pe_tup (pa_cons pe_int (pa_cons pe_int (pa_cons (pv 2) pa_nil)))) (pa_cons (pe_tup (pa_cons pe_int (pa_cons pe_int (pa_cons (pv 3) pa_nil)))) pa_nil))) (pa_cons (pe_lst (pa_cons (pe_tup (pa_cons pe_int (pa_cons pe_int (pa_cons (pe_lst (pa_cons (pe_tup (pa_cons pe_int (pa_cons pe_int pa_nil))) (pa_cons (pe_tup (pa_cons pe_int (pa_cons pe_int pa_nil))) pa_nil))) pa_nil)))) pa_nil)) pa_nil)))))) pss_nil) 
    (pss_cons (ps_if (pt_cmpR op_eq (pv 1) pe_int (nomark _)) 
      (pss_one (ps_ret (pe_call G__law_made (hr.mono (by decide)) (by rfl) T.g__law_made T.F__law_made.kp T.b__law_made .nil pass0 (pa_cons (pe_lst (pa_cons pe_int (pa_cons pe_int (pa_cons pe_int pa_nil)))) (pa_cons (pe_lst (pa_cons (pe_tup (pa_cons pe_int (pa_cons pe_int (pa_cons (pv 2) pa_nil)))) (pa_cons (pe_tup (pa_cons pe_int (pa_cons pe_int (pa_cons (pv 3) pa_nil)))) pa_nil))) (pa_cons (pe_lst (pa_cons (pe_tup (pa_cons pe_int (pa_cons pe_int (pa_cons (pe_lst (pa_cons (pe_tup (pa_cons pe_int (pa_cons pe_int pa_nil))) (pa_cons (pe_tup (pa_cons pe_int (pa_cons pe_int pa_nil))) pa_nil))) pa_nil)))) pa_nil)) pa_nil)))))) pss_nil) 
    (pss_cons (ps_if (pt_cmpR op_eq (pv 1) pe_int (nomark _)) 
      (pss_one (ps_ret (pe_call G__law_made (hr.mono (by decide)) (by rfl) T.g__law_made T.F__law_made.kp T.b__law_made .nil pass0 (pa_cons (pe_lst (pa_cons pe_int (pa_cons pe_int (pa_cons pe_int pa_nil)))) (pa_cons (pe_lst pa_nil) (pa_cons (pe_lst (pa_cons (pe_tup (pa_cons pe_int (pa_cons pe_int (pa_cons (pe_lst (pa_cons (pe_tup (pa_cons pe_int (pa_cons pe_int pa_nil))) pa_nil)) pa_nil)))) (pa_cons (pe_tup (pa_cons pe_int (pa_cons pe_int (pa_cons (pe_lst (pa_cons (pe_tup (pa_cons pe_int (pa_cons pe_int pa_nil))) (pa_cons (pe_tup (pa_cons pe_int (pa_cons pe_int pa_nil))) pa_nil))) pa_nil)))) pa_nil))) pa_nil)))))) pss_nil) 
    (pss_cons (ps_if (pt_cmpR op_eq (pv 1) pe_int (nomark _)) 
      (pss_one (ps_ret (pe_call G__law_made (hr.mono (by decide)) (by rfl) T.g__law_made T.F__law_made.kp T.b__law_made .nil pass0 (pa_cons (pe_lst (pa_cons pe_int (pa_cons pe_int (pa_cons pe_int (pa_cons pe_int pa_nil))))) (pa_cons (pe_lst pa_nil) (pa_cons (pe_lst (pa_cons (pe_tup (pa_cons pe_int (pa_cons pe_int (pa_cons (pe_lst (pa_cons (pe_tup (pa_cons pe_int (pa_cons pe_int pa_nil))) pa_nil)) pa_nil)))) (pa_cons (pe_tup (pa_cons pe_int (pa_cons pe_int (pa_cons (pe_lst (pa_cons (pe_tup (pa_cons pe_int (pa_cons pe_int pa_nil))) pa_nil)) pa_nil)))) (pa_cons (pe_tup (pa_cons pe_int (pa_cons pe_int (pa_cons (pe_lst (pa_cons (pe_tup (pa_cons pe_int (pa_cons pe_int pa_nil))) pa_nil)) pa_nil)))) (pa_cons (pe_tup (pa_cons pe_int (pa_cons pe_int (pa_cons (pe_lst (pa_cons (pe_tup (pa_cons pe_int (pa_cons pe_int pa_nil))) pa_nil)) pa_nil)))) (pa_cons (pe_tup (pa_cons pe_int (pa_cons pe_int (pa_cons (pe_lst (pa_cons (pe_tup (pa_cons pe_int (pa_cons pe_int pa_nil))) (pa_cons (pe_tup (pa_cons pe_int (pa_cons pe_int pa_nil))) pa_nil))) pa_nil)))) pa_nil)))))) pa_nil)))))) pss_nil) 
    (pss_cons (ps_if (pt_cmpR op_eq (pv 1) pe_int (nomark _)) 
      (pss_one (ps_ret (pe_call G__law_made (hr.mono (by decide)) (by rfl) T.g__law_made T.F__law_made.kp T.b__law_made .nil pass0 (pa_cons (pe_lst (pa_cons pe_int (pa_cons pe_int (pa_cons pe_int pa_nil)))) (pa_cons (pe_lst (pa_cons (pe_tup (pa_cons pe_int (pa_cons pe_int (pa_cons pe_int pa_nil)))) pa_nil)) (pa_cons (pe_lst (pa_cons (pe_tup (pa_cons pe_int (pa_cons pe_int (pa_cons (pe_lst (pa_cons (pe_tup (pa_cons pe_int (pa_cons pe_int pa_nil))) pa_nil)) pa_nil)))) (pa_cons (pe_tup (pa_cons pe_int (pa_cons pe_int (pa_cons (pe_lst (pa_cons (pe_tup (pa_cons pe_int (pa_cons pe_int pa_nil))) pa_nil)) pa_nil)))) pa_nil))) pa_nil)))))) pss_nil) 
    (pss_cons (ps_if (pt_cmpR op_eq (pv 1) pe_int (nomark _)) 
      (pss_one (ps_ret (pe_call G__law_made (hr.mono (by decide)) (by rfl) T.g__law_made T.F__law_made.kp T.b__law_made .nil pass0 (pa_cons (pe_lst (pa_cons pe_int (pa_cons pe_int (pa_cons pe_int (pa_cons pe_int pa_nil))))) (pa_cons (pe_lst pa_nil) (pa_cons (pe_lst (pa_cons (pe_tup (pa_cons pe_int (pa_cons pe_int (pa_cons (pe_lst (pa_cons (pe_tup (pa_cons pe_int (pa_cons pe_int pa_nil))) pa_nil)) pa_nil)))) (pa_cons (pe_tup (pa_cons pe_int (pa_cons pe_int (pa_cons (pe_lst (pa_cons (pe_tup (pa_cons pe_int (pa_cons pe_int pa_nil))) pa_nil)) pa_nil)))) (pa_cons (pe_tup (pa_cons pe_int (pa_cons pe_int (pa_cons (pe_lst (pa_cons (pe_tup (pa_cons pe_int (pa_cons pe_int pa_nil))) pa_nil)) pa_nil)))) pa_nil)))) pa_nil)))))) pss_nil) 
    (pss_cons (ps_if (pt_cmpR op_eq (pv 1) pe_int (nomark _)) 
      (pss_one (ps_ret (pe_call G__law_made (hr.mono (by decide)) (by rfl) T.g__law_made T.F__law_made.kp T.b__law_made .nil pass0 (pa_cons (pe_lst (pa_cons pe_int (pa_cons pe_int (pa_cons pe_int pa_nil)))) (pa_cons (pe_lst pa_nil) (pa_cons (pe_lst (pa_cons (pe_tup (pa_cons pe_int (pa_cons pe_int (pa_cons (pe_lst (pa_cons (pe_tup (pa_cons pe_int (pa_cons pe_int pa_nil))) pa_nil)) pa_nil)))) (pa_cons (pe_tup (pa_cons pe_int (pa_cons pe_int (pa_cons (pe_lst (pa_cons (pe_tup (pa_cons pe_int (pa_cons pe_int pa_nil))) pa_nil)) pa_nil)))) pa_nil))) pa_nil)))))) pss_nil) 
    (pss_one (ps_ret (pe_call G__law_made (hr.mono (by decide)) (by rfl) T.g__law_made T.F__law_made.kp T.b__law_made .nil pass0 (pa_cons (pe_lst (pa_cons pe_int (pa_cons pe_int (pa_cons pe_int (pa_cons pe_int pa_nil))))) (pa_cons (pe_lst (pa_cons (pe_tup (pa_cons pe_int (pa_cons pe_int (pa_cons pe_int pa_nil)))) (pa_cons (pe_tup (pa_cons pe_int (pa_cons pe_int (pa_cons pe_int pa_nil)))) pa_nil))) (pa_cons (pe_lst (pa_cons (pe_tup (pa_cons pe_int (pa_cons pe_int (pa_cons (pe_lst (pa_cons (pe_tup (pa_cons pe_int (pa_cons pe_int pa_nil))) pa_nil)) pa_nil)))) (pa_cons (pe_tup (pa_cons pe_int (pa_cons pe_int (pa_cons (pe_lst (pa_cons (pe_tup (pa_cons pe_int (pa_cons pe_int pa_nil))) (pa_cons (pe_tup (pa_cons pe_int (pa_cons pe_int pa_nil))) pa_nil))) pa_nil)))) (pa_cons (pe_tup (pa_cons pe_int (pa_cons pe_int (pa_cons (pe_lst (pa_cons (pe_tup (pa_cons pe_int (pa_cons pe_int pa_nil))) (pa_cons (pe_tup (pa_cons pe_int (pa_cons pe_int pa_nil))) pa_nil))) pa_nil)))) pa_nil)))) pa_nil)))))))))))))), ?_⟩
    refine ⟨_, rfl, st, _, s0, t0, rfl, by decide, by decide, est, fun a s1 t1 ha0 ha1 => ?_⟩
    refine ⟨_, rfl, st, _, s1, t1, rfl, by decide, by decide, upd_same, fun b s2 t2 hb0 hb1 => ?_⟩
    have sx : SameX st H (upd (upd H st (.lst [.int s1, .int t1])) st (.lst [.int s2, .int t2])) := SameX.put.trans SameX.put
    have hst : StA (upd (upd H st (.lst [.int s1, .int t1])) st (.lst [.int s2, .int t2])) st := ⟨s2, t2, upd_same⟩
    generalize upd (upd H st (.lst [.int s1, .int t1])) st (.lst [.int s2, .int t2]) = H1 at *
    have q : ∀ z ps pws cjs H', Same H1 H' → VB ps pws cjs → TbAt K H' z (madeT ps pws cjs) → Q z H' := fun z ps pws cjs H' s hb ht => q z _ H' (sx.trans (Same.x s)) (let ⟨a, b, e⟩ := hst; ⟨a, b, s _ _ e⟩) ht hb.sm
    have ha : a = 0 ∨ a = 1 := by omega
    have hb : b = 0 ∨ b = 1 := by omega
    refine ⟨_, _, rfl, _, rfl, rfl, _, rfl, ite2 (fun c => ?_) (fun c => ?_)⟩
    · have hv : VB [2, 2, 2] [(0, 2, a), (1, 2, b)] [(0, 1, [(1, 1), (2, 1)])] := by rcases ha with rfl | rfl <;> rcases hb with rfl | rfl <;> decide
      exact made_call (by (repeat' (first | exact ed_int | exact ed_nil | exact ed_var rfl | refine ed_cons ?_ ?_ | refine ed_tup ?_ (Nat.le_of_ble_eq_true rfl) | refine ed_lst ?_ (Nat.le_of_ble_eq_true rfl)))) hv fun z H' s h => q z _ _ _ H' s hv h
    refine ⟨_, rfl, rfl, _, rfl, ite2 (fun c => ?_) (fun c => ?_)⟩
    · have hv : VB [3, 3, 3] [(0, 2, a), (1, 2, b)] [(0, 1, [(1, 1), (2, 1)])] := by rcases ha with rfl | rfl <;> rcases hb with rfl | rfl <;> decide
      exact made_call (by (repeat' (first | exact ed_int | exact ed_nil | exact ed_var rfl | refine ed_cons ?_ ?_ | refine ed_tup ?_ (Nat.le_of_ble_eq_true rfl) | refine ed_lst ?_ (Nat.le_of_ble_eq_true rfl)))) hv fun z H' s h => q z _ _ _ H' s hv h
    refine ⟨_, rfl, rfl, _, rfl, ite2 (fun c => ?_) (fun c => ?_)⟩
    · have hv : VB [3, 2, 2] [] [(0, 1, [(2, 1)]), (0, 2, [(1, 1), (2, 1)])] := by decide
      exact made_call (by (repeat' (first | exact ed_int | exact ed_nil | exact ed_var rfl | refine ed_cons ?_ ?_ | refine ed_tup ?_ (Nat.le_of_ble_eq_true rfl) | refine ed_lst ?_ (Nat.le_of_ble_eq_true rfl)))) hv fun z H' s h => q z _ _ _ H' s hv h
    refine ⟨_, rfl, rfl, _, rfl, ite2 (fun c => ?_) (fun c => ?_)⟩
    · have hv : VB [2, 3, 2, 2] [] [(0, 1, [(1, 2)]), (0, 2, [(3, 1)]), (0, 3, [(2, 1)]), (1, 2, [(3, 1)]), (1, 3, [(2, 1), (3, 1)])] := by decide
      exact made_call (by (repeat' (first | exact ed_int | exact ed_nil | exact ed_var rfl | refine ed_cons ?_ ?_ | refine ed_tup ?_ (Nat.le_of_ble_eq_true rfl) | refine ed_lst ?_ (Nat.le_of_ble_eq_true rfl)))) hv fun z H' s h => q z _ _ _ H' s hv h
    refine ⟨_, rfl, rfl, _, rfl, ite2 (fun c => ?_) (fun c => ?_)⟩
    · have hv : VB [2, 2, 5] [(0, 1, 1)] [(0, 2, [(2, 2)]), (1, 2, [(2, 4)])] := by decide
      exact made_call (by (repeat' (first | exact ed_int | exact ed_nil | exact ed_var rfl | refine ed_cons ?_ ?_ | refine ed_tup ?_ (Nat.le_of_ble_eq_true rfl) | refine ed_lst ?_ (Nat.le_of_ble_eq_true rfl)))) hv fun z H' s h => q z _ _ _ H' s hv h
    refine ⟨_, rfl, rfl, _, rfl, ite2 (fun c => ?_) (fun c => ?_)⟩
    · have hv : VB [3, 2, 2, 2] [] [(0, 1, [(2, 1)]), (0, 2, [(3, 1)]), (0, 3, [(1, 1)])] := by decide
      exact made_call (by (repeat' (first | exact ed_int | exact ed_nil | exact ed_var rfl | refine ed_cons ?_ ?_ | refine ed_tup ?_ (Nat.le_of_ble_eq_true rfl) | refine ed_lst ?_ (Nat.le_of_ble_eq_true rfl)))) hv fun z H' s h => q z _ _ _ H' s hv h
    refine ⟨_, rfl, rfl, _, rfl, ite2 (fun c => ?_) (fun c => ?_)⟩
    · have hv : VB [2, 3, 3] [] [(0, 1, [(2, 1)]), (0, 2, [(1, 1)])] := by decide
      exact made_call (by (repeat' (first | exact ed_int | exact ed_nil | exact ed_var rfl | refine ed_cons ?_ ?_ | refine ed_tup ?_ (Nat.le_of_ble_eq_true rfl) | refine ed_lst ?_ (Nat.le_of_ble_eq_true rfl)))) hv fun z H' s h => q z _ _ _ H' s hv h
    · have hv : VB [3, 2, 2, 2] [(1, 3, 1), (2, 3, 1)] [(0, 1, [(2, 1)]), (0, 2, [(1, 1), (2, 1)]), (1, 2, [(2, 1), (3, 1)])] := by decide
      unfold tNext tRet
      dsimp only
      exact made_call (by (repeat' (first | exact ed_int | exact ed_nil | exact ed_var rfl | refine ed_cons ?_ ?_ | refine ed_tup ?_ (Nat.le_of_ble_eq_true rfl) | refine ed_lst ?_ (Nat.le_of_ble_eq_true rfl)))) hv fun z H' s h => q z _ _ _ H' s hv h
/-! ### _law_flat -/
theorem has_of_ints {H : Hp} {a : Addr} {rt : List Int} (h : H a = some (.lst (rt.map V.int))) : Has K H (.ref a) (.lst (rt.map Tr.int)) := .lst h (by rw [List.length_map, List.length_map]) fun i u t h1 h2 => by
  rw [List.getElem?_map] at h1 h2
  cases hx : rt[i]? with
  | none => rw [hx] at h1; cases h1
  | some x =>
    rw [hx] at h1 h2
    cases h1
    cases h2
    exact .int x
theorem has_nil {H : Hp} {a : Addr} (h : H a = some (.lst [])) : Has K H (.ref a) (.lst []) := .lst h rfl fun i u t h1 h2 => by simp at h1
theorem prod5 : ∀ {rt : List Int}, (∀ p ∈ rt, p ≤ 5) → prodN rt ≤ 5 ^ rt.length
  | [], _ => Nat.le_refl _
  | p :: rt, h => by
    have h1 := h p (List.mem_cons_self ..)
    have h2 := prod5 (rt := rt) fun q hq => h q (List.mem_cons_of_mem _ hq)
    rw [prodN, List.length_cons, Nat.pow_succ, Nat.mul_comm (5 ^ rt.length)]
    exact Nat.mul_le_mul (by omega) h2
theorem mem_at {rt : List Int} {p : Int} (h : p ∈ rt) : ∃ i, i < rt.length ∧ atR rt i = p := by
  obtain ⟨i, hi, e⟩ := List.mem_iff_getElem.mp h
  exact ⟨i, hi, by have := atR_get hi; rw [List.getElem?_eq_getElem hi, e] at this; exact (Option.some.inj this).symm⟩
theorem EvD.use {te : TE} {σ : L2.St} {t : Tr} {H : Hp} {Q : VK} (h : EvD K te σ t) (q : ∀ v H', Same H H' → Has K H' v t → Q v H') : te σ H Q := h H Q q
def R3 (K : PySem.W.Frag) : Hp → V → Nat → Prop := fun H v i => ∃ t, v = .ref t ∧ SqT K H t [.int (i : Int), .int ((i : Int) + 1), .int 1]
theorem st_R3 : Stable (R3 K) := ⟨fun e ⟨t, a, b⟩ => ⟨t, a, Own.same_tup e b⟩, fun e ⟨t, a, b⟩ => ⟨t, a, Tps.x SameX.put e _ _ b⟩⟩
theorem has_R3 {H : Hp} {a : Addr} {vs : List V} {l : List Nat} (h : H a = some (.lst vs)) (hp : Paired (R3 K H) vs l) : Has K H (.ref a) (.lst ((l.map fun i => ((i, i + 1, 1) : PwE)).map trP)) := .lst h (by rw [Paired.length hp, List.length_map, List.length_map]) fun i u t h1 h2 => by
  obtain ⟨x, ex, t0, rfl, hS⟩ := paired_get hp h1
  rw [List.getElem?_map, List.getElem?_map, ex] at h2
  cases h2
  exact .tup hS rfl fun j u t h3 h4 => by
    match j with
    | 0 => cases h3; cases h4; exact .int _
    | 1 => cases h3; cases h4; exact .int _
    | 2 => cases h3; cases h4; exact .int _
    | j + 3 => simp at h3
def spFlat (K : PySem.W.Frag) : Sp := fun vs H Q _ => ∃ (st : Addr), vs = [.ref st] ∧ StA H st ∧ ∀ z t H', SameX st H H' → StA H' st → TbAt K H' z t → Sm t → Q z H'
theorem ok_flat (T : Txt K mg) : FnOk P w K mg base CX0 2 T.a__law_flat T.d__law_flat ["state"] (spFlat K) := by
  have G__law_take : FnOk P w K mg base CX0 1 T.a__law_take T.d__law_take ["state", "m"] spTake := ok_take T
  have G__law_made : FnOk P w K mg base CX0 1 T.a__law_made T.d__law_made ["primes", "powers", "conjugates"] (spMade K) := ok_made T
  refine T.F__law_flat.ok sc__law_flat (fun vs H Q E h => ?_) (fun cdv A outer s H vs Q E hr h => ?_)
  · obtain ⟨st, rfl, _⟩ := h
    rfl
  · obtain ⟨st, rfl, ⟨s0, t0, est⟩, q⟩ := h
    refine ⟨_, (pss_cons (ps_set (i := 1) sc__law_flat.nd rfl (.inl rfl) (pe_call G__law_take (hr.mono (by decide)) (by rfl) T.g__law_take T.F__law_take.kp T.b__law_take .nil pass0 (pa_cons (pv 0) (pa_cons pe_int pa_nil)))) 
    (pss_cons (ps_if (pt_cmpR op_eq (pv 1) pe_int (nomark _)) 
      (pss_one (ps_ret (pe_call G__law_made (hr.mono (by decide)) (by rfl) T.g__law_made T.F__law_made.kp T.b__law_made .nil pass0 (pa_cons (pe_lc (own := [("k", 2)]) rfl sc__law_flat.nd (pi_range1 (by rfl) T.n_range (pa_cons (pe_call G__law_take (hr.mono (by decide)) (by rfl) T.g__law_take T.F__law_take.kp T.b__law_take .nil pass0 (pa_cons (pv 0) (pa_cons pe_int pa_nil))) pa_nil)) (blkOk_by (N := N__law_flat) (sc := defScope s__law_flat) (own := [("k", 2)]) (by decide +kernel)) (fun _ _ _ _ _ => (pg_name (i := 2) sc__law_flat.nd rfl (.inl rfl))) (fun _ _ _ _ _ => pts_nil) (fun _ _ _ _ _ => (pe_ix (show IxR _ (rIxL K) from ix_list) (pe_lst (pa_cons pe_int (pa_cons pe_int (pa_cons pe_int (pa_cons pe_int pa_nil))))) (pe_call G__law_take (hr.mono (by decide)) (by rfl) T.g__law_take T.F__law_take.kp T.b__law_take .nil pass0 (pa_cons (pv 0) (pa_cons pe_int pa_nil))) (fun _ _ => rfl)))) (pa_cons (pe_lst pa_nil) (pa_cons (pe_lst pa_nil) pa_nil)))))) pss_nil) 
    (pss_cons (ps_if (pt_cmpR op_eq (pv 1) pe_int (nomark _)) 
      (pss_cons (ps_set (i := 3) sc__law_flat.nd rfl (.inr rfl) (pe_op op_add pe_int (pe_call G__law_take (hr.mono (by decide)) (by rfl) T.g__law_take T.F__law_take.kp T.b__law_take .nil pass0 (pa_cons (pv 0) (pa_cons pe_int pa_nil))))) 
      (pss_cons (ps_set (i := 2) sc__law_flat.nd rfl (.inl rfl) (pe_op op_add pe_int (pe_call G__law_take (hr.mono (by decide)) (by rfl) T.g__law_take T.F__law_take.kp T.b__law_take .nil pass0 (pa_cons (pv 0) (pa_cons (pe_op op_sub pe_int (pv 3)) pa_nil))))) 
      (pss_one (ps_ret (pe_call G__law_made (hr.mono (by decide)) (by rfl) T.g__law_made T.F__law_made.kp T.b__law_made .nil pass0 (pa_cons (pe_lc (own := [("i", 6)]) rfl sc__law_flat.nd (pi_range1 (by rfl) T.n_range (pa_cons (pv 2) pa_nil)) (blkOk_by (N := N__law_flat) (sc := defScope s__law_flat) (own := [("i", 6)]) (by decide +kernel)) (fun _ _ _ _ _ => (pg_name (i := 6) sc__law_flat.nd rfl (.inl rfl))) (fun _ _ _ _ _ => pts_nil) (fun _ _ _ _ _ => (pv 3))) (pa_cons (pe_lc (own := [("i", 6)]) rfl sc__law_flat.nd (pi_range1 (by rfl) T.n_range (pa_cons (pe_op op_sub (pv 2) pe_int) pa_nil)) (blkOk_by (N := N__law_flat) (sc := defScope s__law_flat) (own := [("i", 6)]) (by decide +kernel)) (fun _ _ _ _ _ => (pg_name (i := 6) sc__law_flat.nd rfl (.inl rfl))) (fun _ _ _ _ _ => pts_nil) (fun _ _ _ _ _ => (pe_tup (pa_cons (pv 6) (pa_cons (pe_op op_add (pv 6) pe_int) (pa_cons pe_int pa_nil)))))) (pa_cons (pe_lst pa_nil) pa_nil)))))))) pss_nil) 
    (pss_cons (ps_asg (pe_ix (show IxR _ (rIxL K) from ix_list) (pe_lst (pa_cons (pe_tup (pa_cons pe_int (pa_cons pe_int (pa_cons pe_int pa_nil)))) (pa_cons (pe_tup (pa_cons pe_int (pa_cons pe_int (pa_cons pe_int pa_nil)))) (pa_cons (pe_tup (pa_cons pe_int (pa_cons pe_int (pa_cons pe_int pa_nil)))) (pa_cons (pe_tup (pa_cons pe_int (pa_cons pe_int (pa_cons pe_int pa_nil)))) (pa_cons (pe_tup (pa_cons pe_int (pa_cons pe_int (pa_cons pe_int pa_nil)))) pa_nil)))))) (pe_call G__law_take (hr.mono (by decide)) (by rfl) T.g__law_take T.F__law_take.kp T.b__law_take .nil pass0 (pa_cons (pv 0) (pa_cons pe_int pa_nil))) (fun _ _ => rfl)) (pg_tup rfl (pgs_cons (pg_name (i := 4) sc__law_flat.nd rfl (.inl rfl)) (pgs_cons (pg_name (i := 3) sc__law_flat.nd rfl (.inr rfl)) (pgs_cons (pg_name (i := 5) sc__law_flat.nd rfl (.inl rfl)) pgs_nil))))) 
    (pss_one (ps_ret (pe_call G__law_made (hr.mono (by decide)) (by rfl) T.g__law_made T.F__law_made.kp T.b__law_made .nil pass0 (pa_cons (pe_lst (pa_cons (pv 4) (pa_cons (pv 3) pa_nil))) (pa_cons (pe_lst pa_nil) (pa_cons (pe_lst (pa_cons (pe_tup (pa_cons pe_int (pa_cons pe_int (pa_cons (pe_lst (pa_cons (pe_tup (pa_cons pe_int (pa_cons (pv 5) pa_nil))) pa_nil)) pa_nil)))) pa_nil)) pa_nil)))))))))), ?_⟩
    refine ⟨_, rfl, st, _, s0, t0, rfl, by decide, by decide, est, fun pk s1 t1 hp0 hp1 => ?_⟩
    have sx : SameX st H (upd H st (.lst [.int s1, .int t1])) := SameX.put
    have est1 : (upd H st (.lst [.int s1, .int t1])) st = some (.lst [.int s1, .int t1]) := upd_same
    generalize upd H st (.lst [.int s1, .int t1]) = H1 at *
    have q : ∀ z ps pws cjs H', SameX st H1 H' → StA H' st → VB ps pws cjs → TbAt K H' z (madeT ps pws cjs) → Q z H' := fun z ps pws cjs H' s hst hb ht => q z _ H' (sx.trans s) hst ht hb.sm
    refine ⟨_, rfl, rfl, _, rfl, ite2 (fun c => ?_) (fun c => ?_)⟩
    · -- some of 2, 2, 3, 5
      refine ⟨_, rfl, st, _, s1, t1, rfl, by decide, by decide, est1, fun m s2 t2 hm0 hm1 => ?_⟩
      have sx2 : SameX st H1 (upd H1 st (.lst [.int s2, .int t2])) := SameX.put
      have hst2 : StA (upd H1 st (.lst [.int s2, .int t2])) st := ⟨s2, t2, upd_same⟩
      generalize upd H1 st (.lst [.int s2, .int t2]) = H2 at *
      obtain ⟨n, rfl⟩ : ∃ n : Nat, m = (n : Int) := ⟨m.toNat, by omega⟩
      refine ⟨(n : Int), rfl, by omega, by omega, fun D nD => ?_⟩
      refine lc_drawP (walk_range (lo := 0) (n := n)) (fun _ c => c = 2 ∨ c = 3 ∨ c = 5) (by omega) nD hst2 (fun _ _ => trivial) (fun i x H3 H4 Q2 hi sx3 hst3 hY q2 => ?_) (fun H3 rt sx3 hst3 eD hrl hrv => ?_)
      · obtain ⟨rfl, rfl⟩ := hY
        obtain ⟨s3, t3, est3⟩ := hst3
        refine ⟨rfl, by show 4 ≤ sizeLine; decide, fun l nl => ?_⟩
        have hls : st ≠ l := ne_of_none est3 nl
        refine ⟨_, rfl, st, _, s3, t3, rfl, by decide, by decide, by rw [upd_ne hls]; exact est3, fun v s4 t4 hv0 hv1 => ?_⟩
        have sx4 : SameX st H4 (upd (upd H4 l (.lst [.int 2, .int 2, .int 3, .int 5])) st (.lst [.int s4, .int t4])) := (Same.x (same_new nl)).trans SameX.put
        have el : (upd (upd H4 l (.lst [.int 2, .int 2, .int 3, .int 5])) st (.lst [.int s4, .int t4])) l = some (.lst [.int 2, .int 2, .int 3, .int 5]) := by rw [upd_ne hls.symm]; exact upd_same
        have hst4 : StA (upd (upd H4 l (.lst [.int 2, .int 2, .int 3, .int 5])) st (.lst [.int s4, .int t4])) st := ⟨s4, t4, upd_same⟩
        rcases (by omega : v = 0 ∨ v = 1 ∨ v = 2 ∨ v = 3) with rfl | rfl | rfl | rfl
        · exact ⟨l, _, _, _, rfl, rfl, .inl (.inl el), atI_nat (j := 0) rfl, q2 2 _ sx4 hst4 (by decide)⟩
        · exact ⟨l, _, _, _, rfl, rfl, .inl (.inl el), atI_nat (j := 1) rfl, q2 2 _ sx4 hst4 (by decide)⟩
        · exact ⟨l, _, _, _, rfl, rfl, .inl (.inl el), atI_nat (j := 2) rfl, q2 3 _ sx4 hst4 (by decide)⟩
        · exact ⟨l, _, _, _, rfl, rfl, .inl (.inl el), atI_nat (j := 3) rfl, q2 5 _ sx4 hst4 (by decide)⟩
      · have hall : ∀ p ∈ rt, p = 2 ∨ p = 3 ∨ p = 5 := fun p hp => by
          obtain ⟨i, hi, e⟩ := mem_at hp
          rw [← e]
          exact hrv i (by omega)
        have hv : VB rt [] [] := ⟨fun p hp => by rcases hall p hp with rfl | rfl | rfl <;> decide, by omega, by
          have h1 := prod5 (rt := rt) fun p hp => by rcases hall p hp with rfl | rfl | rfl <;> decide
          have h2 : 5 ^ rt.length ≤ 5 ^ 3 := Nat.pow_le_pow_right (by decide) (by omega)
          have h3 : 5 ^ 3 = 125 := by decide
          omega, (fun x h => by cases h), (fun x h => by cases h)⟩
        refine ⟨Nat.zero_le _, fun l1 n1 => ⟨Nat.zero_le _, fun l2 n2 => ?_⟩⟩
        have s1' := same_new (o := .lst []) n1
        have s2' := same_new (o := .lst []) n2
        have s12 := s1'.trans s2'
        exact made_use (E := E0) (has_of_ints (s12 _ _ eD)) (has_nil (s2' _ _ upd_same)) (has_nil upd_same) hv fun z H' s h => q z _ _ _ H' ((sx2.trans sx3).trans (Same.x (s12.trans s))) (let ⟨a, b, e⟩ := hst3; ⟨a, b, (s12.trans s) _ _ e⟩) hv h
    refine ⟨_, rfl, rfl, _, rfl, ite2 (fun c => ?_) (fun c => ?_)⟩
    · -- cyclic
      refine ⟨_, rfl, st, _, s1, t1, rfl, by decide, by decide, est1, fun m s2 t2 hm0 hm1 => ⟨_, _, rfl, rfl, ?_⟩⟩
      refine ⟨_, rfl, _, rfl, _, _, rfl, rfl, st, _, s2, t2, rfl, by omega, by omega, upd_same, fun k s3 t3 hk0 hk1 => ⟨_, _, rfl, rfl, ?_⟩⟩
      have sx2 : SameX st H1 (upd (upd H1 st (.lst [.int s2, .int t2])) st (.lst [.int s3, .int t3])) := SameX.put.trans SameX.put
      have est2 : (upd (upd H1 st (.lst [.int s2, .int t2])) st (.lst [.int s3, .int t3])) st = some (.lst [.int s3, .int t3]) := upd_same
      generalize upd (upd H1 st (.lst [.int s2, .int t2])) st (.lst [.int s3, .int t3]) = H2 at *
      obtain ⟨n, rfl⟩ : ∃ n : Nat, k = (n : Int) := ⟨k.toNat, by omega⟩
      have hv : VB ((List.range (1 + n)).map fun _ => 2 + m) ((List.range n).map fun i => ((i, i + 1, 1) : PwE)) [] := by
        have hm : m = 0 ∨ m = 1 := by omega
        have hn : n = 0 ∨ n = 1 ∨ (n = 2 ∧ m = 0) := by omega
        rcases hn with rfl | rfl | ⟨rfl, rfl⟩
        · rcases hm with rfl | rfl <;> decide
        · rcases hm with rfl | rfl <;> decide
        · decide
      refine ⟨_, rfl, _, rfl, by omega, by omega, fun D nD => ?_⟩
      rw [show (1 + (n : Int)).toNat = 1 + n by omega]
      refine lc_rep (walk_range (lo := 0) (n := 1 + n)) st_RI (fun _ => 2 + m) (by omega) nD (fun _ _ => trivial) (fun i x H3 H4 Q2 hi sm hY q2 => ?_) (fun H3 acc s3' eD hP => ?_)
      · obtain ⟨rfl, rfl⟩ := hY
        exact ⟨rfl, _, rfl, q2 _ _ (Same.refl _) rfl⟩
      have e := ints_of hP
      subst e
      refine ⟨_, rfl, _, _, rfl, rfl, _, rfl, by omega, by omega, fun D2 nD2 => ?_⟩
      rw [show (1 + (n : Int) - 1).toNat = n by omega]
      refine lc_rep (walk_range (lo := 0) (n := n)) (st_R3 (K := K)) (fun i => i) (by omega) nD2 (fun _ _ => trivial) (fun i x H4 H5 Q2 hi sm hY q2 => ?_) (fun H4 acc2 s4' eD2 hP2 => ?_)
      · obtain ⟨rfl, rfl⟩ := hY
        refine ⟨rfl, _, rfl, _, rfl, _, _, rfl, rfl, by show 3 ≤ sizeLine; decide, fun u nu => ?_⟩
        exact q2 _ _ (same_new nu) ⟨u, rfl, .inl (.inl (by rw [upd_same, Int.zero_add]; show some (HO.tup [V.int (0 + (i : Int)), V.int ((i : Int) + 1), V.int 1]) = _; rw [Int.zero_add]))⟩
      rw [List.map_id'] at hP2
      refine ⟨Nat.zero_le _, fun l1 n1 => ?_⟩
      have s1' := same_new (o := .lst []) n1
      have s34 := s3'.trans (s4'.trans s1')
      exact made_use (E := E0) (has_of_ints ((s4'.trans s1') _ _ eD)) (has_R3 (s1' _ _ eD2) (st_R3.all s1' hP2)) (has_nil upd_same) hv fun z H' s h => q z _ _ _ H' (sx2.trans (Same.x (s34.trans s))) ⟨_, _, (s34.trans s) _ _ est2⟩ hv h
    · unfold tNext tSeq tAsg tOp
      dsimp only
      refine EvD.use (K := K) (t := .lst [.tup [.int 2, .int 3, .int 2], .tup [.int 2, .int 5, .int 4], .tup [.int 3, .int 7, .int 2], .tup [.int 2, .int 7, .int 6], .tup [.int 5, .int 11, .int 3]]) (te := tLst _) (by (repeat' (first | exact ed_int | exact ed_nil | exact ed_var rfl | refine ed_cons ?_ ?_ | refine ed_tup ?_ (Nat.le_of_ble_eq_true rfl) | refine ed_lst ?_ (Nat.le_of_ble_eq_true rfl)))) fun v H2 s2 hv => ?_
      refine ⟨_, rfl, st, _, s1, t1, rfl, by decide, by decide, s2 _ _ est1, fun m s3 t3 hm0 hm1 => ?_⟩
      obtain ⟨l, us, rfl, el, hul, hug⟩ := has_lst hv
      have hls : l ≠ st := fun e => by
        rw [e, s2 _ _ est1] at el
        cases el
        cases hul
      have tp3 : Tps K H2 (upd H2 st (.lst [.int s3, .int t3])) := Tps.x SameX.put (s2 _ _ est1)
      have sx3 : SameX st H1 (upd H2 st (.lst [.int s3, .int t3])) := (Same.x s2).trans SameX.put
      have el3 : (upd H2 st (.lst [.int s3, .int t3])) l = some (.lst us) := by rw [upd_ne hls]; exact el
      have est3 : (upd H2 st (.lst [.int s3, .int t3])) st = some (.lst [.int s3, .int t3]) := upd_same
      generalize upd H2 st (.lst [.int s3, .int t3]) = H3 at *
      obtain ⟨n, rfl⟩ : ∃ n : Nat, m = (n : Int) := ⟨m.toNat, by omega⟩
      obtain ⟨u, eu⟩ : ∃ u, us[n]? = some u := ⟨_, List.getElem?_eq_getElem (by rw [hul]; show n < 5; omega)⟩
      obtain ⟨p, r, mm, ht, hb⟩ : ∃ p r mm, Has K H2 u (.tup [.int p, .int r, .int mm]) ∧ VB [p, r] [] [(0, 1, [(1, mm)])] := by
        rcases (by omega : n = 0 ∨ n = 1 ∨ n = 2 ∨ n = 3 ∨ n = 4) with rfl | rfl | rfl | rfl | rfl
        · exact ⟨_, _, _, hug 0 u _ eu rfl, by decide⟩
        · exact ⟨_, _, _, hug 1 u _ eu rfl, by decide⟩
        · exact ⟨_, _, _, hug 2 u _ eu rfl, by decide⟩
        · exact ⟨_, _, _, hug 3 u _ eu rfl, by decide⟩
        · exact ⟨_, _, _, hug 4 u _ eu rfl, by decide⟩
      obtain ⟨t, x, y, z, rfl, hS, h1, h2, h3⟩ := has_tup3 ht
      have e1 := has_int h1
      have e2 := has_int h2
      have e3 := has_int h3
      subst e1 e2 e3
      refine ⟨l, us, (n : Int), _, rfl, rfl, .inl (.inl el3), atI_nat eu, t, _, rfl, tp3 _ _ hS, rfl, _, _, rfl, _, _, rfl, _, [], rfl, rfl, ?_⟩
      unfold tRet
      dsimp only
      exact made_call (by (repeat' (first | exact ed_int | exact ed_nil | exact ed_var rfl | refine ed_cons ?_ ?_ | refine ed_tup ?_ (Nat.le_of_ble_eq_true rfl) | refine ed_lst ?_ (Nat.le_of_ble_eq_true rfl)))) hb fun z H' s h => q z _ _ _ H' (sx3.trans (Same.x s)) ⟨_, _, s _ _ est3⟩ hb h
/-! ### _law_beside -/
/-- a comprehension over a tuple -/
theorem lc_tupmap {α β : Type} [Inhabited β] {a : Addr} {us : List V} {xs : List α} {R1 : Hp → V → α → Prop} {R2 : Hp → V → β → Prop} (S : Stable R2) (f : α → β) {g : TG} {te : TE} {vs : List Nat} {σ : L2.St} {H1 : Hp} {D : Addr} {Qd : Hp → Prop} (hl : xs.length ≤ 100000) (ha : SqT K H1 a us) (hp : Paired (R1 H1) us xs) (nD : H1 D = none)
    (hs : ∀ v y H (Q : VK), y ∈ xs → Same H1 H → R1 H1 v y → (∀ z H4, Same H H4 → R2 H4 z (f y) → Q z H4) → g v (wipe σ vs) H fun σ2 H2 => wipe σ2 vs = wipe σ vs ∧ te σ2 H2 Q)
    (hd : ∀ H acc, Same H1 H → H D = some (.lst acc) → Paired (R2 H) acc (xs.map f) → Qd H) :
    ∃ W : Nat → Nat → Hp → Prop, (∃ m, W 0 m (upd H1 D (.lst []))) ∧ ∀ i m H, W i m H →
      ((Itt K a).stop i H ∧ Qd H) ∨ ((Itt K a).go i H ∧ ∃ Nx : Hp → Prop, (∀ H', Nx H' → ∃ m', m' < m ∧ W (i + 1) m' H') ∧ ∀ x H', (Itt K a).yld i H x H' → g x (wipe σ vs) H' fun σ2 H2 => wipe σ2 vs = wipe σ vs ∧ tYes σ2 H2 fun b H3 =>
        if b = true then te σ2 H3 fun y H4 => ∃ acc, H4 D = some (.lst acc) ∧ acc.length < sizeLine ∧ Nx (upd H4 D (.lst (acc ++ [y]))) else Nx H3) := by
  have hul := Paired.length hp
  refine lc_rep (walk_tup (xs := us)) S (fun i => (xs.map f).getD i default) (by omega) nD (fun H s => Own.same_tup s ha) (fun i x H H' Q hi sm hY q2 => ?_) (fun H acc sm eD hP => ?_)
  · obtain ⟨rfl, h1⟩ := hY
    obtain ⟨y, ey, hy⟩ := paired_get hp h1
    refine hs x y _ Q (List.mem_of_getElem? ey) sm hy fun z H4 s4 h4 => q2 z H4 s4 ?_
    rw [getD_some (show (xs.map f)[i]? = some (f y) by rw [List.getElem?_map, ey]; rfl)]
    exact h4
  · refine hd H acc sm eD ?_
    have e : (List.range us.length).map (fun i => (xs.map f).getD i default) = xs.map f := by
      rw [hul, ← List.length_map (as := xs) f]
      exact map_range _ _ fun i x e => getD_some e
    rw [← e]
    exact hP
def besT (t1 t2 : Tb) : Tb := ⟨t1.ps ++ t2.ps, t1.pw.map (· ++ zeroR t2.ps.length) ++ t2.pw.map (zeroR t1.ps.length ++ ·), t1.cj.map (fun M => M.map (· ++ zeroR t2.ps.length) ++ (List.range t2.ps.length).map fun j => zeroR t1.ps.length ++ unitR t2.ps.length j) ++ t2.cj.map fun M => M.map (zeroR t1.ps.length ++ ·)⟩
theorem zeroR_len {n : Nat} : (zeroR n).length = n := List.length_replicate
theorem bl_app {p1 p2 r1 r2 : List Int} (h1 : Bl p1 r1) (h2 : Bl p2 r2) : Bl (p1 ++ p2) (r1 ++ r2) := ⟨by rw [List.length_append, List.length_append, h1.1, h2.1], fun k hk => by
  rw [List.length_append] at hk
  rcases Nat.lt_or_ge k p1.length with c | c
  · rw [atR_app1 (by rw [h1.1]; exact c), atR_app1 c]
    exact h1.2 k c
  · rw [atR_app2 (by rw [h1.1]; exact c), atR_app2 c, h1.1]
    exact h2.2 _ (by omega)⟩
theorem zb_app1 {r : List Int} {n k : Nat} (h : Zb r k) : Zb (r ++ zeroR n) k := fun i hi => by
  rcases Nat.lt_or_ge i r.length with c | c
  · rw [atR_app1 c]
    exact h i hi
  · rw [atR_app2 c, atR_zero]
theorem zb_app2 {r : List Int} {n k : Nat} (h : Zb r k) : Zb (zeroR n ++ r) (n + k) := fun i hi => by
  rcases Nat.lt_or_ge i n with c | c
  · rw [atR_app1 (by rw [zeroR_len]; exact c), atR_zero]
  · rw [atR_app2 (by rw [zeroR_len]; exact c), zeroR_len]
    exact h _ (by omega)
theorem vd_bes {t1 t2 : Tb} (h1 : Vd t1) (h2 : Vd t2) (hn : t1.ps.length + t2.ps.length ≤ 10) (hs : prodN t1.ps * prodN t2.ps ≤ 1000) : Vd (besT t1 t2) := by
  have p1 : ∀ p ∈ t1.ps, 2 ≤ p := fun p h => (pr31_in (h1.pr p h)).1
  have p2 : ∀ p ∈ t2.ps, 2 ≤ p := fun p h => (pr31_in (h2.pr p h)).1
  have z1 := bl_zero p1
  have z2 := bl_zero p2
  refine ⟨fun p hp => ?_, ?_, ?_, ?_, fun i r e => ?_, ?_, fun i M e => ?_⟩
  · rcases List.mem_append.mp hp with h | h
    · exact h1.pr p h
    · exact h2.pr p h
  · show (t1.ps ++ t2.ps).length ≤ 10
    rw [List.length_append]
    exact hn
  · show prodN (t1.ps ++ t2.ps) ≤ 1000
    rw [prodN_app]
    exact hs
  · show (t1.pw.map _ ++ t2.pw.map _).length = (t1.ps ++ t2.ps).length
    rw [List.length_append, List.length_append, List.length_map, List.length_map, h1.pwl, h2.pwl]
  · have e : (t1.pw.map (· ++ zeroR t2.ps.length) ++ t2.pw.map (zeroR t1.ps.length ++ ·))[i]? = some r := e
    show Bl (t1.ps ++ t2.ps) r ∧ _
    have hl : (t1.pw.map (· ++ zeroR t2.ps.length)).length = t1.ps.length := by rw [List.length_map, h1.pwl]
    rcases Nat.lt_or_ge i t1.ps.length with c | c
    · rw [List.getElem?_append_left (by omega), List.getElem?_map] at e
      cases hx : t1.pw[i]? with
      | none => rw [hx] at e; cases e
      | some x =>
        rw [hx] at e
        cases e
        obtain ⟨a, b⟩ := h1.pwr i x hx
        exact ⟨bl_app a z2, zb_app1 b⟩
    · rw [List.getElem?_append_right (by omega), List.getElem?_map, hl] at e
      cases hx : t2.pw[i - t1.ps.length]? with
      | none => rw [hx] at e; cases e
      | some x =>
        rw [hx] at e
        cases e
        obtain ⟨a, b⟩ := h2.pwr _ x hx
        have := zb_app2 (n := t1.ps.length) b
        rw [show t1.ps.length + (i - t1.ps.length + 1) = i + 1 by omega] at this
        exact ⟨bl_app z1 a, this⟩
  · show (t1.cj.map _ ++ t2.cj.map _).length = (t1.ps ++ t2.ps).length
    rw [List.length_append, List.length_append, List.length_map, List.length_map, h1.cjl, h2.cjl]
  · have e : (t1.cj.map (fun M => M.map (· ++ zeroR t2.ps.length) ++ (List.range t2.ps.length).map fun j => zeroR t1.ps.length ++ unitR t2.ps.length j) ++ t2.cj.map fun M => M.map (zeroR t1.ps.length ++ ·))[i]? = some M := e
    show M.length = (t1.ps ++ t2.ps).length - (i + 1) ∧ ∀ r ∈ M, Bl (t1.ps ++ t2.ps) r ∧ _
    rw [List.length_append]
    have hl : (t1.cj.map (fun M => M.map (· ++ zeroR t2.ps.length) ++ (List.range t2.ps.length).map fun j => zeroR t1.ps.length ++ unitR t2.ps.length j)).length = t1.ps.length := by rw [List.length_map, h1.cjl]
    rcases Nat.lt_or_ge i t1.ps.length with c | c
    · rw [List.getElem?_append_left (by omega), List.getElem?_map] at e
      cases hx : t1.cj[i]? with
      | none => rw [hx] at e; cases e
      | some N =>
        rw [hx] at e
        cases e
        obtain ⟨a, b⟩ := h1.cjr i N hx
        refine ⟨by rw [List.length_append, List.length_map, List.length_map, List.length_range, a]; omega, fun r hr => ?_⟩
        rcases List.mem_append.mp hr with hr | hr
        · obtain ⟨r0, hr0, rfl⟩ := List.mem_map.mp hr
          exact ⟨bl_app (b r0 hr0).1 z2, zb_app1 (b r0 hr0).2⟩
        · obtain ⟨j, hj, rfl⟩ := List.mem_map.mp hr
          have hj := List.mem_range.mp hj
          have g := bl_unit h2 hj
          have := zb_app2 (n := t1.ps.length) (r := unitR t2.ps.length j) (k := 0) fun i hi => absurd hi (Nat.not_lt_zero i)
          exact ⟨bl_app z1 g.bl, fun a ha => this a (by omega)⟩
    · rw [List.getElem?_append_right (by omega), List.getElem?_map, hl] at e
      cases hx : t2.cj[i - t1.ps.length]? with
      | none => rw [hx] at e; cases e
      | some N =>
        rw [hx] at e
        cases e
        obtain ⟨a, b⟩ := h2.cjr _ N hx
        refine ⟨by rw [List.length_map, a]; omega, fun r hr => ?_⟩
        obtain ⟨r0, hr0, rfl⟩ := List.mem_map.mp hr
        have := zb_app2 (n := t1.ps.length) (b r0 hr0).2
        rw [show t1.ps.length + (i - t1.ps.length + 1) = i + 1 by omega] at this
        exact ⟨bl_app z1 (b r0 hr0).1, this⟩
theorem vd_len {t : Tb} (h : Vd t) {r : List Int} (hr : r ∈ t.pw) : r.length = t.ps.length := by
  obtain ⟨i, hi⟩ := List.mem_iff_getElem?.mp hr
  exact (h.pwr i r hi).1.1
theorem vd_len2 {t : Tb} (h : Vd t) {M : List (List Int)} {r : List Int} (hM : M ∈ t.cj) (hr : r ∈ M) : r.length = t.ps.length := by
  obtain ⟨i, hi⟩ := List.mem_iff_getElem?.mp hM
  exact ((h.cjr i M hi).2 r hr).1.1
theorem vd_len3 {t : Tb} (h : Vd t) {M : List (List Int)} (hM : M ∈ t.cj) : M.length ≤ 10 := by
  obtain ⟨i, hi⟩ := List.mem_iff_getElem?.mp hM
  have := (h.cjr i M hi).1
  have := h.n10
  omega
def spBeside (K : PySem.W.Frag) : Sp := fun vs H Q _ => ∃ (z1 z2 : V) (t1 t2 : Tb), vs = [z1, z2] ∧ TbAt K H z1 t1 ∧ Vd t1 ∧ TbAt K H z2 t2 ∧ Vd t2 ∧ ∀ z H', Same H H' → TbAt K H' z (besT t1 t2) → Q z H'
theorem ok_beside (T : Txt K mg) : FnOk P w K mg base CX0 1 T.a__law_beside T.d__law_beside ["one", "two"] (spBeside K) := by
  refine T.F__law_beside.ok sc__law_beside (fun vs H Q E h => ?_) (fun cdv A outer s H vs Q E hr h => ?_)
  · obtain ⟨z1, z2, t1, t2, rfl, _⟩ := h
    rfl
  · obtain ⟨z1, z2, t1, t2, rfl, hT1, hV1, hT2, hV2, q⟩ := h
    refine ⟨_, (pss_cons (ps_asg (pe_tup (pa_cons (pe_callB call_len_seq (by rfl) T.n_len (by decide +kernel) (pa_cons (pe_ix (show IxR _ (rIxT K) from ix_tup) (pv 0) pe_int (fun _ _ => rfl)) pa_nil)) (pa_cons (pe_callB call_len_seq (by rfl) T.n_len (by decide +kernel) (pa_cons (pe_ix (show IxR _ (rIxT K) from ix_tup) (pv 1) pe_int (fun _ _ => rfl)) pa_nil)) pa_nil))) (pg_tup rfl (pgs_cons (pg_name (i := 2) sc__law_beside.nd rfl (.inl rfl)) (pgs_cons (pg_name (i := 3) sc__law_beside.nd rfl (.inr rfl)) pgs_nil)))) 
    (pss_cons (ps_set (i := 4) sc__law_beside.nd rfl (.inr rfl) (pe_callTy (show CallR _ (.type "tuple") (rTupL K) from call_tupL) (by rfl) T.n_tuple (by decide +kernel) (pa_cons (pe_lc (own := [("k", 10)]) rfl sc__law_beside.nd (pi_range1 (by rfl) T.n_range (pa_cons (pv 2) pa_nil)) (blkOk_by (N := N__law_beside) (sc := defScope s__law_beside) (own := [("k", 10)]) (by decide +kernel)) (fun _ _ _ _ _ => (pg_name (i := 10) sc__law_beside.nd rfl (.inl rfl))) (fun _ _ _ _ _ => pts_nil) (fun _ _ _ _ _ => pe_int)) pa_nil))) 
    (pss_cons (ps_set (i := 5) sc__law_beside.nd rfl (.inr rfl) (pe_callTy (show CallR _ (.type "tuple") (rTupL K) from call_tupL) (by rfl) T.n_tuple (by decide +kernel) (pa_cons (pe_lc (own := [("k", 10)]) rfl sc__law_beside.nd (pi_range1 (by rfl) T.n_range (pa_cons (pv 3) pa_nil)) (blkOk_by (N := N__law_beside) (sc := defScope s__law_beside) (own := [("k", 10)]) (by decide +kernel)) (fun _ _ _ _ _ => (pg_name (i := 10) sc__law_beside.nd rfl (.inl rfl))) (fun _ _ _ _ _ => pts_nil) (fun _ _ _ _ _ => pe_int)) pa_nil))) 
    (pss_cons (ps_set (i := 6) sc__law_beside.nd rfl (.inl rfl) (pe_callTy (show CallR _ (.type "tuple") (rTupL K) from call_tupL) (by rfl) T.n_tuple (by decide +kernel) (pa_cons (pe_op op_cat (pe_lc (own := [("row", 12)]) rfl sc__law_beside.nd (pi_tup (pe_ix (show IxR _ (rIxT K) from ix_tup) (pv 0) pe_int (fun _ _ => rfl))) (blkOk_by (N := N__law_beside) (sc := defScope s__law_beside) (own := [("row", 12)]) (by decide +kernel)) (fun _ _ _ _ _ => (pg_name (i := 12) sc__law_beside.nd rfl (.inl rfl))) (fun _ _ _ _ _ => pts_nil) (fun _ _ _ _ _ => (pe_op (show OpR _ _ (rCatA K) from op_catA) (pv 12) (pv 5)))) (pe_lc (own := [("row", 12)]) rfl sc__law_beside.nd (pi_tup (pe_ix (show IxR _ (rIxT K) from ix_tup) (pv 1) pe_int (fun _ _ => rfl))) (blkOk_by (N := N__law_beside) (sc := defScope s__law_beside) (own := [("row", 12)]) (by decide +kernel)) (fun _ _ _ _ _ => (pg_name (i := 12) sc__law_beside.nd rfl (.inl rfl))) (fun _ _ _ _ _ => pts_nil) (fun _ _ _ _ _ => (pe_op (show OpR _ _ (rCatA K) from op_catA) (pv 4) (pv 12))))) pa_nil))) 
    (pss_cons (ps_set (i := 7) sc__law_beside.nd rfl (.inl rfl) (pe_lst pa_nil)) 
    (pss_cons (ps_for PassesOwn.never rfl (pi_range1 (by rfl) T.n_range (pa_cons (pv 2) pa_nil)) (pg_name (i := 8) sc__law_beside.nd rfl (.inl rfl)) 
      (pss_cons (ps_setLc (i := 9) (own := [("j", 11)]) rfl sc__law_beside.nd rfl rfl (sw_true rfl rfl rfl (by decide +kernel)) (pi_range1 (by rfl) T.n_range (pa_cons (pv 3) pa_nil)) (blkOk_by (N := N__law_beside) (sc := defScope s__law_beside) (own := [("j", 11)]) (by decide +kernel)) (fun _ _ _ _ _ => (pg_name (i := 11) sc__law_beside.nd rfl (.inr rfl))) (fun _ _ _ _ _ => pts_nil) (fun _ _ _ _ _ => (pe_op (show OpR _ _ (rCatA K) from op_catA) (pv 4) (pe_callTy (show CallR _ (.type "tuple") (rTupL K) from call_tupL) (by rfl) T.n_tuple (by decide +kernel) (pa_cons (pe_lc (own := [("k", 10)]) rfl sc__law_beside.nd (pi_range1 (by rfl) T.n_range (pa_cons (pv 3) pa_nil)) (blkOk_by (N := N__law_beside) (own := [("k", 10)]) (by rfl)) (fun _ _ _ _ _ => (pg_name (i := 10) sc__law_beside.nd rfl (.inl rfl))) (fun _ _ _ _ _ => pts_nil) (fun _ _ _ _ _ => (pe_callTy call_int1 (by rfl) T.n_int (by decide +kernel) (pa_cons (pe_cmpR op_eq (pv 10) (pv 11) (nomark _)) pa_nil)))) pa_nil))))) 
      (pss_one (ps_expr (pe_bm PySem.F.plainAttrs_list PySem.F.slot_list_append PySem.F.type_list_append mt_append (pv 7) (pa_cons (pe_callTy (show CallR _ (.type "tuple") (rTupL K) from call_tupL) (by rfl) T.n_tuple (by decide +kernel) (pa_cons (pe_op op_cat (pe_lc (own := [("row", 12)]) rfl sc__law_beside.nd (pi_tup (pe_ix (show IxR _ (rIxT K) from ix_tup) (pe_ix (show IxR _ (rIxT K) from ix_tup) (pv 0) pe_int (fun _ _ => rfl)) (pv 8) (fun _ _ => rfl))) (blkOk_by (N := N__law_beside) (sc := defScope s__law_beside) (own := [("row", 12)]) (by decide +kernel)) (fun _ _ _ _ _ => (pg_name (i := 12) sc__law_beside.nd rfl (.inl rfl))) (fun _ _ _ _ _ => pts_nil) (fun _ _ _ _ _ => (pe_op (show OpR _ _ (rCatA K) from op_catA) (pv 12) (pv 5)))) (pv 9)) pa_nil)) pa_nil)))))) 
    (pss_one (ps_ret (pe_tup (pa_cons (pe_op (show OpR _ _ (rCatA K) from op_catA) (pe_ix (show IxR _ (rIxT K) from ix_tup) (pv 0) pe_int (fun _ _ => rfl)) (pe_ix (show IxR _ (rIxT K) from ix_tup) (pv 1) pe_int (fun _ _ => rfl))) (pa_cons (pv 6) (pa_cons (pe_callTy (show CallR _ (.type "tuple") (rTupL K) from call_tupL) (by rfl) T.n_tuple (by decide +kernel) (pa_cons (pe_op op_cat (pv 7) (pe_lc (own := [("part", 13)]) rfl sc__law_beside.nd (pi_tup (pe_ix (show IxR _ (rIxT K) from ix_tup) (pv 1) pe_int (fun _ _ => rfl))) (blkOk_by (N := N__law_beside) (sc := defScope s__law_beside) (own := [("part", 13)]) (by decide +kernel)) (fun _ _ _ _ _ => (pg_name (i := 13) sc__law_beside.nd rfl (.inl rfl))) (fun _ _ _ _ _ => pts_nil) (fun _ _ _ _ _ => (pe_callTy (show CallR _ (.type "tuple") (rTupL K) from call_tupL) (by rfl) T.n_tuple (by decide +kernel) (pa_cons (pe_lc (own := [("row", 12)]) rfl sc__law_beside.nd (show PI _ _ _ (iTup K _) from pi_tup (pv 13)) (blkOk_by (N := N__law_beside) (own := [("row", 12)]) (by rfl)) (fun _ _ _ _ _ => (pg_name (i := 12) sc__law_beside.nd rfl (.inl rfl))) (fun _ _ _ _ _ => pts_nil) (fun _ _ _ _ _ => (pe_op (show OpR _ _ (rCatA K) from op_catA) (pv 4) (pv 12)))) pa_nil))))) pa_nil)) pa_nil)))))))))))), ?_⟩
    have hn1 := hV1.n10
    have hn2 := hV2.n10
    obtain ⟨x1, a1, b1, c1, us1, vs1, rfl, hSx1, hSa1, hSb1, hPw1, hSc1, hPc1⟩ := hT1.rd
    obtain ⟨x2, a2, b2, c2, us2, vs2, rfl, hSx2, hSa2, hSb2, hPw2, hSc2, hPc2⟩ := hT2.rd
    refine ⟨_, rfl, x1, _, 0, _, rfl, rfl, hSx1, atI_nat (j := 0) rfl, a1, _, rfl, .inr hSa1, _, rfl, x2, _, 0, _, rfl, rfl, hSx2, atI_nat (j := 0) rfl, a2, _, rfl, .inr hSa2, by show 2 ≤ sizeLine; decide, fun up nup => ?_⟩
    rw [List.length_map, List.length_map]
    generalize hN : t1.ps.length = n at *
    generalize hM : t2.ps.length = m at *
    have s00 := same_new (o := .tup [.int (n : Int), .int (m : Int)]) nup
    have hup : SqT K (upd H up (.tup [.int (n : Int), .int (m : Int)])) up [.int (n : Int), .int (m : Int)] := .inl (.inl upd_same)
    replace hSx1 := Own.same_tup s00 hSx1
    replace hSx2 := Own.same_tup s00 hSx2
    replace hSa1 := Own.same_tup s00 hSa1
    replace hSa2 := Own.same_tup s00 hSa2
    replace hSb1 := Own.same_tup s00 hSb1
    replace hSb2 := Own.same_tup s00 hSb2
    replace hSc1 := Own.same_tup s00 hSc1
    replace hSc2 := Own.same_tup s00 hSc2
    replace hPw1 := paired_via (fun _ _ => rs_tps (Tps.of s00)) hPw1
    replace hPw2 := paired_via (fun _ _ => rs_tps (Tps.of s00)) hPw2
    replace hPc1 := paired_via (fun _ _ => tup1_tps (Tps.of s00)) hPc1
    replace hPc2 := paired_via (fun _ _ => tup1_tps (Tps.of s00)) hPc2
    clear hT1 hT2
    generalize upd H up (.tup [.int (n : Int), .int (m : Int)]) = H0 at *
    refine ⟨up, _, rfl, hup, rfl, _, _, rfl, _, [], rfl, rfl, ?_⟩
    -- first, last
    refine ⟨_, rfl, (n : Int), rfl, by omega, by omega, fun D nD => ?_⟩
    refine lc_rep (walk_range (lo := 0) (n := n)) st_RI (fun _ => 0) (by omega) nD (fun _ _ => trivial) (fun i x H3 H4 Q2 hi sm hY q2 => ?_) (fun H1 acc s1 eD hP => ?_)
    · obtain ⟨rfl, rfl⟩ := hY
      exact ⟨rfl, q2 _ _ (Same.refl _) rfl⟩
    have e := ints_of hP
    rw [range_zero] at e
    subst e
    refine ⟨D, _, rfl, .inl (.inl eD), fun fo obfo nf hobfo => ?_⟩
    have s2 := s1.trans (same_new (o := .frz obfo (.tup ((zeroR n).map V.int))) nf)
    have hfo : SqT K (upd H1 fo (.frz obfo (.tup ((zeroR n).map V.int)))) fo ((zeroR n).map V.int) := .inl (.inr ⟨_, upd_same⟩)
    generalize upd H1 fo (.frz obfo (.tup ((zeroR n).map V.int))) = H2 at *
    clear eD nD nf s1 hP
    refine ⟨_, rfl, (m : Int), rfl, by omega, by omega, fun D nD => ?_⟩
    refine lc_rep (walk_range (lo := 0) (n := m)) st_RI (fun _ => 0) (by omega) nD (fun _ _ => trivial) (fun i x H3 H4 Q2 hi sm hY q2 => ?_) (fun H3 acc s3 eD hP => ?_)
    · obtain ⟨rfl, rfl⟩ := hY
      exact ⟨rfl, q2 _ _ (Same.refl _) rfl⟩
    have e := ints_of hP
    rw [range_zero] at e
    subst e
    refine ⟨D, _, rfl, .inl (.inl eD), fun la obla nla hobla => ?_⟩
    have s24 := s3.trans (same_new (o := .frz obla (.tup ((zeroR m).map V.int))) nla)
    have hla : SqT K (upd H3 la (.frz obla (.tup ((zeroR m).map V.int)))) la ((zeroR m).map V.int) := .inl (.inr ⟨_, upd_same⟩)
    have hfo := Own.same_tup s24 hfo
    have s4 := s2.trans s24
    generalize upd H3 la (.frz obla (.tup ((zeroR m).map V.int))) = H4 at *
    clear eD nD nla s3 hP s2 s24
    have hzl : ((zeroR n).map V.int).length = n := by rw [List.length_map, zeroR_len]
    have hzm : ((zeroR m).map V.int).length = m := by rw [List.length_map, zeroR_len]
    -- powers
    refine ⟨_, rfl, x1, _, 1, _, rfl, rfl, Own.same_tup s4 hSx1, atI_nat (j := 1) rfl, b1, rfl, ⟨_, Own.same_tup s4 hSb1⟩, fun D nD => ?_⟩
    refine lc_tupmap (st_RS (K := K)) (R1 := RS K) (xs := t1.pw) (· ++ zeroR m) (by rw [hV1.pwl]; omega) (Own.same_tup s4 hSb1) (paired_via (fun _ _ => rs_tps (Tps.of s4)) hPw1) nD (fun v y H5 Q2 hy s5 hR q2 => ?_) (fun H5 accA s5 eD hP => ?_)
    · obtain ⟨t, rfl, hS⟩ := hR
      refine ⟨rfl, _, rfl, _, rfl, catA_q (Own.same_tup s5 hS) (Own.same_tup s5 hla) (by rw [hzm, List.length_map, vd_len hV1 hy]; omega) fun u H6 s6 h6 => q2 _ _ s6 ⟨u, rfl, by rw [List.map_append]; exact h6⟩⟩
    have s45 := s4.trans s5
    refine ⟨_, rfl, x2, _, 1, _, rfl, rfl, Own.same_tup s45 hSx2, atI_nat (j := 1) rfl, b2, rfl, ⟨_, Own.same_tup s45 hSb2⟩, fun D2 nD2 => ?_⟩
    refine lc_tupmap (st_RS (K := K)) (R1 := RS K) (xs := t2.pw) (zeroR n ++ ·) (by rw [hV2.pwl]; omega) (Own.same_tup s45 hSb2) (paired_via (fun _ _ => rs_tps (Tps.of s45)) hPw2) nD2 (fun v y H6 Q2 hy s6 hR q2 => ?_) (fun H6 accB s6 eD2 hP2 => ?_)
    · obtain ⟨t, rfl, hS⟩ := hR
      refine ⟨rfl, _, rfl, _, rfl, catA_q (Own.same_tup (s5.trans s6) hfo) (Own.same_tup s6 hS) (by rw [hzl, List.length_map, vd_len hV2 hy]; omega) fun u H7 s7 h7 => q2 _ _ s7 ⟨u, rfl, by rw [List.map_append]; exact h7⟩⟩
    have hl1 : accA.length = n := by rw [Paired.length hP, List.length_map, hV1.pwl, hN]
    have hl2 : accB.length = m := by rw [Paired.length hP2, List.length_map, hV2.pwl, hM]
    refine ⟨D, D2, accA, accB, rfl, rfl, s6 _ _ eD, eD2, Nat.le_of_lt (small2000 (by omega)), fun pl npl => ⟨pl, _, rfl, .inl (.inl upd_same), fun pw ob npw hob => ?_⟩⟩
    have s67 := (same_new (o := .lst (accA ++ accB)) npl).trans (same_new (o := .frz ob (.tup (accA ++ accB))) npw)
    have hpw : SqT K (upd (upd H6 pl (.lst (accA ++ accB))) pw (.frz ob (.tup (accA ++ accB)))) pw (accA ++ accB) := .inl (.inr ⟨_, upd_same⟩)
    have hPW := paired_via (fun _ _ => rs_tps (Tps.of s67)) (paired_app (paired_via (fun _ _ => rs_tps (Tps.of s6)) hP) hP2)
    have s47 := (s5.trans s6).trans s67
    generalize upd (upd H6 pl (.lst (accA ++ accB))) pw (.frz ob (.tup (accA ++ accB))) = H7 at *
    replace hfo := Own.same_tup s47 hfo
    replace hla := Own.same_tup s47 hla
    have s07 := s4.trans s47
    replace hSx1 := Own.same_tup s07 hSx1
    replace hSx2 := Own.same_tup s07 hSx2
    replace hSa1 := Own.same_tup s07 hSa1
    replace hSa2 := Own.same_tup s07 hSa2
    replace hSc1 := Own.same_tup s07 hSc1
    replace hSc2 := Own.same_tup s07 hSc2
    replace hPc1 := paired_via (fun _ _ => tup1_tps (Tps.of s07)) hPc1
    replace hPc2 := paired_via (fun _ _ => tup1_tps (Tps.of s07)) hPc2
    have sH7 := s00.trans s07
    clear hP hP2 eD eD2 nD nD2 npl npw s4 s5 s6 s45 s47 s67 hPw1 hPw2 hSb1 hSb2 hup s07
    -- parts
    refine ⟨Nat.zero_le _, fun pa npa => ?_⟩
    refine ⟨_, rfl, (n : Int), rfl, by omega, by omega, ?_⟩
    rw [Int.toNat_natCast]
    refine for_range (lo := 0) (n := n) (fun i σ H' => ∃ (cvs : List V) (y8 y9 : Option V), σ = [some (.ref x1), some (.ref x2), some (.int (n : Int)), some (.int (m : Int)), some (.ref fo), some (.ref la), some (.ref pw), some (.ref pa), y8, y9, none, none, none, none] ∧ Same H7 H' ∧ H' pa = some (.lst cvs) ∧ Paired (Tup1 K H') cvs ((t1.cj.take i).map fun M => M.map (· ++ zeroR m) ++ (List.range m).map fun j => zeroR n ++ unitR m j))
      ⟨[], none, none, rfl, same_new npa, upd_same, .nil⟩ ?_ ?_
    · rintro i σ H' hi ⟨cvs, y8, y9, rfl, sm, epa, hcv⟩
      rw [Int.zero_add]
      obtain ⟨M, eM⟩ : ∃ M, t1.cj[i]? = some M := ⟨_, List.getElem?_eq_getElem (by rw [hV1.cjl, hN]; exact hi)⟩
      obtain ⟨Mv, eMv, hMv⟩ := paired_get2 hPc1 eM
      have hM1 := List.mem_of_getElem? eM
      have hM10 := vd_len3 hV1 hM1
      refine ⟨_, rfl, (m : Int), rfl, by omega, by omega, fun D nD => ?_⟩
      refine lc_rep (walk_range (lo := 0) (n := m)) (st_RS (K := K)) (fun j => zeroR n ++ unitR m j) (by omega) nD (fun _ _ => trivial) (fun j x H8 H9 Q2 hj s8 hY q2 => ?_) (fun H8 more s8 eD hmore => ?_)
      · obtain ⟨rfl, rfl⟩ := hY
        refine ⟨rfl, _, rfl, _, rfl, (m : Int), rfl, by omega, by omega, fun D2 nD2 => ?_⟩
        refine lc_rep (walk_range (lo := 0) (n := m)) st_RI (fun k => if k = j then 1 else 0) (by omega) nD2 (fun _ _ => trivial) (fun k x H10 H11 Q3 hk s10 hY q3 => ?_) (fun H10 acc s10 eD2 hP => ?_)
        · obtain ⟨rfl, rfl⟩ := hY
          refine ⟨rfl, _, rfl, _, rfl, rfl, .inr ⟨_, rfl, q3 _ _ (Same.refl _) ?_⟩⟩
          show V.int (if decide (V.int ((0 : Int) + (k : Int)) = V.int ((0 : Int) + (j : Int))) = true then 1 else 0) = V.int (if k = j then 1 else 0)
          by_cases e : k = j
          · rw [if_pos e, if_pos (decide_eq_true (by rw [e]))]
          · rw [if_neg e, if_neg (fun h => e (by have := V.int.inj (of_decide_eq_true h); omega))]
        have e := ints_of hP
        subst e
        refine ⟨D2, _, rfl, .inl (.inl eD2), fun u ob nu hob => ?_⟩
        have s11 := s10.trans (same_new (o := .frz ob (.tup (((List.range m).map fun k => if k = j then (1 : Int) else 0).map V.int))) nu)
        refine catA_q (Own.same_tup ((sm.trans s8).trans s11) hfo) (.inl (.inr ⟨_, upd_same⟩)) (by rw [hzl, List.length_map, List.length_map, List.length_range]; omega) fun w H12 s12 h12 => q2 _ _ (s11.trans s12) ⟨w, rfl, by rw [List.map_append]; exact h12⟩
      have sm8 := sm.trans s8
      obtain ⟨Mt, us2, rfl, hMt, hMp⟩ := tup1_tps (Tps.of sm8) hMv
      refine ⟨_, rfl, .inl ⟨rfl, _, .inl (.inl (s8 _ _ epa))⟩, _, rfl, x1, _, 2, _, rfl, rfl, Own.same_tup sm8 hSx1, atI_nat (j := 2) rfl, _, rfl, c1, _, (i : Int), _, rfl, rfl, Own.same_tup sm8 hSc1, atI_nat eMv, Mt, rfl, ⟨_, hMt⟩, fun D3 nD3 => ?_⟩
      refine lc_tupmap (st_RS (K := K)) (R1 := RS K) (xs := M) (· ++ zeroR m) (by omega) hMt hMp nD3 (fun v y H9 Q2 hy s9 hR q2 => ?_) (fun H9 acc3 s9 eD3 hP3 => ?_)
      · obtain ⟨t, rfl, hS⟩ := hR
        refine ⟨rfl, _, rfl, _, rfl, catA_q (Own.same_tup s9 hS) (Own.same_tup (sm8.trans s9) hla) (by rw [hzm, List.length_map, vd_len2 hV1 hM1 hy]; omega) fun u H10 s10 h10 => q2 _ _ s10 ⟨u, rfl, by rw [List.map_append]; exact h10⟩⟩
      have hl3 : acc3.length = M.length := by rw [Paired.length hP3, List.length_map]
      have hl4 : more.length = m := by rw [Paired.length hmore, List.length_map, List.length_range]
      refine ⟨_, rfl, D3, D, acc3, more, rfl, rfl, eD3, s9 _ _ eD, Nat.le_of_lt (small2000 (by omega)), fun pl npl => ⟨pl, _, rfl, .inl (.inl upd_same), fun u ob nu hob => ?_⟩⟩
      have s67 := (same_new (o := .lst (acc3 ++ more)) npl).trans (same_new (o := .frz ob (.tup (acc3 ++ more))) nu)
      have s89 := (s8.trans s9).trans s67
      have hlc : cvs.length ≤ 10 := by
        have := Paired.length hcv
        rw [List.length_map, List.length_take] at this
        omega
      refine ⟨pa, _, _, rfl, rfl, s89 _ _ epa, small2000 (by omega), ?_⟩
      have hrow := paired_via (fun _ _ => rs_tps (Tps.of s67)) (paired_app hP3 (st_RS.all s9 hmore))
      have hu : SqT K (upd (upd H9 pl (.lst (acc3 ++ more))) u (.frz ob (.tup (acc3 ++ more)))) u (acc3 ++ more) := .inl (.inr ⟨_, upd_same⟩)
      have epa9 := s89 _ _ epa
      have hcv9 := paired_via (fun _ _ => tup1_tps (Tps.of s89)) hcv
      have sm9 := sm.trans s89
      generalize upd (upd H9 pl (.lst (acc3 ++ more))) u (.frz ob (.tup (acc3 ++ more))) = H10 at *
      have tp : Tps K H10 (upd H10 pa (.lst (cvs ++ [.ref u]))) := Tps.x SameX.put epa9
      refine ⟨cvs ++ [.ref u], _, _, rfl, same_mut sm9 npa, upd_same, ?_⟩
      rw [List.take_add_one, eM, List.map_append]
      exact paired_add (paired_via (fun _ _ => tup1_tps tp) hcv9) ⟨u, _, rfl, tp _ _ hu, paired_via (fun _ _ => rs_tps tp) hrow⟩
    · rintro σ H' ⟨cvs, y8, y9, rfl, sm, epa, hcv⟩
      refine ⟨_, rfl, x1, _, 0, _, rfl, rfl, Own.same_tup sm hSx1, atI_nat (j := 0) rfl, _, rfl, x2, _, 0, _, rfl, rfl, Own.same_tup sm hSx2, atI_nat (j := 0) rfl, catA_q (Own.same_tup sm hSa1) (Own.same_tup sm hSa2) (by rw [List.length_map, List.length_map]; omega) fun pt H8 s8 hpt => ?_⟩
      rw [← List.map_append] at hpt
      have sm8 := sm.trans s8
      refine ⟨_, rfl, _, rfl, _, rfl, x2, _, 2, _, rfl, rfl, Own.same_tup sm8 hSx2, atI_nat (j := 2) rfl, c2, rfl, ⟨_, Own.same_tup sm8 hSc2⟩, fun D nD => ?_⟩
      refine lc_tupmap (st_Tup1 (K := K)) (R1 := Tup1 K) (xs := t2.cj) (fun M => M.map (zeroR n ++ ·)) (by rw [hV2.cjl]; omega) (Own.same_tup sm8 hSc2) (paired_via (fun _ _ => tup1_tps (Tps.of sm8)) hPc2) nD (fun v y H9 Q2 hy s9 hR q2 => ?_) (fun H9 acc s9 eD hP => ?_)
      · obtain ⟨t, us, rfl, hS, hp⟩ := hR
        refine ⟨rfl, _, rfl, t, rfl, ⟨_, Own.same_tup s9 hS⟩, fun D2 nD2 => ?_⟩
        refine lc_tupmap (st_RS (K := K)) (R1 := RS K) (xs := y) (zeroR n ++ ·) (by have := vd_len3 hV2 hy; omega) (Own.same_tup s9 hS) (paired_via (fun _ _ => rs_tps (Tps.of s9)) hp) nD2 (fun v2 y2 H10 Q3 hy2 s10 hR2 q3 => ?_) (fun H10 acc2 s10 eD2 hP2 => ?_)
        · obtain ⟨t2', rfl, hS2⟩ := hR2
          refine ⟨rfl, _, rfl, _, rfl, catA_q (Own.same_tup ((sm8.trans s9).trans s10) hfo) (Own.same_tup s10 hS2) (by rw [hzl, List.length_map, vd_len2 hV2 hy hy2]; omega) fun u H11 s11 h11 => q3 _ _ s11 ⟨u, rfl, by rw [List.map_append]; exact h11⟩⟩
        · exact ⟨D2, _, rfl, .inl (.inl eD2), fun u ob nu hob => q2 _ _ (s10.trans (same_new nu)) ⟨u, _, rfl, .inl (.inr ⟨_, upd_same⟩), paired_via (fun _ _ => rs_tps (Tps.of (same_new nu))) hP2⟩⟩
      have hlc : cvs.length ≤ 10 := by
        have := Paired.length hcv
        rw [List.length_map, List.length_take] at this
        omega
      have hla2 : acc.length ≤ 10 := by
        have := Paired.length hP
        rw [List.length_map, hV2.cjl] at this
        omega
      refine ⟨pa, D, cvs, acc, rfl, rfl, (s8.trans s9) _ _ epa, eD, Nat.le_of_lt (small2000 (by omega)), fun pl npl => ⟨pl, _, rfl, .inl (.inl upd_same), fun u ob nu hob => ⟨by show 3 ≤ sizeLine; decide, fun o no => ?_⟩⟩⟩
      have s1' := same_new (o := .lst (cvs ++ acc)) npl
      have s2' := same_new (o := .frz ob (.tup (cvs ++ acc))) nu
      have s3' := same_new (o := .tup [.ref pt, .ref pw, .ref u]) no
      have s23 := s2'.trans s3'
      have s123 := s1'.trans s23
      have s93 := s9.trans s123
      have s83 := s8.trans s93
      have s73 := sm.trans s83
      have hcj : Paired (Tup1 K (upd (upd (upd H9 pl (.lst (cvs ++ acc))) u (.frz ob (.tup (cvs ++ acc)))) o (.tup [.ref pt, .ref pw, .ref u]))) (cvs ++ acc) (besT t1 t2).cj := by
        have e : t1.cj.take n = t1.cj := List.take_of_length_le (by rw [hV1.cjl, hN]; exact Nat.le_refl _)
        rw [e] at hcv
        have hr := paired_app (paired_via (fun _ _ => tup1_tps (Tps.of s83)) hcv) (paired_via (fun _ _ => tup1_tps (Tps.of s123)) hP)
        unfold besT
        rw [hN, hM]
        exact hr
      have hpwR : Paired (RS K (upd (upd (upd H9 pl (.lst (cvs ++ acc))) u (.frz ob (.tup (cvs ++ acc)))) o (.tup [.ref pt, .ref pw, .ref u]))) (accA ++ accB) (besT t1 t2).pw := by
        have hr := paired_via (fun _ _ => rs_tps (Tps.of s73)) hPW
        unfold besT
        rw [hN, hM]
        exact hr
      exact q (.ref o) _ (sH7.trans s73) ⟨o, pt, pw, u, cvs ++ acc, rfl, .inl (.inl upd_same), Own.same_tup s93 hpt, ⟨pw, _, rfl, Own.same_tup s73 hpw, hpwR⟩, Own.same_tup s3' (.inl (.inr ⟨_, upd_same⟩)), hcj⟩
/-! ### _law_group -/
def spGroup (K : PySem.W.Frag) : Sp := fun vs H Q _ => ∃ (st : Addr) (m : Nat), vs = [.ref st, .int (m : Int)] ∧ 6 ≤ m ∧ m ≤ 125 ∧ StA H st ∧ ∀ z t H', SameX st H H' → StA H' st → TbAt K H' z t → Vd t → prodN t.ps ≤ m → t.ps.length ≤ 5 → Q z H'
theorem ok_group (T : Txt K mg) : FnOk P w K mg base CX0 25 T.a__law_group T.d__law_group ["state", "most"] (spGroup K) := by
  have G__law_take : FnOk P w K mg base CX0 1 T.a__law_take T.d__law_take ["state", "m"] spTake := ok_take T
  have G__law_flat : FnOk P w K mg base CX0 2 T.a__law_flat T.d__law_flat ["state"] (spFlat K) := ok_flat T
  have G__law_steep : FnOk P w K mg base CX0 2 T.a__law_steep T.d__law_steep ["state", "pick"] (spSteep K) := ok_steep T
  have G__law_size : FnOk P w K mg base CX0 1 T.a__law_size T.d__law_size ["table"] (spSize K) := ok_size T
  have G__law_made : FnOk P w K mg base CX0 1 T.a__law_made T.d__law_made ["primes", "powers", "conjugates"] (spMade K) := ok_made T
  have G__law_beside : FnOk P w K mg base CX0 1 T.a__law_beside T.d__law_beside ["one", "two"] (spBeside K) := ok_beside T
  have G__law_twisted : FnOk P w K mg base CX0 24 T.a__law_twisted T.d__law_twisted ["state", "table"] (spTwist K) := ok_twist T
  refine T.F__law_group.ok sc__law_group (fun vs H Q E h => ?_) (fun cdv A outer s H vs Q E hr h => ?_)
  · obtain ⟨st, m, rfl, _⟩ := h
    rfl
  · obtain ⟨st, m, rfl, hm0, hm1, hst, q⟩ := h
    refine ⟨_, (pss_cons (ps_set (i := 2) sc__law_group.nd rfl (.inl rfl) (pe_call G__law_flat (hr.mono (by decide)) (by rfl) T.g__law_flat T.F__law_flat.kp T.b__law_flat .nil pass0 (pa_cons (pv 0) pa_nil))) 
    (C8.pss_cut (ps_if (pt_cmpR op_gt (pe_call G__law_take (hr.mono (by decide)) (by rfl) T.g__law_take T.F__law_take.kp T.b__law_take .nil pass0 (pa_cons (pv 0) (pa_cons pe_int pa_nil))) pe_int (nomark _)) 
      (pss_one (ps_set (i := 2) sc__law_group.nd rfl (.inl rfl) (pe_call G__law_steep (hr.mono (by decide)) (by rfl) T.g__law_steep T.F__law_steep.kp T.b__law_steep .nil pass0 (pa_cons (pv 0) (pa_cons (pe_call G__law_take (hr.mono (by decide)) (by rfl) T.g__law_take T.F__law_take.kp T.b__law_take .nil pass0 (pa_cons (pv 0) (pa_cons pe_int pa_nil))) pa_nil))))) pss_nil) 
    (C8.pss_cut (ps_if (pt_cmpR op_gt (pe_call G__law_size (hr.mono (by decide)) (by rfl) T.g__law_size T.F__law_size.kp T.b__law_size .nil pass0 (pa_cons (pv 2) pa_nil)) (pv 1) (nomark _)) 
      (pss_one (ps_set (i := 2) sc__law_group.nd rfl (.inl rfl) (pe_call G__law_made (hr.mono (by decide)) (by rfl) T.g__law_made T.F__law_made.kp T.b__law_made .nil pass0 (pa_cons (pe_slice sl_list (pe_lst (pa_cons pe_int (pa_cons pe_int pa_nil))) po_none (po_some (pe_op op_add pe_int (pe_call G__law_take (hr.mono (by decide)) (by rfl) T.g__law_take T.F__law_take.kp T.b__law_take .nil pass0 (pa_cons (pv 0) (pa_cons pe_int pa_nil)))))) (pa_cons (pe_lst pa_nil) (pa_cons (pe_lst pa_nil) pa_nil)))))) pss_nil) 
    (pss_cons (ps_set (i := 3) sc__law_group.nd rfl (.inl rfl) (pe_op op_add pe_int (pe_call G__law_take (hr.mono (by decide)) (by rfl) T.g__law_take T.F__law_take.kp T.b__law_take .nil pass0 (pa_cons (pv 0) (pa_cons pe_int pa_nil))))) 
    (C8.pss_cut (ps_if (PW.pt (pw_and (pt_cmpR op_eq (pe_call G__law_take (hr.mono (by decide)) (by rfl) T.g__law_take T.F__law_take.kp T.b__law_take .nil pass0 (pa_cons (pv 0) (pa_cons pe_int pa_nil))) pe_int (nomark _)) (pw_and1 (pt_cmpR op_le (pe_op op_mulW (pe_call G__law_size (hr.mono (by decide)) (by rfl) T.g__law_size T.F__law_size.kp T.b__law_size .nil pass0 (pa_cons (pv 2) pa_nil)) (pv 3)) (pv 1) (nomark _))))) 
      (pss_one (ps_set (i := 2) sc__law_group.nd rfl (.inl rfl) (pe_call G__law_beside (hr.mono (by decide)) (by rfl) T.g__law_beside T.F__law_beside.kp T.b__law_beside .nil pass0 (pa_cons (pv 2) (pa_cons (pe_call G__law_made (hr.mono (by decide)) (by rfl) T.g__law_made T.F__law_made.kp T.b__law_made .nil pass0 (pa_cons (pe_lst (pa_cons (pv 3) pa_nil)) (pa_cons (pe_lst pa_nil) (pa_cons (pe_lst pa_nil) pa_nil)))) pa_nil))))) pss_nil) 
    (pss_cons (ps_for PassesOwn.never rfl (pi_range1 (by rfl) T.n_range (pa_cons (pe_call G__law_take (hr.mono (by decide)) (by rfl) T.g__law_take T.F__law_take.kp T.b__law_take .nil pass0 (pa_cons (pv 0) (pa_cons pe_int pa_nil))) pa_nil)) (pg_name (i := 4) sc__law_group.nd rfl (.inl rfl)) 
      (pss_one (ps_set (i := 2) sc__law_group.nd rfl (.inl rfl) (pe_call G__law_twisted (hr.mono (by decide)) (by rfl) T.g__law_twisted T.F__law_twisted.kp T.b__law_twisted .nil pass0 (pa_cons (pv 0) (pa_cons (pv 2) pa_nil)))))) 
    (pss_one (ps_ret (pv 2))))))))), ?_⟩
    refine ⟨_, rfl, st, rfl, hst, fun z t H1 sx1 hst1 hT1 hS1 => ?_⟩
    refine ⟨fun σ H' => SameX st H H' ∧ StA H' st ∧ ∃ z t, TbAt K H' z t ∧ Sm t ∧ σ = [some (.ref st), some (.int (m : Int)), some z, none, none], ?_, ?_⟩
    · obtain ⟨s0, t0, e0⟩ := id hst1
      refine ⟨_, rfl, st, _, s0, t0, rfl, by decide, by decide, e0, fun v s2 t2 hv0 hv1 => ⟨_, _, rfl, rfl, _, rfl, ite2 (fun c => ?_) (fun c => ?_)⟩⟩
      · refine ⟨_, rfl, _, rfl, st, _, s2, t2, rfl, by decide, by decide, upd_same, fun pk s3 t3 hp0 hp1 => ⟨st, pk, rfl, ⟨s3, t3, upd_same⟩, fun z t H2 sx2 hst2 hT2 hS2 => ?_⟩⟩
        exact ⟨sx1.trans ((SameX.put.trans SameX.put).trans sx2), hst2, z, t, hT2, hS2, rfl⟩
      · exact ⟨sx1.trans SameX.put, ⟨s2, t2, upd_same⟩, z, t, hT1.tps (Tps.x SameX.put e0), hS1, rfl⟩
    clear hT1 hS1 sx1 hst1
    rintro σ H1 ⟨sx1, hst1, z, t, hT1, hS1, rfl⟩
    refine ⟨fun σ H' => SameX st H H' ∧ StA H' st ∧ ∃ z t, TbAt K H' z t ∧ Sm t ∧ prodN t.ps ≤ m ∧ σ = [some (.ref st), some (.int (m : Int)), some z, none, none], ?_, ?_⟩
    · have hs125 := hS1.sz
      refine ⟨_, rfl, z, t, rfl, hT1, hS1.vd.pr, by omega, _, rfl, _, _, rfl, rfl, _, rfl, ite2 (fun c => ?_) (fun c => ?_)⟩
      · obtain ⟨s0, t0, e0⟩ := hst1
        refine ⟨by show 2 ≤ sizeLine; decide, fun l nl => ?_⟩
        have hls : st ≠ l := ne_of_none e0 nl
        unfold tNoPart
        refine ⟨_, rfl, st, _, s0, t0, rfl, by decide, by decide, by rw [upd_ne hls]; exact e0, fun v s2 t2 hv0 hv1 => ⟨_, _, rfl, rfl, _, rfl, l, _, rfl, .inl (.inl (by rw [upd_ne hls.symm]; exact upd_same)), fun c2 nc => ⟨Nat.zero_le _, fun l1 n1 => ⟨Nat.zero_le _, fun l2 n2 => ?_⟩⟩⟩⟩
        have hv : ∃ ps : List Int, cutV [V.int 2, V.int 3] none (some (1 + v)) = ps.map V.int ∧ VB ps [] [] ∧ prodN ps ≤ 6 := by
          rcases (by omega : v = 0 ∨ v = 1) with rfl | rfl
          · exact ⟨[2], rfl, by decide, by decide⟩
          · exact ⟨[2, 3], rfl, by decide, by decide⟩
        obtain ⟨ps, ep, hb, hp6⟩ := hv
        have sx2 : SameX st H1 (upd (upd H1 l (.lst [.int 2, .int 3])) st (.lst [.int s2, .int t2])) := (Same.x (same_new nl)).trans SameX.put
        have est2 : (upd (upd H1 l (.lst [.int 2, .int 3])) st (.lst [.int s2, .int t2])) st = some (.lst [.int s2, .int t2]) := upd_same
        generalize upd (upd H1 l (.lst [.int 2, .int 3])) st (.lst [.int s2, .int t2]) = H2 at *
        have sc := same_new (o := .lst (cutV [V.int 2, V.int 3] none (some (1 + v)))) nc
        have s1' := same_new (o := .lst []) n1
        have s2' := same_new (o := .lst []) n2
        refine made_use (E := E0) (ps := ps) (pws := []) (cjs := []) (has_of_ints ((s1'.trans s2') _ _ (by rw [← ep]; exact upd_same))) (has_nil (s2' _ _ upd_same)) (has_nil upd_same) hb fun z H' s h => ?_
        exact ⟨((sx1.trans sx2).trans (Same.x (sc.trans (s1'.trans (s2'.trans s))))), ⟨s2, t2, (sc.trans (s1'.trans (s2'.trans s))) _ _ est2⟩, z, _, h, hb.sm, Nat.le_trans hp6 hm0, rfl⟩
      · have : ¬ ((prodN t.ps : Int) > (m : Int)) := fun z => c (decide_eq_true z)
        exact ⟨sx1, hst1, z, t, hT1, hS1, by omega, rfl⟩
    clear hT1 hS1 sx1 hst1
    rintro σ H1 ⟨sx1, ⟨s0, t0, e0⟩, z, t, hT1, hS1, hsz, rfl⟩
    refine ⟨_, rfl, st, _, s0, t0, rfl, by decide, by decide, e0, fun v s2 t2 hv0 hv1 => ⟨_, _, rfl, rfl, ?_⟩⟩
    refine ⟨fun σ H' => SameX st H H' ∧ StA H' st ∧ ∃ z t y3, TbAt K H' z t ∧ Vd t ∧ prodN t.ps ≤ m ∧ t.ps.length ≤ 5 ∧ σ = [some (.ref st), some (.int (m : Int)), some z, y3, none], ?_, ?_⟩
    · have sx2 : SameX st H (upd H1 st (.lst [.int s2, .int t2])) := sx1.trans SameX.put
      have e2 : (upd H1 st (.lst [.int s2, .int t2])) st = some (.lst [.int s2, .int t2]) := upd_same
      have hT2 := hT1.tps (Tps.x (K := K) (SameX.put (u := .lst [.int s2, .int t2])) e0)
      have hv := hS1.vd
      have hl := hS1.len
      have hs := hS1.sz
      generalize upd H1 st (.lst [.int s2, .int t2]) = H2 at *
      refine ⟨_, rfl, st, _, s2, t2, rfl, by decide, by decide, e2, fun k s3 t3 hk0 hk1 => ⟨rfl, _, rfl, ?_⟩⟩
      have sx3 : SameX st H (upd H2 st (.lst [.int s3, .int t3])) := sx2.trans SameX.put
      have e3 : (upd H2 st (.lst [.int s3, .int t3])) st = some (.lst [.int s3, .int t3]) := upd_same
      have hT3 := hT2.tps (Tps.x (K := K) (SameX.put (u := .lst [.int s3, .int t3])) e2)
      generalize upd H2 st (.lst [.int s3, .int t3]) = H3 at *
      have stay : SameX st H H3 ∧ StA H3 st ∧ ∃ z' t' y3, TbAt K H3 z' t' ∧ Vd t' ∧ prodN t'.ps ≤ m ∧ t'.ps.length ≤ 5 ∧ ([some (V.ref st), some (V.int (m : Int)), some z, some (V.int (2 + v)), none] : L2.St) = [some (.ref st), some (.int (m : Int)), some z', y3, none] := ⟨sx3, ⟨s3, t3, e3⟩, z, t, _, hT3, hv, hsz, by omega, rfl⟩
      refine ite2 (fun c => ?_) (fun c => iteF stay)
      refine ⟨_, rfl, z, t, rfl, hT3, hv.pr, by omega, _, rfl, _, _, rfl, rfl, wide_mul (a := 10) (b := 3) (by omega) (by omega) (by decide) (by decide) (by decide), _, rfl, _, _, rfl, rfl, _, rfl, ite2 (fun c => ?_) (fun c => stay)⟩
      have c2 : (prodN t.ps : Int) * (2 + v) ≤ (m : Int) := of_decide_eq_true c
      refine ⟨_, rfl, _, rfl, by show 1 ≤ sizeLine; decide, fun l nl => ⟨Nat.zero_le _, fun l1 n1 => ⟨Nat.zero_le _, fun l2 n2 => ?_⟩⟩⟩
      have s0' := same_new (o := .lst [.int (2 + v)]) nl
      have s1' := same_new (o := .lst []) n1
      have s2' := same_new (o := .lst []) n2
      have hb : VB [2 + v] [] [] := by
        rcases (by omega : v = 0 ∨ v = 1) with rfl | rfl <;> decide
      refine made_use (E := E0) (ps := [2 + v]) (pws := []) (cjs := []) (has_of_ints ((s1'.trans s2') _ _ upd_same)) (has_nil (s2' _ _ upd_same)) (has_nil upd_same) hb fun z2 H' s h => ?_
      have s3' := s0'.trans (s1'.trans (s2'.trans s))
      refine ⟨z, z2, t, _, rfl, hT3.tps (Tps.of s3'), hv, h, hb.vd, fun z' H4 s4 h4 => ?_⟩
      have hq : prodN [2 + v] = (2 + v).toNat := Nat.mul_one _
      have hmul : prodN t.ps * prodN [2 + v] ≤ m := by
        have e : ((prodN t.ps * prodN [2 + v] : Nat) : Int) = (prodN t.ps : Int) * (2 + v) := by rw [hq, Int.natCast_mul, Int.toNat_of_nonneg (by omega)]
        omega
      refine ⟨sx3.trans (Same.x (s3'.trans s4)), ⟨s3, t3, (s3'.trans s4) _ _ e3⟩, z', _, _, h4, vd_bes hv hb.vd (by show t.ps.length + 1 ≤ 10; omega) (by show prodN t.ps * prodN [2 + v] ≤ 1000; omega), ?_, ?_, rfl⟩
      · show prodN (t.ps ++ [2 + v]) ≤ m
        rw [prodN_app]
        exact hmul
      · show (t.ps ++ [2 + v]).length ≤ 5
        rw [List.length_append]
        show t.ps.length + 1 ≤ 5
        omega
    rintro σ H2 ⟨sx2, ⟨s1, t1, e1⟩, z, t, y3, hT2, hV2, hsz2, hl2, rfl⟩
    refine ⟨_, rfl, st, _, s1, t1, rfl, by decide, by decide, e1, fun k s3 t3 hk0 hk1 => ⟨k, rfl, by omega, by omega, ?_⟩⟩
    refine for_range (lo := 0) (n := k.toNat) (fun _ σ H' => SameX st H H' ∧ StA H' st ∧ ∃ z t y4, TbAt K H' z t ∧ Vd t ∧ prodN t.ps ≤ m ∧ t.ps.length ≤ 5 ∧ σ = [some (.ref st), some (.int (m : Int)), some z, y3, y4])
      ⟨sx2.trans SameX.put, ⟨s3, t3, upd_same⟩, z, t, none, hT2.tps (Tps.x SameX.put e1), hV2, hsz2, hl2, rfl⟩ ?_ ?_
    · rintro i σ H3 hi ⟨sx3, hst3, z, t, y4, hT3, hV3, hsz3, hl3, rfl⟩
      refine ⟨_, rfl, _, rfl, st, z, t, rfl, hst3, hT3, hV3, fun z' t' H4 sx4 hst4 hT4 hV4 hps => ?_⟩
      exact ⟨sx3.trans sx4, hst4, z', t', _, hT4, hV4, by rw [hps]; exact hsz3, by rw [hps]; exact hl3, rfl⟩
    · rintro σ H3 ⟨sx3, hst3, z, t, y4, hT3, hV3, hsz3, hl3, rfl⟩
      exact ⟨_, rfl, q z t H3 sx3 hst3 hT3 hV3 hsz3 hl3⟩
/-! ### is_integer -/
def IsI (K : PySem.W.Frag) (H : Hp) (x : V) (b : Bool) : Prop := ∃ (t : Value) (b1 b2 : Bool), TyX K H x t ∧ PySem.W.kitOne K t (.type "int") = some b1 ∧ PySem.W.kitOne K t (.type "bool") = some b2 ∧ b = (b1 && !b2) ∧ (b = true → ∃ i, x = .int i)
theorem isI_int {H : Hp} (i : Int) : IsI K H (.int i) true := ⟨_, true, false, .base (.int i), kit_ty (by decide +kernel), kit_ty (by decide +kernel), rfl, fun _ => ⟨i, rfl⟩⟩
theorem isI_bl {H : Hp} (b : Bool) : IsI K H (.bl b) false := ⟨_, true, true, .base (.bl b), kit_ty (by decide +kernel), kit_ty (by decide +kernel), rfl, fun h => Bool.noConfusion h⟩
theorem isI_non {H : Hp} : IsI K H .non false := ⟨_, false, false, .base .non, kit_ty (by decide +kernel), kit_ty (by decide +kernel), rfl, fun h => Bool.noConfusion h⟩
theorem isI_str {H : Hp} (s : Str) : IsI K H (.str s) false := ⟨_, false, false, .base (.str s), kit_ty (by decide +kernel), kit_ty (by decide +kernel), rfl, fun h => Bool.noConfusion h⟩
theorem isI_lst {H : Hp} {a : Addr} {xs : List V} (e : H a = some (.lst xs)) : IsI K H (.ref a) false := ⟨_, false, false, .base (.lst e), kit_ty (by decide +kernel), kit_ty (by decide +kernel), rfl, fun h => Bool.noConfusion h⟩
theorem isI_tup {H : Hp} {a : Addr} {xs : List V} (e : H a = some (.tup xs)) : IsI K H (.ref a) false := ⟨_, false, false, .base (.tup e), kit_ty (by decide +kernel), kit_ty (by decide +kernel), rfl, fun h => Bool.noConfusion h⟩
def spIsInt (K : PySem.W.Frag) : Sp := fun vs H Q _ => ∃ (x : V) (b : Bool), vs = [x] ∧ IsI K H x b ∧ Q (.bl b) H
theorem ok_isint (T : Txt K mg) : FnOk P w K mg base CX0 1 T.a_is_integer T.d_is_integer ["value"] (spIsInt K) := by
  refine T.F_is_integer.ok sc_is_integer (fun vs H Q E h => ?_) (fun cdv A outer s H vs Q E hr h => ?_)
  · obtain ⟨x, b, rfl, _⟩ := h
    rfl
  · obtain ⟨x, b, rfl, ⟨t, b1, b2, ty, k1, k2, rfl, _⟩, q⟩ := h
    refine ⟨_, (pss_one (ps_ret (pe_and (pe_callB call_isi (by rfl) T.n_isinstance (by decide +kernel) (pa_cons (pv 0) (pa_cons (pe_bltn (v := .ty "int") (by rfl) T.n_int (by decide +kernel) rfl) pa_nil))) (pe_one (pe_not (pe_callB call_isi (by rfl) T.n_isinstance (by decide +kernel) (pa_cons (pv 0) (pa_cons (pe_bltn (v := .ty "bool") (by rfl) T.n_bool (by decide +kernel) rfl) pa_nil)))))))), ?_⟩
    refine ⟨_, rfl, _, _, _, _, b1, rfl, .ty "int", ty, k1, b1, rfl, ?_⟩
    cases b1 with
    | true => exact iteT ⟨_, rfl, _, _, _, _, b2, rfl, .ty "bool", ty, k2, b2, rfl, q⟩
    | false => exact iteF q
/-! ### values of other forms -/
/-- a value; is it an integer; is it a tuple -/
inductive Kd (K : PySem.W.Frag) (H : Hp) : V → Bool → Bool → Prop
  | int (i : Int) : Kd K H (.int i) true false
  | bl (b : Bool) : Kd K H (.bl b) false false
  | non : Kd K H .non false false
  | str (s : Str) : Kd K H (.str s) false false
  | lst {a : Addr} {xs : List V} (e : H a = some (.lst xs)) : Kd K H (.ref a) false false
  | tup {a : Addr} {xs : List V} (e : SqT K H a xs) : Kd K H (.ref a) false true
theorem Kd.mono {H H' : Hp} {x : V} {i t : Bool} (e : Same H H') (h : Kd K H x i t) : Kd K H' x i t := by
  cases h with
  | int i => exact .int i
  | bl b => exact .bl b
  | non => exact .non
  | str s => exact .str s
  | lst h => exact .lst (e _ _ h)
  | tup h => exact .tup (Own.same_tup e h)
theorem ty_sqT {H : Hp} {a : Addr} {xs : List V} (h : SqT K H a xs) : TyX K H (.ref a) (.type "tuple") := by
  rcases h with (h | ⟨o, h⟩) | h
  · exact .base (.tup h)
  · exact .fTuple h
  · obtain ⟨o, its, k, h1, h2, _⟩ := h
    exact .kTuple h1 h2
theorem Kd.isI {H : Hp} {x : V} {i t : Bool} (h : Kd K H x i t) : IsI K H x i := by
  cases h with
  | int i => exact isI_int i
  | bl b => exact isI_bl b
  | non => exact isI_non
  | str s => exact isI_str s
  | lst h => exact isI_lst h
  | tup h => exact ⟨_, false, false, ty_sqT h, kit_ty (by decide +kernel), kit_ty (by decide +kernel), rfl, fun h => Bool.noConfusion h⟩
theorem Kd.isT {H : Hp} {x : V} {i t : Bool} (h : Kd K H x i t) : ∃ ty, TyX K H x ty ∧ PySem.W.kitOne K ty (.type "tuple") = some t := by
  cases h with
  | int i => exact ⟨_, .base (.int i), kit_ty (by decide +kernel)⟩
  | bl b => exact ⟨_, .base (.bl b), kit_ty (by decide +kernel)⟩
  | non => exact ⟨_, .base .non, kit_ty (by decide +kernel)⟩
  | str s => exact ⟨_, .base (.str s), kit_ty (by decide +kernel)⟩
  | lst h => exact ⟨_, .base (.lst h), kit_ty (by decide +kernel)⟩
  | tup h => exact ⟨_, ty_sqT h, kit_ty (by decide +kernel)⟩
/-! ### is_small_prime, _law_is_prime -/
def spSmall (K : PySem.W.Frag) : Sp := fun vs H Q _ => ∃ (x : V) (b : Bool), vs = [x] ∧ IsI K H x b ∧ Q (.bl (b && inV x ([2, 3, 5, 7, 11, 13, 17, 19, 23, 29, 31].map V.int))) H
theorem ok_small (T : Txt K mg) : FnOk P w K mg base CX0 2 T.a_is_small_prime T.d_is_small_prime ["value"] (spSmall K) := by
  have G_is_integer : FnOk P w K mg base CX0 1 T.a_is_integer T.d_is_integer ["value"] (spIsInt K) := ok_isint T
  refine T.F_is_small_prime.ok sc_is_small_prime (fun vs H Q E h => ?_) (fun cdv A outer s H vs Q E hr h => ?_)
  · obtain ⟨x, b, rfl, _⟩ := h
    rfl
  · obtain ⟨x, b, rfl, hI, q⟩ := h
    refine ⟨_, (pss_one (ps_ret (pe_and (pe_call G_is_integer (hr.mono (by decide)) (by rfl) T.g_is_integer T.F_is_integer.kp T.b_is_integer .nil pass0 (pa_cons (pv 0) pa_nil)) (pe_one (pe_cmpR op_in_seq (pv 0) (pe_glob (v := .ref T.q_SMALL_PRIMES) (by rfl) T.g_SMALL_PRIMES rfl) rfl))))), ?_⟩
    refine ⟨_, rfl, x, b, rfl, hI, b, rfl, ?_⟩
    cases b with
    | true =>
      obtain ⟨t, b1, b2, ty, k1, k2, _, hi⟩ := hI
      obtain ⟨i, rfl⟩ := hi rfl
      exact iteT ⟨_, rfl, _, _, rfl, .inr (T.t_SMALL H), rfl, by decide, q⟩
    | false => exact iteF q
def RB : Hp → V → Bool → Prop := fun _ v b => v = .bl b
theorem st_RB : Stable RB := ⟨fun _ h => h, fun _ h => h⟩
theorem bools_of {H : Hp} : ∀ {vs : List V} {bs : List Bool}, Paired (RB H) vs bs → vs = bs.map V.bl
  | _, _, .nil => rfl
  | _, _, @Paired.cons _ _ _ v b vs bs h t => by
    have e : v = .bl b := h
    rw [e, bools_of t]
    rfl
/-! ### what the class asks of its arguments, over values of any form -/
inductive Dv where
  | int (i : Int)
  | tup (l : List Dv)
  | oth
inductive AtV (K : PySem.W.Frag) (H : Hp) : V → Dv → Prop
  | int (i : Int) : AtV K H (.int i) (.int i)
  | tup {a : Addr} {us : List V} {ds : List Dv} (h : SqT K H a us) (l : us.length = ds.length) (g : ∀ (i : Nat) (u : V) (d : Dv), us[i]? = some u → ds[i]? = some d → AtV K H u d) : AtV K H (.ref a) (.tup ds)
  | oth {x : V} (h : Kd K H x false false) : AtV K H x .oth
theorem AtV.mono {H H' : Hp} {v : V} {d : Dv} (e : Same H H') (h : AtV K H v d) : AtV K H' v d := by
  induction h with
  | int i => exact .int i
  | tup h l g ih => exact .tup (Own.same_tup e h) l ih
  | oth h => exact .oth (h.mono e)
theorem AtV.isI {H : Hp} {v : V} {d : Dv} (h : AtV K H v d) : IsI K H v (match d with | .int _ => true | _ => false) := by
  cases h with
  | int i => exact isI_int i
  | tup h l g => exact (Kd.tup h).isI
  | oth h => exact h.isI
theorem AtV.isT {H : Hp} {v : V} {d : Dv} (h : AtV K H v d) : ∃ ty, TyX K H v ty ∧ PySem.W.kitOne K ty (.type "tuple") = some (match d with | .tup _ => true | _ => false) := by
  cases h with
  | int i => exact (Kd.int i).isT
  | tup h l g => exact (Kd.tup h).isT
  | oth h => exact h.isT
/-- the items of a tuple -/
def Items (K : PySem.W.Frag) (H : Hp) (us : List V) (ds : List Dv) : Prop := us.length = ds.length ∧ ∀ (i : Nat) (u : V) (d : Dv), us[i]? = some u → ds[i]? = some d → AtV K H u d
theorem AtV.tup_inv {H : Hp} {v : V} {l : List Dv} (h : AtV K H v (.tup l)) : ∃ a us, v = .ref a ∧ SqT K H a us ∧ Items K H us l := by
  cases h with
  | tup h l g => exact ⟨_, _, rfl, h, l, g⟩
def itemD (d : Dv) (p : Int) : Bool := match d with
  | .int i => decide (0 ≤ i) && decide (i < p)
  | _ => false
def rowD (d : Dv) (ps : List Int) : Bool := match d with
  | .tup l => decide (l.length = ps.length) && (List.zipWith itemD l ps).all id
  | _ => false
def zerD (d : Dv) : Bool := match d with
  | .int i => decide (i = 0)
  | _ => false
def rightD (ps : List Int) (i : Nat) (d : Dv) : Bool := rowD d ps && match d with
  | .tup l => (l.take (i + 1)).all zerD
  | _ => false
def rightsD (d : Dv) (many : Int) (ps : List Int) (i : Nat) : Bool := match d with
  | .tup l => decide ((l.length : Int) = many) && l.all (rightD ps i)
  | _ => false
def primesD (d : Dv) : Bool := match d with
  | .tup l => l.all fun d => match d with | .int i => decide (i ∈ pr31) | _ => false
  | _ => false
def powersD (d : Dv) (ps : List Int) : Bool := match d with
  | .tup l => decide (l.length = ps.length) && (List.range l.length).all fun i => rightD ps i (l.getD i .oth)
  | _ => false
def conjsD (d : Dv) (ps : List Int) : Bool := match d with
  | .tup l => decide (l.length = ps.length) && (List.range l.length).all fun i => rightsD (l.getD i .oth) ((ps.length : Int) - i - 1) ps i
  | _ => false
theorem bl_ne {x y : Int} (h : x ≠ y) : (!decide (V.int x = V.int y)) = true := by rw [decide_eq_false (fun z => h (V.int.inj z))]; rfl
theorem rowD_tup {l : List Dv} {ps : List Int} : rowD (.tup l) ps = (decide (l.length = ps.length) && (List.zipWith itemD l ps).all id) := rfl
theorem rowD_cons {d : Dv} {l : List Dv} {p : Int} {ps : List Int} : rowD (.tup (d :: l)) (p :: ps) = (itemD d p && rowD (.tup l) ps) := by
  unfold rowD
  simp only [List.zipWith_cons_cons, List.all_cons, List.length_cons, id]
  by_cases h : l.length = ps.length <;> simp [h]
theorem itemD_int {d : Dv} {p : Int} (h : itemD d p = true) : ∃ i, d = .int i ∧ 0 ≤ i ∧ i < p := by
  cases d with
  | int i =>
    unfold itemD at h
    rw [Bool.and_eq_true] at h
    exact ⟨i, rfl, of_decide_eq_true h.1, of_decide_eq_true h.2⟩
  | tup l => cases h
  | oth => cases h
/-- a row is so many ints -/
theorem rowD_ints : ∀ {ps : List Int} {l : List Dv}, rowD (.tup l) ps = true → ∃ r : List Int, l = r.map Dv.int ∧ Bl ps r
  | [], [], _ => ⟨[], rfl, rfl, fun k hk => absurd hk (Nat.not_lt_zero k)⟩
  | p :: ps, [], h => by simp [rowD] at h
  | [], d :: l, h => by simp [rowD] at h
  | p :: ps, d :: l, h => by
    rw [rowD_cons, Bool.and_eq_true] at h
    obtain ⟨i, rfl, h0, h1⟩ := itemD_int h.1
    obtain ⟨r, rfl, hb⟩ := rowD_ints h.2
    refine ⟨i :: r, rfl, by rw [List.length_cons, List.length_cons, hb.1], fun k hk => ?_⟩
    cases k with
    | zero => exact ⟨h0, h1⟩
    | succ k =>
      rw [atR_succ, atR_succ]
      exact hb.2 k (Nat.lt_of_succ_lt_succ hk)
theorem rowD_true : ∀ {ps r : List Int}, Bl ps r → rowD (.tup (r.map Dv.int)) ps = true
  | [], [], _ => rfl
  | p :: ps, [], h => by cases h.1
  | [], x :: r, h => by cases h.1
  | p :: ps, x :: r, h => by
    rw [List.map_cons, rowD_cons]
    have h0 := h.2 0 (Nat.zero_lt_succ _)
    rw [atR_cons, atR_cons] at h0
    have := rowD_true (ps := ps) (r := r) ⟨Nat.succ.inj h.1, fun k hk => h.2 (k + 1) (Nat.succ_lt_succ hk)⟩
    rw [this, Bool.and_true]
    show (decide (0 ≤ x) && decide (x < p)) = true
    rw [decide_eq_true h0.1, decide_eq_true h0.2]
    rfl
theorem items_ints {H : Hp} {us : List V} {r : List Int} (h : Items K H us (r.map Dv.int)) : us = r.map V.int := by
  apply List.ext_getElem?
  intro i
  have hl := h.1
  rw [List.length_map] at hl
  by_cases hi : i < r.length
  · have e1 : us[i]? = some us[i] := List.getElem?_eq_getElem (by omega)
    have e2 : r[i]? = some r[i] := List.getElem?_eq_getElem hi
    have := h.2 i _ (Dv.int r[i]) e1 (by rw [List.getElem?_map, e2]; rfl)
    rw [List.getElem?_map, e1, e2]
    cases hu : us[i] with
    | int z =>
      rw [hu] at this
      cases this
      rfl
    | _ => rw [hu] at this; cases this
  · rw [List.getElem?_map, List.getElem?_eq_none (by omega), List.getElem?_eq_none (by omega)]
    rfl
theorem Items.paired {H : Hp} : ∀ {us : List V} {ds : List Dv}, Items K H us ds → Paired (AtV K H) us ds
  | [], [], _ => .nil
  | [], _ :: _, h => by cases h.1
  | _ :: _, [], h => by cases h.1
  | u :: us, d :: ds, h => .cons (h.2 0 u d rfl rfl) (Items.paired ⟨Nat.succ.inj h.1, fun i u d e1 e2 => h.2 (i + 1) u d e1 e2⟩)
theorem Items.mono {H H' : Hp} {us : List V} {ds : List Dv} (e : Same H H') (h : Items K H us ds) : Items K H' us ds := ⟨h.1, fun i u d e1 e2 => (h.2 i u d e1 e2).mono e⟩
def spRowD (K : PySem.W.Frag) : Sp := fun vs H Q _ => ∃ (v : V) (pr : Addr) (d : Dv) (ps : List Int), vs = [v, .ref pr] ∧ AtV K H v d ∧ SqT K H pr (ps.map V.int) ∧ ps.length ≤ 1000 ∧ ∀ H', Same H H' → Q (.bl (rowD d ps)) H'
theorem ok_rowD (T : Txt K mg) : FnOk P w K mg base CX0 2 T.a__is_row T.d__is_row ["value", "primes"] (spRowD K) := by
  have G_is_integer : FnOk P w K mg base CX0 1 T.a_is_integer T.d_is_integer ["value"] (spIsInt K) := ok_isint T
  refine T.F__is_row.ok sc__is_row (fun vs H Q E h => ?_) (fun cdv A outer s H vs Q E hr h => ?_)
  · obtain ⟨v, pr, d, ps, rfl, _⟩ := h
    rfl
  · obtain ⟨v, pr, d, ps, rfl, hv, hp, hn, q⟩ := h
    refine ⟨_, (pss_cons (ps_if (PW.pt (pw_or (pt_not (pt_val (pe_callB call_isi (by rfl) T.n_isinstance (by decide +kernel) (pa_cons (pv 0) (pa_cons (pe_bltn (v := .ty "tuple") (by rfl) T.n_tuple (by decide +kernel) rfl) pa_nil))))) (pw_or1 (pt_cmpR op_ne (pe_callB call_len_seq (by rfl) T.n_len (by decide +kernel) (pa_cons (pv 0) pa_nil)) (pe_callB call_len_seq (by rfl) T.n_len (by decide +kernel) (pa_cons (pv 1) pa_nil)) (nomark _))))) 
      (pss_one (ps_ret pe_bl)) pss_nil) 
    (pss_one (ps_ret (pe_callB (cr_all rfl) (by rfl) T.n_all (by decide +kernel) (pa_cons (pe_lc (own := [("item", 2), ("p", 3)]) (g := gTup K 2 (gCons (gName 2) (gCons (gName 3) gNil))) rfl sc__is_row.nd (RZ.pi_zipA (by rfl) T.n_zip (pa_cons (pv 0) (pa_cons (pv 1) pa_nil))) (blkOk_by (N := N__is_row) (sc := defScope s__is_row) (own := [("item", 2), ("p", 3)]) (by decide +kernel)) (fun _ _ _ _ _ => by exact (pg_tup rfl (pgs_cons (pg_name (i := 2) sc__is_row.nd rfl (.inl rfl)) (pgs_cons (pg_name (i := 3) sc__is_row.nd rfl (.inl rfl)) pgs_nil)))) (fun _ _ _ _ _ => pts_nil) (fun _ _ _ _ _ => (pe_and (pe_call G_is_integer (hr.mono (by decide)) (by rfl) T.g_is_integer T.F_is_integer.kp T.b_is_integer .nil pass0 (pa_cons (pv 2) pa_nil)) (pe_one (pe_chain op_le op_lt pe_int (pv 2) (pv 3)))))) pa_nil))))), ?_⟩
    obtain ⟨ty, hty, hkit⟩ := hv.isT
    cases hd : d with
    | int i =>
      subst hd
      exact ⟨_, rfl, _, _, _, _, false, rfl, .ty "tuple", hty, hkit, false, rfl, iteT (q H (Same.refl H))⟩
    | oth =>
      subst hd
      exact ⟨_, rfl, _, _, _, _, false, rfl, .ty "tuple", hty, hkit, false, rfl, iteT (q H (Same.refl H))⟩
    | tup l =>
      subst hd
      obtain ⟨a, us, rfl, hS, hI⟩ := hv.tup_inv
      refine ⟨_, rfl, _, _, _, _, true, rfl, .ty "tuple", hty, hkit, true, rfl, iteF ?_⟩
      refine ⟨_, rfl, a, us, rfl, .inr hS, _, rfl, pr, _, rfl, .inr hp, rfl, _, rfl, ?_⟩
      rw [List.length_map]
      by_cases hl : l.length = ps.length
      · refine iteB (not_dec (congrArg V.int (by rw [hI.1, hl]))) ?_
        refine ⟨_, rfl, _, rfl, a, pr, us, _, rfl, .inr ⟨hS, hp, fun D nD => ?_⟩⟩
        refine lc_rep (walk_zipT (n := ps.length) (by rw [List.length_map, hI.1, hl, Nat.min_self])) st_RB (fun i => (List.zipWith itemD l ps).getD i false) (by omega) nD (fun H2 sm => ⟨Own.same_tup sm hS, Own.same_tup sm hp⟩) (fun i x H2 H3 Q2 hi sm hY q2 => ?_) (fun H2 acc sm eD hP => ?_)
        · obtain ⟨t, x1, x2, rfl, nt, rfl, g1, g2⟩ := hY
          have g1 : us[i]? = some x1 := g1
          have g2 : (ps.map V.int)[i]? = some x2 := g2
          have e2 : x2 = .int (atR ps i) := by
            rw [List.getElem?_map, atR_get hi] at g2
            exact (Option.some.inj g2).symm
          subst e2
          obtain ⟨dd, ed⟩ : ∃ dd, l[i]? = some dd := ⟨_, List.getElem?_eq_getElem (by omega)⟩
          have hx := (hI.2 i x1 dd g1 ed).mono (sm.trans (same_new (o := .tup [x1, .int (atR ps i)]) nt))
          have eg : (List.zipWith itemD l ps).getD i false = itemD dd (atR ps i) := by
            refine getD_some ?_
            rw [List.getElem?_zipWith, ed, atR_get hi]
          rw [eg] at q2
          refine ⟨t, [x1, .int (atR ps i)], rfl, .inl (.inl upd_same), rfl, _, [.int (atR ps i)], rfl, _, [], rfl, rfl, rfl, ?_⟩
          cases hx with
          | int k =>
            refine ⟨_, rfl, .int k, true, rfl, isI_int k, true, rfl, iteA rfl ?_⟩
            refine ⟨_, rfl, _, _, rfl, rfl, _, rfl, ?_⟩
            by_cases h0 : 0 ≤ k
            · refine iteA (decide_eq_true h0) ⟨_, rfl, _, _, rfl, rfl, q2 _ _ (same_new nt) ?_⟩
              show V.bl _ = V.bl (decide (0 ≤ k) && decide (k < atR ps i))
              rw [decide_eq_true h0, Bool.true_and]
            · refine iteB (decide_eq_false h0) (q2 _ _ (same_new nt) ?_)
              show V.bl _ = V.bl (decide (0 ≤ k) && decide (k < atR ps i))
              rw [decide_eq_false h0, Bool.false_and]
          | tup h hl2 g => exact ⟨_, rfl, _, false, rfl, (Kd.tup h).isI, false, rfl, iteB rfl (q2 _ _ (same_new nt) rfl)⟩
          | oth h => exact ⟨_, rfl, _, false, rfl, h.isI, false, rfl, iteB rfl (q2 _ _ (same_new nt) rfl)⟩
        · have e := bools_of hP
          have hzl : (List.zipWith itemD l ps).length = ps.length := by rw [List.length_zipWith, hl, Nat.min_self]
          have e2 : (List.range ps.length).map (fun i => (List.zipWith itemD l ps).getD i false) = List.zipWith itemD l ps := by
            rw [← hzl]
            exact map_range _ _ fun i x e => getD_some e
          rw [e2] at e
          subst e
          have hq := q H2 sm
          rw [rowD_tup, decide_eq_true hl, Bool.true_and] at hq
          exact ⟨D, _, rfl, .inl (.inl eD), hq⟩
      · refine iteA (bl_ne (by rw [hI.1]; omega)) ?_
        have hq := q H (Same.refl H)
        rw [rowD_tup, decide_eq_false hl, Bool.false_and] at hq
        exact hq
/-! ### _is_right_side, _are_right_sides, _are_primes, _are_powers, _are_conjugates, _order_of -/
theorem all_zer : ∀ r : List Int, (r.map Dv.int).all zerD = !(r.any (· != 0))
  | [] => rfl
  | x :: r => by
    rw [List.map_cons, List.all_cons, List.any_cons, all_zer r, Bool.not_or]
    congr 1
    show decide (x = 0) = !(x != 0)
    by_cases h : x = 0 <;> simp [h]
def spRight (K : PySem.W.Frag) : Sp := fun vs H Q _ => ∃ (v : V) (pr : Addr) (d : Dv) (ps : List Int) (i : Nat), vs = [v, .ref pr, .int (i : Int)] ∧ AtV K H v d ∧ SqT K H pr (ps.map V.int) ∧ ps.length ≤ 1000 ∧ i < ps.length ∧ ∀ H', Same H H' → Q (.bl (rightD ps i d)) H'
theorem ok_right (T : Txt K mg) : FnOk P w K mg base CX0 3 T.a__is_right_side T.d__is_right_side ["value", "primes", "i"] (spRight K) := by
  have G__is_row : FnOk P w K mg base CX0 2 T.a__is_row T.d__is_row ["value", "primes"] (spRowD K) := ok_rowD T
  refine T.F__is_right_side.ok sc__is_right_side (fun vs H Q E h => ?_) (fun cdv A outer s H vs Q E hr h => ?_)
  · obtain ⟨v, pr, d, ps, i, rfl, _⟩ := h
    rfl
  · obtain ⟨v, pr, d, ps, i, rfl, hv, hp, hn, hi, q⟩ := h
    refine ⟨_, (pss_one (ps_ret (pe_and (pe_call G__is_row (hr.mono (by decide)) (by rfl) T.g__is_row T.F__is_row.kp T.b__is_row .nil pass0 (pa_cons (pv 0) (pa_cons (pv 1) pa_nil))) (pe_one (pe_not (pe_callB (Own.cr_anyI rfl) (by rfl) T.n_any (by decide +kernel) (pa_cons (pe_slice sl_tupA (pv 0) po_none (po_some (pe_op op_add (pv 2) pe_int))) pa_nil))))))), ?_⟩
    refine ⟨_, rfl, _, rfl, v, pr, d, ps, rfl, hv, hp, hn, fun H1 s1 => ⟨_, rfl, ?_⟩⟩
    cases hR : rowD d ps with
    | false =>
      refine iteF ?_
      have hq := q H1 s1
      unfold rightD at hq
      rw [hR, Bool.false_and] at hq
      exact hq
    | true =>
      refine iteT ?_
      cases d with
      | int z => cases hR
      | oth => cases hR
      | tup l =>
        obtain ⟨r, rfl, hb⟩ := rowD_ints hR
        obtain ⟨a, us, rfl, hS, hI⟩ := hv.tup_inv
        have eu := items_ints hI
        subst eu
        refine ⟨_, rfl, _, rfl, _, _, rfl, rfl, (i : Int) + 1, rfl, slA_q (Own.same_tup s1 hS) fun t H2 s2 ht => ?_⟩
        rw [show (i : Int) + 1 = ((i + 1 : Nat) : Int) by omega, cut_to (by rw [List.length_map, hb.1]; omega), ← List.map_take] at ht
        refine ⟨t, r.take (i + 1), rfl, ht, _, rfl, ?_⟩
        have hq := q H2 (s1.trans s2)
        have e : rightD ps i (.tup (r.map Dv.int)) = !((r.take (i + 1)).any (· != 0)) := by
          unfold rightD
          rw [hR, Bool.true_and]
          show ((r.map Dv.int).take (i + 1)).all zerD = _
          rw [← List.map_take, all_zer]
        rw [e] at hq
        exact hq
def spRights (K : PySem.W.Frag) : Sp := fun vs H Q _ => ∃ (v : V) (pr : Addr) (d : Dv) (many : Int) (ps : List Int) (i : Nat), vs = [v, .int many, .ref pr, .int (i : Int)] ∧ AtV K H v d ∧ SqT K H pr (ps.map V.int) ∧ ps.length ≤ 1000 ∧ many ≤ 1000 ∧ i < ps.length ∧ ∀ H', Same H H' → Q (.bl (rightsD d many ps i)) H'
theorem ok_rights (T : Txt K mg) : FnOk P w K mg base CX0 4 T.a__are_right_sides T.d__are_right_sides ["value", "many", "primes", "i"] (spRights K) := by
  have G__is_right_side : FnOk P w K mg base CX0 3 T.a__is_right_side T.d__is_right_side ["value", "primes", "i"] (spRight K) := ok_right T
  refine T.F__are_right_sides.ok sc__are_right_sides (fun vs H Q E h => ?_) (fun cdv A outer s H vs Q E hr h => ?_)
  · obtain ⟨v, pr, d, many, ps, i, rfl, _⟩ := h
    rfl
  · obtain ⟨v, pr, d, many, ps, i, rfl, hv, hp, hn, hm, hi, q⟩ := h
    refine ⟨_, (pss_cons (ps_if (PW.pt (pw_or (pt_not (pt_val (pe_callB call_isi (by rfl) T.n_isinstance (by decide +kernel) (pa_cons (pv 0) (pa_cons (pe_bltn (v := .ty "tuple") (by rfl) T.n_tuple (by decide +kernel) rfl) pa_nil))))) (pw_or1 (pt_cmpR op_ne (pe_callB call_len_seq (by rfl) T.n_len (by decide +kernel) (pa_cons (pv 0) pa_nil)) (pv 1) (nomark _))))) 
      (pss_one (ps_ret pe_bl)) pss_nil) 
    (pss_one (ps_ret (pe_callB (cr_all rfl) (by rfl) T.n_all (by decide +kernel) (pa_cons (pe_lc (own := [("row", 4)]) rfl sc__are_right_sides.nd (pi_tup (pv 0)) (blkOk_by (N := N__are_right_sides) (sc := defScope s__are_right_sides) (own := [("row", 4)]) (by decide +kernel)) (fun _ _ _ _ _ => (pg_name (i := 4) sc__are_right_sides.nd rfl (.inl rfl))) (fun _ _ _ _ _ => pts_nil) (fun _ _ _ _ _ => (pe_call G__is_right_side (hr.mono (by decide)) (by rfl) T.g__is_right_side T.F__is_right_side.kp T.b__is_right_side .nil pass0 (pa_cons (pv 4) (pa_cons (pv 2) (pa_cons (pv 3) pa_nil)))))) pa_nil))))), ?_⟩
    obtain ⟨ty, hty, hkit⟩ := hv.isT
    cases d with
    | int z => exact ⟨_, rfl, _, _, _, _, false, rfl, .ty "tuple", hty, hkit, false, rfl, iteT (q H (Same.refl H))⟩
    | oth => exact ⟨_, rfl, _, _, _, _, false, rfl, .ty "tuple", hty, hkit, false, rfl, iteT (q H (Same.refl H))⟩
    | tup l =>
      obtain ⟨a, us, rfl, hS, hI⟩ := hv.tup_inv
      have et : ∀ (b : Bool), decide ((l.length : Int) = many) = b → rightsD (.tup l) many ps i = (b && l.all (rightD ps i)) := fun b e => by
        rw [← e]
        rfl
      refine ⟨_, rfl, _, _, _, _, true, rfl, .ty "tuple", hty, hkit, true, rfl, iteF ?_⟩
      refine ⟨_, rfl, a, us, rfl, .inr hS, _, rfl, rfl, _, rfl, ?_⟩
      by_cases hl : (l.length : Int) = many
      · refine iteB (not_dec (congrArg V.int (by rw [hI.1, hl]))) ?_
        refine ⟨_, rfl, a, rfl, ⟨_, hS⟩, fun D nD => ?_⟩
        refine lc_tupmap st_RB (R1 := AtV K) (xs := l) (rightD ps i) (by omega) hS hI.paired nD (fun x y H2 Q2 hy sm hx q2 => ?_) (fun H2 acc sm eD hP => ?_)
        · refine ⟨rfl, _, rfl, _, rfl, _, rfl, x, pr, y, ps, i, rfl, hx.mono sm, Own.same_tup sm hp, hn, hi, fun H3 s3 => q2 _ _ s3 rfl⟩
        · have e := bools_of hP
          subst e
          have hq := q H2 sm
          rw [et true (decide_eq_true hl), Bool.true_and] at hq
          refine ⟨D, _, rfl, .inl (.inl eD), ?_⟩
          rw [List.all_map]
          exact hq
      · refine iteA (bl_ne (by rw [hI.1]; omega)) ?_
        have hq := q H (Same.refl H)
        rw [et false (decide_eq_false hl), Bool.false_and] at hq
        exact hq
theorem isP_eq (d : Dv) : (match d with | .int i => decide (i ∈ pr31) | _ => false) = ((match d with | .int _ => true | _ => false) && match d with | .int i => decide (i ∈ pr31) | _ => false) := by
  cases d <;> simp
theorem inV_ints {i : Int} : ∀ {ns : List Int}, inV (.int i) (ns.map V.int) = decide (i ∈ ns)
  | [] => by simp [inV]
  | n :: ns => by
    have ih : (ns.map V.int).any (fun y => eqV y (.int i)) = decide (i ∈ ns) := inV_ints (i := i) (ns := ns)
    unfold inV
    rw [List.map_cons, List.any_cons, ih]
    have e : eqV (.int n) (.int i) = decide (n = i) := by
      by_cases h : n = i <;> simp [eqV, h]
    rw [e]
    by_cases h : n = i
    · simp [h]
    · simp [h, Ne.symm h]
def spPrimesD (K : PySem.W.Frag) : Sp := fun vs H Q _ => ∃ (v : V) (d : Dv), vs = [v] ∧ AtV K H v d ∧ (∀ l, d = .tup l → l.length ≤ 1000) ∧ ∀ H', Same H H' → Q (.bl (primesD d)) H'
def spPowersD (K : PySem.W.Frag) : Sp := fun vs H Q _ => ∃ (v : V) (pr : Addr) (d : Dv) (ps : List Int), vs = [v, .ref pr] ∧ AtV K H v d ∧ SqT K H pr (ps.map V.int) ∧ ps.length ≤ 1000 ∧ ∀ H', Same H H' → Q (.bl (powersD d ps)) H'
theorem ok_powersD (T : Txt K mg) : FnOk P w K mg base CX0 4 T.a__are_powers T.d__are_powers ["value", "primes"] (spPowersD K) := by
  have G__is_right_side : FnOk P w K mg base CX0 3 T.a__is_right_side T.d__is_right_side ["value", "primes", "i"] (spRight K) := ok_right T
  refine T.F__are_powers.ok sc__are_powers (fun vs H Q E h => ?_) (fun cdv A outer s H vs Q E hr h => ?_)
  · obtain ⟨v, pr, d, ps, rfl, _⟩ := h
    rfl
  · obtain ⟨v, pr, d, ps, rfl, hv, hp, hn, q⟩ := h
    refine ⟨_, (pss_cons (ps_if (PW.pt (pw_or (pt_not (pt_val (pe_callB call_isi (by rfl) T.n_isinstance (by decide +kernel) (pa_cons (pv 0) (pa_cons (pe_bltn (v := .ty "tuple") (by rfl) T.n_tuple (by decide +kernel) rfl) pa_nil))))) (pw_or1 (pt_cmpR op_ne (pe_callB call_len_seq (by rfl) T.n_len (by decide +kernel) (pa_cons (pv 0) pa_nil)) (pe_callB call_len_seq (by rfl) T.n_len (by decide +kernel) (pa_cons (pv 1) pa_nil)) (nomark _))))) 
      (pss_one (ps_ret pe_bl)) pss_nil) 
    (pss_one (ps_ret (pe_callB (cr_all rfl) (by rfl) T.n_all (by decide +kernel) (pa_cons (pe_lc (own := [("i", 2), ("row", 3)]) (g := gTup K 2 (gCons (gName 2) (gCons (gName 3) gNil))) rfl sc__are_powers.nd (Own.pi_enumT (by rfl) T.n_enumerate (pa_cons (pv 0) pa_nil)) (blkOk_by (N := N__are_powers) (sc := defScope s__are_powers) (own := [("i", 2), ("row", 3)]) (by decide +kernel)) (fun _ _ _ _ _ => by exact (pg_tup rfl (pgs_cons (pg_name (i := 2) sc__are_powers.nd rfl (.inl rfl)) (pgs_cons (pg_name (i := 3) sc__are_powers.nd rfl (.inl rfl)) pgs_nil)))) (fun _ _ _ _ _ => pts_nil) (fun _ _ _ _ _ => (pe_call G__is_right_side (hr.mono (by decide)) (by rfl) T.g__is_right_side T.F__is_right_side.kp T.b__is_right_side .nil pass0 (pa_cons (pv 3) (pa_cons (pv 1) (pa_cons (pv 2) pa_nil)))))) pa_nil))))), ?_⟩
    obtain ⟨ty, hty, hkit⟩ := hv.isT
    cases d with
    | int z => exact ⟨_, rfl, _, _, _, _, false, rfl, .ty "tuple", hty, hkit, false, rfl, iteT (q H (Same.refl H))⟩
    | oth => exact ⟨_, rfl, _, _, _, _, false, rfl, .ty "tuple", hty, hkit, false, rfl, iteT (q H (Same.refl H))⟩
    | tup l =>
      obtain ⟨a, us, rfl, hS, hI⟩ := hv.tup_inv
      have et : ∀ (b : Bool), decide (l.length = ps.length) = b → powersD (.tup l) ps = (b && (List.range l.length).all fun i => rightD ps i (l.getD i .oth)) := fun b e => by
        rw [← e]
        rfl
      refine ⟨_, rfl, _, _, _, _, true, rfl, .ty "tuple", hty, hkit, true, rfl, iteF ?_⟩
      refine ⟨_, rfl, a, us, rfl, .inr hS, _, rfl, pr, _, rfl, .inr hp, rfl, _, rfl, ?_⟩
      rw [List.length_map]
      by_cases hl : l.length = ps.length
      · refine iteB (not_dec (congrArg V.int (by rw [hI.1, hl]))) ?_
        refine ⟨_, rfl, a, us, rfl, hS, fun D nD => ?_⟩
        refine lc_rep (Own.walk_enumT (xs := us)) st_RB (fun i => rightD ps i (l.getD i .oth)) (by rw [hI.1]; omega) nD (fun H2 sm => Own.same_tup sm hS) (fun i x H2 H3 Q2 hi sm hY q2 => ?_) (fun H2 acc sm eD hP => ?_)
        · obtain ⟨t, x1, x2, rfl, nt, rfl, g1, g2⟩ := hY
          have e1 : x1 = .int (i : Int) := (Option.some.inj g1).symm
          subst e1
          have g2 : us[i]? = some x2 := g2
          obtain ⟨dd, ed⟩ : ∃ dd, l[i]? = some dd := ⟨_, List.getElem?_eq_getElem (by rw [← hI.1]; exact hi)⟩
          have s2 := sm.trans (same_new (o := .tup [V.int (i : Int), x2]) nt)
          rw [getD_some ed] at q2
          refine ⟨t, [.int (i : Int), x2], rfl, .inl (.inl upd_same), rfl, _, [x2], rfl, _, [], rfl, rfl, rfl, ?_⟩
          exact ⟨_, rfl, _, rfl, _, rfl, x2, pr, dd, ps, i, rfl, (hI.2 i x2 dd g2 ed).mono s2, Own.same_tup s2 hp, hn, by rw [← hl, ← hI.1]; exact hi, fun H4 s4 => q2 _ _ ((same_new nt).trans s4) rfl⟩
        · have e := bools_of hP
          rw [hI.1] at e
          subst e
          have hq := q H2 sm
          rw [et true (decide_eq_true hl), Bool.true_and] at hq
          refine ⟨D, _, rfl, .inl (.inl eD), ?_⟩
          rw [List.all_map]
          exact hq
      · refine iteA (bl_ne (by rw [hI.1]; omega)) ?_
        have hq := q H (Same.refl H)
        rw [et false (decide_eq_false hl), Bool.false_and] at hq
        exact hq
theorem ok_primesD (T : Txt K mg) : FnOk P w K mg base CX0 3 T.a__are_primes T.d__are_primes ["value"] (spPrimesD K) := by
  have G_is_small_prime : FnOk P w K mg base CX0 2 T.a_is_small_prime T.d_is_small_prime ["value"] (spSmall K) := ok_small T
  refine T.F__are_primes.ok sc__are_primes (fun vs H Q E h => ?_) (fun cdv A outer s H vs Q E hr h => ?_)
  · obtain ⟨v, d, rfl, _⟩ := h
    rfl
  · obtain ⟨v, d, rfl, hv, hl, q⟩ := h
    refine ⟨_, (pss_one (ps_ret (pe_and (pe_callB call_isi (by rfl) T.n_isinstance (by decide +kernel) (pa_cons (pv 0) (pa_cons (pe_bltn (v := .ty "tuple") (by rfl) T.n_tuple (by decide +kernel) rfl) pa_nil))) (pe_one (pe_callB (cr_all rfl) (by rfl) T.n_all (by decide +kernel) (pa_cons (pe_lc (own := [("p", 1)]) rfl sc__are_primes.nd (pi_tup (pv 0)) (blkOk_by (N := N__are_primes) (sc := defScope s__are_primes) (own := [("p", 1)]) (by decide +kernel)) (fun _ _ _ _ _ => (pg_name (i := 1) sc__are_primes.nd rfl (.inl rfl))) (fun _ _ _ _ _ => pts_nil) (fun _ _ _ _ _ => (pe_call G_is_small_prime (hr.mono (by decide)) (by rfl) T.g_is_small_prime T.F_is_small_prime.kp T.b_is_small_prime .nil pass0 (pa_cons (pv 1) pa_nil)))) pa_nil)))))), ?_⟩
    obtain ⟨ty, hty, hkit⟩ := hv.isT
    cases d with
    | int z => exact ⟨_, rfl, _, _, _, _, false, rfl, .ty "tuple", hty, hkit, false, rfl, iteF (q H (Same.refl H))⟩
    | oth => exact ⟨_, rfl, _, _, _, _, false, rfl, .ty "tuple", hty, hkit, false, rfl, iteF (q H (Same.refl H))⟩
    | tup l =>
      obtain ⟨a, us, rfl, hS, hI⟩ := hv.tup_inv
      refine ⟨_, rfl, _, _, _, _, true, rfl, .ty "tuple", hty, hkit, true, rfl, iteT ?_⟩
      refine ⟨_, rfl, a, rfl, ⟨_, hS⟩, fun D nD => ?_⟩
      refine lc_tupmap st_RB (R1 := AtV K) (xs := l) (fun d => match d with | .int i => decide (i ∈ pr31) | _ => false) (by have := hl l rfl; omega) hS hI.paired nD (fun x y H2 Q2 hy sm hx q2 => ?_) (fun H2 acc sm eD hP => ?_)
      · refine ⟨rfl, _, rfl, x, _, rfl, (hx.mono sm).isI, q2 _ _ (Same.refl _) ?_⟩
        cases hx with
        | int i =>
          show V.bl (true && inV (.int i) (pr31.map V.int)) = V.bl (decide (i ∈ pr31))
          rw [Bool.true_and, inV_ints]
        | tup h l g => rfl
        | oth h => rfl
      · have e := bools_of hP
        subst e
        refine ⟨D, _, rfl, .inl (.inl eD), ?_⟩
        rw [List.all_map]
        exact q H2 sm
def spConjsD (K : PySem.W.Frag) : Sp := fun vs H Q _ => ∃ (v : V) (pr : Addr) (d : Dv) (ps : List Int), vs = [v, .ref pr] ∧ AtV K H v d ∧ SqT K H pr (ps.map V.int) ∧ ps.length ≤ 1000 ∧ ∀ H', Same H H' → Q (.bl (conjsD d ps)) H'
theorem ok_conjsD (T : Txt K mg) : FnOk P w K mg base CX0 5 T.a__are_conjugates T.d__are_conjugates ["value", "primes"] (spConjsD K) := by
  have G__are_right_sides : FnOk P w K mg base CX0 4 T.a__are_right_sides T.d__are_right_sides ["value", "many", "primes", "i"] (spRights K) := ok_rights T
  refine T.F__are_conjugates.ok sc__are_conjugates (fun vs H Q E h => ?_) (fun cdv A outer s H vs Q E hr h => ?_)
  · obtain ⟨v, pr, d, ps, rfl, _⟩ := h
    rfl
  · obtain ⟨v, pr, d, ps, rfl, hv, hp, hn, q⟩ := h
    refine ⟨_, (pss_cons (ps_set (i := 2) sc__are_conjugates.nd rfl (.inr rfl) (pe_callB call_len_seq (by rfl) T.n_len (by decide +kernel) (pa_cons (pv 1) pa_nil))) 
    (pss_cons (ps_if (PW.pt (pw_or (pt_not (pt_val (pe_callB call_isi (by rfl) T.n_isinstance (by decide +kernel) (pa_cons (pv 0) (pa_cons (pe_bltn (v := .ty "tuple") (by rfl) T.n_tuple (by decide +kernel) rfl) pa_nil))))) (pw_or1 (pt_cmpR op_ne (pe_callB call_len_seq (by rfl) T.n_len (by decide +kernel) (pa_cons (pv 0) pa_nil)) (pv 2) (nomark _))))) 
      (pss_one (ps_ret pe_bl)) pss_nil) 
    (pss_one (ps_ret (pe_callB (cr_all rfl) (by rfl) T.n_all (by decide +kernel) (pa_cons (pe_lc (own := [("i", 3), ("rows", 4)]) (g := gTup K 2 (gCons (gName 3) (gCons (gName 4) gNil))) rfl sc__are_conjugates.nd (Own.pi_enumT (by rfl) T.n_enumerate (pa_cons (pv 0) pa_nil)) (blkOk_by (N := N__are_conjugates) (sc := defScope s__are_conjugates) (own := [("i", 3), ("rows", 4)]) (by decide +kernel)) (fun _ _ _ _ _ => by exact (pg_tup rfl (pgs_cons (pg_name (i := 3) sc__are_conjugates.nd rfl (.inl rfl)) (pgs_cons (pg_name (i := 4) sc__are_conjugates.nd rfl (.inl rfl)) pgs_nil)))) (fun _ _ _ _ _ => pts_nil) (fun _ _ _ _ _ => (pe_call G__are_right_sides (hr.mono (by decide)) (by rfl) T.g__are_right_sides T.F__are_right_sides.kp T.b__are_right_sides .nil pass0 (pa_cons (pv 4) (pa_cons (pe_op op_sub (pe_op op_sub (pv 2) (pv 3)) pe_int) (pa_cons (pv 1) (pa_cons (pv 3) pa_nil))))))) pa_nil)))))), ?_⟩
    obtain ⟨ty, hty, hkit⟩ := hv.isT
    refine ⟨_, rfl, pr, _, rfl, .inr hp, ?_⟩
    rw [List.length_map]
    cases d with
    | int z => exact ⟨_, rfl, _, _, _, _, false, rfl, .ty "tuple", hty, hkit, false, rfl, iteT (q H (Same.refl H))⟩
    | oth => exact ⟨_, rfl, _, _, _, _, false, rfl, .ty "tuple", hty, hkit, false, rfl, iteT (q H (Same.refl H))⟩
    | tup l =>
      obtain ⟨a, us, rfl, hS, hI⟩ := hv.tup_inv
      have et : ∀ (b : Bool), decide (l.length = ps.length) = b → conjsD (.tup l) ps = (b && (List.range l.length).all fun i => rightsD (l.getD i .oth) ((ps.length : Int) - i - 1) ps i) := fun b e => by
        rw [← e]
        rfl
      refine ⟨_, rfl, _, _, _, _, true, rfl, .ty "tuple", hty, hkit, true, rfl, iteF ?_⟩
      refine ⟨_, rfl, a, us, rfl, .inr hS, _, rfl, rfl, _, rfl, ?_⟩
      by_cases hl : l.length = ps.length
      · refine iteB (not_dec (congrArg V.int (by rw [hI.1, hl]))) ?_
        refine ⟨_, rfl, a, us, rfl, hS, fun D nD => ?_⟩
        refine lc_rep (Own.walk_enumT (xs := us)) st_RB (fun i => rightsD (l.getD i .oth) ((ps.length : Int) - i - 1) ps i) (by rw [hI.1]; omega) nD (fun H2 sm => Own.same_tup sm hS) (fun i x H2 H3 Q2 hi sm hY q2 => ?_) (fun H2 acc sm eD hP => ?_)
        · obtain ⟨t, x1, x2, rfl, nt, rfl, g1, g2⟩ := hY
          have e1 : x1 = .int (i : Int) := (Option.some.inj g1).symm
          subst e1
          have g2 : us[i]? = some x2 := g2
          obtain ⟨dd, ed⟩ : ∃ dd, l[i]? = some dd := ⟨_, List.getElem?_eq_getElem (by rw [← hI.1]; exact hi)⟩
          have s2 := sm.trans (same_new (o := .tup [V.int (i : Int), x2]) nt)
          rw [getD_some ed] at q2
          refine ⟨t, [.int (i : Int), x2], rfl, .inl (.inl upd_same), rfl, _, [x2], rfl, _, [], rfl, rfl, rfl, ?_⟩
          exact ⟨_, rfl, _, rfl, _, rfl, _, _, rfl, rfl, _, _, rfl, rfl, _, rfl, _, rfl, x2, pr, dd, _, ps, i, rfl, (hI.2 i x2 dd g2 ed).mono s2, Own.same_tup s2 hp, hn, by omega, by rw [← hl, ← hI.1]; exact hi, fun H4 s4 => q2 _ _ ((same_new nt).trans s4) rfl⟩
        · have e := bools_of hP
          rw [hI.1] at e
          subst e
          have hq := q H2 sm
          rw [et true (decide_eq_true hl), Bool.true_and] at hq
          refine ⟨D, _, rfl, .inl (.inl eD), ?_⟩
          rw [List.all_map]
          exact hq
      · refine iteA (bl_ne (by rw [hI.1]; omega)) ?_
        have hq := q H (Same.refl H)
        rw [et false (decide_eq_false hl), Bool.false_and] at hq
        exact hq
/-- the product of primes, however many (at most 1000) -/
def spOrderOf (K : PySem.W.Frag) : Sp := fun vs H Q _ => ∃ (pr : Addr) (ps : List Int), vs = [.ref pr] ∧ SqT K H pr (ps.map V.int) ∧ (∀ p ∈ ps, p ∈ pr31) ∧ ps.length ≤ 10 ∧ Q (.int (prodN ps : Int)) H
theorem prod31 : ∀ {rt : List Int}, (∀ p ∈ rt, p ∈ pr31) → prodN rt ≤ 32 ^ rt.length
  | [], _ => Nat.le_refl _
  | p :: rt, h => by
    have h1 := pr31_in (h p (List.mem_cons_self ..))
    have h2 := prod31 (rt := rt) fun q hq => h q (List.mem_cons_of_mem _ hq)
    rw [prodN, List.length_cons, Nat.pow_succ, Nat.mul_comm (32 ^ rt.length)]
    exact Nat.mul_le_mul (by omega) h2
theorem ok_orderOf (T : Txt K mg) : FnOk P w K mg base CX0 1 T.a__order_of T.d__order_of ["primes"] (spOrderOf K) := by
  refine T.F__order_of.ok sc__order_of (fun vs H Q E h => ?_) (fun cdv A outer s H vs Q E hr h => ?_)
  · obtain ⟨pr, ps, rfl, _⟩ := h
    rfl
  · obtain ⟨pr, ps, rfl, hp, hpr, hn, q⟩ := h
    refine ⟨_, (pss_cons (ps_set (i := 1) sc__order_of.nd rfl (.inl rfl) pe_int) 
    (pss_cons (ps_for PassesOwn.never rfl (pi_tup (pv 0)) (pg_name (i := 2) sc__order_of.nd rfl (.inl rfl)) 
      (pss_one (ps_set (i := 1) sc__order_of.nd rfl (.inl rfl) (pe_op op_mulW (pv 1) (pv 2))))) 
    (pss_one (ps_ret (pv 1))))), ?_⟩
    refine ⟨_, rfl, pr, rfl, ⟨_, hp⟩, for_tup (xs := ps.map V.int) (fun i σ H' => H' = H ∧ ∃ y2, σ = [some (.ref pr), some (.int (prodN (ps.take i) : Int)), y2])
      ⟨rfl, none, rfl⟩ (fun i σ H' _ ⟨e, _⟩ => by rw [e]; exact hp) ?_ ?_⟩
    · rintro i x σ H' hi ⟨rfl, y2, rfl⟩
      rw [List.getElem?_map] at hi
      cases hx : ps[i]? with
      | none => rw [hx] at hi; cases hi
      | some p =>
        rw [hx] at hi
        cases hi
        have hp2 := pr31_in (hpr p (List.mem_of_getElem? hx))
        have hk : prodN (ps.take i) < 2 ^ 51 := by
          have h1 := prod31 (rt := ps.take i) fun p h => hpr p (List.mem_of_mem_take h)
          have h2 : 32 ^ (ps.take i).length ≤ 32 ^ 10 := Nat.pow_le_pow_right (by decide) (by rw [List.length_take]; omega)
          have h3 : 32 ^ 10 < 2 ^ 51 := by decide
          omega
        refine ⟨_, rfl, _, rfl, _, _, rfl, rfl, wide_mul (a := 51) (b := 5 + 1) (by omega) (by omega) (by decide) (by decide) (by decide), rfl, some (.int p), ?_⟩
        rw [List.take_add_one, hx, prodN_app]
        show [_, _, _] = [_, some (V.int ((prodN (ps.take i) * (p.toNat * 1) : Nat) : Int)), _]
        rw [Nat.mul_one, Int.natCast_mul, Int.toNat_of_nonneg (by omega)]
    · rintro σ H' ⟨rfl, y2, rfl⟩
      rw [List.length_map, List.take_length]
      exact ⟨_, rfl, q⟩
/-! ### Refused -/
abbrev s_RI : Stmt := inClass (topS 3) 0
theorem sc_RI : FnScope ["self", "reason"] ["self", "reason"] (defScope s_RI) := ⟨rfl, rfl, rfl, by decide +kernel, rfl, by decide +kernel, by decide +kernel⟩
def spRI (C : Addr) : Sp := fun vs H Q _ => ∃ (a : Addr) (r : Str), vs = [.ref a, .str r] ∧ ((Str.empty ++ ("refused: " : Str)) ++ r).length ≤ sizeLine ∧ r.length ≤ sizeLine ∧ H a = some (exo a C none) ∧
  ∀ dx, H dx = none → dx ≠ a → Q .non (upd (upd H dx (exd dx [(("reason" : Str), .str r)])) a (exo a C (some dx)))
theorem ok_RI (R : RefC K mg s_RI) : FnOk P w K mg base CX0 1 R.fI R.dI ["self", "reason"] (spRI R.C) := by
  refine R.FI.ok sc_RI (fun vs H Q E h => ?_) (fun cdv A outer s H vs Q E hr h => ?_)
  · obtain ⟨a, r, rfl, _⟩ := h
    rfl
  · obtain ⟨a, r, rfl, hl, hl2, ha, q⟩ := h
    refine ⟨_, pss_cons (ps_expr (pe_finit (by rfl) R.gF R.rF R.vF (pa_cons (pv 0) (pa_cons (pe_joined (.cons pe_str (.cons (pe_fmt (pv 1)) .nil))) pa_nil)))) (pss_one (ps_ost (pv 0) (pv 1))), ?_⟩
    refine ⟨_, rfl, _, rfl, by decide +kernel, _, rfl, .inl ⟨r, rfl, hl2, r, rfl, hl, ?_⟩⟩
    refine ⟨a, R.C, _, rfl, by show 1 ≤ 1000; decide, R.ox, ha, ?_⟩
    exact ⟨_, rfl, _, rfl, a, R.C, rfl, R.ox, R.nf, .inl ⟨ha, fun dx h1 h2 => q dx h1 h2⟩⟩
/-! ### C(..) whose __init__ may raise, in a try -/
namespace Own
open PySem PySem.Spec PyProof.Rows L2
def tMakeS (C : Addr) (sp : Sp) (E : L2.St → XK) (t : TA) : TE := fun σ H Q => t σ H fun vs H1 => ∀ x dx, H1 x = none → H1 dx = none → dx ≠ x → sp (.ref x :: vs) (upd (upd H1 dx (.own x)) x (.ins C dx [])) (fun v H2 => v = .non ∧ Q (.ref x) H2) (E σ)
theorem pe_makeS {X : Cx} {CX : CXT} {k : Nat} {f C : Addr} {fd : FuncData} {ps : List Str} {sp : Sp} {E : L2.St → XK} {x : Str} {p pos : Pos} {e : Expr} {es : List Expr} {t : TA} (M : Mk X.K C f) (F : FnOk X.prog X.w X.K X.mg X.base CX k f fd ps sp) (hr : Room (k + 1) X.A) (hg : Gl X x) (hm : X.mg x = some (.ref C)) (hb : L2.Binds X.K fd ps []) (hx : ∀ σ, PassesAt CX X σ (E σ)) (ha : PA X (e :: es) t)
    (hd : (x == ("__debug__" : Str)) = false := by decide) (he : starEach (e :: es) X.env = (false, eval e X.env) :: starEach es X.env := by rfl) (hp : (backTo pos (starEach es X.env)).any (·.1) = false := by rfl) : PE X (.Call (.Name x p) (e :: es) [] pos) (tMakeS C sp E t) :=
  ⟨fun pins s σ H Q I h => wpAny_Call_Name_kw (ld_glob I hg hm (PySem.W.callWith_K (h₀ := X.base) I.ok.mod.kin M.kp (thn (ha.run pos pins s σ H _ I h) fun us s1 ⟨vs, H1, I1, r, q⟩ => ⟨I1.kIn, by
    have new := q (s1.heap.objs.size + 1) s1.heap.objs.size (I1.hok.fresh (Nat.le_succ _)) (I1.hok.fresh (Nat.le_refl _)) (Nat.ne_of_lt (Nat.lt_succ_self _))
    have J := Inv.made (C := C) I1
    have rs : Vals (V.ref (s1.heap.objs.size + 1) :: vs) (Value.ref (s1.heap.objs.size + 1) :: us) := .cons rfl r
    have len : (Value.ref (s1.heap.objs.size + 1) :: us).length = ps.length := by rw [← rs.length]; exact F.len _ _ _ _ new
    have bd := hb _ (Value.ref (s1.heap.objs.size + 1) :: us) J.kIn (by simpa using len)
    refine wpAny_call (make_map (f := f) I1.kIn M.makes M.init (beq_iff_eq.mp M.fn) (codeAny_mono (F.run _ X.stack _ _ ⟨Value.ref (s1.heap.objs.size + 1) :: us, []⟩ (Value.ref (s1.heap.objs.size + 1) :: us) _ _ (E σ) (hr.make C us []) (J.env0.make C us []) (by simpa using bd) rs new) fun z s' hq => ?_))
    match z, hq with
    | .error e, hq => exact hx σ pins _ _ e s' J hq
    | .ok (.ret u), hq =>
      obtain ⟨v, H', J', rv, ev, q3⟩ := J.after hq
      subst ev
      exact ⟨rv, V.ref (s1.heap.objs.size + 1), H', J', rfl, q3⟩⟩) he hp) hd)⟩
end Own
/-! ### the class Presentation -/
def psD : Dv → List Int
  | .tup l => l.map fun d => match d with | .int i => i | _ => 0
  | _ => []
def formD (dp dw dc : Dv) : Bool := primesD dp && (powersD dw (psD dp) && conjsD dc (psD dp))
def Big (ps : List Int) : Prop := 10 < ps.length ∨ 1024 < prodN ps
theorem primesD_ints {d : Dv} (h : primesD d = true) : d = .tup ((psD d).map Dv.int) ∧ ∀ p ∈ psD d, p ∈ pr31 := by
  cases d with
  | int i => cases h
  | oth => cases h
  | tup l =>
    have h : l.all (fun d => match d with | .int i => decide (i ∈ pr31) | _ => false) = true := h
    have key : ∀ d ∈ l, ∃ i, d = .int i ∧ i ∈ pr31 := fun d hd => by
      have := List.all_eq_true.mp h d hd
      cases d with
      | int i => exact ⟨i, rfl, of_decide_eq_true this⟩
      | tup l => cases this
      | oth => cases this
    constructor
    · show Dv.tup l = Dv.tup ((l.map _).map Dv.int)
      rw [List.map_map]
      congr 1
      have : l.map id = l.map (Dv.int ∘ fun d => match d with | .int i => i | _ => 0) := List.map_congr_left fun d hd => by
        obtain ⟨i, rfl, _⟩ := key d hd
        rfl
      rw [List.map_id] at this
      exact this
    · intro p hp
      obtain ⟨d, hd, rfl⟩ := List.mem_map.mp hp
      obtain ⟨i, rfl, hi⟩ := key d hd
      exact hi
/-- the attributes in the order in which they are set -/
def pFs (px wx cx : V) (ps : List Int) : List (Str × V) := [("n", .int (ps.length : Int)), ("primes", px), ("powers", wx), ("conjugates", cx), ("order", .int (prodN ps : Int))]
theorem pFs_eq (px wx cx : V) (ps : List Int) : putF "order" (.int (prodN ps : Int)) (putF "conjugates" cx (putF "powers" wx (putF "primes" px (putF "n" (.int (ps.length : Int)) [])))) = pFs px wx cx ps := by
  have n01 : ¬ (("n" : Str) = "primes") := by decide +kernel
  have n02 : ¬ (("n" : Str) = "powers") := by decide +kernel
  have n03 : ¬ (("n" : Str) = "conjugates") := by decide +kernel
  have n04 : ¬ (("n" : Str) = "order") := by decide +kernel
  have n12 : ¬ (("primes" : Str) = "powers") := by decide +kernel
  have n13 : ¬ (("primes" : Str) = "conjugates") := by decide +kernel
  have n14 : ¬ (("primes" : Str) = "order") := by decide +kernel
  have n23 : ¬ (("powers" : Str) = "conjugates") := by decide +kernel
  have n24 : ¬ (("powers" : Str) = "order") := by decide +kernel
  have n34 : ¬ (("conjugates" : Str) = "order") := by decide +kernel
  simp only [putF, if_neg n01, if_neg n02, if_neg n03, if_neg n04, if_neg n12, if_neg n13, if_neg n14, if_neg n23, if_neg n24, if_neg n34]
  rfl
theorem pFs_get (px wx cx : V) (ps : List Int) : (pFs px wx cx ps).lookup ("n" : Str) = some (.int (ps.length : Int)) ∧ (pFs px wx cx ps).lookup ("primes" : Str) = some px ∧ (pFs px wx cx ps).lookup ("powers" : Str) = some wx ∧ (pFs px wx cx ps).lookup ("conjugates" : Str) = some cx ∧ (pFs px wx cx ps).lookup ("order" : Str) = some (.int (prodN ps : Int)) := by
  refine ⟨?_, ?_, ?_, ?_, ?_⟩ <;> rfl
theorem pFs_no (px wx cx : V) (ps : List Int) : (pFs px wx cx ps).lookup ("is_row" : Str) = none ∧ (pFs px wx cx ps).lookup ("conjugate_row" : Str) = none ∧ (pFs px wx cx ps).lookup ("letters" : Str) = none := by
  refine ⟨?_, ?_, ?_⟩ <;> rfl
theorem sqt_ins {H : Hp} {a b C dx : Addr} {fs : List (Str × V)} {o : HO} {xs : List V} (ha : H a = some (.ins C dx fs)) (h : SqT K H b xs) : SqT K (upd H a o) b xs := by
  rcases h with (h | ⟨p, h⟩) | h
  · exact .inl (.inl (by rw [upd_ne (fun z => by rw [z, ha] at h; cases h)]; exact h))
  · exact .inl (.inr ⟨p, by rw [upd_ne (fun z => by rw [z, ha] at h; cases h)]; exact h⟩)
  · exact .inr h
/-- a Presentation at a -/
def PrAt (C : Addr) (H : Hp) (a : Addr) (px wx cx : V) (ps : List Int) : Prop := ∃ dx, H a = some (.ins C dx (pFs px wx cx ps))
def spPInit (K : PySem.W.Frag) (C CM CR : Addr) : Sp := fun vs H Q E => ∃ (a dx : Addr) (px wx cx : V) (dp dw dc : Dv), vs = [.ref a, px, wx, cx] ∧ H a = some (.ins C dx []) ∧ AtV K H px dp ∧ AtV K H wx dw ∧ AtV K H cx dc ∧ (∀ l, dp = .tup l → l.length ≤ 1000) ∧
  (formD dp dw dc = false → ∀ H', Same H H' → E (.ref CM) none H') ∧
  (formD dp dw dc = true → (Big (psD dp) → ∀ d H1 H', Same H H1 → H1 d = none → (∀ b, b ≠ d → H' b = H1 b) → H' d = some (.xd [(("reason" : Str), .str "large")]) → E (.ref CR) (some d) H') ∧
    (¬ Big (psD dp) → ∀ H', SameX a H H' → PrAt C H' a px wx cx (psD dp) → Q .non H'))
theorem ok_PInit (R : RefC K mg s_RI) (C_Malformed : ClMalformed K mg) (C_Presentation : ClPresentation K mg) (T : Txt K mg) : FnOk P w K mg base (L2.CX P w) 6 C_Presentation.a___init__ C_Presentation.d___init__ ["self", "primes", "powers", "conjugates"] (spPInit K C_Presentation.C C_Malformed.C R.C) := by
  have G__are_primes : FnOk P w K mg base CX0 3 T.a__are_primes T.d__are_primes ["value"] (spPrimesD K) := ok_primesD T
  have G__are_powers : FnOk P w K mg base CX0 4 T.a__are_powers T.d__are_powers ["value", "primes"] (spPowersD K) := ok_powersD T
  have G__are_conjugates : FnOk P w K mg base CX0 5 T.a__are_conjugates T.d__are_conjugates ["value", "primes"] (spConjsD K) := ok_conjsD T
  have G__order_of : FnOk P w K mg base CX0 1 T.a__order_of T.d__order_of ["primes"] (spOrderOf K) := ok_orderOf T
  have G_RI : FnOk P w K mg base CX0 1 R.fI R.dI ["self", "reason"] (spRI R.C) := ok_RI R
  refine C_Presentation.F___init__.okX sc_Presentation___init__ (fun vs H Q E h => ?_) (fun cdv A outer s H vs Q E hr h => ?_)
  · obtain ⟨a, dx, px, wx, cx, dp, dw, dc, rfl, _⟩ := h
    rfl
  · obtain ⟨a, dx, px, wx, cx, dp, dw, dc, rfl, ha, hp, hw, hc, hl, hE, hQ⟩ := h
    refine ⟨_, (pss_cons (ps_if (pt_not (pt_val (pe_call G__are_primes (hr.mono (by decide)) (by rfl) T.g__are_primes T.F__are_primes.kp T.b__are_primes .nil pass0 (pa_cons (pv 1) pa_nil)))) 
      (pss_one (ps_raise rfl (takes_of rfl rfl rfl rfl) (pmk_own C_Malformed.F C_Malformed.q C_Malformed.gC C_Malformed.kC (raises_own C_Malformed.eC C_Malformed.yC) rfl))) pss_nil) 
    (pss_cons (ps_if (pt_not (pt_val (pe_call G__are_powers (hr.mono (by decide)) (by rfl) T.g__are_powers T.F__are_powers.kp T.b__are_powers .nil pass0 (pa_cons (pv 2) (pa_cons (pv 1) pa_nil))))) 
      (pss_one (ps_raise rfl (takes_of rfl rfl rfl rfl) (pmk_own C_Malformed.F C_Malformed.q C_Malformed.gC C_Malformed.kC (raises_own C_Malformed.eC C_Malformed.yC) rfl))) pss_nil) 
    (pss_cons (ps_if (pt_not (pt_val (pe_call G__are_conjugates (hr.mono (by decide)) (by rfl) T.g__are_conjugates T.F__are_conjugates.kp T.b__are_conjugates .nil pass0 (pa_cons (pv 3) (pa_cons (pv 1) pa_nil))))) 
      (pss_one (ps_raise rfl (takes_of rfl rfl rfl rfl) (pmk_own C_Malformed.F C_Malformed.q C_Malformed.gC C_Malformed.kC (raises_own C_Malformed.eC C_Malformed.yC) rfl))) pss_nil) 
    (pss_cons (ps_if (PW.pt (pw_or (pt_cmpR op_gt (pe_callB call_len_seq (by rfl) T.n_len (by decide +kernel) (pa_cons (pv 1) pa_nil)) (pe_glob (v := .int 10) (by rfl) T.g_MOST_GENERATORS T.r_MOST_GENERATORS) (nomark _)) (pw_or1 (pt_cmpR op_gt (pe_call G__order_of (hr.mono (by decide)) (by rfl) T.g__order_of T.F__order_of.kp T.b__order_of .nil pass0 (pa_cons (pv 1) pa_nil)) (pe_glob (v := .int 1024) (by rfl) T.g_MOST_ORDER T.r_MOST_ORDER) (nomark _))))) 
      (pss_one (ps_raise rfl (takes_of rfl rfl rfl rfl) (pmk_oex R.ox R.iC R.tI G_RI (hr.mono (by decide)) R.bI .nil pass0 (by rfl) R.gC (pa_cons pe_str pa_nil)))) pss_nil) 
    (pss_cons (ps_fld (pv 0) (pe_callB call_len_seq (by rfl) T.n_len (by decide +kernel) (pa_cons (pv 1) pa_nil)) rfl) 
    (pss_cons (ps_fld (pv 0) (pv 1) rfl) 
    (pss_cons (ps_fld (pv 0) (pv 2) rfl) 
    (pss_cons (ps_fld (pv 0) (pv 3) rfl) 
    (pss_one (ps_fld (pv 0) (pe_call G__order_of (hr.mono (by decide)) (by rfl) T.g__order_of T.F__order_of.kp T.b__order_of .nil pass0 (pa_cons (pv 1) pa_nil)) rfl)))))))))), ?_⟩
    refine ⟨_, rfl, px, dp, rfl, hp, hl, fun H1 s1 => ⟨_, rfl, ite2 (fun c1 => ?_) (fun c1 => ?_)⟩⟩
    · have e1 : primesD dp = false := by simpa using c1
      exact hE (by unfold formD; rw [e1, Bool.false_and]) H1 s1
    have e1 : primesD dp = true := by simpa using c1
    obtain ⟨ed, hpr⟩ := primesD_ints e1
    have hp' := hp
    rw [ed] at hp'
    obtain ⟨pr, us, rfl, hS, hI⟩ := hp'.tup_inv
    have eu := items_ints hI
    subst eu
    have hpl : (psD dp).length ≤ 1000 := by
      have := hl _ ed
      rw [List.length_map] at this
      exact this
    generalize hps : psD dp = ps at *
    refine ⟨_, rfl, _, rfl, wx, pr, dw, ps, rfl, hw.mono s1, Own.same_tup s1 hS, hpl, fun H2 s2 => ⟨_, rfl, ite2 (fun c2 => ?_) (fun c2 => ?_)⟩⟩
    · have e2 : powersD dw ps = false := by simpa using c2
      exact hE (by unfold formD; rw [hps, e1, e2, Bool.true_and, Bool.false_and]) H2 (s1.trans s2)
    have e2 : powersD dw ps = true := by simpa using c2
    have s12 := s1.trans s2
    refine ⟨_, rfl, _, rfl, cx, pr, dc, ps, rfl, hc.mono s12, Own.same_tup s12 hS, hpl, fun H3 s3 => ⟨_, rfl, ite2 (fun c3 => ?_) (fun c3 => ?_)⟩⟩
    · have e3 : conjsD dc ps = false := by simpa using c3
      exact hE (by unfold formD; rw [hps, e1, e2, e3, Bool.true_and, Bool.true_and]) H3 (s12.trans s3)
    have e3 : conjsD dc ps = true := by simpa using c3
    have s13 := s12.trans s3
    obtain ⟨hbig, hok⟩ := hQ (by unfold formD; rw [hps, e1, e2, e3]; rfl)
    have hS3 := Own.same_tup s13 hS
    -- raise Refused
    have lrg : Big ps → ∀ σ, tMkO R.C (spRI R.C) [] (tCons (tC (.str "large")) tNil) σ H3 fun cls d H' => E cls d H' := fun hb σ => by
      refine ⟨by show 1 ≤ 1000; decide, fun x nx => ?_⟩
      refine ⟨x, "large", rfl, by decide +kernel, by decide +kernel, upd_same, fun dy ndy hne => ⟨rfl, dy, _, upd_same, by rw [upd_ne hne, upd_same], ?_, ?_⟩⟩
      · rw [upd_ne hne] at ndy
        exact ndy
      · have nd : H3 dy = none := by
          rw [upd_ne hne] at ndy
          exact ndy
        refine hbig hb dy H3 _ s13 nd (fun b hb2 => ?_) upd_same
        rw [upd_ne hb2]
        by_cases hx : b = x
        · rw [hx, del_same, nx]
        · rw [del_ne hx, upd_ne hx, upd_ne hb2, upd_ne hx]
    refine ⟨_, rfl, pr, _, rfl, .inr hS3, ?_⟩
    rw [List.length_map]
    refine ⟨_, _, rfl, rfl, _, rfl, ite2 (fun c4 => iteT (lrg (.inl ?_) _)) (fun c4 => ?_)⟩
    · have := of_decide_eq_true c4
      omega
    have hl10 : ps.length ≤ 10 := by
      have h : ¬ ((ps.length : Int) > 10) := fun z => c4 (decide_eq_true z)
      omega
    refine ⟨_, rfl, pr, ps, rfl, hS3, hpr, hl10, _, _, rfl, rfl, _, rfl, ite2 (fun c5 => lrg (.inr ?_) _) (fun c5 => ?_)⟩
    · have := of_decide_eq_true c5
      omega
    have hnb : ¬ Big ps := by
      have h : ¬ ((prodN ps : Int) > 1024) := fun z => c5 (decide_eq_true z)
      intro hb
      rcases hb with hb | hb <;> omega
    have ha3 := s13 _ _ ha
    refine ⟨_, rfl, pr, _, rfl, .inr hS3, _, rfl, a, _, dx, _, rfl, ha3, C_Presentation.cl, C_Presentation.n_n, by decide, ?_⟩
    rw [List.length_map]
    have sx1 : SameX a H (upd H3 a (.ins C_Presentation.C dx (putF "n" (.int (ps.length : Int)) []))) := (Same.x s13).trans SameX.put
    have hS4 := sqt_ins (o := .ins C_Presentation.C dx (putF "n" (.int (ps.length : Int)) [])) ha3 hS3
    have ha4 : (upd H3 a (.ins C_Presentation.C dx (putF "n" (.int (ps.length : Int)) []))) a = some (.ins C_Presentation.C dx (putF "n" (.int (ps.length : Int)) [])) := upd_same
    generalize upd H3 a (.ins C_Presentation.C dx (putF "n" (.int (ps.length : Int)) [])) = H4 at *
    refine ⟨_, rfl, _, rfl, a, _, dx, _, rfl, ha4, C_Presentation.cl, C_Presentation.n_primes, by show 1 < 1000; decide, ?_⟩
    have sx2 := sx1.trans (SameX.put (u := .ins C_Presentation.C dx (putF "primes" (.ref pr) (putF "n" (.int (ps.length : Int)) []))))
    have hS5 := sqt_ins (o := .ins C_Presentation.C dx (putF "primes" (.ref pr) (putF "n" (.int (ps.length : Int)) []))) ha4 hS4
    refine ⟨_, rfl, _, rfl, a, _, dx, _, rfl, upd_same, C_Presentation.cl, C_Presentation.n_powers, by show 2 < 1000; decide, ?_⟩
    refine ⟨_, rfl, _, rfl, a, _, dx, _, rfl, upd_same, C_Presentation.cl, C_Presentation.n_conjugates, by show 3 < 1000; decide, ?_⟩
    refine ⟨_, rfl, pr, ps, rfl, sqt_ins upd_same (sqt_ins upd_same hS5), hpr, hl10, _, rfl, a, _, dx, _, rfl, upd_same, C_Presentation.cl, C_Presentation.n_order, by show 4 < 1000; decide, ?_⟩
    refine hok hnb _ (((sx2.trans SameX.put).trans SameX.put).trans SameX.put) ⟨dx, ?_⟩
    rw [upd_same, pFs_eq]
/-! ### its methods -/
def spPRow (K : PySem.W.Frag) (C : Addr) : Sp := fun vs H Q _ => ∃ (a pr : Addr) (v wx cx : V) (d : Dv) (ps : List Int), vs = [.ref a, v] ∧ PrAt C H a (.ref pr) wx cx ps ∧ SqT K H pr (ps.map V.int) ∧ AtV K H v d ∧ ps.length ≤ 1000 ∧ ∀ H', Same H H' → Q (.bl (rowD d ps)) H'
theorem ok_PRow (C_Presentation : ClPresentation K mg) (T : Txt K mg) : FnOk P w K mg base CX0 3 C_Presentation.a_is_row C_Presentation.d_is_row ["self", "value"] (spPRow K C_Presentation.C) := by
  have G__is_row : FnOk P w K mg base CX0 2 T.a__is_row T.d__is_row ["value", "primes"] (spRowD K) := ok_rowD T
  refine C_Presentation.F_is_row.ok sc_Presentation_is_row (fun vs H Q E h => ?_) (fun cdv A outer s H vs Q E hr h => ?_)
  · obtain ⟨a, pr, v, wx, cx, d, ps, rfl, _⟩ := h
    rfl
  · obtain ⟨a, pr, v, wx, cx, d, ps, rfl, ⟨dx, ha⟩, hp, hv, hn, q⟩ := h
    refine ⟨_, (pss_one (ps_ret (pe_call G__is_row (hr.mono (by decide)) (by rfl) T.g__is_row T.F__is_row.kp T.b__is_row .nil pass0 (pa_cons (pv 1) (pa_cons (pe_fld (pv 0) rfl) pa_nil))))), ?_⟩
    exact ⟨_, rfl, _, rfl, a, _, dx, _, _, rfl, ha, C_Presentation.cl, C_Presentation.n_primes, (pFs_get _ _ _ _).2.1, v, pr, d, ps, rfl, hv, hp, hn, q⟩
def spPConj (K : PySem.W.Frag) (C : Addr) : Sp := fun vs H Q _ => ∃ (a c t : Addr) (px wx v : V) (ps : List Int) (us vs2 : List V) (i j : Nat), vs = [.ref a, .int (i : Int), .int (j : Int)] ∧ PrAt C H a px wx (.ref c) ps ∧ SqT K H c us ∧ us[i]? = some (.ref t) ∧ SqT K H t vs2 ∧ i < j ∧ vs2[j - i - 1]? = some v ∧ Q v H
theorem ok_PConj (C_Presentation : ClPresentation K mg) (T : Txt K mg) : FnOk P w K mg base CX0 1 C_Presentation.a_conjugate_row C_Presentation.d_conjugate_row ["self", "i", "j"] (spPConj K C_Presentation.C) := by
  refine C_Presentation.F_conjugate_row.ok sc_Presentation_conjugate_row (fun vs H Q E h => ?_) (fun cdv A outer s H vs Q E hr h => ?_)
  · obtain ⟨a, c, t, px, wx, v, ps, us, vs2, i, j, rfl, _⟩ := h
    rfl
  · obtain ⟨a, c, t, px, wx, v, ps, us, vs2, i, j, rfl, ⟨dx, ha⟩, hc, hu, ht, hij, hv, q⟩ := h
    refine ⟨_, (pss_one (ps_ret (pe_ix ix_tup (pe_ix ix_tup (pe_fld (pv 0) rfl) (pv 1) (fun _ _ => rfl)) (pe_op op_sub (pe_op op_sub (pv 2) (pv 1)) pe_int) (fun _ _ => rfl)))), ?_⟩
    refine ⟨_, rfl, a, _, dx, _, _, rfl, ha, C_Presentation.cl, C_Presentation.n_conjugates, (pFs_get _ _ _ _).2.2.2.1, _, rfl, c, us, (i : Int), _, rfl, rfl, hc, atI_nat hu, _, rfl, _, rfl, _, _, rfl, rfl, _, _, rfl, rfl, t, vs2, _, v, rfl, rfl, ht, ?_, q⟩
    rw [show (j : Int) - (i : Int) - 1 = ((j - i - 1 : Nat) : Int) by omega]
    exact atI_nat hv
/-- the letters of a row -/
def letF : Nat → List Int → List Int
  | _, [] => []
  | k, x :: r => List.replicate x.toNat ((k : Int) + 1) ++ letF (k + 1) r
theorem letF_take : ∀ (r : List Int) (k i : Nat), i < r.length → letF k (r.take (i + 1)) = letF k (r.take i) ++ List.replicate (atR r i).toNat (((k + i : Nat) : Int) + 1)
  | [], _, _, h => by cases h
  | x :: r, k, 0, _ => by
    rw [List.take_succ_cons, List.take_zero, List.take_zero]
    simp only [letF, List.append_nil, List.nil_append, atR_cons, Nat.add_zero]
  | x :: r, k, i + 1, h => by
    rw [List.take_succ_cons, List.take_succ_cons, letF, letF, letF_take r (k + 1) i (Nat.lt_of_succ_lt_succ h), atR_succ, List.append_assoc, show k + 1 + i = k + (i + 1) by omega]
theorem letF_len : ∀ (r : List Int) (k : Nat), (∀ x ∈ r, x ≤ 31) → (letF k r).length ≤ r.length * 31
  | [], _, _ => Nat.le_refl _
  | x :: r, k, h => by
    have h1 := h x (List.mem_cons_self ..)
    have h2 := letF_len r (k + 1) fun y hy => h y (List.mem_cons_of_mem _ hy)
    rw [letF, List.length_append, List.length_replicate, List.length_cons]
    omega
def spPLet (K : PySem.W.Frag) : Sp := fun vs H Q _ => ∃ (z rv : V) (r : List Int), vs = [z, rv] ∧ RS K H rv r ∧ r.length ≤ 10 ∧ (∀ x ∈ r, 0 ≤ x ∧ x ≤ 31) ∧ ∀ H' z', Same H H' → RS K H' z' (letF 0 r) → Q z' H'
theorem ok_PLet (C_Presentation : ClPresentation K mg) (T : Txt K mg) : FnOk P w K mg base CX0 1 C_Presentation.a_letters C_Presentation.d_letters ["self", "row"] (spPLet K) := by
  refine C_Presentation.F_letters.ok sc_Presentation_letters (fun vs H Q E h => ?_) (fun cdv A outer s H vs Q E hr h => ?_)
  · obtain ⟨z, rv, r, rfl, _⟩ := h
    rfl
  · obtain ⟨z, rv, r, rfl, ⟨rt, rfl, hS⟩, hn, hx, q⟩ := h
    refine ⟨_, (pss_one (ps_ret (pe_callTy call_tuple_of (by rfl) T.n_tuple (by decide +kernel) (pa_cons (pe_lc2 (own := [("at", 2), ("item", 3), ("_", 4)]) (vs1 := [4]) (g := gTup K 2 (gCons (gName 2) (gCons (gName 3) gNil))) rfl sc_Presentation_letters.nd (Own.pi_enumT (by rfl) T.n_enumerate (pa_cons (pv 1) pa_nil)) (blkOk_by (N := N_Presentation_letters) (sc := defScope s_Presentation_letters) (own := [("at", 2), ("item", 3), ("_", 4)]) (by decide +kernel)) (by decide)
      (fun _ _ _ _ _ => by exact (pg_tup rfl (pgs_cons (pg_name (i := 2) sc_Presentation_letters.nd rfl (.inl rfl)) (pgs_cons (pg_name (i := 3) sc_Presentation_letters.nd rfl (.inl rfl)) pgs_nil)))) (fun _ _ _ _ _ => pts_nil)
      (fun _ _ _ _ _ => (pi_range1 (by rfl) T.n_range (pa_cons (pv 3) pa_nil))) (fun _ _ _ _ _ => (pg_name (i := 4) sc_Presentation_letters.nd rfl (.inl rfl))) (fun _ _ _ _ _ => pts_nil) (fun _ _ _ _ _ => (pe_op op_add (pv 2) pe_int))) pa_nil)))), ?_⟩
    refine ⟨_, rfl, rt, _, rfl, hS, fun D nD => ⟨fun i m H2 => m = r.length - i ∧ i ≤ r.length ∧ Same H H2 ∧ H2 D = some (.lst ((letF 0 (r.take i)).map V.int)), ⟨r.length, rfl, Nat.zero_le _, same_new nD, by rw [upd_same]; rfl⟩, ?_⟩⟩
    rintro i m H2 ⟨rfl, hi, sm, eD⟩
    have hS2 := Own.same_tup sm hS
    rcases Nat.lt_or_ge i r.length with c | c
    · refine .inr ⟨⟨_, _, hS2, by rw [List.getElem?_map, atR_get c]; rfl⟩, fun H' => i + 1 ≤ r.length ∧ Same H H' ∧ H' D = some (.lst ((letF 0 (r.take (i + 1))).map V.int)), fun H' ⟨h1, h2, h3⟩ => ⟨r.length - (i + 1), by omega, rfl, h1, h2, h3⟩, ?_⟩
      rintro x H3 ⟨t, y, rfl, nt, rfl, hy⟩
      have ey : y = .int (atR r i) := by
        have := hy _ hS2
        rw [List.getElem?_map, atR_get c] at this
        exact (Option.some.inj this).symm
      subst ey
      have hxi := hx _ (atR_in c)
      refine ⟨t, [.int (i : Int), .int (atR r i)], rfl, .inl (.inl upd_same), rfl, _, [.int (atR r i)], rfl, _, [], rfl, rfl, rfl, ?_⟩
      have s3 := sm.trans (same_new (o := .tup [V.int (i : Int), V.int (atR r i)]) nt)
      have eD3 := same_new (o := .tup [V.int (i : Int), V.int (atR r i)]) nt _ _ eD
      generalize upd H2 t (.tup [V.int (i : Int), V.int (atR r i)]) = H3 at *
      refine yesT ?_
      refine ⟨_, rfl, atR r i, rfl, by omega, by omega, fun j k H4 => k = (atR r i).toNat - j ∧ j ≤ (atR r i).toNat ∧ Same H H4 ∧ H4 D = some (.lst ((letF 0 (r.take i) ++ List.replicate j ((i : Int) + 1)).map V.int)), ⟨_, rfl, Nat.zero_le _, s3, by rw [List.replicate_zero, List.append_nil]; exact eD3⟩, ?_⟩
      rintro j k H4 ⟨rfl, hj, s4, eD4⟩
      rcases Nat.lt_or_ge j (atR r i).toNat with c2 | c2
      · refine .inr ⟨c2, fun H' => j + 1 ≤ (atR r i).toNat ∧ Same H H' ∧ H' D = some (.lst ((letF 0 (r.take i) ++ List.replicate (j + 1) ((i : Int) + 1)).map V.int)), fun H' ⟨h1, h2, h3⟩ => ⟨(atR r i).toNat - (j + 1), by omega, rfl, h1, h2, h3⟩, ?_⟩
        rintro x H5 ⟨rfl, rfl⟩
        refine ⟨rfl, yesT ?_⟩
        have hlen := letF_len (r.take i) 0 fun x hx' => (hx x (List.mem_of_mem_take hx')).2
        rw [List.length_take] at hlen
        refine ⟨_, rfl, _, _, rfl, rfl, _, eD4, small2000 (by rw [List.length_map, List.length_append, List.length_replicate]; omega), c2, same_mut s4 nD, ?_⟩
        rw [upd_same, List.replicate_succ', ← List.append_assoc, List.map_append (l₁ := _ ++ _)]
        rfl
      · have ej : j = (atR r i).toNat := by omega
        refine .inl ⟨c2, c, s4, ?_⟩
        rw [letF_take r 0 i c, Nat.zero_add, ← ej]
        exact eD4
    · have ei : i = r.length := by omega
      subst ei
      rw [List.take_length] at eD
      refine .inl ⟨⟨_, hS2, by rw [List.length_map]⟩, D, _, rfl, .inl ⟨.inl (.inl eD), fun u nu => ?_⟩⟩
      exact q _ _ (sm.trans (same_new nu)) ⟨u, rfl, .inl (.inl upd_same)⟩
theorem sub_ty {C : Addr} {T : String} {l : List String} (h : fastBuiltinMro T = some (l.map Value.type)) : PySem.W.subIn K (.type T) (.ref C) = some false := by
  show (fastBuiltinMro T).map (·.contains (Value.ref C)) = some false
  rw [h]
  show some ((l.map Value.type).contains (Value.ref C)) = some false
  clear h
  congr 1
  induction l with
  | nil => rfl
  | cons a l ih =>
    rw [List.map_cons, List.contains_cons, ih, Bool.or_false]
    exact beq_eq_false_iff_ne.mpr (by simp)
theorem sub_tup {C : Addr} : PySem.W.subIn K (.type "tuple") (.ref C) = some false := sub_ty (l := ["tuple", "object"]) (by decide +kernel)
theorem sub_non {C : Addr} : PySem.W.subIn K (.type "NoneType") (.ref C) = some false := sub_ty (l := ["NoneType", "object"]) (by decide +kernel)
theorem kit_tyO {C : Addr} {T : String} (hc : PySem.W.isClsIn K C = true) (ht : PySem.W.typeIn K (.ref C) = some (.type "type")) (h : PySem.W.subIn K (.type T) (.ref C) = some false) : PySem.W.kitOne K (.type T) (.ref C) = some false := by
  unfold PySem.W.kitOne
  rw [if_neg (by intro z; exact nomatch (beq_iff_eq.mp z))]
  show (if ((PySem.W.clsIn K C).isSome && PySem.W.typeIn K (.ref C) == some (.type "type")) = true then PySem.W.subIn K (.type T) (.ref C) else none) = some false
  have h2 : (PySem.W.clsIn K C).isSome = true := hc
  rw [if_pos (by rw [h2, ht]; rfl), h]
theorem ClPresentation.kitT (c : ClPresentation K mg) : PySem.W.kitOne K (.type "tuple") (.ref c.C) = some false := kit_tyO c.ci c.ty sub_tup
theorem ClPresentation.kitN (c : ClPresentation K mg) : PySem.W.kitOne K (.type "NoneType") (.ref c.C) = some false := kit_tyO c.ci c.ty sub_non
theorem PrAt.ty {H : Hp} {a : Addr} {px wx cx : V} {ps : List Int} (c : ClPresentation K mg) (h : PrAt c.C H a px wx cx ps) : TyX K H (.ref a) (.ref c.C) := let ⟨_, e⟩ := h; .base (.ins e c.cl c.ha c.hn c.ht c.hm)
/-- two values that are told as data -/
def DS (K : PySem.W.Frag) (H : Hp) (v : V) (d : PyData) : Prop := Dp K H v d ∧ SeqAt.shaped d = true
def spPEq (K : PySem.W.Frag) (C : Addr) : Sp := fun vs H Q _ => ∃ (a : Addr) (px wx cx y : V) (ps : List Int) (d1 d2 d3 : PyData), vs = [.ref a, y] ∧ PrAt C H a px wx cx ps ∧ DS K H px d1 ∧ DS K H wx d2 ∧ DS K H cx d3 ∧
  (((y = .non ∨ ∃ b xs, y = .ref b ∧ SqT K H b xs) ∧ Q (.bl false) H) ∨ ∃ b px' wx' cx' ps' d1' d2' d3', y = .ref b ∧ PrAt C H b px' wx' cx' ps' ∧ DS K H px' d1' ∧ DS K H wx' d2' ∧ DS K H cx' d3' ∧ Q (.bl (PyData.eqv d1 d1' && (PyData.eqv d2 d2' && PyData.eqv d3 d3'))) H)
theorem ok_PEq (C_Presentation : ClPresentation K mg) (T : Txt K mg) : FnOk P w K mg base CX0 1 C_Presentation.a___eq__ C_Presentation.d___eq__ ["self", "other"] (spPEq K C_Presentation.C) := by
  refine C_Presentation.F___eq__.ok sc_Presentation___eq__ (fun vs H Q E h => ?_) (fun cdv A outer s H vs Q E hr h => ?_)
  · obtain ⟨a, px, wx, cx, y, ps, d1, d2, d3, rfl, _⟩ := h
    rfl
  · obtain ⟨a, px, wx, cx, y, ps, d1, d2, d3, rfl, ⟨dx, ha⟩, h1, h2, h3, h⟩ := h
    refine ⟨_, (pss_one (ps_ret (pe_and (pe_callB call_isi (by rfl) T.n_isinstance (by decide +kernel) (pa_cons (pv 1) (pa_cons (pe_glob (by rfl) C_Presentation.gC (show RelV (.ref C_Presentation.C) (.ref C_Presentation.C) from rfl)) pa_nil))) (pe_and (pe_cmpR (op_eqD hr.units) (pe_fld (pv 0) rfl) (pe_fld (pv 1) rfl) (nomark _)) (pe_and (pe_cmpR (op_eqD hr.units) (pe_fld (pv 0) rfl) (pe_fld (pv 1) rfl) (nomark _)) (pe_one (pe_cmpR (op_eqD hr.units) (pe_fld (pv 0) rfl) (pe_fld (pv 1) rfl) (nomark _)))))))), ?_⟩
    rcases h with ⟨hy, q⟩ | ⟨b, px', wx', cx', ps', d1', d2', d3', rfl, hb, g1, g2, g3, q⟩
    · rcases hy with rfl | ⟨b, xs, rfl, hS⟩
      · exact ⟨_, rfl, _, _, _, _, false, rfl, .own _, .base .non, C_Presentation.kitN, false, rfl, iteF q⟩
      · exact ⟨_, rfl, _, _, _, _, false, rfl, .own _, ty_sqT hS, C_Presentation.kitT, false, rfl, iteF q⟩
    · have ty := PrAt.ty C_Presentation hb
      obtain ⟨dy, eb⟩ := hb
      have f := pFs_get px wx cx ps
      have g := pFs_get px' wx' cx' ps'
      refine ⟨_, rfl, _, _, _, _, true, rfl, .own _, ty, kit_self, true, rfl, iteT ?_⟩
      refine ⟨_, rfl, a, _, dx, _, _, rfl, ha, C_Presentation.cl, C_Presentation.n_primes, f.2.1, _, rfl, b, _, dy, _, _, rfl, eb, C_Presentation.cl, C_Presentation.n_primes, g.2.1, d1, d1', h1.1, g1.1, h1.2, g1.2, _, rfl, ?_⟩
      cases e1 : PyData.eqv d1 d1' with
      | false =>
        rw [e1, Bool.false_and] at q
        exact iteF q
      | true =>
        rw [e1, Bool.true_and] at q
        refine iteT ?_
        refine ⟨_, rfl, a, _, dx, _, _, rfl, ha, C_Presentation.cl, C_Presentation.n_powers, f.2.2.1, _, rfl, b, _, dy, _, _, rfl, eb, C_Presentation.cl, C_Presentation.n_powers, g.2.2.1, d2, d2', h2.1, g2.1, h2.2, g2.2, _, rfl, ?_⟩
        cases e2 : PyData.eqv d2 d2' with
        | false =>
          rw [e2, Bool.false_and] at q
          exact iteF q
        | true =>
          rw [e2, Bool.true_and] at q
          refine iteT ?_
          exact ⟨_, rfl, a, _, dx, _, _, rfl, ha, C_Presentation.cl, C_Presentation.n_conjugates, f.2.2.2.1, _, rfl, b, _, dy, _, _, rfl, eb, C_Presentation.cl, C_Presentation.n_conjugates, g.2.2.2.1, d3, d3', h3.1, g3.1, h3.2, g3.2, q⟩
/-! ### lists of lists that change: where they stand, and what stands in them -/
theorem paired_other {H : Hp} {x : Addr} {u : HO} : ∀ {as : List Addr} {L : List (List Int)}, (∀ a ∈ as, a ≠ x) → Paired (Rw1 H) as L → Paired (Rw1 (upd H x u)) as L
  | _, _, _, .nil => .nil
  | _, _, h, .cons q t => .cons (by unfold Rw1; rw [upd_ne (h _ List.mem_cons_self)]; exact q) (paired_other (fun a ha => h a (List.mem_cons_of_mem _ ha)) t)
theorem flat_nd {B : List (List Addr)} : B.flatten.Nodup → ∀ {i : Nat} {bs : List Addr}, B[i]? = some bs → bs.Nodup := by
  induction B with
  | nil => intro _ i bs e; simp at e
  | cons c B ih =>
    intro h i bs e
    rw [List.flatten_cons, List.nodup_append] at h
    cases i with
    | zero => cases e; exact h.1
    | succ i => exact ih h.2.1 e
theorem mem_flat {B : List (List Addr)} {i : Nat} {bs : List Addr} {b : Addr} (e : B[i]? = some bs) (h : b ∈ bs) : b ∈ B.flatten := List.mem_flatten.mpr ⟨bs, List.mem_of_getElem? e, h⟩
theorem flat_one {B : List (List Addr)} : B.flatten.Nodup → ∀ {i k : Nat} {bs cs : List Addr} {b : Addr}, B[i]? = some bs → B[k]? = some cs → b ∈ bs → b ∈ cs → i = k := by
  induction B with
  | nil => intro _ i k bs cs b e; simp at e
  | cons c B ih =>
    intro h i k bs cs b e1 e2 h1 h2
    rw [List.flatten_cons, List.nodup_append] at h
    cases i with
    | zero =>
      cases e1
      cases k with
      | zero => rfl
      | succ k => exact absurd rfl (h.2.2 b h1 b (mem_flat e2 h2))
    | succ i =>
      cases k with
      | zero =>
        cases e2
        exact absurd rfl (h.2.2 b h2 b (mem_flat e1 h1))
      | succ k => rw [ih h.2.1 e1 e2 h1 h2]
structure Lay (H0 : Hp) (a d : Addr) (as asP : List Addr) (B : List (List Addr)) : Prop where
  nd1 : as.Nodup
  nd2 : B.flatten.Nodup
  sep : ∀ b ∈ B.flatten, b ≠ a ∧ b ≠ d ∧ b ∉ as ∧ b ∉ asP ∧ H0 b = none
  sp1 : ∀ x ∈ as, x ≠ a ∧ x ≠ d ∧ x ∉ asP ∧ H0 x = none
  sp2 : ∀ x ∈ asP, H0 x = none
  fa : H0 a = none
  fd : H0 d = none
structure Cont (H : Hp) (a d : Addr) (as asP : List Addr) (B : List (List Addr)) (L : List (List Int)) (C : List (List (List Int))) : Prop where
  ha : H a = some (.lst (as.map V.ref))
  hd : H d = some (.lst (asP.map V.ref))
  hL : Paired (Rw1 H) as L
  lP : asP.length = C.length
  lB : B.length = C.length
  hC : ∀ (i : Nat) (x : Addr) (bs : List Addr) (M : List (List Int)), asP[i]? = some x → B[i]? = some bs → C[i]? = some M → H x = some (.lst (bs.map V.ref)) ∧ Paired (Rw1 H) bs M
section
variable {H0 H : Hp} {a d : Addr} {as asP : List Addr} {B : List (List Addr)} {L : List (List Int)} {C : List (List (List Int))}
theorem Cont.st {st : Addr} {o u : HO} (l : Lay H0 a d as asP B) (c : Cont H a d as asP B L C) (h : H0 st = some o) : Cont (upd H st u) a d as asP B L C := by
  have ne : ∀ {x}, H0 x = none → x ≠ st := fun hx e => by rw [e, h] at hx; cases hx
  refine ⟨by rw [upd_ne (ne l.fa)]; exact c.ha, by rw [upd_ne (ne l.fd)]; exact c.hd, paired_other (fun x hx => ne (l.sp1 x hx).2.2.2) c.hL, c.lP, c.lB, fun i x bs M e1 e2 e3 => ?_⟩
  obtain ⟨h1, h2⟩ := c.hC i x bs M e1 e2 e3
  exact ⟨by rw [upd_ne (ne (l.sp2 x (List.mem_of_getElem? e1)))]; exact h1, paired_other (fun b hb => ne (l.sep b (mem_flat e2 hb)).2.2.2.2) h2⟩
theorem Cont.same {H' : Hp} (c : Cont H a d as asP B L C) (e : Same H H') : Cont H' a d as asP B L C := by
  refine ⟨e _ _ c.ha, e _ _ c.hd, paired_via (fun _ _ q => e _ _ q) c.hL, c.lP, c.lB, fun i x bs M e1 e2 e3 => ?_⟩
  obtain ⟨h1, h2⟩ := c.hC i x bs M e1 e2 e3
  exact ⟨e _ _ h1, paired_via (fun _ _ q => e _ _ q) h2⟩
theorem Cont.setL (l : Lay H0 a d as asP B) (c : Cont H a d as asP B L C) {i : Nat} {x : Addr} {r' : List Int} {ys : List V} (ex : as[i]? = some x) (ey : ys = r'.map V.int) : Cont (upd H x (.lst ys)) a d as asP B (L.set i r') C := by
  have hx := List.mem_of_getElem? ex
  obtain ⟨x1, x2, x3, _⟩ := l.sp1 x hx
  refine ⟨by rw [upd_ne x1.symm]; exact c.ha, by rw [upd_ne x2.symm]; exact c.hd, paired_upd c.hL l.nd1 ex ey, c.lP, c.lB, fun k y bs M e1 e2 e3 => ?_⟩
  obtain ⟨h1, h2⟩ := c.hC k y bs M e1 e2 e3
  exact ⟨by rw [upd_ne (fun z => x3 (by rw [← z]; exact List.mem_of_getElem? e1))]; exact h1, paired_other (fun b hb z => (l.sep b (mem_flat e2 hb)).2.2.1 (by rw [z]; exact hx)) h2⟩
theorem Cont.setC (l : Lay H0 a d as asP B) (c : Cont H a d as asP B L C) {i j : Nat} {b : Addr} {bs : List Addr} {M : List (List Int)} {r' : List Int} {ys : List V} (eb : B[i]? = some bs) (ej : bs[j]? = some b) (eM : C[i]? = some M) (ey : ys = r'.map V.int) : Cont (upd H b (.lst ys)) a d as asP B L (C.set i (M.set j r')) := by
  have hb := List.mem_of_getElem? ej
  obtain ⟨b1, b2, b3, b4, _⟩ := l.sep b (mem_flat eb hb)
  have hiC : i < C.length := (List.getElem?_eq_some_iff.mp eM).1
  refine ⟨by rw [upd_ne b1.symm]; exact c.ha, by rw [upd_ne b2.symm]; exact c.hd, paired_other (fun x hx z => b3 (by rw [← z]; exact hx)) c.hL, by rw [List.length_set]; exact c.lP, by rw [List.length_set]; exact c.lB, fun k y cs N e1 e2 e3 => ?_⟩
  rw [List.getElem?_set] at e3
  have hy : y ≠ b := fun z => b4 (by rw [← z]; exact List.mem_of_getElem? e1)
  by_cases ck : i = k
  · subst ck
    rw [if_pos rfl, if_pos hiC] at e3
    cases e3
    cases e2.symm.trans eb
    obtain ⟨h1, h2⟩ := c.hC i y _ M e1 e2 eM
    exact ⟨by rw [upd_ne hy]; exact h1, paired_upd h2 (flat_nd l.nd2 eb) ej ey⟩
  · rw [if_neg ck] at e3
    obtain ⟨h1, h2⟩ := c.hC k y cs N e1 e2 e3
    exact ⟨by rw [upd_ne hy]; exact h1, paired_other (fun x hx z => ck (flat_one l.nd2 eb e2 (by rw [z] at hx; exact hb) (by rw [← z]; exact hx))) h2⟩
end
/-- a comprehension of fresh lists of fresh lists -/
theorem lc_new3 {J : It} {n : Nat} {G : Hp → Prop} {Y : Nat → Hp → V → Hp → Prop} (w : Walk J n G Y) (f : Nat → List (List Int)) (hn : n ≤ 1000)
    {g : TG} {te : TE} {vs : List Nat} {σ : L2.St} {H1 : Hp} {D : Addr} {Qd : Hp → Prop} (nD : H1 D = none) (hG : ∀ H, Same H1 H → G H)
    (hs : ∀ i x H H' (Q : VK), i < n → Same H1 H → Y i H x H' → (∀ (y : Addr) (bs : List Addr) (H4 : Hp), Same H H4 → H y = none → H4 y = some (.lst (bs.map V.ref)) → bs.Nodup → (∀ b ∈ bs, H b = none ∧ b ≠ y) → Paired (Rw1 H4) bs (f i) → Q (.ref y) H4) → g x (wipe σ vs) H' fun σ2 H2 => wipe σ2 vs = wipe σ vs ∧ te σ2 H2 Q)
    (hd : ∀ (H : Hp) (as : List Addr) (B : List (List Addr)), Same H1 H → H D = some (.lst (as.map V.ref)) → as.length = n → B.length = n → (∀ x ∈ as, H1 x = none ∧ x ≠ D) → B.flatten.Nodup → (∀ b ∈ B.flatten, H1 b = none ∧ b ≠ D ∧ b ∉ as) → (∀ (k : Nat) (x : Addr) (bs : List Addr), as[k]? = some x → B[k]? = some bs → H x = some (.lst (bs.map V.ref)) ∧ Paired (Rw1 H) bs (f k)) → Qd H) :
    ∃ W : Nat → Nat → Hp → Prop, (∃ m, W 0 m (upd H1 D (.lst []))) ∧ ∀ i m H, W i m H →
      (J.stop i H ∧ Qd H) ∨ (J.go i H ∧ ∃ Nx : Hp → Prop, (∀ H', Nx H' → ∃ m', m' < m ∧ W (i + 1) m' H') ∧ ∀ x H', J.yld i H x H' → g x (wipe σ vs) H' fun σ2 H2 => wipe σ2 vs = wipe σ vs ∧ tYes σ2 H2 fun b H3 =>
        if b = true then te σ2 H3 fun y H4 => ∃ acc, H4 D = some (.lst acc) ∧ acc.length < sizeLine ∧ Nx (upd H4 D (.lst (acc ++ [y]))) else Nx H3) := by
  refine lc_it w (fun i H => i ≤ n ∧ Same H1 H ∧ ∃ (as : List Addr) (B : List (List Addr)), H D = some (.lst (as.map V.ref)) ∧ as.length = i ∧ B.length = i ∧ (∀ x ∈ as, H1 x = none ∧ x ≠ D) ∧ B.flatten.Nodup ∧ (∀ b ∈ B.flatten, H1 b = none ∧ b ≠ D ∧ b ∉ as) ∧ (∀ (k : Nat) (x : Addr) (bs : List Addr), as[k]? = some x → B[k]? = some bs → H x = some (.lst (bs.map V.ref)) ∧ Paired (Rw1 H) bs (f k)))
    ⟨Nat.zero_le n, same_new nD, [], [], upd_same, rfl, rfl, (fun x h => by cases h), List.nodup_nil, (fun x h => by cases h), (fun k x bs h => by simp at h)⟩ (fun i H _ h => hG H h.2.1) (fun i x H H' hi hP hY => ?_) (fun H hP => ?_)
  · obtain ⟨_, sm, as, B, eD, la, lb, fa, nd, fb, hc⟩ := hP
    have z := hs i x H H' (fun y H4 => ∃ acc, H4 D = some (.lst acc) ∧ acc.length < sizeLine ∧ (i + 1 ≤ n ∧ Same H1 (upd H4 D (.lst (acc ++ [y]))) ∧ ∃ (as : List Addr) (B : List (List Addr)), (upd H4 D (.lst (acc ++ [y]))) D = some (.lst (as.map V.ref)) ∧ as.length = i + 1 ∧ B.length = i + 1 ∧ (∀ x ∈ as, H1 x = none ∧ x ≠ D) ∧ B.flatten.Nodup ∧ (∀ b ∈ B.flatten, H1 b = none ∧ b ≠ D ∧ b ∉ as) ∧ (∀ (k : Nat) (x : Addr) (bs : List Addr), as[k]? = some x → B[k]? = some bs → (upd H4 D (.lst (acc ++ [y]))) x = some (.lst (bs.map V.ref)) ∧ Paired (Rw1 (upd H4 D (.lst (acc ++ [y])))) bs (f k)))) hi sm hY (fun y bs H4 s4 ny hy ndb nb hpb => by
      have eD4 := s4 _ _ eD
      have hyD : y ≠ D := fun q => by rw [q, eD] at ny; cases ny
      have hbD : ∀ b ∈ bs, b ≠ D := fun b hb q => by have := (nb b hb).1; rw [q, eD] at this; cases this
      -- what stood stands elsewhere
      have inA : ∀ x ∈ as, ∃ o, H x = some o := fun x hx => by
        obtain ⟨k, hk⟩ := List.mem_iff_getElem?.mp hx
        obtain ⟨bs', hb'⟩ : ∃ bs', B[k]? = some bs' := ⟨_, List.getElem?_eq_getElem (by have := (List.getElem?_eq_some_iff.mp hk).1; omega)⟩
        exact ⟨_, (hc k x bs' hk hb').1⟩
      have inB : ∀ b ∈ B.flatten, ∃ o, H b = some o := fun b hb => by
        obtain ⟨bs', h1, h2⟩ := List.mem_flatten.mp hb
        obtain ⟨k, hk⟩ := List.mem_iff_getElem?.mp h1
        obtain ⟨x', hx'⟩ : ∃ x', as[k]? = some x' := ⟨_, List.getElem?_eq_getElem (by have := (List.getElem?_eq_some_iff.mp hk).1; omega)⟩
        obtain ⟨j, hj⟩ := List.mem_iff_getElem?.mp h2
        obtain ⟨r, _, hr⟩ := paired_get (hc k x' bs' hx' hk).2 hj
        exact ⟨_, hr⟩
      have no : ∀ {p : Addr} {o : HO}, H p = some o → H p ≠ none := fun h q => by rw [h] at q; cases q
      refine ⟨as.map V.ref, eD4, small2000 (by rw [List.length_map]; omega), hi, same_mut (sm.trans s4) nD, as ++ [y], B ++ [bs], by rw [upd_same, List.map_append]; rfl, by rw [List.length_append, la]; rfl, by rw [List.length_append, lb]; rfl, fun x hx => ?_, ?_, fun b hb => ?_, fun k x cs e1 e2 => ?_⟩
      · rcases List.mem_append.mp hx with hx | hx
        · exact fa x hx
        · rw [List.mem_singleton.mp hx]
          exact ⟨sm.free ny, hyD⟩
      · rw [List.flatten_append, List.flatten_cons, List.flatten_nil, List.append_nil, List.nodup_append]
        exact ⟨nd, ndb, fun p hp q hq e => by obtain ⟨o, ho⟩ := inB p hp; rw [e] at ho; exact no ho (nb q hq).1⟩
      · rw [List.flatten_append, List.flatten_cons, List.flatten_nil, List.append_nil] at hb
        rcases List.mem_append.mp hb with hb | hb
        · obtain ⟨q1, q2, q3⟩ := fb b hb
          refine ⟨q1, q2, fun hm => ?_⟩
          rcases List.mem_append.mp hm with hm | hm
          · exact q3 hm
          · obtain ⟨o, ho⟩ := inB b hb
            rw [List.mem_singleton.mp hm] at ho
            exact no ho ny
        · refine ⟨sm.free (nb b hb).1, hbD b hb, fun hm => ?_⟩
          rcases List.mem_append.mp hm with hm | hm
          · obtain ⟨o, ho⟩ := inA b hm
            exact no ho (nb b hb).1
          · exact (nb b hb).2 (List.mem_singleton.mp hm)
      · rcases get_app e1 with e1 | ⟨k1, rfl⟩
        · rcases get_app e2 with e2 | ⟨k2, rfl⟩
          · obtain ⟨h1, h2⟩ := hc k x cs e1 e2
            exact ⟨by rw [upd_ne (fa x (List.mem_of_getElem? e1)).2]; exact s4 _ _ h1, paired_other (fun b hb => (fb b (mem_flat e2 hb)).2.1) (paired_via (fun _ _ q => s4 _ _ q) h2)⟩
          · have := (List.getElem?_eq_some_iff.mp e1).1
            omega
        · rcases get_app e2 with e2 | ⟨k2, rfl⟩
          · have := (List.getElem?_eq_some_iff.mp e2).1
            omega
          · have ek : k = i := by omega
            subst ek
            exact ⟨by rw [upd_ne hyD]; exact hy, paired_other hbD hpb⟩)
    exact z
  · obtain ⟨_, sm, as, B, h⟩ := hP
    obtain ⟨eD, la, lb, fa, nd, fb, hc⟩ := h
    exact hd H as B sm eD la lb fa nd fb hc
def rLstK (K : PySem.W.Frag) : List V → Hp → VK → Prop := fun xs H Q => ∃ p ys, xs = [.ref p] ∧ (SqL K H p ys ∨ SqT K H p ys) ∧ ∀ l, H l = none → Q (.ref l) (upd H l (.lst ys))
theorem call_lstK {X : Cx} : CallR X (.type "list") (rLstK X.K) := call_list_of
/-! ### _law_bent -/
theorem cjv_row {ps : List Int} {C : List (List (List Int))} {i j k : Nat} {M : List (List Int)} {r : List Int} {e : Int} (h : CjV ps C) (eM : C[i]? = some M) (er : M[j]? = some r) (hik : i < k) (hk : k < ps.length) (h0 : 0 ≤ e) (h1 : e < atR ps k) : CjV ps (C.set i (M.set j (r.set k e))) := by
  have hl := (List.getElem?_eq_some_iff.mp eM).1
  obtain ⟨a1, a2⟩ := h.2 i M eM
  refine ⟨by rw [List.length_set]; exact h.1, fun m N eN => ?_⟩
  rw [List.getElem?_set] at eN
  by_cases c : i = m
  · subst c
    rw [if_pos rfl, if_pos hl] at eN
    cases eN
    refine ⟨by rw [List.length_set, a1], fun q hq => ?_⟩
    rcases List.mem_or_eq_of_mem_set hq with hq | rfl
    · exact a2 q hq
    · obtain ⟨b1, b2⟩ := a2 r (List.mem_of_getElem? er)
      exact ⟨bl_set b1 hk h0 h1, zb_set b2 (by rw [b1.1]; exact hk) hik⟩
  · rw [if_neg c] at eN
    exact h.2 m N eN
theorem ok_bent (T : Txt K mg) : FnOk P w K mg base CX0 2 T.a__law_bent T.d__law_bent ["state", "table"] (spTwist K) := by
  have G__law_take : FnOk P w K mg base CX0 1 T.a__law_take T.d__law_take ["state", "m"] spTake := ok_take T
  refine T.F__law_bent.ok sc__law_bent (fun vs H Q E h => ?_) (fun cdv A outer s H vs Q E hr h => ?_)
  · obtain ⟨st, z, t, rfl, _⟩ := h
    rfl
  · obtain ⟨st, z, t, rfl, hst, hT, hV, q⟩ := h
    refine ⟨_, (pss_cons (ps_set (i := 2) sc__law_bent.nd rfl (.inl rfl) (pe_callB call_len_seq (by rfl) T.n_len (by decide +kernel) (pa_cons (pe_ix ix_tup (pv 1) pe_int (fun _ _ => rfl)) pa_nil))) 
    (pss_cons (ps_setLc (i := 3) (own := [("row", 10)]) rfl sc__law_bent.nd rfl rfl (sw_true rfl rfl rfl (by decide +kernel)) (pi_tup (pe_ix ix_tup (pv 1) pe_int (fun _ _ => rfl))) (blkOk_by (N := N__law_bent) (sc := defScope s__law_bent) (own := [("row", 10)]) (by decide +kernel)) (fun _ _ _ _ _ => (pg_name (i := 10) sc__law_bent.nd rfl (.inl rfl))) (fun _ _ _ _ _ => pts_nil) (fun _ _ _ _ _ => (pe_callTy (show CallR _ (.type "list") (rLstK K) from call_lstK) (by rfl) T.n_list (by decide +kernel) (pa_cons (pv 10) pa_nil)))) 
    (pss_cons (ps_setLc (i := 4) (own := [("part", 11)]) rfl sc__law_bent.nd rfl rfl (sw_true rfl rfl rfl (by decide +kernel)) (pi_tup (pe_ix ix_tup (pv 1) pe_int (fun _ _ => rfl))) (blkOk_by (N := N__law_bent) (sc := defScope s__law_bent) (own := [("part", 11)]) (by decide +kernel)) (fun _ _ _ _ _ => (pg_name (i := 11) sc__law_bent.nd rfl (.inl rfl))) (fun _ _ _ _ _ => pts_nil) (fun _ _ _ _ _ => (pe_lc (own := [("row", 10)]) rfl sc__law_bent.nd (show PI _ _ _ (iTup K _) from pi_tup (pv 11)) (blkOk_by (N := N__law_bent) (own := [("row", 10)]) (by rfl)) (fun _ _ _ _ _ => (pg_name (i := 10) sc__law_bent.nd rfl (.inl rfl))) (fun _ _ _ _ _ => pts_nil) (fun _ _ _ _ _ => (pe_callTy (show CallR _ (.type "list") (rLstK K) from call_lstK) (by rfl) T.n_list (by decide +kernel) (pa_cons (pv 10) pa_nil)))))) 
    (C8.pss_cut (ps_if (pt_cmpR op_gt (pv 2) pe_int (nomark _)) 
      (pss_one (ps_for PassesOwn.never rfl (pi_range1 (by rfl) T.n_range (pa_cons (pe_op op_add pe_int (pe_call G__law_take (hr.mono (by decide)) (by rfl) T.g__law_take T.F__law_take.kp T.b__law_take .nil pass0 (pa_cons (pv 0) (pa_cons pe_int pa_nil)))) pa_nil)) (pg_name (i := 5) sc__law_bent.nd rfl (.inl rfl)) 
        (pss_cons (ps_set (i := 6) sc__law_bent.nd rfl (.inl rfl) (pe_call G__law_take (hr.mono (by decide)) (by rfl) T.g__law_take T.F__law_take.kp T.b__law_take .nil pass0 (pa_cons (pv 0) (pa_cons (pe_op op_sub (pv 2) pe_int) pa_nil)))) 
        (pss_cons (ps_set (i := 7) sc__law_bent.nd rfl (.inl rfl) (pe_op op_addL (pe_op op_add (pv 6) pe_int) (pe_call G__law_take (hr.mono (by decide)) (by rfl) T.g__law_take T.F__law_take.kp T.b__law_take .nil pass0 (pa_cons (pv 0) (pa_cons (pe_op op_sub (pe_op op_sub (pv 2) pe_int) (pv 6)) pa_nil))))) 
        (pss_cons (ps_set (i := 8) sc__law_bent.nd rfl (.inl rfl) (pe_call G__law_take (hr.mono (by decide)) (by rfl) T.g__law_take T.F__law_take.kp T.b__law_take .nil pass0 (pa_cons (pv 0) (pa_cons (pe_ix ix_tup (pe_ix ix_tup (pv 1) pe_int (fun _ _ => rfl)) (pv 7) (fun _ _ => rfl)) pa_nil)))) 
        (pss_cons (ps_set (i := 9) sc__law_bent.nd rfl (.inl rfl) (pe_call G__law_take (hr.mono (by decide)) (by rfl) T.g__law_take T.F__law_take.kp T.b__law_take .nil pass0 (pa_cons (pv 0) (pa_cons (pe_op op_sub (pv 2) (pv 6)) pa_nil)))) 
        (pss_one (ps_if (pt_cmpR op_eq (pv 9) pe_int (nomark _)) 
          (pss_one (ps_asg (pv 8) (pg_sub (pe_ix ix_list (pv 3) (pv 6) (fun _ _ => rfl)) (pv 7) set_list))) 
          (pss_one (ps_asg (pv 8) (pg_sub (pe_ix ix_list (pe_ix ix_list (pv 4) (pv 6) (fun _ _ => rfl)) (pe_op op_sub (pv 9) pe_int) (fun _ _ => rfl)) (pv 7) set_list))))))))))) pss_nil) 
    (pss_one (ps_ret (pe_tup (pa_cons (pe_ix ix_tup (pv 1) pe_int (fun _ _ => rfl)) (pa_cons (pe_callTy (show CallR _ (.type "tuple") (rTupL K) from call_tupL) (by rfl) T.n_tuple (by decide +kernel) (pa_cons (pe_lc (own := [("row", 10)]) rfl sc__law_bent.nd (pi_list (pv 3)) (blkOk_by (N := N__law_bent) (sc := defScope s__law_bent) (own := [("row", 10)]) (by decide +kernel)) (fun _ _ _ _ _ => (pg_name (i := 10) sc__law_bent.nd rfl (.inl rfl))) (fun _ _ _ _ _ => pts_nil) (fun _ _ _ _ _ => (pe_callTy (show CallR _ (.type "tuple") (rTupL K) from call_tupL) (by rfl) T.n_tuple (by decide +kernel) (pa_cons (pv 10) pa_nil)))) pa_nil)) (pa_cons (pe_callTy (show CallR _ (.type "tuple") (rTupL K) from call_tupL) (by rfl) T.n_tuple (by decide +kernel) (pa_cons (pe_lc (own := [("part", 11)]) rfl sc__law_bent.nd (pi_list (pv 4)) (blkOk_by (N := N__law_bent) (sc := defScope s__law_bent) (own := [("part", 11)]) (by decide +kernel)) (fun _ _ _ _ _ => (pg_name (i := 11) sc__law_bent.nd rfl (.inl rfl))) (fun _ _ _ _ _ => pts_nil) (fun _ _ _ _ _ => (pe_callTy (show CallR _ (.type "tuple") (rTupL K) from call_tupL) (by rfl) T.n_tuple (by decide +kernel) (pa_cons (pe_lc (own := [("row", 10)]) rfl sc__law_bent.nd (show PI _ _ _ (iList K _) from pi_list (pv 11)) (blkOk_by (N := N__law_bent) (own := [("row", 10)]) (by rfl)) (fun _ _ _ _ _ => (pg_name (i := 10) sc__law_bent.nd rfl (.inl rfl))) (fun _ _ _ _ _ => pts_nil) (fun _ _ _ _ _ => (pe_callTy (show CallR _ (.type "tuple") (rTupL K) from call_tupL) (by rfl) T.n_tuple (by decide +kernel) (pa_cons (pv 10) pa_nil)))) pa_nil)))) pa_nil)) pa_nil)))))))))), ?_⟩
    have hn := hV.n10
    obtain ⟨x0, a0, b, c, us, vs, rfl, hSx, hSa, hSb, hPw, hSc, hPc⟩ := hT.rd
    obtain ⟨s0, t0, est⟩ := id hst
    refine ⟨_, rfl, x0, _, 0, _, rfl, rfl, hSx, atI_nat (j := 0) rfl, a0, _, rfl, .inr hSa, ?_⟩
    rw [List.length_map]
    generalize hN : t.ps.length = n at *
    have hul : us.length = n := by rw [Paired.length hPw, hV.pwl, hN]
    have hvl : vs.length = n := by rw [Paired.length hPc, hV.cjl, hN]
    refine ⟨_, rfl, x0, _, 1, _, rfl, rfl, hSx, atI_nat (j := 1) rfl, b, rfl, ⟨_, hSb⟩, fun a nA => ?_⟩
    refine lc_new (walk_tup (xs := us)) Rw1 (fun e q => e _ _ q) (fun _ ne q => by unfold Rw1; rw [upd_ne ne]; exact q) (fun q => ⟨_, q⟩) (fun i => t.pw.getD i []) (by omega) nA (fun _ sm => Own.same_tup sm hSb) (fun i x H1 H2 Q2 hi sm hY q2 => ?_) (fun H1 as s1 eA nd1 fr1 hL => ?_)
    · obtain ⟨rfl, hx⟩ := hY
      obtain ⟨r, er, t', rfl, hS⟩ := paired_get hPw hx
      rw [getD_some er] at q2
      exact ⟨rfl, _, rfl, t', _, rfl, .inr (Own.same_tup sm hS), fun l nl => q2 l _ (same_new nl) nl upd_same⟩
    have hL' : Paired (Rw1 H1) as t.pw := by
      rw [hul, range_getD [] (show t.pw.length = n by rw [hV.pwl, hN])] at hL
      exact hL
    refine ⟨_, rfl, x0, _, 2, _, rfl, rfl, Own.same_tup s1 hSx, atI_nat (j := 2) rfl, c, rfl, ⟨_, Own.same_tup s1 hSc⟩, fun d nD => ?_⟩
    refine lc_new3 (walk_tup (xs := vs)) (fun i => t.cj.getD i []) (by omega) nD (fun _ sm => Own.same_tup (s1.trans sm) hSc) (fun i x H2 H3 Q2 hi sm hY q2 => ?_) (fun H2 asP B s2 eD lP lB frP ndB frB hC => ?_)
    · obtain ⟨rfl, hx⟩ := hY
      obtain ⟨M, eM, mt, us2, rfl, hS, hM⟩ := paired_get hPc hx
      rw [getD_some eM] at q2
      have s12 := s1.trans sm
      have hS2 := Own.same_tup s12 hS
      have hml : us2.length ≤ 1000 := by
        have h1 := Paired.length hM
        have h2 := vd_len3 hV (List.mem_of_getElem? eM)
        omega
      refine ⟨rfl, _, rfl, mt, rfl, ⟨_, hS2⟩, fun D2 nD2 => ?_⟩
      refine lc_new (walk_tup (xs := us2)) Rw1 (fun e q => e _ _ q) (fun _ ne q => by unfold Rw1; rw [upd_ne ne]; exact q) (fun q => ⟨_, q⟩) (fun j => M.getD j []) hml nD2 (fun _ sm => Own.same_tup sm hS2) (fun j y H4 H5 Q3 hj s4 hY q3 => ?_) (fun H4 bs s4 eD2 nd2 fr2 hb => ?_)
      · obtain ⟨rfl, hy⟩ := hY
        obtain ⟨r, er, t', rfl, hSr⟩ := paired_get hM hy
        rw [getD_some er] at q3
        exact ⟨rfl, _, rfl, t', _, rfl, .inr (Own.same_tup (s12.trans s4) hSr), fun l nl => q3 l _ (same_new nl) nl upd_same⟩
      · refine q2 D2 bs H4 s4 nD2 eD2 nd2 fr2 ?_
        rw [Paired.length hM, range_getD [] rfl] at hb
        exact hb
    have inL : ∀ x ∈ as, ∃ o, H1 x = some o := fun x hx => by
      obtain ⟨k, hk⟩ := List.mem_iff_getElem?.mp hx
      obtain ⟨r, _, hr⟩ := paired_get hL' hk
      exact ⟨_, hr⟩
    have lay : Lay H a d as asP B := by
      refine ⟨nd1, ndB, fun y hy => ?_, fun x hx => ?_, fun x hx => s1.free (frP x hx).1, nA, s1.free nD⟩
      · obtain ⟨f1, f2, f3⟩ := frB y hy
        refine ⟨(fun e => by rw [e, eA] at f1; cases f1), f2, (fun hm => ?_), f3, s1.free f1⟩
        obtain ⟨o, ho⟩ := inL y hm
        rw [ho] at f1
        cases f1
      · obtain ⟨f1, f2⟩ := fr1 x hx
        obtain ⟨o, ho⟩ := inL x hx
        exact ⟨f2, (fun e => by rw [e, nD] at ho; cases ho), (fun hm => by rw [(frP x hm).1] at ho; cases ho), f1⟩
    have cont : Cont H2 a d as asP B t.pw t.cj := by
      refine ⟨s2 _ _ eA, eD, paired_via (fun _ _ q => s2 _ _ q) hL', by rw [lP, hV.cjl, hN, hvl], by rw [lB, hV.cjl, hN, hvl], fun i x bs M e1 e2 e3 => ?_⟩
      have := hC i x bs e1 e2
      rw [getD_some e3] at this
      exact this
    have s02 := s1.trans s2
    -- the changes
    refine ⟨fun σ H' => SameX st H H' ∧ StA H' st ∧ ∃ (L : List (List Int)) (C : List (List (List Int))) (y5 y6 y7 y8 y9 : Option V), σ = [some (.ref st), some (.ref x0), some (.int (n : Int)), some (.ref a), some (.ref d), y5, y6, y7, y8, y9, none, none] ∧ Cont H' a d as asP B L C ∧ PwV t.ps L ∧ CjV t.ps C, ?_, ?_⟩
    · have start : SameX st H H2 ∧ StA H2 st ∧ ∃ (L : List (List Int)) (C : List (List (List Int))) (y5 y6 y7 y8 y9 : Option V), ([some (V.ref st), some (.ref x0), some (.int (n : Int)), some (.ref a), some (.ref d), none, none, none, none, none, none, none] : L2.St) = [some (.ref st), some (.ref x0), some (.int (n : Int)), some (.ref a), some (.ref d), y5, y6, y7, y8, y9, none, none] ∧ Cont H2 a d as asP B L C ∧ PwV t.ps L ∧ CjV t.ps C :=
        ⟨Same.x s02, ⟨s0, t0, s02 _ _ est⟩, t.pw, t.cj, none, none, none, none, none, rfl, cont, ⟨hV.pwl, hV.pwr⟩, ⟨hV.cjl, hV.cjr⟩⟩
      refine ⟨_, rfl, _, _, rfl, rfl, _, rfl, ite2 (fun c1 => ?_) (fun c1 => start)⟩
      have hn2 : 2 ≤ n := by
        have := of_decide_eq_true c1
        omega
      refine ⟨_, rfl, st, _, s0, t0, rfl, by decide, by decide, s02 _ _ est, fun m s3 t3 hm0 hm1 => ⟨_, _, rfl, rfl, _, rfl, by omega, by omega, ?_⟩⟩
      refine for_range (lo := 0) (n := (1 + m).toNat) (fun _ σ H' => SameX st H H' ∧ StA H' st ∧ ∃ (L : List (List Int)) (C : List (List (List Int))) (y5 y6 y7 y8 y9 : Option V), σ = [some (.ref st), some (.ref x0), some (.int (n : Int)), some (.ref a), some (.ref d), y5, y6, y7, y8, y9, none, none] ∧ Cont H' a d as asP B L C ∧ PwV t.ps L ∧ CjV t.ps C)
        ⟨start.1.trans SameX.put, ⟨s3, t3, upd_same⟩, t.pw, t.cj, none, none, none, none, none, rfl, cont.st lay est, ⟨hV.pwl, hV.pwr⟩, ⟨hV.cjl, hV.cjr⟩⟩ ?_ (fun σ H' h => h)
      rintro turn σ H3 _ ⟨sx3, ⟨s4, t4, e4⟩, L, C, y5, y6, y7, y8, y9, rfl, c3, hPL, hCC⟩
      have tp3 : ∀ (p : Addr) (xs : List V), SqT K H p xs → SqT K H3 p xs := (Tps.x sx3 est)
      refine ⟨_, rfl, _, rfl, _, _, rfl, rfl, st, _, s4, t4, rfl, by omega, by omega, e4, fun i s5 t5 hi0 hi1 => ?_⟩
      obtain ⟨i, rfl⟩ : ∃ k : Nat, i = (k : Int) := ⟨i.toNat, by omega⟩
      refine ⟨_, rfl, _, _, rfl, rfl, _, rfl, _, rfl, _, _, rfl, rfl, _, rfl, _, _, rfl, rfl, st, _, s5, t5, rfl, by omega, by omega, upd_same, fun k s6 t6 hk0 hk1 => ⟨_, _, rfl, rfl, fun zk ezk => ?_⟩⟩
      obtain ⟨k, rfl⟩ : ∃ m : Nat, k = (m : Int) := ⟨k.toNat, by omega⟩
      have ezk1 : zk = (i : Int) + 1 + (k : Int) := ezk
      have ezk2 : zk = ((i + 1 + k : Nat) : Int) := by omega
      clear ezk ezk1
      subst ezk2
      have hkn : i + 1 + k < t.ps.length := by omega
      have hpk := hV.p2 hkn
      have sx5 : SameX st H3 (upd (upd H3 st (.lst [.int s5, .int t5])) st (.lst [.int s6, .int t6])) := SameX.put.trans SameX.put
      have tp5 := Tps.x (K := K) sx5 e4
      have c5 := (c3.st (u := .lst [.int s5, .int t5]) lay est).st (u := .lst [.int s6, .int t6]) lay est
      refine ⟨_, rfl, _, rfl, x0, _, 0, _, rfl, rfl, tp5 _ _ (tp3 _ _ hSx), atI_nat (j := 0) rfl, _, rfl, a0, _, _, _, rfl, rfl, tp5 _ _ (tp3 _ _ hSa), atW hkn, st, _, s6, t6, rfl, by omega, by omega, upd_same, fun e s7 t7 he0 he1 => ?_⟩
      refine ⟨_, rfl, _, rfl, _, rfl, _, _, rfl, rfl, st, _, s7, t7, rfl, by omega, by omega, upd_same, fun w s8 t8 hw0 hw1 => ?_⟩
      have c8 := (c5.st (u := .lst [.int s7, .int t7]) lay est).st (u := .lst [.int s8, .int t8]) lay est
      have sx8 : SameX st H (upd (upd (upd (upd H3 st (.lst [.int s5, .int t5])) st (.lst [.int s6, .int t6])) st (.lst [.int s7, .int t7])) st (.lst [.int s8, .int t8])) := ((sx3.trans sx5).trans SameX.put).trans SameX.put
      have e8 : (upd (upd (upd (upd H3 st (.lst [.int s5, .int t5])) st (.lst [.int s6, .int t6])) st (.lst [.int s7, .int t7])) st (.lst [.int s8, .int t8])) st = some (.lst [.int s8, .int t8]) := upd_same
      generalize upd (upd (upd (upd H3 st (.lst [.int s5, .int t5])) st (.lst [.int s6, .int t6])) st (.lst [.int s7, .int t7])) st (.lst [.int s8, .int t8]) = H8 at *
      refine ⟨_, rfl, rfl, _, rfl, ite2 (fun c2 => ?_) (fun c2 => ?_)⟩
      · obtain ⟨r, er⟩ : ∃ r, L[i]? = some r := ⟨_, List.getElem?_eq_getElem (by rw [hPL.1]; omega)⟩
        obtain ⟨x, ex, hx⟩ := paired_get2 c8.hL er
        obtain ⟨b1, b2⟩ := hPL.2 i r er
        refine ⟨_, rfl, _, rfl, _, rfl, a, _, _, .ref x, rfl, rfl, .inl (.inl c8.ha), atI_nat (by rw [List.getElem?_map, ex]; rfl), _, rfl, x, _, _, i + 1 + k, rfl, rfl, hx, ixN_ok (by rw [List.length_map, b1.1]; exact hkn), ?_⟩
        have nx := (lay.sp1 x (List.mem_of_getElem? ex)).2.2.2
        have hne : x ≠ st := fun z => by rw [z, est] at nx; cases nx
        refine ⟨fun y o ny hy => by rw [upd_ne (ne_of_none hy nx)]; exact sx8 y o ny hy, ⟨s8, t8, by rw [upd_ne hne.symm]; exact e8⟩, L.set i (r.set (i + 1 + k) e), C, _, _, _, _, _, rfl, c8.setL lay ex (by rw [List.map_set]), ?_, hCC⟩
        have := pwv_put (x := (i, i + 1 + k, e)) hPL ⟨by show i < i + 1 + k; omega, hkn, he0, he1⟩
        unfold putR at this
        rw [getD_some er] at this
        exact this
      · have hw : w ≠ 0 := fun z => c2 (decide_eq_true (by rw [z]))
        obtain ⟨M, eM⟩ : ∃ M, C[i]? = some M := ⟨_, List.getElem?_eq_getElem (by rw [hCC.1]; omega)⟩
        obtain ⟨a1, a2⟩ := hCC.2 i M eM
        obtain ⟨j, rfl⟩ : ∃ j : Nat, w = (j : Int) + 1 := ⟨(w - 1).toNat, by omega⟩
        obtain ⟨r, er⟩ : ∃ r, M[j]? = some r := ⟨_, List.getElem?_eq_getElem (by omega)⟩
        obtain ⟨b1, b2⟩ := a2 r (List.mem_of_getElem? er)
        obtain ⟨x, ex⟩ : ∃ x, asP[i]? = some x := ⟨_, List.getElem?_eq_getElem (by rw [c8.lP, hCC.1]; omega)⟩
        obtain ⟨bs, eb⟩ : ∃ bs, B[i]? = some bs := ⟨_, List.getElem?_eq_getElem (by rw [c8.lB, hCC.1]; omega)⟩
        obtain ⟨hx, hb⟩ := c8.hC i x bs M ex eb eM
        obtain ⟨y, ey, hy⟩ := paired_get2 hb er
        refine ⟨_, rfl, _, rfl, _, rfl, d, _, _, .ref x, rfl, rfl, .inl (.inl c8.hd), atI_nat (by rw [List.getElem?_map, ex]; rfl), _, rfl, _, _, rfl, rfl, x, _, _, .ref y, rfl, rfl, .inl (.inl hx), ?_, _, rfl, y, _, _, i + 1 + k, rfl, rfl, hy, ixN_ok (by rw [List.length_map, b1.1]; exact hkn), ?_⟩
        · rw [show (j : Int) + 1 - 1 = (j : Int) by omega]
          exact atI_nat (by rw [List.getElem?_map, ey]; rfl)
        have ny' := (lay.sep y (mem_flat eb (List.mem_of_getElem? ey))).2.2.2.2
        have hne : y ≠ st := fun z => by rw [z, est] at ny'; cases ny'
        exact ⟨fun z o nz hz => by rw [upd_ne (ne_of_none hz ny')]; exact sx8 z o nz hz, ⟨s8, t8, by rw [upd_ne hne.symm]; exact e8⟩, L, C.set i (M.set j (r.set (i + 1 + k) e)), _, _, _, _, _, rfl, c8.setC lay eb ey eM (by rw [List.map_set]), hPL, cjv_row hCC eM er (by omega) hkn he0 he1⟩
    · rintro σ H3 ⟨sx3, hst3, L, C, y5, y6, y7, y8, y9, rfl, c3, hPL, hCC⟩
      have hsx := Tps.x (K := K) sx3 est
      have hal : as.length = n := by rw [Paired.length c3.hL, hPL.1, hN]
      have hpl : asP.length = n := by rw [c3.lP, hCC.1, hN]
      refine ⟨_, rfl, x0, _, 0, _, rfl, rfl, hsx _ _ hSx, atI_nat (j := 0) rfl, ?_⟩
      refine ⟨_, rfl, a, rfl, ⟨_, .inl (.inl c3.ha)⟩, fun D nD => ?_⟩
      refine lc_rep (walk_list (xs := as.map V.ref)) (st_RS (K := K)) (fun i => L.getD i []) (by rw [List.length_map]; omega) nD (fun H6 s6 => .inl (.inl (s6 _ _ c3.ha))) (fun i x H6 H7 Q2 hi s6 hY q2 => ?_) (fun H6 acc s6 eD6 hPa => ?_)
      · obtain ⟨rfl, hx⟩ := hY
        rw [List.getElem?_map] at hx
        obtain ⟨x1, hx1, rfl⟩ := Option.map_eq_some_iff.mp hx
        obtain ⟨r, er, hr1⟩ := paired_get c3.hL hx1
        refine ⟨rfl, _, rfl, x1, _, rfl, .inl (.inl (s6 _ _ hr1)), fun t ob nt nob => q2 _ _ (same_new nt) ⟨t, rfl, .inl (.inr ⟨ob, ?_⟩)⟩⟩
        rw [getD_some er]
        exact upd_same
      rw [List.length_map, hal, range_getD [] (show L.length = n by rw [hPL.1, hN])] at hPa
      refine ⟨D, _, rfl, .inl (.inl eD6), fun tq obq ntq nobq => ?_⟩
      have s7 := s6.trans (same_new (o := .frz obq (.tup acc)) ntq)
      have htq : SqT K (upd H6 tq (.frz obq (.tup acc))) tq acc := .inl (.inr ⟨_, upd_same⟩)
      have hPa7 := st_RS.all (same_new (o := .frz obq (.tup acc)) ntq) hPa
      generalize upd H6 tq (.frz obq (.tup acc)) = H7 at *
      have c7 := c3.same s7
      refine ⟨_, rfl, d, rfl, ⟨_, .inl (.inl c7.hd)⟩, fun D2 nD2 => ?_⟩
      refine lc_rep (walk_list (xs := asP.map V.ref)) (st_Tup1 (K := K)) (fun i => C.getD i []) (by rw [List.length_map]; omega) nD2 (fun H8 s8 => .inl (.inl (s8 _ _ c7.hd))) (fun i x H8 H9 Q2 hi s8 hY q2 => ?_) (fun H8 acc2 s8 eD2 hPb => ?_)
      · obtain ⟨rfl, hx⟩ := hY
        rw [List.getElem?_map] at hx
        obtain ⟨x1, hx1, rfl⟩ := Option.map_eq_some_iff.mp hx
        rw [List.length_map] at hi
        obtain ⟨bs, eb⟩ : ∃ bs, B[i]? = some bs := ⟨_, List.getElem?_eq_getElem (by rw [c7.lB, ← c7.lP]; exact hi)⟩
        obtain ⟨M, eM⟩ : ∃ M, C[i]? = some M := ⟨_, List.getElem?_eq_getElem (by rw [← c7.lP]; exact hi)⟩
        obtain ⟨hb1, hb2⟩ := c7.hC i x1 bs M hx1 eb eM
        have hML := (hCC.2 _ _ eM).1
        have hbl := Paired.length hb2
        refine ⟨rfl, _, rfl, x1, rfl, ⟨_, .inl (.inl (s8 _ _ hb1))⟩, fun D3 nD3 => ?_⟩
        refine lc_rep (walk_list (xs := bs.map V.ref)) (st_RS (K := K)) (fun j => M.getD j []) (by rw [List.length_map]; omega) nD3 (fun H10 s10 => .inl (.inl (s10 _ _ (s8 _ _ hb1)))) (fun j x H10 H11 Q3 hj s10 hY3 q3 => ?_) (fun H10 acc3 s10 eD3 hPc => ?_)
        · obtain ⟨rfl, hx3⟩ := hY3
          rw [List.getElem?_map] at hx3
          obtain ⟨x3, hx4, rfl⟩ := Option.map_eq_some_iff.mp hx3
          obtain ⟨r, er, hr1⟩ := paired_get hb2 hx4
          refine ⟨rfl, _, rfl, x3, _, rfl, .inl (.inl (s10 _ _ (s8 _ _ hr1))), fun t ob nt nob => q3 _ _ (same_new nt) ⟨t, rfl, .inl (.inr ⟨ob, ?_⟩)⟩⟩
          rw [getD_some er]
          exact upd_same
        · rw [List.length_map, hbl, range_getD [] rfl] at hPc
          refine ⟨D3, _, rfl, .inl (.inl eD3), fun t ob nt nob => q2 _ _ (s10.trans (same_new nt)) ⟨t, _, rfl, .inl (.inr ⟨ob, upd_same⟩), ?_⟩⟩
          rw [getD_some eM]
          exact st_RS.all (same_new nt) hPc
      rw [List.length_map, hpl, range_getD [] (show C.length = n by rw [hCC.1, hN])] at hPb
      refine ⟨D2, _, rfl, .inl (.inl eD2), fun tr obr ntr nobr => ⟨by show 3 ≤ sizeLine; decide, fun tz ntz => ?_⟩⟩
      have s9 := same_new (o := .frz obr (.tup acc2)) ntr
      have s10 := same_new (o := .tup [V.ref a0, V.ref tq, V.ref tr]) ntz
      have s810 := s8.trans (s9.trans s10)
      have sAll := s7.trans s810
      obtain ⟨s11, t11, e11⟩ := hst3
      refine q (.ref tz) ⟨t.ps, L, C⟩ _ (sx3.trans (Same.x sAll)) ⟨s11, t11, sAll _ _ e11⟩ ⟨tz, a0, tq, tr, acc2, rfl, .inl (.inl upd_same), Own.same_tup sAll (hsx _ _ hSa), ⟨tq, acc, rfl, Own.same_tup s810 htq, st_RS.all s810 hPa7⟩, .inl (.inr ⟨obr, s10 _ _ upd_same⟩), st_Tup1.all (s9.trans s10) hPb⟩ ⟨hV.pr, by rw [hN]; exact hn, hV.sz, hPL.1, hPL.2, hCC.1, hCC.2⟩ rfl
/-! ### _law_letters, _law_reason -/
theorem ok_lletters (T : Txt K mg) : FnOk P w K mg base CX0 1 T.a__law_letters T.d__law_letters ["row"] (fun vs H Q _ => ∃ (rv : V) (r : List Int), vs = [rv] ∧ RS K H rv r ∧ r.length ≤ 10 ∧ (∀ x ∈ r, 0 ≤ x ∧ x ≤ 31) ∧ ∀ H' z', Same H H' → RS K H' z' (letF 0 r) → Q z' H') := by
  refine T.F__law_letters.ok sc__law_letters (fun vs H Q E h => ?_) (fun cdv A outer s H vs Q E hr h => ?_)
  · obtain ⟨rv, r, rfl, _⟩ := h
    rfl
  · obtain ⟨rv, r, rfl, ⟨rt, rfl, hS⟩, hn, hx, q⟩ := h
    refine ⟨_, (pss_cons (ps_set (i := 1) sc__law_letters.nd rfl (.inl rfl) (pe_tup pa_nil)) 
    (pss_cons (ps_for PassesOwn.never rfl (pi_range1 (by rfl) T.n_range (pa_cons (pe_callB call_len_seq (by rfl) T.n_len (by decide +kernel) (pa_cons (pv 0) pa_nil)) pa_nil)) (pg_name (i := 2) sc__law_letters.nd rfl (.inl rfl)) 
      (pss_one (ps_for PassesOwn.never rfl (pi_range1 (by rfl) T.n_range (pa_cons (pe_ix ix_tup (pv 0) (pv 2) (fun _ _ => rfl)) pa_nil)) (pg_name (i := 3) sc__law_letters.nd rfl (.inl rfl)) 
        (pss_one (ps_set (i := 1) sc__law_letters.nd rfl (.inl rfl) (pe_op op_catA (pv 1) (pe_tup (pa_cons (pe_op op_add (pv 2) pe_int) pa_nil)))))))) 
    (pss_one (ps_ret (pv 1))))), ?_⟩
    refine ⟨Nat.zero_le _, fun t0 nt0 => ?_⟩
    refine ⟨_, rfl, rt, _, rfl, .inr (Own.same_tup (same_new nt0) hS), _, rfl, by rw [List.length_map]; omega, by rw [List.length_map]; omega, ?_⟩
    rw [List.length_map, Int.toNat_natCast]
    refine for_range (lo := 0) (n := r.length) (fun i σ H' => ∃ (fv : V) (y2 y3 : Option V), σ = [some (.ref rt), some fv, y2, y3] ∧ Same H H' ∧ RS K H' fv (letF 0 (r.take i)))
      ⟨.ref t0, none, none, rfl, same_new nt0, t0, rfl, .inl (.inl upd_same)⟩ ?_ ?_
    · rintro i σ H' hi ⟨fv, y2, y3, rfl, sm, hf⟩
      rw [Int.zero_add]
      have hxi := hx _ (atR_in hi)
      refine ⟨_, rfl, _, rfl, rt, _, _, _, rfl, rfl, Own.same_tup sm hS, atW hi, _, rfl, by omega, by omega, ?_⟩
      refine for_range (lo := 0) (n := (atR r i).toNat) (fun j σ H' => ∃ (fv : V) (y3 : Option V), σ = [some (.ref rt), some fv, some (.int i), y3] ∧ Same H H' ∧ RS K H' fv (letF 0 (r.take i) ++ List.replicate j ((i : Int) + 1)))
        ⟨fv, _, rfl, sm, by rw [List.replicate_zero, List.append_nil]; exact hf⟩ ?_ ?_
      · rintro j σ H2 hj ⟨fv, y3, rfl, s2, ⟨ft, rfl, hF⟩⟩
        refine ⟨_, rfl, _, rfl, _, _, rfl, rfl, by show 1 ≤ sizeLine; decide, fun t nt => ?_⟩
        have hlen := letF_len (r.take i) 0 fun x hx' => (hx x (List.mem_of_mem_take hx')).2
        rw [List.length_take] at hlen
        refine catA_q (Own.same_tup (same_new nt) hF) (.inl (.inl upd_same)) (by rw [List.length_map, List.length_append, List.length_replicate]; show _ + 1 ≤ 2000; omega) fun t2 H3 s3 h3 => ?_
        refine ⟨.ref t2, _, rfl, s2.trans ((same_new nt).trans s3), t2, rfl, ?_⟩
        rw [List.replicate_succ', ← List.append_assoc, List.map_append (l₁ := _ ++ _)]
        exact h3
      · rintro σ H2 ⟨fv, y3, rfl, s2, hF⟩
        refine ⟨fv, _, _, rfl, s2, ?_⟩
        rw [letF_take r 0 i hi, Nat.zero_add]
        exact hF
    · rintro σ H' ⟨fv, y2, y3, rfl, sm, hf⟩
      rw [List.take_length] at hf
      exact ⟨_, rfl, q _ _ sm hf⟩
structure ReasonC (K : PySem.W.Frag) (CM CR : Addr) : Prop where
  e1 : PySem.W.exmOne K (.ref CM) (.ref CM) = some true
  e2 : PySem.W.exmOne K (.ref CR) (.ref CM) = some false
  e3 : PySem.W.exmOne K (.ref CR) (.ref CR) = some true
def spReason (K : PySem.W.Frag) : Sp := fun vs H Q _ => ∃ (px wx cx : V) (dp dw dc : Dv), vs = [px, wx, cx] ∧ AtV K H px dp ∧ AtV K H wx dw ∧ AtV K H cx dc ∧ (∀ l, dp = .tup l → l.length ≤ 1000) ∧
  (formD dp dw dc = false → ∀ H', Same H H' → Q (.str "malformed") H') ∧ (formD dp dw dc = true → (Big (psD dp) → ∀ H', Same H H' → Q (.str "large") H') ∧ (¬ Big (psD dp) → ∀ H', Same H H' → Q (.str "none") H'))
theorem ok_reason (R : RefC K mg s_RI) (C_Malformed : ClMalformed K mg) (C_Presentation : ClPresentation K mg) (M : ReasonC K C_Malformed.C R.C) (T : Txt K mg) : FnOk P w K mg base CX0 8 T.a__law_reason T.d__law_reason ["primes", "powers", "parts"] (spReason K) := by
  have G : FnOk P w K mg base (L2.CX P w) 6 C_Presentation.a___init__ C_Presentation.d___init__ ["self", "primes", "powers", "conjugates"] (spPInit K C_Presentation.C C_Malformed.C R.C) := ok_PInit R C_Malformed C_Presentation T
  refine T.F__law_reason.ok sc__law_reason (fun vs H Q E h => ?_) (fun cdv A outer s H vs Q E hr h => ?_)
  · obtain ⟨px, wx, cx, dp, dw, dc, rfl, _⟩ := h
    rfl
  · obtain ⟨px, wx, cx, dp, dw, dc, rfl, hp, hw, hc, hl, qM, qF⟩ := h
    refine ⟨_, pss_cons (Own.ps_try_mix (Wout := fun _ _ _ _ => False) rfl rfl takes0
        (.cons (Own.does_plain (c := .ref C_Malformed.C) ⟨rfl, by decide, .inl C_Malformed.gC⟩ (fun a oe cls d pn hz hf => by exact (pss_one (ps_ret pe_str))))
          (.cons (Own.does_as (i := 3) (c := .ref R.C) sc__law_reason.nd rfl rfl ⟨rfl, by decide, .inl R.gC⟩ (fun a oe cls d pn hz hf => by exact (pss_one (ps_ret (pe_xf R.xf R.nf hz hf (pv 3)))))) .nil))
        (fun W pn xe tk _ => by exact (pss_one (ps_expr (Own.pe_makeS C_Presentation.mkr G (hr.mono (by decide)) rfl C_Presentation.gC C_Presentation.b___init__ (fun σ => passAt tk σ) (pa_cons (pv 0) (pa_cons (pv 1) (pa_cons (pv 2) pa_nil))))))))
      (pss_one (ps_ret pe_str)), ?_⟩
    refine ⟨_, rfl, _, rfl, _, rfl, fun x dx nx ndx hne => ?_⟩
    have s0 : Same H (upd (upd H dx (.own x)) x (.ins C_Presentation.C dx [])) := (same_new ndx).trans (same_new (by rw [upd_ne (Ne.symm hne)]; exact nx))
    have sx : ∀ {H' : Hp}, SameX x (upd (upd H dx (.own x)) x (.ins C_Presentation.C dx [])) H' → Same H H' := fun h b o e => h b o (ne_of_none e nx) (s0 _ _ e)
    refine ⟨x, dx, px, wx, cx, dp, dw, dc, rfl, upd_same, hp.mono s0, hw.mono s0, hc.mono s0, hl, fun hF H' s1 => ?_, fun hF => ⟨fun hB d H1 H' s1 nd1 he hd => ?_, fun hB H' s1 _ => ?_⟩⟩
    · exact ⟨true, M.e1, fun _ a na => qM hF H' (s0.trans s1), fun z => Bool.noConfusion z⟩
    · have s2 : Same H H' := fun b o e => by
        have := s1 _ _ (s0 _ _ e)
        rw [he b (ne_of_none this nd1)]
        exact this
      refine ⟨false, M.e2, fun z => Bool.noConfusion z, fun _ => ⟨true, M.e3, fun _ a na => ?_, fun z => Bool.noConfusion z⟩⟩
      dsimp only [Own.aft, Own.bef]
      unfold tRet tXf tVar
      dsimp only
      refine ⟨_, rfl, rfl, rfl, d, _, _, rfl, hd, rfl, ?_⟩
      exact (qF hF).1 hB H' s2
    · exact ⟨rfl, (qF hF).2 hB H' (sx s1)⟩
/-! ### what an expression gives, told by its form (Dv), over the heap H0 of the start -/
def EvV (K : PySem.W.Frag) (H0 : Hp) (te : TE) (σ : L2.St) (d : Dv) : Prop := ∀ (H : Hp) (Q : VK), Same H0 H → (∀ v H', Same H H' → AtV K H' v d → Q v H') → te σ H Q
def EvVs (K : PySem.W.Frag) (H0 : Hp) (ta : TA) (σ : L2.St) (ds : List Dv) : Prop := ∀ (H : Hp) (Q : List V → Hp → Prop), Same H0 H → (∀ vs H', Same H H' → Items K H' vs ds → Q vs H') → ta σ H Q
def EvO (to : TO) (σ : L2.St) (o : Option Int) : Prop := ∀ (H : Hp) (Q : Option Int → Hp → Prop), Q o H → to σ H Q
section
variable {H0 : Hp} {σ : L2.St}
theorem Items.cons {H : Hp} {u : V} {d : Dv} {us : List V} {ds : List Dv} (h : AtV K H u d) (k : Items K H us ds) : Items K H (u :: us) (d :: ds) := ⟨by rw [List.length_cons, List.length_cons, k.1], fun i x y e1 e2 => by
  cases i with
  | zero =>
    cases e1
    cases e2
    exact h
  | succ i => exact k.2 i x y e1 e2⟩
theorem Items.nil {H : Hp} : Items K H [] [] := ⟨rfl, fun i u d h => by simp at h⟩
theorem items_of {H : Hp} : ∀ {us : List V} {ds : List Dv}, Paired (AtV K H) us ds → Items K H us ds
  | _, _, .nil => Items.nil
  | _, _, .cons h t => Items.cons h (items_of t)
theorem Items.app {H : Hp} : ∀ {us vs : List V} {ds es : List Dv}, Items K H us ds → Items K H vs es → Items K H (us ++ vs) (ds ++ es) := fun h k => items_of (paired_app h.paired k.paired)
theorem paired_take {α β : Type} {R : α → β → Prop} : ∀ {as : List α} {bs : List β} (n : Nat), Paired R as bs → Paired R (as.take n) (bs.take n)
  | _, _, 0, _ => by rw [List.take_zero, List.take_zero]; exact .nil
  | _, _, n + 1, .nil => .nil
  | _, _, n + 1, .cons h t => .cons h (paired_take n t)
theorem paired_drop {α β : Type} {R : α → β → Prop} : ∀ {as : List α} {bs : List β} (n : Nat), Paired R as bs → Paired R (as.drop n) (bs.drop n)
  | _, _, 0, h => h
  | _, _, n + 1, .nil => .nil
  | _, _, n + 1, .cons h t => paired_drop n t
def cutD (xs : List Dv) (lo hi : Option Int) : List Dv := (xs.drop (HT.sIx xs.length 0 lo)).take (HT.sIx xs.length xs.length hi - HT.sIx xs.length 0 lo)
theorem Items.cut {H : Hp} {us : List V} {ds : List Dv} {lo hi : Option Int} (h : Items K H us ds) : Items K H (cutV us lo hi) (cutD ds lo hi) := by
  unfold cutV cutD
  rw [h.1]
  exact items_of (paired_take _ (paired_drop _ h.paired))
theorem cutD_init (xs : List Dv) : cutD xs none (some (-1)) = xs.take (xs.length - 1) := by
  have e : HT.sIx xs.length xs.length (some (-1)) = xs.length - 1 := by
    show (if (-1 : Int) < 0 then (-1 + (xs.length : Int)).toNat else min (-1 : Int).toNat xs.length) = _
    rw [if_pos (by decide)]
    omega
  unfold cutD
  rw [e]
  rfl
theorem cutD_tail (xs : List Dv) : cutD xs (some 1) none = xs.drop 1 := by
  unfold cutD
  show (xs.drop (min 1 xs.length)).take (xs.length - min 1 xs.length) = _
  cases xs with
  | nil => rfl
  | cons x xs =>
    rw [List.length_cons, Nat.min_eq_left (by omega)]
    show xs.take (xs.length + 1 - 1) = xs
    rw [Nat.add_sub_cancel, List.take_length]
theorem ev_var {i : Nat} {v : V} {d : Dv} (h : σ[i]? = some (some v)) (a : AtV K H0 v d) : EvV K H0 (tVar i) σ d := fun H Q s q => ⟨_, h, q _ H (Same.refl H) (a.mono s)⟩
theorem ev_int {i : Int} : EvV K H0 (tC (.int i)) σ (.int i) := fun H Q s q => q _ H (Same.refl H) (.int i)
theorem ev_neg {i : Int} : EvV K H0 (tUn (rU fun i => .int (-i)) (tC (.int i))) σ (.int (-i)) := fun H Q s q => ⟨i, rfl, q _ H (Same.refl H) (.int (-i))⟩
theorem ev_non : EvV K H0 (tC .non) σ .oth := fun H Q s q => q _ H (Same.refl H) (.oth .non)
theorem ev_bl {b : Bool} : EvV K H0 (tC (.bl b)) σ .oth := fun H Q s q => q _ H (Same.refl H) (.oth (.bl b))
theorem ev_str {s : Str} : EvV K H0 (tC (.str s)) σ .oth := fun H Q _ q => q _ H (Same.refl H) (.oth (.str s))
theorem ev_nil : EvVs K H0 tNil σ [] := fun H Q s q => q [] H (Same.refl H) Items.nil
theorem ev_cons {te : TE} {ta : TA} {d : Dv} {ds : List Dv} (h : EvV K H0 te σ d) (k : EvVs K H0 ta σ ds) : EvVs K H0 (tCons te ta) σ (d :: ds) := fun H Q s q => h H _ s fun v H1 s1 hv => k H1 _ (s.trans s1) fun vs H2 s2 hs => q (v :: vs) H2 (s1.trans s2) (.cons (hv.mono s2) hs)
theorem ev_tup {ta : TA} {ds : List Dv} (h : EvVs K H0 ta σ ds) (hl : ds.length ≤ 1000) : EvV K H0 (tTup ta) σ (.tup ds) := fun H Q s q => h H _ s fun vs H1 s1 hs => ⟨Nat.le_of_lt (small2000 (by rw [hs.1]; omega)), fun t nt => q _ _ (s1.trans (same_new nt)) (.tup (.inl (.inl upd_same)) hs.1 (hs.mono (same_new nt)).2)⟩
theorem ev_cat {ta tb : TE} {l1 l2 : List Dv} (ha : EvV K H0 ta σ (.tup l1)) (hb : EvV K H0 tb σ (.tup l2)) (hl : l1.length + l2.length ≤ 2000) : EvV K H0 (tOp (rCatA K) ta tb) σ (.tup (l1 ++ l2)) := fun H Q s q => ha H _ s fun v1 H1 s1 h1 => hb H1 _ (s.trans s1) fun v2 H2 s2 h2 => by
  obtain ⟨a, us, rfl, hS, hI⟩ := (h1.mono s2).tup_inv
  obtain ⟨b, vs, rfl, hT, hJ⟩ := h2.tup_inv
  exact catA_q hS hT (by rw [hI.1, hJ.1]; exact hl) fun t H3 s3 h3 => q _ H3 (s1.trans (s2.trans s3)) (.tup h3 ((hI.app hJ).1) ((hI.app hJ).mono s3).2)
theorem eo_none : EvO tNoPart σ none := fun H Q q => q
theorem eo_int {i : Int} : EvO (tPart (tC (.int i))) σ (some i) := fun H Q q => ⟨i, rfl, q⟩
theorem eo_neg {i : Int} : EvO (tPart (tUn (rU fun i => .int (-i)) (tC (.int i)))) σ (some (-i)) := fun H Q q => ⟨i, rfl, _, rfl, q⟩
theorem ev_sl {te : TE} {tl th : TO} {l : List Dv} {lo hi : Option Int} (h : EvV K H0 te σ (.tup l)) (hl : EvO tl σ lo) (hh : EvO th σ hi) : EvV K H0 (tSl (rSlA K) te tl th) σ (.tup (cutD l lo hi)) := fun H Q s q => h H _ s fun v H1 s1 h1 => hl _ _ (hh _ _ (by
  obtain ⟨a, us, rfl, hS, hI⟩ := h1.tup_inv
  exact slA_q hS fun t H3 s3 h3 => q _ H3 (s1.trans s3) (.tup h3 hI.cut.1 (hI.cut.mono s3).2)))
theorem ev_ix {ta tb : TE} {l : List Dv} {i : Int} {d : Dv} (h : EvV K H0 ta σ (.tup l)) (hb : EvV K H0 tb σ (.int i)) (hd : atI l i = some d) : EvV K H0 (tOp (rIxT K) ta tb) σ d := fun H Q s q => h H _ s fun v H1 s1 h1 => hb H1 _ (s.trans s1) fun w H2 s2 h2 => by
  obtain ⟨a, us, rfl, hS, hI⟩ := (h1.mono s2).tup_inv
  cases h2
  unfold atI at hd
  rw [← hI.1] at hd
  cases hx : ixN us.length i with
  | none => rw [hx] at hd; cases hd
  | some j =>
    rw [hx] at hd
    have hd : l[j]? = some d := hd
    have hj : j < us.length := by
      have := (List.getElem?_eq_some_iff.mp hd).1
      rw [hI.1]
      exact this
    refine ⟨a, us, i, us[j], rfl, rfl, hS, ?_, q _ H2 (s1.trans s2) (hI.2 j _ _ (List.getElem?_eq_getElem hj) hd)⟩
    unfold atI
    rw [hx]
    exact List.getElem?_eq_getElem hj
theorem ev_lst {te : TE} {l : List Dv} (h : EvV K H0 te σ (.tup l)) : EvV K H0 (tCB (rLstK K) (tCons te tNil)) σ .oth := fun H Q s q => h H _ s fun v H1 s1 h1 => by
  obtain ⟨a, us, rfl, hS, hI⟩ := h1.tup_inv
  exact ⟨a, us, rfl, .inr hS, fun t nt => q _ _ (s1.trans (same_new nt)) (.oth (.lst upd_same))⟩
theorem atI_last {α : Type} {l : List α} {d : α} (h : l[l.length - 1]? = some d) : atI l (-1) = some d := by
  have hl := (List.getElem?_eq_some_iff.mp h).1
  unfold atI ixN
  rw [if_neg (by decide), if_pos (by omega)]
  show l[(-1 + (l.length : Int)).toNat]? = some d
  rw [show (-1 + (l.length : Int)).toNat = l.length - 1 by omega]
  exact h
end
/-! the forms of a table's parts -/
def rowT (r : List Int) : Dv := .tup (r.map Dv.int)
def rowsT (M : List (List Int)) : Dv := .tup (M.map rowT)
theorem av_row {H : Hp} {v : V} {r : List Int} (h : RS K H v r) : AtV K H v (rowT r) := by
  obtain ⟨t, rfl, hS⟩ := h
  refine .tup hS (by rw [List.length_map, List.length_map]) fun i u d e1 e2 => ?_
  rw [List.getElem?_map] at e1 e2
  cases hr : r[i]? with
  | none => rw [hr] at e1; cases e1
  | some z =>
    rw [hr] at e1 e2
    cases e1
    cases e2
    exact .int z
theorem paired_map {α β γ : Type} {R : α → β → Prop} {S : α → γ → Prop} (f : β → γ) (h : ∀ a b, R a b → S a (f b)) : ∀ {as : List α} {bs : List β}, Paired R as bs → Paired S as (bs.map f)
  | _, _, .nil => .nil
  | _, _, .cons k t => .cons (h _ _ k) (paired_map f h t)
theorem av_rows {H : Hp} {v : V} {M : List (List Int)} (h : Tup1 K H v M) : AtV K H v (rowsT M) := by
  obtain ⟨t, us, rfl, hS, hP⟩ := h
  have hI := items_of (paired_map rowT (fun _ _ q => av_row q) hP)
  exact .tup hS hI.1 hI.2
theorem av_cj {H : Hp} {c : Addr} {us : List V} {C : List (List (List Int))} (hS : SqT K H c us) (hP : Paired (Tup1 K H) us C) : AtV K H (.ref c) (.tup (C.map rowsT)) := by
  have hI := items_of (paired_map rowsT (fun _ _ q => av_rows q) hP)
  exact .tup hS hI.1 hI.2
theorem psD_row (ps : List Int) : psD (rowT ps) = ps := by
  show (ps.map Dv.int).map _ = ps
  rw [List.map_map]
  exact List.map_id ps
theorem zer_take {r : List Int} {k : Nat} (h : Zb r k) (hk : k ≤ r.length) : ((r.map Dv.int).take k).all zerD = true := by
  rw [List.all_eq_true]
  intro d hd
  rw [← List.map_take] at hd
  obtain ⟨x, hx, rfl⟩ := List.mem_map.mp hd
  obtain ⟨i, hi, rfl⟩ := List.mem_iff_getElem.mp hx
  rw [List.length_take] at hi
  have := h i (by omega)
  unfold atR at this
  rw [List.getD_eq_getElem?_getD, List.getElem?_eq_getElem (by omega)] at this
  show decide (_ = 0) = true
  rw [List.getElem_take]
  exact decide_eq_true this
theorem rightD_true {ps r : List Int} {i : Nat} (hi : i < ps.length) (h : Bl ps r ∧ Zb r (i + 1)) : rightD ps i (rowT r) = true := by
  show (rowD (.tup (r.map Dv.int)) ps && _) = true
  rw [rowD_true h.1, Bool.true_and]
  exact zer_take h.2 (by rw [h.1.1]; omega)
theorem primes_true {ps : List Int} (h : ∀ p ∈ ps, p ∈ pr31) : primesD (rowT ps) = true := by
  show (ps.map Dv.int).all _ = true
  rw [List.all_eq_true]
  intro d hd
  obtain ⟨x, hx, rfl⟩ := List.mem_map.mp hd
  exact decide_eq_true (h x hx)
theorem powers_true {ps : List Int} {L : List (List Int)} (h : PwV ps L) : powersD (rowsT L) ps = true := by
  show (decide ((L.map rowT).length = ps.length) && _) = true
  rw [List.length_map, decide_eq_true h.1, Bool.true_and, List.all_eq_true]
  intro i hi
  have hi := List.mem_range.mp hi
  have e : L[i]? = some L[i] := List.getElem?_eq_getElem hi
  rw [getD_some (show (L.map rowT)[i]? = some (rowT L[i]) by rw [List.getElem?_map, e]; rfl)]
  exact rightD_true (by rw [← h.1]; exact hi) (h.2 i _ e)
theorem rights_true {ps : List Int} {M : List (List Int)} {i : Nat} (hi : i < ps.length) (hl : M.length = ps.length - (i + 1)) (h : ∀ r ∈ M, Bl ps r ∧ Zb r (i + 1)) : rightsD (rowsT M) ((ps.length : Int) - i - 1) ps i = true := by
  show (decide (((M.map rowT).length : Int) = _) && (M.map rowT).all _) = true
  rw [List.length_map, decide_eq_true (by omega), Bool.true_and, List.all_eq_true]
  intro d hd
  obtain ⟨r, hr, rfl⟩ := List.mem_map.mp hd
  exact rightD_true hi (h r hr)
theorem conjs_true {ps : List Int} {C : List (List (List Int))} (h : CjV ps C) : conjsD (.tup (C.map rowsT)) ps = true := by
  show (decide ((C.map rowsT).length = ps.length) && _) = true
  rw [List.length_map, decide_eq_true h.1, Bool.true_and, List.all_eq_true]
  intro i hi
  have hi := List.mem_range.mp hi
  have e : C[i]? = some C[i] := List.getElem?_eq_getElem hi
  rw [getD_some (show (C.map rowsT)[i]? = some (rowsT C[i]) by rw [List.getElem?_map, e]; rfl)]
  exact rights_true (by rw [← h.1]; exact hi) (h.2 i _ e).1 (h.2 i _ e).2
theorem form_true {ps : List Int} {L : List (List Int)} {C : List (List (List Int))} (hp : ∀ p ∈ ps, p ∈ pr31) (hL : PwV ps L) (hC : CjV ps C) : formD (rowT ps) (rowsT L) (.tup (C.map rowsT)) = true := by
  unfold formD
  rw [psD_row, primes_true hp, powers_true hL, conjs_true hC]
  rfl
/-! spoilt forms -/
theorem form_primes {dp dw dc : Dv} (h : primesD dp = false) : formD dp dw dc = false := by unfold formD; rw [h]; rfl
theorem form_powers {dp dw dc : Dv} (h : powersD dw (psD dp) = false) : formD dp dw dc = false := by unfold formD; rw [h, Bool.false_and, Bool.and_false]
theorem form_conjs {dp dw dc : Dv} (h : conjsD dc (psD dp) = false) : formD dp dw dc = false := by unfold formD; rw [h, Bool.and_false, Bool.and_false]
/-- no tuple of n, or with a last item that is nothing -/
def BadT (d : Dv) (n : Nat) : Prop := match d with
  | .tup l => l.length ≠ n ∨ (0 < n ∧ l.getD (n - 1) .oth = .oth)
  | _ => True
theorem bad_powers {d : Dv} {ps : List Int} (h : BadT d ps.length) : powersD d ps = false := by
  cases d with
  | int i => rfl
  | oth => rfl
  | tup l =>
    show (decide (l.length = ps.length) && _) = false
    by_cases e : l.length = ps.length
    · rcases h with h | ⟨h0, h1⟩
      · exact absurd e h
      · rw [decide_eq_true e, Bool.true_and, List.all_eq_false]
        refine ⟨ps.length - 1, List.mem_range.mpr (by omega), ?_⟩
        rw [h1]
        exact Bool.false_ne_true
    · rw [decide_eq_false e, Bool.false_and]
theorem bad_conjs {d : Dv} {ps : List Int} (h : BadT d ps.length) : conjsD d ps = false := by
  cases d with
  | int i => rfl
  | oth => rfl
  | tup l =>
    show (decide (l.length = ps.length) && _) = false
    by_cases e : l.length = ps.length
    · rcases h with h | ⟨h0, h1⟩
      · exact absurd e h
      · rw [decide_eq_true e, Bool.true_and, List.all_eq_false]
        refine ⟨ps.length - 1, List.mem_range.mpr (by omega), ?_⟩
        rw [h1]
        exact Bool.false_ne_true
    · rw [decide_eq_false e, Bool.false_and]
theorem bad_first {d : Dv} {ps : List Int} {l : List Dv} (h0 : 0 < ps.length) (h : rightD ps 0 d = false) : powersD (.tup ([d] ++ l)) ps = false := by
  show (decide (([d] ++ l).length = ps.length) && _) = false
  rw [show (List.all (List.range ([d] ++ l).length) fun i => rightD ps i (([d] ++ l).getD i .oth)) = false from List.all_eq_false.mpr ⟨0, List.mem_range.mpr (by show 0 < l.length + 1; omega), by show ¬ rightD ps 0 d = true; rw [h]; exact Bool.false_ne_true⟩, Bool.and_false]
theorem bad_firstC {d : Dv} {ps : List Int} {l m : List Dv} (h : rightD ps 0 d = false) : conjsD (.tup ([.tup ([d] ++ l)] ++ m)) ps = false := by
  show (decide (([Dv.tup ([d] ++ l)] ++ m).length = ps.length) && _) = false
  have z : rightsD (.tup ([d] ++ l)) ((ps.length : Int) - (0 : Nat) - 1) ps 0 = false := by
    show (decide _ && ([d] ++ l).all (rightD ps 0)) = false
    rw [show ([d] ++ l).all (rightD ps 0) = false from List.all_eq_false.mpr ⟨d, List.mem_cons_self .., by rw [h]; exact Bool.false_ne_true⟩, Bool.and_false]
  rw [show (List.all (List.range ([Dv.tup ([d] ++ l)] ++ m).length) fun i => rightsD (([Dv.tup ([d] ++ l)] ++ m).getD i .oth) ((ps.length : Int) - i - 1) ps i) = false from List.all_eq_false.mpr ⟨0, List.mem_range.mpr (by show 0 < m.length + 1; omega), by
    show ¬ rightsD (.tup ([d] ++ l)) ((ps.length : Int) - (0 : Nat) - 1) ps 0 = true
    rw [z]
    exact Bool.false_ne_true⟩, Bool.and_false]
theorem bad_lastC {d : Dv} {ps : List Int} {m : List Dv} (hm : m.length + 1 = ps.length) : conjsD (.tup (m ++ [.tup [d]])) ps = false := by
  show (decide _ && _) = false
  have z : rightsD (.tup [d]) ((ps.length : Int) - m.length - 1) ps m.length = false := by
    show (decide ((([d] : List Dv).length : Int) = _) && _) = false
    rw [decide_eq_false (by show ¬ ((1 : Nat) : Int) = _; omega), Bool.false_and]
  rw [show (List.all (List.range (m ++ [Dv.tup [d]]).length) fun i => rightsD ((m ++ [Dv.tup [d]]).getD i .oth) ((ps.length : Int) - i - 1) ps i) = false from List.all_eq_false.mpr ⟨m.length, List.mem_range.mpr (by rw [List.length_append]; show m.length < m.length + 1; omega), by
    rw [getD_some (show (m ++ [Dv.tup [d]])[m.length]? = some (.tup [d]) by rw [List.getElem?_append_right (Nat.le_refl _), Nat.sub_self]; rfl), z]
    exact Bool.false_ne_true⟩, Bool.and_false]
theorem rowD_last {d : Dv} {ps : List Int} {l : List Dv} (hl : l.length + 1 = ps.length) (h : itemD d (atR ps l.length) = false) : rowD (.tup (l ++ [d])) ps = false := by
  rw [rowD_tup, show (List.zipWith itemD (l ++ [d]) ps).all id = false from List.all_eq_false.mpr ⟨itemD d (atR ps l.length), List.mem_of_getElem? (i := l.length) (by
    rw [List.getElem?_zipWith, List.getElem?_append_right (Nat.le_refl _), Nat.sub_self, atR_get (by omega)]
    rfl), by rw [h]; exact Bool.false_ne_true⟩, Bool.and_false]
theorem rowD_len {ps : List Int} {l : List Dv} (hl : l.length ≠ ps.length) : rowD (.tup l) ps = false := by rw [rowD_tup, decide_eq_false hl, Bool.false_and]
theorem right_row {d : Dv} {ps : List Int} {i : Nat} (h : rowD d ps = false) : rightD ps i d = false := by
  unfold rightD
  rw [h, Bool.false_and]
theorem right_one {ps : List Int} {l : List Dv} : rightD ps 0 (.tup ([.int 1] ++ l)) = false := by
  show (_ && (List.take 1 ([Dv.int 1] ++ l)).all zerD) = false
  rw [show (List.take 1 ([Dv.int 1] ++ l)).all zerD = false from rfl, Bool.and_false]
/-- for x in [e, ..]: over values of any form -/
theorem for_vals {H : Hp} {σ : L2.St} {ta : TA} {g : TG} {tb : TS} {D : Ends} {ds : List Dv} (h : EvVs K H ta σ ds) (hl : ds.length ≤ 1000) (Pv : Nat → L2.St → Prop) (h0 : Pv 0 σ)
    (hs : ∀ (i : Nat) (x : V) (d : Dv) (σ : L2.St) (H1 : Hp) (N : L2.St → Hp → Prop), d ∈ ds → AtV K H1 x d → Same H H1 → Pv i σ → (∀ σ' H2, Same H1 H2 → Pv (i + 1) σ' → N σ' H2) → g x σ H1 fun σ2 H2 => tb { D with nx := N, ct := N, bk := D.nx } σ2 H2)
    (hd : ∀ σ H1, Same H H1 → Pv ds.length σ → D.nx σ H1) : tFor (iList K (tLst ta)) g tb D σ H := by
  refine h H _ (Same.refl H) fun vs H1 s1 hI => ⟨Nat.le_of_lt (small2000 (by rw [hI.1]; omega)), fun a na => ⟨a, rfl, ⟨vs, .inl (.inl upd_same)⟩, ?_⟩⟩
  have s2 := same_new (o := .lst vs) na
  refine for_list (xs := vs) (fun i σ H' => Pv i σ ∧ Same (upd H1 a (.lst vs)) H') ⟨h0, Same.refl _⟩ (fun i σ H' _ h => .inl (.inl (h.2 _ _ upd_same))) (fun i x σ H' hx hp => ?_) (fun σ H' hp => ?_)
  · have hi := (List.getElem?_eq_some_iff.mp hx).1
    have hi : i < ds.length := by rw [← hI.1]; exact hi
    have e : ds[i]? = some ds[i] := List.getElem?_eq_getElem hi
    exact hs i x ds[i] σ H' _ (List.mem_of_getElem? e) ((hI.2 i x _ hx e).mono (s2.trans hp.2)) (s1.trans (s2.trans hp.2)) hp.1 fun σ' H2 s3 p => ⟨p, hp.2.trans s3⟩
  · rw [hI.1] at hp
    exact hd σ H' (s1.trans (s2.trans hp.2)) hp.1
theorem asg_vals {H : Hp} {σ : L2.St} {ta : TA} {g : TG} {D : Ends} {ds : List Dv} (h : EvVs K H ta σ ds) (hl : ds.length ≤ 1000) (q : ∀ l vs H', Same H H' → H' l = some (.lst vs) → Items K H' vs ds → g (.ref l) σ H' D.nx) : tAsg (tLst ta) g D σ H :=
  h H _ (Same.refl H) fun vs H1 s1 hI => ⟨Nat.le_of_lt (small2000 (by rw [hI.1]; omega)), fun a na => q a vs _ (s1.trans (same_new na)) upd_same (hI.mono (same_new na))⟩
theorem for_items {H : Hp} {σ : L2.St} {g : TG} {tb : TS} {D : Ends} {ds : List Dv} {k : Nat} {a : Addr} {vs : List V} (hv : σ[k]? = some (some (.ref a))) (ha : H a = some (.lst vs)) (hI : Items K H vs ds) (Pv : Nat → L2.St → Prop) (h0 : Pv 0 σ)
    (hs : ∀ (i : Nat) (x : V) (d : Dv) (σ : L2.St) (H1 : Hp) (N : L2.St → Hp → Prop), d ∈ ds → AtV K H1 x d → Same H H1 → Pv i σ → (∀ σ' H2, Same H1 H2 → Pv (i + 1) σ' → N σ' H2) → g x σ H1 fun σ2 H2 => tb { D with nx := N, ct := N, bk := D.nx } σ2 H2)
    (hd : ∀ σ H1, Same H H1 → Pv ds.length σ → D.nx σ H1) : tFor (iList K (tVar k)) g tb D σ H := by
  refine ⟨_, hv, a, rfl, ⟨vs, .inl (.inl ha)⟩, ?_⟩
  refine for_list (xs := vs) (fun i σ H' => Pv i σ ∧ Same H H') ⟨h0, Same.refl _⟩ (fun i σ H' _ h => .inl (.inl (h.2 _ _ ha))) (fun i x σ H' hx hp => ?_) (fun σ H' hp => ?_)
  · have hi := (List.getElem?_eq_some_iff.mp hx).1
    have hi : i < ds.length := by rw [← hI.1]; exact hi
    have e : ds[i]? = some ds[i] := List.getElem?_eq_getElem hi
    exact hs i x ds[i] σ H' _ (List.mem_of_getElem? e) ((hI.2 i x _ hx e).mono hp.2) hp.2 hp.1 fun σ' H2 s3 p => ⟨p, hp.2.trans s3⟩
  · rw [hI.1] at hp
    exact hd σ H' hp.2 hp.1
theorem items3 {H : Hp} {vs : List V} {a b c : Dv} (h : Items K H vs [a, b, c]) : ∃ x y z, vs = [x, y, z] ∧ AtV K H x a ∧ AtV K H y b ∧ AtV K H z c := by
  match vs, h.1 with
  | [x, y, z], _ => exact ⟨x, y, z, rfl, h.2 0 _ _ rfl rfl, h.2 1 _ _ rfl rfl, h.2 2 _ _ rfl rfl⟩
theorem call_reason {H : Hp} {σ : L2.St} {ta : TA} {dp dw dc : Dv} {Q : VK} {E : XK} (h : EvVs K H ta σ [dp, dw, dc]) (hl : ∀ l, dp = .tup l → l.length ≤ 1000) (hf : formD dp dw dc = false) (q : ∀ H', Same H H' → Q (.str "malformed") H') : tCall (spReason K) [] E ta σ H Q :=
  h H _ (Same.refl H) fun vs H1 s1 hI => by
    obtain ⟨x, y, z, rfl, hx, hy, hz⟩ := items3 hI
    exact ⟨x, y, z, dp, dw, dc, rfl, hx, hy, hz, hl, fun _ H' s => q H' (s1.trans s), fun e => Bool.noConfusion (hf.symm.trans e)⟩
/-! ### _law_forms -/
def spForms (K : PySem.W.Frag) : Sp := fun vs H Q _ => ∃ (z : V) (t : Tb), vs = [z] ∧ TbAt K H z t ∧ Vd t ∧ ∀ H', Same H H' → Q (.bl true) H'
theorem forms_primes {ps : List Int} {L : List (List Int)} {dc : Dv} (hL : L.length = ps.length) : ∀ d ∈ [Dv.oth, .int 0, .oth, .oth, .tup (ps.map Dv.int ++ [.int 4]), .tup (ps.map Dv.int ++ [.int 1]), .tup (ps.map Dv.int ++ [.int 37]), .tup (ps.map Dv.int ++ [.oth]), .tup (ps.map Dv.int ++ [.int 2])], formD d (rowsT L) dc = false := by
  have key : ∀ d : Dv, (match d with | .int i => decide (i ∈ pr31) | _ => false) = false → formD (.tup (ps.map Dv.int ++ [d])) (rowsT L) dc = false := fun d h => form_primes (by
    show (ps.map Dv.int ++ [d]).all _ = false
    exact List.all_eq_false.mpr ⟨d, List.mem_append_right _ (List.mem_singleton.mpr rfl), fun z => Bool.noConfusion (h.symm.trans z)⟩)
  intro d hd
  simp only [List.mem_cons, List.not_mem_nil, or_false] at hd
  rcases hd with rfl | rfl | rfl | rfl | rfl | rfl | rfl | rfl | rfl
  · exact form_primes rfl
  · exact form_primes rfl
  · exact form_primes rfl
  · exact form_primes rfl
  · exact key _ (by decide)
  · exact key _ (by decide)
  · exact key _ (by decide)
  · exact key _ rfl
  · refine form_powers (bad_powers (.inl ?_))
    rw [show ps.map Dv.int ++ [Dv.int 2] = (ps ++ [2]).map Dv.int by rw [List.map_append]; rfl]
    show (L.map rowT).length ≠ (psD (rowT (ps ++ [2]))).length
    rw [psD_row, List.length_map, List.length_append, hL]
    show ps.length ≠ ps.length + 1
    omega
theorem forms_rows {L : List (List Int)} {z : Dv} {n : Nat} (hL : L.length = n) : ∀ d ∈ [Dv.oth, .int 0, .oth, .tup (L.map rowT ++ [z]), .tup ((L.map rowT).take ((L.map rowT).length - 1) ++ [.oth]), .tup (L.map rowT ++ [.oth])], BadT d n := by
  intro d hd
  simp only [List.mem_cons, List.not_mem_nil, or_false] at hd
  rcases hd with rfl | rfl | rfl | rfl | rfl | rfl
  · trivial
  · trivial
  · trivial
  · exact .inl (by rw [List.length_append, List.length_map]; show L.length + 1 ≠ n; omega)
  · by_cases h0 : n = 0
    · exact .inl (by rw [List.length_append, List.length_take, List.length_map]; show min (L.length - 1) L.length + 1 ≠ n; omega)
    · refine .inr ⟨by omega, getD_some ?_⟩
      have e : ((L.map rowT).take ((L.map rowT).length - 1)).length = n - 1 := by rw [List.length_take, List.length_map]; omega
      rw [List.getElem?_append_right (by omega), e, Nat.sub_self]
      rfl
  · exact .inl (by rw [List.length_append, List.length_map]; show L.length + 1 ≠ n; omega)
theorem forms_wrong {ps : List Int} {n : Nat} (hn : ps.length = n) (h0 : 0 < n) : ∀ d ∈ [Dv.tup ((List.replicate n (Dv.int 0)).take (n - 1)), .tup (List.replicate n (Dv.int 0) ++ [.int 0]), .oth, .tup ((List.replicate n (Dv.int 0)).take (n - 1) ++ [.int (atR ps (n - 1))]), .tup ((List.replicate n (Dv.int 0)).take (n - 1) ++ [.int (-1)]), .tup ((List.replicate n (Dv.int 0)).take (n - 1) ++ [.oth]), .tup ((List.replicate n (Dv.int 0)).take (n - 1) ++ [.oth]), .tup ([.int 1] ++ (List.replicate n (Dv.int 0)).drop 1)], rightD ps 0 d = false := by
  have e : ((List.replicate n (Dv.int 0)).take (n - 1)).length = n - 1 := by rw [List.length_take, List.length_replicate]; omega
  have key : ∀ d : Dv, itemD d (atR ps (n - 1)) = false → rightD ps 0 (.tup ((List.replicate n (Dv.int 0)).take (n - 1) ++ [d])) = false := fun d h => right_row (rowD_last (by rw [e, hn]; omega) (by rw [e]; exact h))
  intro d hd
  simp only [List.mem_cons, List.not_mem_nil, or_false] at hd
  rcases hd with rfl | rfl | rfl | rfl | rfl | rfl | rfl | rfl
  · exact right_row (rowD_len (by rw [e]; omega))
  · exact right_row (rowD_len (by rw [List.length_append, List.length_replicate]; show n + 1 ≠ _; omega))
  · rfl
  · exact key _ (by show (decide _ && decide (atR ps (n - 1) < atR ps (n - 1))) = false; rw [decide_eq_false (Int.lt_irrefl _), Bool.and_false])
  · exact key _ rfl
  · exact key _ rfl
  · exact key _ rfl
  · exact right_one
theorem rowT_zero (n : Nat) : rowT (zeroR n) = .tup (List.replicate n (Dv.int 0)) := by
  show Dv.tup ((List.replicate n (0 : Int)).map Dv.int) = _
  rw [List.map_replicate]
theorem ev_init {H0 : Hp} {σ : L2.St} {te : TE} {l : List Dv} (h : EvV K H0 te σ (.tup l)) : EvV K H0 (tSl (rSlA K) te tNoPart (tPart (tUn (rU fun i => .int (-i)) (tC (.int 1))))) σ (.tup (l.take (l.length - 1))) := by
  rw [← cutD_init]
  exact ev_sl h eo_none eo_neg
theorem ev_tail {H0 : Hp} {σ : L2.St} {te : TE} {l : List Dv} (h : EvV K H0 te σ (.tup l)) : EvV K H0 (tSl (rSlA K) te (tPart (tC (.int 1))) tNoPart) σ (.tup (l.drop 1)) := by
  rw [← cutD_tail]
  exact ev_sl h eo_int eo_none
theorem forms_len {ps : List Int} {n : Nat} (hn : ps.length ≤ n) : ∀ d ∈ [Dv.oth, .int 0, .oth, .oth, .tup (ps.map Dv.int ++ [.int 4]), .tup (ps.map Dv.int ++ [.int 1]), .tup (ps.map Dv.int ++ [.int 37]), .tup (ps.map Dv.int ++ [.oth]), .tup (ps.map Dv.int ++ [.int 2])], ∀ l, d = .tup l → l.length ≤ n + 1 := by
  intro d hd l e
  have key : ∀ x : Dv, Dv.tup (ps.map Dv.int ++ [x]) = .tup l → l.length ≤ n + 1 := fun x e => by
    cases e
    rw [List.length_append, List.length_map]
    exact Nat.succ_le_succ hn
  simp only [List.mem_cons, List.not_mem_nil, or_false] at hd
  rcases hd with rfl | rfl | rfl | rfl | rfl | rfl | rfl | rfl | rfl
  · cases e
  · cases e
  · cases e
  · cases e
  · exact key _ e
  · exact key _ e
  · exact key _ e
  · exact key _ e
  · exact key _ e
theorem ok_forms (R : RefC K mg s_RI) (C_Malformed : ClMalformed K mg) (C_Presentation : ClPresentation K mg) (M : ReasonC K C_Malformed.C R.C) (T : Txt K mg) : FnOk P w K mg base CX0 9 T.a__law_forms T.d__law_forms ["table"] (spForms K) := by
  have G__law_reason : FnOk P w K mg base CX0 8 T.a__law_reason T.d__law_reason ["primes", "powers", "parts"] (spReason K) := ok_reason R C_Malformed C_Presentation M T
  refine T.F__law_forms.ok sc__law_forms (fun vs H Q E h => ?_) (fun cdv A outer s H vs Q E hr h => ?_)
  · obtain ⟨z, t, rfl, _⟩ := h
    rfl
  · obtain ⟨z, t, rfl, hT, hV, q⟩ := h
    refine ⟨_, (pss_cons (ps_asg (pv 0) (pg_tup rfl (pgs_cons (pg_name (i := 1) sc__law_forms.nd rfl (.inl rfl)) (pgs_cons (pg_name (i := 2) sc__law_forms.nd rfl (.inl rfl)) (pgs_cons (pg_name (i := 3) sc__law_forms.nd rfl (.inl rfl)) pgs_nil))))) 
    (pss_cons (ps_set (i := 4) sc__law_forms.nd rfl (.inl rfl) (pe_callB call_len_seq (by rfl) T.n_len (by decide +kernel) (pa_cons (pv 1) pa_nil))) 
    (pss_cons (ps_for PassesOwn.never rfl (pi_list (pe_lst (pa_cons pe_non (pa_cons pe_int (pa_cons pe_str (pa_cons (pe_callTy (show CallR _ (.type "list") (rLstK K) from call_lstK) (by rfl) T.n_list (by decide +kernel) (pa_cons (pv 1) pa_nil)) (pa_cons (pe_op op_catA (pv 1) (pe_tup (pa_cons pe_int pa_nil))) (pa_cons (pe_op op_catA (pv 1) (pe_tup (pa_cons pe_int pa_nil))) (pa_cons (pe_op op_catA (pv 1) (pe_tup (pa_cons pe_int pa_nil))) (pa_cons (pe_op op_catA (pv 1) (pe_tup (pa_cons pe_bl pa_nil))) (pa_cons (pe_op op_catA (pv 1) (pe_tup (pa_cons pe_int pa_nil))) pa_nil))))))))))) (pg_name (i := 5) sc__law_forms.nd rfl (.inl rfl)) 
      (pss_one (ps_if (pt_cmpR op_ne (pe_call G__law_reason (hr.mono (by decide)) (by rfl) T.g__law_reason T.F__law_reason.kp T.b__law_reason .nil pass0 (pa_cons (pv 5) (pa_cons (pv 2) (pa_cons (pv 3) pa_nil)))) pe_str (nomark _)) 
        (pss_one (ps_ret pe_bl)) pss_nil))) 
    (pss_cons (ps_set (i := 6) sc__law_forms.nd rfl (.inl rfl) (pe_callTy call_tuple_of (by rfl) T.n_tuple (by decide +kernel) (pa_cons (pe_lc (own := [("k", 9)]) rfl sc__law_forms.nd (pi_range1 (by rfl) T.n_range (pa_cons (pv 4) pa_nil)) (blkOk_by (N := N__law_forms) (sc := defScope s__law_forms) (own := [("k", 9)]) (by decide +kernel)) (fun _ _ _ _ _ => (pg_name (i := 9) sc__law_forms.nd rfl (.inl rfl))) (fun _ _ _ _ _ => pts_nil) (fun _ _ _ _ _ => pe_int)) pa_nil))) 
    (pss_cons (ps_for PassesOwn.never rfl (pi_list (pe_lst (pa_cons pe_non (pa_cons pe_int (pa_cons (pe_callTy (show CallR _ (.type "list") (rLstK K) from call_lstK) (by rfl) T.n_list (by decide +kernel) (pa_cons (pv 2) pa_nil)) (pa_cons (pe_op op_catA (pv 2) (pe_tup (pa_cons (pv 6) pa_nil))) (pa_cons (pe_op op_catA (pe_slice sl_tupA (pv 2) po_none (po_some (pe_un un_neg pe_int))) (pe_tup (pa_cons pe_str pa_nil))) (pa_cons (pe_op op_catA (pv 2) (pe_tup (pa_cons pe_non pa_nil))) pa_nil)))))))) (pg_name (i := 5) sc__law_forms.nd rfl (.inl rfl)) 
      (pss_one (ps_if (PW.pt (pw_or (pt_cmpR op_ne (pe_call G__law_reason (hr.mono (by decide)) (by rfl) T.g__law_reason T.F__law_reason.kp T.b__law_reason .nil pass0 (pa_cons (pv 1) (pa_cons (pv 5) (pa_cons (pv 3) pa_nil)))) pe_str (nomark _)) (pw_or1 (PW.pt (pw_and (pt_cmpR op_ne (pe_call G__law_reason (hr.mono (by decide)) (by rfl) T.g__law_reason T.F__law_reason.kp T.b__law_reason .nil pass0 (pa_cons (pv 1) (pa_cons (pv 2) (pa_cons (pv 5) pa_nil)))) pe_str (nomark _)) (pw_and1 (pt_cmpR op_gt (pv 4) pe_int (nomark _)))))))) 
        (pss_one (ps_ret pe_bl)) pss_nil))) 
    (pss_cons (ps_if (pt_cmpR op_eq (pv 4) pe_int (nomark _)) 
      (pss_one (ps_ret pe_bl)) pss_nil) 
    (pss_cons (ps_set (i := 7) sc__law_forms.nd rfl (.inl rfl) (pe_lst (pa_cons (pe_slice sl_tupA (pv 6) po_none (po_some (pe_un un_neg pe_int))) (pa_cons (pe_op op_catA (pv 6) (pe_tup (pa_cons pe_int pa_nil))) (pa_cons (pe_callTy (show CallR _ (.type "list") (rLstK K) from call_lstK) (by rfl) T.n_list (by decide +kernel) (pa_cons (pv 6) pa_nil)) (pa_cons (pe_op op_catA (pe_slice sl_tupA (pv 6) po_none (po_some (pe_un un_neg pe_int))) (pe_tup (pa_cons (pe_ix ix_tup (pv 1) (pe_un un_neg pe_int) (fun _ _ => rfl)) pa_nil))) (pa_cons (pe_op op_catA (pe_slice sl_tupA (pv 6) po_none (po_some (pe_un un_neg pe_int))) (pe_tup (pa_cons (pe_un un_neg pe_int) pa_nil))) (pa_cons (pe_op op_catA (pe_slice sl_tupA (pv 6) po_none (po_some (pe_un un_neg pe_int))) (pe_tup (pa_cons pe_non pa_nil))) (pa_cons (pe_op op_catA (pe_slice sl_tupA (pv 6) po_none (po_some (pe_un un_neg pe_int))) (pe_tup (pa_cons pe_bl pa_nil))) (pa_cons (pe_op op_catA (pe_tup (pa_cons pe_int pa_nil)) (pe_slice sl_tupA (pv 6) (po_some pe_int) po_none)) pa_nil)))))))))) 
    (pss_cons (ps_for PassesOwn.never rfl (pi_list (pv 7)) (pg_name (i := 8) sc__law_forms.nd rfl (.inl rfl)) 
      (pss_cons (ps_if (pt_cmpR op_ne (pe_call G__law_reason (hr.mono (by decide)) (by rfl) T.g__law_reason T.F__law_reason.kp T.b__law_reason .nil pass0 (pa_cons (pv 1) (pa_cons (pe_op op_catA (pe_tup (pa_cons (pv 8) pa_nil)) (pe_slice sl_tupA (pv 2) (po_some pe_int) po_none)) (pa_cons (pv 3) pa_nil)))) pe_str (nomark _)) 
        (pss_one (ps_ret pe_bl)) pss_nil) 
      (pss_one (ps_if (PW.pt (pw_and (pt_cmpR op_gt (pv 4) pe_int (nomark _)) (pw_and1 (pt_cmpR op_ne (pe_call G__law_reason (hr.mono (by decide)) (by rfl) T.g__law_reason T.F__law_reason.kp T.b__law_reason .nil pass0 (pa_cons (pv 1) (pa_cons (pv 2) (pa_cons (pe_op op_catA (pe_tup (pa_cons (pe_op op_catA (pe_tup (pa_cons (pv 8) pa_nil)) (pe_slice sl_tupA (pe_ix ix_tup (pv 3) pe_int (fun _ _ => rfl)) (po_some pe_int) po_none)) pa_nil)) (pe_slice sl_tupA (pv 3) (po_some pe_int) po_none)) pa_nil)))) pe_str (nomark _))))) 
        (pss_one (ps_ret pe_bl)) pss_nil)))) 
    (pss_one (ps_ret (pe_cmpR op_eq (pe_call G__law_reason (hr.mono (by decide)) (by rfl) T.g__law_reason T.F__law_reason.kp T.b__law_reason .nil pass0 (pa_cons (pv 1) (pa_cons (pv 2) (pa_cons (pe_op op_catA (pe_slice sl_tupA (pv 3) po_none (po_some (pe_un un_neg pe_int))) (pe_tup (pa_cons (pe_tup (pa_cons (pv 6) pa_nil)) pa_nil))) pa_nil)))) pe_str (nomark _)))))))))))), ?_⟩
    obtain ⟨x0, a, b, c, us, vs, rfl, hSx, hSa, hSb, hPw, hSc, hPc⟩ := hT.rd
    have hnp := hV.n10
    have hwl := hV.pwl
    have hcl := hV.cjl
    have hL : PwV t.ps t.pw := ⟨hV.pwl, hV.pwr⟩
    have hC : CjV t.ps t.cj := ⟨hV.cjl, hV.cjr⟩
    have ap : AtV K H (.ref a) (rowT t.ps) := av_row ⟨a, rfl, hSa⟩
    have aw : AtV K H (.ref b) (rowsT t.pw) := av_rows ⟨b, us, rfl, hSb, hPw⟩
    have ac : AtV K H (.ref c) (.tup (t.cj.map rowsT)) := av_cj hSc hPc
    have lp : ∀ l, rowT t.ps = .tup l → l.length ≤ 1000 := fun l e => by cases e; rw [List.length_map]; omega
    have no : ∀ {b : Bool} {A : Prop}, b = false → b = true → A := fun h z => Bool.noConfusion (h.symm.trans z)
    have nemal : (!decide (V.str "malformed" = V.str "malformed")) = false := by rw [decide_eq_true rfl]; rfl
    refine ⟨_, rfl, x0, _, rfl, hSx, rfl, _, _, rfl, _, _, rfl, _, _, rfl, rfl, ?_⟩
    refine ⟨_, rfl, a, _, rfl, .inr hSa, ?_⟩
    rw [List.length_map]
    have n1 : t.ps.length + 1 ≤ 2000 := by omega
    have lm : (t.ps.map Dv.int).length + 1 ≤ 2000 := by rw [List.length_map]; exact n1
    refine for_vals (ds := [Dv.oth, .int 0, .oth, .oth, .tup (t.ps.map Dv.int ++ [.int 4]), .tup (t.ps.map Dv.int ++ [.int 1]), .tup (t.ps.map Dv.int ++ [.int 37]), .tup (t.ps.map Dv.int ++ [.oth]), .tup (t.ps.map Dv.int ++ [.int 2])])
      (ev_cons ev_non (ev_cons ev_int (ev_cons ev_str (ev_cons (ev_lst (ev_var (i := 1) rfl ap)) (ev_cons (ev_cat (ev_var (i := 1) rfl ap) (ev_tup (ev_cons ev_int ev_nil) (by decide)) lm) (ev_cons (ev_cat (ev_var (i := 1) rfl ap) (ev_tup (ev_cons ev_int ev_nil) (by decide)) lm) (ev_cons (ev_cat (ev_var (i := 1) rfl ap) (ev_tup (ev_cons ev_int ev_nil) (by decide)) lm) (ev_cons (ev_cat (ev_var (i := 1) rfl ap) (ev_tup (ev_cons ev_bl ev_nil) (by decide)) lm) (ev_cons (ev_cat (ev_var (i := 1) rfl ap) (ev_tup (ev_cons ev_int ev_nil) (by decide)) lm) ev_nil)))))))))
      (by show 9 ≤ 1000; decide) (fun i σ => ∃ y5, σ = [some (V.ref x0), some (V.ref a), some (V.ref b), some (V.ref c), some (V.int (t.ps.length : Int)), y5, none, none, none, none]) ⟨none, rfl⟩ ?_ ?_
    · rintro i x d σ H1 N hd hx s1 ⟨y5, rfl⟩ qN
      exact ⟨_, rfl, _, rfl, _, rfl, _, _, _, _, _, _, rfl, hx, aw.mono s1, ac.mono s1, fun l e => Nat.le_trans (forms_len hnp d hd l e) (by decide), fun _ H2 s2 => ⟨rfl, _, rfl, iteB nemal (qN _ _ s2 ⟨_, rfl⟩)⟩, no (forms_primes hwl d hd)⟩
    rintro σ H1 s1 ⟨y5, rfl⟩
    generalize hN : t.ps.length = n at *
    refine ⟨_, rfl, (n : Int), rfl, by omega, by omega, fun D nD => ?_⟩
    refine lc_rep (walk_range (lo := 0) (n := n)) st_RI (fun _ => 0) (by omega) nD (fun _ _ => trivial) (fun i x H3 H4 Q3 hi sm3 hY q3 => ?_) (fun H2 acc s2 eD hp => ?_)
    · obtain ⟨rfl, rfl⟩ := hY
      exact ⟨rfl, q3 _ _ (Same.refl _) rfl⟩
    have e := ints_of hp
    rw [range_zero] at e
    subst e
    clear hp
    refine ⟨D, _, rfl, .inl ⟨.inl (.inl eD), fun u nu => ?_⟩⟩
    have s3 := same_new (o := .tup ((zeroR n).map V.int)) nu
    have az := av_row (K := K) ⟨u, rfl, .inl (.inl (upd_same (H := H2) (a := u) (o := .tup ((zeroR n).map V.int))))⟩
    rw [rowT_zero] at az
    have s13 := s1.trans (s2.trans s3)
    generalize upd H2 u (.tup ((zeroR n).map V.int)) = H3 at *
    clear s1 s2 s3 nD eD nu
    have ap := ap.mono s13
    have aw := aw.mono s13
    have ac := ac.mono s13
    have lw : (t.pw.map rowT).length + 1 ≤ 2000 := by rw [List.length_map, hwl]; omega
    have lw' : ((t.pw.map rowT).take ((t.pw.map rowT).length - 1)).length + 1 ≤ 2000 := by rw [List.length_take]; omega
    refine for_vals (ds := [Dv.oth, .int 0, .oth, .tup (t.pw.map rowT ++ [.tup (List.replicate n (.int 0))]), .tup ((t.pw.map rowT).take ((t.pw.map rowT).length - 1) ++ [.oth]), .tup (t.pw.map rowT ++ [.oth])])
      (ev_cons ev_non (ev_cons ev_int (ev_cons (ev_lst (ev_var (i := 2) rfl aw)) (ev_cons (ev_cat (ev_var (i := 2) rfl aw) (ev_tup (ev_cons (ev_var (i := 6) rfl az) ev_nil) (by show 1 ≤ 1000; decide)) lw) (ev_cons (ev_cat (ev_init (ev_var (i := 2) rfl aw)) (ev_tup (ev_cons ev_str ev_nil) (by decide)) lw') (ev_cons (ev_cat (ev_var (i := 2) rfl aw) (ev_tup (ev_cons ev_non ev_nil) (by decide)) lw) ev_nil))))))
      (by show 6 ≤ 1000; decide) (fun i σ => ∃ y5, σ = [some (V.ref x0), some (V.ref a), some (V.ref b), some (V.ref c), some (V.int (n : Int)), y5, some (V.ref u), none, none, none]) ⟨_, rfl⟩ ?_ ?_
    · rintro i x d σ H1 N hd hx s1 ⟨y5, rfl⟩ qN
      have hb : BadT d (psD (rowT t.ps)).length := by rw [psD_row, hN]; exact forms_rows hwl d hd
      refine ⟨_, rfl, _, rfl, _, rfl, _, _, _, _, _, _, rfl, ap.mono s1, hx, ac.mono s1, lp, fun _ H2 s2 => ⟨rfl, _, rfl, iteB nemal ?_⟩, no (form_powers (bad_powers hb))⟩
      refine ⟨_, rfl, _, rfl, _, rfl, _, _, _, _, _, _, rfl, ap.mono (s1.trans s2), aw.mono (s1.trans s2), hx.mono s2, lp, fun _ H4 s4 => ⟨rfl, _, rfl, iteB nemal ?_⟩, no (form_conjs (bad_conjs hb))⟩
      exact iteB rfl (qN _ _ (s2.trans s4) ⟨_, rfl⟩)
    rintro σ H4 s4 ⟨y5, rfl⟩
    have s14 := s13.trans s4
    have ap := ap.mono s4
    have aw := aw.mono s4
    have ac := ac.mono s4
    have az := az.mono s4
    refine ⟨_, rfl, rfl, _, rfl, ?_⟩
    by_cases h0 : n = 0
    · exact iteA (decide_eq_true (by rw [h0]; rfl)) (q _ s14)
    refine iteB (decide_eq_false fun z => h0 (by have := V.int.inj z; omega)) ?_
    have lz : (List.replicate n (Dv.int 0)).length + 1 ≤ 2000 := by rw [List.length_replicate]; omega
    have lz2 : ((List.replicate n (Dv.int 0)).take (n - 1)).length + 1 ≤ 2000 := by rw [List.length_take]; omega
    have lz3 : 1 + ((List.replicate n (Dv.int 0)).drop 1).length ≤ 2000 := by rw [List.length_drop, List.length_replicate]; omega
    have elast : atI (t.ps.map Dv.int) (-1) = some (.int (atR t.ps (n - 1))) := atI_last (by rw [List.length_map, hN, List.getElem?_map, atR_get (by omega)]; rfl)
    have ez : EvV K H4 (tSl (rSlA K) (tVar 6) tNoPart (tPart (tUn (rU fun i => .int (-i)) (tC (.int 1))))) [some (V.ref x0), some (V.ref a), some (V.ref b), some (V.ref c), some (V.int (n : Int)), y5, some (V.ref u), none, none, none] (.tup ((List.replicate n (Dv.int 0)).take (n - 1))) := by
      have := ev_init (σ := [some (V.ref x0), some (V.ref a), some (V.ref b), some (V.ref c), some (V.int (n : Int)), y5, some (V.ref u), none, none, none]) (ev_var (i := 6) rfl az)
      rw [List.length_replicate] at this
      exact this
    refine asg_vals (ds := [Dv.tup ((List.replicate n (Dv.int 0)).take (n - 1)), .tup (List.replicate n (Dv.int 0) ++ [.int 0]), .oth, .tup ((List.replicate n (Dv.int 0)).take (n - 1) ++ [.int (atR t.ps (n - 1))]), .tup ((List.replicate n (Dv.int 0)).take (n - 1) ++ [.int (-1)]), .tup ((List.replicate n (Dv.int 0)).take (n - 1) ++ [.oth]), .tup ((List.replicate n (Dv.int 0)).take (n - 1) ++ [.oth]), .tup ([.int 1] ++ (List.replicate n (Dv.int 0)).drop 1)])
      (ev_cons ez (ev_cons (ev_cat (ev_var (i := 6) rfl az) (ev_tup (ev_cons ev_int ev_nil) (by decide)) lz) (ev_cons (ev_lst (ev_var (i := 6) rfl az)) (ev_cons (ev_cat ez (ev_tup (ev_cons (ev_ix (ev_var (i := 1) rfl ap) ev_neg elast) ev_nil) (by show 1 ≤ 1000; decide)) lz2) (ev_cons (ev_cat ez (ev_tup (ev_cons ev_neg ev_nil) (by decide)) lz2) (ev_cons (ev_cat ez (ev_tup (ev_cons ev_non ev_nil) (by decide)) lz2) (ev_cons (ev_cat ez (ev_tup (ev_cons ev_bl ev_nil) (by decide)) lz2) (ev_cons (ev_cat (ev_tup (ev_cons ev_int ev_nil) (by decide)) (ev_tail (ev_var (i := 6) rfl az)) lz3) ev_nil))))))))
      (by show 8 ≤ 1000; decide) fun lw8 vs8 H5 s5 hw8 hI8 => ?_
    have ap := ap.mono s5
    have aw := aw.mono s5
    have ac := ac.mono s5
    have az := az.mono s5
    have s15 := s14.trans s5
    clear ez
    have lW : ((t.pw.map rowT).drop 1).length ≤ 1000 := by rw [List.length_drop, List.length_map]; omega
    have lC : ((t.cj.map rowsT).drop 1).length ≤ 1000 := by rw [List.length_drop, List.length_map]; omega
    obtain ⟨M0, eM0⟩ : ∃ M, t.cj[0]? = some M := ⟨_, List.getElem?_eq_getElem (by omega)⟩
    have lM : ((M0.map rowT).drop 1).length ≤ 1000 := by
      have := (hV.cjr 0 M0 eM0).1
      rw [List.length_drop, List.length_map]
      omega
    have eM : atI (t.cj.map rowsT) 0 = some (.tup (M0.map rowT)) := atI_nat (j := 0) (by rw [List.getElem?_map, eM0]; rfl)
    have l1 : ∀ {l : List Dv} {d : Dv}, l.length ≤ 1000 → ([d] : List Dv).length + l.length ≤ 2000 := fun h => by show 1 + _ ≤ 2000; omega
    refine for_items (k := 7) rfl hw8 hI8 (fun i σ => ∃ y8, σ = [some (V.ref x0), some (V.ref a), some (V.ref b), some (V.ref c), some (V.int (n : Int)), y5, some (V.ref u), some (V.ref lw8), y8, none]) ⟨none, rfl⟩ ?_ ?_
    · rintro i x d σ H6 N hd hx s6 ⟨y8, rfl⟩ qN
      have hr : rightD (psD (rowT t.ps)) 0 d = false := by rw [psD_row]; exact forms_wrong hN (by omega) d hd
      have hp0 : 0 < (psD (rowT t.ps)).length := by rw [psD_row]; omega
      refine call_reason (ev_cons (ev_var (i := 1) rfl (ap.mono s6)) (ev_cons (ev_cat (ev_tup (ev_cons (ev_var (i := 8) rfl hx) ev_nil) (by show 1 ≤ 1000; decide)) (ev_tail (ev_var (i := 2) rfl (aw.mono s6))) (l1 lW)) (ev_cons (ev_var (i := 3) rfl (ac.mono s6)) ev_nil))) lp (form_powers (bad_first hp0 hr)) fun H7 s7 => ⟨rfl, _, rfl, iteB nemal ?_⟩
      have hx := hx.mono s7
      have s67 := s6.trans s7
      refine ⟨_, rfl, _, _, rfl, rfl, _, rfl, ?_⟩
      by_cases h1 : 1 < n
      · refine iteA (decide_eq_true (by omega)) ?_
        refine call_reason (ev_cons (ev_var (i := 1) rfl (ap.mono s67)) (ev_cons (ev_var (i := 2) rfl (aw.mono s67)) (ev_cons (ev_cat (ev_tup (ev_cons (ev_cat (ev_tup (ev_cons (ev_var (i := 8) rfl hx) ev_nil) (by show 1 ≤ 1000; decide)) (ev_tail (ev_ix (ev_var (i := 3) rfl (ac.mono s67)) ev_int eM)) (l1 lM)) ev_nil) (by show 1 ≤ 1000; decide)) (ev_tail (ev_var (i := 3) rfl (ac.mono s67))) (l1 lC)) ev_nil))) lp (form_conjs (bad_firstC hr)) fun H8 s8 => ⟨rfl, _, rfl, ?_⟩
        exact iteB nemal (qN _ _ (s7.trans s8) ⟨_, rfl⟩)
      · exact iteB (decide_eq_false (by omega)) (iteB rfl (qN _ _ s7 ⟨_, rfl⟩))
    · rintro σ H6 s6 ⟨y8, rfl⟩
      have lc : ((t.cj.map rowsT).take ((t.cj.map rowsT).length - 1)).length + 1 = (psD (rowT t.ps)).length := by rw [psD_row, List.length_take, List.length_map]; omega
      have lc2 : ((t.cj.map rowsT).take ((t.cj.map rowsT).length - 1)).length + 1 ≤ 2000 := by rw [lc, psD_row]; omega
      refine call_reason (ev_cons (ev_var (i := 1) rfl (ap.mono s6)) (ev_cons (ev_var (i := 2) rfl (aw.mono s6)) (ev_cons (ev_cat (ev_init (ev_var (i := 3) rfl (ac.mono s6))) (ev_tup (ev_cons (ev_tup (ev_cons (ev_var (i := 6) rfl (az.mono s6)) ev_nil) (by show 1 ≤ 1000; decide)) ev_nil) (by show 1 ≤ 1000; decide)) lc2) ev_nil))) lp (form_conjs (bad_lastC lc)) fun H7 s7 => ⟨rfl, ?_⟩
      have e : V.bl (decide (V.str "malformed" = V.str "malformed")) = .bl true := by rw [decide_eq_true rfl]
      have z := q H7 (s15.trans (s6.trans s7))
      rw [← e] at z
      exact z
/-! ### tables as data; rows taken one number after another; the tables behind large -/
def dRows (M : List (List Int)) : PyData := .tuple (M.map dInts)
def dRowsL (M : List (List Int)) : PyData := .list (M.map dInts)
def dCj (C : List (List (List Int))) : PyData := .tuple (C.map dRows)
def dTab (t : Tb) : PyData := .tuple [dInts t.ps, dRows t.pw, dCj t.cj]
def dOwn (t : Tb) : PyData := .tuple [.int (t.ps.length : Int), dInts t.ps, dRows t.pw, dCj t.cj, .int (prodN t.ps : Int)]
theorem dpAll_of {α : Type} {H : Hp} (f : α → PyData) {R : V → α → Prop} (h : ∀ v x, R v x → Dp K H v (f x)) : ∀ {us : List V} {xs : List α}, Paired R us xs → DpAll K H us (xs.map f)
  | _, _, .nil => .nil
  | _, _, .cons k t => .cons (h _ _ k) (dpAll_of f h t)
theorem dp_rs {H : Hp} {v : V} {r : List Int} (h : RS K H v r) : Dp K H v (dInts r) := by
  obtain ⟨t, rfl, hS⟩ := h
  exact dp_ints hS
theorem dp_tup1 {H : Hp} {v : V} {M : List (List Int)} (h : Tup1 K H v M) : Dp K H v (dRows M) := by
  obtain ⟨t, us, rfl, hS, hP⟩ := h
  exact .tup hS (dpAll_of _ (fun _ _ k => dp_rs k) hP)
theorem dp_cj {H : Hp} {c : Addr} {us : List V} {C : List (List (List Int))} (hS : SqT K H c us) (hP : Paired (Tup1 K H) us C) : Dp K H (.ref c) (dCj C) := .tup hS (dpAll_of _ (fun _ _ k => dp_tup1 k) hP)
theorem dp_tab {H : Hp} {z : V} {t : Tb} (h : TbAt K H z t) : Dp K H z (dTab t) := by
  obtain ⟨x, a, b, c, us, rfl, h2, h3, h4, h5, h6⟩ := h.ex
  exact .tup h2 (.cons (dp_ints h3) (.cons (dp_tup1 h4) (.cons (dp_cj h5 h6) .nil)))
theorem lay_all {α : Type} {f : α → PyData} (h : ∀ x, PyData.canLay0 (f x) = true) : ∀ xs : List α, PyData.canLayAll0 (xs.map f) = true
  | [] => by simp [PyData.canLayAll0]
  | x :: r => by simp [PyData.canLayAll0, h x, lay_all h r]
theorem dep_all {α : Type} {f : α → PyData} {k : Nat} (h : ∀ x, PyData.depth (f x) ≤ k) : ∀ xs : List α, PyData.depthAll (xs.map f) ≤ k
  | [] => by simp [PyData.depthAll]
  | x :: r => by
    have h1 := h x
    have h2 := dep_all h r
    simp only [List.map_cons, PyData.depthAll]
    omega
theorem eqv_all {α : Type} [DecidableEq α] {f : α → PyData} (h : ∀ x y, PyData.eqv (f x) (f y) = decide (x = y)) : ∀ xs ys : List α, PyData.eqvAll (xs.map f) (ys.map f) = decide (xs = ys)
  | [], [] => by simp [PyData.eqvAll]
  | [], _ :: _ => by simp [PyData.eqvAll]
  | _ :: _, [] => by simp [PyData.eqvAll]
  | x :: r, y :: q => by
    simp only [List.map_cons, PyData.eqvAll, h x y, eqv_all h r q]
    by_cases c : x = y <;> simp [c]
theorem lay_ints (r : List Int) : PyData.canLay0 (dInts r) = true := by
  unfold dInts
  simp only [PyData.canLay0]
  exact PySem.W.canLayAll0_ints r
theorem dep_ints (r : List Int) : PyData.depth (dInts r) ≤ 4 := by
  have h1 := PySem.W.depthAll_ints r
  unfold dInts
  simp only [PyData.depth]
  omega
theorem lay_rows (M : List (List Int)) : PyData.canLay0 (dRows M) = true := by
  unfold dRows
  simp only [PyData.canLay0]
  exact lay_all lay_ints M
theorem dep_rows (M : List (List Int)) : PyData.depth (dRows M) ≤ 6 := by
  have h1 := dep_all dep_ints M
  unfold dRows
  simp only [PyData.depth]
  omega
theorem lay_cj (C : List (List (List Int))) : PyData.canLay0 (dCj C) = true := by
  unfold dCj
  simp only [PyData.canLay0]
  exact lay_all lay_rows C
theorem dep_cj (C : List (List (List Int))) : PyData.depth (dCj C) ≤ 8 := by
  have h1 := dep_all dep_rows C
  unfold dCj
  simp only [PyData.depth]
  omega
theorem shaped_of {d : PyData} (h : PyData.canLay0 d = true) (k : PyData.depth d ≤ 64) : SeqAt.shaped d = true := by
  show (PyData.canLay0 d && decide (PyData.depth d ≤ 64)) = true
  rw [h, decide_eq_true k]
  rfl
theorem shaped_rows (M : List (List Int)) : SeqAt.shaped (dRows M) = true := shaped_of (lay_rows M) (Nat.le_trans (dep_rows M) (by decide))
theorem shaped_cj (C : List (List (List Int))) : SeqAt.shaped (dCj C) = true := shaped_of (lay_cj C) (Nat.le_trans (dep_cj C) (by decide))
theorem shaped_rowsL (M : List (List Int)) : SeqAt.shaped (dRowsL M) = true := by
  have h1 := dep_all dep_ints M
  refine shaped_of ?_ ?_
  · unfold dRowsL
    simp only [PyData.canLay0]
    exact lay_all lay_ints M
  · unfold dRowsL
    simp only [PyData.depth]
    omega
theorem shaped_tab (t : Tb) : SeqAt.shaped (dTab t) = true := by
  have h1 := dep_ints t.ps
  have h2 := dep_rows t.pw
  have h3 := dep_cj t.cj
  refine shaped_of ?_ ?_
  · unfold dTab
    simp [PyData.canLay0, PyData.canLayAll0, lay_ints, lay_rows, lay_cj]
  · unfold dTab
    simp only [PyData.depth, PyData.depthAll]
    omega
theorem shaped_own (t : Tb) : SeqAt.shaped (dOwn t) = true := by
  have h1 := dep_ints t.ps
  have h2 := dep_rows t.pw
  have h3 := dep_cj t.cj
  refine shaped_of ?_ ?_
  · unfold dOwn
    simp [PyData.canLay0, PyData.canLayAll0, lay_ints, lay_rows, lay_cj]
  · unfold dOwn
    simp only [PyData.depth, PyData.depthAll]
    omega
theorem eqv_rows (M N : List (List Int)) : PyData.eqv (dRows M) (dRows N) = decide (M = N) := by
  unfold dRows
  rw [PyData.eqv]
  exact eqv_all eqv_dInts M N
theorem eqv_rowsL (M N : List (List Int)) : PyData.eqv (dRowsL M) (dRowsL N) = decide (M = N) := by
  unfold dRowsL
  rw [PyData.eqv]
  exact eqv_all eqv_dInts M N
theorem eqv_cj (C D : List (List (List Int))) : PyData.eqv (dCj C) (dCj D) = decide (C = D) := by
  unfold dCj
  rw [PyData.eqv]
  exact eqv_all eqv_rows C D
theorem eqv_own (t : Tb) : PyData.eqv (dOwn t) (dOwn t) = true := by
  unfold dOwn
  simp [PyData.eqv, PyData.eqvAll, eqv_dInts, eqv_rows, eqv_cj]
theorem eqv_tab (t u : Tb) : PyData.eqv (dTab t) (dTab u) = (PyData.eqv (dInts u.ps) (dInts t.ps) && (PyData.eqv (dRows u.pw) (dRows t.pw) && PyData.eqv (dCj u.cj) (dCj t.cj))) := by
  unfold dTab
  simp only [PyData.eqv, PyData.eqvAll, eqv_dInts, eqv_rows, eqv_cj, Bool.and_true]
  rw [decide_eq_decide.mpr (eq_comm (a := t.ps) (b := u.ps)), decide_eq_decide.mpr (eq_comm (a := t.pw) (b := u.pw)), decide_eq_decide.mpr (eq_comm (a := t.cj) (b := u.cj))]
theorem wide_form {ps : List Int} (h : ∀ p ∈ ps, p ∈ pr31) : formD (rowT (madeT ps [] []).ps) (rowsT (madeT ps [] []).pw) (.tup ((madeT ps [] []).cj.map rowsT)) = true := by
  have h2 : ∀ p ∈ ps, 2 ≤ p := fun p hp => (pr31_in (h p hp)).1
  refine form_true (ps := ps) h ?_ (cjv_rows0 h2)
  refine ⟨List.length_replicate, fun i r e => ?_⟩
  rw [List.eq_of_mem_replicate (List.mem_of_getElem? e)]
  exact ⟨bl_zero h2, zb_zero⟩
theorem lc_takes {g : TG} {te : TE} {vs : List Nat} {σ : L2.St} {H1 : Hp} {D st a : Addr} {ps : List Int} {Qd : Hp → Prop} (hl : ps.length ≤ 1000) (nD : H1 D = none) (hst : StA H1 st) (hS : SqT K H1 a (ps.map V.int))
    (hs : ∀ (i : Nat) (H : Hp) (Q : VK), i < ps.length → StA H st → (∀ v H', SameX st H H' → StA H' st → 0 ≤ v → v < atR ps i → Q (.int v) H') → g (V.int (atR ps i)) (wipe σ vs) H fun σ2 H2 => wipe σ2 vs = wipe σ vs ∧ te σ2 H2 Q)
    (hd : ∀ H r, SameX st H1 H → StA H st → H D = some (.lst (r.map V.int)) → Bl ps r → Qd H) :
    ∃ W : Nat → Nat → Hp → Prop, (∃ m, W 0 m (upd H1 D (.lst []))) ∧ ∀ i m H, W i m H →
      ((Itt K a).stop i H ∧ Qd H) ∨ ((Itt K a).go i H ∧ ∃ Nx : Hp → Prop, (∀ H', Nx H' → ∃ m', m' < m ∧ W (i + 1) m' H') ∧ ∀ x H', (Itt K a).yld i H x H' → g x (wipe σ vs) H' fun σ2 H2 => wipe σ2 vs = wipe σ vs ∧ tYes σ2 H2 fun b H3 =>
        if b = true then te σ2 H3 fun y H4 => ∃ acc, H4 D = some (.lst acc) ∧ acc.length < sizeLine ∧ Nx (upd H4 D (.lst (acc ++ [y]))) else Nx H3) := by
  obtain ⟨s0, t0, est⟩ := hst
  have hD : st ≠ D := ne_of_none est nD
  refine lc_it (walk_row (v := ps)) (fun i H2 => i ≤ ps.length ∧ ∃ r : List Int, SameX st H1 H2 ∧ StA H2 st ∧ H2 D = some (.lst (r.map V.int)) ∧ r.length = i ∧ ∀ k, k < i → 0 ≤ atR r k ∧ atR r k < atR ps k)
    ⟨Nat.zero_le _, [], Same.x (same_new nD), ⟨s0, t0, by rw [upd_ne hD]; exact est⟩, upd_same, rfl, fun k hk => absurd hk (Nat.not_lt_zero k)⟩ (fun i H2 _ h => by
      obtain ⟨_, r, sx, _⟩ := h
      exact (Tps.x sx est) _ _ hS) (fun i x H2 H3 hi hP hY => ?_) (fun H2 hP => ?_)
  · obtain ⟨_, r, sx, hst2, eD, hl2, hv⟩ := hP
    obtain ⟨rfl, hx⟩ := hY
    rw [List.getElem?_map, atR_get hi] at hx
    cases hx
    exact hs i _ (fun y H4 => ∃ acc, H4 D = some (.lst acc) ∧ acc.length < sizeLine ∧ (i + 1 ≤ ps.length ∧ ∃ r : List Int, SameX st H1 (upd H4 D (.lst (acc ++ [y]))) ∧ StA (upd H4 D (.lst (acc ++ [y]))) st ∧ (upd H4 D (.lst (acc ++ [y]))) D = some (.lst (r.map V.int)) ∧ r.length = i + 1 ∧ ∀ k, k < i + 1 → 0 ≤ atR r k ∧ atR r k < atR ps k)) hi hst2 fun v H4 sx4 hst4 h0 h1 => by
      obtain ⟨s2, t2, es2⟩ := hst4
      have eD4 := sx4 _ _ hD.symm eD
      refine ⟨r.map V.int, eD4, small2000 (by rw [List.length_map]; omega), hi, r ++ [v], fun b o nb hb => ?_, ⟨s2, t2, by rw [upd_ne hD]; exact es2⟩, by rw [upd_same, List.map_append]; rfl, by rw [List.length_append, hl2]; rfl, fun k hk => ?_⟩
      · rw [upd_ne (ne_of_none hb nD)]
        exact sx4 b o nb (sx b o nb hb)
      · rcases Nat.lt_or_ge k i with c | c
        · rw [atR_app1 (by omega)]
          exact hv k c
        · have e : k = i := by omega
          subst e
          rw [atR_app2 (by omega), hl2, Nat.sub_self]
          exact ⟨h0, h1⟩
  · obtain ⟨_, r, sx, hst2, eD, hl2, hv⟩ := hP
    exact hd H2 r sx hst2 eD ⟨hl2, fun k hk => hv k (by rw [← hl2] at hk; omega)⟩
/-! ### lists of primes, the tables made of them, and what is told of these -/
def EvL (K : PySem.W.Frag) (H0 : Hp) (te : TE) (σ : L2.St) (ps : List Int) : Prop := ∀ (H : Hp) (Q : VK), Same H0 H → (∀ l H', Same H H' → SqL K H' l (ps.map V.int) → Q (.ref l) H') → te σ H Q
def LAt (K : PySem.W.Frag) (H : Hp) (v : V) (ps : List Int) : Prop := ∃ l, v = .ref l ∧ SqL K H l (ps.map V.int)
def EvLs (K : PySem.W.Frag) (H0 : Hp) (ta : TA) (σ : L2.St) (Ls : List (List Int)) : Prop := ∀ (H : Hp) (Q : List V → Hp → Prop), Same H0 H → (∀ vs H', Same H H' → Paired (LAt K H') vs Ls → Q vs H') → ta σ H Q
section
variable {σ : L2.St} {H0 : Hp}
theorem LAt.mono {H H' : Hp} (s : Same H H') {v : V} {ps : List Int} (h : LAt K H v ps) : LAt K H' v ps := let ⟨l, e, k⟩ := h; ⟨l, e, same_sql s k⟩
theorem lats_mono {H H' : Hp} (s : Same H H') {vs : List V} {Ls : List (List Int)} (h : Paired (LAt K H) vs Ls) : Paired (LAt K H') vs Ls := paired_via (fun _ _ k => k.mono s) h
theorem evl_nil : EvLs K H0 tNil σ [] := fun H Q _ q => q [] H (Same.refl H) .nil
theorem evl_cons {te : TE} {ta : TA} {ps : List Int} {Ls : List (List Int)} (h : EvL K H0 te σ ps) (k : EvLs K H0 ta σ Ls) : EvLs K H0 (tCons te ta) σ (ps :: Ls) := fun H Q s q => h H _ s fun l H1 s1 hl => k H1 _ (s.trans s1) fun vs H2 s2 hs => q _ H2 (s1.trans s2) (.cons ⟨l, rfl, same_sql s2 hl⟩ hs)
theorem evl_var {i : Nat} {l : Addr} {ps : List Int} (h : σ[i]? = some (some (.ref l))) (hl : SqL K H0 l (ps.map V.int)) : EvL K H0 (tVar i) σ ps := fun H Q s q => ⟨_, h, q l H (Same.refl H) (same_sql s hl)⟩
theorem evh_rep {n : Nat} (hn : n ≤ 100) (hw : ∀ v, wipe (List.set (wipe σ [16]) 16 v) [16] = wipe σ [16]) : ∀ (H : Hp) (Q : VK), (∀ l H', Same H H' → H' l = some (.lst ((List.replicate n (2 : Int)).map V.int)) → Q (.ref l) H') → tLc (iRng1 (tCons (tC (.int (n : Int))) tNil)) (gName 16) tYes (tC (.int 2)) [16] σ H Q := fun H Q q => by
  refine ⟨(n : Int), rfl, by omega, by omega, fun D nD => ?_⟩
  refine lc_rep (walk_range (lo := 0) (n := n)) st_RI (fun _ => 2) (by omega) nD (fun _ _ => trivial) (fun i x H3 H4 Q3 hi sm3 hY q3 => ?_) (fun H2 acc s2 eD hp => ?_)
  · obtain ⟨rfl, rfl⟩ := hY
    exact ⟨hw _, q3 _ _ (Same.refl _) rfl⟩
  have e := ints_of hp
  rw [List.map_const', List.length_range] at e
  subst e
  exact q D H2 s2 eD
theorem evl_rep {n : Nat} (hn : n ≤ 100) (hw : ∀ v, wipe (List.set (wipe σ [16]) 16 v) [16] = wipe σ [16]) : EvL K H0 (tLc (iRng1 (tCons (tC (.int (n : Int))) tNil)) (gName 16) tYes (tC (.int 2)) [16]) σ (List.replicate n 2) := fun H Q _ q => evh_rep hn hw H Q fun l H' s e => q l H' s (.inl (.inl e))
theorem evl_rep1 {n : Nat} {m : Int} (hn : n ≤ 100) (hw : ∀ v, wipe (List.set (wipe σ [16]) 16 v) [16] = wipe σ [16]) : EvL K H0 (tOp rCat (tLc (iRng1 (tCons (tC (.int (n : Int))) tNil)) (gName 16) tYes (tC (.int 2)) [16]) (tLst (tCons (tC (.int m)) tNil))) σ (List.replicate n 2 ++ [m]) := fun H Q _ q => evh_rep hn hw H _ fun l H1 s1 h1 => ⟨by show 1 ≤ sizeLine; decide, fun l2 n2 => by
  have s2 := same_new (o := .lst [V.int m]) n2
  refine ⟨l, l2, _, _, rfl, rfl, s2 _ _ h1, upd_same, Nat.le_of_lt (small2000 (by rw [List.length_map, List.length_replicate]; show n + 1 ≤ 100000; omega)), fun t nt => q t _ ((s1.trans s2).trans (same_new nt)) (.inl (.inl ?_))⟩
  rw [upd_same, List.map_append]
  rfl⟩
theorem evl_three {i j k : Int} : EvL K H0 (tLst (tCons (tC (.int i)) (tCons (tC (.int j)) (tCons (tC (.int k)) tNil)))) σ [i, j, k] := fun H Q _ q => ⟨by show 3 ≤ sizeLine; decide, fun l nl => q l _ (same_new nl) (.inl (.inl upd_same))⟩
theorem for_lists {H : Hp} {ta : TA} {g : TG} {tb : TS} {D : Ends} {Ls : List (List Int)} (h : EvLs K H ta σ Ls) (hl : Ls.length ≤ 1000) (Pv : L2.St → Prop) (h0 : Pv σ)
    (hs : ∀ (l : Addr) (ps : List Int) (σ : L2.St) (H1 : Hp) (N : L2.St → Hp → Prop), ps ∈ Ls → SqL K H1 l (ps.map V.int) → Pv σ → (∀ σ' H2, Same H1 H2 → Pv σ' → N σ' H2) → g (.ref l) σ H1 fun σ2 H2 => tb { D with nx := N, ct := N, bk := D.nx } σ2 H2)
    (hd : ∀ σ H1, Same H H1 → Pv σ → D.nx σ H1) : tFor (iList K (tLst ta)) g tb D σ H := by
  refine h H _ (Same.refl H) fun vs H1 s1 hI => ⟨Nat.le_of_lt (small2000 (by rw [Paired.length hI]; omega)), fun a na => ⟨a, rfl, ⟨vs, .inl (.inl upd_same)⟩, ?_⟩⟩
  have s2 := same_new (o := .lst vs) na
  refine for_list (xs := vs) (fun i σ H' => Pv σ ∧ Same (upd H1 a (.lst vs)) H') ⟨h0, Same.refl _⟩ (fun i σ H' _ h => .inl (.inl (h.2 _ _ upd_same))) (fun i x σ H' hx hp => ?_) (fun σ H' hp => ?_)
  · obtain ⟨ps, e, hp1⟩ := paired_get hI hx
    obtain ⟨l, rfl, hl1⟩ := hp1.mono (s2.trans hp.2)
    exact hs l ps σ H' _ (List.mem_of_getElem? e) hl1 hp.1 fun σ' H2 s3 p => ⟨p, hp.2.trans s3⟩
  · exact hd σ H' (s1.trans (s2.trans hp.2)) hp.1
theorem has_nil6 {H : Hp} {a : Addr} (h : H a = some (.lst [])) : Has K H (.ref a) (.lst []) := .lst h rfl fun i u t e => by simp at e
theorem call_made {H : Hp} {te : TE} {ps : List Int} {Q : VK} {E : XK} (h : EvL K H te σ ps) (hl : ps.length ≤ 100) (q : ∀ z H', Same H H' → TbAt K H' z (madeT ps [] []) → Q z H') : tCall (spMade K) [] E (tCons te (tCons (tLst tNil) (tCons (tLst tNil) tNil))) σ H Q :=
  h H _ (Same.refl H) fun l H1 s1 hl1 => ⟨Nat.zero_le _, fun l1 n1 => ⟨Nat.zero_le _, fun l2 n2 => by
    have s2 := same_new (o := .lst []) n1
    have s3 := same_new (o := .lst []) n2
    exact ⟨l, .ref l1, .ref l2, ps, [], [], rfl, same_sql (s2.trans s3) hl1, has_nil6 (s3 _ _ upd_same), has_nil6 upd_same, hl, (fun x hx => by cases hx), (fun x hx => by cases hx), fun z H' s h => q z H' (s1.trans (s2.trans (s3.trans s))) h⟩⟩⟩
theorem call_wide {H : Hp} {z : V} {ps : List Int} {k : Nat} {Q : VK} {E : XK} (hz : σ[k]? = some (some z)) (hT : TbAt K H z (madeT ps [] [])) (hp : ∀ p ∈ ps, p ∈ pr31) (hl : ps.length ≤ 100) (qB : Big ps → ∀ H', Same H H' → Q (.str "large") H') (qN : ¬ Big ps → ∀ H', Same H H' → Q (.str "none") H') :
    tCall (spReason K) [] E (tCons (tOp (rIxT K) (tVar k) (tC (.int 0))) (tCons (tOp (rIxT K) (tVar k) (tC (.int 1))) (tCons (tOp (rIxT K) (tVar k) (tC (.int 2))) tNil))) σ H Q := by
  obtain ⟨x0, a, b, c, us, vs, rfl, hSx, hSa, hSb, hPw, hSc, hPc⟩ := hT.rd
  refine ⟨_, hz, x0, _, 0, _, rfl, rfl, hSx, atI_nat (j := 0) rfl, ?_⟩
  refine ⟨_, hz, x0, _, 1, _, rfl, rfl, hSx, atI_nat (j := 1) rfl, ?_⟩
  refine ⟨_, hz, x0, _, 2, _, rfl, rfl, hSx, atI_nat (j := 2) rfl, ?_⟩
  refine ⟨.ref a, .ref b, .ref c, _, _, _, rfl, av_row ⟨a, rfl, hSa⟩, av_rows ⟨b, us, rfl, hSb, hPw⟩, av_cj hSc hPc, fun l e => ?_, fun z => Bool.noConfusion ((wide_form hp).symm.trans z), fun _ => ?_⟩
  · cases e
    rw [List.length_map]
    show ps.length ≤ 1000
    omega
  · rw [psD_row]
    exact ⟨qB, qN⟩
end
/-! ### the law -/
/-- the table and its object stand -/
structure W06 (K : PySem.W.Frag) (C : Addr) (H : Hp) (st x0 a b c x : Addr) (t : Tb) (us vs : List V) : Prop where
  ss : StA H st
  sx : SqT K H x0 [.ref a, .ref b, .ref c]
  sa : SqT K H a (t.ps.map V.int)
  sb : SqT K H b us
  pb : Paired (RS K H) us t.pw
  sc : SqT K H c vs
  pc : Paired (Tup1 K H) vs t.cj
  pr : PrAt C H x (.ref a) (.ref b) (.ref c) t.ps
section
variable {C st x0 a b c x : Addr} {t : Tb} {us vs : List V} {H H' : Hp}
theorem W06.ne (h : W06 K C H st x0 a b c x t us vs) : x ≠ st := fun z => by
  obtain ⟨dx, e⟩ := h.pr
  obtain ⟨s, t, e2⟩ := h.ss
  rw [z, e2] at e
  cases e
theorem W06.go (h : W06 K C H st x0 a b c x t us vs) (sx : SameX st H H') (hs : StA H' st) : W06 K C H' st x0 a b c x t us vs := by
  obtain ⟨s, t, es⟩ := id h.ss
  have tp := Tps.x (K := K) sx es
  obtain ⟨dx, e⟩ := id h.pr
  exact ⟨hs, tp _ _ h.sx, tp _ _ h.sa, tp _ _ h.sb, paired_via (fun _ _ => rs_tps tp) h.pb, tp _ _ h.sc, paired_via (fun _ _ => tup1_tps tp) h.pc, dx, sx _ _ h.ne e⟩
theorem W06.mono (h : W06 K C H st x0 a b c x t us vs) (s : Same H H') : W06 K C H' st x0 a b c x t us vs := by
  obtain ⟨s1, t1, es⟩ := id h.ss
  exact h.go (Same.x s) ⟨s1, t1, s _ _ es⟩
theorem W06.tb (h : W06 K C H st x0 a b c x t us vs) : TbAt K H (.ref x0) t := ⟨x0, a, b, c, vs, rfl, h.sx, h.sa, ⟨b, us, rfl, h.sb, h.pb⟩, h.sc, h.pc⟩
theorem W06.ap (h : W06 K C H st x0 a b c x t us vs) : AtV K H (.ref a) (rowT t.ps) := av_row ⟨a, rfl, h.sa⟩
theorem W06.aw (h : W06 K C H st x0 a b c x t us vs) : AtV K H (.ref b) (rowsT t.pw) := av_rows ⟨b, us, rfl, h.sb, h.pb⟩
theorem W06.ac (h : W06 K C H st x0 a b c x t us vs) : AtV K H (.ref c) (.tup (t.cj.map rowsT)) := av_cj h.sc h.pc
theorem W06.d1 (h : W06 K C H st x0 a b c x t us vs) : Dp K H (.ref a) (dInts t.ps) := dp_ints h.sa
theorem W06.d2 (h : W06 K C H st x0 a b c x t us vs) : Dp K H (.ref b) (dRows t.pw) := dp_tup1 ⟨b, us, rfl, h.sb, h.pb⟩
theorem W06.d3 (h : W06 K C H st x0 a b c x t us vs) : Dp K H (.ref c) (dCj t.cj) := dp_cj h.sc h.pc
end
theorem items1 {H : Hp} {vs : List V} {a : Dv} (h : Items K H vs [a]) : ∃ x, vs = [x] ∧ AtV K H x a := by
  match vs, h.1 with
  | [x], _ => exact ⟨x, rfl, h.2 0 _ _ rfl rfl⟩
theorem call_row {C st x0 a b c x : Addr} {t : Tb} {us vs : List V} {H : Hp} {σ : L2.St} {ta : TA} {d : Dv} {Q : VK} (h : EvVs K H ta σ [d]) (hs : σ[7]? = some (some (.ref x))) (hW : W06 K C H st x0 a b c x t us vs) (hn : t.ps.length ≤ 1000) (q : ∀ H', Same H H' → Q (.bl (rowD d t.ps)) H') : tMeth C "is_row" (spPRow K C) [] E0 (tVar 7) ta σ H Q := by
  obtain ⟨dx, ex⟩ := id hW.pr
  refine ⟨_, hs, x, dx, _, rfl, ex, (pFs_no _ _ _ _).1, ?_⟩
  refine h H _ (Same.refl H) fun vs H1 s1 hI => ?_
  obtain ⟨v, rfl, hv⟩ := items1 hI
  have hW1 := hW.mono s1
  exact ⟨x, a, v, .ref b, .ref c, d, t.ps, rfl, hW1.pr, hW1.sa, hv, hn, fun H' s => q H' (s1.trans s)⟩
theorem nf_self {C : Addr} : PySem.W.notFirst K C (.ref C) = true := by
  unfold PySem.W.notFirst
  rw [beq_self_eq_true]
  rfl
theorem nf_tup {C : Addr} : PySem.W.notFirst K C (.type "tuple") = true := by
  unfold PySem.W.notFirst
  rw [sub_tup, Bool.or_eq_true]
  exact .inr rfl
theorem nf_non {C : Addr} : PySem.W.notFirst K C (.type "NoneType") = true := by
  unfold PySem.W.notFirst
  rw [sub_non, Bool.or_eq_true]
  exact .inr rfl
theorem vd_form {t : Tb} (h : Vd t) : formD (rowT t.ps) (rowsT t.pw) (.tup (t.cj.map rowsT)) = true := form_true h.pr ⟨h.pwl, h.pwr⟩ ⟨h.cjl, h.cjr⟩
theorem vd_big {t : Tb} (h : Vd t) : ¬ Big (psD (rowT t.ps)) := by
  rw [psD_row]
  rintro (z | z)
  · have := h.n10
    omega
  · have := h.sz
    omega
def sp_law (K : PySem.W.Frag) : Sp := fun vs H Q _ => ∃ (a : Addr) (ns : List Int), vs = [.ref a] ∧ SqL K H a (ns.map V.int) ∧ ns.length ≤ 63 ∧ ∀ H', Q (.bl true) H'
theorem ok_law (R : RefC K mg s_RI) (C_Malformed : ClMalformed K mg) (C_Presentation : ClPresentation K mg) (M : ReasonC K C_Malformed.C R.C) (T : Txt K mg) : FnOk P w K mg base CX0 26 T.a_law T.d_law ["script"] (sp_law K) := by
  have G__law_state : FnOk P w K mg base CX0 1 T.a__law_state T.d__law_state ["script"] (spState K) := ok_state T
  have G__law_take : FnOk P w K mg base CX0 1 T.a__law_take T.d__law_take ["state", "m"] spTake := ok_take T
  have G__law_group : FnOk P w K mg base CX0 25 T.a__law_group T.d__law_group ["state", "most"] (spGroup K) := ok_group T
  have G__law_bent : FnOk P w K mg base CX0 2 T.a__law_bent T.d__law_bent ["state", "table"] (spTwist K) := ok_bent T
  have G__law_size : FnOk P w K mg base CX0 1 T.a__law_size T.d__law_size ["table"] (spSize K) := ok_size T
  have G__law_made : FnOk P w K mg base CX0 1 T.a__law_made T.d__law_made ["primes", "powers", "conjugates"] (spMade K) := ok_made T
  have G__law_letters : FnOk P w K mg base CX0 1 T.a__law_letters T.d__law_letters ["row"] _ := ok_lletters T
  have G__law_forms : FnOk P w K mg base CX0 9 T.a__law_forms T.d__law_forms ["table"] (spForms K) := ok_forms R C_Malformed C_Presentation M T
  have G__law_reason : FnOk P w K mg base CX0 8 T.a__law_reason T.d__law_reason ["primes", "powers", "parts"] (spReason K) := ok_reason R C_Malformed C_Presentation M T
  have G_Presentation___init__ : FnOk P w K mg base (L2.CX P w) 6 C_Presentation.a___init__ C_Presentation.d___init__ ["self", "primes", "powers", "conjugates"] (spPInit K C_Presentation.C C_Malformed.C R.C) := ok_PInit R C_Malformed C_Presentation T
  have G_Presentation_is_row : FnOk P w K mg base CX0 3 C_Presentation.a_is_row C_Presentation.d_is_row ["self", "value"] (spPRow K C_Presentation.C) := ok_PRow C_Presentation T
  have G_Presentation_conjugate_row : FnOk P w K mg base CX0 1 C_Presentation.a_conjugate_row C_Presentation.d_conjugate_row ["self", "i", "j"] (spPConj K C_Presentation.C) := ok_PConj C_Presentation T
  have G_Presentation_letters : FnOk P w K mg base CX0 1 C_Presentation.a_letters C_Presentation.d_letters ["self", "row"] (spPLet K) := ok_PLet C_Presentation T
  have G_eq : FnOk P w K mg base CX0 1 C_Presentation.a___eq__ C_Presentation.d___eq__ ["self", "other"] (spPEq K C_Presentation.C) := ok_PEq C_Presentation T
  refine T.F_law.ok sc_law (fun vs H Q E h => ?_) (fun cdv A outer s H vs Q E hr h => ?_)
  · obtain ⟨a, ns, rfl, _⟩ := h
    rfl
  · obtain ⟨as, ns, rfl, hS, hlen, q⟩ := h
    have oEq : OpR (cxOf CX0 P w K mg base N_law "law" (defScope s_law) T.a_law cdv A outer s H E).nox (compareOp .Eq) (Own.rEqO K C_Presentation.C (spPEq K C_Presentation.C) E0) := Own.op_eqO G_eq (hr.mono (by decide)) C_Presentation.m___eq__.at_ C_Presentation.m___eq__.fn C_Presentation.b___eq__
    refine ⟨_, (pss_cons (ps_set (i := 1) sc_law.nd rfl (.inr rfl) (pe_call G__law_state (hr.mono (by decide)) (by rfl) T.g__law_state T.F__law_state.kp T.b__law_state .nil pass0 (pa_cons (pv 0) pa_nil))) 
    (pss_cons (ps_set (i := 2) sc_law.nd rfl (.inl rfl) (pe_call G__law_group (hr.mono (by decide)) (by rfl) T.g__law_group T.F__law_group.kp T.b__law_group .nil pass0 (pa_cons (pv 1) (pa_cons pe_int pa_nil)))) 
    (C8.pss_cut (ps_if (pt_cmpR op_eq (pe_call G__law_take (hr.mono (by decide)) (by rfl) T.g__law_take T.F__law_take.kp T.b__law_take .nil pass0 (pa_cons (pv 1) (pa_cons pe_int pa_nil))) pe_int (nomark _)) 
      (pss_one (ps_set (i := 2) sc_law.nd rfl (.inl rfl) (pe_call G__law_bent (hr.mono (by decide)) (by rfl) T.g__law_bent T.F__law_bent.kp T.b__law_bent .nil pass0 (pa_cons (pv 1) (pa_cons (pv 2) pa_nil))))) pss_nil) 
    (pss_cons (ps_asg (pv 2) (pg_tup rfl (pgs_cons (pg_name (i := 3) sc_law.nd rfl (.inl rfl)) (pgs_cons (pg_name (i := 4) sc_law.nd rfl (.inl rfl)) (pgs_cons (pg_name (i := 5) sc_law.nd rfl (.inl rfl)) pgs_nil))))) 
    (pss_cons (ps_set (i := 6) sc_law.nd rfl (.inl rfl) (pe_callB call_len_seq (by rfl) T.n_len (by decide +kernel) (pa_cons (pv 3) pa_nil))) 
    (pss_cons (ps_set (i := 7) sc_law.nd rfl (.inr rfl) (pe_make C_Presentation.mkr G_Presentation___init__ (hr.mono (by decide)) rfl C_Presentation.gC C_Presentation.b___init__ .nil passL (pa_cons (pv 3) (pa_cons (pv 4) (pa_cons (pv 5) pa_nil))))) 
    (pss_cons (ps_if (pt_cmpR (op_neD hr.units) (pe_tup (pa_cons (pe_fld (pv 7) rfl) (pa_cons (pe_fld (pv 7) rfl) (pa_cons (pe_fld (pv 7) rfl) (pa_cons (pe_fld (pv 7) rfl) (pa_cons (pe_fld (pv 7) rfl) pa_nil)))))) (pe_tup (pa_cons (pv 6) (pa_cons (pv 3) (pa_cons (pv 4) (pa_cons (pv 5) (pa_cons (pe_call G__law_size (hr.mono (by decide)) (by rfl) T.g__law_size T.F__law_size.kp T.b__law_size .nil pass0 (pa_cons (pv 2) pa_nil)) pa_nil)))))) (nomark _)) 
      (pss_one (ps_ret pe_bl)) pss_nil) 
    (pss_cons (ps_for PassesOwn.never rfl (pi_range1 (by rfl) T.n_range (pa_cons (pv 6) pa_nil)) (pg_name (i := 8) sc_law.nd rfl (.inr rfl)) 
      (pss_one (ps_if (pt_cmpR (op_neD hr.units) (pe_lc (own := [("j", 17)]) rfl sc_law.nd (pi_range2 (by rfl) T.n_range (pa_cons (pe_op op_add (pv 8) pe_int) (pa_cons (pv 6) pa_nil))) (blkOk_by (N := N_law) (sc := defScope s_law) (own := [("j", 17)]) (by decide +kernel)) (fun _ _ _ _ _ => (pg_name (i := 17) sc_law.nd rfl (.inl rfl))) (fun _ _ _ _ _ => pts_nil) (fun _ _ _ _ _ => (pe_meth (pv 7) C_Presentation.cl C_Presentation.m_conjugate_row G_Presentation_conjugate_row (hr.mono (by decide)) C_Presentation.b_conjugate_row .nil pass0 (pa_cons (pv 8) (pa_cons (pv 17) pa_nil))))) (pe_callTy (show CallR _ (.type "list") (rLstK K) from call_lstK) (by rfl) T.n_list (by decide +kernel) (pa_cons (pe_ix ix_tup (pv 5) (pv 8) (fun _ _ => rfl)) pa_nil)) (nomark _)) 
        (pss_one (ps_ret pe_bl)) pss_nil))) 
    (pss_cons (ps_set (i := 9) sc_law.nd rfl (.inl rfl) (pe_callTy call_tuple_of (by rfl) T.n_tuple (by decide +kernel) (pa_cons (pe_lc (own := [("p", 15)]) rfl sc_law.nd (show PI _ _ _ (iTup K _) from pi_tup (pv 3)) (blkOk_by (N := N_law) (sc := defScope s_law) (own := [("p", 15)]) (by decide +kernel)) (fun _ _ _ _ _ => (pg_name (i := 15) sc_law.nd rfl (.inl rfl))) (fun _ _ _ _ _ => pts_nil) (fun _ _ _ _ _ => (pe_call G__law_take (hr.mono (by decide)) (by rfl) T.g__law_take T.F__law_take.kp T.b__law_take .nil pass0 (pa_cons (pv 1) (pa_cons (pv 15) pa_nil))))) pa_nil))) 
    (pss_cons (ps_if (PW.pt (pw_or (pt_cmpR (op_neD hr.units) (pe_meth (pv 7) C_Presentation.cl C_Presentation.m_letters G_Presentation_letters (hr.mono (by decide)) C_Presentation.b_letters .nil pass0 (pa_cons (pv 9) pa_nil)) (pe_call G__law_letters (hr.mono (by decide)) (by rfl) T.g__law_letters T.F__law_letters.kp T.b__law_letters .nil pass0 (pa_cons (pv 9) pa_nil)) (nomark _)) (pw_or1 (pt_cmpR op_isnot_bl (pe_meth (pv 7) C_Presentation.cl C_Presentation.m_is_row G_Presentation_is_row (hr.mono (by decide)) C_Presentation.b_is_row .nil pass0 (pa_cons (pv 9) pa_nil)) pe_bl (nomark _))))) 
      (pss_one (ps_ret pe_bl)) pss_nil) 
    (pss_cons (ps_for PassesOwn.never rfl (pi_list (pe_lst (pa_cons pe_non (pa_cons (pe_callTy (show CallR _ (.type "list") (rLstK K) from call_lstK) (by rfl) T.n_list (by decide +kernel) (pa_cons (pv 9) pa_nil)) (pa_cons (pe_op op_catA (pv 9) (pe_tup (pa_cons pe_int pa_nil))) (pa_cons pe_str (pa_cons pe_int pa_nil))))))) (pg_name (i := 10) sc_law.nd rfl (.inl rfl)) 
      (pss_one (ps_if (pt_cmpR op_isnot_bl (pe_meth (pv 7) C_Presentation.cl C_Presentation.m_is_row G_Presentation_is_row (hr.mono (by decide)) C_Presentation.b_is_row .nil pass0 (pa_cons (pv 10) pa_nil)) pe_bl (nomark _)) 
        (pss_one (ps_ret pe_bl)) pss_nil))) 
    (C8.pss_cut (ps_if (pt_cmpR op_gt (pv 6) pe_int (nomark _)) 
      (pss_one (ps_for PassesOwn.never rfl (pi_list (pe_lst (pa_cons (pe_ix ix_tup (pv 3) (pe_un un_neg pe_int) (fun _ _ => rfl)) (pa_cons (pe_un un_neg pe_int) (pa_cons pe_non (pa_cons pe_bl pa_nil)))))) (pg_name (i := 11) sc_law.nd rfl (.inl rfl)) 
        (pss_one (ps_if (pt_cmpR op_isnot_bl (pe_meth (pv 7) C_Presentation.cl C_Presentation.m_is_row G_Presentation_is_row (hr.mono (by decide)) C_Presentation.b_is_row .nil pass0 (pa_cons (pe_op op_catA (pe_slice sl_tupA (pv 9) po_none (po_some (pe_un un_neg pe_int))) (pe_tup (pa_cons (pv 11) pa_nil))) pa_nil)) pe_bl (nomark _)) 
          (pss_one (ps_ret pe_bl)) pss_nil)))) pss_nil) 
    (pss_cons (ps_set (i := 12) sc_law.nd rfl (.inl rfl) (pe_call G__law_group (hr.mono (by decide)) (by rfl) T.g__law_group T.F__law_group.kp T.b__law_group .nil pass0 (pa_cons (pv 1) (pa_cons pe_int pa_nil)))) 
    (pss_cons (ps_if (PW.pt (pw_or (pt_cmpR op_isnot_bl (pe_cmpR oEq (pv 7) (pe_make C_Presentation.mkr G_Presentation___init__ (hr.mono (by decide)) rfl C_Presentation.gC C_Presentation.b___init__ .nil passL (pa_cons (pv 3) (pa_cons (pv 4) (pa_cons (pv 5) pa_nil)))) (nomark _)) pe_bl (nomark _)) (pw_or1 (pt_cmpR op_ne (pe_cmpR oEq (pv 7) (pe_make C_Presentation.mkr G_Presentation___init__ (hr.mono (by decide)) rfl C_Presentation.gC C_Presentation.b___init__ .nil passL (pa_cons (pe_ix ix_tup (pv 12) pe_int (fun _ _ => rfl)) (pa_cons (pe_ix ix_tup (pv 12) pe_int (fun _ _ => rfl)) (pa_cons (pe_ix ix_tup (pv 12) pe_int (fun _ _ => rfl)) pa_nil)))) (nomark _)) (pe_cmpR (op_eqD hr.units) (pv 12) (pv 2) (nomark _)) (nomark _))))) 
      (pss_one (ps_ret pe_bl)) pss_nil) 
    (pss_cons (ps_if (PW.pt (pw_or (pt_cmpR op_isnot_bl (pe_cmpR oEq (pv 7) pe_non (nomark _)) pe_bl (nomark _)) (pw_or (pt_cmpR op_isnot_bl (pe_cmpR oEq (pv 7) (pv 2) (nomark _)) pe_bl (nomark _)) (pw_or1 (pt_not (pt_val (pe_call G__law_forms (hr.mono (by decide)) (by rfl) T.g__law_forms T.F__law_forms.kp T.b__law_forms .nil pass0 (pa_cons (pv 2) pa_nil)))))))) 
      (pss_one (ps_ret pe_bl)) pss_nil) 
    (pss_cons (ps_for PassesOwn.never rfl (pi_list (pe_lst (pa_cons (pe_lc (own := [("k", 16)]) rfl sc_law.nd (pi_range1 (by rfl) T.n_range (pa_cons pe_int pa_nil)) (blkOk_by (N := N_law) (sc := defScope s_law) (own := [("k", 16)]) (by decide +kernel)) (fun _ _ _ _ _ => (pg_name (i := 16) sc_law.nd rfl (.inl rfl))) (fun _ _ _ _ _ => pts_nil) (fun _ _ _ _ _ => pe_int)) (pa_cons (pe_lst (pa_cons pe_int (pa_cons pe_int (pa_cons pe_int pa_nil)))) (pa_cons (pe_op op_cat (pe_lc (own := [("k", 16)]) rfl sc_law.nd (pi_range1 (by rfl) T.n_range (pa_cons pe_int pa_nil)) (blkOk_by (N := N_law) (sc := defScope s_law) (own := [("k", 16)]) (by decide +kernel)) (fun _ _ _ _ _ => (pg_name (i := 16) sc_law.nd rfl (.inl rfl))) (fun _ _ _ _ _ => pts_nil) (fun _ _ _ _ _ => pe_int)) (pe_lst (pa_cons pe_int pa_nil))) pa_nil))))) (pg_name (i := 13) sc_law.nd rfl (.inl rfl)) 
      (pss_cons (ps_set (i := 14) sc_law.nd rfl (.inl rfl) (pe_call G__law_made (hr.mono (by decide)) (by rfl) T.g__law_made T.F__law_made.kp T.b__law_made .nil pass0 (pa_cons (pv 13) (pa_cons (pe_lst pa_nil) (pa_cons (pe_lst pa_nil) pa_nil))))) 
      (pss_one (ps_if (pt_cmpR op_ne (pe_call G__law_reason (hr.mono (by decide)) (by rfl) T.g__law_reason T.F__law_reason.kp T.b__law_reason .nil pass0 (pa_cons (pe_ix ix_tup (pv 14) pe_int (fun _ _ => rfl)) (pa_cons (pe_ix ix_tup (pv 14) pe_int (fun _ _ => rfl)) (pa_cons (pe_ix ix_tup (pv 14) pe_int (fun _ _ => rfl)) pa_nil)))) pe_str (nomark _)) 
        (pss_one (ps_ret pe_bl)) pss_nil)))) 
    (pss_cons (ps_set (i := 14) sc_law.nd rfl (.inl rfl) (pe_call G__law_made (hr.mono (by decide)) (by rfl) T.g__law_made T.F__law_made.kp T.b__law_made .nil pass0 (pa_cons (pe_lc (own := [("k", 16)]) rfl sc_law.nd (pi_range1 (by rfl) T.n_range (pa_cons pe_int pa_nil)) (blkOk_by (N := N_law) (sc := defScope s_law) (own := [("k", 16)]) (by decide +kernel)) (fun _ _ _ _ _ => (pg_name (i := 16) sc_law.nd rfl (.inl rfl))) (fun _ _ _ _ _ => pts_nil) (fun _ _ _ _ _ => pe_int)) (pa_cons (pe_lst pa_nil) (pa_cons (pe_lst pa_nil) pa_nil))))) 
    (pss_one (ps_ret (pe_cmpR op_eq (pe_call G__law_reason (hr.mono (by decide)) (by rfl) T.g__law_reason T.F__law_reason.kp T.b__law_reason .nil pass0 (pa_cons (pe_ix ix_tup (pv 14) pe_int (fun _ _ => rfl)) (pa_cons (pe_ix ix_tup (pv 14) pe_int (fun _ _ => rfl)) (pa_cons (pe_ix ix_tup (pv 14) pe_int (fun _ _ => rfl)) pa_nil)))) pe_str (nomark _))))))))))))))))))))), ?_⟩
    refine ⟨_, rfl, as, ns, rfl, hS, fun H1 st s0 t0 _ _ est => ?_⟩
    refine ⟨_, rfl, st, 48, rfl, by decide, by decide, ⟨s0, t0, est⟩, fun z t H2 sx2 hst2 hT hV hsz hln => ?_⟩
    refine ⟨fun σ H => ∃ z t, StA H st ∧ TbAt K H z t ∧ Vd t ∧ t.ps.length ≤ 5 ∧ σ = [some (.ref as), some (.ref st), some z, none, none, none, none, none, none, none, none, none, none, none, none, none, none, none], ?_, ?_⟩
    · obtain ⟨s2, t2, es2⟩ := hst2
      refine ⟨_, rfl, st, 2, s2, t2, rfl, by decide, by decide, es2, fun v s3 t3 h0 h1 => ⟨rfl, _, rfl, ?_⟩⟩
      have hT3 := hT.tps (Tps.x (K := K) (SameX.put (u := .lst [.int s3, .int t3])) es2)
      refine ite2 (fun c => ?_) (fun c => ⟨z, t, ⟨s3, t3, upd_same⟩, hT3, hV, hln, rfl⟩)
      exact ⟨_, rfl, _, rfl, st, z, t, rfl, ⟨s3, t3, upd_same⟩, hT3, hV, fun z' t' H4 sx4 hst4 hT4 hV4 hps => ⟨z', t', hst4, hT4, hV4, by rw [hps]; exact hln, rfl⟩⟩
    clear hT hV hsz hln sx2 hst2 est
    rintro σ H3 ⟨z, t, hst3, hT, hV, hln, rfl⟩
    obtain ⟨x0, a, b, c, us, vs, rfl, hSx, hSa, hSb, hPw, hSc, hPc⟩ := hT.rd
    refine ⟨_, rfl, x0, _, rfl, hSx, rfl, _, _, rfl, _, _, rfl, _, _, rfl, rfl, ?_⟩
    refine ⟨_, rfl, a, _, rfl, .inr hSa, ?_⟩
    rw [List.length_map]
    refine ⟨_, rfl, _, rfl, _, rfl, fun x dx nx ndx hne => ?_⟩
    have s0' : Same H3 (upd (upd H3 dx (.own x)) x (.ins C_Presentation.C dx [])) := (same_new ndx).trans (same_new (by rw [upd_ne (Ne.symm hne)]; exact nx))
    have ap := (av_row (K := K) ⟨a, rfl, hSa⟩).mono s0'
    have aw := (av_rows (K := K) ⟨b, us, rfl, hSb, hPw⟩).mono s0'
    have ac := (av_cj (K := K) hSc hPc).mono s0'
    have lp : ∀ l, rowT t.ps = .tup l → l.length ≤ 1000 := fun l e => by cases e; rw [List.length_map]; omega
    refine ⟨x, dx, .ref a, .ref b, .ref c, _, _, _, rfl, upd_same, ap, aw, ac, lp, fun z => Bool.noConfusion ((vd_form hV).symm.trans z), fun _ => ⟨fun z => absurd z (vd_big hV), fun _ H4 s4 hpr => ⟨rfl, ?_⟩⟩⟩
    rw [psD_row] at hpr
    have nst : x ≠ st := fun z => by
      obtain ⟨s, t, e⟩ := hst3
      rw [z, e] at nx
      cases nx
    have hW : W06 K C_Presentation.C H4 st x0 a b c x t us vs := by
      have s34 : Same H3 H4 := fun b o e => s4 b o (ne_of_none e nx) (s0' _ _ e)
      have tp := Tps.of (K := K) s34
      obtain ⟨s5, t5, e5⟩ := hst3
      exact ⟨⟨s5, t5, s34 _ _ e5⟩, tp _ _ hSx, tp _ _ hSa, tp _ _ hSb, paired_via (fun _ _ => rs_tps tp) hPw, tp _ _ hSc, paired_via (fun _ _ => tup1_tps tp) hPc, hpr⟩
    clear hpr s4 ap aw ac s0' nx ndx hne hSx hSa hSb hPw hSc hPc hst3 hT nst
    -- the fields
    obtain ⟨dx2, ex⟩ := id hW.pr
    have f := pFs_get (.ref a) (.ref b) (.ref c) t.ps
    refine ⟨_, rfl, x, _, dx2, _, _, rfl, ex, C_Presentation.cl, C_Presentation.n_n, f.1, ?_⟩
    refine ⟨_, rfl, x, _, dx2, _, _, rfl, ex, C_Presentation.cl, C_Presentation.n_primes, f.2.1, ?_⟩
    refine ⟨_, rfl, x, _, dx2, _, _, rfl, ex, C_Presentation.cl, C_Presentation.n_powers, f.2.2.1, ?_⟩
    refine ⟨_, rfl, x, _, dx2, _, _, rfl, ex, C_Presentation.cl, C_Presentation.n_conjugates, f.2.2.2.1, ?_⟩
    refine ⟨_, rfl, x, _, dx2, _, _, rfl, ex, C_Presentation.cl, C_Presentation.n_order, f.2.2.2.2, ?_⟩
    refine ⟨by show 5 ≤ sizeLine; decide, fun t1 nt1 => ?_⟩
    have s1 := same_new (o := .tup [V.int (t.ps.length : Int), .ref a, .ref b, .ref c, .int (prodN t.ps : Int)]) nt1
    have h1 : SqT K (upd H4 t1 (.tup [V.int (t.ps.length : Int), .ref a, .ref b, .ref c, .int (prodN t.ps : Int)])) t1 [V.int (t.ps.length : Int), .ref a, .ref b, .ref c, .int (prodN t.ps : Int)] := .inl (.inl upd_same)
    have hW5 := hW.mono s1
    generalize upd H4 t1 (.tup [V.int (t.ps.length : Int), .ref a, .ref b, .ref c, .int (prodN t.ps : Int)]) = H5 at *
    refine ⟨_, rfl, _, rfl, _, rfl, _, rfl, _, rfl, _, t, rfl, hW5.tb, hV.pr, hV.sz, ?_⟩
    refine ⟨by show 5 ≤ sizeLine; decide, fun t2 nt2 => ?_⟩
    have s2 := same_new (o := .tup [V.int (t.ps.length : Int), .ref a, .ref b, .ref c, .int (prodN t.ps : Int)]) nt2
    have hW6 := hW5.mono s2
    have dpo : DpAll K (upd H5 t2 (.tup [V.int (t.ps.length : Int), .ref a, .ref b, .ref c, .int (prodN t.ps : Int)])) [V.int (t.ps.length : Int), .ref a, .ref b, .ref c, .int (prodN t.ps : Int)] [.int (t.ps.length : Int), dInts t.ps, dRows t.pw, dCj t.cj, .int (prodN t.ps : Int)] := .cons (.int _) (.cons hW6.d1 (.cons hW6.d2 (.cons hW6.d3 (.cons (.int _) .nil))))
    refine ⟨dOwn t, dOwn t, .tup (Own.same_tup s2 h1) dpo, .tup (.inl (.inl upd_same)) dpo, shaped_own t, shaped_own t, _, rfl, iteB (by rw [eqv_own]; rfl) ?_⟩
    clear dpo h1 hW5 hW s1 s2 ex f
    generalize upd H5 t2 (.tup [V.int (t.ps.length : Int), .ref a, .ref b, .ref c, .int (prodN t.ps : Int)]) = H6 at *
    -- conjugate_row
    refine ⟨_, rfl, (t.ps.length : Int), rfl, by omega, by omega, ?_⟩
    rw [Int.toNat_natCast]
    refine for_range (lo := 0) (n := t.ps.length) (fun i σ H => Same H6 H ∧ ∃ y8, σ = [some (.ref as), some (.ref st), some (.ref x0), some (.ref a), some (.ref b), some (.ref c), some (.int (t.ps.length : Int)), some (.ref x), y8, none, none, none, none, none, none, none, none, none]) ⟨Same.refl _, _, rfl⟩ ?_ ?_
    · rintro i σ H7 hi ⟨s7, y8, rfl⟩
      rw [Int.zero_add]
      have hW7 := hW6.mono s7
      obtain ⟨M0, eM⟩ : ∃ M0, t.cj[i]? = some M0 := ⟨_, List.getElem?_eq_getElem (by rw [hV.cjl]; exact hi)⟩
      obtain ⟨v0, ev, tt, us2, rfl, hSt, hPt⟩ := paired_get2 hW7.pc eM
      have hMl := (hV.cjr i M0 eM).1
      obtain ⟨dx3, ex3⟩ := hW7.pr
      refine ⟨_, rfl, _, _, rfl, rfl, _, rfl, _, _, rfl, ⟨by omega, by omega, by omega, by omega⟩, fun D nD => ?_⟩
      refine lc_rep (walk_range (lo := (i : Int) + 1) (n := ((t.ps.length : Int) - ((i : Int) + 1)).toNat)) (st_RS (K := K)) (fun m => M0.getD m []) (by omega) nD (fun _ _ => trivial) (fun m y H8 H9 Q2 hm s8 hY q2 => ?_) (fun H8 acc s8 eD hP => ?_)
      · obtain ⟨rfl, rfl⟩ := hY
        obtain ⟨r0, er⟩ : ∃ r0, M0[m]? = some r0 := ⟨_, List.getElem?_eq_getElem (by omega)⟩
        obtain ⟨w0, ew, hw0⟩ := paired_get2 hPt er
        have ej : (i : Int) + 1 + (m : Int) = ((i + 1 + m : Nat) : Int) := by omega
        have hW8 := hW7.mono s8
        refine ⟨rfl, _, rfl, x, dx3, _, rfl, s8 _ _ ex3, (pFs_no _ _ _ _).2.1, _, rfl, _, rfl, x, c, tt, .ref a, .ref b, w0, t.ps, vs, us2, i, i + 1 + m, congrArg (fun z => [V.ref x, V.int (i : Int), V.int z]) ej, hW8.pr, hW8.sc, ev, Own.same_tup s8 hSt, by omega, by rw [show i + 1 + m - i - 1 = m by omega]; exact ew, ?_⟩
        refine q2 _ _ (Same.refl _) ?_
        rw [getD_some er]
        exact st_RS.same s8 hw0
      · rw [range_getD [] (by omega : M0.length = ((t.ps.length : Int) - ((i : Int) + 1)).toNat)] at hP
        have hW8 := hW7.mono s8
        refine ⟨_, rfl, _, rfl, c, vs, (i : Int), .ref tt, rfl, rfl, hW8.sc, atI_nat ev, tt, us2, rfl, .inr (Own.same_tup s8 hSt), fun l nl => ?_⟩
        have s9 := same_new (o := .lst us2) nl
        refine ⟨dRowsL M0, dRowsL M0, .lst (.inl (.inl (s9 _ _ eD))) (dpAll_of _ (fun _ _ k => dp_rs k) (st_RS.all s9 hP)), .lst (.inl (.inl upd_same)) (dpAll_of _ (fun _ _ k => dp_rs k) (st_RS.all (s8.trans s9) hPt)), shaped_rowsL M0, shaped_rowsL M0, _, rfl, iteB (by rw [eqv_rowsL, decide_eq_true rfl]; rfl) ?_⟩
        exact ⟨s7.trans (s8.trans s9), _, rfl⟩
    rintro σ H7 ⟨s7, y8, rfl⟩
    have hW7 := hW6.mono s7
    clear hW6 s7
    -- row
    refine ⟨_, rfl, a, rfl, ⟨_, hW7.sa⟩, fun D nD => ?_⟩
    refine lc_takes (by omega) nD hW7.ss hW7.sa (fun i H8 Q2 hi hst8 q2 => ?_) (fun H8 r sx8 hst8 eD hB => ?_)
    · obtain ⟨s8, t8, e8⟩ := hst8
      have := hV.p2 hi
      exact ⟨rfl, _, rfl, _, rfl, st, atR t.ps i, s8, t8, rfl, by omega, by omega, e8, fun v s9 t9 h0 h1 => q2 v _ SameX.put ⟨s9, t9, upd_same⟩ h0 h1⟩
    have hW8 := hW7.go sx8 hst8
    refine ⟨D, _, rfl, .inl ⟨.inl (.inl eD), fun u nu => ?_⟩⟩
    have hW9 := hW8.mono (same_new (o := .tup (r.map V.int)) nu)
    have hu : SqT K (upd H8 u (.tup (r.map V.int))) u (r.map V.int) := .inl (.inl upd_same)
    generalize upd H8 u (.tup (r.map V.int)) = H9 at *
    clear hW8 hW7 eD sx8 hst8 nu nD
    have hrl : r.length = t.ps.length := hB.1
    have hrb : ∀ y ∈ r, 0 ≤ y ∧ y ≤ 31 := fun y hy => by
      obtain ⟨k, hk, rfl⟩ := List.mem_iff_getElem.mp hy
      have h1 := hB.2 k (by omega)
      have h2 := hV.p2 (k := k) (by omega)
      have e : atR r k = r[k] := by
        unfold atR
        rw [List.getD_eq_getElem?_getD, List.getElem?_eq_getElem hk]
        rfl
      omega
    obtain ⟨dx4, ex4⟩ := id hW9.pr
    refine ⟨_, rfl, x, dx4, _, rfl, ex4, (pFs_no _ _ _ _).2.2, _, rfl, .ref x, .ref u, r, rfl, ⟨u, rfl, hu⟩, by omega, hrb, fun H10 z1 s10 g1 => ?_⟩
    refine ⟨_, rfl, .ref u, r, rfl, ⟨u, rfl, Own.same_tup s10 hu⟩, by omega, hrb, fun H11 z2 s11 g2 => ?_⟩
    have s911 := s10.trans s11
    have hW11 := hW9.mono s911
    have hu11 := Own.same_tup s911 hu
    refine ⟨_, _, dp_rs (st_RS.same s11 g1), dp_rs g2, shaped_dInts _, shaped_dInts _, _, rfl, iteB (by rw [eqv_dInts, decide_eq_true rfl]; rfl) ?_⟩
    refine ⟨_, rfl, x, dx4, _, rfl, s911 _ _ ex4, (pFs_no _ _ _ _).1, _, rfl, x, a, .ref u, .ref b, .ref c, rowT r, t.ps, rfl, hW11.pr, hW11.sa, av_row ⟨u, rfl, hu11⟩, by omega, fun H12 s12 => ?_⟩
    refine ⟨_, _, rfl, rfl, _, rfl, iteB (by rw [show rowD (rowT r) t.ps = true from rowD_true hB]; rfl) ?_⟩
    have hW12 := hW11.mono s12
    have hu12 := Own.same_tup s12 hu11
    clear hW11 hu11 hW9 hu s10 s11 s12 s911 g1 g2 ex4
    have au : AtV K H12 (.ref u) (.tup (r.map Dv.int)) := av_row ⟨u, rfl, hu12⟩
    have lu : (r.map Dv.int).length + 1 ≤ 2000 := by rw [List.length_map]; omega
    have hn1 : t.ps.length ≤ 1000 := by omega
    -- values that are no rows
    refine for_vals (ds := [Dv.oth, .oth, .tup (r.map Dv.int ++ [.int 0]), .oth, .int 0])
      (ev_cons ev_non (ev_cons (ev_lst (ev_var (i := 9) rfl au)) (ev_cons (ev_cat (ev_var (i := 9) rfl au) (ev_tup (ev_cons ev_int ev_nil) (by decide)) lu) (ev_cons ev_str (ev_cons ev_int ev_nil)))))
      (by show 5 ≤ 1000; decide) (fun i σ => ∃ y10, σ = [some (.ref as), some (.ref st), some (.ref x0), some (.ref a), some (.ref b), some (.ref c), some (.int (t.ps.length : Int)), some (.ref x), y8, some (.ref u), y10, none, none, none, none, none, none, none]) ⟨_, rfl⟩ ?_ ?_
    · rintro i y d σ H13 N hd hy s13 ⟨y10, rfl⟩ qN
      have hf : rowD d t.ps = false := by
        simp only [List.mem_cons, List.not_mem_nil, or_false] at hd
        rcases hd with rfl | rfl | rfl | rfl | rfl
        · rfl
        · rfl
        · exact rowD_len (by rw [List.length_append, List.length_map, hrl]; show t.ps.length + 1 ≠ _; omega)
        · rfl
        · rfl
      refine call_row (ev_cons (ev_var (i := 10) rfl hy) ev_nil) rfl (hW12.mono s13) hn1 fun H14 s14 => ?_
      exact ⟨_, _, rfl, rfl, _, rfl, iteB (by rw [hf]; rfl) (qN _ _ s14 ⟨_, rfl⟩)⟩
    rintro σ H13 s13 ⟨y10, rfl⟩
    have hW13 := hW12.mono s13
    have au := au.mono s13
    clear hW12 hu12 s13
    refine ⟨fun σ H => ∃ y11, W06 K C_Presentation.C H st x0 a b c x t us vs ∧ σ = [some (.ref as), some (.ref st), some (.ref x0), some (.ref a), some (.ref b), some (.ref c), some (.int (t.ps.length : Int)), some (.ref x), y8, some (.ref u), y10, y11, none, none, none, none, none, none], ?_, ?_⟩
    · refine ⟨_, rfl, _, _, rfl, rfl, _, rfl, ite2 (fun cc => ?_) (fun cc => ⟨_, hW13, rfl⟩)⟩
      have h0 : 0 < t.ps.length := by have := of_decide_eq_true cc; omega
      have elast : atI (t.ps.map Dv.int) (-1) = some (.int (atR t.ps (t.ps.length - 1))) := atI_last (by rw [List.length_map, List.getElem?_map, atR_get (by omega)]; rfl)
      have li : ((r.map Dv.int).take ((r.map Dv.int).length - 1)).length + 1 = t.ps.length := by rw [List.length_take, List.length_map]; omega
      have li2 : ((r.map Dv.int).take ((r.map Dv.int).length - 1)).length = t.ps.length - 1 := by omega
      refine for_vals (ds := [Dv.int (atR t.ps (t.ps.length - 1)), .int (-1), .oth, .oth])
        (ev_cons (ev_ix (ev_var (i := 3) rfl hW13.ap) ev_neg elast) (ev_cons ev_neg (ev_cons ev_non (ev_cons ev_bl ev_nil))))
        (by show 4 ≤ 1000; decide) (fun i σ => ∃ y11, σ = [some (.ref as), some (.ref st), some (.ref x0), some (.ref a), some (.ref b), some (.ref c), some (.int (t.ps.length : Int)), some (.ref x), y8, some (.ref u), y10, y11, none, none, none, none, none, none]) ⟨_, rfl⟩ ?_ ?_
      · rintro i y d σ H14 N hd hy s14 ⟨y11, rfl⟩ qN
        have hf : rowD (.tup ((r.map Dv.int).take ((r.map Dv.int).length - 1) ++ [d])) t.ps = false := by
          refine rowD_last li ?_
          rw [li2]
          simp only [List.mem_cons, List.not_mem_nil, or_false] at hd
          rcases hd with rfl | rfl | rfl | rfl
          · show (decide _ && decide (atR t.ps (t.ps.length - 1) < atR t.ps (t.ps.length - 1))) = false
            rw [decide_eq_false (Int.lt_irrefl _), Bool.and_false]
          · rfl
          · rfl
          · rfl
        refine call_row (ev_cons (ev_cat (ev_init (ev_var (i := 9) rfl (au.mono s14))) (ev_tup (ev_cons (ev_var (i := 11) rfl hy) ev_nil) (by show 1 ≤ 1000; decide)) (by have := li; show _ + 1 ≤ 2000; omega)) ev_nil) rfl (hW13.mono s14) hn1 fun H15 s15 => ?_
        exact ⟨_, _, rfl, rfl, _, rfl, iteB (by rw [hf]; rfl) (qN _ _ s15 ⟨_, rfl⟩)⟩
      · rintro σ H14 s14 ⟨y11, rfl⟩
        exact ⟨_, hW13.mono s14, rfl⟩
    clear hW13 au lu
    rintro σ H14 ⟨y11, hW14, rfl⟩
    -- other
    refine ⟨_, rfl, st, 12, rfl, by decide, by decide, hW14.ss, fun zo t2 H15 sx15 hst15 hT2 hV2 _ _ => ?_⟩
    have hW15 := hW14.go sx15 hst15
    clear hW14 sx15 hst15
    -- ==
    refine ⟨_, rfl, _, rfl, _, rfl, _, rfl, fun x2 e2 nx2 ne2 hn2 => ?_⟩
    have s15 : Same H15 (upd (upd H15 e2 (.own x2)) x2 (.ins C_Presentation.C e2 [])) := (same_new ne2).trans (same_new (by rw [upd_ne (Ne.symm hn2)]; exact nx2))
    refine ⟨x2, e2, .ref a, .ref b, .ref c, _, _, _, rfl, upd_same, hW15.ap.mono s15, hW15.aw.mono s15, hW15.ac.mono s15, lp, fun z => Bool.noConfusion ((vd_form hV).symm.trans z), fun _ => ⟨fun z => absurd z (vd_big hV), fun _ H16 s16 hp16 => ⟨rfl, ?_⟩⟩⟩
    rw [psD_row] at hp16
    have s1516 : Same H15 H16 := fun b o e => s16 b o (ne_of_none e nx2) (s15 _ _ e)
    have hW16 := hW15.mono s1516
    have hT3 := hT2.tps (Tps.of s1516)
    clear s16 s15 hT2
    obtain ⟨d6, ex6⟩ := id hW16.pr
    obtain ⟨d7, ex7⟩ := id hp16
    have D1 : DS K H16 (.ref a) (dInts t.ps) := ⟨hW16.d1, shaped_dInts _⟩
    have D2 : DS K H16 (.ref b) (dRows t.pw) := ⟨hW16.d2, shaped_rows _⟩
    have D3 : DS K H16 (.ref c) (dCj t.cj) := ⟨hW16.d3, shaped_cj _⟩
    refine ⟨x, d6, _, .ref C_Presentation.C, rfl, ex6, .ins ex7, nf_self, x, .ref a, .ref b, .ref c, .ref x2, t.ps, _, _, _, rfl, hW16.pr, D1, D2, D3, .inr ⟨x2, .ref a, .ref b, .ref c, t.ps, _, _, _, rfl, hp16, D1, D2, D3, ⟨_, rfl⟩, ?_⟩⟩
    refine ⟨_, _, rfl, rfl, _, rfl, iteB (by rw [eqv_dInts, eqv_rows, eqv_cj, decide_eq_true rfl, decide_eq_true rfl, decide_eq_true rfl]; rfl) ?_⟩
    clear ex6 ex7 D1 D2 D3 hp16 hW15 s1516 nx2 ne2 hn2
    obtain ⟨y0, a2, b2, c2, us2, vs2, rfl, hSx2, hSa2, hSb2, hPw2, hSc2, hPc2⟩ := hT3.rd
    refine ⟨_, rfl, _, rfl, y0, _, 0, _, rfl, rfl, hSx2, atI_nat (j := 0) rfl, ?_⟩
    refine ⟨_, rfl, y0, _, 1, _, rfl, rfl, hSx2, atI_nat (j := 1) rfl, ?_⟩
    refine ⟨_, rfl, y0, _, 2, _, rfl, rfl, hSx2, atI_nat (j := 2) rfl, fun x3 e3 nx3 ne3 hn3 => ?_⟩
    have s17 : Same H16 (upd (upd H16 e3 (.own x3)) x3 (.ins C_Presentation.C e3 [])) := (same_new ne3).trans (same_new (by rw [upd_ne (Ne.symm hn3)]; exact nx3))
    have lp2 : ∀ l, rowT t2.ps = .tup l → l.length ≤ 1000 := fun l e => by
      cases e
      have := hV2.n10
      rw [List.length_map]
      omega
    refine ⟨x3, e3, .ref a2, .ref b2, .ref c2, _, _, _, rfl, upd_same, (av_row (K := K) ⟨a2, rfl, hSa2⟩).mono s17, (av_rows (K := K) ⟨b2, us2, rfl, hSb2, hPw2⟩).mono s17, (av_cj (K := K) hSc2 hPc2).mono s17, lp2, fun z => Bool.noConfusion ((vd_form hV2).symm.trans z), fun _ => ⟨fun z => absurd z (vd_big hV2), fun _ H17 s18 hp17 => ⟨rfl, ?_⟩⟩⟩
    rw [psD_row] at hp17
    have s1617 : Same H16 H17 := fun b o e => s18 b o (ne_of_none e nx3) (s17 _ _ e)
    have hW17 := hW16.mono s1617
    have hT4 := hT3.tps (Tps.of s1617)
    have tp := Tps.of (K := K) s1617
    obtain ⟨d8, ex8⟩ := id hW17.pr
    obtain ⟨d9, ex9⟩ := id hp17
    have D1 : DS K H17 (.ref a) (dInts t.ps) := ⟨hW17.d1, shaped_dInts _⟩
    have D2 : DS K H17 (.ref b) (dRows t.pw) := ⟨hW17.d2, shaped_rows _⟩
    have D3 : DS K H17 (.ref c) (dCj t.cj) := ⟨hW17.d3, shaped_cj _⟩
    have F1 : DS K H17 (.ref a2) (dInts t2.ps) := ⟨dp_ints (tp _ _ hSa2), shaped_dInts _⟩
    have F2 : DS K H17 (.ref b2) (dRows t2.pw) := ⟨dp_tup1 (tup1_tps tp ⟨b2, us2, rfl, hSb2, hPw2⟩), shaped_rows _⟩
    have F3 : DS K H17 (.ref c2) (dCj t2.cj) := ⟨dp_cj (tp _ _ hSc2) (paired_via (fun _ _ => tup1_tps tp) hPc2), shaped_cj _⟩
    refine ⟨x, d8, _, .ref C_Presentation.C, rfl, ex8, .ins ex9, nf_self, x, .ref a, .ref b, .ref c, .ref x3, t.ps, _, _, _, rfl, hW17.pr, D1, D2, D3, .inr ⟨x3, .ref a2, .ref b2, .ref c2, t2.ps, _, _, _, rfl, hp17, F1, F2, F3, ⟨_, rfl⟩, ?_⟩⟩
    refine ⟨_, rfl, _, rfl, dTab t2, dTab t, dp_tab hT4, dp_tab hW17.tb, shaped_tab _, shaped_tab _, ?_⟩
    refine ⟨rfl, _, rfl, iteB (by rw [eqv_tab t2 t, decide_eq_true rfl]; rfl) ?_⟩
    -- None, the table, other forms
    refine ⟨_, rfl, x, d8, _, .type "NoneType", rfl, ex8, .non, nf_non, x, .ref a, .ref b, .ref c, .non, t.ps, _, _, _, rfl, hW17.pr, D1, D2, D3, .inl ⟨.inl rfl, ⟨_, rfl⟩, ?_⟩⟩
    refine ⟨_, _, rfl, rfl, _, rfl, iteB rfl ?_⟩
    refine ⟨_, rfl, _, rfl, x, d8, _, .type "tuple", rfl, ex8, .tup hW17.sx, nf_tup, x, .ref a, .ref b, .ref c, .ref x0, t.ps, _, _, _, rfl, hW17.pr, D1, D2, D3, .inl ⟨.inr ⟨x0, _, rfl, hW17.sx⟩, ⟨_, rfl⟩, ?_⟩⟩
    refine ⟨_, _, rfl, rfl, _, rfl, iteB rfl ?_⟩
    refine ⟨_, rfl, .ref x0, t, rfl, hW17.tb, hV, fun H18 s18' => ?_⟩
    refine ⟨true, rfl, iteB rfl ?_⟩
    clear D1 D2 D3 F1 F2 F3 hW17 hT4 hT3 hW16 tp ex8 ex9 hp17 hSx2 hSa2 hSb2 hPw2 hSc2 hPc2 s1617 s17 s18 nx3 ne3 hn3
    -- the tables behind large
    have key : ∀ ps ∈ [List.replicate 11 (2 : Int), [31, 31, 2], List.replicate 9 2 ++ [3]], (∀ p ∈ ps, p ∈ pr31) ∧ ps.length ≤ 100 ∧ Big ps := by
      intro ps hps
      simp only [List.mem_cons, List.not_mem_nil, or_false] at hps
      rcases hps with rfl | rfl | rfl
      · exact ⟨by decide, by decide, .inl (by decide)⟩
      · exact ⟨by decide, by decide, .inr (by decide)⟩
      · exact ⟨by decide, by decide, .inr (by decide)⟩
    refine for_lists (Ls := [List.replicate 11 (2 : Int), [31, 31, 2], List.replicate 9 2 ++ [3]]) (evl_cons (evl_rep (n := 11) (by decide) fun _ => rfl) (evl_cons evl_three (evl_cons (evl_rep1 (n := 9) (by decide) fun _ => rfl) evl_nil))) (by decide)
      (fun σ => ∃ y13 y14, σ = [some (.ref as), some (.ref st), some (.ref x0), some (.ref a), some (.ref b), some (.ref c), some (.int (t.ps.length : Int)), some (.ref x), y8, some (.ref u), y10, y11, some (.ref y0), y13, y14, none, none, none]) ⟨_, _, rfl⟩ ?_ ?_
    · rintro l ps σ H19 N hps hl ⟨y13, y14, rfl⟩ qN
      obtain ⟨k1, k2, k3⟩ := key ps hps
      refine call_made (evl_var (i := 13) rfl hl) k2 fun z H20 s20 hT20 => ?_
      refine call_wide (k := 14) rfl hT20 k1 k2 (fun _ H21 s21 => ⟨rfl, _, rfl, iteB (by rw [decide_eq_true rfl]; rfl) (qN _ _ (s20.trans s21) ⟨_, _, rfl⟩)⟩) (fun nb => absurd k3 nb)
    · rintro σ H19 s19 ⟨y13, y14, rfl⟩
      refine call_made (evl_rep (n := 10) (by decide) fun _ => rfl) (by decide) fun z H20 s20 hT20 => ?_
      have nb : ¬ Big (List.replicate 10 (2 : Int)) := by
        rintro (z | z)
        · revert z; decide
        · revert z; decide
      refine call_wide (k := 14) rfl hT20 (by decide) (by decide) (fun hb => absurd hb nb) (fun _ H21 s21 => ⟨rfl, ?_⟩)
      have e : V.bl (decide (V.str "none" = V.str "none")) = .bl true := by rw [decide_eq_true rfl]
      have z2 := q H21
      rw [← e] at z2
      exact z2
end
theorem all_mk {l : PySem.W.OpenLaw} {w : World} {K : PySem.W.Frag} {h : Heap} {mg : Str → Option Value} {fa : Addr} (X : K.In h) (G : h.Ns mainGlobals mg) (hfa : mg "law" = some (.ref fa))
    {f_is_integer : Addr} {od_is_integer an_is_integer : Option Addr} {sl_is_integer : Array (Option Value)} {oc_is_integer kV_is_integer dc_is_integer pm_is_integer cd_is_integer ct_is_integer : Value}
    (a_is_integer : PySem.W.nsIn K mainGlobals "is_integer" = some (some (.ref f_is_integer))) (l_is_integer : K.lookup f_is_integer = some ⟨oc_is_integer, od_is_integer, .func (PySem.W.fnOf "is_integer" "is_integer" (defArgs s_is_integer) (defBody s_is_integer) (defScope s_is_integer) .none kV_is_integer dc_is_integer pm_is_integer an_is_integer cd_is_integer ct_is_integer), sl_is_integer⟩)
    (c_is_integer : PySem.W.codeIn K cd_is_integer "is_integer" = true) (k_is_integer : PySem.W.keepIn K (.ref f_is_integer) = true)
    {f_is_small_prime : Addr} {od_is_small_prime an_is_small_prime : Option Addr} {sl_is_small_prime : Array (Option Value)} {oc_is_small_prime kV_is_small_prime dc_is_small_prime pm_is_small_prime cd_is_small_prime ct_is_small_prime : Value}
    (a_is_small_prime : PySem.W.nsIn K mainGlobals "is_small_prime" = some (some (.ref f_is_small_prime))) (l_is_small_prime : K.lookup f_is_small_prime = some ⟨oc_is_small_prime, od_is_small_prime, .func (PySem.W.fnOf "is_small_prime" "is_small_prime" (defArgs s_is_small_prime) (defBody s_is_small_prime) (defScope s_is_small_prime) .none kV_is_small_prime dc_is_small_prime pm_is_small_prime an_is_small_prime cd_is_small_prime ct_is_small_prime), sl_is_small_prime⟩)
    (c_is_small_prime : PySem.W.codeIn K cd_is_small_prime "is_small_prime" = true) (k_is_small_prime : PySem.W.keepIn K (.ref f_is_small_prime) = true)
    {f__is_row : Addr} {od__is_row an__is_row : Option Addr} {sl__is_row : Array (Option Value)} {oc__is_row kV__is_row dc__is_row pm__is_row cd__is_row ct__is_row : Value}
    (a__is_row : PySem.W.nsIn K mainGlobals "_is_row" = some (some (.ref f__is_row))) (l__is_row : K.lookup f__is_row = some ⟨oc__is_row, od__is_row, .func (PySem.W.fnOf "_is_row" "_is_row" (defArgs s__is_row) (defBody s__is_row) (defScope s__is_row) .none kV__is_row dc__is_row pm__is_row an__is_row cd__is_row ct__is_row), sl__is_row⟩)
    (c__is_row : PySem.W.codeIn K cd__is_row "_is_row" = true) (k__is_row : PySem.W.keepIn K (.ref f__is_row) = true)
    {f__is_right_side : Addr} {od__is_right_side an__is_right_side : Option Addr} {sl__is_right_side : Array (Option Value)} {oc__is_right_side kV__is_right_side dc__is_right_side pm__is_right_side cd__is_right_side ct__is_right_side : Value}
    (a__is_right_side : PySem.W.nsIn K mainGlobals "_is_right_side" = some (some (.ref f__is_right_side))) (l__is_right_side : K.lookup f__is_right_side = some ⟨oc__is_right_side, od__is_right_side, .func (PySem.W.fnOf "_is_right_side" "_is_right_side" (defArgs s__is_right_side) (defBody s__is_right_side) (defScope s__is_right_side) .none kV__is_right_side dc__is_right_side pm__is_right_side an__is_right_side cd__is_right_side ct__is_right_side), sl__is_right_side⟩)
    (c__is_right_side : PySem.W.codeIn K cd__is_right_side "_is_right_side" = true) (k__is_right_side : PySem.W.keepIn K (.ref f__is_right_side) = true)
    {f__are_right_sides : Addr} {od__are_right_sides an__are_right_sides : Option Addr} {sl__are_right_sides : Array (Option Value)} {oc__are_right_sides kV__are_right_sides dc__are_right_sides pm__are_right_sides cd__are_right_sides ct__are_right_sides : Value}
    (a__are_right_sides : PySem.W.nsIn K mainGlobals "_are_right_sides" = some (some (.ref f__are_right_sides))) (l__are_right_sides : K.lookup f__are_right_sides = some ⟨oc__are_right_sides, od__are_right_sides, .func (PySem.W.fnOf "_are_right_sides" "_are_right_sides" (defArgs s__are_right_sides) (defBody s__are_right_sides) (defScope s__are_right_sides) .none kV__are_right_sides dc__are_right_sides pm__are_right_sides an__are_right_sides cd__are_right_sides ct__are_right_sides), sl__are_right_sides⟩)
    (c__are_right_sides : PySem.W.codeIn K cd__are_right_sides "_are_right_sides" = true) (k__are_right_sides : PySem.W.keepIn K (.ref f__are_right_sides) = true)
    {f__are_primes : Addr} {od__are_primes an__are_primes : Option Addr} {sl__are_primes : Array (Option Value)} {oc__are_primes kV__are_primes dc__are_primes pm__are_primes cd__are_primes ct__are_primes : Value}
    (a__are_primes : PySem.W.nsIn K mainGlobals "_are_primes" = some (some (.ref f__are_primes))) (l__are_primes : K.lookup f__are_primes = some ⟨oc__are_primes, od__are_primes, .func (PySem.W.fnOf "_are_primes" "_are_primes" (defArgs s__are_primes) (defBody s__are_primes) (defScope s__are_primes) .none kV__are_primes dc__are_primes pm__are_primes an__are_primes cd__are_primes ct__are_primes), sl__are_primes⟩)
    (c__are_primes : PySem.W.codeIn K cd__are_primes "_are_primes" = true) (k__are_primes : PySem.W.keepIn K (.ref f__are_primes) = true)
    {f__are_powers : Addr} {od__are_powers an__are_powers : Option Addr} {sl__are_powers : Array (Option Value)} {oc__are_powers kV__are_powers dc__are_powers pm__are_powers cd__are_powers ct__are_powers : Value}
    (a__are_powers : PySem.W.nsIn K mainGlobals "_are_powers" = some (some (.ref f__are_powers))) (l__are_powers : K.lookup f__are_powers = some ⟨oc__are_powers, od__are_powers, .func (PySem.W.fnOf "_are_powers" "_are_powers" (defArgs s__are_powers) (defBody s__are_powers) (defScope s__are_powers) .none kV__are_powers dc__are_powers pm__are_powers an__are_powers cd__are_powers ct__are_powers), sl__are_powers⟩)
    (c__are_powers : PySem.W.codeIn K cd__are_powers "_are_powers" = true) (k__are_powers : PySem.W.keepIn K (.ref f__are_powers) = true)
    {f__are_conjugates : Addr} {od__are_conjugates an__are_conjugates : Option Addr} {sl__are_conjugates : Array (Option Value)} {oc__are_conjugates kV__are_conjugates dc__are_conjugates pm__are_conjugates cd__are_conjugates ct__are_conjugates : Value}
    (a__are_conjugates : PySem.W.nsIn K mainGlobals "_are_conjugates" = some (some (.ref f__are_conjugates))) (l__are_conjugates : K.lookup f__are_conjugates = some ⟨oc__are_conjugates, od__are_conjugates, .func (PySem.W.fnOf "_are_conjugates" "_are_conjugates" (defArgs s__are_conjugates) (defBody s__are_conjugates) (defScope s__are_conjugates) .none kV__are_conjugates dc__are_conjugates pm__are_conjugates an__are_conjugates cd__are_conjugates ct__are_conjugates), sl__are_conjugates⟩)
    (c__are_conjugates : PySem.W.codeIn K cd__are_conjugates "_are_conjugates" = true) (k__are_conjugates : PySem.W.keepIn K (.ref f__are_conjugates) = true)
    {f__order_of : Addr} {od__order_of an__order_of : Option Addr} {sl__order_of : Array (Option Value)} {oc__order_of kV__order_of dc__order_of pm__order_of cd__order_of ct__order_of : Value}
    (a__order_of : PySem.W.nsIn K mainGlobals "_order_of" = some (some (.ref f__order_of))) (l__order_of : K.lookup f__order_of = some ⟨oc__order_of, od__order_of, .func (PySem.W.fnOf "_order_of" "_order_of" (defArgs s__order_of) (defBody s__order_of) (defScope s__order_of) .none kV__order_of dc__order_of pm__order_of an__order_of cd__order_of ct__order_of), sl__order_of⟩)
    (c__order_of : PySem.W.codeIn K cd__order_of "_order_of" = true) (k__order_of : PySem.W.keepIn K (.ref f__order_of) = true)
    {f__row_text : Addr} {od__row_text an__row_text : Option Addr} {sl__row_text : Array (Option Value)} {oc__row_text kV__row_text dc__row_text pm__row_text cd__row_text ct__row_text : Value}
    (a__row_text : PySem.W.nsIn K mainGlobals "_row_text" = some (some (.ref f__row_text))) (l__row_text : K.lookup f__row_text = some ⟨oc__row_text, od__row_text, .func (PySem.W.fnOf "_row_text" "_row_text" (defArgs s__row_text) (defBody s__row_text) (defScope s__row_text) .none kV__row_text dc__row_text pm__row_text an__row_text cd__row_text ct__row_text), sl__row_text⟩)
    (c__row_text : PySem.W.codeIn K cd__row_text "_row_text" = true) (k__row_text : PySem.W.keepIn K (.ref f__row_text) = true)
    {f__right_sides : Addr} {od__right_sides an__right_sides : Option Addr} {sl__right_sides : Array (Option Value)} {oc__right_sides kV__right_sides dc__right_sides pm__right_sides cd__right_sides ct__right_sides : Value}
    (a__right_sides : PySem.W.nsIn K mainGlobals "_right_sides" = some (some (.ref f__right_sides))) (l__right_sides : K.lookup f__right_sides = some ⟨oc__right_sides, od__right_sides, .func (PySem.W.fnOf "_right_sides" "_right_sides" (defArgs s__right_sides) (defBody s__right_sides) (defScope s__right_sides) .none kV__right_sides dc__right_sides pm__right_sides an__right_sides cd__right_sides ct__right_sides), sl__right_sides⟩)
    (c__right_sides : PySem.W.codeIn K cd__right_sides "_right_sides" = true) (k__right_sides : PySem.W.keepIn K (.ref f__right_sides) = true)
    {f__law_state : Addr} {od__law_state an__law_state : Option Addr} {sl__law_state : Array (Option Value)} {oc__law_state kV__law_state dc__law_state pm__law_state cd__law_state ct__law_state : Value}
    (a__law_state : PySem.W.nsIn K mainGlobals "_law_state" = some (some (.ref f__law_state))) (l__law_state : K.lookup f__law_state = some ⟨oc__law_state, od__law_state, .func (PySem.W.fnOf "_law_state" "_law_state" (defArgs s__law_state) (defBody s__law_state) (defScope s__law_state) .none kV__law_state dc__law_state pm__law_state an__law_state cd__law_state ct__law_state), sl__law_state⟩)
    (c__law_state : PySem.W.codeIn K cd__law_state "_law_state" = true) (k__law_state : PySem.W.keepIn K (.ref f__law_state) = true)
    {f__law_take : Addr} {od__law_take an__law_take : Option Addr} {sl__law_take : Array (Option Value)} {oc__law_take kV__law_take dc__law_take pm__law_take cd__law_take ct__law_take : Value}
    (a__law_take : PySem.W.nsIn K mainGlobals "_law_take" = some (some (.ref f__law_take))) (l__law_take : K.lookup f__law_take = some ⟨oc__law_take, od__law_take, .func (PySem.W.fnOf "_law_take" "_law_take" (defArgs s__law_take) (defBody s__law_take) (defScope s__law_take) .none kV__law_take dc__law_take pm__law_take an__law_take cd__law_take ct__law_take), sl__law_take⟩)
    (c__law_take : PySem.W.codeIn K cd__law_take "_law_take" = true) (k__law_take : PySem.W.keepIn K (.ref f__law_take) = true)
    {f__law_made : Addr} {od__law_made an__law_made : Option Addr} {sl__law_made : Array (Option Value)} {oc__law_made kV__law_made dc__law_made pm__law_made cd__law_made ct__law_made : Value}
    (a__law_made : PySem.W.nsIn K mainGlobals "_law_made" = some (some (.ref f__law_made))) (l__law_made : K.lookup f__law_made = some ⟨oc__law_made, od__law_made, .func (PySem.W.fnOf "_law_made" "_law_made" (defArgs s__law_made) (defBody s__law_made) (defScope s__law_made) .none kV__law_made dc__law_made pm__law_made an__law_made cd__law_made ct__law_made), sl__law_made⟩)
    (c__law_made : PySem.W.codeIn K cd__law_made "_law_made" = true) (k__law_made : PySem.W.keepIn K (.ref f__law_made) = true)
    {f__law_size : Addr} {od__law_size an__law_size : Option Addr} {sl__law_size : Array (Option Value)} {oc__law_size kV__law_size dc__law_size pm__law_size cd__law_size ct__law_size : Value}
    (a__law_size : PySem.W.nsIn K mainGlobals "_law_size" = some (some (.ref f__law_size))) (l__law_size : K.lookup f__law_size = some ⟨oc__law_size, od__law_size, .func (PySem.W.fnOf "_law_size" "_law_size" (defArgs s__law_size) (defBody s__law_size) (defScope s__law_size) .none kV__law_size dc__law_size pm__law_size an__law_size cd__law_size ct__law_size), sl__law_size⟩)
    (c__law_size : PySem.W.codeIn K cd__law_size "_law_size" = true) (k__law_size : PySem.W.keepIn K (.ref f__law_size) = true)
    {f__law_steep : Addr} {od__law_steep an__law_steep : Option Addr} {sl__law_steep : Array (Option Value)} {oc__law_steep kV__law_steep dc__law_steep pm__law_steep cd__law_steep ct__law_steep : Value}
    (a__law_steep : PySem.W.nsIn K mainGlobals "_law_steep" = some (some (.ref f__law_steep))) (l__law_steep : K.lookup f__law_steep = some ⟨oc__law_steep, od__law_steep, .func (PySem.W.fnOf "_law_steep" "_law_steep" (defArgs s__law_steep) (defBody s__law_steep) (defScope s__law_steep) .none kV__law_steep dc__law_steep pm__law_steep an__law_steep cd__law_steep ct__law_steep), sl__law_steep⟩)
    (c__law_steep : PySem.W.codeIn K cd__law_steep "_law_steep" = true) (k__law_steep : PySem.W.keepIn K (.ref f__law_steep) = true)
    {f__law_flat : Addr} {od__law_flat an__law_flat : Option Addr} {sl__law_flat : Array (Option Value)} {oc__law_flat kV__law_flat dc__law_flat pm__law_flat cd__law_flat ct__law_flat : Value}
    (a__law_flat : PySem.W.nsIn K mainGlobals "_law_flat" = some (some (.ref f__law_flat))) (l__law_flat : K.lookup f__law_flat = some ⟨oc__law_flat, od__law_flat, .func (PySem.W.fnOf "_law_flat" "_law_flat" (defArgs s__law_flat) (defBody s__law_flat) (defScope s__law_flat) .none kV__law_flat dc__law_flat pm__law_flat an__law_flat cd__law_flat ct__law_flat), sl__law_flat⟩)
    (c__law_flat : PySem.W.codeIn K cd__law_flat "_law_flat" = true) (k__law_flat : PySem.W.keepIn K (.ref f__law_flat) = true)
    {f__law_beside : Addr} {od__law_beside an__law_beside : Option Addr} {sl__law_beside : Array (Option Value)} {oc__law_beside kV__law_beside dc__law_beside pm__law_beside cd__law_beside ct__law_beside : Value}
    (a__law_beside : PySem.W.nsIn K mainGlobals "_law_beside" = some (some (.ref f__law_beside))) (l__law_beside : K.lookup f__law_beside = some ⟨oc__law_beside, od__law_beside, .func (PySem.W.fnOf "_law_beside" "_law_beside" (defArgs s__law_beside) (defBody s__law_beside) (defScope s__law_beside) .none kV__law_beside dc__law_beside pm__law_beside an__law_beside cd__law_beside ct__law_beside), sl__law_beside⟩)
    (c__law_beside : PySem.W.codeIn K cd__law_beside "_law_beside" = true) (k__law_beside : PySem.W.keepIn K (.ref f__law_beside) = true)
    {f__law_step : Addr} {od__law_step an__law_step : Option Addr} {sl__law_step : Array (Option Value)} {oc__law_step kV__law_step dc__law_step pm__law_step cd__law_step ct__law_step : Value}
    (a__law_step : PySem.W.nsIn K mainGlobals "_law_step" = some (some (.ref f__law_step))) (l__law_step : K.lookup f__law_step = some ⟨oc__law_step, od__law_step, .func (PySem.W.fnOf "_law_step" "_law_step" (defArgs s__law_step) (defBody s__law_step) (defScope s__law_step) .none kV__law_step dc__law_step pm__law_step an__law_step cd__law_step ct__law_step), sl__law_step⟩)
    (c__law_step : PySem.W.codeIn K cd__law_step "_law_step" = true) (k__law_step : PySem.W.keepIn K (.ref f__law_step) = true)
    {f__law_times : Addr} {od__law_times an__law_times : Option Addr} {sl__law_times : Array (Option Value)} {oc__law_times kV__law_times dc__law_times pm__law_times cd__law_times ct__law_times : Value}
    (a__law_times : PySem.W.nsIn K mainGlobals "_law_times" = some (some (.ref f__law_times))) (l__law_times : K.lookup f__law_times = some ⟨oc__law_times, od__law_times, .func (PySem.W.fnOf "_law_times" "_law_times" (defArgs s__law_times) (defBody s__law_times) (defScope s__law_times) .none kV__law_times dc__law_times pm__law_times an__law_times cd__law_times ct__law_times), sl__law_times⟩)
    (c__law_times : PySem.W.codeIn K cd__law_times "_law_times" = true) (k__law_times : PySem.W.keepIn K (.ref f__law_times) = true)
    {f__law_inverse : Addr} {od__law_inverse an__law_inverse : Option Addr} {sl__law_inverse : Array (Option Value)} {oc__law_inverse kV__law_inverse dc__law_inverse pm__law_inverse cd__law_inverse ct__law_inverse : Value}
    (a__law_inverse : PySem.W.nsIn K mainGlobals "_law_inverse" = some (some (.ref f__law_inverse))) (l__law_inverse : K.lookup f__law_inverse = some ⟨oc__law_inverse, od__law_inverse, .func (PySem.W.fnOf "_law_inverse" "_law_inverse" (defArgs s__law_inverse) (defBody s__law_inverse) (defScope s__law_inverse) .none kV__law_inverse dc__law_inverse pm__law_inverse an__law_inverse cd__law_inverse ct__law_inverse), sl__law_inverse⟩)
    (c__law_inverse : PySem.W.codeIn K cd__law_inverse "_law_inverse" = true) (k__law_inverse : PySem.W.keepIn K (.ref f__law_inverse) = true)
    {f__law_conjugated : Addr} {od__law_conjugated an__law_conjugated : Option Addr} {sl__law_conjugated : Array (Option Value)} {oc__law_conjugated kV__law_conjugated dc__law_conjugated pm__law_conjugated cd__law_conjugated ct__law_conjugated : Value}
    (a__law_conjugated : PySem.W.nsIn K mainGlobals "_law_conjugated" = some (some (.ref f__law_conjugated))) (l__law_conjugated : K.lookup f__law_conjugated = some ⟨oc__law_conjugated, od__law_conjugated, .func (PySem.W.fnOf "_law_conjugated" "_law_conjugated" (defArgs s__law_conjugated) (defBody s__law_conjugated) (defScope s__law_conjugated) .none kV__law_conjugated dc__law_conjugated pm__law_conjugated an__law_conjugated cd__law_conjugated ct__law_conjugated), sl__law_conjugated⟩)
    (c__law_conjugated : PySem.W.codeIn K cd__law_conjugated "_law_conjugated" = true) (k__law_conjugated : PySem.W.keepIn K (.ref f__law_conjugated) = true)
    {f__law_generator : Addr} {od__law_generator an__law_generator : Option Addr} {sl__law_generator : Array (Option Value)} {oc__law_generator kV__law_generator dc__law_generator pm__law_generator cd__law_generator ct__law_generator : Value}
    (a__law_generator : PySem.W.nsIn K mainGlobals "_law_generator" = some (some (.ref f__law_generator))) (l__law_generator : K.lookup f__law_generator = some ⟨oc__law_generator, od__law_generator, .func (PySem.W.fnOf "_law_generator" "_law_generator" (defArgs s__law_generator) (defBody s__law_generator) (defScope s__law_generator) .none kV__law_generator dc__law_generator pm__law_generator an__law_generator cd__law_generator ct__law_generator), sl__law_generator⟩)
    (c__law_generator : PySem.W.codeIn K cd__law_generator "_law_generator" = true) (k__law_generator : PySem.W.keepIn K (.ref f__law_generator) = true)
    {f__law_new_row : Addr} {od__law_new_row an__law_new_row : Option Addr} {sl__law_new_row : Array (Option Value)} {oc__law_new_row kV__law_new_row dc__law_new_row pm__law_new_row cd__law_new_row ct__law_new_row : Value}
    (a__law_new_row : PySem.W.nsIn K mainGlobals "_law_new_row" = some (some (.ref f__law_new_row))) (l__law_new_row : K.lookup f__law_new_row = some ⟨oc__law_new_row, od__law_new_row, .func (PySem.W.fnOf "_law_new_row" "_law_new_row" (defArgs s__law_new_row) (defBody s__law_new_row) (defScope s__law_new_row) .none kV__law_new_row dc__law_new_row pm__law_new_row an__law_new_row cd__law_new_row ct__law_new_row), sl__law_new_row⟩)
    (c__law_new_row : PySem.W.codeIn K cd__law_new_row "_law_new_row" = true) (k__law_new_row : PySem.W.keepIn K (.ref f__law_new_row) = true)
    {f__law_twisted : Addr} {od__law_twisted an__law_twisted : Option Addr} {sl__law_twisted : Array (Option Value)} {oc__law_twisted kV__law_twisted dc__law_twisted pm__law_twisted cd__law_twisted ct__law_twisted : Value}
    (a__law_twisted : PySem.W.nsIn K mainGlobals "_law_twisted" = some (some (.ref f__law_twisted))) (l__law_twisted : K.lookup f__law_twisted = some ⟨oc__law_twisted, od__law_twisted, .func (PySem.W.fnOf "_law_twisted" "_law_twisted" (defArgs s__law_twisted) (defBody s__law_twisted) (defScope s__law_twisted) .none kV__law_twisted dc__law_twisted pm__law_twisted an__law_twisted cd__law_twisted ct__law_twisted), sl__law_twisted⟩)
    (c__law_twisted : PySem.W.codeIn K cd__law_twisted "_law_twisted" = true) (k__law_twisted : PySem.W.keepIn K (.ref f__law_twisted) = true)
    {f__law_group : Addr} {od__law_group an__law_group : Option Addr} {sl__law_group : Array (Option Value)} {oc__law_group kV__law_group dc__law_group pm__law_group cd__law_group ct__law_group : Value}
    (a__law_group : PySem.W.nsIn K mainGlobals "_law_group" = some (some (.ref f__law_group))) (l__law_group : K.lookup f__law_group = some ⟨oc__law_group, od__law_group, .func (PySem.W.fnOf "_law_group" "_law_group" (defArgs s__law_group) (defBody s__law_group) (defScope s__law_group) .none kV__law_group dc__law_group pm__law_group an__law_group cd__law_group ct__law_group), sl__law_group⟩)
    (c__law_group : PySem.W.codeIn K cd__law_group "_law_group" = true) (k__law_group : PySem.W.keepIn K (.ref f__law_group) = true)
    {f__law_bent : Addr} {od__law_bent an__law_bent : Option Addr} {sl__law_bent : Array (Option Value)} {oc__law_bent kV__law_bent dc__law_bent pm__law_bent cd__law_bent ct__law_bent : Value}
    (a__law_bent : PySem.W.nsIn K mainGlobals "_law_bent" = some (some (.ref f__law_bent))) (l__law_bent : K.lookup f__law_bent = some ⟨oc__law_bent, od__law_bent, .func (PySem.W.fnOf "_law_bent" "_law_bent" (defArgs s__law_bent) (defBody s__law_bent) (defScope s__law_bent) .none kV__law_bent dc__law_bent pm__law_bent an__law_bent cd__law_bent ct__law_bent), sl__law_bent⟩)
    (c__law_bent : PySem.W.codeIn K cd__law_bent "_law_bent" = true) (k__law_bent : PySem.W.keepIn K (.ref f__law_bent) = true)
    {f__law_letters : Addr} {od__law_letters an__law_letters : Option Addr} {sl__law_letters : Array (Option Value)} {oc__law_letters kV__law_letters dc__law_letters pm__law_letters cd__law_letters ct__law_letters : Value}
    (a__law_letters : PySem.W.nsIn K mainGlobals "_law_letters" = some (some (.ref f__law_letters))) (l__law_letters : K.lookup f__law_letters = some ⟨oc__law_letters, od__law_letters, .func (PySem.W.fnOf "_law_letters" "_law_letters" (defArgs s__law_letters) (defBody s__law_letters) (defScope s__law_letters) .none kV__law_letters dc__law_letters pm__law_letters an__law_letters cd__law_letters ct__law_letters), sl__law_letters⟩)
    (c__law_letters : PySem.W.codeIn K cd__law_letters "_law_letters" = true) (k__law_letters : PySem.W.keepIn K (.ref f__law_letters) = true)
    {f__law_reason : Addr} {od__law_reason an__law_reason : Option Addr} {sl__law_reason : Array (Option Value)} {oc__law_reason kV__law_reason dc__law_reason pm__law_reason cd__law_reason ct__law_reason : Value}
    (a__law_reason : PySem.W.nsIn K mainGlobals "_law_reason" = some (some (.ref f__law_reason))) (l__law_reason : K.lookup f__law_reason = some ⟨oc__law_reason, od__law_reason, .func (PySem.W.fnOf "_law_reason" "_law_reason" (defArgs s__law_reason) (defBody s__law_reason) (defScope s__law_reason) .none kV__law_reason dc__law_reason pm__law_reason an__law_reason cd__law_reason ct__law_reason), sl__law_reason⟩)
    (c__law_reason : PySem.W.codeIn K cd__law_reason "_law_reason" = true) (k__law_reason : PySem.W.keepIn K (.ref f__law_reason) = true)
    {f__law_forms : Addr} {od__law_forms an__law_forms : Option Addr} {sl__law_forms : Array (Option Value)} {oc__law_forms kV__law_forms dc__law_forms pm__law_forms cd__law_forms ct__law_forms : Value}
    (a__law_forms : PySem.W.nsIn K mainGlobals "_law_forms" = some (some (.ref f__law_forms))) (l__law_forms : K.lookup f__law_forms = some ⟨oc__law_forms, od__law_forms, .func (PySem.W.fnOf "_law_forms" "_law_forms" (defArgs s__law_forms) (defBody s__law_forms) (defScope s__law_forms) .none kV__law_forms dc__law_forms pm__law_forms an__law_forms cd__law_forms ct__law_forms), sl__law_forms⟩)
    (c__law_forms : PySem.W.codeIn K cd__law_forms "_law_forms" = true) (k__law_forms : PySem.W.keepIn K (.ref f__law_forms) = true)
    {f_law : Addr} {od_law an_law : Option Addr} {sl_law : Array (Option Value)} {oc_law kV_law dc_law pm_law cd_law ct_law : Value}
    (a_law : PySem.W.nsIn K mainGlobals "law" = some (some (.ref f_law))) (l_law : K.lookup f_law = some ⟨oc_law, od_law, .func (PySem.W.fnOf "law" "law" (defArgs s_law) (defBody s_law) (defScope s_law) .none kV_law dc_law pm_law an_law cd_law ct_law), sl_law⟩)
    (c_law : PySem.W.codeIn K cd_law "law" = true) (k_law : PySem.W.keepIn K (.ref f_law) = true)
    (z_isinstance : PySem.W.nsIn K mainGlobals "isinstance" = some none)
    (z_int : PySem.W.nsIn K mainGlobals "int" = some none)
    (z_bool : PySem.W.nsIn K mainGlobals "bool" = some none)
    (z_all : PySem.W.nsIn K mainGlobals "all" = some none)
    (z_tuple : PySem.W.nsIn K mainGlobals "tuple" = some none)
    (z_len : PySem.W.nsIn K mainGlobals "len" = some none)
    (z_zip : PySem.W.nsIn K mainGlobals "zip" = some none)
    (z_any : PySem.W.nsIn K mainGlobals "any" = some none)
    (z_enumerate : PySem.W.nsIn K mainGlobals "enumerate" = some none)
    (z_str : PySem.W.nsIn K mainGlobals "str" = some none)
    (z_abs : PySem.W.nsIn K mainGlobals "abs" = some none)
    (z_range : PySem.W.nsIn K mainGlobals "range" = some none)
    (z_list : PySem.W.nsIn K mainGlobals "list" = some none)
    {q_S : Addr} {dd_S : Option Addr} {its_S : Array Value} {n_S : Nat} {sl_S : Array (Option Value)}
    (a_S : PySem.W.nsIn K mainGlobals "SMALL_PRIMES" = some (some (.ref q_S))) (l_S : K.lookup q_S = some ⟨.type "tuple", dd_S, .seq its_S n_S, sl_S⟩) (v_S : Vals ([2, 3, 5, 7, 11, 13, 17, 19, 23, 29, 31].map V.int) its_S.toList)
    {tk_MOST_GENERATORS : Tok} (a_MOST_GENERATORS : PySem.W.nsIn K mainGlobals "MOST_GENERATORS" = some (some (.int 10 tk_MOST_GENERATORS)))
    {tk_MOST_ORDER : Tok} (a_MOST_ORDER : PySem.W.nsIn K mainGlobals "MOST_ORDER" = some (some (.int 1024 tk_MOST_ORDER)))
    {C CF fI : Addr} {nmR qnR : Str} {NR : Addr} {bsR bmR : List Value} {snR : List Str} {subR : List Value} {abR : Bool} {colR : Option Bool} {ddR : Option Addr} {m0R m1R m2R m3R m5R : Option Value}
    {odI anI : Option Addr} {slI : Array (Option Value)} {ocI kVI dcI pmI cdI ctI : Value}
    (aC : PySem.W.nsIn K mainGlobals "Refused" = some (some (.ref C))) (aF : PySem.W.nsIn K mainGlobals "Fault" = some (some (.ref CF)))
    (xC : K.lookup C = some (excClassObj nmR qnR C NR bsR bmR true snR subR abR colR ddR m0R m1R m2R m3R m5R "ValueError.__new__")) (rb : PySem.HandSPX.refsVE bmR = true)
    (sa : PySem.W.findIn K (.ref C) "__setattr__" = some (some (.builtin "object.__setattr__"))) (eC : PySem.W.subIn K (.ref C) (.type "BaseException") = some true) (yC : PySem.W.typeIn K (.ref C) = some (.type "type")) (kC : PySem.W.keepIn K (.ref C) = true)
    (iC : PySem.W.findIn K (.ref C) "__init__" = some (some (.ref fI))) (tI : PySem.W.typeIn K (.ref fI) = some (.type "function"))
    (lI : K.lookup fI = some ⟨ocI, odI, .func (PySem.W.fnOf "__init__" "Refused.__init__" (defArgs s_RI) (defBody s_RI) (defScope s_RI) .none kVI dcI pmI anI cdI ctI), slI⟩) (cI : PySem.W.codeIn K cdI "Refused.__init__" = true) (kI : PySem.W.keepIn K (.ref fI) = true)
    (rF : PySem.W.readsIn K CF (.type "type") = true) (gF : PySem.W.specialIn K (.ref CF) "__getattribute__" = some (some (.builtin "type.__getattribute__")))
    (vF : PySem.W.findCls K (.ref CF) (.type "type") "__init__" = some (.val (.builtin "ValueError.__init__"))) (nf : PySem.W.findIn K (.ref C) "reason" = some none)
    (ga : PySem.W.findIn K (.ref C) "__getattribute__" = some (some (.builtin "BaseException.__getattribute__"))) (gg : PySem.W.findIn K (.ref C) "__getattr__" = some none) (hdC : PySem.W.hasDictIn K C = true) (icC : PySem.W.isClsIn K C = true)
    (haC : PySem.W.findIn K (.ref C) "__class__" = some (some (.builtin "object.__class__"))) (hnC : PySem.W.specialIn K (.builtin "object.__class__") "__get__" = some (some (.builtin "getset_descriptor.__get__"))) (htC : PySem.W.takesIn K (.builtin "object.__class__") = some true)
    (hmC : PySem.W.mroIn K C (.type "object") = some true) (eF : PySem.W.subIn K (.ref CF) (.type "BaseException") = some true) (hF : PySem.W.hasDictIn K CF = true) (yF : PySem.W.typeIn K (.ref CF) = some (.type "type")) (sF : PySem.W.subIn K (.ref C) (.ref CF) = some true) (cF : PySem.W.isClsIn K CF = true)
    {C_M : Addr} (aC_M : PySem.W.nsIn K mainGlobals "Malformed" = some (some (.ref C_M))) (q_M : PySem.W.excIn K C_M [.type "ValueError", .type "Exception", .type "BaseException", .type "object"] "ValueError.__new__" = true) (kC_M : PySem.W.keepIn K (.ref C_M) = true) (eC_M : PySem.W.subIn K (.ref C_M) (.type "BaseException") = some true) (yC_M : PySem.W.typeIn K (.ref C_M) = some (.type "type"))
    {K_Presentation : Addr} (aC_Presentation : PySem.W.nsIn K mainGlobals "Presentation" = some (some (.ref K_Presentation))) (pg_Presentation : PySem.W.plainGet K K_Presentation Str.empty = true) (hd_Presentation : PySem.W.hasDictIn K K_Presentation = true) (po_Presentation : PySem.W.plainOver K K_Presentation = true) (sa_Presentation : PySem.W.findIn K (.ref K_Presentation) "__setattr__" = some (some (.builtin "object.__setattr__"))) (mk_Presentation : PySem.W.makesIn K K_Presentation = true) (kc_Presentation : PySem.W.keepIn K (.ref K_Presentation) = true)
    {f_Presentation___init__ : Addr} {od_Presentation___init__ an_Presentation___init__ : Option Addr} {sl_Presentation___init__ : Array (Option Value)} {oc_Presentation___init__ kV_Presentation___init__ dc_Presentation___init__ pm_Presentation___init__ cd_Presentation___init__ ct_Presentation___init__ : Value}
    (a_Presentation___init__ : PySem.W.findIn K (.ref K_Presentation) "__init__" = some (some (.ref f_Presentation___init__))) (i_Presentation___init__ : PySem.W.isFn K (.ref f_Presentation___init__) = true) (l_Presentation___init__ : K.lookup f_Presentation___init__ = some ⟨oc_Presentation___init__, od_Presentation___init__, .func (PySem.W.fnOf "__init__" "Presentation.__init__" (defArgs s_Presentation___init__) (defBody s_Presentation___init__) (defScope s_Presentation___init__) .none kV_Presentation___init__ dc_Presentation___init__ pm_Presentation___init__ an_Presentation___init__ cd_Presentation___init__ ct_Presentation___init__), sl_Presentation___init__⟩)
    (c_Presentation___init__ : PySem.W.codeIn K cd_Presentation___init__ "Presentation.__init__" = true) (k_Presentation___init__ : PySem.W.keepIn K (.ref f_Presentation___init__) = true)
    {f_Presentation___eq__ : Addr} {od_Presentation___eq__ an_Presentation___eq__ : Option Addr} {sl_Presentation___eq__ : Array (Option Value)} {oc_Presentation___eq__ kV_Presentation___eq__ dc_Presentation___eq__ pm_Presentation___eq__ cd_Presentation___eq__ ct_Presentation___eq__ : Value}
    (a_Presentation___eq__ : PySem.W.findIn K (.ref K_Presentation) "__eq__" = some (some (.ref f_Presentation___eq__))) (i_Presentation___eq__ : PySem.W.isFn K (.ref f_Presentation___eq__) = true) (l_Presentation___eq__ : K.lookup f_Presentation___eq__ = some ⟨oc_Presentation___eq__, od_Presentation___eq__, .func (PySem.W.fnOf "__eq__" "Presentation.__eq__" (defArgs s_Presentation___eq__) (defBody s_Presentation___eq__) (defScope s_Presentation___eq__) .none kV_Presentation___eq__ dc_Presentation___eq__ pm_Presentation___eq__ an_Presentation___eq__ cd_Presentation___eq__ ct_Presentation___eq__), sl_Presentation___eq__⟩)
    (c_Presentation___eq__ : PySem.W.codeIn K cd_Presentation___eq__ "Presentation.__eq__" = true) (k_Presentation___eq__ : PySem.W.keepIn K (.ref f_Presentation___eq__) = true)
    {f_Presentation___str__ : Addr} {od_Presentation___str__ an_Presentation___str__ : Option Addr} {sl_Presentation___str__ : Array (Option Value)} {oc_Presentation___str__ kV_Presentation___str__ dc_Presentation___str__ pm_Presentation___str__ cd_Presentation___str__ ct_Presentation___str__ : Value}
    (a_Presentation___str__ : PySem.W.findIn K (.ref K_Presentation) "__str__" = some (some (.ref f_Presentation___str__))) (i_Presentation___str__ : PySem.W.isFn K (.ref f_Presentation___str__) = true) (l_Presentation___str__ : K.lookup f_Presentation___str__ = some ⟨oc_Presentation___str__, od_Presentation___str__, .func (PySem.W.fnOf "__str__" "Presentation.__str__" (defArgs s_Presentation___str__) (defBody s_Presentation___str__) (defScope s_Presentation___str__) .none kV_Presentation___str__ dc_Presentation___str__ pm_Presentation___str__ an_Presentation___str__ cd_Presentation___str__ ct_Presentation___str__), sl_Presentation___str__⟩)
    (c_Presentation___str__ : PySem.W.codeIn K cd_Presentation___str__ "Presentation.__str__" = true) (k_Presentation___str__ : PySem.W.keepIn K (.ref f_Presentation___str__) = true)
    {f_Presentation_is_row : Addr} {od_Presentation_is_row an_Presentation_is_row : Option Addr} {sl_Presentation_is_row : Array (Option Value)} {oc_Presentation_is_row kV_Presentation_is_row dc_Presentation_is_row pm_Presentation_is_row cd_Presentation_is_row ct_Presentation_is_row : Value}
    (a_Presentation_is_row : PySem.W.findIn K (.ref K_Presentation) "is_row" = some (some (.ref f_Presentation_is_row))) (i_Presentation_is_row : PySem.W.isFn K (.ref f_Presentation_is_row) = true) (l_Presentation_is_row : K.lookup f_Presentation_is_row = some ⟨oc_Presentation_is_row, od_Presentation_is_row, .func (PySem.W.fnOf "is_row" "Presentation.is_row" (defArgs s_Presentation_is_row) (defBody s_Presentation_is_row) (defScope s_Presentation_is_row) .none kV_Presentation_is_row dc_Presentation_is_row pm_Presentation_is_row an_Presentation_is_row cd_Presentation_is_row ct_Presentation_is_row), sl_Presentation_is_row⟩)
    (c_Presentation_is_row : PySem.W.codeIn K cd_Presentation_is_row "Presentation.is_row" = true) (k_Presentation_is_row : PySem.W.keepIn K (.ref f_Presentation_is_row) = true)
    {f_Presentation_conjugate_row : Addr} {od_Presentation_conjugate_row an_Presentation_conjugate_row : Option Addr} {sl_Presentation_conjugate_row : Array (Option Value)} {oc_Presentation_conjugate_row kV_Presentation_conjugate_row dc_Presentation_conjugate_row pm_Presentation_conjugate_row cd_Presentation_conjugate_row ct_Presentation_conjugate_row : Value}
    (a_Presentation_conjugate_row : PySem.W.findIn K (.ref K_Presentation) "conjugate_row" = some (some (.ref f_Presentation_conjugate_row))) (i_Presentation_conjugate_row : PySem.W.isFn K (.ref f_Presentation_conjugate_row) = true) (l_Presentation_conjugate_row : K.lookup f_Presentation_conjugate_row = some ⟨oc_Presentation_conjugate_row, od_Presentation_conjugate_row, .func (PySem.W.fnOf "conjugate_row" "Presentation.conjugate_row" (defArgs s_Presentation_conjugate_row) (defBody s_Presentation_conjugate_row) (defScope s_Presentation_conjugate_row) .none kV_Presentation_conjugate_row dc_Presentation_conjugate_row pm_Presentation_conjugate_row an_Presentation_conjugate_row cd_Presentation_conjugate_row ct_Presentation_conjugate_row), sl_Presentation_conjugate_row⟩)
    (c_Presentation_conjugate_row : PySem.W.codeIn K cd_Presentation_conjugate_row "Presentation.conjugate_row" = true) (k_Presentation_conjugate_row : PySem.W.keepIn K (.ref f_Presentation_conjugate_row) = true)
    {f_Presentation_letters : Addr} {od_Presentation_letters an_Presentation_letters : Option Addr} {sl_Presentation_letters : Array (Option Value)} {oc_Presentation_letters kV_Presentation_letters dc_Presentation_letters pm_Presentation_letters cd_Presentation_letters ct_Presentation_letters : Value}
    (a_Presentation_letters : PySem.W.findIn K (.ref K_Presentation) "letters" = some (some (.ref f_Presentation_letters))) (i_Presentation_letters : PySem.W.isFn K (.ref f_Presentation_letters) = true) (l_Presentation_letters : K.lookup f_Presentation_letters = some ⟨oc_Presentation_letters, od_Presentation_letters, .func (PySem.W.fnOf "letters" "Presentation.letters" (defArgs s_Presentation_letters) (defBody s_Presentation_letters) (defScope s_Presentation_letters) .none kV_Presentation_letters dc_Presentation_letters pm_Presentation_letters an_Presentation_letters cd_Presentation_letters ct_Presentation_letters), sl_Presentation_letters⟩)
    (c_Presentation_letters : PySem.W.codeIn K cd_Presentation_letters "Presentation.letters" = true) (k_Presentation_letters : PySem.W.keepIn K (.ref f_Presentation_letters) = true)
    (n_Presentation_n : PySem.W.findIn K (.ref K_Presentation) "n" = some none)
    (n_Presentation_primes : PySem.W.findIn K (.ref K_Presentation) "primes" = some none)
    (n_Presentation_powers : PySem.W.findIn K (.ref K_Presentation) "powers" = some none)
    (n_Presentation_conjugates : PySem.W.findIn K (.ref K_Presentation) "conjugates" = some none)
    (n_Presentation_order : PySem.W.findIn K (.ref K_Presentation) "order" = some none)
    (ha_Presentation : PySem.W.findIn K (.ref K_Presentation) "__class__" = some (some (.builtin "object.__class__")))
    (hn_Presentation : PySem.W.specialIn K (.builtin "object.__class__") "__get__" = some (some (.builtin "getset_descriptor.__get__")))
    (ht_Presentation : PySem.W.takesIn K (.builtin "object.__class__") = some true)
    (hm_Presentation : PySem.W.mroIn K K_Presentation (.type "object") = some true)
    (ci_Presentation : PySem.W.isClsIn K K_Presentation = true)
    (ty_Presentation : PySem.W.typeIn K (.ref K_Presentation) = some (.type "type"))
    (hd_M : PySem.W.hasDictIn K C_M = true) (s_MM : PySem.W.subIn K (.ref C_M) (.ref C_M) = some true) (s_RM : PySem.W.subIn K (.ref C) (.ref C_M) = some false) (s_RR : PySem.W.subIn K (.ref C) (.ref C) = some true) :
    ∃ fd : FuncData, (∀ (s : Shared) (v : Value), BindsTo s fd ⟨[v], []⟩ [("script", v)]) ∧ ∀ base : Heap, K.In base → base.Ns mainGlobals mg → FnOk l.prog w K mg base CX0 26 fa fd ["script"] (sp_law K) := by
  have e := hfa.symm.trans (PySem.W.mg_of X G a_law)
  cases e
  let T : Txt K mg := txt_mk X G a_is_integer l_is_integer c_is_integer k_is_integer a_is_small_prime l_is_small_prime c_is_small_prime k_is_small_prime a__is_row l__is_row c__is_row k__is_row a__is_right_side l__is_right_side c__is_right_side k__is_right_side a__are_right_sides l__are_right_sides c__are_right_sides k__are_right_sides a__are_primes l__are_primes c__are_primes k__are_primes a__are_powers l__are_powers c__are_powers k__are_powers a__are_conjugates l__are_conjugates c__are_conjugates k__are_conjugates a__order_of l__order_of c__order_of k__order_of a__row_text l__row_text c__row_text k__row_text a__right_sides l__right_sides c__right_sides k__right_sides a__law_state l__law_state c__law_state k__law_state a__law_take l__law_take c__law_take k__law_take a__law_made l__law_made c__law_made k__law_made a__law_size l__law_size c__law_size k__law_size a__law_steep l__law_steep c__law_steep k__law_steep a__law_flat l__law_flat c__law_flat k__law_flat a__law_beside l__law_beside c__law_beside k__law_beside a__law_step l__law_step c__law_step k__law_step a__law_times l__law_times c__law_times k__law_times a__law_inverse l__law_inverse c__law_inverse k__law_inverse a__law_conjugated l__law_conjugated c__law_conjugated k__law_conjugated a__law_generator l__law_generator c__law_generator k__law_generator a__law_new_row l__law_new_row c__law_new_row k__law_new_row a__law_twisted l__law_twisted c__law_twisted k__law_twisted a__law_group l__law_group c__law_group k__law_group a__law_bent l__law_bent c__law_bent k__law_bent a__law_letters l__law_letters c__law_letters k__law_letters a__law_reason l__law_reason c__law_reason k__law_reason a__law_forms l__law_forms c__law_forms k__law_forms a_law l_law c_law k_law z_isinstance z_int z_bool z_all z_tuple z_len z_zip z_any z_enumerate z_str z_abs z_range z_list a_S l_S v_S a_MOST_GENERATORS a_MOST_ORDER
  let FI := fun_mk (st := s_RI) lI cI kI
  let R : RefC K mg s_RI := { C := C, CF := CF, fI := fI, dI := _, gC := PySem.W.mg_of X G aC, gF := PySem.W.mg_of X G aF, rF := ⟨rF, gF⟩, vF := vF, ox := { cls := ⟨_, _, _, _, _, _, _, _, _, _, _, _, _, _, _, xC, rb⟩, sa := sa, exC := eC, tyC := yC, kC := kC }, iC := iC, tI := tI, FI := FI, bI := FI.binds (ps := ["self", "reason"]) fun _ _ _ _ _ _ us hl => match us, hl with | [_, _], _ => rfl, nf := nf, ed := ⟨ga, gg, eC, icC, haC, hnC, htC, hmC⟩, xf := ⟨ga, gg, eC, hdC⟩, ex := PySem.W.exm_ref eF hF yF sF, cF := cF }
  let C_Malformed : ClMalformed K mg := { C := C_M, gC := PySem.W.mg_of X G aC_M, q := q_M, kC := kC_M, eC := eC_M, yC := yC_M }
  have F_Presentation___init__ := fun_mk (st := s_Presentation___init__) l_Presentation___init__ c_Presentation___init__ k_Presentation___init__
  have b_Presentation___init__ := F_Presentation___init__.binds (ps := ["self", "primes", "powers", "conjugates"]) fun _ _ _ _ _ _ us hl => match us, hl with | [_, _, _, _], _ => rfl
  have F_Presentation___eq__ := fun_mk (st := s_Presentation___eq__) l_Presentation___eq__ c_Presentation___eq__ k_Presentation___eq__
  have b_Presentation___eq__ := F_Presentation___eq__.binds (ps := ["self", "other"]) fun _ _ _ _ _ _ us hl => match us, hl with | [_, _], _ => rfl
  have F_Presentation___str__ := fun_mk (st := s_Presentation___str__) l_Presentation___str__ c_Presentation___str__ k_Presentation___str__
  have b_Presentation___str__ := F_Presentation___str__.binds (ps := ["self"]) fun _ _ _ _ _ _ us hl => match us, hl with | [_], _ => rfl
  have F_Presentation_is_row := fun_mk (st := s_Presentation_is_row) l_Presentation_is_row c_Presentation_is_row k_Presentation_is_row
  have b_Presentation_is_row := F_Presentation_is_row.binds (ps := ["self", "value"]) fun _ _ _ _ _ _ us hl => match us, hl with | [_, _], _ => rfl
  have F_Presentation_conjugate_row := fun_mk (st := s_Presentation_conjugate_row) l_Presentation_conjugate_row c_Presentation_conjugate_row k_Presentation_conjugate_row
  have b_Presentation_conjugate_row := F_Presentation_conjugate_row.binds (ps := ["self", "i", "j"]) fun _ _ _ _ _ _ us hl => match us, hl with | [_, _, _], _ => rfl
  have F_Presentation_letters := fun_mk (st := s_Presentation_letters) l_Presentation_letters c_Presentation_letters k_Presentation_letters
  have b_Presentation_letters := F_Presentation_letters.binds (ps := ["self", "row"]) fun _ _ _ _ _ _ us hl => match us, hl with | [_, _], _ => rfl
  let C_Presentation : ClPresentation K mg := { C := K_Presentation, gC := PySem.W.mg_of X G aC_Presentation, cl := ⟨pg_Presentation, hd_Presentation, po_Presentation, sa_Presentation⟩, a___init__ := f_Presentation___init__, d___init__ := _, F___init__ := F_Presentation___init__, m___init__ := ⟨a_Presentation___init__, i_Presentation___init__, k_Presentation___init__⟩, b___init__ := b_Presentation___init__, a___eq__ := f_Presentation___eq__, d___eq__ := _, F___eq__ := F_Presentation___eq__, m___eq__ := ⟨a_Presentation___eq__, i_Presentation___eq__, k_Presentation___eq__⟩, b___eq__ := b_Presentation___eq__, a___str__ := f_Presentation___str__, d___str__ := _, F___str__ := F_Presentation___str__, m___str__ := ⟨a_Presentation___str__, i_Presentation___str__, k_Presentation___str__⟩, b___str__ := b_Presentation___str__, a_is_row := f_Presentation_is_row, d_is_row := _, F_is_row := F_Presentation_is_row, m_is_row := ⟨a_Presentation_is_row, i_Presentation_is_row, k_Presentation_is_row⟩, b_is_row := b_Presentation_is_row, a_conjugate_row := f_Presentation_conjugate_row, d_conjugate_row := _, F_conjugate_row := F_Presentation_conjugate_row, m_conjugate_row := ⟨a_Presentation_conjugate_row, i_Presentation_conjugate_row, k_Presentation_conjugate_row⟩, b_conjugate_row := b_Presentation_conjugate_row, a_letters := f_Presentation_letters, d_letters := _, F_letters := F_Presentation_letters, m_letters := ⟨a_Presentation_letters, i_Presentation_letters, k_Presentation_letters⟩, b_letters := b_Presentation_letters, mkr := ⟨mk_Presentation, a_Presentation___init__, i_Presentation___init__, kc_Presentation⟩, n_n := n_Presentation_n, n_primes := n_Presentation_primes, n_powers := n_Presentation_powers, n_conjugates := n_Presentation_conjugates, n_order := n_Presentation_order, ha := ha_Presentation, hn := hn_Presentation, ht := ht_Presentation, hm := hm_Presentation, ci := ci_Presentation, ty := ty_Presentation }
  let M : ReasonC K C_Malformed.C R.C := { e1 := PySem.W.exm_ref eC_M hd_M yC_M s_MM, e2 := PySem.W.exm_ref eC_M hd_M yC_M s_RM, e3 := PySem.W.exm_ref eC hdC yC s_RR }
  exact ⟨PySem.W.fnOf "law" "law" (defArgs s_law) (defBody s_law) (defScope s_law) .none kV_law dc_law pm_law an_law cd_law ct_law, fun s v => .of_eq rfl, fun base _ _ => ok_law R C_Malformed C_Presentation M T⟩
end K06
open PySem PySem.W PyProof.Rows
set_option maxRecDepth 100000 in
set_option maxHeartbeats 0 in
theorem PySem.Challenge.cw_polychains_k06_presentations_holds : PySem.Challenge.rw_polychains_k06_presentations.Holds := by
  w_on; o_law; k_head; (case hw => w_witness2)
  k_fill
  refine L2.walk_of (l := PySem.Challenge.rw_polychains_k06_presentations) (n := 63) (k := 26) (x := "script") (CX := fun _ => L2.CX0) (sp := fun w => K06.sp_law _) rfl (by decide) rfl ⟨rfl, by decide, by decide⟩ (fun w h Y => PySem.W.kIn_of Y) ?F (fun _ _ a ns hl _ hS => ⟨a, ns, rfl, hS, hl, fun _ => rfl⟩) (fun _ _ _ _ _ h => h)
  case F =>
    intro w mg fa h KX G hmg
    refine' K06.all_mk KX G hmg ?a_is_integer ?l_is_integer ?c_is_integer ?k_is_integer ?a_is_small_prime ?l_is_small_prime ?c_is_small_prime ?k_is_small_prime ?a__is_row ?l__is_row ?c__is_row ?k__is_row ?a__is_right_side ?l__is_right_side ?c__is_right_side ?k__is_right_side ?a__are_right_sides ?l__are_right_sides ?c__are_right_sides ?k__are_right_sides ?a__are_primes ?l__are_primes ?c__are_primes ?k__are_primes ?a__are_powers ?l__are_powers ?c__are_powers ?k__are_powers ?a__are_conjugates ?l__are_conjugates ?c__are_conjugates ?k__are_conjugates ?a__order_of ?l__order_of ?c__order_of ?k__order_of ?a__row_text ?l__row_text ?c__row_text ?k__row_text ?a__right_sides ?l__right_sides ?c__right_sides ?k__right_sides ?a__law_state ?l__law_state ?c__law_state ?k__law_state ?a__law_take ?l__law_take ?c__law_take ?k__law_take ?a__law_made ?l__law_made ?c__law_made ?k__law_made ?a__law_size ?l__law_size ?c__law_size ?k__law_size ?a__law_steep ?l__law_steep ?c__law_steep ?k__law_steep ?a__law_flat ?l__law_flat ?c__law_flat ?k__law_flat ?a__law_beside ?l__law_beside ?c__law_beside ?k__law_beside ?a__law_step ?l__law_step ?c__law_step ?k__law_step ?a__law_times ?l__law_times ?c__law_times ?k__law_times ?a__law_inverse ?l__law_inverse ?c__law_inverse ?k__law_inverse ?a__law_conjugated ?l__law_conjugated ?c__law_conjugated ?k__law_conjugated ?a__law_generator ?l__law_generator ?c__law_generator ?k__law_generator ?a__law_new_row ?l__law_new_row ?c__law_new_row ?k__law_new_row ?a__law_twisted ?l__law_twisted ?c__law_twisted ?k__law_twisted ?a__law_group ?l__law_group ?c__law_group ?k__law_group ?a__law_bent ?l__law_bent ?c__law_bent ?k__law_bent ?a__law_letters ?l__law_letters ?c__law_letters ?k__law_letters ?a__law_reason ?l__law_reason ?c__law_reason ?k__law_reason ?a__law_forms ?l__law_forms ?c__law_forms ?k__law_forms ?a_law ?l_law ?c_law ?k_law ?z_isinstance ?z_int ?z_bool ?z_all ?z_tuple ?z_len ?z_zip ?z_any ?z_enumerate ?z_str ?z_abs ?z_range ?z_list ?a_S ?l_S ?v_S ?a_MOST_GENERATORS ?a_MOST_ORDER ?aC ?aF ?xC ?rb ?sa ?eC ?yC ?kC ?iC ?tI ?lI ?cI ?kI ?rF ?gF ?vF ?nf ?ga ?gg ?hdC ?icC ?haC ?hnC ?htC ?hmC ?eF ?hF ?yF ?sF ?cF ?aC_M ?q_M ?kC_M ?eC_M ?yC_M ?aC_Presentation ?pg_Presentation ?hd_Presentation ?po_Presentation ?sa_Presentation ?mk_Presentation ?kc_Presentation ?a_Presentation___init__ ?i_Presentation___init__ ?l_Presentation___init__ ?c_Presentation___init__ ?k_Presentation___init__ ?a_Presentation___eq__ ?i_Presentation___eq__ ?l_Presentation___eq__ ?c_Presentation___eq__ ?k_Presentation___eq__ ?a_Presentation___str__ ?i_Presentation___str__ ?l_Presentation___str__ ?c_Presentation___str__ ?k_Presentation___str__ ?a_Presentation_is_row ?i_Presentation_is_row ?l_Presentation_is_row ?c_Presentation_is_row ?k_Presentation_is_row ?a_Presentation_conjugate_row ?i_Presentation_conjugate_row ?l_Presentation_conjugate_row ?c_Presentation_conjugate_row ?k_Presentation_conjugate_row ?a_Presentation_letters ?i_Presentation_letters ?l_Presentation_letters ?c_Presentation_letters ?k_Presentation_letters ?n_Presentation_n ?n_Presentation_primes ?n_Presentation_powers ?n_Presentation_conjugates ?n_Presentation_order ?ha_Presentation ?hn_Presentation ?ht_Presentation ?hm_Presentation ?ci_Presentation ?ty_Presentation ?hd_M ?s_MM ?s_RM ?s_RR
    (case a_is_integer => k_is)
    (case l_is_integer => k_is)
    (case c_is_integer => k_is)
    (case k_is_integer => k_is)
    (case a_is_small_prime => k_is)
    (case l_is_small_prime => k_is)
    (case c_is_small_prime => k_is)
    (case k_is_small_prime => k_is)
    (case a__is_row => k_is)
    (case l__is_row => k_is)
    (case c__is_row => k_is)
    (case k__is_row => k_is)
    (case a__is_right_side => k_is)
    (case l__is_right_side => k_is)
    (case c__is_right_side => k_is)
    (case k__is_right_side => k_is)
    (case a__are_right_sides => k_is)
    (case l__are_right_sides => k_is)
    (case c__are_right_sides => k_is)
    (case k__are_right_sides => k_is)
    (case a__are_primes => k_is)
    (case l__are_primes => k_is)
    (case c__are_primes => k_is)
    (case k__are_primes => k_is)
    (case a__are_powers => k_is)
    (case l__are_powers => k_is)
    (case c__are_powers => k_is)
    (case k__are_powers => k_is)
    (case a__are_conjugates => k_is)
    (case l__are_conjugates => k_is)
    (case c__are_conjugates => k_is)
    (case k__are_conjugates => k_is)
    (case a__order_of => k_is)
    (case l__order_of => k_is)
    (case c__order_of => k_is)
    (case k__order_of => k_is)
    (case a__row_text => k_is)
    (case l__row_text => k_is)
    (case c__row_text => k_is)
    (case k__row_text => k_is)
    (case a__right_sides => k_is)
    (case l__right_sides => k_is)
    (case c__right_sides => k_is)
    (case k__right_sides => k_is)
    (case a__law_state => k_is)
    (case l__law_state => k_is)
    (case c__law_state => k_is)
    (case k__law_state => k_is)
    (case a__law_take => k_is)
    (case l__law_take => k_is)
    (case c__law_take => k_is)
    (case k__law_take => k_is)
    (case a__law_made => k_is)
    (case l__law_made => k_is)
    (case c__law_made => k_is)
    (case k__law_made => k_is)
    (case a__law_size => k_is)
    (case l__law_size => k_is)
    (case c__law_size => k_is)
    (case k__law_size => k_is)
    (case a__law_steep => k_is)
    (case l__law_steep => k_is)
    (case c__law_steep => k_is)
    (case k__law_steep => k_is)
    (case a__law_flat => k_is)
    (case l__law_flat => k_is)
    (case c__law_flat => k_is)
    (case k__law_flat => k_is)
    (case a__law_beside => k_is)
    (case l__law_beside => k_is)
    (case c__law_beside => k_is)
    (case k__law_beside => k_is)
    (case a__law_step => k_is)
    (case l__law_step => k_is)
    (case c__law_step => k_is)
    (case k__law_step => k_is)
    (case a__law_times => k_is)
    (case l__law_times => k_is)
    (case c__law_times => k_is)
    (case k__law_times => k_is)
    (case a__law_inverse => k_is)
    (case l__law_inverse => k_is)
    (case c__law_inverse => k_is)
    (case k__law_inverse => k_is)
    (case a__law_conjugated => k_is)
    (case l__law_conjugated => k_is)
    (case c__law_conjugated => k_is)
    (case k__law_conjugated => k_is)
    (case a__law_generator => k_is)
    (case l__law_generator => k_is)
    (case c__law_generator => k_is)
    (case k__law_generator => k_is)
    (case a__law_new_row => k_is)
    (case l__law_new_row => k_is)
    (case c__law_new_row => k_is)
    (case k__law_new_row => k_is)
    (case a__law_twisted => k_is)
    (case l__law_twisted => k_is)
    (case c__law_twisted => k_is)
    (case k__law_twisted => k_is)
    (case a__law_group => k_is)
    (case l__law_group => k_is)
    (case c__law_group => k_is)
    (case k__law_group => k_is)
    (case a__law_bent => k_is)
    (case l__law_bent => k_is)
    (case c__law_bent => k_is)
    (case k__law_bent => k_is)
    (case a__law_letters => k_is)
    (case l__law_letters => k_is)
    (case c__law_letters => k_is)
    (case k__law_letters => k_is)
    (case a__law_reason => k_is)
    (case l__law_reason => k_is)
    (case c__law_reason => k_is)
    (case k__law_reason => k_is)
    (case a__law_forms => k_is)
    (case l__law_forms => k_is)
    (case c__law_forms => k_is)
    (case k__law_forms => k_is)
    (case a_law => k_is)
    (case l_law => k_is)
    (case c_law => k_is)
    (case k_law => k_is)
    (case z_isinstance => k_is)
    (case z_int => k_is)
    (case z_bool => k_is)
    (case z_all => k_is)
    (case z_tuple => k_is)
    (case z_len => k_is)
    (case z_zip => k_is)
    (case z_any => k_is)
    (case z_enumerate => k_is)
    (case z_str => k_is)
    (case z_abs => k_is)
    (case z_range => k_is)
    (case z_list => k_is)
    (case a_S => k_is)
    (case l_S => k_is)
    (case v_S => exact .cons ⟨_, rfl⟩ (.cons ⟨_, rfl⟩ (.cons ⟨_, rfl⟩ (.cons ⟨_, rfl⟩ (.cons ⟨_, rfl⟩ (.cons ⟨_, rfl⟩ (.cons ⟨_, rfl⟩ (.cons ⟨_, rfl⟩ (.cons ⟨_, rfl⟩ (.cons ⟨_, rfl⟩ (.cons ⟨_, rfl⟩ .nil)))))))))))
    (case a_MOST_GENERATORS => k_is)
    (case a_MOST_ORDER => k_is)
    (case aC => k_is)
    (case aF => k_is)
    (case xC => k_is)
    (case rb => first | rfl | decide +kernel | k_is)
    (case sa => k_is)
    (case eC => k_is)
    (case yC => k_is)
    (case kC => k_is)
    (case iC => k_is)
    (case tI => k_is)
    (case lI => k_is)
    (case cI => k_is)
    (case kI => k_is)
    (case rF => k_is)
    (case gF => k_is)
    (case vF => k_is)
    (case nf => k_is)
    (case ga => k_is)
    (case gg => k_is)
    (case hdC => k_is)
    (case icC => k_is)
    (case haC => k_is)
    (case hnC => k_is)
    (case htC => k_is)
    (case hmC => k_is)
    (case eF => k_is)
    (case hF => k_is)
    (case yF => k_is)
    (case sF => k_is)
    (case cF => k_is)
    (case aC_M => k_is)
    (case q_M => k_exc)
    (case kC_M => k_is)
    (case eC_M => k_is)
    (case yC_M => k_is)
    (case aC_Presentation => k_is)
    (case pg_Presentation => k_is)
    (case hd_Presentation => k_is)
    (case po_Presentation => k_is)
    (case sa_Presentation => k_is)
    (case mk_Presentation => k_is)
    (case kc_Presentation => k_is)
    (case a_Presentation___init__ => k_is)
    (case i_Presentation___init__ => k_is)
    (case l_Presentation___init__ => k_is)
    (case c_Presentation___init__ => k_is)
    (case k_Presentation___init__ => k_is)
    (case a_Presentation___eq__ => k_is)
    (case i_Presentation___eq__ => k_is)
    (case l_Presentation___eq__ => k_is)
    (case c_Presentation___eq__ => k_is)
    (case k_Presentation___eq__ => k_is)
    (case a_Presentation___str__ => k_is)
    (case i_Presentation___str__ => k_is)
    (case l_Presentation___str__ => k_is)
    (case c_Presentation___str__ => k_is)
    (case k_Presentation___str__ => k_is)
    (case a_Presentation_is_row => k_is)
    (case i_Presentation_is_row => k_is)
    (case l_Presentation_is_row => k_is)
    (case c_Presentation_is_row => k_is)
    (case k_Presentation_is_row => k_is)
    (case a_Presentation_conjugate_row => k_is)
    (case i_Presentation_conjugate_row => k_is)
    (case l_Presentation_conjugate_row => k_is)
    (case c_Presentation_conjugate_row => k_is)
    (case k_Presentation_conjugate_row => k_is)
    (case a_Presentation_letters => k_is)
    (case i_Presentation_letters => k_is)
    (case l_Presentation_letters => k_is)
    (case c_Presentation_letters => k_is)
    (case k_Presentation_letters => k_is)
    (case n_Presentation_n => k_is)
    (case n_Presentation_primes => k_is)
    (case n_Presentation_powers => k_is)
    (case n_Presentation_conjugates => k_is)
    (case n_Presentation_order => k_is)
    (case ha_Presentation => k_is)
    (case hn_Presentation => k_is)
    (case ht_Presentation => k_is)
    (case hm_Presentation => k_is)
    (case ci_Presentation => k_is)
    (case ty_Presentation => k_is)
    (case hd_M => k_is)
    (case s_MM => k_is)
    (case s_RM => k_is)
    (case s_RR => k_is)
