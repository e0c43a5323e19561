import PyProof.Rows.All
import Wide.All
import OpenK.AllK
import Wide.FinOn
import PySem.Challenge.RW_polychains_k05_whole_matrices
import HandS.ForMost
import HandS.Exc
import HandS.ExcOwn
import HandS.WordsExc
import HandS.ExcInit
import HandS.ExcField
import HandS.IsInst
import HandS.Wide
import HandS.SortInts
import HandS.TupLe
import HandS.FStr
import HandS.ClsMeth
import HandS.Conv
import HandS.Flow
import HandS.Codes
import HandS.ExcIs
import HandS.Walk
import HandS.Zip
import HandS.TupMul
import HandS.TupAny
import HandS.Star
import HandS.Deep
import HandS.Strs
import HandS.Style
import KE.SortData
import KE.KExcIs
set_option Elab.async false
set_option linter.all false
set_option maxRecDepth 100000
set_option maxHeartbeats 4000000
namespace K05
open PySem PySem.Spec PyProof.Rows L2
section
variable {P : Program} {w : World} {K : PySem.W.Frag} {mg : Str → Option Value} {base : Heap}
theorem yesT {σ : L2.St} {H : Hp} {A B : Hp → Prop} (h : A H) : tYes σ H (fun b H3 => if b = true then A H3 else B H3) := h
/-! operators that hand on a letter -/
def rL (g : Int → Int → Int) : R2 := fun x y H Q => ∃ i j, x = .int i ∧ y = .int j ∧ ∀ z, z = g i j → Q (.int z) H
theorem op_addL {X : Cx} : OpR X (binaryOp .Add) (rL fun i j => i + j) := by
  intro pins s σ H x y v u Q I rx ry h
  obtain ⟨i, j, hx, hy, q⟩ := h
  exact op_add pins s σ H x y v u Q I rx ry ⟨i, j, hx, hy, q _ rfl⟩
theorem op_subL {X : Cx} : OpR X (binaryOp .Sub) (rL fun i j => i - j) := by
  intro pins s σ H x y v u Q I rx ry h
  obtain ⟨i, j, hx, hy, q⟩ := h
  exact op_sub pins s σ H x y v u Q I rx ry ⟨i, j, hx, hy, q _ rfl⟩
theorem call_lenL {X : Cx} : CallR X (.builtin "len") (fun xs H Q => ∃ p ys, xs = [.ref p] ∧ (SqL X.K H p ys ∨ SqT X.K H p ys) ∧ ∀ z : Int, z = (ys.length : Int) → Q (.int z) H) := by
  intro pins s σ H xs us Q I r h
  obtain ⟨p, ys, e, hs, q⟩ := h
  exact call_len_seq pins s σ H xs us Q I r ⟨p, ys, e, hs, q _ rfl⟩
theorem iteB {b : Bool} {A B : Prop} (h : b = false) (q : B) : if b = true then A else B := by
  rw [h]
  exact iteF q
theorem iteA {b : Bool} {A B : Prop} (h : b = true) (q : A) : if b = true then A else B := by
  rw [h]
  exact iteT q
theorem not_dec {p : Prop} [Decidable p] (h : p) : (!decide p) = false := by rw [decide_eq_true h]; rfl
theorem same_new {H : Hp} {p : Addr} {o : HO} (h : H p = none) : Same H (upd H p o) := fun b x e => by
  rw [upd_ne (ne_of_none e h)]
  exact e
/-- a list at o that was new may change -/
theorem same_mut {H H' : Hp} {o : Addr} {u : HO} (e : Same H H') (h : H o = none) : Same H (upd H' o u) := fun b x hb => by
  rw [upd_ne (ne_of_none hb h)]
  exact e b x hb
theorem op_modE {X : Cx} : OpR X (binaryOp .Mod) (fun x y H Q => ∃ i j : Int, x = .int i ∧ y = .int j ∧ 0 < j ∧ Q (.int (i % j)) H) := by
  intro pins s σ H x y v u Q I rx ry h
  obtain ⟨i, j, hx, hy, hj, q⟩ := h
  refine op_modN pins s σ H x y v u Q I rx ry ⟨i, j, hx, hy, (show j ≠ 0 by omega), ?_⟩
  show Q (V.int (i.fmod j)) H
  rw [Int.fmod_eq_emod_of_nonneg _ (Int.le_of_lt hj)]
  exact q
/-! ### the error with a reason -/
theorem pe_finit {X : Cx} {e : Expr} {es : List Expr} {ta : TA} {p1 p2 pos : Pos} {f : Str} {CF : Addr} {pl : Sem Bool} (hg : Gl X f) (hm : X.mg f = some (.ref CF)) (r : ClX.CRead X.K CF (.type "type"))
    (kv : PySem.W.findCls X.K (.ref CF) (.type "type") "__init__" = some (.val (.builtin "ValueError.__init__"))) (ha : PA X (e :: es) ta)
    (hc : eval (.Call (.Attribute (.Name f p1) "__init__" p2) (e :: es) [] pos) X.env = (do
      let ov ← eval (.Name f p1) X.env
      standAt p2.atName
      let (f, first) ← holding [ov] (getMethod ov "__init__" pl)
      callWith pos f first (backTo pos (starEach (e :: es) X.env)) (backToKw pos (keywordEach [] X.env))) := by rfl)
    (hd : (f == ("__debug__" : Str)) = false := by decide)
    (he : starEach (e :: es) X.env = (false, eval e X.env) :: starEach es X.env := by rfl) (hpl : (backTo pos (starEach es X.env)).any (·.1) = false := by rfl) :
    PE X (.Call (.Attribute (.Name f p1) "__init__" p2) (e :: es) [] pos) (tVeI X.K ta) := by
  refine ⟨fun pins s σ H Q I h => ?_⟩
  refine PySem.W.methodCall_KW (ld_glob I hg hm ?_ hd) hc
  refine PySem.W.method_cls I.kIn r.ga (PySem.W.cls_value I.kIn r.rd kv (by decide +kernel) ?_)
  have I := I.tok s.toks.succ
  show wpAny _ _ (callWith pos (Value.builtin "ValueError.__init__") [] (backTo pos (starEach (e :: es) X.env)) []) _ _ _
  refine PyProof.Rows.callWith_method1 (thn (ha.run pos pins _ σ H _ I h) fun us s1 ⟨vs, H1, I1, r1, a, C, ws, ev, hl, T, ea, q⟩ => ?_) he hpl
  subst ev
  cases r1 with
  | @cons _ u0 _ ur ra rw' =>
    obtain rfl : u0 = Value.ref a := ra
    have hlen : ur.length ≤ sizeLine := by
      rw [← Paired.length rw', sizeLine_eq]
      omega
    exact oinit_ok T I1 ea hlen fun s' J => ⟨.non, H1, J, rfl, q⟩
/-- what isinstance asks of the class of an exception that has its dict -/
structure ExcD (K : PySem.W.Frag) (D : Addr) : Prop where
  hg : PySem.W.findIn K (.ref D) "__getattribute__" = some (some (.builtin "BaseException.__getattribute__"))
  hk : PySem.W.findIn K (.ref D) "__getattr__" = some none
  hs : PySem.W.subIn K (.ref D) (.type "BaseException") = some true
  hc : PySem.W.isClsIn K D = true
  ha : PySem.W.findIn K (.ref D) "__class__" = some (some (.builtin "object.__class__"))
  hn : PySem.W.specialIn K (.builtin "object.__class__") "__get__" = some (some (.builtin "getset_descriptor.__get__"))
  ht : PySem.W.takesIn K (.builtin "object.__class__") = some true
  hm : PySem.W.mroIn K D (.type "object") = some true
def rIsD (K : PySem.W.Frag) (D a : Addr) (cls : Value) (d : Option Addr) : List V → Hp → VK → Prop := fun xs H Q => ∃ (c : V) (cv : Value) (b : Bool) (dd : Addr) (fs : List (Str × V)), xs = [.ref a, c] ∧ ClsV c cv ∧ cls = .ref D ∧ d = some dd ∧ H dd = some (.xd fs) ∧ PySem.W.kitOne K (.ref D) cv = some b ∧ Q (.bl b) H
def rIsDT (K : PySem.W.Frag) (D a : Addr) (cls : Value) (d : Option Addr) : List V → Hp → VK → Prop := fun xs H Q => ∃ (tp : Addr) (cs : List V) (us : List Value) (b : Bool) (dd : Addr) (fs : List (Str × V)), xs = [.ref a, .ref tp] ∧ H tp = some (.tup cs) ∧ Paired ClsV cs us ∧ cls = .ref D ∧ d = some dd ∧ H dd = some (.xd fs) ∧ PySem.W.kitAny K (.ref D) us = some b ∧ Q (.bl b) H
section
variable {X : Cx} {a D : Addr} {oe : Obj} {cls : Value} {d : Option Addr} {pn : List (Addr × Obj)}
theorem inst_of {pins : List (Addr × Obj)} {σ : L2.St} {H : Hp} {s : Shared} {dd : Addr} {fs : List (Str × V)} (I : Inv (X.suite a ((a, oe) :: pn)) pins σ H s) (hz : Zc (.ref D) (some dd) oe) (hf : ∃ vs, oe.data = .fields vs) (ea : H dd = some (.xd fs)) :
    ∃ od : Obj, PySem.W.InstAt s.heap a oe D (some od) := by
  obtain ⟨ha, _⟩ := I.pin (a, oe) (List.mem_append_left _ List.mem_cons_self)
  obtain ⟨vs, hd⟩ := hf
  obtain ⟨mA, hns, hr⟩ := (show ObjOk X.prog X.w H s.heap dd (.xd fs) from I.hok dd _ ea)
  obtain ⟨od, ho, hl⟩ := lookIn_ns hns
  exact ⟨od, ha, hz.1, by unfold PySem.W.notCls; rw [hd] <;> rfl, by rw [hz.2]; exact ho⟩
theorem call_isD (C : ExcD X.K D) (hz : Zc cls d oe) (hf : ∃ vs, oe.data = .fields vs) : CallR (X.suite a ((a, oe) :: pn)) (.builtin "isinstance") (rIsD X.K D a cls d) := by
  intro pins s σ H xs us Q I r h
  obtain ⟨c, cv, b, dd, fs, rfl, hcv, rfl, rfl, ea, e, q⟩ := h
  obtain ⟨u1, u2, rfl, r1, r2⟩ := vals2 r
  cases (show u1 = Value.ref a from r1)
  have ec := hcv.eq r2
  cases ec
  obtain ⟨od, J⟩ := inst_of I hz hf ea
  exact PySem.W.kia_one (PySem.W.kitx_exc C.hc C.hg C.hk C.hs C.ha C.hn C.ht C.hm) I.kIn J e (fun z => nomatch z) fun tk => ⟨.bl b, H, I.tok tk, rfl, q⟩
theorem call_isDT (C : ExcD X.K D) (hz : Zc cls d oe) (hf : ∃ vs, oe.data = .fields vs) : CallR (X.suite a ((a, oe) :: pn)) (.builtin "isinstance") (rIsDT X.K D a cls d) := by
  intro pins s σ H xs us Q I r h
  obtain ⟨tp, cs, ws, b, dd, fs, rfl, hT, hcv, rfl, rfl, ea, e, q⟩ := h
  obtain ⟨u1, u2, rfl, r1, r2⟩ := vals2 r
  cases (show u1 = Value.ref a from r1)
  cases (show u2 = Value.ref tp from r2)
  obtain ⟨od, J⟩ := inst_of I hz hf ea
  obtain ⟨_, its, rv, o, h1, h2, n, h3⟩ := (show ObjOk X.prog X.w H s.heap tp (.tup cs) from I.hok tp _ hT)
  have e3 := ClsV.all hcv rv
  subst e3
  obtain ⟨oc, od', dt, sl⟩ := o
  simp only at h2 h3
  subst h2 h3
  exact PySem.W.kia_tup (PySem.W.kitx_exc C.hc C.hg C.hk C.hs C.ha C.hn C.ht C.hm) I.kIn J h1 e (fun z => nomatch z) fun tk => ⟨.bl b, H, I.tok tk, rfl, q⟩
end
theorem kit_self {K : PySem.W.Frag} {C : Addr} : PySem.W.kitOne K (.ref C) (.ref C) = some true := by
  unfold PySem.W.kitOne
  rw [if_pos (beq_self_eq_true _)]
theorem kit_base {K : PySem.W.Frag} {C : Addr} {T : String} {b : Bool} (hm : PySem.W.kitMeta T = true) (h : PySem.W.subIn K (.ref C) (.type T) = some b) : PySem.W.kitOne K (.ref C) (.type T) = some b := by
  unfold PySem.W.kitOne
  rw [if_neg (by intro z; exact nomatch (beq_iff_eq.mp z))]
  show (if PySem.W.kitMeta T = true then PySem.W.subIn K (.ref C) (.type T) else none) = some b
  rw [if_pos hm]
  exact h
theorem kit_other {K : PySem.W.Frag} {C D : Addr} (hne : ((Value.ref C) == (Value.ref D)) = false) (hc : PySem.W.isClsIn K D = true) (ht : PySem.W.typeIn K (.ref D) = some (.type "type")) (h : PySem.W.subIn K (.ref C) (.ref D) = some false) : PySem.W.kitOne K (.ref C) (.ref D) = some false := by
  unfold PySem.W.kitOne
  rw [if_neg (by rw [hne]; exact Bool.false_ne_true)]
  show (if ((PySem.W.clsIn K D).isSome && PySem.W.typeIn K (.ref D) == some (.type "type")) = true then PySem.W.subIn K (.ref C) (.ref D) else none) = some false
  have h2 : (PySem.W.clsIn K D).isSome = true := hc
  rw [if_pos (by rw [h2, ht]; rfl)]
  exact h
/-- what the written part says of Refused, over Fault -/
structure RefC (K : PySem.W.Frag) (mg : Str → Option Value) (st : Stmt) where
  C : Addr
  CF : Addr
  fI : Addr
  dI : FuncData
  gC : mg "Refused" = some (.ref C)
  gF : mg "Fault" = some (.ref CF)
  rF : ClX.CRead K CF (.type "type")
  vF : PySem.W.findCls K (.ref CF) (.type "type") "__init__" = some (.val (.builtin "ValueError.__init__"))
  ox : OexC K C
  iC : PySem.W.findIn K (.ref C) "__init__" = some (some (.ref fI))
  tI : PySem.W.typeIn K (.ref fI) = some (.type "function")
  FI : Fun K "__init__" "Refused.__init__" st fI dI
  bI : Binds K dI ["self", "reason"] []
  nf : PySem.W.findIn K (.ref C) "reason" = some none
  ed : ExcD K C
  xf : XfC K C
  ex : PySem.W.exmOne K (.ref C) (.ref CF) = some true
  cF : PySem.W.isClsIn K CF = true
/-! ### tuples of ints, tuples of pairs, as data -/
theorem dpAll_ints {H : Hp} : ∀ ns : List Int, DpAll K H (ns.map V.int) (ns.map PyData.int)
  | [] => .nil
  | n :: r => .cons (.int n) (dpAll_ints r)
def dInts (ns : List Int) : PyData := .tuple (ns.map PyData.int)
def dPair (x : Int × Int) : PyData := .tuple [.int x.1, .int x.2]
def dPairs (l : List (Int × Int)) : PyData := .tuple (l.map dPair)
theorem dp_ints {H : Hp} {a : Addr} {ns : List Int} (h : SqT K H a (ns.map V.int)) : Dp K H (.ref a) (dInts ns) := .tup h (dpAll_ints ns)
theorem shaped_dInts (ns : List Int) : SeqAt.shaped (dInts ns) = true := by
  have h1 := PySem.W.depthAll_ints ns
  have h2 : PyData.depth (.tuple (ns.map PyData.int)) ≤ 64 := by simp only [PyData.depth]; omega
  show (PyData.canLay0 (.tuple (ns.map PyData.int)) && decide (PyData.depth (.tuple (ns.map PyData.int)) ≤ 64)) = true
  rw [Bool.and_eq_true]
  exact ⟨by simp only [PyData.canLay0]; exact PySem.W.canLayAll0_ints ns, decide_eq_true h2⟩
theorem canLay_dPairs : ∀ l : List (Int × Int), PyData.canLayAll0 (l.map dPair) = true
  | [] => by simp [PyData.canLayAll0]
  | x :: r => by simp [PyData.canLayAll0, PyData.canLay0, dPair, canLay_dPairs r]
theorem depth_dPairs : ∀ l : List (Int × Int), PyData.depthAll (l.map dPair) ≤ 2
  | [] => by simp [PyData.depthAll]
  | x :: r => by
    have := depth_dPairs r
    simp only [List.map_cons, PyData.depthAll, PyData.depth, dPair]
    omega
theorem shaped_dPairs (l : List (Int × Int)) : SeqAt.shaped (dPairs l) = true := by
  have h1 := depth_dPairs l
  have h2 : PyData.depth (.tuple (l.map dPair)) ≤ 64 := by simp only [PyData.depth]; omega
  show (PyData.canLay0 (.tuple (l.map dPair)) && decide (PyData.depth (.tuple (l.map dPair)) ≤ 64)) = true
  rw [Bool.and_eq_true]
  exact ⟨by simp only [PyData.canLay0]; exact canLay_dPairs l, decide_eq_true h2⟩
theorem eqvAll_ints : ∀ ns ms : List Int, PyData.eqvAll (ns.map PyData.int) (ms.map PyData.int) = decide (ns = ms)
  | [], [] => by simp [PyData.eqvAll]
  | [], _ :: _ => by simp [PyData.eqvAll]
  | _ :: _, [] => by simp [PyData.eqvAll]
  | n :: r, k :: q => by
    simp only [List.map_cons, PyData.eqvAll, PyData.eqv, eqvAll_ints r q]
    by_cases h : n = k <;> simp [h]
theorem eqv_dInts (ns ms : List Int) : PyData.eqv (dInts ns) (dInts ms) = decide (ns = ms) := by
  unfold dInts
  rw [PyData.eqv]
  exact eqvAll_ints ns ms
theorem eqvAll_dPairs : ∀ l : List (Int × Int), PyData.eqvAll (l.map dPair) (l.map dPair) = true
  | [] => by simp [PyData.eqvAll]
  | x :: r => by
    simp only [List.map_cons, PyData.eqvAll, eqvAll_dPairs r, Bool.and_true]
    unfold dPair
    simp [PyData.eqv, PyData.eqvAll]
theorem eqv_dPairs (l : List (Int × Int)) : PyData.eqv (dPairs l) (dPairs l) = true := by
  unfold dPairs
  rw [PyData.eqv]
  exact eqvAll_dPairs l
theorem dpAll_pairs {H : Hp} : ∀ {ts : List Addr} {l : List (Int × Int)}, Paired (fun t x => H t = some (.tup [.int x.1, .int x.2])) ts l → DpAll K H (ts.map V.ref) (l.map dPair)
  | _, _, .nil => .nil
  | _, _, .cons h r => .cons (.tup (.inl (.inl h)) (.cons (.int _) (.cons (.int _) .nil))) (dpAll_pairs r)
theorem dp_pairs {H : Hp} {a : Addr} {ts : List Addr} {l : List (Int × Int)} (h : SqT K H a (ts.map V.ref)) (hp : Paired (fun t x => H t = some (.tup [.int x.1, .int x.2])) ts l) : Dp K H (.ref a) (dPairs l) := .tup h (dpAll_pairs hp)
/-! ### things that stand in the heap as data: stable relations; comprehensions by them -/
structure Stable {α : Type} (R : Hp → V → α → Prop) : Prop where
  same : ∀ {H H' : Hp} {v : V} {x : α}, Same H H' → R H v x → R H' v x
  put : ∀ {H : Hp} {D : Addr} {xs ys : List V} {v : V} {x : α}, H D = some (.lst xs) → R H v x → R (upd H D (.lst ys)) v x
theorem Stable.all {α : Type} {R : Hp → V → α → Prop} (S : Stable R) {H H' : Hp} (e : Same H H') : ∀ {vs : List V} {xs : List α}, Paired (R H) vs xs → Paired (R H') vs xs
  | _, _, .nil => .nil
  | _, _, .cons h t => .cons (S.same e h) (S.all e t)
theorem Stable.allPut {α : Type} {R : Hp → V → α → Prop} (S : Stable R) {H : Hp} {D : Addr} {ys zs : List V} (e : H D = some (.lst ys)) : ∀ {vs : List V} {xs : List α}, Paired (R H) vs xs → Paired (R (upd H D (.lst zs))) vs xs
  | _, _, .nil => .nil
  | _, _, .cons h t => .cons (S.put e h) (S.allPut e t)
theorem paired_app {α β : Type} {R : α → β → Prop} : ∀ {as : List α} {bs : List β} {cs : List α} {ds : List β}, Paired R as bs → Paired R cs ds → Paired R (as ++ cs) (bs ++ ds)
  | _, _, _, _, .nil, k => k
  | _, _, _, _, .cons h t, k => .cons h (paired_app t k)
theorem paired_add {α β : Type} {R : α → β → Prop} {as : List α} {bs : List β} {a : α} {b : β} (h : Paired R as bs) (k : R a b) : Paired R (as ++ [a]) (bs ++ [b]) := paired_app h (.cons k .nil)
theorem paired_get {α β : Type} {R : α → β → Prop} : ∀ {as : List α} {bs : List β} {i : Nat} {a : α}, Paired R as bs → as[i]? = some a → ∃ b, bs[i]? = some b ∧ R a b
  | _, _, 0, _, .cons h _, e => ⟨_, rfl, by cases e; exact h⟩
  | _, _, i + 1, _, .cons _ t, e => paired_get (i := i) t e
  | _, _, 0, _, .nil, e => by cases e
  | _, _, i + 1, _, .nil, e => by cases e
theorem paired_get2 {α β : Type} {R : α → β → Prop} : ∀ {as : List α} {bs : List β} {i : Nat} {b : β}, Paired R as bs → bs[i]? = some b → ∃ a, as[i]? = some a ∧ R a b
  | _, _, 0, _, .cons h _, e => ⟨_, rfl, by cases e; exact h⟩
  | _, _, i + 1, _, .cons _ t, e => paired_get2 (i := i) t e
  | _, _, 0, _, .nil, e => by cases e
  | _, _, i + 1, _, .nil, e => by cases e
def RI : Hp → V → Int → Prop := fun _ v x => v = .int x
/-- a row at t: a tuple, known to its object -/
def RowAt (H : Hp) (t : Addr) (r : List Int) : Prop := ∃ o : Obj, o.dict = none ∧ H t = some (.frz o (.tup (r.map V.int)))
theorem RowAt.sq {K : PySem.W.Frag} {H : Hp} {t : Addr} {r : List Int} (h : RowAt H t r) : SqT K H t (r.map V.int) := by
  obtain ⟨o, _, e⟩ := h
  exact .inl (.inr ⟨o, e⟩)
theorem RowAt.mono {H H' : Hp} {t : Addr} {r : List Int} (e : Same H H') (h : RowAt H t r) : RowAt H' t r := by
  obtain ⟨o, d, h⟩ := h
  exact ⟨o, d, e _ _ h⟩
def RR : Hp → V → List Int → Prop := fun H v r => ∃ t, v = .ref t ∧ RowAt H t r
theorem st_RI : Stable RI := ⟨fun _ h => h, fun _ h => h⟩
theorem upd_put {H : Hp} {D t : Addr} {xs ys : List V} {o : HO} (e : H D = some (.lst xs)) (h : H t = some o) (hn : ∀ zs, o ≠ .lst zs) : (upd H D (.lst ys)) t = some o := by
  rw [upd_ne (fun z => by rw [z, e] at h; exact hn _ (Option.some.inj h).symm)]
  exact h
theorem st_RR : Stable RR := ⟨fun e ⟨t, a, b⟩ => ⟨t, a, b.mono e⟩, fun e ⟨t, a, o, d, b⟩ => ⟨t, a, o, d, upd_put e b (fun _ z => by cases z)⟩⟩
theorem ints_of {H : Hp} : ∀ {vs : List V} {ns : List Int}, Paired (RI H) vs ns → vs = ns.map V.int
  | _, _, .nil => rfl
  | _, _, @Paired.cons _ _ _ v n vs ns h t => by
    have e : v = .int n := h
    rw [e, ints_of t]
    rfl
theorem small2000 {n : Nat} (h : n ≤ 100000) : n < sizeLine := Nat.lt_of_le_of_lt h (by decide)
/-- a comprehension without a test; each element stands for f i -/
theorem lc_rep {α : Type} {J : It} {n : Nat} {G : Hp → Prop} {Y : Nat → Hp → V → Hp → Prop} (w : Walk J n G Y) {R : Hp → V → α → Prop} (S : Stable R) (f : Nat → α) (hn : n ≤ 100000) {g : TG} {te : TE} {vs : List Nat} {σ : L2.St} {H1 : Hp} {D : Addr} {Qd : Hp → Prop}
    (nD : H1 D = none) (hG : ∀ H, Same H1 H → G H)
    (hs : ∀ i x H H' (Q : VK), i < n → Same H1 H → Y i H x H' → (∀ y H4, Same H H4 → R H4 y (f i) → Q y H4) → g x (wipe σ vs) H' fun σ2 H2 => wipe σ2 vs = wipe σ vs ∧ te σ2 H2 Q)
    (hd : ∀ H acc, Same H1 H → H D = some (.lst acc) → Paired (R H) acc ((List.range n).map f) → Qd H) :
    ∃ W : Nat → Nat → Hp → Prop, (∃ m, W 0 m (upd H1 D (.lst []))) ∧ ∀ i m H, W i m H →
      (J.stop i H ∧ Qd H) ∨ (J.go i H ∧ ∃ Nx : Hp → Prop, (∀ H', Nx H' → ∃ m', m' < m ∧ W (i + 1) m' H') ∧ ∀ x H', J.yld i H x H' → g x (wipe σ vs) H' fun σ2 H2 => wipe σ2 vs = wipe σ vs ∧ tYes σ2 H2 fun b H3 =>
        if b = true then te σ2 H3 fun y H4 => ∃ acc, H4 D = some (.lst acc) ∧ acc.length < sizeLine ∧ Nx (upd H4 D (.lst (acc ++ [y]))) else Nx H3) := by
  refine lc_it w (fun i H => i ≤ n ∧ Same H1 H ∧ ∃ acc, H D = some (.lst acc) ∧ Paired (R H) acc ((List.range i).map f)) ⟨Nat.zero_le n, same_new nD, [], upd_same, .nil⟩ (fun i H _ h => hG H h.2.1) (fun i x H H' hi hP hY => ?_) (fun H hP => ?_)
  · obtain ⟨hin, sm, acc, eD, hp⟩ := hP
    have hlen : acc.length = i := by
      have := Paired.length hp
      rw [List.length_map, List.length_range] at this
      exact this
    have z := hs i x H H' (fun y H4 => ∃ acc, H4 D = some (.lst acc) ∧ acc.length < sizeLine ∧ (i + 1 ≤ n ∧ Same H1 (upd H4 D (.lst (acc ++ [y]))) ∧ ∃ acc2, (upd H4 D (.lst (acc ++ [y]))) D = some (.lst acc2) ∧ Paired (R (upd H4 D (.lst (acc ++ [y])))) acc2 ((List.range (i + 1)).map f))) hi sm hY (fun y H4 sm4 r => by
      have eD4 := sm4 _ _ eD
      refine ⟨acc, eD4, small2000 (by omega), hi, fun b u hb => ?_, _, upd_same, ?_⟩
      · rw [upd_ne (ne_of_none hb nD)]
        exact sm4 _ _ (sm _ _ hb)
      · rw [List.range_succ, List.map_append]
        exact S.allPut eD4 (paired_add (S.all sm4 hp) r))
    exact z
  · obtain ⟨_, sm, acc, eD, hp⟩ := hP
    exact hd H acc sm eD hp
theorem map_range {α : Type} (f : Nat → α) (xs : List α) (h : ∀ i x, xs[i]? = some x → f i = x) : (List.range xs.length).map f = xs := by
  apply List.ext_getElem?
  intro i
  rw [List.getElem?_map]
  by_cases hi : i < xs.length
  · rw [List.getElem?_range hi, List.getElem?_eq_getElem hi]
    exact congrArg some (h i _ (List.getElem?_eq_getElem hi))
  · rw [List.getElem?_eq_none (by rw [List.length_range]; omega), List.getElem?_eq_none (by omega)]
    rfl
/-! ### rules that the layer lacked: (x,) * k for k = 0 and 1, t[::-1], t.index(int), sorted of rows -/
namespace Own
open PySem PySem.Spec PyProof.Rows L2
open MeetsSeq MeetsSeq2 MeetsSeq3 SeqRoads2
theorem tuple_mul0 (l : Addr) (items : Array Value) (n : Nat) (dd : Option Addr) (sl : Array (Option Value)) (x : Int) (u : Tok) (c0 : (decide (x < -(2 ^ 63)) || decide (x ≥ 2 ^ 63)) = false) (c1 : (items.isEmpty || x == 1) = false) (c2 : (decide (x ≤ 0) || items.isEmpty) = true) :
    Meets (Builtin.«tuple.__mul__» ⟨[.ref l, .int x u], []⟩) (fun _ R s => s.heap.get? l = some { cls := .type "tuple", dict := dd, data := .seq items n, slots := sl } ∧
      R (.ok (.ret (Value.ref s.heap.objs.size))) { s with heap := s.heap.push { cls := Value.type "tuple", data := Data.seq #[] }, toks := s.toks }) :=
  .of_wp fun prog w A R s h => by
    obtain ⟨hp, g, d, tk, os⟩ := s
    obtain ⟨hl, h⟩ := h
    have f1 := AutoSeq1.idx_int
    wp_walk using AutoSeq1.wpAny_loadPart' hl
    repeat (first
      | (refine wpAny_ite_false (decide_eq_false (by rw [c0]; exact Bool.false_ne_true)) ?_; wp_walk using AutoSeq1.wpAny_loadPart' hl)
      | (refine wpAny_ite_false (decide_eq_false (by rw [c1]; exact Bool.false_ne_true)) ?_; wp_walk using AutoSeq1.wpAny_loadPart' hl)
      | (refine wpAny_ite_true (decide_eq_true (by rw [c2])) ?_; wp_walk using AutoSeq1.wpAny_loadPart' hl))
    exact ⟨_, rfl, h⟩
theorem tuple_mul1 (l : Addr) (items : Array Value) (n : Nat) (dd : Option Addr) (sl : Array (Option Value)) (x : Int) (u : Tok) (c0 : (decide (x < -(2 ^ 63)) || decide (x ≥ 2 ^ 63)) = false) (c1 : (items.isEmpty || x == 1) = true) :
    Meets (Builtin.«tuple.__mul__» ⟨[.ref l, .int x u], []⟩) (fun _ R s => s.heap.get? l = some { cls := .type "tuple", dict := dd, data := .seq items n, slots := sl } ∧
      R (.ok (.ret (Value.ref l))) s) :=
  .of_wp fun prog w A R s h => by
    obtain ⟨hp, g, d, tk, os⟩ := s
    obtain ⟨hl, h⟩ := h
    have f1 := AutoSeq1.idx_int
    wp_walk using AutoSeq1.wpAny_loadPart' hl
    repeat (first
      | (refine wpAny_ite_false (decide_eq_false (by rw [c0]; exact Bool.false_ne_true)) ?_; wp_walk using AutoSeq1.wpAny_loadPart' hl)
      | (refine wpAny_ite_true (decide_eq_true (by rw [c1])) ?_; wp_walk using AutoSeq1.wpAny_loadPart' hl))
    exact ⟨_, rfl, h⟩
/-- a tuple, as it is tracked, so many times -/
def rRepA : R2 := fun x y H Q => ∃ l k xs, x = .ref l ∧ y = .int k ∧ H l = some (.tup xs) ∧ xs ≠ [] ∧ 0 ≤ k ∧ k ≤ 1000 ∧ xs.length ≤ 1000 ∧ ∀ t H', Same H H' → H' t = some (.tup (List.replicate k.toNat xs).flatten) → Q (.ref t) H'
theorem op_repA {X : Cx} : OpR X (binaryOp .Mult) rRepA := by
  intro pins s σ H x y v u Q I rx ry h
  obtain ⟨l, k, xs, rfl, rfl, hT, hne, h0, h2, hz, q⟩ := h
  by_cases hk : 2 ≤ k
  · exact op_repT pins s σ H _ _ v u Q I rx ry ⟨l, k, xs, rfl, rfl, .inl (.inl hT), hne, hk, h2, hz, fun p np => q p _ (same_new np) upd_same⟩
  cases rx
  obtain ⟨t, rfl⟩ := ry
  obtain ⟨its, r, ⟨⟨cls, dd, data, sl⟩, ho, hc, n, hd⟩, hs⟩ := I.tuple (show SqT X.K H l xs from .inl (.inl hT))
  simp only at hc hd
  subst hc hd
  have hle : its.length = xs.length := r.length.symm
  have hn : its ≠ [] := fun e => hne (by
    rw [e] at hle
    exact List.eq_nil_of_length_eq_zero hle.symm)
  have hi : its.toArray.isEmpty = false := by
    cases its with
    | nil => exact absurd rfl hn
    | cons a b => rfl
  have c0 : (decide (k < -(2 ^ 63)) || decide (k ≥ 2 ^ 63)) = false := by
    rw [decide_eq_false (by omega), decide_eq_false (by omega)] <;> rfl
  by_cases hk0 : k = 0
  · subst hk0
    have c1 : (its.toArray.isEmpty || (0 : Int) == 1) = false := by
      rw [hi, Bool.false_or]
      exact beq_eq_false_iff_ne.mpr (by omega)
    have c2 : (decide ((0 : Int) ≤ 0) || its.toArray.isEmpty) = true := by
      rw [hi, Bool.or_false]
      exact decide_eq_true (by omega)
    refine wpAny_binaryOp_repeat_ref (T := "tuple") (U := "int") (by decide) ⟨_, ho, rfl⟩ (fun s' => typeIs_int s' 0 t) noFill_tuple_mul F.fills_int_mul F.slot_int_rmul repeat_tuple F.slot_int_index.lookup
      (call_meets F.slot_int_rmul (typeIs_int s 0 t) F.entry_int_rmul (F.args_int_rmul_2 _ _) (int_rmul_tuple 0 t l its.toArray n dd sl)
        ⟨ho, rfl, ⟨_, ho, rfl⟩, call_meets F.slot_tuple_mul ⟨_, ho, rfl⟩ F.entry_tuple_mul (F.args_tuple_mul_2 _ _) (tuple_mul0 l its.toArray n dd sl 0 t c0 c1 c2) ⟨ho, ?_⟩⟩)
    refine ⟨.ref s.heap.objs.size, _, I.laid (t' := s.toks) (o := .tup []) (fun b ob q => Heap.get?_push_of_some _ q) (Nat.le_refl _) ?_, rfl, q _ _ (same_new (I.hok.fresh (Nat.le_refl _))) (by rw [upd_same]; rfl)⟩
    exact ⟨Nat.zero_le _, [], .nil, IsTup.new _ _⟩
  · have hk1 : k = 1 := by omega
    subst hk1
    have c1 : (its.toArray.isEmpty || (1 : Int) == 1) = true := by
      rw [hi, Bool.false_or]
      rfl
    refine wpAny_binaryOp_repeat_ref (T := "tuple") (U := "int") (by decide) ⟨_, ho, rfl⟩ (fun s' => typeIs_int s' 1 t) noFill_tuple_mul F.fills_int_mul F.slot_int_rmul repeat_tuple F.slot_int_index.lookup
      (call_meets F.slot_int_rmul (typeIs_int s 1 t) F.entry_int_rmul (F.args_int_rmul_2 _ _) (int_rmul_tuple 1 t l its.toArray n dd sl)
        ⟨ho, rfl, ⟨_, ho, rfl⟩, call_meets F.slot_tuple_mul ⟨_, ho, rfl⟩ F.entry_tuple_mul (F.args_tuple_mul_2 _ _) (tuple_mul1 l its.toArray n dd sl 1 t c0 c1) ⟨ho, ?_⟩⟩)
    refine ⟨.ref l, H, I, rfl, q l H (Same.refl H) ?_⟩
    rw [hT]
    show some (HO.tup xs) = some (HO.tup (List.replicate 1 xs).flatten)
    simp
/-- t.index(x), ints, the first place -/
theorem mt_tup_indexI {X : Cx} : MtR X "tuple.index" (fun x xs H Q => ∃ p, ∃ ys : List Int, ∃ z j, x = .ref p ∧ xs = [.int z] ∧ SqT X.K H p (ys.map V.int) ∧ ys[j]? = some z ∧ (∀ m, m < j → ys[m]? ≠ some z) ∧ Q (.int (j : Nat)) H) := by
  intro pins s σ H x xs v us Q I rx rs h
  obtain ⟨p, ys, z, j, rfl, rfl, hq, hy, hno, q⟩ := h
  cases rx
  obtain ⟨u, rfl, t, rfl⟩ := vals1 rs
  obtain ⟨its, r, pl, hz⟩ := I.tuple hq
  obtain ⟨⟨cls, dd, dt, sl⟩, ho, hc, n, hd⟩ := pl
  simp only at hc hd
  subst hc
  subst hd
  have hl : its.toArray.size = ys.length := by rw [List.size_toArray, ← r.length, List.length_map]
  have hj : j < its.toArray.size := by rw [hl]; exact (List.getElem?_eq_some_iff.mp hy).1
  have at' : ∀ (m : Nat) (hm : m < its.toArray.size), ∃ y t', ys[m]? = some y ∧ its.toArray[m] = Value.int y t' := fun m hm => by
    have hm' : m < ys.length := by rw [← hl]; exact hm
    obtain ⟨w, hw, t', hw'⟩ := r.get (i := m) (x := .int ys[m]) (by simp [hm'])
    refine ⟨ys[m], t', List.getElem?_eq_getElem hm', ?_⟩
    have e := (List.getElem?_eq_some_iff.mp hw).2
    rw [← hw', ← e]
    simp
  have hflat : (ys.map V.int).all flatV = true := by
    rw [List.all_map]
    exact List.all_eq_true.mpr fun _ _ => rfl
  refine call_meets PySem.F.slot_tuple_index ⟨_, ho, rfl⟩ PySem.F.entry_tuple_index (PySem.F.args_tuple_index_2 _ _) (TI.tuple_indexAt p its.toArray n dd sl (.int z t) (eqU (.int z)) j hj ?_ ?_)
    ⟨ho, fun w hw => mem_eqAt (x := .int z) ⟨t, rfl⟩ rfl r hflat w (by simpa using hw), ⟨.int (j : Nat), H, I.tok _, ⟨_, rfl⟩, q⟩⟩
  · obtain ⟨y, t', h1, h2⟩ := at' j hj
    rw [hy] at h1
    cases h1
    rw [h2]
    show (z == z) = true
    exact beq_self_eq_true z
  · intro m hm hmj
    obtain ⟨y, t', h1, h2⟩ := at' m hm
    rw [h2]
    show (y == z) = false
    exact beq_eq_false_iff_ne.mpr fun e => hno m hmj (e ▸ h1)
/-! t[::-1] -/
section
variable {prog : Program} {w : World} {A : Around} {E : Value → Shared → Prop} {s : Shared}
theorem places_back (n : Nat) : Builtin.Slice.slicePlaces ((n : Int) - 1) (-1) (-1) = n := by
  unfold Builtin.Slice.slicePlaces
  have h1 : ¬ ((-1 : Int) > 0) := by omega
  have h2 : ∀ x : Int, x / (- -1) = x := fun x => by
    rw [show (- -1 : Int) = 1 by decide, Int.ediv_one]
  simp only [h1, if_false]
  split
  · rw [h2]; omega
  · omega
theorem sliceApplied_back {sl : Addr} {t : Tok} {n : Nat} {Q : Int × Int × Nat → Shared → Prop} (hs : s.heap.IsSliceOf sl .none .none (.int (-1) t))
    (h : Q ((n : Int) - 1, -1, n) s) : wpAny (model prog w) A (Builtin.Slice.sliceApplied (.ref sl) (pure (n : Int))) Q E s := by
  obtain ⟨os, hos, hcs, hds⟩ := id hs
  unfold Builtin.Slice.sliceApplied Builtin.Slice.sliceFields
  refine wpAny_bind (wpAny_bind (wpAny_field hos hds (x := .none) rfl (wpAny_bind (wpAny_field hos hds (x := .none) rfl (wpAny_bind (wpAny_field hos hds (x := .int (-1) t) rfl (wpAny_pure ?_)))))))
  refine wpAny_bind (slicePart_int ?_)
  show wpAny _ _ (if ((-1 : Int) == 0) = true then _ else _) _ _ s
  rw [if_neg (by decide)]
  refine wpAny_bind (slicePart_none (wpAny_bind (slicePart_none (wpAny_bind (wpAny_pure ?_)))))
  show wpAny _ _ (pure ((n : Int) - 1, (-1 : Int), Builtin.Slice.slicePlaces ((n : Int) - 1) (-1) (-1))) _ _ s
  rw [places_back]
  exact wpAny_pure h
theorem filterMap_agree {α β : Type} {f g : α → Option β} : ∀ {l : List α}, (∀ a ∈ l, f a = g a) → l.filterMap f = l.filterMap g
  | [], _ => rfl
  | a :: l, h => by
    rw [List.filterMap_cons, List.filterMap_cons, h a (List.mem_cons_self ..), filterMap_agree fun b hb => h b (List.mem_cons_of_mem _ hb)]
theorem pick_back (xs : Array Value) : ((List.range xs.size).filterMap fun (m : Nat) => xs[((xs.size : Int) - 1 + (m : Int) * (-1)).toNat]?).toArray = xs.toList.reverse.toArray := by
  congr 1
  have e : (List.range xs.size).filterMap (fun (m : Nat) => xs[((xs.size : Int) - 1 + (m : Int) * (-1)).toNat]?) = ((List.range xs.size).map fun k => xs.size - 1 - k).filterMap (xs[·]?) := by
    rw [List.filterMap_map]
    apply filterMap_agree
    intro m hm
    have hm := List.mem_range.mp hm
    show xs[((xs.size : Int) - 1 + (m : Int) * (-1)).toNat]? = xs[xs.size - 1 - m]?
    have : ((xs.size : Int) - 1 + (m : Int) * (-1)).toNat = xs.size - 1 - m := by omega
    rw [this]
  rw [e, PySem.W.krv_range, List.filterMap_reverse, PySem.W.krv_all]
theorem getItem_tuple_back {t sl : Addr} {items : Array Value} {tk : Tok} {Q : Value → Shared → Prop} (ht : IsTup s.heap t items) (hs : s.heap.IsSliceOf sl .none .none (.int (-1) tk))
    (h : Q (.ref s.heap.objs.size) { s with heap := s.heap.push { cls := .type "tuple", data := .seq items.toList.reverse.toArray } }) (hsz : items.size ≤ sizeLine) : wpAny (model prog w) A (getItem (.ref t) (.ref sl)) Q E s := by
  have htake : sizeOk (.seq items.toList.reverse.toArray) := by
    show items.toList.reverse.toArray.size ≤ sizeLine
    rw [List.size_toArray, List.length_reverse, Array.length_toList]
    exact hsz
  obtain ⟨os, hos, hcs, hds⟩ := id hs
  have hTs : s.TypeIs (.ref sl) "slice" := ⟨os, hos, hcs⟩
  unfold getItem
  try with_reducible refine wpAny_holding ?_
  first | refine wpAny_bind (wpAny_pure ?_) | skip
  refine wpAny_bind (wpAny_sequenceKey ht.typeIs (by decide) ?_)
  refine wpAny_bind (wpAny_callSpecial?_slot (name := Str.ofString "__getitem__") ht.typeIs PyProof.Rows.slot_tuple_getitem
    (wpAny_call_entry PyProof.Rows.slot_tuple_getitem ht.typeIs entry_tuple_getitem ?_ (args_tuple_getitem _ _)))
  show wpAny _ _ (Builtin.Tuple.tupleItemsOf (.ref t) >>= _) _ _ s
  refine wpAny_bind (tupleItemsOf_ ht ?_)
  refine wpAny_bind (wpAny_typeOf hTs ?_)
  rw [if_pos (by decide)]
  refine wpAny_bind (sliceApplied_back hs ?_)
  have hno : ¬ (((items.size : Int) - 1 == 0 && (-1 : Int) == 1 && items.size == items.size) = true) := by
    intro q
    rw [Bool.and_eq_true, Bool.and_eq_true] at q
    exact absurd q.1.2 (by decide)
  show wpAny _ _ (if ((items.size : Int) - 1 == 0 && (-1 : Int) == 1 && items.size == items.size) = true then _ else _) _ _ s
  rw [if_neg hno, pick_back]
  first
    | exact wpAny_bind (m := Builtin.Tuple.tupleExact _) (wpAny_newObj_type (wpAny_pure ⟨_, rfl, wpAny_pure h⟩) htake)
    | exact wpAny_bind (m := Builtin.Tuple.tupleExact _) (wpAny_newObj_type (wpAny_bind (wpAny_pure (wpAny_pure ⟨_, rfl, wpAny_pure h⟩))) htake)
    | exact wpAny_bind (wpAny_bind (m := Builtin.Tuple.tupleExact _) (wpAny_newObj_type (wpAny_pure (wpAny_pure ⟨_, rfl, wpAny_pure h⟩)) htake))
    | exact wpAny_bind (wpAny_bind (m := Builtin.Tuple.tupleExact _) (wpAny_newObj_type (wpAny_pure ⟨_, rfl, wpAny_pure h⟩) htake))
end
def tRevT (K : PySem.W.Frag) (te : TE) : TE := fun σ H Q => te σ H fun x H1 => ∃ a xs, x = .ref a ∧ SqT K H1 a xs ∧ ∀ p, H1 p = none → Q (.ref p) (upd H1 p (.tup xs.reverse))
theorem pe_revT {X : Cx} {e : Expr} {te : TE} {k : Nat} {p1 p2 p3 pos : Pos} (he : PE X e te) : PE X (.Subscript e (.Slice none none (some (.UnaryOp .USub (.Constant (.int 1) k p1) p2)) p3) pos) (tRevT X.K te) := by
  refine ⟨fun pins s σ H Q I h => ?_⟩
  refine Subscript_ (thn (he.run pins s σ H _ I h) fun v s1 ⟨x, H1, I1, r1, q1⟩ => ?_)
  obtain ⟨a, xs, ex, hx, q⟩ := q1
  subst ex
  cases r1
  have hst : PO X (some (.UnaryOp .USub (.Constant (.int 1) k p1) p2)) (tPart (tUn (rU fun i => .int (-i)) (tC (.int 1)))) := po_some (pe_un un_neg pe_int)
  refine wpAny_Slice (thn (po_none.run pins s1 σ H1 (fun o H2 => o = none ∧ H2 = H1) I1 ⟨rfl, rfl⟩) fun vl s2 ⟨l, H2, I2, pl, el, e2⟩ => ?_)
  subst el e2
  refine thn (po_none.run pins s2 σ H2 (fun o H3 => o = none ∧ H3 = H2) I2 ⟨rfl, rfl⟩) fun vu s3 ⟨u, H3, I3, pu, eu, e3⟩ => ?_
  subst eu e3
  refine thn (hst.run pins s3 σ H3 (fun o H4 => o = some (-1) ∧ H4 = H3) I3 ⟨1, rfl, -1, rfl, rfl, rfl⟩) fun vs s4 ⟨o, H4, I4, ps, eo, e4⟩ => ?_
  subst eo e4
  have I5 : Inv X pins σ H4 { s4 with heap := s4.heap.push { cls := .type "slice", data := .fields #[vl, vu, vs] } } := I4.kept (t' := s4.toks) fun b ob q => Heap.get?_push_of_some _ q
  obtain ⟨its, r, ht, hz⟩ := I5.tuple hx
  have hlen := r.length
  cases pl
  cases pu
  cases ps
  show wpAny (model X.prog X.w) X.A (subscriptTail e (.Slice none none (some (.UnaryOp .USub (.Constant (.int 1) k p1) p2)) p3) (.ref a) (.ref s4.heap.objs.size)) (EP X pins σ Q) X.xe { s4 with heap := s4.heap.push { cls := .type "slice", data := .fields #[_, _, _] } }
  refine tail_any (ops := [.ref a, .ref s4.heap.objs.size]) ht.typeIs (PyProof.Rows.slot_tuple_getitem.lookup) ?_ (by with_unfolding_all rfl)
  refine getItem_tuple_back ht (Heap.IsSliceOf.new _ _ _ _) ?_ (by rw [List.size_toArray]; omega)
  refine ⟨.ref _, _, I5.laid (t' := s4.toks) (o := .tup xs.reverse) (fun b ob q => Heap.get?_push_of_some _ q) (Nat.le_refl _) ?_, rfl, q _ (I5.hok.fresh (Nat.le_refl _))⟩
  exact ⟨by rw [List.length_reverse]; exact hz, _, r.reverse, IsTup.new _ _⟩
/-- tuple(list): the new tuple known to its object -/
theorem call_tuple_ofF {X : Cx} : CallR X (.type "tuple") (fun xs H Q => ∃ p ys, xs = [.ref p] ∧ SqL X.K H p ys ∧ ∀ (l : Addr) (ob : Obj), H l = none → ob.dict = none → Q (.ref l) (upd H l (.frz ob (.tup ys)))) := by
  intro pins s σ H xs us Q I r h
  obtain ⟨p, ys, rfl, hq, q⟩ := h
  obtain ⟨u, rfl, rx⟩ := vals1 r
  cases rx
  obtain ⟨its, r', pl, hz⟩ := I.list hq
  have hlen := r'.length
  refine call_tuple_list pl.isList (fun h' kp => ?_) (by simp only [List.size_toArray] <;> omega)
  have I1 : Inv X pins σ H { s with heap := h' } := I.kept (t' := s.toks) kp
  have I2 : Inv X pins σ (upd H h'.objs.size (.frz { cls := .type "tuple", data := .seq its.toArray } (.tup ys))) { s with heap := h'.push { cls := .type "tuple", data := .seq its.toArray } } :=
    I1.laid (t' := s.toks) (fun b o e => Heap.get?_push_of_some _ e) (Nat.le_refl _) (show ObjOk X.prog X.w _ _ _ (.frz _ (.tup ys)) from ⟨Heap.get?_push_size _ rfl, hz, its, r', IsTup.new _ _⟩)
  exact ⟨.ref h'.objs.size, _, I2, rfl, q _ _ (I1.hok.fresh (Nat.le_refl _)) rfl⟩
/-- a method of such a tuple -/
def tBMT (r : V → List V → Hp → VK → Prop) (to : TE) (t : TA) : TE := fun σ H Q => to σ H fun x H1 => (∃ a ob ys, x = .ref a ∧ ob.dict = none ∧ H1 a = some (.frz ob (.tup ys))) ∧ t σ H1 fun xs H2 => r x xs H2 Q
theorem pe_bmT {X : Cx} {o e : Expr} {es : List Expr} {to : TE} {t : TA} {name : Str} {apos cpos : Pos} {id : String} {r : V → List V → Hp → VK → Prop} (pa : PlainAttrs "tuple") (slot : Slot "tuple" name id) (hty : typeOf (.builtin id) = pure (.type "method_descriptor")) (hm : MtR X id r) (ho : PE X o to) (ha : PA X (e :: es) t)
    (hbase : attributeBase o name X.env (eval o X.env) = eval o X.env := by rfl)
    (hfew : ((backTo cpos (starEach (e :: es) X.env)).all (fun x => !x.1) && (backToKw cpos (keywordEach [] X.env)).all (fun x => x.1.isSome)
      && decide ((e :: es).length + ([] : List Keyword).length + (if ([] : List Keyword).isEmpty then 0 else 1) < 30)) = true := by rfl)
    (hline : (apos.endLine == cpos.line) = true := by rfl) (hs : starEach (e :: es) X.env = (false, eval e X.env) :: starEach es X.env := by rfl) (hplain : (backTo cpos (starEach es X.env)).any (·.1) = false := by rfl) :
    PE X (.Call (.Attribute o name apos) (e :: es) [] cpos) (tBMT r to t) := by
  refine ⟨fun pins s σ H Q I h => ?_⟩
  refine wpAny_Call_method_late hbase hfew hline rfl (thn (ho.run pins s σ H _ I h) fun v s1 ⟨x, H1, I1, r1, ty, q1⟩ => ?_)
  obtain ⟨a, ob, ys, rfl, hd, ea⟩ := ty
  cases r1
  obtain ⟨e1, _, its, rv, o2, h1, h2, h3⟩ := (show ObjOk X.prog X.w H1 s1.heap a (.frz ob (.tup ys)) from I1.hok a _ ea)
  refine ⟨"tuple", id, pa, slot, hty, ⟨o2, h1, h2⟩, fun b eb => ?_, ?_⟩
  · cases eb
    exact ⟨ob, e1, hd⟩
  have hA := ha.run cpos pins s1 σ H1 _ I1 q1
  rw [hs] at hA ⊢
  refine Calls.callWith_builtin (by show (false || (backTo cpos (starEach es X.env)).any (·.1)) = false; rw [hplain] <;> rfl) (Calls.evalArgs_plain ?_)
  exact thn hA fun us s2 ⟨vs, H2, I2, r2, q2⟩ => hm pins s2 σ H2 (.ref a) vs (.ref a) us Q I2 rfl r2 q2
end Own
/-! ### sorted of rows of one width, any number of them -/
namespace Own
open PySem PySem.Spec PyProof.Rows L2 PySem.W PySem.SeqAt
def encB (b : Addr × List Int) : PyData := .tuple (b.2.map PyData.int)
def leB (a b : Addr × List Int) : Bool := decide (a.2 ≤ b.2)
theorem dataLe_encB : dataLe false encB = leB := by
  funext p q
  show (!dataLt (.tuple (q.2.map PyData.int)) (.tuple (p.2.map PyData.int))) = _
  rw [dataLt_tuple]
  show (!rowLt (q.2.map PyData.int) (p.2.map PyData.int)) = decide (p.2 ≤ q.2)
  rw [dataLt_ints]
  by_cases h : q.2 < p.2
  · have h' : ¬ p.2 ≤ q.2 := fun r => List.not_lt.mpr r h
    simp [h, h']
  · have h' : p.2 ≤ q.2 := List.not_lt.mp h
    simp [h, h']
theorem each_refs : ∀ (bs : List (Addr × List Int)), EachIs (fun (v : Value) (b : Addr × List Int) => v = .ref b.1) (bs.map fun b => Value.ref b.1) bs
  | [] => .nil
  | b :: bs => .cons rfl (each_refs bs)
theorem each_reads {h : Heap} : ∀ (bs : List (Addr × List Int)), (∀ b ∈ bs, ∃ as, Reads h (.ref b.1) (encB b) as) → EachIs (fun (v : Value) (b : Addr × List Int) => ∃ as, Reads h v (encB b) as) (bs.map fun b => Value.ref b.1) bs
  | [], _ => .nil
  | b :: bs, k => .cons (k b (List.mem_cons_self ..)) (each_reads bs fun c hc => k c (List.mem_cons_of_mem _ hc))
theorem refs_of : ∀ {bs : List (Addr × List Int)} {its : List Value}, Vals (bs.map fun b => V.ref b.1) its → its = bs.map fun b => Value.ref b.1
  | [], _, .nil => rfl
  | b :: bs, _, .cons r t => by
    rw [refs_of t]
    have r' : _ = Value.ref b.1 := r
    rw [r']
    rfl
theorem out_refs : ∀ {out : List Value} {bs : List (Addr × List Int)}, EachIs (fun (v : Value) (b : Addr × List Int) => v = .ref b.1) out bs → Vals (bs.map fun b => V.ref b.1) out
  | _, _, .nil => .nil
  | _, _, .cons h t => .cons h (out_refs t)
theorem depth_encB (b : Addr × List Int) : (encB b).depth ≤ 2 := by
  have h := PySem.W.depthAll_ints b.2
  unfold encB
  simp only [PyData.depth]
  omega
theorem alike_encB (a b : Addr × List Int) : alike (encB a) (encB b) = true := by
  unfold encB
  rw [alike]
  exact alike_ints a.2 b.2
theorem sortsAt_few {prog : Program} {w : World} {A : Around} {s : Shared} {vs : List Value} {ds : List PyData} (e : EachIs (fun v d => ∃ as, Reads s.heap v d as) vs ds) (hal : AllAlike ds) (hn : ∀ d ∈ ds, d ≠ .none) (hlen : vs.length ≤ 1) (hu : ∀ d, d ∈ ds → A.units + d.depth < cLine) : SortsAt prog w A s (dataKind s.heap ds) vs := by
  refine ⟨fun v hv => ?_, general', ?_, fun h2 => absurd h2 (by omega)⟩
  · obtain ⟨d, hd, as, r⟩ := e.left v hv
    exact ⟨_, dataKind_some hal hd r⟩
  · intro E x y a b Q ha hb hq
    obtain ⟨d, as, hd, ra, rfl⟩ := dataKind_inv ha
    obtain ⟨d', as', hd', rb, rfl⟩ := dataKind_inv hb
    show wpAny _ _ (oneLt' false x y) _ _ _
    exact oneLt_alike (fun z => Bool.noConfusion z) ra rb (hal d hd d' hd') (hn d hd) (Nat.lt_of_le_of_lt (Nat.add_le_add_left (Nat.min_le_left _ _) _) (hu d hd)) hq
def rSortedR (K : PySem.W.Frag) : List V → Hp → VK → Prop := fun vs H Q => ∃ (a : Addr) (bs : List (Addr × List Int)), vs = [V.ref a] ∧ SqL K H a (bs.map fun b => V.ref b.1) ∧ (∀ b ∈ bs, SqT K H b.1 (b.2.map V.int)) ∧ ((∀ b ∈ bs, b.2 ≠ []) ∨ bs.length ≤ 1) ∧
  ∀ p, H p = none → Q (.ref p) (upd H p (.lst ((bs.mergeSort leB).map fun b => V.ref b.1)))
theorem cr_sortedR {X : Cx} (hu : X.A.units + 64 < cLine) : CallR X (.builtin "sorted") (rSortedR X.K) := by
  intro pins s σ H vs us Q I r h
  obtain ⟨a, bs, rfl, hs, hb, hne, q⟩ := h
  obtain ⟨its, rv, hl, hz⟩ := I.list hs
  rw [Vals.ref1 r]
  have eits := refs_of rv
  subst eits
  rw [List.length_map] at hz
  have reads : ∀ b ∈ bs, ∃ as, Reads s.heap (.ref b.1) (encB b) as := fun b hbm => Dp.reads I (encB b) (.ref b.1) (.ref b.1) (.tup (hb b hbm) (dpAll_ints b.2)) rfl
  have er := each_reads bs reads
  have e := each_refs bs
  have fin : ∀ out : List Value, out.length = bs.length → EachIs (fun (v : Value) (b : Addr × List Int) => v = .ref b.1) out (bs.mergeSort (dataLe false encB)) → EP X pins σ Q (.ref (s.heap.objs.size + 1)) { s with heap := sortedAll s.heap (bs.map fun b => Value.ref b.1) (List.toArray out) } := fun out ho he => by
    rw [dataLe_encB] at he
    obtain ⟨ep, he'⟩ := PyProof.Rows.sortedAll_at s.heap (bs.map fun b => Value.ref b.1) out.toArray
    have hlen : ((bs.mergeSort leB).map fun b => V.ref b.1).length ≤ sizeLine := by
      rw [List.length_map, List.length_mergeSort]
      exact hz
    exact ⟨.ref _, upd H (s.heap.objs.size + 1) (.lst ((bs.mergeSort leB).map fun b => V.ref b.1)), I.laid (t' := s.toks) (fun _ _ => PyProof.Rows.sortedAll_old) (Nat.le_succ _) ⟨hlen, out, ep, out_refs he, he'⟩, rfl, q _ (I.hok.fresh (Nat.le_succ _))⟩
  have hd2 : ∀ b ∈ bs, X.A.units + 2 + (encB b).depth < cLine := fun b _ => by
    have := depth_encB b
    omega
  rcases hne with hne | hone
  · refine sorted_data hl.isList e er (AllAlike.of alike_encB) (.inl fun d hd => ?_) hz hd2 fin
    obtain ⟨b, hbm, rfl⟩ := List.mem_map.mp hd
    unfold encB
    cases hb2 : b.2 with
    | nil => exact absurd hb2 (hne b hbm)
    | cons x r => exact ⟨_, _, rfl⟩
  · have hal : AllAlike (bs.map encB) := AllAlike.of alike_encB
    have er' : EachIs (fun (v : Value) (b : Addr × List Int) => ∃ as, Reads (sortingHeap (copyHeap s.heap (bs.map fun b => Value.ref b.1)) (s.heap.objs.size + 1) (bs.map fun b => Value.ref b.1)) v (encB b) as) (bs.map fun b => Value.ref b.1) bs := er.mono fun _ _ ⟨as, r⟩ => ⟨as, PyProof.Rows.Reads.keeps (fun _ _ => sorting_copy_old) r⟩
    refine sorted_vals hl.isList (sortsAt_few (s := { s with heap := sortingHeap (copyHeap s.heap (bs.map fun b => Value.ref b.1)) (s.heap.objs.size + 1) (bs.map fun b => Value.ref b.1) }) (each_map (R := fun v d => ∃ as, Reads (sortingHeap (copyHeap s.heap (bs.map fun b => Value.ref b.1)) (s.heap.objs.size + 1) (bs.map fun b => Value.ref b.1)) v d as) encB er') hal (fun d hd => ?_) (by rw [List.length_map]; exact hone) (bound_map hd2)) (by rw [List.length_map]; exact hz)
      (fin _ (by rw [sortVals_length false rfl, List.length_map]) (sortVals_data false e er' hal))
    obtain ⟨b, _, rfl⟩ := List.mem_map.mp hd
    exact fun z => nomatch z
end Own
namespace Own
open PySem PySem.Spec PyProof.Rows L2
def SqB (b : Bool) (K : PySem.W.Frag) (H : Hp) (a : Addr) (us : List V) : Prop := match b with
  | true => SqL K H a us
  | false => SqT K H a us
theorem same_tup {K : PySem.W.Frag} {H H' : Hp} {a : Addr} {xs : List V} (e : Same H H') (h : SqT K H a xs) : SqT K H' a xs := by
  rcases h with (h | ⟨o, h⟩) | h
  · exact .inl (.inl (e _ _ h))
  · exact .inl (.inr ⟨o, e _ _ h⟩)
  · exact .inr h
theorem same_sqb {b : Bool} {K : PySem.W.Frag} {H H' : Hp} {a : Addr} {us : List V} (e : Same H H') (h : SqB b K H a us) : SqB b K H' a us := by
  cases b with
  | true => exact e.seq h
  | false => exact same_tup e h
/-- for .. in a list or a tuple: one walk for both -/
def iSeq (K : PySem.W.Frag) (tl : TE) : TI := fun σ H R => tl σ H fun x H1 => ∃ a us b, x = .ref a ∧ SqB b K H1 a us ∧
  ∀ J, Walk J us.length (fun H => SqB b K H a us) (YAt us) → R J H1
theorem pi_seq {X : Cx} {tg l : Expr} {tl : TE} (hl : PE X l tl) : PI X tg l (iSeq X.K tl) := by
  refine ⟨fun pins s σ H R I h => ?_⟩
  refine thn (hl.run pins s σ H _ I h) fun v s1 ⟨x, H1, I1, r1, q1⟩ => ?_
  obtain ⟨a, us, b, e, hq, q⟩ := q1
  subst e
  cases r1
  cases b with
  | true =>
    have hq : SqL X.K H1 a us := hq
    obtain ⟨its, rv, p, hz⟩ := I1.list hq
    refine wpAny_pyIter_list p.isList ?_
    refine ⟨s1.heap.objs.size, [s1.heap.objs.size], _, _, H1, rfl, I1.kept (t' := s1.toks) fun b o e => Heap.get?_push_of_some _ e, turn_list a _, ⟨_, Heap.get?_push_size _ rfl, rfl, rfl⟩, fun b hb => ?_, q _ walk_list⟩
    have e : b = s1.heap.objs.size := by simpa using hb
    subst e
    exact I1.fpOk (Nat.le_refl _) (I1.hok.fresh (Nat.le_refl _))
  | false =>
    have hq : SqT X.K H1 a us := hq
    obtain ⟨its, rv, p, hz⟩ := I1.tuple hq
    refine wpAny_pyIter_tuple (show s1.heap.IsTuple a its.toArray from p) ?_
    refine ⟨s1.heap.objs.size, [s1.heap.objs.size], _, _, H1, rfl, I1.kept (t' := s1.toks) fun b o e => Heap.get?_push_of_some _ e, turn_tuple a _, ⟨_, Heap.get?_push_size _ rfl, rfl, rfl⟩, fun b hb => ?_, q _ walk_tup⟩
    have e : b = s1.heap.objs.size := by simpa using hb
    subst e
    exact I1.fpOk (Nat.le_refl _) (I1.hok.fresh (Nat.le_refl _))
theorem sqb_of {K : PySem.W.Frag} {H : Hp} {a : Addr} {us : List V} (h : SqL K H a us ∨ SqT K H a us) : ∃ b, SqB b K H a us := h.elim (fun h => ⟨true, h⟩) fun h => ⟨false, h⟩
end Own
/-! rows as plain tuples -/
def RS (K : PySem.W.Frag) : Hp → V → List Int → Prop := fun H v r => ∃ t, v = .ref t ∧ SqT K H t (r.map V.int)
theorem st_RS {K : PySem.W.Frag} : Stable (RS K) := ⟨fun e ⟨t, a, b⟩ => ⟨t, a, Own.same_tup e b⟩, fun e ⟨t, a, b⟩ => ⟨t, a, by
  rcases b with (b | ⟨o, b⟩) | b
  · exact .inl (.inl (upd_put e b (fun _ z => by cases z)))
  · exact .inl (.inr ⟨o, upd_put e b (fun _ z => by cases z)⟩)
  · exact .inr b⟩⟩
theorem rs_of {K : PySem.W.Frag} {H : Hp} {v : V} {r : List Int} (h : RR H v r) : RS K H v r := by
  obtain ⟨t, e, b⟩ := h
  exact ⟨t, e, b.sq⟩
theorem rs_all {K : PySem.W.Frag} {H : Hp} : ∀ {us : List V} {rs : List (List Int)}, Paired (RR H) us rs → Paired (RS K H) us rs
  | _, _, .nil => .nil
  | _, _, .cons h t => .cons (rs_of h) (rs_all t)
end
def topS (i : Nat) : Stmt := PySem.Challenge.pw_polychains_k05_whole_matrices.main.body.getD i (.Pass ⟨0, 0, 0, 0⟩)
abbrev s_is_integer : Stmt := topS 4
abbrev N_is_integer : List Str := ["value"]
theorem sc_is_integer : FnScope N_is_integer ["value"] (defScope s_is_integer) := ⟨rfl, rfl, rfl, by decide +kernel, rfl, by decide +kernel, by decide +kernel⟩
abbrev s_power : Stmt := topS 5
abbrev N_power : List Str := ["a", "k", "result"]
theorem sc_power : FnScope N_power ["a", "k"] (defScope s_power) := ⟨rfl, rfl, rfl, by decide +kernel, rfl, by decide +kernel, by decide +kernel⟩
abbrev s_inverse : Stmt := topS 6
abbrev N_inverse : List Str := ["a", "p", "remainder"]
theorem sc_inverse : FnScope N_inverse ["a", "p"] (defScope s_inverse) := ⟨rfl, rfl, rfl, by decide +kernel, rfl, by decide +kernel, by decide +kernel⟩
abbrev s_is_row : Stmt := topS 8
abbrev N_is_row : List Str := ["value", "p", "n", "item"]
theorem sc_is_row : FnScope N_is_row ["value", "p", "n"] (defScope s_is_row) := ⟨rfl, rfl, rfl, by decide +kernel, rfl, by decide +kernel, by decide +kernel⟩
abbrev s_add : Stmt := topS 9
abbrev N_add : List Str := ["v", "w", "p", "x", "y"]
theorem sc_add : FnScope N_add ["v", "w", "p"] (defScope s_add) := ⟨rfl, rfl, rfl, by decide +kernel, rfl, by decide +kernel, by decide +kernel⟩
abbrev s_scaled : Stmt := topS 10
abbrev N_scaled : List Str := ["v", "a", "p", "x"]
theorem sc_scaled : FnScope N_scaled ["v", "a", "p"] (defScope s_scaled) := ⟨rfl, rfl, rfl, by decide +kernel, rfl, by decide +kernel, by decide +kernel⟩
abbrev s_combine : Stmt := topS 11
abbrev N_combine : List Str := ["rows", "weights", "width", "p", "total", "row", "weight"]
theorem sc_combine : FnScope N_combine ["rows", "weights", "width", "p"] (defScope s_combine) := ⟨rfl, rfl, rfl, by decide +kernel, rfl, by decide +kernel, by decide +kernel⟩
abbrev s__zeros : Stmt := topS 12
abbrev N__zeros : List Str := ["width"]
theorem sc__zeros : FnScope N__zeros ["width"] (defScope s__zeros) := ⟨rfl, rfl, rfl, by decide +kernel, rfl, by decide +kernel, by decide +kernel⟩
abbrev s__unit : Stmt := topS 13
abbrev N__unit : List Str := ["n", "at", "place"]
theorem sc__unit : FnScope N__unit ["n", "at"] (defScope s__unit) := ⟨rfl, rfl, rfl, by decide +kernel, rfl, by decide +kernel, by decide +kernel⟩
abbrev s__cleared : Stmt := topS 14
abbrev N__cleared : List Str := ["row", "lead", "at", "p"]
theorem sc__cleared : FnScope N__cleared ["row", "lead", "at", "p"] (defScope s__cleared) := ⟨rfl, rfl, rfl, by decide +kernel, rfl, by decide +kernel, by decide +kernel⟩
abbrev s__lead_at : Stmt := topS 15
abbrev N__lead_at : List Str := ["rows", "at", "p", "row"]
theorem sc__lead_at : FnScope N__lead_at ["rows", "at", "p"] (defScope s__lead_at) := ⟨rfl, rfl, rfl, by decide +kernel, rfl, by decide +kernel, by decide +kernel⟩
abbrev s_reduced : Stmt := topS 16
abbrev N_reduced : List Str := ["rows", "width", "p", "left", "table", "pivots", "at", "lead", "row"]
theorem sc_reduced : FnScope N_reduced ["rows", "width", "p"] (defScope s_reduced) := ⟨rfl, rfl, rfl, by decide +kernel, rfl, by decide +kernel, by decide +kernel⟩
abbrev s_span : Stmt := topS 17
abbrev N_span : List Str := ["rows", "width", "p", "table", "_"]
theorem sc_span : FnScope N_span ["rows", "width", "p"] (defScope s_span) := ⟨rfl, rfl, rfl, by decide +kernel, rfl, by decide +kernel, by decide +kernel⟩
abbrev s_identity : Stmt := topS 18
abbrev N_identity : List Str := ["n", "at"]
theorem sc_identity : FnScope N_identity ["n"] (defScope s_identity) := ⟨rfl, rfl, rfl, by decide +kernel, rfl, by decide +kernel, by decide +kernel⟩
abbrev s_is_matrix : Stmt := topS 19
abbrev N_is_matrix : List Str := ["value", "p", "n", "row"]
theorem sc_is_matrix : FnScope N_is_matrix ["value", "p", "n"] (defScope s_is_matrix) := ⟨rfl, rfl, rfl, by decide +kernel, rfl, by decide +kernel, by decide +kernel⟩
abbrev s_moved : Stmt := topS 20
abbrev N_moved : List Str := ["v", "matrix", "p"]
theorem sc_moved : FnScope N_moved ["v", "matrix", "p"] (defScope s_moved) := ⟨rfl, rfl, rfl, by decide +kernel, rfl, by decide +kernel, by decide +kernel⟩
abbrev s_times : Stmt := topS 21
abbrev N_times : List Str := ["one", "two", "p", "row"]
theorem sc_times : FnScope N_times ["one", "two", "p"] (defScope s_times) := ⟨rfl, rfl, rfl, by decide +kernel, rfl, by decide +kernel, by decide +kernel⟩
abbrev s_matrix_power : Stmt := topS 22
abbrev N_matrix_power : List Str := ["matrix", "k", "p", "result"]
theorem sc_matrix_power : FnScope N_matrix_power ["matrix", "k", "p"] (defScope s_matrix_power) := ⟨rfl, rfl, rfl, by decide +kernel, rfl, by decide +kernel, by decide +kernel⟩
abbrev s_is_invertible : Stmt := topS 23
abbrev N_is_invertible : List Str := ["matrix", "p"]
theorem sc_is_invertible : FnScope N_is_invertible ["matrix", "p"] (defScope s_is_invertible) := ⟨rfl, rfl, rfl, by decide +kernel, rfl, by decide +kernel, by decide +kernel⟩
abbrev s_matrix_inverse : Stmt := topS 24
abbrev N_matrix_inverse : List Str := ["matrix", "p", "n", "wide", "row", "unit"]
theorem sc_matrix_inverse : FnScope N_matrix_inverse ["matrix", "p"] (defScope s_matrix_inverse) := ⟨rfl, rfl, rfl, by decide +kernel, rfl, by decide +kernel, by decide +kernel⟩
abbrev s__law_state : Stmt := topS 26
abbrev N__law_state : List Str := ["script", "seed", "total", "cell"]
theorem sc__law_state : FnScope N__law_state ["script"] (defScope s__law_state) := ⟨rfl, rfl, rfl, by decide +kernel, rfl, by decide +kernel, by decide +kernel⟩
abbrev s__law_take : Stmt := topS 27
abbrev N__law_take : List Str := ["state", "m", "value"]
theorem sc__law_take : FnScope N__law_take ["state", "m"] (defScope s__law_take) := ⟨rfl, rfl, rfl, by decide +kernel, rfl, by decide +kernel, by decide +kernel⟩
abbrev s__law_sum : Stmt := topS 28
abbrev N__law_sum : List Str := ["v", "w", "p", "k"]
theorem sc__law_sum : FnScope N__law_sum ["v", "w", "p"] (defScope s__law_sum) := ⟨rfl, rfl, rfl, by decide +kernel, rfl, by decide +kernel, by decide +kernel⟩
abbrev s__law_scaled : Stmt := topS 29
abbrev N__law_scaled : List Str := ["v", "a", "p", "x"]
theorem sc__law_scaled : FnScope N__law_scaled ["v", "a", "p"] (defScope s__law_scaled) := ⟨rfl, rfl, rfl, by decide +kernel, rfl, by decide +kernel, by decide +kernel⟩
abbrev s__law_zero : Stmt := topS 30
abbrev N__law_zero : List Str := ["n", "k"]
theorem sc__law_zero : FnScope N__law_zero ["n"] (defScope s__law_zero) := ⟨rfl, rfl, rfl, by decide +kernel, rfl, by decide +kernel, by decide +kernel⟩
abbrev s__law_unit : Stmt := topS 31
abbrev N__law_unit : List Str := ["n", "at", "k"]
theorem sc__law_unit : FnScope N__law_unit ["n", "at"] (defScope s__law_unit) := ⟨rfl, rfl, rfl, by decide +kernel, rfl, by decide +kernel, by decide +kernel⟩
abbrev s__law_all : Stmt := topS 32
abbrev N__law_all : List Str := ["n", "p", "out", "k", "longer", "word", "a"]
theorem sc__law_all : FnScope N__law_all ["n", "p"] (defScope s__law_all) := ⟨rfl, rfl, rfl, by decide +kernel, rfl, by decide +kernel, by decide +kernel⟩
abbrev s__law_element : Stmt := topS 33
abbrev N__law_element : List Str := ["state", "p", "n", "k"]
theorem sc__law_element : FnScope N__law_element ["state", "p", "n"] (defScope s__law_element) := ⟨rfl, rfl, rfl, by decide +kernel, rfl, by decide +kernel, by decide +kernel⟩
abbrev s__law_span : Stmt := topS 34
abbrev N__law_span : List Str := ["rows", "n", "p", "found", "row", "longer", "word", "a"]
theorem sc__law_span : FnScope N__law_span ["rows", "n", "p"] (defScope s__law_span) := ⟨rfl, rfl, rfl, by decide +kernel, rfl, by decide +kernel, by decide +kernel⟩
abbrev s__law_prime : Stmt := topS 35
abbrev N__law_prime : List Str := ["state"]
theorem sc__law_prime : FnScope N__law_prime ["state"] (defScope s__law_prime) := ⟨rfl, rfl, rfl, by decide +kernel, rfl, by decide +kernel, by decide +kernel⟩
abbrev s__law_total : Stmt := topS 36
abbrev N__law_total : List Str := ["p", "rows", "weights", "n", "total", "k"]
theorem sc__law_total : FnScope N__law_total ["p", "rows", "weights", "n"] (defScope s__law_total) := ⟨rfl, rfl, rfl, by decide +kernel, rfl, by decide +kernel, by decide +kernel⟩
abbrev s__law_times : Stmt := topS 37
abbrev N__law_times : List Str := ["p", "a", "b", "n", "i", "j", "k"]
theorem sc__law_times : FnScope N__law_times ["p", "a", "b"] (defScope s__law_times) := ⟨rfl, rfl, rfl, by decide +kernel, rfl, by decide +kernel, by decide +kernel⟩
abbrev s__law_reason : Stmt := topS 38
abbrev N__law_reason : List Str := ["matrix", "p", "e"]
theorem sc__law_reason : FnScope N__law_reason ["matrix", "p"] (defScope s__law_reason) := ⟨rfl, rfl, rfl, by decide +kernel, rfl, by decide +kernel, by decide +kernel⟩
abbrev s_law : Stmt := topS 39
abbrev N_law : List Str := ["script", "state", "p", "n", "k", "a", "b", "one", "v", "due", "turn", "plain", "told", "back", "wrong", "value"]
theorem sc_law : FnScope N_law ["script"] (defScope s_law) := ⟨rfl, rfl, rfl, by decide +kernel, rfl, by decide +kernel, by decide +kernel⟩
structure Txt (K : PySem.W.Frag) (mg : Str → Option Value) where
  a_is_integer : Addr
  d_is_integer : FuncData
  F_is_integer : Fun K "is_integer" "is_integer" s_is_integer a_is_integer d_is_integer
  g_is_integer : mg "is_integer" = some (.ref a_is_integer)
  b_is_integer : Binds K d_is_integer ["value"] []
  a_power : Addr
  d_power : FuncData
  F_power : Fun K "power" "power" s_power a_power d_power
  g_power : mg "power" = some (.ref a_power)
  b_power : Binds K d_power ["a", "k"] []
  a_inverse : Addr
  d_inverse : FuncData
  F_inverse : Fun K "inverse" "inverse" s_inverse a_inverse d_inverse
  g_inverse : mg "inverse" = some (.ref a_inverse)
  b_inverse : Binds K d_inverse ["a", "p"] []
  a_is_row : Addr
  d_is_row : FuncData
  F_is_row : Fun K "is_row" "is_row" s_is_row a_is_row d_is_row
  g_is_row : mg "is_row" = some (.ref a_is_row)
  b_is_row : Binds K d_is_row ["value", "p", "n"] []
  a_add : Addr
  d_add : FuncData
  F_add : Fun K "add" "add" s_add a_add d_add
  g_add : mg "add" = some (.ref a_add)
  b_add : Binds K d_add ["v", "w", "p"] []
  a_scaled : Addr
  d_scaled : FuncData
  F_scaled : Fun K "scaled" "scaled" s_scaled a_scaled d_scaled
  g_scaled : mg "scaled" = some (.ref a_scaled)
  b_scaled : Binds K d_scaled ["v", "a", "p"] []
  a_combine : Addr
  d_combine : FuncData
  F_combine : Fun K "combine" "combine" s_combine a_combine d_combine
  g_combine : mg "combine" = some (.ref a_combine)
  b_combine : Binds K d_combine ["rows", "weights", "width", "p"] []
  a__zeros : Addr
  d__zeros : FuncData
  F__zeros : Fun K "_zeros" "_zeros" s__zeros a__zeros d__zeros
  g__zeros : mg "_zeros" = some (.ref a__zeros)
  b__zeros : Binds K d__zeros ["width"] []
  a__unit : Addr
  d__unit : FuncData
  F__unit : Fun K "_unit" "_unit" s__unit a__unit d__unit
  g__unit : mg "_unit" = some (.ref a__unit)
  b__unit : Binds K d__unit ["n", "at"] []
  a__cleared : Addr
  d__cleared : FuncData
  F__cleared : Fun K "_cleared" "_cleared" s__cleared a__cleared d__cleared
  g__cleared : mg "_cleared" = some (.ref a__cleared)
  b__cleared : Binds K d__cleared ["row", "lead", "at", "p"] []
  a__lead_at : Addr
  d__lead_at : FuncData
  F__lead_at : Fun K "_lead_at" "_lead_at" s__lead_at a__lead_at d__lead_at
  g__lead_at : mg "_lead_at" = some (.ref a__lead_at)
  b__lead_at : Binds K d__lead_at ["rows", "at", "p"] []
  a_reduced : Addr
  d_reduced : FuncData
  F_reduced : Fun K "reduced" "reduced" s_reduced a_reduced d_reduced
  g_reduced : mg "reduced" = some (.ref a_reduced)
  b_reduced : Binds K d_reduced ["rows", "width", "p"] []
  a_span : Addr
  d_span : FuncData
  F_span : Fun K "span" "span" s_span a_span d_span
  g_span : mg "span" = some (.ref a_span)
  b_span : Binds K d_span ["rows", "width", "p"] []
  a_identity : Addr
  d_identity : FuncData
  F_identity : Fun K "identity" "identity" s_identity a_identity d_identity
  g_identity : mg "identity" = some (.ref a_identity)
  b_identity : Binds K d_identity ["n"] []
  a_is_matrix : Addr
  d_is_matrix : FuncData
  F_is_matrix : Fun K "is_matrix" "is_matrix" s_is_matrix a_is_matrix d_is_matrix
  g_is_matrix : mg "is_matrix" = some (.ref a_is_matrix)
  b_is_matrix : Binds K d_is_matrix ["value", "p", "n"] []
  a_moved : Addr
  d_moved : FuncData
  F_moved : Fun K "moved" "moved" s_moved a_moved d_moved
  g_moved : mg "moved" = some (.ref a_moved)
  b_moved : Binds K d_moved ["v", "matrix", "p"] []
  a_times : Addr
  d_times : FuncData
  F_times : Fun K "times" "times" s_times a_times d_times
  g_times : mg "times" = some (.ref a_times)
  b_times : Binds K d_times ["one", "two", "p"] []
  a_matrix_power : Addr
  d_matrix_power : FuncData
  F_matrix_power : Fun K "matrix_power" "matrix_power" s_matrix_power a_matrix_power d_matrix_power
  g_matrix_power : mg "matrix_power" = some (.ref a_matrix_power)
  b_matrix_power : Binds K d_matrix_power ["matrix", "k", "p"] []
  a_is_invertible : Addr
  d_is_invertible : FuncData
  F_is_invertible : Fun K "is_invertible" "is_invertible" s_is_invertible a_is_invertible d_is_invertible
  g_is_invertible : mg "is_invertible" = some (.ref a_is_invertible)
  b_is_invertible : Binds K d_is_invertible ["matrix", "p"] []
  a_matrix_inverse : Addr
  d_matrix_inverse : FuncData
  F_matrix_inverse : Fun K "matrix_inverse" "matrix_inverse" s_matrix_inverse a_matrix_inverse d_matrix_inverse
  g_matrix_inverse : mg "matrix_inverse" = some (.ref a_matrix_inverse)
  b_matrix_inverse : Binds K d_matrix_inverse ["matrix", "p"] []
  a__law_state : Addr
  d__law_state : FuncData
  F__law_state : Fun K "_law_state" "_law_state" s__law_state a__law_state d__law_state
  g__law_state : mg "_law_state" = some (.ref a__law_state)
  b__law_state : Binds K d__law_state ["script"] []
  a__law_take : Addr
  d__law_take : FuncData
  F__law_take : Fun K "_law_take" "_law_take" s__law_take a__law_take d__law_take
  g__law_take : mg "_law_take" = some (.ref a__law_take)
  b__law_take : Binds K d__law_take ["state", "m"] []
  a__law_sum : Addr
  d__law_sum : FuncData
  F__law_sum : Fun K "_law_sum" "_law_sum" s__law_sum a__law_sum d__law_sum
  g__law_sum : mg "_law_sum" = some (.ref a__law_sum)
  b__law_sum : Binds K d__law_sum ["v", "w", "p"] []
  a__law_scaled : Addr
  d__law_scaled : FuncData
  F__law_scaled : Fun K "_law_scaled" "_law_scaled" s__law_scaled a__law_scaled d__law_scaled
  g__law_scaled : mg "_law_scaled" = some (.ref a__law_scaled)
  b__law_scaled : Binds K d__law_scaled ["v", "a", "p"] []
  a__law_zero : Addr
  d__law_zero : FuncData
  F__law_zero : Fun K "_law_zero" "_law_zero" s__law_zero a__law_zero d__law_zero
  g__law_zero : mg "_law_zero" = some (.ref a__law_zero)
  b__law_zero : Binds K d__law_zero ["n"] []
  a__law_unit : Addr
  d__law_unit : FuncData
  F__law_unit : Fun K "_law_unit" "_law_unit" s__law_unit a__law_unit d__law_unit
  g__law_unit : mg "_law_unit" = some (.ref a__law_unit)
  b__law_unit : Binds K d__law_unit ["n", "at"] []
  a__law_all : Addr
  d__law_all : FuncData
  F__law_all : Fun K "_law_all" "_law_all" s__law_all a__law_all d__law_all
  g__law_all : mg "_law_all" = some (.ref a__law_all)
  b__law_all : Binds K d__law_all ["n", "p"] []
  a__law_element : Addr
  d__law_element : FuncData
  F__law_element : Fun K "_law_element" "_law_element" s__law_element a__law_element d__law_element
  g__law_element : mg "_law_element" = some (.ref a__law_element)
  b__law_element : Binds K d__law_element ["state", "p", "n"] []
  a__law_span : Addr
  d__law_span : FuncData
  F__law_span : Fun K "_law_span" "_law_span" s__law_span a__law_span d__law_span
  g__law_span : mg "_law_span" = some (.ref a__law_span)
  b__law_span : Binds K d__law_span ["rows", "n", "p"] []
  a__law_prime : Addr
  d__law_prime : FuncData
  F__law_prime : Fun K "_law_prime" "_law_prime" s__law_prime a__law_prime d__law_prime
  g__law_prime : mg "_law_prime" = some (.ref a__law_prime)
  b__law_prime : Binds K d__law_prime ["state"] []
  a__law_total : Addr
  d__law_total : FuncData
  F__law_total : Fun K "_law_total" "_law_total" s__law_total a__law_total d__law_total
  g__law_total : mg "_law_total" = some (.ref a__law_total)
  b__law_total : Binds K d__law_total ["p", "rows", "weights", "n"] []
  a__law_times : Addr
  d__law_times : FuncData
  F__law_times : Fun K "_law_times" "_law_times" s__law_times a__law_times d__law_times
  g__law_times : mg "_law_times" = some (.ref a__law_times)
  b__law_times : Binds K d__law_times ["p", "a", "b"] []
  a__law_reason : Addr
  d__law_reason : FuncData
  F__law_reason : Fun K "_law_reason" "_law_reason" s__law_reason a__law_reason d__law_reason
  g__law_reason : mg "_law_reason" = some (.ref a__law_reason)
  b__law_reason : Binds K d__law_reason ["matrix", "p"] []
  a_law : Addr
  d_law : FuncData
  F_law : Fun K "law" "law" s_law a_law d_law
  g_law : mg "law" = some (.ref a_law)
  b_law : Binds K d_law ["script"] []
  n_isinstance : mg "isinstance" = none
  n_int : mg "int" = none
  n_bool : mg "bool" = none
  n_all : mg "all" = none
  n_tuple : mg "tuple" = none
  n_len : mg "len" = none
  n_zip : mg "zip" = none
  n_range : mg "range" = none
  n_list : mg "list" = none
  n_abs : mg "abs" = none
  n_sorted : mg "sorted" = none
  n_sum : mg "sum" = none
def txt_mk {K : PySem.W.Frag} {h : Heap} {mg : Str → Option Value} (X : K.In h) (G : h.Ns mainGlobals mg)
    {f_is_integer : Addr} {od_is_integer an_is_integer : Option Addr} {sl_is_integer : Array (Option Value)} {oc_is_integer kV_is_integer dc_is_integer pm_is_integer cd_is_integer ct_is_integer : Value}
    (a_is_integer : PySem.W.nsIn K mainGlobals "is_integer" = some (some (.ref f_is_integer))) (l_is_integer : K.lookup f_is_integer = some ⟨oc_is_integer, od_is_integer, .func (PySem.W.fnOf "is_integer" "is_integer" (defArgs s_is_integer) (defBody s_is_integer) (defScope s_is_integer) .none kV_is_integer dc_is_integer pm_is_integer an_is_integer cd_is_integer ct_is_integer), sl_is_integer⟩)
    (c_is_integer : PySem.W.codeIn K cd_is_integer "is_integer" = true) (k_is_integer : PySem.W.keepIn K (.ref f_is_integer) = true)
    {f_power : Addr} {od_power an_power : Option Addr} {sl_power : Array (Option Value)} {oc_power kV_power dc_power pm_power cd_power ct_power : Value}
    (a_power : PySem.W.nsIn K mainGlobals "power" = some (some (.ref f_power))) (l_power : K.lookup f_power = some ⟨oc_power, od_power, .func (PySem.W.fnOf "power" "power" (defArgs s_power) (defBody s_power) (defScope s_power) .none kV_power dc_power pm_power an_power cd_power ct_power), sl_power⟩)
    (c_power : PySem.W.codeIn K cd_power "power" = true) (k_power : PySem.W.keepIn K (.ref f_power) = true)
    {f_inverse : Addr} {od_inverse an_inverse : Option Addr} {sl_inverse : Array (Option Value)} {oc_inverse kV_inverse dc_inverse pm_inverse cd_inverse ct_inverse : Value}
    (a_inverse : PySem.W.nsIn K mainGlobals "inverse" = some (some (.ref f_inverse))) (l_inverse : K.lookup f_inverse = some ⟨oc_inverse, od_inverse, .func (PySem.W.fnOf "inverse" "inverse" (defArgs s_inverse) (defBody s_inverse) (defScope s_inverse) .none kV_inverse dc_inverse pm_inverse an_inverse cd_inverse ct_inverse), sl_inverse⟩)
    (c_inverse : PySem.W.codeIn K cd_inverse "inverse" = true) (k_inverse : PySem.W.keepIn K (.ref f_inverse) = true)
    {f_is_row : Addr} {od_is_row an_is_row : Option Addr} {sl_is_row : Array (Option Value)} {oc_is_row kV_is_row dc_is_row pm_is_row cd_is_row ct_is_row : Value}
    (a_is_row : PySem.W.nsIn K mainGlobals "is_row" = some (some (.ref f_is_row))) (l_is_row : K.lookup f_is_row = some ⟨oc_is_row, od_is_row, .func (PySem.W.fnOf "is_row" "is_row" (defArgs s_is_row) (defBody s_is_row) (defScope s_is_row) .none kV_is_row dc_is_row pm_is_row an_is_row cd_is_row ct_is_row), sl_is_row⟩)
    (c_is_row : PySem.W.codeIn K cd_is_row "is_row" = true) (k_is_row : PySem.W.keepIn K (.ref f_is_row) = true)
    {f_add : Addr} {od_add an_add : Option Addr} {sl_add : Array (Option Value)} {oc_add kV_add dc_add pm_add cd_add ct_add : Value}
    (a_add : PySem.W.nsIn K mainGlobals "add" = some (some (.ref f_add))) (l_add : K.lookup f_add = some ⟨oc_add, od_add, .func (PySem.W.fnOf "add" "add" (defArgs s_add) (defBody s_add) (defScope s_add) .none kV_add dc_add pm_add an_add cd_add ct_add), sl_add⟩)
    (c_add : PySem.W.codeIn K cd_add "add" = true) (k_add : PySem.W.keepIn K (.ref f_add) = true)
    {f_scaled : Addr} {od_scaled an_scaled : Option Addr} {sl_scaled : Array (Option Value)} {oc_scaled kV_scaled dc_scaled pm_scaled cd_scaled ct_scaled : Value}
    (a_scaled : PySem.W.nsIn K mainGlobals "scaled" = some (some (.ref f_scaled))) (l_scaled : K.lookup f_scaled = some ⟨oc_scaled, od_scaled, .func (PySem.W.fnOf "scaled" "scaled" (defArgs s_scaled) (defBody s_scaled) (defScope s_scaled) .none kV_scaled dc_scaled pm_scaled an_scaled cd_scaled ct_scaled), sl_scaled⟩)
    (c_scaled : PySem.W.codeIn K cd_scaled "scaled" = true) (k_scaled : PySem.W.keepIn K (.ref f_scaled) = true)
    {f_combine : Addr} {od_combine an_combine : Option Addr} {sl_combine : Array (Option Value)} {oc_combine kV_combine dc_combine pm_combine cd_combine ct_combine : Value}
    (a_combine : PySem.W.nsIn K mainGlobals "combine" = some (some (.ref f_combine))) (l_combine : K.lookup f_combine = some ⟨oc_combine, od_combine, .func (PySem.W.fnOf "combine" "combine" (defArgs s_combine) (defBody s_combine) (defScope s_combine) .none kV_combine dc_combine pm_combine an_combine cd_combine ct_combine), sl_combine⟩)
    (c_combine : PySem.W.codeIn K cd_combine "combine" = true) (k_combine : PySem.W.keepIn K (.ref f_combine) = true)
    {f__zeros : Addr} {od__zeros an__zeros : Option Addr} {sl__zeros : Array (Option Value)} {oc__zeros kV__zeros dc__zeros pm__zeros cd__zeros ct__zeros : Value}
    (a__zeros : PySem.W.nsIn K mainGlobals "_zeros" = some (some (.ref f__zeros))) (l__zeros : K.lookup f__zeros = some ⟨oc__zeros, od__zeros, .func (PySem.W.fnOf "_zeros" "_zeros" (defArgs s__zeros) (defBody s__zeros) (defScope s__zeros) .none kV__zeros dc__zeros pm__zeros an__zeros cd__zeros ct__zeros), sl__zeros⟩)
    (c__zeros : PySem.W.codeIn K cd__zeros "_zeros" = true) (k__zeros : PySem.W.keepIn K (.ref f__zeros) = true)
    {f__unit : Addr} {od__unit an__unit : Option Addr} {sl__unit : Array (Option Value)} {oc__unit kV__unit dc__unit pm__unit cd__unit ct__unit : Value}
    (a__unit : PySem.W.nsIn K mainGlobals "_unit" = some (some (.ref f__unit))) (l__unit : K.lookup f__unit = some ⟨oc__unit, od__unit, .func (PySem.W.fnOf "_unit" "_unit" (defArgs s__unit) (defBody s__unit) (defScope s__unit) .none kV__unit dc__unit pm__unit an__unit cd__unit ct__unit), sl__unit⟩)
    (c__unit : PySem.W.codeIn K cd__unit "_unit" = true) (k__unit : PySem.W.keepIn K (.ref f__unit) = true)
    {f__cleared : Addr} {od__cleared an__cleared : Option Addr} {sl__cleared : Array (Option Value)} {oc__cleared kV__cleared dc__cleared pm__cleared cd__cleared ct__cleared : Value}
    (a__cleared : PySem.W.nsIn K mainGlobals "_cleared" = some (some (.ref f__cleared))) (l__cleared : K.lookup f__cleared = some ⟨oc__cleared, od__cleared, .func (PySem.W.fnOf "_cleared" "_cleared" (defArgs s__cleared) (defBody s__cleared) (defScope s__cleared) .none kV__cleared dc__cleared pm__cleared an__cleared cd__cleared ct__cleared), sl__cleared⟩)
    (c__cleared : PySem.W.codeIn K cd__cleared "_cleared" = true) (k__cleared : PySem.W.keepIn K (.ref f__cleared) = true)
    {f__lead_at : Addr} {od__lead_at an__lead_at : Option Addr} {sl__lead_at : Array (Option Value)} {oc__lead_at kV__lead_at dc__lead_at pm__lead_at cd__lead_at ct__lead_at : Value}
    (a__lead_at : PySem.W.nsIn K mainGlobals "_lead_at" = some (some (.ref f__lead_at))) (l__lead_at : K.lookup f__lead_at = some ⟨oc__lead_at, od__lead_at, .func (PySem.W.fnOf "_lead_at" "_lead_at" (defArgs s__lead_at) (defBody s__lead_at) (defScope s__lead_at) .none kV__lead_at dc__lead_at pm__lead_at an__lead_at cd__lead_at ct__lead_at), sl__lead_at⟩)
    (c__lead_at : PySem.W.codeIn K cd__lead_at "_lead_at" = true) (k__lead_at : PySem.W.keepIn K (.ref f__lead_at) = true)
    {f_reduced : Addr} {od_reduced an_reduced : Option Addr} {sl_reduced : Array (Option Value)} {oc_reduced kV_reduced dc_reduced pm_reduced cd_reduced ct_reduced : Value}
    (a_reduced : PySem.W.nsIn K mainGlobals "reduced" = some (some (.ref f_reduced))) (l_reduced : K.lookup f_reduced = some ⟨oc_reduced, od_reduced, .func (PySem.W.fnOf "reduced" "reduced" (defArgs s_reduced) (defBody s_reduced) (defScope s_reduced) .none kV_reduced dc_reduced pm_reduced an_reduced cd_reduced ct_reduced), sl_reduced⟩)
    (c_reduced : PySem.W.codeIn K cd_reduced "reduced" = true) (k_reduced : PySem.W.keepIn K (.ref f_reduced) = true)
    {f_span : Addr} {od_span an_span : Option Addr} {sl_span : Array (Option Value)} {oc_span kV_span dc_span pm_span cd_span ct_span : Value}
    (a_span : PySem.W.nsIn K mainGlobals "span" = some (some (.ref f_span))) (l_span : K.lookup f_span = some ⟨oc_span, od_span, .func (PySem.W.fnOf "span" "span" (defArgs s_span) (defBody s_span) (defScope s_span) .none kV_span dc_span pm_span an_span cd_span ct_span), sl_span⟩)
    (c_span : PySem.W.codeIn K cd_span "span" = true) (k_span : PySem.W.keepIn K (.ref f_span) = true)
    {f_identity : Addr} {od_identity an_identity : Option Addr} {sl_identity : Array (Option Value)} {oc_identity kV_identity dc_identity pm_identity cd_identity ct_identity : Value}
    (a_identity : PySem.W.nsIn K mainGlobals "identity" = some (some (.ref f_identity))) (l_identity : K.lookup f_identity = some ⟨oc_identity, od_identity, .func (PySem.W.fnOf "identity" "identity" (defArgs s_identity) (defBody s_identity) (defScope s_identity) .none kV_identity dc_identity pm_identity an_identity cd_identity ct_identity), sl_identity⟩)
    (c_identity : PySem.W.codeIn K cd_identity "identity" = true) (k_identity : PySem.W.keepIn K (.ref f_identity) = true)
    {f_is_matrix : Addr} {od_is_matrix an_is_matrix : Option Addr} {sl_is_matrix : Array (Option Value)} {oc_is_matrix kV_is_matrix dc_is_matrix pm_is_matrix cd_is_matrix ct_is_matrix : Value}
    (a_is_matrix : PySem.W.nsIn K mainGlobals "is_matrix" = some (some (.ref f_is_matrix))) (l_is_matrix : K.lookup f_is_matrix = some ⟨oc_is_matrix, od_is_matrix, .func (PySem.W.fnOf "is_matrix" "is_matrix" (defArgs s_is_matrix) (defBody s_is_matrix) (defScope s_is_matrix) .none kV_is_matrix dc_is_matrix pm_is_matrix an_is_matrix cd_is_matrix ct_is_matrix), sl_is_matrix⟩)
    (c_is_matrix : PySem.W.codeIn K cd_is_matrix "is_matrix" = true) (k_is_matrix : PySem.W.keepIn K (.ref f_is_matrix) = true)
    {f_moved : Addr} {od_moved an_moved : Option Addr} {sl_moved : Array (Option Value)} {oc_moved kV_moved dc_moved pm_moved cd_moved ct_moved : Value}
    (a_moved : PySem.W.nsIn K mainGlobals "moved" = some (some (.ref f_moved))) (l_moved : K.lookup f_moved = some ⟨oc_moved, od_moved, .func (PySem.W.fnOf "moved" "moved" (defArgs s_moved) (defBody s_moved) (defScope s_moved) .none kV_moved dc_moved pm_moved an_moved cd_moved ct_moved), sl_moved⟩)
    (c_moved : PySem.W.codeIn K cd_moved "moved" = true) (k_moved : PySem.W.keepIn K (.ref f_moved) = true)
    {f_times : Addr} {od_times an_times : Option Addr} {sl_times : Array (Option Value)} {oc_times kV_times dc_times pm_times cd_times ct_times : Value}
    (a_times : PySem.W.nsIn K mainGlobals "times" = some (some (.ref f_times))) (l_times : K.lookup f_times = some ⟨oc_times, od_times, .func (PySem.W.fnOf "times" "times" (defArgs s_times) (defBody s_times) (defScope s_times) .none kV_times dc_times pm_times an_times cd_times ct_times), sl_times⟩)
    (c_times : PySem.W.codeIn K cd_times "times" = true) (k_times : PySem.W.keepIn K (.ref f_times) = true)
    {f_matrix_power : Addr} {od_matrix_power an_matrix_power : Option Addr} {sl_matrix_power : Array (Option Value)} {oc_matrix_power kV_matrix_power dc_matrix_power pm_matrix_power cd_matrix_power ct_matrix_power : Value}
    (a_matrix_power : PySem.W.nsIn K mainGlobals "matrix_power" = some (some (.ref f_matrix_power))) (l_matrix_power : K.lookup f_matrix_power = some ⟨oc_matrix_power, od_matrix_power, .func (PySem.W.fnOf "matrix_power" "matrix_power" (defArgs s_matrix_power) (defBody s_matrix_power) (defScope s_matrix_power) .none kV_matrix_power dc_matrix_power pm_matrix_power an_matrix_power cd_matrix_power ct_matrix_power), sl_matrix_power⟩)
    (c_matrix_power : PySem.W.codeIn K cd_matrix_power "matrix_power" = true) (k_matrix_power : PySem.W.keepIn K (.ref f_matrix_power) = true)
    {f_is_invertible : Addr} {od_is_invertible an_is_invertible : Option Addr} {sl_is_invertible : Array (Option Value)} {oc_is_invertible kV_is_invertible dc_is_invertible pm_is_invertible cd_is_invertible ct_is_invertible : Value}
    (a_is_invertible : PySem.W.nsIn K mainGlobals "is_invertible" = some (some (.ref f_is_invertible))) (l_is_invertible : K.lookup f_is_invertible = some ⟨oc_is_invertible, od_is_invertible, .func (PySem.W.fnOf "is_invertible" "is_invertible" (defArgs s_is_invertible) (defBody s_is_invertible) (defScope s_is_invertible) .none kV_is_invertible dc_is_invertible pm_is_invertible an_is_invertible cd_is_invertible ct_is_invertible), sl_is_invertible⟩)
    (c_is_invertible : PySem.W.codeIn K cd_is_invertible "is_invertible" = true) (k_is_invertible : PySem.W.keepIn K (.ref f_is_invertible) = true)
    {f_matrix_inverse : Addr} {od_matrix_inverse an_matrix_inverse : Option Addr} {sl_matrix_inverse : Array (Option Value)} {oc_matrix_inverse kV_matrix_inverse dc_matrix_inverse pm_matrix_inverse cd_matrix_inverse ct_matrix_inverse : Value}
    (a_matrix_inverse : PySem.W.nsIn K mainGlobals "matrix_inverse" = some (some (.ref f_matrix_inverse))) (l_matrix_inverse : K.lookup f_matrix_inverse = some ⟨oc_matrix_inverse, od_matrix_inverse, .func (PySem.W.fnOf "matrix_inverse" "matrix_inverse" (defArgs s_matrix_inverse) (defBody s_matrix_inverse) (defScope s_matrix_inverse) .none kV_matrix_inverse dc_matrix_inverse pm_matrix_inverse an_matrix_inverse cd_matrix_inverse ct_matrix_inverse), sl_matrix_inverse⟩)
    (c_matrix_inverse : PySem.W.codeIn K cd_matrix_inverse "matrix_inverse" = true) (k_matrix_inverse : PySem.W.keepIn K (.ref f_matrix_inverse) = true)
    {f__law_state : Addr} {od__law_state an__law_state : Option Addr} {sl__law_state : Array (Option Value)} {oc__law_state kV__law_state dc__law_state pm__law_state cd__law_state ct__law_state : Value}
    (a__law_state : PySem.W.nsIn K mainGlobals "_law_state" = some (some (.ref f__law_state))) (l__law_state : K.lookup f__law_state = some ⟨oc__law_state, od__law_state, .func (PySem.W.fnOf "_law_state" "_law_state" (defArgs s__law_state) (defBody s__law_state) (defScope s__law_state) .none kV__law_state dc__law_state pm__law_state an__law_state cd__law_state ct__law_state), sl__law_state⟩)
    (c__law_state : PySem.W.codeIn K cd__law_state "_law_state" = true) (k__law_state : PySem.W.keepIn K (.ref f__law_state) = true)
    {f__law_take : Addr} {od__law_take an__law_take : Option Addr} {sl__law_take : Array (Option Value)} {oc__law_take kV__law_take dc__law_take pm__law_take cd__law_take ct__law_take : Value}
    (a__law_take : PySem.W.nsIn K mainGlobals "_law_take" = some (some (.ref f__law_take))) (l__law_take : K.lookup f__law_take = some ⟨oc__law_take, od__law_take, .func (PySem.W.fnOf "_law_take" "_law_take" (defArgs s__law_take) (defBody s__law_take) (defScope s__law_take) .none kV__law_take dc__law_take pm__law_take an__law_take cd__law_take ct__law_take), sl__law_take⟩)
    (c__law_take : PySem.W.codeIn K cd__law_take "_law_take" = true) (k__law_take : PySem.W.keepIn K (.ref f__law_take) = true)
    {f__law_sum : Addr} {od__law_sum an__law_sum : Option Addr} {sl__law_sum : Array (Option Value)} {oc__law_sum kV__law_sum dc__law_sum pm__law_sum cd__law_sum ct__law_sum : Value}
    (a__law_sum : PySem.W.nsIn K mainGlobals "_law_sum" = some (some (.ref f__law_sum))) (l__law_sum : K.lookup f__law_sum = some ⟨oc__law_sum, od__law_sum, .func (PySem.W.fnOf "_law_sum" "_law_sum" (defArgs s__law_sum) (defBody s__law_sum) (defScope s__law_sum) .none kV__law_sum dc__law_sum pm__law_sum an__law_sum cd__law_sum ct__law_sum), sl__law_sum⟩)
    (c__law_sum : PySem.W.codeIn K cd__law_sum "_law_sum" = true) (k__law_sum : PySem.W.keepIn K (.ref f__law_sum) = true)
    {f__law_scaled : Addr} {od__law_scaled an__law_scaled : Option Addr} {sl__law_scaled : Array (Option Value)} {oc__law_scaled kV__law_scaled dc__law_scaled pm__law_scaled cd__law_scaled ct__law_scaled : Value}
    (a__law_scaled : PySem.W.nsIn K mainGlobals "_law_scaled" = some (some (.ref f__law_scaled))) (l__law_scaled : K.lookup f__law_scaled = some ⟨oc__law_scaled, od__law_scaled, .func (PySem.W.fnOf "_law_scaled" "_law_scaled" (defArgs s__law_scaled) (defBody s__law_scaled) (defScope s__law_scaled) .none kV__law_scaled dc__law_scaled pm__law_scaled an__law_scaled cd__law_scaled ct__law_scaled), sl__law_scaled⟩)
    (c__law_scaled : PySem.W.codeIn K cd__law_scaled "_law_scaled" = true) (k__law_scaled : PySem.W.keepIn K (.ref f__law_scaled) = true)
    {f__law_zero : Addr} {od__law_zero an__law_zero : Option Addr} {sl__law_zero : Array (Option Value)} {oc__law_zero kV__law_zero dc__law_zero pm__law_zero cd__law_zero ct__law_zero : Value}
    (a__law_zero : PySem.W.nsIn K mainGlobals "_law_zero" = some (some (.ref f__law_zero))) (l__law_zero : K.lookup f__law_zero = some ⟨oc__law_zero, od__law_zero, .func (PySem.W.fnOf "_law_zero" "_law_zero" (defArgs s__law_zero) (defBody s__law_zero) (defScope s__law_zero) .none kV__law_zero dc__law_zero pm__law_zero an__law_zero cd__law_zero ct__law_zero), sl__law_zero⟩)
    (c__law_zero : PySem.W.codeIn K cd__law_zero "_law_zero" = true) (k__law_zero : PySem.W.keepIn K (.ref f__law_zero) = true)
    {f__law_unit : Addr} {od__law_unit an__law_unit : Option Addr} {sl__law_unit : Array (Option Value)} {oc__law_unit kV__law_unit dc__law_unit pm__law_unit cd__law_unit ct__law_unit : Value}
    (a__law_unit : PySem.W.nsIn K mainGlobals "_law_unit" = some (some (.ref f__law_unit))) (l__law_unit : K.lookup f__law_unit = some ⟨oc__law_unit, od__law_unit, .func (PySem.W.fnOf "_law_unit" "_law_unit" (defArgs s__law_unit) (defBody s__law_unit) (defScope s__law_unit) .none kV__law_unit dc__law_unit pm__law_unit an__law_unit cd__law_unit ct__law_unit), sl__law_unit⟩)
    (c__law_unit : PySem.W.codeIn K cd__law_unit "_law_unit" = true) (k__law_unit : PySem.W.keepIn K (.ref f__law_unit) = true)
    {f__law_all : Addr} {od__law_all an__law_all : Option Addr} {sl__law_all : Array (Option Value)} {oc__law_all kV__law_all dc__law_all pm__law_all cd__law_all ct__law_all : Value}
    (a__law_all : PySem.W.nsIn K mainGlobals "_law_all" = some (some (.ref f__law_all))) (l__law_all : K.lookup f__law_all = some ⟨oc__law_all, od__law_all, .func (PySem.W.fnOf "_law_all" "_law_all" (defArgs s__law_all) (defBody s__law_all) (defScope s__law_all) .none kV__law_all dc__law_all pm__law_all an__law_all cd__law_all ct__law_all), sl__law_all⟩)
    (c__law_all : PySem.W.codeIn K cd__law_all "_law_all" = true) (k__law_all : PySem.W.keepIn K (.ref f__law_all) = true)
    {f__law_element : Addr} {od__law_element an__law_element : Option Addr} {sl__law_element : Array (Option Value)} {oc__law_element kV__law_element dc__law_element pm__law_element cd__law_element ct__law_element : Value}
    (a__law_element : PySem.W.nsIn K mainGlobals "_law_element" = some (some (.ref f__law_element))) (l__law_element : K.lookup f__law_element = some ⟨oc__law_element, od__law_element, .func (PySem.W.fnOf "_law_element" "_law_element" (defArgs s__law_element) (defBody s__law_element) (defScope s__law_element) .none kV__law_element dc__law_element pm__law_element an__law_element cd__law_element ct__law_element), sl__law_element⟩)
    (c__law_element : PySem.W.codeIn K cd__law_element "_law_element" = true) (k__law_element : PySem.W.keepIn K (.ref f__law_element) = true)
    {f__law_span : Addr} {od__law_span an__law_span : Option Addr} {sl__law_span : Array (Option Value)} {oc__law_span kV__law_span dc__law_span pm__law_span cd__law_span ct__law_span : Value}
    (a__law_span : PySem.W.nsIn K mainGlobals "_law_span" = some (some (.ref f__law_span))) (l__law_span : K.lookup f__law_span = some ⟨oc__law_span, od__law_span, .func (PySem.W.fnOf "_law_span" "_law_span" (defArgs s__law_span) (defBody s__law_span) (defScope s__law_span) .none kV__law_span dc__law_span pm__law_span an__law_span cd__law_span ct__law_span), sl__law_span⟩)
    (c__law_span : PySem.W.codeIn K cd__law_span "_law_span" = true) (k__law_span : PySem.W.keepIn K (.ref f__law_span) = true)
    {f__law_prime : Addr} {od__law_prime an__law_prime : Option Addr} {sl__law_prime : Array (Option Value)} {oc__law_prime kV__law_prime dc__law_prime pm__law_prime cd__law_prime ct__law_prime : Value}
    (a__law_prime : PySem.W.nsIn K mainGlobals "_law_prime" = some (some (.ref f__law_prime))) (l__law_prime : K.lookup f__law_prime = some ⟨oc__law_prime, od__law_prime, .func (PySem.W.fnOf "_law_prime" "_law_prime" (defArgs s__law_prime) (defBody s__law_prime) (defScope s__law_prime) .none kV__law_prime dc__law_prime pm__law_prime an__law_prime cd__law_prime ct__law_prime), sl__law_prime⟩)
    (c__law_prime : PySem.W.codeIn K cd__law_prime "_law_prime" = true) (k__law_prime : PySem.W.keepIn K (.ref f__law_prime) = true)
    {f__law_total : Addr} {od__law_total an__law_total : Option Addr} {sl__law_total : Array (Option Value)} {oc__law_total kV__law_total dc__law_total pm__law_total cd__law_total ct__law_total : Value}
    (a__law_total : PySem.W.nsIn K mainGlobals "_law_total" = some (some (.ref f__law_total))) (l__law_total : K.lookup f__law_total = some ⟨oc__law_total, od__law_total, .func (PySem.W.fnOf "_law_total" "_law_total" (defArgs s__law_total) (defBody s__law_total) (defScope s__law_total) .none kV__law_total dc__law_total pm__law_total an__law_total cd__law_total ct__law_total), sl__law_total⟩)
    (c__law_total : PySem.W.codeIn K cd__law_total "_law_total" = true) (k__law_total : PySem.W.keepIn K (.ref f__law_total) = true)
    {f__law_times : Addr} {od__law_times an__law_times : Option Addr} {sl__law_times : Array (Option Value)} {oc__law_times kV__law_times dc__law_times pm__law_times cd__law_times ct__law_times : Value}
    (a__law_times : PySem.W.nsIn K mainGlobals "_law_times" = some (some (.ref f__law_times))) (l__law_times : K.lookup f__law_times = some ⟨oc__law_times, od__law_times, .func (PySem.W.fnOf "_law_times" "_law_times" (defArgs s__law_times) (defBody s__law_times) (defScope s__law_times) .none kV__law_times dc__law_times pm__law_times an__law_times cd__law_times ct__law_times), sl__law_times⟩)
    (c__law_times : PySem.W.codeIn K cd__law_times "_law_times" = true) (k__law_times : PySem.W.keepIn K (.ref f__law_times) = true)
    {f__law_reason : Addr} {od__law_reason an__law_reason : Option Addr} {sl__law_reason : Array (Option Value)} {oc__law_reason kV__law_reason dc__law_reason pm__law_reason cd__law_reason ct__law_reason : Value}
    (a__law_reason : PySem.W.nsIn K mainGlobals "_law_reason" = some (some (.ref f__law_reason))) (l__law_reason : K.lookup f__law_reason = some ⟨oc__law_reason, od__law_reason, .func (PySem.W.fnOf "_law_reason" "_law_reason" (defArgs s__law_reason) (defBody s__law_reason) (defScope s__law_reason) .none kV__law_reason dc__law_reason pm__law_reason an__law_reason cd__law_reason ct__law_reason), sl__law_reason⟩)
    (c__law_reason : PySem.W.codeIn K cd__law_reason "_law_reason" = true) (k__law_reason : PySem.W.keepIn K (.ref f__law_reason) = true)
    {f_law : Addr} {od_law an_law : Option Addr} {sl_law : Array (Option Value)} {oc_law kV_law dc_law pm_law cd_law ct_law : Value}
    (a_law : PySem.W.nsIn K mainGlobals "law" = some (some (.ref f_law))) (l_law : K.lookup f_law = some ⟨oc_law, od_law, .func (PySem.W.fnOf "law" "law" (defArgs s_law) (defBody s_law) (defScope s_law) .none kV_law dc_law pm_law an_law cd_law ct_law), sl_law⟩)
    (c_law : PySem.W.codeIn K cd_law "law" = true) (k_law : PySem.W.keepIn K (.ref f_law) = true)
    (z_isinstance : PySem.W.nsIn K mainGlobals "isinstance" = some none)
    (z_int : PySem.W.nsIn K mainGlobals "int" = some none)
    (z_bool : PySem.W.nsIn K mainGlobals "bool" = some none)
    (z_all : PySem.W.nsIn K mainGlobals "all" = some none)
    (z_tuple : PySem.W.nsIn K mainGlobals "tuple" = some none)
    (z_len : PySem.W.nsIn K mainGlobals "len" = some none)
    (z_zip : PySem.W.nsIn K mainGlobals "zip" = some none)
    (z_range : PySem.W.nsIn K mainGlobals "range" = some none)
    (z_list : PySem.W.nsIn K mainGlobals "list" = some none)
    (z_abs : PySem.W.nsIn K mainGlobals "abs" = some none)
    (z_sorted : PySem.W.nsIn K mainGlobals "sorted" = some none)
    (z_sum : PySem.W.nsIn K mainGlobals "sum" = some none) : Txt K mg :=
  have F_is_integer := fun_mk (st := s_is_integer) l_is_integer c_is_integer k_is_integer
  have b_is_integer := F_is_integer.binds (ps := ["value"]) fun _ _ _ _ _ _ us hl => match us, hl with | [_], _ => rfl
  have F_power := fun_mk (st := s_power) l_power c_power k_power
  have b_power := F_power.binds (ps := ["a", "k"]) fun _ _ _ _ _ _ us hl => match us, hl with | [_, _], _ => rfl
  have F_inverse := fun_mk (st := s_inverse) l_inverse c_inverse k_inverse
  have b_inverse := F_inverse.binds (ps := ["a", "p"]) fun _ _ _ _ _ _ us hl => match us, hl with | [_, _], _ => rfl
  have F_is_row := fun_mk (st := s_is_row) l_is_row c_is_row k_is_row
  have b_is_row := F_is_row.binds (ps := ["value", "p", "n"]) fun _ _ _ _ _ _ us hl => match us, hl with | [_, _, _], _ => rfl
  have F_add := fun_mk (st := s_add) l_add c_add k_add
  have b_add := F_add.binds (ps := ["v", "w", "p"]) fun _ _ _ _ _ _ us hl => match us, hl with | [_, _, _], _ => rfl
  have F_scaled := fun_mk (st := s_scaled) l_scaled c_scaled k_scaled
  have b_scaled := F_scaled.binds (ps := ["v", "a", "p"]) fun _ _ _ _ _ _ us hl => match us, hl with | [_, _, _], _ => rfl
  have F_combine := fun_mk (st := s_combine) l_combine c_combine k_combine
  have b_combine := F_combine.binds (ps := ["rows", "weights", "width", "p"]) fun _ _ _ _ _ _ us hl => match us, hl with | [_, _, _, _], _ => rfl
  have F__zeros := fun_mk (st := s__zeros) l__zeros c__zeros k__zeros
  have b__zeros := F__zeros.binds (ps := ["width"]) fun _ _ _ _ _ _ us hl => match us, hl with | [_], _ => rfl
  have F__unit := fun_mk (st := s__unit) l__unit c__unit k__unit
  have b__unit := F__unit.binds (ps := ["n", "at"]) fun _ _ _ _ _ _ us hl => match us, hl with | [_, _], _ => rfl
  have F__cleared := fun_mk (st := s__cleared) l__cleared c__cleared k__cleared
  have b__cleared := F__cleared.binds (ps := ["row", "lead", "at", "p"]) fun _ _ _ _ _ _ us hl => match us, hl with | [_, _, _, _], _ => rfl
  have F__lead_at := fun_mk (st := s__lead_at) l__lead_at c__lead_at k__lead_at
  have b__lead_at := F__lead_at.binds (ps := ["rows", "at", "p"]) fun _ _ _ _ _ _ us hl => match us, hl with | [_, _, _], _ => rfl
  have F_reduced := fun_mk (st := s_reduced) l_reduced c_reduced k_reduced
  have b_reduced := F_reduced.binds (ps := ["rows", "width", "p"]) fun _ _ _ _ _ _ us hl => match us, hl with | [_, _, _], _ => rfl
  have F_span := fun_mk (st := s_span) l_span c_span k_span
  have b_span := F_span.binds (ps := ["rows", "width", "p"]) fun _ _ _ _ _ _ us hl => match us, hl with | [_, _, _], _ => rfl
  have F_identity := fun_mk (st := s_identity) l_identity c_identity k_identity
  have b_identity := F_identity.binds (ps := ["n"]) fun _ _ _ _ _ _ us hl => match us, hl with | [_], _ => rfl
  have F_is_matrix := fun_mk (st := s_is_matrix) l_is_matrix c_is_matrix k_is_matrix
  have b_is_matrix := F_is_matrix.binds (ps := ["value", "p", "n"]) fun _ _ _ _ _ _ us hl => match us, hl with | [_, _, _], _ => rfl
  have F_moved := fun_mk (st := s_moved) l_moved c_moved k_moved
  have b_moved := F_moved.binds (ps := ["v", "matrix", "p"]) fun _ _ _ _ _ _ us hl => match us, hl with | [_, _, _], _ => rfl
  have F_times := fun_mk (st := s_times) l_times c_times k_times
  have b_times := F_times.binds (ps := ["one", "two", "p"]) fun _ _ _ _ _ _ us hl => match us, hl with | [_, _, _], _ => rfl
  have F_matrix_power := fun_mk (st := s_matrix_power) l_matrix_power c_matrix_power k_matrix_power
  have b_matrix_power := F_matrix_power.binds (ps := ["matrix", "k", "p"]) fun _ _ _ _ _ _ us hl => match us, hl with | [_, _, _], _ => rfl
  have F_is_invertible := fun_mk (st := s_is_invertible) l_is_invertible c_is_invertible k_is_invertible
  have b_is_invertible := F_is_invertible.binds (ps := ["matrix", "p"]) fun _ _ _ _ _ _ us hl => match us, hl with | [_, _], _ => rfl
  have F_matrix_inverse := fun_mk (st := s_matrix_inverse) l_matrix_inverse c_matrix_inverse k_matrix_inverse
  have b_matrix_inverse := F_matrix_inverse.binds (ps := ["matrix", "p"]) fun _ _ _ _ _ _ us hl => match us, hl with | [_, _], _ => rfl
  have F__law_state := fun_mk (st := s__law_state) l__law_state c__law_state k__law_state
  have b__law_state := F__law_state.binds (ps := ["script"]) fun _ _ _ _ _ _ us hl => match us, hl with | [_], _ => rfl
  have F__law_take := fun_mk (st := s__law_take) l__law_take c__law_take k__law_take
  have b__law_take := F__law_take.binds (ps := ["state", "m"]) fun _ _ _ _ _ _ us hl => match us, hl with | [_, _], _ => rfl
  have F__law_sum := fun_mk (st := s__law_sum) l__law_sum c__law_sum k__law_sum
  have b__law_sum := F__law_sum.binds (ps := ["v", "w", "p"]) fun _ _ _ _ _ _ us hl => match us, hl with | [_, _, _], _ => rfl
  have F__law_scaled := fun_mk (st := s__law_scaled) l__law_scaled c__law_scaled k__law_scaled
  have b__law_scaled := F__law_scaled.binds (ps := ["v", "a", "p"]) fun _ _ _ _ _ _ us hl => match us, hl with | [_, _, _], _ => rfl
  have F__law_zero := fun_mk (st := s__law_zero) l__law_zero c__law_zero k__law_zero
  have b__law_zero := F__law_zero.binds (ps := ["n"]) fun _ _ _ _ _ _ us hl => match us, hl with | [_], _ => rfl
  have F__law_unit := fun_mk (st := s__law_unit) l__law_unit c__law_unit k__law_unit
  have b__law_unit := F__law_unit.binds (ps := ["n", "at"]) fun _ _ _ _ _ _ us hl => match us, hl with | [_, _], _ => rfl
  have F__law_all := fun_mk (st := s__law_all) l__law_all c__law_all k__law_all
  have b__law_all := F__law_all.binds (ps := ["n", "p"]) fun _ _ _ _ _ _ us hl => match us, hl with | [_, _], _ => rfl
  have F__law_element := fun_mk (st := s__law_element) l__law_element c__law_element k__law_element
  have b__law_element := F__law_element.binds (ps := ["state", "p", "n"]) fun _ _ _ _ _ _ us hl => match us, hl with | [_, _, _], _ => rfl
  have F__law_span := fun_mk (st := s__law_span) l__law_span c__law_span k__law_span
  have b__law_span := F__law_span.binds (ps := ["rows", "n", "p"]) fun _ _ _ _ _ _ us hl => match us, hl with | [_, _, _], _ => rfl
  have F__law_prime := fun_mk (st := s__law_prime) l__law_prime c__law_prime k__law_prime
  have b__law_prime := F__law_prime.binds (ps := ["state"]) fun _ _ _ _ _ _ us hl => match us, hl with | [_], _ => rfl
  have F__law_total := fun_mk (st := s__law_total) l__law_total c__law_total k__law_total
  have b__law_total := F__law_total.binds (ps := ["p", "rows", "weights", "n"]) fun _ _ _ _ _ _ us hl => match us, hl with | [_, _, _, _], _ => rfl
  have F__law_times := fun_mk (st := s__law_times) l__law_times c__law_times k__law_times
  have b__law_times := F__law_times.binds (ps := ["p", "a", "b"]) fun _ _ _ _ _ _ us hl => match us, hl with | [_, _, _], _ => rfl
  have F__law_reason := fun_mk (st := s__law_reason) l__law_reason c__law_reason k__law_reason
  have b__law_reason := F__law_reason.binds (ps := ["matrix", "p"]) fun _ _ _ _ _ _ us hl => match us, hl with | [_, _], _ => rfl
  have F_law := fun_mk (st := s_law) l_law c_law k_law
  have b_law := F_law.binds (ps := ["script"]) fun _ _ _ _ _ _ us hl => match us, hl with | [_], _ => rfl
  { a_is_integer := f_is_integer, d_is_integer := _, F_is_integer := F_is_integer, g_is_integer := PySem.W.mg_of X G a_is_integer, b_is_integer := b_is_integer, a_power := f_power, d_power := _, F_power := F_power, g_power := PySem.W.mg_of X G a_power, b_power := b_power, a_inverse := f_inverse, d_inverse := _, F_inverse := F_inverse, g_inverse := PySem.W.mg_of X G a_inverse, b_inverse := b_inverse, a_is_row := f_is_row, d_is_row := _, F_is_row := F_is_row, g_is_row := PySem.W.mg_of X G a_is_row, b_is_row := b_is_row, a_add := f_add, d_add := _, F_add := F_add, g_add := PySem.W.mg_of X G a_add, b_add := b_add, a_scaled := f_scaled, d_scaled := _, F_scaled := F_scaled, g_scaled := PySem.W.mg_of X G a_scaled, b_scaled := b_scaled, a_combine := f_combine, d_combine := _, F_combine := F_combine, g_combine := PySem.W.mg_of X G a_combine, b_combine := b_combine, a__zeros := f__zeros, d__zeros := _, F__zeros := F__zeros, g__zeros := PySem.W.mg_of X G a__zeros, b__zeros := b__zeros, a__unit := f__unit, d__unit := _, F__unit := F__unit, g__unit := PySem.W.mg_of X G a__unit, b__unit := b__unit, a__cleared := f__cleared, d__cleared := _, F__cleared := F__cleared, g__cleared := PySem.W.mg_of X G a__cleared, b__cleared := b__cleared, a__lead_at := f__lead_at, d__lead_at := _, F__lead_at := F__lead_at, g__lead_at := PySem.W.mg_of X G a__lead_at, b__lead_at := b__lead_at, a_reduced := f_reduced, d_reduced := _, F_reduced := F_reduced, g_reduced := PySem.W.mg_of X G a_reduced, b_reduced := b_reduced, a_span := f_span, d_span := _, F_span := F_span, g_span := PySem.W.mg_of X G a_span, b_span := b_span, a_identity := f_identity, d_identity := _, F_identity := F_identity, g_identity := PySem.W.mg_of X G a_identity, b_identity := b_identity, a_is_matrix := f_is_matrix, d_is_matrix := _, F_is_matrix := F_is_matrix, g_is_matrix := PySem.W.mg_of X G a_is_matrix, b_is_matrix := b_is_matrix, a_moved := f_moved, d_moved := _, F_moved := F_moved, g_moved := PySem.W.mg_of X G a_moved, b_moved := b_moved, a_times := f_times, d_times := _, F_times := F_times, g_times := PySem.W.mg_of X G a_times, b_times := b_times, a_matrix_power := f_matrix_power, d_matrix_power := _, F_matrix_power := F_matrix_power, g_matrix_power := PySem.W.mg_of X G a_matrix_power, b_matrix_power := b_matrix_power, a_is_invertible := f_is_invertible, d_is_invertible := _, F_is_invertible := F_is_invertible, g_is_invertible := PySem.W.mg_of X G a_is_invertible, b_is_invertible := b_is_invertible, a_matrix_inverse := f_matrix_inverse, d_matrix_inverse := _, F_matrix_inverse := F_matrix_inverse, g_matrix_inverse := PySem.W.mg_of X G a_matrix_inverse, b_matrix_inverse := b_matrix_inverse, a__law_state := f__law_state, d__law_state := _, F__law_state := F__law_state, g__law_state := PySem.W.mg_of X G a__law_state, b__law_state := b__law_state, a__law_take := f__law_take, d__law_take := _, F__law_take := F__law_take, g__law_take := PySem.W.mg_of X G a__law_take, b__law_take := b__law_take, a__law_sum := f__law_sum, d__law_sum := _, F__law_sum := F__law_sum, g__law_sum := PySem.W.mg_of X G a__law_sum, b__law_sum := b__law_sum, a__law_scaled := f__law_scaled, d__law_scaled := _, F__law_scaled := F__law_scaled, g__law_scaled := PySem.W.mg_of X G a__law_scaled, b__law_scaled := b__law_scaled, a__law_zero := f__law_zero, d__law_zero := _, F__law_zero := F__law_zero, g__law_zero := PySem.W.mg_of X G a__law_zero, b__law_zero := b__law_zero, a__law_unit := f__law_unit, d__law_unit := _, F__law_unit := F__law_unit, g__law_unit := PySem.W.mg_of X G a__law_unit, b__law_unit := b__law_unit, a__law_all := f__law_all, d__law_all := _, F__law_all := F__law_all, g__law_all := PySem.W.mg_of X G a__law_all, b__law_all := b__law_all, a__law_element := f__law_element, d__law_element := _, F__law_element := F__law_element, g__law_element := PySem.W.mg_of X G a__law_element, b__law_element := b__law_element, a__law_span := f__law_span, d__law_span := _, F__law_span := F__law_span, g__law_span := PySem.W.mg_of X G a__law_span, b__law_span := b__law_span, a__law_prime := f__law_prime, d__law_prime := _, F__law_prime := F__law_prime, g__law_prime := PySem.W.mg_of X G a__law_prime, b__law_prime := b__law_prime, a__law_total := f__law_total, d__law_total := _, F__law_total := F__law_total, g__law_total := PySem.W.mg_of X G a__law_total, b__law_total := b__law_total, a__law_times := f__law_times, d__law_times := _, F__law_times := F__law_times, g__law_times := PySem.W.mg_of X G a__law_times, b__law_times := b__law_times, a__law_reason := f__law_reason, d__law_reason := _, F__law_reason := F__law_reason, g__law_reason := PySem.W.mg_of X G a__law_reason, b__law_reason := b__law_reason, a_law := f_law, d_law := _, F_law := F_law, g_law := PySem.W.mg_of X G a_law, b_law := b_law, n_isinstance := PySem.W.mg_none_of X G z_isinstance, n_int := PySem.W.mg_none_of X G z_int, n_bool := PySem.W.mg_none_of X G z_bool, n_all := PySem.W.mg_none_of X G z_all, n_tuple := PySem.W.mg_none_of X G z_tuple, n_len := PySem.W.mg_none_of X G z_len, n_zip := PySem.W.mg_none_of X G z_zip, n_range := PySem.W.mg_none_of X G z_range, n_list := PySem.W.mg_none_of X G z_list, n_abs := PySem.W.mg_none_of X G z_abs, n_sorted := PySem.W.mg_none_of X G z_sorted, n_sum := PySem.W.mg_none_of X G z_sum }
section
variable {P : Program} {w : World} {K : PySem.W.Frag} {mg : Str → Option Value} {base : Heap}
/-! ### power -/
def spPower : Sp := fun vs H Q _ => ∃ (a : Int) (k : Nat), vs = [.int a, .int k] ∧ a.natAbs < 2 ^ 40 ∧ k ≤ 1000 ∧ Q (.int (a ^ k)) H
theorem pow_size {a : Int} (h : a.natAbs < 2 ^ 40) (e : Nat) : (a ^ e).natAbs < 2 ^ (40 * e + 1) := by
  rw [Int.natAbs_pow]
  have h1 : a.natAbs ^ e ≤ (2 ^ 40) ^ e := Nat.pow_le_pow_left (Nat.le_of_lt h) e
  rw [← Nat.pow_mul] at h1
  exact Nat.lt_of_le_of_lt h1 (Nat.pow_lt_pow_right (by decide) (by omega))
theorem bit1 (m : Nat) : Builtin.bitAnd (m : Int) 1 = ((m % 2 : Nat) : Int) := by
  have h : Builtin.bitAnd (m : Int) ((1 : Nat) : Int) = ((m &&& 1 : Nat) : Int) := rfl
  have h2 : Builtin.bitAnd (m : Int) 1 = ((m &&& 1 : Nat) : Int) := h
  rw [h2, Nat.and_one_is_mod]
theorem ok_power (T : Txt K mg) : FnOk P w K mg base CX0 1 T.a_power T.d_power ["a", "k"] spPower := by
  refine T.F_power.ok sc_power (fun vs H Q E h => ?_) (fun cdv A outer s H vs Q E hr h => ?_)
  · obtain ⟨a, k, rfl, _⟩ := h
    rfl
  · obtain ⟨a, k, rfl, ha, hk, q⟩ := h
    refine ⟨_, (pss_cons (ps_set (i := 2) sc_power.nd rfl (.inl rfl) pe_int) 
    (pss_cons (ps_while PassesOwn.never (pt_cmpR op_gt (pv 1) pe_int (nomark _)) 
      (pss_cons (ps_if (pt_truth (pe_op op_and (pv 1) pe_int) (by intro _; rfl)) 
        (pss_one (ps_set (i := 2) sc_power.nd rfl (.inl rfl) (pe_op op_mulW (pv 2) (pv 0)))) pss_nil) 
      (pss_cons (ps_set (i := 1) sc_power.nd rfl (.inl rfl) (pe_op op_shr (pv 1) pe_int)) 
      (pss_one (ps_if (pt_cmpR op_gt (pv 1) pe_int (nomark _)) 
        (pss_one (ps_set (i := 0) sc_power.nd rfl (.inl rfl) (pe_op op_mulW (pv 0) (pv 0)))) pss_nil))))) 
    (pss_one (ps_ret (pv 2))))), ?_⟩
    refine ⟨fun m σ H' => ∃ (e r : Nat) (x z y : Int), σ = [some (.int x), some (.int z), some (.int y)] ∧ x = a ^ e ∧ z = (m : Int) ∧ y = a ^ r ∧ e * m + r = k ∧ (0 < m → e ≤ k) ∧ H' = H,
      ⟨k, 1, 0, a, (k : Int), 1, rfl, (Int.pow_one a).symm, rfl, (Int.pow_zero a).symm, by omega, fun _ => by omega, rfl⟩, fun m σ H' hW => ?_⟩
    obtain ⟨e, r, x, z, y, rfl, hx, hz, hy, hs, he, rfl⟩ := hW
    refine ⟨_, rfl, _, _, rfl, rfl, _, rfl, ite2 (fun c => ?_) (fun c => ?_)⟩
    · have c1 : 0 < m := by
        have := of_decide_eq_true c
        omega
      have he1 := he c1
      have hm : e * m = e * 2 * (m / 2) + e * (m % 2) := by
        rw [Nat.mul_assoc, ← Nat.mul_add, Nat.div_add_mod]
      have sz := fun n : Nat => pow_size ha n
      have hbit : Builtin.bitAnd z 1 = ((m % 2 : Nat) : Int) := by rw [hz, bit1]
      have hdiv : z / 2 ^ (1 : Int).toNat = ((m / 2 : Nat) : Int) := by
        rw [hz]
        show (m : Int) / 2 = _
        omega
      have hee : x * x = a ^ (e * 2) := by rw [hx, ← Int.pow_add, Nat.mul_two]
      have hmul : ∀ i j : Nat, i ≤ k → j ≤ k → ∀ u v : Int, u = a ^ i → v = a ^ j → CMulW u v := fun i j hi hj u v eu ev => by
        rw [eu, ev]
        exact wide_mul (sz i) (sz j) (by omega) (by omega) (by omega)
      refine ⟨fun σ' H'' => H'' = H' ∧ ∃ (e2 r2 : Nat) (x2 z2 y2 : Int), σ' = [some (.int x2), some (.int z2), some (.int y2)] ∧ x2 = a ^ e2 ∧ z2 = ((m / 2 : Nat) : Int) ∧ y2 = a ^ r2 ∧ e2 * (m / 2) + r2 = k ∧ (0 < m / 2 → e2 ≤ k), fun σ' H'' hN => ?_, ?_⟩
      · obtain ⟨rfl, e2, r2, x2, z2, y2, rfl, h1, h2, h3, hs2, he2⟩ := hN
        exact ⟨m / 2, by omega, e2, r2, x2, z2, y2, rfl, h1, h2, h3, hs2, he2, rfl⟩
      refine ⟨_, rfl, _, _, rfl, rfl, _, rfl, ite2 (fun c2 => ?_) (fun c2 => ?_)⟩
      · have odd : m % 2 = 1 := by
          have c3 : Builtin.bitAnd z 1 ≠ 0 := bne_iff_ne.mp c2
          omega
        rw [odd, Nat.mul_one] at hm
        refine ⟨_, rfl, _, rfl, _, _, rfl, rfl, hmul r e (by omega) he1 _ _ hy hx, ?_⟩
        have hyy : y * x = a ^ (r + e) := by rw [hx, hy, ← Int.pow_add]
        refine ⟨_, rfl, _, _, rfl, rfl, (by show (0 : Int) ≤ 1; decide), ?_⟩
        refine ⟨_, rfl, _, _, rfl, rfl, _, rfl, ite2 (fun c4 => ?_) (fun c4 => ?_)⟩
        · have c5 : 0 < m / 2 := by
            have := of_decide_eq_true c4
            omega
          have : e * 2 ≤ e * 2 * (m / 2) := Nat.le_mul_of_pos_right _ c5
          exact ⟨_, rfl, _, rfl, _, _, rfl, rfl, hmul e e he1 he1 _ _ hx hx, rfl, e * 2, r + e, _, _, _, rfl, hee, hdiv, hyy, by omega, fun _ => by omega⟩
        · have c5 : m / 2 = 0 := by
            have h6 : ¬ (0 < z / 2 ^ (1 : Int).toNat) := fun h7 => c4 (decide_eq_true h7)
            omega
          rw [c5] at hm
          exact ⟨rfl, e, r + e, _, _, _, rfl, hx, hdiv, hyy, by rw [c5]; omega, fun h => by omega⟩
      · have ev : m % 2 = 0 := by
          have c3 : Builtin.bitAnd z 1 = 0 := by
            cases h7 : (Builtin.bitAnd z 1 != 0) with
            | true => exact absurd h7 c2
            | false => exact bne_eq_false_iff_eq.mp h7
          omega
        rw [ev, Nat.mul_zero] at hm
        refine ⟨_, rfl, _, _, rfl, rfl, (by show (0 : Int) ≤ 1; decide), ?_⟩
        have c5 : 0 < m / 2 := by omega
        refine ⟨_, rfl, _, _, rfl, rfl, _, rfl, ite2 (fun c4 => ?_) (fun c4 => ?_)⟩
        · have : e * 2 ≤ e * 2 * (m / 2) := Nat.le_mul_of_pos_right _ c5
          exact ⟨_, rfl, _, rfl, _, _, rfl, rfl, hmul e e he1 he1 _ _ hx hx, rfl, e * 2, r, _, _, _, rfl, hee, hdiv, hy, by omega, fun _ => by omega⟩
        · exact absurd (decide_eq_true (show 0 < z / 2 ^ (1 : Int).toNat by omega)) c4
    · have c1 : m = 0 := by
        have h6 : ¬ (0 < z) := fun h7 => c (decide_eq_true h7)
        omega
      rw [c1, Nat.mul_zero] at hs
      have e1 : r = k := by omega
      subst e1
      rw [← hy] at q
      exact ⟨_, rfl, q⟩
/-! ### rows modulo p, as lists of ints -/
def addR (p : Int) (v w : List Int) : List Int := (v.zip w).map fun x => (x.1 + x.2) % p
def scR (p : Int) (v : List Int) (a : Int) : List Int := v.map fun x => (a * x) % p
def atR (v : List Int) (i : Nat) : Int := v.getD i 0
def clrR (p : Int) (row lead : List Int) (at_ : Nat) : List Int := if atR row at_ = 0 then row else addR p row (scR p lead (-(atR row at_)))
def invR (p a : Int) : Int := ((a % p) ^ (p - 2).toNat) % p
def leadR (p : Int) : List (List Int) → Nat → Option (List Int)
  | [], _ => none
  | r :: rs, at_ => if atR r at_ = 0 then leadR p rs at_ else some (scR p r (invR p (atR r at_)))
structure Elim where
  left : List (List Int)
  table : List (List Int)
  piv : List Nat
def stepE (p : Int) (s : Elim) (at_ : Nat) : Elim := match leadR p s.left at_ with
  | none => s
  | some l => ⟨s.left.map fun r => clrR p r l at_, (s.table.map fun r => clrR p r l at_) ++ [l], s.piv ++ [at_]⟩
def elimE (p : Int) (rows : List (List Int)) : Nat → Elim
  | 0 => ⟨rows, [], []⟩
  | k + 1 => stepE p (elimE p rows k) k
def redT (p : Int) (n : Nat) (rows : List (List Int)) : List (List Int) := (elimE p rows n).table
def redP (p : Int) (n : Nat) (rows : List (List Int)) : List Nat := (elimE p rows n).piv
/-- a row: so many ints from 0 to p - 1 -/
def Vr (p : Int) (n : Nat) (r : List Int) : Prop := r.length = n ∧ ∀ x ∈ r, 0 ≤ x ∧ x < p
theorem atR_get {v : List Int} {i : Nat} (h : i < v.length) : v[i]? = some (atR v i) := by
  unfold atR
  rw [List.getD_eq_getElem?_getD, List.getElem?_eq_getElem h]
  rfl
theorem atR_mem {v : List Int} {i : Nat} (h : i < v.length) : atR v i ∈ v := List.mem_of_getElem? (atR_get h)
theorem Vr.at {p : Int} {n : Nat} {r : List Int} (h : Vr p n r) {i : Nat} (hi : i < n) : 0 ≤ atR r i ∧ atR r i < p := h.2 _ (atR_mem (by rw [h.1]; exact hi))
theorem emod_in {p : Int} (hp : 0 < p) (x : Int) : 0 ≤ x % p ∧ x % p < p := ⟨Int.emod_nonneg _ (by omega), Int.emod_lt_of_pos _ hp⟩
theorem addR_vr {p : Int} {n : Nat} {v w : List Int} (hp : 0 < p) (hv : Vr p n v) (hw : Vr p n w) : Vr p n (addR p v w) := by
  refine ⟨by unfold addR; rw [List.length_map, List.length_zip, hv.1, hw.1, Nat.min_self], fun x hx => ?_⟩
  obtain ⟨y, _, rfl⟩ := List.mem_map.mp hx
  exact emod_in hp _
theorem scR_vr {p : Int} {n : Nat} {v : List Int} (hp : 0 < p) (hv : v.length = n) (a : Int) : Vr p n (scR p v a) := by
  refine ⟨by unfold scR; rw [List.length_map, hv], fun x hx => ?_⟩
  obtain ⟨y, _, rfl⟩ := List.mem_map.mp hx
  exact emod_in hp _
theorem clrR_vr {p : Int} {n : Nat} {r l : List Int} (hp : 0 < p) (hr : Vr p n r) (hl : Vr p n l) (k : Nat) : Vr p n (clrR p r l k) := by
  unfold clrR
  split
  · exact hr
  · exact addR_vr hp hr (scR_vr hp hl.1 _)
theorem leadR_vr {p : Int} {n : Nat} (hp : 0 < p) : ∀ {rs : List (List Int)} {k : Nat} {l : List Int}, (∀ r ∈ rs, Vr p n r) → leadR p rs k = some l → Vr p n l
  | [], _, _, _, h => by cases h
  | r :: rs, k, l, hr, h => by
    rw [leadR] at h
    split at h
    · exact leadR_vr hp (fun r hr' => hr r (List.mem_cons_of_mem _ hr')) h
    · cases h
      exact scR_vr hp (hr r (List.mem_cons_self ..)).1 _
theorem elimE_vr {p : Int} {n : Nat} {rows : List (List Int)} (hp : 0 < p) (hr : ∀ r ∈ rows, Vr p n r) : ∀ k, (∀ r ∈ (elimE p rows k).left, Vr p n r) ∧ (∀ r ∈ (elimE p rows k).table, Vr p n r)
  | 0 => ⟨hr, fun r h => by cases h⟩
  | k + 1 => by
    obtain ⟨h1, h2⟩ := elimE_vr hp hr k
    rw [elimE, stepE]
    split
    · exact ⟨h1, h2⟩
    · rename_i l hl
      have hv := leadR_vr hp h1 hl
      refine ⟨fun r h => ?_, fun r h => ?_⟩
      · obtain ⟨y, hy, rfl⟩ := List.mem_map.mp h
        exact clrR_vr hp (h1 y hy) hv _
      · rcases List.mem_append.mp h with h | h
        · obtain ⟨y, hy, rfl⟩ := List.mem_map.mp h
          exact clrR_vr hp (h2 y hy) hv _
        · rw [List.mem_singleton.mp h]
          exact hv
theorem elimE_len {p : Int} {rows : List (List Int)} : ∀ k, (elimE p rows k).left.length = rows.length ∧ (elimE p rows k).table.length = (elimE p rows k).piv.length ∧ (elimE p rows k).piv.length ≤ k
  | 0 => ⟨rfl, rfl, Nat.le_refl _⟩
  | k + 1 => by
    obtain ⟨h1, h2, h3⟩ := elimE_len (p := p) (rows := rows) k
    rw [elimE, stepE]
    split
    · exact ⟨h1, h2, by omega⟩
    · refine ⟨by rw [List.length_map, h1], by rw [List.length_append, List.length_map, h2, List.length_append]; rfl, by rw [List.length_append, List.length_singleton]; omega⟩
/-- a row comes back; what was tracked stands -/
def RetR (H : Hp) (Q : VK) (r : List Int) : Prop := ∀ v H', Same H H' → RR H' v r → Q v H'
theorem walk_zipT {a b : Addr} {xs ys : List V} {n : Nat} (hn : n = min xs.length ys.length) : Walk (RZ.ItzT K a b) n (fun H => SqT K H a xs ∧ SqT K H b ys) (YPair (fun i => xs[i]?) (fun i => ys[i]?)) := by
  subst hn
  refine ⟨fun i _ hi q => ?_, fun _ q => ⟨xs, ys, q.1, q.2, by omega⟩, fun i H v H' _ q y => ?_⟩
  · have h1 : i < xs.length := by omega
    have h2 : i < ys.length := by omega
    exact ⟨xs, ys, xs[i], ys[i], q.1, q.2, by simp [h1], by simp [h2]⟩
  · obtain ⟨T, x, z, h1, h2, h3, h4, h5⟩ := y
    exact ⟨T, x, z, h1, h2, h3, h4 xs q.1, h5 ys q.2⟩
theorem walk_row {a : Addr} {v : List Int} : Walk (Itt K a) v.length (fun H => SqT K H a (v.map V.int)) (YAt (v.map V.int)) := by
  have h := walk_tup (K := K) (a := a) (xs := v.map V.int)
  rw [List.length_map] at h
  exact h
/-! ### add, scaled, _cleared, inverse, _lead_at -/
def Sm (r : List Int) : Prop := ∀ x ∈ r, x.natAbs < 2 ^ 40
theorem Vr.sm {p : Int} {n : Nat} {r : List Int} (h : Vr p n r) (hp : p ≤ 31) : Sm r := fun x hx => by
  have := h.2 x hx
  omega
def spAdd (K : PySem.W.Frag) : Sp := fun vs H Q _ => ∃ (a b : V) (p : Int) (v w : List Int), vs = [a, b, .int p] ∧ RS K H a v ∧ RS K H b w ∧ 0 < p ∧ v.length ≤ 1000 ∧ v.length = w.length ∧ RetR H Q (addR p v w)
theorem ok_add (T : Txt K mg) : FnOk P w K mg base CX0 1 T.a_add T.d_add ["v", "w", "p"] (spAdd K) := by
  refine T.F_add.ok sc_add (fun vs H Q E h => ?_) (fun cdv A outer s H vs Q E hr h => ?_)
  · obtain ⟨a, b, p, v, w, rfl, _⟩ := h
    rfl
  · obtain ⟨_, _, p, v, w, rfl, ⟨a, rfl, ea⟩, ⟨b, rfl, eb⟩, hp, hl, hvw, q⟩ := h
    refine ⟨_, (pss_one (ps_ret (pe_callTy Own.call_tuple_ofF (by rfl) T.n_tuple (by decide +kernel) (pa_cons (pe_lc (own := [("x", 3), ("y", 4)]) (g := gTup K 2 (gCons (gName 3) (gCons (gName 4) gNil))) rfl sc_add.nd (RZ.pi_zipA (by rfl) T.n_zip (pa_cons (pv 0) (pa_cons (pv 1) pa_nil))) (blkOk_by (N := N_add) (sc := defScope s_add) (own := [("x", 3), ("y", 4)]) (by decide +kernel)) (fun _ _ _ _ _ => by exact (pg_tup rfl (pgs_cons (pg_name (i := 3) sc_add.nd rfl (.inl rfl)) (pgs_cons (pg_name (i := 4) sc_add.nd rfl (.inl rfl)) pgs_nil)))) (fun _ _ _ _ _ => pts_nil) (fun _ _ _ _ _ => (pe_op op_modE (pe_op op_add (pv 3) (pv 4)) (pv 2)))) pa_nil)))), ?_⟩
    refine ⟨_, rfl, _, rfl, a, b, v.map V.int, w.map V.int, rfl, .inr ⟨ea, eb, fun D nD => ?_⟩⟩
    refine lc_rep (walk_zipT (n := v.length) (by rw [List.length_map, List.length_map, ← hvw, Nat.min_self])) st_RI (fun i => (atR v i + atR w i) % p) (by omega) nD (fun H2 sm => ⟨Own.same_tup sm ea, Own.same_tup sm eb⟩) (fun i x H2 H3 Q2 hi sm hY q2 => ?_) (fun H2 acc sm eD hP => ?_)
    · obtain ⟨t, x1, x2, rfl, nt, rfl, g1, g2⟩ := hY
      have g1 : (v.map V.int)[i]? = some x1 := g1
      have g2 : (w.map V.int)[i]? = some x2 := g2
      have e1 : x1 = .int (atR v i) := by
        rw [List.getElem?_map, atR_get hi] at g1
        exact (Option.some.inj g1).symm
      have e2 : x2 = .int (atR w i) := by
        rw [List.getElem?_map, atR_get (by omega)] at g2
        exact (Option.some.inj g2).symm
      subst e1 e2
      refine ⟨t, [.int (atR v i), .int (atR w i)], rfl, .inl (.inl upd_same), rfl, _, [.int (atR w i)], rfl, _, [], rfl, rfl, rfl, ?_⟩
      exact ⟨_, rfl, _, rfl, _, _, rfl, rfl, _, rfl, _, _, rfl, rfl, hp, q2 _ _ (same_new nt) rfl⟩
    · have e := ints_of hP
      have e2 : (List.range v.length).map (fun i => (atR v i + atR w i) % p) = addR p v w := by
        have e3 : v.length = (addR p v w).length := by
          unfold addR
          rw [List.length_map, List.length_zip, ← hvw, Nat.min_self]
        rw [e3]
        refine map_range _ _ fun i x hx => ?_
        have hi : i < v.length := by
          rw [e3]
          exact (List.getElem?_eq_some_iff.mp hx).1
        unfold addR at hx
        rw [List.getElem?_map, List.zip, List.getElem?_zipWith, atR_get hi, atR_get (by omega : i < w.length)] at hx
        exact Option.some.inj hx
      rw [e2] at e
      subst e
      exact ⟨D, _, rfl, .inl (.inl eD), fun u ob nu hob => q _ _ (sm.trans (same_new nu)) ⟨u, rfl, ob, hob, upd_same⟩⟩
def spScaled (K : PySem.W.Frag) : Sp := fun vs H Q _ => ∃ (a : V) (c p : Int) (v : List Int), vs = [a, .int c, .int p] ∧ RS K H a v ∧ 0 < p ∧ v.length ≤ 1000 ∧ c.natAbs < 2 ^ 40 ∧ Sm v ∧ RetR H Q (scR p v c)
theorem ok_scaled (T : Txt K mg) : FnOk P w K mg base CX0 1 T.a_scaled T.d_scaled ["v", "a", "p"] (spScaled K) := by
  refine T.F_scaled.ok sc_scaled (fun vs H Q E h => ?_) (fun cdv A outer s H vs Q E hr h => ?_)
  · obtain ⟨a, c, p, v, rfl, _⟩ := h
    rfl
  · obtain ⟨_, c, p, v, rfl, ⟨a, rfl, ea⟩, hp, hl, hc, hv, q⟩ := h
    refine ⟨_, (pss_one (ps_ret (pe_callTy Own.call_tuple_ofF (by rfl) T.n_tuple (by decide +kernel) (pa_cons (pe_lc (own := [("x", 3)]) rfl sc_scaled.nd (pi_tup (pv 0)) (blkOk_by (N := N_scaled) (sc := defScope s_scaled) (own := [("x", 3)]) (by decide +kernel)) (fun _ _ _ _ _ => (pg_name (i := 3) sc_scaled.nd rfl (.inl rfl))) (fun _ _ _ _ _ => pts_nil) (fun _ _ _ _ _ => (pe_op op_modE (pe_op op_mulW (pv 1) (pv 3)) (pv 2)))) pa_nil)))), ?_⟩
    refine ⟨_, rfl, a, rfl, ⟨_, ea⟩, fun D nD => ?_⟩
    refine lc_rep (walk_row (v := v)) st_RI (fun i => (c * atR v i) % p) (by omega) nD (fun H2 sm => Own.same_tup sm ea) (fun i x H2 H3 Q2 hi sm hY q2 => ?_) (fun H2 acc sm eD hP => ?_)
    · obtain ⟨rfl, g1⟩ := hY
      have e1 : x = .int (atR v i) := by
        rw [List.getElem?_map, atR_get hi] at g1
        exact (Option.some.inj g1).symm
      subst e1
      exact ⟨rfl, _, rfl, _, rfl, _, _, rfl, rfl, wide_mul hc (hv _ (atR_mem hi)) (by decide) (by decide) (by decide), _, rfl, _, _, rfl, rfl, hp, q2 _ _ (Same.refl _) rfl⟩
    · have e := ints_of hP
      have e2 : (List.range v.length).map (fun i => (c * atR v i) % p) = scR p v c := by
        have e3 : v.length = (scR p v c).length := by
          unfold scR
          rw [List.length_map]
        rw [e3]
        refine map_range _ _ fun i x hx => ?_
        have hi : i < v.length := by
          rw [e3]
          exact (List.getElem?_eq_some_iff.mp hx).1
        unfold scR at hx
        rw [List.getElem?_map, atR_get hi] at hx
        exact Option.some.inj hx
      rw [e2] at e
      subst e
      exact ⟨D, _, rfl, .inl (.inl eD), fun u ob nu hob => q _ _ (sm.trans (same_new nu)) ⟨u, rfl, ob, hob, upd_same⟩⟩
def spCleared (K : PySem.W.Frag) : Sp := fun vs H Q _ => ∃ (a b : V) (k n : Nat) (p : Int) (r l : List Int), vs = [a, b, .int (k : Int), .int p] ∧ RS K H a r ∧ RS K H b l ∧ 0 < p ∧ p ≤ 31 ∧ k < n ∧ n ≤ 1000 ∧ Vr p n r ∧ Vr p n l ∧ ∀ v' H', Same H H' → RS K H' v' (clrR p r l k) → (RR H a r → RR H' v' (clrR p r l k)) → Q v' H'
theorem atV {r : List Int} {k : Nat} (h : k < r.length) : atI (r.map V.int) (k : Int) = some (.int (atR r k)) := atI_nat (by rw [List.getElem?_map, atR_get h]; rfl)
theorem ok_cleared (T : Txt K mg) : FnOk P w K mg base CX0 2 T.a__cleared T.d__cleared ["row", "lead", "at", "p"] (spCleared K) := by
  have G_add : FnOk P w K mg base CX0 1 T.a_add T.d_add ["v", "w", "p"] (spAdd K) := ok_add T
  have G_scaled : FnOk P w K mg base CX0 1 T.a_scaled T.d_scaled ["v", "a", "p"] (spScaled K) := ok_scaled T
  refine T.F__cleared.ok sc__cleared (fun vs H Q E h => ?_) (fun cdv A outer s H vs Q E hr h => ?_)
  · obtain ⟨a, b, k, n, p, r, l, rfl, _⟩ := h
    rfl
  · obtain ⟨_, _, k, n, p, r, l, rfl, ⟨a, rfl, ea⟩, ⟨b, rfl, eb⟩, hp, hp2, hk, hn, hvr, hvl, q⟩ := h
    have hkr : k < r.length := by rw [hvr.1]; exact hk
    refine ⟨_, (pss_cons (ps_if (pt_cmpR op_eq (pe_ix ix_tup (pv 0) (pv 2) (fun _ _ => rfl)) pe_int (nomark _)) 
      (pss_one (ps_ret (pv 0))) pss_nil) 
    (pss_one (ps_ret (pe_call G_add (hr.mono (by decide)) (by rfl) T.g_add T.F_add.kp T.b_add .nil pass0 (pa_cons (pv 0) (pa_cons (pe_call G_scaled (hr.mono (by decide)) (by rfl) T.g_scaled T.F_scaled.kp T.b_scaled .nil pass0 (pa_cons (pv 1) (pa_cons (pe_un un_neg (pe_ix ix_tup (pv 0) (pv 2) (fun _ _ => rfl))) (pa_cons (pv 3) pa_nil)))) (pa_cons (pv 3) pa_nil))))))), ?_⟩
    refine ⟨_, rfl, _, rfl, a, _, _, _, rfl, rfl, ea, atV hkr, rfl, _, rfl, ite2 (fun c => ?_) (fun c => ?_)⟩
    · have c1 : atR r k = 0 := V.int.inj (of_decide_eq_true c)
      have e : clrR p r l k = r := by unfold clrR; rw [if_pos c1]
      exact ⟨_, rfl, q _ _ (Same.refl _) ⟨a, rfl, by rw [e]; exact ea⟩ fun h => by rw [e]; exact h⟩
    · have c1 : ¬ atR r k = 0 := fun z => c (decide_eq_true (congrArg V.int z))
      have hb := hvr.at hk
      refine ⟨_, rfl, _, rfl, _, rfl, _, rfl, a, _, _, _, rfl, rfl, ea, atV hkr, _, rfl, _, rfl, .ref b, -(atR r k), p, l, rfl, ⟨b, rfl, eb⟩, hp, by rw [hvl.1]; exact hn, by omega, hvl.sm hp2, fun v2 H2 sm2 hR2 => ?_⟩
      refine ⟨_, rfl, .ref a, v2, p, r, _, rfl, ⟨a, rfl, Own.same_tup sm2 ea⟩, rs_of hR2, hp, by rw [hvr.1]; exact hn, by rw [hvr.1, (scR_vr hp hvl.1 _).1], fun v3 H3 sm3 hR3 => ?_⟩
      have e : clrR p r l k = addR p r (scR p l (-(atR r k))) := by unfold clrR; rw [if_neg c1]
      rw [← e] at hR3
      exact q _ _ (sm2.trans sm3) (rs_of hR3) fun _ => hR3
def spInv0 : Sp := fun vs H Q _ => ∃ (a p : Int), vs = [.int a, .int p] ∧ 2 ≤ p ∧ p ≤ 31 ∧ a % p ≠ 0 ∧ Q (.int (invR p a)) H
theorem ok_inv0 (T : Txt K mg) : FnOk P w K mg base CX0 2 T.a_inverse T.d_inverse ["a", "p"] spInv0 := by
  have G_power : FnOk P w K mg base CX0 1 T.a_power T.d_power ["a", "k"] spPower := ok_power T
  refine T.F_inverse.ok sc_inverse (fun vs H Q E h => ?_) (fun cdv A outer s H vs Q E hr h => ?_)
  · obtain ⟨a, p, rfl, _⟩ := h
    rfl
  · obtain ⟨a, p, rfl, h2, h31, h0, q⟩ := h
    refine ⟨_, (pss_cons (ps_set (i := 2) sc_inverse.nd rfl (.inl rfl) (pe_op op_modE (pv 0) (pv 1))) 
    (pss_cons (ps_if (pt_cmpR op_eq (pv 2) pe_int (nomark _)) 
      (pss_one ps_never) pss_nil) 
    (pss_one (ps_ret (pe_op op_modE (pe_call G_power (hr.mono (by decide)) (by rfl) T.g_power T.F_power.kp T.b_power .nil pass0 (pa_cons (pv 2) (pa_cons (pe_op op_sub (pv 1) pe_int) pa_nil))) (pv 1)))))), ?_⟩
    have hp : 0 < p := by omega
    have hr1 := emod_in hp a
    refine ⟨_, rfl, _, rfl, _, _, rfl, rfl, hp, ?_⟩
    refine ⟨_, rfl, rfl, _, rfl, ite2 (fun c => ?_) (fun c => ?_)⟩
    · exact absurd (V.int.inj (of_decide_eq_true c)) h0
    · have e1 : p - 2 = ((p - 2).toNat : Int) := by omega
      refine ⟨_, rfl, _, rfl, _, _, rfl, rfl, a % p, (p - 2).toNat, ?_, by omega, by omega, _, rfl, _, _, rfl, rfl, hp, q⟩
      rw [← e1]
      rfl
/-! ### _lead_at, reduced, span -/
theorem emod_small {p x : Int} (h0 : 0 ≤ x) (h1 : x < p) : x % p = x := Int.emod_eq_of_lt h0 h1
theorem invR_small {p : Int} (h2 : 2 ≤ p) (a : Int) : 0 ≤ invR p a ∧ invR p a < p := emod_in (by omega) _
def spLead (K : PySem.W.Frag) : Sp := fun vs H Q _ => ∃ (a : Addr) (us : List V) (k n : Nat) (p : Int) (rs : List (List Int)), vs = [.ref a, .int (k : Int), .int p] ∧ SqL K H a us ∧ Paired (RS K H) us rs ∧ 2 ≤ p ∧ p ≤ 31 ∧ k < n ∧ n ≤ 1000 ∧ (∀ r ∈ rs, Vr p n r) ∧
  (leadR p rs k = none → Q .non H) ∧ (∀ l, leadR p rs k = some l → RetR H Q l)
theorem leadR_drop {p : Int} {k : Nat} : ∀ (rs : List (List Int)) (i : Nat), (∀ j r, j < i → rs[j]? = some r → atR r k = 0) → leadR p rs k = leadR p (rs.drop i) k
  | rs, 0, _ => rfl
  | [], i + 1, _ => by rw [List.drop_nil]
  | r :: rs, i + 1, h => by
    have h0 := h 0 r (Nat.succ_pos i) rfl
    rw [leadR, if_pos h0, List.drop_succ_cons]
    exact leadR_drop rs i fun j r' hj e => h (j + 1) r' (Nat.succ_lt_succ hj) e
theorem ok_lead (T : Txt K mg) : FnOk P w K mg base CX0 3 T.a__lead_at T.d__lead_at ["rows", "at", "p"] (spLead K) := by
  have G_inverse : FnOk P w K mg base CX0 2 T.a_inverse T.d_inverse ["a", "p"] spInv0 := ok_inv0 T
  have G_scaled : FnOk P w K mg base CX0 1 T.a_scaled T.d_scaled ["v", "a", "p"] (spScaled K) := ok_scaled T
  refine T.F__lead_at.ok sc__lead_at (fun vs H Q E h => ?_) (fun cdv A outer s H vs Q E hr h => ?_)
  · obtain ⟨a, us, k, n, p, rs, rfl, _⟩ := h
    rfl
  · obtain ⟨a, us, k, n, p, rs, rfl, hS, hP, h2, h31, hk, hn, hv, q0, q1⟩ := h
    refine ⟨_, (pss_cons (ps_for PassesOwn.never rfl (pi_list (pv 0)) (pg_name (i := 3) sc__lead_at.nd rfl (.inl rfl)) 
      (pss_one (ps_if (pt_cmpR op_ne (pe_ix ix_tup (pv 3) (pv 1) (fun _ _ => rfl)) pe_int (nomark _)) 
        (pss_one (ps_ret (pe_call G_scaled (hr.mono (by decide)) (by rfl) T.g_scaled T.F_scaled.kp T.b_scaled .nil pass0 (pa_cons (pv 3) (pa_cons (pe_call G_inverse (hr.mono (by decide)) (by rfl) T.g_inverse T.F_inverse.kp T.b_inverse .nil pass0 (pa_cons (pe_ix ix_tup (pv 3) (pv 1) (fun _ _ => rfl)) (pa_cons (pv 2) pa_nil))) (pa_cons (pv 2) pa_nil)))))) pss_nil))) 
    (pss_one (ps_ret pe_non))), ?_⟩
    refine ⟨_, rfl, a, rfl, ⟨_, hS⟩, for_list (xs := us) (fun i σ H' => ∃ y : Option V, σ = [some (.ref a), some (.int (k : Int)), some (.int p), y] ∧ H' = H ∧ ∀ j r, j < i → rs[j]? = some r → atR r k = 0)
      ⟨none, rfl, rfl, fun j r hj => absurd hj (Nat.not_lt_zero j)⟩ (fun i σ H' _ ⟨_, _, e, _⟩ => by rw [e]; exact hS) ?_ ?_⟩
    · rintro i x σ H' hi ⟨y, rfl, rfl, hz⟩
      obtain ⟨r, er, t, rfl, et⟩ := paired_get hP hi
      have hvr := hv r (List.mem_of_getElem? er)
      have hkr : k < r.length := by rw [hvr.1]; exact hk
      refine ⟨_, rfl, _, rfl, t, _, _, _, rfl, rfl, et, atV hkr, rfl, _, rfl, ite2 (fun c => ?_) (fun c => ?_)⟩
      · have c1 : ¬ atR r k = 0 := fun z => by
          have c : (!decide (V.int (atR r k) = V.int 0)) = true := c
          rw [z] at c
          exact absurd c (by decide)
        have hb := hvr.at hk
        have hl : leadR p rs k = some (scR p r (invR p (atR r k))) := by
          rw [leadR_drop rs i hz]
          have hlt := (List.getElem?_eq_some_iff.mp er).1
          have ed : rs.drop i = r :: rs.drop (i + 1) := by
            rw [List.drop_eq_getElem_cons hlt]
            have := List.getElem?_eq_getElem hlt
            rw [er] at this
            rw [← Option.some.inj this]
          rw [ed, leadR, if_neg c1]
        have hi2 := invR_small h2 (atR r k)
        refine ⟨_, rfl, _, rfl, _, rfl, t, _, _, _, rfl, rfl, et, atV hkr, _, rfl, atR r k, p, rfl, h2, h31, by rw [emod_small hb.1 hb.2]; exact c1, _, rfl, .ref t, _, p, r, rfl, ⟨t, rfl, et⟩, by omega, by rw [hvr.1]; exact hn, by omega, hvr.sm h31, fun v2 H2 sm2 hR2 => ?_⟩
        exact q1 _ hl v2 H2 sm2 hR2
      · refine ⟨_, rfl, rfl, fun j r' hj e => ?_⟩
        by_cases hji : j = i
        · subst hji
          have e2 : r' = r := Option.some.inj (e.symm.trans er)
          rw [e2]
          have c : ¬ (!decide (V.int (atR r k) = V.int 0)) = true := c
          by_cases hz0 : atR r k = 0
          · exact hz0
          · exact absurd (by rw [decide_eq_false (fun z => hz0 (V.int.inj z))]; rfl) c
        · exact hz j r' (by omega) e
    · rintro σ H' ⟨y, rfl, rfl, hz⟩
      refine q0 ?_
      rw [leadR_drop rs us.length hz, Paired.length hP, List.drop_length]
      rfl
/-- a list or tuple of rows -/
def Rws (K : PySem.W.Frag) (H : Hp) (a : Addr) (rs : List (List Int)) : Prop := ∃ us, (SqL K H a us ∨ SqT K H a us) ∧ Paired (RR H) us rs
/-- a list or tuple of rows, plain tuples among them -/
def RwS (K : PySem.W.Frag) (H : Hp) (a : Addr) (rs : List (List Int)) : Prop := ∃ us, (SqL K H a us ∨ SqT K H a us) ∧ Paired (RS K H) us rs
theorem Rws.s {H : Hp} {a : Addr} {rs : List (List Int)} (h : Rws K H a rs) : RwS K H a rs := by
  obtain ⟨us, h1, h2⟩ := h
  exact ⟨us, h1, rs_all h2⟩
def natV (l : List Nat) : List V := l.map fun k : Nat => V.int (k : Int)
/-- the pair of the table and the pivots, at t -/
structure RedAt (H : Hp) (t : Addr) (tb : List (List Int)) (pv_ : List Nat) : Prop where
  ex : ∃ (a b : Addr) (us : List V), H t = some (.tup [.ref a, .ref b]) ∧ H a = some (.tup us) ∧ Paired (RR H) us tb ∧ H b = some (.tup (natV pv_))
theorem RedAt.mono {H H' : Hp} {t : Addr} {tb : List (List Int)} {pv_ : List Nat} (e : Same H H') (h : RedAt H t tb pv_) : RedAt H' t tb pv_ := by
  obtain ⟨a, b, us, h1, h2, h3, h4⟩ := h.ex
  exact ⟨a, b, us, e _ _ h1, e _ _ h2, st_RR.all e h3, e _ _ h4⟩
def spReduced (K : PySem.W.Frag) : Sp := fun vs H Q _ => ∃ (a : Addr) (n : Nat) (p : Int) (rs : List (List Int)), vs = [.ref a, .int (n : Int), .int p] ∧ RwS K H a rs ∧ 2 ≤ p ∧ p ≤ 31 ∧ n ≤ 1000 ∧ rs.length ≤ 1000 ∧ (∀ r ∈ rs, Vr p n r) ∧
  ∀ t H', Same H H' → RedAt H' t (redT p n rs) (redP p n rs) → Q (.ref t) H'
theorem paired_map {α : Type} {R : Hp → V → α → Prop} {H : Hp} {us : List V} {xs ys : List α} (h : Paired (R H) us xs) (e : xs = ys) : Paired (R H) us ys := e ▸ h
theorem range_map_get {α β : Type} (g : α → β) (d : α) (xs : List α) : (List.range xs.length).map (fun i => g (xs.getD i d)) = xs.map g := by
  have h := map_range (fun i => g (xs.getD i d)) (xs.map g) (fun i x hx => by
    rw [List.getElem?_map] at hx
    cases e : xs[i]? with
    | none => rw [e] at hx; cases hx
    | some y =>
      rw [e] at hx
      rw [List.getD_eq_getElem?_getD, e]
      exact Option.some.inj hx)
  rw [List.length_map] at h
  exact h
theorem ok_reduced (T : Txt K mg) : FnOk P w K mg base CX0 4 T.a_reduced T.d_reduced ["rows", "width", "p"] (spReduced K) := by
  have G__lead_at : FnOk P w K mg base CX0 3 T.a__lead_at T.d__lead_at ["rows", "at", "p"] (spLead K) := ok_lead T
  have G__cleared : FnOk P w K mg base CX0 2 T.a__cleared T.d__cleared ["row", "lead", "at", "p"] (spCleared K) := ok_cleared T
  refine T.F_reduced.ok sc_reduced (fun vs H Q E h => ?_) (fun cdv A outer s H vs Q E hr h => ?_)
  · obtain ⟨a, n, p, rs, rfl, _⟩ := h
    rfl
  · obtain ⟨a, n, p, rs, rfl, ⟨us, hS, hP⟩, h2, h31, hn, hrl, hv, q⟩ := h
    have hp : 0 < p := by omega
    refine ⟨_, (pss_cons (ps_set (i := 3) sc_reduced.nd rfl (.inl rfl) (pe_callTy call_list_of (by rfl) T.n_list (by decide +kernel) (pa_cons (pv 0) pa_nil))) 
    (pss_cons (ps_set (i := 4) sc_reduced.nd rfl (.inl rfl) (pe_lst pa_nil)) 
    (pss_cons (ps_set (i := 5) sc_reduced.nd rfl (.inl rfl) (pe_lst pa_nil)) 
    (pss_cons (ps_for PassesOwn.never rfl (pi_range1 (by rfl) T.n_range (pa_cons (pv 1) pa_nil)) (pg_name (i := 6) sc_reduced.nd rfl (.inr rfl)) 
      (pss_cons (ps_set (i := 7) sc_reduced.nd rfl (.inr rfl) (pe_call G__lead_at (hr.mono (by decide)) (by rfl) T.g__lead_at T.F__lead_at.kp T.b__lead_at .nil pass0 (pa_cons (pv 3) (pa_cons (pv 6) (pa_cons (pv 2) pa_nil))))) 
      (pss_one (ps_if (pt_cmpR op_notN (pv 7) pe_non (nomark _)) 
        (pss_cons (ps_setLc (i := 3) (own := [("row", 8)]) rfl sc_reduced.nd rfl rfl (sw_true rfl rfl rfl (by decide +kernel)) (pi_list (pv 3)) (blkOk_by (N := N_reduced) (sc := defScope s_reduced) (own := [("row", 8)]) (by decide +kernel)) (fun _ _ _ _ _ => (pg_name (i := 8) sc_reduced.nd rfl (.inl rfl))) (fun _ _ _ _ _ => pts_nil) (fun _ _ _ _ _ => (pe_call G__cleared (hr.mono (by decide)) (by rfl) T.g__cleared T.F__cleared.kp T.b__cleared .nil pass0 (pa_cons (pv 8) (pa_cons (pv 7) (pa_cons (pv 6) (pa_cons (pv 2) pa_nil))))))) 
        (pss_cons (ps_setLc (i := 4) (own := [("row", 8)]) rfl sc_reduced.nd rfl rfl (sw_true rfl rfl rfl (by decide +kernel)) (pi_list (pv 4)) (blkOk_by (N := N_reduced) (sc := defScope s_reduced) (own := [("row", 8)]) (by decide +kernel)) (fun _ _ _ _ _ => (pg_name (i := 8) sc_reduced.nd rfl (.inl rfl))) (fun _ _ _ _ _ => pts_nil) (fun _ _ _ _ _ => (pe_call G__cleared (hr.mono (by decide)) (by rfl) T.g__cleared T.F__cleared.kp T.b__cleared .nil pass0 (pa_cons (pv 8) (pa_cons (pv 7) (pa_cons (pv 6) (pa_cons (pv 2) pa_nil))))))) 
        (pss_cons (ps_expr (pe_bm PySem.F.plainAttrs_list PySem.F.slot_list_append PySem.F.type_list_append mt_append (pv 4) (pa_cons (pv 7) pa_nil))) 
        (pss_one (ps_expr (pe_bm PySem.F.plainAttrs_list PySem.F.slot_list_append PySem.F.type_list_append mt_append (pv 5) (pa_cons (pv 6) pa_nil))))))) pss_nil)))) 
    (pss_one (ps_ret (pe_tup (pa_cons (pe_callTy call_tuple_of (by rfl) T.n_tuple (by decide +kernel) (pa_cons (pv 4) pa_nil)) (pa_cons (pe_callTy call_tuple_of (by rfl) T.n_tuple (by decide +kernel) (pa_cons (pv 5) pa_nil)) pa_nil))))))))), ?_⟩
    refine ⟨_, rfl, a, us, rfl, hS, fun lo nlo => ?_⟩
    have sm1 := same_new (o := .lst us) nlo
    refine ⟨Nat.zero_le _, fun tb ntb => ?_⟩
    have sm2 := same_new (o := .lst []) ntb
    refine ⟨Nat.zero_le _, fun pi_ npi => ?_⟩
    have sm3 := same_new (o := .lst []) npi
    have hlotb : lo ≠ tb := ne_of_none upd_same ntb
    have hne : tb ≠ pi_ := ne_of_none upd_same npi
    have eL : (upd (upd (upd H lo (.lst us)) tb (.lst [])) pi_ (.lst [])) lo = some (.lst us) := sm3 _ _ (sm2 _ _ upd_same)
    have eT : (upd (upd (upd H lo (.lst us)) tb (.lst [])) pi_ (.lst [])) tb = some (.lst []) := sm3 _ _ upd_same
    have smA : Same H (upd (upd (upd H lo (.lst us)) tb (.lst [])) pi_ (.lst [])) := sm1.trans (sm2.trans sm3)
    refine ⟨_, rfl, (n : Int), rfl, by omega, by omega, for_range (lo := 0) (n := n) (fun i σ H' => ∃ (lo tb : Addr) (ls ts : List V) (y6 y7 : Option V), σ = [some (.ref a), some (.int (n : Int)), some (.int p), some (.ref lo), some (.ref tb), some (.ref pi_), y6, y7, none] ∧ Same H H' ∧ tb ≠ pi_ ∧ H tb = none ∧ H pi_ = none ∧
        H' lo = some (.lst ls) ∧ Paired (RS K H') ls (elimE p rs i).left ∧ H' tb = some (.lst ts) ∧ Paired (RR H') ts (elimE p rs i).table ∧ H' pi_ = some (.lst (natV (elimE p rs i).piv)))
      ⟨lo, tb, us, [], none, none, rfl, smA, hne, (sm1.free ntb), (sm1.trans sm2).free npi, eL, st_RS.all smA hP, eT, .nil, upd_same⟩ (fun i σ H' hi hPv => ?_) (fun σ H' hPv => ?_)⟩
    · obtain ⟨lo, tb, ls, ts, y6, y7, rfl, sm, hne, nT, nP, eL, hL, eT, hT, ePi⟩ := hPv
      have hva := elimE_vr hp hv i
      have hle := elimE_len (p := p) (rows := rs) i
      have hstep : elimE p rs (i + 1) = stepE p (elimE p rs i) i := rfl
      have e0 : ((0 : Int) + (i : Int)) = (i : Int) := by omega
      refine ⟨_, rfl, _, rfl, _, rfl, lo, ls, i, n, p, (elimE p rs i).left, by rw [e0]; rfl, .inl (.inl eL), hL, h2, h31, hi, hn, hva.1, fun hnone => ?_, fun l hl => fun v7 H2 sm2 hR => ?_⟩
      · refine ⟨_, rfl, rfl, _, rfl, iteB rfl ?_⟩
        refine ⟨lo, tb, ls, ts, _, _, rfl, sm, hne, nT, nP, eL, ?_, eT, ?_, ?_⟩
        all_goals (rw [hstep, stepE, hnone]; assumption)
      · have hvl := leadR_vr hp hva.1 hl
        obtain ⟨tl, rfl, etl⟩ := hR
        refine ⟨_, rfl, rfl, _, rfl, iteA rfl ?_⟩
        have hst2 : elimE p rs (i + 1) = ⟨(elimE p rs i).left.map (fun r => clrR p r l i), ((elimE p rs i).table.map fun r => clrR p r l i) ++ [l], (elimE p rs i).piv ++ [i]⟩ := by
          rw [hstep, stepE, hl]
        -- left
        refine ⟨_, rfl, lo, rfl, ⟨_, .inl (.inl (sm2 _ _ eL))⟩, fun D nD => ?_⟩
        refine lc_rep walk_list (st_RS (K := K)) (fun j => clrR p ((elimE p rs i).left.getD j []) l i) (by rw [Paired.length hL, hle.1]; omega) nD (fun H3 sm3 => .inl (.inl (sm3 _ _ (sm2 _ _ eL)))) (fun j x H3 H4 Q2 hj sm3 hY q2 => ?_) (fun H3 acc sm3 eD hPa => ?_)
        · obtain ⟨rfl, g1⟩ := hY
          obtain ⟨r, er, t, rfl, et⟩ := paired_get hL g1
          have hr2 : (elimE p rs i).left.getD j [] = r := by rw [List.getD_eq_getElem?_getD, er]; rfl
          refine ⟨rfl, _, rfl, _, rfl, _, rfl, _, rfl, .ref t, .ref tl, i, n, p, r, l, by rw [e0]; rfl, ⟨t, rfl, Own.same_tup (sm2.trans sm3) et⟩, ⟨tl, rfl, (etl.mono sm3).sq⟩, hp, h31, hi, hn, hva.1 r (List.mem_of_getElem? er), hvl, fun v H5 sm5 hR5 _ => ?_⟩
          refine q2 v H5 sm5 ?_
          rw [hr2]
          exact hR5
        · have hPa : Paired (RS K H3) acc ((elimE p rs i).left.map fun r => clrR p r l i) := by
            rw [Paired.length hL] at hPa
            exact paired_map hPa (range_map_get (fun r => clrR p r l i) [] _)
          have smB := sm2.trans sm3
          -- table
          refine ⟨_, rfl, tb, rfl, ⟨_, .inl (.inl (smB _ _ eT))⟩, fun D2 nD2 => ?_⟩
          refine lc_rep walk_list st_RR (fun j => clrR p ((elimE p rs i).table.getD j []) l i) (by rw [Paired.length hT, hle.2.1]; omega) nD2 (fun H5 sm5 => .inl (.inl (sm5 _ _ (smB _ _ eT)))) (fun j x H5 H6 Q2 hj sm5 hY q2 => ?_) (fun H5 acc2 sm5 eD2 hPb => ?_)
          · obtain ⟨rfl, g1⟩ := hY
            obtain ⟨r, er, t, rfl, et⟩ := paired_get hT g1
            have hr2 : (elimE p rs i).table.getD j [] = r := by rw [List.getD_eq_getElem?_getD, er]; rfl
            refine ⟨rfl, _, rfl, _, rfl, _, rfl, _, rfl, .ref t, .ref tl, i, n, p, r, l, by rw [e0]; rfl, ⟨t, rfl, ((et.mono smB).mono sm5).sq⟩, ⟨tl, rfl, ((etl.mono sm3).mono sm5).sq⟩, hp, h31, hi, hn, hva.2 r (List.mem_of_getElem? er), hvl, fun v H7 sm7 _ hR7 => ?_⟩
            have hR7 := hR7 ⟨t, rfl, (et.mono smB).mono sm5⟩
            refine q2 v H7 sm7 ?_
            rw [hr2]
            exact hR7
          · have hPb : Paired (RR H5) acc2 ((elimE p rs i).table.map fun r => clrR p r l i) := by
              rw [Paired.length hT] at hPb
              exact paired_map hPb (range_map_get (fun r => clrR p r l i) [] _)
            have smC := smB.trans sm5
            have nD2H : H D2 = none := (sm.trans smB).free nD2
            have hD2pi : D2 ≠ pi_ := fun z => by
              rw [z] at nD2
              rw [smB _ _ ePi] at nD2
              cases nD2
            have hlenb : acc2.length ≤ 1000 := by rw [Paired.length hPb, List.length_map, hle.2.1]; omega
            -- table.append(lead)
            refine ⟨.ref D2, rfl, .inl ⟨rfl, _, .inl (.inl eD2)⟩, _, rfl, D2, _, _, rfl, rfl, eD2, small1000 hlenb, ?_⟩
            have ePi2 : (upd H5 D2 (.lst (acc2 ++ [.ref tl]))) pi_ = some (.lst (natV (elimE p rs i).piv)) := by
              rw [upd_ne hD2pi.symm]
              exact smC _ _ ePi
            -- pivots.append(at)
            refine ⟨.ref pi_, rfl, .inl ⟨rfl, _, .inl (.inl ePi2)⟩, _, rfl, pi_, _, _, rfl, rfl, ePi2, small1000 (by unfold natV; rw [List.length_map]; omega), ?_⟩
            have hDD2 : D ≠ D2 := fun z => by
              rw [← z, eD] at nD2
              cases nD2
            have hDpi : D ≠ pi_ := fun z => by
              rw [z] at nD
              rw [sm2 _ _ ePi] at nD
              cases nD
            refine ⟨D, D2, acc, acc2 ++ [.ref tl], _, _, rfl, same_mut (same_mut (sm.trans smC) nD2H) nP, hD2pi, nD2H, nP, ?_, ?_, ?_, ?_, ?_⟩
            · rw [upd_ne hDpi, upd_ne hDD2]
              exact sm5 _ _ eD
            · rw [hst2]
              exact st_RS.allPut ePi2 (st_RS.allPut eD2 (st_RS.all sm5 hPa))
            · rw [upd_ne hD2pi, upd_same]
            · rw [hst2]
              exact st_RR.allPut ePi2 (st_RR.allPut eD2 (paired_add hPb ⟨tl, rfl, (etl.mono sm3).mono sm5⟩))
            · rw [upd_same, hst2, e0]
              unfold natV
              rw [List.map_append]
              rfl
    · obtain ⟨lo, tb, ls, ts, y6, y7, rfl, sm, hne, nT, nP, eL, hL, eT, hT, ePi⟩ := hPv
      refine ⟨_, rfl, tb, _, rfl, .inl ⟨.inl (.inl eT), fun t1 nt1 => ?_⟩⟩
      have s1 := same_new (o := .tup ts) nt1
      refine ⟨_, rfl, pi_, _, rfl, .inl ⟨.inl (.inl (s1 _ _ ePi)), fun t2 nt2 => ?_⟩⟩
      have s2 := same_new (o := .tup (natV (elimE p rs n).piv)) nt2
      refine ⟨by show 2 ≤ sizeLine; decide, fun t3 nt3 => ?_⟩
      have s3 := same_new (o := .tup [.ref t1, .ref t2]) nt3
      exact q _ _ (sm.trans (s1.trans (s2.trans s3))) ⟨t1, t2, ts, upd_same, s3 _ _ (s2 _ _ upd_same), st_RR.all (s1.trans (s2.trans s3)) hT, s3 _ _ upd_same⟩
def spSpan (K : PySem.W.Frag) : Sp := fun vs H Q _ => ∃ (a : Addr) (n : Nat) (p : Int) (rs : List (List Int)), vs = [.ref a, .int (n : Int), .int p] ∧ RwS K H a rs ∧ 2 ≤ p ∧ p ≤ 31 ∧ n ≤ 1000 ∧ rs.length ≤ 1000 ∧ (∀ r ∈ rs, Vr p n r) ∧
  ∀ t us H', Same H H' → H' t = some (.tup us) → Paired (RR H') us (redT p n rs) → Q (.ref t) H'
theorem ok_span (T : Txt K mg) : FnOk P w K mg base CX0 5 T.a_span T.d_span ["rows", "width", "p"] (spSpan K) := by
  have G_reduced : FnOk P w K mg base CX0 4 T.a_reduced T.d_reduced ["rows", "width", "p"] (spReduced K) := ok_reduced T
  refine T.F_span.ok sc_span (fun vs H Q E h => ?_) (fun cdv A outer s H vs Q E hr h => ?_)
  · obtain ⟨a, n, p, rs, rfl, _⟩ := h
    rfl
  · obtain ⟨a, n, p, rs, rfl, hW, h2, h31, hn, hrl, hv, q⟩ := h
    refine ⟨_, (pss_cons (ps_asg (pe_call G_reduced (hr.mono (by decide)) (by rfl) T.g_reduced T.F_reduced.kp T.b_reduced .nil pass0 (pa_cons (pv 0) (pa_cons (pv 1) (pa_cons (pv 2) pa_nil)))) (pg_tup rfl (pgs_cons (pg_name (i := 3) sc_span.nd rfl (.inl rfl)) (pgs_cons (pg_name (i := 4) sc_span.nd rfl (.inl rfl)) pgs_nil)))) 
    (pss_one (ps_ret (pv 3)))), ?_⟩
    refine ⟨_, rfl, _, rfl, _, rfl, a, n, p, rs, rfl, hW, h2, h31, hn, hrl, hv, fun t H' sm hR => ?_⟩
    obtain ⟨t1, t2, us, e1, e2, e3, e4⟩ := hR.ex
    refine ⟨t, [.ref t1, .ref t2], rfl, .inl (.inl e1), rfl, _, [.ref t2], rfl, _, [], rfl, rfl, ?_⟩
    exact ⟨_, rfl, q t1 us H' sm e2 e3⟩
/-! ### rows of 0; rest (the mirror) -/
def zeroR (n : Nat) : List Int := List.replicate n 0
theorem zeroR_vr {p : Int} (hp : 0 < p) (n : Nat) : Vr p n (zeroR n) := ⟨List.length_replicate, fun x hx => by
  have := List.eq_of_mem_replicate hx
  omega⟩
theorem flat_rep {α : Type} (x : α) : ∀ n, (List.replicate n [x]).flatten = List.replicate n x
  | 0 => rfl
  | n + 1 => by rw [List.replicate_succ, List.flatten_cons, flat_rep x n]; rfl
/-- the first place with a 1 -/
def oneAt (r : List Int) : Nat := r.findIdx fun x => decide (x = 1)
def restR (p : Int) : List (List Int) → List Int → List Int
  | [], v => v
  | r :: rs, v => restR p rs (clrR p v r (oneAt r))
/-- each row of the table has a 1, at a place below n -/
def Ones (n : Nat) (rs : List (List Int)) : Prop := ∀ r ∈ rs, oneAt r < n
theorem oneAt_get {r : List Int} (h : oneAt r < r.length) : r[oneAt r]? = some 1 ∧ ∀ m, m < oneAt r → r[m]? ≠ some 1 := by
  have hh : r.findIdx (fun x => decide (x = 1)) < r.length := h
  refine ⟨?_, fun m hm => ?_⟩
  · have h2 := List.findIdx_getElem (xs := r) (p := fun x => decide (x = 1)) (w := hh)
    have e := of_decide_eq_true h2
    show r[r.findIdx fun x => decide (x = 1)]? = some 1
    rw [List.getElem?_eq_getElem hh, e]
  · intro z
    have h2 := List.not_of_lt_findIdx (xs := r) (p := fun x => decide (x = 1)) hm
    obtain ⟨hlt, e⟩ := List.getElem?_eq_some_iff.mp z
    rw [e] at h2
    exact absurd h2 (by decide)
theorem restR_vr {p : Int} {n : Nat} (hp : 0 < p) : ∀ (rs : List (List Int)) (v : List Int), (∀ r ∈ rs, Vr p n r) → Vr p n v → Vr p n (restR p rs v)
  | [], v, _, h => h
  | r :: rs, v, hr, h => restR_vr hp rs _ (fun r hr' => hr r (List.mem_cons_of_mem _ hr')) (clrR_vr hp h (hr r (List.mem_cons_self ..)) _)
/-! ### _law_state, _law_take -/
theorem mem_cut {xs : List V} {lo hi : Option Int} {i : Nat} {x : V} (h : (cutV xs lo hi)[i]? = some x) : x ∈ xs :=
  List.mem_of_mem_drop (List.mem_of_mem_take (List.mem_of_getElem? h))
theorem mem_ints {ns : List Int} {x : V} (h : x ∈ ns.map V.int) : ∃ z, x = .int z := by
  obtain ⟨z, _, e⟩ := List.mem_map.mp h
  exact ⟨z, e.symm⟩
def spState (K : PySem.W.Frag) : Sp := fun vs H Q _ => ∃ (a : Addr) (ns : List Int), vs = [.ref a] ∧ SqL K H a (ns.map V.int) ∧
  ∀ H' p (s t : Int), Same H H' → H p = none → H' p = some (.lst [.int s, .int t]) → Q (.ref p) H'
theorem ok_state (T : Txt K mg) : FnOk P w K mg base CX0 1 T.a__law_state T.d__law_state ["script"] (spState K) := by
  refine T.F__law_state.ok sc__law_state (fun vs H Q E h => ?_) (fun cdv A outer s H vs Q E hr h => ?_)
  · obtain ⟨a, ns, rfl, _⟩ := h
    rfl
  · obtain ⟨a, ns, rfl, hS, q⟩ := h
    refine ⟨_, (pss_cons (ps_set (i := 1) sc__law_state.nd rfl (.inl rfl) pe_int) 
    (pss_cons (ps_set (i := 2) sc__law_state.nd rfl (.inl rfl) pe_int) 
    (pss_cons (ps_for PassesOwn.never rfl (pi_list (pe_slice sl_list (pv 0) po_none (po_some pe_int))) (pg_name (i := 3) sc__law_state.nd rfl (.inl rfl)) 
      (pss_cons (ps_set (i := 1) sc__law_state.nd rfl (.inl rfl) (pe_op op_add (pe_op op_mul (pv 1) pe_int) (pe_callB call_abs (by rfl) T.n_abs (by decide +kernel) (pa_cons (pv 3) pa_nil)))) 
      (pss_one (ps_set (i := 2) sc__law_state.nd rfl (.inl rfl) (pe_op op_modN (pe_callTy call_int1 (by rfl) T.n_int (by decide +kernel) (pa_cons (pe_op op_add (pe_op op_mul (pv 2) pe_int) (pv 3)) pa_nil)) pe_int))))) 
    (pss_one (ps_ret (pe_lst (pa_cons (pv 1) (pa_cons (pv 2) pa_nil)))))))), ?_⟩
    refine ⟨.ref a, rfl, 63, rfl, a, ns.map V.int, rfl, hS, fun c nc => ?_⟩
    refine ⟨c, rfl, ⟨_, .inl (.inl upd_same)⟩, for_list (xs := cutV (ns.map V.int) none (some 63)) (fun i σ H' => ∃ (s t : Int) (y : Option V), σ = [some (.ref a), some (.int s), some (.int t), y] ∧ Same H H' ∧ H' c = some (.lst (cutV (ns.map V.int) none (some 63))))
      ⟨0, 1, none, rfl, same_new nc, upd_same⟩ (fun i σ H' _ ⟨_, _, _, _, _, e⟩ => .inl (.inl e)) ?_ ?_⟩
    · rintro i x σ H' hi ⟨s, t, y, rfl, sm, ec⟩
      obtain ⟨z, rfl⟩ := mem_ints (mem_cut hi)
      refine ⟨_, rfl, _, _, rfl, rfl, .inr ⟨by decide, by decide⟩, _, rfl, _, rfl, _, _, rfl, rfl, ?_⟩
      refine ⟨_, rfl, _, _, rfl, rfl, .inr ⟨by decide, by decide⟩, _, rfl, _, _, rfl, rfl, .inl ⟨_, rfl, _, _, rfl, rfl, (show (2147483647 : Int) ≠ 0 by decide), ?_⟩⟩
      exact ⟨_, _, _, rfl, sm, ec⟩
    · rintro σ H' ⟨s, t, y, rfl, sm, ec⟩
      refine ⟨_, rfl, _, rfl, (by show 2 ≤ sizeLine; decide), fun p np => ?_⟩
      exact q _ p s t (sm.trans (same_new np)) (sm.free np) upd_same
/-- a draw: some number below m, the state changed -/
def spTake : Sp := fun vs H Q _ => ∃ (a : Addr) (m : Int) (s t : Int), vs = [.ref a, .int m] ∧ 0 < m ∧ m < 1000000 ∧ H a = some (.lst [.int s, .int t]) ∧
  ∀ (v s' t' : Int), 0 ≤ v → v < m → Q (.int v) (upd H a (.lst [.int s', .int t']))
theorem ok_take (T : Txt K mg) : FnOk P w K mg base CX0 1 T.a__law_take T.d__law_take ["state", "m"] spTake := by
  refine T.F__law_take.ok sc__law_take (fun vs H Q E h => ?_) (fun cdv A outer s H vs Q E hr h => ?_)
  · obtain ⟨a, m, s, t, rfl, _⟩ := h
    rfl
  · obtain ⟨a, m, s, t, rfl, h0, hm, hS, q⟩ := h
    refine ⟨_, (pss_cons (ps_if (pt_cmpR op_gt (pe_ix ix_list (pv 0) pe_int (fun _ _ => rfl)) pe_int (nomark _)) 
      (pss_cons (ps_set (i := 2) sc__law_take.nd rfl (.inl rfl) (pe_op op_modN (pe_callTy call_int1 (by rfl) T.n_int (by decide +kernel) (pa_cons (pe_ix ix_list (pv 0) pe_int (fun _ _ => rfl)) pa_nil)) (pv 1))) 
      (pss_cons (ps_asg (pe_op op_fdivN (pe_ix ix_list (pv 0) pe_int (fun _ _ => rfl)) (pv 1)) (pg_sub (pv 0) pe_int set_list)) 
      (pss_one (ps_ret (pv 2))))) pss_nil) 
    (pss_cons (ps_asg (pe_op op_modN (pe_callTy call_int1 (by rfl) T.n_int (by decide +kernel) (pa_cons (pe_op op_add (pe_op op_mul (pe_ix ix_list (pv 0) pe_int (fun _ _ => rfl)) pe_int) pe_int) pa_nil)) pe_int) (pg_sub (pv 0) pe_int set_list)) 
    (pss_one (ps_ret (pe_op op_modN (pe_callTy call_int1 (by rfl) T.n_int (by decide +kernel) (pa_cons (pe_op op_fdivN (pe_ix ix_list (pv 0) pe_int (fun _ _ => rfl)) pe_int) pa_nil)) (pv 1)))))), ?_⟩
    have hmod : ∀ x : Int, 0 ≤ x.fmod m ∧ x.fmod m < m := fun x => by
      rw [Int.fmod_eq_emod_of_nonneg _ (by omega)]
      exact ⟨Int.emod_nonneg _ (by omega), Int.emod_lt_of_pos _ h0⟩
    have hne : m ≠ 0 := by omega
    have hdv : m ≠ 0 ∧ m.natAbs < 1073741824 := by omega
    refine ⟨.ref a, rfl, a, _, 0, _, rfl, rfl, .inl (.inl hS), atI_nat (j := 0) rfl, _, _, rfl, rfl, _, rfl, ite2 (fun c => ?_) (fun c => ?_)⟩
    · refine ⟨.ref a, rfl, a, _, 0, _, rfl, rfl, .inl (.inl hS), atI_nat (j := 0) rfl, .inl ⟨_, rfl, _, rfl, _, _, rfl, rfl, hne, ?_⟩⟩
      refine ⟨.ref a, rfl, a, _, 0, _, rfl, rfl, .inl (.inl hS), atI_nat (j := 0) rfl, _, rfl, _, _, rfl, rfl, hdv, ?_⟩
      refine ⟨.ref a, rfl, a, _, _, 0, rfl, rfl, hS, rfl, ?_⟩
      exact ⟨_, rfl, q _ _ _ (hmod s).1 (hmod s).2⟩
    · refine ⟨.ref a, rfl, a, _, 1, _, rfl, rfl, .inl (.inl hS), atI_nat (j := 1) rfl, _, _, rfl, rfl, .inr ⟨by decide, by decide⟩, _, _, rfl, rfl, .inl ⟨_, rfl, _, _, rfl, rfl, (show (2147483647 : Int) ≠ 0 by decide), ?_⟩⟩
      refine ⟨.ref a, rfl, a, _, _, 1, rfl, rfl, hS, rfl, ?_⟩
      refine ⟨.ref a, rfl, a, _, 1, _, rfl, rfl, .inl (.inl upd_same), atI_nat (j := 1) rfl, _, _, rfl, rfl, ⟨by decide, by decide⟩, .inl ⟨_, rfl, _, rfl, _, _, rfl, rfl, hne, ?_⟩⟩
      exact q _ _ _ (hmod _).1 (hmod _).2
/-! ### _zeros -/
def spZeros : Sp := fun vs H Q _ => ∃ (n : Nat), vs = [.int (n : Int)] ∧ n ≤ 1000 ∧ ∀ t H', Same H H' → H' t = some (.tup ((zeroR n).map V.int)) → Q (.ref t) H'
theorem ok_zeros (T : Txt K mg) : FnOk P w K mg base CX0 1 T.a__zeros T.d__zeros ["width"] spZeros := by
  refine T.F__zeros.ok sc__zeros (fun vs H Q E h => ?_) (fun cdv A outer s H vs Q E hr h => ?_)
  · obtain ⟨n, rfl, _⟩ := h
    rfl
  · obtain ⟨n, rfl, hn, q⟩ := h
    refine ⟨_, (pss_one (ps_ret (pe_op Own.op_repA (pe_tup (pa_cons pe_int pa_nil)) (pv 0)))), ?_⟩
    refine ⟨by show 1 ≤ sizeLine; decide, fun t nt => ?_⟩
    refine ⟨_, rfl, t, (n : Int), [.int 0], rfl, rfl, upd_same, by simp, by omega, by omega, by show 1 ≤ 1000; decide, fun t2 H2 sm2 e2 => q t2 _ ((same_new nt).trans sm2) ?_⟩
    rw [e2, flat_rep]
    unfold zeroR
    rw [List.map_replicate]
    rfl
/-! ### the law's own rows -/
def spLSum : Sp := fun vs H Q _ => ∃ (a b : V) (p : Int) (v w : List Int), vs = [a, b, .int p] ∧ RR H a v ∧ RR H b w ∧ 0 < p ∧ v.length ≤ 1000 ∧ v.length = w.length ∧ RetR H Q (addR p v w)
theorem addR_map {p : Int} {v w : List Int} (hvw : v.length = w.length) : (List.range v.length).map (fun i => (atR v i + atR w i) % p) = addR p v w := by
  have e3 : v.length = (addR p v w).length := by
    unfold addR
    rw [List.length_map, List.length_zip, ← hvw, Nat.min_self]
  rw [e3]
  refine map_range _ _ fun i x hx => ?_
  have hi : i < v.length := by
    rw [e3]
    exact (List.getElem?_eq_some_iff.mp hx).1
  unfold addR at hx
  rw [List.getElem?_map, List.zip, List.getElem?_zipWith, atR_get hi, atR_get (by omega : i < w.length)] at hx
  exact Option.some.inj hx
theorem scR_map {p c : Int} {v : List Int} : (List.range v.length).map (fun i => (c * atR v i) % p) = scR p v c := by
  have e3 : v.length = (scR p v c).length := by
    unfold scR
    rw [List.length_map]
  rw [e3]
  refine map_range _ _ fun i x hx => ?_
  have hi : i < v.length := by
    rw [e3]
    exact (List.getElem?_eq_some_iff.mp hx).1
  unfold scR at hx
  rw [List.getElem?_map, atR_get hi] at hx
  exact Option.some.inj hx
theorem ok_lsum (T : Txt K mg) : FnOk P w K mg base CX0 1 T.a__law_sum T.d__law_sum ["v", "w", "p"] spLSum := by
  refine T.F__law_sum.ok sc__law_sum (fun vs H Q E h => ?_) (fun cdv A outer s H vs Q E hr h => ?_)
  · obtain ⟨a, b, p, v, w, rfl, _⟩ := h
    rfl
  · obtain ⟨_, _, p, v, w, rfl, ⟨a, rfl, ea⟩, ⟨b, rfl, eb⟩, hp, hl, hvw, q⟩ := h
    refine ⟨_, (pss_one (ps_ret (pe_callTy Own.call_tuple_ofF (by rfl) T.n_tuple (by decide +kernel) (pa_cons (pe_lc (own := [("k", 3)]) rfl sc__law_sum.nd (pi_range1 (by rfl) T.n_range (pa_cons (pe_callB call_len_seq (by rfl) T.n_len (by decide +kernel) (pa_cons (pv 0) pa_nil)) pa_nil)) (blkOk_by (N := N__law_sum) (sc := defScope s__law_sum) (own := [("k", 3)]) (by decide +kernel)) (fun _ _ _ _ _ => (pg_name (i := 3) sc__law_sum.nd rfl (.inl rfl))) (fun _ _ _ _ _ => pts_nil) (fun _ _ _ _ _ => (pe_op op_modE (pe_callTy call_int1 (by rfl) T.n_int (by decide +kernel) (pa_cons (pe_op op_add (pe_ix (show IxR _ (rIxT K) from ix_tup) (pv 0) (pv 3) (fun _ _ => rfl)) (pe_ix (show IxR _ (rIxT K) from ix_tup) (pv 1) (pv 3) (fun _ _ => rfl))) pa_nil)) (pv 2)))) pa_nil)))), ?_⟩
    have hlen : ((v.map V.int).length : Int).toNat = v.length := by rw [List.length_map]; rfl
    refine ⟨_, rfl, a, _, rfl, .inr ea.sq, _, rfl, by rw [List.length_map]; omega, by rw [List.length_map]; omega, fun D nD => ?_⟩
    rw [hlen]
    refine lc_rep (walk_range (lo := 0) (n := v.length)) st_RI (fun i => (atR v i + atR w i) % p) (by omega) nD (fun H2 sm => trivial) (fun i x H2 H3 Q2 hi sm hY q2 => ?_) (fun H2 acc sm eD hP => ?_)
    · obtain ⟨rfl, rfl⟩ := hY
      have e0 : ((0 : Int) + (i : Int)) = (i : Int) := by omega
      refine ⟨rfl, _, rfl, _, rfl, a, _, _, _, rfl, rfl, (ea.mono sm).sq, by rw [e0]; exact atV hi, _, rfl, _, rfl, b, _, _, _, rfl, rfl, (eb.mono sm).sq, by rw [e0]; exact atV (by omega), _, _, rfl, rfl, .inl ⟨_, rfl, _, rfl, _, _, rfl, rfl, hp, q2 _ _ (Same.refl _) rfl⟩⟩
    · have e := ints_of hP
      rw [addR_map hvw] at e
      subst e
      exact ⟨D, _, rfl, .inl (.inl eD), fun u ob nu hob => q _ _ (sm.trans (same_new nu)) ⟨u, rfl, ob, hob, upd_same⟩⟩
def spLScaled : Sp := fun vs H Q _ => ∃ (a : V) (c p : Int) (v : List Int), vs = [a, .int c, .int p] ∧ RR H a v ∧ 0 < p ∧ v.length ≤ 1000 ∧ c.natAbs < 2 ^ 40 ∧ Sm v ∧ RetR H Q (scR p v c)
theorem ok_lscaled (T : Txt K mg) : FnOk P w K mg base CX0 1 T.a__law_scaled T.d__law_scaled ["v", "a", "p"] spLScaled := by
  refine T.F__law_scaled.ok sc__law_scaled (fun vs H Q E h => ?_) (fun cdv A outer s H vs Q E hr h => ?_)
  · obtain ⟨a, c, p, v, rfl, _⟩ := h
    rfl
  · obtain ⟨_, c, p, v, rfl, ⟨a, rfl, ea⟩, hp, hl, hc, hv, q⟩ := h
    refine ⟨_, (pss_one (ps_ret (pe_callTy Own.call_tuple_ofF (by rfl) T.n_tuple (by decide +kernel) (pa_cons (pe_lc (own := [("x", 3)]) rfl sc__law_scaled.nd (pi_tup (pv 0)) (blkOk_by (N := N__law_scaled) (sc := defScope s__law_scaled) (own := [("x", 3)]) (by decide +kernel)) (fun _ _ _ _ _ => (pg_name (i := 3) sc__law_scaled.nd rfl (.inl rfl))) (fun _ _ _ _ _ => pts_nil) (fun _ _ _ _ _ => (pe_op op_modE (pe_callTy call_int1 (by rfl) T.n_int (by decide +kernel) (pa_cons (pe_op op_mulW (pv 3) (pv 1)) pa_nil)) (pv 2)))) pa_nil)))), ?_⟩
    refine ⟨_, rfl, a, rfl, ⟨_, ea.sq⟩, fun D nD => ?_⟩
    refine lc_rep (walk_row (v := v)) st_RI (fun i => (c * atR v i) % p) (by omega) nD (fun H2 sm => (ea.mono sm).sq) (fun i x H2 H3 Q2 hi sm hY q2 => ?_) (fun H2 acc sm eD hP => ?_)
    · obtain ⟨rfl, g1⟩ := hY
      have e1 : x = .int (atR v i) := by
        rw [List.getElem?_map, atR_get hi] at g1
        exact (Option.some.inj g1).symm
      subst e1
      exact ⟨rfl, _, rfl, _, rfl, _, _, rfl, rfl, wide_mul (hv _ (atR_mem hi)) hc (by decide) (by decide) (by decide), .inl ⟨_, rfl, _, rfl, _, _, rfl, rfl, hp, q2 _ _ (Same.refl _) (by rw [Int.mul_comm]; rfl)⟩⟩
    · have e := ints_of hP
      rw [scR_map] at e
      subst e
      exact ⟨D, _, rfl, .inl (.inl eD), fun u ob nu hob => q _ _ (sm.trans (same_new nu)) ⟨u, rfl, ob, hob, upd_same⟩⟩
def spLZero : Sp := fun vs H Q _ => ∃ (n : Nat), vs = [.int (n : Int)] ∧ n ≤ 1000 ∧ RetR H Q (zeroR n)
theorem ok_lzero (T : Txt K mg) : FnOk P w K mg base CX0 1 T.a__law_zero T.d__law_zero ["n"] spLZero := by
  refine T.F__law_zero.ok sc__law_zero (fun vs H Q E h => ?_) (fun cdv A outer s H vs Q E hr h => ?_)
  · obtain ⟨n, rfl, _⟩ := h
    rfl
  · obtain ⟨n, rfl, hn, q⟩ := h
    refine ⟨_, (pss_one (ps_ret (pe_callTy Own.call_tuple_ofF (by rfl) T.n_tuple (by decide +kernel) (pa_cons (pe_lc (own := [("k", 1)]) rfl sc__law_zero.nd (pi_range1 (by rfl) T.n_range (pa_cons (pv 0) pa_nil)) (blkOk_by (N := N__law_zero) (sc := defScope s__law_zero) (own := [("k", 1)]) (by decide +kernel)) (fun _ _ _ _ _ => (pg_name (i := 1) sc__law_zero.nd rfl (.inl rfl))) (fun _ _ _ _ _ => pts_nil) (fun _ _ _ _ _ => pe_int)) pa_nil)))), ?_⟩
    refine ⟨_, rfl, (n : Int), rfl, by omega, by omega, fun D nD => ?_⟩
    refine lc_rep (walk_range (lo := 0) (n := n)) st_RI (fun _ => 0) (by omega) nD (fun H2 sm => trivial) (fun i x H2 H3 Q2 hi sm hY q2 => ?_) (fun H2 acc sm eD hP => ?_)
    · obtain ⟨rfl, rfl⟩ := hY
      exact ⟨rfl, q2 _ _ (Same.refl _) rfl⟩
    · have e := ints_of hP
      have e2 : (List.range n).map (fun _ => (0 : Int)) = zeroR n := by
        unfold zeroR
        rw [List.map_const', List.length_range]
      rw [e2] at e
      subst e
      exact ⟨D, _, rfl, .inl (.inl eD), fun u ob nu hob => q _ _ (sm.trans (same_new nu)) ⟨u, rfl, ob, hob, upd_same⟩⟩
/-- all that was tracked stands, but for a -/
def SameX (a : Addr) (H H' : Hp) : Prop := ∀ b o, b ≠ a → H b = some o → H' b = some o
theorem SameX.trans {a : Addr} {H H1 H2 : Hp} (h : SameX a H H1) (k : SameX a H1 H2) : SameX a H H2 := fun b o n e => k b o n (h b o n e)
theorem Same.x {a : Addr} {H H' : Hp} (h : Same H H') : SameX a H H' := fun b o _ e => h b o e
theorem SameX.put {a : Addr} {H : Hp} {u : HO} : SameX a H (upd H a u) := fun b o n e => by rw [upd_ne n]; exact e
theorem RR.x {a : Addr} {H H' : Hp} {xs : List V} (e : SameX a H H') (ha : H a = some (.lst xs)) {v : V} {r : List Int} (h : RR H v r) : RR H' v r := by
  obtain ⟨t, rfl, o, d, h⟩ := h
  exact ⟨t, rfl, o, d, e t _ (fun z => by rw [z, ha] at h; cases h) h⟩
theorem RR.allx {a : Addr} {H H' : Hp} {xs : List V} (e : SameX a H H') (ha : H a = some (.lst xs)) : ∀ {vs : List V} {rs : List (List Int)}, Paired (RR H) vs rs → Paired (RR H') vs rs
  | _, _, .nil => .nil
  | _, _, .cons h t => .cons (RR.x e ha h) (RR.allx e ha t)
def StA (H : Hp) (a : Addr) : Prop := ∃ s t : Int, H a = some (.lst [.int s, .int t])
def spLElement : Sp := fun vs H Q _ => ∃ (a : Addr) (p : Int) (n : Nat), vs = [.ref a, .int p, .int (n : Int)] ∧ StA H a ∧ 0 < p ∧ p < 1000 ∧ n ≤ 1000 ∧
  ∀ v H' r, SameX a H H' → StA H' a → RR H' v r → Vr p n r → Q v H'
theorem ok_lelement (T : Txt K mg) : FnOk P w K mg base CX0 2 T.a__law_element T.d__law_element ["state", "p", "n"] spLElement := by
  have G__law_take : FnOk P w K mg base CX0 1 T.a__law_take T.d__law_take ["state", "m"] spTake := ok_take T
  refine T.F__law_element.ok sc__law_element (fun vs H Q E h => ?_) (fun cdv A outer s H vs Q E hr h => ?_)
  · obtain ⟨a, p, n, rfl, _⟩ := h
    rfl
  · obtain ⟨a, p, n, rfl, hst, hp, hp2, hn, q⟩ := h
    refine ⟨_, (pss_one (ps_ret (pe_callTy Own.call_tuple_ofF (by rfl) T.n_tuple (by decide +kernel) (pa_cons (pe_lc (own := [("k", 3)]) rfl sc__law_element.nd (pi_range1 (by rfl) T.n_range (pa_cons (pv 2) pa_nil)) (blkOk_by (N := N__law_element) (sc := defScope s__law_element) (own := [("k", 3)]) (by decide +kernel)) (fun _ _ _ _ _ => (pg_name (i := 3) sc__law_element.nd rfl (.inl rfl))) (fun _ _ _ _ _ => pts_nil) (fun _ _ _ _ _ => (pe_call G__law_take (hr.mono (by decide)) (by rfl) T.g__law_take T.F__law_take.kp T.b__law_take .nil pass0 (pa_cons (pv 0) (pa_cons (pv 1) pa_nil))))) pa_nil)))), ?_⟩
    refine ⟨_, rfl, (n : Int), rfl, by omega, by omega, fun D nD => ?_⟩
    obtain ⟨s0, t0, est⟩ := hst
    have haD : a ≠ D := ne_of_none est nD
    refine lc_it (walk_range (lo := 0) (n := n)) (fun i H2 => i ≤ n ∧ ∃ r : List Int, SameX a H H2 ∧ StA H2 a ∧ H2 D = some (.lst (r.map V.int)) ∧ Vr p i r)
      ⟨Nat.zero_le n, [], (Same.x (same_new nD)), ⟨s0, t0, same_new nD _ _ est⟩, upd_same, rfl, fun x h => by cases h⟩ (fun _ _ _ _ => trivial) (fun i x H2 H3 hi hP hY => ?_) (fun H2 hP => ?_)
    · obtain ⟨_, r, sx, ⟨s1, t1, es1⟩, eD, hvr⟩ := hP
      obtain ⟨rfl, rfl⟩ := hY
      refine ⟨rfl, ?_⟩
      refine yesT ?_
      refine ⟨_, rfl, _, rfl, a, p, s1, t1, rfl, hp, by omega, es1, fun v s' t' hv0 hv1 => ?_⟩
      refine ⟨r.map V.int, by rw [upd_ne haD.symm]; exact eD, small1000 (by rw [List.length_map, hvr.1]; omega), hi, r ++ [v], ?_, ⟨s', t', by rw [upd_ne haD, upd_same]⟩, by rw [upd_same, List.map_append]; rfl, by rw [List.length_append, hvr.1]; rfl, fun y hy => ?_⟩
      · intro b o nb hb
        rw [upd_ne (ne_of_none hb nD), upd_ne nb]
        exact sx b o nb hb
      · rcases List.mem_append.mp hy with hy | hy
        · exact hvr.2 y hy
        · rw [List.mem_singleton.mp hy]
          exact ⟨hv0, hv1⟩
    · obtain ⟨_, r, sx, ⟨s1, t1, es1⟩, eD, hvr⟩ := hP
      exact ⟨D, _, rfl, .inl (.inl eD), fun u ob nu hob => q _ _ r (sx.trans (Same.x (same_new nu))) ⟨s1, t1, same_new nu _ _ es1⟩ ⟨u, rfl, ob, hob, upd_same⟩ hvr⟩
/-! ### _law_span -/
def spanStep (p : Int) (L : List (List Int)) (r : List Int) : List (List Int) := if r ∈ L then L else L.flatMap fun w => (List.range p.toNat).map fun a : Nat => addR p w (scR p r (a : Int))
def lspan (p : Int) (n : Nat) (rs : List (List Int)) : List (List Int) := rs.foldl (spanStep p) [zeroR n]
def leR (a b : List Int) : Bool := decide (a ≤ b)
def lspanS (p : Int) (n : Nat) (rs : List (List Int)) : List (List Int) := (lspan p n rs).mergeSort leR
theorem flat_len {α β : Type} {c : Nat} (f : α → List β) : ∀ (L : List α), (∀ x ∈ L, (f x).length = c) → (L.flatMap f).length = c * L.length
  | [], _ => by rw [List.flatMap_nil]; rfl
  | x :: L, h => by
    rw [List.flatMap_cons, List.length_append, h x (List.mem_cons_self ..), flat_len f L fun y hy => h y (List.mem_cons_of_mem _ hy), List.length_cons, Nat.mul_succ, Nat.add_comm]
theorem spanStep_len {p : Int} (hp : 2 ≤ p) (L : List (List Int)) (r : List Int) : (spanStep p L r).length ≤ p.toNat * L.length := by
  unfold spanStep
  split
  · exact Nat.le_mul_of_pos_left _ (by omega)
  · rw [flat_len (c := p.toNat) _ L fun x _ => by rw [List.length_map, List.length_range]]
    exact Nat.le_refl _
theorem lspan_step {p : Int} {n : Nat} {rs : List (List Int)} {i : Nat} {r : List Int} (h : rs[i]? = some r) : lspan p n (rs.take (i + 1)) = spanStep p (lspan p n (rs.take i)) r := by
  unfold lspan
  rw [List.take_add_one, h, List.foldl_append]
  rfl
theorem lspan_len {p : Int} {n : Nat} {rs : List (List Int)} (hp : 2 ≤ p) : ∀ i, i ≤ rs.length → (lspan p n (rs.take i)).length ≤ p.toNat ^ i
  | 0, _ => Nat.le_refl 1
  | i + 1, h => by
    have hi := lspan_len (rs := rs) (n := n) hp i (by omega)
    obtain ⟨r, hr⟩ : ∃ r, rs[i]? = some r := ⟨rs[i], List.getElem?_eq_getElem (by omega)⟩
    rw [lspan_step hr, Nat.pow_succ, Nat.mul_comm]
    exact Nat.le_trans (spanStep_len hp _ _) (Nat.mul_le_mul_left _ hi)
theorem spanStep_vr {p : Int} {n : Nat} (hp : 0 < p) {L : List (List Int)} {r : List Int} (hL : ∀ v ∈ L, Vr p n v) (hr : Vr p n r) : ∀ v ∈ spanStep p L r, Vr p n v := by
  unfold spanStep
  split
  · exact hL
  · intro v hv
    obtain ⟨w, hw, hv⟩ := List.mem_flatMap.mp hv
    obtain ⟨a, _, rfl⟩ := List.mem_map.mp hv
    exact addR_vr hp (hL w hw) (scR_vr hp hr.1 _)
theorem lspan_vr {p : Int} {n : Nat} (hp : 0 < p) {rs : List (List Int)} (hr : ∀ r ∈ rs, Vr p n r) : ∀ v ∈ lspan p n rs, Vr p n v := by
  unfold lspan
  have h0 : ∀ v ∈ [zeroR n], Vr p n v := fun v hv => by rw [List.mem_singleton.mp hv]; exact zeroR_vr hp n
  revert h0
  generalize [zeroR n] = L
  induction rs generalizing L with
  | nil => intro h0; exact h0
  | cons r rs ih =>
    intro h0
    exact ih (fun r' h' => hr r' (List.mem_cons_of_mem _ h')) _ (spanStep_vr hp h0 (hr r (List.mem_cons_self ..)))
def dRows (L : List (List Int)) : PyData := .list (L.map dInts)
theorem canLay_rows : ∀ L : List (List Int), PyData.canLayAll0 (L.map dInts) = true
  | [] => by simp [PyData.canLayAll0]
  | x :: r => by
    have h : (dInts x).canLay0 = true := SeqAt.canLay_of_shaped (shaped_dInts x)
    simp [PyData.canLayAll0, h, canLay_rows r]
theorem depth_rows : ∀ L : List (List Int), PyData.depthAll (L.map dInts) ≤ 2
  | [] => by simp [PyData.depthAll]
  | x :: r => by
    have h := depth_rows r
    have h1 := PySem.W.depthAll_ints x
    have h2 : (dInts x).depth ≤ 2 := by
      unfold dInts
      simp only [PyData.depth]
      omega
    simp only [List.map_cons, PyData.depthAll]
    omega
theorem shaped_dRows (L : List (List Int)) : SeqAt.shaped (dRows L) = true := by
  have h1 := depth_rows L
  have h2 : PyData.depth (.list (L.map dInts)) ≤ 64 := by simp only [PyData.depth]; omega
  show (PyData.canLay0 (.list (L.map dInts)) && decide (PyData.depth (.list (L.map dInts)) ≤ 64)) = true
  rw [Bool.and_eq_true]
  exact ⟨by simp only [PyData.canLay0]; exact canLay_rows L, decide_eq_true h2⟩
theorem dpAll_rows {H : Hp} : ∀ {us : List V} {L : List (List Int)}, Paired (RR H) us L → DpAll K H us (L.map dInts)
  | _, _, .nil => .nil
  | _, _, .cons h t => .cons (by obtain ⟨t, rfl, ht⟩ := h; exact dp_ints ht.sq) (dpAll_rows t)
theorem dp_rowsL {H : Hp} {a : Addr} {us : List V} {L : List (List Int)} (h : SqL K H a us) (hP : Paired (RR H) us L) : Dp K H (.ref a) (dRows L) := .lst h (dpAll_rows hP)
theorem dpAll_rowsS {H : Hp} : ∀ {us : List V} {L : List (List Int)}, Paired (RS K H) us L → DpAll K H us (L.map dInts)
  | _, _, .nil => .nil
  | _, _, .cons h t => .cons (by obtain ⟨t, rfl, ht⟩ := h; exact dp_ints ht) (dpAll_rowsS t)
theorem dp_rowsS {H : Hp} {a : Addr} {us : List V} {L : List (List Int)} (h : SqL K H a us) (hP : Paired (RS K H) us L) : Dp K H (.ref a) (dRows L) := .lst h (dpAll_rowsS hP)
theorem any_rows (L : List (List Int)) (r : List Int) : (L.map dInts).any (fun z => PyData.eqv z (dInts r)) = decide (r ∈ L) := by
  induction L with
  | nil => rfl
  | cons x L ih =>
    rw [List.map_cons, List.any_cons, ih, eqv_dInts]
    by_cases h : x = r
    · subst h
      simp
    · have h' : ¬ r = x := fun z => h z.symm
      simp [h, h']
theorem eqvAll_rows : ∀ L M : List (List Int), PyData.eqvAll (L.map dInts) (M.map dInts) = decide (L = M)
  | [], [] => by simp [PyData.eqvAll]
  | [], _ :: _ => by simp [PyData.eqvAll]
  | _ :: _, [] => by simp [PyData.eqvAll]
  | x :: L, y :: M => by
    simp only [List.map_cons, PyData.eqvAll, eqv_dInts, eqvAll_rows L M]
    by_cases h : x = y <;> simp [h]
theorem eqv_dRows (L M : List (List Int)) : PyData.eqv (dRows L) (dRows M) = decide (L = M) := by
  unfold dRows
  rw [PyData.eqv]
  exact eqvAll_rows L M
theorem unpair {H : Hp} : ∀ {us : List V} {L : List (List Int)}, Paired (RR H) us L → ∃ bs : List (Addr × List Int), us = bs.map (fun b => V.ref b.1) ∧ L = bs.map (·.2) ∧ ∀ b ∈ bs, RowAt H b.1 b.2
  | _, _, .nil => ⟨[], rfl, rfl, fun b h => by cases h⟩
  | _, _, @Paired.cons _ _ _ v r us rs h t => by
    obtain ⟨bs, e1, e2, e3⟩ := unpair t
    obtain ⟨t0, rfl, ht⟩ := h
    refine ⟨(t0, r) :: bs, by rw [e1]; rfl, by rw [e2]; rfl, fun b hb => ?_⟩
    rcases List.mem_cons.mp hb with rfl | hb
    · exact ht
    · exact e3 b hb
theorem repair {H : Hp} : ∀ {bs : List (Addr × List Int)}, (∀ b ∈ bs, RowAt H b.1 b.2) → Paired (RR H) (bs.map fun b => V.ref b.1) (bs.map (·.2))
  | [], _ => .nil
  | b :: bs, h => .cons ⟨b.1, rfl, h b (List.mem_cons_self ..)⟩ (repair fun c hc => h c (List.mem_cons_of_mem _ hc))
theorem hu65 {A : Around} {k : Nat} (hr : Room k A) : A.units + 65 < cLine := by
  have := hr.un
  omega
def spLSpan (K : PySem.W.Frag) : Sp := fun vs H Q _ => ∃ (a : Addr) (n : Nat) (p : Int) (rs : List (List Int)), vs = [.ref a, .int (n : Int), .int p] ∧ Rws K H a rs ∧ 2 ≤ p ∧ p ≤ 31 ∧ n ≤ 1000 ∧ p.toNat ^ rs.length ≤ 2000 ∧ (∀ r ∈ rs, Vr p n r) ∧
  ∀ l us H', Same H H' → H l = none → H' l = some (.lst us) → Paired (RR H') us (lspanS p n rs) → Q (.ref l) H'
theorem lspan_zero {p : Int} {rs : List (List Int)} (hr : ∀ r ∈ rs, Vr p 0 r) : lspan p 0 rs = [[]] := by
  unfold lspan
  induction rs with
  | nil => rfl
  | cons r rs ih =>
    have h := (hr r (List.mem_cons_self ..)).1
    have e : r = [] := List.eq_nil_of_length_eq_zero h
    rw [List.foldl_cons]
    have e2 : spanStep p [zeroR 0] r = [zeroR 0] := by
      unfold spanStep
      rw [if_pos (by rw [e]; exact List.mem_singleton.mpr rfl)]
    rw [e2]
    exact ih fun r' h' => hr r' (List.mem_cons_of_mem _ h')
theorem ok_lspan (T : Txt K mg) : FnOk P w K mg base CX0 2 T.a__law_span T.d__law_span ["rows", "n", "p"] (spLSpan K) := by
  have G__law_zero : FnOk P w K mg base CX0 1 T.a__law_zero T.d__law_zero ["n"] spLZero := ok_lzero T
  have G__law_sum : FnOk P w K mg base CX0 1 T.a__law_sum T.d__law_sum ["v", "w", "p"] spLSum := ok_lsum T
  have G__law_scaled : FnOk P w K mg base CX0 1 T.a__law_scaled T.d__law_scaled ["v", "a", "p"] spLScaled := ok_lscaled T
  refine T.F__law_span.ok sc__law_span (fun vs H Q E h => ?_) (fun cdv A outer s H vs Q E hr h => ?_)
  · obtain ⟨a, n, p, rs, rfl, _⟩ := h
    rfl
  · obtain ⟨a, n, p, rs, rfl, ⟨vs0, hS, hP⟩, h2, h31, hn, hpow, hv, q⟩ := h
    have hp : 0 < p := by omega
    have hlb : ∀ i, i ≤ rs.length → (lspan p n (rs.take i)).length ≤ 2000 := fun i hi => Nat.le_trans (lspan_len h2 i hi) (Nat.le_trans (Nat.pow_le_pow_right (by omega) hi) hpow)
    refine ⟨_, (pss_cons (ps_set (i := 3) sc__law_span.nd rfl (.inl rfl) (pe_lst (pa_cons (pe_call G__law_zero (hr.mono (by decide)) (by rfl) T.g__law_zero T.F__law_zero.kp T.b__law_zero .nil pass0 (pa_cons (pv 1) pa_nil)) pa_nil))) 
    (pss_cons (ps_for PassesOwn.never rfl (Own.pi_seq (pv 0)) (pg_name (i := 4) sc__law_span.nd rfl (.inr rfl)) 
      (pss_one (ps_if (pt_cmpR (op_notInD (hu65 hr)) (pv 4) (pv 3) rfl) 
        (pss_cons (ps_set (i := 5) sc__law_span.nd rfl (.inl rfl) (pe_lst pa_nil)) 
        (pss_cons (ps_for PassesOwn.never rfl (pi_list (pv 3)) (pg_name (i := 6) sc__law_span.nd rfl (.inr rfl)) 
          (pss_one (ps_set (i := 5) sc__law_span.nd rfl (.inl rfl) (pe_op op_cat (pv 5) (pe_lc (own := [("a", 7)]) rfl sc__law_span.nd (pi_range1 (by rfl) T.n_range (pa_cons (pv 2) pa_nil)) (blkOk_by (N := N__law_span) (sc := defScope s__law_span) (own := [("a", 7)]) (by decide +kernel)) (fun _ _ _ _ _ => (pg_name (i := 7) sc__law_span.nd rfl (.inl rfl))) (fun _ _ _ _ _ => pts_nil) (fun _ _ _ _ _ => (pe_call G__law_sum (hr.mono (by decide)) (by rfl) T.g__law_sum T.F__law_sum.kp T.b__law_sum .nil pass0 (pa_cons (pv 6) (pa_cons (pe_call G__law_scaled (hr.mono (by decide)) (by rfl) T.g__law_scaled T.F__law_scaled.kp T.b__law_scaled .nil pass0 (pa_cons (pv 4) (pa_cons (pv 7) (pa_cons (pv 2) pa_nil)))) (pa_cons (pv 2) pa_nil)))))))))) 
        (pss_one (ps_set (i := 3) sc__law_span.nd rfl (.inl rfl) (pe_callTy call_list_of (by rfl) T.n_list (by decide +kernel) (pa_cons (pv 5) pa_nil)))))) pss_nil))) 
    (pss_one (ps_ret (pe_callB (Own.cr_sortedR hr.units) (by rfl) T.n_sorted (by decide +kernel) (pa_cons (pv 3) pa_nil)))))), ?_⟩
    refine ⟨_, rfl, n, rfl, hn, fun z H1 sm1 hz => ⟨by show 1 ≤ sizeLine; decide, fun fo nfo => ?_⟩⟩
    have smF := sm1.trans (same_new (o := .lst [z]) nfo)
    obtain ⟨b, hB⟩ := Own.sqb_of hS
    refine ⟨_, rfl, a, vs0, b, rfl, Own.same_sqb smF hB, fun J wJ => ?_⟩
    refine for_it wJ (fun i σ H' => ∃ (fo : Addr) (us : List V) (y4 y5 y6 : Option V), σ = [some (.ref a), some (.int (n : Int)), some (.int p), some (.ref fo), y4, y5, y6, none] ∧ Same H H' ∧ H fo = none ∧ H' fo = some (.lst us) ∧ Paired (RR H') us (lspan p n (rs.take i)))
      ⟨fo, [z], none, none, none, rfl, smF, sm1.free nfo, upd_same, .cons (st_RR.same (same_new nfo) hz) .nil⟩ (fun i σ H' _ ⟨_, _, _, _, _, _, sm, _⟩ => Own.same_sqb sm hB) ?_ ?_
    · rintro i x σ H' H2 hi ⟨fo, us, y4, y5, y6, rfl, sm, nfo, ef, hL⟩ ⟨rfl, hx⟩
      obtain ⟨r, er, hRr⟩ := paired_get hP hx
      have hvr := hv r (List.mem_of_getElem? er)
      have hRr := st_RR.same sm hRr
      have hilt : i < rs.length := (List.getElem?_eq_some_iff.mp er).1
      have hstep := lspan_step (p := p) (n := n) er
      have hlen := hlb i (by omega)
      have hLv := lspan_vr (n := n) hp (rs := rs.take i) (fun r hr => hv r (List.mem_of_mem_take hr))
      have hin : Paired (RR H2) us (lspan p n (rs.take i)) := hL
      refine ⟨_, rfl, _, rfl, dInts r, (lspan p n (rs.take i)).map dInts, by obtain ⟨t, rfl, ht⟩ := hRr; exact dp_ints ht.sq, dp_rowsL (.inl (.inl ef)) hL, shaped_dInts r, shaped_dRows _, _, rfl, ?_⟩
      rw [any_rows]
      by_cases hmem : r ∈ lspan p n (rs.take i)
      · refine iteB (not_dec hmem) ⟨fo, us, _, _, _, rfl, sm, nfo, ef, ?_⟩
        rw [hstep]
        unfold spanStep
        rw [if_pos hmem]
        exact hL
      · refine iteA (by rw [decide_eq_false hmem]; rfl) ?_
        have hstep2 : lspan p n (rs.take (i + 1)) = (lspan p n (rs.take i)).flatMap fun w => (List.range p.toNat).map fun a : Nat => addR p w (scR p r (a : Int)) := by
          rw [hstep]
          unfold spanStep
          rw [if_neg hmem]
        generalize hLL : lspan p n (rs.take i) = L at *
        refine ⟨Nat.zero_le _, fun lo nlo => ?_⟩
        have ef1 := same_new (o := .lst []) nlo _ _ ef
        refine ⟨_, rfl, fo, rfl, ⟨_, .inl (.inl ef1)⟩, for_list (xs := us) (fun j σ H3 => ∃ (lo : Addr) (ls : List V) (y6 : Option V), σ = [some (.ref a), some (.int (n : Int)), some (.int p), some (.ref fo), some x, some (.ref lo), y6, none] ∧ Same H2 H3 ∧ H2 lo = none ∧ H3 lo = some (.lst ls) ∧ Paired (RR H3) ls ((L.take j).flatMap fun w => (List.range p.toNat).map fun a : Nat => addR p w (scR p r (a : Int))))
          ⟨lo, [], y6, rfl, same_new nlo, nlo, upd_same, .nil⟩ (fun j σ H3 _ ⟨_, _, _, _, sm3, _⟩ => .inl (.inl (sm3 _ _ ef))) ?_ ?_⟩
        · rintro j x2 σ H3 hj ⟨lo, ls, y6, rfl, sm3, nlo, elo, hls⟩
          obtain ⟨w, ew, hRw⟩ := paired_get hL hj
          have hvw := hLv w (List.mem_of_getElem? ew)
          have hRw := st_RR.same sm3 hRw
          have hRr3 := st_RR.same sm3 hRr
          refine ⟨_, rfl, _, rfl, p, rfl, by omega, by omega, fun D nD => ?_⟩
          refine lc_rep (walk_range (lo := 0) (n := p.toNat)) st_RR (fun c => addR p w (scR p r (c : Int))) (by omega) nD (fun H4 _ => trivial) (fun c x3 H4 H5 Q2 hc sm4 hY q2 => ?_) (fun H4 acc sm4 eD hPa => ?_)
          · obtain ⟨rfl, rfl⟩ := hY
            have e0 : ((0 : Int) + (c : Int)) = (c : Int) := by omega
            refine ⟨rfl, _, rfl, _, rfl, _, rfl, _, rfl, _, (c : Int), p, r, by show [x, V.int ((0 : Int) + (c : Int)), V.int p] = [x, V.int (c : Int), V.int p]; rw [e0], st_RR.same sm4 hRr3, hp, by rw [hvr.1]; exact hn, by omega, hvr.sm h31, fun v2 H6 sm6 hR6 => ?_⟩
            refine ⟨_, rfl, _, v2, p, w, _, rfl, st_RR.same sm6 (st_RR.same sm4 hRw), hR6, hp, by rw [hvw.1]; exact hn, by rw [hvw.1, (scR_vr hp hvr.1 _).1], fun v7 H7 sm7 hR7 => q2 v7 H7 (sm6.trans sm7) hR7⟩
          · have elo4 := sm4 _ _ elo
            have hlj : ls.length ≤ 70000 := by
              rw [Paired.length hls, flat_len (c := p.toNat) _ _ fun x _ => by rw [List.length_map, List.length_range]]
              have h1 : (L.take j).length ≤ 2000 := by rw [List.length_take]; omega
              exact Nat.le_trans (Nat.mul_le_mul (show p.toNat ≤ 31 by omega) h1) (by decide)
            have hac : acc.length = p.toNat := by rw [Paired.length hPa, List.length_map, List.length_range]
            refine ⟨lo, D, _, _, rfl, rfl, elo4, eD, Nat.le_of_lt (small2000 (by rw [hac]; omega)), fun u nu => ?_⟩
            refine ⟨u, ls ++ acc, _, rfl, sm3.trans (sm4.trans (same_new nu)), (sm3.trans sm4).free nu, upd_same, ?_⟩
            rw [List.take_add_one, ew, List.flatMap_append]
            refine st_RR.all (same_new nu) (paired_app (st_RR.all sm4 hls) ?_)
            show Paired (RR H4) acc ([w].flatMap fun w => (List.range p.toNat).map fun a : Nat => addR p w (scR p r (a : Int)))
            rw [List.flatMap_cons, List.flatMap_nil, List.append_nil]
            exact hPa
        · rintro σ H3 ⟨lo, ls, y6, rfl, sm3, nlo, elo, hls⟩
          rw [Paired.length hL, List.take_length] at hls
          refine ⟨_, rfl, lo, ls, rfl, .inl (.inl (.inl elo)), fun u nu => ?_⟩
          refine ⟨u, ls, _, _, _, rfl, sm.trans (sm3.trans (same_new nu)), (sm.trans sm3).free nu, upd_same, ?_⟩
          rw [hstep2]
          exact st_RR.all (same_new nu) hls
    · rintro σ H' ⟨fo, us, y4, y5, y6, rfl, sm, nfo, ef, hL⟩
      rw [Paired.length hP, List.take_length] at hL
      obtain ⟨bs, e1, e2, e3⟩ := unpair hL
      have hvv := lspan_vr (n := n) hp hv
      refine ⟨_, rfl, fo, bs, rfl, by rw [← e1]; exact .inl (.inl ef), fun b hb => (e3 b hb).sq, ?_, fun l nl => ?_⟩
      · by_cases hn0 : n = 0
        · refine .inr ?_
          subst hn0
          have := congrArg List.length e2
          rw [lspan_zero hv, List.length_map] at this
          exact Nat.le_of_eq this.symm
        · refine .inl fun b hb z => ?_
          have := (hvv b.2 (by rw [e2]; exact List.mem_map.mpr ⟨b, hb, rfl⟩)).1
          rw [z] at this
          exact hn0 this.symm
      · refine q l _ _ (sm.trans (same_new nl)) (sm.free nl) upd_same ?_
        have hsort : (bs.mergeSort Own.leB).map (·.2) = lspanS p n rs := by
          unfold lspanS
          rw [e2]
          exact PySem.W.sort_maps (fun b : Addr × List Int => b.2) fun _ _ _ _ => rfl
        rw [← hsort]
        exact st_RR.all (same_new nl) (repair fun b hb => e3 b (List.mem_mergeSort.mp hb))
/-! ### reduced tables -/
structure Form (p : Int) (n : Nat) (tb : List (List Int)) (pv_ : List Nat) : Prop where
  len : tb.length = pv_.length
  vr : ∀ r ∈ tb, Vr p n r
  lt : ∀ k ∈ pv_, k < n
  inc : pv_.Pairwise (· < ·)
  one : ∀ (i : Nat) (r : List Int) (k : Nat), tb[i]? = some r → pv_[i]? = some k → atR r k = 1
  lead : ∀ (i : Nat) (r : List Int) (k : Nat), tb[i]? = some r → pv_[i]? = some k → ∀ j, j < k → atR r j = 0
  zero : ∀ (i : Nat) (r : List Int) (j k : Nat), tb[i]? = some r → pv_[j]? = some k → i ≠ j → atR r k = 0
def headsR (r : List Int) (j : Nat) : List Nat := (List.range j).filter fun k => decide (atR r k ≠ 0)
theorem headsR_more (r : List Int) (j : Nat) : headsR r (j + 1) = headsR r j ++ (if atR r j ≠ 0 then [j] else []) := by
  unfold headsR
  rw [List.range_succ, List.filter_append]
  congr 1
  by_cases h : atR r j ≠ 0
  · rw [if_pos h, List.filter_cons_of_pos (by exact decide_eq_true h), List.filter_nil]
  · rw [if_neg h, List.filter_cons_of_neg (by rw [decide_eq_false h]; exact Bool.false_ne_true), List.filter_nil]
theorem headsR_len (r : List Int) (j : Nat) : (headsR r j).length ≤ j := by
  unfold headsR
  refine Nat.le_trans (List.length_filter_le _ _) ?_
  rw [List.length_range]
  exact Nat.le_refl j
theorem headsR_lead {r : List Int} {k : Nat} (h0 : ∀ j, j < k → atR r j = 0) (h1 : atR r k ≠ 0) : ∀ n, k < n → ∃ rest, headsR r n = k :: rest
  | 0, h => absurd h (Nat.not_lt_zero k)
  | n + 1, h => by
    by_cases hk : k < n
    · obtain ⟨rest, e⟩ := headsR_lead h0 h1 n hk
      exact ⟨_, by rw [headsR_more, e]; rfl⟩
    · have e : k = n := by omega
      subst e
      have e0 : headsR r k = [] := by
        unfold headsR
        rw [List.filter_eq_nil_iff]
        intro j hj
        have := h0 j (List.mem_range.mp hj)
        rw [this]
        decide
      exact ⟨[], by rw [headsR_more, e0, if_pos h1]; rfl⟩
theorem natV_add (l : List Nat) (k : Nat) : natV (l ++ [k]) = natV l ++ [.int (k : Int)] := by
  unfold natV
  rw [List.map_append]
  rfl
theorem bl_ne {x y : Int} (h : x ≠ y) : (!decide (V.int x = V.int y)) = true := by rw [decide_eq_false (fun z => h (V.int.inj z))]; rfl
/-! ### _law_prime -/
def primesL : List Int := [2, 2, 3, 3, 5, 7, 31]
def spPrime : Sp := fun vs H Q _ => ∃ (a : Addr), vs = [.ref a] ∧ StA H a ∧ ∀ H' p, SameX a H H' → StA H' a → p ∈ primesL → Q (.int p) H'
theorem take_in {L : List Int} {v : Int} (h0 : 0 ≤ v) (h1 : v < (L.length : Int)) : ∃ p, p ∈ L ∧ atI (L.map V.int) v = some (.int p) := by
  obtain ⟨j, rfl⟩ := Int.eq_ofNat_of_zero_le h0
  have hj : j < L.length := by omega
  refine ⟨L[j], List.getElem_mem hj, atI_nat ?_⟩
  rw [List.getElem?_map, List.getElem?_eq_getElem hj]
  rfl
theorem ok_prime (T : Txt K mg) : FnOk P w K mg base CX0 2 T.a__law_prime T.d__law_prime ["state"] spPrime := by
  have G__law_take : FnOk P w K mg base CX0 1 T.a__law_take T.d__law_take ["state", "m"] spTake := ok_take T
  refine T.F__law_prime.ok sc__law_prime (fun vs H Q E h => ?_) (fun cdv A outer s H vs Q E hr h => ?_)
  · obtain ⟨a, rfl, _⟩ := h
    rfl
  · obtain ⟨a, rfl, ⟨s0, t0, est⟩, q⟩ := h
    refine ⟨_, (pss_one (ps_ret (pe_ix ix_list (pe_lst (pa_cons pe_int (pa_cons pe_int (pa_cons pe_int (pa_cons pe_int (pa_cons pe_int (pa_cons pe_int (pa_cons pe_int pa_nil)))))))) (pe_call G__law_take (hr.mono (by decide)) (by rfl) T.g__law_take T.F__law_take.kp T.b__law_take .nil pass0 (pa_cons (pv 0) (pa_cons pe_int pa_nil))) (fun _ _ => rfl)))), ?_⟩
    refine ⟨by show 7 ≤ sizeLine; decide, fun l nl => ?_⟩
    have est1 := same_new (o := .lst (primesL.map V.int)) nl _ _ est
    have hla : l ≠ a := fun z => by rw [z, est] at nl; cases nl
    refine ⟨_, rfl, a, 7, _, _, rfl, by decide, by decide, est1, fun v s1 t1 h0 h1 => ?_⟩
    obtain ⟨p, hp, hat⟩ := take_in (L := primesL) h0 h1
    refine ⟨l, primesL.map V.int, v, .int p, rfl, rfl, .inl (.inl (by rw [upd_ne hla, upd_same]; rfl)), hat, ?_⟩
    exact q _ p ((Same.x (same_new nl)).trans SameX.put) ⟨s1, t1, upd_same⟩ hp
def widthsL : List Int := [0, 0, 5, 5, 0, 4, 0, 4]
theorem prime_facts : ∀ p ∈ primesL, 2 ≤ p ∧ p ≤ 31 ∧ (p < 8 → (widthsL.map V.int)[p.toNat]? = some (.int (if p ≤ 3 then 5 else 4)) ∧ 0 ≤ p) := by decide
/-! ### linear algebra modulo p, on lists -/
theorem atR_add {p : Int} {v w : List Int} {i : Nat} (hv : i < v.length) (hw : i < w.length) : atR (addR p v w) i = (atR v i + atR w i) % p := by
  unfold addR
  have h : ((v.zip w).map fun x => (x.1 + x.2) % p)[i]? = some ((atR v i + atR w i) % p) := by
    rw [List.getElem?_map, List.zip, List.getElem?_zipWith, atR_get hv, atR_get hw]
    rfl
  unfold atR
  rw [List.getD_eq_getElem?_getD, h]
  rfl
theorem atR_sc {p c : Int} {v : List Int} {i : Nat} (hv : i < v.length) : atR (scR p v c) i = (c * atR v i) % p := by
  have h : (v.map fun x => (c * x) % p)[i]? = some ((c * atR v i) % p) := by
    rw [List.getElem?_map, atR_get hv]
    rfl
  unfold scR
  show (v.map fun x => (c * x) % p).getD i 0 = _
  rw [List.getD_eq_getElem?_getD, h]
  rfl
theorem atR_zero {n i : Nat} : atR (zeroR n) i = 0 := by
  unfold atR zeroR
  rw [List.getD_eq_getElem?_getD]
  by_cases h : i < n
  · rw [List.getElem?_replicate, if_pos h]; rfl
  · rw [List.getElem?_replicate, if_neg h]; rfl
theorem ext_at {p : Int} {n : Nat} {u v : List Int} (hu : Vr p n u) (hv : Vr p n v) (h : ∀ i, i < n → atR u i = atR v i) : u = v := by
  apply List.ext_getElem?
  intro i
  by_cases hi : i < n
  · rw [atR_get (by rw [hu.1]; exact hi), atR_get (by rw [hv.1]; exact hi), h i hi]
  · rw [List.getElem?_eq_none (by rw [hu.1]; omega), List.getElem?_eq_none (by rw [hv.1]; omega)]
section
variable {p : Int} {n : Nat}
theorem mm (a b : Int) : (a * (b % p)) % p = (a * b) % p := by rw [Int.mul_emod, Int.emod_emod_of_dvd _ (Int.dvd_refl p), ← Int.mul_emod]
theorem add_comm' {u v : List Int} (hp : 0 < p) (hu : Vr p n u) (hv : Vr p n v) : addR p u v = addR p v u :=
  ext_at (addR_vr hp hu hv) (addR_vr hp hv hu) fun i hi => by
    rw [atR_add (by rw [hu.1]; exact hi) (by rw [hv.1]; exact hi), atR_add (by rw [hv.1]; exact hi) (by rw [hu.1]; exact hi), Int.add_comm]
theorem add_assoc' {u v w_ : List Int} (hp : 0 < p) (hu : Vr p n u) (hv : Vr p n v) (hw : Vr p n w_) : addR p (addR p u v) w_ = addR p u (addR p v w_) :=
  ext_at (addR_vr hp (addR_vr hp hu hv) hw) (addR_vr hp hu (addR_vr hp hv hw)) fun i hi => by
    have a1 := hu.1; have a2 := hv.1; have a3 := hw.1
    have a4 := (addR_vr hp hu hv).1; have a5 := (addR_vr hp hv hw).1
    rw [atR_add (by omega) (by omega), atR_add (by omega) (by omega), atR_add (by omega) (by omega), atR_add (by omega) (by omega), Int.emod_add_emod, Int.add_emod_emod, Int.add_assoc]
theorem add_zero' {v : List Int} (hp : 0 < p) (hv : Vr p n v) : addR p v (zeroR n) = v :=
  ext_at (addR_vr hp hv (zeroR_vr hp n)) hv fun i hi => by
    have hb := hv.at hi
    rw [atR_add (by rw [hv.1]; exact hi) (by rw [(zeroR_vr hp n).1]; exact hi), atR_zero, Int.add_zero, emod_small hb.1 hb.2]
theorem zero_add' {v : List Int} (hp : 0 < p) (hv : Vr p n v) : addR p (zeroR n) v = v := by
  rw [add_comm' hp (zeroR_vr hp n) hv, add_zero' hp hv]
theorem la_sc_add {v w_ : List Int} (hp : 0 < p) (hv : Vr p n v) (hw : Vr p n w_) (c : Int) : scR p (addR p v w_) c = addR p (scR p v c) (scR p w_ c) := by
  have hs := scR_vr hp (addR_vr hp hv hw).1 c
  have h1 := scR_vr hp hv.1 c
  have h2 := scR_vr hp hw.1 c
  refine ext_at hs (addR_vr hp h1 h2) fun i hi => ?_
  have a1 := hv.1; have a2 := hw.1; have a3 := (addR_vr hp hv hw).1; have a4 := h1.1; have a5 := h2.1
  rw [atR_sc (by omega), atR_add (by omega) (by omega), atR_add (by omega) (by omega), atR_sc (by omega), atR_sc (by omega), mm, Int.mul_add, ← Int.add_emod]
theorem la_sc_sc {v : List Int} (hp : 0 < p) (hv : Vr p n v) (c d : Int) : scR p (scR p v c) d = scR p v (d * c) := by
  have h1 := scR_vr hp hv.1 c
  refine ext_at (scR_vr hp h1.1 d) (scR_vr hp hv.1 _) fun i hi => ?_
  have a1 := hv.1; have a2 := h1.1
  rw [atR_sc (by omega), atR_sc (by omega), atR_sc (by omega), mm, Int.mul_assoc]
theorem la_add_sc {v : List Int} (hp : 0 < p) (hv : Vr p n v) (c d : Int) : addR p (scR p v c) (scR p v d) = scR p v (c + d) := by
  have h1 := scR_vr hp hv.1 c
  have h2 := scR_vr hp hv.1 d
  refine ext_at (addR_vr hp h1 h2) (scR_vr hp hv.1 _) fun i hi => ?_
  have a1 := hv.1; have a2 := h1.1; have a3 := h2.1
  rw [atR_add (by omega) (by omega), atR_sc (by omega), atR_sc (by omega), atR_sc (by omega), ← Int.add_emod, Int.add_mul]
theorem la_sc_mod {v : List Int} (hp : 0 < p) (hv : Vr p n v) (c : Int) : scR p v (c % p) = scR p v c := by
  refine ext_at (scR_vr hp hv.1 _) (scR_vr hp hv.1 _) fun i hi => ?_
  have a1 := hv.1
  rw [atR_sc (by omega), atR_sc (by omega), Int.mul_emod, Int.emod_emod_of_dvd _ (Int.dvd_refl p), ← Int.mul_emod]
theorem la_sc_zero {v : List Int} (hp : 0 < p) (hv : Vr p n v) : scR p v 0 = zeroR n := by
  refine ext_at (scR_vr hp hv.1 _) (zeroR_vr hp n) fun i hi => ?_
  rw [atR_sc (by rw [hv.1]; exact hi), atR_zero, Int.zero_mul, Int.zero_emod]
theorem la_sc_one {v : List Int} (hp : 0 < p) (hv : Vr p n v) : scR p v 1 = v := by
  refine ext_at (scR_vr hp hv.1 _) hv fun i hi => ?_
  have hb := hv.at hi
  rw [atR_sc (by rw [hv.1]; exact hi), Int.one_mul, emod_small hb.1 hb.2]
theorem la_sc_dvd {v : List Int} (hp : 0 < p) (hv : Vr p n v) {c : Int} (h : c % p = 0) : scR p v c = zeroR n := by
  rw [← la_sc_mod hp hv, h, la_sc_zero hp hv]
theorem la_zero_sc (hp : 0 < p) (c : Int) : scR p (zeroR n) c = zeroR n := by
  have hz := zeroR_vr hp n
  refine ext_at (scR_vr hp hz.1 _) hz fun i hi => ?_
  rw [atR_sc (by rw [hz.1]; exact hi), atR_zero, Int.mul_zero, Int.zero_emod]
theorem add_back {r l : List Int} (hp : 0 < p) (hr : Vr p n r) (hl : Vr p n l) (a : Int) : addR p (addR p r (scR p l (-a))) (scR p l a) = r := by
  have h1 := scR_vr hp hl.1 (-a)
  have h2 := scR_vr hp hl.1 a
  rw [add_assoc' hp hr h1 h2, la_add_sc hp hl, show -a + a = 0 by omega, la_sc_zero hp hl, add_zero' hp hr]
/-! the space of some rows -/
def Spn (p : Int) (n : Nat) : List (List Int) → List Int → Prop
  | [], v => v = zeroR n
  | r :: R, v => ∃ (c : Int) (w_ : List Int), Spn p n R w_ ∧ v = addR p w_ (scR p r c)
def AllV (p : Int) (n : Nat) (R : List (List Int)) : Prop := ∀ r ∈ R, Vr p n r
theorem AllV.tail {r : List Int} {R : List (List Int)} (h : AllV p n (r :: R)) : AllV p n R := fun x hx => h x (List.mem_cons_of_mem _ hx)
theorem AllV.head {r : List Int} {R : List (List Int)} (h : AllV p n (r :: R)) : Vr p n r := h r (List.mem_cons_self ..)
theorem Spn.vr (hp : 0 < p) : ∀ {R : List (List Int)} {v : List Int}, AllV p n R → Spn p n R v → Vr p n v
  | [], _, _, h => by rw [show _ = zeroR n from h]; exact zeroR_vr hp n
  | r :: R, _, hR, ⟨c, w_, hw, e⟩ => by rw [e]; exact addR_vr hp (Spn.vr hp hR.tail hw) (scR_vr hp hR.head.1 _)
theorem Spn.zero (hp : 0 < p) : ∀ {R : List (List Int)}, AllV p n R → Spn p n R (zeroR n)
  | [], _ => rfl
  | r :: R, hR => ⟨0, zeroR n, Spn.zero hp hR.tail, by rw [la_sc_zero hp hR.head, add_zero' hp (zeroR_vr hp n)]⟩
theorem add4 {a b c d : List Int} (hp : 0 < p) (ha : Vr p n a) (hb : Vr p n b) (hc : Vr p n c) (hd : Vr p n d) : addR p (addR p a b) (addR p c d) = addR p (addR p a c) (addR p b d) := by
  rw [add_assoc' hp ha hb (addR_vr hp hc hd), ← add_assoc' hp hb hc hd, add_comm' hp hb hc, add_assoc' hp hc hb hd, ← add_assoc' hp ha hc (addR_vr hp hb hd)]
theorem Spn.add (hp : 0 < p) : ∀ {R : List (List Int)} {u v : List Int}, AllV p n R → Spn p n R u → Spn p n R v → Spn p n R (addR p u v)
  | [], _, _, _, h, k => by
    rw [show _ = zeroR n from h, show _ = zeroR n from k]
    exact add_zero' hp (zeroR_vr hp n)
  | r :: R, _, _, hR, ⟨c, w1, h1, e1⟩, ⟨d, w2, h2, e2⟩ => by
    refine ⟨c + d, addR p w1 w2, Spn.add hp hR.tail h1 h2, ?_⟩
    rw [e1, e2, add4 hp (h1.vr hp hR.tail) (scR_vr hp hR.head.1 _) (h2.vr hp hR.tail) (scR_vr hp hR.head.1 _), la_add_sc hp hR.head]
theorem Spn.sc (hp : 0 < p) : ∀ {R : List (List Int)} {v : List Int}, AllV p n R → Spn p n R v → ∀ c : Int, Spn p n R (scR p v c)
  | [], _, _, h, c => by
    rw [show _ = zeroR n from h]
    exact la_zero_sc hp c
  | r :: R, _, hR, ⟨d, w1, h1, e1⟩, c => by
    refine ⟨c * d, scR p w1 c, Spn.sc hp hR.tail h1 c, ?_⟩
    rw [e1, la_sc_add hp (h1.vr hp hR.tail) (scR_vr hp hR.head.1 _), la_sc_sc hp hR.head]
theorem Spn.mem (hp : 0 < p) : ∀ {R : List (List Int)} {r : List Int}, AllV p n R → r ∈ R → Spn p n R r
  | r :: R, x, hR, h => by
    rcases List.mem_cons.mp h with rfl | h
    · exact ⟨1, zeroR n, Spn.zero hp hR.tail, by rw [la_sc_one hp hR.head, zero_add' hp hR.head]⟩
    · have hx := hR x (List.mem_cons_of_mem _ h)
      exact ⟨0, x, Spn.mem hp hR.tail h, by rw [la_sc_zero hp hR.head, add_zero' hp hx]⟩
theorem Spn.sub (hp : 0 < p) : ∀ {R S : List (List Int)}, AllV p n R → AllV p n S → (∀ r ∈ R, Spn p n S r) → ∀ v, Spn p n R v → Spn p n S v
  | [], S, _, hS, _, v, h => by rw [show v = zeroR n from h]; exact Spn.zero hp hS
  | r :: R, S, hR, hS, k, v, ⟨c, w_, hw, e⟩ => by
    rw [e]
    exact Spn.add hp hS (Spn.sub hp hR.tail hS (fun x hx => k x (List.mem_cons_of_mem _ hx)) w_ hw) (Spn.sc hp hS (k r (List.mem_cons_self ..)) c)
/-- one row at the end -/
theorem Spn.last (hp : 0 < p) {R : List (List Int)} {r : List Int} (hR : AllV p n R) (hr : Vr p n r) (v : List Int) : Spn p n (R ++ [r]) v ↔ ∃ (c : Int) (w_ : List Int), Spn p n R w_ ∧ v = addR p w_ (scR p r c) := by
  have hRr : AllV p n (R ++ [r]) := fun x hx => by
    rcases List.mem_append.mp hx with h | h
    · exact hR x h
    · rw [List.mem_singleton.mp h]; exact hr
  have hrR : AllV p n (r :: R) := fun x hx => by
    rcases List.mem_cons.mp hx with rfl | h
    · exact hr
    · exact hR x h
  constructor
  · intro h
    exact Spn.sub hp hRr hrR (fun x hx => Spn.mem hp hrR (by
      rcases List.mem_append.mp hx with h | h
      · exact List.mem_cons_of_mem _ h
      · rw [List.mem_singleton.mp h]; exact List.mem_cons_self ..)) v h
  · rintro ⟨c, w_, hw, rfl⟩
    exact Spn.add hp hRr (Spn.sub hp hR hRr (fun x hx => Spn.mem hp hRr (List.mem_append_left _ hx)) w_ hw) (Spn.sc hp hRr (Spn.mem hp hRr (List.mem_append_right _ (List.mem_singleton.mpr rfl))) c)
/-! primes -/
structure Pr (p : Int) : Prop where
  two : 2 ≤ p
  le : p ≤ 31
  inv : ∀ a : Int, a % p ≠ 0 → (invR p a * a) % p = 1
theorem pr_check : (primesL.all fun p => (List.range 31).all fun r => decide (r = 0) || decide (p ≤ (r : Int)) || decide ((invR p (r : Int) * (r : Int)) % p = 1)) = true := by decide +kernel
theorem pr_of {p : Int} (h : p ∈ primesL) : Pr p := by
  obtain ⟨h2, h31, _⟩ := prime_facts p h
  refine ⟨h2, h31, fun a ha => ?_⟩
  have hb := emod_in (p := p) (by omega) a
  have k := List.all_eq_true.mp (List.all_eq_true.mp pr_check p h) (a % p).toNat (List.mem_range.mpr (by omega))
  have e2 : ((a % p).toNat : Int) = a % p := by omega
  rw [e2] at k
  simp only [Bool.or_eq_true, decide_eq_true_eq] at k
  rcases k with (k | k) | k
  · omega
  · omega
  · have e3 : invR p (a % p) = invR p a := by
      unfold invR
      rw [Int.emod_emod_of_dvd _ (Int.dvd_refl p)]
    rw [e3, mm] at k
    exact k
theorem Pr.pos {p : Int} (h : Pr p) : 0 < p := by have := h.two; omega
end
/-! ### the elimination -/
section
variable {p : Int} {n : Nat}
theorem AllV.app {R S : List (List Int)} (h : AllV p n R) (k : AllV p n S) : AllV p n (R ++ S) := fun x hx => (List.mem_append.mp hx).elim (h x) (k x)
theorem clr_at {r l : List Int} {k i : Nat} (hp : 0 < p) (hr : Vr p n r) (hl : Vr p n l) (hi : i < n) : atR (clrR p r l k) i = (atR r i - atR r k * atR l i) % p := by
  have hb := hr.at hi
  have h2 := scR_vr hp hl.1 (-(atR r k))
  unfold clrR
  split
  · rename_i h0
    rw [h0, Int.zero_mul, Int.sub_zero, emod_small hb.1 hb.2]
  · rw [atR_add (by rw [hr.1]; exact hi) (by rw [h2.1]; exact hi), atR_sc (by rw [hl.1]; exact hi), Int.add_emod_emod, Int.neg_mul]
    rfl
theorem clr_eq {r l : List Int} {k : Nat} (hp : 0 < p) (hr : Vr p n r) (hl : Vr p n l) : clrR p r l k = addR p r (scR p l (-(atR r k))) := by
  unfold clrR
  split
  · rename_i h0
    rw [h0, Int.neg_zero, la_sc_zero hp hl, add_zero' hp hr]
  · rfl
theorem leadR_none {k : Nat} : ∀ {rs : List (List Int)}, leadR p rs k = none → ∀ r ∈ rs, atR r k = 0
  | r :: rs, h, x, hx => by
    rw [leadR] at h
    split at h
    · rename_i h0
      rcases List.mem_cons.mp hx with rfl | hx
      · exact h0
      · exact leadR_none h x hx
    · cases h
theorem leadR_some {k : Nat} : ∀ {rs : List (List Int)} {l : List Int}, leadR p rs k = some l → ∃ r ∈ rs, atR r k ≠ 0 ∧ l = scR p r (invR p (atR r k))
  | r :: rs, l, h => by
    rw [leadR] at h
    split at h
    · obtain ⟨x, hx, h1, h2⟩ := leadR_some h
      exact ⟨x, List.mem_cons_of_mem _ hx, h1, h2⟩
    · rename_i h0
      cases h
      exact ⟨r, List.mem_cons_self .., h0, rfl⟩
structure Elm (p : Int) (n : Nat) (rs : List (List Int)) (k : Nat) (s : Elim) : Prop where
  vl : AllV p n s.left
  F : Form p n s.table s.piv
  below : ∀ j ∈ s.piv, j < k
  zeros : ∀ r ∈ s.left, ∀ j, j < k → atR r j = 0
  span : ∀ v, Spn p n rs v ↔ Spn p n (s.left ++ s.table) v
theorem getElem?_map_some {α β : Type} {f : α → β} {l : List α} {i : Nat} {y : β} (h : (l.map f)[i]? = some y) : ∃ x, l[i]? = some x ∧ y = f x := by
  rw [List.getElem?_map] at h
  cases e : l[i]? with
  | none => rw [e] at h; cases h
  | some x =>
    rw [e] at h
    exact ⟨x, rfl, (Option.some.inj h).symm⟩
theorem app_get {α : Type} {l : List α} {x y : α} {i : Nat} (h : (l ++ [x])[i]? = some y) : (i < l.length ∧ l[i]? = some y) ∨ (i = l.length ∧ y = x) := by
  by_cases hi : i < l.length
  · rw [List.getElem?_append_left hi] at h
    exact .inl ⟨hi, h⟩
  · rw [List.getElem?_append_right (by omega)] at h
    have : i - l.length = 0 := by
      by_cases h0 : i - l.length = 0
      · exact h0
      · rw [List.getElem?_eq_none (by rw [List.length_singleton]; omega)] at h
        cases h
    rw [this] at h
    exact .inr ⟨by omega, (Option.some.inj h).symm⟩
theorem elm_step (P : Pr p) {rs : List (List Int)} {k : Nat} (hk : k < n) {s : Elim} (h : Elm p n rs k s) : Elm p n rs (k + 1) (stepE p s k) := by
  have hp := P.pos
  unfold stepE
  split
  · rename_i hnone
    have hz := leadR_none hnone
    exact ⟨h.vl, h.F, fun j hj => Nat.lt_succ_of_lt (h.below j hj), fun r hr j hj => by
      by_cases e : j = k
      · rw [e]; exact hz r hr
      · exact h.zeros r hr j (by omega), h.span⟩
  · rename_i l hl
    obtain ⟨r0, hr0, hne, el⟩ := leadR_some hl
    have hv0 := h.vl r0 hr0
    have hvl : Vr p n l := by rw [el]; exact scR_vr hp hv0.1 _
    have hb0 := hv0.at hk
    have hlk : atR l k = 1 := by
      rw [el, atR_sc (by rw [hv0.1]; exact hk)]
      exact P.inv _ (by rw [emod_small hb0.1 hb0.2]; exact hne)
    have hlj : ∀ j, j < k → atR l j = 0 := fun j hj => by
      rw [el, atR_sc (by rw [hv0.1]; omega), h.zeros r0 hr0 j hj, Int.mul_zero, Int.zero_emod]
    have hcv : ∀ r, Vr p n r → Vr p n (clrR p r l k) := fun r hr => clrR_vr hp hr hvl k
    have hck : ∀ r, Vr p n r → atR (clrR p r l k) k = 0 := fun r hr => by
      rw [clr_at hp hr hvl hk, hlk, Int.mul_one, Int.sub_self, Int.zero_emod]
    have hcj : ∀ r, Vr p n r → ∀ j, j < k → atR (clrR p r l k) j = atR r j := fun r hr j hj => by
      have hb := hr.at (show j < n by omega)
      rw [clr_at hp hr hvl (by omega), hlj j hj, Int.mul_zero, Int.sub_zero, emod_small hb.1 hb.2]
    have vl' : AllV p n (s.left.map fun r => clrR p r l k) := fun x hx => by
      obtain ⟨y, hy, rfl⟩ := List.mem_map.mp hx
      exact hcv y (h.vl y hy)
    have vt' : AllV p n ((s.table.map fun r => clrR p r l k) ++ [l]) := fun x hx => by
      rcases List.mem_append.mp hx with hx | hx
      · obtain ⟨y, hy, rfl⟩ := List.mem_map.mp hx
        exact hcv y (h.F.vr y hy)
      · rw [List.mem_singleton.mp hx]; exact hvl
    have hlen2 : (s.table.map fun r => clrR p r l k).length = s.piv.length := by rw [List.length_map, h.F.len]
    have oldA : AllV p n (s.left ++ s.table) := h.vl.app h.F.vr
    have newA := vl'.app vt'
    refine ⟨vl', ⟨by rw [List.length_append, hlen2, List.length_append]; rfl, vt', fun j hj => ?_, ?_, ?_, ?_, ?_⟩, fun j hj => ?_, fun r hr j hj => ?_, fun v => ?_⟩
    · rcases List.mem_append.mp hj with hj | hj
      · exact h.F.lt j hj
      · rw [List.mem_singleton.mp hj]; exact hk
    · rw [List.pairwise_append]
      exact ⟨h.F.inc, List.pairwise_singleton _ _, fun a ha b hb => by rw [List.mem_singleton.mp hb]; exact h.below a ha⟩
    · intro i r j hr hj
      rcases app_get hr with ⟨hi, hr⟩ | ⟨hi, rfl⟩
      · obtain ⟨y, hy, rfl⟩ := getElem?_map_some hr
        rcases app_get hj with ⟨_, hj⟩ | ⟨hj2, _⟩
        · rw [hcj y (h.F.vr y (List.mem_of_getElem? hy)) j (h.below j (List.mem_of_getElem? hj))]
          exact h.F.one i y j hy hj
        · rw [hlen2] at hi
          omega
      · rcases app_get hj with ⟨hj2, _⟩ | ⟨_, rfl⟩
        · rw [hlen2] at hi
          omega
        · exact hlk
    · intro i r j hr hj m hm
      rcases app_get hr with ⟨hi, hr⟩ | ⟨hi, rfl⟩
      · obtain ⟨y, hy, rfl⟩ := getElem?_map_some hr
        rcases app_get hj with ⟨_, hj⟩ | ⟨hj2, _⟩
        · have hjk := h.below j (List.mem_of_getElem? hj)
          rw [hcj y (h.F.vr y (List.mem_of_getElem? hy)) m (by omega)]
          exact h.F.lead i y j hy hj m hm
        · rw [hlen2] at hi
          omega
      · rcases app_get hj with ⟨hj2, _⟩ | ⟨_, rfl⟩
        · rw [hlen2] at hi
          omega
        · exact hlj m hm
    · intro i r j m hr hm hij
      rcases app_get hr with ⟨hi, hr⟩ | ⟨hi, rfl⟩
      · obtain ⟨y, hy, rfl⟩ := getElem?_map_some hr
        have hvy := h.F.vr y (List.mem_of_getElem? hy)
        rcases app_get hm with ⟨_, hm⟩ | ⟨_, rfl⟩
        · rw [hcj y hvy m (h.below m (List.mem_of_getElem? hm))]
          exact h.F.zero i y j m hy hm hij
        · exact hck y hvy
      · rcases app_get hm with ⟨_, hm⟩ | ⟨hj2, _⟩
        · exact hlj m (h.below m (List.mem_of_getElem? hm))
        · rw [hlen2] at hi
          omega
    · rcases List.mem_append.mp hj with hj | hj
      · exact Nat.lt_succ_of_lt (h.below j hj)
      · rw [List.mem_singleton.mp hj]; exact Nat.lt_succ_self k
    · obtain ⟨y, hy, rfl⟩ := List.mem_map.mp hr
      by_cases e : j = k
      · rw [e]; exact hck y (h.vl y hy)
      · rw [hcj y (h.vl y hy) j (by omega)]
        exact h.zeros y hy j (by omega)
    · rw [h.span v]
      have l_old : Spn p n (s.left ++ s.table) l := by
        rw [el]
        exact Spn.sc hp oldA (Spn.mem hp oldA (List.mem_append_left _ hr0)) _
      have l_new : Spn p n ((s.left.map fun r => clrR p r l k) ++ ((s.table.map fun r => clrR p r l k) ++ [l])) l :=
        Spn.mem hp newA (List.mem_append_right _ (List.mem_append_right _ (List.mem_singleton.mpr rfl)))
      have toOld : ∀ y ∈ s.left ++ s.table, Spn p n (s.left ++ s.table) (clrR p y l k) := fun y hy => by
        rw [clr_eq hp (oldA y hy) hvl]
        exact Spn.add hp oldA (Spn.mem hp oldA hy) (Spn.sc hp oldA l_old _)
      constructor
      · refine Spn.sub hp oldA newA (fun y hy => ?_) v
        have hvy := oldA y hy
        have hin : clrR p y l k ∈ (s.left.map fun r => clrR p r l k) ++ ((s.table.map fun r => clrR p r l k) ++ [l]) := by
          rcases List.mem_append.mp hy with hy | hy
          · exact List.mem_append_left _ (List.mem_map.mpr ⟨y, hy, rfl⟩)
          · exact List.mem_append_right _ (List.mem_append_left _ (List.mem_map.mpr ⟨y, hy, rfl⟩))
        have e := add_back (n := n) hp hvy hvl (atR y k)
        rw [← clr_eq hp hvy hvl] at e
        rw [← e]
        exact Spn.add hp newA (Spn.mem hp newA hin) (Spn.sc hp newA l_new _)
      · refine Spn.sub hp newA oldA (fun y hy => ?_) v
        rcases List.mem_append.mp hy with hy | hy
        · obtain ⟨z, hz, rfl⟩ := List.mem_map.mp hy
          exact toOld z (List.mem_append_left _ hz)
        · rcases List.mem_append.mp hy with hy | hy
          · obtain ⟨z, hz, rfl⟩ := List.mem_map.mp hy
            exact toOld z (List.mem_append_right _ hz)
          · rw [List.mem_singleton.mp hy]
            exact l_old
theorem elm_all (P : Pr p) {rs : List (List Int)} (hv : AllV p n rs) : ∀ k, k ≤ n → Elm p n rs k (elimE p rs k)
  | 0, _ => by
    have et : ∀ (i : Nat) (r : List Int), (elimE p rs 0).table[i]? = some r → False := fun i r h => by
      rw [show (elimE p rs 0).table = [] from rfl, List.getElem?_nil] at h
      cases h
    refine ⟨hv, ⟨rfl, (fun r h => by cases h), (fun r h => by cases h), List.Pairwise.nil, fun i r k h => (et i r h).elim, fun i r k h => (et i r h).elim, fun i r j k h => (et i r h).elim⟩, (fun r h => by cases h), fun r _ j h => absurd h (Nat.not_lt_zero j), fun v => ?_⟩
    show _ ↔ Spn p n (rs ++ []) v
    rw [List.append_nil]
  | k + 1, h => elm_step P h (elm_all P hv k (by omega))
theorem red_form (P : Pr p) {rs : List (List Int)} (hv : AllV p n rs) : Form p n (redT p n rs) (redP p n rs) := (elm_all P hv n (Nat.le_refl n)).F
theorem red_span (P : Pr p) {rs : List (List Int)} (hv : AllV p n rs) (v : List Int) : Spn p n rs v ↔ Spn p n (redT p n rs) v := by
  have hp := P.pos
  have E := elm_all P hv n (Nat.le_refl n)
  rw [E.span v]
  have hA := E.vl.app E.F.vr
  constructor
  · refine Spn.sub hp hA E.F.vr (fun y hy => ?_) v
    rcases List.mem_append.mp hy with hy | hy
    · have e : y = zeroR n := ext_at (E.vl y hy) (zeroR_vr hp n) fun i hi => by rw [E.zeros y hy i hi, atR_zero]
      rw [e]
      exact Spn.zero hp E.F.vr
    · exact Spn.mem hp E.F.vr hy
  · exact Spn.sub hp E.F.vr hA (fun y hy => Spn.mem hp hA (List.mem_append_right _ hy)) v
/-! the law's own span -/
theorem lspan_mem (P : Pr p) {rs : List (List Int)} (hv : AllV p n rs) : ∀ i, i ≤ rs.length → (∀ v, v ∈ lspan p n (rs.take i) ↔ Spn p n (rs.take i) v) ∧ (lspan p n (rs.take i)).Nodup
  | 0, _ => ⟨fun v => by
      show v ∈ [zeroR n] ↔ v = zeroR n
      exact List.mem_singleton, by show [zeroR n].Nodup; simp⟩
  | i + 1, h => by
    have hp := P.pos
    obtain ⟨h1, h2⟩ := lspan_mem P hv i (by omega)
    obtain ⟨r, hr⟩ : ∃ r, rs[i]? = some r := ⟨rs[i], List.getElem?_eq_getElem (by omega)⟩
    have hvr := hv r (List.mem_of_getElem? hr)
    have hvi : AllV p n (rs.take i) := fun x hx => hv x (List.mem_of_mem_take hx)
    have et : rs.take (i + 1) = rs.take i ++ [r] := by rw [List.take_add_one, hr]; rfl
    rw [lspan_step hr, et]
    generalize lspan p n (rs.take i) = L at *
    generalize rs.take i = R at *
    unfold spanStep
    split
    · rename_i hmem
      refine ⟨fun v => ?_, h2⟩
      rw [h1 v, Spn.last hp hvi hvr]
      have hrS := (h1 r).mp hmem
      constructor
      · intro k
        exact ⟨0, v, k, by rw [la_sc_zero hp hvr, add_zero' hp (k.vr hp hvi)]⟩
      · rintro ⟨c, w_, hw, rfl⟩
        exact Spn.add hp hvi hw (Spn.sc hp hvi hrS c)
    · rename_i hmem
      have hrS : ¬ Spn p n R r := fun k => hmem ((h1 r).mpr k)
      refine ⟨fun v => ?_, ?_⟩
      · rw [Spn.last hp hvi hvr, List.mem_flatMap]
        constructor
        · rintro ⟨w_, hw, hv2⟩
          obtain ⟨c, _, rfl⟩ := List.mem_map.mp hv2
          exact ⟨(c : Int), w_, (h1 w_).mp hw, rfl⟩
        · rintro ⟨c, w_, hw, rfl⟩
          refine ⟨w_, (h1 w_).mpr hw, List.mem_map.mpr ⟨(c % p).toNat, List.mem_range.mpr ?_, ?_⟩⟩
          · have := emod_in hp c
            omega
          · have := emod_in hp c
            have e : (((c % p).toNat : Nat) : Int) = c % p := by omega
            rw [e, la_sc_mod hp hvr]
      · -- unlike pairs give unlike rows
        have cancel : ∀ (w1 w2 : List Int) (a b : Nat), Spn p n R w1 → Spn p n R w2 → a < p.toNat → b < p.toNat → addR p w1 (scR p r (a : Int)) = addR p w2 (scR p r (b : Int)) → a = b ∧ w1 = w2 := by
          intro w1 w2 a b k1 k2 ha hb e
          have v1 := k1.vr hp hvi
          have v2 := k2.vr hp hvi
          have sa := scR_vr hp hvr.1 (a : Int)
          have sb := scR_vr hp hvr.1 (b : Int)
          by_cases hab : a = b
          · subst hab
            refine ⟨rfl, ?_⟩
            have e2 := congrArg (fun x => addR p x (scR p r (-(a : Int)))) e
            have sc' := scR_vr hp hvr.1 (-(a : Int))
            try dsimp only at e2
            rw [add_assoc' hp v1 sa sc', add_assoc' hp v2 sa sc', la_add_sc hp hvr, show (a : Int) + -(a : Int) = 0 by omega, la_sc_zero hp hvr, add_zero' hp v1, add_zero' hp v2] at e2
            exact e2
          · exfalso
            have hd : ((a : Int) - (b : Int)) % p ≠ 0 := by
              intro z
              have hdv := Int.dvd_of_emod_eq_zero z
              obtain ⟨q, hq⟩ := hdv
              have h2' := P.two
              rcases Int.lt_trichotomy q 0 with hq0 | hq0 | hq0
              · have : p * q ≤ p * (-1) := Int.mul_le_mul_of_nonneg_left (by omega) (by omega)
                omega
              · rw [hq0, Int.mul_zero] at hq
                omega
              · have : p * 1 ≤ p * q := Int.mul_le_mul_of_nonneg_left (by omega) (by omega)
                omega
            apply hrS
            -- (a - b) r = w2 - w1
            have e3 : scR p r ((a : Int) - (b : Int)) = addR p w2 (scR p w1 (-1)) := by
              have e2 := congrArg (fun x => addR p (addR p x (scR p r (-(b : Int)))) (scR p w1 (-1))) e
              have sc' := scR_vr hp hvr.1 (-(b : Int))
              have s1' := scR_vr hp v1.1 (-1)
              try dsimp only at e2
              have sd := scR_vr hp hvr.1 ((a : Int) + -(b : Int))
              have e1z : addR p w1 (scR p w1 (-1)) = zeroR n := by
                have t := la_add_sc hp v1 1 (-1)
                rw [la_sc_one hp v1, show (1 : Int) + -1 = 0 by omega, la_sc_zero hp v1] at t
                exact t
              rw [add_assoc' hp v1 sa sc', la_add_sc hp hvr, add_comm' hp v1 sd, add_assoc' hp sd v1 s1', e1z, add_zero' hp sd, add_assoc' hp v2 sb sc', la_add_sc hp hvr, show (b : Int) + -(b : Int) = 0 by omega, la_sc_zero hp hvr, add_zero' hp v2] at e2
              rw [show (a : Int) - (b : Int) = (a : Int) + -(b : Int) by omega]
              exact e2
            have e4 : r = scR p (scR p r ((a : Int) - (b : Int))) (invR p ((a : Int) - (b : Int))) := by
              rw [la_sc_sc hp hvr, ← la_sc_mod hp hvr, P.inv _ hd, la_sc_one hp hvr]
            rw [e4, e3]
            exact Spn.sc hp hvi (Spn.add hp hvi k2 (Spn.sc hp hvi k1 _)) _
        rw [List.nodup_iff_pairwise_ne] at h2 ⊢
        rw [List.pairwise_flatMap]
        refine ⟨fun w_ hw => ?_, ?_⟩
        · rw [List.pairwise_map]
          refine (List.pairwise_lt_range (n := p.toNat)).imp_of_mem ?_
          intro a b ha hb hlt e
          have := (cancel w_ w_ a b ((h1 w_).mp hw) ((h1 w_).mp hw) (List.mem_range.mp ha) (List.mem_range.mp hb) e).1
          omega
        · refine h2.imp_of_mem ?_
          intro w1 w2 hw1 hw2 hne x hx y hy exy
          obtain ⟨a, ha, rfl⟩ := List.mem_map.mp hx
          obtain ⟨b, hb, rfl⟩ := List.mem_map.mp hy
          exact hne (cancel w1 w2 a b ((h1 w1).mp hw1) ((h1 w2).mp hw2) (List.mem_range.mp ha) (List.mem_range.mp hb) exy).2
theorem lspan_iff (P : Pr p) {rs : List (List Int)} (hv : AllV p n rs) (v : List Int) : v ∈ lspan p n rs ↔ Spn p n rs v := by
  have h := (lspan_mem P hv rs.length (Nat.le_refl _)).1 v
  rw [List.take_length] at h
  exact h
theorem lspan_nodup (P : Pr p) {rs : List (List Int)} (hv : AllV p n rs) : (lspan p n rs).Nodup := by
  have h := (lspan_mem P hv rs.length (Nat.le_refl _)).2
  rw [List.take_length] at h
  exact h
theorem leR_trans (a b c : List Int) (h : leR a b = true) (k : leR b c = true) : leR a c = true := decide_eq_true (List.le_trans (of_decide_eq_true h) (of_decide_eq_true k))
theorem leR_total (a b : List Int) : (leR a b || leR b a) = true := by
  rw [Bool.or_eq_true]
  rcases List.le_total a b with h | h
  · exact .inl (decide_eq_true h)
  · exact .inr (decide_eq_true h)
theorem sort_perm {L M : List (List Int)} (h : L.Perm M) : L.mergeSort leR = M.mergeSort leR := by
  have s1 := List.pairwise_mergeSort leR_trans leR_total L
  have s2 := List.pairwise_mergeSort leR_trans leR_total M
  have hp : (L.mergeSort leR).Perm (M.mergeSort leR) := (List.mergeSort_perm L leR).trans (h.trans (List.mergeSort_perm M leR).symm)
  exact hp.eq_of_pairwise (fun a b _ _ h1 h2 => List.le_antisymm (of_decide_eq_true h1) (of_decide_eq_true h2)) s1 s2
theorem lspanS_same (P : Pr p) {R S : List (List Int)} (hR : AllV p n R) (hS : AllV p n S) (h : ∀ v, Spn p n R v ↔ Spn p n S v) : lspanS p n R = lspanS p n S := by
  unfold lspanS
  refine sort_perm ?_
  rw [List.perm_ext_iff_of_nodup (lspan_nodup P hR) (lspan_nodup P hS)]
  intro v
  rw [lspan_iff P hR, lspan_iff P hS, h v]
end
/-! ### reduced tables are one; the rest of a row -/
section
variable {p : Int} {n : Nat}
/-- the table row by row -/
def Diag : List (List Int) → List Nat → Prop
  | [], [] => True
  | r :: T, k :: ks => atR r k = 1 ∧ (∀ j, j < k → atR r j = 0) ∧ (∀ r' ∈ T, atR r' k = 0) ∧ (∀ k' ∈ ks, atR r k' = 0) ∧ (∀ k' ∈ ks, k < k') ∧ Diag T ks
  | _, _ => False
theorem diag_of : ∀ {T : List (List Int)} {ks : List Nat}, Form p n T ks → Diag T ks
  | [], [], _ => trivial
  | [], k :: ks, F => by have := F.len; simp at this
  | r :: T, [], F => by have := F.len; simp at this
  | r :: T, k :: ks, F => by
    have hp := List.pairwise_cons.mp F.inc
    refine ⟨F.one 0 r k rfl rfl, F.lead 0 r k rfl rfl, fun r' hr' => ?_, fun k' hk' => ?_, hp.1, diag_of ⟨?_, fun x hx => F.vr x (List.mem_cons_of_mem _ hx), fun j hj => F.lt j (List.mem_cons_of_mem _ hj), hp.2, fun i x j h1 h2 => F.one (i + 1) x j h1 h2, fun i x j h1 h2 => F.lead (i + 1) x j h1 h2, fun i x j m h1 h2 h3 => F.zero (i + 1) x (j + 1) m h1 h2 (by omega)⟩⟩
    · obtain ⟨i, hi⟩ := List.mem_iff_getElem?.mp hr'
      exact F.zero (i + 1) r' 0 k hi rfl (by omega)
    · obtain ⟨i, hi⟩ := List.mem_iff_getElem?.mp hk'
      exact F.zero 0 r (i + 1) k' rfl hi (by omega)
    · have := F.len
      simp at this
      exact this
theorem Spn.at0 (hp : 0 < p) : ∀ {R : List (List Int)} {v : List Int} {k : Nat}, AllV p n R → k < n → (∀ r ∈ R, atR r k = 0) → Spn p n R v → atR v k = 0
  | [], v, k, _, _, _, h => by rw [show v = zeroR n from h, atR_zero]
  | r :: R, v, k, hR, hk, h0, ⟨c, w_, hw, e⟩ => by
    have hvw := hw.vr hp hR.tail
    have h1 := scR_vr hp hR.head.1 c
    rw [e, atR_add (by rw [hvw.1]; exact hk) (by rw [h1.1]; exact hk), atR_sc (by rw [hR.head.1]; exact hk), h0 r (List.mem_cons_self ..), Spn.at0 hp hR.tail hk (fun x hx => h0 x (List.mem_cons_of_mem _ hx)) hw]
    simp
/-- a row of the space with 0 at the pivots is 0 -/
theorem spn_zero (hp : 0 < p) : ∀ {T : List (List Int)} {ks : List Nat} {v : List Int}, AllV p n T → (∀ k ∈ ks, k < n) → Diag T ks → Spn p n T v → (∀ k ∈ ks, atR v k = 0) → v = zeroR n
  | [], [], v, _, _, _, h, _ => h
  | r :: T, k :: ks, v, hT, hk, ⟨d1, _, d3, d4, _, d5⟩, ⟨c, w_, hw, e⟩, h0 => by
    have hvw := hw.vr hp hT.tail
    have hr := hT.head
    have h1 := scR_vr hp hr.1 c
    have hkn := hk k (List.mem_cons_self ..)
    have hwk := Spn.at0 hp hT.tail hkn d3 hw
    have hvk := h0 k (List.mem_cons_self ..)
    rw [e, atR_add (by rw [hvw.1]; exact hkn) (by rw [h1.1]; exact hkn), atR_sc (by rw [hr.1]; exact hkn), hwk, d1, Int.mul_one, Int.zero_add, Int.emod_emod_of_dvd _ (Int.dvd_refl p)] at hvk
    have hs : scR p r c = zeroR n := la_sc_dvd hp hr hvk
    have ev : v = w_ := by rw [e, hs, add_zero' hp hvw]
    subst ev
    exact spn_zero hp hT.tail (fun j hj => hk j (List.mem_cons_of_mem _ hj)) d5 hw fun j hj => h0 j (List.mem_cons_of_mem _ hj)
  | [], _ :: _, _, _, _, h, _, _ => h.elim
  | _ :: _, [], _, _, _, h, _, _ => h.elim
/-- where a row of the space begins, there is a pivot -/
theorem spn_lead (hp : 0 < p) : ∀ {T : List (List Int)} {ks : List Nat} {v : List Int} {m : Nat}, AllV p n T → (∀ k ∈ ks, k < n) → Diag T ks → m < n → Spn p n T v → (∀ k ∈ ks, k < m → atR v k = 0) → m ∉ ks → atR v m = 0
  | [], [], v, m, _, _, _, _, h, _, _ => by rw [show v = zeroR n from h, atR_zero]
  | r :: T, k :: ks, v, m, hT, hk, ⟨d1, d2, d3, d4, d6, d5⟩, hm, ⟨c, w_, hw, e⟩, h0, hnot => by
    have hvw := hw.vr hp hT.tail
    have hr := hT.head
    have h1 := scR_vr hp hr.1 c
    have hkn := hk k (List.mem_cons_self ..)
    have hwk := Spn.at0 hp hT.tail hkn d3 hw
    have hnot2 : m ∉ ks := fun z => hnot (List.mem_cons_of_mem _ z)
    have hat : ∀ j, j < n → atR v j = (atR w_ j + c * atR r j) % p := fun j hj => by
      rw [e, atR_add (by rw [hvw.1]; exact hj) (by rw [h1.1]; exact hj), atR_sc (by rw [hr.1]; exact hj), Int.add_emod_emod]
    have ihk : ∀ j ∈ ks, j < n := fun j hj => hk j (List.mem_cons_of_mem _ hj)
    have hwj : ∀ j, j < n → atR r j = 0 → atR v j = atR w_ j := fun j hj hz => by
      have hb := hvw.at hj
      rw [hat j hj, hz, Int.mul_zero, Int.add_zero, emod_small hb.1 hb.2]
    by_cases hkm : k < m
    · have hvk := h0 k (List.mem_cons_self ..) hkm
      rw [hat k hkn, hwk, d1, Int.mul_one, Int.zero_add] at hvk
      have hs : scR p r c = zeroR n := la_sc_dvd hp hr hvk
      have ev : v = w_ := by rw [e, hs, add_zero' hp hvw]
      subst ev
      exact spn_lead hp hT.tail ihk d5 hm hw (fun j hj hlt => h0 j (List.mem_cons_of_mem _ hj) hlt) hnot2
    · have hne : m ≠ k := fun z => hnot (by rw [z]; exact List.mem_cons_self ..)
      have hrm := d2 m (by omega)
      rw [hwj m hm hrm]
      refine spn_lead hp hT.tail ihk d5 hm hw (fun j hj hlt => ?_) hnot2
      rw [← hwj j (ihk j hj) (d4 j hj)]
      exact h0 j (List.mem_cons_of_mem _ hj) hlt
  | [], _ :: _, _, _, _, _, h, _, _, _, _ => h.elim
  | _ :: _, [], _, _, _, _, h, _, _, _, _ => h.elim
theorem piv_sub (hp : 0 < p) {T U : List (List Int)} {ks ls : List Nat} (F : Form p n T ks) (G : Form p n U ls) (h : ∀ v, Spn p n T v → Spn p n U v) : ∀ k ∈ ks, k ∈ ls := by
  intro k hk
  obtain ⟨i, hi⟩ := List.mem_iff_getElem?.mp hk
  have hil : i < T.length := by rw [F.len]; exact (List.getElem?_eq_some_iff.mp hi).1
  have hr : T[i]? = some T[i] := List.getElem?_eq_getElem hil
  have hrm := List.getElem_mem hil
  have hS := h T[i] (Spn.mem hp F.vr hrm)
  have one := F.one i _ k hr hi
  by_cases hin : k ∈ ls
  · exact hin
  · have hz := spn_lead hp G.vr G.lt (diag_of G) (F.lt k hk) hS (fun j _ hj => F.lead i _ k hr hi j hj) hin
    rw [one] at hz
    exact absurd hz (by decide)
theorem inc_eq : ∀ {a b : List Nat}, a.Pairwise (· < ·) → b.Pairwise (· < ·) → (∀ x, x ∈ a ↔ x ∈ b) → a = b := by
  intro a b ha hb h
  have na : a.Nodup := List.nodup_iff_pairwise_ne.mpr (ha.imp fun h => Nat.ne_of_lt h)
  have nb : b.Nodup := List.nodup_iff_pairwise_ne.mpr (hb.imp fun h => Nat.ne_of_lt h)
  have hp : a.Perm b := (List.perm_ext_iff_of_nodup na nb).mpr h
  exact hp.eq_of_pairwise (fun x y _ _ h1 h2 => absurd (Nat.lt_trans h1 h2) (Nat.lt_irrefl _)) ha hb
theorem form_unique (hp : 0 < p) {T U : List (List Int)} {ks ls : List Nat} (F : Form p n T ks) (G : Form p n U ls) (h : ∀ v, Spn p n T v ↔ Spn p n U v) : T = U ∧ ks = ls := by
  have e : ks = ls := inc_eq F.inc G.inc fun x => ⟨piv_sub hp F G (fun v => (h v).mp) x, piv_sub hp G F (fun v => (h v).mpr) x⟩
  subst e
  refine ⟨?_, rfl⟩
  apply List.ext_getElem?
  intro i
  by_cases hi : i < T.length
  · have hi2 : i < U.length := by rw [G.len, ← F.len]; exact hi
    have hi3 : i < ks.length := by rw [← F.len]; exact hi
    have h1 : T[i]? = some T[i] := List.getElem?_eq_getElem hi
    have h2 : U[i]? = some U[i] := List.getElem?_eq_getElem hi2
    have hk : ks[i]? = some ks[i] := List.getElem?_eq_getElem hi3
    rw [h1, h2]
    congr 1
    have v1 := F.vr _ (List.getElem_mem hi)
    have v2 := G.vr _ (List.getElem_mem hi2)
    -- the difference has 0 at the pivots
    have s2 := scR_vr hp v2.1 (-1)
    have hd : Spn p n T (addR p T[i] (scR p U[i] (-1))) := Spn.add hp F.vr (Spn.mem hp F.vr (List.getElem_mem hi)) (Spn.sc hp F.vr ((h _).mpr (Spn.mem hp G.vr (List.getElem_mem hi2))) _)
    have hz := spn_zero hp F.vr F.lt (diag_of F) hd fun k hkm => by
      have hkn := F.lt k hkm
      obtain ⟨j, hj⟩ := List.mem_iff_getElem?.mp hkm
      rw [atR_add (by rw [v1.1]; exact hkn) (by rw [s2.1]; exact hkn), atR_sc (by rw [v2.1]; exact hkn), Int.add_emod_emod]
      by_cases hij : i = j
      · subst hij
        rw [F.one i _ k h1 hj, G.one i _ k h2 hj]
        exact Int.zero_emod p
      · rw [F.zero i _ j k h1 hj hij, G.zero i _ j k h2 hj hij]
        exact Int.zero_emod p
    have e2 := congrArg (fun x => addR p x U[i]) hz
    have e3 : addR p (addR p T[i] (scR p U[i] (-1))) U[i] = addR p (zeroR n) U[i] := e2
    rw [add_assoc' hp v1 s2 v2, zero_add' hp v2] at e3
    have t := la_add_sc hp v2 (-1) 1
    rw [la_sc_one hp v2, show (-1 : Int) + 1 = 0 by decide, la_sc_zero hp v2] at t
    rw [t, add_zero' hp v1] at e3
    exact e3
  · rw [List.getElem?_eq_none (by omega), List.getElem?_eq_none (by rw [G.len, ← F.len]; omega)]
/-! the rest -/
theorem oneAt_piv {r : List Int} {k : Nat} (h1 : atR r k = 1) (h0 : ∀ j, j < k → atR r j = 0) (hk : k < r.length) : oneAt r = k := by
  unfold oneAt
  have hm : k < r.length := hk
  refine (List.findIdx_eq hm).mpr ⟨?_, fun j hj => ?_⟩
  · have e := atR_get hm
    rw [List.getElem?_eq_getElem hm] at e
    rw [Option.some.inj e, h1]
    rfl
  · have hjl : j < r.length := by omega
    have e := atR_get hjl
    rw [List.getElem?_eq_getElem hjl] at e
    rw [Option.some.inj e, h0 j hj]
    rfl
theorem ones_form {T : List (List Int)} {ks : List Nat} (F : Form p n T ks) : Ones n T := fun r hr => by
  obtain ⟨i, hi⟩ := List.mem_iff_getElem?.mp hr
  have hil := (List.getElem?_eq_some_iff.mp hi).1
  have hi3 : i < ks.length := by rw [← F.len]; exact hil
  have hk : ks[i]? = some ks[i] := List.getElem?_eq_getElem hi3
  have hkn := F.lt _ (List.getElem_mem hi3)
  rw [oneAt_piv (F.one i r _ hi hk) (F.lead i r _ hi hk) (by rw [(F.vr r hr).1]; exact hkn)]
  exact hkn
theorem rest_facts (hp : 0 < p) : ∀ {T : List (List Int)} {ks : List Nat} {v : List Int}, AllV p n T → (∀ k ∈ ks, k < n) → Diag T ks → Vr p n v →
    (∀ k ∈ ks, atR (restR p T v) k = 0) ∧ (∀ k, k < n → (∀ r ∈ T, atR r k = 0) → atR (restR p T v) k = atR v k) ∧ ∃ s, Spn p n T s ∧ v = addR p (restR p T v) s
  | [], [], v, _, _, _, hv => ⟨(fun k h => by cases h), fun k _ _ => rfl, zeroR n, rfl, (add_zero' hp hv).symm⟩
  | r :: T, k :: ks, v, hT, hk, ⟨d1, d2, d3, d4, d6, d5⟩, hv => by
    have hr := hT.head
    have hkn := hk k (List.mem_cons_self ..)
    have e1 : oneAt r = k := oneAt_piv d1 d2 (by rw [hr.1]; exact hkn)
    have hvc := clrR_vr hp hv hr k
    obtain ⟨i1, i2, s, hs, i3⟩ := rest_facts hp hT.tail (fun j hj => hk j (List.mem_cons_of_mem _ hj)) d5 hvc
    have er : restR p (r :: T) v = restR p T (clrR p v r k) := by rw [restR, e1]
    have hvr := restR_vr hp T _ hT.tail hvc
    rw [er]
    refine ⟨fun j hj => ?_, fun j hj h0 => ?_, ?_⟩
    · rcases List.mem_cons.mp hj with rfl | hj
      · rw [i2 _ hkn d3, clr_at hp hv hr hkn, d1, Int.mul_one, Int.sub_self, Int.zero_emod]
      · exact i1 j hj
    · rw [i2 j hj fun x hx => h0 x (List.mem_cons_of_mem _ hx), clr_at hp hv hr hj, h0 r (List.mem_cons_self ..), Int.mul_zero, Int.sub_zero]
      have hb := hv.at hj
      exact emod_small hb.1 hb.2
    · refine ⟨addR p s (scR p r (atR v k)), ⟨_, s, hs, rfl⟩, ?_⟩
      have hsv := hs.vr hp hT.tail
      have hsr := scR_vr hp hr.1 (atR v k)
      rw [← add_assoc' hp hvr hsv hsr, ← i3, clr_eq hp hv hr, add_back hp hv hr]
  | [], _ :: _, _, _, _, h, _ => h.elim
  | _ :: _, [], _, _, _, h, _ => h.elim
theorem add_cancel {u s : List Int} (hp : 0 < p) (hu : Vr p n u) (hs : Vr p n s) : addR p (addR p u s) (scR p u (-1)) = s := by
  have h1 := scR_vr hp hu.1 (-1)
  have t := la_add_sc hp hu 1 (-1)
  rw [la_sc_one hp hu, show (1 : Int) + -1 = 0 by decide, la_sc_zero hp hu] at t
  rw [add_comm' hp hu hs, add_assoc' hp hs hu h1, t, add_zero' hp hs]
theorem rest_zero (hp : 0 < p) {T : List (List Int)} {ks : List Nat} {v : List Int} (F : Form p n T ks) (hv : Vr p n v) : restR p T v = zeroR n ↔ Spn p n T v := by
  obtain ⟨h1, _, s, hs, e⟩ := rest_facts hp F.vr F.lt (diag_of F) hv
  have hvr := restR_vr hp T v F.vr hv
  have hsv := hs.vr hp F.vr
  constructor
  · intro z
    rw [z, zero_add' hp hsv] at e
    rw [e]
    exact hs
  · intro k
    have hr : Spn p n T (restR p T v) := by
      have e2 : restR p T v = addR p v (scR p s (-1)) := by
        have := add_cancel hp hsv hvr
        rw [add_comm' hp hsv hvr, ← e] at this
        exact this.symm
      rw [e2]
      exact Spn.add hp F.vr k (Spn.sc hp F.vr hs _)
    exact spn_zero hp F.vr F.lt (diag_of F) hr h1
theorem rest_diff (hp : 0 < p) {T : List (List Int)} {ks : List Nat} {v : List Int} (F : Form p n T ks) (hv : Vr p n v) : Spn p n T (addR p v (scR p (restR p T v) (-1))) := by
  obtain ⟨_, _, s, hs, e⟩ := rest_facts hp F.vr F.lt (diag_of F) hv
  have hvr := restR_vr hp T v F.vr hv
  have h := add_cancel hp hvr (hs.vr hp F.vr)
  rw [← e] at h
  rw [h]
  exact hs
theorem red_idem (P : Pr p) {rs : List (List Int)} (hv : AllV p n rs) {S : List (List Int)} (hS : AllV p n S) (h : ∀ v, Spn p n S v ↔ Spn p n rs v) : redT p n S = redT p n rs ∧ redP p n S = redP p n rs :=
  form_unique P.pos (red_form P hS) (red_form P hv) fun v => ((red_span P hS v).symm.trans (h v)).trans (red_span P hv v)
end
/-! ### sums; products of rows; spaces of the rows with product 0 -/
section
variable {p : Int} {n : Nat}
def sumN (f : Nat → Int) : Nat → Int
  | 0 => 0
  | n + 1 => sumN f n + f n
theorem sumN_congr {f g : Nat → Int} : ∀ {n : Nat}, (∀ k, k < n → f k = g k) → sumN f n = sumN g n
  | 0, _ => rfl
  | n + 1, h => by rw [sumN, sumN, sumN_congr (n := n) fun k hk => h k (by omega), h n (Nat.lt_succ_self n)]
theorem sumN_mod {f g : Nat → Int} : ∀ {n : Nat}, (∀ k, k < n → f k % p = g k % p) → sumN f n % p = sumN g n % p
  | 0, _ => rfl
  | n + 1, h => by rw [sumN, sumN, Int.add_emod, sumN_mod (n := n) fun k hk => h k (by omega), h n (Nat.lt_succ_self n), ← Int.add_emod]
theorem sumN_zero {f : Nat → Int} {n : Nat} (h : ∀ k, k < n → f k % p = 0) : sumN f n % p = 0 := by
  induction n with
  | zero => exact Int.zero_emod p
  | succ n ih => rw [sumN, Int.add_emod, ih fun k hk => h k (by omega), h n (Nat.lt_succ_self n), Int.add_zero, Int.zero_emod]
theorem sumN_one {f : Nat → Int} {a : Nat} : ∀ {n : Nat}, a < n → (∀ k, k < n → k ≠ a → f k % p = 0) → sumN f n % p = f a % p
  | 0, h, _ => absurd h (Nat.not_lt_zero a)
  | n + 1, h, hz => by
    rw [sumN, Int.add_emod]
    by_cases e : a = n
    · subst e
      rw [sumN_zero fun k hk => hz k (by omega) (by omega), Int.zero_add, Int.emod_emod_of_dvd _ (Int.dvd_refl p)]
    · rw [sumN_one (n := n) (by omega) fun k hk => hz k (by omega), hz n (Nat.lt_succ_self n) (by omega), Int.add_zero, Int.emod_emod_of_dvd _ (Int.dvd_refl p)]
theorem sumN_two {f : Nat → Int} {a b : Nat} (hab : a ≠ b) : ∀ {n : Nat}, a < n → b < n → (∀ k, k < n → k ≠ a → k ≠ b → f k % p = 0) → sumN f n % p = (f a + f b) % p
  | 0, h, _, _ => absurd h (Nat.not_lt_zero a)
  | n + 1, ha, hb, hz => by
    rw [sumN, Int.add_emod]
    by_cases e : a = n
    · subst e
      rw [sumN_one (a := b) (n := a) (by omega) fun k hk hkb => hz k (by omega) (by omega) hkb, ← Int.add_emod, Int.add_comm]
    · by_cases e2 : b = n
      · subst e2
        rw [sumN_one (a := a) (n := b) (by omega) fun k hk hka => hz k (by omega) hka (by omega), ← Int.add_emod]
      · rw [sumN_two hab (n := n) (by omega) (by omega) fun k hk => hz k (by omega), hz n (Nat.lt_succ_self n) (by omega) (by omega), Int.add_zero, Int.emod_emod_of_dvd _ (Int.dvd_refl p)]
theorem sumN_add {f g : Nat → Int} : ∀ n : Nat, sumN (fun k => f k + g k) n = sumN f n + sumN g n
  | 0 => rfl
  | n + 1 => by
    rw [sumN, sumN, sumN, sumN_add n]
    omega
theorem sumN_mul {f : Nat → Int} (c : Int) : ∀ n : Nat, sumN (fun k => c * f k) n = c * sumN f n
  | 0 => (Int.mul_zero c).symm
  | n + 1 => by rw [sumN, sumN, sumN_mul c n, Int.mul_add]
theorem sumN_range (f : Nat → Int) : ∀ n : Nat, ((List.range n).map f).sum = sumN f n
  | 0 => rfl
  | n + 1 => by
    rw [List.range_succ, List.map_append, List.sum_append, sumN_range f n]
    show _ + (f n + 0) = _
    rw [Int.add_zero]
    rfl
def dotN (n : Nat) (v w : List Int) : Int := sumN (fun k => atR v k * atR w k) n
def Orth (p : Int) (n : Nat) (v w : List Int) : Prop := dotN n v w % p = 0
theorem dotN_comm (v w : List Int) : dotN n v w = dotN n w v := sumN_congr fun k _ => Int.mul_comm _ _
theorem Orth.symm {v w : List Int} (h : Orth p n v w) : Orth p n w v := by unfold Orth; rw [dotN_comm]; exact h
theorem dotN_add {u v w : List Int} (hu : Vr p n u) (hv : Vr p n v) : dotN n (addR p u v) w % p = (dotN n u w + dotN n v w) % p := by
  unfold dotN
  rw [← sumN_add]
  refine sumN_mod fun k hk => ?_
  rw [atR_add (by rw [hu.1]; exact hk) (by rw [hv.1]; exact hk), Int.mul_emod, Int.emod_emod_of_dvd _ (Int.dvd_refl p), ← Int.mul_emod, Int.add_mul]
theorem dotN_sc {v w : List Int} (hv : Vr p n v) (c : Int) : dotN n (scR p v c) w % p = (c * dotN n v w) % p := by
  unfold dotN
  rw [← sumN_mul]
  refine sumN_mod fun k hk => ?_
  rw [atR_sc (by rw [hv.1]; exact hk), Int.mul_emod, Int.emod_emod_of_dvd _ (Int.dvd_refl p), ← Int.mul_emod, Int.mul_assoc]
theorem orth_zero (w : List Int) : Orth p n (zeroR n) w := sumN_zero fun k _ => by rw [atR_zero, Int.zero_mul, Int.zero_emod]
theorem Orth.add {u v w : List Int} (hu : Vr p n u) (hv : Vr p n v) (h : Orth p n u w) (k : Orth p n v w) : Orth p n (addR p u v) w := by
  unfold Orth at *
  rw [dotN_add hu hv, Int.add_emod, h, k]
  rfl
theorem Orth.sc {v w : List Int} (hv : Vr p n v) (c : Int) (h : Orth p n v w) : Orth p n (scR p v c) w := by
  unfold Orth at *
  rw [dotN_sc hv, Int.mul_emod, h, Int.mul_zero]
  rfl
theorem orth_spn (hp : 0 < p) : ∀ {R : List (List Int)} {v w : List Int}, AllV p n R → (∀ r ∈ R, Orth p n r w) → Spn p n R v → Orth p n v w
  | [], v, w, _, _, h => by rw [show v = zeroR n from h]; exact orth_zero w
  | r :: R, v, w, hR, ho, ⟨c, u, hu, e⟩ => by
    rw [e]
    exact Orth.add (hu.vr hp hR.tail) (scR_vr hp hR.head.1 _) (orth_spn hp hR.tail (fun x hx => ho x (List.mem_cons_of_mem _ hx)) hu) (Orth.sc hR.head c (ho r (List.mem_cons_self ..)))
/-! rows with unit places -/
structure UniI (n : Nat) (R : List (List Int)) (qs : List Nat) : Prop where
  len : R.length = qs.length
  lt : ∀ k ∈ qs, k < n
  one : ∀ (i : Nat) (r : List Int) (k : Nat), R[i]? = some r → qs[i]? = some k → atR r k = 1
  zero : ∀ (i : Nat) (r : List Int) (j k : Nat), R[i]? = some r → qs[j]? = some k → i ≠ j → atR r k = 0
theorem uni_form {T : List (List Int)} {ks : List Nat} (F : Form p n T ks) : UniI n T ks := ⟨F.len, F.lt, F.one, F.zero⟩
theorem UniI.tail {r : List Int} {R : List (List Int)} {q : Nat} {qs : List Nat} (U : UniI n (r :: R) (q :: qs)) : UniI n R qs :=
  ⟨by have := U.len; simpa using this, fun k hk => U.lt k (List.mem_cons_of_mem _ hk), fun i x k h1 h2 => U.one (i + 1) x k h1 h2, fun i x j k h1 h2 h3 => U.zero (i + 1) x (j + 1) k h1 h2 (by omega)⟩
theorem UniI.head_tail {r : List Int} {R : List (List Int)} {q : Nat} {qs : List Nat} (U : UniI n (r :: R) (q :: qs)) : ∀ k ∈ qs, atR r k = 0 := fun k hk => by
  obtain ⟨j, hj⟩ := List.mem_iff_getElem?.mp hk
  exact U.zero 0 r (j + 1) k rfl hj (by omega)
theorem UniI.tail_head {r : List Int} {R : List (List Int)} {q : Nat} {qs : List Nat} (U : UniI n (r :: R) (q :: qs)) : ∀ x ∈ R, atR x q = 0 := fun x hx => by
  obtain ⟨j, hj⟩ := List.mem_iff_getElem?.mp hx
  exact U.zero (j + 1) x 0 q hj rfl (by omega)
theorem uni_row {R : List (List Int)} {qs : List Nat} (U : UniI n R qs) {k : Nat} (hk : k ∈ qs) : ∃ r ∈ R, atR r k = 1 ∧ ∀ j ∈ qs, j ≠ k → atR r j = 0 := by
  obtain ⟨i, hi⟩ := List.mem_iff_getElem?.mp hk
  have hil : i < R.length := by rw [U.len]; exact (List.getElem?_eq_some_iff.mp hi).1
  have hr := List.getElem?_eq_getElem hil
  refine ⟨R[i], List.getElem_mem hil, U.one i _ k hr hi, fun j hj hjk => ?_⟩
  obtain ⟨m, hm⟩ := List.mem_iff_getElem?.mp hj
  refine U.zero i _ m j hr hm fun e => hjk ?_
  subst e
  rw [hi] at hm
  exact (Option.some.inj hm).symm
/-- what is left behind the unit places -/
theorem uni_clear (hp : 0 < p) : ∀ {S : List (List Int)} {fs : List Nat} {v : List Int}, AllV p n S → UniI n S fs → Vr p n v →
    ∃ s w, Spn p n S s ∧ Vr p n w ∧ v = addR p w s ∧ ∀ k ∈ fs, atR w k = 0
  | [], [], v, _, _, hv => ⟨zeroR n, v, rfl, hv, (add_zero' hp hv).symm, fun k h => by cases h⟩
  | [], k :: fs, v, _, U, _ => by have := U.len; simp at this
  | r :: S, [], v, _, U, _ => by have := U.len; simp at this
  | r :: S, k :: fs, v, hS, U, hv => by
    obtain ⟨s, w, hs, hw, e, hz⟩ := uni_clear hp hS.tail U.tail hv
    have hr := hS.head
    have hkn := U.lt k (List.mem_cons_self ..)
    refine ⟨addR p s (scR p r (atR w k)), clrR p w r k, ⟨_, s, hs, rfl⟩, clrR_vr hp hw hr k, ?_, fun j hj => ?_⟩
    · have hsv := hs.vr hp hS.tail
      have hsr := scR_vr hp hr.1 (atR w k)
      have hc := clrR_vr hp hw hr k
      rw [e, add_comm' hp hsv hsr, ← add_assoc' hp hc hsr hsv, clr_eq hp hw hr, add_back hp hw hr]
    · rcases List.mem_cons.mp hj with rfl | hj
      · rw [clr_at hp hw hr hkn, U.one 0 r j rfl rfl, Int.mul_one, Int.sub_self, Int.zero_emod]
      · have hjn := U.lt j (List.mem_cons_of_mem _ hj)
        rw [clr_at hp hw hr hjn, U.head_tail j hj, hz j hj, Int.mul_zero, Int.sub_zero, Int.zero_emod]
/-- two tables that stand upright on one another, and fill the width -/
structure Dual (p : Int) (n : Nat) (T : List (List Int)) (ks : List Nat) (S : List (List Int)) (fs : List Nat) : Prop where
  vT : AllV p n T
  vS : AllV p n S
  uT : UniI n T ks
  uS : UniI n S fs
  all : ∀ k, k < n → k ∈ ks ∨ k ∈ fs
  orth : ∀ t ∈ T, ∀ s ∈ S, Orth p n t s
theorem Dual.symm {T : List (List Int)} {ks : List Nat} {S : List (List Int)} {fs : List Nat} (D : Dual p n T ks S fs) : Dual p n S fs T ks :=
  ⟨D.vS, D.vT, D.uS, D.uT, fun k hk => (D.all k hk).symm, fun s hs t ht => (D.orth t ht s hs).symm⟩
theorem dual_span (hp : 0 < p) {T : List (List Int)} {ks : List Nat} {S : List (List Int)} {fs : List Nat} (D : Dual p n T ks S fs) {v : List Int} (hv : Vr p n v) (h : ∀ t ∈ T, Orth p n t v) : Spn p n S v := by
  obtain ⟨s, w, hs, hw, e, hz⟩ := uni_clear hp D.vS D.uS hv
  have hsv := hs.vr hp D.vS
  have hw0 : w = zeroR n := by
    refine ext_at hw (zeroR_vr hp n) fun k hk => ?_
    rw [atR_zero]
    rcases D.all k hk with hk1 | hk1
    · obtain ⟨t, ht, h1, h0⟩ := uni_row D.uT hk1
      have hts : Orth p n s t := orth_spn hp D.vS (fun x hx => (D.orth t ht x hx).symm) hs
      have htv : dotN n (addR p w s) t % p = 0 := by rw [← e]; exact (h t ht).symm
      rw [dotN_add hw hsv, Int.add_emod, show dotN n s t % p = 0 from hts, Int.add_zero, Int.emod_emod_of_dvd _ (Int.dvd_refl p)] at htv
      have h3 : dotN n w t % p = (atR w k * atR t k) % p := sumN_one (f := fun k => atR w k * atR t k) hk fun j hj hjk => by
        show (atR w j * atR t j) % p = 0
        rcases D.all j hj with hj1 | hj1
        · rw [h0 j hj1 hjk, Int.mul_zero, Int.zero_emod]
        · rw [hz j hj1, Int.zero_mul, Int.zero_emod]
      rw [h3, h1, Int.mul_one] at htv
      have hb := hw.at hk
      rw [emod_small hb.1 hb.2] at htv
      exact htv
    · exact hz k hk1
  rw [e, hw0, zero_add' hp hsv]
  exact hs
theorem dual_iff (hp : 0 < p) {T : List (List Int)} {ks : List Nat} {S : List (List Int)} {fs : List Nat} (D : Dual p n T ks S fs) {v : List Int} (hv : Vr p n v) : Spn p n S v ↔ ∀ t ∈ T, Orth p n t v :=
  ⟨fun h t ht => (orth_spn hp D.vS (fun x hx => (D.orth t ht x hx).symm) h).symm, dual_span hp D hv⟩
/-! how many rows a space has -/
theorem lspan_uni (P : Pr p) {R : List (List Int)} {qs : List Nat} (hR : AllV p n R) (U : UniI n R qs) : ∀ i, i ≤ R.length → (lspan p n (R.take i)).length = p.toNat ^ i
  | 0, _ => rfl
  | i + 1, h => by
    have ih := lspan_uni P hR U i (by omega)
    have hr := List.getElem?_eq_getElem (show i < R.length by omega)
    have hq := List.getElem?_eq_getElem (show i < qs.length by rw [← U.len]; omega)
    have ht : AllV p n (R.take i) := fun x hx => hR x (List.mem_of_mem_take hx)
    have hn : R[i] ∉ lspan p n (R.take i) := fun hm => by
      have hs := (lspan_iff P ht _).mp hm
      have h0 := Spn.at0 P.pos ht (U.lt _ (List.mem_of_getElem? hq)) (fun x hx => by
        obtain ⟨j, hj⟩ := List.mem_iff_getElem?.mp hx
        have hji : j < i := by
          have := (List.getElem?_eq_some_iff.mp hj).1
          rw [List.length_take] at this
          omega
        rw [List.getElem?_take_of_lt hji] at hj
        exact U.zero j x i _ hj hq (by omega)) hs
      rw [U.one i _ _ hr hq] at h0
      exact absurd h0 (by decide)
    rw [lspan_step hr, spanStep, if_neg hn, flat_len (c := p.toNat) _ _ fun x _ => by rw [List.length_map, List.length_range], ih, Nat.pow_succ, Nat.mul_comm]
theorem lspan_same_len (P : Pr p) {R S : List (List Int)} (hR : AllV p n R) (hS : AllV p n S) (h : ∀ v, Spn p n R v ↔ Spn p n S v) : (lspan p n R).length = (lspan p n S).length := by
  have e := congrArg List.length (lspanS_same P hR hS h)
  unfold lspanS at e
  rw [List.length_mergeSort, List.length_mergeSort] at e
  exact e
theorem pow_len {p : Int} (P : Pr p) {a b : Nat} (h : p.toNat ^ a ≤ p.toNat ^ b) : a ≤ b := by
  have h2 := P.two
  exact (Nat.pow_le_pow_iff_right (show 1 < p.toNat by omega)).mp h
theorem uni_len (P : Pr p) {R S : List (List Int)} {qs : List Nat} (hR : AllV p n R) (hS : AllV p n S) (U : UniI n R qs) (h : ∀ v, Spn p n R v ↔ Spn p n S v) : R.length ≤ S.length := by
  refine pow_len P ?_
  have h1 := lspan_uni P hR U R.length (Nat.le_refl _)
  have h2 := lspan_len (p := p) (n := n) (rs := S) P.two S.length (Nat.le_refl _)
  rw [List.take_length] at h1 h2
  rw [← h1, lspan_same_len P hR hS h]
  exact h2
theorem red_len (P : Pr p) {rs : List (List Int)} (hv : AllV p n rs) : (redT p n rs).length ≤ rs.length :=
  uni_len P (red_form P hv).vr hv (uni_form (red_form P hv)) fun v => (red_span P hv v).symm
end
/-! ### kernels (the mirror), and what they hold -/
section
variable {p : Int} {n : Nat}
def unitR (n a : Nat) : List Int := (List.range n).map fun k => if k = a then 1 else 0
theorem at_map {g : Nat → Int} {k : Nat} (h : k < n) : atR ((List.range n).map g) k = g k := by
  unfold atR
  rw [List.getD_eq_getElem?_getD, List.getElem?_map, List.getElem?_range h]
  rfl
theorem unitR_vr (h2 : 2 ≤ p) (n a : Nat) : Vr p n (unitR n a) := by
  refine ⟨by unfold unitR; rw [List.length_map, List.length_range], fun x hx => ?_⟩
  obtain ⟨k, _, rfl⟩ := List.mem_map.mp hx
  split <;> omega
theorem unitR_at {n a k : Nat} (h : k < n) : atR (unitR n a) k = if k = a then 1 else 0 := at_map h
/-- the row for a free place, the first i pivots put in -/
def solI (p : Int) (n : Nat) (T : List (List Int)) (ks : List Nat) (f : Nat) : Nat → List Int
  | 0 => unitR n f
  | i + 1 => (solI p n T ks f i).set (ks.getD i 0) ((-(atR (T.getD i []) f)) % p)
def solR (p : Int) (n : Nat) (T : List (List Int)) (ks : List Nat) (f : Nat) : List Int := solI p n T ks f T.length
theorem set_at {v : List Int} {k j : Nat} {x : Int} (h : k < v.length) : atR (v.set k x) j = if j = k then x else atR v j := by
  unfold atR
  rw [List.getD_eq_getElem?_getD, List.getElem?_set]
  by_cases e : j = k
  · subst e
    rw [if_pos rfl, if_pos h, if_pos rfl]
    rfl
  · rw [if_neg fun z => e z.symm, if_neg e, ← List.getD_eq_getElem?_getD]
theorem solI_vr (h2 : 2 ≤ p) {T : List (List Int)} {ks : List Nat} {f : Nat} : ∀ i, Vr p n (solI p n T ks f i)
  | 0 => unitR_vr h2 n f
  | i + 1 => by
    have h := solI_vr h2 (T := T) (ks := ks) (f := f) i
    refine ⟨by rw [solI, List.length_set]; exact h.1, fun x hx => ?_⟩
    rcases List.mem_or_eq_of_mem_set hx with hx | rfl
    · exact h.2 x hx
    · exact emod_in (by omega) _
theorem getD_some {α : Type} {l : List α} {i : Nat} {x d : α} (h : l[i]? = some x) : l.getD i d = x := by rw [List.getD_eq_getElem?_getD, h]; rfl
theorem inc_lt {ks : List Nat} (h : ks.Pairwise (· < ·)) {i j a b : Nat} (hij : i < j) (ha : ks[i]? = some a) (hb : ks[j]? = some b) : a < b := by
  obtain ⟨h1, e1⟩ := List.getElem?_eq_some_iff.mp ha
  obtain ⟨h2, e2⟩ := List.getElem?_eq_some_iff.mp hb
  have := List.pairwise_iff_getElem.mp h i j h1 h2 hij
  rw [e1, e2] at this
  exact this
theorem solI_at (h2 : 2 ≤ p) {T : List (List Int)} {ks : List Nat} {f : Nat} (F : Form p n T ks) : ∀ i, i ≤ T.length →
    (∀ j, (∀ m k, m < i → ks[m]? = some k → k ≠ j) → atR (solI p n T ks f i) j = atR (unitR n f) j) ∧
    (∀ m k r, m < i → ks[m]? = some k → T[m]? = some r → atR (solI p n T ks f i) k = (-(atR r f)) % p)
  | 0, _ => ⟨fun j _ => rfl, fun m k r hm => absurd hm (Nat.not_lt_zero m)⟩
  | i + 1, hi => by
    obtain ⟨i1, i2⟩ := solI_at h2 F i (by omega)
    have hv := solI_vr (n := n) h2 (T := T) (ks := ks) (f := f) i
    have hr := List.getElem?_eq_getElem (show i < T.length by omega)
    obtain ⟨k0, hk⟩ : ∃ k, ks[i]? = some k := ⟨_, List.getElem?_eq_getElem (show i < ks.length by rw [← F.len]; omega)⟩
    have hkn := F.lt _ (List.mem_of_getElem? hk)
    have e : solI p n T ks f (i + 1) = (solI p n T ks f i).set k0 ((-(atR T[i] f)) % p) := by rw [solI, getD_some hk, getD_some hr]
    rw [e]
    refine ⟨fun j hj => ?_, fun m k r hm h1 h3 => ?_⟩
    · rw [set_at (by rw [hv.1]; exact hkn), if_neg fun z => hj i _ (Nat.lt_succ_self i) hk z.symm]
      exact i1 j fun m k hm => hj m k (by omega)
    · rw [set_at (by rw [hv.1]; exact hkn)]
      by_cases em : m = i
      · subst em
        rw [hk] at h1
        rw [hr] at h3
        cases h1
        cases h3
        rw [if_pos rfl]
      · have := inc_lt F.inc (show m < i by omega) h1 hk
        rw [if_neg (by omega)]
        exact i2 m k r (by omega) h1 h3
/-- what such a row is -/
structure IsSol (p : Int) (n : Nat) (T : List (List Int)) (ks : List Nat) (f : Nat) (s : List Int) : Prop where
  vr : Vr p n s
  one : atR s f = 1
  zero : ∀ j, j < n → j ∉ ks → j ≠ f → atR s j = 0
  piv : ∀ (i : Nat) (r : List Int) (k : Nat), T[i]? = some r → ks[i]? = some k → atR s k = (-(atR r f)) % p
theorem solR_is (h2 : 2 ≤ p) {T : List (List Int)} {ks : List Nat} {f : Nat} (F : Form p n T ks) (hf : f < n) (hfk : f ∉ ks) : IsSol p n T ks f (solR p n T ks f) := by
  obtain ⟨i1, i2⟩ := solI_at h2 (f := f) F T.length (Nat.le_refl _)
  have hno : ∀ j, j ∉ ks → ∀ m k, m < T.length → ks[m]? = some k → k ≠ j := fun j hj m k _ h e => hj (e ▸ List.mem_of_getElem? h)
  refine ⟨solI_vr h2 _, ?_, fun j hj hjk hjf => ?_, fun i r k h1 h3 => i2 i k r (List.getElem?_eq_some_iff.mp h1).1 h3 h1⟩
  · rw [solR, i1 f (hno f hfk), unitR_at hf, if_pos rfl]
  · rw [solR, i1 j (hno j hjk), unitR_at hj, if_neg hjf]
def freeL (n : Nat) (ks : List Nat) : List Nat := (List.range n).filter fun f => decide (f ∉ ks)
theorem mem_free {ks : List Nat} {f : Nat} : f ∈ freeL n ks ↔ f < n ∧ f ∉ ks := by
  unfold freeL
  rw [List.mem_filter, List.mem_range, decide_eq_true_iff]
theorem free_nodup (ks : List Nat) : (freeL n ks).Nodup := List.Nodup.sublist List.filter_sublist List.nodup_range
def kerF (p : Int) (n : Nat) (T : List (List Int)) (ks : List Nat) : List (List Int) := (freeL n ks).map (solR p n T ks)
def kerR (p : Int) (n : Nat) (rs : List (List Int)) : List (List Int) := redT p n (kerF p n (redT p n rs) (redP p n rs))
theorem kerF_vr (h2 : 2 ≤ p) (T : List (List Int)) (ks : List Nat) : AllV p n (kerF p n T ks) := fun r hr => by
  obtain ⟨f, _, rfl⟩ := List.mem_map.mp hr
  exact solI_vr h2 _
theorem nodup_ne {l : List Nat} (h : l.Nodup) {i j a b : Nat} (hij : i ≠ j) (ha : l[i]? = some a) (hb : l[j]? = some b) : a ≠ b := fun e => by
  subst e
  obtain ⟨h1, e1⟩ := List.getElem?_eq_some_iff.mp ha
  obtain ⟨h2, e2⟩ := List.getElem?_eq_some_iff.mp hb
  have h := List.pairwise_iff_getElem.mp h
  by_cases hlt : i < j
  · exact h i j h1 h2 hlt (e1.trans e2.symm)
  · exact h j i h2 h1 (by omega) (e2.trans e1.symm)
theorem kerF_dual (h2 : 2 ≤ p) {T : List (List Int)} {ks : List Nat} (F : Form p n T ks) : Dual p n T ks (kerF p n T ks) (freeL n ks) := by
  have sol : ∀ f ∈ freeL n ks, IsSol p n T ks f (solR p n T ks f) := fun f hf => solR_is h2 F (mem_free.mp hf).1 (mem_free.mp hf).2
  refine ⟨F.vr, kerF_vr h2 T ks, uni_form F, ⟨by unfold kerF; rw [List.length_map], fun k hk => (mem_free.mp hk).1, fun i r k h1 h3 => ?_, fun i r j k h1 h3 hij => ?_⟩, fun k hk => ?_, fun t ht s hs => ?_⟩
  · obtain ⟨f, hf, rfl⟩ := getElem?_map_some h1
    have h4 := (sol f (List.mem_of_getElem? hf)).one
    rw [hf] at h3
    cases h3
    exact h4
  · obtain ⟨f, hf, rfl⟩ := getElem?_map_some h1
    have hk := mem_free.mp (List.mem_of_getElem? h3)
    exact (sol f (List.mem_of_getElem? hf)).zero k hk.1 hk.2 fun e => nodup_ne (free_nodup ks) hij hf h3 e.symm
  · by_cases h : k ∈ ks
    · exact .inl h
    · exact .inr (mem_free.mpr ⟨hk, h⟩)
  · obtain ⟨f, hf, rfl⟩ := List.mem_map.mp hs
    have S := sol f hf
    have hfn := mem_free.mp hf
    obtain ⟨i, hi⟩ := List.mem_iff_getElem?.mp ht
    obtain ⟨k0, hk⟩ : ∃ k, ks[i]? = some k := ⟨_, List.getElem?_eq_getElem (show i < ks.length by rw [← F.len]; exact (List.getElem?_eq_some_iff.mp hi).1)⟩
    have hkn := F.lt _ (List.mem_of_getElem? hk)
    have hne : k0 ≠ f := fun e => hfn.2 (e ▸ List.mem_of_getElem? hk)
    unfold Orth dotN
    rw [sumN_two (f := fun k => atR t k * atR (solR p n T ks f) k) hne hkn hfn.1 fun j hj h1 h3 => ?_]
    · show (atR t _ * atR (solR p n T ks f) _ + atR t f * atR (solR p n T ks f) f) % p = 0
      rw [F.one i t _ hi hk, S.piv i t _ hi hk, S.one, Int.one_mul, Int.mul_one, Int.emod_add_emod, show -(atR t f) + atR t f = 0 by omega, Int.zero_emod]
    · show (atR t j * atR (solR p n T ks f) j) % p = 0
      by_cases hjk : j ∈ ks
      · obtain ⟨m, hm⟩ := List.mem_iff_getElem?.mp hjk
        rw [F.zero i t m j hi hm fun e => h1 (by subst e; rw [hm] at hk; exact Option.some.inj hk), Int.zero_mul, Int.zero_emod]
      · rw [S.zero j hj hjk h3, Int.mul_zero, Int.zero_emod]
theorem filter_len2 {α : Type} (q : α → Bool) : ∀ l : List α, (l.filter q).length + (l.filter fun x => !q x).length = l.length
  | [] => rfl
  | x :: l => by
    have ih := filter_len2 q l
    cases h : q x with
    | true =>
      rw [List.filter_cons_of_pos h, List.filter_cons_of_neg (by rw [h]; decide), List.length_cons, List.length_cons]
      omega
    | false =>
      rw [List.filter_cons_of_neg (by rw [h]; decide), List.filter_cons_of_pos (by rw [h]; rfl), List.length_cons, List.length_cons]
      omega
theorem free_len {ks : List Nat} (h : ks.Pairwise (· < ·)) (hl : ∀ k ∈ ks, k < n) : (freeL n ks).length + ks.length = n := by
  have hnd : ks.Nodup := h.imp fun hab => Nat.ne_of_lt hab
  have h1 := filter_len2 (fun f => decide (f ∉ ks)) (List.range n)
  rw [List.length_range] at h1
  have h3 : (List.range n).filter (fun f => !decide (f ∉ ks)) |>.Perm ks := by
    rw [List.perm_ext_iff_of_nodup (List.Nodup.sublist List.filter_sublist List.nodup_range) hnd]
    intro a
    rw [List.mem_filter, List.mem_range]
    constructor
    · intro ⟨_, h⟩
      by_cases e : a ∈ ks
      · exact e
      · rw [decide_eq_true e] at h
        cases h
    · intro h
      exact ⟨hl a h, by rw [decide_eq_false (fun z => z h)]; rfl⟩
  have h4 := h3.length_eq
  unfold freeL
  omega
theorem kerR_iff (P : Pr p) {rs : List (List Int)} (hv : AllV p n rs) {v : List Int} (hw : Vr p n v) : Spn p n (kerR p n rs) v ↔ ∀ r ∈ rs, Orth p n r v := by
  have h2 := P.two
  have F := red_form P hv
  have D := kerF_dual h2 F
  unfold kerR
  rw [← red_span P (kerF_vr h2 _ _) v, dual_iff P.pos D hw]
  constructor
  · intro h r hr
    exact orth_spn P.pos F.vr h ((red_span P hv r).mp (Spn.mem P.pos hv hr))
  · intro h t ht
    exact orth_spn P.pos hv h ((red_span P hv t).mpr (Spn.mem P.pos F.vr ht))
theorem kerR_form (P : Pr p) (rs : List (List Int)) : ∃ ks, Form p n (kerR p n rs) ks := ⟨_, red_form P (kerF_vr P.two _ _)⟩
theorem kerR_vr (P : Pr p) (rs : List (List Int)) : AllV p n (kerR p n rs) := (red_form P (kerF_vr P.two _ _)).vr
theorem kerR_len (P : Pr p) {rs : List (List Int)} (hv : AllV p n rs) : (kerR p n rs).length + (redT p n rs).length = n := by
  have h2 := P.two
  have F := red_form P hv
  have D := kerF_dual h2 F
  have hk := kerF_vr (n := n) h2 (redT p n rs) (redP p n rs)
  have G := red_form P hk
  have a := red_len P hk
  have b := uni_len P hk G.vr D.uS fun v => red_span P hk v
  have c : (kerF p n (redT p n rs) (redP p n rs)).length = (freeL n (redP p n rs)).length := by unfold kerF; rw [List.length_map]
  have d := free_len F.inc F.lt
  have e := F.len
  unfold kerR
  omega
theorem kerR_kerR (P : Pr p) {rs : List (List Int)} (hv : AllV p n rs) : kerR p n (kerR p n rs) = redT p n rs := by
  have h2 := P.two
  have F := red_form P hv
  have D := kerF_dual h2 F
  have hk := kerF_vr (n := n) h2 (redT p n rs) (redP p n rs)
  obtain ⟨ls, G⟩ := kerR_form (n := n) P (kerR p n rs)
  refine (form_unique P.pos G F fun v => ?_).1
  constructor
  · intro h
    have hw := h.vr P.pos G.vr
    have h' := (kerR_iff P (kerR_vr P rs) hw).mp h
    refine (dual_iff P.pos D.symm hw).mpr fun t ht => ?_
    exact orth_spn P.pos (kerR_vr P rs) h' ((red_span P hk t).mp (Spn.mem P.pos hk ht))
  · intro h
    have hw := h.vr P.pos F.vr
    refine (kerR_iff P (kerR_vr P rs) hw).mpr fun r hr => ?_
    have hr2 : Spn p n (kerR p n rs) r := Spn.mem P.pos (kerR_vr P rs) hr
    have ho := (kerR_iff P hv (kerR_vr P rs r hr)).mp hr2
    exact (orth_spn P.pos hv ho ((red_span P hv v).mpr h)).symm
end
/-! ### all rows of a width; relations -/
section
variable {p : Int} {n : Nat}
def allR (p : Int) : Nat → List (List Int)
  | 0 => [[]]
  | n + 1 => (allR p n).flatMap fun w => (List.range p.toNat).map fun a : Nat => w ++ [(a : Int)]
theorem mem_all (hp : 0 < p) : ∀ {n : Nat} {v : List Int}, v ∈ allR p n ↔ Vr p n v
  | 0, v => by
    rw [allR, List.mem_singleton]
    exact ⟨fun h => by rw [h]; exact ⟨rfl, fun x hx => by cases hx⟩, fun h => List.eq_nil_of_length_eq_zero h.1⟩
  | n + 1, v => by
    rw [allR, List.mem_flatMap]
    constructor
    · rintro ⟨w, hw, h⟩
      obtain ⟨a, ha, rfl⟩ := List.mem_map.mp h
      have hv := (mem_all hp).mp hw
      have ha := List.mem_range.mp ha
      refine ⟨by rw [List.length_append, hv.1]; rfl, fun x hx => ?_⟩
      rcases List.mem_append.mp hx with hx | hx
      · exact hv.2 x hx
      · rw [List.mem_singleton.mp hx]
        omega
    · intro h
      have hne : v ≠ [] := fun e => by rw [e] at h; exact absurd h.1 (by simp)
      have hl := List.dropLast_concat_getLast hne
      have hb := h.2 _ (List.getLast_mem hne)
      refine ⟨v.dropLast, (mem_all hp).mpr ⟨by rw [List.length_dropLast, h.1]; rfl, fun x hx => h.2 x ((List.dropLast_subset v) hx)⟩, List.mem_map.mpr ⟨(v.getLast hne).toNat, List.mem_range.mpr (by omega), ?_⟩⟩
      rw [Int.toNat_of_nonneg hb.1]
      exact hl
theorem lt_app {x y : List Int} : ∀ {u v : List Int}, u.length = v.length → u < v → u ++ x < v ++ y
  | [], [], _, h => absurd h (List.lt_irrefl _)
  | [], _ :: _, h, _ => by simp at h
  | _ :: _, [], h, _ => by simp at h
  | a :: u, b :: v, hl, h => by
    rw [List.cons_append, List.cons_append]
    rcases List.cons_lt_cons_iff.mp h with h | ⟨e, h⟩
    · exact List.cons_lt_cons_iff.mpr (.inl h)
    · exact List.cons_lt_cons_iff.mpr (.inr ⟨e, lt_app (by simpa using hl) h⟩)
theorem app_lt {a b : Int} (h : a < b) : ∀ w : List Int, w ++ [a] < w ++ [b]
  | [] => List.cons_lt_cons_iff.mpr (.inl h)
  | x :: w => List.cons_lt_cons_iff.mpr (.inr ⟨rfl, app_lt h w⟩)
theorem all_sorted (hp : 0 < p) : ∀ n : Nat, (allR p n).Pairwise (· < ·)
  | 0 => List.pairwise_singleton _ _
  | n + 1 => by
    rw [allR, List.pairwise_flatMap]
    refine ⟨fun w _ => ?_, (List.Pairwise.and_mem.mp (all_sorted hp n)).imp fun {u v} ⟨hu, hv, h⟩ x hx y hy => ?_⟩
    · rw [List.pairwise_map]
      refine List.pairwise_lt_range.imp fun h => app_lt (by omega) w
    · obtain ⟨a, _, rfl⟩ := List.mem_map.mp hx
      obtain ⟨b, _, rfl⟩ := List.mem_map.mp hy
      exact lt_app (by rw [((mem_all hp).mp hu).1, ((mem_all hp).mp hv).1]) h
/-- the rows of a table, in order, are those that a test finds among all -/
theorem lspanS_filter (P : Pr p) {S : List (List Int)} (hS : AllV p n S) (f : List Int → Bool) (h : ∀ v, Vr p n v → (Spn p n S v ↔ f v = true)) : lspanS p n S = (allR p n).filter f := by
  have hs := (all_sorted P.pos n).filter f
  have hn : ((allR p n).filter f).Nodup := hs.imp fun {a b} hab e => by rw [e] at hab; exact List.lt_irrefl _ hab
  have hp : (lspan p n S).Perm ((allR p n).filter f) := by
    rw [List.perm_ext_iff_of_nodup (lspan_nodup P hS) hn]
    intro v
    rw [lspan_iff P hS, List.mem_filter, mem_all P.pos]
    exact ⟨fun k => have hv := k.vr P.pos hS; ⟨hv, (h v hv).mp k⟩, fun ⟨hv, k⟩ => (h v hv).mpr k⟩
  unfold lspanS
  rw [sort_perm hp]
  exact List.mergeSort_of_pairwise (hs.imp fun {a b} hab => decide_eq_true (List.le_of_lt hab))
/-! columns -/
def colR (rs : List (List Int)) (n : Nat) : List (List Int) := (List.range n).map fun j => rs.map fun r => atR r j
theorem col_vr {rs : List (List Int)} (hv : AllV p n rs) {j : Nat} (hj : j < n) : Vr p rs.length (rs.map fun r => atR r j) := by
  refine ⟨List.length_map _, fun x hx => ?_⟩
  obtain ⟨r, hr, rfl⟩ := List.mem_map.mp hx
  exact (hv r hr).at hj
theorem colR_vr {rs : List (List Int)} (hv : AllV p n rs) : AllV p rs.length (colR rs n) := fun c hc => by
  obtain ⟨j, hj, rfl⟩ := List.mem_map.mp hc
  exact col_vr hv (List.mem_range.mp hj)
theorem col_at {rs : List (List Int)} {j a : Nat} (ha : a < rs.length) : atR (rs.map fun r => atR r j) a = atR (rs.getD a []) j := by
  unfold atR
  rw [List.getD_eq_getElem?_getD, List.getElem?_map, List.getElem?_eq_getElem ha, List.getD_eq_getElem?_getD (l := rs), List.getElem?_eq_getElem ha]
  rfl
theorem map_at {r : List Int} (h : r.length = n) : (List.range n).map (fun j => atR r j) = r := by
  rw [← h]
  exact map_range _ r fun i x hx => getD_some hx
theorem col_col {rs : List (List Int)} (hv : AllV p n rs) : colR (colR rs n) rs.length = rs := by
  unfold colR
  refine map_range _ rs fun i r hr => ?_
  have hi := (List.getElem?_eq_some_iff.mp hr).1
  rw [List.map_map]
  refine Eq.trans (List.map_congr_left fun j _ => ?_) (map_at (hv r (List.mem_of_getElem? hr)).1)
  show atR (rs.map fun r => atR r j) i = atR r j
  rw [col_at hi, getD_some hr]
/-- the sum of the multiples -/
def totI (p : Int) (n : Nat) (rs : List (List Int)) (w : List Int) : Nat → List Int
  | 0 => zeroR n
  | k + 1 => addR p (totI p n rs w k) (scR p (rs.getD k []) (atR w k))
def totR (p : Int) (n : Nat) (rs : List (List Int)) (w : List Int) : List Int := totI p n rs w rs.length
theorem getD_vr {rs : List (List Int)} (hv : AllV p n rs) {k : Nat} (hk : k < rs.length) : Vr p n (rs.getD k []) := by
  rw [getD_some (List.getElem?_eq_getElem hk)]
  exact hv _ (List.getElem_mem hk)
theorem totI_vr (hp : 0 < p) {rs : List (List Int)} (hv : AllV p n rs) (w : List Int) : ∀ k, k ≤ rs.length → Vr p n (totI p n rs w k)
  | 0, _ => zeroR_vr hp n
  | k + 1, h => addR_vr hp (totI_vr hp hv w k (by omega)) (scR_vr hp (getD_vr hv (by omega)).1 _)
theorem totI_at (hp : 0 < p) {rs : List (List Int)} (hv : AllV p n rs) (w : List Int) {j : Nat} (hj : j < n) : ∀ k, k ≤ rs.length → atR (totI p n rs w k) j = sumN (fun i => atR w i * atR (rs.getD i []) j) k % p
  | 0, _ => by rw [totI, atR_zero, sumN, Int.zero_emod]
  | k + 1, h => by
    have h1 := totI_vr hp hv w k (by omega)
    have h2 := getD_vr hv (show k < rs.length by omega)
    have h3 := scR_vr hp h2.1 (atR w k)
    rw [totI, atR_add (by rw [h1.1]; exact hj) (by rw [h3.1]; exact hj), atR_sc (by rw [h2.1]; exact hj), totI_at hp hv w hj k (by omega), ← Int.add_emod]
    rfl
theorem totR_zero (hp : 0 < p) {rs : List (List Int)} (hv : AllV p n rs) (w : List Int) : totR p n rs w = zeroR n ↔ ∀ c ∈ colR rs n, Orth p rs.length c w := by
  have key : ∀ j, j < n → (atR (totR p n rs w) j = dotN rs.length (rs.map fun r => atR r j) w % p) := fun j hj => by
    rw [totR, totI_at hp hv w hj _ (Nat.le_refl _)]
    refine congrArg (· % p) (sumN_congr fun i hi => ?_)
    rw [col_at hi, Int.mul_comm]
  constructor
  · intro h c hc
    obtain ⟨j, hj, rfl⟩ := List.mem_map.mp hc
    have := key j (List.mem_range.mp hj)
    rw [h, atR_zero] at this
    exact this.symm
  · intro h
    refine ext_at (totI_vr hp hv w _ (Nat.le_refl _)) (zeroR_vr hp n) fun j hj => ?_
    rw [atR_zero]
    exact (key j hj).trans (h _ (List.mem_map.mpr ⟨j, List.mem_range.mpr hj, rfl⟩))
/-! the columns of the pivots span the columns -/
def combL (p : Int) (n : Nat) : List (List Int) → List Int → List Int
  | [], _ => zeroR n
  | _ :: _, [] => zeroR n
  | r :: T, c :: cs => addR p (combL p n T cs) (scR p r c)
def zsum : List Int → List Int → Int
  | c :: cs, x :: xs => c * x + zsum cs xs
  | _, _ => 0
theorem zsum_comm : ∀ a b : List Int, zsum a b = zsum b a
  | [], [] => rfl
  | [], _ :: _ => rfl
  | _ :: _, [] => rfl
  | a :: as, b :: bs => by rw [zsum, zsum, zsum_comm as bs, Int.mul_comm]
theorem combL_vr (hp : 0 < p) : ∀ {T : List (List Int)} {cs : List Int}, AllV p n T → Vr p n (combL p n T cs)
  | [], _, _ => by rw [combL]; exact zeroR_vr hp n
  | _ :: _, [], _ => by rw [combL]; exact zeroR_vr hp n
  | r :: T, c :: cs, h => addR_vr hp (combL_vr hp h.tail) (scR_vr hp h.head.1 _)
theorem combL_spn (hp : 0 < p) : ∀ {T : List (List Int)} {cs : List Int}, AllV p n T → Spn p n T (combL p n T cs)
  | [], _, h => Spn.zero hp h
  | _ :: _, [], h => Spn.zero hp h
  | r :: T, c :: cs, h => ⟨c, _, combL_spn hp h.tail, rfl⟩
theorem combL_at (hp : 0 < p) {j : Nat} (hj : j < n) : ∀ {T : List (List Int)} {cs : List Int}, AllV p n T → atR (combL p n T cs) j = zsum cs (T.map fun r => atR r j) % p
  | [], [], _ => by rw [combL, atR_zero]; rfl
  | [], _ :: _, _ => by rw [combL, atR_zero]; rfl
  | _ :: _, [], _ => by rw [combL, atR_zero]; rfl
  | r :: T, c :: cs, h => by
    have h1 := combL_vr hp h.tail (cs := cs)
    have h2 := scR_vr hp h.head.1 c
    rw [combL, atR_add (by rw [h1.1]; exact hj) (by rw [h2.1]; exact hj), atR_sc (by rw [h.head.1]; exact hj), combL_at hp hj h.tail, ← Int.add_emod, List.map_cons, zsum, Int.add_comm]
theorem spn_comb (hp : 0 < p) : ∀ {T : List (List Int)} {ks : List Nat} {v : List Int}, AllV p n T → UniI n T ks → Spn p n T v → v = combL p n T (ks.map (atR v))
  | [], ks, v, _, _, h => by rw [combL]; exact h
  | r :: T, [], v, _, U, _ => by have := U.len; simp at this
  | r :: T, k :: ks, v, hT, U, ⟨c, w, hw, e⟩ => by
    have hr := hT.head
    have hwv := hw.vr hp hT.tail
    have hs := scR_vr hp hr.1 c
    have hkn := U.lt k (List.mem_cons_self ..)
    have at' : ∀ j, j < n → atR v j = (atR w j + c * atR r j) % p := fun j hj => by
      rw [e, atR_add (by rw [hwv.1]; exact hj) (by rw [hs.1]; exact hj), atR_sc (by rw [hr.1]; exact hj), Int.add_emod_emod]
    have hk : atR v k = c % p := by
      rw [at' k hkn, Spn.at0 hp hT.tail hkn U.tail_head hw, U.one 0 r k rfl rfl, Int.mul_one, Int.zero_add]
    have hks : ks.map (atR v) = ks.map (atR w) := List.map_congr_left fun j hj => by
      have hjn := U.lt j (List.mem_cons_of_mem _ hj)
      have hb := hwv.at hjn
      rw [at' j hjn, U.head_tail j hj, Int.mul_zero, Int.add_zero, emod_small hb.1 hb.2]
    rw [List.map_cons, combL, hk, la_sc_mod hp hr, hks, ← spn_comb hp hT.tail U.tail hw]
    exact e
theorem rank_le (P : Pr p) {rs : List (List Int)} (hv : AllV p n rs) : (redT p rs.length (colR rs n)).length ≤ (redT p n rs).length := by
  have F := red_form P hv
  have hC := colR_vr hv
  have hS : AllV p rs.length ((redP p n rs).map fun k => rs.map fun r => atR r k) := fun c hc => by
    obtain ⟨k, hk, rfl⟩ := List.mem_map.mp hc
    exact col_vr hv (F.lt k hk)
  have sub1 : ∀ c ∈ (redP p n rs).map (fun k => rs.map fun r => atR r k), Spn p rs.length (colR rs n) c := fun c hc => by
    obtain ⟨k, hk, rfl⟩ := List.mem_map.mp hc
    exact Spn.mem P.pos hC (List.mem_map.mpr ⟨k, List.mem_range.mpr (F.lt k hk), rfl⟩)
  have sub2 : ∀ c ∈ colR rs n, Spn p rs.length ((redP p n rs).map fun k => rs.map fun r => atR r k) c := fun c hc => by
    obtain ⟨j, hj, rfl⟩ := List.mem_map.mp hc
    have hj := List.mem_range.mp hj
    have e : rs.map (fun r => atR r j) = combL p rs.length ((redP p n rs).map fun k => rs.map fun r => atR r k) ((redT p n rs).map fun t => atR t j) := by
      refine ext_at (col_vr hv hj) (combL_vr P.pos hS) fun a ha => ?_
      have hr := getD_vr hv ha
      have hsp : Spn p n (redT p n rs) (rs.getD a []) := (red_span P hv _).mp (Spn.mem P.pos hv (by rw [getD_some (List.getElem?_eq_getElem ha)]; exact List.getElem_mem ha))
      have e1 := spn_comb P.pos F.vr (uni_form F) hsp
      have e2 := combL_at P.pos hj (cs := (redP p n rs).map (atR (rs.getD a []))) F.vr
      rw [← e1] at e2
      rw [combL_at P.pos ha hS, List.map_map, col_at ha, e2, zsum_comm]
      refine congrArg (fun z => zsum _ z % p) (List.map_congr_left fun k hk => ?_)
      show _ = atR (rs.map fun r => atR r k) a
      rw [col_at ha]
    rw [e]
    exact combL_spn P.pos hS
  have hspan : ∀ v, Spn p rs.length ((redP p n rs).map fun k => rs.map fun r => atR r k) v ↔ Spn p rs.length (colR rs n) v := fun v =>
    ⟨Spn.sub P.pos hS hC sub1 v, Spn.sub P.pos hC hS sub2 v⟩
  have h1 := red_len P hS
  rw [(red_idem P hC hS hspan).1, List.length_map] at h1
  have h2 := F.len
  omega
theorem rank_eq (P : Pr p) {rs : List (List Int)} (hv : AllV p n rs) : (redT p rs.length (colR rs n)).length = (redT p n rs).length := by
  refine Nat.le_antisymm (rank_le P hv) ?_
  have h := rank_le P (colR_vr hv)
  have hl : (colR rs n).length = n := by unfold colR; rw [List.length_map, List.length_range]
  rw [hl, col_col hv] at h
  exact h
theorem rel_len (P : Pr p) {rs : List (List Int)} (hv : AllV p n rs) : (kerR p rs.length (colR rs n)).length + (redT p n rs).length = rs.length := by
  rw [← rank_eq P hv]
  exact kerR_len P (colR_vr hv)
theorem rel_iff (P : Pr p) {rs : List (List Int)} (hv : AllV p n rs) {w : List Int} (hw : Vr p rs.length w) : Spn p rs.length (kerR p rs.length (colR rs n)) w ↔ totR p n rs w = zeroR n := by
  rw [kerR_iff P (colR_vr hv) hw, totR_zero P.pos hv]
end
/-! ### _law_all -/
theorem all_len {p : Int} : ∀ n : Nat, (allR p n).length = p.toNat ^ n
  | 0 => rfl
  | n + 1 => by rw [allR, flat_len (c := p.toNat) _ _ fun x _ => by rw [List.length_map, List.length_range], all_len n, Nat.pow_succ, Nat.mul_comm]
def spLAll (K : PySem.W.Frag) : Sp := fun vs H Q _ => ∃ (n : Nat) (p : Int), vs = [.int (n : Int), .int p] ∧ 2 ≤ p ∧ p ≤ 31 ∧ n ≤ 1000 ∧ p.toNat ^ n ≤ 2000 ∧
  ∀ l us H', Same H H' → H l = none → H' l = some (.lst us) → Paired (RS K H') us (allR p n) → Q (.ref l) H'
theorem ok_lall (T : Txt K mg) : FnOk P w K mg base CX0 1 T.a__law_all T.d__law_all ["n", "p"] (spLAll K) := by
  refine T.F__law_all.ok sc__law_all (fun vs H Q E h => ?_) (fun cdv A outer s H vs Q E hr h => ?_)
  · obtain ⟨n, p, rfl, _⟩ := h
    rfl
  · obtain ⟨n, p, rfl, h2, h31, hn, hpow, q⟩ := h
    have hlb : ∀ i, i ≤ n → (allR p i).length ≤ 2000 := fun i hi => by
      rw [all_len]
      exact Nat.le_trans (Nat.pow_le_pow_right (by omega) hi) hpow
    refine ⟨_, (pss_cons (ps_set (i := 2) sc__law_all.nd rfl (.inl rfl) (pe_lst (pa_cons (pe_tup pa_nil) pa_nil))) 
    (pss_cons (ps_for PassesOwn.never rfl (pi_range1 (by rfl) T.n_range (pa_cons (pv 0) pa_nil)) (pg_name (i := 3) sc__law_all.nd rfl (.inl rfl)) 
      (pss_cons (ps_set (i := 4) sc__law_all.nd rfl (.inl rfl) (pe_lst pa_nil)) 
      (pss_cons (ps_for PassesOwn.never rfl (pi_list (pv 2)) (pg_name (i := 5) sc__law_all.nd rfl (.inr rfl)) 
        (pss_one (ps_set (i := 4) sc__law_all.nd rfl (.inl rfl) (pe_op op_cat (pv 4) (pe_lc (own := [("a", 6)]) rfl sc__law_all.nd (pi_range1 (by rfl) T.n_range (pa_cons (pv 1) pa_nil)) (blkOk_by (N := N__law_all) (sc := defScope s__law_all) (own := [("a", 6)]) (by decide +kernel)) (fun _ _ _ _ _ => (pg_name (i := 6) sc__law_all.nd rfl (.inl rfl))) (fun _ _ _ _ _ => pts_nil) (fun _ _ _ _ _ => (pe_op (show OpR _ _ (rCatA K) from op_catA) (pv 5) (pe_tup (pa_cons (pv 6) pa_nil))))))))) 
      (pss_one (ps_set (i := 2) sc__law_all.nd rfl (.inl rfl) (pe_callTy call_list_of (by rfl) T.n_list (by decide +kernel) (pa_cons (pv 4) pa_nil))))))) 
    (pss_one (ps_ret (pv 2))))), ?_⟩
    refine ⟨Nat.zero_le _, fun t0 nt0 => ⟨by show 1 ≤ sizeLine; decide, fun fo nfo => ?_⟩⟩
    have s1 := same_new (o := .tup []) nt0
    have s2 := same_new (o := .lst [V.ref t0]) nfo
    refine ⟨_, rfl, (n : Int), rfl, by omega, by omega, ?_⟩
    refine for_range (lo := 0) (n := n) (fun i σ H' => ∃ (fo : Addr) (us : List V) (y3 y4 y5 : Option V), σ = [some (.int (n : Int)), some (.int p), some (.ref fo), y3, y4, y5, none] ∧ Same H H' ∧ H fo = none ∧ H' fo = some (.lst us) ∧ Paired (RS K H') us (allR p i))
      ⟨fo, [.ref t0], none, none, none, rfl, s1.trans s2, s1.free nfo, upd_same, .cons ⟨t0, rfl, .inl (.inl (s2 _ _ upd_same))⟩ .nil⟩ (fun i σ H' hi hPv => ?_) (fun σ H' hPv => ?_)
    · obtain ⟨fo, us, y3, y4, y5, rfl, sm, nfo, ef, hL⟩ := hPv
      have hlen := hlb i (by omega)
      refine ⟨Nat.zero_le _, fun lo nlo => ?_⟩
      have s3 := same_new (o := .lst []) nlo
      have ef1 := s3 _ _ ef
      refine ⟨_, rfl, fo, rfl, ⟨_, .inl (.inl ef1)⟩, for_list (xs := us) (fun j σ H3 => ∃ (lo : Addr) (ls : List V) (y5 : Option V), σ = [some (.int (n : Int)), some (.int p), some (.ref fo), some (.int ((0 : Int) + (i : Int))), some (.ref lo), y5, none] ∧ Same H' H3 ∧ H' lo = none ∧ H3 lo = some (.lst ls) ∧ Paired (RS K H3) ls (((allR p i).take j).flatMap fun w => (List.range p.toNat).map fun a : Nat => w ++ [(a : Int)]))
        ⟨lo, [], y5, rfl, s3, nlo, upd_same, .nil⟩ (fun j σ H3 _ ⟨_, _, _, _, sm3, _⟩ => .inl (.inl (sm3 _ _ ef))) ?_ ?_⟩
      · rintro j x2 σ H3 hj ⟨lo, ls, y5, rfl, sm3, nlo, elo, hls⟩
        obtain ⟨w, ew, hRw⟩ := paired_get hL hj
        have hRw := st_RS.same sm3 hRw
        refine ⟨_, rfl, _, rfl, p, rfl, by omega, by omega, fun D nD => ?_⟩
        refine lc_rep (walk_range (lo := 0) (n := p.toNat)) (st_RS (K := K)) (fun c => w ++ [(c : Int)]) (by omega) nD (fun H4 _ => trivial) (fun c x3 H4 H5 Q2 hc sm4 hY q2 => ?_) (fun H4 acc sm4 eD hPa => ?_)
        · obtain ⟨rfl, rfl⟩ := hY
          have e0 : ((0 : Int) + (c : Int)) = (c : Int) := by omega
          obtain ⟨t, rfl, ht⟩ := st_RS.same sm4 hRw
          refine ⟨rfl, _, rfl, _, rfl, by show 1 ≤ sizeLine; decide, fun t1 nt1 => ?_⟩
          have s4 := same_new (o := .tup [V.int ((0 : Int) + (c : Int))]) nt1
          refine ⟨t, t1, w.map V.int, [V.int ((0 : Int) + (c : Int))], rfl, rfl, Own.same_tup s4 ht, .inl (.inl upd_same), by rw [List.length_map, ((mem_all (show 0 < p by omega)).mp (List.mem_of_getElem? ew)).1]; exact Nat.le_of_lt (small2000 (by show i + 1 ≤ 100000; omega)), fun h0 => ?_, (fun _ h => by cases h), fun h0 _ t2 nt2 => ?_⟩
          · have hw : w = [] := by
              cases w with
              | nil => rfl
              | cons a b => cases h0
            subst hw
            refine q2 _ _ s4 ⟨t1, rfl, .inl (.inl ?_)⟩
            rw [upd_same]
            show some (HO.tup [V.int ((0 : Int) + (c : Int))]) = _
            rw [e0]
            rfl
          · refine q2 _ _ (s4.trans (same_new nt2)) ⟨t2, rfl, .inl (.inl ?_)⟩
            rw [upd_same, e0, List.map_append]
            rfl
        · have elo4 := sm4 _ _ elo
          have hlj : ls.length ≤ 70000 := by
            rw [Paired.length hls, flat_len (c := p.toNat) _ _ fun x _ => by rw [List.length_map, List.length_range]]
            have h1 : ((allR p i).take j).length ≤ 2000 := by rw [List.length_take]; omega
            exact Nat.le_trans (Nat.mul_le_mul (show p.toNat ≤ 31 by omega) h1) (by decide)
          have hac : acc.length = p.toNat := by rw [Paired.length hPa, List.length_map, List.length_range]
          refine ⟨lo, D, _, _, rfl, rfl, elo4, eD, Nat.le_of_lt (small2000 (by rw [hac]; omega)), fun u nu => ?_⟩
          refine ⟨u, ls ++ acc, _, rfl, sm3.trans (sm4.trans (same_new nu)), (sm3.trans sm4).free nu, upd_same, ?_⟩
          rw [List.take_add_one, ew, List.flatMap_append]
          refine st_RS.all (same_new nu) (paired_app (st_RS.all sm4 hls) ?_)
          show Paired (RS K H4) acc ([w].flatMap fun w => (List.range p.toNat).map fun a : Nat => w ++ [(a : Int)])
          rw [List.flatMap_cons, List.flatMap_nil, List.append_nil]
          exact hPa
      · rintro σ H3 ⟨lo, ls, y5, rfl, sm3, nlo, elo, hls⟩
        rw [Paired.length hL, List.take_length] at hls
        refine ⟨_, rfl, lo, ls, rfl, .inl (.inl (.inl elo)), fun u nu => ?_⟩
        exact ⟨u, ls, _, _, _, rfl, sm.trans (sm3.trans (same_new nu)), (sm.trans sm3).free nu, upd_same, st_RS.all (same_new nu) hls⟩
    · obtain ⟨fo, us, y3, y4, y5, rfl, sm, nfo, ef, hL⟩ := hPv
      exact ⟨_, rfl, q fo us _ sm nfo ef hL⟩
/-! ### matrices -/
section
variable {p : Int} {n : Nat}
theorem totI_unit (hp : 0 < p) {rs : List (List Int)} (hv : AllV p n rs) {j : Nat} (hj : j < rs.length) : totR p n rs (unitR rs.length j) = rs.getD j [] := by
  have hr := getD_vr hv hj
  refine ext_at (totI_vr hp hv _ _ (Nat.le_refl _)) hr fun k hk => ?_
  rw [totR, totI_at hp hv _ hk _ (Nat.le_refl _), sumN_one (f := fun i => atR (unitR rs.length j) i * atR (rs.getD i []) k) hj fun i hi hij => by
    show (atR (unitR rs.length j) i * atR (rs.getD i []) k) % p = 0
    rw [unitR_at hi, if_neg hij, Int.zero_mul, Int.zero_emod]]
  show (atR (unitR rs.length j) j * atR (rs.getD j []) k) % p = _
  have hb := hr.at hk
  rw [unitR_at hj, if_pos rfl, Int.one_mul, emod_small hb.1 hb.2]
def idM (n : Nat) : List (List Int) := (List.range n).map fun j => unitR n j
theorem idM_len (n : Nat) : (idM n).length = n := by unfold idM; rw [List.length_map, List.length_range]
theorem idM_vr (h2 : 2 ≤ p) (n : Nat) : AllV p n (idM n) := fun r hr => by
  obtain ⟨j, _, rfl⟩ := List.mem_map.mp hr
  exact unitR_vr h2 n j
theorem idM_get {j : Nat} (h : j < n) : (idM n).getD j [] = unitR n j := by
  refine getD_some ?_
  unfold idM
  rw [List.getElem?_map, List.getElem?_range h]
  rfl
/-- the product of a row and a matrix, of two matrices -/
def mulM (p : Int) (n : Nat) (a b : List (List Int)) : List (List Int) := a.map fun r => totR p n b r
/-- square matrices -/
def Sqm (p : Int) (n : Nat) (a : List (List Int)) : Prop := a.length = n ∧ AllV p n a
theorem totR_vr (hp : 0 < p) {b : List (List Int)} (hb : AllV p n b) (r : List Int) : Vr p n (totR p n b r) := totI_vr hp hb r _ (Nat.le_refl _)
theorem mulM_sq (hp : 0 < p) {a b : List (List Int)} (ha : Sqm p n a) (hb : Sqm p n b) : Sqm p n (mulM p n a b) := by
  refine ⟨by unfold mulM; rw [List.length_map]; exact ha.1, fun r hr => ?_⟩
  obtain ⟨x, _, rfl⟩ := List.mem_map.mp hr
  exact totR_vr hp hb.2 x
theorem idM_sq (h2 : 2 ≤ p) (n : Nat) : Sqm p n (idM n) := ⟨idM_len n, idM_vr h2 n⟩
theorem totR_at (hp : 0 < p) {b : List (List Int)} (hb : Sqm p n b) (r : List Int) {j : Nat} (hj : j < n) : atR (totR p n b r) j = sumN (fun i => atR r i * atR (b.getD i []) j) n % p := by
  rw [totR, totI_at hp hb.2 r hj _ (Nat.le_refl _), hb.1]
theorem sumN_mod_in {f : Nat → Int} (n : Nat) : sumN (fun k => f k % p) n % p = sumN f n % p := sumN_mod fun k _ => Int.emod_emod_of_dvd _ (Int.dvd_refl p)
theorem sumN_swap (f : Nat → Nat → Int) (m : Nat) : ∀ n, sumN (fun i => sumN (fun j => f i j) m) n = sumN (fun j => sumN (fun i => f i j) n) m
  | 0 => by
    show (0 : Int) = sumN (fun _ => 0) m
    induction m with
    | zero => rfl
    | succ m ih => rw [sumN, ← ih]; rfl
  | n + 1 => by
    rw [sumN, sumN_swap f m n, ← sumN_add]
    rfl
/-- a row through two matrices -/
theorem tot_tot (hp : 0 < p) {b c : List (List Int)} (hb : Sqm p n b) (hc : Sqm p n c) (r : List Int) : totR p n c (totR p n b r) = totR p n (mulM p n b c) r := by
  have hbc := mulM_sq hp hb hc
  refine ext_at (totR_vr hp hc.2 _) (totR_vr hp hbc.2 _) fun j hj => ?_
  rw [totR_at hp hc _ hj, totR_at hp hbc _ hj]
  have e1 : sumN (fun i => atR (totR p n b r) i * atR (c.getD i []) j) n % p = sumN (fun i => sumN (fun k => atR r k * atR (b.getD k []) i * atR (c.getD i []) j) n) n % p := sumN_mod fun i hi => by
    rw [totR_at hp hb r hi, Int.mul_emod, Int.emod_emod_of_dvd _ (Int.dvd_refl p), ← Int.mul_emod, Int.mul_comm, ← sumN_mul]
    exact congrArg (· % p) (sumN_congr fun k _ => Int.mul_comm _ _)
  have e2 : sumN (fun i => atR r i * atR ((mulM p n b c).getD i []) j) n % p = sumN (fun k => sumN (fun i => atR r k * atR (b.getD k []) i * atR (c.getD i []) j) n) n % p := sumN_mod fun k hk => by
    have hg : (mulM p n b c).getD k [] = totR p n c (b.getD k []) := by
      have hk2 : k < b.length := by rw [hb.1]; exact hk
      refine getD_some ?_
      unfold mulM
      rw [List.getElem?_map, List.getElem?_eq_getElem hk2, getD_some (List.getElem?_eq_getElem hk2)]
      rfl
    rw [hg, totR_at hp hc _ hj, mm, ← sumN_mul]
    exact congrArg (· % p) (sumN_congr fun i _ => (Int.mul_assoc _ _ _).symm)
  rw [e1, e2, sumN_swap]
theorem mul_assoc' (hp : 0 < p) {a b c : List (List Int)} (hb : Sqm p n b) (hc : Sqm p n c) : mulM p n (mulM p n a b) c = mulM p n a (mulM p n b c) := by
  unfold mulM
  rw [List.map_map]
  exact List.map_congr_left fun r _ => tot_tot hp hb hc r
theorem tot_id (h2 : 2 ≤ p) {r : List Int} (hr : Vr p n r) : totR p n (idM n) r = r := by
  have hp : 0 < p := by omega
  refine ext_at (totR_vr hp (idM_vr h2 n) r) hr fun j hj => ?_
  have hb := hr.at hj
  rw [totR_at hp (idM_sq h2 n) r hj, sumN_one (f := fun i => atR r i * atR ((idM n).getD i []) j) hj fun i hi hij => by
    show (atR r i * atR ((idM n).getD i []) j) % p = 0
    rw [idM_get hi, unitR_at hj, if_neg (fun z => hij z.symm), Int.mul_zero, Int.zero_emod]]
  show (atR r j * atR ((idM n).getD j []) j) % p = _
  rw [idM_get hj, unitR_at hj, if_pos rfl, Int.mul_one, emod_small hb.1 hb.2]
theorem mul_id (h2 : 2 ≤ p) {a : List (List Int)} (ha : Sqm p n a) : mulM p n a (idM n) = a := by
  unfold mulM
  refine (List.map_congr_left fun r hr => tot_id h2 (ha.2 r hr)).trans ?_
  rw [List.map_id']
theorem id_mul (hp : 0 < p) {a : List (List Int)} (ha : Sqm p n a) : mulM p n (idM n) a = a := by
  unfold mulM idM
  rw [List.map_map]
  have h := range_map_get (fun r : List Int => r) [] a
  rw [List.map_id', ha.1] at h
  refine Eq.trans (List.map_congr_left fun j hj => ?_) h
  have hj := List.mem_range.mp hj
  have hu := totI_unit hp ha.2 (show j < a.length by rw [ha.1]; exact hj)
  rw [ha.1] at hu
  exact hu
/-- powers -/
def powM (p : Int) (n : Nat) (a : List (List Int)) : Nat → List (List Int)
  | 0 => idM n
  | k + 1 => mulM p n (powM p n a k) a
theorem powM_sq (h2 : 2 ≤ p) {a : List (List Int)} (ha : Sqm p n a) : ∀ k, Sqm p n (powM p n a k)
  | 0 => idM_sq h2 n
  | k + 1 => mulM_sq (by omega) (powM_sq h2 ha k) ha
theorem powM_add (h2 : 2 ≤ p) {a : List (List Int)} (ha : Sqm p n a) (j : Nat) : ∀ k, powM p n a (j + k) = mulM p n (powM p n a j) (powM p n a k)
  | 0 => (mul_id h2 (powM_sq h2 ha j)).symm
  | k + 1 => by
    show mulM p n (powM p n a (j + k)) a = mulM p n _ (mulM p n (powM p n a k) a)
    rw [powM_add h2 ha j k, mul_assoc' (by omega) (powM_sq h2 ha k) ha]
theorem powM_two (h2 : 2 ≤ p) {a : List (List Int)} (ha : Sqm p n a) : ∀ k, powM p n (mulM p n a a) k = powM p n a (2 * k)
  | 0 => rfl
  | k + 1 => by
    have h1 : powM p n a 1 = a := id_mul (by omega) ha
    have h3 : mulM p n a a = powM p n a 2 := by
      show _ = mulM p n (powM p n a 1) a
      rw [h1]
    show mulM p n (powM p n (mulM p n a a) k) (mulM p n a a) = powM p n a (2 * k + 2)
    rw [powM_two h2 ha k, powM_add h2 ha (2 * k) 2, h3]
/-! the inverse -/
theorem at_app {u v : List Int} {i : Nat} : atR (u ++ v) i = if i < u.length then atR u i else atR v (i - u.length) := by
  unfold atR
  rw [List.getD_eq_getElem?_getD, List.getD_eq_getElem?_getD, List.getD_eq_getElem?_getD]
  by_cases h : i < u.length
  · rw [if_pos h, List.getElem?_append_left h]
  · rw [if_neg h, List.getElem?_append_right (by omega)]
theorem app_vr {m : Nat} {u v : List Int} (hu : Vr p n u) (hv : Vr p m v) : Vr p (n + m) (u ++ v) :=
  ⟨by rw [List.length_append, hu.1, hv.1], fun x hx => (List.mem_append.mp hx).elim (hu.2 x) (hv.2 x)⟩
def wideM (n : Nat) (a : List (List Int)) : List (List Int) := (List.range n).map fun i => a.getD i [] ++ unitR n i
theorem wideM_get {a : List (List Int)} {i : Nat} (h : i < n) : (wideM n a)[i]? = some (a.getD i [] ++ unitR n i) := by
  unfold wideM
  rw [List.getElem?_map, List.getElem?_range h]
  rfl
theorem wideM_len (a : List (List Int)) : (wideM n a).length = n := by unfold wideM; rw [List.length_map, List.length_range]
theorem wideM_vr (h2 : 2 ≤ p) {a : List (List Int)} (ha : Sqm p n a) : AllV p (n + n) (wideM n a) := fun r hr => by
  obtain ⟨i, hi, rfl⟩ := List.mem_map.mp hr
  exact app_vr (getD_vr ha.2 (by rw [ha.1]; exact List.mem_range.mp hi)) (unitR_vr h2 n i)
theorem getD_len {a : List (List Int)} (ha : Sqm p n a) {i : Nat} (h : i < n) : (a.getD i []).length = n := (getD_vr ha.2 (by rw [ha.1]; exact h)).1
theorem wide_left {a : List (List Int)} (ha : Sqm p n a) {i j : Nat} (hi : i < n) (hj : j < n) : atR (a.getD i [] ++ unitR n i) j = atR (a.getD i []) j := by
  rw [at_app, getD_len ha hi, if_pos hj]
theorem wide_right {a : List (List Int)} (ha : Sqm p n a) {i j : Nat} (hi : i < n) (hj : j < n) : atR (a.getD i [] ++ unitR n i) (n + j) = if j = i then 1 else 0 := by
  rw [at_app, getD_len ha hi, if_neg (by omega), Nat.add_sub_cancel_left, unitR_at hj]
def shiftL (n : Nat) : List Nat := (List.range n).map fun i => n + i
theorem shift_get {i : Nat} (h : i < n) : (shiftL n)[i]? = some (n + i) := by
  unfold shiftL
  rw [List.getElem?_map, List.getElem?_range h]
  rfl
theorem shift_some {i k : Nat} (h : (shiftL n)[i]? = some k) : i < n ∧ k = n + i := by
  have hl := (List.getElem?_eq_some_iff.mp h).1
  unfold shiftL at hl
  rw [List.length_map, List.length_range] at hl
  rw [shift_get hl] at h
  exact ⟨hl, (Option.some.inj h).symm⟩
theorem wide_some {a : List (List Int)} {i : Nat} {r : List Int} (h : (wideM n a)[i]? = some r) : i < n ∧ r = a.getD i [] ++ unitR n i := by
  have hl := (List.getElem?_eq_some_iff.mp h).1
  rw [wideM_len] at hl
  rw [wideM_get hl] at h
  exact ⟨hl, (Option.some.inj h).symm⟩
theorem wide_uni {a : List (List Int)} (ha : Sqm p n a) : UniI (n + n) (wideM n a) (shiftL n) := by
  refine ⟨by unfold shiftL; rw [wideM_len, List.length_map, List.length_range], fun k hk => ?_, fun i r k h1 h2 => ?_, fun i r j k h1 h2 hij => ?_⟩
  · obtain ⟨i, hi⟩ := List.mem_iff_getElem?.mp hk
    have := shift_some hi
    omega
  · obtain ⟨hi, rfl⟩ := wide_some h1
    obtain ⟨_, rfl⟩ := shift_some h2
    rw [wide_right ha hi hi, if_pos rfl]
  · obtain ⟨hi, rfl⟩ := wide_some h1
    obtain ⟨hj, rfl⟩ := shift_some h2
    rw [wide_right ha hi hj, if_neg fun z => hij z.symm]
theorem zsum_range : ∀ (c : List Int) (k : Nat) (g : Nat → Int), c.length = k → zsum c ((List.range k).map g) = sumN (fun i => atR c i * g i) k := by
  intro c
  induction c with
  | nil =>
    intro k g hk
    cases k with
    | zero => rfl
    | succ k => simp at hk
  | cons x c ih =>
    intro k g hk
    cases k with
    | zero => simp at hk
    | succ k =>
      rw [List.range_succ_eq_map, List.map_cons, List.map_map, zsum, ih k _ (by simpa using hk)]
      have sh : ∀ (h : Nat → Int) (k : Nat), sumN h (k + 1) = h 0 + sumN (fun i => h (i + 1)) k := by
        intro h k
        induction k with
        | zero => simp [sumN]
        | succ k ih2 =>
          rw [sumN, ih2, sumN]
          omega
      rw [sh]
      rfl
theorem comb_sum (hp : 0 < p) {m : Nat} {R : List (List Int)} (hR : AllV p m R) {c : List Int} (hl : R.length = n) (hc : c.length = n) {j : Nat} (hj : j < m) : atR (combL p m R c) j = sumN (fun i => atR c i * atR (R.getD i []) j) n % p := by
  have h := range_map_get (fun r : List Int => atR r j) [] R
  rw [combL_at hp hj hR, ← h, hl, zsum_range c n _ hc]
theorem spn_some (hp : 0 < p) {m : Nat} : ∀ {R : List (List Int)} {v : List Int}, Spn p m R v → ∃ c : List Int, c.length = R.length ∧ v = combL p m R c
  | [], v, h => ⟨[], rfl, h⟩
  | r :: R, v, ⟨c, w, hw, e⟩ => by
    obtain ⟨cs, h1, h2⟩ := spn_some hp hw
    exact ⟨c :: cs, by rw [List.length_cons, h1]; rfl, by rw [combL, ← h2]; exact e⟩
theorem comb_tot (hp : 0 < p) {a : List (List Int)} (ha : Sqm p n a) {c : List Int} (hc : c.length = n) : combL p n a c = totR p n a c :=
  ext_at (combL_vr hp ha.2) (totR_vr hp ha.2 c) fun j hj => by rw [comb_sum hp ha.2 ha.1 hc hj, totR_at hp ha c hj]
theorem full_piv {ks : List Nat} (h : ks.Pairwise (· < ·)) (hl : ∀ k ∈ ks, k < n) (hn : ks.length = n) {i : Nat} (hi : i < n) : i ∈ ks := by
  have hf := free_len h hl
  have h0 : freeL n ks = [] := List.eq_nil_of_length_eq_zero (by omega)
  refine Decidable.byContradiction fun hno => ?_
  have := mem_free.mpr ⟨hi, hno⟩
  rw [h0] at this
  cases this
theorem full_span (P : Pr p) {a : List (List Int)} (ha : AllV p n a) (hf : (redT p n a).length = n) {v : List Int} (hv : Vr p n v) : Spn p n a v := by
  have F := red_form P ha
  obtain ⟨s, w, hs, hw, e, hz⟩ := uni_clear P.pos F.vr (uni_form F) hv
  have hw0 : w = zeroR n := ext_at hw (zeroR_vr P.pos n) fun i hi => by
    rw [atR_zero]
    exact hz i (full_piv F.inc F.lt (by rw [← F.len]; exact hf) hi)
  rw [e, hw0, zero_add' P.pos (hs.vr P.pos F.vr)]
  exact (red_span P ha s).mpr hs
theorem inc_id {ks : List Nat} (h : ks.Pairwise (· < ·)) (hn : ks.length = n) (hall : ∀ i, i < n → i ∈ ks) : ∀ i, i < n → ks[i]? = some i := by
  intro i
  induction i using Nat.strongRecOn with
  | ind i ih =>
    intro hi
    obtain ⟨x, hx⟩ : ∃ x, ks[i]? = some x := ⟨_, List.getElem?_eq_getElem (by omega)⟩
    obtain ⟨q, hq⟩ := List.mem_iff_getElem?.mp (hall i hi)
    have hqi : i ≤ q := by
      refine Nat.le_of_not_lt fun hlt => ?_
      rw [ih q hlt (by omega)] at hq
      have := Option.some.inj hq
      omega
    have h1 : x ≤ i := by
      rcases Nat.lt_or_eq_of_le hqi with h2 | h2
      · exact Nat.le_of_lt (inc_lt h h2 hx hq)
      · subst h2
        rw [hq] at hx
        exact Nat.le_of_eq (Option.some.inj hx).symm
    have h2 : i ≤ x := by
      cases i with
      | zero => exact Nat.zero_le x
      | succ m => exact inc_lt h (Nat.lt_succ_self m) (ih m (Nat.lt_succ_self m) (by omega)) hx
    rw [hx, Nat.le_antisymm h1 h2]
def invM (p : Int) (n : Nat) (a : List (List Int)) : List (List Int) := (redT p (n + n) (wideM n a)).map fun r => r.drop n
theorem at_drop {r : List Int} {j : Nat} : atR (r.drop n) j = atR r (n + j) := by
  unfold atR
  rw [List.getD_eq_getElem?_getD, List.getElem?_drop, ← List.getD_eq_getElem?_getD]
theorem drop_vr {r : List Int} (h : Vr p (n + n) r) : Vr p n (r.drop n) := ⟨by rw [List.length_drop, h.1]; omega, fun x hx => h.2 x (List.mem_of_mem_drop hx)⟩
structure InvFacts (p : Int) (n : Nat) (a : List (List Int)) : Prop where
  sq : Sqm p n (invM p n a)
  left : mulM p n (invM p n a) a = idM n
  right : mulM p n a (invM p n a) = idM n
theorem inv_facts (P : Pr p) {a : List (List Int)} (ha : Sqm p n a) (hf : (redT p n a).length = n) : InvFacts p n a := by
  have h2 := P.two
  have hp := P.pos
  have hW := wideM_vr h2 ha
  have U := wide_uni ha
  have F := red_form P hW
  have hsp := red_span P hW
  have l1 := red_len P hW
  have l2 := uni_len P hW F.vr U hsp
  rw [wideM_len] at l1 l2
  have hlen : (redT p (n + n) (wideM n a)).length = n := Nat.le_antisymm l1 l2
  have hunit : ∀ i, i < n → i ∈ redP p (n + n) (wideM n a) := fun i hi => by
    refine Decidable.byContradiction fun hno => ?_
    obtain ⟨c, hc, e⟩ := spn_some hp (full_span P ha.2 hf (unitR_vr h2 n i))
    rw [ha.1] at hc
    have hv := combL_spn hp hW (cs := c)
    have hl : ∀ j, j < n → atR (combL p (n + n) (wideM n a) c) j = atR (unitR n i) j := fun j hj => by
      rw [comb_sum hp hW (wideM_len a) hc (by omega), e, comb_sum hp ha.2 ha.1 hc hj]
      refine congrArg (· % p) (sumN_congr fun k hk => ?_)
      rw [getD_some (wideM_get hk), wide_left ha hk hj]
    have h0 := spn_lead hp F.vr F.lt (diag_of F) (show i < n + n by omega) ((hsp _).mp hv) (fun k hk hki => by
      rw [hl k (by omega), unitR_at (by omega), if_neg (by omega)]) hno
    rw [hl i hi, unitR_at hi, if_pos rfl] at h0
    exact absurd h0 (by decide)
  have hpl : (redP p (n + n) (wideM n a)).length = n := by rw [← F.len]; exact hlen
  have hid := inc_id F.inc hpl hunit
  generalize hT : redT p (n + n) (wideM n a) = T at *
  generalize hK : redP p (n + n) (wideM n a) = ks at *
  have hks : ks = List.range n := by
    refine List.ext_getElem? fun i => ?_
    by_cases hi : i < n
    · rw [hid i hi, List.getElem?_range hi]
    · rw [List.getElem?_eq_none (by omega), List.getElem?_eq_none (by rw [List.length_range]; omega)]
  have hTg : ∀ i, i < n → T[i]? = some (T.getD i []) := fun i hi => by
    rw [getD_some (List.getElem?_eq_getElem (show i < T.length by omega))]
    exact List.getElem?_eq_getElem (by omega)
  have hdel : ∀ i j, i < n → j < n → atR (T.getD i []) j = if j = i then 1 else 0 := fun i j hi hj => by
    by_cases h : j = i
    · subst h
      rw [if_pos rfl]
      exact F.one j _ j (hTg j hj) (hid j hj)
    · rw [if_neg h]
      exact F.zero i _ j j (hTg i hi) (hid j hj) fun z => h z.symm
  have sq : Sqm p n (T.map fun r => r.drop n) := ⟨by rw [List.length_map]; exact hlen, fun r hr => by
    obtain ⟨x, hx, rfl⟩ := List.mem_map.mp hr
    exact drop_vr (F.vr x hx)⟩
  have hBg : ∀ i, i < n → (T.map fun r => r.drop n).getD i [] = (T.getD i []).drop n := fun i hi => by
    refine getD_some ?_
    rw [List.getElem?_map, hTg i hi]
    rfl
  have mk : ∀ (x : List (List Int)) (y : List (List Int)), x.length = n → Sqm p n y → (∀ i, i < n → totR p n y (x.getD i []) = unitR n i) → mulM p n x y = idM n := fun x y hx hy h => by
    unfold mulM idM
    have hr := range_map_get (fun r => totR p n y r) [] x
    rw [← hr, hx]
    exact List.map_congr_left fun i hi => h i (List.mem_range.mp hi)
  have eI : invM p n a = T.map fun r => r.drop n := by unfold invM; rw [hT]
  suffices h : mulM p n (T.map fun r => r.drop n) a = idM n ∧ mulM p n a (T.map fun r => r.drop n) = idM n from ⟨by rw [eI]; exact sq, by rw [eI]; exact h.1, by rw [eI]; exact h.2⟩
  refine ⟨mk _ _ sq.1 ha fun i hi => ?_, mk _ _ ha.1 sq fun i hi => ?_⟩
  · rw [hBg i hi]
    have hTi := List.mem_of_getElem? (hTg i hi)
    have e := spn_comb hp hW U ((hsp _).mpr (Spn.mem hp F.vr hTi))
    refine ext_at (totR_vr hp ha.2 _) (unitR_vr h2 n i) fun j hj => ?_
    have e2 := congrArg (fun v => atR v j) e
    have hcl : ((shiftL n).map (atR (T.getD i []))).length = n := by unfold shiftL; rw [List.length_map, List.length_map, List.length_range]
    have e3 := comb_sum hp hW (wideM_len a) hcl (show j < n + n by omega)
    rw [totR_at hp ha _ hj, unitR_at hj, ← hdel i j hi hj, show atR (T.getD i []) j = _ from e2, e3]
    refine congrArg (· % p) (sumN_congr fun k hk => ?_)
    have e4 : atR ((shiftL n).map (atR (T.getD i []))) k = atR (T.getD i []) (n + k) := by
      have : ((shiftL n).map (atR (T.getD i [])))[k]? = some (atR (T.getD i []) (n + k)) := by rw [List.getElem?_map, shift_get hk]; rfl
      exact getD_some this
    rw [e4, at_drop, getD_some (wideM_get hk), wide_left ha hk hj]
  · have hWi := List.mem_of_getElem? (wideM_get (a := a) hi)
    have e := spn_comb hp F.vr (uni_form F) ((hsp _).mp (Spn.mem hp hW hWi))
    refine ext_at (totR_vr hp sq.2 _) (unitR_vr h2 n i) fun j hj => ?_
    have e2 := congrArg (fun v => atR v (n + j)) e
    have hcl : (ks.map (atR (a.getD i [] ++ unitR n i))).length = n := by rw [List.length_map]; exact hpl
    have e3 := comb_sum hp F.vr hlen hcl (show n + j < n + n by omega)
    rw [totR_at hp sq _ hj, unitR_at hj, ← wide_right ha hi hj, show atR (a.getD i [] ++ unitR n i) (n + j) = _ from e2, e3]
    refine congrArg (· % p) (sumN_congr fun k hk => ?_)
    have e4 : atR (ks.map (atR (a.getD i [] ++ unitR n i))) k = atR (a.getD i []) k := by
      have : (ks.map (atR (a.getD i [] ++ unitR n i)))[k]? = some (atR (a.getD i [] ++ unitR n i) k) := by rw [List.getElem?_map, hid k hk]; rfl
      rw [show atR (ks.map (atR (a.getD i [] ++ unitR n i))) k = _ from getD_some this, wide_left ha hi hk]
    rw [e4, hBg k hk, at_drop]
theorem plain_iff (P : Pr p) {a : List (List Int)} (ha : AllV p n a) : (lspan p n a).length = (allR p n).length ↔ (redT p n a).length = n := by
  have F := red_form P ha
  have h1 := lspan_uni P F.vr (uni_form F) _ (Nat.le_refl _)
  rw [List.take_length] at h1
  rw [lspan_same_len P ha F.vr (fun v => red_span P ha v), h1, all_len]
  exact ⟨fun h => Nat.le_antisymm (pow_len P (Nat.le_of_eq h)) (pow_len P (Nat.le_of_eq h.symm)), fun h => by rw [h]⟩
end
/-! ### is_integer -/
def IsI (K : PySem.W.Frag) (H : Hp) (x : V) (b : Bool) : Prop := ∃ (t : Value) (b1 b2 : Bool), TyX K H x t ∧ PySem.W.kitOne K t (.type "int") = some b1 ∧ PySem.W.kitOne K t (.type "bool") = some b2 ∧ b = (b1 && !b2) ∧ (b = true → ∃ i, x = .int i)
theorem isI_int {H : Hp} (i : Int) : IsI K H (.int i) true := ⟨_, true, false, .base (.int i), kit_ty (by decide +kernel), kit_ty (by decide +kernel), rfl, fun _ => ⟨i, rfl⟩⟩
theorem isI_bl {H : Hp} (b : Bool) : IsI K H (.bl b) false := ⟨_, true, true, .base (.bl b), kit_ty (by decide +kernel), kit_ty (by decide +kernel), rfl, fun h => Bool.noConfusion h⟩
theorem isI_non {H : Hp} : IsI K H .non false := ⟨_, false, false, .base .non, kit_ty (by decide +kernel), kit_ty (by decide +kernel), rfl, fun h => Bool.noConfusion h⟩
theorem isI_str {H : Hp} (s : Str) : IsI K H (.str s) false := ⟨_, false, false, .base (.str s), kit_ty (by decide +kernel), kit_ty (by decide +kernel), rfl, fun h => Bool.noConfusion h⟩
theorem isI_lst {H : Hp} {a : Addr} {xs : List V} (e : H a = some (.lst xs)) : IsI K H (.ref a) false := ⟨_, false, false, .base (.lst e), kit_ty (by decide +kernel), kit_ty (by decide +kernel), rfl, fun h => Bool.noConfusion h⟩
theorem isI_tup {H : Hp} {a : Addr} {xs : List V} (e : H a = some (.tup xs)) : IsI K H (.ref a) false := ⟨_, false, false, .base (.tup e), kit_ty (by decide +kernel), kit_ty (by decide +kernel), rfl, fun h => Bool.noConfusion h⟩
def spIsInt (K : PySem.W.Frag) : Sp := fun vs H Q _ => ∃ (x : V) (b : Bool), vs = [x] ∧ IsI K H x b ∧ Q (.bl b) H
theorem ok_isint (T : Txt K mg) : FnOk P w K mg base CX0 1 T.a_is_integer T.d_is_integer ["value"] (spIsInt K) := by
  refine T.F_is_integer.ok sc_is_integer (fun vs H Q E h => ?_) (fun cdv A outer s H vs Q E hr h => ?_)
  · obtain ⟨x, b, rfl, _⟩ := h
    rfl
  · obtain ⟨x, b, rfl, ⟨t, b1, b2, ty, k1, k2, rfl, _⟩, q⟩ := h
    refine ⟨_, (pss_one (ps_ret (pe_and (pe_callB call_isi (by rfl) T.n_isinstance (by decide +kernel) (pa_cons (pv 0) (pa_cons (pe_bltn (v := .ty "int") (by rfl) T.n_int (by decide +kernel) rfl) pa_nil))) (pe_one (pe_not (pe_callB call_isi (by rfl) T.n_isinstance (by decide +kernel) (pa_cons (pv 0) (pa_cons (pe_bltn (v := .ty "bool") (by rfl) T.n_bool (by decide +kernel) rfl) pa_nil)))))))), ?_⟩
    refine ⟨_, rfl, _, _, _, _, b1, rfl, .ty "int", ty, k1, b1, rfl, ?_⟩
    cases b1 with
    | true => exact iteT ⟨_, rfl, _, _, _, _, b2, rfl, .ty "bool", ty, k2, b2, rfl, q⟩
    | false => exact iteF q
/-! ### values of other forms; is_row, is_matrix -/
/-- a value; is it an integer; is it a tuple -/
inductive Kd (K : PySem.W.Frag) (H : Hp) : V → Bool → Bool → Prop
  | int (i : Int) : Kd K H (.int i) true false
  | bl (b : Bool) : Kd K H (.bl b) false false
  | non : Kd K H .non false false
  | str (s : Str) : Kd K H (.str s) false false
  | lst {a : Addr} {xs : List V} (e : H a = some (.lst xs)) : Kd K H (.ref a) false false
  | tup {a : Addr} {xs : List V} (e : SqT K H a xs) : Kd K H (.ref a) false true
theorem Kd.mono {H H' : Hp} {x : V} {i t : Bool} (e : Same H H') (h : Kd K H x i t) : Kd K H' x i t := by
  cases h with
  | int i => exact .int i
  | bl b => exact .bl b
  | non => exact .non
  | str s => exact .str s
  | lst h => exact .lst (e _ _ h)
  | tup h => exact .tup (Own.same_tup e h)
theorem ty_sqT {H : Hp} {a : Addr} {xs : List V} (h : SqT K H a xs) : TyX K H (.ref a) (.type "tuple") := by
  rcases h with (h | ⟨o, h⟩) | h
  · exact .base (.tup h)
  · exact .fTuple h
  · obtain ⟨o, its, k, h1, h2, _⟩ := h
    exact .kTuple h1 h2
theorem Kd.isI {H : Hp} {x : V} {i t : Bool} (h : Kd K H x i t) : IsI K H x i := by
  cases h with
  | int i => exact isI_int i
  | bl b => exact isI_bl b
  | non => exact isI_non
  | str s => exact isI_str s
  | lst h => exact isI_lst h
  | tup h => exact ⟨_, false, false, ty_sqT h, kit_ty (by decide +kernel), kit_ty (by decide +kernel), rfl, fun h => Bool.noConfusion h⟩
theorem Kd.isT {H : Hp} {x : V} {i t : Bool} (h : Kd K H x i t) : ∃ ty, TyX K H x ty ∧ PySem.W.kitOne K ty (.type "tuple") = some t := by
  cases h with
  | int i => exact ⟨_, .base (.int i), kit_ty (by decide +kernel)⟩
  | bl b => exact ⟨_, .base (.bl b), kit_ty (by decide +kernel)⟩
  | non => exact ⟨_, .base .non, kit_ty (by decide +kernel)⟩
  | str s => exact ⟨_, .base (.str s), kit_ty (by decide +kernel)⟩
  | lst h => exact ⟨_, .base (.lst h), kit_ty (by decide +kernel)⟩
  | tup h => exact ⟨_, ty_sqT h, kit_ty (by decide +kernel)⟩
/-- an item of a row -/
inductive ItV (K : PySem.W.Frag) (H : Hp) (p : Int) : V → Bool → Prop
  | int (i : Int) : ItV K H p (.int i) (decide (0 ≤ i) && decide (i < p))
  | oth {x : V} {t : Bool} (h : Kd K H x false t) : ItV K H p x false
theorem ItV.mono {H H' : Hp} {p : Int} {x : V} {b : Bool} (e : Same H H') (h : ItV K H p x b) : ItV K H' p x b := by
  cases h with
  | int i => exact .int i
  | oth h => exact .oth (h.mono e)
/-- what is_row says of a value -/
inductive RowV (K : PySem.W.Frag) (H : Hp) (p : Int) (n : Nat) : V → Bool → Prop
  | no {x : V} {i : Bool} (h : Kd K H x i false) : RowV K H p n x false
  | len {a : Addr} {xs : List V} (h : SqT K H a xs) (hl : xs.length ≠ n) : RowV K H p n (.ref a) false
  | yes {a : Addr} {xs : List V} {bs : List Bool} (h : SqT K H a xs) (hl : xs.length = n) (hb : Paired (ItV K H p) xs bs) : RowV K H p n (.ref a) (bs.all id)
theorem Paired.mono2 {α β : Type} {R S : α → β → Prop} (f : ∀ a b, R a b → S a b) : ∀ {xs : List α} {ys : List β}, Paired R xs ys → Paired S xs ys
  | _, _, .nil => .nil
  | _, _, .cons h t => .cons (f _ _ h) (Paired.mono2 f t)
theorem RowV.mono {H H' : Hp} {p : Int} {n : Nat} {x : V} {b : Bool} (e : Same H H') (h : RowV K H p n x b) : RowV K H' p n x b := by
  cases h with
  | no h => exact .no (h.mono e)
  | len h hl => exact .len (Own.same_tup e h) hl
  | yes h hl hb => exact .yes (Own.same_tup e h) hl (Paired.mono2 (fun _ _ k => k.mono e) hb)
inductive MatV (K : PySem.W.Frag) (H : Hp) (p : Int) (n : Nat) : V → Bool → Prop
  | no {x : V} {i : Bool} (h : Kd K H x i false) : MatV K H p n x false
  | len {a : Addr} {xs : List V} (h : SqT K H a xs) (hl : xs.length ≠ n) : MatV K H p n (.ref a) false
  | yes {a : Addr} {xs : List V} {bs : List Bool} (h : SqT K H a xs) (hl : xs.length = n) (hb : Paired (RowV K H p n) xs bs) : MatV K H p n (.ref a) (bs.all id)
def RB : Hp → V → Bool → Prop := fun _ v b => v = .bl b
theorem st_RB : Stable RB := ⟨fun _ h => h, fun _ h => h⟩
theorem bools_of {H : Hp} : ∀ {vs : List V} {bs : List Bool}, Paired (RB H) vs bs → vs = bs.map V.bl
  | _, _, .nil => rfl
  | _, _, @Paired.cons _ _ _ v b vs bs h t => by
    have e : v = .bl b := h
    rw [e, bools_of t]
    rfl
def spIsRow (K : PySem.W.Frag) : Sp := fun vs H Q _ => ∃ (x : V) (p : Int) (n : Nat) (b : Bool), vs = [x, .int p, .int (n : Int)] ∧ n ≤ 1000 ∧ RowV K H p n x b ∧ ∀ H', Same H H' → Q (.bl b) H'
theorem ok_isrow (T : Txt K mg) : FnOk P w K mg base CX0 2 T.a_is_row T.d_is_row ["value", "p", "n"] (spIsRow K) := by
  have G_is_integer : FnOk P w K mg base CX0 1 T.a_is_integer T.d_is_integer ["value"] (spIsInt K) := ok_isint T
  refine T.F_is_row.ok sc_is_row (fun vs H Q E h => ?_) (fun cdv A outer s H vs Q E hr h => ?_)
  · obtain ⟨x, p, n, b, rfl, _⟩ := h
    rfl
  · obtain ⟨x, p, n, b, rfl, hn, hR, q⟩ := h
    refine ⟨_, (pss_cons (ps_if (PW.pt (pw_or (pt_not (pt_val (pe_callB call_isi (by rfl) T.n_isinstance (by decide +kernel) (pa_cons (pv 0) (pa_cons (pe_bltn (v := .ty "tuple") (by rfl) T.n_tuple (by decide +kernel) rfl) pa_nil))))) (pw_or1 (pt_cmpR op_ne (pe_callB call_len_seq (by rfl) T.n_len (by decide +kernel) (pa_cons (pv 0) pa_nil)) (pv 2) (nomark _))))) 
      (pss_one (ps_ret pe_bl)) pss_nil) 
    (pss_one (ps_ret (pe_callB (cr_all rfl) (by rfl) T.n_all (by decide +kernel) (pa_cons (pe_lc (own := [("item", 3)]) rfl sc_is_row.nd (pi_tup (pv 0)) (blkOk_by (N := N_is_row) (sc := defScope s_is_row) (own := [("item", 3)]) (by decide +kernel)) (fun _ _ _ _ _ => (pg_name (i := 3) sc_is_row.nd rfl (.inl rfl))) (fun _ _ _ _ _ => pts_nil) (fun _ _ _ _ _ => (pe_and (pe_call G_is_integer (hr.mono (by decide)) (by rfl) T.g_is_integer T.F_is_integer.kp T.b_is_integer .nil pass0 (pa_cons (pv 3) pa_nil)) (pe_one (pe_chain op_le op_lt pe_int (pv 3) (pv 1)))))) pa_nil))))), ?_⟩
    have cs : (∃ i, Kd K H x i false ∧ b = false) ∨ ∃ a xs, x = .ref a ∧ SqT K H a xs ∧ ((xs.length ≠ n ∧ b = false) ∨ (xs.length = n ∧ ∃ bs, Paired (ItV K H p) xs bs ∧ b = bs.all id)) := by
      cases hR with
      | no h => exact .inl ⟨_, h, rfl⟩
      | len h hl => exact .inr ⟨_, _, rfl, h, .inl ⟨hl, rfl⟩⟩
      | yes h hl hb => exact .inr ⟨_, _, rfl, h, .inr ⟨hl, _, hb, rfl⟩⟩
    rcases cs with ⟨i, hk, rfl⟩ | ⟨a, xs, rfl, hS, cs⟩
    · obtain ⟨ty, hty, hkit⟩ := hk.isT
      exact ⟨_, rfl, _, _, _, _, false, rfl, .ty "tuple", hty, hkit, false, rfl, iteT (q H (Same.refl H))⟩
    · obtain ⟨ty, hty, hkit⟩ := (Kd.tup hS).isT
      refine ⟨_, rfl, _, _, _, _, true, rfl, .ty "tuple", hty, hkit, true, rfl, iteF ?_⟩
      refine ⟨_, rfl, a, xs, rfl, .inr hS, _, rfl, rfl, _, rfl, ?_⟩
      rcases cs with ⟨hl, rfl⟩ | ⟨hl, bs, hb, rfl⟩
      · exact iteA (bl_ne (by omega)) (q H (Same.refl H))
      · refine iteB (not_dec (congrArg V.int (by rw [hl]))) ?_
        refine ⟨_, rfl, a, rfl, ⟨_, hS⟩, fun D nD => ?_⟩
        refine lc_rep (walk_tup (xs := xs)) st_RB (fun i => bs.getD i false) (by omega) nD (fun H2 sm => Own.same_tup sm hS) (fun i x H2 H3 Q2 hi sm hY q2 => ?_) (fun H2 acc sm eD hP => ?_)
        · obtain ⟨rfl, hx⟩ := hY
          obtain ⟨bb, eb, hI⟩ := paired_get hb hx
          have hI := hI.mono sm
          have eg : bs.getD i false = bb := getD_some eb
          rw [eg] at q2
          refine ⟨rfl, ?_⟩
          cases hI with
          | int k =>
            refine ⟨_, rfl, .int k, true, rfl, isI_int k, true, rfl, iteA rfl ?_⟩
            refine ⟨_, rfl, _, _, rfl, rfl, _, rfl, ?_⟩
            by_cases h0 : 0 ≤ k
            · refine iteA (decide_eq_true h0) ⟨_, rfl, _, _, rfl, rfl, q2 _ _ (Same.refl _) ?_⟩
              show V.bl _ = V.bl _
              rw [decide_eq_true h0, Bool.true_and]
            · refine iteB (decide_eq_false h0) (q2 _ _ (Same.refl _) ?_)
              show V.bl _ = V.bl _
              rw [decide_eq_false h0, Bool.false_and]
          | oth h => exact ⟨_, rfl, x, false, rfl, h.isI, false, rfl, iteB rfl (q2 _ _ (Same.refl _) rfl)⟩
        · have e := bools_of hP
          have e2 := range_map_get (fun b : Bool => b) false bs
          rw [List.map_id', ← Paired.length hb] at e2
          rw [e2] at e
          subst e
          exact ⟨D, bs, rfl, .inl (.inl eD), q H2 sm⟩
def spIsMatrix (K : PySem.W.Frag) : Sp := fun vs H Q _ => ∃ (x : V) (p : Int) (n : Nat) (b : Bool), vs = [x, .int p, .int (n : Int)] ∧ n ≤ 1000 ∧ MatV K H p n x b ∧ ∀ H', Same H H' → Q (.bl b) H'
theorem ok_ismatrix (T : Txt K mg) : FnOk P w K mg base CX0 3 T.a_is_matrix T.d_is_matrix ["value", "p", "n"] (spIsMatrix K) := by
  have G_is_row : FnOk P w K mg base CX0 2 T.a_is_row T.d_is_row ["value", "p", "n"] (spIsRow K) := ok_isrow T
  refine T.F_is_matrix.ok sc_is_matrix (fun vs H Q E h => ?_) (fun cdv A outer s H vs Q E hr h => ?_)
  · obtain ⟨x, p, n, b, rfl, _⟩ := h
    rfl
  · obtain ⟨x, p, n, b, rfl, hn, hR, q⟩ := h
    refine ⟨_, (pss_cons (ps_if (PW.pt (pw_or (pt_not (pt_val (pe_callB call_isi (by rfl) T.n_isinstance (by decide +kernel) (pa_cons (pv 0) (pa_cons (pe_bltn (v := .ty "tuple") (by rfl) T.n_tuple (by decide +kernel) rfl) pa_nil))))) (pw_or1 (pt_cmpR op_ne (pe_callB call_len_seq (by rfl) T.n_len (by decide +kernel) (pa_cons (pv 0) pa_nil)) (pv 2) (nomark _))))) 
      (pss_one (ps_ret pe_bl)) pss_nil) 
    (pss_one (ps_ret (pe_callB (cr_all rfl) (by rfl) T.n_all (by decide +kernel) (pa_cons (pe_lc (own := [("row", 3)]) rfl sc_is_matrix.nd (pi_tup (pv 0)) (blkOk_by (N := N_is_matrix) (sc := defScope s_is_matrix) (own := [("row", 3)]) (by decide +kernel)) (fun _ _ _ _ _ => (pg_name (i := 3) sc_is_matrix.nd rfl (.inl rfl))) (fun _ _ _ _ _ => pts_nil) (fun _ _ _ _ _ => (pe_call G_is_row (hr.mono (by decide)) (by rfl) T.g_is_row T.F_is_row.kp T.b_is_row .nil pass0 (pa_cons (pv 3) (pa_cons (pv 1) (pa_cons (pv 2) pa_nil)))))) pa_nil))))), ?_⟩
    have cs : (∃ i, Kd K H x i false ∧ b = false) ∨ ∃ a xs, x = .ref a ∧ SqT K H a xs ∧ ((xs.length ≠ n ∧ b = false) ∨ (xs.length = n ∧ ∃ bs, Paired (RowV K H p n) xs bs ∧ b = bs.all id)) := by
      cases hR with
      | no h => exact .inl ⟨_, h, rfl⟩
      | len h hl => exact .inr ⟨_, _, rfl, h, .inl ⟨hl, rfl⟩⟩
      | yes h hl hb => exact .inr ⟨_, _, rfl, h, .inr ⟨hl, _, hb, rfl⟩⟩
    rcases cs with ⟨i, hk, rfl⟩ | ⟨a, xs, rfl, hS, cs⟩
    · obtain ⟨ty, hty, hkit⟩ := hk.isT
      exact ⟨_, rfl, _, _, _, _, false, rfl, .ty "tuple", hty, hkit, false, rfl, iteT (q H (Same.refl H))⟩
    · obtain ⟨ty, hty, hkit⟩ := (Kd.tup hS).isT
      refine ⟨_, rfl, _, _, _, _, true, rfl, .ty "tuple", hty, hkit, true, rfl, iteF ?_⟩
      refine ⟨_, rfl, a, xs, rfl, .inr hS, _, rfl, rfl, _, rfl, ?_⟩
      rcases cs with ⟨hl, rfl⟩ | ⟨hl, bs, hb, rfl⟩
      · exact iteA (bl_ne (by omega)) (q H (Same.refl H))
      · refine iteB (not_dec (congrArg V.int (by rw [hl]))) ?_
        refine ⟨_, rfl, a, rfl, ⟨_, hS⟩, fun D nD => ?_⟩
        refine lc_rep (walk_tup (xs := xs)) st_RB (fun i => bs.getD i false) (by omega) nD (fun H2 sm => Own.same_tup sm hS) (fun i x H2 H3 Q2 hi sm hY q2 => ?_) (fun H2 acc sm eD hP => ?_)
        · obtain ⟨rfl, hx⟩ := hY
          obtain ⟨bb, eb, hI⟩ := paired_get hb hx
          have eg : bs.getD i false = bb := getD_some eb
          rw [eg] at q2
          exact ⟨rfl, _, rfl, _, rfl, _, rfl, x, p, n, bb, rfl, hn, hI.mono sm, fun H4 sm4 => q2 _ _ sm4 rfl⟩
        · have e := bools_of hP
          have e2 := range_map_get (fun b : Bool => b) false bs
          rw [List.map_id', ← Paired.length hb] at e2
          rw [e2] at e
          subst e
          exact ⟨D, bs, rfl, .inl (.inl eD), q H2 sm⟩
/-! ### _unit -/
def rTupF (K : PySem.W.Frag) : List V → Hp → VK → Prop := fun xs H Q => ∃ p ys, xs = [.ref p] ∧ SqL K H p ys ∧ ∀ (l : Addr) (ob : Obj), H l = none → ob.dict = none → Q (.ref l) (upd H l (.frz ob (.tup ys)))
theorem call_tupF {X : Cx} : CallR X (.type "tuple") (rTupF X.K) := Own.call_tuple_ofF
def spUnit : Sp := fun vs H Q _ => ∃ (n a : Nat), vs = [.int (n : Int), .int (a : Int)] ∧ n ≤ 1000 ∧ RetR H Q (unitR n a)
theorem ok_unit (T : Txt K mg) : FnOk P w K mg base CX0 1 T.a__unit T.d__unit ["n", "at"] spUnit := by
  refine T.F__unit.ok sc__unit (fun vs H Q E h => ?_) (fun cdv A outer s H vs Q E hr h => ?_)
  · obtain ⟨n, a, rfl, _⟩ := h
    rfl
  · obtain ⟨n, a, rfl, hn, q⟩ := h
    refine ⟨_, (pss_one (ps_ret (pe_callTy Own.call_tuple_ofF (by rfl) T.n_tuple (by decide +kernel) (pa_cons (pe_lc (own := [("place", 2)]) rfl sc__unit.nd (pi_range1 (by rfl) T.n_range (pa_cons (pv 0) pa_nil)) (blkOk_by (N := N__unit) (sc := defScope s__unit) (own := [("place", 2)]) (by decide +kernel)) (fun _ _ _ _ _ => (pg_name (i := 2) sc__unit.nd rfl (.inl rfl))) (fun _ _ _ _ _ => pts_nil) (fun _ _ _ _ _ => (pe_ifExp (pt_cmpR op_eq (pv 2) (pv 1) (nomark _)) pe_int pe_int))) pa_nil)))), ?_⟩
    refine ⟨_, rfl, (n : Int), rfl, by omega, by omega, fun D nD => ?_⟩
    refine lc_rep (walk_range (lo := 0) (n := n)) st_RI (fun k => if k = a then 1 else 0) (by omega) nD (fun H2 sm => trivial) (fun i x H2 H3 Q2 hi sm hY q2 => ?_) (fun H2 acc sm eD hP => ?_)
    · obtain ⟨rfl, rfl⟩ := hY
      refine ⟨rfl, _, rfl, _, rfl, rfl, _, rfl, ite2 (fun c => ?_) (fun c => ?_)⟩
      · have c1 : (0 : Int) + (i : Int) = (a : Int) := V.int.inj (of_decide_eq_true c)
        exact q2 _ _ (Same.refl _) (by show V.int 1 = V.int (if i = a then 1 else 0); rw [if_pos (by omega)])
      · have c1 : ¬ i = a := fun z => c (decide_eq_true (congrArg V.int (by omega)))
        exact q2 _ _ (Same.refl _) (by show V.int 0 = V.int (if i = a then 1 else 0); rw [if_neg c1])
    · have e := ints_of hP
      subst e
      exact ⟨D, _, rfl, .inl (.inl eD), fun u ob nu hob => q _ _ (sm.trans (same_new nu)) ⟨u, rfl, ob, hob, upd_same⟩⟩
/-! ### combine, identity, moved, times, matrix_power, is_invertible -/
def RetS (K : PySem.W.Frag) (H : Hp) (Q : VK) (r : List Int) : Prop := ∀ v H', Same H H' → RS K H' v r → Q v H'
/-- a tuple of rows, tracked -/
def MatAt (K : PySem.W.Frag) (H : Hp) (t : Addr) (M : List (List Int)) : Prop := ∃ us, SqT K H t us ∧ Paired (RS K H) us M
theorem MatAt.mono {H H' : Hp} {t : Addr} {M : List (List Int)} (e : Same H H') (h : MatAt K H t M) : MatAt K H' t M := by
  obtain ⟨us, h1, h2⟩ := h
  exact ⟨us, Own.same_tup e h1, st_RS.all e h2⟩
def spCombine (K : PySem.W.Frag) : Sp := fun vs H Q _ => ∃ (a b : Addr) (n : Nat) (p : Int) (rs : List (List Int)) (w : List Int), vs = [.ref a, .ref b, .int (n : Int), .int p] ∧ MatAt K H a rs ∧ SqT K H b (w.map V.int) ∧ w.length = rs.length ∧ 0 < p ∧ p ≤ 31 ∧ n ≤ 1000 ∧ rs.length ≤ 1000 ∧ AllV p n rs ∧ Sm w ∧ RetS K H Q (totR p n rs w)
theorem ok_combine (T : Txt K mg) : FnOk P w K mg base CX0 2 T.a_combine T.d_combine ["rows", "weights", "width", "p"] (spCombine K) := by
  have G_add : FnOk P w K mg base CX0 1 T.a_add T.d_add ["v", "w", "p"] (spAdd K) := ok_add T
  have G_scaled : FnOk P w K mg base CX0 1 T.a_scaled T.d_scaled ["v", "a", "p"] (spScaled K) := ok_scaled T
  have G__zeros : FnOk P w K mg base CX0 1 T.a__zeros T.d__zeros ["width"] spZeros := ok_zeros T
  refine T.F_combine.ok sc_combine (fun vs H Q E h => ?_) (fun cdv A outer s H vs Q E hr h => ?_)
  · obtain ⟨a, b, n, p, rs, w, rfl, _⟩ := h
    rfl
  · obtain ⟨a, b, n, p, rs, w, rfl, ⟨us, hS, hP⟩, hB, hwl, hp, h31, hn, hrl, hv, hsw, q⟩ := h
    refine ⟨_, (pss_cons (ps_set (i := 4) sc_combine.nd rfl (.inl rfl) (pe_call G__zeros (hr.mono (by decide)) (by rfl) T.g__zeros T.F__zeros.kp T.b__zeros .nil pass0 (pa_cons (pv 2) pa_nil))) 
    (pss_cons (ps_for PassesOwn.never rfl (RZ.pi_zipA (by rfl) T.n_zip (pa_cons (pv 0) (pa_cons (pv 1) pa_nil))) (pg_tup rfl (pgs_cons (pg_name (i := 5) sc_combine.nd rfl (.inl rfl)) (pgs_cons (pg_name (i := 6) sc_combine.nd rfl (.inl rfl)) pgs_nil))) 
      (pss_one (ps_set (i := 4) sc_combine.nd rfl (.inl rfl) (pe_call G_add (hr.mono (by decide)) (by rfl) T.g_add T.F_add.kp T.b_add .nil pass0 (pa_cons (pv 4) (pa_cons (pe_call G_scaled (hr.mono (by decide)) (by rfl) T.g_scaled T.F_scaled.kp T.b_scaled .nil pass0 (pa_cons (pv 5) (pa_cons (pv 6) (pa_cons (pv 3) pa_nil)))) (pa_cons (pv 3) pa_nil))))))) 
    (pss_one (ps_ret (pv 4))))), ?_⟩
    refine ⟨_, rfl, n, rfl, hn, fun z H1 sm1 ez => ?_⟩
    have hul := Paired.length hP
    refine ⟨_, rfl, _, rfl, a, b, us, w.map V.int, rfl, .inr ⟨Own.same_tup sm1 hS, Own.same_tup sm1 hB, ?_⟩⟩
    refine RZ.for_zipT (by rw [hul, List.length_map, hwl]) (fun i σ H' => ∃ (t : V) (y5 y6 : Option V), σ = [some (.ref a), some (.ref b), some (.int (n : Int)), some (.int p), some t, y5, y6] ∧ Same H H' ∧ RS K H' t (totI p n rs w i))
      ⟨.ref z, none, none, rfl, sm1, ⟨z, rfl, .inl (.inl ez)⟩⟩ (fun i σ H' ⟨_, _, _, _, sm, _⟩ => ⟨Own.same_tup sm hS, Own.same_tup sm hB⟩) (fun i x y tt σ H' hx hy hPv nT => ?_) (fun σ H' hPv => ?_)
    · obtain ⟨t, y5, y6, rfl, sm, hR⟩ := hPv
      obtain ⟨r, er, hRr⟩ := paired_get hP hx
      have hi : i < rs.length := (List.getElem?_eq_some_iff.mp er).1
      have ey : y = .int (atR w i) := by
        rw [List.getElem?_map, atR_get (by omega)] at hy
        exact (Option.some.inj hy).symm
      subst ey
      have hvr := hv r (List.mem_of_getElem? er)
      have htv := totI_vr hp hv w i (by omega)
      have s1 := same_new (o := .tup [x, .int (atR w i)]) nT
      refine ⟨tt, [x, .int (atR w i)], rfl, .inl (.inl upd_same), rfl, _, [.int (atR w i)], rfl, _, [], rfl, rfl, ?_⟩
      refine ⟨_, rfl, _, rfl, _, rfl, _, rfl, x, _, p, r, rfl, st_RS.same (sm.trans s1) hRr, hp, by rw [hvr.1]; exact hn, hsw _ (atR_mem (by omega)), hvr.sm h31, fun sv H2 sm2 hRs => ?_⟩
      have hsl := (scR_vr hp hvr.1 (atR w i)).1
      refine ⟨_, rfl, t, sv, p, _, _, rfl, st_RS.same (s1.trans sm2) hR, rs_of hRs, hp, by rw [htv.1]; exact hn, by rw [htv.1, hsl], fun tv H3 sm3 hRt => ?_⟩
      refine ⟨tv, _, _, rfl, sm.trans (s1.trans (sm2.trans sm3)), ?_⟩
      rw [totI, getD_some er]
      exact rs_of hRt
    · obtain ⟨t, y5, y6, rfl, sm, hR⟩ := hPv
      rw [hul] at hR
      exact ⟨_, rfl, q _ _ sm hR⟩
def spIdentity (K : PySem.W.Frag) : Sp := fun vs H Q _ => ∃ (n : Nat), vs = [.int (n : Int)] ∧ n ≤ 1000 ∧ ∀ t H', Same H H' → MatAt K H' t (idM n) → Q (.ref t) H'
theorem ok_identity (T : Txt K mg) : FnOk P w K mg base CX0 2 T.a_identity T.d_identity ["n"] (spIdentity K) := by
  have G__unit : FnOk P w K mg base CX0 1 T.a__unit T.d__unit ["n", "at"] spUnit := ok_unit T
  refine T.F_identity.ok sc_identity (fun vs H Q E h => ?_) (fun cdv A outer s H vs Q E hr h => ?_)
  · obtain ⟨n, rfl, _⟩ := h
    rfl
  · obtain ⟨n, rfl, hn, q⟩ := h
    refine ⟨_, (pss_one (ps_ret (pe_callTy call_tuple_of (by rfl) T.n_tuple (by decide +kernel) (pa_cons (pe_lc (own := [("at", 1)]) rfl sc_identity.nd (pi_range1 (by rfl) T.n_range (pa_cons (pv 0) pa_nil)) (blkOk_by (N := N_identity) (sc := defScope s_identity) (own := [("at", 1)]) (by decide +kernel)) (fun _ _ _ _ _ => (pg_name (i := 1) sc_identity.nd rfl (.inl rfl))) (fun _ _ _ _ _ => pts_nil) (fun _ _ _ _ _ => (pe_call G__unit (hr.mono (by decide)) (by rfl) T.g__unit T.F__unit.kp T.b__unit .nil pass0 (pa_cons (pv 0) (pa_cons (pv 1) pa_nil))))) pa_nil)))), ?_⟩
    refine ⟨_, rfl, (n : Int), rfl, by omega, by omega, fun D nD => ?_⟩
    refine lc_rep (walk_range (lo := 0) (n := n)) st_RR (fun j => unitR n j) (by omega) nD (fun H2 sm => trivial) (fun i x H2 H3 Q2 hi sm hY q2 => ?_) (fun H2 acc sm eD hP => ?_)
    · obtain ⟨rfl, rfl⟩ := hY
      have e0 : ((0 : Int) + (i : Int)) = (i : Int) := by omega
      refine ⟨rfl, _, rfl, _, rfl, n, i, by show [V.int (n : Int), V.int ((0 : Int) + (i : Int))] = _; rw [e0], hn, fun v H4 sm4 hR => q2 v H4 sm4 hR⟩
    · refine ⟨D, acc, rfl, .inl ⟨.inl (.inl eD), fun u nu => q u _ (sm.trans (same_new nu)) ⟨acc, .inl (.inl upd_same), rs_all (st_RR.all (same_new nu) hP)⟩⟩⟩
def spMoved (K : PySem.W.Frag) : Sp := fun vs H Q _ => ∃ (a b : Addr) (n : Nat) (p : Int) (B : List (List Int)) (v : List Int), vs = [.ref a, .ref b, .int p] ∧ SqT K H a (v.map V.int) ∧ MatAt K H b B ∧ v.length = n ∧ 0 < p ∧ p ≤ 31 ∧ n ≤ 1000 ∧ Sqm p n B ∧ Sm v ∧ RetS K H Q (totR p n B v)
theorem ok_moved (T : Txt K mg) : FnOk P w K mg base CX0 3 T.a_moved T.d_moved ["v", "matrix", "p"] (spMoved K) := by
  have G_combine : FnOk P w K mg base CX0 2 T.a_combine T.d_combine ["rows", "weights", "width", "p"] (spCombine K) := ok_combine T
  refine T.F_moved.ok sc_moved (fun vs H Q E h => ?_) (fun cdv A outer s H vs Q E hr h => ?_)
  · obtain ⟨a, b, n, p, B, v, rfl, _⟩ := h
    rfl
  · obtain ⟨a, b, n, p, B, v, rfl, hS, hB, hl, hp, h31, hn, hsq, hsv, q⟩ := h
    refine ⟨_, (pss_one (ps_ret (pe_call G_combine (hr.mono (by decide)) (by rfl) T.g_combine T.F_combine.kp T.b_combine .nil pass0 (pa_cons (pv 1) (pa_cons (pv 0) (pa_cons (pe_callB call_len_seq (by rfl) T.n_len (by decide +kernel) (pa_cons (pv 0) pa_nil)) (pa_cons (pv 2) pa_nil))))))), ?_⟩
    refine ⟨_, rfl, _, rfl, _, rfl, a, _, rfl, .inr hS, _, rfl, b, a, n, p, B, v, by rw [List.length_map, hl]; rfl, hB, hS, by rw [hl, hsq.1], hp, h31, hn, by rw [hsq.1]; exact hn, hsq.2, hsv, q⟩
def spTimes (K : PySem.W.Frag) : Sp := fun vs H Q _ => ∃ (a b : Addr) (n : Nat) (p : Int) (A B : List (List Int)), vs = [.ref a, .ref b, .int p] ∧ MatAt K H a A ∧ MatAt K H b B ∧ Sqm p n A ∧ Sqm p n B ∧ 0 < p ∧ p ≤ 31 ∧ n ≤ 1000 ∧
  ∀ t H', Same H H' → MatAt K H' t (mulM p n A B) → Q (.ref t) H'
theorem ok_times (T : Txt K mg) : FnOk P w K mg base CX0 4 T.a_times T.d_times ["one", "two", "p"] (spTimes K) := by
  have G_moved : FnOk P w K mg base CX0 3 T.a_moved T.d_moved ["v", "matrix", "p"] (spMoved K) := ok_moved T
  refine T.F_times.ok sc_times (fun vs H Q E h => ?_) (fun cdv A outer s H vs Q E hr h => ?_)
  · obtain ⟨a, b, n, p, A, B, rfl, _⟩ := h
    rfl
  · obtain ⟨a, b, n, p, M, N, rfl, ⟨us, hS, hP⟩, hB, sqM, sqN, hp, h31, hn, q⟩ := h
    refine ⟨_, (pss_one (ps_ret (pe_callTy call_tuple_of (by rfl) T.n_tuple (by decide +kernel) (pa_cons (pe_lc (own := [("row", 3)]) rfl sc_times.nd (pi_tup (pv 0)) (blkOk_by (N := N_times) (sc := defScope s_times) (own := [("row", 3)]) (by decide +kernel)) (fun _ _ _ _ _ => (pg_name (i := 3) sc_times.nd rfl (.inl rfl))) (fun _ _ _ _ _ => pts_nil) (fun _ _ _ _ _ => (pe_call G_moved (hr.mono (by decide)) (by rfl) T.g_moved T.F_moved.kp T.b_moved .nil pass0 (pa_cons (pv 3) (pa_cons (pv 1) (pa_cons (pv 2) pa_nil)))))) pa_nil)))), ?_⟩
    have hul := Paired.length hP
    refine ⟨_, rfl, a, rfl, ⟨_, hS⟩, fun D nD => ?_⟩
    refine lc_rep (walk_tup (xs := us)) (st_RS (K := K)) (fun i => totR p n N (M.getD i [])) (by rw [hul, sqM.1]; omega) nD (fun H2 sm => Own.same_tup sm hS) (fun i x H2 H3 Q2 hi sm hY q2 => ?_) (fun H2 acc sm eD hPa => ?_)
    · obtain ⟨rfl, hx⟩ := hY
      obtain ⟨r, er, t, rfl, ht⟩ := paired_get hP hx
      have hvr := sqM.2 r (List.mem_of_getElem? er)
      rw [getD_some er] at q2
      exact ⟨rfl, _, rfl, _, rfl, _, rfl, t, b, n, p, N, r, rfl, Own.same_tup sm ht, hB.mono sm, hvr.1, hp, h31, hn, sqN, hvr.sm h31, fun v H4 sm4 hR => q2 v H4 sm4 hR⟩
    · rw [hul, range_map_get (fun r => totR p n N r) [] M] at hPa
      refine ⟨D, acc, rfl, .inl ⟨.inl (.inl eD), fun u nu => q u _ (sm.trans (same_new nu)) ⟨acc, .inl (.inl upd_same), st_RS.all (same_new nu) hPa⟩⟩⟩
def spPow (K : PySem.W.Frag) : Sp := fun vs H Q _ => ∃ (a : Addr) (n k : Nat) (p : Int) (M : List (List Int)), vs = [.ref a, .int (k : Int), .int p] ∧ MatAt K H a M ∧ Sqm p n M ∧ 2 ≤ p ∧ p ≤ 31 ∧ n ≤ 1000 ∧
  ∀ t H', Same H H' → MatAt K H' t (powM p n M k) → Q (.ref t) H'
theorem ok_mpow (T : Txt K mg) : FnOk P w K mg base CX0 5 T.a_matrix_power T.d_matrix_power ["matrix", "k", "p"] (spPow K) := by
  have G_times : FnOk P w K mg base CX0 4 T.a_times T.d_times ["one", "two", "p"] (spTimes K) := ok_times T
  have G_identity : FnOk P w K mg base CX0 2 T.a_identity T.d_identity ["n"] (spIdentity K) := ok_identity T
  refine T.F_matrix_power.ok sc_matrix_power (fun vs H Q E h => ?_) (fun cdv A outer s H vs Q E hr h => ?_)
  · obtain ⟨a, n, k, p, M, rfl, _⟩ := h
    rfl
  · obtain ⟨a, n, k, p, M, rfl, hM, sq, h2, h31, hn, q⟩ := h
    have hp : 0 < p := by omega
    refine ⟨_, (pss_cons (ps_set (i := 3) sc_matrix_power.nd rfl (.inl rfl) (pe_call G_identity (hr.mono (by decide)) (by rfl) T.g_identity T.F_identity.kp T.b_identity .nil pass0 (pa_cons (pe_callB call_len_seq (by rfl) T.n_len (by decide +kernel) (pa_cons (pv 0) pa_nil)) pa_nil))) 
    (pss_cons (ps_while PassesOwn.never (pt_cmpR op_gt (pv 1) pe_int (nomark _)) 
      (pss_cons (ps_if (pt_truth (pe_op op_and (pv 1) pe_int) (by intro _; rfl)) 
        (pss_one (ps_set (i := 3) sc_matrix_power.nd rfl (.inl rfl) (pe_call G_times (hr.mono (by decide)) (by rfl) T.g_times T.F_times.kp T.b_times .nil pass0 (pa_cons (pv 3) (pa_cons (pv 0) (pa_cons (pv 2) pa_nil)))))) pss_nil) 
      (pss_cons (ps_set (i := 0) sc_matrix_power.nd rfl (.inl rfl) (pe_call G_times (hr.mono (by decide)) (by rfl) T.g_times T.F_times.kp T.b_times .nil pass0 (pa_cons (pv 0) (pa_cons (pv 0) (pa_cons (pv 2) pa_nil))))) 
      (pss_one (ps_set (i := 1) sc_matrix_power.nd rfl (.inl rfl) (pe_op op_shr (pv 1) pe_int)))))) 
    (pss_one (ps_ret (pv 3))))), ?_⟩
    obtain ⟨us, hS, hP⟩ := id hM
    refine ⟨_, rfl, a, us, rfl, .inr hS, n, by rw [Paired.length hP, sq.1]; rfl, hn, fun r0 H1 sm1 hR0 => ?_⟩
    refine ⟨fun m σ H' => ∃ (x r : Addr) (X R : List (List Int)), σ = [some (.ref x), some (.int (m : Int)), some (.int p), some (.ref r)] ∧ Same H H' ∧ MatAt K H' x X ∧ MatAt K H' r R ∧ Sqm p n X ∧ Sqm p n R ∧ mulM p n R (powM p n X m) = powM p n M k,
      ⟨k, a, r0, M, idM n, rfl, sm1, hM.mono sm1, hR0, sq, idM_sq h2 n, id_mul hp (powM_sq h2 sq k)⟩, fun m σ H' hW => ?_⟩
    obtain ⟨x, r, X, R, rfl, sm, hX, hR, sX, sR, he⟩ := hW
    refine ⟨_, rfl, _, _, rfl, rfl, _, rfl, ite2 (fun c => ?_) (fun c => ?_)⟩
    · have c1 : 0 < m := by
        have := of_decide_eq_true c
        omega
      have hbit := bit1 m
      have hdiv : (m : Int) / 2 ^ (1 : Int).toNat = ((m / 2 : Nat) : Int) := by
        show (m : Int) / 2 = _
        omega
      have hm2 := Nat.div_add_mod m 2
      have hX1 : powM p n X 1 = X := id_mul hp sX
      refine ⟨fun σ' H'' => ∃ (x r : Addr) (X2 R2 : List (List Int)), σ' = [some (.ref x), some (.int ((m / 2 : Nat) : Int)), some (.int p), some (.ref r)] ∧ Same H H'' ∧ MatAt K H'' x X2 ∧ MatAt K H'' r R2 ∧ Sqm p n X2 ∧ Sqm p n R2 ∧ mulM p n R2 (powM p n X2 (m / 2)) = powM p n M k, fun σ' H'' hN => ⟨m / 2, by omega, hN⟩, ?_⟩
      have sXX := mulM_sq hp sX sX
      refine ⟨_, rfl, _, _, rfl, rfl, _, rfl, ite2 (fun c2 => ?_) (fun c2 => ?_)⟩
      · have odd : m % 2 = 1 := by
          have c3 : Builtin.bitAnd (m : Int) 1 ≠ 0 := bne_iff_ne.mp c2
          omega
        refine ⟨_, rfl, _, rfl, _, rfl, r, x, n, p, R, X, rfl, hR, hX, sR, sX, hp, h31, hn, fun r2 H2 sm2 hR2 => ?_⟩
        refine ⟨_, rfl, _, rfl, _, rfl, x, x, n, p, X, X, rfl, hX.mono sm2, hX.mono sm2, sX, sX, hp, h31, hn, fun x2 H3 sm3 hX2 => ?_⟩
        refine ⟨_, rfl, _, _, rfl, rfl, (by show (0 : Int) ≤ 1; decide), ?_⟩
        refine ⟨x2, r2, mulM p n X X, mulM p n R X, by show [some (V.ref x2), some (V.int ((m : Int) / 2 ^ (1 : Int).toNat)), some (V.int p), some (V.ref r2)] = _; rw [hdiv], sm.trans (sm2.trans sm3), hX2, hR2.mono sm3, sXX, mulM_sq hp sR sX, ?_⟩
        rw [powM_two h2 sX, mul_assoc' hp sX (powM_sq h2 sX _), ← he]
        have e1 := powM_add h2 sX 1 (2 * (m / 2))
        rw [hX1] at e1
        rw [← e1, show 1 + 2 * (m / 2) = m by omega]
      · have ev : m % 2 = 0 := by
          have c3 : ¬ Builtin.bitAnd (m : Int) 1 ≠ 0 := fun z => c2 (bne_iff_ne.mpr z)
          omega
        refine ⟨_, rfl, _, rfl, _, rfl, x, x, n, p, X, X, rfl, hX, hX, sX, sX, hp, h31, hn, fun x2 H3 sm3 hX2 => ?_⟩
        refine ⟨_, rfl, _, _, rfl, rfl, (by show (0 : Int) ≤ 1; decide), ?_⟩
        refine ⟨x2, r, mulM p n X X, R, by show [some (V.ref x2), some (V.int ((m : Int) / 2 ^ (1 : Int).toNat)), some (V.int p), some (V.ref r)] = _; rw [hdiv], sm.trans sm3, hX2, hR.mono sm3, sXX, sR, ?_⟩
        rw [powM_two h2 sX, show 2 * (m / 2) = m by omega]
        exact he
    · have c1 : m = 0 := by
        have h : ¬ 0 < (m : Int) := fun z => c (decide_eq_true z)
        omega
      subst c1
      refine ⟨_, rfl, q _ _ sm ?_⟩
      have : mulM p n R (idM n) = powM p n M k := he
      rw [mul_id h2 sR] at this
      rw [← this]
      exact hR
def spIsInv (K : PySem.W.Frag) : Sp := fun vs H Q _ => ∃ (a : Addr) (n : Nat) (p : Int) (M : List (List Int)), vs = [.ref a, .int p] ∧ MatAt K H a M ∧ Sqm p n M ∧ 2 ≤ p ∧ p ≤ 31 ∧ n ≤ 1000 ∧
  ∀ H', Same H H' → Q (.bl (decide ((redT p n M).length = n))) H'
theorem ok_isinv (T : Txt K mg) : FnOk P w K mg base CX0 6 T.a_is_invertible T.d_is_invertible ["matrix", "p"] (spIsInv K) := by
  have G_span : FnOk P w K mg base CX0 5 T.a_span T.d_span ["rows", "width", "p"] (spSpan K) := ok_span T
  refine T.F_is_invertible.ok sc_is_invertible (fun vs H Q E h => ?_) (fun cdv A outer s H vs Q E hr h => ?_)
  · obtain ⟨a, n, p, M, rfl, _⟩ := h
    rfl
  · obtain ⟨a, n, p, M, rfl, ⟨us, hS, hP⟩, sq, h2, h31, hn, q⟩ := h
    refine ⟨_, (pss_one (ps_ret (pe_cmpR op_eq (pe_callB call_len_seq (by rfl) T.n_len (by decide +kernel) (pa_cons (pe_call G_span (hr.mono (by decide)) (by rfl) T.g_span T.F_span.kp T.b_span .nil pass0 (pa_cons (pv 0) (pa_cons (pe_callB call_len_seq (by rfl) T.n_len (by decide +kernel) (pa_cons (pv 0) pa_nil)) (pa_cons (pv 1) pa_nil)))) pa_nil)) (pe_callB call_len_seq (by rfl) T.n_len (by decide +kernel) (pa_cons (pv 0) pa_nil)) (nomark _)))), ?_⟩
    refine ⟨_, rfl, _, rfl, a, us, rfl, .inr hS, _, rfl, a, n, p, M, by rw [Paired.length hP, sq.1]; rfl, ⟨us, .inr hS, hP⟩, h2, h31, hn, by rw [sq.1]; exact hn, sq.2, fun t tus H1 sm1 et hT => ?_⟩
    refine ⟨t, tus, rfl, .inr (.inl (.inl et)), _, rfl, a, us, rfl, .inr (Own.same_tup sm1 hS), rfl, ?_⟩
    have e : decide (V.int (tus.length : Int) = V.int (us.length : Int)) = decide ((redT p n M).length = n) := by
      apply decide_eq_decide.mpr
      rw [Paired.length hT, Paired.length hP, sq.1]
      exact ⟨fun z => by have := V.int.inj z; omega, fun z => congrArg V.int (by omega)⟩
    rw [e]
    exact q H1 sm1
/-! ### Refused -/
abbrev s_RI : Stmt := inClass (topS 2) 0
theorem sc_RI : FnScope ["self", "reason"] ["self", "reason"] (defScope s_RI) := ⟨rfl, rfl, rfl, by decide +kernel, rfl, by decide +kernel, by decide +kernel⟩
def spRI (C : Addr) : Sp := fun vs H Q _ => ∃ (a : Addr) (r : Str), vs = [.ref a, .str r] ∧ ((Str.empty ++ ("refused: " : Str)) ++ r).length ≤ sizeLine ∧ r.length ≤ sizeLine ∧ H a = some (exo a C none) ∧
  ∀ dx, H dx = none → dx ≠ a → Q .non (upd (upd H dx (exd dx [(("reason" : Str), .str r)])) a (exo a C (some dx)))
theorem ok_RI (R : RefC K mg s_RI) : FnOk P w K mg base CX0 1 R.fI R.dI ["self", "reason"] (spRI R.C) := by
  refine R.FI.ok sc_RI (fun vs H Q E h => ?_) (fun cdv A outer s H vs Q E hr h => ?_)
  · obtain ⟨a, r, rfl, _⟩ := h
    rfl
  · obtain ⟨a, r, rfl, hl, hl2, ha, q⟩ := h
    refine ⟨_, pss_cons (ps_expr (pe_finit (by rfl) R.gF R.rF R.vF (pa_cons (pv 0) (pa_cons (pe_joined (.cons pe_str (.cons (pe_fmt (pv 1)) .nil))) pa_nil)))) (pss_one (ps_ost (pv 0) (pv 1))), ?_⟩
    refine ⟨_, rfl, _, rfl, by decide +kernel, _, rfl, .inl ⟨r, rfl, hl2, r, rfl, hl, ?_⟩⟩
    refine ⟨a, R.C, _, rfl, by show 1 ≤ 1000; decide, R.ox, ha, ?_⟩
    exact ⟨_, rfl, _, rfl, a, R.C, rfl, R.ox, R.nf, .inl ⟨ha, fun dx h1 h2 => q dx h1 h2⟩⟩
/-! ### matrix_inverse -/
theorem cut_from {xs : List V} {n : Nat} (h : n ≤ xs.length) : cutV xs (some (n : Int)) none = xs.drop n := by
  unfold cutV
  rw [HT.sIx_none, HT.sIx_nat, Nat.min_eq_left h]
  exact List.take_of_length_le (by rw [List.length_drop]; exact Nat.le_refl _)
def spMInv (K : PySem.W.Frag) (C : Addr) : Sp := fun vs H Q E => ∃ (a : Addr) (n : Nat) (p : Int) (M : List (List Int)), vs = [.ref a, .int p] ∧ MatAt K H a M ∧ Sqm p n M ∧ Pr p ∧ n ≤ 400 ∧
  ((redT p n M).length ≠ n → ∀ d H', Same H H' → H' d = some (.xd [(("reason" : Str), .str "singular")]) → E (.ref C) (some d) H') ∧
  ((redT p n M).length = n → ∀ t H', Same H H' → MatAt K H' t (invM p n M) → Q (.ref t) H')
theorem ok_minv (R : RefC K mg s_RI) (T : Txt K mg) : FnOk P w K mg base (L2.CX P w) 7 T.a_matrix_inverse T.d_matrix_inverse ["matrix", "p"] (spMInv K R.C) := by
  have G_is_invertible : FnOk P w K mg base CX0 6 T.a_is_invertible T.d_is_invertible ["matrix", "p"] (spIsInv K) := ok_isinv T
  have G_identity : FnOk P w K mg base CX0 2 T.a_identity T.d_identity ["n"] (spIdentity K) := ok_identity T
  have G_span : FnOk P w K mg base CX0 5 T.a_span T.d_span ["rows", "width", "p"] (spSpan K) := ok_span T
  have G_RI : FnOk P w K mg base CX0 1 R.fI R.dI ["self", "reason"] (spRI R.C) := ok_RI R
  refine T.F_matrix_inverse.okX sc_matrix_inverse (fun vs H Q E h => ?_) (fun cdv A outer s H vs Q E hr h => ?_)
  · obtain ⟨a, n, p, M, rfl, _⟩ := h
    rfl
  · obtain ⟨a, n, p, M, rfl, hM, sq, Pp, hn, hE, hQ⟩ := h
    have h2 := Pp.two
    have h31 := Pp.le
    obtain ⟨us, hS, hP⟩ := id hM
    have hul := Paired.length hP
    refine ⟨_, (pss_cons (ps_if (pt_not (pt_val (pe_call G_is_invertible (hr.mono (by decide)) (by rfl) T.g_is_invertible T.F_is_invertible.kp T.b_is_invertible .nil pass0 (pa_cons (pv 0) (pa_cons (pv 1) pa_nil))))) 
      (pss_one (ps_raise rfl (takes_of rfl rfl rfl rfl) (pmk_oex R.ox R.iC R.tI G_RI (hr.mono (by decide)) R.bI .nil pass0 (by rfl) R.gC (pa_cons pe_str pa_nil)))) pss_nil) 
    (pss_cons (ps_set (i := 2) sc_matrix_inverse.nd rfl (.inr rfl) (pe_callB call_len_seq (by rfl) T.n_len (by decide +kernel) (pa_cons (pv 0) pa_nil))) 
    (pss_cons (ps_setLc (i := 3) (own := [("row", 4), ("unit", 5)]) (g := gTup K 2 (gCons (gName 4) (gCons (gName 5) gNil))) rfl sc_matrix_inverse.nd rfl rfl (sw_true rfl rfl rfl (by decide +kernel)) (RZ.pi_zipA (by rfl) T.n_zip (pa_cons (pv 0) (pa_cons (pe_call G_identity (hr.mono (by decide)) (by rfl) T.g_identity T.F_identity.kp T.b_identity .nil pass0 (pa_cons (pv 2) pa_nil)) pa_nil))) (blkOk_by (N := N_matrix_inverse) (sc := defScope s_matrix_inverse) (own := [("row", 4), ("unit", 5)]) (by decide +kernel)) (fun _ _ _ _ _ => by exact (pg_tup rfl (pgs_cons (pg_name (i := 4) sc_matrix_inverse.nd rfl (.inl rfl)) (pgs_cons (pg_name (i := 5) sc_matrix_inverse.nd rfl (.inl rfl)) pgs_nil)))) (fun _ _ _ _ _ => pts_nil) (fun _ _ _ _ _ => (pe_tup (show PA _ _ (StX.tStar K (tVar 4) (StX.tStar K (tVar 5) tNil)) from StX.pa_star (pv 4) (StX.pa_star (pv 5) pa_nil))))) 
    (pss_one (ps_ret (pe_callTy call_tuple_of (by rfl) T.n_tuple (by decide +kernel) (pa_cons (pe_lc (own := [("row", 4)]) rfl sc_matrix_inverse.nd (pi_tup (pe_call G_span (hr.mono (by decide)) (by rfl) T.g_span T.F_span.kp T.b_span .nil pass0 (pa_cons (pv 3) (pa_cons (pe_op op_mulW pe_int (pv 2)) (pa_cons (pv 1) pa_nil))))) (blkOk_by (N := N_matrix_inverse) (sc := defScope s_matrix_inverse) (own := [("row", 4)]) (by decide +kernel)) (fun _ _ _ _ _ => (pg_name (i := 4) sc_matrix_inverse.nd rfl (.inl rfl))) (fun _ _ _ _ _ => pts_nil) (fun _ _ _ _ _ => (pe_slice (show SlR _ (rSlA K) from sl_tupA) (pv 4) (po_some (pv 2)) po_none))) pa_nil))))))), ?_⟩
    refine ⟨_, rfl, _, rfl, a, n, p, M, rfl, hM, sq, h2, h31, by omega, fun H1 sm1 => ⟨_, rfl, ?_⟩⟩
    by_cases hf : (redT p n M).length = n
    · rw [decide_eq_true hf]
      refine iteF ?_
      refine ⟨_, rfl, a, us, rfl, .inr (Own.same_tup sm1 hS), ?_⟩
      refine ⟨_, rfl, _, rfl, n, by rw [hul, sq.1]; rfl, by omega, fun it H2 sm2 hI => ?_⟩
      obtain ⟨ius, hIS, hIP⟩ := id hI
      have smA := sm1.trans sm2
      have hil := Paired.length hIP
      rw [idM_len] at hil
      refine ⟨a, it, us, ius, rfl, .inr ⟨Own.same_tup smA hS, hIS, fun D nD => ?_⟩⟩
      refine lc_rep (walk_zipT (n := n) (by rw [hul, sq.1, hil, Nat.min_self])) (st_RS (K := K)) (fun i => M.getD i [] ++ unitR n i) (by omega) nD (fun H3 sm3 => ⟨Own.same_tup (smA.trans sm3) hS, Own.same_tup sm3 hIS⟩) (fun i x H3 H4 Q2 hi sm3 hY q2 => ?_) (fun H3 acc sm3 eD hPa => ?_)
      · obtain ⟨t, x1, x2, rfl, nt, rfl, g1, g2⟩ := hY
        obtain ⟨r, er, tr, rfl, htr⟩ := paired_get hP g1
        obtain ⟨u, eu, tu, rfl, htu⟩ := paired_get hIP g2
        have eu2 : u = unitR n i := by
          have := idM_get (n := n) hi
          rw [getD_some eu] at this
          exact this
        subst eu2
        rw [getD_some er] at q2
        have s4 := same_new (o := .tup [V.ref tr, V.ref tu]) nt
        refine ⟨t, [.ref tr, .ref tu], rfl, .inl (.inl upd_same), rfl, _, [.ref tu], rfl, _, [], rfl, rfl, rfl, ?_⟩
        have hvr := sq.2 r (List.mem_of_getElem? er)
        refine ⟨_, rfl, tr, _, rfl, .inl (Own.same_tup (smA.trans (sm3.trans s4)) htr), _, rfl, tu, _, rfl, .inl (Own.same_tup (sm3.trans s4) htu), ?_⟩
        have hui := unitR_vr h2 n i
        refine ⟨?_, fun u nu => q2 _ _ (s4.trans (same_new nu)) ⟨u, rfl, .inl (.inl ?_)⟩⟩
        · rw [List.append_nil, List.length_append, List.length_map, List.length_map, hvr.1, hui.1]
          exact Nat.le_of_lt (small2000 (by omega))
        · rw [upd_same, List.append_nil, List.map_append]
      · have hun : us.length = n := by rw [hul, sq.1]
        have hPa : Paired (RS K H3) acc (wideM n M) := hPa
        refine ⟨_, rfl, _, rfl, _, _, rfl, rfl, wide_mul (a := 3) (b := 10) (by decide) (by rw [hun]; omega) (by decide) (by decide) (by decide), _, rfl, D, n + n, p, wideM n M, by rw [hun]; show [V.ref D, V.int (2 * (n : Int)), V.int p] = [V.ref D, V.int ((n + n : Nat) : Int), V.int p]; rw [show (2 * (n : Int)) = ((n + n : Nat) : Int) by omega], ⟨acc, .inl (.inl (.inl eD)), hPa⟩, h2, h31, by omega, by rw [wideM_len]; omega, wideM_vr h2 sq, fun t tus H5 sm5 et hT => ?_⟩
        have htl := Paired.length hT
        have F := red_form Pp (wideM_vr h2 sq)
        have hlen : (redT p (n + n) (wideM n M)).length ≤ n := by
          have := red_len Pp (wideM_vr h2 sq)
          rw [wideM_len] at this
          exact this
        refine ⟨t, rfl, ⟨_, .inl (.inl et)⟩, fun D2 nD2 => ?_⟩
        refine lc_rep (walk_tup (xs := tus)) (st_RS (K := K)) (fun i => ((redT p (n + n) (wideM n M)).getD i []).drop n) (by omega) nD2 (fun H6 sm6 => .inl (.inl (sm6 _ _ et))) (fun i x H6 H7 Q2 hi sm6 hY q2 => ?_) (fun H6 acc2 sm6 eD2 hPb => ?_)
        · obtain ⟨rfl, hx⟩ := hY
          obtain ⟨r, er, tr, rfl, htr⟩ := paired_get hT hx
          have hvr := F.vr r (List.mem_of_getElem? er)
          rw [getD_some er] at q2
          have htr2 := (htr.mono sm6).sq (K := K)
          refine ⟨rfl, _, rfl, _, rfl, _, rfl, tr, _, rfl, htr2, fun h0 => ?_, fun _ u nu => ?_⟩
          · have h0 := h0.1
            rw [HT.sIx_nat, List.length_map, hvr.1, hun] at h0
            have hn0 : n = 0 := by omega
            refine q2 _ _ (Same.refl _) ⟨tr, rfl, ?_⟩
            rw [hn0, List.drop_zero]
            exact htr2
          · refine q2 _ _ (same_new nu) ⟨u, rfl, .inl (.inl ?_)⟩
            rw [upd_same, cut_from (by rw [List.length_map, hvr.1, hun]; omega), hun, List.map_drop]
        · rw [htl, range_map_get (fun r : List Int => r.drop n) [] (redT p (n + n) (wideM n M))] at hPb
          refine ⟨D2, acc2, rfl, .inl ⟨.inl (.inl eD2), fun u nu => hQ hf u _ (smA.trans (sm3.trans (sm5.trans (sm6.trans (same_new nu))))) ⟨acc2, .inl (.inl upd_same), st_RS.all (same_new nu) hPb⟩⟩⟩
    · rw [decide_eq_false hf]
      refine iteT ?_
      refine ⟨by show 1 ≤ 1000; decide, fun x nx => ?_⟩
      refine ⟨x, "singular", rfl, by decide +kernel, by decide +kernel, upd_same, fun dx ndx hne => ⟨rfl, dx, _, upd_same, by rw [upd_ne hne, upd_same], ?_, ?_⟩⟩
      · rw [upd_ne hne] at ndx
        exact ndx
      · have nd : H1 dx = none := by
          rw [upd_ne hne] at ndx
          exact ndx
        refine hE hf dx _ (sm1.trans fun b o hb => ?_) upd_same
        have hbd : b ≠ dx := ne_of_none hb nd
        have hbx : b ≠ x := ne_of_none hb nx
        rw [upd_ne hbd, del_ne hbx, upd_ne hbx, upd_ne hbd, upd_ne hbx]
        exact hb
/-! ### lists and tuples of ints -/
def Sq (K : PySem.W.Frag) (H : Hp) (a : Addr) (us : List V) : Prop := SqL K H a us ∨ SqT K H a us
theorem Sq.mono {H H' : Hp} {a : Addr} {us : List V} (e : Same H H') (h : Sq K H a us) : Sq K H' a us := by
  obtain ⟨b, hB⟩ := Own.sqb_of h
  have := Own.same_sqb e hB
  cases b with
  | true => exact .inl this
  | false => exact .inr this
theorem rix {H : Hp} {a : Addr} {us : List V} {i : Int} {v : V} {Q : VK} (h : Sq K H a us) (hi : atI us i = some v) (q : Q v H) : rIx K (.ref a) (.int i) H Q := by
  rcases h with h | h
  · exact .inl ⟨a, us, i, v, rfl, rfl, h, hi, q⟩
  · exact .inr (.inl ⟨a, us, i, v, rfl, rfl, h, hi, q⟩)
/-- ints in a list or a tuple -/
def RQ (K : PySem.W.Frag) (H : Hp) (v : V) (r : List Int) : Prop := ∃ t, v = .ref t ∧ Sq K H t (r.map V.int)
theorem RQ.mono {H H' : Hp} {v : V} {r : List Int} (e : Same H H') (h : RQ K H v r) : RQ K H' v r := by
  obtain ⟨t, h1, h2⟩ := h
  exact ⟨t, h1, h2.mono e⟩
theorem rq_of {H : Hp} {v : V} {r : List Int} (h : RS K H v r) : RQ K H v r := by
  obtain ⟨t, h1, h2⟩ := h
  exact ⟨t, h1, .inr h2⟩
theorem rq_rr {H : Hp} {v : V} {r : List Int} (h : RR H v r) : RQ K H v r := rq_of (rs_of h)
/-! ### _law_total -/
def spLTotal (K : PySem.W.Frag) : Sp := fun vs H Q _ => ∃ (a : Addr) (b : V) (n : Nat) (p : Int) (rs : List (List Int)) (w : List Int), vs = [.int p, .ref a, b, .int (n : Int)] ∧ Rws K H a rs ∧ RQ K H b w ∧ 0 < p ∧ p ≤ 31 ∧ n ≤ 1000 ∧ rs.length ≤ 1000 ∧ w.length = rs.length ∧ (∀ r ∈ rs, Vr p n r) ∧ Sm w ∧ RetR H Q (totR p n rs w)
theorem ok_ltotal (T : Txt K mg) : FnOk P w K mg base CX0 2 T.a__law_total T.d__law_total ["p", "rows", "weights", "n"] (spLTotal K) := by
  have G__law_zero : FnOk P w K mg base CX0 1 T.a__law_zero T.d__law_zero ["n"] spLZero := ok_lzero T
  have G__law_sum : FnOk P w K mg base CX0 1 T.a__law_sum T.d__law_sum ["v", "w", "p"] spLSum := ok_lsum T
  have G__law_scaled : FnOk P w K mg base CX0 1 T.a__law_scaled T.d__law_scaled ["v", "a", "p"] spLScaled := ok_lscaled T
  refine T.F__law_total.ok sc__law_total (fun vs H Q E h => ?_) (fun cdv A outer s H vs Q E hr h => ?_)
  · obtain ⟨a, b, n, p, rs, w, rfl, _⟩ := h
    rfl
  · obtain ⟨a, b0, n, p, rs, w, rfl, ⟨us, hS, hP⟩, ⟨b, rfl, eb⟩, hp, h31, hn, hl, hwl, hv, hsw, q⟩ := h
    have hS : Sq K H a us := hS
    have hul := Paired.length hP
    refine ⟨_, (pss_cons (ps_set (i := 4) sc__law_total.nd rfl (.inl rfl) (pe_call G__law_zero (hr.mono (by decide)) (by rfl) T.g__law_zero T.F__law_zero.kp T.b__law_zero .nil pass0 (pa_cons (pv 3) pa_nil))) 
    (pss_cons (ps_for PassesOwn.never rfl (pi_range1 (by rfl) T.n_range (pa_cons (pe_callB call_len_seq (by rfl) T.n_len (by decide +kernel) (pa_cons (pv 1) pa_nil)) pa_nil)) (pg_name (i := 5) sc__law_total.nd rfl (.inl rfl)) 
      (pss_one (ps_set (i := 4) sc__law_total.nd rfl (.inl rfl) (pe_call G__law_sum (hr.mono (by decide)) (by rfl) T.g__law_sum T.F__law_sum.kp T.b__law_sum .nil pass0 (pa_cons (pv 4) (pa_cons (pe_call G__law_scaled (hr.mono (by decide)) (by rfl) T.g__law_scaled T.F__law_scaled.kp T.b__law_scaled .nil pass0 (pa_cons (pe_ix ix_seq (pv 1) (pv 5) (fun _ _ => rfl)) (pa_cons (pe_ix ix_seq (pv 2) (pv 5) (fun _ _ => rfl)) (pa_cons (pv 0) pa_nil)))) (pa_cons (pv 0) pa_nil))))))) 
    (pss_one (ps_ret (pv 4))))), ?_⟩
    refine ⟨_, rfl, n, rfl, hn, fun z H1 sm1 hz => ?_⟩
    have e0 : ((us.length : Int)).toNat = rs.length := by omega
    refine ⟨_, rfl, a, us, rfl, hS.mono sm1, _, rfl, by omega, by omega, ?_⟩
    rw [e0]
    refine for_range (lo := 0) (n := rs.length) (fun i σ H' => ∃ (t : V) (y : Option V), σ = [some (.int p), some (.ref a), some (.ref b), some (.int (n : Int)), some t, y] ∧ Same H H' ∧ RR H' t (totI p n rs w i))
      ⟨z, none, rfl, sm1, hz⟩ (fun i σ H' hi hPv => ?_) (fun σ H' hPv => ?_)
    · obtain ⟨t, y, rfl, sm, hR⟩ := hPv
      have ei : ((0 : Int) + (i : Int)) = (i : Int) := by omega
      obtain ⟨r, er⟩ : ∃ r, rs[i]? = some r := ⟨rs[i], List.getElem?_eq_getElem hi⟩
      obtain ⟨u, eu, hRu⟩ := paired_get2 hP er
      have hvr := hv r (List.mem_of_getElem? er)
      have htv := totI_vr hp hv w i (by omega)
      refine ⟨_, rfl, _, rfl, _, rfl, rix (hS.mono sm) (by rw [ei]; exact atI_nat eu) ⟨_, rfl, _, rfl, rix (eb.mono sm) (by rw [ei]; exact atV (by omega)) ⟨_, rfl, u, _, p, r, rfl, st_RR.same sm hRu, hp, by rw [hvr.1]; exact hn, hsw _ (atR_mem (by omega)), hvr.sm h31, fun sv H2 sm2 hRs => ?_⟩⟩⟩
      have hsl := (scR_vr hp hvr.1 (atR w i)).1
      refine ⟨_, rfl, t, sv, p, _, _, rfl, st_RR.same sm2 hR, hRs, hp, by rw [htv.1]; exact hn, by rw [htv.1, hsl], fun tv H3 sm3 hRt => ?_⟩
      refine ⟨tv, _, rfl, sm.trans (sm2.trans sm3), ?_⟩
      rw [totI, getD_some er]
      exact hRt
    · obtain ⟨t, y, rfl, sm, hR⟩ := hPv
      exact ⟨_, rfl, q _ _ sm hR⟩
/-! ### _law_unit, _law_times, _law_reason -/
def spLUnit : Sp := fun vs H Q _ => ∃ (n a : Nat), vs = [.int (n : Int), .int (a : Int)] ∧ n ≤ 1000 ∧ RetR H Q (unitR n a)
theorem ok_lunit (T : Txt K mg) : FnOk P w K mg base CX0 1 T.a__law_unit T.d__law_unit ["n", "at"] spLUnit := by
  refine T.F__law_unit.ok sc__law_unit (fun vs H Q E h => ?_) (fun cdv A outer s H vs Q E hr h => ?_)
  · obtain ⟨n, a, rfl, _⟩ := h
    rfl
  · obtain ⟨n, a, rfl, hn, q⟩ := h
    refine ⟨_, (pss_one (ps_ret (pe_callTy Own.call_tuple_ofF (by rfl) T.n_tuple (by decide +kernel) (pa_cons (pe_lc (own := [("k", 2)]) rfl sc__law_unit.nd (pi_range1 (by rfl) T.n_range (pa_cons (pv 0) pa_nil)) (blkOk_by (N := N__law_unit) (sc := defScope s__law_unit) (own := [("k", 2)]) (by decide +kernel)) (fun _ _ _ _ _ => (pg_name (i := 2) sc__law_unit.nd rfl (.inl rfl))) (fun _ _ _ _ _ => pts_nil) (fun _ _ _ _ _ => (pe_callTy call_int1 (by rfl) T.n_int (by decide +kernel) (pa_cons (pe_cmpR op_eq (pv 2) (pv 1) (nomark _)) pa_nil)))) pa_nil)))), ?_⟩
    refine ⟨_, rfl, (n : Int), rfl, by omega, by omega, fun D nD => ?_⟩
    refine lc_rep (walk_range (lo := 0) (n := n)) st_RI (fun k => if k = a then 1 else 0) (by omega) nD (fun H2 sm => trivial) (fun i x H2 H3 Q2 hi sm hY q2 => ?_) (fun H2 acc sm eD hP => ?_)
    · obtain ⟨rfl, rfl⟩ := hY
      refine ⟨rfl, _, rfl, _, rfl, rfl, .inr ⟨_, rfl, q2 _ _ (Same.refl _) ?_⟩⟩
      show V.int (if decide (V.int ((0 : Int) + (i : Int)) = V.int (a : Int)) = true then 1 else 0) = V.int (if i = a then 1 else 0)
      by_cases h : i = a
      · rw [if_pos h, if_pos (decide_eq_true (congrArg V.int (by omega)))]
      · rw [if_neg h, if_neg (fun z => h (by have := V.int.inj (of_decide_eq_true z); omega))]
    · have e := ints_of hP
      subst e
      exact ⟨D, _, rfl, .inl (.inl eD), fun u ob nu hob => q _ _ (sm.trans (same_new nu)) ⟨u, rfl, ob, hob, upd_same⟩⟩
def spLTimes (K : PySem.W.Frag) : Sp := fun vs H Q _ => ∃ (a b : Addr) (n : Nat) (p : Int) (A B : List (List Int)), vs = [.int p, .ref a, .ref b] ∧ MatAt K H a A ∧ MatAt K H b B ∧ Sqm p n A ∧ Sqm p n B ∧ 0 < p ∧ p ≤ 31 ∧ n ≤ 1000 ∧
  ∀ t H', Same H H' → MatAt K H' t (mulM p n A B) → Q (.ref t) H'
theorem ok_ltimes (T : Txt K mg) : FnOk P w K mg base CX0 1 T.a__law_times T.d__law_times ["p", "a", "b"] (spLTimes K) := by
  refine T.F__law_times.ok sc__law_times (fun vs H Q E h => ?_) (fun cdv A outer s H vs Q E hr h => ?_)
  · obtain ⟨a, b, n, p, A, B, rfl, _⟩ := h
    rfl
  · obtain ⟨a, b, n, p, M, N, rfl, hA, hB, sqM, sqN, hp, h31, hn, q⟩ := h
    obtain ⟨us, hS, hP⟩ := id hA
    obtain ⟨ws, hW, hPW⟩ := id hB
    have hul : us.length = n := by rw [Paired.length hP, sqM.1]
    refine ⟨_, (pss_cons (ps_set (i := 3) sc__law_times.nd rfl (.inr rfl) (pe_callB call_len_seq (by rfl) T.n_len (by decide +kernel) (pa_cons (pv 1) pa_nil))) 
    (pss_one (ps_ret (pe_callTy (show CallR _ (.type "tuple") (rTupF K) from call_tupF) (by rfl) T.n_tuple (by decide +kernel) (pa_cons (pe_lc (own := [("i", 4)]) rfl sc__law_times.nd (pi_range1 (by rfl) T.n_range (pa_cons (pv 3) pa_nil)) (blkOk_by (N := N__law_times) (sc := defScope s__law_times) (own := [("i", 4)]) (by decide +kernel)) (fun _ _ _ _ _ => (pg_name (i := 4) sc__law_times.nd rfl (.inr rfl))) (fun _ _ _ _ _ => pts_nil) (fun _ _ _ _ _ => (pe_callTy (show CallR _ (.type "tuple") (rTupF K) from call_tupF) (by rfl) T.n_tuple (by decide +kernel) (pa_cons (pe_lc (own := [("j", 5)]) rfl sc__law_times.nd (pi_range1 (by rfl) T.n_range (pa_cons (pv 3) pa_nil)) (blkOk_by (N := N__law_times) (own := [("j", 5)]) (by rfl)) (fun _ _ _ _ _ => (pg_name (i := 5) sc__law_times.nd rfl (.inr rfl))) (fun _ _ _ _ _ => pts_nil) (fun _ _ _ _ _ => (pe_op op_modE (pe_callTy call_int1 (by rfl) T.n_int (by decide +kernel) (pa_cons (pe_callB (show CallR _ (.builtin "sum") (rSum K) from cr_sum rfl) (by rfl) T.n_sum (by decide +kernel) (pa_cons (pe_lc (own := [("k", 6)]) rfl sc__law_times.nd (pi_range1 (by rfl) T.n_range (pa_cons (pv 3) pa_nil)) (blkOk_by (N := N__law_times) (own := [("k", 6)]) (by rfl)) (fun _ _ _ _ _ => (pg_name (i := 6) sc__law_times.nd rfl (.inl rfl))) (fun _ _ _ _ _ => pts_nil) (fun _ _ _ _ _ => (pe_op op_mulW (pe_ix (show IxR _ (rIxT K) from ix_tup) (pe_ix (show IxR _ (rIxT K) from ix_tup) (pv 1) (pv 4) (fun _ _ => rfl)) (pv 6) (fun _ _ => rfl)) (pe_ix (show IxR _ (rIxT K) from ix_tup) (pe_ix (show IxR _ (rIxT K) from ix_tup) (pv 2) (pv 6) (fun _ _ => rfl)) (pv 5) (fun _ _ => rfl))))) pa_nil)) pa_nil)) (pv 0)))) pa_nil)))) pa_nil))))), ?_⟩
    refine ⟨_, rfl, a, us, rfl, .inr hS, ?_⟩
    have e0 : ((us.length : Int)).toNat = n := by omega
    refine ⟨_, rfl, _, rfl, by omega, by omega, fun D nD => ?_⟩
    rw [e0]
    refine lc_rep (walk_range (lo := 0) (n := n)) st_RR (fun i => totR p n N (M.getD i [])) (by omega) nD (fun H2 sm => trivial) (fun i x H2 H3 Q2 hi sm hY q2 => ?_) (fun H2 acc sm eD hPa => ?_)
    · obtain ⟨rfl, rfl⟩ := hY
      have ei : ((0 : Int) + (i : Int)) = (i : Int) := by omega
      obtain ⟨r, er⟩ : ∃ r, M[i]? = some r := ⟨_, List.getElem?_eq_getElem (by rw [sqM.1]; exact hi)⟩
      obtain ⟨u, eu, tr, rfl, htr⟩ := paired_get2 hP er
      have hvr := sqM.2 r (List.mem_of_getElem? er)
      have hat : atI us ((0 : Int) + (i : Int)) = some (.ref tr) := by rw [ei]; exact atI_nat eu
      rw [getD_some er] at q2
      refine ⟨rfl, _, rfl, _, rfl, by omega, by omega, fun D2 nD2 => ?_⟩
      rw [e0]
      refine lc_rep (walk_range (lo := 0) (n := n)) st_RI (fun j => sumN (fun k => atR r k * atR (N.getD k []) j) n % p) (by omega) nD2 (fun H4 sm4 => trivial) (fun j x2 H4 H5 Q3 hj sm4 hY2 q3 => ?_) (fun H4 acc2 sm4 eD2 hPb => ?_)
      · obtain ⟨rfl, rfl⟩ := hY2
        have ej : ((0 : Int) + (j : Int)) = (j : Int) := by omega
        refine ⟨rfl, _, rfl, _, rfl, by omega, by omega, fun D3 nD3 => ?_⟩
        rw [e0]
        refine lc_rep (walk_range (lo := 0) (n := n)) st_RI (fun k => atR r k * atR (N.getD k []) j) (by omega) nD3 (fun H6 sm6 => trivial) (fun k x3 H6 H7 Q4 hk sm6 hY3 q4 => ?_) (fun H6 acc3 sm6 eD3 hPc => ?_)
        · obtain ⟨rfl, rfl⟩ := hY3
          have ek : ((0 : Int) + (k : Int)) = (k : Int) := by omega
          obtain ⟨r2, er2⟩ : ∃ r, N[k]? = some r := ⟨_, List.getElem?_eq_getElem (by rw [sqN.1]; exact hk)⟩
          obtain ⟨u2, eu2, tr2, rfl, htr2⟩ := paired_get2 hPW er2
          have hvr2 := sqN.2 r2 (List.mem_of_getElem? er2)
          have hat2 : atI ws ((0 : Int) + (k : Int)) = some (.ref tr2) := by rw [ek]; exact atI_nat eu2
          have smA := sm.trans (sm4.trans sm6)
          rw [getD_some er2] at q4
          refine ⟨rfl, _, rfl, _, rfl, a, us, _, _, rfl, rfl, Own.same_tup smA hS, hat, _, rfl, tr, _, _, _, rfl, rfl, Own.same_tup smA htr, by rw [ek]; exact atV (by rw [hvr.1]; exact hk), ?_⟩
          refine ⟨_, rfl, _, rfl, b, ws, _, _, rfl, rfl, Own.same_tup smA hW, hat2, _, rfl, tr2, _, _, _, rfl, rfl, Own.same_tup smA htr2, by rw [ej]; exact atV (by rw [hvr2.1]; exact hj), ?_⟩
          exact ⟨_, _, rfl, rfl, wide_mul (hvr.sm h31 _ (atR_mem (by rw [hvr.1]; exact hk))) (hvr2.sm h31 _ (atR_mem (by rw [hvr2.1]; exact hj))) (by decide) (by decide) (by decide), q4 _ _ (Same.refl _) rfl⟩
        · have e := ints_of hPc
          subst e
          refine ⟨D3, _, rfl, .inl (.inl eD3), .inl ⟨_, rfl, _, rfl, _, _, rfl, rfl, hp, q3 _ _ sm6 ?_⟩⟩
          rw [sumN_range]
          rfl
      · have e := ints_of hPb
        have e2 : (List.range n).map (fun j => sumN (fun k => atR r k * atR (N.getD k []) j) n % p) = totR p n N r := by
          have hv := totR_vr hp sqN.2 r
          rw [← map_at hv.1]
          exact List.map_congr_left fun j hj => (totR_at hp sqN r (List.mem_range.mp hj)).symm
        rw [e2] at e
        subst e
        exact ⟨D2, _, rfl, .inl (.inl eD2), fun u ob nu hob => q2 _ _ (sm4.trans (same_new nu)) ⟨u, rfl, ob, hob, upd_same⟩⟩
    · have hr := range_map_get (fun r => totR p n N r) [] M
      rw [sqM.1] at hr
      rw [hr] at hPa
      refine ⟨D, acc, rfl, .inl (.inl eD), fun u ob nu hob => q u _ (sm.trans (same_new nu)) ⟨acc, .inl (.inr ⟨ob, upd_same⟩), rs_all (st_RR.all (same_new nu) hPa)⟩⟩
theorem exm_self {C : Addr} (D : ExcD K C) (ty : PySem.W.typeIn K (.ref C) = some (.type "type")) (hs : PySem.W.subIn K (.ref C) (.ref C) = some true) : PySem.W.exmOne K (.ref C) (.ref C) = some true := by
  unfold PySem.W.exmOne
  rw [D.hs, if_pos (by rfl)]
  show (if ((PySem.W.clsIn K C).isSome && PySem.W.typeIn K (.ref C) == some (.type "type")) = true then PySem.W.subIn K (.ref C) (.ref C) else none) = some true
  have h2 : (PySem.W.clsIn K C).isSome = true := D.hc
  rw [if_pos (by rw [h2, ty]; rfl)]
  exact hs
def spReason (K : PySem.W.Frag) : Sp := fun vs H Q _ => ∃ (a : Addr) (n : Nat) (p : Int) (M : List (List Int)), vs = [.ref a, .int p] ∧ MatAt K H a M ∧ Sqm p n M ∧ Pr p ∧ n ≤ 400 ∧ (redT p n M).length ≠ n ∧ ∀ H', Same H H' → Q (.str "singular") H'
theorem ok_reason (R : RefC K mg s_RI) (T : Txt K mg) (hself : PySem.W.subIn K (.ref R.C) (.ref R.C) = some true) : FnOk P w K mg base CX0 9 T.a__law_reason T.d__law_reason ["matrix", "p"] (spReason K) := by
  have G_matrix_inverse : FnOk P w K mg base (L2.CX P w) 7 T.a_matrix_inverse T.d_matrix_inverse ["matrix", "p"] (spMInv K R.C) := ok_minv R T
  refine T.F__law_reason.ok sc__law_reason (fun vs H Q E h => ?_) (fun cdv A outer s H vs Q E hr h => ?_)
  · obtain ⟨a, n, p, M, rfl, _⟩ := h
    rfl
  · obtain ⟨a, n, p, M, rfl, hM, sq, Pp, hn, hf, q⟩ := h
    refine ⟨_, pss_cons (ps_try_as (i := 2) (c := .ref R.C) (Wout := fun _ _ _ _ => False) rfl rfl sc__law_reason.nd rfl rfl ⟨rfl, by decide, .inl R.gC⟩ takes0
        (fun W pn xe tk _ => by exact (pss_one (ps_expr (pe_callS G_matrix_inverse (hr.mono (by decide)) (by rfl) T.g_matrix_inverse T.F_matrix_inverse.kp T.b_matrix_inverse (fun σ => passAt tk σ) (pa_cons (pv 0) (pa_cons (pv 1) pa_nil))))))
        (fun a oe cls d pn hz hf => by exact (pss_one (ps_ret (pe_xf R.xf R.nf hz hf (pv 2))))))
      (pss_one (ps_ret pe_str)), ?_⟩
    refine ⟨_, rfl, _, rfl, a, n, p, M, rfl, hM, sq, Pp, hn, fun _ d H1 sm hx => ?_, fun z => absurd z hf⟩
    refine ⟨true, exm_self R.ed R.ox.tyC hself, fun _ x nx => ?_, fun z => Bool.noConfusion z⟩
    exact ⟨_, rfl, rfl, rfl, d, _, _, rfl, hx, rfl, q H1 sm⟩
/-! ### lists of ints as data -/
def dL (ns : List Int) : PyData := .list (ns.map PyData.int)
theorem dp_L {H : Hp} {a : Addr} {ns : List Int} (h : SqL K H a (ns.map V.int)) : Dp K H (.ref a) (dL ns) := .lst h (dpAll_ints ns)
theorem shaped_dL (ns : List Int) : SeqAt.shaped (dL ns) = true := by
  have h1 := PySem.W.depthAll_ints ns
  have h2 : PyData.depth (.list (ns.map PyData.int)) ≤ 64 := by simp only [PyData.depth]; omega
  show (PyData.canLay0 (.list (ns.map PyData.int)) && decide (PyData.depth (.list (ns.map PyData.int)) ≤ 64)) = true
  rw [Bool.and_eq_true]
  exact ⟨by simp only [PyData.canLay0]; exact PySem.W.canLayAll0_ints ns, decide_eq_true h2⟩
theorem eqv_dL (ns ms : List Int) : PyData.eqv (dL ns) (dL ms) = decide (ns = ms) := by
  unfold dL
  rw [PyData.eqv]
  exact eqvAll_ints ns ms
/-! ### tuples of rows as data -/
theorem eqvAll_tup (L M : List (List Int)) : PyData.eqv (.tuple (L.map dInts)) (.tuple (M.map dInts)) = decide (L = M) := by
  rw [PyData.eqv]
  exact eqvAll_rows L M
def dRowsT (L : List (List Int)) : PyData := .tuple (L.map dInts)
theorem shaped_dRowsT (L : List (List Int)) : SeqAt.shaped (dRowsT L) = true := by
  have h1 := depth_rows L
  have h2 : PyData.depth (.tuple (L.map dInts)) ≤ 64 := by simp only [PyData.depth]; omega
  show (PyData.canLay0 (.tuple (L.map dInts)) && decide (PyData.depth (.tuple (L.map dInts)) ≤ 64)) = true
  rw [Bool.and_eq_true]
  exact ⟨by simp only [PyData.canLay0]; exact canLay_rows L, decide_eq_true h2⟩
theorem dp_rowsT {H : Hp} {a : Addr} {us : List V} {L : List (List Int)} (h : SqT K H a us) (hP : Paired (RR H) us L) : Dp K H (.ref a) (dRowsT L) := .tup h (dpAll_rows hP)
/-! ### comprehensions with a test -/
theorem lc_filt {α : Type} {J : It} {n : Nat} {G : Hp → Prop} {Y : Nat → Hp → V → Hp → Prop} (w : Walk J n G Y) {R : Hp → V → α → Prop} (S : Stable R) (h : Nat → Bool) (f : Nat → α) (hn : n ≤ 100000) {g : TG} {tt : L2.St → Hp → (Bool → Hp → Prop) → Prop} {te : TE} {vs : List Nat} {σ : L2.St} {H1 : Hp} {D : Addr} {Qd : Hp → Prop}
    (nD : H1 D = none) (hG : ∀ H, Same H1 H → G H)
    (hs : ∀ i x H H' (Q : VK) (N : Hp → Prop), i < n → Same H1 H → Y i H x H' → (h i = true → ∀ y H4, Same H H4 → R H4 y (f i) → Q y H4) → (h i = false → ∀ H4, Same H H4 → N H4) → g x (wipe σ vs) H' fun σ2 H2 => wipe σ2 vs = wipe σ vs ∧ tt σ2 H2 fun b H3 => if b = true then te σ2 H3 Q else N H3)
    (hd : ∀ H acc, Same H1 H → H D = some (.lst acc) → Paired (R H) acc (((List.range n).filter h).map f) → Qd H) :
    ∃ W : Nat → Nat → Hp → Prop, (∃ m, W 0 m (upd H1 D (.lst []))) ∧ ∀ i m H, W i m H →
      (J.stop i H ∧ Qd H) ∨ (J.go i H ∧ ∃ Nx : Hp → Prop, (∀ H', Nx H' → ∃ m', m' < m ∧ W (i + 1) m' H') ∧ ∀ x H', J.yld i H x H' → g x (wipe σ vs) H' fun σ2 H2 => wipe σ2 vs = wipe σ vs ∧ tt σ2 H2 fun b H3 =>
        if b = true then te σ2 H3 fun y H4 => ∃ acc, H4 D = some (.lst acc) ∧ acc.length < sizeLine ∧ Nx (upd H4 D (.lst (acc ++ [y]))) else Nx H3) := by
  have more : ∀ i, (List.range (i + 1)).filter h = (List.range i).filter h ++ (if h i = true then [i] else []) := fun i => by
    rw [List.range_succ, List.filter_append]
    congr 1
    by_cases e : h i = true
    · rw [if_pos e, List.filter_cons_of_pos e, List.filter_nil]
    · rw [if_neg e, List.filter_cons_of_neg e, List.filter_nil]
  refine lc_it w (fun i H => i ≤ n ∧ Same H1 H ∧ ∃ acc, H D = some (.lst acc) ∧ Paired (R H) acc (((List.range i).filter h).map f)) ⟨Nat.zero_le n, same_new nD, [], upd_same, .nil⟩ (fun i H _ k => hG H k.2.1) (fun i x H H' hi hP hY => ?_) (fun H hP => ?_)
  · obtain ⟨hin, sm, acc, eD, hp⟩ := hP
    have hlen : acc.length ≤ i := by
      rw [Paired.length hp, List.length_map]
      refine Nat.le_trans (List.length_filter_le _ _) ?_
      rw [List.length_range]
      exact Nat.le_refl i
    exact hs i x H H' (fun y H4 => ∃ acc, H4 D = some (.lst acc) ∧ acc.length < sizeLine ∧ (i + 1 ≤ n ∧ Same H1 (upd H4 D (.lst (acc ++ [y]))) ∧ ∃ acc2, (upd H4 D (.lst (acc ++ [y]))) D = some (.lst acc2) ∧ Paired (R (upd H4 D (.lst (acc ++ [y])))) acc2 (((List.range (i + 1)).filter h).map f))) (fun H4 => i + 1 ≤ n ∧ Same H1 H4 ∧ ∃ acc2, H4 D = some (.lst acc2) ∧ Paired (R H4) acc2 (((List.range (i + 1)).filter h).map f)) hi sm hY (fun e y H4 sm4 r => by
      have eD4 := sm4 _ _ eD
      refine ⟨acc, eD4, small2000 (by omega), hi, same_mut (sm.trans sm4) nD, _, upd_same, ?_⟩
      rw [more, if_pos e, List.map_append]
      exact S.allPut eD4 (paired_add (S.all sm4 hp) r)) (fun e H4 sm4 => by
      refine ⟨hi, sm.trans sm4, acc, sm4 _ _ eD, ?_⟩
      rw [more, if_neg (by rw [e]; exact Bool.false_ne_true), List.append_nil]
      exact S.all sm4 hp)
  · obtain ⟨_, sm, acc, eD, hp⟩ := hP
    exact hd H acc sm eD hp
theorem range_filter {α : Type} (pr : α → Bool) (d : α) (L : List α) : ((List.range L.length).filter fun i => pr (L.getD i d)).map (fun i => L.getD i d) = L.filter pr := by
  have h := List.filter_map (p := pr) (f := fun i => L.getD i d) (l := List.range L.length)
  have e : (List.range L.length).map (fun i => L.getD i d) = L := by
    have := range_map_get (fun x : α => x) d L
    rw [List.map_id'] at this
    exact this
  rw [e] at h
  exact h.symm
def rLen (K : PySem.W.Frag) : List V → Hp → VK → Prop := fun xs H Q => ∃ p ys, xs = [.ref p] ∧ (SqL K H p ys ∨ SqT K H p ys) ∧ Q (.int (ys.length : Int)) H
theorem call_lenK {X : Cx} : CallR X (.builtin "len") (rLen X.K) := call_len_seq
/-! ### helpers of the law -/
theorem MatV.mono {H H' : Hp} {p : Int} {n : Nat} {x : V} {b : Bool} (e : Same H H') (h : MatV K H p n x b) : MatV K H' p n x b := by
  cases h with
  | no h => exact .no (h.mono e)
  | len h hl => exact .len (Own.same_tup e h) hl
  | yes h hl hb => exact .yes (Own.same_tup e h) hl (Paired.mono2 (fun _ _ k => k.mono e) hb)
theorem slA_q {H : Hp} {a : Addr} {xs : List V} {lo hi : Option Int} {Q : VK} (h : SqT K H a xs) (q : ∀ t H', Same H H' → SqT K H' t (cutV xs lo hi) → Q (.ref t) H') : rSlA K (.ref a) lo hi H Q := by
  refine ⟨a, xs, rfl, h, fun ⟨h0, h1⟩ => q a H (Same.refl H) ?_, fun _ t nt => q t _ (same_new nt) (.inl (.inl upd_same))⟩
  unfold cutV
  rw [h0, h1, List.drop_zero, Nat.sub_zero, List.take_length]
  exact h
theorem catA_q {H : Hp} {a b : Addr} {xs ys : List V} {Q : VK} (hx : SqT K H a xs) (hy : SqT K H b ys) (hl : xs.length + ys.length ≤ 2000) (q : ∀ t H', Same H H' → SqT K H' t (xs ++ ys) → Q (.ref t) H') : rCatA K (.ref a) (.ref b) H Q := by
  refine ⟨a, b, xs, ys, rfl, rfl, hx, hy, Nat.le_of_lt (small2000 (by omega)), fun e => q b H (Same.refl H) ?_, fun _ e => q a H (Same.refl H) ?_, fun _ _ t nt => q t _ (same_new nt) (.inl (.inl upd_same))⟩
  · rw [e, List.nil_append]
    exact hy
  · rw [e, List.append_nil]
    exact hx
theorem cut_init {xs : List V} (h : 0 < xs.length) : cutV xs none (some (-1)) = xs.take (xs.length - 1) := by
  unfold cutV
  have e : HT.sIx xs.length xs.length (some (-1)) = xs.length - 1 := by
    show (if (-1 : Int) < 0 then ((-1 : Int) + (xs.length : Int)).toNat else min (-1 : Int).toNat xs.length) = _
    rw [if_pos (by decide)]
    omega
  rw [HT.sIx_none, e, List.drop_zero, Nat.sub_zero]
theorem cut_one {xs : List V} : cutV xs none (some 1) = xs.take 1 := by
  unfold cutV
  have e : HT.sIx xs.length xs.length (some 1) = min 1 xs.length := HT.sIx_nat _ _ 1
  rw [HT.sIx_none, e, List.drop_zero, Nat.sub_zero]
  cases xs with
  | nil => rfl
  | cons x xs => rw [show min 1 (x :: xs).length = 1 by simp]
theorem at_last {xs : List V} {x : V} (h : xs[xs.length - 1]? = some x) : atI xs (-1) = some x := by
  have h0 : 0 < xs.length := by
    have := (List.getElem?_eq_some_iff.mp h).1
    omega
  unfold atI ixN
  rw [if_neg (by decide), if_pos (by omega)]
  show xs[((-1 : Int) + (xs.length : Int)).toNat]? = some x
  rw [show ((-1 : Int) + (xs.length : Int)).toNat = xs.length - 1 by omega]
  exact h
/-- a tracked tuple of rows that are known to their objects -/
def MR (H : Hp) (t : Addr) (M : List (List Int)) : Prop := ∃ us, H t = some (.tup us) ∧ Paired (RR H) us M
theorem MR.mono {H H' : Hp} {t : Addr} {M : List (List Int)} (e : Same H H') (h : MR H t M) : MR H' t M := by
  obtain ⟨us, h1, h2⟩ := h
  exact ⟨us, e _ _ h1, st_RR.all e h2⟩
theorem MR.x {H H' : Hp} {st t : Addr} {M : List (List Int)} (e : SameX st H H') (hs : StA H st) (h : MR H t M) : MR H' t M := by
  obtain ⟨us, h1, h2⟩ := h
  obtain ⟨s, t0, es⟩ := hs
  exact ⟨us, e _ _ (fun z => by rw [z, es] at h1; cases h1) h1, RR.allx e es h2⟩
theorem MR.at {H : Hp} {t : Addr} {M : List (List Int)} (h : MR H t M) : MatAt K H t M := by
  obtain ⟨us, h1, h2⟩ := h
  exact ⟨us, .inl (.inl h1), rs_all h2⟩
theorem MR.rws {H : Hp} {t : Addr} {M : List (List Int)} (h : MR H t M) : Rws K H t M := by
  obtain ⟨us, h1, h2⟩ := h
  exact ⟨us, .inr (.inl (.inl h1)), h2⟩
theorem dp_mat {H : Hp} {t : Addr} {M : List (List Int)} (h : MatAt K H t M) : Dp K H (.ref t) (dRowsT M) := by
  obtain ⟨us, h1, h2⟩ := h
  exact .tup h1 (dpAll_rowsS h2)
theorem rowV_good {H : Hp} {p : Int} {n : Nat} {x : V} {r : List Int} (h : RR H x r) (hr : Vr p n r) : RowV K H p n x true := by
  obtain ⟨t, rfl, ht⟩ := h
  have key : ∀ r : List Int, (∀ y ∈ r, 0 ≤ y ∧ y < p) → ∃ bs : List Bool, Paired (ItV K H p) (r.map V.int) bs ∧ bs.all id = true := by
    intro r
    induction r with
    | nil => exact fun _ => ⟨[], .nil, rfl⟩
    | cons y r ih =>
      intro h
      obtain ⟨bs, h1, h2⟩ := ih fun z hz => h z (List.mem_cons_of_mem _ hz)
      have hy := h y (List.mem_cons_self ..)
      refine ⟨_ :: bs, .cons (.int y) h1, ?_⟩
      rw [List.all_cons, h2, decide_eq_true hy.1, decide_eq_true hy.2]
      rfl
  obtain ⟨bs, h1, h2⟩ := key r hr.2
  have := RowV.yes (K := K) (H := H) (p := p) (n := n) ht.sq (by rw [List.length_map]; exact hr.1) h1
  rw [h2] at this
  exact this
theorem rows_good {H : Hp} {p : Int} {n : Nat} : ∀ {us : List V} {M : List (List Int)}, Paired (RR H) us M → AllV p n M → ∃ bs, Paired (RowV K H p n) us bs ∧ bs.all id = true
  | _, _, .nil, _ => ⟨[], .nil, rfl⟩
  | _, _, .cons h t, hv => by
    obtain ⟨bs, h1, h2⟩ := rows_good t hv.tail
    exact ⟨true :: bs, .cons (rowV_good h hv.head) h1, by rw [List.all_cons, h2]; rfl⟩
theorem matV_good {H : Hp} {p : Int} {n : Nat} {t : Addr} {M : List (List Int)} (h : MR H t M) (sq : Sqm p n M) : MatV K H p n (.ref t) true := by
  obtain ⟨us, h1, h2⟩ := h
  obtain ⟨bs, k1, k2⟩ := rows_good (K := K) h2 sq.2
  have := MatV.yes (K := K) (n := n) (show SqT K H t us from .inl (.inl h1)) (by rw [Paired.length h2, sq.1]) k1
  rw [k2] at this
  exact this
/-- all rows but the last, then a value that is no row -/
theorem matV_bad {H : Hp} {p : Int} {n : Nat} {t : Addr} {us : List V} {M : List (List Int)} {x : V} (h : SqT K H t (us.take (us.length - 1) ++ [x])) (hP : Paired (RR H) us M) (sq : Sqm p n M) (h0 : 0 < n) (hx : RowV K H p n x false) : MatV K H p n (.ref t) false := by
  have hl : us.length = n := by rw [Paired.length hP, sq.1]
  obtain ⟨bs, k1, k2⟩ := rows_good (K := K) hP sq.2
  have tk : ∀ {xs : List V} {bs : List Bool}, Paired (RowV K H p n) xs bs → ∀ k, Paired (RowV K H p n) (xs.take k) (bs.take k) := by
    intro xs bs h
    induction h with
    | nil => intro k; rw [List.take_nil, List.take_nil]; exact .nil
    | cons h _ ih =>
      intro k
      cases k with
      | zero => exact .nil
      | succ k => exact .cons h (ih k)
  have := MatV.yes (K := K) (n := n) h (by rw [List.length_append, List.length_take]; show min _ _ + 1 = n; omega) (paired_app (tk k1 _) (.cons hx .nil))
  rw [List.all_append] at this
  have e : ([false] : List Bool).all id = false := rfl
  rw [e, Bool.and_false] at this
  exact this
theorem rowV_bad {H : Hp} {p : Int} {n : Nat} {t : Addr} {r : List Int} {x : V} (h : SqT K H t ((r.map V.int).take (n - 1) ++ [x])) (hr : Vr p n r) (h0 : 0 < n) (hx : ItV K H p x false) : RowV K H p n (.ref t) false := by
  have key : ∀ r : List Int, ∃ bs : List Bool, Paired (ItV K H p) (r.map V.int) bs := by
    intro r
    induction r with
    | nil => exact ⟨[], .nil⟩
    | cons y r ih =>
      obtain ⟨bs, h1⟩ := ih
      exact ⟨_ :: bs, .cons (.int y) h1⟩
  rw [← List.map_take] at h
  obtain ⟨bs, k1⟩ := key (r.take (n - 1))
  have := RowV.yes (K := K) (H := H) (p := p) (n := n) h (by rw [List.length_append, List.length_map, List.length_take, hr.1]; show min _ _ + 1 = n; omega) (paired_app k1 (.cons hx .nil))
  rw [List.all_append] at this
  have e : ([false] : List Bool).all id = false := rfl
  rw [e, Bool.and_false] at this
  exact this
/-- a value of the list of the law: no matrix, or the empty one -/
def WV (K : PySem.W.Frag) (H : Hp) (p : Int) (n : Nat) (x : V) : Prop := MatV K H p n x false ∨ (n = 0 ∧ ∃ t, x = .ref t ∧ SqT K H t [])
theorem WV.mono {H H' : Hp} {p : Int} {n : Nat} {x : V} (e : Same H H') (h : WV K H p n x) : WV K H' p n x := by
  rcases h with h | ⟨h, t, h1, h2⟩
  · exact .inl (h.mono e)
  · exact .inr ⟨h, t, h1, Own.same_tup e h2⟩
/-- a list of drawn rows -/
theorem lc_elems {g : TG} {te : TE} {vs : List Nat} {σ : L2.St} {H1 : Hp} {D st : Addr} {p : Int} {n k : Nat} {Qd : Hp → Prop} (hk : k ≤ 1000) (nD : H1 D = none) (hst : StA H1 st)
    (hs : ∀ (i : Nat) (H : Hp) (Q : VK), i < k → SameX st H1 H → StA H st → (∀ v H' r, SameX st H H' → StA H' st → RR H' v r → Vr p n r → Q v H') → g (V.int ((0 : Int) + (i : Int))) (wipe σ vs) H fun σ2 H2 => wipe σ2 vs = wipe σ vs ∧ te σ2 H2 Q)
    (hd : ∀ H us rs, SameX st H1 H → StA H st → H D = some (.lst us) → Paired (RR H) us rs → rs.length = k → AllV p n rs → Qd H) :
    ∃ W : Nat → Nat → Hp → Prop, (∃ m, W 0 m (upd H1 D (.lst []))) ∧ ∀ i m H, W i m H →
      ((Itr 0 k).stop i H ∧ Qd H) ∨ ((Itr 0 k).go i H ∧ ∃ Nx : Hp → Prop, (∀ H', Nx H' → ∃ m', m' < m ∧ W (i + 1) m' H') ∧ ∀ x H', (Itr 0 k).yld i H x H' → g x (wipe σ vs) H' fun σ2 H2 => wipe σ2 vs = wipe σ vs ∧ tYes σ2 H2 fun b H3 =>
        if b = true then te σ2 H3 fun y H4 => ∃ acc, H4 D = some (.lst acc) ∧ acc.length < sizeLine ∧ Nx (upd H4 D (.lst (acc ++ [y]))) else Nx H3) := by
  obtain ⟨s0, t0, est⟩ := hst
  have hD : st ≠ D := ne_of_none est nD
  refine lc_it (walk_range (lo := 0) (n := k)) (fun i H2 => i ≤ k ∧ ∃ (us : List V) (rs : List (List Int)), SameX st H1 H2 ∧ StA H2 st ∧ H2 D = some (.lst us) ∧ Paired (RR H2) us rs ∧ rs.length = i ∧ AllV p n rs)
    ⟨Nat.zero_le _, [], [], Same.x (same_new nD), ⟨s0, t0, by rw [upd_ne hD]; exact est⟩, upd_same, .nil, rfl, fun r h => by cases h⟩ (fun _ _ _ _ => trivial) (fun i x H2 H3 hi hP hY => ?_) (fun H2 hP => ?_)
  · obtain ⟨_, us, rs, sx, hst2, eD, hPr, hl, hv⟩ := hP
    obtain ⟨s1, t1, es1⟩ := id hst2
    obtain ⟨rfl, rfl⟩ := hY
    exact hs i _ (fun y H4 => ∃ acc, H4 D = some (.lst acc) ∧ acc.length < sizeLine ∧ (i + 1 ≤ k ∧ ∃ (us : List V) (rs : List (List Int)), SameX st H1 (upd H4 D (.lst (acc ++ [y]))) ∧ StA (upd H4 D (.lst (acc ++ [y]))) st ∧ (upd H4 D (.lst (acc ++ [y]))) D = some (.lst us) ∧ Paired (RR (upd H4 D (.lst (acc ++ [y])))) us rs ∧ rs.length = i + 1 ∧ AllV p n rs)) hi sx hst2 fun v H4 r sx4 ⟨s2, t2, es2⟩ hR hvr => by
      have eD4 := sx4 _ _ hD.symm eD
      refine ⟨us, eD4, small1000 (by rw [Paired.length hPr]; omega), hi, us ++ [v], rs ++ [r], fun b o nb hb => ?_, ⟨s2, t2, by rw [upd_ne hD]; exact es2⟩, upd_same, st_RR.allPut eD4 (paired_add (RR.allx sx4 es1 hPr) hR), by rw [List.length_append, hl]; rfl, fun y hy => ?_⟩
      · rw [upd_ne (ne_of_none hb nD)]
        exact sx4 b o nb (sx b o nb hb)
      · rcases List.mem_append.mp hy with hy | hy
        · exact hv y hy
        · rw [List.mem_singleton.mp hy]
          exact hvr
  · obtain ⟨_, us, rs, sx, hst2, eD, hPr, hl, hv⟩ := hP
    exact hd H2 us rs sx hst2 eD hPr hl hv
theorem pow_bound2 : ∀ p ∈ primesL, p.toNat ^ (if p > 7 then 1 else if p > 3 then 3 else 4) ≤ 2000 := by decide
theorem pow_le {p : Int} {k m : Nat} (h2 : 2 ≤ p) (hk : k ≤ m) (h : p.toNat ^ m ≤ 2000) : p.toNat ^ k ≤ 2000 := Nat.le_trans (Nat.pow_le_pow_right (by omega) hk) h
/-! ### the law -/
def sp_law (K : PySem.W.Frag) : Sp := fun vs H Q _ => ∃ (a : Addr) (ns : List Int), vs = [.ref a] ∧ SqL K H a (ns.map V.int) ∧ ns.length ≤ 63 ∧ ∀ H', Q (.bl true) H'
theorem pow_bound5 : ∀ p ∈ primesL, p.toNat ^ (if p > 7 then 1 else if p > 3 then 2 else 3) ≤ 2000 := by decide
structure W05 (p : Int) (n : Nat) (st a b : Addr) (M N : List (List Int)) (H : Hp) : Prop where
  st_ : StA H st
  a_ : MR H a M
  b_ : MR H b N
theorem W05.mono {p : Int} {n : Nat} {st a b : Addr} {M N : List (List Int)} {H H' : Hp} (e : Same H H') (h : W05 p n st a b M N H) : W05 p n st a b M N H' := by
  obtain ⟨⟨s, t, e1⟩, h2, h3⟩ := h
  exact ⟨⟨s, t, e _ _ e1⟩, h2.mono e, h3.mono e⟩
theorem W05.x {p : Int} {n : Nat} {st a b : Addr} {M N : List (List Int)} {H H' : Hp} (e : SameX st H H') (hs : StA H' st) (h : W05 p n st a b M N H) : W05 p n st a b M N H' := ⟨hs, h.a_.x e h.st_, h.b_.x e h.st_⟩
theorem ok_law (R : RefC K mg s_RI) (T : Txt K mg) (hself : PySem.W.subIn K (.ref R.C) (.ref R.C) = some true) : FnOk P w K mg base CX0 10 T.a_law T.d_law ["script"] (sp_law K) := by
  have G__law_state : FnOk P w K mg base CX0 1 T.a__law_state T.d__law_state ["script"] (spState K) := ok_state T
  have G__law_take : FnOk P w K mg base CX0 1 T.a__law_take T.d__law_take ["state", "m"] spTake := ok_take T
  have G__law_prime : FnOk P w K mg base CX0 2 T.a__law_prime T.d__law_prime ["state"] spPrime := ok_prime T
  have G__law_element : FnOk P w K mg base CX0 2 T.a__law_element T.d__law_element ["state", "p", "n"] spLElement := ok_lelement T
  have G__law_scaled : FnOk P w K mg base CX0 1 T.a__law_scaled T.d__law_scaled ["v", "a", "p"] spLScaled := ok_lscaled T
  have G__law_unit : FnOk P w K mg base CX0 1 T.a__law_unit T.d__law_unit ["n", "at"] spLUnit := ok_lunit T
  have G__law_total : FnOk P w K mg base CX0 2 T.a__law_total T.d__law_total ["p", "rows", "weights", "n"] (spLTotal K) := ok_ltotal T
  have G__law_times : FnOk P w K mg base CX0 1 T.a__law_times T.d__law_times ["p", "a", "b"] (spLTimes K) := ok_ltimes T
  have G__law_span : FnOk P w K mg base CX0 2 T.a__law_span T.d__law_span ["rows", "n", "p"] (spLSpan K) := ok_lspan T
  have G__law_all : FnOk P w K mg base CX0 1 T.a__law_all T.d__law_all ["n", "p"] (spLAll K) := ok_lall T
  have G__law_reason : FnOk P w K mg base CX0 9 T.a__law_reason T.d__law_reason ["matrix", "p"] (spReason K) := ok_reason R T hself
  have G_moved : FnOk P w K mg base CX0 3 T.a_moved T.d_moved ["v", "matrix", "p"] (spMoved K) := ok_moved T
  have G_times : FnOk P w K mg base CX0 4 T.a_times T.d_times ["one", "two", "p"] (spTimes K) := ok_times T
  have G_identity : FnOk P w K mg base CX0 2 T.a_identity T.d_identity ["n"] (spIdentity K) := ok_identity T
  have G_matrix_power : FnOk P w K mg base CX0 5 T.a_matrix_power T.d_matrix_power ["matrix", "k", "p"] (spPow K) := ok_mpow T
  have G_is_invertible : FnOk P w K mg base CX0 6 T.a_is_invertible T.d_is_invertible ["matrix", "p"] (spIsInv K) := ok_isinv T
  have G_matrix_inverse : FnOk P w K mg base (L2.CX P w) 7 T.a_matrix_inverse T.d_matrix_inverse ["matrix", "p"] (spMInv K R.C) := ok_minv R T
  have G_is_matrix : FnOk P w K mg base CX0 3 T.a_is_matrix T.d_is_matrix ["value", "p", "n"] (spIsMatrix K) := ok_ismatrix T
  refine T.F_law.ok sc_law (fun vs H Q E h => ?_) (fun cdv A outer s H vs Q E hr h => ?_)
  · obtain ⟨a, ns, rfl, _⟩ := h
    rfl
  · obtain ⟨as, ns, rfl, hS, hlen, q⟩ := h
    refine ⟨_, (pss_cons (ps_set (i := 1) sc_law.nd rfl (.inr rfl) (pe_call G__law_state (hr.mono (by decide)) (by rfl) T.g__law_state T.F__law_state.kp T.b__law_state .nil pass0 (pa_cons (pv 0) pa_nil))) 
    (pss_cons (ps_set (i := 2) sc_law.nd rfl (.inr rfl) (pe_call G__law_prime (hr.mono (by decide)) (by rfl) T.g__law_prime T.F__law_prime.kp T.b__law_prime .nil pass0 (pa_cons (pv 1) pa_nil))) 
    (pss_cons (ps_set (i := 3) sc_law.nd rfl (.inr rfl) (pe_call G__law_take (hr.mono (by decide)) (by rfl) T.g__law_take T.F__law_take.kp T.b__law_take .nil pass0 (pa_cons (pv 1) (pa_cons (pe_op op_subL (pe_op op_subL pe_int (pe_callTy call_int1 (by rfl) T.n_int (by decide +kernel) (pa_cons (pe_cmpR op_gt (pv 2) pe_int (nomark _)) pa_nil))) (pe_callTy call_int1 (by rfl) T.n_int (by decide +kernel) (pa_cons (pe_cmpR op_gt (pv 2) pe_int (nomark _)) pa_nil))) pa_nil)))) 
    (pss_cons (ps_set (i := 5) sc_law.nd rfl (.inr rfl) (pe_callTy call_tuple_of (by rfl) T.n_tuple (by decide +kernel) (pa_cons (pe_lc (own := [("k", 4)]) rfl sc_law.nd (pi_range1 (by rfl) T.n_range (pa_cons (pv 3) pa_nil)) (blkOk_by (N := N_law) (sc := defScope s_law) (own := [("k", 4)]) (by decide +kernel)) (fun _ _ _ _ _ => (pg_name (i := 4) sc_law.nd rfl (.inl rfl))) (fun _ _ _ _ _ => pts_nil) (fun _ _ _ _ _ => (pe_call G__law_element (hr.mono (by decide)) (by rfl) T.g__law_element T.F__law_element.kp T.b__law_element .nil pass0 (pa_cons (pv 1) (pa_cons (pv 2) (pa_cons (pv 3) pa_nil)))))) pa_nil))) 
    (pss_cons (ps_set (i := 6) sc_law.nd rfl (.inl rfl) (pe_callTy call_tuple_of (by rfl) T.n_tuple (by decide +kernel) (pa_cons (pe_lc (own := [("k", 4)]) rfl sc_law.nd (pi_range1 (by rfl) T.n_range (pa_cons (pv 3) pa_nil)) (blkOk_by (N := N_law) (sc := defScope s_law) (own := [("k", 4)]) (by decide +kernel)) (fun _ _ _ _ _ => (pg_name (i := 4) sc_law.nd rfl (.inl rfl))) (fun _ _ _ _ _ => pts_nil) (fun _ _ _ _ _ => (pe_call G__law_element (hr.mono (by decide)) (by rfl) T.g__law_element T.F__law_element.kp T.b__law_element .nil pass0 (pa_cons (pv 1) (pa_cons (pv 2) (pa_cons (pv 3) pa_nil)))))) pa_nil))) 
    (C8.pss_cut (ps_if (PW.pt (pw_and (pt_cmpR op_gt (pv 3) pe_int (nomark _)) (pw_and1 (pt_cmpR op_eq (pe_call G__law_take (hr.mono (by decide)) (by rfl) T.g__law_take T.F__law_take.kp T.b__law_take .nil pass0 (pa_cons (pv 1) (pa_cons pe_int pa_nil))) pe_int (nomark _))))) 
      (pss_one (ps_set (i := 5) sc_law.nd rfl (.inr rfl) (pe_op op_catA (pe_slice sl_tupA (pv 5) po_none (po_some (pe_un un_neg pe_int))) (pe_tup (pa_cons (pe_call G__law_scaled (hr.mono (by decide)) (by rfl) T.g__law_scaled T.F__law_scaled.kp T.b__law_scaled .nil pass0 (pa_cons (pe_ix ix_tup (pv 5) pe_int (fun _ _ => rfl)) (pa_cons (pe_call G__law_take (hr.mono (by decide)) (by rfl) T.g__law_take T.F__law_take.kp T.b__law_take .nil pass0 (pa_cons (pv 1) (pa_cons (pv 2) pa_nil))) (pa_cons (pv 2) pa_nil)))) pa_nil))))) pss_nil) 
    (pss_cons (ps_set (i := 7) sc_law.nd rfl (.inl rfl) (pe_callTy call_tuple_of (by rfl) T.n_tuple (by decide +kernel) (pa_cons (pe_lc (own := [("k", 4)]) rfl sc_law.nd (pi_range1 (by rfl) T.n_range (pa_cons (pv 3) pa_nil)) (blkOk_by (N := N_law) (sc := defScope s_law) (own := [("k", 4)]) (by decide +kernel)) (fun _ _ _ _ _ => (pg_name (i := 4) sc_law.nd rfl (.inl rfl))) (fun _ _ _ _ _ => pts_nil) (fun _ _ _ _ _ => (pe_call G__law_unit (hr.mono (by decide)) (by rfl) T.g__law_unit T.F__law_unit.kp T.b__law_unit .nil pass0 (pa_cons (pv 3) (pa_cons (pv 4) pa_nil))))) pa_nil))) 
    (pss_cons (ps_set (i := 8) sc_law.nd rfl (.inl rfl) (pe_call G__law_element (hr.mono (by decide)) (by rfl) T.g__law_element T.F__law_element.kp T.b__law_element .nil pass0 (pa_cons (pv 1) (pa_cons (pv 2) (pa_cons (pv 3) pa_nil))))) 
    (C8.pss_cut (ps_if (PW.pt (pw_or (pt_cmpR (op_neD hr.units) (pe_call G_moved (hr.mono (by decide)) (by rfl) T.g_moved T.F_moved.kp T.b_moved .nil pass0 (pa_cons (pv 8) (pa_cons (pv 5) (pa_cons (pv 2) pa_nil)))) (pe_call G__law_total (hr.mono (by decide)) (by rfl) T.g__law_total T.F__law_total.kp T.b__law_total .nil pass0 (pa_cons (pv 2) (pa_cons (pv 5) (pa_cons (pv 8) (pa_cons (pv 3) pa_nil))))) (nomark _)) (pw_or (pt_cmpR (op_neD hr.units) (pe_call G_times (hr.mono (by decide)) (by rfl) T.g_times T.F_times.kp T.b_times .nil pass0 (pa_cons (pv 5) (pa_cons (pv 6) (pa_cons (pv 2) pa_nil)))) (pe_call G__law_times (hr.mono (by decide)) (by rfl) T.g__law_times T.F__law_times.kp T.b__law_times .nil pass0 (pa_cons (pv 2) (pa_cons (pv 5) (pa_cons (pv 6) pa_nil)))) (nomark _)) (pw_or1 (pt_cmpR (op_neD hr.units) (pe_call G_identity (hr.mono (by decide)) (by rfl) T.g_identity T.F_identity.kp T.b_identity .nil pass0 (pa_cons (pv 3) pa_nil)) (pv 7) (nomark _)))))) 
      (pss_one (ps_ret pe_bl)) pss_nil) 
    (pss_cons (ps_set (i := 4) sc_law.nd rfl (.inl rfl) (pe_call G__law_take (hr.mono (by decide)) (by rfl) T.g__law_take T.F__law_take.kp T.b__law_take .nil pass0 (pa_cons (pv 1) (pa_cons pe_int pa_nil)))) 
    (pss_cons (ps_set (i := 9) sc_law.nd rfl (.inl rfl) (pv 7)) 
    (pss_cons (ps_for PassesOwn.never rfl (pi_range1 (by rfl) T.n_range (pa_cons (pv 4) pa_nil)) (pg_name (i := 10) sc_law.nd rfl (.inl rfl)) 
      (pss_one (ps_set (i := 9) sc_law.nd rfl (.inl rfl) (pe_call G__law_times (hr.mono (by decide)) (by rfl) T.g__law_times T.F__law_times.kp T.b__law_times .nil pass0 (pa_cons (pv 2) (pa_cons (pv 9) (pa_cons (pv 5) pa_nil))))))) 
    (C8.pss_cut (ps_if (pt_cmpR (op_neD hr.units) (pe_call G_matrix_power (hr.mono (by decide)) (by rfl) T.g_matrix_power T.F_matrix_power.kp T.b_matrix_power .nil pass0 (pa_cons (pv 5) (pa_cons (pv 4) (pa_cons (pv 2) pa_nil)))) (pv 9) (nomark _)) 
      (pss_one (ps_ret pe_bl)) pss_nil) 
    (pss_cons (ps_set (i := 11) sc_law.nd rfl (.inl rfl) (pe_cmpR op_eq (pe_callB call_len_seq (by rfl) T.n_len (by decide +kernel) (pa_cons (pe_call G__law_span (hr.mono (by decide)) (by rfl) T.g__law_span T.F__law_span.kp T.b__law_span .nil pass0 (pa_cons (pv 5) (pa_cons (pv 3) (pa_cons (pv 2) pa_nil)))) pa_nil)) (pe_callB call_len_seq (by rfl) T.n_len (by decide +kernel) (pa_cons (pe_call G__law_all (hr.mono (by decide)) (by rfl) T.g__law_all T.F__law_all.kp T.b__law_all .nil pass0 (pa_cons (pv 3) (pa_cons (pv 2) pa_nil))) pa_nil)) (nomark _))) 
    (pss_cons (ps_set (i := 12) sc_law.nd rfl (.inl rfl) (pe_call G_is_invertible (hr.mono (by decide)) (by rfl) T.g_is_invertible T.F_is_invertible.kp T.b_is_invertible .nil pass0 (pa_cons (pv 5) (pa_cons (pv 2) pa_nil)))) 
    (C8.pss_cut (ps_if (PW.pt (pw_or (pt_not (pt_val (pe_callB call_isi (by rfl) T.n_isinstance (by decide +kernel) (pa_cons (pv 12) (pa_cons (pe_bltn (v := .ty "bool") (by rfl) T.n_bool (by decide +kernel) rfl) pa_nil))))) (pw_or1 (pt_cmpR op_ne (pv 12) (pv 11) (nomark _))))) 
      (pss_one (ps_ret pe_bl)) pss_nil) 
    (C8.pss_cut (ps_if (pt_truth (pv 11) (by intro _; rfl)) 
      (pss_cons (ps_set (i := 13) sc_law.nd rfl (.inl rfl) (pe_call G_matrix_inverse (hr.mono (by decide)) (by rfl) T.g_matrix_inverse T.F_matrix_inverse.kp T.b_matrix_inverse .nil passL (pa_cons (pv 5) (pa_cons (pv 2) pa_nil)))) 
      (pss_one (ps_if (PW.pt (pw_or (pt_cmpR (op_neD hr.units) (pe_call G__law_times (hr.mono (by decide)) (by rfl) T.g__law_times T.F__law_times.kp T.b__law_times .nil pass0 (pa_cons (pv 2) (pa_cons (pv 5) (pa_cons (pv 13) pa_nil)))) (pv 7) (nomark _)) (pw_or (pt_cmpR (op_neD hr.units) (pe_call G__law_times (hr.mono (by decide)) (by rfl) T.g__law_times T.F__law_times.kp T.b__law_times .nil pass0 (pa_cons (pv 2) (pa_cons (pv 13) (pa_cons (pv 5) pa_nil)))) (pv 7) (nomark _)) (pw_or1 (pt_not (pt_val (pe_callB call_isi (by rfl) T.n_isinstance (by decide +kernel) (pa_cons (pv 13) (pa_cons (pe_bltn (v := .ty "tuple") (by rfl) T.n_tuple (by decide +kernel) rfl) pa_nil))))))))) 
        (pss_one (ps_ret pe_bl)) pss_nil))) 
      (pss_one (ps_if (pt_cmpR op_ne (pe_call G__law_reason (hr.mono (by decide)) (by rfl) T.g__law_reason T.F__law_reason.kp T.b__law_reason .nil pass0 (pa_cons (pv 5) (pa_cons (pv 2) pa_nil))) pe_str (nomark _)) 
        (pss_one (ps_ret pe_bl)) pss_nil))) 
    (pss_cons (ps_set (i := 14) sc_law.nd rfl (.inl rfl) (pe_lst (pa_cons (pe_callTy call_list_of (by rfl) T.n_list (by decide +kernel) (pa_cons (pv 5) pa_nil)) (pa_cons (pe_op op_catA (pe_op op_catA (pv 5) (pe_slice sl_tupA (pv 7) po_none (po_some pe_int))) (pe_slice sl_tupA (pv 7) po_none (po_some pe_int))) (pa_cons pe_non (pa_cons pe_int (pa_cons pe_str (pa_cons (pe_op op_catA (pv 5) (pe_tup (pa_cons (pe_op Own.op_repA (pe_tup (pa_cons pe_int pa_nil)) (pe_op op_add (pv 3) pe_int)) pa_nil))) pa_nil)))))))) 
    (C8.pss_cut (ps_if (pt_cmpR op_gt (pv 3) pe_int (nomark _)) 
      (pss_one (ps_set (i := 14) sc_law.nd rfl (.inl rfl) (pe_op op_cat (pv 14) (pe_lst (pa_cons (pe_slice sl_tupA (pv 5) po_none (po_some (pe_un un_neg pe_int))) (pa_cons (pe_op op_catA (pe_slice sl_tupA (pv 5) po_none (po_some (pe_un un_neg pe_int))) (pe_tup (pa_cons (pe_callTy call_list_of (by rfl) T.n_list (by decide +kernel) (pa_cons (pe_ix ix_tup (pv 5) (pe_un un_neg pe_int) (fun _ _ => rfl)) pa_nil)) pa_nil))) (pa_cons (pe_op op_catA (pe_slice sl_tupA (pv 5) po_none (po_some (pe_un un_neg pe_int))) (pe_tup (pa_cons (pe_op op_catA (pe_slice sl_tupA (pe_ix ix_tup (pv 5) (pe_un un_neg pe_int) (fun _ _ => rfl)) po_none (po_some (pe_un un_neg pe_int))) (pe_tup (pa_cons (pv 2) pa_nil))) pa_nil))) (pa_cons (pe_op op_catA (pe_slice sl_tupA (pv 5) po_none (po_some (pe_un un_neg pe_int))) (pe_tup (pa_cons (pe_op op_catA (pe_slice sl_tupA (pe_ix ix_tup (pv 5) (pe_un un_neg pe_int) (fun _ _ => rfl)) po_none (po_some (pe_un un_neg pe_int))) (pe_tup (pa_cons pe_bl pa_nil))) pa_nil))) (pa_cons (pe_op op_catA (pe_slice sl_tupA (pv 5) po_none (po_some (pe_un un_neg pe_int))) (pe_tup (pa_cons (pe_op op_catA (pe_ix ix_tup (pv 5) (pe_un un_neg pe_int) (fun _ _ => rfl)) (pe_tup (pa_cons pe_int pa_nil))) pa_nil))) pa_nil))))))))) pss_nil) 
    (pss_one (ps_ret (pe_and (pe_cmpR op_is_bl (pe_call G_is_matrix (hr.mono (by decide)) (by rfl) T.g_is_matrix T.F_is_matrix.kp T.b_is_matrix .nil pass0 (pa_cons (pv 5) (pa_cons (pv 2) (pa_cons (pv 3) pa_nil)))) pe_bl (nomark _)) (pe_one (pe_cmpR op_eq (pe_callB call_len_seq (by rfl) T.n_len (by decide +kernel) (pa_cons (pe_lc (own := [("value", 15)]) rfl sc_law.nd (pi_list (pv 14)) (blkOk_by (N := N_law) (sc := defScope s_law) (own := [("value", 15)]) (by decide +kernel)) (fun _ _ _ _ _ => (pg_name (i := 15) sc_law.nd rfl (.inl rfl))) (fun _ _ _ _ _ => (pts_one (PW.pt (pw_and (pt_cmpR op_isnot_bl (pe_call G_is_matrix (hr.mono (by decide)) (by rfl) T.g_is_matrix T.F_is_matrix.kp T.b_is_matrix .nil pass0 (pa_cons (pv 15) (pa_cons (pv 2) (pa_cons (pv 3) pa_nil)))) pe_bl (nomark _)) (pw_and1 (pt_cmpR (show OpR _ _ (rNeD K) from op_neD hr.units) (pv 15) (pv 5) (nomark _))))))) (fun _ _ _ _ _ => (pv 15))) pa_nil)) pe_int (nomark _))))))))))))))))))))))))), ?_⟩
    refine ⟨_, rfl, as, ns, rfl, hS, fun H1 st s0 t0 _ _ est => ?_⟩
    refine ⟨_, rfl, st, rfl, ⟨s0, t0, est⟩, fun H2 p sx2 hst2 hp => ?_⟩
    have P := pr_of hp
    have hpp := P.pos
    have h2 := P.two
    have h31 := P.le
    -- n
    refine ⟨_, rfl, ?_⟩
    refine ⟨_, rfl, _, _, rfl, rfl, .inr ⟨_, rfl, _, _, rfl, rfl, fun z1 hz1 => ?_⟩⟩
    refine ⟨_, rfl, _, _, rfl, rfl, .inr ⟨_, rfl, _, _, rfl, rfl, fun z hz => ?_⟩⟩
    obtain ⟨m, hm, hm3, hmp⟩ : ∃ m : Nat, z = (m : Int) + 1 ∧ m ≤ 3 ∧ m ≤ (if p > 7 then 1 else if p > 3 then 2 else 3) := by
      subst hz1
      by_cases c7 : 7 < p
      · exact ⟨1, by rw [hz, if_pos (decide_eq_true c7), if_pos (decide_eq_true (show 3 < p by omega))]; decide, by decide, by rw [if_pos (by exact c7)]; exact Nat.le_refl 1⟩
      · by_cases c3 : 3 < p
        · exact ⟨2, by rw [hz, if_neg (fun z => c7 (of_decide_eq_true z)), if_pos (decide_eq_true c3)]; decide, by decide, by rw [if_neg (by exact c7), if_pos (by exact c3)]; exact Nat.le_refl 2⟩
        · exact ⟨3, by rw [hz, if_neg (fun z => c7 (of_decide_eq_true z)), if_neg (fun z => c3 (of_decide_eq_true z))]; decide, by decide, by rw [if_neg (by exact c7), if_neg (by exact c3)]; exact Nat.le_refl 3⟩
    clear hz hz1
    subst hm
    obtain ⟨s2, t2, est2⟩ := hst2
    refine ⟨st, _, s2, t2, rfl, by omega, by omega, est2, fun v s3 t3 v0 v1 => ?_⟩
    obtain ⟨n, rfl⟩ := Int.eq_ofNat_of_zero_le v0
    have hn : n ≤ m := by omega
    have hn3 : n ≤ 3 := by omega
    have hpow : p.toNat ^ n ≤ 2000 := pow_le h2 (Nat.le_trans hn hmp) (pow_bound5 p hp)
    generalize hH3 : upd H2 st (.lst [.int s3, .int t3]) = H3
    have hst3 : StA H3 st := ⟨s3, t3, by rw [← hH3, upd_same]⟩
    clear sx2 est2 est
    -- a
    refine ⟨_, rfl, (n : Int), rfl, by omega, by omega, fun D nD => ?_⟩
    refine lc_elems (p := p) (n := n) (by omega : n ≤ 1000) nD hst3 (fun i H4 Q2 hi sx4 hst4 q2 => ?_) (fun H4 us M sx4 hst4 eD hPM hlM hvM => ?_)
    · exact ⟨rfl, _, rfl, _, rfl, _, rfl, st, p, n, rfl, hst4, hpp, by omega, by omega, fun v H5 r sx5 hst5 hR hvr => q2 v H5 r sx5 hst5 hR hvr⟩
    refine ⟨D, us, rfl, .inl ⟨.inl (.inl eD), fun a na => ?_⟩⟩
    have s4 := same_new (o := .tup us) na
    have hst4 : StA (upd H4 a (.tup us)) st := by obtain ⟨s, t, e⟩ := hst4; exact ⟨s, t, s4 _ _ e⟩
    have mA : MR (upd H4 a (.tup us)) a M := ⟨us, upd_same, st_RR.all s4 hPM⟩
    have sqM : Sqm p n M := ⟨hlM, hvM⟩
    generalize upd H4 a (.tup us) = H5 at *
    clear sx4 eD hPM s4 na nD
    -- b
    refine ⟨_, rfl, (n : Int), rfl, by omega, by omega, fun D2 nD2 => ?_⟩
    refine lc_elems (p := p) (n := n) (by omega : n ≤ 1000) nD2 hst4 (fun i H6 Q2 hi sx6 hst6 q2 => ?_) (fun H6 us2 N sx6 hst6 eD2 hPN hlN hvN => ?_)
    · exact ⟨rfl, _, rfl, _, rfl, _, rfl, st, p, n, rfl, hst6, hpp, by omega, by omega, fun v H5 r sx5 hst5 hR hvr => q2 v H5 r sx5 hst5 hR hvr⟩
    have mA6 := mA.x sx6 hst4
    refine ⟨D2, us2, rfl, .inl ⟨.inl (.inl eD2), fun b nb => ?_⟩⟩
    have s6 := same_new (o := .tup us2) nb
    have sqN : Sqm p n N := ⟨hlN, hvN⟩
    have W7 : W05 p n st a b M N (upd H6 b (.tup us2)) := ⟨by obtain ⟨s, t, e⟩ := hst6; exact ⟨s, t, s6 _ _ e⟩, mA6.mono s6, ⟨us2, upd_same, st_RR.all s6 hPN⟩⟩
    generalize upd H6 b (.tup us2) = H7 at *
    clear sx6 eD2 hPN s6 nb nD2 mA6 mA hst4 hst6 hvM hvN hlM hlN
    refine ⟨fun σ H => ∃ (a : Addr) (M : List (List Int)), Sqm p n M ∧ W05 p n st a b M N H ∧ σ = [some (.ref as), some (.ref st), some (.int p), some (.int (n : Int)), none, some (.ref a), some (.ref b), none, none, none, none, none, none, none, none, none], ?_, ?_⟩
    · refine ⟨_, rfl, _, _, rfl, rfl, _, rfl, ite2 (fun c => ?_) (fun c => ?_)⟩
      · have hn1 : 1 < n := by
          have := of_decide_eq_true c
          omega
        obtain ⟨s, t, e7⟩ := W7.st_
        refine ⟨_, rfl, st, 3, s, t, rfl, by decide, by decide, e7, fun z s2 t2 z0 z1 => ⟨rfl, _, rfl, ?_⟩⟩
        have W8 : W05 p n st a b M N (upd H7 st (.lst [.int s2, .int t2])) := W7.x SameX.put ⟨s2, t2, upd_same⟩
        generalize upd H7 st (.lst [.int s2, .int t2]) = H8 at *
        refine ite2 (fun c2 => ?_) (fun c2 => ⟨a, M, sqM, W8, rfl⟩)
        obtain ⟨us, ea, hP⟩ := W8.a_
        have hul : us.length = n := by rw [Paired.length hP, sqM.1]
        refine ⟨_, rfl, 1, rfl, _, rfl, slA_q (.inl (.inl ea)) fun t1 H9 sm9 hT1 => ?_⟩
        rw [cut_init (by omega)] at hT1
        have W9 := W8.mono sm9
        obtain ⟨r0, er0⟩ : ∃ r, M[0]? = some r := ⟨_, List.getElem?_eq_getElem (by rw [sqM.1]; omega)⟩
        obtain ⟨x0, ex0, hR0⟩ := paired_get2 hP er0
        have hv0 := sqM.2 r0 (List.mem_of_getElem? er0)
        obtain ⟨s3, t3, e9⟩ := W9.st_
        refine ⟨_, rfl, a, us, _, _, rfl, rfl, .inl (.inl (sm9 _ _ ea)), atI_nat (j := 0) ex0, _, rfl, _, rfl, st, p, s3, t3, rfl, by omega, by omega, e9, fun c s4 t4 c0 c1 => ?_⟩
        have sxA : SameX st H9 (upd H9 st (.lst [.int s4, .int t4])) := SameX.put
        have W10 := W9.x sxA ⟨s4, t4, upd_same⟩
        have hR1 := RR.x sxA e9 (st_RR.same sm9 hR0)
        have hT2 : SqT K (upd H9 st (.lst [.int s4, .int t4])) t1 (us.take (us.length - 1)) := by
          rcases hT1 with (h | ⟨o, h⟩) | h
          · exact .inl (.inl (sxA _ _ (fun z => by rw [z, e9] at h; cases h) h))
          · exact .inl (.inr ⟨o, sxA _ _ (fun z => by rw [z, e9] at h; cases h) h⟩)
          · exact .inr h
        have hP2 : Paired (RR (upd H9 st (.lst [.int s4, .int t4]))) us M := by
          have := W10.a_
          exact RR.allx sxA e9 (st_RR.all sm9 hP)
        generalize upd H9 st (.lst [.int s4, .int t4]) = H10 at *
        refine ⟨_, rfl, x0, c, p, r0, rfl, hR1, hpp, by rw [hv0.1]; omega, by omega, hv0.sm h31, fun sv H11 sm11 hRs => ?_⟩
        refine ⟨by show 1 ≤ sizeLine; decide, fun u nu => ?_⟩
        have s11 := same_new (o := .tup [sv]) nu
        have smA := sm11.trans s11
        refine ⟨t1, u, us.take (us.length - 1), [sv], rfl, rfl, Own.same_tup smA hT2, .inl (.inl upd_same), ?_, fun h0 => ?_, (fun _ h => by cases h), fun _ _ a2 na2 => ?_⟩
        · rw [List.length_take]
          exact Nat.le_of_lt (small2000 (by show min _ _ + 1 ≤ 100000; omega))
        · have := congrArg List.length h0
          rw [List.length_take, List.length_nil] at this
          omega
        · have s12 := same_new (o := .tup (us.take (us.length - 1) ++ [sv])) na2
          have smB := smA.trans s12
          have tk : ∀ {H : Hp} {xs : List V} {M : List (List Int)}, Paired (RR H) xs M → ∀ k, Paired (RR H) (xs.take k) (M.take k) := by
            intro H xs M h
            induction h with
            | nil => intro k; rw [List.take_nil, List.take_nil]; exact .nil
            | cons h _ ih =>
              intro k
              cases k with
              | zero => exact .nil
              | succ k => exact .cons h (ih k)
          refine ⟨a2, M.take (n - 1) ++ [scR p r0 c], ⟨by rw [List.length_append, List.length_take, sqM.1]; show min _ _ + 1 = n; omega, fun r hr => ?_⟩, ⟨(W10.mono smB).st_, ⟨us.take (us.length - 1) ++ [sv], upd_same, ?_⟩, (W10.mono smB).b_⟩, rfl⟩
          · rcases List.mem_append.mp hr with hr | hr
            · exact sqM.2 r (List.mem_of_mem_take hr)
            · rw [List.mem_singleton.mp hr]
              exact scR_vr hpp hv0.1 c
          · have hk := tk (st_RR.all smB hP2) (us.length - 1)
            rw [show M.take (n - 1) = M.take (us.length - 1) by rw [hul]]
            exact paired_app hk (.cons (st_RR.same (s11.trans s12) hRs) .nil)
      · exact ⟨a, M, sqM, W7, rfl⟩
    clear W7
    rintro σ8 H8 ⟨a, M, sqM, W8, rfl⟩
    -- one
    refine ⟨_, rfl, (n : Int), rfl, by omega, by omega, fun D nD => ?_⟩
    refine lc_rep (walk_range (lo := 0) (n := n)) st_RR (fun j => unitR n j) (by omega) nD (fun H2 sm => trivial) (fun i x H9 H10 Q2 hi sm9 hY q2 => ?_) (fun H9 acc sm9 eD hPo => ?_)
    · obtain ⟨rfl, rfl⟩ := hY
      have e0 : ((0 : Int) + (i : Int)) = (i : Int) := by omega
      refine ⟨rfl, _, rfl, _, rfl, n, i, by show [V.int (n : Int), V.int ((0 : Int) + (i : Int))] = _; rw [e0], by omega, fun v H4 sm4 hR => q2 v H4 sm4 hR⟩
    refine ⟨D, acc, rfl, .inl ⟨.inl (.inl eD), fun o no => ?_⟩⟩
    have s9 := same_new (o := .tup acc) no
    have W9 := W8.mono (sm9.trans s9)
    have mO : MR (upd H9 o (.tup acc)) o (idM n) := ⟨acc, upd_same, st_RR.all s9 hPo⟩
    generalize upd H9 o (.tup acc) = H10 at *
    clear sm9 eD hPo s9 no nD W8
    -- v
    refine ⟨_, rfl, _, rfl, _, rfl, st, p, n, rfl, W9.st_, hpp, by omega, by omega, fun v H11 r sx11 hst11 hRv hvr => ?_⟩
    have W11 := W9.x sx11 hst11
    have mO11 := mO.x sx11 W9.st_
    clear W9 mO
    have sqI := idM_sq h2 n
    refine ⟨fun σ H => W05 p n st a b M N H ∧ MR H o (idM n) ∧ σ = [some (.ref as), some (.ref st), some (.int p), some (.int (n : Int)), none, some (.ref a), some (.ref b), some (.ref o), some v, none, none, none, none, none, none, none], ?_, ?_⟩
    · obtain ⟨tv, rfl, htv⟩ := hRv
      refine ⟨_, rfl, _, rfl, _, rfl, tv, a, n, p, M, r, rfl, htv.sq, W11.a_.at, hvr.1, hpp, h31, by omega, sqM, hvr.sm h31, fun mv H12 sm12 hRm => ?_⟩
      have W12 := W11.mono sm12
      refine ⟨_, rfl, _, rfl, _, rfl, _, rfl, a, .ref tv, n, p, M, r, rfl, W12.a_.rws, ⟨tv, rfl, .inr (htv.mono sm12).sq⟩, hpp, h31, by omega, by rw [sqM.1]; omega, by rw [hvr.1, sqM.1], sqM.2, hvr.sm h31, fun lv H13 sm13 hRl => ?_⟩
      have W13 := W12.mono sm13
      have smB := sm12.trans sm13
      refine ⟨dInts (totR p n M r), dInts (totR p n M r), by obtain ⟨t, rfl, ht⟩ := st_RS.same sm13 hRm; exact dp_ints ht, by obtain ⟨t, rfl, ht⟩ := hRl; exact dp_ints ht.sq, shaped_dInts _, shaped_dInts _, _, rfl, iteB (by rw [eqv_dInts]; exact not_dec rfl) ?_⟩
      refine ⟨_, rfl, _, rfl, _, rfl, a, b, n, p, M, N, rfl, W13.a_.at, W13.b_.at, sqM, sqN, hpp, h31, by omega, fun t1 H14 sm14 hT1 => ?_⟩
      have W14 := W13.mono sm14
      refine ⟨_, rfl, _, rfl, _, rfl, a, b, n, p, M, N, rfl, W14.a_.at, W14.b_.at, sqM, sqN, hpp, h31, by omega, fun t2 H15 sm15 hT2 => ?_⟩
      have W15 := W14.mono sm15
      refine ⟨dRowsT _, dRowsT _, dp_mat (hT1.mono sm15), dp_mat hT2, shaped_dRowsT _, shaped_dRowsT _, _, rfl, iteB (by unfold dRowsT; rw [eqvAll_tup]; exact not_dec rfl) ?_⟩
      refine ⟨_, rfl, n, rfl, by omega, fun t3 H16 sm16 hT3 => ?_⟩
      have smC := smB.trans (sm14.trans (sm15.trans sm16))
      have mO16 := mO11.mono smC
      exact ⟨_, rfl, dRowsT _, dRowsT _, dp_mat hT3, dp_mat mO16.at, shaped_dRowsT _, shaped_dRowsT _, _, rfl, iteB (by unfold dRowsT; rw [eqvAll_tup]; exact not_dec rfl) ⟨W15.mono sm16, mO16, rfl⟩⟩
    clear W11 mO11 hRv sx11 hst11
    rintro σ12 H12 ⟨W12, mO12, rfl⟩
    -- k, due
    obtain ⟨s12, t12, e12⟩ := W12.st_
    refine ⟨_, rfl, st, 6, s12, t12, rfl, by decide, by decide, e12, fun kz s13 t13 k0 k1 => ?_⟩
    obtain ⟨k, rfl⟩ := Int.eq_ofNat_of_zero_le k0
    have sxA : SameX st H12 (upd H12 st (.lst [.int s13, .int t13])) := SameX.put
    have W13 := W12.x sxA ⟨s13, t13, upd_same⟩
    have mO13 := mO12.x sxA W12.st_
    generalize upd H12 st (.lst [.int s13, .int t13]) = H13 at *
    clear W12 mO12 sxA e12
    refine ⟨_, rfl, ?_⟩
    refine ⟨_, rfl, (k : Int), rfl, by omega, by omega, ?_⟩
    refine for_range (lo := 0) (n := k) (fun i σ H => ∃ (d : Addr) (y10 : Option V), W05 p n st a b M N H ∧ MR H o (idM n) ∧ MatAt K H d (powM p n M i) ∧ σ = [some (.ref as), some (.ref st), some (.int p), some (.int (n : Int)), some (.int (k : Int)), some (.ref a), some (.ref b), some (.ref o), some v, some (.ref d), y10, none, none, none, none, none])
      ⟨o, none, W13, mO13, mO13.at, rfl⟩ (fun i σ H hi hPv => ?_) (fun σ H hPv => ?_)
    · obtain ⟨d, y10, W, mO, hd, rfl⟩ := hPv
      refine ⟨_, rfl, _, rfl, _, rfl, d, a, n, p, powM p n M i, M, rfl, hd, W.a_.at, powM_sq h2 sqM i, sqM, hpp, h31, by omega, fun t H' sm hT => ?_⟩
      exact ⟨t, _, W.mono sm, mO.mono sm, hT, rfl⟩
    obtain ⟨d, y10, W14, mO14, hd14, rfl⟩ := hPv
    clear W13 mO13
    refine ⟨fun σ H => W05 p n st a b M N H ∧ MR H o (idM n) ∧ ∃ y4 y9 y10, σ = [some (.ref as), some (.ref st), some (.int p), some (.int (n : Int)), y4, some (.ref a), some (.ref b), some (.ref o), some v, y9, y10, none, none, none, none, none], ?_, ?_⟩
    · refine ⟨_, rfl, _, rfl, _, rfl, a, n, k, p, M, rfl, W14.a_.at, sqM, h2, h31, by omega, fun t H' sm hT => ?_⟩
      exact ⟨_, rfl, dRowsT _, dRowsT _, dp_mat hT, dp_mat (hd14.mono sm), shaped_dRowsT _, shaped_dRowsT _, _, rfl, iteB (by unfold dRowsT; rw [eqvAll_tup]; exact not_dec rfl) ⟨W14.mono sm, mO14.mono sm, _, _, _, rfl⟩⟩
    clear W14 mO14 hd14
    rintro σ15 H15 ⟨W15, mO15, y4, y9, y10, rfl⟩
    -- plain, told
    have hpl : decide ((lspan p n M).length = (allR p n).length) = decide ((redT p n M).length = n) := decide_eq_decide.mpr (plain_iff P sqM.2)
    refine ⟨_, rfl, _, rfl, _, rfl, a, n, p, M, rfl, W15.a_.rws, h2, h31, by omega, by rw [sqM.1]; exact hpow, sqM.2, fun l1 us1 H16 sm16 _ el1 hL1 => ?_⟩
    refine ⟨l1, us1, rfl, .inl (.inl (.inl el1)), _, rfl, _, rfl, n, p, rfl, h2, h31, by omega, hpow, fun l2 us2 H17 sm17 _ el2 hL2 => ?_⟩
    refine ⟨l2, us2, rfl, .inl (.inl (.inl el2)), rfl, ?_⟩
    have W17 := W15.mono (sm16.trans sm17)
    have mO17 := mO15.mono (sm16.trans sm17)
    have e1 : decide (V.int (us1.length : Int) = V.int (us2.length : Int)) = decide ((redT p n M).length = n) := by
      rw [← hpl]
      apply decide_eq_decide.mpr
      rw [Paired.length hL1, Paired.length hL2, lspanS, List.length_mergeSort]
      exact ⟨fun z => by have := V.int.inj z; omega, fun z => congrArg V.int (by omega)⟩
    rw [e1]
    clear e1 hL1 hL2 el1 el2 sm16 sm17 W15 mO15
    refine ⟨_, rfl, _, rfl, a, n, p, M, rfl, W17.a_.at, sqM, h2, h31, by omega, fun H18 sm18 => ?_⟩
    have W18 := W17.mono sm18
    have mO18 := mO17.mono sm18
    clear W17 mO17 sm18
    generalize hq : decide ((redT p n M).length = n) = pl
    refine ⟨fun σ H => W05 p n st a b M N H ∧ MR H o (idM n) ∧ σ = [some (.ref as), some (.ref st), some (.int p), some (.int (n : Int)), y4, some (.ref a), some (.ref b), some (.ref o), some v, y9, y10, some (.bl pl), some (.bl pl), none, none, none], ?_, ?_⟩
    · refine ⟨_, rfl, _, _, _, _, true, rfl, .ty "bool", .base (.bl _), kit_ty (by decide +kernel), true, rfl, iteF ?_⟩
      exact ⟨_, rfl, _, rfl, rfl, _, rfl, iteB (not_dec rfl) ⟨W18, mO18, rfl⟩⟩
    clear W18 mO18
    rintro σ16 H16 ⟨W16, mO16, rfl⟩
    refine ⟨fun σ H => W05 p n st a b M N H ∧ MR H o (idM n) ∧ ∃ y13, σ = [some (.ref as), some (.ref st), some (.int p), some (.int (n : Int)), y4, some (.ref a), some (.ref b), some (.ref o), some v, y9, y10, some (.bl pl), some (.bl pl), y13, none, none], ?_, ?_⟩
    · refine ⟨_, rfl, _, rfl, ?_⟩
      cases pl with
      | true =>
        have hf := of_decide_eq_true hq
        have I := inv_facts P sqM hf
        refine iteA rfl ?_
        refine ⟨_, rfl, _, rfl, a, n, p, M, rfl, W16.a_.at, sqM, P, by omega, fun z => absurd hf z, fun _ t H17 sm17 hT => ?_⟩
        have W17 := W16.mono sm17
        have mO17 := mO16.mono sm17
        refine ⟨_, rfl, _, rfl, _, rfl, a, t, n, p, M, invM p n M, rfl, W17.a_.at, hT, sqM, I.sq, hpp, h31, by omega, fun t1 H18 sm18 h1 => ?_⟩
        rw [I.right] at h1
        have W18 := W17.mono sm18
        have mO18 := mO17.mono sm18
        have hT18 := hT.mono sm18
        refine ⟨_, rfl, dRowsT _, dRowsT _, dp_mat h1, dp_mat mO18.at, shaped_dRowsT _, shaped_dRowsT _, _, rfl, iteB (by unfold dRowsT; rw [eqvAll_tup]; exact not_dec rfl) ?_⟩
        refine ⟨_, rfl, _, rfl, _, rfl, t, a, n, p, invM p n M, M, rfl, hT18, W18.a_.at, I.sq, sqM, hpp, h31, by omega, fun t2 H19 sm19 h3 => ?_⟩
        rw [I.left] at h3
        have W19 := W18.mono sm19
        have mO19 := mO18.mono sm19
        obtain ⟨tus, hT19, _⟩ := hT18.mono sm19
        refine ⟨_, rfl, dRowsT _, dRowsT _, dp_mat h3, dp_mat mO19.at, shaped_dRowsT _, shaped_dRowsT _, _, rfl, iteB (by unfold dRowsT; rw [eqvAll_tup]; exact not_dec rfl) ?_⟩
        exact ⟨_, rfl, _, _, _, _, true, rfl, .ty "tuple", ty_sqT hT19, kit_ty (by decide +kernel), true, rfl, iteF ⟨W19, mO19, _, rfl⟩⟩
      | false =>
        have hf := of_decide_eq_false hq
        refine iteB rfl ?_
        refine ⟨_, rfl, _, rfl, a, n, p, M, rfl, W16.a_.at, sqM, P, by omega, hf, fun H17 sm17 => ?_⟩
        exact ⟨rfl, _, rfl, iteB (not_dec rfl) ⟨W16.mono sm17, mO16.mono sm17, _, rfl⟩⟩
    clear W16 mO16 hq hpl
    rintro σ17 H17 ⟨W17, mO17, y13, rfl⟩
    -- wrong
    obtain ⟨us, ea, hP⟩ := W17.a_
    obtain ⟨os, eo, hO⟩ := mO17
    have hul : us.length = n := by rw [Paired.length hP, sqM.1]
    have hol : os.length = n := by rw [Paired.length hO, idM_len]
    refine ⟨_, rfl, a, us, rfl, .inr (.inl (.inl ea)), fun l nl => ?_⟩
    have sA := same_new (o := .lst us) nl
    have w1 : WV K (upd H17 l (.lst us)) p n (.ref l) := .inl (.no (.lst upd_same))
    generalize upd H17 l (.lst us) = H18 at *
    refine ⟨_, rfl, _, rfl, _, rfl, slA_q (.inl (.inl (sA _ _ eo))) fun t1 H19 sm19 hT1 => ?_⟩
    rw [cut_one] at hT1
    refine catA_q (Own.same_tup (sA.trans sm19) (.inl (.inl ea))) hT1 (by rw [List.length_take]; omega) fun t2 H20 sm20 hT2 => ?_
    refine ⟨_, rfl, _, rfl, slA_q (.inl (.inl (sm20 _ _ (sm19 _ _ (sA _ _ eo))))) fun t3 H21 sm21 hT3 => ?_⟩
    rw [cut_one] at hT3
    refine catA_q (Own.same_tup sm21 hT2) hT3 (by rw [List.length_append, List.length_take]; omega) fun t4 H22 sm22 hT4 => ?_
    have sB : Same H18 H22 := sm19.trans (sm20.trans (sm21.trans sm22))
    have w2 : WV K H22 p n (.ref t4) := by
      by_cases h0 : n = 0
      · refine .inr ⟨h0, t4, rfl, ?_⟩
        have e1 : us = [] := List.eq_nil_of_length_eq_zero (by omega)
        have e2 : os = [] := List.eq_nil_of_length_eq_zero (by omega)
        rw [e1, e2] at hT4
        exact hT4
      · refine .inl (.len hT4 ?_)
        rw [List.length_append, List.length_append, List.length_take]
        omega
    have w1b := w1.mono sB
    have ea22 := sB _ _ (sA _ _ ea)
    have s17 : Same H17 H22 := sA.trans sB
    clear hT1 hT2 hT3 hT4 sm19 sm20 sm21 sm22 sA sB w1 nl
    refine ⟨_, rfl, by show 1 ≤ sizeLine; decide, fun t5 n5 => ?_⟩
    have s5 := same_new (o := .tup [V.int 0]) n5
    refine ⟨_, rfl, _, _, rfl, rfl, t5, (n : Int) + 1, [.int 0], rfl, rfl, upd_same, by simp, by omega, by omega, by show 1 ≤ 1000; decide, fun t6 H23 sm23 e6 => ?_⟩
    refine ⟨by show 1 ≤ sizeLine; decide, fun t7 n7 => ?_⟩
    have s7 := same_new (o := .tup [V.ref t6]) n7
    have sC := s5.trans (sm23.trans s7)
    refine catA_q (.inl (.inl (sC _ _ ea22))) (.inl (.inl upd_same)) (by show us.length + 1 ≤ 2000; omega) fun t8 H24 sm24 hT8 => ?_
    have sD := sC.trans sm24
    have w3 : WV K H24 p n (.ref t8) := .inl (.len hT8 (by rw [List.length_append]; show us.length + 1 ≠ n; omega))
    refine ⟨by show 6 ≤ sizeLine; decide, fun wl nwl => ?_⟩
    have s8 := same_new (o := .lst [V.ref l, .ref t4, .non, .int 0, .str "0", .ref t8]) nwl
    have sE := sD.trans s8
    have hwl : (upd H24 wl (.lst [V.ref l, .ref t4, .non, .int 0, .str "0", .ref t8])) wl = some (.lst [V.ref l, .ref t4, .non, .int 0, .str "0", .ref t8]) := upd_same
    have hww : ∀ x ∈ [V.ref l, .ref t4, .non, .int 0, .str "0", .ref t8], WV K (upd H24 wl (.lst [V.ref l, .ref t4, .non, .int 0, .str "0", .ref t8])) p n x := by
      intro x hx
      simp only [List.mem_cons, List.not_mem_nil, or_false] at hx
      rcases hx with rfl | rfl | rfl | rfl | rfl | rfl
      · exact w1b.mono sE
      · exact w2.mono sE
      · exact .inl (.no .non)
      · exact .inl (.no (.int 0))
      · exact .inl (.no (.str _))
      · exact w3.mono s8
    have W25 := W17.mono (s17.trans sE)
    generalize upd H24 wl (.lst [V.ref l, .ref t4, .non, .int 0, .str "0", .ref t8]) = H25 at *
    clear sE s8 nwl w3 sD sm24 hT8 sC s7 n7 sm23 e6 s5 n5 w1b w2 ea22 s17 W17
    refine ⟨fun σ H => W05 p n st a b M N H ∧ ∃ (wl : Addr) (ws : List V) (y4 y9 y10 y11 y12 y13 : Option V), H wl = some (.lst ws) ∧ ws.length ≤ 100 ∧ (∀ x ∈ ws, WV K H p n x) ∧ σ = [some (.ref as), some (.ref st), some (.int p), some (.int (n : Int)), y4, some (.ref a), some (.ref b), some (.ref o), some v, y9, y10, y11, y12, y13, some (.ref wl), none], ?_, ?_⟩
    · refine ⟨_, rfl, _, _, rfl, rfl, _, rfl, ite2 (fun c => ?_) (fun c => ?_)⟩
      · have h0 : 0 < n := by
          have := of_decide_eq_true c
          omega
        obtain ⟨us, ea, hP⟩ := W25.a_
        have hul : us.length = n := by rw [Paired.length hP, sqM.1]
        have hin : us.take (us.length - 1) = us.take (n - 1) := by rw [hul]
        have hSa : SqT K H25 a us := .inl (.inl ea)
        obtain ⟨r, er⟩ : ∃ r, M[n - 1]? = some r := ⟨_, List.getElem?_eq_getElem (by rw [sqM.1]; omega)⟩
        obtain ⟨x1, ex1, tr, rfl, htr⟩ := paired_get2 hP er
        have hvr := sqM.2 r (List.mem_of_getElem? er)
        have hal : atI us (-1) = some (.ref tr) := at_last (by rw [hul]; exact ex1)
        have hrl : (r.map V.int).length = n := by rw [List.length_map]; exact hvr.1
        have hSr : SqT K H25 tr (r.map V.int) := htr.sq
        have hp0 : ∀ H, ItV K H p (.int p) false := fun H => by
          have := ItV.int (K := K) (H := H) (p := p) p
          rw [decide_eq_false (Int.lt_irrefl p), Bool.and_false] at this
          exact this
        have hlt : (us.take (us.length - 1)).length ≤ 3 := by rw [List.length_take]; omega
        have hlr : ((r.map V.int).take ((r.map V.int).length - 1)).length ≤ 3 := by rw [List.length_take]; omega
        -- a[:-1]
        refine ⟨_, rfl, _, rfl, 1, rfl, _, rfl, slA_q hSa fun u1 G1 g1 hU1 => ?_⟩
        rw [cut_init (by omega)] at hU1
        have v1 : WV K G1 p n (.ref u1) := .inl (.len hU1 (by rw [List.length_take]; omega))
        -- the last one as a list
        refine ⟨_, rfl, 1, rfl, _, rfl, slA_q (Own.same_tup g1 hSa) fun u2 G2 g2 hU2 => ?_⟩
        rw [cut_init (by omega)] at hU2
        have c2 := g1.trans g2
        refine ⟨_, rfl, 1, rfl, a, us, -1, .ref tr, rfl, rfl, Own.same_tup c2 hSa, hal, tr, _, rfl, .inr (Own.same_tup c2 hSr), fun l2 nl2 => ?_⟩
        have g3 := same_new (o := .lst (r.map V.int)) nl2
        refine ⟨by show 1 ≤ sizeLine; decide, fun u3 nu3 => ?_⟩
        have g4 := same_new (o := .tup [V.ref l2]) nu3
        refine catA_q (Own.same_tup (g3.trans g4) hU2) (.inl (.inl upd_same)) (by show _ + 1 ≤ 2000; omega) fun u4 G4 g5 hU4 => ?_
        have g6 := (g3.trans g4).trans g5
        have c4 := c2.trans g6
        have v2 : WV K G4 p n (.ref u4) := .inl (matV_bad hU4 (st_RR.all c4 hP) sqM h0 (.no (.lst (g5 _ _ (g4 _ _ upd_same)))))
        have v1 := v1.mono (g2.trans g6)
        clear hU1 hU2 hU4 g1 g2 g3 g4 g5 g6 c2 nl2 nu3
        -- the last item p
        refine ⟨_, rfl, 1, rfl, _, rfl, slA_q (Own.same_tup c4 hSa) fun u5 G5 g5 hU5 => ?_⟩
        rw [cut_init (by omega)] at hU5
        have c5 := c4.trans g5
        refine ⟨_, rfl, 1, rfl, a, us, -1, .ref tr, rfl, rfl, Own.same_tup c5 hSa, hal, 1, rfl, _, rfl, slA_q (Own.same_tup c5 hSr) fun u6 G6 g6 hU6 => ?_⟩
        rw [cut_init (by omega)] at hU6
        refine ⟨_, rfl, by show 1 ≤ sizeLine; decide, fun u7 nu7 => ?_⟩
        have g7 := same_new (o := .tup [V.int p]) nu7
        refine catA_q (Own.same_tup g7 hU6) (.inl (.inl upd_same)) (by show _ + 1 ≤ 2000; omega) fun u8 G8 g8 hU8 => ?_
        refine ⟨by show 1 ≤ sizeLine; decide, fun u9 nu9 => ?_⟩
        have g9 := same_new (o := .tup [V.ref u8]) nu9
        have g10 := (g6.trans (g7.trans g8)).trans g9
        refine catA_q (Own.same_tup g10 hU5) (.inl (.inl upd_same)) (by show _ + 1 ≤ 2000; omega) fun u10 G10 g11 hU10 => ?_
        have c10 := c5.trans (g10.trans g11)
        rw [hrl] at hU8
        have v3 : WV K G10 p n (.ref u10) := .inl (matV_bad hU10 (st_RR.all c10 hP) sqM h0 (rowV_bad (Own.same_tup (g9.trans g11) hU8) hvr h0 (hp0 _)))
        have v1 := v1.mono (g5.trans (g10.trans g11))
        have v2 := v2.mono (g5.trans (g10.trans g11))
        clear hU5 hU6 hU8 hU10 g5 g6 g7 g8 g9 g10 g11 c5 nu7 nu9 c4
        -- the last item True
        refine ⟨_, rfl, 1, rfl, _, rfl, slA_q (Own.same_tup c10 hSa) fun u11 G11 g5 hU5 => ?_⟩
        rw [cut_init (by omega)] at hU5
        have c5 := c10.trans g5
        refine ⟨_, rfl, 1, rfl, a, us, -1, .ref tr, rfl, rfl, Own.same_tup c5 hSa, hal, 1, rfl, _, rfl, slA_q (Own.same_tup c5 hSr) fun u12 G12 g6 hU6 => ?_⟩
        rw [cut_init (by omega)] at hU6
        refine ⟨by show 1 ≤ sizeLine; decide, fun u13 nu7 => ?_⟩
        have g7 := same_new (o := .tup [V.bl true]) nu7
        refine catA_q (Own.same_tup g7 hU6) (.inl (.inl upd_same)) (by show _ + 1 ≤ 2000; omega) fun u14 G14 g8 hU8 => ?_
        refine ⟨by show 1 ≤ sizeLine; decide, fun u15 nu9 => ?_⟩
        have g9 := same_new (o := .tup [V.ref u14]) nu9
        have g10 := (g6.trans (g7.trans g8)).trans g9
        refine catA_q (Own.same_tup g10 hU5) (.inl (.inl upd_same)) (by show _ + 1 ≤ 2000; omega) fun u16 G16 g11 hU10 => ?_
        have c16 := c5.trans (g10.trans g11)
        rw [hrl] at hU8
        have v4 : WV K G16 p n (.ref u16) := .inl (matV_bad hU10 (st_RR.all c16 hP) sqM h0 (rowV_bad (Own.same_tup (g9.trans g11) hU8) hvr h0 (.oth (.bl true))))
        have v1 := v1.mono (g5.trans (g10.trans g11))
        have v2 := v2.mono (g5.trans (g10.trans g11))
        have v3 := v3.mono (g5.trans (g10.trans g11))
        clear hU5 hU6 hU8 hU10 g5 g6 g7 g8 g9 g10 g11 c5 nu7 nu9 c10
        -- a longer last row
        refine ⟨_, rfl, 1, rfl, _, rfl, slA_q (Own.same_tup c16 hSa) fun u17 G17 g5 hU5 => ?_⟩
        rw [cut_init (by omega)] at hU5
        have c5 := c16.trans g5
        refine ⟨_, rfl, 1, rfl, a, us, -1, .ref tr, rfl, rfl, Own.same_tup c5 hSa, hal, by show 1 ≤ sizeLine; decide, fun u18 nu7 => ?_⟩
        have g7 := same_new (o := .tup [V.int 0]) nu7
        refine catA_q (Own.same_tup (c5.trans g7) hSr) (.inl (.inl upd_same)) (by show _ + 1 ≤ 2000; omega) fun u19 G19 g8 hU8 => ?_
        refine ⟨by show 1 ≤ sizeLine; decide, fun u20 nu9 => ?_⟩
        have g9 := same_new (o := .tup [V.ref u19]) nu9
        have g10 := (g7.trans g8).trans g9
        refine catA_q (Own.same_tup g10 hU5) (.inl (.inl upd_same)) (by show _ + 1 ≤ 2000; omega) fun u21 G21 g11 hU10 => ?_
        have c21 := c5.trans (g10.trans g11)
        have v5 : WV K G21 p n (.ref u21) := .inl (matV_bad hU10 (st_RR.all c21 hP) sqM h0 (.len (Own.same_tup (g9.trans g11) hU8) (by rw [List.length_append, hrl]; show n + 1 ≠ n; omega)))
        have v1 := v1.mono (g5.trans (g10.trans g11))
        have v2 := v2.mono (g5.trans (g10.trans g11))
        have v3 := v3.mono (g5.trans (g10.trans g11))
        have v4 := v4.mono (g5.trans (g10.trans g11))
        clear hU5 hU8 hU10 g5 g7 g8 g9 g10 g11 c5 nu7 nu9 c16
        refine ⟨by show 5 ≤ sizeLine; decide, fun l5 nl5 => ?_⟩
        have g1 := same_new (o := .lst [V.ref u1, .ref u4, .ref u10, .ref u16, .ref u21]) nl5
        have c1 := c21.trans g1
        refine ⟨wl, l5, _, _, rfl, rfl, c1 _ _ hwl, upd_same, Nat.le_of_lt (small2000 (by show 6 + 5 ≤ 100000; decide)), fun w2 nw2 => ?_⟩
        have g2 := same_new (o := .lst ([V.ref l, .ref t4, .non, .int 0, .str "0", .ref t8] ++ [V.ref u1, .ref u4, .ref u10, .ref u16, .ref u21])) nw2
        refine ⟨W25.mono (c1.trans g2), w2, _, _, _, _, _, _, _, upd_same, by show 6 + 5 ≤ 100; decide, fun x hx => ?_, rfl⟩
        rcases List.mem_append.mp hx with hx | hx
        · exact (hww x hx).mono (c1.trans g2)
        · simp only [List.mem_cons, List.not_mem_nil, or_false] at hx
          rcases hx with rfl | rfl | rfl | rfl | rfl
          · exact v1.mono (g1.trans g2)
          · exact v2.mono (g1.trans g2)
          · exact v3.mono (g1.trans g2)
          · exact v4.mono (g1.trans g2)
          · exact v5.mono (g1.trans g2)
      · exact ⟨W25, wl, _, _, _, _, _, _, _, hwl, by show 6 ≤ 100; decide, hww, rfl⟩
    clear W25 hww hwl
    rintro σ26 H26 ⟨W26, wl, ws, y4, y9, y10, y11, y12, y13, ewl, hwl, hww, rfl⟩
    -- the end
    refine ⟨_, rfl, _, rfl, _, rfl, .ref a, p, n, true, rfl, by omega, matV_good W26.a_ sqM, fun H27 sm27 => ⟨_, _, rfl, rfl, true, rfl, iteA rfl ?_⟩⟩
    have W27 := W26.mono sm27
    obtain ⟨us27, ea27, hP27⟩ := W27.a_
    have hul27 : us27.length = n := by rw [Paired.length hP27, sqM.1]
    refine ⟨_, rfl, wl, rfl, ⟨_, .inl (.inl (sm27 _ _ ewl))⟩, fun D nD => ?_⟩
    refine lc_filt (walk_list (xs := ws)) st_RI (fun _ => false) (fun _ => (0 : Int)) (by omega) nD (fun H2 sm => .inl (.inl (sm _ _ (sm27 _ _ ewl)))) (fun i x H28 H29 Q2 N2 hi sm28 hY q2 nq => ?_) (fun H28 acc sm28 eD hPa => ?_)
    · obtain ⟨rfl, hx⟩ := hY
      have hw := (hww x (List.mem_of_getElem? hx)).mono (sm27.trans sm28)
      refine ⟨rfl, ?_⟩
      rcases hw with hw | ⟨h0, t, rfl, ht⟩
      · refine ⟨_, rfl, _, rfl, _, rfl, x, p, n, false, rfl, by omega, hw, fun H30 sm30 => ⟨_, _, rfl, rfl, _, rfl, iteB rfl (iteB rfl (nq rfl _ sm30))⟩⟩
      · have hm : MatV K H29 p n (.ref t) true := MatV.yes (bs := []) ht (by rw [h0]; rfl) .nil
        refine ⟨_, rfl, _, rfl, _, rfl, .ref t, p, n, true, rfl, by omega, hm, fun H30 sm30 => ⟨_, _, rfl, rfl, _, rfl, iteA rfl ?_⟩⟩
        have e27 : us27 = [] := List.eq_nil_of_length_eq_zero (by omega)
        rw [e27] at ea27
        exact ⟨_, rfl, _, rfl, .tuple [], .tuple [], .tup (Own.same_tup sm30 ht) .nil, .tup (.inl (.inl (sm30 _ _ (sm28 _ _ ea27)))) .nil, by decide +kernel, by decide +kernel, _, rfl, iteB (by decide +kernel) (nq rfl _ sm30)⟩
    · have e : (List.range ws.length).filter (fun _ => false) = [] := by rw [List.filter_eq_nil_iff]; exact fun _ _ => Bool.false_ne_true
      rw [e] at hPa
      have hl : acc.length = 0 := Paired.length hPa
      have ed : decide (V.int ((0 : Nat) : Int) = V.int 0) = true := decide_eq_true rfl
      refine ⟨D, acc, rfl, .inl (.inl (.inl eD)), rfl, ?_⟩
      rw [hl, ed]
      exact q H28
end
theorem all_mk {l : PySem.W.OpenLaw} {w : World} {K : PySem.W.Frag} {h : Heap} {mg : Str → Option Value} {fa : Addr} (X : K.In h) (G : h.Ns mainGlobals mg) (hfa : mg "law" = some (.ref fa))
    {f_is_integer : Addr} {od_is_integer an_is_integer : Option Addr} {sl_is_integer : Array (Option Value)} {oc_is_integer kV_is_integer dc_is_integer pm_is_integer cd_is_integer ct_is_integer : Value}
    (a_is_integer : PySem.W.nsIn K mainGlobals "is_integer" = some (some (.ref f_is_integer))) (l_is_integer : K.lookup f_is_integer = some ⟨oc_is_integer, od_is_integer, .func (PySem.W.fnOf "is_integer" "is_integer" (defArgs s_is_integer) (defBody s_is_integer) (defScope s_is_integer) .none kV_is_integer dc_is_integer pm_is_integer an_is_integer cd_is_integer ct_is_integer), sl_is_integer⟩)
    (c_is_integer : PySem.W.codeIn K cd_is_integer "is_integer" = true) (k_is_integer : PySem.W.keepIn K (.ref f_is_integer) = true)
    {f_power : Addr} {od_power an_power : Option Addr} {sl_power : Array (Option Value)} {oc_power kV_power dc_power pm_power cd_power ct_power : Value}
    (a_power : PySem.W.nsIn K mainGlobals "power" = some (some (.ref f_power))) (l_power : K.lookup f_power = some ⟨oc_power, od_power, .func (PySem.W.fnOf "power" "power" (defArgs s_power) (defBody s_power) (defScope s_power) .none kV_power dc_power pm_power an_power cd_power ct_power), sl_power⟩)
    (c_power : PySem.W.codeIn K cd_power "power" = true) (k_power : PySem.W.keepIn K (.ref f_power) = true)
    {f_inverse : Addr} {od_inverse an_inverse : Option Addr} {sl_inverse : Array (Option Value)} {oc_inverse kV_inverse dc_inverse pm_inverse cd_inverse ct_inverse : Value}
    (a_inverse : PySem.W.nsIn K mainGlobals "inverse" = some (some (.ref f_inverse))) (l_inverse : K.lookup f_inverse = some ⟨oc_inverse, od_inverse, .func (PySem.W.fnOf "inverse" "inverse" (defArgs s_inverse) (defBody s_inverse) (defScope s_inverse) .none kV_inverse dc_inverse pm_inverse an_inverse cd_inverse ct_inverse), sl_inverse⟩)
    (c_inverse : PySem.W.codeIn K cd_inverse "inverse" = true) (k_inverse : PySem.W.keepIn K (.ref f_inverse) = true)
    {f_is_row : Addr} {od_is_row an_is_row : Option Addr} {sl_is_row : Array (Option Value)} {oc_is_row kV_is_row dc_is_row pm_is_row cd_is_row ct_is_row : Value}
    (a_is_row : PySem.W.nsIn K mainGlobals "is_row" = some (some (.ref f_is_row))) (l_is_row : K.lookup f_is_row = some ⟨oc_is_row, od_is_row, .func (PySem.W.fnOf "is_row" "is_row" (defArgs s_is_row) (defBody s_is_row) (defScope s_is_row) .none kV_is_row dc_is_row pm_is_row an_is_row cd_is_row ct_is_row), sl_is_row⟩)
    (c_is_row : PySem.W.codeIn K cd_is_row "is_row" = true) (k_is_row : PySem.W.keepIn K (.ref f_is_row) = true)
    {f_add : Addr} {od_add an_add : Option Addr} {sl_add : Array (Option Value)} {oc_add kV_add dc_add pm_add cd_add ct_add : Value}
    (a_add : PySem.W.nsIn K mainGlobals "add" = some (some (.ref f_add))) (l_add : K.lookup f_add = some ⟨oc_add, od_add, .func (PySem.W.fnOf "add" "add" (defArgs s_add) (defBody s_add) (defScope s_add) .none kV_add dc_add pm_add an_add cd_add ct_add), sl_add⟩)
    (c_add : PySem.W.codeIn K cd_add "add" = true) (k_add : PySem.W.keepIn K (.ref f_add) = true)
    {f_scaled : Addr} {od_scaled an_scaled : Option Addr} {sl_scaled : Array (Option Value)} {oc_scaled kV_scaled dc_scaled pm_scaled cd_scaled ct_scaled : Value}
    (a_scaled : PySem.W.nsIn K mainGlobals "scaled" = some (some (.ref f_scaled))) (l_scaled : K.lookup f_scaled = some ⟨oc_scaled, od_scaled, .func (PySem.W.fnOf "scaled" "scaled" (defArgs s_scaled) (defBody s_scaled) (defScope s_scaled) .none kV_scaled dc_scaled pm_scaled an_scaled cd_scaled ct_scaled), sl_scaled⟩)
    (c_scaled : PySem.W.codeIn K cd_scaled "scaled" = true) (k_scaled : PySem.W.keepIn K (.ref f_scaled) = true)
    {f_combine : Addr} {od_combine an_combine : Option Addr} {sl_combine : Array (Option Value)} {oc_combine kV_combine dc_combine pm_combine cd_combine ct_combine : Value}
    (a_combine : PySem.W.nsIn K mainGlobals "combine" = some (some (.ref f_combine))) (l_combine : K.lookup f_combine = some ⟨oc_combine, od_combine, .func (PySem.W.fnOf "combine" "combine" (defArgs s_combine) (defBody s_combine) (defScope s_combine) .none kV_combine dc_combine pm_combine an_combine cd_combine ct_combine), sl_combine⟩)
    (c_combine : PySem.W.codeIn K cd_combine "combine" = true) (k_combine : PySem.W.keepIn K (.ref f_combine) = true)
    {f__zeros : Addr} {od__zeros an__zeros : Option Addr} {sl__zeros : Array (Option Value)} {oc__zeros kV__zeros dc__zeros pm__zeros cd__zeros ct__zeros : Value}
    (a__zeros : PySem.W.nsIn K mainGlobals "_zeros" = some (some (.ref f__zeros))) (l__zeros : K.lookup f__zeros = some ⟨oc__zeros, od__zeros, .func (PySem.W.fnOf "_zeros" "_zeros" (defArgs s__zeros) (defBody s__zeros) (defScope s__zeros) .none kV__zeros dc__zeros pm__zeros an__zeros cd__zeros ct__zeros), sl__zeros⟩)
    (c__zeros : PySem.W.codeIn K cd__zeros "_zeros" = true) (k__zeros : PySem.W.keepIn K (.ref f__zeros) = true)
    {f__unit : Addr} {od__unit an__unit : Option Addr} {sl__unit : Array (Option Value)} {oc__unit kV__unit dc__unit pm__unit cd__unit ct__unit : Value}
    (a__unit : PySem.W.nsIn K mainGlobals "_unit" = some (some (.ref f__unit))) (l__unit : K.lookup f__unit = some ⟨oc__unit, od__unit, .func (PySem.W.fnOf "_unit" "_unit" (defArgs s__unit) (defBody s__unit) (defScope s__unit) .none kV__unit dc__unit pm__unit an__unit cd__unit ct__unit), sl__unit⟩)
    (c__unit : PySem.W.codeIn K cd__unit "_unit" = true) (k__unit : PySem.W.keepIn K (.ref f__unit) = true)
    {f__cleared : Addr} {od__cleared an__cleared : Option Addr} {sl__cleared : Array (Option Value)} {oc__cleared kV__cleared dc__cleared pm__cleared cd__cleared ct__cleared : Value}
    (a__cleared : PySem.W.nsIn K mainGlobals "_cleared" = some (some (.ref f__cleared))) (l__cleared : K.lookup f__cleared = some ⟨oc__cleared, od__cleared, .func (PySem.W.fnOf "_cleared" "_cleared" (defArgs s__cleared) (defBody s__cleared) (defScope s__cleared) .none kV__cleared dc__cleared pm__cleared an__cleared cd__cleared ct__cleared), sl__cleared⟩)
    (c__cleared : PySem.W.codeIn K cd__cleared "_cleared" = true) (k__cleared : PySem.W.keepIn K (.ref f__cleared) = true)
    {f__lead_at : Addr} {od__lead_at an__lead_at : Option Addr} {sl__lead_at : Array (Option Value)} {oc__lead_at kV__lead_at dc__lead_at pm__lead_at cd__lead_at ct__lead_at : Value}
    (a__lead_at : PySem.W.nsIn K mainGlobals "_lead_at" = some (some (.ref f__lead_at))) (l__lead_at : K.lookup f__lead_at = some ⟨oc__lead_at, od__lead_at, .func (PySem.W.fnOf "_lead_at" "_lead_at" (defArgs s__lead_at) (defBody s__lead_at) (defScope s__lead_at) .none kV__lead_at dc__lead_at pm__lead_at an__lead_at cd__lead_at ct__lead_at), sl__lead_at⟩)
    (c__lead_at : PySem.W.codeIn K cd__lead_at "_lead_at" = true) (k__lead_at : PySem.W.keepIn K (.ref f__lead_at) = true)
    {f_reduced : Addr} {od_reduced an_reduced : Option Addr} {sl_reduced : Array (Option Value)} {oc_reduced kV_reduced dc_reduced pm_reduced cd_reduced ct_reduced : Value}
    (a_reduced : PySem.W.nsIn K mainGlobals "reduced" = some (some (.ref f_reduced))) (l_reduced : K.lookup f_reduced = some ⟨oc_reduced, od_reduced, .func (PySem.W.fnOf "reduced" "reduced" (defArgs s_reduced) (defBody s_reduced) (defScope s_reduced) .none kV_reduced dc_reduced pm_reduced an_reduced cd_reduced ct_reduced), sl_reduced⟩)
    (c_reduced : PySem.W.codeIn K cd_reduced "reduced" = true) (k_reduced : PySem.W.keepIn K (.ref f_reduced) = true)
    {f_span : Addr} {od_span an_span : Option Addr} {sl_span : Array (Option Value)} {oc_span kV_span dc_span pm_span cd_span ct_span : Value}
    (a_span : PySem.W.nsIn K mainGlobals "span" = some (some (.ref f_span))) (l_span : K.lookup f_span = some ⟨oc_span, od_span, .func (PySem.W.fnOf "span" "span" (defArgs s_span) (defBody s_span) (defScope s_span) .none kV_span dc_span pm_span an_span cd_span ct_span), sl_span⟩)
    (c_span : PySem.W.codeIn K cd_span "span" = true) (k_span : PySem.W.keepIn K (.ref f_span) = true)
    {f_identity : Addr} {od_identity an_identity : Option Addr} {sl_identity : Array (Option Value)} {oc_identity kV_identity dc_identity pm_identity cd_identity ct_identity : Value}
    (a_identity : PySem.W.nsIn K mainGlobals "identity" = some (some (.ref f_identity))) (l_identity : K.lookup f_identity = some ⟨oc_identity, od_identity, .func (PySem.W.fnOf "identity" "identity" (defArgs s_identity) (defBody s_identity) (defScope s_identity) .none kV_identity dc_identity pm_identity an_identity cd_identity ct_identity), sl_identity⟩)
    (c_identity : PySem.W.codeIn K cd_identity "identity" = true) (k_identity : PySem.W.keepIn K (.ref f_identity) = true)
    {f_is_matrix : Addr} {od_is_matrix an_is_matrix : Option Addr} {sl_is_matrix : Array (Option Value)} {oc_is_matrix kV_is_matrix dc_is_matrix pm_is_matrix cd_is_matrix ct_is_matrix : Value}
    (a_is_matrix : PySem.W.nsIn K mainGlobals "is_matrix" = some (some (.ref f_is_matrix))) (l_is_matrix : K.lookup f_is_matrix = some ⟨oc_is_matrix, od_is_matrix, .func (PySem.W.fnOf "is_matrix" "is_matrix" (defArgs s_is_matrix) (defBody s_is_matrix) (defScope s_is_matrix) .none kV_is_matrix dc_is_matrix pm_is_matrix an_is_matrix cd_is_matrix ct_is_matrix), sl_is_matrix⟩)
    (c_is_matrix : PySem.W.codeIn K cd_is_matrix "is_matrix" = true) (k_is_matrix : PySem.W.keepIn K (.ref f_is_matrix) = true)
    {f_moved : Addr} {od_moved an_moved : Option Addr} {sl_moved : Array (Option Value)} {oc_moved kV_moved dc_moved pm_moved cd_moved ct_moved : Value}
    (a_moved : PySem.W.nsIn K mainGlobals "moved" = some (some (.ref f_moved))) (l_moved : K.lookup f_moved = some ⟨oc_moved, od_moved, .func (PySem.W.fnOf "moved" "moved" (defArgs s_moved) (defBody s_moved) (defScope s_moved) .none kV_moved dc_moved pm_moved an_moved cd_moved ct_moved), sl_moved⟩)
    (c_moved : PySem.W.codeIn K cd_moved "moved" = true) (k_moved : PySem.W.keepIn K (.ref f_moved) = true)
    {f_times : Addr} {od_times an_times : Option Addr} {sl_times : Array (Option Value)} {oc_times kV_times dc_times pm_times cd_times ct_times : Value}
    (a_times : PySem.W.nsIn K mainGlobals "times" = some (some (.ref f_times))) (l_times : K.lookup f_times = some ⟨oc_times, od_times, .func (PySem.W.fnOf "times" "times" (defArgs s_times) (defBody s_times) (defScope s_times) .none kV_times dc_times pm_times an_times cd_times ct_times), sl_times⟩)
    (c_times : PySem.W.codeIn K cd_times "times" = true) (k_times : PySem.W.keepIn K (.ref f_times) = true)
    {f_matrix_power : Addr} {od_matrix_power an_matrix_power : Option Addr} {sl_matrix_power : Array (Option Value)} {oc_matrix_power kV_matrix_power dc_matrix_power pm_matrix_power cd_matrix_power ct_matrix_power : Value}
    (a_matrix_power : PySem.W.nsIn K mainGlobals "matrix_power" = some (some (.ref f_matrix_power))) (l_matrix_power : K.lookup f_matrix_power = some ⟨oc_matrix_power, od_matrix_power, .func (PySem.W.fnOf "matrix_power" "matrix_power" (defArgs s_matrix_power) (defBody s_matrix_power) (defScope s_matrix_power) .none kV_matrix_power dc_matrix_power pm_matrix_power an_matrix_power cd_matrix_power ct_matrix_power), sl_matrix_power⟩)
    (c_matrix_power : PySem.W.codeIn K cd_matrix_power "matrix_power" = true) (k_matrix_power : PySem.W.keepIn K (.ref f_matrix_power) = true)
    {f_is_invertible : Addr} {od_is_invertible an_is_invertible : Option Addr} {sl_is_invertible : Array (Option Value)} {oc_is_invertible kV_is_invertible dc_is_invertible pm_is_invertible cd_is_invertible ct_is_invertible : Value}
    (a_is_invertible : PySem.W.nsIn K mainGlobals "is_invertible" = some (some (.ref f_is_invertible))) (l_is_invertible : K.lookup f_is_invertible = some ⟨oc_is_invertible, od_is_invertible, .func (PySem.W.fnOf "is_invertible" "is_invertible" (defArgs s_is_invertible) (defBody s_is_invertible) (defScope s_is_invertible) .none kV_is_invertible dc_is_invertible pm_is_invertible an_is_invertible cd_is_invertible ct_is_invertible), sl_is_invertible⟩)
    (c_is_invertible : PySem.W.codeIn K cd_is_invertible "is_invertible" = true) (k_is_invertible : PySem.W.keepIn K (.ref f_is_invertible) = true)
    {f_matrix_inverse : Addr} {od_matrix_inverse an_matrix_inverse : Option Addr} {sl_matrix_inverse : Array (Option Value)} {oc_matrix_inverse kV_matrix_inverse dc_matrix_inverse pm_matrix_inverse cd_matrix_inverse ct_matrix_inverse : Value}
    (a_matrix_inverse : PySem.W.nsIn K mainGlobals "matrix_inverse" = some (some (.ref f_matrix_inverse))) (l_matrix_inverse : K.lookup f_matrix_inverse = some ⟨oc_matrix_inverse, od_matrix_inverse, .func (PySem.W.fnOf "matrix_inverse" "matrix_inverse" (defArgs s_matrix_inverse) (defBody s_matrix_inverse) (defScope s_matrix_inverse) .none kV_matrix_inverse dc_matrix_inverse pm_matrix_inverse an_matrix_inverse cd_matrix_inverse ct_matrix_inverse), sl_matrix_inverse⟩)
    (c_matrix_inverse : PySem.W.codeIn K cd_matrix_inverse "matrix_inverse" = true) (k_matrix_inverse : PySem.W.keepIn K (.ref f_matrix_inverse) = true)
    {f__law_state : Addr} {od__law_state an__law_state : Option Addr} {sl__law_state : Array (Option Value)} {oc__law_state kV__law_state dc__law_state pm__law_state cd__law_state ct__law_state : Value}
    (a__law_state : PySem.W.nsIn K mainGlobals "_law_state" = some (some (.ref f__law_state))) (l__law_state : K.lookup f__law_state = some ⟨oc__law_state, od__law_state, .func (PySem.W.fnOf "_law_state" "_law_state" (defArgs s__law_state) (defBody s__law_state) (defScope s__law_state) .none kV__law_state dc__law_state pm__law_state an__law_state cd__law_state ct__law_state), sl__law_state⟩)
    (c__law_state : PySem.W.codeIn K cd__law_state "_law_state" = true) (k__law_state : PySem.W.keepIn K (.ref f__law_state) = true)
    {f__law_take : Addr} {od__law_take an__law_take : Option Addr} {sl__law_take : Array (Option Value)} {oc__law_take kV__law_take dc__law_take pm__law_take cd__law_take ct__law_take : Value}
    (a__law_take : PySem.W.nsIn K mainGlobals "_law_take" = some (some (.ref f__law_take))) (l__law_take : K.lookup f__law_take = some ⟨oc__law_take, od__law_take, .func (PySem.W.fnOf "_law_take" "_law_take" (defArgs s__law_take) (defBody s__law_take) (defScope s__law_take) .none kV__law_take dc__law_take pm__law_take an__law_take cd__law_take ct__law_take), sl__law_take⟩)
    (c__law_take : PySem.W.codeIn K cd__law_take "_law_take" = true) (k__law_take : PySem.W.keepIn K (.ref f__law_take) = true)
    {f__law_sum : Addr} {od__law_sum an__law_sum : Option Addr} {sl__law_sum : Array (Option Value)} {oc__law_sum kV__law_sum dc__law_sum pm__law_sum cd__law_sum ct__law_sum : Value}
    (a__law_sum : PySem.W.nsIn K mainGlobals "_law_sum" = some (some (.ref f__law_sum))) (l__law_sum : K.lookup f__law_sum = some ⟨oc__law_sum, od__law_sum, .func (PySem.W.fnOf "_law_sum" "_law_sum" (defArgs s__law_sum) (defBody s__law_sum) (defScope s__law_sum) .none kV__law_sum dc__law_sum pm__law_sum an__law_sum cd__law_sum ct__law_sum), sl__law_sum⟩)
    (c__law_sum : PySem.W.codeIn K cd__law_sum "_law_sum" = true) (k__law_sum : PySem.W.keepIn K (.ref f__law_sum) = true)
    {f__law_scaled : Addr} {od__law_scaled an__law_scaled : Option Addr} {sl__law_scaled : Array (Option Value)} {oc__law_scaled kV__law_scaled dc__law_scaled pm__law_scaled cd__law_scaled ct__law_scaled : Value}
    (a__law_scaled : PySem.W.nsIn K mainGlobals "_law_scaled" = some (some (.ref f__law_scaled))) (l__law_scaled : K.lookup f__law_scaled = some ⟨oc__law_scaled, od__law_scaled, .func (PySem.W.fnOf "_law_scaled" "_law_scaled" (defArgs s__law_scaled) (defBody s__law_scaled) (defScope s__law_scaled) .none kV__law_scaled dc__law_scaled pm__law_scaled an__law_scaled cd__law_scaled ct__law_scaled), sl__law_scaled⟩)
    (c__law_scaled : PySem.W.codeIn K cd__law_scaled "_law_scaled" = true) (k__law_scaled : PySem.W.keepIn K (.ref f__law_scaled) = true)
    {f__law_zero : Addr} {od__law_zero an__law_zero : Option Addr} {sl__law_zero : Array (Option Value)} {oc__law_zero kV__law_zero dc__law_zero pm__law_zero cd__law_zero ct__law_zero : Value}
    (a__law_zero : PySem.W.nsIn K mainGlobals "_law_zero" = some (some (.ref f__law_zero))) (l__law_zero : K.lookup f__law_zero = some ⟨oc__law_zero, od__law_zero, .func (PySem.W.fnOf "_law_zero" "_law_zero" (defArgs s__law_zero) (defBody s__law_zero) (defScope s__law_zero) .none kV__law_zero dc__law_zero pm__law_zero an__law_zero cd__law_zero ct__law_zero), sl__law_zero⟩)
    (c__law_zero : PySem.W.codeIn K cd__law_zero "_law_zero" = true) (k__law_zero : PySem.W.keepIn K (.ref f__law_zero) = true)
    {f__law_unit : Addr} {od__law_unit an__law_unit : Option Addr} {sl__law_unit : Array (Option Value)} {oc__law_unit kV__law_unit dc__law_unit pm__law_unit cd__law_unit ct__law_unit : Value}
    (a__law_unit : PySem.W.nsIn K mainGlobals "_law_unit" = some (some (.ref f__law_unit))) (l__law_unit : K.lookup f__law_unit = some ⟨oc__law_unit, od__law_unit, .func (PySem.W.fnOf "_law_unit" "_law_unit" (defArgs s__law_unit) (defBody s__law_unit) (defScope s__law_unit) .none kV__law_unit dc__law_unit pm__law_unit an__law_unit cd__law_unit ct__law_unit), sl__law_unit⟩)
    (c__law_unit : PySem.W.codeIn K cd__law_unit "_law_unit" = true) (k__law_unit : PySem.W.keepIn K (.ref f__law_unit) = true)
    {f__law_all : Addr} {od__law_all an__law_all : Option Addr} {sl__law_all : Array (Option Value)} {oc__law_all kV__law_all dc__law_all pm__law_all cd__law_all ct__law_all : Value}
    (a__law_all : PySem.W.nsIn K mainGlobals "_law_all" = some (some (.ref f__law_all))) (l__law_all : K.lookup f__law_all = some ⟨oc__law_all, od__law_all, .func (PySem.W.fnOf "_law_all" "_law_all" (defArgs s__law_all) (defBody s__law_all) (defScope s__law_all) .none kV__law_all dc__law_all pm__law_all an__law_all cd__law_all ct__law_all), sl__law_all⟩)
    (c__law_all : PySem.W.codeIn K cd__law_all "_law_all" = true) (k__law_all : PySem.W.keepIn K (.ref f__law_all) = true)
    {f__law_element : Addr} {od__law_element an__law_element : Option Addr} {sl__law_element : Array (Option Value)} {oc__law_element kV__law_element dc__law_element pm__law_element cd__law_element ct__law_element : Value}
    (a__law_element : PySem.W.nsIn K mainGlobals "_law_element" = some (some (.ref f__law_element))) (l__law_element : K.lookup f__law_element = some ⟨oc__law_element, od__law_element, .func (PySem.W.fnOf "_law_element" "_law_element" (defArgs s__law_element) (defBody s__law_element) (defScope s__law_element) .none kV__law_element dc__law_element pm__law_element an__law_element cd__law_element ct__law_element), sl__law_element⟩)
    (c__law_element : PySem.W.codeIn K cd__law_element "_law_element" = true) (k__law_element : PySem.W.keepIn K (.ref f__law_element) = true)
    {f__law_span : Addr} {od__law_span an__law_span : Option Addr} {sl__law_span : Array (Option Value)} {oc__law_span kV__law_span dc__law_span pm__law_span cd__law_span ct__law_span : Value}
    (a__law_span : PySem.W.nsIn K mainGlobals "_law_span" = some (some (.ref f__law_span))) (l__law_span : K.lookup f__law_span = some ⟨oc__law_span, od__law_span, .func (PySem.W.fnOf "_law_span" "_law_span" (defArgs s__law_span) (defBody s__law_span) (defScope s__law_span) .none kV__law_span dc__law_span pm__law_span an__law_span cd__law_span ct__law_span), sl__law_span⟩)
    (c__law_span : PySem.W.codeIn K cd__law_span "_law_span" = true) (k__law_span : PySem.W.keepIn K (.ref f__law_span) = true)
    {f__law_prime : Addr} {od__law_prime an__law_prime : Option Addr} {sl__law_prime : Array (Option Value)} {oc__law_prime kV__law_prime dc__law_prime pm__law_prime cd__law_prime ct__law_prime : Value}
    (a__law_prime : PySem.W.nsIn K mainGlobals "_law_prime" = some (some (.ref f__law_prime))) (l__law_prime : K.lookup f__law_prime = some ⟨oc__law_prime, od__law_prime, .func (PySem.W.fnOf "_law_prime" "_law_prime" (defArgs s__law_prime) (defBody s__law_prime) (defScope s__law_prime) .none kV__law_prime dc__law_prime pm__law_prime an__law_prime cd__law_prime ct__law_prime), sl__law_prime⟩)
    (c__law_prime : PySem.W.codeIn K cd__law_prime "_law_prime" = true) (k__law_prime : PySem.W.keepIn K (.ref f__law_prime) = true)
    {f__law_total : Addr} {od__law_total an__law_total : Option Addr} {sl__law_total : Array (Option Value)} {oc__law_total kV__law_total dc__law_total pm__law_total cd__law_total ct__law_total : Value}
    (a__law_total : PySem.W.nsIn K mainGlobals "_law_total" = some (some (.ref f__law_total))) (l__law_total : K.lookup f__law_total = some ⟨oc__law_total, od__law_total, .func (PySem.W.fnOf "_law_total" "_law_total" (defArgs s__law_total) (defBody s__law_total) (defScope s__law_total) .none kV__law_total dc__law_total pm__law_total an__law_total cd__law_total ct__law_total), sl__law_total⟩)
    (c__law_total : PySem.W.codeIn K cd__law_total "_law_total" = true) (k__law_total : PySem.W.keepIn K (.ref f__law_total) = true)
    {f__law_times : Addr} {od__law_times an__law_times : Option Addr} {sl__law_times : Array (Option Value)} {oc__law_times kV__law_times dc__law_times pm__law_times cd__law_times ct__law_times : Value}
    (a__law_times : PySem.W.nsIn K mainGlobals "_law_times" = some (some (.ref f__law_times))) (l__law_times : K.lookup f__law_times = some ⟨oc__law_times, od__law_times, .func (PySem.W.fnOf "_law_times" "_law_times" (defArgs s__law_times) (defBody s__law_times) (defScope s__law_times) .none kV__law_times dc__law_times pm__law_times an__law_times cd__law_times ct__law_times), sl__law_times⟩)
    (c__law_times : PySem.W.codeIn K cd__law_times "_law_times" = true) (k__law_times : PySem.W.keepIn K (.ref f__law_times) = true)
    {f__law_reason : Addr} {od__law_reason an__law_reason : Option Addr} {sl__law_reason : Array (Option Value)} {oc__law_reason kV__law_reason dc__law_reason pm__law_reason cd__law_reason ct__law_reason : Value}
    (a__law_reason : PySem.W.nsIn K mainGlobals "_law_reason" = some (some (.ref f__law_reason))) (l__law_reason : K.lookup f__law_reason = some ⟨oc__law_reason, od__law_reason, .func (PySem.W.fnOf "_law_reason" "_law_reason" (defArgs s__law_reason) (defBody s__law_reason) (defScope s__law_reason) .none kV__law_reason dc__law_reason pm__law_reason an__law_reason cd__law_reason ct__law_reason), sl__law_reason⟩)
    (c__law_reason : PySem.W.codeIn K cd__law_reason "_law_reason" = true) (k__law_reason : PySem.W.keepIn K (.ref f__law_reason) = true)
    {f_law : Addr} {od_law an_law : Option Addr} {sl_law : Array (Option Value)} {oc_law kV_law dc_law pm_law cd_law ct_law : Value}
    (a_law : PySem.W.nsIn K mainGlobals "law" = some (some (.ref f_law))) (l_law : K.lookup f_law = some ⟨oc_law, od_law, .func (PySem.W.fnOf "law" "law" (defArgs s_law) (defBody s_law) (defScope s_law) .none kV_law dc_law pm_law an_law cd_law ct_law), sl_law⟩)
    (c_law : PySem.W.codeIn K cd_law "law" = true) (k_law : PySem.W.keepIn K (.ref f_law) = true)
    (z_isinstance : PySem.W.nsIn K mainGlobals "isinstance" = some none)
    (z_int : PySem.W.nsIn K mainGlobals "int" = some none)
    (z_bool : PySem.W.nsIn K mainGlobals "bool" = some none)
    (z_all : PySem.W.nsIn K mainGlobals "all" = some none)
    (z_tuple : PySem.W.nsIn K mainGlobals "tuple" = some none)
    (z_len : PySem.W.nsIn K mainGlobals "len" = some none)
    (z_zip : PySem.W.nsIn K mainGlobals "zip" = some none)
    (z_range : PySem.W.nsIn K mainGlobals "range" = some none)
    (z_list : PySem.W.nsIn K mainGlobals "list" = some none)
    (z_abs : PySem.W.nsIn K mainGlobals "abs" = some none)
    (z_sorted : PySem.W.nsIn K mainGlobals "sorted" = some none)
    (z_sum : PySem.W.nsIn K mainGlobals "sum" = some none)
    {C CF fI : Addr} {nmR qnR : Str} {NR : Addr} {bsR bmR : List Value} {snR : List Str} {subR : List Value} {abR : Bool} {colR : Option Bool} {ddR : Option Addr} {m0R m1R m2R m3R m5R : Option Value}
    {odI anI : Option Addr} {slI : Array (Option Value)} {ocI kVI dcI pmI cdI ctI : Value}
    (aC : PySem.W.nsIn K mainGlobals "Refused" = some (some (.ref C))) (aF : PySem.W.nsIn K mainGlobals "Fault" = some (some (.ref CF)))
    (xC : K.lookup C = some (excClassObj nmR qnR C NR bsR bmR true snR subR abR colR ddR m0R m1R m2R m3R m5R "ValueError.__new__")) (rb : PySem.HandSPX.refsVE bmR = true)
    (sa : PySem.W.findIn K (.ref C) "__setattr__" = some (some (.builtin "object.__setattr__"))) (eC : PySem.W.subIn K (.ref C) (.type "BaseException") = some true) (yC : PySem.W.typeIn K (.ref C) = some (.type "type")) (kC : PySem.W.keepIn K (.ref C) = true)
    (iC : PySem.W.findIn K (.ref C) "__init__" = some (some (.ref fI))) (tI : PySem.W.typeIn K (.ref fI) = some (.type "function"))
    (lI : K.lookup fI = some ⟨ocI, odI, .func (PySem.W.fnOf "__init__" "Refused.__init__" (defArgs s_RI) (defBody s_RI) (defScope s_RI) .none kVI dcI pmI anI cdI ctI), slI⟩) (cI : PySem.W.codeIn K cdI "Refused.__init__" = true) (kI : PySem.W.keepIn K (.ref fI) = true)
    (rF : PySem.W.readsIn K CF (.type "type") = true) (gF : PySem.W.specialIn K (.ref CF) "__getattribute__" = some (some (.builtin "type.__getattribute__")))
    (vF : PySem.W.findCls K (.ref CF) (.type "type") "__init__" = some (.val (.builtin "ValueError.__init__"))) (nf : PySem.W.findIn K (.ref C) "reason" = some none)
    (ga : PySem.W.findIn K (.ref C) "__getattribute__" = some (some (.builtin "BaseException.__getattribute__"))) (gg : PySem.W.findIn K (.ref C) "__getattr__" = some none) (hdC : PySem.W.hasDictIn K C = true) (icC : PySem.W.isClsIn K C = true)
    (haC : PySem.W.findIn K (.ref C) "__class__" = some (some (.builtin "object.__class__"))) (hnC : PySem.W.specialIn K (.builtin "object.__class__") "__get__" = some (some (.builtin "getset_descriptor.__get__"))) (htC : PySem.W.takesIn K (.builtin "object.__class__") = some true)
    (hmC : PySem.W.mroIn K C (.type "object") = some true) (eF : PySem.W.subIn K (.ref CF) (.type "BaseException") = some true) (hF : PySem.W.hasDictIn K CF = true) (yF : PySem.W.typeIn K (.ref CF) = some (.type "type")) (sF : PySem.W.subIn K (.ref C) (.ref CF) = some true) (cF : PySem.W.isClsIn K CF = true)
    (sC : PySem.W.subIn K (.ref C) (.ref C) = some true) :
    ∃ fd : FuncData, (∀ (s : Shared) (v : Value), BindsTo s fd ⟨[v], []⟩ [("script", v)]) ∧ ∀ base : Heap, K.In base → base.Ns mainGlobals mg → FnOk l.prog w K mg base CX0 10 fa fd ["script"] (sp_law K) := by
  have e := hfa.symm.trans (PySem.W.mg_of X G a_law)
  cases e
  let T : Txt K mg := txt_mk X G a_is_integer l_is_integer c_is_integer k_is_integer a_power l_power c_power k_power a_inverse l_inverse c_inverse k_inverse a_is_row l_is_row c_is_row k_is_row a_add l_add c_add k_add a_scaled l_scaled c_scaled k_scaled a_combine l_combine c_combine k_combine a__zeros l__zeros c__zeros k__zeros a__unit l__unit c__unit k__unit a__cleared l__cleared c__cleared k__cleared a__lead_at l__lead_at c__lead_at k__lead_at a_reduced l_reduced c_reduced k_reduced a_span l_span c_span k_span a_identity l_identity c_identity k_identity a_is_matrix l_is_matrix c_is_matrix k_is_matrix a_moved l_moved c_moved k_moved a_times l_times c_times k_times a_matrix_power l_matrix_power c_matrix_power k_matrix_power a_is_invertible l_is_invertible c_is_invertible k_is_invertible a_matrix_inverse l_matrix_inverse c_matrix_inverse k_matrix_inverse a__law_state l__law_state c__law_state k__law_state a__law_take l__law_take c__law_take k__law_take a__law_sum l__law_sum c__law_sum k__law_sum a__law_scaled l__law_scaled c__law_scaled k__law_scaled a__law_zero l__law_zero c__law_zero k__law_zero a__law_unit l__law_unit c__law_unit k__law_unit a__law_all l__law_all c__law_all k__law_all a__law_element l__law_element c__law_element k__law_element a__law_span l__law_span c__law_span k__law_span a__law_prime l__law_prime c__law_prime k__law_prime a__law_total l__law_total c__law_total k__law_total a__law_times l__law_times c__law_times k__law_times a__law_reason l__law_reason c__law_reason k__law_reason a_law l_law c_law k_law z_isinstance z_int z_bool z_all z_tuple z_len z_zip z_range z_list z_abs z_sorted z_sum
  let FI := fun_mk (st := s_RI) lI cI kI
  let R : RefC K mg s_RI := { C := C, CF := CF, fI := fI, dI := _, gC := PySem.W.mg_of X G aC, gF := PySem.W.mg_of X G aF, rF := ⟨rF, gF⟩, vF := vF, ox := { cls := ⟨_, _, _, _, _, _, _, _, _, _, _, _, _, _, _, xC, rb⟩, sa := sa, exC := eC, tyC := yC, kC := kC }, iC := iC, tI := tI, FI := FI, bI := FI.binds (ps := ["self", "reason"]) fun _ _ _ _ _ _ us hl => match us, hl with | [_, _], _ => rfl, nf := nf, ed := ⟨ga, gg, eC, icC, haC, hnC, htC, hmC⟩, xf := ⟨ga, gg, eC, hdC⟩, ex := PySem.W.exm_ref eF hF yF sF, cF := cF }
  exact ⟨PySem.W.fnOf "law" "law" (defArgs s_law) (defBody s_law) (defScope s_law) .none kV_law dc_law pm_law an_law cd_law ct_law, fun s v => .of_eq rfl, fun base _ _ => ok_law R T sC⟩
end K05
open PySem PySem.W PyProof.Rows
set_option maxRecDepth 100000 in
set_option maxHeartbeats 0 in
theorem PySem.Challenge.cw_polychains_k05_whole_matrices_holds : PySem.Challenge.rw_polychains_k05_whole_matrices.Holds := by
  w_on; o_law; k_head; (case hw => w_witness2)
  k_fill
  refine L2.walk_of (l := PySem.Challenge.rw_polychains_k05_whole_matrices) (n := 63) (k := 10) (x := "script") (CX := fun _ => L2.CX0) (sp := fun w => K05.sp_law _) rfl (by decide) rfl ⟨rfl, by decide, by decide⟩ (fun w h Y => PySem.W.kIn_of Y) ?F (fun _ _ a ns hl _ hS => ⟨a, ns, rfl, hS, hl, fun _ => rfl⟩) (fun _ _ _ _ _ h => h)
  case F =>
    intro w mg fa h KX G hmg
    refine' K05.all_mk KX G hmg ?a_is_integer ?l_is_integer ?c_is_integer ?k_is_integer ?a_power ?l_power ?c_power ?k_power ?a_inverse ?l_inverse ?c_inverse ?k_inverse ?a_is_row ?l_is_row ?c_is_row ?k_is_row ?a_add ?l_add ?c_add ?k_add ?a_scaled ?l_scaled ?c_scaled ?k_scaled ?a_combine ?l_combine ?c_combine ?k_combine ?a__zeros ?l__zeros ?c__zeros ?k__zeros ?a__unit ?l__unit ?c__unit ?k__unit ?a__cleared ?l__cleared ?c__cleared ?k__cleared ?a__lead_at ?l__lead_at ?c__lead_at ?k__lead_at ?a_reduced ?l_reduced ?c_reduced ?k_reduced ?a_span ?l_span ?c_span ?k_span ?a_identity ?l_identity ?c_identity ?k_identity ?a_is_matrix ?l_is_matrix ?c_is_matrix ?k_is_matrix ?a_moved ?l_moved ?c_moved ?k_moved ?a_times ?l_times ?c_times ?k_times ?a_matrix_power ?l_matrix_power ?c_matrix_power ?k_matrix_power ?a_is_invertible ?l_is_invertible ?c_is_invertible ?k_is_invertible ?a_matrix_inverse ?l_matrix_inverse ?c_matrix_inverse ?k_matrix_inverse ?a__law_state ?l__law_state ?c__law_state ?k__law_state ?a__law_take ?l__law_take ?c__law_take ?k__law_take ?a__law_sum ?l__law_sum ?c__law_sum ?k__law_sum ?a__law_scaled ?l__law_scaled ?c__law_scaled ?k__law_scaled ?a__law_zero ?l__law_zero ?c__law_zero ?k__law_zero ?a__law_unit ?l__law_unit ?c__law_unit ?k__law_unit ?a__law_all ?l__law_all ?c__law_all ?k__law_all ?a__law_element ?l__law_element ?c__law_element ?k__law_element ?a__law_span ?l__law_span ?c__law_span ?k__law_span ?a__law_prime ?l__law_prime ?c__law_prime ?k__law_prime ?a__law_total ?l__law_total ?c__law_total ?k__law_total ?a__law_times ?l__law_times ?c__law_times ?k__law_times ?a__law_reason ?l__law_reason ?c__law_reason ?k__law_reason ?a_law ?l_law ?c_law ?k_law ?z_isinstance ?z_int ?z_bool ?z_all ?z_tuple ?z_len ?z_zip ?z_range ?z_list ?z_abs ?z_sorted ?z_sum ?aC ?aF ?xC ?rb ?sa ?eC ?yC ?kC ?iC ?tI ?lI ?cI ?kI ?rF ?gF ?vF ?nf ?ga ?gg ?hdC ?icC ?haC ?hnC ?htC ?hmC ?eF ?hF ?yF ?sF ?cF ?sC
    (case a_is_integer => k_is)
    (case l_is_integer => k_is)
    (case c_is_integer => k_is)
    (case k_is_integer => k_is)
    (case a_power => k_is)
    (case l_power => k_is)
    (case c_power => k_is)
    (case k_power => k_is)
    (case a_inverse => k_is)
    (case l_inverse => k_is)
    (case c_inverse => k_is)
    (case k_inverse => k_is)
    (case a_is_row => k_is)
    (case l_is_row => k_is)
    (case c_is_row => k_is)
    (case k_is_row => k_is)
    (case a_add => k_is)
    (case l_add => k_is)
    (case c_add => k_is)
    (case k_add => k_is)
    (case a_scaled => k_is)
    (case l_scaled => k_is)
    (case c_scaled => k_is)
    (case k_scaled => k_is)
    (case a_combine => k_is)
    (case l_combine => k_is)
    (case c_combine => k_is)
    (case k_combine => k_is)
    (case a__zeros => k_is)
    (case l__zeros => k_is)
    (case c__zeros => k_is)
    (case k__zeros => k_is)
    (case a__unit => k_is)
    (case l__unit => k_is)
    (case c__unit => k_is)
    (case k__unit => k_is)
    (case a__cleared => k_is)
    (case l__cleared => k_is)
    (case c__cleared => k_is)
    (case k__cleared => k_is)
    (case a__lead_at => k_is)
    (case l__lead_at => k_is)
    (case c__lead_at => k_is)
    (case k__lead_at => k_is)
    (case a_reduced => k_is)
    (case l_reduced => k_is)
    (case c_reduced => k_is)
    (case k_reduced => k_is)
    (case a_span => k_is)
    (case l_span => k_is)
    (case c_span => k_is)
    (case k_span => k_is)
    (case a_identity => k_is)
    (case l_identity => k_is)
    (case c_identity => k_is)
    (case k_identity => k_is)
    (case a_is_matrix => k_is)
    (case l_is_matrix => k_is)
    (case c_is_matrix => k_is)
    (case k_is_matrix => k_is)
    (case a_moved => k_is)
    (case l_moved => k_is)
    (case c_moved => k_is)
    (case k_moved => k_is)
    (case a_times => k_is)
    (case l_times => k_is)
    (case c_times => k_is)
    (case k_times => k_is)
    (case a_matrix_power => k_is)
    (case l_matrix_power => k_is)
    (case c_matrix_power => k_is)
    (case k_matrix_power => k_is)
    (case a_is_invertible => k_is)
    (case l_is_invertible => k_is)
    (case c_is_invertible => k_is)
    (case k_is_invertible => k_is)
    (case a_matrix_inverse => k_is)
    (case l_matrix_inverse => k_is)
    (case c_matrix_inverse => k_is)
    (case k_matrix_inverse => k_is)
    (case a__law_state => k_is)
    (case l__law_state => k_is)
    (case c__law_state => k_is)
    (case k__law_state => k_is)
    (case a__law_take => k_is)
    (case l__law_take => k_is)
    (case c__law_take => k_is)
    (case k__law_take => k_is)
    (case a__law_sum => k_is)
    (case l__law_sum => k_is)
    (case c__law_sum => k_is)
    (case k__law_sum => k_is)
    (case a__law_scaled => k_is)
    (case l__law_scaled => k_is)
    (case c__law_scaled => k_is)
    (case k__law_scaled => k_is)
    (case a__law_zero => k_is)
    (case l__law_zero => k_is)
    (case c__law_zero => k_is)
    (case k__law_zero => k_is)
    (case a__law_unit => k_is)
    (case l__law_unit => k_is)
    (case c__law_unit => k_is)
    (case k__law_unit => k_is)
    (case a__law_all => k_is)
    (case l__law_all => k_is)
    (case c__law_all => k_is)
    (case k__law_all => k_is)
    (case a__law_element => k_is)
    (case l__law_element => k_is)
    (case c__law_element => k_is)
    (case k__law_element => k_is)
    (case a__law_span => k_is)
    (case l__law_span => k_is)
    (case c__law_span => k_is)
    (case k__law_span => k_is)
    (case a__law_prime => k_is)
    (case l__law_prime => k_is)
    (case c__law_prime => k_is)
    (case k__law_prime => k_is)
    (case a__law_total => k_is)
    (case l__law_total => k_is)
    (case c__law_total => k_is)
    (case k__law_total => k_is)
    (case a__law_times => k_is)
    (case l__law_times => k_is)
    (case c__law_times => k_is)
    (case k__law_times => k_is)
    (case a__law_reason => k_is)
    (case l__law_reason => k_is)
    (case c__law_reason => k_is)
    (case k__law_reason => k_is)
    (case a_law => k_is)
    (case l_law => k_is)
    (case c_law => k_is)
    (case k_law => k_is)
    (case z_isinstance => k_is)
    (case z_int => k_is)
    (case z_bool => k_is)
    (case z_all => k_is)
    (case z_tuple => k_is)
    (case z_len => k_is)
    (case z_zip => k_is)
    (case z_range => k_is)
    (case z_list => k_is)
    (case z_abs => k_is)
    (case z_sorted => k_is)
    (case z_sum => k_is)
    (case aC => k_is)
    (case aF => k_is)
    (case xC => k_is)
    (case rb => first | rfl | decide +kernel | k_is)
    (case sa => k_is)
    (case eC => k_is)
    (case yC => k_is)
    (case kC => k_is)
    (case iC => k_is)
    (case tI => k_is)
    (case lI => k_is)
    (case cI => k_is)
    (case kI => k_is)
    (case rF => k_is)
    (case gF => k_is)
    (case vF => k_is)
    (case nf => k_is)
    (case ga => k_is)
    (case gg => k_is)
    (case hdC => k_is)
    (case icC => k_is)
    (case haC => k_is)
    (case hnC => k_is)
    (case htC => k_is)
    (case hmC => k_is)
    (case eF => k_is)
    (case hF => k_is)
    (case yF => k_is)
    (case sF => k_is)
    (case cF => k_is)
    (case sC => k_is)
