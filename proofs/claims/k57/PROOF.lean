import PyProof.Rows.All
import Wide.All
import OpenK.AllK
import Wide.FinOn
import PySem.Challenge.RW_polychains_k57_whole_papers_of_consisten
import HandS.ForMost
import HandS.Exc
import HandS.ExcOwn
import HandS.WordsExc
import HandS.ExcInit
import HandS.ExcField
import HandS.IsInst
import HandS.Wide
import HandS.SortInts
import HandS.TupLe
import HandS.FStr
import HandS.ClsMeth
import HandS.Conv
import HandS.Flow
import HandS.Codes
import HandS.ExcIs
import HandS.Walk
import HandS.Zip
import HandS.TupMul
import HandS.TupAny
import HandS.Star
import HandS.Deep
import HandS.Strs
import HandS.Style
import HandS.GenList
import HandS.Dict
import PyProof.TupleKey
import PyProof.DictKinds
import PyProof.DictRoadsH
import KE.SortData
import KE.KExcIs
import KE.GoesMore
import KE.KDictDisplayH
import HandS.Rev
import HandS.TryOnly
set_option Elab.async false
set_option linter.all false
set_option maxRecDepth 100000
set_option maxHeartbeats 4000000
namespace K57
open PySem PySem.Spec PyProof.Rows L2
section
variable {P : Program} {w : World} {K : PySem.W.Frag} {mg : Str → Option Value} {base : Heap}
theorem yesT {σ : L2.St} {H : Hp} {A B : Hp → Prop} (h : A H) : tYes σ H (fun b H3 => if b = true then A H3 else B H3) := h
/-! operators that hand on a letter -/
def rL (g : Int → Int → Int) : R2 := fun x y H Q => ∃ i j, x = .int i ∧ y = .int j ∧ ∀ z, z = g i j → Q (.int z) H
theorem op_addL {X : Cx} : OpR X (binaryOp .Add) (rL fun i j => i + j) := by
  intro pins s σ H x y v u Q I rx ry h
  obtain ⟨i, j, hx, hy, q⟩ := h
  exact op_add pins s σ H x y v u Q I rx ry ⟨i, j, hx, hy, q _ rfl⟩
theorem op_subL {X : Cx} : OpR X (binaryOp .Sub) (rL fun i j => i - j) := by
  intro pins s σ H x y v u Q I rx ry h
  obtain ⟨i, j, hx, hy, q⟩ := h
  exact op_sub pins s σ H x y v u Q I rx ry ⟨i, j, hx, hy, q _ rfl⟩
theorem call_lenL {X : Cx} : CallR X (.builtin "len") (fun xs H Q => ∃ p ys, xs = [.ref p] ∧ (SqL X.K H p ys ∨ SqT X.K H p ys) ∧ ∀ z : Int, z = (ys.length : Int) → Q (.int z) H) := by
  intro pins s σ H xs us Q I r h
  obtain ⟨p, ys, e, hs, q⟩ := h
  exact call_len_seq pins s σ H xs us Q I r ⟨p, ys, e, hs, q _ rfl⟩
theorem iteB {b : Bool} {A B : Prop} (h : b = false) (q : B) : if b = true then A else B := by
  rw [h]
  exact iteF q
theorem iteA {b : Bool} {A B : Prop} (h : b = true) (q : A) : if b = true then A else B := by
  rw [h]
  exact iteT q
theorem not_dec {p : Prop} [Decidable p] (h : p) : (!decide p) = false := by rw [decide_eq_true h]; rfl
theorem same_new {H : Hp} {p : Addr} {o : HO} (h : H p = none) : Same H (upd H p o) := fun b x e => by
  rw [upd_ne (ne_of_none e h)]
  exact e
/-- a list at o that was new may change -/
theorem same_mut {H H' : Hp} {o : Addr} {u : HO} (e : Same H H') (h : H o = none) : Same H (upd H' o u) := fun b x hb => by
  rw [upd_ne (ne_of_none hb h)]
  exact e b x hb
theorem op_modE {X : Cx} : OpR X (binaryOp .Mod) (fun x y H Q => ∃ i j : Int, x = .int i ∧ y = .int j ∧ 0 < j ∧ Q (.int (i % j)) H) := by
  intro pins s σ H x y v u Q I rx ry h
  obtain ⟨i, j, hx, hy, hj, q⟩ := h
  refine op_modN pins s σ H x y v u Q I rx ry ⟨i, j, hx, hy, (show j ≠ 0 by omega), ?_⟩
  show Q (V.int (i.fmod j)) H
  rw [Int.fmod_eq_emod_of_nonneg _ (Int.le_of_lt hj)]
  exact q
/-! ### the error with a reason -/
theorem pe_finit {X : Cx} {e : Expr} {es : List Expr} {ta : TA} {p1 p2 pos : Pos} {f : Str} {CF : Addr} {pl : Sem Bool} (hg : Gl X f) (hm : X.mg f = some (.ref CF)) (r : ClX.CRead X.K CF (.type "type"))
    (kv : PySem.W.findCls X.K (.ref CF) (.type "type") "__init__" = some (.val (.builtin "ValueError.__init__"))) (ha : PA X (e :: es) ta)
    (hc : eval (.Call (.Attribute (.Name f p1) "__init__" p2) (e :: es) [] pos) X.env = (do
      let ov ← eval (.Name f p1) X.env
      standAt p2.atName
      let (f, first) ← holding [ov] (getMethod ov "__init__" pl)
      callWith pos f first (backTo pos (starEach (e :: es) X.env)) (backToKw pos (keywordEach [] X.env))) := by rfl)
    (hd : (f == ("__debug__" : Str)) = false := by decide)
    (he : starEach (e :: es) X.env = (false, eval e X.env) :: starEach es X.env := by rfl) (hpl : (backTo pos (starEach es X.env)).any (·.1) = false := by rfl) :
    PE X (.Call (.Attribute (.Name f p1) "__init__" p2) (e :: es) [] pos) (tVeI X.K ta) := by
  refine ⟨fun pins s σ H Q I h => ?_⟩
  refine PySem.W.methodCall_KW (ld_glob I hg hm ?_ hd) hc
  refine PySem.W.method_cls I.kIn r.ga (PySem.W.cls_value I.kIn r.rd kv (by decide +kernel) ?_)
  have I := I.tok s.toks.succ
  show wpAny _ _ (callWith pos (Value.builtin "ValueError.__init__") [] (backTo pos (starEach (e :: es) X.env)) []) _ _ _
  refine PyProof.Rows.callWith_method1 (thn (ha.run pos pins _ σ H _ I h) fun us s1 ⟨vs, H1, I1, r1, a, C, ws, ev, hl, T, ea, q⟩ => ?_) he hpl
  subst ev
  cases r1 with
  | @cons _ u0 _ ur ra rw' =>
    obtain rfl : u0 = Value.ref a := ra
    have hlen : ur.length ≤ sizeLine := by
      rw [← Paired.length rw', sizeLine_eq]
      omega
    exact oinit_ok T I1 ea hlen fun s' J => ⟨.non, H1, J, rfl, q⟩
/-- what isinstance asks of the class of an exception that has its dict -/
structure ExcD (K : PySem.W.Frag) (D : Addr) : Prop where
  hg : PySem.W.findIn K (.ref D) "__getattribute__" = some (some (.builtin "BaseException.__getattribute__"))
  hk : PySem.W.findIn K (.ref D) "__getattr__" = some none
  hs : PySem.W.subIn K (.ref D) (.type "BaseException") = some true
  hc : PySem.W.isClsIn K D = true
  ha : PySem.W.findIn K (.ref D) "__class__" = some (some (.builtin "object.__class__"))
  hn : PySem.W.specialIn K (.builtin "object.__class__") "__get__" = some (some (.builtin "getset_descriptor.__get__"))
  ht : PySem.W.takesIn K (.builtin "object.__class__") = some true
  hm : PySem.W.mroIn K D (.type "object") = some true
def rIsD (K : PySem.W.Frag) (D a : Addr) (cls : Value) (d : Option Addr) : List V → Hp → VK → Prop := fun xs H Q => ∃ (c : V) (cv : Value) (b : Bool) (dd : Addr) (fs : List (Str × V)), xs = [.ref a, c] ∧ ClsV c cv ∧ cls = .ref D ∧ d = some dd ∧ H dd = some (.xd fs) ∧ PySem.W.kitOne K (.ref D) cv = some b ∧ Q (.bl b) H
def rIsDT (K : PySem.W.Frag) (D a : Addr) (cls : Value) (d : Option Addr) : List V → Hp → VK → Prop := fun xs H Q => ∃ (tp : Addr) (cs : List V) (us : List Value) (b : Bool) (dd : Addr) (fs : List (Str × V)), xs = [.ref a, .ref tp] ∧ H tp = some (.tup cs) ∧ Paired ClsV cs us ∧ cls = .ref D ∧ d = some dd ∧ H dd = some (.xd fs) ∧ PySem.W.kitAny K (.ref D) us = some b ∧ Q (.bl b) H
section
variable {X : Cx} {a D : Addr} {oe : Obj} {cls : Value} {d : Option Addr} {pn : List (Addr × Obj)}
theorem inst_of {pins : List (Addr × Obj)} {σ : L2.St} {H : Hp} {s : Shared} {dd : Addr} {fs : List (Str × V)} (I : Inv (X.suite a ((a, oe) :: pn)) pins σ H s) (hz : Zc (.ref D) (some dd) oe) (hf : ∃ vs, oe.data = .fields vs) (ea : H dd = some (.xd fs)) :
    ∃ od : Obj, PySem.W.InstAt s.heap a oe D (some od) := by
  obtain ⟨ha, _⟩ := I.pin (a, oe) (List.mem_append_left _ List.mem_cons_self)
  obtain ⟨vs, hd⟩ := hf
  obtain ⟨mA, hns, hr⟩ := (show ObjOk X.prog X.w H s.heap dd (.xd fs) from I.hok dd _ ea)
  obtain ⟨od, ho, hl⟩ := lookIn_ns hns
  exact ⟨od, ha, hz.1, by unfold PySem.W.notCls; rw [hd] <;> rfl, by rw [hz.2]; exact ho⟩
theorem call_isD (C : ExcD X.K D) (hz : Zc cls d oe) (hf : ∃ vs, oe.data = .fields vs) : CallR (X.suite a ((a, oe) :: pn)) (.builtin "isinstance") (rIsD X.K D a cls d) := by
  intro pins s σ H xs us Q I r h
  obtain ⟨c, cv, b, dd, fs, rfl, hcv, rfl, rfl, ea, e, q⟩ := h
  obtain ⟨u1, u2, rfl, r1, r2⟩ := vals2 r
  cases (show u1 = Value.ref a from r1)
  have ec := hcv.eq r2
  cases ec
  obtain ⟨od, J⟩ := inst_of I hz hf ea
  exact PySem.W.kia_one (PySem.W.kitx_exc C.hc C.hg C.hk C.hs C.ha C.hn C.ht C.hm) I.kIn J e (fun z => nomatch z) fun tk => ⟨.bl b, H, I.tok tk, rfl, q⟩
theorem call_isDT (C : ExcD X.K D) (hz : Zc cls d oe) (hf : ∃ vs, oe.data = .fields vs) : CallR (X.suite a ((a, oe) :: pn)) (.builtin "isinstance") (rIsDT X.K D a cls d) := by
  intro pins s σ H xs us Q I r h
  obtain ⟨tp, cs, ws, b, dd, fs, rfl, hT, hcv, rfl, rfl, ea, e, q⟩ := h
  obtain ⟨u1, u2, rfl, r1, r2⟩ := vals2 r
  cases (show u1 = Value.ref a from r1)
  cases (show u2 = Value.ref tp from r2)
  obtain ⟨od, J⟩ := inst_of I hz hf ea
  obtain ⟨_, its, rv, o, h1, h2, n, h3⟩ := (show ObjOk X.prog X.w H s.heap tp (.tup cs) from I.hok tp _ hT)
  have e3 := ClsV.all hcv rv
  subst e3
  obtain ⟨oc, od', dt, sl⟩ := o
  simp only at h2 h3
  subst h2 h3
  exact PySem.W.kia_tup (PySem.W.kitx_exc C.hc C.hg C.hk C.hs C.ha C.hn C.ht C.hm) I.kIn J h1 e (fun z => nomatch z) fun tk => ⟨.bl b, H, I.tok tk, rfl, q⟩
end
theorem kit_self {K : PySem.W.Frag} {C : Addr} : PySem.W.kitOne K (.ref C) (.ref C) = some true := by
  unfold PySem.W.kitOne
  rw [if_pos (beq_self_eq_true _)]
theorem kit_base {K : PySem.W.Frag} {C : Addr} {T : String} {b : Bool} (hm : PySem.W.kitMeta T = true) (h : PySem.W.subIn K (.ref C) (.type T) = some b) : PySem.W.kitOne K (.ref C) (.type T) = some b := by
  unfold PySem.W.kitOne
  rw [if_neg (by intro z; exact nomatch (beq_iff_eq.mp z))]
  show (if PySem.W.kitMeta T = true then PySem.W.subIn K (.ref C) (.type T) else none) = some b
  rw [if_pos hm]
  exact h
theorem kit_other {K : PySem.W.Frag} {C D : Addr} (hne : ((Value.ref C) == (Value.ref D)) = false) (hc : PySem.W.isClsIn K D = true) (ht : PySem.W.typeIn K (.ref D) = some (.type "type")) (h : PySem.W.subIn K (.ref C) (.ref D) = some false) : PySem.W.kitOne K (.ref C) (.ref D) = some false := by
  unfold PySem.W.kitOne
  rw [if_neg (by rw [hne]; exact Bool.false_ne_true)]
  show (if ((PySem.W.clsIn K D).isSome && PySem.W.typeIn K (.ref D) == some (.type "type")) = true then PySem.W.subIn K (.ref C) (.ref D) else none) = some false
  have h2 : (PySem.W.clsIn K D).isSome = true := hc
  rw [if_pos (by rw [h2, ht]; rfl)]
  exact h
/-- what the written part says of Refused, over Fault -/
structure RefC (K : PySem.W.Frag) (mg : Str → Option Value) (st : Stmt) where
  C : Addr
  CF : Addr
  fI : Addr
  dI : FuncData
  gC : mg "Refused" = some (.ref C)
  gF : mg "Fault" = some (.ref CF)
  rF : ClX.CRead K CF (.type "type")
  vF : PySem.W.findCls K (.ref CF) (.type "type") "__init__" = some (.val (.builtin "ValueError.__init__"))
  ox : OexC K C
  iC : PySem.W.findIn K (.ref C) "__init__" = some (some (.ref fI))
  tI : PySem.W.typeIn K (.ref fI) = some (.type "function")
  FI : Fun K "__init__" "Refused.__init__" st fI dI
  bI : Binds K dI ["self", "reason"] []
  nf : PySem.W.findIn K (.ref C) "reason" = some none
  ed : ExcD K C
  xf : XfC K C
  ex : PySem.W.exmOne K (.ref C) (.ref CF) = some true
  cF : PySem.W.isClsIn K CF = true
/-! ### tuples of ints, tuples of pairs, as data -/
theorem dpAll_ints {H : Hp} : ∀ ns : List Int, DpAll K H (ns.map V.int) (ns.map PyData.int)
  | [] => .nil
  | n :: r => .cons (.int n) (dpAll_ints r)
def dInts (ns : List Int) : PyData := .tuple (ns.map PyData.int)
def dPair (x : Int × Int) : PyData := .tuple [.int x.1, .int x.2]
def dPairs (l : List (Int × Int)) : PyData := .tuple (l.map dPair)
theorem dp_ints {H : Hp} {a : Addr} {ns : List Int} (h : SqT K H a (ns.map V.int)) : Dp K H (.ref a) (dInts ns) := .tup h (dpAll_ints ns)
theorem shaped_dInts (ns : List Int) : SeqAt.shaped (dInts ns) = true := by
  have h1 := PySem.W.depthAll_ints ns
  have h2 : PyData.depth (.tuple (ns.map PyData.int)) ≤ 64 := by simp only [PyData.depth]; omega
  show (PyData.canLay0 (.tuple (ns.map PyData.int)) && decide (PyData.depth (.tuple (ns.map PyData.int)) ≤ 64)) = true
  rw [Bool.and_eq_true]
  exact ⟨by simp only [PyData.canLay0]; exact PySem.W.canLayAll0_ints ns, decide_eq_true h2⟩
theorem canLay_dPairs : ∀ l : List (Int × Int), PyData.canLayAll0 (l.map dPair) = true
  | [] => by simp [PyData.canLayAll0]
  | x :: r => by simp [PyData.canLayAll0, PyData.canLay0, dPair, canLay_dPairs r]
theorem depth_dPairs : ∀ l : List (Int × Int), PyData.depthAll (l.map dPair) ≤ 2
  | [] => by simp [PyData.depthAll]
  | x :: r => by
    have := depth_dPairs r
    simp only [List.map_cons, PyData.depthAll, PyData.depth, dPair]
    omega
theorem shaped_dPairs (l : List (Int × Int)) : SeqAt.shaped (dPairs l) = true := by
  have h1 := depth_dPairs l
  have h2 : PyData.depth (.tuple (l.map dPair)) ≤ 64 := by simp only [PyData.depth]; omega
  show (PyData.canLay0 (.tuple (l.map dPair)) && decide (PyData.depth (.tuple (l.map dPair)) ≤ 64)) = true
  rw [Bool.and_eq_true]
  exact ⟨by simp only [PyData.canLay0]; exact canLay_dPairs l, decide_eq_true h2⟩
theorem eqvAll_ints : ∀ ns ms : List Int, PyData.eqvAll (ns.map PyData.int) (ms.map PyData.int) = decide (ns = ms)
  | [], [] => by simp [PyData.eqvAll]
  | [], _ :: _ => by simp [PyData.eqvAll]
  | _ :: _, [] => by simp [PyData.eqvAll]
  | n :: r, k :: q => by
    simp only [List.map_cons, PyData.eqvAll, PyData.eqv, eqvAll_ints r q]
    by_cases h : n = k <;> simp [h]
theorem eqv_dInts (ns ms : List Int) : PyData.eqv (dInts ns) (dInts ms) = decide (ns = ms) := by
  unfold dInts
  rw [PyData.eqv]
  exact eqvAll_ints ns ms
theorem eqvAll_dPairs : ∀ l : List (Int × Int), PyData.eqvAll (l.map dPair) (l.map dPair) = true
  | [] => by simp [PyData.eqvAll]
  | x :: r => by
    simp only [List.map_cons, PyData.eqvAll, eqvAll_dPairs r, Bool.and_true]
    unfold dPair
    simp [PyData.eqv, PyData.eqvAll]
theorem eqv_dPairs (l : List (Int × Int)) : PyData.eqv (dPairs l) (dPairs l) = true := by
  unfold dPairs
  rw [PyData.eqv]
  exact eqvAll_dPairs l
theorem dpAll_pairs {H : Hp} : ∀ {ts : List Addr} {l : List (Int × Int)}, Paired (fun t x => H t = some (.tup [.int x.1, .int x.2])) ts l → DpAll K H (ts.map V.ref) (l.map dPair)
  | _, _, .nil => .nil
  | _, _, .cons h r => .cons (.tup (.inl (.inl h)) (.cons (.int _) (.cons (.int _) .nil))) (dpAll_pairs r)
theorem dp_pairs {H : Hp} {a : Addr} {ts : List Addr} {l : List (Int × Int)} (h : SqT K H a (ts.map V.ref)) (hp : Paired (fun t x => H t = some (.tup [.int x.1, .int x.2])) ts l) : Dp K H (.ref a) (dPairs l) := .tup h (dpAll_pairs hp)
/-! ### things that stand in the heap as data: stable relations; comprehensions by them -/
structure Stable {α : Type} (R : Hp → V → α → Prop) : Prop where
  same : ∀ {H H' : Hp} {v : V} {x : α}, Same H H' → R H v x → R H' v x
  put : ∀ {H : Hp} {D : Addr} {xs ys : List V} {v : V} {x : α}, H D = some (.lst xs) → R H v x → R (upd H D (.lst ys)) v x
theorem Stable.all {α : Type} {R : Hp → V → α → Prop} (S : Stable R) {H H' : Hp} (e : Same H H') : ∀ {vs : List V} {xs : List α}, Paired (R H) vs xs → Paired (R H') vs xs
  | _, _, .nil => .nil
  | _, _, .cons h t => .cons (S.same e h) (S.all e t)
theorem Stable.allPut {α : Type} {R : Hp → V → α → Prop} (S : Stable R) {H : Hp} {D : Addr} {ys zs : List V} (e : H D = some (.lst ys)) : ∀ {vs : List V} {xs : List α}, Paired (R H) vs xs → Paired (R (upd H D (.lst zs))) vs xs
  | _, _, .nil => .nil
  | _, _, .cons h t => .cons (S.put e h) (S.allPut e t)
theorem paired_app {α β : Type} {R : α → β → Prop} : ∀ {as : List α} {bs : List β} {cs : List α} {ds : List β}, Paired R as bs → Paired R cs ds → Paired R (as ++ cs) (bs ++ ds)
  | _, _, _, _, .nil, k => k
  | _, _, _, _, .cons h t, k => .cons h (paired_app t k)
theorem paired_add {α β : Type} {R : α → β → Prop} {as : List α} {bs : List β} {a : α} {b : β} (h : Paired R as bs) (k : R a b) : Paired R (as ++ [a]) (bs ++ [b]) := paired_app h (.cons k .nil)
theorem paired_get {α β : Type} {R : α → β → Prop} : ∀ {as : List α} {bs : List β} {i : Nat} {a : α}, Paired R as bs → as[i]? = some a → ∃ b, bs[i]? = some b ∧ R a b
  | _, _, 0, _, .cons h _, e => ⟨_, rfl, by cases e; exact h⟩
  | _, _, i + 1, _, .cons _ t, e => paired_get (i := i) t e
  | _, _, 0, _, .nil, e => by cases e
  | _, _, i + 1, _, .nil, e => by cases e
theorem paired_get2 {α β : Type} {R : α → β → Prop} : ∀ {as : List α} {bs : List β} {i : Nat} {b : β}, Paired R as bs → bs[i]? = some b → ∃ a, as[i]? = some a ∧ R a b
  | _, _, 0, _, .cons h _, e => ⟨_, rfl, by cases e; exact h⟩
  | _, _, i + 1, _, .cons _ t, e => paired_get2 (i := i) t e
  | _, _, 0, _, .nil, e => by cases e
  | _, _, i + 1, _, .nil, e => by cases e
def RI : Hp → V → Int → Prop := fun _ v x => v = .int x
/-- a row at t: a tuple, known to its object -/
def RowAt (H : Hp) (t : Addr) (r : List Int) : Prop := ∃ o : Obj, o.dict = none ∧ H t = some (.frz o (.tup (r.map V.int)))
theorem RowAt.sq {K : PySem.W.Frag} {H : Hp} {t : Addr} {r : List Int} (h : RowAt H t r) : SqT K H t (r.map V.int) := by
  obtain ⟨o, _, e⟩ := h
  exact .inl (.inr ⟨o, e⟩)
theorem RowAt.mono {H H' : Hp} {t : Addr} {r : List Int} (e : Same H H') (h : RowAt H t r) : RowAt H' t r := by
  obtain ⟨o, d, h⟩ := h
  exact ⟨o, d, e _ _ h⟩
def RR : Hp → V → List Int → Prop := fun H v r => ∃ t, v = .ref t ∧ RowAt H t r
theorem st_RI : Stable RI := ⟨fun _ h => h, fun _ h => h⟩
theorem upd_put {H : Hp} {D t : Addr} {xs ys : List V} {o : HO} (e : H D = some (.lst xs)) (h : H t = some o) (hn : ∀ zs, o ≠ .lst zs) : (upd H D (.lst ys)) t = some o := by
  rw [upd_ne (fun z => by rw [z, e] at h; exact hn _ (Option.some.inj h).symm)]
  exact h
theorem st_RR : Stable RR := ⟨fun e ⟨t, a, b⟩ => ⟨t, a, b.mono e⟩, fun e ⟨t, a, o, d, b⟩ => ⟨t, a, o, d, upd_put e b (fun _ z => by cases z)⟩⟩
theorem ints_of {H : Hp} : ∀ {vs : List V} {ns : List Int}, Paired (RI H) vs ns → vs = ns.map V.int
  | _, _, .nil => rfl
  | _, _, @Paired.cons _ _ _ v n vs ns h t => by
    have e : v = .int n := h
    rw [e, ints_of t]
    rfl
theorem small2000 {n : Nat} (h : n ≤ 100000) : n < sizeLine := Nat.lt_of_le_of_lt h (by decide)
/-- a comprehension without a test; each element stands for f i -/
theorem lc_rep {α : Type} {J : It} {n : Nat} {G : Hp → Prop} {Y : Nat → Hp → V → Hp → Prop} (w : Walk J n G Y) {R : Hp → V → α → Prop} (S : Stable R) (f : Nat → α) (hn : n ≤ 100000) {g : TG} {te : TE} {vs : List Nat} {σ : L2.St} {H1 : Hp} {D : Addr} {Qd : Hp → Prop}
    (nD : H1 D = none) (hG : ∀ H, Same H1 H → G H)
    (hs : ∀ i x H H' (Q : VK), i < n → Same H1 H → Y i H x H' → (∀ y H4, Same H H4 → R H4 y (f i) → Q y H4) → g x (wipe σ vs) H' fun σ2 H2 => wipe σ2 vs = wipe σ vs ∧ te σ2 H2 Q)
    (hd : ∀ H acc, Same H1 H → H D = some (.lst acc) → Paired (R H) acc ((List.range n).map f) → Qd H) :
    ∃ W : Nat → Nat → Hp → Prop, (∃ m, W 0 m (upd H1 D (.lst []))) ∧ ∀ i m H, W i m H →
      (J.stop i H ∧ Qd H) ∨ (J.go i H ∧ ∃ Nx : Hp → Prop, (∀ H', Nx H' → ∃ m', m' < m ∧ W (i + 1) m' H') ∧ ∀ x H', J.yld i H x H' → g x (wipe σ vs) H' fun σ2 H2 => wipe σ2 vs = wipe σ vs ∧ tYes σ2 H2 fun b H3 =>
        if b = true then te σ2 H3 fun y H4 => ∃ acc, H4 D = some (.lst acc) ∧ acc.length < sizeLine ∧ Nx (upd H4 D (.lst (acc ++ [y]))) else Nx H3) := by
  refine lc_it w (fun i H => i ≤ n ∧ Same H1 H ∧ ∃ acc, H D = some (.lst acc) ∧ Paired (R H) acc ((List.range i).map f)) ⟨Nat.zero_le n, same_new nD, [], upd_same, .nil⟩ (fun i H _ h => hG H h.2.1) (fun i x H H' hi hP hY => ?_) (fun H hP => ?_)
  · obtain ⟨hin, sm, acc, eD, hp⟩ := hP
    have hlen : acc.length = i := by
      have := Paired.length hp
      rw [List.length_map, List.length_range] at this
      exact this
    have z := hs i x H H' (fun y H4 => ∃ acc, H4 D = some (.lst acc) ∧ acc.length < sizeLine ∧ (i + 1 ≤ n ∧ Same H1 (upd H4 D (.lst (acc ++ [y]))) ∧ ∃ acc2, (upd H4 D (.lst (acc ++ [y]))) D = some (.lst acc2) ∧ Paired (R (upd H4 D (.lst (acc ++ [y])))) acc2 ((List.range (i + 1)).map f))) hi sm hY (fun y H4 sm4 r => by
      have eD4 := sm4 _ _ eD
      refine ⟨acc, eD4, small2000 (by omega), hi, fun b u hb => ?_, _, upd_same, ?_⟩
      · rw [upd_ne (ne_of_none hb nD)]
        exact sm4 _ _ (sm _ _ hb)
      · rw [List.range_succ, List.map_append]
        exact S.allPut eD4 (paired_add (S.all sm4 hp) r))
    exact z
  · obtain ⟨_, sm, acc, eD, hp⟩ := hP
    exact hd H acc sm eD hp
theorem map_range {α : Type} (f : Nat → α) (xs : List α) (h : ∀ i x, xs[i]? = some x → f i = x) : (List.range xs.length).map f = xs := by
  apply List.ext_getElem?
  intro i
  rw [List.getElem?_map]
  by_cases hi : i < xs.length
  · rw [List.getElem?_range hi, List.getElem?_eq_getElem hi]
    exact congrArg some (h i _ (List.getElem?_eq_getElem hi))
  · rw [List.getElem?_eq_none (by rw [List.length_range]; omega), List.getElem?_eq_none (by omega)]
    rfl
/-! ### rules that the layer lacked: (x,) * k for k = 0 and 1, t[::-1], t.index(int), sorted of rows -/
namespace Own
open PySem PySem.Spec PyProof.Rows L2
open MeetsSeq MeetsSeq2 MeetsSeq3 SeqRoads2
theorem tuple_mul0 (l : Addr) (items : Array Value) (n : Nat) (dd : Option Addr) (sl : Array (Option Value)) (x : Int) (u : Tok) (c0 : (decide (x < -(2 ^ 63)) || decide (x ≥ 2 ^ 63)) = false) (c1 : (items.isEmpty || x == 1) = false) (c2 : (decide (x ≤ 0) || items.isEmpty) = true) :
    Meets (Builtin.«tuple.__mul__» ⟨[.ref l, .int x u], []⟩) (fun _ R s => s.heap.get? l = some { cls := .type "tuple", dict := dd, data := .seq items n, slots := sl } ∧
      R (.ok (.ret (Value.ref s.heap.objs.size))) { s with heap := s.heap.push { cls := Value.type "tuple", data := Data.seq #[] }, toks := s.toks }) :=
  .of_wp fun prog w A R s h => by
    obtain ⟨hp, g, d, tk, os⟩ := s
    obtain ⟨hl, h⟩ := h
    have f1 := AutoSeq1.idx_int
    wp_walk using AutoSeq1.wpAny_loadPart' hl
    repeat (first
      | (refine wpAny_ite_false (decide_eq_false (by rw [c0]; exact Bool.false_ne_true)) ?_; wp_walk using AutoSeq1.wpAny_loadPart' hl)
      | (refine wpAny_ite_false (decide_eq_false (by rw [c1]; exact Bool.false_ne_true)) ?_; wp_walk using AutoSeq1.wpAny_loadPart' hl)
      | (refine wpAny_ite_true (decide_eq_true (by rw [c2])) ?_; wp_walk using AutoSeq1.wpAny_loadPart' hl))
    exact ⟨_, rfl, h⟩
theorem tuple_mul1 (l : Addr) (items : Array Value) (n : Nat) (dd : Option Addr) (sl : Array (Option Value)) (x : Int) (u : Tok) (c0 : (decide (x < -(2 ^ 63)) || decide (x ≥ 2 ^ 63)) = false) (c1 : (items.isEmpty || x == 1) = true) :
    Meets (Builtin.«tuple.__mul__» ⟨[.ref l, .int x u], []⟩) (fun _ R s => s.heap.get? l = some { cls := .type "tuple", dict := dd, data := .seq items n, slots := sl } ∧
      R (.ok (.ret (Value.ref l))) s) :=
  .of_wp fun prog w A R s h => by
    obtain ⟨hp, g, d, tk, os⟩ := s
    obtain ⟨hl, h⟩ := h
    have f1 := AutoSeq1.idx_int
    wp_walk using AutoSeq1.wpAny_loadPart' hl
    repeat (first
      | (refine wpAny_ite_false (decide_eq_false (by rw [c0]; exact Bool.false_ne_true)) ?_; wp_walk using AutoSeq1.wpAny_loadPart' hl)
      | (refine wpAny_ite_true (decide_eq_true (by rw [c1])) ?_; wp_walk using AutoSeq1.wpAny_loadPart' hl))
    exact ⟨_, rfl, h⟩
/-- a tuple, as it is tracked, so many times -/
def rRepA : R2 := fun x y H Q => ∃ l k xs, x = .ref l ∧ y = .int k ∧ H l = some (.tup xs) ∧ xs ≠ [] ∧ 0 ≤ k ∧ k ≤ 1000 ∧ xs.length ≤ 1000 ∧ ∀ t H', Same H H' → H' t = some (.tup (List.replicate k.toNat xs).flatten) → Q (.ref t) H'
theorem op_repA {X : Cx} : OpR X (binaryOp .Mult) rRepA := by
  intro pins s σ H x y v u Q I rx ry h
  obtain ⟨l, k, xs, rfl, rfl, hT, hne, h0, h2, hz, q⟩ := h
  by_cases hk : 2 ≤ k
  · exact op_repT pins s σ H _ _ v u Q I rx ry ⟨l, k, xs, rfl, rfl, .inl (.inl hT), hne, hk, h2, hz, fun p np => q p _ (same_new np) upd_same⟩
  cases rx
  obtain ⟨t, rfl⟩ := ry
  obtain ⟨its, r, ⟨⟨cls, dd, data, sl⟩, ho, hc, n, hd⟩, hs⟩ := I.tuple (show SqT X.K H l xs from .inl (.inl hT))
  simp only at hc hd
  subst hc hd
  have hle : its.length = xs.length := r.length.symm
  have hn : its ≠ [] := fun e => hne (by
    rw [e] at hle
    exact List.eq_nil_of_length_eq_zero hle.symm)
  have hi : its.toArray.isEmpty = false := by
    cases its with
    | nil => exact absurd rfl hn
    | cons a b => rfl
  have c0 : (decide (k < -(2 ^ 63)) || decide (k ≥ 2 ^ 63)) = false := by
    rw [decide_eq_false (by omega), decide_eq_false (by omega)] <;> rfl
  by_cases hk0 : k = 0
  · subst hk0
    have c1 : (its.toArray.isEmpty || (0 : Int) == 1) = false := by
      rw [hi, Bool.false_or]
      exact beq_eq_false_iff_ne.mpr (by omega)
    have c2 : (decide ((0 : Int) ≤ 0) || its.toArray.isEmpty) = true := by
      rw [hi, Bool.or_false]
      exact decide_eq_true (by omega)
    refine wpAny_binaryOp_repeat_ref (T := "tuple") (U := "int") (by decide) ⟨_, ho, rfl⟩ (fun s' => typeIs_int s' 0 t) noFill_tuple_mul F.fills_int_mul F.slot_int_rmul repeat_tuple F.slot_int_index.lookup
      (call_meets F.slot_int_rmul (typeIs_int s 0 t) F.entry_int_rmul (F.args_int_rmul_2 _ _) (int_rmul_tuple 0 t l its.toArray n dd sl)
        ⟨ho, rfl, ⟨_, ho, rfl⟩, call_meets F.slot_tuple_mul ⟨_, ho, rfl⟩ F.entry_tuple_mul (F.args_tuple_mul_2 _ _) (tuple_mul0 l its.toArray n dd sl 0 t c0 c1 c2) ⟨ho, ?_⟩⟩)
    refine ⟨.ref s.heap.objs.size, _, I.laid (t' := s.toks) (o := .tup []) (fun b ob q => Heap.get?_push_of_some _ q) (Nat.le_refl _) ?_, rfl, q _ _ (same_new (I.hok.fresh (Nat.le_refl _))) (by rw [upd_same]; rfl)⟩
    exact ⟨Nat.zero_le _, [], .nil, IsTup.new _ _⟩
  · have hk1 : k = 1 := by omega
    subst hk1
    have c1 : (its.toArray.isEmpty || (1 : Int) == 1) = true := by
      rw [hi, Bool.false_or]
      rfl
    refine wpAny_binaryOp_repeat_ref (T := "tuple") (U := "int") (by decide) ⟨_, ho, rfl⟩ (fun s' => typeIs_int s' 1 t) noFill_tuple_mul F.fills_int_mul F.slot_int_rmul repeat_tuple F.slot_int_index.lookup
      (call_meets F.slot_int_rmul (typeIs_int s 1 t) F.entry_int_rmul (F.args_int_rmul_2 _ _) (int_rmul_tuple 1 t l its.toArray n dd sl)
        ⟨ho, rfl, ⟨_, ho, rfl⟩, call_meets F.slot_tuple_mul ⟨_, ho, rfl⟩ F.entry_tuple_mul (F.args_tuple_mul_2 _ _) (tuple_mul1 l its.toArray n dd sl 1 t c0 c1) ⟨ho, ?_⟩⟩)
    refine ⟨.ref l, H, I, rfl, q l H (Same.refl H) ?_⟩
    rw [hT]
    show some (HO.tup xs) = some (HO.tup (List.replicate 1 xs).flatten)
    simp
/-- t.index(x), ints, the first place -/
theorem mt_tup_indexI {X : Cx} : MtR X "tuple.index" (fun x xs H Q => ∃ p, ∃ ys : List Int, ∃ z j, x = .ref p ∧ xs = [.int z] ∧ SqT X.K H p (ys.map V.int) ∧ ys[j]? = some z ∧ (∀ m, m < j → ys[m]? ≠ some z) ∧ Q (.int (j : Nat)) H) := by
  intro pins s σ H x xs v us Q I rx rs h
  obtain ⟨p, ys, z, j, rfl, rfl, hq, hy, hno, q⟩ := h
  cases rx
  obtain ⟨u, rfl, t, rfl⟩ := vals1 rs
  obtain ⟨its, r, pl, hz⟩ := I.tuple hq
  obtain ⟨⟨cls, dd, dt, sl⟩, ho, hc, n, hd⟩ := pl
  simp only at hc hd
  subst hc
  subst hd
  have hl : its.toArray.size = ys.length := by rw [List.size_toArray, ← r.length, List.length_map]
  have hj : j < its.toArray.size := by rw [hl]; exact (List.getElem?_eq_some_iff.mp hy).1
  have at' : ∀ (m : Nat) (hm : m < its.toArray.size), ∃ y t', ys[m]? = some y ∧ its.toArray[m] = Value.int y t' := fun m hm => by
    have hm' : m < ys.length := by rw [← hl]; exact hm
    obtain ⟨w, hw, t', hw'⟩ := r.get (i := m) (x := .int ys[m]) (by simp [hm'])
    refine ⟨ys[m], t', List.getElem?_eq_getElem hm', ?_⟩
    have e := (List.getElem?_eq_some_iff.mp hw).2
    rw [← hw', ← e]
    simp
  have hflat : (ys.map V.int).all flatV = true := by
    rw [List.all_map]
    exact List.all_eq_true.mpr fun _ _ => rfl
  refine call_meets PySem.F.slot_tuple_index ⟨_, ho, rfl⟩ PySem.F.entry_tuple_index (PySem.F.args_tuple_index_2 _ _) (TI.tuple_indexAt p its.toArray n dd sl (.int z t) (eqU (.int z)) j hj ?_ ?_)
    ⟨ho, fun w hw => mem_eqAt (x := .int z) ⟨t, rfl⟩ rfl r hflat w (by simpa using hw), ⟨.int (j : Nat), H, I.tok _, ⟨_, rfl⟩, q⟩⟩
  · obtain ⟨y, t', h1, h2⟩ := at' j hj
    rw [hy] at h1
    cases h1
    rw [h2]
    show (z == z) = true
    exact beq_self_eq_true z
  · intro m hm hmj
    obtain ⟨y, t', h1, h2⟩ := at' m hm
    rw [h2]
    show (y == z) = false
    exact beq_eq_false_iff_ne.mpr fun e => hno m hmj (e ▸ h1)
/-! t[::-1] -/
section
variable {prog : Program} {w : World} {A : Around} {E : Value → Shared → Prop} {s : Shared}
theorem places_back (n : Nat) : Builtin.Slice.slicePlaces ((n : Int) - 1) (-1) (-1) = n := by
  unfold Builtin.Slice.slicePlaces
  have h1 : ¬ ((-1 : Int) > 0) := by omega
  have h2 : ∀ x : Int, x / (- -1) = x := fun x => by
    rw [show (- -1 : Int) = 1 by decide, Int.ediv_one]
  simp only [h1, if_false]
  split
  · rw [h2]; omega
  · omega
theorem sliceApplied_back {sl : Addr} {t : Tok} {n : Nat} {Q : Int × Int × Nat → Shared → Prop} (hs : s.heap.IsSliceOf sl .none .none (.int (-1) t))
    (h : Q ((n : Int) - 1, -1, n) s) : wpAny (model prog w) A (Builtin.Slice.sliceApplied (.ref sl) (pure (n : Int))) Q E s := by
  obtain ⟨os, hos, hcs, hds⟩ := id hs
  unfold Builtin.Slice.sliceApplied Builtin.Slice.sliceFields
  refine wpAny_bind (wpAny_bind (wpAny_field hos hds (x := .none) rfl (wpAny_bind (wpAny_field hos hds (x := .none) rfl (wpAny_bind (wpAny_field hos hds (x := .int (-1) t) rfl (wpAny_pure ?_)))))))
  refine wpAny_bind (slicePart_int ?_)
  show wpAny _ _ (if ((-1 : Int) == 0) = true then _ else _) _ _ s
  rw [if_neg (by decide)]
  refine wpAny_bind (slicePart_none (wpAny_bind (slicePart_none (wpAny_bind (wpAny_pure ?_)))))
  show wpAny _ _ (pure ((n : Int) - 1, (-1 : Int), Builtin.Slice.slicePlaces ((n : Int) - 1) (-1) (-1))) _ _ s
  rw [places_back]
  exact wpAny_pure h
theorem filterMap_agree {α β : Type} {f g : α → Option β} : ∀ {l : List α}, (∀ a ∈ l, f a = g a) → l.filterMap f = l.filterMap g
  | [], _ => rfl
  | a :: l, h => by
    rw [List.filterMap_cons, List.filterMap_cons, h a (List.mem_cons_self ..), filterMap_agree fun b hb => h b (List.mem_cons_of_mem _ hb)]
theorem pick_back (xs : Array Value) : ((List.range xs.size).filterMap fun (m : Nat) => xs[((xs.size : Int) - 1 + (m : Int) * (-1)).toNat]?).toArray = xs.toList.reverse.toArray := by
  congr 1
  have e : (List.range xs.size).filterMap (fun (m : Nat) => xs[((xs.size : Int) - 1 + (m : Int) * (-1)).toNat]?) = ((List.range xs.size).map fun k => xs.size - 1 - k).filterMap (xs[·]?) := by
    rw [List.filterMap_map]
    apply filterMap_agree
    intro m hm
    have hm := List.mem_range.mp hm
    show xs[((xs.size : Int) - 1 + (m : Int) * (-1)).toNat]? = xs[xs.size - 1 - m]?
    have : ((xs.size : Int) - 1 + (m : Int) * (-1)).toNat = xs.size - 1 - m := by omega
    rw [this]
  rw [e, PySem.W.krv_range, List.filterMap_reverse, PySem.W.krv_all]
theorem getItem_tuple_back {t sl : Addr} {items : Array Value} {tk : Tok} {Q : Value → Shared → Prop} (ht : IsTup s.heap t items) (hs : s.heap.IsSliceOf sl .none .none (.int (-1) tk))
    (h : Q (.ref s.heap.objs.size) { s with heap := s.heap.push { cls := .type "tuple", data := .seq items.toList.reverse.toArray } }) (hsz : items.size ≤ sizeLine) : wpAny (model prog w) A (getItem (.ref t) (.ref sl)) Q E s := by
  have htake : sizeOk (.seq items.toList.reverse.toArray) := by
    show items.toList.reverse.toArray.size ≤ sizeLine
    rw [List.size_toArray, List.length_reverse, Array.length_toList]
    exact hsz
  obtain ⟨os, hos, hcs, hds⟩ := id hs
  have hTs : s.TypeIs (.ref sl) "slice" := ⟨os, hos, hcs⟩
  unfold getItem
  try with_reducible refine wpAny_holding ?_
  first | refine wpAny_bind (wpAny_pure ?_) | skip
  refine wpAny_bind (wpAny_sequenceKey ht.typeIs (by decide) ?_)
  refine wpAny_bind (wpAny_callSpecial?_slot (name := Str.ofString "__getitem__") ht.typeIs PyProof.Rows.slot_tuple_getitem
    (wpAny_call_entry PyProof.Rows.slot_tuple_getitem ht.typeIs entry_tuple_getitem ?_ (args_tuple_getitem _ _)))
  show wpAny _ _ (Builtin.Tuple.tupleItemsOf (.ref t) >>= _) _ _ s
  refine wpAny_bind (tupleItemsOf_ ht ?_)
  refine wpAny_bind (wpAny_typeOf hTs ?_)
  rw [if_pos (by decide)]
  refine wpAny_bind (sliceApplied_back hs ?_)
  have hno : ¬ (((items.size : Int) - 1 == 0 && (-1 : Int) == 1 && items.size == items.size) = true) := by
    intro q
    rw [Bool.and_eq_true, Bool.and_eq_true] at q
    exact absurd q.1.2 (by decide)
  show wpAny _ _ (if ((items.size : Int) - 1 == 0 && (-1 : Int) == 1 && items.size == items.size) = true then _ else _) _ _ s
  rw [if_neg hno, pick_back]
  first
    | exact wpAny_bind (m := Builtin.Tuple.tupleExact _) (wpAny_newObj_type (wpAny_pure ⟨_, rfl, wpAny_pure h⟩) htake)
    | exact wpAny_bind (m := Builtin.Tuple.tupleExact _) (wpAny_newObj_type (wpAny_bind (wpAny_pure (wpAny_pure ⟨_, rfl, wpAny_pure h⟩))) htake)
    | exact wpAny_bind (wpAny_bind (m := Builtin.Tuple.tupleExact _) (wpAny_newObj_type (wpAny_pure (wpAny_pure ⟨_, rfl, wpAny_pure h⟩)) htake))
    | exact wpAny_bind (wpAny_bind (m := Builtin.Tuple.tupleExact _) (wpAny_newObj_type (wpAny_pure ⟨_, rfl, wpAny_pure h⟩) htake))
end
def tRevT (K : PySem.W.Frag) (te : TE) : TE := fun σ H Q => te σ H fun x H1 => ∃ a xs, x = .ref a ∧ SqT K H1 a xs ∧ ∀ p, H1 p = none → Q (.ref p) (upd H1 p (.tup xs.reverse))
theorem pe_revT {X : Cx} {e : Expr} {te : TE} {k : Nat} {p1 p2 p3 pos : Pos} (he : PE X e te) : PE X (.Subscript e (.Slice none none (some (.UnaryOp .USub (.Constant (.int 1) k p1) p2)) p3) pos) (tRevT X.K te) := by
  refine ⟨fun pins s σ H Q I h => ?_⟩
  refine Subscript_ (thn (he.run pins s σ H _ I h) fun v s1 ⟨x, H1, I1, r1, q1⟩ => ?_)
  obtain ⟨a, xs, ex, hx, q⟩ := q1
  subst ex
  cases r1
  have hst : PO X (some (.UnaryOp .USub (.Constant (.int 1) k p1) p2)) (tPart (tUn (rU fun i => .int (-i)) (tC (.int 1)))) := po_some (pe_un un_neg pe_int)
  refine wpAny_Slice (thn (po_none.run pins s1 σ H1 (fun o H2 => o = none ∧ H2 = H1) I1 ⟨rfl, rfl⟩) fun vl s2 ⟨l, H2, I2, pl, el, e2⟩ => ?_)
  subst el e2
  refine thn (po_none.run pins s2 σ H2 (fun o H3 => o = none ∧ H3 = H2) I2 ⟨rfl, rfl⟩) fun vu s3 ⟨u, H3, I3, pu, eu, e3⟩ => ?_
  subst eu e3
  refine thn (hst.run pins s3 σ H3 (fun o H4 => o = some (-1) ∧ H4 = H3) I3 ⟨1, rfl, -1, rfl, rfl, rfl⟩) fun vs s4 ⟨o, H4, I4, ps, eo, e4⟩ => ?_
  subst eo e4
  have I5 : Inv X pins σ H4 { s4 with heap := s4.heap.push { cls := .type "slice", data := .fields #[vl, vu, vs] } } := I4.kept (t' := s4.toks) fun b ob q => Heap.get?_push_of_some _ q
  obtain ⟨its, r, ht, hz⟩ := I5.tuple hx
  have hlen := r.length
  cases pl
  cases pu
  cases ps
  show wpAny (model X.prog X.w) X.A (subscriptTail e (.Slice none none (some (.UnaryOp .USub (.Constant (.int 1) k p1) p2)) p3) (.ref a) (.ref s4.heap.objs.size)) (EP X pins σ Q) X.xe { s4 with heap := s4.heap.push { cls := .type "slice", data := .fields #[_, _, _] } }
  refine tail_any (ops := [.ref a, .ref s4.heap.objs.size]) ht.typeIs (PyProof.Rows.slot_tuple_getitem.lookup) ?_ (by with_unfolding_all rfl)
  refine getItem_tuple_back ht (Heap.IsSliceOf.new _ _ _ _) ?_ (by rw [List.size_toArray]; omega)
  refine ⟨.ref _, _, I5.laid (t' := s4.toks) (o := .tup xs.reverse) (fun b ob q => Heap.get?_push_of_some _ q) (Nat.le_refl _) ?_, rfl, q _ (I5.hok.fresh (Nat.le_refl _))⟩
  exact ⟨by rw [List.length_reverse]; exact hz, _, r.reverse, IsTup.new _ _⟩
/-- tuple(list): the new tuple known to its object -/
theorem call_tuple_ofF {X : Cx} : CallR X (.type "tuple") (fun xs H Q => ∃ p ys, xs = [.ref p] ∧ SqL X.K H p ys ∧ ∀ (l : Addr) (ob : Obj), H l = none → ob.dict = none → Q (.ref l) (upd H l (.frz ob (.tup ys)))) := by
  intro pins s σ H xs us Q I r h
  obtain ⟨p, ys, rfl, hq, q⟩ := h
  obtain ⟨u, rfl, rx⟩ := vals1 r
  cases rx
  obtain ⟨its, r', pl, hz⟩ := I.list hq
  have hlen := r'.length
  refine call_tuple_list pl.isList (fun h' kp => ?_) (by simp only [List.size_toArray] <;> omega)
  have I1 : Inv X pins σ H { s with heap := h' } := I.kept (t' := s.toks) kp
  have I2 : Inv X pins σ (upd H h'.objs.size (.frz { cls := .type "tuple", data := .seq its.toArray } (.tup ys))) { s with heap := h'.push { cls := .type "tuple", data := .seq its.toArray } } :=
    I1.laid (t' := s.toks) (fun b o e => Heap.get?_push_of_some _ e) (Nat.le_refl _) (show ObjOk X.prog X.w _ _ _ (.frz _ (.tup ys)) from ⟨Heap.get?_push_size _ rfl, hz, its, r', IsTup.new _ _⟩)
  exact ⟨.ref h'.objs.size, _, I2, rfl, q _ _ (I1.hok.fresh (Nat.le_refl _)) rfl⟩
/-- a method of such a tuple -/
def tBMT (r : V → List V → Hp → VK → Prop) (to : TE) (t : TA) : TE := fun σ H Q => to σ H fun x H1 => (∃ a ob ys, x = .ref a ∧ ob.dict = none ∧ H1 a = some (.frz ob (.tup ys))) ∧ t σ H1 fun xs H2 => r x xs H2 Q
theorem pe_bmT {X : Cx} {o e : Expr} {es : List Expr} {to : TE} {t : TA} {name : Str} {apos cpos : Pos} {id : String} {r : V → List V → Hp → VK → Prop} (pa : PlainAttrs "tuple") (slot : Slot "tuple" name id) (hty : typeOf (.builtin id) = pure (.type "method_descriptor")) (hm : MtR X id r) (ho : PE X o to) (ha : PA X (e :: es) t)
    (hbase : attributeBase o name X.env (eval o X.env) = eval o X.env := by rfl)
    (hfew : ((backTo cpos (starEach (e :: es) X.env)).all (fun x => !x.1) && (backToKw cpos (keywordEach [] X.env)).all (fun x => x.1.isSome)
      && decide ((e :: es).length + ([] : List Keyword).length + (if ([] : List Keyword).isEmpty then 0 else 1) < 30)) = true := by rfl)
    (hline : (apos.endLine == cpos.line) = true := by rfl) (hs : starEach (e :: es) X.env = (false, eval e X.env) :: starEach es X.env := by rfl) (hplain : (backTo cpos (starEach es X.env)).any (·.1) = false := by rfl) :
    PE X (.Call (.Attribute o name apos) (e :: es) [] cpos) (tBMT r to t) := by
  refine ⟨fun pins s σ H Q I h => ?_⟩
  refine wpAny_Call_method_late hbase hfew hline rfl (thn (ho.run pins s σ H _ I h) fun v s1 ⟨x, H1, I1, r1, ty, q1⟩ => ?_)
  obtain ⟨a, ob, ys, rfl, hd, ea⟩ := ty
  cases r1
  obtain ⟨e1, _, its, rv, o2, h1, h2, h3⟩ := (show ObjOk X.prog X.w H1 s1.heap a (.frz ob (.tup ys)) from I1.hok a _ ea)
  refine ⟨"tuple", id, pa, slot, hty, ⟨o2, h1, h2⟩, fun b eb => ?_, ?_⟩
  · cases eb
    exact ⟨ob, e1, hd⟩
  have hA := ha.run cpos pins s1 σ H1 _ I1 q1
  rw [hs] at hA ⊢
  refine Calls.callWith_builtin (by show (false || (backTo cpos (starEach es X.env)).any (·.1)) = false; rw [hplain] <;> rfl) (Calls.evalArgs_plain ?_)
  exact thn hA fun us s2 ⟨vs, H2, I2, r2, q2⟩ => hm pins s2 σ H2 (.ref a) vs (.ref a) us Q I2 rfl r2 q2
end Own
/-! ### sorted of rows of one width, any number of them -/
namespace Own
open PySem PySem.Spec PyProof.Rows L2 PySem.W PySem.SeqAt
def encB (b : Addr × List Int) : PyData := .tuple (b.2.map PyData.int)
def leB (a b : Addr × List Int) : Bool := decide (a.2 ≤ b.2)
theorem dataLe_encB : dataLe false encB = leB := by
  funext p q
  show (!dataLt (.tuple (q.2.map PyData.int)) (.tuple (p.2.map PyData.int))) = _
  rw [dataLt_tuple]
  show (!rowLt (q.2.map PyData.int) (p.2.map PyData.int)) = decide (p.2 ≤ q.2)
  rw [dataLt_ints]
  by_cases h : q.2 < p.2
  · have h' : ¬ p.2 ≤ q.2 := fun r => List.not_lt.mpr r h
    simp [h, h']
  · have h' : p.2 ≤ q.2 := List.not_lt.mp h
    simp [h, h']
theorem each_refs : ∀ (bs : List (Addr × List Int)), EachIs (fun (v : Value) (b : Addr × List Int) => v = .ref b.1) (bs.map fun b => Value.ref b.1) bs
  | [] => .nil
  | b :: bs => .cons rfl (each_refs bs)
theorem each_reads {h : Heap} : ∀ (bs : List (Addr × List Int)), (∀ b ∈ bs, ∃ as, Reads h (.ref b.1) (encB b) as) → EachIs (fun (v : Value) (b : Addr × List Int) => ∃ as, Reads h v (encB b) as) (bs.map fun b => Value.ref b.1) bs
  | [], _ => .nil
  | b :: bs, k => .cons (k b (List.mem_cons_self ..)) (each_reads bs fun c hc => k c (List.mem_cons_of_mem _ hc))
theorem refs_of : ∀ {bs : List (Addr × List Int)} {its : List Value}, Vals (bs.map fun b => V.ref b.1) its → its = bs.map fun b => Value.ref b.1
  | [], _, .nil => rfl
  | b :: bs, _, .cons r t => by
    rw [refs_of t]
    have r' : _ = Value.ref b.1 := r
    rw [r']
    rfl
theorem out_refs : ∀ {out : List Value} {bs : List (Addr × List Int)}, EachIs (fun (v : Value) (b : Addr × List Int) => v = .ref b.1) out bs → Vals (bs.map fun b => V.ref b.1) out
  | _, _, .nil => .nil
  | _, _, .cons h t => .cons h (out_refs t)
theorem depth_encB (b : Addr × List Int) : (encB b).depth ≤ 2 := by
  have h := PySem.W.depthAll_ints b.2
  unfold encB
  simp only [PyData.depth]
  omega
theorem alike_encB (a b : Addr × List Int) : alike (encB a) (encB b) = true := by
  unfold encB
  rw [alike]
  exact alike_ints a.2 b.2
theorem sortsAt_few {prog : Program} {w : World} {A : Around} {s : Shared} {vs : List Value} {ds : List PyData} (e : EachIs (fun v d => ∃ as, Reads s.heap v d as) vs ds) (hal : AllAlike ds) (hn : ∀ d ∈ ds, d ≠ .none) (hlen : vs.length ≤ 1) (hu : ∀ d, d ∈ ds → A.units + d.depth < cLine) : SortsAt prog w A s (dataKind s.heap ds) vs := by
  refine ⟨fun v hv => ?_, general', ?_, fun h2 => absurd h2 (by omega)⟩
  · obtain ⟨d, hd, as, r⟩ := e.left v hv
    exact ⟨_, dataKind_some hal hd r⟩
  · intro E x y a b Q ha hb hq
    obtain ⟨d, as, hd, ra, rfl⟩ := dataKind_inv ha
    obtain ⟨d', as', hd', rb, rfl⟩ := dataKind_inv hb
    show wpAny _ _ (oneLt' false x y) _ _ _
    exact oneLt_alike (fun z => Bool.noConfusion z) ra rb (hal d hd d' hd') (hn d hd) (Nat.lt_of_le_of_lt (Nat.add_le_add_left (Nat.min_le_left _ _) _) (hu d hd)) hq
def rSortedR (K : PySem.W.Frag) : List V → Hp → VK → Prop := fun vs H Q => ∃ (a : Addr) (bs : List (Addr × List Int)), vs = [V.ref a] ∧ SqL K H a (bs.map fun b => V.ref b.1) ∧ (∀ b ∈ bs, SqT K H b.1 (b.2.map V.int)) ∧ ((∀ b ∈ bs, b.2 ≠ []) ∨ bs.length ≤ 1) ∧
  ∀ p, H p = none → Q (.ref p) (upd H p (.lst ((bs.mergeSort leB).map fun b => V.ref b.1)))
theorem cr_sortedR {X : Cx} (hu : X.A.units + 64 < cLine) : CallR X (.builtin "sorted") (rSortedR X.K) := by
  intro pins s σ H vs us Q I r h
  obtain ⟨a, bs, rfl, hs, hb, hne, q⟩ := h
  obtain ⟨its, rv, hl, hz⟩ := I.list hs
  rw [Vals.ref1 r]
  have eits := refs_of rv
  subst eits
  rw [List.length_map] at hz
  have reads : ∀ b ∈ bs, ∃ as, Reads s.heap (.ref b.1) (encB b) as := fun b hbm => Dp.reads I (encB b) (.ref b.1) (.ref b.1) (.tup (hb b hbm) (dpAll_ints b.2)) rfl
  have er := each_reads bs reads
  have e := each_refs bs
  have fin : ∀ out : List Value, out.length = bs.length → EachIs (fun (v : Value) (b : Addr × List Int) => v = .ref b.1) out (bs.mergeSort (dataLe false encB)) → EP X pins σ Q (.ref (s.heap.objs.size + 1)) { s with heap := sortedAll s.heap (bs.map fun b => Value.ref b.1) (List.toArray out) } := fun out ho he => by
    rw [dataLe_encB] at he
    obtain ⟨ep, he'⟩ := PyProof.Rows.sortedAll_at s.heap (bs.map fun b => Value.ref b.1) out.toArray
    have hlen : ((bs.mergeSort leB).map fun b => V.ref b.1).length ≤ sizeLine := by
      rw [List.length_map, List.length_mergeSort]
      exact hz
    exact ⟨.ref _, upd H (s.heap.objs.size + 1) (.lst ((bs.mergeSort leB).map fun b => V.ref b.1)), I.laid (t' := s.toks) (fun _ _ => PyProof.Rows.sortedAll_old) (Nat.le_succ _) ⟨hlen, out, ep, out_refs he, he'⟩, rfl, q _ (I.hok.fresh (Nat.le_succ _))⟩
  have hd2 : ∀ b ∈ bs, X.A.units + 2 + (encB b).depth < cLine := fun b _ => by
    have := depth_encB b
    omega
  rcases hne with hne | hone
  · refine sorted_data hl.isList e er (AllAlike.of alike_encB) (.inl fun d hd => ?_) hz hd2 fin
    obtain ⟨b, hbm, rfl⟩ := List.mem_map.mp hd
    unfold encB
    cases hb2 : b.2 with
    | nil => exact absurd hb2 (hne b hbm)
    | cons x r => exact ⟨_, _, rfl⟩
  · have hal : AllAlike (bs.map encB) := AllAlike.of alike_encB
    have er' : EachIs (fun (v : Value) (b : Addr × List Int) => ∃ as, Reads (sortingHeap (copyHeap s.heap (bs.map fun b => Value.ref b.1)) (s.heap.objs.size + 1) (bs.map fun b => Value.ref b.1)) v (encB b) as) (bs.map fun b => Value.ref b.1) bs := er.mono fun _ _ ⟨as, r⟩ => ⟨as, PyProof.Rows.Reads.keeps (fun _ _ => sorting_copy_old) r⟩
    refine sorted_vals hl.isList (sortsAt_few (s := { s with heap := sortingHeap (copyHeap s.heap (bs.map fun b => Value.ref b.1)) (s.heap.objs.size + 1) (bs.map fun b => Value.ref b.1) }) (each_map (R := fun v d => ∃ as, Reads (sortingHeap (copyHeap s.heap (bs.map fun b => Value.ref b.1)) (s.heap.objs.size + 1) (bs.map fun b => Value.ref b.1)) v d as) encB er') hal (fun d hd => ?_) (by rw [List.length_map]; exact hone) (bound_map hd2)) (by rw [List.length_map]; exact hz)
      (fin _ (by rw [sortVals_length false rfl, List.length_map]) (sortVals_data false e er' hal))
    obtain ⟨b, _, rfl⟩ := List.mem_map.mp hd
    exact fun z => nomatch z
end Own
namespace Own
open PySem PySem.Spec PyProof.Rows L2
def SqB (b : Bool) (K : PySem.W.Frag) (H : Hp) (a : Addr) (us : List V) : Prop := match b with
  | true => SqL K H a us
  | false => SqT K H a us
theorem same_tup {K : PySem.W.Frag} {H H' : Hp} {a : Addr} {xs : List V} (e : Same H H') (h : SqT K H a xs) : SqT K H' a xs := by
  rcases h with (h | ⟨o, h⟩) | h
  · exact .inl (.inl (e _ _ h))
  · exact .inl (.inr ⟨o, e _ _ h⟩)
  · exact .inr h
theorem same_sqb {b : Bool} {K : PySem.W.Frag} {H H' : Hp} {a : Addr} {us : List V} (e : Same H H') (h : SqB b K H a us) : SqB b K H' a us := by
  cases b with
  | true => exact e.seq h
  | false => exact same_tup e h
/-- for .. in a list or a tuple: one walk for both -/
def iSeq (K : PySem.W.Frag) (tl : TE) : TI := fun σ H R => tl σ H fun x H1 => ∃ a us b, x = .ref a ∧ SqB b K H1 a us ∧
  ∀ J, Walk J us.length (fun H => SqB b K H a us) (YAt us) → R J H1
theorem pi_seq {X : Cx} {tg l : Expr} {tl : TE} (hl : PE X l tl) : PI X tg l (iSeq X.K tl) := by
  refine ⟨fun pins s σ H R I h => ?_⟩
  refine thn (hl.run pins s σ H _ I h) fun v s1 ⟨x, H1, I1, r1, q1⟩ => ?_
  obtain ⟨a, us, b, e, hq, q⟩ := q1
  subst e
  cases r1
  cases b with
  | true =>
    have hq : SqL X.K H1 a us := hq
    obtain ⟨its, rv, p, hz⟩ := I1.list hq
    refine wpAny_pyIter_list p.isList ?_
    refine ⟨s1.heap.objs.size, [s1.heap.objs.size], _, _, H1, rfl, I1.kept (t' := s1.toks) fun b o e => Heap.get?_push_of_some _ e, turn_list a _, ⟨_, Heap.get?_push_size _ rfl, rfl, rfl⟩, fun b hb => ?_, q _ walk_list⟩
    have e : b = s1.heap.objs.size := by simpa using hb
    subst e
    exact I1.fpOk (Nat.le_refl _) (I1.hok.fresh (Nat.le_refl _))
  | false =>
    have hq : SqT X.K H1 a us := hq
    obtain ⟨its, rv, p, hz⟩ := I1.tuple hq
    refine wpAny_pyIter_tuple (show s1.heap.IsTuple a its.toArray from p) ?_
    refine ⟨s1.heap.objs.size, [s1.heap.objs.size], _, _, H1, rfl, I1.kept (t' := s1.toks) fun b o e => Heap.get?_push_of_some _ e, turn_tuple a _, ⟨_, Heap.get?_push_size _ rfl, rfl, rfl⟩, fun b hb => ?_, q _ walk_tup⟩
    have e : b = s1.heap.objs.size := by simpa using hb
    subst e
    exact I1.fpOk (Nat.le_refl _) (I1.hok.fresh (Nat.le_refl _))
theorem sqb_of {K : PySem.W.Frag} {H : Hp} {a : Addr} {us : List V} (h : SqL K H a us ∨ SqT K H a us) : ∃ b, SqB b K H a us := h.elim (fun h => ⟨true, h⟩) fun h => ⟨false, h⟩
end Own
/-! rows as plain tuples -/
def RS (K : PySem.W.Frag) : Hp → V → List Int → Prop := fun H v r => ∃ t, v = .ref t ∧ SqT K H t (r.map V.int)
theorem st_RS {K : PySem.W.Frag} : Stable (RS K) := ⟨fun e ⟨t, a, b⟩ => ⟨t, a, Own.same_tup e b⟩, fun e ⟨t, a, b⟩ => ⟨t, a, by
  rcases b with (b | ⟨o, b⟩) | b
  · exact .inl (.inl (upd_put e b (fun _ z => by cases z)))
  · exact .inl (.inr ⟨o, upd_put e b (fun _ z => by cases z)⟩)
  · exact .inr b⟩⟩
theorem rs_of {K : PySem.W.Frag} {H : Hp} {v : V} {r : List Int} (h : RR H v r) : RS K H v r := by
  obtain ⟨t, e, b⟩ := h
  exact ⟨t, e, b.sq⟩
theorem rs_all {K : PySem.W.Frag} {H : Hp} : ∀ {us : List V} {rs : List (List Int)}, Paired (RR H) us rs → Paired (RS K H) us rs
  | _, _, .nil => .nil
  | _, _, .cons h t => .cons (rs_of h) (rs_all t)
/-! ### zip of a list and a tuple: by what the two iterators do -/
namespace Own
open PySem PySem.Spec PyProof.Rows L2
structure Src (prog : Program) (w : World) (A : Around) (it l : Addr) (xs : Array Value) (S : Heap → Nat → Prop) : Prop where
  keep : ∀ {c : Addr} {h h' : Heap} {k : Nat}, it ≠ c → l ≠ c → Heap.ExtBut c h h' → S h k → S h' k
  item : ∀ {E Q : Value → Shared → Prop} {s : Shared} {k : Nat} {x : Value}, S s.heap k → xs[k]? = some x → (∀ g, S g (k + 1) → Heap.SameBut it s.heap g → Q x { s with heap := g }) → wpAny (model prog w) A (Builtin.SmallTypes.nextOf (.ref it)) Q E s
  stop : ∀ {E Q : Value → Shared → Prop} {s : Shared} {k : Nat}, A.handled = none → S s.heap k → xs[k]? = none → (∀ g e, Heap.ExtBut it s.heap g → (∃ o, g.get? e = some o ∧ o.cls = .type "StopIteration") → E (.ref e) { s with heap := g }) → wpAny (model prog w) A (Builtin.SmallTypes.nextOf (.ref it)) Q E s
section
variable {prog : Program} {w : World} {A : Around} {s : Shared} {z TI TO i1 i2 l1 l2 : Addr} {k1 k2 : Nat} {xs ys : Array Value} {A1 A2 : Heap → Nat → Prop}
theorem src_list {it l : Addr} (hne : l ≠ it) : Src prog w A it l xs fun h k => h.IsListIter it l k ∧ h.IsList l xs :=
  ⟨fun h1 h2 e ⟨p, q⟩ => ⟨p.extBut e h1, q.extBut e h2⟩, fun ⟨p, q⟩ hx f => wpAny_nextOf_list_item p q hx fun g p' sb => f g ⟨p', q.extBut sb.extBut hne⟩ sb, fun hh ⟨p, q⟩ hx f => wpAny_nextOf_list_end hh p q hx f⟩
theorem src_tup {it l : Addr} (hne : l ≠ it) : Src prog w A it l xs fun h k => h.IsTupleIter it l k ∧ h.IsTuple l xs :=
  ⟨fun h1 h2 e ⟨p, q⟩ => ⟨p.extBut e h1, q.extBut e h2⟩, fun ⟨p, q⟩ hx f => RZ.nextOf_tuple_item p q hx fun g p' sb => f g ⟨p', q.extBut sb.extBut hne⟩ sb, fun hh ⟨p, q⟩ hx f => RZ.nextOf_tuple_end hh p q hx f⟩
theorem zipG_item {x y a b : Value} {Q E : Value → Shared → Prop} (D : ZipApart z TI TO i1 i2 l1 l2) (S1 : Src prog w A i1 l1 xs A1) (S2 : Src prog w A i2 l2 ys A2) (hz : IsZip s.heap z TI TO .none) (hTI : IsPair s.heap TI (.ref i1) (.ref i2)) (hTO : IsPair s.heap TO a b) (a1 : A1 s.heap k1) (a2 : A2 s.heap k2) (hx : xs[k1]? = some x) (hy : ys[k2]? = some y)
    (hQ : ∀ g, IsZip g z TI TO (rawInt s.heap.objs.size) → IsPair g TO x y → A1 g (k1 + 1) → A2 g (k2 + 1) → IsPair g s.heap.objs.size x y → g.objs.size = s.heap.objs.size + 1 → (∀ c o, c ≠ z → c ≠ TO → c ≠ i1 → c ≠ i2 → s.heap.get? c = some o → g.get? c = some o) → Q (.ref s.heap.objs.size) { s with heap := g }) :
    wpAny (model prog w) A (Builtin.«zip.__next__» ⟨[.ref z], []⟩) (fun fin s' => ∃ v, fin = .done (.ret v) ∧ Q v s') E s := by
  show wpAny _ _ (field (.ref z) 2 >>= _) _ _ _; refine wpAny_bind (wpAny_field hz rfl (x := .bool false) rfl ?_); show wpAny _ _ (field (.ref z) 3 >>= _) _ _ _
  refine wpAny_bind (wpAny_field hz rfl (x := .ref TI) rfl ?_); refine wpAny_bind (wpAny_seqItems hTI rfl ?_); show wpAny _ _ (Builtin.SmallTypes.ownedTupleIsFree (.ref z) >>= _) _ _ _
  refine wpAny_bind ?_; unfold Builtin.SmallTypes.ownedTupleIsFree; refine wpAny_bind (wpAny_field hz rfl (x := .none) rfl (wpAny_pure ?_)); simp only [if_true]
  refine wpAny_bind (wpAny_rule ?_); refine wpAny_bind (wpAny_field hz rfl (x := .ref TO) rfl ?_); refine wpAny_bind (wpAny_setField_rec hz (by simp) fun g1 z1 b1 => ?_)
  replace z1 : IsZip g1 z TI TO .ellipsis := z1
  refine wpAny_bind ?_; simp only [List.zipIdx_cons, List.zipIdx_nil, List.forIn_cons, List.forIn_nil]; refine wpAny_bind (wpAny_bind (wpAny_onRaise ?_)); show wpAny _ _ (Builtin.SmallTypes.nextOf (.ref i1) >>= _) _ _ _
  refine wpAny_bind (S1.item (S1.keep D.i1z D.l1z b1.extBut a1) hx fun g2 c1 b2 => wpAny_pure ?_)
  have t2 : IsPair g2 TO a b := b2.extBut _ _ D.TOi1 (b1.extBut _ _ D.TOz hTO)
  refine wpAny_bind (wpAny_seqItems t2 rfl ?_); refine wpAny_bind (wpAny_updateSeq_pair t2 fun g3 t3 b3 => ?_)
  replace t3 : IsPair g3 TO x b := t3
  refine wpAny_bind (wpAny_letGo (wpAny_pure ?_)); refine wpAny_bind (wpAny_bind (wpAny_onRaise ?_)); show wpAny _ _ (Builtin.SmallTypes.nextOf (.ref i2) >>= _) _ _ _
  refine wpAny_bind (S2.item (S2.keep D.TOi2.symm D.l2TO b3.extBut (S2.keep D.i12.symm D.l2i1 b2.extBut (S2.keep D.i2z D.l2z b1.extBut a2))) hy fun g4 c2 b4 => wpAny_pure ?_)
  have t4 : IsPair g4 TO x b := b4.extBut _ _ D.TOi2 t3
  refine wpAny_bind (wpAny_seqItems t4 rfl ?_); refine wpAny_bind (wpAny_updateSeq_pair t4 fun g5 t5 b5 => ?_)
  replace t5 : IsPair g5 TO x y := t5
  refine wpAny_bind (wpAny_letGo (wpAny_pure (wpAny_pure ?_))); refine wpAny_bind (wpAny_seqItems t5 rfl ?_); refine wpAny_bind (wpAny_newTuple ?_)
  have sz : g5.objs.size = s.heap.objs.size := by rw [b5.1, b4.1, b3.1, b2.1, b1.1]
  have z5 : IsZip g5 z TI TO .ellipsis := b5.extBut _ _ D.TOz.symm (b4.extBut _ _ D.i2z.symm (b3.extBut _ _ D.TOz.symm (b2.extBut _ _ D.i1z.symm z1)))
  have k5 : ∀ c o, c ≠ z → c ≠ TO → c ≠ i1 → c ≠ i2 → s.heap.get? c = some o → g5.get? c = some o := fun c o n1 n2 n3 n4 e => b5.extBut _ _ n2 (b4.extBut _ _ n4 (b3.extBut _ _ n2 (b2.extBut _ _ n3 (b1.extBut _ _ n1 e))))
  have c15 : A1 g5 (k1 + 1) := S1.keep D.TOi1.symm D.l1TO b5.extBut (S1.keep D.i12 D.l1i2 b4.extBut (S1.keep D.TOi1.symm D.l1TO b3.extBut c1))
  have c25 : A2 g5 (k2 + 1) := S2.keep D.TOi2.symm D.l2TO b5.extBut c2
  have zlt : z < g5.objs.size := Heap.lt_size z5
  show wpAny _ _ (Builtin.SmallTypes.ownedTupleHandOut (.ref z) (.ref g5.objs.size) >>= _) _ _ _
  refine wpAny_bind ?_; unfold Builtin.SmallTypes.ownedTupleHandOut
  have z6 : IsZip (g5.push { cls := .type "tuple", data := .seq #[x, y] }) z TI TO .ellipsis := Heap.get?_push_of_some _ z5
  refine wpAny_bind (wpAny_setField_rec z6 (by simp) fun g7 z7 b7 => ?_)
  replace z7 : IsZip g7 z TI TO (rawInt g5.objs.size) := z7
  refine wpAny_setField_rec z7 (by simp) fun g8 z8 b8 => ?_
  replace z8 : IsZip g8 z TI TO (rawInt g5.objs.size) := z8
  have up : ∀ c o, c ≠ z → g5.get? c = some o → g8.get? c = some o := fun c o n1 e => b8.extBut _ _ n1 (b7.extBut _ _ n1 (Heap.get?_push_of_some _ e))
  have t8 : IsPair g8 g5.objs.size x y := b8.extBut _ _ (Nat.ne_of_gt zlt) (b7.extBut _ _ (Nat.ne_of_gt zlt) (Heap.get?_push_size _ rfl))
  have s8 : g8.objs.size = g5.objs.size + 1 := by rw [b8.1, b7.1, Heap.size_push]
  rw [sz] at z8 t8 s8
  refine wpAny_pure ⟨_, rfl, ?_⟩; show Q (.ref g5.objs.size) _; rw [sz]
  exact hQ g8 z8 (up _ _ D.TOz t5) (S1.keep D.i1z D.l1z up c15) (S2.keep D.i2z D.l2z up c25) t8 s8 fun c o n1 n2 n3 n4 e => up c o n1 (k5 c o n1 n2 n3 n4 e)
theorem zipG_end {a b : Value} {Q : Fin → Shared → Prop} {E : Value → Shared → Prop} (hh : A.handled = none) (D : ZipApart z TI TO i1 i2 l1 l2) (S1 : Src prog w A i1 l1 xs A1) (S2 : Src prog w A i2 l2 ys A2) (hz : IsZip s.heap z TI TO .none) (hTI : IsPair s.heap TI (.ref i1) (.ref i2)) (hTO : IsPair s.heap TO a b) (a1 : A1 s.heap k1) (a2 : A2 s.heap k2) (hend : xs[k1]? = none ∨ ys[k2]? = none)
    (hE : ∀ g e, (∀ c o, c ≠ z → c ≠ TO → c ≠ i1 → c ≠ i2 → s.heap.get? c = some o → g.get? c = some o) → (∃ o, g.get? e = some o ∧ o.cls = .type "StopIteration") → E (.ref e) { s with heap := g }) :
    wpAny (model prog w) A (Builtin.«zip.__next__» ⟨[.ref z], []⟩) Q E s := by
  show wpAny _ _ (field (.ref z) 2 >>= _) _ _ _; refine wpAny_bind (wpAny_field hz rfl (x := .bool false) rfl ?_); show wpAny _ _ (field (.ref z) 3 >>= _) _ _ _
  refine wpAny_bind (wpAny_field hz rfl (x := .ref TI) rfl ?_); refine wpAny_bind (wpAny_seqItems hTI rfl ?_); show wpAny _ _ (Builtin.SmallTypes.ownedTupleIsFree (.ref z) >>= _) _ _ _
  refine wpAny_bind ?_; unfold Builtin.SmallTypes.ownedTupleIsFree; refine wpAny_bind (wpAny_field hz rfl (x := .none) rfl (wpAny_pure ?_)); simp only [if_true]
  refine wpAny_bind (wpAny_rule ?_); refine wpAny_bind (wpAny_field hz rfl (x := .ref TO) rfl ?_); refine wpAny_bind (wpAny_setField_rec hz (by simp) fun g1 z1 b1 => ?_)
  replace z1 : IsZip g1 z TI TO .ellipsis := z1
  refine wpAny_bind ?_; simp only [List.zipIdx_cons, List.zipIdx_nil, List.forIn_cons, List.forIn_nil]; refine wpAny_bind (wpAny_bind (wpAny_onRaise ?_)); show wpAny _ _ (Builtin.SmallTypes.nextOf (.ref i1) >>= _) _ _ _
  have d1 := S1.keep D.i1z D.l1z b1.extBut a1
  cases hx : xs[k1]? with
  | none =>
    refine wpAny_bind (S1.stop hh d1 hx fun g2 e b2 he => ?_)
    obtain ⟨oe, h1, h2⟩ := he
    have z2 : IsZip g2 z TI TO .ellipsis := b2 _ _ D.i1z.symm z1
    have ne : e ≠ z := fun q => by subst q; rw [z2] at h1; cases h1; simp at h2
    exact wpAny_setField_rec z2 (by simp) fun g3 _ b3 => hE g3 e (fun c o n1 _ n3 _ q => b3.extBut _ _ n1 (b2 _ _ n3 (b1.extBut _ _ n1 q))) ⟨oe, b3.extBut _ _ ne h1, h2⟩
  | some x =>
    have hy : ys[k2]? = none := hend.elim (fun h => by rw [hx] at h; cases h) id
    refine wpAny_bind (S1.item d1 hx fun g2 c1 b2 => wpAny_pure ?_)
    have t2 : IsPair g2 TO a b := b2.extBut _ _ D.TOi1 (b1.extBut _ _ D.TOz hTO)
    refine wpAny_bind (wpAny_seqItems t2 rfl ?_); refine wpAny_bind (wpAny_updateSeq_pair t2 fun g3 t3 b3 => ?_)
    refine wpAny_bind (wpAny_letGo (wpAny_pure ?_)); refine wpAny_bind (wpAny_bind (wpAny_onRaise ?_)); show wpAny _ _ (Builtin.SmallTypes.nextOf (.ref i2) >>= _) _ _ _
    refine wpAny_bind (S2.stop hh (S2.keep D.TOi2.symm D.l2TO b3.extBut (S2.keep D.i12.symm D.l2i1 b2.extBut (S2.keep D.i2z D.l2z b1.extBut a2))) hy fun g4 e b4 he => ?_)
    obtain ⟨oe, h1, h2⟩ := he
    have z4 : IsZip g4 z TI TO .ellipsis := b4 _ _ D.i2z.symm (b3.extBut _ _ D.TOz.symm (b2.extBut _ _ D.i1z.symm z1))
    have ne : e ≠ z := fun q => by subst q; rw [z4] at h1; cases h1; simp at h2
    exact wpAny_setField_rec z4 (by simp) fun g5 _ b5 => hE g5 e (fun c o n1 n2 n3 n4 q => b5.extBut _ _ n1 (b4 _ _ n4 (b3.extBut _ _ n2 (b2.extBut _ _ n3 (b1.extBut _ _ n1 q))))) ⟨oe, b5.extBut _ _ ne h1, h2⟩
theorem nextG_item {x y a b : Value} {Q : Option Value → Shared → Prop} {E : Value → Shared → Prop} (D : ZipApart z TI TO i1 i2 l1 l2) (S1 : Src prog w A.in1 i1 l1 xs A1) (S2 : Src prog w A.in1 i2 l2 ys A2) (hz : IsZip s.heap z TI TO .none) (hTI : IsPair s.heap TI (.ref i1) (.ref i2)) (hTO : IsPair s.heap TO a b) (a1 : A1 s.heap k1) (a2 : A2 s.heap k2) (hx : xs[k1]? = some x) (hy : ys[k2]? = some y)
    (hQ : ∀ g, IsZip g z TI TO (rawInt s.heap.objs.size) → IsPair g TO x y → A1 g (k1 + 1) → A2 g (k2 + 1) → IsPair g s.heap.objs.size x y → g.objs.size = s.heap.objs.size + 1 → (∀ c o, c ≠ z → c ≠ TO → c ≠ i1 → c ≠ i2 → s.heap.get? c = some o → g.get? c = some o) → Q (some (.ref s.heap.objs.size)) { s with heap := g }) :
    wpAny (model prog w) A (pyNext (.ref z)) Q E s := by
  have hT : s.TypeIs (.ref z) "zip" := ⟨_, hz, rfl⟩
  unfold pyNext
  refine wpAny_bind (wpAny_attempt (wpAny_callSpecial?_slot (name := Str.ofString "__next__") hT F.slot_zip_next (wpAny_call_entry F.slot_zip_next hT F.entry_zip_next (zipG_item D S1 S2 hz hTI hTO a1 a2 hx hy fun g p1 p2 p3 p4 p5 p6 p7 => wpAny_pure (hQ g p1 p2 p3 p4 p5 p6 p7)) (F.args_zip_next_1 _))))
theorem nextG_end {a b : Value} {Q : Option Value → Shared → Prop} {E : Value → Shared → Prop} (hh : A.handled = none) (D : ZipApart z TI TO i1 i2 l1 l2) (S1 : Src prog w A.in1 i1 l1 xs A1) (S2 : Src prog w A.in1 i2 l2 ys A2) (hz : IsZip s.heap z TI TO .none) (hTI : IsPair s.heap TI (.ref i1) (.ref i2)) (hTO : IsPair s.heap TO a b) (a1 : A1 s.heap k1) (a2 : A2 s.heap k2) (hend : xs[k1]? = none ∨ ys[k2]? = none)
    (hQ : ∀ g, (∀ c o, c ≠ z → c ≠ TO → c ≠ i1 → c ≠ i2 → s.heap.get? c = some o → g.get? c = some o) → Q none { s with heap := g }) : wpAny (model prog w) A (pyNext (.ref z)) Q E s := by
  have hT : s.TypeIs (.ref z) "zip" := ⟨_, hz, rfl⟩
  unfold pyNext
  refine wpAny_bind (wpAny_attempt (wpAny_callSpecial?_slot (name := Str.ofString "__next__") hT F.slot_zip_next (wpAny_call_entry F.slot_zip_next hT F.entry_zip_next (zipG_end hh D S1 S2 hz hTI hTO a1 a2 hend fun g e hk he => ?_) (F.args_zip_next_1 _))))
  obtain ⟨oe, h1, h2⟩ := he
  exact wpAny_bind (wpAny_isInstance (T := "StopIteration") (b := true) ⟨oe, h1, h2⟩ isSubtype_stop (wpAny_pure (hQ _ hk)))
end
/-! the call: an iterator of the list, one of the tuple, two pairs, the zip -/
section
variable (h : Heap) (l1 l2 : Addr)
abbrev zm1 : Heap := h.push { cls := .type "list_iterator", data := .fields #[.ref l1, .int 0 0] }
abbrev zm2 : Heap := (zm1 h l1).push { cls := .type "tuple_iterator", data := .fields #[.ref l2, .int 0 0] }
abbrev zm3 : Heap := (zm2 h l1 l2).push { cls := .type "tuple", data := .seq #[.ref h.objs.size, .ref (zm1 h l1).objs.size] }
abbrev zm4 : Heap := (zm3 h l1 l2).push { cls := .type "tuple", data := .seq #[.none, .none] }
abbrev zm5 : Heap := (zm4 h l1 l2).push { cls := .type "zip", data := .fields #[.none, .bool false, .bool false, .ref (zm2 h l1 l2).objs.size, .ref (zm3 h l1 l2).objs.size] }
end
theorem zipM_new (l1 l2 : Addr) (xs ys : Array Value) : Meets (Builtin.«zip.__new__» ⟨[.type "zip", .ref l1, .ref l2], []⟩) (fun _ R s => s.heap.IsList l1 xs ∧ s.heap.IsTuple l2 ys ∧ R (.ok (.ret (.ref (zm4 s.heap l1 l2).objs.size))) { s with heap := zm5 s.heap l1 l2 }) :=
  .of_wp fun prog w A R s q => by
    obtain ⟨hp, g, d, tk, os⟩ := s
    obtain ⟨p1, p2, q⟩ := q
    have hs := sub_zip
    have q1 : Heap.IsList (Shared.heap ⟨hp, g, d, tk, os⟩) l1 xs := p1
    have q2 : Heap.IsTuple (Shared.heap ⟨hp.push { cls := .type "list_iterator", data := .fields #[.ref l1, .int 0 0] }, g, d, tk, os⟩) l2 ys := Heap.IsTuple.push p2 _
    wp_walk using wpAny_pyIter_list q1, wpAny_pyIter_tuple q2
    exact ⟨_, rfl, q⟩
section
variable {prog : Program} {w : World} {A : Around} {E : Value → Shared → Prop} {s : Shared}
theorem call_zipM {l1 l2 : Addr} {xs ys : Array Value} {Q : Value → Shared → Prop} (p1 : s.heap.IsList l1 xs) (p2 : s.heap.IsTuple l2 ys)
    (q : ∀ g, IsZip g (s.heap.objs.size + 4) (s.heap.objs.size + 2) (s.heap.objs.size + 3) .none → IsPair g (s.heap.objs.size + 2) (.ref s.heap.objs.size) (.ref (s.heap.objs.size + 1)) → IsPair g (s.heap.objs.size + 3) .none .none → g.IsListIter s.heap.objs.size l1 0 → g.IsTupleIter (s.heap.objs.size + 1) l2 0 → (∀ c o, s.heap.get? c = some o → g.get? c = some o) → Q (.ref (s.heap.objs.size + 4)) { s with heap := g }) :
    wpAny (model prog w) A (call (.type "zip") [.ref l1, .ref l2]) Q E s := by
  refine callType_new F.called_zip (by decide) (F.typeCall_zip_2 _ _) (F.newCall_zip_2 _ _) (fun o => F.args_object_init_3 o _ _) F.entry_zip_new (zipM_new l1 l2 xs ys) ⟨p1, p2, ?_⟩
  have n1 : (zm1 s.heap l1).objs.size = s.heap.objs.size + 1 := Heap.size_push ..
  have n2 : (zm2 s.heap l1 l2).objs.size = s.heap.objs.size + 2 := by rw [Heap.size_push, n1]
  have n3 : (zm3 s.heap l1 l2).objs.size = s.heap.objs.size + 3 := by rw [Heap.size_push, n2]
  have n4 : (zm4 s.heap l1 l2).objs.size = s.heap.objs.size + 4 := by rw [Heap.size_push, n3]
  have f5 : (zm5 s.heap l1 l2).get? (zm4 s.heap l1 l2).objs.size = some _ := Heap.get?_push_size _ rfl
  have f4 : (zm5 s.heap l1 l2).get? (zm3 s.heap l1 l2).objs.size = some _ := Heap.get?_push_of_some _ (Heap.get?_push_size _ rfl)
  have f3 : (zm5 s.heap l1 l2).get? (zm2 s.heap l1 l2).objs.size = some _ := Heap.get?_push_of_some _ (Heap.get?_push_of_some _ (Heap.get?_push_size _ rfl))
  have f2 : (zm5 s.heap l1 l2).get? (zm1 s.heap l1).objs.size = some _ := Heap.get?_push_of_some _ (Heap.get?_push_of_some _ (Heap.get?_push_of_some _ (Heap.get?_push_size _ rfl)))
  have f1 : (zm5 s.heap l1 l2).get? s.heap.objs.size = some _ := Heap.get?_push_of_some _ (Heap.get?_push_of_some _ (Heap.get?_push_of_some _ (Heap.get?_push_of_some _ (Heap.get?_push_size _ rfl))))
  show _ ∧ _
  rw [n2, n3, n4] at f5; rw [n1, n2] at f3; rw [n3] at f4; rw [n1] at f2; rw [n4]
  exact ⟨⟨_, f5, rfl⟩, q _ f5 f3 f4 ⟨_, f1, rfl, rfl⟩ ⟨_, f2, rfl, rfl⟩ fun c o e => Heap.get?_push_of_some _ (Heap.get?_push_of_some _ (Heap.get?_push_of_some _ (Heap.get?_push_of_some _ (Heap.get?_push_of_some _ e))))⟩
end
/-- a list at a, a tuple at b -/
def ItzM (K : PySem.W.Frag) (a b : Addr) : It :=
  ⟨fun i H => ∃ (xs ys : List V) (x y : V), SqL K H a xs ∧ SqT K H b ys ∧ xs[i]? = some x ∧ ys[i]? = some y, fun i H v H' => ∃ T x y, v = .ref T ∧ H T = none ∧ H' = upd H T (.tup [x, y]) ∧ (∀ xs, SqL K H a xs → xs[i]? = some x) ∧ ∀ ys, SqT K H b ys → ys[i]? = some y, fun i H => ∃ xs ys : List V, SqL K H a xs ∧ SqT K H b ys ∧ (xs.length ≤ i ∨ ys.length ≤ i)⟩
theorem mem5 {z TI TO i1 i2 c : Addr} (h : c ∈ [z, TI, TO, i1, i2]) : c = z ∨ c = TI ∨ c = TO ∨ c = i1 ∨ c = i2 := by simpa using h
theorem turn_zipM {P : Program} {w : World} {K : PySem.W.Frag} {elts : List Expr} {kk : Nat} {tpos : Pos} {a b z TI TO i1 i2 : Addr} (D : ZipApart z TI TO i1 i2 a b) :
    Turn P w K (.Tuple elts kk tpos) (ItzM K a b) [z, TI, TO, i1, i2] z (fun i h => IsZip h z TI TO .none ∧ IsPair h TI (.ref i1) (.ref i2) ∧ (∃ x y, IsPair h TO x y) ∧ h.IsListIter i1 a i ∧ h.IsTupleIter i2 b i) where
  mem := by simp
  obj := fun i h st c hc => by
    obtain ⟨hz, hTI, ⟨x, y, hTO⟩, ⟨o1, e1, _, d1⟩, ⟨o2, e2, _, d2⟩⟩ := st
    rcases mem5 hc with rfl | rfl | rfl | rfl | rfl
    · exact ⟨_, hz, nofun⟩
    · exact ⟨_, hTI, nofun⟩
    · exact ⟨_, hTO, nofun⟩
    · exact ⟨o1, e1, fun u e => by rw [d1] at e; cases e⟩
    · exact ⟨o2, e2, fun u e => by rw [d2] at e; cases e⟩
  keep := fun i h h' st k => by
    obtain ⟨hz, hTI, ⟨x, y, hTO⟩, q1, q2⟩ := st
    refine ⟨k z (by simp) _ hz, k TI (by simp) _ hTI, ⟨x, y, k TO (by simp) _ hTO⟩, ?_, ?_⟩
    · exact q1.at fun o e => k i1 (by simp) o e
    · exact q2.at fun o e => k i2 (by simp) o e
  item := by
    intro X hP hw hK hc i pins s σ H E I hf st hg
    subst hP hw hK
    obtain ⟨hz, hTI, ⟨x0, y0, hTO⟩, q1, q2⟩ := st
    obtain ⟨xs, ys, x, y, hqx, hqy, hx, hy⟩ := hg
    obtain ⟨is1, rv1, m1, _⟩ := I.list hqx; obtain ⟨is2, rv2, m2, _⟩ := I.tuple hqy
    obtain ⟨u1, e1, r1⟩ := rv1.get hx; obtain ⟨u2, e2, r2⟩ := rv2.get hy
    have hzl : z < s.heap.objs.size := Heap.lt_size hz
    refine nextG_item D (src_list (l := a) D.l1i1) (src_tup (l := b) D.l2i2) hz hTI hTO ⟨q1, m1.isList⟩ ⟨q2, m2⟩ (x := u1) (y := u2) (by simpa using e1) (by simpa using e2) fun g z' TO' ⟨q1', _⟩ ⟨q2', _⟩ hT hsz hk => ?_
    refine ⟨_, rfl, wpAny_letOwnedTupleGo_zip (s := { s with heap := g }) z' fun g2 z2 sb => ?_⟩
    have t2 : g2.get? s.heap.objs.size = some { cls := .type "tuple", data := .seq #[u1, u2] } := (sb.2 _ (Nat.ne_of_gt hzl)).trans hT
    have nw : ObjOk X.prog X.w (upd H s.heap.objs.size (.tup [x, y])) g2 s.heap.objs.size (.tup [x, y]) := ⟨by show 2 ≤ sizeLine; decide, [u1, u2], .cons r1 (.cons r2 .nil), ⟨_, t2, rfl, _, rfl⟩⟩
    have J : Inv X pins σ (upd H s.heap.objs.size (.tup [x, y])) { s with heap := g2 } := I.turnedNew (t' := s.toks) (ch := [z, TI, TO, i1, i2]) (fun c o hb q => (sb.2 c (fun e => hb (by simp [e]))).trans (hk c o (fun e => hb (by simp [e])) (fun e => hb (by simp [e])) (fun e => hb (by simp [e])) (fun e => hb (by simp [e])) q)) hf (Nat.le_refl _) nw
    refine ⟨.ref s.heap.objs.size, _, J, rfl, ⟨_, x, y, rfl, I.hok.fresh (Nat.le_refl _), rfl, fun l hl => by rw [I.list_inj hl hqx]; exact hx, fun l hl => by rw [I.tuple_inj hl hqy]; exact hy⟩, ⟨z2, (sb.2 _ D.TIz).trans (hk _ _ D.TIz D.TITO D.TIi1 D.TIi2 hTI), ⟨u1, u2, (sb.2 _ D.TOz).trans TO'⟩, q1'.at fun o q => (sb.2 _ D.i1z).trans q, q2'.at fun o q => (sb.2 _ D.i2z).trans q⟩, fun c hcm => ?_⟩
    have hlt : c < s.heap.objs.size := by
      rcases mem5 hcm with rfl | rfl | rfl | rfl | rfl
      · exact hzl
      · exact Heap.lt_size hTI
      · exact Heap.lt_size hTO
      · exact q1.elim fun _ e => Heap.lt_size e.1
      · exact q2.elim fun _ e => Heap.lt_size e.1
    rw [upd_ne (Nat.ne_of_lt hlt)]; exact (hf c hcm).1
  done := by
    intro X hP hw hK hc i pins s σ H E I hf st hg
    subst hP hw hK
    obtain ⟨hz, hTI, ⟨x0, y0, hTO⟩, q1, q2⟩ := st
    obtain ⟨xs, ys, hqx, hqy, hend⟩ := hg
    obtain ⟨is1, rv1, m1, _⟩ := I.list hqx; obtain ⟨is2, rv2, m2, _⟩ := I.tuple hqy
    have n1 := rv1.length; have n2 := rv2.length
    have he : is1.toArray[i]? = none ∨ is2.toArray[i]? = none := hend.elim (fun q => .inl (by simp; omega)) fun q => .inr (by simp; omega)
    exact nextG_end (I.ok.hd hc) D (src_list (l := a) D.l1i1) (src_tup (l := b) D.l2i2) hz hTI hTO ⟨q1, m1.isList⟩ ⟨q2, m2⟩ he fun g hk => ⟨rfl, I.turnedL (t' := s.toks) (ch := [z, TI, TO, i1, i2]) (fun c o hb q => hk c o (fun e => hb (by simp [e])) (fun e => hb (by simp [e])) (fun e => hb (by simp [e])) (fun e => hb (by simp [e])) q) hf⟩
  self := fun A i s Q E st q => wpAny_pyIter_zip st.1 q
theorem walk_zipM {K : PySem.W.Frag} {a b : Addr} {xs ys : List V} {n : Nat} (h1 : n = xs.length) (h2 : n = ys.length) : Walk (ItzM K a b) n (fun H => SqL K H a xs ∧ SqT K H b ys) (YPair (fun i => xs[i]?) (fun i => ys[i]?)) :=
  { goes := fun i _ hi k => ⟨xs, ys, _, _, k.1, k.2, List.getElem?_eq_getElem (by omega), List.getElem?_eq_getElem (by omega)⟩
    stops := fun _ k => ⟨xs, ys, k.1, k.2, .inl (by omega)⟩
    yields := fun i H x H' _ k ⟨T, x1, x2, e1, e2, e3, e4, e5⟩ => ⟨T, x1, x2, e1, e2, e3, e4 xs k.1, e5 ys k.2⟩ }
/-- two lists, or a list and a tuple, of one length -/
def iZipM (K : PySem.W.Frag) (ta : TA) : TI := fun σ H R => ta σ H fun vs H1 => ∃ a b xs ys bb, vs = [.ref a, .ref b] ∧ SqL K H1 a xs ∧ SqB bb K H1 b ys ∧ xs.length = ys.length ∧ ∀ J, Walk J xs.length (fun H => SqL K H a xs ∧ SqB bb K H b ys) (YPair (fun i => xs[i]?) (fun i => ys[i]?)) → R J H1
theorem pi_zipM {X : Cx} {e e2 : Expr} {ta : TA} {p pos tpos : Pos} {elts : List Expr} {kk : Nat} (hg : Gl X "zip") (hm : X.mg "zip" = none) (ha : PA X [e, e2] ta)
    (hs : starEach [e, e2] X.env = (false, eval e X.env) :: starEach [e2] X.env := by rfl) (hpl : (backTo pos (starEach [e2] X.env)).any (·.1) = false := by rfl) : PI X (.Tuple elts kk tpos) (.Call (.Name "zip" p) [e, e2] [] pos) (iZipM X.K ta) := by
  refine ⟨fun pins s σ H R I q => Call_ (ld_blt I hg hm PyProof.Rows.boot_zip (PyProof.Rows.callWith_type1 (thn (ha.run pos pins s σ H _ I q) fun us s1 ⟨vs, H1, I1, r1, q1⟩ => ?_) hs hpl))⟩
  obtain ⟨a, b, xs, ys, bb, rfl, hqx, hqb, hlen, q1⟩ := q1
  obtain ⟨v1, v2, rfl, e1, e2⟩ := vals2 r1
  cases e1; cases e2
  have fr : ∀ c, c ∈ [s1.heap.objs.size + 4, s1.heap.objs.size + 2, s1.heap.objs.size + 3, s1.heap.objs.size, s1.heap.objs.size + 1] → FpOk X pins H1 c := fun c hcm => by
    have hle : s1.heap.objs.size ≤ c := by rcases mem5 hcm with rfl | rfl | rfl | rfl | rfl <;> omega
    exact I1.fpOk hle (I1.hok.fresh hle)
  obtain ⟨is1, rv1, m1, _⟩ := I1.list hqx
  cases bb with
  | true =>
    have hqy : SqL X.K H1 b ys := hqb
    have q := q1 (Itz X.K a b) (walk_zip (by rw [hlen, Nat.min_self]))
    obtain ⟨is2, rv2, m2, _⟩ := I1.list hqy
    refine call_zip_2 m1.isList m2.isList fun g hz hTI hTO p1 p2 _ hk => wpAny_pyIter_zip hz ?_
    exact ⟨_, [s1.heap.objs.size + 4, s1.heap.objs.size + 2, s1.heap.objs.size + 3, s1.heap.objs.size, s1.heap.objs.size + 1], _, _, H1, rfl, I1.kept (t' := s1.toks) hk, turn_zip (PySem.W.ktu_apart s1.heap.objs.size a b m1.lt m2.lt), ⟨hz, hTI, ⟨_, _, hTO⟩, p1, p2⟩, fr, q⟩
  | false =>
    have hqy : SqT X.K H1 b ys := hqb
    have q := q1 (ItzM X.K a b) (walk_zipM rfl hlen)
    obtain ⟨is2, rv2, m2, _⟩ := I1.tuple hqy
    obtain ⟨o2, ho2, _⟩ := id m2
    refine call_zipM m1.isList (show s1.heap.IsTuple b is2.toArray from m2) fun g hz hTI hTO p1 p2 hk => wpAny_pyIter_zip hz ?_
    exact ⟨_, [s1.heap.objs.size + 4, s1.heap.objs.size + 2, s1.heap.objs.size + 3, s1.heap.objs.size, s1.heap.objs.size + 1], _, _, H1, rfl, I1.kept (t' := s1.toks) hk, turn_zipM (PySem.W.ktu_apart s1.heap.objs.size a b m1.lt (Heap.lt_size ho2)), ⟨hz, hTI, ⟨_, _, hTO⟩, p1, p2⟩, fr, q⟩
end Own
/-! ### dicts whose keys are pairs of an int and a tuple of ints -/
namespace Pk
open PySem
section
variable {prog : Program} {w : World}
abbrev PK : Type := Int × List Int
/-- the pair (j, t) stands at a -/
def IsPK (prog : Program) (w : World) (h : Heap) (k : PK) (a : Addr) : Prop := ∃ o items n tk b, h.get? a = some o ∧ o.cls = .type "tuple" ∧ o.data = .seq items n ∧ items.toList = [.int k.1 tk, .ref b] ∧ IsTupleKey (PySem.intKind prog w) h k.2 b
theorem IsPK.ty {s : Shared} {k : PK} {a : Addr} (x : IsPK prog w s.heap k a) : s.TypeIs (.ref a) "tuple" := let ⟨o, _, _, _, _, h1, h2, _⟩ := x; ⟨o, h1, h2⟩
theorem IsPK.inj {h : Heap} {a : Addr} {x y : PK} (hx : IsPK prog w h x a) (hy : IsPK prog w h y a) : x = y := by
  obtain ⟨o, i1, n1, t1, b1, e1, _, d1, l1, k1⟩ := hx
  obtain ⟨o', i2, n2, t2, b2, e2, _, d2, l2, k2⟩ := hy
  rw [e1] at e2
  cases e2
  rw [d1] at d2
  injection d2 with d2 _
  subst d2
  rw [l1] at l2
  injection l2 with l3 l4
  injection l3 with l3 _
  injection l4 with l4 _
  injection l4 with l4
  subst l4
  exact Prod.ext l3 (k1.inj k2)
theorem IsPK.keeps {h h' : Heap} {k : PK} {a d : Addr} {o : Obj} {es ep} (x : IsPK prog w h k a) (ho : h.get? d = some o) (hd : o.data = .dict es ep) (hs : Heap.SameBut d h h') : IsPK prog w h' k a := by
  obtain ⟨o1, items, n, tk, b, e1, c1, d1, l1, k1⟩ := x
  refine ⟨o1, items, n, tk, b, (hs.2 a fun z => ?_).trans e1, c1, d1, l1, k1.keeps ho hd hs⟩
  rw [z, ho] at e1
  cases e1
  rw [hd] at d1
  cases d1
def pkHash (prog : Program) (w : World) (k : PK) : Int := reduceHash (Builtin.Tuple.tupleHashOf [(PySem.intKind prog w).hash k.1, tupleKeyHash (PySem.intKind prog w) k.2])
variable {A : Around} {E : Value → Shared → Prop} {s : Shared}
theorem hash_pk {k : PK} {a : Addr} {Q : Int → Shared → Prop} (hu : A.units + 1 < cLine) (hk : IsPK prog w s.heap k a) (h : Q (pkHash prog w k) { s with toks := s.toks + (k.2.length + 3) }) : wpAny (model prog w) A (pyHash (.ref a)) Q E s := by
  have ty := hk.ty
  obtain ⟨o, items, n, tk, b, e1, _, d1, l1, k1⟩ := hk
  unfold pyHash
  first | unfold pyHashByItsType | skip
  first | refine wpAny_bind (wpAny_cRoomFor_or (.inr (by omega)) ?_) | skip
  refine wpAny_bind (wpAny_specialOf ty F.slot_tuple_hash.lookup ?_); show wpAny _ _ (if (some (Value.builtin "tuple.__hash__") == some Value.none) = true then _ else _) Q E s
  rw [if_neg (by rw [beq_builtin_none]; decide)]
  refine wpAny_bind (wpAny_specialOf ty F.slot_tuple_hash.lookup ?_); show wpAny _ _ (callSpecialIfBoundUnlessNone? (.ref a) "__hash__" _ >>= _) Q E s
  refine wpAny_bind (wpAny_callSpecialIfBoundUnlessNone?_slot ty F.slot_tuple_hash (wpAny_call_entry F.slot_tuple_hash ty F.entry_tuple_hash ?_ (F.args_tuple_hash_1 _)))
  show wpAny _ _ (Builtin.Tuple.tupleItemsOf (.ref a) >>= _) _ _ s
  refine wpAny_bind (wpAny_tupleItemsOf e1 d1 (wpAny_bind ?_))
  rw [← Array.forIn_toList, l1, List.forIn_cons]
  refine wpAny_bind (wpAny_bind ((PySem.intKind prog w).pyHash (k := k.1) (by simp [PySem.intKind, Value.isInt]) ?_))
  have step2 : ∀ {R : Int → Shared → Prop} {E' : Value → Shared → Prop} {B : Around}, B.units < cLine → R (tupleKeyHash (PySem.intKind prog w) k.2) { s with toks := s.toks + 1 + (k.2.length + 1) } → wpAny (model prog w) B (pyHash (.ref b)) R E' { s with toks := s.toks + 1 } := fun hB hR =>
    wpAny_pyHash_tuple (s := { s with toks := s.toks + 1 }) hB k1 hR
  refine wpAny_pure ?_
  try dsimp only
  rw [List.forIn_cons]
  refine wpAny_bind (wpAny_bind (step2 (by show A.units + 1 < cLine; exact hu) ?_))
  refine wpAny_pure ?_
  try dsimp only
  rw [List.forIn_nil]
  refine wpAny_pure ?_
  generalize hg : Builtin.Tuple.tupleHashOf [(PySem.intKind prog w).hash k.1, tupleKeyHash (PySem.intKind prog w) k.2] = g at h
  show wpAny _ _ (retInt (Builtin.Tuple.tupleHashOf [(PySem.intKind prog w).hash k.1, tupleKeyHash (PySem.intKind prog w) k.2])) _ _ _
  rw [hg]
  have eh : pkHash prog w k = reduceHash g := by unfold pkHash; rw [hg]
  rw [eh] at h
  have et : s.toks + 1 + (k.2.length + 1) + 1 = s.toks + (k.2.length + 3) := by omega
  refine wpAny_ret_mkInt ?_
  show wpAny _ _ (if (decide (-(2 : Int) ^ 63 ≤ g) && decide (g < 2 ^ 63)) = true then _ else _) Q E { s with toks := s.toks + 1 + (k.2.length + 1) + 1 }
  rw [et]
  unfold reduceHash at h
  by_cases c : (decide (-(2 : Int) ^ 63 ≤ g) && decide (g < 2 ^ 63)) = true
  · rw [if_pos c] at h ⊢
    exact wpAny_pure h
  · rw [if_neg c] at h ⊢
    exact wpAny_bind (wpAny_rule (wpAny_pure h))
theorem eq_pk {x y : PK} {a b : Addr} {Q : Bool → Shared → Prop} (hu : A.units + 1 < cLine) (hx : IsPK prog w s.heap x a) (hy : IsPK prog w s.heap y b) (h : Q (decide (x = y)) s) : wpAny (model prog w) A (eqBool (.ref a) (.ref b)) Q E s := by
  unfold eqBool
  try with_reducible refine wpAny_holding ?_
  show wpAny _ _ (if (Value.ref a == Value.ref b) = true then _ else _) Q E s
  by_cases hab : (Value.ref a == Value.ref b) = true
  · rw [if_pos hab]
    have e : a = b := by
      have := eq_of_beq hab
      injection this
    subst e
    have exy := hx.inj hy
    subst exy
    exact wpAny_bind (wpAny_rule (wpAny_pure (by simpa using h)))
  · rw [if_neg hab]
    refine wpAny_bind (wpAny_richCompare_same_room (op := .Eq) hx.ty hy.ty F.slot_tuple_eq (wpAny_call_entry F.slot_tuple_eq hx.ty F.entry_tuple_eq ?_ (F.args_tuple_eq_2 _ _)) (by omega))
    have tyb := hy.ty
    obtain ⟨o1, i1, n1, t1, b1, e1, _, d1, l1, k1⟩ := hx
    obtain ⟨o2, i2, n2, t2, b2, e2, _, d2, l2, k2⟩ := hy
    show wpAny _ _ (isInstance (.ref b) (.type "tuple") >>= _) _ _ s
    refine wpAny_bind (wpAny_isInstance tyb isSubtype_tuple_tuple ?_)
    simp only [Bool.not_true, Bool.false_eq_true, if_false]
    refine wpAny_bind (wpAny_tupleItemsOf e1 d1 (wpAny_bind (wpAny_tupleItemsOf e2 d2 (wpAny_bind ?_))))
    have z1 : i1.size = 2 := by rw [← Array.length_toList, l1]; rfl
    have z2 : i2.size = 2 := by rw [← Array.length_toList, l2]; rfl
    have fin : ∀ {B : Around} {E' : Value → Shared → Prop} (v : Bool), v = decide (x = y) → wpAny (model prog w) B (ret (.bool v)) (fun (f : Fin) s' => ∃ u, f = Fin.done (Flow.ret u) ∧ u ≠ Value.notImplemented ∧ wpAny (model prog w) A (truthOfDropped u) Q E s') E' s := fun v e => by
      subst e
      exact wpAny_pure ⟨_, rfl, (fun q => nomatch q), wpAny_truthy_bool h⟩
    rw [l1, l2, z1, z2]
    show wpAny _ _ (forIn [(Value.int x.1 t1, Value.int y.1 t2), (Value.ref b1, Value.ref b2)] _ _) _ _ s
    rw [List.forIn_cons]
    refine wpAny_bind (wpAny_bind ((PySem.intKind prog w).eqBool (a := x.1) (b := y.1) (by simp [PySem.intKind, Value.isInt]) (by simp [PySem.intKind, Value.isInt]) ?_))
    by_cases c1 : x.1 = y.1
    · rw [decide_eq_true c1]
      simp only [Bool.not_true, Bool.false_eq_true, if_false]
      refine wpAny_pure ?_
      try dsimp only
      rw [List.forIn_cons]
      refine wpAny_bind (wpAny_bind (wpAny_eqBool_tuple (by show A.units + 1 < cLine; exact hu) k1 k2 ?_))
      by_cases c2 : x.2 = y.2
      · rw [decide_eq_true c2]
        simp only [Bool.not_true, Bool.false_eq_true, if_false]
        refine wpAny_pure ?_
        try dsimp only
        rw [List.forIn_nil]
        exact wpAny_pure (fin true (decide_eq_true (Prod.ext c1 c2)).symm)
      · rw [decide_eq_false c2]
        simp only [Bool.not_false, if_true]
        have hf := decide_eq_false (fun q : x = y => c2 (congrArg Prod.snd q))
        rw [hf] at h
        exact wpAny_bind (wpAny_pure (wpAny_pure (wpAny_pure (wpAny_pure ⟨_, rfl, (fun q => nomatch q), wpAny_truthy_bool h⟩))))
    · rw [decide_eq_false c1]
      simp only [Bool.not_false, if_true]
      have hf := decide_eq_false (fun q : x = y => c1 (congrArg Prod.fst q))
      rw [hf] at h
      exact wpAny_bind (wpAny_pure (wpAny_pure (wpAny_pure (wpAny_pure ⟨_, rfl, (fun q => nomatch q), wpAny_truthy_bool h⟩))))
theorem quiet_ints {ks : List Int} {b : Addr} {n : Nat} {Q : Bool → Shared → Prop} (hk : IsTupleKey (PySem.intKind prog w) s.heap ks b) (h : Q true s) : wpAny (model prog w) A (eqIsQuiet (n + 1) (.ref b)) Q E s := by
  have ty := hk.typeIs
  obtain ⟨o, items, m, ho, _, hd, hi⟩ := hk
  unfold eqIsQuiet
  refine wpAny_bind (wpAny_specialOf ty F.slot_tuple_eq.lookup ?_)
  show wpAny _ _ (isInstance (.ref b) (.type "tuple") >>= _) _ _ s
  refine wpAny_bind (wpAny_isInstance ty isSubtype_tuple_tuple ?_)
  simp only [Bool.not_true, Bool.false_eq_true, if_false]
  refine wpAny_bind (wpAny_seqItems ho hd (wpAny_bind ?_))
  show wpAny _ _ (forIn items _ _) _ _ s
  rw [← Array.forIn_toList]
  refine wpAny_forIn_list _ (fun rest r s' => r.1 = none ∧ s' = s ∧ ∀ v ∈ rest, carriedByValue v = true) _ (fun v rest r s' q => ?_) (fun r s' q => ?_) _ _ ⟨rfl, rfl, hi.byValue⟩
  · obtain ⟨q1, rfl, q3⟩ := q
    rw [eqIsQuiet_byValue _ (q3 v List.mem_cons_self)]
    refine wpAny_bind (wpAny_pure ?_)
    simp only [Bool.not_true, Bool.false_eq_true, if_false]
    exact wpAny_pure ⟨rfl, rfl, fun u hu => q3 u (List.mem_cons_of_mem _ hu)⟩
  · obtain ⟨r1, r2⟩ := r
    obtain ⟨q1, rfl, _⟩ := q
    simp only at q1
    subst q1
    exact wpAny_pure h
theorem quiet_pk {k : PK} {a : Addr} {Q : Bool → Shared → Prop} (hk : IsPK prog w s.heap k a) (h : Q true s) : wpAny (model prog w) A (eqIsQuiet 8 (.ref a)) Q E s := by
  have ty := hk.ty
  obtain ⟨o, items, m, tk, b, ho, _, hd, hl, kb⟩ := hk
  unfold eqIsQuiet
  refine wpAny_bind (wpAny_specialOf ty F.slot_tuple_eq.lookup ?_)
  show wpAny _ _ (isInstance (.ref a) (.type "tuple") >>= _) _ _ s
  refine wpAny_bind (wpAny_isInstance ty isSubtype_tuple_tuple ?_)
  simp only [Bool.not_true, Bool.false_eq_true, if_false]
  refine wpAny_bind (wpAny_seqItems ho hd (wpAny_bind ?_))
  show wpAny _ _ (forIn items _ _) _ _ s
  rw [← Array.forIn_toList, hl, List.forIn_cons, eqIsQuiet_byValue _ rfl]
  refine wpAny_bind (wpAny_bind (wpAny_pure ?_))
  simp only [Bool.not_true, Bool.false_eq_true, if_false]
  refine wpAny_pure ?_
  try dsimp only
  rw [List.forIn_cons]
  refine wpAny_bind (wpAny_bind (quiet_ints kb ?_))
  simp only [Bool.not_true, Bool.false_eq_true, if_false]
  refine wpAny_pure ?_
  try dsimp only
  rw [List.forIn_nil]
  exact wpAny_pure (wpAny_pure h)
end
def pkKind (prog : Program) (w : World) : HeapKind prog w PK where
  is := IsPK prog w
  hash := pkHash prog w
  draws := fun k => k.2.length + 3
  room := fun A => A.units + 1 < cLine
  inj := fun hx hy => hx.inj hy
  keeps := fun x ho hd hs => x.keeps ho hd hs
  pyHash := fun hu hk h => hash_pk hu hk h
  eqBool := fun hu hx hy h => eq_pk hu hx hy h
  quiet := fun hk h => quiet_pk hk h
end Pk
namespace Pk
open PySem PySem.Spec PyProof.Rows L2
/-- the pair stands at c, all of it known -/
def KeyAt (K : PySem.W.Frag) (H : Hp) (k : PK) (c : Addr) : Prop := ∃ b, SqT K H c [.int k.1, .ref b] ∧ SqT K H b (k.2.map V.int)
theorem KeyAt.via {K : PySem.W.Frag} {H H' : Hp} {k : PK} {c : Addr} (e : ∀ {a : Addr} {xs : List V}, SqT K H a xs → SqT K H' a xs) (h : KeyAt K H k c) : KeyAt K H' k c := let ⟨b, h1, h2⟩ := h; ⟨b, e h1, e h2⟩
def Dphi (P : Program) (w : World) (d : Addr) (xs : List (PK × Addr × Value)) : Heap → Prop := fun h => ∃ o es ep, h.get? d = some o ∧ o.ExactDict ∧ o.data = .dict es ep ∧ es.toList = xs.map (entryOfKey (pkKind P w))
structure KDx (P : Program) (w : World) (K : PySem.W.Frag) (H : Hp) (d : Addr) (kvs : List (PK × V)) (xs : List (PK × Addr × Value)) : Prop where
  here : H d = some (.ext (Dphi P w d xs))
  nm : (d == sysModules) = false
  rel : Paired (fun p q => p.1 = q.1 ∧ KeyAt K H p.1 q.2.1 ∧ RelV p.2 q.2.2) kvs xs
  nd : (xs.map (·.1)).Nodup
  few : xs.length ≤ sizeLine
/-- at d a dict of such keys -/
def KD (P : Program) (w : World) (K : PySem.W.Frag) (H : Hp) (d : Addr) (kvs : List (PK × V)) : Prop := ∃ xs, KDx P w K H d kvs xs
theorem pair_via {α β : Type} {R S : α → β → Prop} (f : ∀ a b, R a b → S a b) : ∀ {xs : List α} {ys : List β}, Paired R xs ys → Paired S xs ys
  | _, _, .nil => .nil
  | _, _, .cons h t => .cons (f _ _ h) (pair_via f t)
theorem KD.mono {P : Program} {w : World} {K : PySem.W.Frag} {H H' : Hp} {d : Addr} {kvs : List (PK × V)} (e : Same H H') (h : KD P w K H d kvs) : KD P w K H' d kvs := by
  obtain ⟨xs, h⟩ := h
  exact ⟨xs, e _ _ h.here, h.nm, pair_via (fun _ _ q => ⟨q.1, q.2.1.via (Own.same_tup e), q.2.2⟩) h.rel, h.nd, h.few⟩
section
variable {X : Cx} {pins : List (Addr × Obj)} {σ : L2.St} {H : Hp} {s : Shared}
theorem ints_are {P : Program} {w : World} : ∀ {ks : List Int} {us : List Value}, Vals (ks.map V.int) us → ItemsAre (PySem.intKind P w) ks us
  | [], _, r => by cases r; exact .nil
  | k :: ks, _, r => by
    cases r with
    | cons h t =>
      obtain ⟨tk, rfl⟩ := (show ∃ t, _ = Value.int k t from h)
      exact .cons (by simp [PySem.intKind, Value.isInt]) (ints_are t)
theorem key_is (I : Inv X pins σ H s) {k : PK} {c : Addr} (h : KeyAt X.K H k c) : IsPK X.prog X.w s.heap k c := by
  obtain ⟨b, h1, h2⟩ := h
  obtain ⟨i1, r1, ⟨o1, e1, c1, n1, d1⟩, _⟩ := I.tuple h1
  obtain ⟨i2, r2, ⟨o2, e2, c2, n2, d2⟩, _⟩ := I.tuple h2
  cases r1 with
  | cons ra rb =>
    cases rb with
    | cons rb rc =>
      cases rc
      obtain ⟨tk, rfl⟩ := (show ∃ t, _ = Value.int k.1 t from ra)
      cases (show _ = Value.ref b from rb)
      exact ⟨o1, _, n1, tk, b, e1, c1, d1, rfl, o2, _, n2, e2, c2, d2, by simpa using ints_are r2⟩
theorem dict_is (I : Inv X pins σ H s) {d : Addr} {kvs : List (PK × V)} {xs : List (PK × Addr × Value)} (h : KDx X.prog X.w X.K H d kvs xs) : s.heap.DictOfH (pkKind X.prog X.w) d xs := by
  obtain ⟨⟨o, es, ep, e1, e2, e3, e4⟩, _, _⟩ := (show ObjOk X.prog X.w H s.heap d (.ext (Dphi X.prog X.w d xs)) from I.hok d _ h.here)
  refine ⟨o, es, ep, e1, e2, e3, e4, ?_, h.nd⟩
  have all : ∀ {l : List (PK × V)} {m : List (PK × Addr × Value)}, Paired (fun p q => p.1 = q.1 ∧ KeyAt X.K H p.1 q.2.1 ∧ RelV p.2 q.2.2) l m → ∀ x ∈ m, (pkKind X.prog X.w).is s.heap x.1 x.2.1 := by
    intro l m q
    induction q with
    | nil => intro x hx; cases hx
    | cons hq _ ih =>
      intro x hx
      rcases List.mem_cons.mp hx with rfl | hx
      · rw [← hq.1]
        exact key_is I hq.2.1
      · exact ih x hx
  exact all h.rel
theorem val_rel {R : PK × V → PK × Addr × Value → Prop} (hR : ∀ p q, R p q → p.1 = q.1 ∧ RelV p.2 q.2.2) {kvs : List (PK × V)} {xs : List (PK × Addr × Value)} (r : Paired R kvs xs) (k : PK) : RelO (valV kvs k) ((atKey xs k).map (·.2)) := by
  induction r with
  | nil => exact True.intro
  | @cons p q ps qs h _ ih =>
    obtain ⟨h1, h2⟩ := hR p q h
    by_cases e : p.1 = k
    · have b : atKey (q :: qs) k = some q.2 := by simp [atKey, List.find?_cons, h1.symm.trans e]
      rw [valV_pos e, b]
      exact h2
    · have e' : ¬ q.1 = k := fun z => e (h1.trans z)
      have b : atKey (q :: qs) k = atKey qs k := by simp [atKey, List.find?_cons, e']
      rw [valV_neg e, b]
      exact ih
theorem KDx.val {d : Addr} {kvs : List (PK × V)} {xs : List (PK × Addr × Value)} (h : KDx X.prog X.w X.K H d kvs xs) (k : PK) : RelO (valV kvs k) ((atKey xs k).map (·.2)) := val_rel (fun _ _ q => ⟨q.1, q.2.2⟩) h.rel k
theorem KDx.some_eq {d : Addr} {kvs : List (PK × V)} {xs : List (PK × Addr × Value)} (h : KDx X.prog X.w X.K H d kvs xs) (k : PK) : (atKey xs k).isSome = (valV kvs k).isSome := by
  have q := (h.val k).isSome_eq
  rw [Option.isSome_map] at q
  exact q.symm
theorem put_rel {R : PK × V → PK × Addr × Value → Prop} {k : PK} {v : V} {u : Value} (h1 : ∀ p q, R p q → p.1 = k → R (p.1, v) (q.1, q.2.1, u)) (h2 : ∀ p q, R p q → p.1 = q.1) : ∀ {kvs : List (PK × V)} {xs : List (PK × Addr × Value)}, Paired R kvs xs →
    Paired R (kvs.map fun kv => if kv.1 = k then (kv.1, v) else kv) (xs.map (putAt k u))
  | _, _, .nil => .nil
  | _, _, @Paired.cons _ _ _ p q ps qs h t => by
    rw [List.map_cons, List.map_cons]
    refine .cons ?_ (put_rel h1 h2 t)
    unfold putAt
    by_cases e : p.1 = k
    · rw [if_pos e, if_pos ((h2 p q h).symm.trans e)]
      exact h1 p q h e
    · rw [if_neg e, if_neg (fun z => e ((h2 p q h).trans z))]
      exact h
def rNotInP (P : Program) (w : World) (K : PySem.W.Frag) : R2 := fun x y H Q => ∃ d c k kvs, x = .ref c ∧ y = .ref d ∧ KeyAt K H k c ∧ KD P w K H d kvs ∧ Q (.bl (!(valV kvs k).isSome)) H
theorem op_notInP (hu : X.A.units + 2 < cLine) : OpR X (compareOp .NotIn) (rNotInP X.prog X.w X.K) := by
  intro pins s σ H x y v u Q I rx ry h
  obtain ⟨d, c, k, kvs, rfl, rfl, hk, ⟨xs, hd⟩, q⟩ := h
  cases rx
  cases ry
  refine wpAny_notIn_heap (knd := pkKind X.prog X.w) (by show X.A.units + 1 + 1 < cLine; omega) (key_is I hk) hd.nm (dict_is I hd) ?_
  rw [hd.some_eq k]
  exact ⟨.bl (!(valV kvs k).isSome), H, I.tok _, rfl, q⟩
def rIxP (P : Program) (w : World) (K : PySem.W.Frag) : R2 := fun x y H Q => ∃ d c k kvs v, x = .ref d ∧ y = .ref c ∧ KeyAt K H k c ∧ KD P w K H d kvs ∧ valV kvs k = some v ∧ Q v H
theorem ix_dictP (hu : X.A.units + 2 < cLine) : IxR X (rIxP X.prog X.w X.K) := by
  intro value slice pins s σ H x y v u Q I rx ry h hs
  obtain ⟨d, c, k, kvs, z, rfl, rfl, hk, ⟨xs, hd⟩, hv, q⟩ := h
  cases rx
  cases ry
  have hD := dict_is I hd
  have hr := hd.val k
  rw [hv] at hr
  obtain ⟨w', hw, rw'⟩ := RelO.some_of hr
  obtain ⟨p, hp, hp2⟩ := Option.map_eq_some_iff.mp hw
  refine subscriptTail_builtinR (x := p.2) hD.typeIs PySem.F.slot_dict_getitem.lookup (wpAny_getItem_heap (knd := pkKind X.prog X.w) (Q := fun r s' => r = p.2 ∧ EP X pins σ Q r s') (by show X.A.units + 1 + 1 < cLine; omega) (key_is I hk) hD hp ⟨rfl, ?_⟩) hs
  rw [hp2]
  exact ⟨z, H, I.tok _, rw', q⟩
/-- all else stands -/
def SameBut (d : Addr) (H H' : Hp) : Prop := ∀ b o, b ≠ d → H b = some o → H' b = some o
def rSetP (P : Program) (w : World) (K : PySem.W.Frag) : V → V → V → Hp → (Hp → Prop) → Prop := fun o i v H Q => ∃ d c k kvs, o = .ref d ∧ i = .ref c ∧ KeyAt K H k c ∧ KD P w K H d kvs ∧ kvs.length < sizeLine ∧ ∀ H', SameBut d H H' → KD P w K H' d (putK kvs k v) → Q H'
theorem set_dictP (hu : X.A.units + 2 < cLine) : PSet X (rSetP X.prog X.w X.K) := by
  intro pins s σ H o i v ov iv u Q I ro ri rv h
  obtain ⟨d, c, k, kvs, rfl, rfl, hk, ⟨xs, hd⟩, hl, q⟩ := h
  cases ro
  cases ri
  have ll := Paired.length hd.rel
  have ntup : ∀ {a : Addr} {ys : List V}, SqT X.K H a ys → ∀ ob, SqT X.K (upd H d ob) a ys := fun {a ys} hS ob => by
    rcases hS with (h1 | ⟨o1, h1⟩) | h1
    · exact .inl (.inl (by rw [upd_ne (ne_of h1 hd.here (fun z => nomatch z))]; exact h1))
    · exact .inl (.inr ⟨o1, by rw [upd_ne (ne_of h1 hd.here (fun z => nomatch z))]; exact h1⟩)
    · exact .inr h1
  have stored : ∀ ob : HO, Paired (fun p q => p.1 = q.1 ∧ KeyAt X.K (upd H d ob) p.1 q.2.1 ∧ RelV p.2 q.2.2) (putK kvs k v) (storedH xs k c u) := fun ob => by
    have old : Paired (fun (p : PK × V) (q : PK × Addr × Value) => p.1 = q.1 ∧ KeyAt X.K (upd H d ob) p.1 q.2.1 ∧ RelV p.2 q.2.2) kvs xs := pair_via (fun _ _ q => ⟨q.1, q.2.1.via (fun hS => ntup hS ob), q.2.2⟩) hd.rel
    unfold putK storedH
    rw [valV_any, ← hd.some_eq k]
    by_cases e : (atKey xs k).isSome = true
    · rw [if_pos e, if_pos e]
      exact put_rel (fun p q h z => ⟨h.1, h.2.1, rv⟩) (fun _ _ h => h.1) old
    · rw [if_neg e, if_neg e]
      exact paired_add old ⟨rfl, hk.via (fun hS => ntup hS ob), rv⟩
  have hlen : (storedH xs k c u).length ≤ sizeLine := by
    have h1 := Paired.length (stored (.lst []))
    have h2 := length_putK kvs k v
    omega
  refine wpAny_setItem_heap (knd := pkKind X.prog X.w) (hsz := hd.few) (by show X.A.units + 1 + 1 < cLine; omega) (key_is I hk) (dict_is I hd) fun h' hD hs => ?_
  obtain ⟨o2, es, ep, e1, e2, e3, e4, _, e6⟩ := hD
  refine ⟨upd H d (.ext (Dphi X.prog X.w d (storedH xs k c u))), I.write (x := d) (e := d) (by rw [hd.here]; exact True.intro) (.inl rfl) (fun b ob nb e => (hs.2 b nb).trans e) ⟨o2, e1⟩ ?_, q _ (fun b ob nb e => by rw [upd_ne nb]; exact e) ⟨_, upd_same, hd.nm, stored _, e6, hlen⟩⟩
  exact ⟨⟨o2, es, ep, e1, e2, e3, e4⟩, ⟨o2, e1⟩, fun h1 h2 ⟨ob, es', ep', z1, z2, z3, z4⟩ k' => ⟨ob, es', ep', k' _ z1, z2, z3, z4⟩⟩
def tNewP (P : Program) (w : World) (K : PySem.W.Frag) : TE := fun _ H Q => ∀ p H', H p = none → Same H H' → KD P w K H' p [] → Q (.ref p) H'
theorem pe_dnewP {pos : Pos} : PE X (.Dict [] [] pos) (tNewP X.prog X.w X.K) := ⟨fun pins s σ H Q I h => by
  have nm : (s.heap.objs.size == sysModules) = false := beq_eq_false_iff_ne.mpr (Ne.symm (Nat.ne_of_lt I.big))
  have np := I.hok.fresh (Nat.le_refl s.heap.objs.size)
  refine wpAny_Dict_empty ⟨.ref s.heap.objs.size, _, I.laid (a := s.heap.objs.size) (o := .ext (Dphi X.prog X.w s.heap.objs.size [])) (t' := s.toks) (fun _ _ q => Heap.get?_push_of_some _ q) (Nat.le_refl _) ?_, rfl, h _ _ np (same_new np) ⟨[], upd_same, nm, .nil, List.nodup_nil, Nat.zero_le _⟩⟩
  refine ⟨⟨_, #[], 0, Heap.get?_push_size _ rfl, ⟨rfl, rfl, rfl⟩, rfl, rfl⟩, ⟨_, Heap.get?_push_size _ rfl⟩, fun h1 h2 ⟨ob, es', ep', z1, z2, z3, z4⟩ k' => ⟨ob, es', ep', k' _ z1, z2, z3, z4⟩⟩⟩
end
end Pk
/-! ### enumerate of a tuple; any of a tuple of ints -/
namespace Own
open PySem PySem.Spec PyProof.Rows L2
/-- the tuple's iterator, and the enumerate over it -/
abbrev itT (h : Heap) (l : Addr) : Heap := h.push { cls := .type "tuple_iterator", data := .fields #[.ref l, .int 0 0] }
abbrev enT (h : Heap) (l : Addr) : Heap := (itT h l).push { cls := .type "enumerate", data := .fields #[.none, .bool false, .ref h.objs.size, rawInt 0, .none, .none] }
theorem newT_does (l : Addr) (xs : Array Value) : Meets (Builtin.«enumerate.__new__» ⟨[.type "enumerate", .ref l], []⟩) (fun _ R s => s.heap.IsTuple l xs ∧ R (.ok (.ret (.ref (itT s.heap l).objs.size))) { s with heap := enT s.heap l }) := .of_wp fun prog w A R ⟨hp, g, d, tk, os⟩ ⟨p, q⟩ => by
  have sub := sub_enumerate
  have p0 : Heap.IsTuple (Shared.heap ⟨hp, g, d, tk, os⟩) l xs := p
  obtain ⟨⟨c, dd, dt, sl⟩, e, ec, n, ed⟩ := id p
  simp only at ec ed
  subst ec ed
  wp_walk using AutoSeq1.wpAny_loadPart' e
  refine wpAny_stack_any fun _ => wpAny_pure ?_
  split <;> (try rename_i c _ _ _ _ _; cases (c == Value.type "enumerate")) <;> wp_walk using AutoSeq1.wpAny_loadPart' e, wpAny_pyIter_tuple p0 <;> exact ⟨_, rfl, q⟩
theorem callT_does {prog : Program} {w : World} {A : Around} {E Q : Value → Shared → Prop} {s : Shared} {l : Addr} {xs : Array Value} (p : s.heap.IsTuple l xs)
    (q : IsEnum (enT s.heap l) (s.heap.objs.size + 1) s.heap.objs.size 0 .none → (enT s.heap l).IsTupleIter s.heap.objs.size l 0 → (∀ b o, s.heap.get? b = some o → (enT s.heap l).get? b = some o) → Q (.ref (s.heap.objs.size + 1)) { s with heap := enT s.heap l }) : wpAny (model prog w) A (call (.type "enumerate") [.ref l]) Q E s := by
  have z : (itT s.heap l).objs.size = s.heap.objs.size + 1 := Heap.size_push ..
  have e : IsEnum (enT s.heap l) (itT s.heap l).objs.size s.heap.objs.size 0 .none := Heap.get?_push_size _ rfl
  rw [z] at e
  refine callType_new F.called_enumerate (by decide) (F.typeCall_enumerate_1 _) (F.newCall_enumerate_1 _) (fun o => F.args_object_init_2 o _) F.entry_enumerate_new (newT_does l xs) ⟨p, ?_⟩
  show _ ∧ _
  rw [z]
  exact ⟨⟨_, e, rfl⟩, q e ⟨_, Heap.get?_push_of_some _ (Heap.get?_push_size _ rfl), rfl, rfl⟩ fun _ _ k => Heap.get?_push_of_some _ (Heap.get?_push_of_some _ k)⟩
/-- the tuple at a as it stands, each item in a new pair -/
def IteT (K : PySem.W.Frag) (a : Addr) : It :=
  ⟨fun i H => ∃ (xs : List V) (x : V), SqT K H a xs ∧ xs[i]? = some x, fun i H v H' => ∃ T x, v = .ref T ∧ H T = none ∧ H' = upd H T (.tup [.int (i : Nat), x]) ∧ ∀ xs, SqT K H a xs → xs[i]? = some x, fun i H => ∃ xs : List V, SqT K H a xs ∧ xs.length = i⟩
/-- where a walk over it stands -/
structure EnSt (a e it : Addr) (i : Nat) (h : Heap) : Prop where
  en : ∃ old, IsEnum h e it ((i : Nat) : Int) old
  at_ : h.IsTupleIter it a i
  n1 : e ≠ it
  n2 : a ≠ it
  n3 : e ≠ a
theorem turn_enumT {P : Program} {w : World} {K : PySem.W.Frag} {es : List Expr} {kk : Nat} {tp : Pos} (a e it : Addr) : Turn P w K (.Tuple es kk tp) (IteT K a) [e, it] e (EnSt a e it) where
  mem := List.mem_cons_self
  obj := fun i h t b hb => by
    obtain ⟨old, x⟩ := t.en
    obtain ⟨o, y, _, dd⟩ := t.at_
    rcases List.mem_cons.mp hb with rfl | hb
    · exact ⟨_, x, nofun⟩
    · rw [List.mem_singleton.mp hb]
      exact ⟨o, y, fun v z => by rw [dd] at z; cases z⟩
  keep := fun i h h' t k => ⟨let ⟨old, x⟩ := t.en; ⟨old, k e (by simp) _ x⟩, t.at_.at fun o x => k it (by simp) o x, t.n1, t.n2, t.n3⟩
  item := fun X hP hw hK hc i pins s σ H E I hf t ⟨xs, x, hq, hx⟩ => by
    subst hP hw hK
    obtain ⟨old, hen⟩ := t.en
    obtain ⟨its, rv, p, _⟩ := I.tuple hq
    obtain ⟨u, hu, ru⟩ := rv.get hx
    have le : e < s.heap.objs.size := Heap.lt_size hen
    have li : it < s.heap.objs.size := t.at_.elim fun _ k => Heap.lt_size k.1
    have lt : i < its.toArray.size := by simpa using (List.getElem?_eq_some_iff.mp hu).1
    refine wpAny_pyNext_enum_itemD (Draws.tuple (A := X.A.in1) (I.ok.hd hc) it a t.n2 its.toArray) hen ⟨t.at_, p⟩ lt t.n1 (by simp [t.n1, t.n3]) fun y g tk py out ⟨it', _⟩ pair _ keep => ?_
    have ey : y = u := Option.some.inj ((show its[i]? = some y by simpa using py).symm.trans hu)
    subst ey
    refine ⟨_, rfl, wpAny_letOwnedTupleGo_enum (s := { s with heap := g, toks := tk + 1 }) out fun g2 en2 sb => ?_⟩
    have same : ∀ b o, b ∉ [e, it] → s.heap.get? b = some o → g2.get? b = some o := fun b o nb k => (sb.2 b fun z => nb (by simp [z])).trans (keep b o (fun z => nb (by simp [z])) (fun z => nb (by simp [z])) k)
    have there : ObjOk X.prog X.w (upd H s.heap.objs.size (.tup [.int (i : Nat), x])) g2 s.heap.objs.size (.tup [.int (i : Nat), x]) := ⟨by show 2 ≤ sizeLine; decide, [.int i tk, y], .cons ⟨_, rfl⟩ (.cons ru .nil), ⟨_, (sb.2 _ (Nat.ne_of_gt le)).trans pair, rfl, _, rfl⟩⟩
    refine ⟨.ref s.heap.objs.size, _, I.turnedNew (ch := [e, it]) same hf (Nat.le_refl _) there, rfl, ⟨_, x, rfl, I.hok.fresh (Nat.le_refl _), rfl, fun ys hy => by rw [I.tuple_inj hy hq]; exact hx⟩, ⟨⟨y, ?_⟩, it'.at fun o k => (sb.2 it t.n1.symm).trans k, t.n1, t.n2, t.n3⟩, fun b hb => ?_⟩
    · rw [show ((i + 1 : Nat) : Int) = (i : Int) + 1 by omega]
      exact en2
    · rw [upd_ne (Nat.ne_of_lt (by rcases List.mem_cons.mp hb with rfl | hb; exact le; rw [List.mem_singleton.mp hb]; exact li))]
      exact (hf b hb).1
  done := fun X hP hw hK hc i pins s σ H E I hf t ⟨xs, hq, hx⟩ => by
    subst hP hw hK
    obtain ⟨old, hen⟩ := t.en
    obtain ⟨its, rv, p, _⟩ := I.tuple hq
    obtain ⟨f0, f1, _, f3, f4, f5⟩ := hf it (by simp)
    have hl : its.toArray.size = i := by rw [List.size_toArray, ← rv.length]; exact hx
    exact wpAny_pyNext_enum_endD (Draws.tuple (A := X.A.in1) (I.ok.hd hc) it a t.n2 its.toArray) hen (by rw [hl]; exact ⟨t.at_, p⟩) fun g eb => ⟨rfl, I.turned (t' := s.toks) (fun b o hb k => eb b o hb k) f0 f1 f3 f4 f5⟩
  self := fun A i s Q E t h => t.en.elim fun _ k => wpAny_pyIter_enum k h
def iEnumT (K : PySem.W.Frag) (ta : TA) : TI := fun σ H R => ta σ H fun vs H1 => ∃ a xs, vs = [.ref a] ∧ SqT K H1 a xs ∧ R (IteT K a) H1
theorem pi_enumT {X : Cx} {e : Expr} {ta : TA} {p pos tp : Pos} {es : List Expr} {kk : Nat} (hg : Gl X "enumerate") (hm : X.mg "enumerate" = none) (ha : PA X [e] ta) (hs : starEach [e] X.env = [(false, eval e X.env)] := by rfl) : PI X (.Tuple es kk tp) (.Call (.Name "enumerate" p) [e] [] pos) (iEnumT X.K ta) :=
  ⟨fun pins s σ H R I h => Call_ (ld_blt I hg hm boot_enumerate (PyProof.Rows.callWith_type1 (thn (ha.run pos pins s σ H _ I h) fun us s1 ⟨vs, H1, I1, r1, a, xs, ex, hq, q⟩ => by
    subst ex
    obtain ⟨u, rfl, ru⟩ := vals1 r1
    cases ru
    obtain ⟨its, rv, p', _⟩ := I1.tuple hq
    have la : a < s1.heap.objs.size := p'.elim fun _ k => Heap.lt_size k.1
    refine callT_does (show s1.heap.IsTuple a its.toArray from p') fun en at_ keep => wpAny_pyIter_enum en ?_
    refine ⟨_, [s1.heap.objs.size + 1, s1.heap.objs.size], _, _, H1, rfl, I1.kept (t' := s1.toks) keep, turn_enumT a (s1.heap.objs.size + 1) s1.heap.objs.size, ⟨⟨.none, en⟩, at_, Nat.succ_ne_self _, Nat.ne_of_lt la, Nat.ne_of_gt (Nat.lt_succ_of_lt la)⟩, fun b hb => ?_, q⟩
    have le : s1.heap.objs.size ≤ b := by
      rcases List.mem_cons.mp hb with rfl | hb
      · exact Nat.le_succ _
      · rw [List.mem_singleton.mp hb]
        exact Nat.le_refl _
    exact I1.fpOk le (I1.hok.fresh le)) hs rfl))⟩
theorem walk_enumT {K : PySem.W.Frag} {a : Addr} {xs : List V} : Walk (IteT K a) xs.length (fun H => SqT K H a xs) (YPair (fun i => some (.int (i : Nat))) (fun i => xs[i]?)) := by
  refine ⟨fun i _ hi q => ⟨xs, xs[i], q, by simp [hi]⟩, fun _ q => ⟨xs, q, rfl⟩, fun i H v H' _ q y => ?_⟩
  obtain ⟨T, x, h1, h2, h3, h4⟩ := y
  exact ⟨T, _, x, h1, h2, h3, rfl, h4 xs q⟩
theorem truth_ints {prog : Program} {w : World} {A : Around} {ns : List Int} {its : List Value} (r : Vals (ns.map V.int) its) :
    TruthOf prog w A (fun i v => its.toArray[i]? = some v) (fun i => ns.getD i 0 != 0) := fun i v s Q E hv hq => by
  have hv' : its[i]? = some v := by simpa using hv
  have hi : i < ns.length := by
    have := (List.getElem?_eq_some_iff.mp hv').1
    have := r.length
    rw [List.length_map] at this
    omega
  obtain ⟨u, hu, t, hu2⟩ := r.get (i := i) (x := .int ns[i]) (by rw [List.getElem?_map, List.getElem?_eq_getElem hi]; rfl)
  rw [hv'] at hu
  cases hu
  have hg : ns.getD i 0 = ns[i] := by rw [List.getD_eq_getElem?_getD, List.getElem?_eq_getElem hi]; rfl
  have hq' : Q (ns.getD i 0 != 0) s := hq
  rw [hg] at hq'
  rw [hu2]
  exact PyProof.Rows.truthy_int hq'
theorem any_rangeI : ∀ ns : List Int, (List.range ns.length).any (fun i => ns.getD i 0 != 0) = ns.any (· != 0)
  | [] => rfl
  | b :: bs => by
    rw [List.length_cons, List.range_succ_eq_map, List.any_cons, List.any_map, List.any_cons, ← any_rangeI bs]
    all_goals rfl
def rAnyI (K : PySem.W.Frag) : List V → Hp → VK → Prop := fun vs H Q => ∃ (a : Addr) (ns : List Int), vs = [V.ref a] ∧ SqT K H a (ns.map V.int) ∧ Q (.bl (ns.any (· != 0))) H
theorem cr_anyI {X : Cx} (hc : X.calm = true) : CallR X (.builtin "any") (rAnyI X.K) := fun pins s σ H vs us Q I r ⟨a, ns, ev, hs, q⟩ => by
  subst ev
  obtain ⟨its, rv, hl, _⟩ := I.tuple hs
  have hlen := rv.length
  rw [Vals.ref1 r]
  have la : a < s.heap.objs.size := hl.elim fun _ k => Heap.lt_size k.1
  refine call_any_walk (wpAny_pyIter_tuple (show s.heap.IsTuple a its.toArray from hl) ⟨_, _, _, _, _, _, _, rfl, Walks.tuple (A := X.A.in1) (I.ok.hd hc) s.heap.objs.size a (Nat.ne_of_lt la) its.toArray, ⟨⟨_, Heap.get?_push_size _ rfl, rfl, rfl⟩, Heap.IsTuple.push hl _⟩, truth_ints rv, fun g tk k => ?_⟩)
  refine ⟨.bl _, H, I.kept fun b o eo => k b o (fun hm => ?_) (Heap.get?_push_of_some _ eo), ?_, q⟩
  · exact absurd (Heap.lt_size eo) (by rw [List.mem_singleton.mp hm]; exact Nat.lt_irrefl _)
  · show Value.bool _ = Value.bool _
    rw [← any_rangeI, List.size_toArray, ← hlen, List.length_map]
end Own
/-! ### several except clauses, some with a name: what has landed at the try, and what each clause does with it -/
namespace Own
open PySem PySem.Spec PyProof.Rows L2
abbrev Cl : Type := Value × Option Nat × (Addr → Value → Option Addr → TS)
/-- the wishes behind a clause's suite: a name's slot is empty again -/
def aft (D : Ends) : Option Nat → Ends
  | none => D
  | some i => ⟨fun σ => D.nx (σ.set i none), D.rt, fun σ => D.bk (σ.set i none), fun σ => D.ct (σ.set i none)⟩
def bef (σ : L2.St) (a : Addr) : Option Nat → L2.St
  | none => σ
  | some i => σ.set i (some (.ref a))
def wMix (K : PySem.W.Frag) (Wout : WX) (D : Ends) : List Cl → WX
  | [] => Wout
  | k :: r => fun cls d σ H => ∃ b, PySem.W.exmOne K cls k.1 = some b ∧ (b = true → ∀ a, H a = none → k.2.2 a cls d (aft D k.2.1) (bef σ a k.2.1) H) ∧ (b = false → wMix K Wout D r cls d σ H)
/-- an exception of this class stands at a, caught by the try -/
structure Ld (X : Cx) (pins : List (Addr × Obj)) (σ : L2.St) (H : Hp) (cls : Value) (d : Option Addr) (a : Addr) (s : Shared) : Prop where
  ex : ∃ (B : Heap) (q : Shared), L2.Inv X pins σ H q ∧ (∀ b o, q.heap.get? b = some o → b ∉ frs X.stack → B.get? b = some o) ∧ HandSPX.FlyingZ B (X.env :: X.outer) a (Zc cls d) s.heap ∧ q.heap.UpToSlots s.heap ∧ s.os = q.os ∧ AllBare s.gens
  na : H a = none
section
variable {X : Cx} {pins : List (Addr × Obj)} {σ : L2.St} {H : Hp} {cls : Value} {d : Option Addr} {a : Addr} {s : Shared}
theorem Ld.inv (l : Ld X pins σ H cls d a s) : L2.Inv X pins σ H s := by
  obtain ⟨B, q, J, nb, f, u, o, g⟩ := l.ex
  exact J.landed nb f.1 u o g
theorem Ld.obj (hf : X.env.frame = some X.env.locals) (l : Ld X pins σ H cls d a s) : ∃ oe vs, s.heap.get? a = some oe ∧ Zc cls d oe ∧ oe.data = .fields vs ∧ L2.Inv (X.suite a ((a, oe) :: (X.pn ++ pins))) [] σ H s := by
  obtain ⟨B, q, J, nb, f, u, o, g⟩ := l.ex
  obtain ⟨oe, vs, e, z, dd⟩ := f.there
  have out : ∀ env ∈ X.env :: X.outer, env.frame ≠ some a := fun env hm hq => by
    obtain ⟨_, o', e', hn⟩ := f.2.2.1.mem (List.mem_filterMap.mpr ⟨env, hm, hq⟩)
    cases e.symm.trans e'
    exact hn _ dd
  exact ⟨oe, vs, e, z, dd, l.inv.suite e dd l.na (fun hq => out _ List.mem_cons_self (by rw [hf, hq])) fun hm => let ⟨env, h1, h2⟩ := List.mem_filterMap.mp hm; out env (List.mem_cons_of_mem _ h1) h2⟩
theorem Ld.again {Q : Unit → Shared → Prop} {E : Value → Shared → Prop} {A : Around} {M : Model} (l : Ld X pins σ H cls d a s) (h : ∀ g, Ld X pins σ H cls d a { s with heap := g } → Q () { s with heap := g }) : wpAny M A (setFlight (.ref a) none) Q E s := by
  obtain ⟨B, q, J, nb, f, u, o, g⟩ := l.ex
  exact HandSPX.lands_againZ f fun h' f' u' => h h' ⟨⟨B, q, J, nb, f', u.trans u', o, g⟩, l.na⟩
/-- what an except clause does: its test, then its suite or the clauses behind it -/
def Does (X : Cx) (h : ExceptHandler) (k : Cl) : Prop := ∀ (_ : X.env.frame = some X.env.locals) (D : Ends) (rest : List ExceptHandler) (pins : List (Addr × Obj)) (σ : L2.St) (H : Hp) (cls : Value) (d : Option Addr) (a : Addr) (s : Shared) (b : Bool), Ld X pins σ H cls d a s →
  PySem.W.exmOne X.K cls k.1 = some b → (b = true → k.2.2 a cls d (aft D k.2.1) (bef σ a k.2.1) H) → (b = false → wpAny (model X.prog X.w) X.A (handleBy (.ref a) X.env rest) (SP X pins D) X.xe s) → wpAny (model X.prog X.w) X.A (handleBy (.ref a) X.env (h :: rest)) (SP X pins D) X.xe s
/-- a suite, walked while the exception is handled -/
def Suites (X : Cx) (st : List Stmt) (ts : Addr → Value → Option Addr → TS) : Prop := ∀ (a : Addr) (oe : Obj) (cls : Value) (d : Option Addr) (pn : List (Addr × Obj)), Zc cls d oe → (∃ vs, oe.data = .fields vs) → PSs (X.suite a ((a, oe) :: pn)) st (ts a cls d)
theorem Ld.look {x : Str} {c : Value} {np : Pos} {b : Bool} {Q : Value → Shared → Prop} {R : Bool → Shared → Prop} {E1 E2 : Value → Shared → Prop} (hf : X.env.frame = some X.env.locals) (l : Ld X pins σ H cls d a s) (n : Names X x c) (hb : PySem.W.exmOne X.K cls c = some b)
    (hQ : ∀ s1, Q c s1 = wpAny (model X.prog X.w) (X.A.mark (some (.ref a))) (excMatches (.ref a) c) R E2 s1) (h : R b s) : wpAny (model X.prog X.w) (X.A.mark (some (.ref a))) (eval (.Name x np) X.env) Q E1 s := by
  obtain ⟨oe, vs, e, z, dd, S⟩ := l.obj hf
  have q : Q c s := by
    rw [hQ]
    exact (PySem.W.exm_one (M := model X.prog X.w) l.inv.kIn (fun A Q E s k q => wpAny_typeOf_ref (k _ _ e) (by rw [z.1]; exact q)) hb).here h
  obtain ⟨hg, nd, hm | ⟨hm, hv, nn⟩⟩ := n
  · exact ld_glob (X := X.suite a ((a, oe) :: (X.pn ++ pins))) S hg hm q nd
  · exact ld_blt (X := X.suite a ((a, oe) :: (X.pn ++ pins))) S hg hm hv q nn nd
theorem sp_up {pn pn' : List (Addr × Obj)} {q : Addr × Obj} {D : Ends} {f : Flow} (ok : X.Ok) (hq : pn' = q :: (X.pn ++ pins)) (h : SP (X.suite a pn') pn D f s) : SP X pins D f s := by
  subst hq
  match f, h with
  | .next, ⟨_, _, S, k⟩ => exact ⟨_, _, S.unsuite ok, k⟩
  | .brk, ⟨_, _, S, k⟩ => exact ⟨_, _, S.unsuite ok, k⟩
  | .cont, ⟨_, _, S, k⟩ => exact ⟨_, _, S.unsuite ok, k⟩
  | .ret _, ⟨_, _, _, S, r, k⟩ => exact ⟨_, _, _, S.unsuite ok, r, k⟩
theorem does_plain {x : Str} {c : Value} {ts : Addr → Value → Option Addr → TS} {b₀ : Stmt} {suite : List Stmt} {np p : Pos} (n : Names X x c) (hs : Suites X (b₀ :: suite) ts) : Does X (.ExceptHandler (some (.Name x np)) none (b₀ :: suite) p) (c, none, ts) := by
  intro hf D rest pins σ H cls d a s b l hb hy hn
  refine wpAny_handleBy_cons (codeAny_handlers_test (l.look hf n hb (fun _ => rfl) ?_)) (fun q => nomatch q)
  match b, hb, hy, hn with
  | false, _, _, hn => exact hn rfl
  | true, _, hy, _ =>
    refine codeAny_handlers_suite (l.again fun g l2 => ?_)
    obtain ⟨oe, vs, _, z, dd, S⟩ := l2.obj hf
    exact wpAny_mono ((hs a oe cls d (X.pn ++ pins) z ⟨vs, dd⟩).run [] _ _ H _ S (hy rfl)) (fun _ _ r => sp_up l.inv.ok rfl r) fun _ _ z => z.elim
theorem does_as {x n : Str} {i : Nat} {c : Value} {ts : Addr → Value → Option Addr → TS} {b₀ : Stmt} {suite : List Stmt} {np p : Pos} (nd : X.N.Nodup) (hi : X.N[i]? = some n) (hk : X.env.kindOf n = some .local) (nm : Names X x c) (hs : Suites X (b₀ :: suite) ts) : Does X (.ExceptHandler (some (.Name x np)) (some n) (b₀ :: suite) p) (c, some i, ts) := by
  intro hf D rest pins σ H cls d a s b l hb hy hn
  refine wpAny_handleBy_cons (codeAny_handlers_test (l.look hf nm hb (fun _ => rfl) ?_)) (fun q => nomatch q)
  match b, hb, hy, hn with
  | false, _, _, hn => exact hn rfl
  | true, _, hy, _ =>
    refine codeAny_handlers_suite_as (l.again fun g l2 => ?_)
    obtain ⟨oe, vs, _, z, dd, S⟩ := l2.obj hf
    have ok := l.inv.ok
    refine store_ok (X := X.suite a ((a, oe) :: (X.pn ++ pins))) (v := .ref a) S nd hi (.inl hk) rfl (fun s5 S5 => ?_) (.inr hk)
    refine wpAny_mono ((hs a oe cls d (X.pn ++ pins) z ⟨vs, dd⟩).run [] s5 _ H _ S5 (hy rfl)) (fun f s6 r => ?_) fun _ _ z => z.elim
    match f, r with
    | .next, ⟨_, _, T, k⟩ => exact gone_ok (T.unsuite ok) nd hi hk fun _ J => ⟨_, _, J, k⟩
    | .brk, ⟨_, _, T, k⟩ => exact gone_ok (T.unsuite ok) nd hi hk fun _ J => ⟨_, _, J, k⟩
    | .cont, ⟨_, _, T, k⟩ => exact gone_ok (T.unsuite ok) nd hi hk fun _ J => ⟨_, _, J, k⟩
    | .ret _, ⟨_, _, _, T, rv, k⟩ => exact gone_ok (T.unsuite ok) nd hi hk fun _ J => ⟨_, _, _, J, rv, k⟩
/-- clause by clause -/
theorem all_do {Wout : WX} (hs : X.stack = X.env :: X.outer) (hf : X.env.frame = some X.env.locals) (tk : Takes X Wout) (D : Ends) : ∀ {hds : List ExceptHandler} {ks : List Cl}, Paired (Does X) hds ks → Ld X pins σ H cls d a s → wMix X.K Wout D ks cls d σ H → wpAny (model X.prog X.w) X.A (handleBy (.ref a) X.env hds) (SP X pins D) X.xe s
  | _, _, .cons h r, l, ⟨b, e, y, n⟩ => h hf D _ pins σ H cls d a s b l e (fun t => y t a l.na) fun t => all_do hs hf tk D r l (n t)
  | _, _, .nil, l, w => by
    obtain ⟨B, q, J, nb, f, u, o, g⟩ := l.ex
    obtain ⟨_, _, _, oe, vs, T, oT, ts, he, _, hd, h1, _⟩ := id f
    refine wpAny_handleBy_nil ?_
    have fin : wpAny (model X.prog X.w) X.A (setFlight (.ref a) X.env.frame) (fun _ s4 => wpAny (model X.prog X.w) X.A (throw (.ref a) : Sem Flow) (SP X pins D) X.xe s4) X.xe s := by
      rw [hf]
      exact HandSPX.setFlight_upZ f fun h4 held up => wpAny_throw (tk _ _ ⟨a, B, q, pins, σ, H, cls, d, rfl, J, nb, u.trans up, .inr (.inr (by rw [hs]; exact held)), l.na, o, g, w⟩)
    unfold PySem.passOn
    refine wpAny_bind (wpAny_field he hd h1 ?_)
    rw [if_neg (fun z : (Value.ref T == Value.none) = true => by simp at z)]
    first | exact wpAny_bind (wpAny_pure (wpAny_bind fin)) | exact wpAny_bind fin
end
section
variable {X : Cx} {body : List Stmt} {h₀ : ExceptHandler} {hds : List ExceptHandler} {ks : List Cl} {pos : Pos} {tb : WX → TS} {Wout : WX}
theorem ps_try_mix (hs : X.stack = X.env :: X.outer) (hf : X.env.frame = some X.env.locals) (tk : Takes X Wout) (hh : Paired (Does X) (h₀ :: hds) ks)
    (hb : ∀ (W : WX) (pn : List (Addr × Obj)) (xe : Value → Shared → Prop), Takes (X.tr pn xe) W → PassesOwn (model X.prog X.w) X.A X.env xe → PSs (X.tr pn xe) body (tb W)) : PS X (.Try body (h₀ :: hds) [] [] pos) (fun D => tb (wMix X.K Wout D ks) D) := by
  refine ⟨fun pins s σ H D I q => wpAny_Try_except ?_⟩
  have fr : X.A.frames = some (X.env :: X.outer) := by rw [I.ok.frames, hs]
  let go : Value → Shared → Prop := fun e => wpAny (model X.prog X.w) X.A (noteFrame e X.env) (fun _ => wpAny (model X.prog X.w) X.A (setFlight e none) (fun _ => wpAny (model X.prog X.w) X.A (handleBy e X.env (h₀ :: hds)) (SP X pins D) X.xe) X.xe) X.xe
  have tk2 : Takes (X.tr (X.pn ++ pins) go) (wMix X.K Wout D ks) := fun u s' ⟨a, B, sI, _, σ', H', cls, d, eu, J, nb, up, sky, na, os, ag, w⟩ => by
    subst eu
    have sk : Sky B (X.env :: X.outer) a (Zc cls d) X.env.locals s'.heap := by rw [← hs]; exact sky
    exact Sky.land Zc.steady fr hf sk fun g fl up2 => all_do (s := { s' with heap := g }) hs hf tk D hh ⟨⟨B, sI, J.ofTry I.ok, nb, fl, up.trans up2, os, ag⟩, na⟩ w
  have run := (hb (wMix X.K Wout D ks) (X.pn ++ pins) go tk2 PassesOwn.looking).run [] s σ H D (I.toTry _) q
  refine wpAny_mono run (fun f s1 r => ?_) fun _ _ z => z
  match f, r with
  | .next, ⟨_, _, J, k⟩ => exact wpAny_execs_nil ⟨_, _, J.ofTry I.ok, k⟩
  | .brk, ⟨_, _, J, k⟩ => exact ⟨_, _, J.ofTry I.ok, k⟩
  | .cont, ⟨_, _, J, k⟩ => exact ⟨_, _, J.ofTry I.ok, k⟩
  | .ret _, ⟨_, _, _, J, rv, k⟩ => exact ⟨_, _, _, J.ofTry I.ok, rv, k⟩
end
end Own
/-! ### == by an own __eq__, whatever it answers -/
namespace Own
open PySem PySem.Spec PyProof.Rows L2
/-- what may stand at the right: None, a tuple, an object of a class -/
inductive EqY (K : PySem.W.Frag) (H : Hp) (C : Addr) : V → Value → Prop
  | non : EqY K H C .non (.type "NoneType")
  | tup {a : Addr} {xs : List V} (e : SqT K H a xs) : EqY K H C (.ref a) (.type "tuple")
  | ins {a dx D : Addr} {fs : List (Str × V)} (e : H a = some (.ins D dx fs)) : EqY K H C (.ref a) (.ref D)
theorem EqY.look {X : Cx} {pins : List (Addr × Obj)} {σ : L2.St} {H : Hp} {s : Shared} {C : Addr} {y : V} {t u : Value} (I : L2.Inv X pins σ H s) (r : L2.RelV y u) (h : EqY X.K H C y t) : PySem.W.Looks (model X.prog X.w) s.heap (typeOf u) t := by
  cases h with
  | non =>
    cases r
    exact fun A Q E s k q => wpAny_pure q
  | tup e =>
    cases r
    obtain ⟨its, _, ⟨o, ho, hc, _⟩, _⟩ := I.tuple e
    exact fun A Q E s k q => wpAny_typeOf_ref (k _ _ ho) (by rw [hc]; exact q)
  | ins e =>
    cases r
    obtain ⟨_, J, _⟩ := ins_get I.hok e
    obtain ⟨_, J, _⟩ := J.look
    exact J.type
def rEqO (K : PySem.W.Frag) (C : Addr) (sp : Sp) (E : XK) : R2 := fun x y H Q => ∃ a dx fs t, x = .ref a ∧ H a = some (.ins C dx fs) ∧ EqY K H C y t ∧ PySem.W.notFirst K C t = true ∧ sp [.ref a, y] H (fun v H' => (∃ b, v = .bl b) ∧ Q v H') E
theorem op_eqO {X : Cx} {n : Nat} {C f : Addr} {fd : FuncData} {p1 p2 : Str} {sp : Sp} (F : FnOk X.prog X.w X.K X.mg X.base CX0 n f fd [p1, p2] sp) (hr : Room n X.A) (hs : PySem.W.findIn X.K (.ref C) "__eq__" = some (some (.ref f))) (hf : PySem.W.isFn X.K (.ref f) = true) (hb : L2.Binds X.K fd [p1, p2] []) : OpR X (compareOp .Eq) (rEqO X.K C sp E0) := by
  intro pins s σ H x y v u Q I rx ry ⟨a, dx, fs, t, ex, ha, hy, nf, hsp⟩
  subst ex
  cases rx
  have lk := hy.look I ry
  obtain ⟨_, J, _⟩ := ins_get I.hok ha
  obtain ⟨_, J, _⟩ := J.look
  obtain ⟨m, fr⟩ := I.fr
  refine PySem.W.cmp_K (op := .Eq) (tb := t) hr.units0 fr I.ok.mod.kin J lk nf hs hf ?_
  have bd := hb s [.ref a, u] I.kIn rfl
  refine wpAny_call (codeAny_mono (F.run X.A X.stack s H ⟨[.ref a, u], []⟩ [.ref a, u] [.ref a, y] _ E0 hr I.env0 (by simpa using bd) (.cons rfl (.cons ry .nil)) hsp) fun r s' q => ?_)
  match r, q with
  | .error e, q => exact q.elim
  | .ok (.ret w), q =>
    obtain ⟨z, H', I', rz, ⟨b, eb⟩, k⟩ := I.after q
    subst eb
    cases rz
    exact ⟨.bl b, H', I', rfl, k⟩
end Own
namespace Pt
open PySem PySem.Spec PyProof.Rows L2
abbrev TK : Type := List Int
def tkKind (P : Program) (w : World) : HeapKind P w TK := tupleKind (PySem.intKind P w)
def KeyAt (K : PySem.W.Frag) (H : Hp) (k : TK) (c : Addr) : Prop := SqT K H c (k.map V.int)
theorem KeyAt.via {K : PySem.W.Frag} {H H' : Hp} {k : TK} {c : Addr} (e : ∀ {a : Addr} {xs : List V}, SqT K H a xs → SqT K H' a xs) (h : KeyAt K H k c) : KeyAt K H' k c := e h
def Dphi (P : Program) (w : World) (d : Addr) (xs : List (TK × Addr × Value)) : Heap → Prop := fun h => ∃ o es ep, h.get? d = some o ∧ o.ExactDict ∧ o.data = .dict es ep ∧ es.toList = xs.map (entryOfKey (tkKind P w))
structure KDx (P : Program) (w : World) (K : PySem.W.Frag) (H : Hp) (d : Addr) (kvs : List (TK × V)) (xs : List (TK × Addr × Value)) : Prop where
  here : H d = some (.ext (Dphi P w d xs))
  nm : (d == sysModules) = false
  rel : Paired (fun p q => p.1 = q.1 ∧ KeyAt K H p.1 q.2.1 ∧ RelV p.2 q.2.2) kvs xs
  nd : (xs.map (·.1)).Nodup
  few : xs.length ≤ sizeLine
/-- at d a dict of such keys -/
def KD (P : Program) (w : World) (K : PySem.W.Frag) (H : Hp) (d : Addr) (kvs : List (TK × V)) : Prop := ∃ xs, KDx P w K H d kvs xs
theorem pair_via {α β : Type} {R S : α → β → Prop} (f : ∀ a b, R a b → S a b) : ∀ {xs : List α} {ys : List β}, Paired R xs ys → Paired S xs ys
  | _, _, .nil => .nil
  | _, _, .cons h t => .cons (f _ _ h) (pair_via f t)
theorem KD.mono {P : Program} {w : World} {K : PySem.W.Frag} {H H' : Hp} {d : Addr} {kvs : List (TK × V)} (e : Same H H') (h : KD P w K H d kvs) : KD P w K H' d kvs := by
  obtain ⟨xs, h⟩ := h
  exact ⟨xs, e _ _ h.here, h.nm, pair_via (fun _ _ q => ⟨q.1, q.2.1.via (Own.same_tup e), q.2.2⟩) h.rel, h.nd, h.few⟩
section
variable {X : Cx} {pins : List (Addr × Obj)} {σ : L2.St} {H : Hp} {s : Shared}
theorem key_is (I : Inv X pins σ H s) {k : TK} {c : Addr} (h : KeyAt X.K H k c) : (tkKind X.prog X.w).is s.heap k c := by
  obtain ⟨i1, r1, ⟨o1, e1, c1, n1, d1⟩, _⟩ := I.tuple h
  exact ⟨o1, _, n1, e1, c1, d1, by simpa using Pk.ints_are r1⟩
theorem dict_is (I : Inv X pins σ H s) {d : Addr} {kvs : List (TK × V)} {xs : List (TK × Addr × Value)} (h : KDx X.prog X.w X.K H d kvs xs) : s.heap.DictOfH (tkKind X.prog X.w) d xs := by
  obtain ⟨⟨o, es, ep, e1, e2, e3, e4⟩, _, _⟩ := (show ObjOk X.prog X.w H s.heap d (.ext (Dphi X.prog X.w d xs)) from I.hok d _ h.here)
  refine ⟨o, es, ep, e1, e2, e3, e4, ?_, h.nd⟩
  have all : ∀ {l : List (TK × V)} {m : List (TK × Addr × Value)}, Paired (fun p q => p.1 = q.1 ∧ KeyAt X.K H p.1 q.2.1 ∧ RelV p.2 q.2.2) l m → ∀ x ∈ m, (tkKind X.prog X.w).is s.heap x.1 x.2.1 := by
    intro l m q
    induction q with
    | nil => intro x hx; cases hx
    | cons hq _ ih =>
      intro x hx
      rcases List.mem_cons.mp hx with rfl | hx
      · rw [← hq.1]
        exact key_is I hq.2.1
      · exact ih x hx
  exact all h.rel
theorem val_rel {R : TK × V → TK × Addr × Value → Prop} (hR : ∀ p q, R p q → p.1 = q.1 ∧ RelV p.2 q.2.2) {kvs : List (TK × V)} {xs : List (TK × Addr × Value)} (r : Paired R kvs xs) (k : TK) : RelO (valV kvs k) ((atKey xs k).map (·.2)) := by
  induction r with
  | nil => exact True.intro
  | @cons p q ps qs h _ ih =>
    obtain ⟨h1, h2⟩ := hR p q h
    by_cases e : p.1 = k
    · have b : atKey (q :: qs) k = some q.2 := by simp [atKey, List.find?_cons, h1.symm.trans e]
      rw [valV_pos e, b]
      exact h2
    · have e' : ¬ q.1 = k := fun z => e (h1.trans z)
      have b : atKey (q :: qs) k = atKey qs k := by simp [atKey, List.find?_cons, e']
      rw [valV_neg e, b]
      exact ih
theorem KDx.val {d : Addr} {kvs : List (TK × V)} {xs : List (TK × Addr × Value)} (h : KDx X.prog X.w X.K H d kvs xs) (k : TK) : RelO (valV kvs k) ((atKey xs k).map (·.2)) := val_rel (fun _ _ q => ⟨q.1, q.2.2⟩) h.rel k
theorem KDx.some_eq {d : Addr} {kvs : List (TK × V)} {xs : List (TK × Addr × Value)} (h : KDx X.prog X.w X.K H d kvs xs) (k : TK) : (atKey xs k).isSome = (valV kvs k).isSome := by
  have q := (h.val k).isSome_eq
  rw [Option.isSome_map] at q
  exact q.symm
theorem put_rel {R : TK × V → TK × Addr × Value → Prop} {k : TK} {v : V} {u : Value} (h1 : ∀ p q, R p q → p.1 = k → R (p.1, v) (q.1, q.2.1, u)) (h2 : ∀ p q, R p q → p.1 = q.1) : ∀ {kvs : List (TK × V)} {xs : List (TK × Addr × Value)}, Paired R kvs xs →
    Paired R (kvs.map fun kv => if kv.1 = k then (kv.1, v) else kv) (xs.map (putAt k u))
  | _, _, .nil => .nil
  | _, _, @Paired.cons _ _ _ p q ps qs h t => by
    rw [List.map_cons, List.map_cons]
    refine .cons ?_ (put_rel h1 h2 t)
    unfold putAt
    by_cases e : p.1 = k
    · rw [if_pos e, if_pos ((h2 p q h).symm.trans e)]
      exact h1 p q h e
    · rw [if_neg e, if_neg (fun z => e ((h2 p q h).trans z))]
      exact h
def rNotInP (P : Program) (w : World) (K : PySem.W.Frag) : R2 := fun x y H Q => ∃ d c k kvs, x = .ref c ∧ y = .ref d ∧ KeyAt K H k c ∧ KD P w K H d kvs ∧ Q (.bl (!(valV kvs k).isSome)) H
theorem op_notInP (hu : X.A.units + 2 < cLine) : OpR X (compareOp .NotIn) (rNotInP X.prog X.w X.K) := by
  intro pins s σ H x y v u Q I rx ry h
  obtain ⟨d, c, k, kvs, rfl, rfl, hk, ⟨xs, hd⟩, q⟩ := h
  cases rx
  cases ry
  refine wpAny_notIn_heap (knd := tkKind X.prog X.w) (by show X.A.units + 1 < cLine; omega) (key_is I hk) hd.nm (dict_is I hd) ?_
  rw [hd.some_eq k]
  exact ⟨.bl (!(valV kvs k).isSome), H, I.tok _, rfl, q⟩
def rIxP (P : Program) (w : World) (K : PySem.W.Frag) : R2 := fun x y H Q => ∃ d c k kvs v, x = .ref d ∧ y = .ref c ∧ KeyAt K H k c ∧ KD P w K H d kvs ∧ valV kvs k = some v ∧ Q v H
theorem ix_dictP (hu : X.A.units + 2 < cLine) : IxR X (rIxP X.prog X.w X.K) := by
  intro value slice pins s σ H x y v u Q I rx ry h hs
  obtain ⟨d, c, k, kvs, z, rfl, rfl, hk, ⟨xs, hd⟩, hv, q⟩ := h
  cases rx
  cases ry
  have hD := dict_is I hd
  have hr := hd.val k
  rw [hv] at hr
  obtain ⟨w', hw, rw'⟩ := RelO.some_of hr
  obtain ⟨p, hp, hp2⟩ := Option.map_eq_some_iff.mp hw
  refine subscriptTail_builtinR (x := p.2) hD.typeIs PySem.F.slot_dict_getitem.lookup (wpAny_getItem_heap (knd := tkKind X.prog X.w) (Q := fun r s' => r = p.2 ∧ EP X pins σ Q r s') (by show X.A.units + 1 < cLine; omega) (key_is I hk) hD hp ⟨rfl, ?_⟩) hs
  rw [hp2]
  exact ⟨z, H, I.tok _, rw', q⟩
/-- all else stands -/
def SameBut (d : Addr) (H H' : Hp) : Prop := ∀ b o, b ≠ d → H b = some o → H' b = some o
def rSetP (P : Program) (w : World) (K : PySem.W.Frag) : V → V → V → Hp → (Hp → Prop) → Prop := fun o i v H Q => ∃ d c k kvs, o = .ref d ∧ i = .ref c ∧ KeyAt K H k c ∧ KD P w K H d kvs ∧ kvs.length < sizeLine ∧ ∀ H', SameBut d H H' → KD P w K H' d (putK kvs k v) → Q H'
theorem set_dictP (hu : X.A.units + 2 < cLine) : PSet X (rSetP X.prog X.w X.K) := by
  intro pins s σ H o i v ov iv u Q I ro ri rv h
  obtain ⟨d, c, k, kvs, rfl, rfl, hk, ⟨xs, hd⟩, hl, q⟩ := h
  cases ro
  cases ri
  have ll := Paired.length hd.rel
  have ntup : ∀ {a : Addr} {ys : List V}, SqT X.K H a ys → ∀ ob, SqT X.K (upd H d ob) a ys := fun {a ys} hS ob => by
    rcases hS with (h1 | ⟨o1, h1⟩) | h1
    · exact .inl (.inl (by rw [upd_ne (ne_of h1 hd.here (fun z => nomatch z))]; exact h1))
    · exact .inl (.inr ⟨o1, by rw [upd_ne (ne_of h1 hd.here (fun z => nomatch z))]; exact h1⟩)
    · exact .inr h1
  have stored : ∀ ob : HO, Paired (fun p q => p.1 = q.1 ∧ KeyAt X.K (upd H d ob) p.1 q.2.1 ∧ RelV p.2 q.2.2) (putK kvs k v) (storedH xs k c u) := fun ob => by
    have old : Paired (fun (p : TK × V) (q : TK × Addr × Value) => p.1 = q.1 ∧ KeyAt X.K (upd H d ob) p.1 q.2.1 ∧ RelV p.2 q.2.2) kvs xs := pair_via (fun _ _ q => ⟨q.1, q.2.1.via (fun hS => ntup hS ob), q.2.2⟩) hd.rel
    unfold putK storedH
    rw [valV_any, ← hd.some_eq k]
    by_cases e : (atKey xs k).isSome = true
    · rw [if_pos e, if_pos e]
      exact put_rel (fun p q h z => ⟨h.1, h.2.1, rv⟩) (fun _ _ h => h.1) old
    · rw [if_neg e, if_neg e]
      exact paired_add old ⟨rfl, hk.via (fun hS => ntup hS ob), rv⟩
  have hlen : (storedH xs k c u).length ≤ sizeLine := by
    have h1 := Paired.length (stored (.lst []))
    have h2 := length_putK kvs k v
    omega
  refine wpAny_setItem_heap (knd := tkKind X.prog X.w) (hsz := hd.few) (by show X.A.units + 1 < cLine; omega) (key_is I hk) (dict_is I hd) fun h' hD hs => ?_
  obtain ⟨o2, es, ep, e1, e2, e3, e4, _, e6⟩ := hD
  refine ⟨upd H d (.ext (Dphi X.prog X.w d (storedH xs k c u))), I.write (x := d) (e := d) (by rw [hd.here]; exact True.intro) (.inl rfl) (fun b ob nb e => (hs.2 b nb).trans e) ⟨o2, e1⟩ ?_, q _ (fun b ob nb e => by rw [upd_ne nb]; exact e) ⟨_, upd_same, hd.nm, stored _, e6, hlen⟩⟩
  exact ⟨⟨o2, es, ep, e1, e2, e3, e4⟩, ⟨o2, e1⟩, fun h1 h2 ⟨ob, es', ep', z1, z2, z3, z4⟩ k' => ⟨ob, es', ep', k' _ z1, z2, z3, z4⟩⟩
def tNewP (P : Program) (w : World) (K : PySem.W.Frag) : TE := fun _ H Q => ∀ p H', H p = none → Same H H' → KD P w K H' p [] → Q (.ref p) H'
/-- {k: v} -/
def tDisp1 (P : Program) (w : World) (K : PySem.W.Frag) (tk tv : TE) : TE := fun σ H Q => ∀ p H0, H p = none → Same H H0 → KD P w K H0 p [] → tPairs [(tk, tv)] σ H0 fun ps H2 => ∃ c k y, ps = [(.ref c, y)] ∧ KD P w K H2 p [] ∧ KeyAt K H2 k c ∧ ∀ H3, SameBut p H2 H3 → KD P w K H3 p [(k, y)] → Q (.ref p) H3
theorem pe_disp1 {pos : Pos} {k v : Expr} {tk tv : TE} (hu : X.A.units + 2 < cLine) (hk : PE X k tk) (hv : PE X v tv) : PE X (.Dict [some k] [v] pos) (tDisp1 X.prog X.w X.K tk tv) := by
  refine ⟨fun pins s σ H Q I h => ?_⟩
  have nm : (s.heap.objs.size == sysModules) = false := beq_eq_false_iff_ne.mpr (Ne.symm (Nat.ne_of_lt I.big))
  have np := I.hok.fresh (Nat.le_refl s.heap.objs.size)
  have I1 := I.laid (a := s.heap.objs.size) (o := .ext (Dphi X.prog X.w s.heap.objs.size [])) (h' := s.heap.push { cls := .type "dict", data := .dict #[] }) (t' := s.toks) (fun _ _ q => Heap.get?_push_of_some _ q) (Nat.le_refl _)
    ⟨⟨_, #[], 0, Heap.get?_push_size _ rfl, ⟨rfl, rfl, rfl⟩, rfl, rfl⟩, ⟨_, Heap.get?_push_size _ rfl⟩, fun h1 h2 ⟨ob, es', ep', z1, z2, z3, z4⟩ k' => ⟨ob, es', ep', k' _ z1, z2, z3, z4⟩⟩
  have P1 : PPs X pos [some k] [v] [(tk, tv)] := pps_cons hk hv pps_nil
  have hall : ([some k] : List (Option Expr)).all (·.isSome) = true := rfl
  have hn := pairTrees_length [some k] [v] X.env pos hall rfl
  have hne : pairTrees [some k] [v] X.env pos ≠ [] := fun e => by rw [e] at hn; cases hn
  rw [arm_eval_Dict, zip_pairTrees [some k] [v] X.env pos hall rfl, dictDisplay_pairs _ hne (by rw [hn]; show 1 < 17; decide)]
  refine wpAny_bind (wpAny_standAt (wpAny_bind (wpAny_subDictH (knd := tkKind X.prog X.w) (Q := fun d s' => wpAny (model X.prog X.w) X.A (pure (Value.ref d)) (EP X pins σ Q) X.xe s') (by show X.A.units < cLine; omega) (by rw [hn]; show 1 ≤ 15; decide) (thn (P1.run pins _ σ _ _ I1 (h _ _ np (same_new np) ⟨[], upd_same, nm, .nil, List.nodup_nil, Nat.zero_le _⟩)) fun ws s2 ⟨ps, H2, I2, rel, c, kk, y, eps, ⟨xs, hd⟩, hKA, q⟩ => ?_))))
  subst eps
  cases rel with
  | @cons a0 w0 as0 bs0 r0 rn =>
    cases rn
    obtain ⟨w1, u⟩ := w0
    obtain ⟨r1, r2⟩ := r0
    obtain rfl : w1 = Value.ref c := r1
    have hx : xs = [] := by
      have := Paired.length hd.rel
      exact List.eq_nil_of_length_eq_zero this.symm
    subst hx
    refine ⟨[(kk, c, u)], ⟨rfl, rfl, key_is I2 hKA, True.intro⟩, dict_is I2 hd, fun h' tk hD hs => wpAny_pure ?_⟩
    have ntup : ∀ {a : Addr} {ys : List V}, SqT X.K H2 a ys → ∀ ob, SqT X.K (upd H2 s.heap.objs.size ob) a ys := fun {a ys} hS ob => by
      rcases hS with (h1 | ⟨o1, h1⟩) | h1
      · exact .inl (.inl (by rw [upd_ne (ne_of h1 hd.here (fun z => nomatch z))]; exact h1))
      · exact .inl (.inr ⟨o1, by rw [upd_ne (ne_of h1 hd.here (fun z => nomatch z))]; exact h1⟩)
      · exact .inr h1
    have es : storedAllH (K := TK) [] [(kk, c, u)] = [(kk, c, u)] := rfl
    rw [es] at hD
    obtain ⟨o2, es2, ep, e1, e2, e3, e4, _, e6⟩ := hD
    refine ⟨.ref s.heap.objs.size, upd H2 s.heap.objs.size (.ext (Dphi X.prog X.w s.heap.objs.size [(kk, c, u)])), I2.write (x := s.heap.objs.size) (e := s.heap.objs.size) (by rw [hd.here]; exact True.intro) (.inl rfl) (fun b ob nb e => (hs.2 b nb).trans e) ⟨o2, e1⟩ ?_, rfl, q _ (fun b ob nb e => by rw [upd_ne nb]; exact e) ⟨_, upd_same, nm, .cons ⟨rfl, ntup hKA _, r2⟩ .nil, e6, by show 1 ≤ sizeLine; decide⟩⟩
    exact ⟨⟨o2, es2, ep, e1, e2, e3, e4⟩, ⟨o2, e1⟩, fun h1 h2 ⟨ob, es', ep', z1, z2, z3, z4⟩ k' => ⟨ob, es', ep', k' _ z1, z2, z3, z4⟩⟩
end
end Pt
/-! ### longer tuples by repeating; for over a list or a tuple -/
namespace Own
open PySem PySem.Spec PyProof.Rows L2
def rRepB : R2 := fun x y H Q => ∃ l k xs, x = .ref l ∧ y = .int k ∧ H l = some (.tup xs) ∧ xs ≠ [] ∧ 0 ≤ k ∧ k ≤ 2000 ∧ xs.length ≤ 200 ∧ ∀ t H', Same H H' → H' t = some (.tup (List.replicate k.toNat xs).flatten) → Q (.ref t) H'
theorem op_repB {X : Cx} : OpR X (binaryOp .Mult) rRepB := by
  intro pins s σ H x y v u Q I rx ry h
  obtain ⟨l, k, xs, rfl, rfl, hT, hne, h0, h2, hz, q⟩ := h
  by_cases hk : k ≤ 1000
  · exact op_repA pins s σ H _ _ v u Q I rx ry ⟨l, k, xs, rfl, rfl, hT, hne, h0, hk, by omega, q⟩
  cases rx
  obtain ⟨t, rfl⟩ := ry
  obtain ⟨its, r, ⟨⟨cls, dd, data, sl⟩, ho, hc, n, hd⟩, hs⟩ := I.tuple (show SqT X.K H l xs from .inl (.inl hT))
  dsimp only at hc hd
  subst hc
  subst hd
  have hle : its.length = xs.length := r.length.symm
  have hsz0 : its.toArray.size = xs.length := List.size_toArray.trans hle
  have hi : its.toArray.isEmpty = false := by
    cases its with
    | nil => exact absurd (List.eq_nil_of_length_eq_zero hle.symm) hne
    | cons _ _ => rfl
  have bound : ((its.toArray.size : Nat) : Int) * k ≤ 400000 := by
    have a1 : ((xs.length : Nat) : Int) * k ≤ 200 * k := Int.mul_le_mul_of_nonneg_right (by omega) h0
    rw [hsz0]
    omega
  have flen : (List.replicate k.toNat its).flatten.length ≤ sizeLine := by
    have a1 : k.toNat * xs.length ≤ 2000 * 200 := Nat.mul_le_mul (by omega) hz
    rw [PyProof.Rows.lm_len_rep_flat, hle, sizeLine_eq]
    omega
  have c0 : (decide (k < -(2 ^ 63)) || decide (k ≥ 2 ^ 63)) = false := by
    rw [Bool.or_eq_false_iff]
    exact ⟨decide_eq_false (by omega), decide_eq_false (by omega)⟩
  have c1 : (its.toArray.isEmpty || k == 1) = false := by
    rw [Bool.or_eq_false_iff]
    exact ⟨hi, beq_eq_false_iff_ne.mpr (by omega)⟩
  have c2 : (decide (k ≤ 0) || its.toArray.isEmpty) = false := by
    rw [Bool.or_eq_false_iff]
    exact ⟨decide_eq_false (by omega), hi⟩
  have c4 : Builtin.Tuple.tupleTooMany (((its.toArray.size : Nat) : Int) * k) = false := by
    have z := sizeLine_eq
    unfold Builtin.Tuple.tupleTooMany
    exact decide_eq_false (by omega)
  have er := size_rep its k.toNat
  refine wpAny_binaryOp_repeat_ref (T := "tuple") (U := "int") (by decide) ⟨_, ho, rfl⟩ (fun s' => typeIs_int s' k t) noFill_tuple_mul F.fills_int_mul F.slot_int_rmul repeat_tuple F.slot_int_index.lookup
    (call_meets F.slot_int_rmul (typeIs_int s k t) F.entry_int_rmul (F.args_int_rmul_2 _ _) (int_rmul_tuple k t l its.toArray n dd sl)
      ⟨ho, rfl, ⟨_, ho, rfl⟩, call_meets F.slot_tuple_mul ⟨_, ho, rfl⟩ F.entry_tuple_mul (F.args_tuple_mul_2 _ _) (tuple_mulW l its.toArray n dd sl k t c0 c1 c2 (by omega) c4 (by rw [er]; exact flen)) ⟨ho, ?_⟩⟩)
  rw [er]
  have rv : Vals (List.replicate k.toNat xs).flatten (List.replicate k.toNat its).flatten := by
    generalize k.toNat = m
    induction m with
    | zero => exact .nil
    | succ m ih =>
      rw [List.replicate_succ, List.replicate_succ, List.flatten_cons, List.flatten_cons]
      exact Vals.append r ih
  refine ⟨.ref s.heap.objs.size, _, I.laid (t' := s.toks) (o := .tup (List.replicate k.toNat xs).flatten) (fun b ob q => Heap.get?_push_of_some _ q) (Nat.le_refl _) ?_, rfl, q _ _ (same_new (I.hok.fresh (Nat.le_refl _))) upd_same⟩
  exact ⟨by rw [rv.length]; exact flen, _, rv, IsTup.new _ _⟩
/-- over a list or a tuple -/
def iSeqA (K : PySem.W.Frag) (tl : TE) : TI := fun σ H R => tl σ H fun x H1 => ∃ a, x = .ref a ∧ (((∃ xs, SqL K H1 a xs) ∧ R (Itl K a) H1) ∨ ((∃ xs, SqT K H1 a xs) ∧ R (Itt K a) H1))
theorem pi_seqA {X : Cx} {tg l : Expr} {tl : TE} (hl : PE X l tl) : PI X tg l (iSeqA X.K tl) := by
  constructor
  intro pins s σ H R I h
  refine thn (hl.run pins s σ H _ I h) ?_
  rintro v s1 ⟨x, H1, J, r1, a, e, q1⟩
  subst e
  cases r1
  have fp : ∀ b ∈ [s1.heap.objs.size], FpOk X pins H1 b := fun b hb => by
    rw [List.mem_singleton.mp hb]
    exact J.fpOk (Nat.le_refl _) (J.hok.fresh (Nat.le_refl _))
  rcases q1 with ⟨⟨xs, hq⟩, q⟩ | ⟨⟨xs, hq⟩, q⟩
  · obtain ⟨its, _, p, _⟩ := J.list hq
    exact wpAny_pyIter_list p.isList ⟨s1.heap.objs.size, _, _, _, H1, rfl, J.kept (t' := s1.toks) fun _ _ e => Heap.get?_push_of_some _ e, turn_list a _, ⟨_, Heap.get?_push_size _ rfl, rfl, rfl⟩, fp, q⟩
  · obtain ⟨its, _, p, _⟩ := J.tuple hq
    exact wpAny_pyIter_tuple (show s1.heap.IsTuple a its.toArray from p) ⟨s1.heap.objs.size, _, _, _, H1, rfl, J.kept (t' := s1.toks) fun _ _ e => Heap.get?_push_of_some _ e, turn_tuple a _, ⟨_, Heap.get?_push_size _ rfl, rfl, rfl⟩, fp, q⟩
end Own
end
def topS (i : Nat) : Stmt := PySem.Challenge.pw_polychains_k57_whole_papers_of_consisten.main.body.getD i (.Pass ⟨0, 0, 0, 0⟩)
abbrev s__wall : Stmt := topS 0
abbrev N__wall : List Str := ["k"]
theorem sc__wall : FnScope N__wall ["k"] (defScope s__wall) := ⟨rfl, rfl, rfl, by decide +kernel, rfl, by decide +kernel, by decide +kernel⟩
abbrev s_is_integer : Stmt := topS 7
abbrev N_is_integer : List Str := ["value"]
theorem sc_is_integer : FnScope N_is_integer ["value"] (defScope s_is_integer) := ⟨rfl, rfl, rfl, by decide +kernel, rfl, by decide +kernel, by decide +kernel⟩
abbrev s_is_small_prime : Stmt := topS 8
abbrev N_is_small_prime : List Str := ["value"]
theorem sc_is_small_prime : FnScope N_is_small_prime ["value"] (defScope s_is_small_prime) := ⟨rfl, rfl, rfl, by decide +kernel, rfl, by decide +kernel, by decide +kernel⟩
abbrev s__last_place : Stmt := topS 11
abbrev N__last_place : List Str := ["row", "at"]
theorem sc__last_place : FnScope N__last_place ["row"] (defScope s__last_place) := ⟨rfl, rfl, rfl, by decide +kernel, rfl, by decide +kernel, by decide +kernel⟩
abbrev s__overlaps_of_three : Stmt := topS 12
abbrev N__overlaps_of_three : List Str := ["presentation", "n", "found", "i", "j", "moved_j", "k", "moved_k"]
theorem sc__overlaps_of_three : FnScope N__overlaps_of_three ["presentation"] (defScope s__overlaps_of_three) := ⟨rfl, rfl, rfl, by decide +kernel, rfl, by decide +kernel, by decide +kernel⟩
abbrev s__overlaps_of_later_power : Stmt := topS 13
abbrev N__overlaps_of_later_power : List Str := ["presentation", "i", "j", "many", "power", "moved"]
theorem sc__overlaps_of_later_power : FnScope N__overlaps_of_later_power ["presentation", "i", "j"] (defScope s__overlaps_of_later_power) := ⟨rfl, rfl, rfl, by decide +kernel, rfl, by decide +kernel, by decide +kernel⟩
abbrev s__overlaps_of_earlier_power : Stmt := topS 14
abbrev N__overlaps_of_earlier_power : List Str := ["presentation", "i", "j", "many", "power", "moved"]
theorem sc__overlaps_of_earlier_power : FnScope N__overlaps_of_earlier_power ["presentation", "i", "j"] (defScope s__overlaps_of_earlier_power) := ⟨rfl, rfl, rfl, by decide +kernel, rfl, by decide +kernel, by decide +kernel⟩
abbrev s__overlap_of_power : Stmt := topS 15
abbrev N__overlap_of_power : List Str := ["presentation", "i", "power"]
theorem sc__overlap_of_power : FnScope N__overlap_of_power ["presentation", "i"] (defScope s__overlap_of_power) := ⟨rfl, rfl, rfl, by decide +kernel, rfl, by decide +kernel, by decide +kernel⟩
abbrev s_overlaps : Stmt := topS 16
abbrev N_overlaps : List Str := ["presentation", "n", "pairs", "found", "i", "j"]
theorem sc_overlaps : FnScope N_overlaps ["presentation"] (defScope s_overlaps) := ⟨rfl, rfl, rfl, by decide +kernel, rfl, by decide +kernel, by decide +kernel⟩
abbrev s_failing_overlap : Stmt := topS 17
abbrev N_failing_overlap : List Str := ["presentation", "collector", "empty", "word", "one", "two"]
theorem sc_failing_overlap : FnScope N_failing_overlap ["presentation"] (defScope s_failing_overlap) := ⟨rfl, rfl, rfl, by decide +kernel, rfl, by decide +kernel, by decide +kernel⟩
abbrev s__has_kind : Stmt := topS 19
abbrev N__has_kind : List Str := ["paper", "kind"]
theorem sc__has_kind : FnScope N__has_kind ["paper", "kind"] (defScope s__has_kind) := ⟨rfl, rfl, rfl, by decide +kernel, rfl, by decide +kernel, by decide +kernel⟩
abbrev s__are_letters : Stmt := topS 20
abbrev N__are_letters : List Str := ["value", "letter"]
theorem sc__are_letters : FnScope N__are_letters ["value"] (defScope s__are_letters) := ⟨rfl, rfl, rfl, by decide +kernel, rfl, by decide +kernel, by decide +kernel⟩
abbrev s_takes_consistent : Stmt := topS 21
abbrev N_takes_consistent : List Str := ["presentation", "paper", "full", "collector", "empty", "failing", "word", "one", "two"]
theorem sc_takes_consistent : FnScope N_takes_consistent ["presentation", "paper"] (defScope s_takes_consistent) := ⟨rfl, rfl, rfl, by decide +kernel, rfl, by decide +kernel, by decide +kernel⟩
abbrev s__is_row : Stmt := topS 25
abbrev N__is_row : List Str := ["value", "primes", "item", "p"]
theorem sc__is_row : FnScope N__is_row ["value", "primes"] (defScope s__is_row) := ⟨rfl, rfl, rfl, by decide +kernel, rfl, by decide +kernel, by decide +kernel⟩
abbrev s__is_right_side : Stmt := topS 26
abbrev N__is_right_side : List Str := ["value", "primes", "i"]
theorem sc__is_right_side : FnScope N__is_right_side ["value", "primes", "i"] (defScope s__is_right_side) := ⟨rfl, rfl, rfl, by decide +kernel, rfl, by decide +kernel, by decide +kernel⟩
abbrev s__are_right_sides : Stmt := topS 27
abbrev N__are_right_sides : List Str := ["value", "many", "primes", "i", "row"]
theorem sc__are_right_sides : FnScope N__are_right_sides ["value", "many", "primes", "i"] (defScope s__are_right_sides) := ⟨rfl, rfl, rfl, by decide +kernel, rfl, by decide +kernel, by decide +kernel⟩
abbrev s__are_primes : Stmt := topS 28
abbrev N__are_primes : List Str := ["value", "p"]
theorem sc__are_primes : FnScope N__are_primes ["value"] (defScope s__are_primes) := ⟨rfl, rfl, rfl, by decide +kernel, rfl, by decide +kernel, by decide +kernel⟩
abbrev s__are_powers : Stmt := topS 29
abbrev N__are_powers : List Str := ["value", "primes", "i", "row"]
theorem sc__are_powers : FnScope N__are_powers ["value", "primes"] (defScope s__are_powers) := ⟨rfl, rfl, rfl, by decide +kernel, rfl, by decide +kernel, by decide +kernel⟩
abbrev s__are_conjugates : Stmt := topS 30
abbrev N__are_conjugates : List Str := ["value", "primes", "n", "i", "rows"]
theorem sc__are_conjugates : FnScope N__are_conjugates ["value", "primes"] (defScope s__are_conjugates) := ⟨rfl, rfl, rfl, by decide +kernel, rfl, by decide +kernel, by decide +kernel⟩
abbrev s__order_of : Stmt := topS 31
abbrev N__order_of : List Str := ["primes", "order", "p"]
theorem sc__order_of : FnScope N__order_of ["primes"] (defScope s__order_of) := ⟨rfl, rfl, rfl, by decide +kernel, rfl, by decide +kernel, by decide +kernel⟩
abbrev s__row_text : Stmt := topS 32
abbrev N__row_text : List Str := ["row", "item"]
theorem sc__row_text : FnScope N__row_text ["row"] (defScope s__row_text) := ⟨rfl, rfl, rfl, by decide +kernel, rfl, by decide +kernel, by decide +kernel⟩
abbrev s__right_sides : Stmt := topS 34
abbrev N__right_sides : List Str := ["presentation", "found", "power", "rows"]
theorem sc__right_sides : FnScope N__right_sides ["presentation"] (defScope s__right_sides) := ⟨rfl, rfl, rfl, by decide +kernel, rfl, by decide +kernel, by decide +kernel⟩
abbrev s_consistency_paper : Stmt := topS 36
abbrev N_consistency_paper : List Str := ["presentation", "word"]
theorem sc_consistency_paper : FnScope N_consistency_paper ["presentation"] (defScope s_consistency_paper) := ⟨rfl, rfl, rfl, by decide +kernel, rfl, by decide +kernel, by decide +kernel⟩
abbrev s__law_state : Stmt := topS 38
abbrev N__law_state : List Str := ["script", "seed", "total", "cell"]
theorem sc__law_state : FnScope N__law_state ["script"] (defScope s__law_state) := ⟨rfl, rfl, rfl, by decide +kernel, rfl, by decide +kernel, by decide +kernel⟩
abbrev s__law_take : Stmt := topS 39
abbrev N__law_take : List Str := ["state", "m", "value"]
theorem sc__law_take : FnScope N__law_take ["state", "m"] (defScope s__law_take) := ⟨rfl, rfl, rfl, by decide +kernel, rfl, by decide +kernel, by decide +kernel⟩
abbrev s__law_made : Stmt := topS 40
abbrev N__law_made : List Str := ["primes", "powers", "conjugates", "n", "i", "k", "own", "e", "j", "rows", "pairs", "row", "part"]
theorem sc__law_made : FnScope N__law_made ["primes", "powers", "conjugates"] (defScope s__law_made) := ⟨rfl, rfl, rfl, by decide +kernel, rfl, by decide +kernel, by decide +kernel⟩
abbrev s__law_size : Stmt := topS 41
abbrev N__law_size : List Str := ["table", "total", "p"]
theorem sc__law_size : FnScope N__law_size ["table"] (defScope s__law_size) := ⟨rfl, rfl, rfl, by decide +kernel, rfl, by decide +kernel, by decide +kernel⟩
abbrev s__law_steep : Stmt := topS 42
abbrev N__law_steep : List Str := ["state", "pick", "a", "b"]
theorem sc__law_steep : FnScope N__law_steep ["state", "pick"] (defScope s__law_steep) := ⟨rfl, rfl, rfl, by decide +kernel, rfl, by decide +kernel, by decide +kernel⟩
abbrev s__law_flat : Stmt := topS 43
abbrev N__law_flat : List Str := ["state", "pick", "k", "q", "p", "m", "i"]
theorem sc__law_flat : FnScope N__law_flat ["state"] (defScope s__law_flat) := ⟨rfl, rfl, rfl, by decide +kernel, rfl, by decide +kernel, by decide +kernel⟩
abbrev s__law_beside : Stmt := topS 44
abbrev N__law_beside : List Str := ["one", "two", "n", "m", "first", "last", "powers", "parts", "i", "more", "k", "j", "row", "part"]
theorem sc__law_beside : FnScope N__law_beside ["one", "two"] (defScope s__law_beside) := ⟨rfl, rfl, rfl, by decide +kernel, rfl, by decide +kernel, by decide +kernel⟩
abbrev s__law_step : Stmt := topS 45
abbrev N__law_step : List Str := ["table", "known", "row", "j", "key", "n", "place", "k", "found", "turn"]
theorem sc__law_step : FnScope N__law_step ["table", "known", "row", "j"] (defScope s__law_step) := ⟨rfl, rfl, rfl, by decide +kernel, rfl, by decide +kernel, by decide +kernel⟩
abbrev s__law_times : Stmt := topS 46
abbrev N__law_times : List Str := ["table", "known", "x", "y", "k", "turn"]
theorem sc__law_times : FnScope N__law_times ["table", "known", "x", "y"] (defScope s__law_times) := ⟨rfl, rfl, rfl, by decide +kernel, rfl, by decide +kernel, by decide +kernel⟩
abbrev s__law_inverse : Stmt := topS 47
abbrev N__law_inverse : List Str := ["table", "known", "x", "found", "k", "e", "turn"]
theorem sc__law_inverse : FnScope N__law_inverse ["table", "known", "x"] (defScope s__law_inverse) := ⟨rfl, rfl, rfl, by decide +kernel, rfl, by decide +kernel, by decide +kernel⟩
abbrev s__law_conjugated : Stmt := topS 48
abbrev N__law_conjugated : List Str := ["table", "known", "x", "y"]
theorem sc__law_conjugated : FnScope N__law_conjugated ["table", "known", "x", "y"] (defScope s__law_conjugated) := ⟨rfl, rfl, rfl, by decide +kernel, rfl, by decide +kernel, by decide +kernel⟩
abbrev s__law_generator : Stmt := topS 49
abbrev N__law_generator : List Str := ["n", "k", "i"]
theorem sc__law_generator : FnScope N__law_generator ["n", "k"] (defScope s__law_generator) := ⟨rfl, rfl, rfl, by decide +kernel, rfl, by decide +kernel, by decide +kernel⟩
abbrev s__law_new_row : Stmt := topS 50
abbrev N__law_new_row : List Str := ["table", "known", "x", "i", "own", "n", "tail", "turn", "k"]
theorem sc__law_new_row : FnScope N__law_new_row ["table", "known", "x", "i", "own"] (defScope s__law_new_row) := ⟨rfl, rfl, rfl, by decide +kernel, rfl, by decide +kernel, by decide +kernel⟩
abbrev s__law_twisted : Stmt := topS 51
abbrev N__law_twisted : List Str := ["state", "table", "n", "known", "i", "k", "own", "names", "powers", "parts", "found", "turn", "rows", "j"]
theorem sc__law_twisted : FnScope N__law_twisted ["state", "table"] (defScope s__law_twisted) := ⟨rfl, rfl, rfl, by decide +kernel, rfl, by decide +kernel, by decide +kernel⟩
abbrev s__law_group : Stmt := topS 52
abbrev N__law_group : List Str := ["state", "most", "table", "q", "turn"]
theorem sc__law_group : FnScope N__law_group ["state", "most"] (defScope s__law_group) := ⟨rfl, rfl, rfl, by decide +kernel, rfl, by decide +kernel, by decide +kernel⟩
abbrev s__law_bent : Stmt := topS 53
abbrev N__law_bent : List Str := ["state", "table", "n", "powers", "parts", "turn", "i", "k", "e", "at", "row", "part"]
theorem sc__law_bent : FnScope N__law_bent ["state", "table"] (defScope s__law_bent) := ⟨rfl, rfl, rfl, by decide +kernel, rfl, by decide +kernel, by decide +kernel⟩
abbrev s__law_letters : Stmt := topS 54
abbrev N__law_letters : List Str := ["row", "found", "k", "turn"]
theorem sc__law_letters : FnScope N__law_letters ["row"] (defScope s__law_letters) := ⟨rfl, rfl, rfl, by decide +kernel, rfl, by decide +kernel, by decide +kernel⟩
abbrev s__law_row_of : Stmt := topS 55
abbrev N__law_row_of : List Str := ["table", "known", "word", "found", "k", "p"]
theorem sc__law_row_of : FnScope N__law_row_of ["table", "known", "word"] (defScope s__law_row_of) := ⟨rfl, rfl, rfl, by decide +kernel, rfl, by decide +kernel, by decide +kernel⟩
abbrev s__law_overlaps : Stmt := topS 56
abbrev N__law_overlaps : List Str := ["table", "primes", "powers", "conjugates", "n", "found", "i", "j", "own", "k", "other", "many", "turn"]
theorem sc__law_overlaps : FnScope N__law_overlaps ["table"] (defScope s__law_overlaps) := ⟨rfl, rfl, rfl, by decide +kernel, rfl, by decide +kernel, by decide +kernel⟩
abbrev s_law : Stmt := topS 57
abbrev N_law : List Str := ["script", "state", "table", "presentation", "known", "words", "failing", "word", "one", "two", "due", "tries", "data", "k"]
theorem sc_law : FnScope N_law ["script"] (defScope s_law) := ⟨rfl, rfl, rfl, by decide +kernel, rfl, by decide +kernel, by decide +kernel⟩
abbrev s_Collector___init__ : Stmt := inClass (topS 10) 0
abbrev N_Collector___init__ : List Str := ["self", "presentation", "zeros", "i", "rows", "row"]
theorem sc_Collector___init__ : FnScope N_Collector___init__ ["self", "presentation"] (defScope s_Collector___init__) := ⟨rfl, rfl, rfl, by decide +kernel, rfl, by decide +kernel, by decide +kernel⟩
abbrev s_Collector_behind : Stmt := inClass (topS 10) 1
abbrev N_Collector_behind : List Str := ["self", "row", "word", "letter"]
theorem sc_Collector_behind : FnScope N_Collector_behind ["self", "row", "word"] (defScope s_Collector_behind) := ⟨rfl, rfl, rfl, by decide +kernel, rfl, by decide +kernel, by decide +kernel⟩
abbrev s_Collector__step : Stmt := inClass (topS 10) 2
abbrev N_Collector__step : List Str := ["self", "row", "j", "many", "moved"]
theorem sc_Collector__step : FnScope N_Collector__step ["self", "row", "j"] (defScope s_Collector__step) := ⟨rfl, rfl, rfl, by decide +kernel, rfl, by decide +kernel, by decide +kernel⟩
abbrev s_Collector__moved : Stmt := inClass (topS 10) 3
abbrev N_Collector__moved : List Str := ["self", "known", "j", "tail", "waiting", "before", "at", "row", "longer", "k"]
theorem sc_Collector__moved : FnScope N_Collector__moved ["self", "known", "j", "tail"] (defScope s_Collector__moved) := ⟨rfl, rfl, rfl, by decide +kernel, rfl, by decide +kernel, by decide +kernel⟩
abbrev s_Presentation___init__ : Stmt := inClass (topS 33) 0
abbrev N_Presentation___init__ : List Str := ["self", "primes", "powers", "conjugates"]
theorem sc_Presentation___init__ : FnScope N_Presentation___init__ ["self", "primes", "powers", "conjugates"] (defScope s_Presentation___init__) := ⟨rfl, rfl, rfl, by decide +kernel, rfl, by decide +kernel, by decide +kernel⟩
abbrev s_Presentation___eq__ : Stmt := inClass (topS 33) 1
abbrev N_Presentation___eq__ : List Str := ["self", "other"]
theorem sc_Presentation___eq__ : FnScope N_Presentation___eq__ ["self", "other"] (defScope s_Presentation___eq__) := ⟨rfl, rfl, rfl, by decide +kernel, rfl, by decide +kernel, by decide +kernel⟩
abbrev s_Presentation___str__ : Stmt := inClass (topS 33) 2
abbrev N_Presentation___str__ : List Str := ["self", "row"]
theorem sc_Presentation___str__ : FnScope N_Presentation___str__ ["self"] (defScope s_Presentation___str__) := ⟨rfl, rfl, rfl, by decide +kernel, rfl, by decide +kernel, by decide +kernel⟩
abbrev s_Presentation_is_row : Stmt := inClass (topS 33) 3
abbrev N_Presentation_is_row : List Str := ["self", "value"]
theorem sc_Presentation_is_row : FnScope N_Presentation_is_row ["self", "value"] (defScope s_Presentation_is_row) := ⟨rfl, rfl, rfl, by decide +kernel, rfl, by decide +kernel, by decide +kernel⟩
abbrev s_Presentation_conjugate_row : Stmt := inClass (topS 33) 4
abbrev N_Presentation_conjugate_row : List Str := ["self", "i", "j"]
theorem sc_Presentation_conjugate_row : FnScope N_Presentation_conjugate_row ["self", "i", "j"] (defScope s_Presentation_conjugate_row) := ⟨rfl, rfl, rfl, by decide +kernel, rfl, by decide +kernel, by decide +kernel⟩
abbrev s_Presentation_letters : Stmt := inClass (topS 33) 5
abbrev N_Presentation_letters : List Str := ["self", "row", "at", "item", "_"]
theorem sc_Presentation_letters : FnScope N_Presentation_letters ["self", "row"] (defScope s_Presentation_letters) := ⟨rfl, rfl, rfl, by decide +kernel, rfl, by decide +kernel, by decide +kernel⟩
structure Txt (K : PySem.W.Frag) (mg : Str → Option Value) where
  a__wall : Addr
  d__wall : FuncData
  F__wall : Fun K "_wall" "_wall" s__wall a__wall d__wall
  g__wall : mg "_wall" = some (.ref a__wall)
  b__wall : Binds K d__wall ["k"] []
  a_is_integer : Addr
  d_is_integer : FuncData
  F_is_integer : Fun K "is_integer" "is_integer" s_is_integer a_is_integer d_is_integer
  g_is_integer : mg "is_integer" = some (.ref a_is_integer)
  b_is_integer : Binds K d_is_integer ["value"] []
  a_is_small_prime : Addr
  d_is_small_prime : FuncData
  F_is_small_prime : Fun K "is_small_prime" "is_small_prime" s_is_small_prime a_is_small_prime d_is_small_prime
  g_is_small_prime : mg "is_small_prime" = some (.ref a_is_small_prime)
  b_is_small_prime : Binds K d_is_small_prime ["value"] []
  a__last_place : Addr
  d__last_place : FuncData
  F__last_place : Fun K "_last_place" "_last_place" s__last_place a__last_place d__last_place
  g__last_place : mg "_last_place" = some (.ref a__last_place)
  b__last_place : Binds K d__last_place ["row"] []
  a__overlaps_of_three : Addr
  d__overlaps_of_three : FuncData
  F__overlaps_of_three : Fun K "_overlaps_of_three" "_overlaps_of_three" s__overlaps_of_three a__overlaps_of_three d__overlaps_of_three
  g__overlaps_of_three : mg "_overlaps_of_three" = some (.ref a__overlaps_of_three)
  b__overlaps_of_three : Binds K d__overlaps_of_three ["presentation"] []
  a__overlaps_of_later_power : Addr
  d__overlaps_of_later_power : FuncData
  F__overlaps_of_later_power : Fun K "_overlaps_of_later_power" "_overlaps_of_later_power" s__overlaps_of_later_power a__overlaps_of_later_power d__overlaps_of_later_power
  g__overlaps_of_later_power : mg "_overlaps_of_later_power" = some (.ref a__overlaps_of_later_power)
  b__overlaps_of_later_power : Binds K d__overlaps_of_later_power ["presentation", "i", "j"] []
  a__overlaps_of_earlier_power : Addr
  d__overlaps_of_earlier_power : FuncData
  F__overlaps_of_earlier_power : Fun K "_overlaps_of_earlier_power" "_overlaps_of_earlier_power" s__overlaps_of_earlier_power a__overlaps_of_earlier_power d__overlaps_of_earlier_power
  g__overlaps_of_earlier_power : mg "_overlaps_of_earlier_power" = some (.ref a__overlaps_of_earlier_power)
  b__overlaps_of_earlier_power : Binds K d__overlaps_of_earlier_power ["presentation", "i", "j"] []
  a__overlap_of_power : Addr
  d__overlap_of_power : FuncData
  F__overlap_of_power : Fun K "_overlap_of_power" "_overlap_of_power" s__overlap_of_power a__overlap_of_power d__overlap_of_power
  g__overlap_of_power : mg "_overlap_of_power" = some (.ref a__overlap_of_power)
  b__overlap_of_power : Binds K d__overlap_of_power ["presentation", "i"] []
  a_overlaps : Addr
  d_overlaps : FuncData
  F_overlaps : Fun K "overlaps" "overlaps" s_overlaps a_overlaps d_overlaps
  g_overlaps : mg "overlaps" = some (.ref a_overlaps)
  b_overlaps : Binds K d_overlaps ["presentation"] []
  a_failing_overlap : Addr
  d_failing_overlap : FuncData
  F_failing_overlap : Fun K "failing_overlap" "failing_overlap" s_failing_overlap a_failing_overlap d_failing_overlap
  g_failing_overlap : mg "failing_overlap" = some (.ref a_failing_overlap)
  b_failing_overlap : Binds K d_failing_overlap ["presentation"] []
  a__has_kind : Addr
  d__has_kind : FuncData
  F__has_kind : Fun K "_has_kind" "_has_kind" s__has_kind a__has_kind d__has_kind
  g__has_kind : mg "_has_kind" = some (.ref a__has_kind)
  b__has_kind : Binds K d__has_kind ["paper", "kind"] []
  a__are_letters : Addr
  d__are_letters : FuncData
  F__are_letters : Fun K "_are_letters" "_are_letters" s__are_letters a__are_letters d__are_letters
  g__are_letters : mg "_are_letters" = some (.ref a__are_letters)
  b__are_letters : Binds K d__are_letters ["value"] []
  a_takes_consistent : Addr
  d_takes_consistent : FuncData
  F_takes_consistent : Fun K "takes_consistent" "takes_consistent" s_takes_consistent a_takes_consistent d_takes_consistent
  g_takes_consistent : mg "takes_consistent" = some (.ref a_takes_consistent)
  b_takes_consistent : Binds K d_takes_consistent ["presentation", "paper"] []
  a__is_row : Addr
  d__is_row : FuncData
  F__is_row : Fun K "_is_row" "_is_row" s__is_row a__is_row d__is_row
  g__is_row : mg "_is_row" = some (.ref a__is_row)
  b__is_row : Binds K d__is_row ["value", "primes"] []
  a__is_right_side : Addr
  d__is_right_side : FuncData
  F__is_right_side : Fun K "_is_right_side" "_is_right_side" s__is_right_side a__is_right_side d__is_right_side
  g__is_right_side : mg "_is_right_side" = some (.ref a__is_right_side)
  b__is_right_side : Binds K d__is_right_side ["value", "primes", "i"] []
  a__are_right_sides : Addr
  d__are_right_sides : FuncData
  F__are_right_sides : Fun K "_are_right_sides" "_are_right_sides" s__are_right_sides a__are_right_sides d__are_right_sides
  g__are_right_sides : mg "_are_right_sides" = some (.ref a__are_right_sides)
  b__are_right_sides : Binds K d__are_right_sides ["value", "many", "primes", "i"] []
  a__are_primes : Addr
  d__are_primes : FuncData
  F__are_primes : Fun K "_are_primes" "_are_primes" s__are_primes a__are_primes d__are_primes
  g__are_primes : mg "_are_primes" = some (.ref a__are_primes)
  b__are_primes : Binds K d__are_primes ["value"] []
  a__are_powers : Addr
  d__are_powers : FuncData
  F__are_powers : Fun K "_are_powers" "_are_powers" s__are_powers a__are_powers d__are_powers
  g__are_powers : mg "_are_powers" = some (.ref a__are_powers)
  b__are_powers : Binds K d__are_powers ["value", "primes"] []
  a__are_conjugates : Addr
  d__are_conjugates : FuncData
  F__are_conjugates : Fun K "_are_conjugates" "_are_conjugates" s__are_conjugates a__are_conjugates d__are_conjugates
  g__are_conjugates : mg "_are_conjugates" = some (.ref a__are_conjugates)
  b__are_conjugates : Binds K d__are_conjugates ["value", "primes"] []
  a__order_of : Addr
  d__order_of : FuncData
  F__order_of : Fun K "_order_of" "_order_of" s__order_of a__order_of d__order_of
  g__order_of : mg "_order_of" = some (.ref a__order_of)
  b__order_of : Binds K d__order_of ["primes"] []
  a__row_text : Addr
  d__row_text : FuncData
  F__row_text : Fun K "_row_text" "_row_text" s__row_text a__row_text d__row_text
  g__row_text : mg "_row_text" = some (.ref a__row_text)
  b__row_text : Binds K d__row_text ["row"] []
  a__right_sides : Addr
  d__right_sides : FuncData
  F__right_sides : Fun K "_right_sides" "_right_sides" s__right_sides a__right_sides d__right_sides
  g__right_sides : mg "_right_sides" = some (.ref a__right_sides)
  b__right_sides : Binds K d__right_sides ["presentation"] []
  a_consistency_paper : Addr
  d_consistency_paper : FuncData
  F_consistency_paper : Fun K "consistency_paper" "consistency_paper" s_consistency_paper a_consistency_paper d_consistency_paper
  g_consistency_paper : mg "consistency_paper" = some (.ref a_consistency_paper)
  b_consistency_paper : Binds K d_consistency_paper ["presentation"] []
  a__law_state : Addr
  d__law_state : FuncData
  F__law_state : Fun K "_law_state" "_law_state" s__law_state a__law_state d__law_state
  g__law_state : mg "_law_state" = some (.ref a__law_state)
  b__law_state : Binds K d__law_state ["script"] []
  a__law_take : Addr
  d__law_take : FuncData
  F__law_take : Fun K "_law_take" "_law_take" s__law_take a__law_take d__law_take
  g__law_take : mg "_law_take" = some (.ref a__law_take)
  b__law_take : Binds K d__law_take ["state", "m"] []
  a__law_made : Addr
  d__law_made : FuncData
  F__law_made : Fun K "_law_made" "_law_made" s__law_made a__law_made d__law_made
  g__law_made : mg "_law_made" = some (.ref a__law_made)
  b__law_made : Binds K d__law_made ["primes", "powers", "conjugates"] []
  a__law_size : Addr
  d__law_size : FuncData
  F__law_size : Fun K "_law_size" "_law_size" s__law_size a__law_size d__law_size
  g__law_size : mg "_law_size" = some (.ref a__law_size)
  b__law_size : Binds K d__law_size ["table"] []
  a__law_steep : Addr
  d__law_steep : FuncData
  F__law_steep : Fun K "_law_steep" "_law_steep" s__law_steep a__law_steep d__law_steep
  g__law_steep : mg "_law_steep" = some (.ref a__law_steep)
  b__law_steep : Binds K d__law_steep ["state", "pick"] []
  a__law_flat : Addr
  d__law_flat : FuncData
  F__law_flat : Fun K "_law_flat" "_law_flat" s__law_flat a__law_flat d__law_flat
  g__law_flat : mg "_law_flat" = some (.ref a__law_flat)
  b__law_flat : Binds K d__law_flat ["state"] []
  a__law_beside : Addr
  d__law_beside : FuncData
  F__law_beside : Fun K "_law_beside" "_law_beside" s__law_beside a__law_beside d__law_beside
  g__law_beside : mg "_law_beside" = some (.ref a__law_beside)
  b__law_beside : Binds K d__law_beside ["one", "two"] []
  a__law_step : Addr
  d__law_step : FuncData
  F__law_step : Fun K "_law_step" "_law_step" s__law_step a__law_step d__law_step
  g__law_step : mg "_law_step" = some (.ref a__law_step)
  b__law_step : Binds K d__law_step ["table", "known", "row", "j"] []
  a__law_times : Addr
  d__law_times : FuncData
  F__law_times : Fun K "_law_times" "_law_times" s__law_times a__law_times d__law_times
  g__law_times : mg "_law_times" = some (.ref a__law_times)
  b__law_times : Binds K d__law_times ["table", "known", "x", "y"] []
  a__law_inverse : Addr
  d__law_inverse : FuncData
  F__law_inverse : Fun K "_law_inverse" "_law_inverse" s__law_inverse a__law_inverse d__law_inverse
  g__law_inverse : mg "_law_inverse" = some (.ref a__law_inverse)
  b__law_inverse : Binds K d__law_inverse ["table", "known", "x"] []
  a__law_conjugated : Addr
  d__law_conjugated : FuncData
  F__law_conjugated : Fun K "_law_conjugated" "_law_conjugated" s__law_conjugated a__law_conjugated d__law_conjugated
  g__law_conjugated : mg "_law_conjugated" = some (.ref a__law_conjugated)
  b__law_conjugated : Binds K d__law_conjugated ["table", "known", "x", "y"] []
  a__law_generator : Addr
  d__law_generator : FuncData
  F__law_generator : Fun K "_law_generator" "_law_generator" s__law_generator a__law_generator d__law_generator
  g__law_generator : mg "_law_generator" = some (.ref a__law_generator)
  b__law_generator : Binds K d__law_generator ["n", "k"] []
  a__law_new_row : Addr
  d__law_new_row : FuncData
  F__law_new_row : Fun K "_law_new_row" "_law_new_row" s__law_new_row a__law_new_row d__law_new_row
  g__law_new_row : mg "_law_new_row" = some (.ref a__law_new_row)
  b__law_new_row : Binds K d__law_new_row ["table", "known", "x", "i", "own"] []
  a__law_twisted : Addr
  d__law_twisted : FuncData
  F__law_twisted : Fun K "_law_twisted" "_law_twisted" s__law_twisted a__law_twisted d__law_twisted
  g__law_twisted : mg "_law_twisted" = some (.ref a__law_twisted)
  b__law_twisted : Binds K d__law_twisted ["state", "table"] []
  a__law_group : Addr
  d__law_group : FuncData
  F__law_group : Fun K "_law_group" "_law_group" s__law_group a__law_group d__law_group
  g__law_group : mg "_law_group" = some (.ref a__law_group)
  b__law_group : Binds K d__law_group ["state", "most"] []
  a__law_bent : Addr
  d__law_bent : FuncData
  F__law_bent : Fun K "_law_bent" "_law_bent" s__law_bent a__law_bent d__law_bent
  g__law_bent : mg "_law_bent" = some (.ref a__law_bent)
  b__law_bent : Binds K d__law_bent ["state", "table"] []
  a__law_letters : Addr
  d__law_letters : FuncData
  F__law_letters : Fun K "_law_letters" "_law_letters" s__law_letters a__law_letters d__law_letters
  g__law_letters : mg "_law_letters" = some (.ref a__law_letters)
  b__law_letters : Binds K d__law_letters ["row"] []
  a__law_row_of : Addr
  d__law_row_of : FuncData
  F__law_row_of : Fun K "_law_row_of" "_law_row_of" s__law_row_of a__law_row_of d__law_row_of
  g__law_row_of : mg "_law_row_of" = some (.ref a__law_row_of)
  b__law_row_of : Binds K d__law_row_of ["table", "known", "word"] []
  a__law_overlaps : Addr
  d__law_overlaps : FuncData
  F__law_overlaps : Fun K "_law_overlaps" "_law_overlaps" s__law_overlaps a__law_overlaps d__law_overlaps
  g__law_overlaps : mg "_law_overlaps" = some (.ref a__law_overlaps)
  b__law_overlaps : Binds K d__law_overlaps ["table"] []
  a_law : Addr
  d_law : FuncData
  F_law : Fun K "law" "law" s_law a_law d_law
  g_law : mg "law" = some (.ref a_law)
  b_law : Binds K d_law ["script"] []
  n_isinstance : mg "isinstance" = none
  n_int : mg "int" = none
  n_bool : mg "bool" = none
  n_len : mg "len" = none
  n_range : mg "range" = none
  n_tuple : mg "tuple" = none
  n_all : mg "all" = none
  n_zip : mg "zip" = none
  n_any : mg "any" = none
  n_enumerate : mg "enumerate" = none
  n_str : mg "str" = none
  n_abs : mg "abs" = none
  n_list : mg "list" = none
  n_reversed : mg "reversed" = none
  q_SMALL_PRIMES : Addr
  g_SMALL_PRIMES : mg "SMALL_PRIMES" = some (.ref q_SMALL_PRIMES)
  t_SMALL : ∀ H : Hp, SqT K H q_SMALL_PRIMES ([2, 3, 5, 7, 11, 13, 17, 19, 23, 29, 31].map V.int)
  v_MOST_GENERATORS : Value
  g_MOST_GENERATORS : mg "MOST_GENERATORS" = some v_MOST_GENERATORS
  r_MOST_GENERATORS : RelV (.int 10) v_MOST_GENERATORS
  v_MOST_ORDER : Value
  g_MOST_ORDER : mg "MOST_ORDER" = some v_MOST_ORDER
  r_MOST_ORDER : RelV (.int 1024) v_MOST_ORDER
def txt_mk {K : PySem.W.Frag} {h : Heap} {mg : Str → Option Value} (X : K.In h) (G : h.Ns mainGlobals mg)
    {f__wall : Addr} {od__wall an__wall : Option Addr} {sl__wall : Array (Option Value)} {oc__wall kV__wall dc__wall pm__wall cd__wall ct__wall : Value}
    (a__wall : PySem.W.nsIn K mainGlobals "_wall" = some (some (.ref f__wall))) (l__wall : K.lookup f__wall = some ⟨oc__wall, od__wall, .func (PySem.W.fnOf "_wall" "_wall" (defArgs s__wall) (defBody s__wall) (defScope s__wall) .none kV__wall dc__wall pm__wall an__wall cd__wall ct__wall), sl__wall⟩)
    (c__wall : PySem.W.codeIn K cd__wall "_wall" = true) (k__wall : PySem.W.keepIn K (.ref f__wall) = true)
    {f_is_integer : Addr} {od_is_integer an_is_integer : Option Addr} {sl_is_integer : Array (Option Value)} {oc_is_integer kV_is_integer dc_is_integer pm_is_integer cd_is_integer ct_is_integer : Value}
    (a_is_integer : PySem.W.nsIn K mainGlobals "is_integer" = some (some (.ref f_is_integer))) (l_is_integer : K.lookup f_is_integer = some ⟨oc_is_integer, od_is_integer, .func (PySem.W.fnOf "is_integer" "is_integer" (defArgs s_is_integer) (defBody s_is_integer) (defScope s_is_integer) .none kV_is_integer dc_is_integer pm_is_integer an_is_integer cd_is_integer ct_is_integer), sl_is_integer⟩)
    (c_is_integer : PySem.W.codeIn K cd_is_integer "is_integer" = true) (k_is_integer : PySem.W.keepIn K (.ref f_is_integer) = true)
    {f_is_small_prime : Addr} {od_is_small_prime an_is_small_prime : Option Addr} {sl_is_small_prime : Array (Option Value)} {oc_is_small_prime kV_is_small_prime dc_is_small_prime pm_is_small_prime cd_is_small_prime ct_is_small_prime : Value}
    (a_is_small_prime : PySem.W.nsIn K mainGlobals "is_small_prime" = some (some (.ref f_is_small_prime))) (l_is_small_prime : K.lookup f_is_small_prime = some ⟨oc_is_small_prime, od_is_small_prime, .func (PySem.W.fnOf "is_small_prime" "is_small_prime" (defArgs s_is_small_prime) (defBody s_is_small_prime) (defScope s_is_small_prime) .none kV_is_small_prime dc_is_small_prime pm_is_small_prime an_is_small_prime cd_is_small_prime ct_is_small_prime), sl_is_small_prime⟩)
    (c_is_small_prime : PySem.W.codeIn K cd_is_small_prime "is_small_prime" = true) (k_is_small_prime : PySem.W.keepIn K (.ref f_is_small_prime) = true)
    {f__last_place : Addr} {od__last_place an__last_place : Option Addr} {sl__last_place : Array (Option Value)} {oc__last_place kV__last_place dc__last_place pm__last_place cd__last_place ct__last_place : Value}
    (a__last_place : PySem.W.nsIn K mainGlobals "_last_place" = some (some (.ref f__last_place))) (l__last_place : K.lookup f__last_place = some ⟨oc__last_place, od__last_place, .func (PySem.W.fnOf "_last_place" "_last_place" (defArgs s__last_place) (defBody s__last_place) (defScope s__last_place) .none kV__last_place dc__last_place pm__last_place an__last_place cd__last_place ct__last_place), sl__last_place⟩)
    (c__last_place : PySem.W.codeIn K cd__last_place "_last_place" = true) (k__last_place : PySem.W.keepIn K (.ref f__last_place) = true)
    {f__overlaps_of_three : Addr} {od__overlaps_of_three an__overlaps_of_three : Option Addr} {sl__overlaps_of_three : Array (Option Value)} {oc__overlaps_of_three kV__overlaps_of_three dc__overlaps_of_three pm__overlaps_of_three cd__overlaps_of_three ct__overlaps_of_three : Value}
    (a__overlaps_of_three : PySem.W.nsIn K mainGlobals "_overlaps_of_three" = some (some (.ref f__overlaps_of_three))) (l__overlaps_of_three : K.lookup f__overlaps_of_three = some ⟨oc__overlaps_of_three, od__overlaps_of_three, .func (PySem.W.fnOf "_overlaps_of_three" "_overlaps_of_three" (defArgs s__overlaps_of_three) (defBody s__overlaps_of_three) (defScope s__overlaps_of_three) .none kV__overlaps_of_three dc__overlaps_of_three pm__overlaps_of_three an__overlaps_of_three cd__overlaps_of_three ct__overlaps_of_three), sl__overlaps_of_three⟩)
    (c__overlaps_of_three : PySem.W.codeIn K cd__overlaps_of_three "_overlaps_of_three" = true) (k__overlaps_of_three : PySem.W.keepIn K (.ref f__overlaps_of_three) = true)
    {f__overlaps_of_later_power : Addr} {od__overlaps_of_later_power an__overlaps_of_later_power : Option Addr} {sl__overlaps_of_later_power : Array (Option Value)} {oc__overlaps_of_later_power kV__overlaps_of_later_power dc__overlaps_of_later_power pm__overlaps_of_later_power cd__overlaps_of_later_power ct__overlaps_of_later_power : Value}
    (a__overlaps_of_later_power : PySem.W.nsIn K mainGlobals "_overlaps_of_later_power" = some (some (.ref f__overlaps_of_later_power))) (l__overlaps_of_later_power : K.lookup f__overlaps_of_later_power = some ⟨oc__overlaps_of_later_power, od__overlaps_of_later_power, .func (PySem.W.fnOf "_overlaps_of_later_power" "_overlaps_of_later_power" (defArgs s__overlaps_of_later_power) (defBody s__overlaps_of_later_power) (defScope s__overlaps_of_later_power) .none kV__overlaps_of_later_power dc__overlaps_of_later_power pm__overlaps_of_later_power an__overlaps_of_later_power cd__overlaps_of_later_power ct__overlaps_of_later_power), sl__overlaps_of_later_power⟩)
    (c__overlaps_of_later_power : PySem.W.codeIn K cd__overlaps_of_later_power "_overlaps_of_later_power" = true) (k__overlaps_of_later_power : PySem.W.keepIn K (.ref f__overlaps_of_later_power) = true)
    {f__overlaps_of_earlier_power : Addr} {od__overlaps_of_earlier_power an__overlaps_of_earlier_power : Option Addr} {sl__overlaps_of_earlier_power : Array (Option Value)} {oc__overlaps_of_earlier_power kV__overlaps_of_earlier_power dc__overlaps_of_earlier_power pm__overlaps_of_earlier_power cd__overlaps_of_earlier_power ct__overlaps_of_earlier_power : Value}
    (a__overlaps_of_earlier_power : PySem.W.nsIn K mainGlobals "_overlaps_of_earlier_power" = some (some (.ref f__overlaps_of_earlier_power))) (l__overlaps_of_earlier_power : K.lookup f__overlaps_of_earlier_power = some ⟨oc__overlaps_of_earlier_power, od__overlaps_of_earlier_power, .func (PySem.W.fnOf "_overlaps_of_earlier_power" "_overlaps_of_earlier_power" (defArgs s__overlaps_of_earlier_power) (defBody s__overlaps_of_earlier_power) (defScope s__overlaps_of_earlier_power) .none kV__overlaps_of_earlier_power dc__overlaps_of_earlier_power pm__overlaps_of_earlier_power an__overlaps_of_earlier_power cd__overlaps_of_earlier_power ct__overlaps_of_earlier_power), sl__overlaps_of_earlier_power⟩)
    (c__overlaps_of_earlier_power : PySem.W.codeIn K cd__overlaps_of_earlier_power "_overlaps_of_earlier_power" = true) (k__overlaps_of_earlier_power : PySem.W.keepIn K (.ref f__overlaps_of_earlier_power) = true)
    {f__overlap_of_power : Addr} {od__overlap_of_power an__overlap_of_power : Option Addr} {sl__overlap_of_power : Array (Option Value)} {oc__overlap_of_power kV__overlap_of_power dc__overlap_of_power pm__overlap_of_power cd__overlap_of_power ct__overlap_of_power : Value}
    (a__overlap_of_power : PySem.W.nsIn K mainGlobals "_overlap_of_power" = some (some (.ref f__overlap_of_power))) (l__overlap_of_power : K.lookup f__overlap_of_power = some ⟨oc__overlap_of_power, od__overlap_of_power, .func (PySem.W.fnOf "_overlap_of_power" "_overlap_of_power" (defArgs s__overlap_of_power) (defBody s__overlap_of_power) (defScope s__overlap_of_power) .none kV__overlap_of_power dc__overlap_of_power pm__overlap_of_power an__overlap_of_power cd__overlap_of_power ct__overlap_of_power), sl__overlap_of_power⟩)
    (c__overlap_of_power : PySem.W.codeIn K cd__overlap_of_power "_overlap_of_power" = true) (k__overlap_of_power : PySem.W.keepIn K (.ref f__overlap_of_power) = true)
    {f_overlaps : Addr} {od_overlaps an_overlaps : Option Addr} {sl_overlaps : Array (Option Value)} {oc_overlaps kV_overlaps dc_overlaps pm_overlaps cd_overlaps ct_overlaps : Value}
    (a_overlaps : PySem.W.nsIn K mainGlobals "overlaps" = some (some (.ref f_overlaps))) (l_overlaps : K.lookup f_overlaps = some ⟨oc_overlaps, od_overlaps, .func (PySem.W.fnOf "overlaps" "overlaps" (defArgs s_overlaps) (defBody s_overlaps) (defScope s_overlaps) .none kV_overlaps dc_overlaps pm_overlaps an_overlaps cd_overlaps ct_overlaps), sl_overlaps⟩)
    (c_overlaps : PySem.W.codeIn K cd_overlaps "overlaps" = true) (k_overlaps : PySem.W.keepIn K (.ref f_overlaps) = true)
    {f_failing_overlap : Addr} {od_failing_overlap an_failing_overlap : Option Addr} {sl_failing_overlap : Array (Option Value)} {oc_failing_overlap kV_failing_overlap dc_failing_overlap pm_failing_overlap cd_failing_overlap ct_failing_overlap : Value}
    (a_failing_overlap : PySem.W.nsIn K mainGlobals "failing_overlap" = some (some (.ref f_failing_overlap))) (l_failing_overlap : K.lookup f_failing_overlap = some ⟨oc_failing_overlap, od_failing_overlap, .func (PySem.W.fnOf "failing_overlap" "failing_overlap" (defArgs s_failing_overlap) (defBody s_failing_overlap) (defScope s_failing_overlap) .none kV_failing_overlap dc_failing_overlap pm_failing_overlap an_failing_overlap cd_failing_overlap ct_failing_overlap), sl_failing_overlap⟩)
    (c_failing_overlap : PySem.W.codeIn K cd_failing_overlap "failing_overlap" = true) (k_failing_overlap : PySem.W.keepIn K (.ref f_failing_overlap) = true)
    {f__has_kind : Addr} {od__has_kind an__has_kind : Option Addr} {sl__has_kind : Array (Option Value)} {oc__has_kind kV__has_kind dc__has_kind pm__has_kind cd__has_kind ct__has_kind : Value}
    (a__has_kind : PySem.W.nsIn K mainGlobals "_has_kind" = some (some (.ref f__has_kind))) (l__has_kind : K.lookup f__has_kind = some ⟨oc__has_kind, od__has_kind, .func (PySem.W.fnOf "_has_kind" "_has_kind" (defArgs s__has_kind) (defBody s__has_kind) (defScope s__has_kind) .none kV__has_kind dc__has_kind pm__has_kind an__has_kind cd__has_kind ct__has_kind), sl__has_kind⟩)
    (c__has_kind : PySem.W.codeIn K cd__has_kind "_has_kind" = true) (k__has_kind : PySem.W.keepIn K (.ref f__has_kind) = true)
    {f__are_letters : Addr} {od__are_letters an__are_letters : Option Addr} {sl__are_letters : Array (Option Value)} {oc__are_letters kV__are_letters dc__are_letters pm__are_letters cd__are_letters ct__are_letters : Value}
    (a__are_letters : PySem.W.nsIn K mainGlobals "_are_letters" = some (some (.ref f__are_letters))) (l__are_letters : K.lookup f__are_letters = some ⟨oc__are_letters, od__are_letters, .func (PySem.W.fnOf "_are_letters" "_are_letters" (defArgs s__are_letters) (defBody s__are_letters) (defScope s__are_letters) .none kV__are_letters dc__are_letters pm__are_letters an__are_letters cd__are_letters ct__are_letters), sl__are_letters⟩)
    (c__are_letters : PySem.W.codeIn K cd__are_letters "_are_letters" = true) (k__are_letters : PySem.W.keepIn K (.ref f__are_letters) = true)
    {f_takes_consistent : Addr} {od_takes_consistent an_takes_consistent : Option Addr} {sl_takes_consistent : Array (Option Value)} {oc_takes_consistent kV_takes_consistent dc_takes_consistent pm_takes_consistent cd_takes_consistent ct_takes_consistent : Value}
    (a_takes_consistent : PySem.W.nsIn K mainGlobals "takes_consistent" = some (some (.ref f_takes_consistent))) (l_takes_consistent : K.lookup f_takes_consistent = some ⟨oc_takes_consistent, od_takes_consistent, .func (PySem.W.fnOf "takes_consistent" "takes_consistent" (defArgs s_takes_consistent) (defBody s_takes_consistent) (defScope s_takes_consistent) .none kV_takes_consistent dc_takes_consistent pm_takes_consistent an_takes_consistent cd_takes_consistent ct_takes_consistent), sl_takes_consistent⟩)
    (c_takes_consistent : PySem.W.codeIn K cd_takes_consistent "takes_consistent" = true) (k_takes_consistent : PySem.W.keepIn K (.ref f_takes_consistent) = true)
    {f__is_row : Addr} {od__is_row an__is_row : Option Addr} {sl__is_row : Array (Option Value)} {oc__is_row kV__is_row dc__is_row pm__is_row cd__is_row ct__is_row : Value}
    (a__is_row : PySem.W.nsIn K mainGlobals "_is_row" = some (some (.ref f__is_row))) (l__is_row : K.lookup f__is_row = some ⟨oc__is_row, od__is_row, .func (PySem.W.fnOf "_is_row" "_is_row" (defArgs s__is_row) (defBody s__is_row) (defScope s__is_row) .none kV__is_row dc__is_row pm__is_row an__is_row cd__is_row ct__is_row), sl__is_row⟩)
    (c__is_row : PySem.W.codeIn K cd__is_row "_is_row" = true) (k__is_row : PySem.W.keepIn K (.ref f__is_row) = true)
    {f__is_right_side : Addr} {od__is_right_side an__is_right_side : Option Addr} {sl__is_right_side : Array (Option Value)} {oc__is_right_side kV__is_right_side dc__is_right_side pm__is_right_side cd__is_right_side ct__is_right_side : Value}
    (a__is_right_side : PySem.W.nsIn K mainGlobals "_is_right_side" = some (some (.ref f__is_right_side))) (l__is_right_side : K.lookup f__is_right_side = some ⟨oc__is_right_side, od__is_right_side, .func (PySem.W.fnOf "_is_right_side" "_is_right_side" (defArgs s__is_right_side) (defBody s__is_right_side) (defScope s__is_right_side) .none kV__is_right_side dc__is_right_side pm__is_right_side an__is_right_side cd__is_right_side ct__is_right_side), sl__is_right_side⟩)
    (c__is_right_side : PySem.W.codeIn K cd__is_right_side "_is_right_side" = true) (k__is_right_side : PySem.W.keepIn K (.ref f__is_right_side) = true)
    {f__are_right_sides : Addr} {od__are_right_sides an__are_right_sides : Option Addr} {sl__are_right_sides : Array (Option Value)} {oc__are_right_sides kV__are_right_sides dc__are_right_sides pm__are_right_sides cd__are_right_sides ct__are_right_sides : Value}
    (a__are_right_sides : PySem.W.nsIn K mainGlobals "_are_right_sides" = some (some (.ref f__are_right_sides))) (l__are_right_sides : K.lookup f__are_right_sides = some ⟨oc__are_right_sides, od__are_right_sides, .func (PySem.W.fnOf "_are_right_sides" "_are_right_sides" (defArgs s__are_right_sides) (defBody s__are_right_sides) (defScope s__are_right_sides) .none kV__are_right_sides dc__are_right_sides pm__are_right_sides an__are_right_sides cd__are_right_sides ct__are_right_sides), sl__are_right_sides⟩)
    (c__are_right_sides : PySem.W.codeIn K cd__are_right_sides "_are_right_sides" = true) (k__are_right_sides : PySem.W.keepIn K (.ref f__are_right_sides) = true)
    {f__are_primes : Addr} {od__are_primes an__are_primes : Option Addr} {sl__are_primes : Array (Option Value)} {oc__are_primes kV__are_primes dc__are_primes pm__are_primes cd__are_primes ct__are_primes : Value}
    (a__are_primes : PySem.W.nsIn K mainGlobals "_are_primes" = some (some (.ref f__are_primes))) (l__are_primes : K.lookup f__are_primes = some ⟨oc__are_primes, od__are_primes, .func (PySem.W.fnOf "_are_primes" "_are_primes" (defArgs s__are_primes) (defBody s__are_primes) (defScope s__are_primes) .none kV__are_primes dc__are_primes pm__are_primes an__are_primes cd__are_primes ct__are_primes), sl__are_primes⟩)
    (c__are_primes : PySem.W.codeIn K cd__are_primes "_are_primes" = true) (k__are_primes : PySem.W.keepIn K (.ref f__are_primes) = true)
    {f__are_powers : Addr} {od__are_powers an__are_powers : Option Addr} {sl__are_powers : Array (Option Value)} {oc__are_powers kV__are_powers dc__are_powers pm__are_powers cd__are_powers ct__are_powers : Value}
    (a__are_powers : PySem.W.nsIn K mainGlobals "_are_powers" = some (some (.ref f__are_powers))) (l__are_powers : K.lookup f__are_powers = some ⟨oc__are_powers, od__are_powers, .func (PySem.W.fnOf "_are_powers" "_are_powers" (defArgs s__are_powers) (defBody s__are_powers) (defScope s__are_powers) .none kV__are_powers dc__are_powers pm__are_powers an__are_powers cd__are_powers ct__are_powers), sl__are_powers⟩)
    (c__are_powers : PySem.W.codeIn K cd__are_powers "_are_powers" = true) (k__are_powers : PySem.W.keepIn K (.ref f__are_powers) = true)
    {f__are_conjugates : Addr} {od__are_conjugates an__are_conjugates : Option Addr} {sl__are_conjugates : Array (Option Value)} {oc__are_conjugates kV__are_conjugates dc__are_conjugates pm__are_conjugates cd__are_conjugates ct__are_conjugates : Value}
    (a__are_conjugates : PySem.W.nsIn K mainGlobals "_are_conjugates" = some (some (.ref f__are_conjugates))) (l__are_conjugates : K.lookup f__are_conjugates = some ⟨oc__are_conjugates, od__are_conjugates, .func (PySem.W.fnOf "_are_conjugates" "_are_conjugates" (defArgs s__are_conjugates) (defBody s__are_conjugates) (defScope s__are_conjugates) .none kV__are_conjugates dc__are_conjugates pm__are_conjugates an__are_conjugates cd__are_conjugates ct__are_conjugates), sl__are_conjugates⟩)
    (c__are_conjugates : PySem.W.codeIn K cd__are_conjugates "_are_conjugates" = true) (k__are_conjugates : PySem.W.keepIn K (.ref f__are_conjugates) = true)
    {f__order_of : Addr} {od__order_of an__order_of : Option Addr} {sl__order_of : Array (Option Value)} {oc__order_of kV__order_of dc__order_of pm__order_of cd__order_of ct__order_of : Value}
    (a__order_of : PySem.W.nsIn K mainGlobals "_order_of" = some (some (.ref f__order_of))) (l__order_of : K.lookup f__order_of = some ⟨oc__order_of, od__order_of, .func (PySem.W.fnOf "_order_of" "_order_of" (defArgs s__order_of) (defBody s__order_of) (defScope s__order_of) .none kV__order_of dc__order_of pm__order_of an__order_of cd__order_of ct__order_of), sl__order_of⟩)
    (c__order_of : PySem.W.codeIn K cd__order_of "_order_of" = true) (k__order_of : PySem.W.keepIn K (.ref f__order_of) = true)
    {f__row_text : Addr} {od__row_text an__row_text : Option Addr} {sl__row_text : Array (Option Value)} {oc__row_text kV__row_text dc__row_text pm__row_text cd__row_text ct__row_text : Value}
    (a__row_text : PySem.W.nsIn K mainGlobals "_row_text" = some (some (.ref f__row_text))) (l__row_text : K.lookup f__row_text = some ⟨oc__row_text, od__row_text, .func (PySem.W.fnOf "_row_text" "_row_text" (defArgs s__row_text) (defBody s__row_text) (defScope s__row_text) .none kV__row_text dc__row_text pm__row_text an__row_text cd__row_text ct__row_text), sl__row_text⟩)
    (c__row_text : PySem.W.codeIn K cd__row_text "_row_text" = true) (k__row_text : PySem.W.keepIn K (.ref f__row_text) = true)
    {f__right_sides : Addr} {od__right_sides an__right_sides : Option Addr} {sl__right_sides : Array (Option Value)} {oc__right_sides kV__right_sides dc__right_sides pm__right_sides cd__right_sides ct__right_sides : Value}
    (a__right_sides : PySem.W.nsIn K mainGlobals "_right_sides" = some (some (.ref f__right_sides))) (l__right_sides : K.lookup f__right_sides = some ⟨oc__right_sides, od__right_sides, .func (PySem.W.fnOf "_right_sides" "_right_sides" (defArgs s__right_sides) (defBody s__right_sides) (defScope s__right_sides) .none kV__right_sides dc__right_sides pm__right_sides an__right_sides cd__right_sides ct__right_sides), sl__right_sides⟩)
    (c__right_sides : PySem.W.codeIn K cd__right_sides "_right_sides" = true) (k__right_sides : PySem.W.keepIn K (.ref f__right_sides) = true)
    {f_consistency_paper : Addr} {od_consistency_paper an_consistency_paper : Option Addr} {sl_consistency_paper : Array (Option Value)} {oc_consistency_paper kV_consistency_paper dc_consistency_paper pm_consistency_paper cd_consistency_paper ct_consistency_paper : Value}
    (a_consistency_paper : PySem.W.nsIn K mainGlobals "consistency_paper" = some (some (.ref f_consistency_paper))) (l_consistency_paper : K.lookup f_consistency_paper = some ⟨oc_consistency_paper, od_consistency_paper, .func (PySem.W.fnOf "consistency_paper" "consistency_paper" (defArgs s_consistency_paper) (defBody s_consistency_paper) (defScope s_consistency_paper) .none kV_consistency_paper dc_consistency_paper pm_consistency_paper an_consistency_paper cd_consistency_paper ct_consistency_paper), sl_consistency_paper⟩)
    (c_consistency_paper : PySem.W.codeIn K cd_consistency_paper "consistency_paper" = true) (k_consistency_paper : PySem.W.keepIn K (.ref f_consistency_paper) = true)
    {f__law_state : Addr} {od__law_state an__law_state : Option Addr} {sl__law_state : Array (Option Value)} {oc__law_state kV__law_state dc__law_state pm__law_state cd__law_state ct__law_state : Value}
    (a__law_state : PySem.W.nsIn K mainGlobals "_law_state" = some (some (.ref f__law_state))) (l__law_state : K.lookup f__law_state = some ⟨oc__law_state, od__law_state, .func (PySem.W.fnOf "_law_state" "_law_state" (defArgs s__law_state) (defBody s__law_state) (defScope s__law_state) .none kV__law_state dc__law_state pm__law_state an__law_state cd__law_state ct__law_state), sl__law_state⟩)
    (c__law_state : PySem.W.codeIn K cd__law_state "_law_state" = true) (k__law_state : PySem.W.keepIn K (.ref f__law_state) = true)
    {f__law_take : Addr} {od__law_take an__law_take : Option Addr} {sl__law_take : Array (Option Value)} {oc__law_take kV__law_take dc__law_take pm__law_take cd__law_take ct__law_take : Value}
    (a__law_take : PySem.W.nsIn K mainGlobals "_law_take" = some (some (.ref f__law_take))) (l__law_take : K.lookup f__law_take = some ⟨oc__law_take, od__law_take, .func (PySem.W.fnOf "_law_take" "_law_take" (defArgs s__law_take) (defBody s__law_take) (defScope s__law_take) .none kV__law_take dc__law_take pm__law_take an__law_take cd__law_take ct__law_take), sl__law_take⟩)
    (c__law_take : PySem.W.codeIn K cd__law_take "_law_take" = true) (k__law_take : PySem.W.keepIn K (.ref f__law_take) = true)
    {f__law_made : Addr} {od__law_made an__law_made : Option Addr} {sl__law_made : Array (Option Value)} {oc__law_made kV__law_made dc__law_made pm__law_made cd__law_made ct__law_made : Value}
    (a__law_made : PySem.W.nsIn K mainGlobals "_law_made" = some (some (.ref f__law_made))) (l__law_made : K.lookup f__law_made = some ⟨oc__law_made, od__law_made, .func (PySem.W.fnOf "_law_made" "_law_made" (defArgs s__law_made) (defBody s__law_made) (defScope s__law_made) .none kV__law_made dc__law_made pm__law_made an__law_made cd__law_made ct__law_made), sl__law_made⟩)
    (c__law_made : PySem.W.codeIn K cd__law_made "_law_made" = true) (k__law_made : PySem.W.keepIn K (.ref f__law_made) = true)
    {f__law_size : Addr} {od__law_size an__law_size : Option Addr} {sl__law_size : Array (Option Value)} {oc__law_size kV__law_size dc__law_size pm__law_size cd__law_size ct__law_size : Value}
    (a__law_size : PySem.W.nsIn K mainGlobals "_law_size" = some (some (.ref f__law_size))) (l__law_size : K.lookup f__law_size = some ⟨oc__law_size, od__law_size, .func (PySem.W.fnOf "_law_size" "_law_size" (defArgs s__law_size) (defBody s__law_size) (defScope s__law_size) .none kV__law_size dc__law_size pm__law_size an__law_size cd__law_size ct__law_size), sl__law_size⟩)
    (c__law_size : PySem.W.codeIn K cd__law_size "_law_size" = true) (k__law_size : PySem.W.keepIn K (.ref f__law_size) = true)
    {f__law_steep : Addr} {od__law_steep an__law_steep : Option Addr} {sl__law_steep : Array (Option Value)} {oc__law_steep kV__law_steep dc__law_steep pm__law_steep cd__law_steep ct__law_steep : Value}
    (a__law_steep : PySem.W.nsIn K mainGlobals "_law_steep" = some (some (.ref f__law_steep))) (l__law_steep : K.lookup f__law_steep = some ⟨oc__law_steep, od__law_steep, .func (PySem.W.fnOf "_law_steep" "_law_steep" (defArgs s__law_steep) (defBody s__law_steep) (defScope s__law_steep) .none kV__law_steep dc__law_steep pm__law_steep an__law_steep cd__law_steep ct__law_steep), sl__law_steep⟩)
    (c__law_steep : PySem.W.codeIn K cd__law_steep "_law_steep" = true) (k__law_steep : PySem.W.keepIn K (.ref f__law_steep) = true)
    {f__law_flat : Addr} {od__law_flat an__law_flat : Option Addr} {sl__law_flat : Array (Option Value)} {oc__law_flat kV__law_flat dc__law_flat pm__law_flat cd__law_flat ct__law_flat : Value}
    (a__law_flat : PySem.W.nsIn K mainGlobals "_law_flat" = some (some (.ref f__law_flat))) (l__law_flat : K.lookup f__law_flat = some ⟨oc__law_flat, od__law_flat, .func (PySem.W.fnOf "_law_flat" "_law_flat" (defArgs s__law_flat) (defBody s__law_flat) (defScope s__law_flat) .none kV__law_flat dc__law_flat pm__law_flat an__law_flat cd__law_flat ct__law_flat), sl__law_flat⟩)
    (c__law_flat : PySem.W.codeIn K cd__law_flat "_law_flat" = true) (k__law_flat : PySem.W.keepIn K (.ref f__law_flat) = true)
    {f__law_beside : Addr} {od__law_beside an__law_beside : Option Addr} {sl__law_beside : Array (Option Value)} {oc__law_beside kV__law_beside dc__law_beside pm__law_beside cd__law_beside ct__law_beside : Value}
    (a__law_beside : PySem.W.nsIn K mainGlobals "_law_beside" = some (some (.ref f__law_beside))) (l__law_beside : K.lookup f__law_beside = some ⟨oc__law_beside, od__law_beside, .func (PySem.W.fnOf "_law_beside" "_law_beside" (defArgs s__law_beside) (defBody s__law_beside) (defScope s__law_beside) .none kV__law_beside dc__law_beside pm__law_beside an__law_beside cd__law_beside ct__law_beside), sl__law_beside⟩)
    (c__law_beside : PySem.W.codeIn K cd__law_beside "_law_beside" = true) (k__law_beside : PySem.W.keepIn K (.ref f__law_beside) = true)
    {f__law_step : Addr} {od__law_step an__law_step : Option Addr} {sl__law_step : Array (Option Value)} {oc__law_step kV__law_step dc__law_step pm__law_step cd__law_step ct__law_step : Value}
    (a__law_step : PySem.W.nsIn K mainGlobals "_law_step" = some (some (.ref f__law_step))) (l__law_step : K.lookup f__law_step = some ⟨oc__law_step, od__law_step, .func (PySem.W.fnOf "_law_step" "_law_step" (defArgs s__law_step) (defBody s__law_step) (defScope s__law_step) .none kV__law_step dc__law_step pm__law_step an__law_step cd__law_step ct__law_step), sl__law_step⟩)
    (c__law_step : PySem.W.codeIn K cd__law_step "_law_step" = true) (k__law_step : PySem.W.keepIn K (.ref f__law_step) = true)
    {f__law_times : Addr} {od__law_times an__law_times : Option Addr} {sl__law_times : Array (Option Value)} {oc__law_times kV__law_times dc__law_times pm__law_times cd__law_times ct__law_times : Value}
    (a__law_times : PySem.W.nsIn K mainGlobals "_law_times" = some (some (.ref f__law_times))) (l__law_times : K.lookup f__law_times = some ⟨oc__law_times, od__law_times, .func (PySem.W.fnOf "_law_times" "_law_times" (defArgs s__law_times) (defBody s__law_times) (defScope s__law_times) .none kV__law_times dc__law_times pm__law_times an__law_times cd__law_times ct__law_times), sl__law_times⟩)
    (c__law_times : PySem.W.codeIn K cd__law_times "_law_times" = true) (k__law_times : PySem.W.keepIn K (.ref f__law_times) = true)
    {f__law_inverse : Addr} {od__law_inverse an__law_inverse : Option Addr} {sl__law_inverse : Array (Option Value)} {oc__law_inverse kV__law_inverse dc__law_inverse pm__law_inverse cd__law_inverse ct__law_inverse : Value}
    (a__law_inverse : PySem.W.nsIn K mainGlobals "_law_inverse" = some (some (.ref f__law_inverse))) (l__law_inverse : K.lookup f__law_inverse = some ⟨oc__law_inverse, od__law_inverse, .func (PySem.W.fnOf "_law_inverse" "_law_inverse" (defArgs s__law_inverse) (defBody s__law_inverse) (defScope s__law_inverse) .none kV__law_inverse dc__law_inverse pm__law_inverse an__law_inverse cd__law_inverse ct__law_inverse), sl__law_inverse⟩)
    (c__law_inverse : PySem.W.codeIn K cd__law_inverse "_law_inverse" = true) (k__law_inverse : PySem.W.keepIn K (.ref f__law_inverse) = true)
    {f__law_conjugated : Addr} {od__law_conjugated an__law_conjugated : Option Addr} {sl__law_conjugated : Array (Option Value)} {oc__law_conjugated kV__law_conjugated dc__law_conjugated pm__law_conjugated cd__law_conjugated ct__law_conjugated : Value}
    (a__law_conjugated : PySem.W.nsIn K mainGlobals "_law_conjugated" = some (some (.ref f__law_conjugated))) (l__law_conjugated : K.lookup f__law_conjugated = some ⟨oc__law_conjugated, od__law_conjugated, .func (PySem.W.fnOf "_law_conjugated" "_law_conjugated" (defArgs s__law_conjugated) (defBody s__law_conjugated) (defScope s__law_conjugated) .none kV__law_conjugated dc__law_conjugated pm__law_conjugated an__law_conjugated cd__law_conjugated ct__law_conjugated), sl__law_conjugated⟩)
    (c__law_conjugated : PySem.W.codeIn K cd__law_conjugated "_law_conjugated" = true) (k__law_conjugated : PySem.W.keepIn K (.ref f__law_conjugated) = true)
    {f__law_generator : Addr} {od__law_generator an__law_generator : Option Addr} {sl__law_generator : Array (Option Value)} {oc__law_generator kV__law_generator dc__law_generator pm__law_generator cd__law_generator ct__law_generator : Value}
    (a__law_generator : PySem.W.nsIn K mainGlobals "_law_generator" = some (some (.ref f__law_generator))) (l__law_generator : K.lookup f__law_generator = some ⟨oc__law_generator, od__law_generator, .func (PySem.W.fnOf "_law_generator" "_law_generator" (defArgs s__law_generator) (defBody s__law_generator) (defScope s__law_generator) .none kV__law_generator dc__law_generator pm__law_generator an__law_generator cd__law_generator ct__law_generator), sl__law_generator⟩)
    (c__law_generator : PySem.W.codeIn K cd__law_generator "_law_generator" = true) (k__law_generator : PySem.W.keepIn K (.ref f__law_generator) = true)
    {f__law_new_row : Addr} {od__law_new_row an__law_new_row : Option Addr} {sl__law_new_row : Array (Option Value)} {oc__law_new_row kV__law_new_row dc__law_new_row pm__law_new_row cd__law_new_row ct__law_new_row : Value}
    (a__law_new_row : PySem.W.nsIn K mainGlobals "_law_new_row" = some (some (.ref f__law_new_row))) (l__law_new_row : K.lookup f__law_new_row = some ⟨oc__law_new_row, od__law_new_row, .func (PySem.W.fnOf "_law_new_row" "_law_new_row" (defArgs s__law_new_row) (defBody s__law_new_row) (defScope s__law_new_row) .none kV__law_new_row dc__law_new_row pm__law_new_row an__law_new_row cd__law_new_row ct__law_new_row), sl__law_new_row⟩)
    (c__law_new_row : PySem.W.codeIn K cd__law_new_row "_law_new_row" = true) (k__law_new_row : PySem.W.keepIn K (.ref f__law_new_row) = true)
    {f__law_twisted : Addr} {od__law_twisted an__law_twisted : Option Addr} {sl__law_twisted : Array (Option Value)} {oc__law_twisted kV__law_twisted dc__law_twisted pm__law_twisted cd__law_twisted ct__law_twisted : Value}
    (a__law_twisted : PySem.W.nsIn K mainGlobals "_law_twisted" = some (some (.ref f__law_twisted))) (l__law_twisted : K.lookup f__law_twisted = some ⟨oc__law_twisted, od__law_twisted, .func (PySem.W.fnOf "_law_twisted" "_law_twisted" (defArgs s__law_twisted) (defBody s__law_twisted) (defScope s__law_twisted) .none kV__law_twisted dc__law_twisted pm__law_twisted an__law_twisted cd__law_twisted ct__law_twisted), sl__law_twisted⟩)
    (c__law_twisted : PySem.W.codeIn K cd__law_twisted "_law_twisted" = true) (k__law_twisted : PySem.W.keepIn K (.ref f__law_twisted) = true)
    {f__law_group : Addr} {od__law_group an__law_group : Option Addr} {sl__law_group : Array (Option Value)} {oc__law_group kV__law_group dc__law_group pm__law_group cd__law_group ct__law_group : Value}
    (a__law_group : PySem.W.nsIn K mainGlobals "_law_group" = some (some (.ref f__law_group))) (l__law_group : K.lookup f__law_group = some ⟨oc__law_group, od__law_group, .func (PySem.W.fnOf "_law_group" "_law_group" (defArgs s__law_group) (defBody s__law_group) (defScope s__law_group) .none kV__law_group dc__law_group pm__law_group an__law_group cd__law_group ct__law_group), sl__law_group⟩)
    (c__law_group : PySem.W.codeIn K cd__law_group "_law_group" = true) (k__law_group : PySem.W.keepIn K (.ref f__law_group) = true)
    {f__law_bent : Addr} {od__law_bent an__law_bent : Option Addr} {sl__law_bent : Array (Option Value)} {oc__law_bent kV__law_bent dc__law_bent pm__law_bent cd__law_bent ct__law_bent : Value}
    (a__law_bent : PySem.W.nsIn K mainGlobals "_law_bent" = some (some (.ref f__law_bent))) (l__law_bent : K.lookup f__law_bent = some ⟨oc__law_bent, od__law_bent, .func (PySem.W.fnOf "_law_bent" "_law_bent" (defArgs s__law_bent) (defBody s__law_bent) (defScope s__law_bent) .none kV__law_bent dc__law_bent pm__law_bent an__law_bent cd__law_bent ct__law_bent), sl__law_bent⟩)
    (c__law_bent : PySem.W.codeIn K cd__law_bent "_law_bent" = true) (k__law_bent : PySem.W.keepIn K (.ref f__law_bent) = true)
    {f__law_letters : Addr} {od__law_letters an__law_letters : Option Addr} {sl__law_letters : Array (Option Value)} {oc__law_letters kV__law_letters dc__law_letters pm__law_letters cd__law_letters ct__law_letters : Value}
    (a__law_letters : PySem.W.nsIn K mainGlobals "_law_letters" = some (some (.ref f__law_letters))) (l__law_letters : K.lookup f__law_letters = some ⟨oc__law_letters, od__law_letters, .func (PySem.W.fnOf "_law_letters" "_law_letters" (defArgs s__law_letters) (defBody s__law_letters) (defScope s__law_letters) .none kV__law_letters dc__law_letters pm__law_letters an__law_letters cd__law_letters ct__law_letters), sl__law_letters⟩)
    (c__law_letters : PySem.W.codeIn K cd__law_letters "_law_letters" = true) (k__law_letters : PySem.W.keepIn K (.ref f__law_letters) = true)
    {f__law_row_of : Addr} {od__law_row_of an__law_row_of : Option Addr} {sl__law_row_of : Array (Option Value)} {oc__law_row_of kV__law_row_of dc__law_row_of pm__law_row_of cd__law_row_of ct__law_row_of : Value}
    (a__law_row_of : PySem.W.nsIn K mainGlobals "_law_row_of" = some (some (.ref f__law_row_of))) (l__law_row_of : K.lookup f__law_row_of = some ⟨oc__law_row_of, od__law_row_of, .func (PySem.W.fnOf "_law_row_of" "_law_row_of" (defArgs s__law_row_of) (defBody s__law_row_of) (defScope s__law_row_of) .none kV__law_row_of dc__law_row_of pm__law_row_of an__law_row_of cd__law_row_of ct__law_row_of), sl__law_row_of⟩)
    (c__law_row_of : PySem.W.codeIn K cd__law_row_of "_law_row_of" = true) (k__law_row_of : PySem.W.keepIn K (.ref f__law_row_of) = true)
    {f__law_overlaps : Addr} {od__law_overlaps an__law_overlaps : Option Addr} {sl__law_overlaps : Array (Option Value)} {oc__law_overlaps kV__law_overlaps dc__law_overlaps pm__law_overlaps cd__law_overlaps ct__law_overlaps : Value}
    (a__law_overlaps : PySem.W.nsIn K mainGlobals "_law_overlaps" = some (some (.ref f__law_overlaps))) (l__law_overlaps : K.lookup f__law_overlaps = some ⟨oc__law_overlaps, od__law_overlaps, .func (PySem.W.fnOf "_law_overlaps" "_law_overlaps" (defArgs s__law_overlaps) (defBody s__law_overlaps) (defScope s__law_overlaps) .none kV__law_overlaps dc__law_overlaps pm__law_overlaps an__law_overlaps cd__law_overlaps ct__law_overlaps), sl__law_overlaps⟩)
    (c__law_overlaps : PySem.W.codeIn K cd__law_overlaps "_law_overlaps" = true) (k__law_overlaps : PySem.W.keepIn K (.ref f__law_overlaps) = true)
    {f_law : Addr} {od_law an_law : Option Addr} {sl_law : Array (Option Value)} {oc_law kV_law dc_law pm_law cd_law ct_law : Value}
    (a_law : PySem.W.nsIn K mainGlobals "law" = some (some (.ref f_law))) (l_law : K.lookup f_law = some ⟨oc_law, od_law, .func (PySem.W.fnOf "law" "law" (defArgs s_law) (defBody s_law) (defScope s_law) .none kV_law dc_law pm_law an_law cd_law ct_law), sl_law⟩)
    (c_law : PySem.W.codeIn K cd_law "law" = true) (k_law : PySem.W.keepIn K (.ref f_law) = true)
    (z_isinstance : PySem.W.nsIn K mainGlobals "isinstance" = some none)
    (z_int : PySem.W.nsIn K mainGlobals "int" = some none)
    (z_bool : PySem.W.nsIn K mainGlobals "bool" = some none)
    (z_len : PySem.W.nsIn K mainGlobals "len" = some none)
    (z_range : PySem.W.nsIn K mainGlobals "range" = some none)
    (z_tuple : PySem.W.nsIn K mainGlobals "tuple" = some none)
    (z_all : PySem.W.nsIn K mainGlobals "all" = some none)
    (z_zip : PySem.W.nsIn K mainGlobals "zip" = some none)
    (z_any : PySem.W.nsIn K mainGlobals "any" = some none)
    (z_enumerate : PySem.W.nsIn K mainGlobals "enumerate" = some none)
    (z_str : PySem.W.nsIn K mainGlobals "str" = some none)
    (z_abs : PySem.W.nsIn K mainGlobals "abs" = some none)
    (z_list : PySem.W.nsIn K mainGlobals "list" = some none)
    (z_reversed : PySem.W.nsIn K mainGlobals "reversed" = some none)
    {q_S : Addr} {dd_S : Option Addr} {its_S : Array Value} {n_S : Nat} {sl_S : Array (Option Value)}
    (a_S : PySem.W.nsIn K mainGlobals "SMALL_PRIMES" = some (some (.ref q_S))) (l_S : K.lookup q_S = some ⟨.type "tuple", dd_S, .seq its_S n_S, sl_S⟩) (v_S : Vals ([2, 3, 5, 7, 11, 13, 17, 19, 23, 29, 31].map V.int) its_S.toList)
    {tk_MOST_GENERATORS : Tok} (a_MOST_GENERATORS : PySem.W.nsIn K mainGlobals "MOST_GENERATORS" = some (some (.int 10 tk_MOST_GENERATORS)))
    {tk_MOST_ORDER : Tok} (a_MOST_ORDER : PySem.W.nsIn K mainGlobals "MOST_ORDER" = some (some (.int 1024 tk_MOST_ORDER))) : Txt K mg :=
  have F__wall := fun_mk (st := s__wall) l__wall c__wall k__wall
  have b__wall := F__wall.binds (ps := ["k"]) fun _ _ _ _ _ _ us hl => match us, hl with | [_], _ => rfl
  have F_is_integer := fun_mk (st := s_is_integer) l_is_integer c_is_integer k_is_integer
  have b_is_integer := F_is_integer.binds (ps := ["value"]) fun _ _ _ _ _ _ us hl => match us, hl with | [_], _ => rfl
  have F_is_small_prime := fun_mk (st := s_is_small_prime) l_is_small_prime c_is_small_prime k_is_small_prime
  have b_is_small_prime := F_is_small_prime.binds (ps := ["value"]) fun _ _ _ _ _ _ us hl => match us, hl with | [_], _ => rfl
  have F__last_place := fun_mk (st := s__last_place) l__last_place c__last_place k__last_place
  have b__last_place := F__last_place.binds (ps := ["row"]) fun _ _ _ _ _ _ us hl => match us, hl with | [_], _ => rfl
  have F__overlaps_of_three := fun_mk (st := s__overlaps_of_three) l__overlaps_of_three c__overlaps_of_three k__overlaps_of_three
  have b__overlaps_of_three := F__overlaps_of_three.binds (ps := ["presentation"]) fun _ _ _ _ _ _ us hl => match us, hl with | [_], _ => rfl
  have F__overlaps_of_later_power := fun_mk (st := s__overlaps_of_later_power) l__overlaps_of_later_power c__overlaps_of_later_power k__overlaps_of_later_power
  have b__overlaps_of_later_power := F__overlaps_of_later_power.binds (ps := ["presentation", "i", "j"]) fun _ _ _ _ _ _ us hl => match us, hl with | [_, _, _], _ => rfl
  have F__overlaps_of_earlier_power := fun_mk (st := s__overlaps_of_earlier_power) l__overlaps_of_earlier_power c__overlaps_of_earlier_power k__overlaps_of_earlier_power
  have b__overlaps_of_earlier_power := F__overlaps_of_earlier_power.binds (ps := ["presentation", "i", "j"]) fun _ _ _ _ _ _ us hl => match us, hl with | [_, _, _], _ => rfl
  have F__overlap_of_power := fun_mk (st := s__overlap_of_power) l__overlap_of_power c__overlap_of_power k__overlap_of_power
  have b__overlap_of_power := F__overlap_of_power.binds (ps := ["presentation", "i"]) fun _ _ _ _ _ _ us hl => match us, hl with | [_, _], _ => rfl
  have F_overlaps := fun_mk (st := s_overlaps) l_overlaps c_overlaps k_overlaps
  have b_overlaps := F_overlaps.binds (ps := ["presentation"]) fun _ _ _ _ _ _ us hl => match us, hl with | [_], _ => rfl
  have F_failing_overlap := fun_mk (st := s_failing_overlap) l_failing_overlap c_failing_overlap k_failing_overlap
  have b_failing_overlap := F_failing_overlap.binds (ps := ["presentation"]) fun _ _ _ _ _ _ us hl => match us, hl with | [_], _ => rfl
  have F__has_kind := fun_mk (st := s__has_kind) l__has_kind c__has_kind k__has_kind
  have b__has_kind := F__has_kind.binds (ps := ["paper", "kind"]) fun _ _ _ _ _ _ us hl => match us, hl with | [_, _], _ => rfl
  have F__are_letters := fun_mk (st := s__are_letters) l__are_letters c__are_letters k__are_letters
  have b__are_letters := F__are_letters.binds (ps := ["value"]) fun _ _ _ _ _ _ us hl => match us, hl with | [_], _ => rfl
  have F_takes_consistent := fun_mk (st := s_takes_consistent) l_takes_consistent c_takes_consistent k_takes_consistent
  have b_takes_consistent := F_takes_consistent.binds (ps := ["presentation", "paper"]) fun _ _ _ _ _ _ us hl => match us, hl with | [_, _], _ => rfl
  have F__is_row := fun_mk (st := s__is_row) l__is_row c__is_row k__is_row
  have b__is_row := F__is_row.binds (ps := ["value", "primes"]) fun _ _ _ _ _ _ us hl => match us, hl with | [_, _], _ => rfl
  have F__is_right_side := fun_mk (st := s__is_right_side) l__is_right_side c__is_right_side k__is_right_side
  have b__is_right_side := F__is_right_side.binds (ps := ["value", "primes", "i"]) fun _ _ _ _ _ _ us hl => match us, hl with | [_, _, _], _ => rfl
  have F__are_right_sides := fun_mk (st := s__are_right_sides) l__are_right_sides c__are_right_sides k__are_right_sides
  have b__are_right_sides := F__are_right_sides.binds (ps := ["value", "many", "primes", "i"]) fun _ _ _ _ _ _ us hl => match us, hl with | [_, _, _, _], _ => rfl
  have F__are_primes := fun_mk (st := s__are_primes) l__are_primes c__are_primes k__are_primes
  have b__are_primes := F__are_primes.binds (ps := ["value"]) fun _ _ _ _ _ _ us hl => match us, hl with | [_], _ => rfl
  have F__are_powers := fun_mk (st := s__are_powers) l__are_powers c__are_powers k__are_powers
  have b__are_powers := F__are_powers.binds (ps := ["value", "primes"]) fun _ _ _ _ _ _ us hl => match us, hl with | [_, _], _ => rfl
  have F__are_conjugates := fun_mk (st := s__are_conjugates) l__are_conjugates c__are_conjugates k__are_conjugates
  have b__are_conjugates := F__are_conjugates.binds (ps := ["value", "primes"]) fun _ _ _ _ _ _ us hl => match us, hl with | [_, _], _ => rfl
  have F__order_of := fun_mk (st := s__order_of) l__order_of c__order_of k__order_of
  have b__order_of := F__order_of.binds (ps := ["primes"]) fun _ _ _ _ _ _ us hl => match us, hl with | [_], _ => rfl
  have F__row_text := fun_mk (st := s__row_text) l__row_text c__row_text k__row_text
  have b__row_text := F__row_text.binds (ps := ["row"]) fun _ _ _ _ _ _ us hl => match us, hl with | [_], _ => rfl
  have F__right_sides := fun_mk (st := s__right_sides) l__right_sides c__right_sides k__right_sides
  have b__right_sides := F__right_sides.binds (ps := ["presentation"]) fun _ _ _ _ _ _ us hl => match us, hl with | [_], _ => rfl
  have F_consistency_paper := fun_mk (st := s_consistency_paper) l_consistency_paper c_consistency_paper k_consistency_paper
  have b_consistency_paper := F_consistency_paper.binds (ps := ["presentation"]) fun _ _ _ _ _ _ us hl => match us, hl with | [_], _ => rfl
  have F__law_state := fun_mk (st := s__law_state) l__law_state c__law_state k__law_state
  have b__law_state := F__law_state.binds (ps := ["script"]) fun _ _ _ _ _ _ us hl => match us, hl with | [_], _ => rfl
  have F__law_take := fun_mk (st := s__law_take) l__law_take c__law_take k__law_take
  have b__law_take := F__law_take.binds (ps := ["state", "m"]) fun _ _ _ _ _ _ us hl => match us, hl with | [_, _], _ => rfl
  have F__law_made := fun_mk (st := s__law_made) l__law_made c__law_made k__law_made
  have b__law_made := F__law_made.binds (ps := ["primes", "powers", "conjugates"]) fun _ _ _ _ _ _ us hl => match us, hl with | [_, _, _], _ => rfl
  have F__law_size := fun_mk (st := s__law_size) l__law_size c__law_size k__law_size
  have b__law_size := F__law_size.binds (ps := ["table"]) fun _ _ _ _ _ _ us hl => match us, hl with | [_], _ => rfl
  have F__law_steep := fun_mk (st := s__law_steep) l__law_steep c__law_steep k__law_steep
  have b__law_steep := F__law_steep.binds (ps := ["state", "pick"]) fun _ _ _ _ _ _ us hl => match us, hl with | [_, _], _ => rfl
  have F__law_flat := fun_mk (st := s__law_flat) l__law_flat c__law_flat k__law_flat
  have b__law_flat := F__law_flat.binds (ps := ["state"]) fun _ _ _ _ _ _ us hl => match us, hl with | [_], _ => rfl
  have F__law_beside := fun_mk (st := s__law_beside) l__law_beside c__law_beside k__law_beside
  have b__law_beside := F__law_beside.binds (ps := ["one", "two"]) fun _ _ _ _ _ _ us hl => match us, hl with | [_, _], _ => rfl
  have F__law_step := fun_mk (st := s__law_step) l__law_step c__law_step k__law_step
  have b__law_step := F__law_step.binds (ps := ["table", "known", "row", "j"]) fun _ _ _ _ _ _ us hl => match us, hl with | [_, _, _, _], _ => rfl
  have F__law_times := fun_mk (st := s__law_times) l__law_times c__law_times k__law_times
  have b__law_times := F__law_times.binds (ps := ["table", "known", "x", "y"]) fun _ _ _ _ _ _ us hl => match us, hl with | [_, _, _, _], _ => rfl
  have F__law_inverse := fun_mk (st := s__law_inverse) l__law_inverse c__law_inverse k__law_inverse
  have b__law_inverse := F__law_inverse.binds (ps := ["table", "known", "x"]) fun _ _ _ _ _ _ us hl => match us, hl with | [_, _, _], _ => rfl
  have F__law_conjugated := fun_mk (st := s__law_conjugated) l__law_conjugated c__law_conjugated k__law_conjugated
  have b__law_conjugated := F__law_conjugated.binds (ps := ["table", "known", "x", "y"]) fun _ _ _ _ _ _ us hl => match us, hl with | [_, _, _, _], _ => rfl
  have F__law_generator := fun_mk (st := s__law_generator) l__law_generator c__law_generator k__law_generator
  have b__law_generator := F__law_generator.binds (ps := ["n", "k"]) fun _ _ _ _ _ _ us hl => match us, hl with | [_, _], _ => rfl
  have F__law_new_row := fun_mk (st := s__law_new_row) l__law_new_row c__law_new_row k__law_new_row
  have b__law_new_row := F__law_new_row.binds (ps := ["table", "known", "x", "i", "own"]) fun _ _ _ _ _ _ us hl => match us, hl with | [_, _, _, _, _], _ => rfl
  have F__law_twisted := fun_mk (st := s__law_twisted) l__law_twisted c__law_twisted k__law_twisted
  have b__law_twisted := F__law_twisted.binds (ps := ["state", "table"]) fun _ _ _ _ _ _ us hl => match us, hl with | [_, _], _ => rfl
  have F__law_group := fun_mk (st := s__law_group) l__law_group c__law_group k__law_group
  have b__law_group := F__law_group.binds (ps := ["state", "most"]) fun _ _ _ _ _ _ us hl => match us, hl with | [_, _], _ => rfl
  have F__law_bent := fun_mk (st := s__law_bent) l__law_bent c__law_bent k__law_bent
  have b__law_bent := F__law_bent.binds (ps := ["state", "table"]) fun _ _ _ _ _ _ us hl => match us, hl with | [_, _], _ => rfl
  have F__law_letters := fun_mk (st := s__law_letters) l__law_letters c__law_letters k__law_letters
  have b__law_letters := F__law_letters.binds (ps := ["row"]) fun _ _ _ _ _ _ us hl => match us, hl with | [_], _ => rfl
  have F__law_row_of := fun_mk (st := s__law_row_of) l__law_row_of c__law_row_of k__law_row_of
  have b__law_row_of := F__law_row_of.binds (ps := ["table", "known", "word"]) fun _ _ _ _ _ _ us hl => match us, hl with | [_, _, _], _ => rfl
  have F__law_overlaps := fun_mk (st := s__law_overlaps) l__law_overlaps c__law_overlaps k__law_overlaps
  have b__law_overlaps := F__law_overlaps.binds (ps := ["table"]) fun _ _ _ _ _ _ us hl => match us, hl with | [_], _ => rfl
  have F_law := fun_mk (st := s_law) l_law c_law k_law
  have b_law := F_law.binds (ps := ["script"]) fun _ _ _ _ _ _ us hl => match us, hl with | [_], _ => rfl
  { a__wall := f__wall, d__wall := _, F__wall := F__wall, g__wall := PySem.W.mg_of X G a__wall, b__wall := b__wall, a_is_integer := f_is_integer, d_is_integer := _, F_is_integer := F_is_integer, g_is_integer := PySem.W.mg_of X G a_is_integer, b_is_integer := b_is_integer, a_is_small_prime := f_is_small_prime, d_is_small_prime := _, F_is_small_prime := F_is_small_prime, g_is_small_prime := PySem.W.mg_of X G a_is_small_prime, b_is_small_prime := b_is_small_prime, a__last_place := f__last_place, d__last_place := _, F__last_place := F__last_place, g__last_place := PySem.W.mg_of X G a__last_place, b__last_place := b__last_place, a__overlaps_of_three := f__overlaps_of_three, d__overlaps_of_three := _, F__overlaps_of_three := F__overlaps_of_three, g__overlaps_of_three := PySem.W.mg_of X G a__overlaps_of_three, b__overlaps_of_three := b__overlaps_of_three, a__overlaps_of_later_power := f__overlaps_of_later_power, d__overlaps_of_later_power := _, F__overlaps_of_later_power := F__overlaps_of_later_power, g__overlaps_of_later_power := PySem.W.mg_of X G a__overlaps_of_later_power, b__overlaps_of_later_power := b__overlaps_of_later_power, a__overlaps_of_earlier_power := f__overlaps_of_earlier_power, d__overlaps_of_earlier_power := _, F__overlaps_of_earlier_power := F__overlaps_of_earlier_power, g__overlaps_of_earlier_power := PySem.W.mg_of X G a__overlaps_of_earlier_power, b__overlaps_of_earlier_power := b__overlaps_of_earlier_power, a__overlap_of_power := f__overlap_of_power, d__overlap_of_power := _, F__overlap_of_power := F__overlap_of_power, g__overlap_of_power := PySem.W.mg_of X G a__overlap_of_power, b__overlap_of_power := b__overlap_of_power, a_overlaps := f_overlaps, d_overlaps := _, F_overlaps := F_overlaps, g_overlaps := PySem.W.mg_of X G a_overlaps, b_overlaps := b_overlaps, a_failing_overlap := f_failing_overlap, d_failing_overlap := _, F_failing_overlap := F_failing_overlap, g_failing_overlap := PySem.W.mg_of X G a_failing_overlap, b_failing_overlap := b_failing_overlap, a__has_kind := f__has_kind, d__has_kind := _, F__has_kind := F__has_kind, g__has_kind := PySem.W.mg_of X G a__has_kind, b__has_kind := b__has_kind, a__are_letters := f__are_letters, d__are_letters := _, F__are_letters := F__are_letters, g__are_letters := PySem.W.mg_of X G a__are_letters, b__are_letters := b__are_letters, a_takes_consistent := f_takes_consistent, d_takes_consistent := _, F_takes_consistent := F_takes_consistent, g_takes_consistent := PySem.W.mg_of X G a_takes_consistent, b_takes_consistent := b_takes_consistent, a__is_row := f__is_row, d__is_row := _, F__is_row := F__is_row, g__is_row := PySem.W.mg_of X G a__is_row, b__is_row := b__is_row, a__is_right_side := f__is_right_side, d__is_right_side := _, F__is_right_side := F__is_right_side, g__is_right_side := PySem.W.mg_of X G a__is_right_side, b__is_right_side := b__is_right_side, a__are_right_sides := f__are_right_sides, d__are_right_sides := _, F__are_right_sides := F__are_right_sides, g__are_right_sides := PySem.W.mg_of X G a__are_right_sides, b__are_right_sides := b__are_right_sides, a__are_primes := f__are_primes, d__are_primes := _, F__are_primes := F__are_primes, g__are_primes := PySem.W.mg_of X G a__are_primes, b__are_primes := b__are_primes, a__are_powers := f__are_powers, d__are_powers := _, F__are_powers := F__are_powers, g__are_powers := PySem.W.mg_of X G a__are_powers, b__are_powers := b__are_powers, a__are_conjugates := f__are_conjugates, d__are_conjugates := _, F__are_conjugates := F__are_conjugates, g__are_conjugates := PySem.W.mg_of X G a__are_conjugates, b__are_conjugates := b__are_conjugates, a__order_of := f__order_of, d__order_of := _, F__order_of := F__order_of, g__order_of := PySem.W.mg_of X G a__order_of, b__order_of := b__order_of, a__row_text := f__row_text, d__row_text := _, F__row_text := F__row_text, g__row_text := PySem.W.mg_of X G a__row_text, b__row_text := b__row_text, a__right_sides := f__right_sides, d__right_sides := _, F__right_sides := F__right_sides, g__right_sides := PySem.W.mg_of X G a__right_sides, b__right_sides := b__right_sides, a_consistency_paper := f_consistency_paper, d_consistency_paper := _, F_consistency_paper := F_consistency_paper, g_consistency_paper := PySem.W.mg_of X G a_consistency_paper, b_consistency_paper := b_consistency_paper, a__law_state := f__law_state, d__law_state := _, F__law_state := F__law_state, g__law_state := PySem.W.mg_of X G a__law_state, b__law_state := b__law_state, a__law_take := f__law_take, d__law_take := _, F__law_take := F__law_take, g__law_take := PySem.W.mg_of X G a__law_take, b__law_take := b__law_take, a__law_made := f__law_made, d__law_made := _, F__law_made := F__law_made, g__law_made := PySem.W.mg_of X G a__law_made, b__law_made := b__law_made, a__law_size := f__law_size, d__law_size := _, F__law_size := F__law_size, g__law_size := PySem.W.mg_of X G a__law_size, b__law_size := b__law_size, a__law_steep := f__law_steep, d__law_steep := _, F__law_steep := F__law_steep, g__law_steep := PySem.W.mg_of X G a__law_steep, b__law_steep := b__law_steep, a__law_flat := f__law_flat, d__law_flat := _, F__law_flat := F__law_flat, g__law_flat := PySem.W.mg_of X G a__law_flat, b__law_flat := b__law_flat, a__law_beside := f__law_beside, d__law_beside := _, F__law_beside := F__law_beside, g__law_beside := PySem.W.mg_of X G a__law_beside, b__law_beside := b__law_beside, a__law_step := f__law_step, d__law_step := _, F__law_step := F__law_step, g__law_step := PySem.W.mg_of X G a__law_step, b__law_step := b__law_step, a__law_times := f__law_times, d__law_times := _, F__law_times := F__law_times, g__law_times := PySem.W.mg_of X G a__law_times, b__law_times := b__law_times, a__law_inverse := f__law_inverse, d__law_inverse := _, F__law_inverse := F__law_inverse, g__law_inverse := PySem.W.mg_of X G a__law_inverse, b__law_inverse := b__law_inverse, a__law_conjugated := f__law_conjugated, d__law_conjugated := _, F__law_conjugated := F__law_conjugated, g__law_conjugated := PySem.W.mg_of X G a__law_conjugated, b__law_conjugated := b__law_conjugated, a__law_generator := f__law_generator, d__law_generator := _, F__law_generator := F__law_generator, g__law_generator := PySem.W.mg_of X G a__law_generator, b__law_generator := b__law_generator, a__law_new_row := f__law_new_row, d__law_new_row := _, F__law_new_row := F__law_new_row, g__law_new_row := PySem.W.mg_of X G a__law_new_row, b__law_new_row := b__law_new_row, a__law_twisted := f__law_twisted, d__law_twisted := _, F__law_twisted := F__law_twisted, g__law_twisted := PySem.W.mg_of X G a__law_twisted, b__law_twisted := b__law_twisted, a__law_group := f__law_group, d__law_group := _, F__law_group := F__law_group, g__law_group := PySem.W.mg_of X G a__law_group, b__law_group := b__law_group, a__law_bent := f__law_bent, d__law_bent := _, F__law_bent := F__law_bent, g__law_bent := PySem.W.mg_of X G a__law_bent, b__law_bent := b__law_bent, a__law_letters := f__law_letters, d__law_letters := _, F__law_letters := F__law_letters, g__law_letters := PySem.W.mg_of X G a__law_letters, b__law_letters := b__law_letters, a__law_row_of := f__law_row_of, d__law_row_of := _, F__law_row_of := F__law_row_of, g__law_row_of := PySem.W.mg_of X G a__law_row_of, b__law_row_of := b__law_row_of, a__law_overlaps := f__law_overlaps, d__law_overlaps := _, F__law_overlaps := F__law_overlaps, g__law_overlaps := PySem.W.mg_of X G a__law_overlaps, b__law_overlaps := b__law_overlaps, a_law := f_law, d_law := _, F_law := F_law, g_law := PySem.W.mg_of X G a_law, b_law := b_law, n_isinstance := PySem.W.mg_none_of X G z_isinstance, n_int := PySem.W.mg_none_of X G z_int, n_bool := PySem.W.mg_none_of X G z_bool, n_len := PySem.W.mg_none_of X G z_len, n_range := PySem.W.mg_none_of X G z_range, n_tuple := PySem.W.mg_none_of X G z_tuple, n_all := PySem.W.mg_none_of X G z_all, n_zip := PySem.W.mg_none_of X G z_zip, n_any := PySem.W.mg_none_of X G z_any, n_enumerate := PySem.W.mg_none_of X G z_enumerate, n_str := PySem.W.mg_none_of X G z_str, n_abs := PySem.W.mg_none_of X G z_abs, n_list := PySem.W.mg_none_of X G z_list, n_reversed := PySem.W.mg_none_of X G z_reversed, q_SMALL_PRIMES := q_S, g_SMALL_PRIMES := PySem.W.mg_of X G a_S, t_SMALL := fun H => .inr ⟨_, its_S, n_S, l_S, rfl, rfl, by rw [← Array.length_toList, ← Vals.length v_S]; decide, v_S⟩, v_MOST_GENERATORS := _, g_MOST_GENERATORS := PySem.W.mg_of X G a_MOST_GENERATORS, r_MOST_GENERATORS := ⟨_, rfl⟩, v_MOST_ORDER := _, g_MOST_ORDER := PySem.W.mg_of X G a_MOST_ORDER, r_MOST_ORDER := ⟨_, rfl⟩ }
structure ClMalformed (K : PySem.W.Frag) (mg : Str → Option Value) where
  C : Addr
  gC : mg "Malformed" = some (.ref C)
  q : PySem.W.excIn K C [.type "ValueError", .type "Exception", .type "BaseException", .type "object"] "ValueError.__new__" = true
  kC : PySem.W.keepIn K (.ref C) = true
  eC : PySem.W.subIn K (.ref C) (.type "BaseException") = some true
  yC : PySem.W.typeIn K (.ref C) = some (.type "type")
theorem ClMalformed.F {K : PySem.W.Frag} {mg : Str → Option Value} (_ : ClMalformed K mg) : ExcBaseFacts "ValueError" "ValueError.__new__" "ValueError.__init__" [.type "ValueError", .type "Exception", .type "BaseException", .type "object"] := PySem.F.excBase_ValueError
theorem ClMalformed.r {X : Cx} {mg : Str → Option Value} (c : ClMalformed X.K mg) : Raises X (.ref c.C) := raises_own c.eC c.yC
structure ClCollector (K : PySem.W.Frag) (mg : Str → Option Value) where
  C : Addr
  gC : mg "Collector" = some (.ref C)
  cl : Cls K C
  a___init__ : Addr
  d___init__ : FuncData
  F___init__ : Fun K "__init__" "Collector.__init__" s_Collector___init__ a___init__ d___init__
  m___init__ : Meth K C "__init__" a___init__
  b___init__ : Binds K d___init__ ["self", "presentation"] []
  a_behind : Addr
  d_behind : FuncData
  F_behind : Fun K "behind" "Collector.behind" s_Collector_behind a_behind d_behind
  m_behind : Meth K C "behind" a_behind
  b_behind : Binds K d_behind ["self", "row", "word"] []
  a__step : Addr
  d__step : FuncData
  F__step : Fun K "_step" "Collector._step" s_Collector__step a__step d__step
  m__step : Meth K C "_step" a__step
  b__step : Binds K d__step ["self", "row", "j"] []
  a__moved : Addr
  d__moved : FuncData
  F__moved : Fun K "_moved" "Collector._moved" s_Collector__moved a__moved d__moved
  m__moved : Meth K C "_moved" a__moved
  b__moved : Binds K d__moved ["self", "known", "j", "tail"] []
  mkr : Mk K C a___init__
  n__primes : NoAttr K C "_primes"
  n__words : NoAttr K C "_words"
  n__plain : NoAttr K C "_plain"
  n__carried : NoAttr K C "_carried"
  ha : PySem.W.findIn K (.ref C) "__class__" = some (some (.builtin "object.__class__"))
  hn : PySem.W.specialIn K (.builtin "object.__class__") "__get__" = some (some (.builtin "getset_descriptor.__get__"))
  ht : PySem.W.takesIn K (.builtin "object.__class__") = some true
  hm : PySem.W.mroIn K C (.type "object") = some true
  ci : PySem.W.isClsIn K C = true
  ty : PySem.W.typeIn K (.ref C) = some (.type "type")
structure ClPresentation (K : PySem.W.Frag) (mg : Str → Option Value) where
  C : Addr
  gC : mg "Presentation" = some (.ref C)
  cl : Cls K C
  a___init__ : Addr
  d___init__ : FuncData
  F___init__ : Fun K "__init__" "Presentation.__init__" s_Presentation___init__ a___init__ d___init__
  m___init__ : Meth K C "__init__" a___init__
  b___init__ : Binds K d___init__ ["self", "primes", "powers", "conjugates"] []
  a___eq__ : Addr
  d___eq__ : FuncData
  F___eq__ : Fun K "__eq__" "Presentation.__eq__" s_Presentation___eq__ a___eq__ d___eq__
  m___eq__ : Meth K C "__eq__" a___eq__
  b___eq__ : Binds K d___eq__ ["self", "other"] []
  a___str__ : Addr
  d___str__ : FuncData
  F___str__ : Fun K "__str__" "Presentation.__str__" s_Presentation___str__ a___str__ d___str__
  m___str__ : Meth K C "__str__" a___str__
  b___str__ : Binds K d___str__ ["self"] []
  a_is_row : Addr
  d_is_row : FuncData
  F_is_row : Fun K "is_row" "Presentation.is_row" s_Presentation_is_row a_is_row d_is_row
  m_is_row : Meth K C "is_row" a_is_row
  b_is_row : Binds K d_is_row ["self", "value"] []
  a_conjugate_row : Addr
  d_conjugate_row : FuncData
  F_conjugate_row : Fun K "conjugate_row" "Presentation.conjugate_row" s_Presentation_conjugate_row a_conjugate_row d_conjugate_row
  m_conjugate_row : Meth K C "conjugate_row" a_conjugate_row
  b_conjugate_row : Binds K d_conjugate_row ["self", "i", "j"] []
  a_letters : Addr
  d_letters : FuncData
  F_letters : Fun K "letters" "Presentation.letters" s_Presentation_letters a_letters d_letters
  m_letters : Meth K C "letters" a_letters
  b_letters : Binds K d_letters ["self", "row"] []
  mkr : Mk K C a___init__
  n_n : NoAttr K C "n"
  n_primes : NoAttr K C "primes"
  n_powers : NoAttr K C "powers"
  n_conjugates : NoAttr K C "conjugates"
  n_order : NoAttr K C "order"
  ha : PySem.W.findIn K (.ref C) "__class__" = some (some (.builtin "object.__class__"))
  hn : PySem.W.specialIn K (.builtin "object.__class__") "__get__" = some (some (.builtin "getset_descriptor.__get__"))
  ht : PySem.W.takesIn K (.builtin "object.__class__") = some true
  hm : PySem.W.mroIn K C (.type "object") = some true
  ci : PySem.W.isClsIn K C = true
  ty : PySem.W.typeIn K (.ref C) = some (.type "type")
section
variable {P : Program} {w : World} {K : PySem.W.Frag} {mg : Str → Option Value} {base : Heap}
/-! ### rows modulo p, as lists of ints -/
def addR (p : Int) (v w : List Int) : List Int := (v.zip w).map fun x => (x.1 + x.2) % p
def scR (p : Int) (v : List Int) (a : Int) : List Int := v.map fun x => (a * x) % p
def atR (v : List Int) (i : Nat) : Int := v.getD i 0
def clrR (p : Int) (row lead : List Int) (at_ : Nat) : List Int := if atR row at_ = 0 then row else addR p row (scR p lead (-(atR row at_)))
def invR (p a : Int) : Int := ((a % p) ^ (p - 2).toNat) % p
def leadR (p : Int) : List (List Int) → Nat → Option (List Int)
  | [], _ => none
  | r :: rs, at_ => if atR r at_ = 0 then leadR p rs at_ else some (scR p r (invR p (atR r at_)))
structure Elim where
  left : List (List Int)
  table : List (List Int)
  piv : List Nat
def stepE (p : Int) (s : Elim) (at_ : Nat) : Elim := match leadR p s.left at_ with
  | none => s
  | some l => ⟨s.left.map fun r => clrR p r l at_, (s.table.map fun r => clrR p r l at_) ++ [l], s.piv ++ [at_]⟩
def elimE (p : Int) (rows : List (List Int)) : Nat → Elim
  | 0 => ⟨rows, [], []⟩
  | k + 1 => stepE p (elimE p rows k) k
def redT (p : Int) (n : Nat) (rows : List (List Int)) : List (List Int) := (elimE p rows n).table
def redP (p : Int) (n : Nat) (rows : List (List Int)) : List Nat := (elimE p rows n).piv
/-- a row: so many ints from 0 to p - 1 -/
def Vr (p : Int) (n : Nat) (r : List Int) : Prop := r.length = n ∧ ∀ x ∈ r, 0 ≤ x ∧ x < p
theorem atR_get {v : List Int} {i : Nat} (h : i < v.length) : v[i]? = some (atR v i) := by
  unfold atR
  rw [List.getD_eq_getElem?_getD, List.getElem?_eq_getElem h]
  rfl
theorem atR_mem {v : List Int} {i : Nat} (h : i < v.length) : atR v i ∈ v := List.mem_of_getElem? (atR_get h)
theorem Vr.at {p : Int} {n : Nat} {r : List Int} (h : Vr p n r) {i : Nat} (hi : i < n) : 0 ≤ atR r i ∧ atR r i < p := h.2 _ (atR_mem (by rw [h.1]; exact hi))
theorem emod_in {p : Int} (hp : 0 < p) (x : Int) : 0 ≤ x % p ∧ x % p < p := ⟨Int.emod_nonneg _ (by omega), Int.emod_lt_of_pos _ hp⟩
theorem addR_vr {p : Int} {n : Nat} {v w : List Int} (hp : 0 < p) (hv : Vr p n v) (hw : Vr p n w) : Vr p n (addR p v w) := by
  refine ⟨by unfold addR; rw [List.length_map, List.length_zip, hv.1, hw.1, Nat.min_self], fun x hx => ?_⟩
  obtain ⟨y, _, rfl⟩ := List.mem_map.mp hx
  exact emod_in hp _
theorem scR_vr {p : Int} {n : Nat} {v : List Int} (hp : 0 < p) (hv : v.length = n) (a : Int) : Vr p n (scR p v a) := by
  refine ⟨by unfold scR; rw [List.length_map, hv], fun x hx => ?_⟩
  obtain ⟨y, _, rfl⟩ := List.mem_map.mp hx
  exact emod_in hp _
theorem clrR_vr {p : Int} {n : Nat} {r l : List Int} (hp : 0 < p) (hr : Vr p n r) (hl : Vr p n l) (k : Nat) : Vr p n (clrR p r l k) := by
  unfold clrR
  split
  · exact hr
  · exact addR_vr hp hr (scR_vr hp hl.1 _)
theorem leadR_vr {p : Int} {n : Nat} (hp : 0 < p) : ∀ {rs : List (List Int)} {k : Nat} {l : List Int}, (∀ r ∈ rs, Vr p n r) → leadR p rs k = some l → Vr p n l
  | [], _, _, _, h => by cases h
  | r :: rs, k, l, hr, h => by
    rw [leadR] at h
    split at h
    · exact leadR_vr hp (fun r hr' => hr r (List.mem_cons_of_mem _ hr')) h
    · cases h
      exact scR_vr hp (hr r (List.mem_cons_self ..)).1 _
theorem elimE_vr {p : Int} {n : Nat} {rows : List (List Int)} (hp : 0 < p) (hr : ∀ r ∈ rows, Vr p n r) : ∀ k, (∀ r ∈ (elimE p rows k).left, Vr p n r) ∧ (∀ r ∈ (elimE p rows k).table, Vr p n r)
  | 0 => ⟨hr, fun r h => by cases h⟩
  | k + 1 => by
    obtain ⟨h1, h2⟩ := elimE_vr hp hr k
    rw [elimE, stepE]
    split
    · exact ⟨h1, h2⟩
    · rename_i l hl
      have hv := leadR_vr hp h1 hl
      refine ⟨fun r h => ?_, fun r h => ?_⟩
      · obtain ⟨y, hy, rfl⟩ := List.mem_map.mp h
        exact clrR_vr hp (h1 y hy) hv _
      · rcases List.mem_append.mp h with h | h
        · obtain ⟨y, hy, rfl⟩ := List.mem_map.mp h
          exact clrR_vr hp (h2 y hy) hv _
        · rw [List.mem_singleton.mp h]
          exact hv
theorem elimE_len {p : Int} {rows : List (List Int)} : ∀ k, (elimE p rows k).left.length = rows.length ∧ (elimE p rows k).table.length = (elimE p rows k).piv.length ∧ (elimE p rows k).piv.length ≤ k
  | 0 => ⟨rfl, rfl, Nat.le_refl _⟩
  | k + 1 => by
    obtain ⟨h1, h2, h3⟩ := elimE_len (p := p) (rows := rows) k
    rw [elimE, stepE]
    split
    · exact ⟨h1, h2, by omega⟩
    · refine ⟨by rw [List.length_map, h1], by rw [List.length_append, List.length_map, h2, List.length_append]; rfl, by rw [List.length_append, List.length_singleton]; omega⟩
/-- a row comes back; what was tracked stands -/
def RetR (H : Hp) (Q : VK) (r : List Int) : Prop := ∀ v H', Same H H' → RR H' v r → Q v H'
theorem walk_zipT {a b : Addr} {xs ys : List V} {n : Nat} (hn : n = min xs.length ys.length) : Walk (RZ.ItzT K a b) n (fun H => SqT K H a xs ∧ SqT K H b ys) (YPair (fun i => xs[i]?) (fun i => ys[i]?)) := by
  subst hn
  refine ⟨fun i _ hi q => ?_, fun _ q => ⟨xs, ys, q.1, q.2, by omega⟩, fun i H v H' _ q y => ?_⟩
  · have h1 : i < xs.length := by omega
    have h2 : i < ys.length := by omega
    exact ⟨xs, ys, xs[i], ys[i], q.1, q.2, by simp [h1], by simp [h2]⟩
  · obtain ⟨T, x, z, h1, h2, h3, h4, h5⟩ := y
    exact ⟨T, x, z, h1, h2, h3, h4 xs q.1, h5 ys q.2⟩
theorem walk_row {a : Addr} {v : List Int} : Walk (Itt K a) v.length (fun H => SqT K H a (v.map V.int)) (YAt (v.map V.int)) := by
  have h := walk_tup (K := K) (a := a) (xs := v.map V.int)
  rw [List.length_map] at h
  exact h
/-! ### rows of 0; rest (the mirror) -/
def zeroR (n : Nat) : List Int := List.replicate n 0
theorem zeroR_vr {p : Int} (hp : 0 < p) (n : Nat) : Vr p n (zeroR n) := ⟨List.length_replicate, fun x hx => by
  have := List.eq_of_mem_replicate hx
  omega⟩
theorem flat_rep {α : Type} (x : α) : ∀ n, (List.replicate n [x]).flatten = List.replicate n x
  | 0 => rfl
  | n + 1 => by rw [List.replicate_succ, List.flatten_cons, flat_rep x n]; rfl
/-- the first place with a 1 -/
def oneAt (r : List Int) : Nat := r.findIdx fun x => decide (x = 1)
def restR (p : Int) : List (List Int) → List Int → List Int
  | [], v => v
  | r :: rs, v => restR p rs (clrR p v r (oneAt r))
/-- each row of the table has a 1, at a place below n -/
def Ones (n : Nat) (rs : List (List Int)) : Prop := ∀ r ∈ rs, oneAt r < n
theorem oneAt_get {r : List Int} (h : oneAt r < r.length) : r[oneAt r]? = some 1 ∧ ∀ m, m < oneAt r → r[m]? ≠ some 1 := by
  have hh : r.findIdx (fun x => decide (x = 1)) < r.length := h
  refine ⟨?_, fun m hm => ?_⟩
  · have h2 := List.findIdx_getElem (xs := r) (p := fun x => decide (x = 1)) (w := hh)
    have e := of_decide_eq_true h2
    show r[r.findIdx fun x => decide (x = 1)]? = some 1
    rw [List.getElem?_eq_getElem hh, e]
  · intro z
    have h2 := List.not_of_lt_findIdx (xs := r) (p := fun x => decide (x = 1)) hm
    obtain ⟨hlt, e⟩ := List.getElem?_eq_some_iff.mp z
    rw [e] at h2
    exact absurd h2 (by decide)
theorem restR_vr {p : Int} {n : Nat} (hp : 0 < p) : ∀ (rs : List (List Int)) (v : List Int), (∀ r ∈ rs, Vr p n r) → Vr p n v → Vr p n (restR p rs v)
  | [], v, _, h => h
  | r :: rs, v, hr, h => restR_vr hp rs _ (fun r hr' => hr r (List.mem_cons_of_mem _ hr')) (clrR_vr hp h (hr r (List.mem_cons_self ..)) _)
section
variable {p : Int} {n : Nat}
theorem atR_zero {n i : Nat} : atR (zeroR n) i = 0 := by
  unfold atR zeroR
  rw [List.getD_eq_getElem?_getD]
  by_cases h : i < n
  · rw [List.getElem?_replicate, if_pos h]; rfl
  · rw [List.getElem?_replicate, if_neg h]; rfl
theorem ext_at {p : Int} {n : Nat} {u v : List Int} (hu : Vr p n u) (hv : Vr p n v) (h : ∀ i, i < n → atR u i = atR v i) : u = v := by
  apply List.ext_getElem?
  intro i
  by_cases hi : i < n
  · rw [atR_get (by rw [hu.1]; exact hi), atR_get (by rw [hv.1]; exact hi), h i hi]
  · rw [List.getElem?_eq_none (by rw [hu.1]; omega), List.getElem?_eq_none (by rw [hv.1]; omega)]
end
section
variable {p : Int} {n : Nat}
def unitR (n a : Nat) : List Int := (List.range n).map fun k => if k = a then 1 else 0
theorem at_map {g : Nat → Int} {k : Nat} (h : k < n) : atR ((List.range n).map g) k = g k := by
  unfold atR
  rw [List.getD_eq_getElem?_getD, List.getElem?_map, List.getElem?_range h]
  rfl
theorem unitR_vr (h2 : 2 ≤ p) (n a : Nat) : Vr p n (unitR n a) := by
  refine ⟨by unfold unitR; rw [List.length_map, List.length_range], fun x hx => ?_⟩
  obtain ⟨k, _, rfl⟩ := List.mem_map.mp hx
  split <;> omega
theorem unitR_at {n a k : Nat} (h : k < n) : atR (unitR n a) k = if k = a then 1 else 0 := at_map h
/-- the row for a free place, the first i pivots put in -/
theorem set_at {v : List Int} {k j : Nat} {x : Int} (h : k < v.length) : atR (v.set k x) j = if j = k then x else atR v j := by
  unfold atR
  rw [List.getD_eq_getElem?_getD, List.getElem?_set]
  by_cases e : j = k
  · subst e
    rw [if_pos rfl, if_pos h, if_pos rfl]
    rfl
  · rw [if_neg fun z => e z.symm, if_neg e, ← List.getD_eq_getElem?_getD]
theorem getD_some {α : Type} {l : List α} {i : Nat} {x d : α} (h : l[i]? = some x) : l.getD i d = x := by rw [List.getD_eq_getElem?_getD, h]; rfl
end
/-! ### the state may change, all else stands -/
def SameX (a : Addr) (H H' : Hp) : Prop := ∀ b o, b ≠ a → H b = some o → H' b = some o
theorem SameX.trans {a : Addr} {H H1 H2 : Hp} (h : SameX a H H1) (k : SameX a H1 H2) : SameX a H H2 := fun b o n e => k b o n (h b o n e)
theorem Same.x {a : Addr} {H H' : Hp} (h : Same H H') : SameX a H H' := fun b o _ e => h b o e
theorem SameX.put {a : Addr} {H : Hp} {u : HO} : SameX a H (upd H a u) := fun b o n e => by rw [upd_ne n]; exact e
theorem RR.x {a : Addr} {H H' : Hp} {xs : List V} (e : SameX a H H') (ha : H a = some (.lst xs)) {v : V} {r : List Int} (h : RR H v r) : RR H' v r := by
  obtain ⟨t, rfl, o, d, h⟩ := h
  exact ⟨t, rfl, o, d, e t _ (fun z => by rw [z, ha] at h; cases h) h⟩
theorem RR.allx {a : Addr} {H H' : Hp} {xs : List V} (e : SameX a H H') (ha : H a = some (.lst xs)) : ∀ {vs : List V} {rs : List (List Int)}, Paired (RR H) vs rs → Paired (RR H') vs rs
  | _, _, .nil => .nil
  | _, _, .cons h t => .cons (RR.x e ha h) (RR.allx e ha t)
def StA (H : Hp) (a : Addr) : Prop := ∃ s t : Int, H a = some (.lst [.int s, .int t])
/-! ### _law_state, _law_take -/
theorem mem_cut {xs : List V} {lo hi : Option Int} {i : Nat} {x : V} (h : (cutV xs lo hi)[i]? = some x) : x ∈ xs :=
  List.mem_of_mem_drop (List.mem_of_mem_take (List.mem_of_getElem? h))
theorem mem_ints {ns : List Int} {x : V} (h : x ∈ ns.map V.int) : ∃ z, x = .int z := by
  obtain ⟨z, _, e⟩ := List.mem_map.mp h
  exact ⟨z, e.symm⟩
def spState (K : PySem.W.Frag) : Sp := fun vs H Q _ => ∃ (a : Addr) (ns : List Int), vs = [.ref a] ∧ SqL K H a (ns.map V.int) ∧
  ∀ H' p (s t : Int), Same H H' → H p = none → H' p = some (.lst [.int s, .int t]) → Q (.ref p) H'
theorem ok_state (T : Txt K mg) : FnOk P w K mg base CX0 1 T.a__law_state T.d__law_state ["script"] (spState K) := by
  refine T.F__law_state.ok sc__law_state (fun vs H Q E h => ?_) (fun cdv A outer s H vs Q E hr h => ?_)
  · obtain ⟨a, ns, rfl, _⟩ := h
    rfl
  · obtain ⟨a, ns, rfl, hS, q⟩ := h
    refine ⟨_, (pss_cons (ps_set (i := 1) sc__law_state.nd rfl (.inl rfl) pe_int) 
    (pss_cons (ps_set (i := 2) sc__law_state.nd rfl (.inl rfl) pe_int) 
    (pss_cons (ps_for PassesOwn.never rfl (pi_list (pe_slice sl_list (pv 0) po_none (po_some pe_int))) (pg_name (i := 3) sc__law_state.nd rfl (.inl rfl)) 
      (pss_cons (ps_set (i := 1) sc__law_state.nd rfl (.inl rfl) (pe_op op_add (pe_op op_mul (pv 1) pe_int) (pe_callB call_abs (by rfl) T.n_abs (by decide +kernel) (pa_cons (pv 3) pa_nil)))) 
      (pss_one (ps_set (i := 2) sc__law_state.nd rfl (.inl rfl) (pe_op op_modN (pe_callTy call_int1 (by rfl) T.n_int (by decide +kernel) (pa_cons (pe_op op_add (pe_op op_mul (pv 2) pe_int) (pv 3)) pa_nil)) pe_int))))) 
    (pss_one (ps_ret (pe_lst (pa_cons (pv 1) (pa_cons (pv 2) pa_nil)))))))), ?_⟩
    refine ⟨.ref a, rfl, 63, rfl, a, ns.map V.int, rfl, hS, fun c nc => ?_⟩
    refine ⟨c, rfl, ⟨_, .inl (.inl upd_same)⟩, for_list (xs := cutV (ns.map V.int) none (some 63)) (fun i σ H' => ∃ (s t : Int) (y : Option V), σ = [some (.ref a), some (.int s), some (.int t), y] ∧ Same H H' ∧ H' c = some (.lst (cutV (ns.map V.int) none (some 63))))
      ⟨0, 1, none, rfl, same_new nc, upd_same⟩ (fun i σ H' _ ⟨_, _, _, _, _, e⟩ => .inl (.inl e)) ?_ ?_⟩
    · rintro i x σ H' hi ⟨s, t, y, rfl, sm, ec⟩
      obtain ⟨z, rfl⟩ := mem_ints (mem_cut hi)
      refine ⟨_, rfl, _, _, rfl, rfl, .inr ⟨by decide, by decide⟩, _, rfl, _, rfl, _, _, rfl, rfl, ?_⟩
      refine ⟨_, rfl, _, _, rfl, rfl, .inr ⟨by decide, by decide⟩, _, rfl, _, _, rfl, rfl, .inl ⟨_, rfl, _, _, rfl, rfl, (show (2147483647 : Int) ≠ 0 by decide), ?_⟩⟩
      exact ⟨_, _, _, rfl, sm, ec⟩
    · rintro σ H' ⟨s, t, y, rfl, sm, ec⟩
      refine ⟨_, rfl, _, rfl, (by show 2 ≤ sizeLine; decide), fun p np => ?_⟩
      exact q _ p s t (sm.trans (same_new np)) (sm.free np) upd_same
/-- a draw: some number below m, the state changed -/
def spTake : Sp := fun vs H Q _ => ∃ (a : Addr) (m : Int) (s t : Int), vs = [.ref a, .int m] ∧ 0 < m ∧ m < 1000000 ∧ H a = some (.lst [.int s, .int t]) ∧
  ∀ (v s' t' : Int), 0 ≤ v → v < m → Q (.int v) (upd H a (.lst [.int s', .int t']))
theorem ok_take (T : Txt K mg) : FnOk P w K mg base CX0 1 T.a__law_take T.d__law_take ["state", "m"] spTake := by
  refine T.F__law_take.ok sc__law_take (fun vs H Q E h => ?_) (fun cdv A outer s H vs Q E hr h => ?_)
  · obtain ⟨a, m, s, t, rfl, _⟩ := h
    rfl
  · obtain ⟨a, m, s, t, rfl, h0, hm, hS, q⟩ := h
    refine ⟨_, (pss_cons (ps_if (pt_cmpR op_gt (pe_ix ix_list (pv 0) pe_int (fun _ _ => rfl)) pe_int (nomark _)) 
      (pss_cons (ps_set (i := 2) sc__law_take.nd rfl (.inl rfl) (pe_op op_modN (pe_callTy call_int1 (by rfl) T.n_int (by decide +kernel) (pa_cons (pe_ix ix_list (pv 0) pe_int (fun _ _ => rfl)) pa_nil)) (pv 1))) 
      (pss_cons (ps_asg (pe_op op_fdivN (pe_ix ix_list (pv 0) pe_int (fun _ _ => rfl)) (pv 1)) (pg_sub (pv 0) pe_int set_list)) 
      (pss_one (ps_ret (pv 2))))) pss_nil) 
    (pss_cons (ps_asg (pe_op op_modN (pe_callTy call_int1 (by rfl) T.n_int (by decide +kernel) (pa_cons (pe_op op_add (pe_op op_mul (pe_ix ix_list (pv 0) pe_int (fun _ _ => rfl)) pe_int) pe_int) pa_nil)) pe_int) (pg_sub (pv 0) pe_int set_list)) 
    (pss_one (ps_ret (pe_op op_modN (pe_callTy call_int1 (by rfl) T.n_int (by decide +kernel) (pa_cons (pe_op op_fdivN (pe_ix ix_list (pv 0) pe_int (fun _ _ => rfl)) pe_int) pa_nil)) (pv 1)))))), ?_⟩
    have hmod : ∀ x : Int, 0 ≤ x.fmod m ∧ x.fmod m < m := fun x => by
      rw [Int.fmod_eq_emod_of_nonneg _ (by omega)]
      exact ⟨Int.emod_nonneg _ (by omega), Int.emod_lt_of_pos _ h0⟩
    have hne : m ≠ 0 := by omega
    have hdv : m ≠ 0 ∧ m.natAbs < 1073741824 := by omega
    refine ⟨.ref a, rfl, a, _, 0, _, rfl, rfl, .inl (.inl hS), atI_nat (j := 0) rfl, _, _, rfl, rfl, _, rfl, ite2 (fun c => ?_) (fun c => ?_)⟩
    · refine ⟨.ref a, rfl, a, _, 0, _, rfl, rfl, .inl (.inl hS), atI_nat (j := 0) rfl, .inl ⟨_, rfl, _, rfl, _, _, rfl, rfl, hne, ?_⟩⟩
      refine ⟨.ref a, rfl, a, _, 0, _, rfl, rfl, .inl (.inl hS), atI_nat (j := 0) rfl, _, rfl, _, _, rfl, rfl, hdv, ?_⟩
      refine ⟨.ref a, rfl, a, _, _, 0, rfl, rfl, hS, rfl, ?_⟩
      exact ⟨_, rfl, q _ _ _ (hmod s).1 (hmod s).2⟩
    · refine ⟨.ref a, rfl, a, _, 1, _, rfl, rfl, .inl (.inl hS), atI_nat (j := 1) rfl, _, _, rfl, rfl, .inr ⟨by decide, by decide⟩, _, _, rfl, rfl, .inl ⟨_, rfl, _, _, rfl, rfl, (show (2147483647 : Int) ≠ 0 by decide), ?_⟩⟩
      refine ⟨.ref a, rfl, a, _, _, 1, rfl, rfl, hS, rfl, ?_⟩
      refine ⟨.ref a, rfl, a, _, 1, _, rfl, rfl, .inl (.inl upd_same), atI_nat (j := 1) rfl, _, _, rfl, rfl, ⟨by decide, by decide⟩, .inl ⟨_, rfl, _, rfl, _, _, rfl, rfl, hne, ?_⟩⟩
      exact q _ _ _ (hmod _).1 (hmod _).2
/-! ### written data: ints, tuples and lists of such -/
inductive Tr where
  | int (i : Int)
  | tup (ts : List Tr)
  | lst (ts : List Tr)
inductive Has (K : PySem.W.Frag) (H : Hp) : V → Tr → Prop
  | int (i : Int) : Has K H (.int i) (.int i)
  | tup {a : Addr} {us : List V} {ts : List Tr} (h : SqT K H a us) (l : us.length = ts.length) (g : ∀ (i : Nat) (u : V) (t : Tr), us[i]? = some u → ts[i]? = some t → Has K H u t) : Has K H (.ref a) (.tup ts)
  | lst {a : Addr} {us : List V} {ts : List Tr} (h : H a = some (.lst us)) (l : us.length = ts.length) (g : ∀ (i : Nat) (u : V) (t : Tr), us[i]? = some u → ts[i]? = some t → Has K H u t) : Has K H (.ref a) (.lst ts)
theorem Has.mono {H H' : Hp} {v : V} {t : Tr} (e : Same H H') (h : Has K H v t) : Has K H' v t := by
  induction h with
  | int i => exact .int i
  | tup h l g ih => exact .tup (Own.same_tup e h) l ih
  | lst h l g ih => exact .lst (e _ _ h) l ih
/-- so many values, each as told -/
def Hass (K : PySem.W.Frag) (H : Hp) (us : List V) (ts : List Tr) : Prop := us.length = ts.length ∧ ∀ (i : Nat) (u : V) (t : Tr), us[i]? = some u → ts[i]? = some t → Has K H u t
def EvD (K : PySem.W.Frag) (te : TE) (σ : L2.St) (t : Tr) : Prop := ∀ (H : Hp) (Q : VK), (∀ v H', Same H H' → Has K H' v t → Q v H') → te σ H Q
def EvDs (K : PySem.W.Frag) (ta : TA) (σ : L2.St) (ts : List Tr) : Prop := ∀ (H : Hp) (Q : List V → Hp → Prop), (∀ vs H', Same H H' → Hass K H' vs ts → Q vs H') → ta σ H Q
theorem ed_int {σ : L2.St} {i : Int} : EvD K (tC (.int i)) σ (.int i) := fun H Q q => q _ H (Same.refl H) (.int i)
theorem ed_var {σ : L2.St} {i : Nat} {z : Int} (h : σ[i]? = some (some (.int z))) : EvD K (tVar i) σ (.int z) := fun H Q q => ⟨_, h, q _ H (Same.refl H) (.int z)⟩
theorem ed_nil {σ : L2.St} : EvDs K tNil σ [] := fun H Q q => q [] H (Same.refl H) ⟨rfl, fun i u t h => by simp at h⟩
theorem ed_cons {σ : L2.St} {te : TE} {ta : TA} {t : Tr} {ts : List Tr} (h : EvD K te σ t) (k : EvDs K ta σ ts) : EvDs K (tCons te ta) σ (t :: ts) := fun H Q q => h H _ fun v H1 s1 hv => k H1 _ fun vs H2 s2 hs => q (v :: vs) H2 (s1.trans s2) ⟨by rw [List.length_cons, List.length_cons, hs.1], fun i u t' h1 h2 => by
  cases i with
  | zero =>
    cases h1
    cases h2
    exact hv.mono s2
  | succ i => exact hs.2 i u t' h1 h2⟩
theorem ed_tup {σ : L2.St} {ta : TA} {ts : List Tr} (h : EvDs K ta σ ts) (hl : ts.length ≤ 1000) : EvD K (tTup ta) σ (.tup ts) := fun H Q q => h H _ fun vs H1 s1 hs => ⟨Nat.le_of_lt (small2000 (by rw [hs.1]; omega)), fun t nt => q _ _ (s1.trans (same_new nt)) (.tup (.inl (.inl upd_same)) hs.1 fun i u t' h1 h2 => (hs.2 i u t' h1 h2).mono (same_new nt))⟩
theorem ed_lst {σ : L2.St} {ta : TA} {ts : List Tr} (h : EvDs K ta σ ts) (hl : ts.length ≤ 1000) : EvD K (tLst ta) σ (.lst ts) := fun H Q q => h H _ fun vs H1 s1 hs => ⟨Nat.le_of_lt (small2000 (by rw [hs.1]; omega)), fun t nt => q _ _ (s1.trans (same_new nt)) (.lst upd_same hs.1 fun i u t' h1 h2 => (hs.2 i u t' h1 h2).mono (same_new nt))⟩
/-! tables -/
structure Tb where
  ps : List Int
  pw : List (List Int)
  cj : List (List (List Int))
def Tup1 (K : PySem.W.Frag) (H : Hp) (v : V) (M : List (List Int)) : Prop := ∃ t us, v = .ref t ∧ SqT K H t us ∧ Paired (RS K H) us M
structure TbAt (K : PySem.W.Frag) (H : Hp) (v : V) (t : Tb) : Prop where
  ex : ∃ (x a b c : Addr) (us : List V), v = .ref x ∧ SqT K H x [.ref a, .ref b, .ref c] ∧ SqT K H a (t.ps.map V.int) ∧ Tup1 K H (.ref b) t.pw ∧ SqT K H c us ∧ Paired (Tup1 K H) us t.cj
/-- all tuples stand -/
def Tps (K : PySem.W.Frag) (H H' : Hp) : Prop := ∀ (a : Addr) (xs : List V), SqT K H a xs → SqT K H' a xs
theorem Tps.of {H H' : Hp} (e : Same H H') : Tps K H H' := fun _ _ h => Own.same_tup e h
theorem Tps.trans {H H1 H2 : Hp} (h : Tps K H H1) (k : Tps K H1 H2) : Tps K H H2 := fun a xs e => k a xs (h a xs e)
theorem Tps.x {H H' : Hp} {a : Addr} {xs : List V} (e : SameX a H H') (ha : H a = some (.lst xs)) : Tps K H H' := fun b ys h => by
  rcases h with (h | ⟨o, h⟩) | h
  · exact .inl (.inl (e b _ (fun z => by rw [z, ha] at h; cases h) h))
  · exact .inl (.inr ⟨o, e b _ (fun z => by rw [z, ha] at h; cases h) h⟩)
  · exact .inr h
theorem rs_tps {H H' : Hp} (e : Tps K H H') {v : V} {r : List Int} (h : RS K H v r) : RS K H' v r := let ⟨t, a, b⟩ := h; ⟨t, a, e _ _ b⟩
theorem paired_via {α β : Type} {R S : α → β → Prop} (f : ∀ a b, R a b → S a b) : ∀ {xs : List α} {ys : List β}, Paired R xs ys → Paired S xs ys
  | _, _, .nil => .nil
  | _, _, .cons h t => .cons (f _ _ h) (paired_via f t)
theorem tup1_tps {H H' : Hp} (e : Tps K H H') {v : V} {M : List (List Int)} (h : Tup1 K H v M) : Tup1 K H' v M := let ⟨t, us, a, b, c⟩ := h; ⟨t, us, a, e _ _ b, paired_via (fun _ _ => rs_tps e) c⟩
theorem TbAt.tps {H H' : Hp} (e : Tps K H H') {v : V} {t : Tb} (h : TbAt K H v t) : TbAt K H' v t := by
  obtain ⟨x, a, b, c, us, h1, h2, h3, h4, h5, h6⟩ := h.ex
  exact ⟨x, a, b, c, us, h1, e _ _ h2, e _ _ h3, tup1_tps e h4, e _ _ h5, paired_via (fun _ _ => tup1_tps e) h6⟩
/-! lists of lists, each its own -/
def Rw1 (H : Hp) (x : Addr) (r : List Int) : Prop := H x = some (.lst (r.map V.int))
/-- a list of lists of ints; it and they are newer than H0 -/
structure LL (H0 H : Hp) (a : Addr) (L : List (List Int)) : Prop where
  ex : ∃ as : List Addr, H a = some (.lst (as.map V.ref)) ∧ as.Nodup ∧ Paired (Rw1 H) as L ∧ (∀ x ∈ as, H0 x = none ∧ x ≠ a) ∧ H0 a = none
theorem LL.mono {H0 H H' : Hp} {a : Addr} {L : List (List Int)} (e : Same H H') (h : LL H0 H a L) : LL H0 H' a L := by
  obtain ⟨as, h1, h2, h3, h4⟩ := h.ex
  exact ⟨as, e _ _ h1, h2, paired_via (fun _ _ q => e _ _ q) h3, h4⟩
theorem paired_set {α β : Type} {R : α → β → Prop} {b : β} : ∀ {as : List α} {bs : List β} {i : Nat} {a : α}, Paired R as bs → as[i]? = some a → R a b → Paired R as (bs.set i b)
  | _, _, 0, _, .cons _ t, e, h => by cases e; exact .cons h t
  | _, _, i + 1, _, .cons q t, e, h => .cons q (paired_set (i := i) t e h)
  | _, _, 0, _, .nil, e, _ => by cases e
  | _, _, i + 1, _, .nil, e, _ => by cases e
/-- one of them is changed -/
theorem paired_upd {H : Hp} {x : Addr} {r' : List Int} {ys : List V} : ∀ {as : List Addr} {L : List (List Int)} {i : Nat}, Paired (Rw1 H) as L → as.Nodup → as[i]? = some x → ys = r'.map V.int → Paired (Rw1 (upd H x (.lst ys))) as (L.set i r')
  | _, _, 0, @Paired.cons _ _ _ b r bs rs h t, nd, e, ey => by
    cases e
    subst ey
    obtain ⟨h1, _⟩ := List.nodup_cons.mp nd
    refine .cons upd_same ?_
    have key : ∀ {cs : List Addr} {M : List (List Int)}, (x ∉ cs) → Paired (Rw1 H) cs M → Paired (Rw1 (upd H x (.lst (r'.map V.int)))) cs M := by
      intro cs M hn q
      induction q with
      | nil => exact .nil
      | cons q _ ih =>
        refine .cons ?_ (ih fun z => hn (List.mem_cons_of_mem _ z))
        unfold Rw1
        rw [upd_ne (fun z => hn (by rw [← z]; exact List.mem_cons_self))]
        exact q
    exact key h1 t
  | _, _, i + 1, @Paired.cons _ _ _ b r bs rs h t, nd, e, ey => by
    obtain ⟨h1, h2⟩ := List.nodup_cons.mp nd
    refine .cons ?_ (paired_upd (i := i) t h2 e ey)
    unfold Rw1
    rw [upd_ne (fun z => h1 (by rw [z]; exact List.mem_of_getElem? e))]
    exact h
  | _, _, 0, .nil, _, e, _ => by cases e
  | _, _, i + 1, .nil, _, e, _ => by cases e
/-- a comprehension of fresh things: each element a new object -/
theorem lc_new {α : Type} {J : It} {n : Nat} {G : Hp → Prop} {Y : Nat → Hp → V → Hp → Prop} (w : Walk J n G Y) (R : Hp → Addr → α → Prop) (hR : ∀ {H H' : Hp} {x : Addr} {y : α}, Same H H' → R H x y → R H' x y) (hput : ∀ {H : Hp} {D x : Addr} {ds : List Addr} {ws : List V} {y : α}, H D = some (.lst (ds.map V.ref)) → x ≠ D → R H x y → R (upd H D (.lst ws)) x y) (hin : ∀ {H : Hp} {x : Addr} {y : α}, R H x y → ∃ o, H x = some o) (f : Nat → α) (hn : n ≤ 1000)
    {g : TG} {te : TE} {vs : List Nat} {σ : L2.St} {H1 : Hp} {D : Addr} {Qd : Hp → Prop} (nD : H1 D = none) (hG : ∀ H, Same H1 H → G H)
    (hs : ∀ i x H H' (Q : VK), i < n → Same H1 H → Y i H x H' → (∀ y H4, Same H H4 → H y = none → R H4 y (f i) → Q (.ref y) H4) → g x (wipe σ vs) H' fun σ2 H2 => wipe σ2 vs = wipe σ vs ∧ te σ2 H2 Q)
    (hd : ∀ H as, Same H1 H → H D = some (.lst (as.map V.ref)) → as.Nodup → (∀ x ∈ as, H1 x = none ∧ x ≠ D) → Paired (R H) as ((List.range n).map f) → Qd H) :
    ∃ W : Nat → Nat → Hp → Prop, (∃ m, W 0 m (upd H1 D (.lst []))) ∧ ∀ i m H, W i m H →
      (J.stop i H ∧ Qd H) ∨ (J.go i H ∧ ∃ Nx : Hp → Prop, (∀ H', Nx H' → ∃ m', m' < m ∧ W (i + 1) m' H') ∧ ∀ x H', J.yld i H x H' → g x (wipe σ vs) H' fun σ2 H2 => wipe σ2 vs = wipe σ vs ∧ tYes σ2 H2 fun b H3 =>
        if b = true then te σ2 H3 fun y H4 => ∃ acc, H4 D = some (.lst acc) ∧ acc.length < sizeLine ∧ Nx (upd H4 D (.lst (acc ++ [y]))) else Nx H3) := by
  refine lc_it w (fun i H => i ≤ n ∧ Same H1 H ∧ ∃ as : List Addr, H D = some (.lst (as.map V.ref)) ∧ as.Nodup ∧ (∀ x ∈ as, H1 x = none ∧ x ≠ D) ∧ Paired (R H) as ((List.range i).map f)) ⟨Nat.zero_le n, same_new nD, [], upd_same, List.nodup_nil, (fun x hx => by cases hx), .nil⟩ (fun i H _ h => hG H h.2.1) (fun i x H H' hi hP hY => ?_) (fun H hP => ?_)
  · obtain ⟨_, sm, as, eD, nd, hno, hp⟩ := hP
    have hlen : as.length = i := by
      have := Paired.length hp
      rw [List.length_map, List.length_range] at this
      exact this
    have z := hs i x H H' (fun y H4 => ∃ acc, H4 D = some (.lst acc) ∧ acc.length < sizeLine ∧ (i + 1 ≤ n ∧ Same H1 (upd H4 D (.lst (acc ++ [y]))) ∧ ∃ as : List Addr, (upd H4 D (.lst (acc ++ [y]))) D = some (.lst (as.map V.ref)) ∧ as.Nodup ∧ (∀ x ∈ as, H1 x = none ∧ x ≠ D) ∧ Paired (R (upd H4 D (.lst (acc ++ [y])))) as ((List.range (i + 1)).map f))) hi sm hY (fun y H4 sm4 ny r => by
      have eD4 := sm4 _ _ eD
      have hyD : y ≠ D := fun q => by rw [q, eD] at ny; cases ny
      have hall : ∀ x ∈ as ++ [y], H1 x = none ∧ x ≠ D := fun x hx => by
        rcases List.mem_append.mp hx with hx | hx
        · exact hno x hx
        · rw [List.mem_singleton.mp hx]
          exact ⟨sm.free ny, hyD⟩
      have hnd : (as ++ [y]).Nodup := by
        rw [List.nodup_append]
        refine ⟨nd, List.nodup_cons.mpr ⟨by simp, List.nodup_nil⟩, fun a ha b hb e => ?_⟩
        rw [List.mem_singleton.mp hb] at e
        obtain ⟨j, hj⟩ := List.mem_iff_getElem?.mp ha
        obtain ⟨z, _, hz⟩ := paired_get hp hj
        obtain ⟨o, ho⟩ := hin hz
        rw [e, ny] at ho
        cases ho
      refine ⟨as.map V.ref, eD4, small2000 (by rw [List.length_map]; omega), hi, same_mut (sm.trans sm4) nD, as ++ [y], by rw [upd_same, List.map_append]; rfl, hnd, hall, ?_⟩
      rw [List.range_succ, List.map_append]
      have up : ∀ {cs : List Addr} {M : List α}, (∀ x ∈ cs, x ≠ D) → Paired (R H4) cs M → Paired (R (upd H4 D (.lst (as.map V.ref ++ [V.ref y])))) cs M := by
        intro cs M hc q
        induction q with
        | nil => exact .nil
        | cons q _ ih => exact .cons (hput eD4 (hc _ List.mem_cons_self) q) (ih fun x hx => hc x (List.mem_cons_of_mem _ hx))
      exact up (fun x hx => (hall x hx).2) (paired_add (paired_via (fun _ _ q => hR sm4 q) hp) r))
    exact z
  · obtain ⟨_, sm, as, eD, nd, hno, hp⟩ := hP
    exact hd H as sm eD nd hno hp
/-! slices and sums of tuples -/
theorem slA_q {H : Hp} {a : Addr} {xs : List V} {lo hi : Option Int} {Q : VK} (h : SqT K H a xs) (q : ∀ t H', Same H H' → SqT K H' t (cutV xs lo hi) → Q (.ref t) H') : rSlA K (.ref a) lo hi H Q := by
  refine ⟨a, xs, rfl, h, fun ⟨h0, h1⟩ => q a H (Same.refl H) ?_, fun _ t nt => q t _ (same_new nt) (.inl (.inl upd_same))⟩
  unfold cutV
  rw [h0, h1, List.drop_zero, Nat.sub_zero, List.take_length]
  exact h
theorem catA_q {H : Hp} {a b : Addr} {xs ys : List V} {Q : VK} (hx : SqT K H a xs) (hy : SqT K H b ys) (hl : xs.length + ys.length ≤ 2000) (q : ∀ t H', Same H H' → SqT K H' t (xs ++ ys) → Q (.ref t) H') : rCatA K (.ref a) (.ref b) H Q := by
  refine ⟨a, b, xs, ys, rfl, rfl, hx, hy, Nat.le_of_lt (small2000 (by omega)), fun e => q b H (Same.refl H) ?_, fun _ e => q a H (Same.refl H) ?_, fun _ _ t nt => q t _ (same_new nt) (.inl (.inl upd_same))⟩
  · rw [e, List.nil_append]
    exact hy
  · rw [e, List.append_nil]
    exact hx
/-! ### _law_made: the mirror -/
abbrev PwE : Type := Nat × Nat × Int
abbrev CjE : Type := Nat × Nat × List (Nat × Int)
def trP (x : PwE) : Tr := .tup [.int (x.1 : Int), .int (x.2.1 : Int), .int x.2.2]
def trE (y : Nat × Int) : Tr := .tup [.int (y.1 : Int), .int y.2]
def trC (x : CjE) : Tr := .tup [.int (x.1 : Int), .int (x.2.1 : Int), .lst (x.2.2.map trE)]
def putR (L : List (List Int)) (x : PwE) : List (List Int) := L.set x.1 ((L.getD x.1 []).set x.2.1 x.2.2)
def madeP (n : Nat) (pws : List PwE) : List (List Int) := pws.foldl putR (List.replicate n (zeroR n))
def rows0 (n : Nat) : List (List (List Int)) := (List.range n).map fun i => (List.range (n - (i + 1))).map fun m => unitR n (i + 1 + m)
def pairR (n : Nat) (prs : List (Nat × Int)) : List Int := prs.foldl (fun r y => r.set y.1 y.2) (zeroR n)
def putC (n : Nat) (C : List (List (List Int))) (x : CjE) : List (List (List Int)) := C.set x.1 ((C.getD x.1 []).set (x.2.1 - x.1 - 1) (pairR n x.2.2))
def madeC (n : Nat) (cjs : List CjE) : List (List (List Int)) := cjs.foldl (putC n) (rows0 n)
def madeT (ps : List Int) (pws : List PwE) (cjs : List CjE) : Tb := ⟨ps, madeP ps.length pws, madeC ps.length cjs⟩
theorem putR_len {L : List (List Int)} {n : Nat} (x : PwE) (h : L.length = n ∧ ∀ r ∈ L, r.length = n) (hx : x.1 < n) : (putR L x).length = n ∧ ∀ r ∈ putR L x, r.length = n := by
  unfold putR
  refine ⟨by rw [List.length_set]; exact h.1, fun r hr => ?_⟩
  rcases List.mem_or_eq_of_mem_set hr with hr | rfl
  · exact h.2 r hr
  · rw [List.length_set, getD_some (List.getElem?_eq_getElem (by rw [h.1]; exact hx))]
    exact h.2 _ (List.getElem_mem _)
theorem take_fold {α β : Type} (f : β → α → β) (b : β) (l : List α) {i : Nat} {x : α} (h : l[i]? = some x) : (l.take (i + 1)).foldl f b = f ((l.take i).foldl f b) x := by
  rw [List.take_add_one, h, List.foldl_append]
  rfl
theorem foldP_len {n : Nat} : ∀ (pws : List PwE) {L : List (List Int)}, (∀ x ∈ pws, x.1 < n) → (L.length = n ∧ ∀ r ∈ L, r.length = n) → ((pws.foldl putR L).length = n ∧ ∀ r ∈ pws.foldl putR L, r.length = n)
  | [], _, _, h => h
  | x :: pws, L, hx, h => foldP_len pws (fun y hy => hx y (List.mem_cons_of_mem _ hy)) (putR_len x h (hx x (List.mem_cons_self ..)))
theorem rep_len (n : Nat) : (List.replicate n (zeroR n)).length = n ∧ ∀ r ∈ List.replicate n (zeroR n), r.length = n := ⟨List.length_replicate, fun r hr => by
  rw [List.eq_of_mem_replicate hr]
  exact List.length_replicate⟩
/-- the shape of the conjugates -/
def CSh (n : Nat) (C : List (List (List Int))) : Prop := C.length = n ∧ ∀ (i : Nat) (M : List (List Int)), C[i]? = some M → M.length = n - (i + 1) ∧ ∀ r ∈ M, r.length = n
theorem pairR_len {n : Nat} : ∀ (prs : List (Nat × Int)) (r : List Int), r.length = n → (prs.foldl (fun r y => r.set y.1 y.2) r).length = n
  | [], _, h => h
  | y :: prs, r, h => pairR_len prs _ (by rw [List.length_set]; exact h)
theorem putC_sh {n : Nat} {C : List (List (List Int))} (x : CjE) (h : CSh n C) (hx : x.1 < n) : CSh n (putC n C x) := by
  unfold putC
  refine ⟨by rw [List.length_set]; exact h.1, fun i M e => ?_⟩
  rw [List.getElem?_set] at e
  by_cases c : x.1 = i
  · subst c
    rw [if_pos rfl, if_pos (by rw [h.1]; exact hx)] at e
    cases e
    have hx2 : x.1 < C.length := by rw [h.1]; exact hx
    have e1 : C[x.1]? = some C[x.1] := List.getElem?_eq_getElem hx2
    obtain ⟨h1, h2⟩ := h.2 _ _ e1
    rw [getD_some e1]
    refine ⟨by rw [List.length_set]; exact h1, fun r hr => ?_⟩
    rcases List.mem_or_eq_of_mem_set hr with hr | rfl
    · exact h2 r hr
    · exact pairR_len _ _ List.length_replicate
  · rw [if_neg c] at e
    exact h.2 i M e
theorem rows0_sh (n : Nat) : CSh n (rows0 n) := by
  unfold rows0
  refine ⟨by rw [List.length_map, List.length_range], fun i M e => ?_⟩
  rw [List.getElem?_map] at e
  have hi : i < n := by
    rcases Nat.lt_or_ge i n with h | h
    · exact h
    · rw [List.getElem?_eq_none (by rw [List.length_range]; exact h)] at e
      cases e
  rw [List.getElem?_range hi] at e
  cases e
  refine ⟨by rw [List.length_map, List.length_range], fun r hr => ?_⟩
  obtain ⟨m, _, rfl⟩ := List.mem_map.mp hr
  unfold unitR
  rw [List.length_map, List.length_range]
theorem foldC_sh {n : Nat} : ∀ (cjs : List CjE) {C : List (List (List Int))}, (∀ x ∈ cjs, x.1 < n) → CSh n C → CSh n (cjs.foldl (putC n) C)
  | [], _, _, h => h
  | x :: cjs, C, hx, h => foldC_sh cjs (fun y hy => hx y (List.mem_cons_of_mem _ hy)) (putC_sh x h (hx x (List.mem_cons_self ..)))
/-! ### _law_made -/
theorem same_sql {H H' : Hp} {a : Addr} {xs : List V} (e : Same H H') (h : SqL K H a xs) : SqL K H' a xs := by
  rcases h with (h | ⟨o, h⟩) | h
  · exact .inl (.inl (e _ _ h))
  · exact .inl (.inr ⟨o, e _ _ h⟩)
  · exact .inr h
theorem has_int {H : Hp} {v : V} {i : Int} (h : Has K H v (.int i)) : v = .int i := by cases h; rfl
theorem has_lst {H : Hp} {v : V} {ts : List Tr} (h : Has K H v (.lst ts)) : ∃ a us, v = .ref a ∧ H a = some (.lst us) ∧ us.length = ts.length ∧ ∀ (i : Nat) (u : V) (t : Tr), us[i]? = some u → ts[i]? = some t → Has K H u t := by
  cases h with
  | lst h l g => exact ⟨_, _, rfl, h, l, g⟩
theorem has_tup {H : Hp} {v : V} {ts : List Tr} (h : Has K H v (.tup ts)) : ∃ a us, v = .ref a ∧ SqT K H a us ∧ us.length = ts.length ∧ ∀ (i : Nat) (u : V) (t : Tr), us[i]? = some u → ts[i]? = some t → Has K H u t := by
  cases h with
  | tup h l g => exact ⟨_, _, rfl, h, l, g⟩
theorem has_tup3 {H : Hp} {v : V} {a b c : Tr} (h : Has K H v (.tup [a, b, c])) : ∃ t x y z, v = .ref t ∧ SqT K H t [x, y, z] ∧ Has K H x a ∧ Has K H y b ∧ Has K H z c := by
  obtain ⟨t, us, rfl, hS, hl, g⟩ := has_tup h
  match us, hl with
  | [x, y, z], _ => exact ⟨t, x, y, z, rfl, hS, g 0 _ _ rfl rfl, g 1 _ _ rfl rfl, g 2 _ _ rfl rfl⟩
theorem has_tup2 {H : Hp} {v : V} {a b : Tr} (h : Has K H v (.tup [a, b])) : ∃ t x y, v = .ref t ∧ SqT K H t [x, y] ∧ Has K H x a ∧ Has K H y b := by
  obtain ⟨t, us, rfl, hS, hl, g⟩ := has_tup h
  match us, hl with
  | [x, y], _ => exact ⟨t, x, y, rfl, hS, g 0 _ _ rfl rfl, g 1 _ _ rfl rfl⟩
theorem range_zero (n : Nat) : (List.range n).map (fun _ => (0 : Int)) = zeroR n := by
  unfold zeroR
  rw [List.map_const', List.length_range]
def rTupL (K : PySem.W.Frag) : List V → Hp → VK → Prop := fun xs H Q => ∃ p ys, xs = [.ref p] ∧ SqL K H p ys ∧ ∀ (l : Addr) (ob : Obj), H l = none → ob.dict = none → Q (.ref l) (upd H l (.frz ob (.tup ys)))
theorem call_tupL {X : Cx} : CallR X (.type "tuple") (rTupL X.K) := Own.call_tuple_ofF
def spMade (K : PySem.W.Frag) : Sp := fun vs H Q _ => ∃ (l : Addr) (u v : V) (ps : List Int) (pws : List PwE) (cjs : List CjE), vs = [.ref l, u, v] ∧ SqL K H l (ps.map V.int) ∧ Has K H u (.lst (pws.map trP)) ∧ Has K H v (.lst (cjs.map trC)) ∧ ps.length ≤ 100 ∧ (∀ x ∈ pws, x.1 < ps.length ∧ x.2.1 < ps.length) ∧
  (∀ x ∈ cjs, x.1 < x.2.1 ∧ x.2.1 < ps.length ∧ ∀ y ∈ x.2.2, y.1 < ps.length) ∧ ∀ z H', Same H H' → TbAt K H' z (madeT ps pws cjs) → Q z H'
theorem ixN_ok {n k : Nat} (h : k < n) : ixN n (k : Int) = some k := by
  unfold ixN
  rw [if_pos (by omega), if_pos (by omega)]
  rfl
/-- a list of rows, none empty -/
def Rws1 (H : Hp) (x : Addr) (M : List (List Int)) : Prop := ∃ bs : List Addr, H x = some (.lst (bs.map V.ref)) ∧ Paired (Rw1 H) bs M ∧ ∀ r ∈ M, r ≠ []
theorem refs_ints {bs : List Addr} {r : List Int} (h : bs.map V.ref = r.map V.int) : r = [] := by
  cases r with
  | nil => rfl
  | cons x r =>
    cases bs with
    | nil => cases h
    | cons b bs => cases h
theorem rw1_upd {H : Hp} {x y : Addr} {bs : List Addr} {r : List Int} {o : HO} (hx : H x = some (.lst (bs.map V.ref))) (hr : r ≠ []) (h : Rw1 H y r) : Rw1 (upd H x o) y r := by
  unfold Rw1 at h ⊢
  rw [upd_ne (fun z => by
    rw [z, hx] at h
    injection h with h
    injection h with h
    exact hr (refs_ints h))]
  exact h
theorem rws_upd {H : Hp} {x y : Addr} {bs : List Addr} {M : List (List Int)} {o : HO} (hx : H x = some (.lst (bs.map V.ref))) (ne : y ≠ x) (h : Rws1 H y M) : Rws1 (upd H x o) y M := by
  obtain ⟨cs, h1, h2, h3⟩ := h
  refine ⟨cs, by rw [upd_ne ne]; exact h1, ?_, h3⟩
  have key : ∀ {cs : List Addr} {M : List (List Int)}, (∀ r ∈ M, r ≠ []) → Paired (Rw1 H) cs M → Paired (Rw1 (upd H x o)) cs M := by
    intro cs M hM q
    induction q with
    | nil => exact .nil
    | cons q _ ih => exact .cons (rw1_upd hx (hM _ List.mem_cons_self) q) (ih fun r hr => hM r (List.mem_cons_of_mem _ hr))
  exact key h3 h2
/-- the rows of the conjugates while they are made -/
structure LLL (H0 H : Hp) (a : Addr) (C : List (List (List Int))) : Prop where
  ex : ∃ as : List Addr, H a = some (.lst (as.map V.ref)) ∧ as.Nodup ∧ Paired (Rws1 H) as C ∧ (∀ x ∈ as, H0 x = none ∧ x ≠ a) ∧ H0 a = none
theorem rws_mono {H H' : Hp} (e : Same H H') {x : Addr} {M : List (List Int)} (h : Rws1 H x M) : Rws1 H' x M := let ⟨bs, h1, h2, h3⟩ := h; ⟨bs, e _ _ h1, paired_via (fun _ _ q => e _ _ q) h2, h3⟩
theorem LLL.mono {H0 H H' : Hp} {a : Addr} {C : List (List (List Int))} (e : Same H H') (h : LLL H0 H a C) : LLL H0 H' a C := by
  obtain ⟨as, h1, h2, h3, h4⟩ := h.ex
  exact ⟨as, e _ _ h1, h2, paired_via (fun _ _ q => rws_mono e q) h3, h4⟩
/-- one row of one list is put in -/
theorem LLL.put {H0 H : Hp} {a : Addr} {C : List (List (List Int))} (h : LLL H0 H a C) {i k : Nat} {M : List (List Int)} {ro : Addr} {r : List Int} (ei : C[i]? = some M) (hk : k < M.length) (hro : Rw1 H ro r) (hr : r ≠ []) :
    ∃ (as : List Addr) (x : Addr) (bs : List Addr), H a = some (.lst (as.map V.ref)) ∧ as[i]? = some x ∧ H x = some (.lst (bs.map V.ref)) ∧ k < bs.length ∧ H0 x = none ∧ LLL H0 (upd H x (.lst ((bs.map V.ref).set k (.ref ro)))) a (C.set i (M.set k r)) := by
  obtain ⟨as, h1, h2, h3, h4, h5⟩ := h.ex
  obtain ⟨x, ex, hx⟩ := paired_get2 h3 ei
  obtain ⟨bs, hb1, hb2, hb3⟩ := hx
  have hlen := Paired.length hb2
  obtain ⟨z1, z2⟩ := h4 x (List.mem_of_getElem? ex)
  refine ⟨as, x, bs, h1, ex, hb1, by omega, z1, as, by rw [upd_ne (Ne.symm z2)]; exact h1, h2, ?_, h4, h5⟩
  have key : ∀ {as : List Addr} {C : List (List (List Int))} {i : Nat}, Paired (Rws1 H) as C → as.Nodup → as[i]? = some x → Paired (Rws1 (upd H x (.lst ((bs.map V.ref).set k (.ref ro))))) as (C.set i (M.set k r)) := by
    intro as C i q
    induction q generalizing i with
    | nil => intro _ e; cases e
    | @cons y N as C q t ih =>
      intro nd e
      obtain ⟨n1, n2⟩ := List.nodup_cons.mp nd
      cases i with
      | zero =>
        cases e
        refine .cons ⟨bs.set k ro, by rw [upd_same, List.map_set], ?_, fun r' hr' => ?_⟩ ?_
        · have up : ∀ {cs : List Addr} {N : List (List Int)}, (∀ r ∈ N, r ≠ []) → Paired (Rw1 H) cs N → Paired (Rw1 (upd H x (.lst ((bs.map V.ref).set k (.ref ro))))) cs N := by
            intro cs N hN q
            induction q with
            | nil => exact .nil
            | cons q _ ih => exact .cons (rw1_upd hb1 (hN _ List.mem_cons_self) q) (ih fun r hr => hN r (List.mem_cons_of_mem _ hr))
          have st : ∀ {R : Addr → List Int → Prop} {as : List Addr} {L : List (List Int)} {k : Nat}, Paired R as L → R ro r → Paired R (as.set k ro) (L.set k r) := by
            intro R as L k q
            induction q generalizing k with
            | nil => intro _; exact .nil
            | cons q t ih =>
              intro hh
              cases k with
              | zero => exact .cons hh t
              | succ k => exact .cons q (ih hh)
          exact st (up hb3 hb2) (rw1_upd hb1 hr hro)
        · rcases List.mem_or_eq_of_mem_set hr' with hr' | rfl
          · exact hb3 r' hr'
          · exact hr
        · have up : ∀ {cs : List Addr} {N : List (List (List Int))}, x ∉ cs → Paired (Rws1 H) cs N → Paired (Rws1 (upd H x (.lst ((bs.map V.ref).set k (.ref ro))))) cs N := by
            intro cs N hn q
            induction q with
            | nil => exact .nil
            | cons q _ ih => exact .cons (rws_upd hb1 (fun z => hn (by rw [← z]; exact List.mem_cons_self)) q) (ih fun z => hn (List.mem_cons_of_mem _ z))
          exact up n1 t
      | succ i => exact .cons (rws_upd hb1 (fun z => n1 (by rw [z]; exact List.mem_of_getElem? e)) q) (ih n2 e)
  exact key h3 h2 ex
theorem range_getD {α : Type} {L : List α} (d : α) {n : Nat} (h : L.length = n) : (List.range n).map (fun i => L.getD i d) = L := by
  subst h
  exact map_range _ _ fun i x e => getD_some e
theorem st_Tup1 : Stable (Tup1 K) := ⟨fun e h => tup1_tps (Tps.of e) h, fun e h => tup1_tps (Tps.x SameX.put e) h⟩
theorem ok_made (T : Txt K mg) : FnOk P w K mg base CX0 1 T.a__law_made T.d__law_made ["primes", "powers", "conjugates"] (spMade K) := by
  refine T.F__law_made.ok sc__law_made (fun vs H Q E h => ?_) (fun cdv A outer s H vs Q E hr h => ?_)
  · obtain ⟨l, u, v, ps, pws, cjs, rfl, _⟩ := h
    rfl
  · obtain ⟨l, u, v, ps, pws, cjs, rfl, hl, hu, hv, hn, hpw, hcj, q⟩ := h
    obtain ⟨b, us, rfl, eb, hbl, hbg⟩ := has_lst hu
    obtain ⟨c, ws, rfl, ec, hcl, hcg⟩ := has_lst hv
    refine ⟨_, (pss_cons (ps_set (i := 3) sc__law_made.nd rfl (.inr rfl) (pe_callB call_len_seq (by rfl) T.n_len (by decide +kernel) (pa_cons (pv 0) pa_nil))) 
    (C8.pss_cut (ps_setLc (i := 6) (own := [("i", 4)]) rfl sc__law_made.nd rfl rfl (sw_true rfl rfl rfl (by decide +kernel)) (pi_range1 (by rfl) T.n_range (pa_cons (pv 3) pa_nil)) (blkOk_by (N := N__law_made) (sc := defScope s__law_made) (own := [("i", 4)]) (by decide +kernel)) (fun _ _ _ _ _ => (pg_name (i := 4) sc__law_made.nd rfl (.inl rfl))) (fun _ _ _ _ _ => pts_nil) (fun _ _ _ _ _ => (pe_lc (own := [("k", 5)]) rfl sc__law_made.nd (pi_range1 (by rfl) T.n_range (pa_cons (pv 3) pa_nil)) (blkOk_by (N := N__law_made) (own := [("k", 5)]) (by rfl)) (fun _ _ _ _ _ => (pg_name (i := 5) sc__law_made.nd rfl (.inl rfl))) (fun _ _ _ _ _ => pts_nil) (fun _ _ _ _ _ => pe_int)))) 
    (C8.pss_cut (ps_for PassesOwn.never rfl (pi_list (pv 1)) (pg_tup rfl (pgs_cons (pg_name (i := 4) sc__law_made.nd rfl (.inl rfl)) (pgs_cons (pg_name (i := 5) sc__law_made.nd rfl (.inl rfl)) (pgs_cons (pg_name (i := 7) sc__law_made.nd rfl (.inl rfl)) pgs_nil)))) 
      (pss_one (ps_asg (pv 7) (pg_sub (pe_ix ix_list (pv 6) (pv 4) (fun _ _ => rfl)) (pv 5) set_list)))) 
    (C8.pss_cut (ps_setLc (i := 9) (own := [("i", 4)]) rfl sc__law_made.nd rfl rfl (sw_true rfl rfl rfl (by decide +kernel)) (pi_range1 (by rfl) T.n_range (pa_cons (pv 3) pa_nil)) (blkOk_by (N := N__law_made) (sc := defScope s__law_made) (own := [("i", 4)]) (by decide +kernel)) (fun _ _ _ _ _ => (pg_name (i := 4) sc__law_made.nd rfl (.inl rfl))) (fun _ _ _ _ _ => pts_nil) (fun _ _ _ _ _ => (pe_lc (own := [("j", 8)]) rfl sc__law_made.nd (pi_range2 (by rfl) T.n_range (pa_cons (pe_op op_add (pv 4) pe_int) (pa_cons (pv 3) pa_nil))) (blkOk_by (N := N__law_made) (own := [("j", 8)]) (by rfl)) (fun _ _ _ _ _ => (pg_name (i := 8) sc__law_made.nd rfl (.inr rfl))) (fun _ _ _ _ _ => pts_nil) (fun _ _ _ _ _ => (pe_lc (own := [("k", 5)]) rfl sc__law_made.nd (pi_range1 (by rfl) T.n_range (pa_cons (pv 3) pa_nil)) (blkOk_by (N := N__law_made) (own := [("k", 5)]) (by rfl)) (fun _ _ _ _ _ => (pg_name (i := 5) sc__law_made.nd rfl (.inl rfl))) (fun _ _ _ _ _ => pts_nil) (fun _ _ _ _ _ => (pe_callTy call_int1 (by rfl) T.n_int (by decide +kernel) (pa_cons (pe_cmpR op_eq (pv 5) (pv 8) (nomark _)) pa_nil)))))))) 
    (C8.pss_cut (ps_for PassesOwn.never rfl (pi_list (pv 2)) (pg_tup rfl (pgs_cons (pg_name (i := 4) sc__law_made.nd rfl (.inl rfl)) (pgs_cons (pg_name (i := 8) sc__law_made.nd rfl (.inl rfl)) (pgs_cons (pg_name (i := 10) sc__law_made.nd rfl (.inl rfl)) pgs_nil)))) 
      (pss_cons (ps_setLc (i := 11) (own := [("k", 5)]) rfl sc__law_made.nd rfl rfl (sw_true rfl rfl rfl (by decide +kernel)) (pi_range1 (by rfl) T.n_range (pa_cons (pv 3) pa_nil)) (blkOk_by (N := N__law_made) (sc := defScope s__law_made) (own := [("k", 5)]) (by decide +kernel)) (fun _ _ _ _ _ => (pg_name (i := 5) sc__law_made.nd rfl (.inl rfl))) (fun _ _ _ _ _ => pts_nil) (fun _ _ _ _ _ => pe_int)) 
      (pss_cons (ps_for PassesOwn.never rfl (pi_list (pv 10)) (pg_tup rfl (pgs_cons (pg_name (i := 5) sc__law_made.nd rfl (.inl rfl)) (pgs_cons (pg_name (i := 7) sc__law_made.nd rfl (.inl rfl)) pgs_nil))) 
        (pss_one (ps_asg (pv 7) (pg_sub (pv 11) (pv 5) set_list)))) 
      (pss_one (ps_asg (pv 11) (pg_sub (pe_ix ix_list (pv 9) (pv 4) (fun _ _ => rfl)) (pe_op op_sub (pe_op op_sub (pv 8) (pv 4)) pe_int) set_list)))))) 
    (pss_one (ps_ret (pe_tup (pa_cons (pe_callTy call_tuple_of (by rfl) T.n_tuple (by decide +kernel) (pa_cons (pv 0) pa_nil)) (pa_cons (pe_callTy call_tuple_of (by rfl) T.n_tuple (by decide +kernel) (pa_cons (pe_lc (own := [("row", 11)]) rfl sc__law_made.nd (pi_list (pv 6)) (blkOk_by (N := N__law_made) (sc := defScope s__law_made) (own := [("row", 11)]) (by decide +kernel)) (fun _ _ _ _ _ => (pg_name (i := 11) sc__law_made.nd rfl (.inl rfl))) (fun _ _ _ _ _ => pts_nil) (fun _ _ _ _ _ => (pe_callTy (show CallR _ (.type "tuple") (rTupL K) from call_tupL) (by rfl) T.n_tuple (by decide +kernel) (pa_cons (pv 11) pa_nil)))) pa_nil)) (pa_cons (pe_callTy call_tuple_of (by rfl) T.n_tuple (by decide +kernel) (pa_cons (pe_lc (own := [("part", 12)]) rfl sc__law_made.nd (pi_list (pv 9)) (blkOk_by (N := N__law_made) (sc := defScope s__law_made) (own := [("part", 12)]) (by decide +kernel)) (fun _ _ _ _ _ => (pg_name (i := 12) sc__law_made.nd rfl (.inl rfl))) (fun _ _ _ _ _ => pts_nil) (fun _ _ _ _ _ => (pe_callTy (show CallR _ (.type "tuple") (rTupL K) from call_tupL) (by rfl) T.n_tuple (by decide +kernel) (pa_cons (pe_lc (own := [("row", 11)]) rfl sc__law_made.nd (show PI _ _ _ (Own.iSeq K _) from Own.pi_seq (pv 12)) (blkOk_by (N := N__law_made) (own := [("row", 11)]) (by rfl)) (fun _ _ _ _ _ => (pg_name (i := 11) sc__law_made.nd rfl (.inl rfl))) (fun _ _ _ _ _ => pts_nil) (fun _ _ _ _ _ => (pe_callTy (show CallR _ (.type "tuple") (rTupL K) from call_tupL) (by rfl) T.n_tuple (by decide +kernel) (pa_cons (pv 11) pa_nil)))) pa_nil)))) pa_nil)) pa_nil))))))))))), ?_⟩
    refine ⟨_, rfl, l, _, rfl, .inl hl, ?_⟩
    generalize hN : ps.length = n at *
    rw [List.length_map, hN]
    -- own
    refine ⟨fun σ H' => Same H H' ∧ ∃ a, LL H H' a (List.replicate n (zeroR n)) ∧ σ = [some (.ref l), some (.ref b), some (.ref c), some (.int (n : Int)), none, none, some (.ref a), none, none, none, none, none, none], ?_, ?_⟩
    · refine ⟨_, rfl, (n : Int), rfl, by omega, by omega, fun D nD => ?_⟩
      refine lc_new (walk_range (lo := 0) (n := n)) Rw1 (fun e q => e _ _ q) (fun _ ne q => by unfold Rw1; rw [upd_ne ne]; exact q) (fun q => ⟨_, q⟩) (fun _ => zeroR n) (by omega) nD (fun _ _ => trivial) (fun i x H1 H2 Q2 hi sm hY q2 => ?_) (fun H1 as sm eD nd hf hp => ?_)
      · obtain ⟨rfl, rfl⟩ := hY
        refine ⟨rfl, _, rfl, (n : Int), rfl, by omega, by omega, fun D2 nD2 => ?_⟩
        refine lc_rep (walk_range (lo := 0) (n := n)) st_RI (fun _ => 0) (by omega) nD2 (fun _ _ => trivial) (fun i x H3 H4 Q3 hi sm3 hY q3 => ?_) (fun H3 acc sm3 eD2 hp => ?_)
        · obtain ⟨rfl, rfl⟩ := hY
          exact ⟨rfl, q3 _ _ (Same.refl _) rfl⟩
        · have e := ints_of hp
          rw [range_zero] at e
          subst e
          exact q2 D2 H3 sm3 nD2 eD2
      · refine ⟨sm, D, ⟨as, eD, nd, ?_, hf, nD⟩, rfl⟩
        rw [List.map_const', List.length_range] at hp
        exact hp
    rintro σ1 H1 ⟨sm1, a, hLL, rfl⟩
    -- own[i][k] = e
    refine ⟨fun σ H' => Same H H' ∧ LL H H' a (madeP n pws) ∧ ∃ y4 y5 y7, σ = [some (.ref l), some (.ref b), some (.ref c), some (.int (n : Int)), y4, y5, some (.ref a), y7, none, none, none, none, none], ?_, ?_⟩
    · refine ⟨_, rfl, b, rfl, ⟨_, .inl (.inl (sm1 _ _ eb))⟩, for_list (xs := us) (fun j σ H' => Same H H' ∧ LL H H' a ((pws.take j).foldl putR (List.replicate n (zeroR n))) ∧ ∃ y4 y5 y7, σ = [some (.ref l), some (.ref b), some (.ref c), some (.int (n : Int)), y4, y5, some (.ref a), y7, none, none, none, none, none])
        ⟨sm1, hLL, none, none, none, rfl⟩ (fun j σ H' _ ⟨sm, _⟩ => .inl (.inl (sm _ _ eb))) ?_ ?_⟩
      · rintro j x σ H' hj ⟨sm, hL, y4, y5, y7, rfl⟩
        have hjl : j < pws.length := by
          have := (List.getElem?_eq_some_iff.mp hj).1
          rw [hbl, List.length_map] at this
          exact this
        have ep : pws[j]? = some pws[j] := List.getElem?_eq_getElem hjl
        have hx := hbg j x (trP pws[j]) hj (by rw [List.getElem?_map, ep]; rfl)
        obtain ⟨hx1, hx2⟩ := hpw _ (List.getElem_mem hjl)
        generalize pws[j] = z at *
        obtain ⟨t, u0, u1, u2, rfl, hS, g0, g1, g2⟩ := has_tup3 hx
        have e0 := has_int g0
        have e1 := has_int g1
        have e2 := has_int g2
        subst e0
        subst e1
        subst e2
        refine ⟨t, _, rfl, Own.same_tup sm hS, rfl, _, _, rfl, _, _, rfl, _, [], rfl, rfl, ?_⟩
        obtain ⟨as, h1, h2, h3, h4, h5⟩ := hL.ex
        have hl3 := foldP_len (pws.take j) (fun x hx => (hpw x (List.mem_of_mem_take hx)).1) (rep_len n)
        have hi : z.1 < ((pws.take j).foldl putR (List.replicate n (zeroR n))).length := by rw [hl3.1]; exact hx1
        have er := List.getElem?_eq_getElem hi
        obtain ⟨x0, ex0, hx0⟩ := paired_get2 h3 er
        have hrl := hl3.2 _ (List.getElem_mem hi)
        generalize hrr : ((pws.take j).foldl putR (List.replicate n (zeroR n)))[z.1] = r at *
        have hx0' : H' x0 = some (.lst (r.map V.int)) := hx0
        refine ⟨_, rfl, _, rfl, _, rfl, a, _, _, .ref x0, rfl, rfl, .inl (.inl h1), atI_nat (by rw [List.getElem?_map, ex0]; rfl), _, rfl, x0, _, _, z.2.1, rfl, rfl, hx0', ixN_ok (by rw [List.length_map]; omega), ?_⟩
        obtain ⟨f1, f2⟩ := h4 x0 (List.mem_of_getElem? ex0)
        refine ⟨same_mut sm f1, ⟨as, by rw [upd_ne (Ne.symm f2)]; exact h1, h2, ?_, h4, h5⟩, _, _, _, rfl⟩
        rw [take_fold putR _ pws ep]
        show Paired _ as ((List.set _ z.1 ((List.getD _ z.1 []).set z.2.1 z.2.2)))
        rw [getD_some er]
        exact paired_upd h3 h2 ex0 (by rw [List.map_set])
      · rintro σ H' ⟨sm, hL, y4, y5, y7, rfl⟩
        rw [hbl, List.length_map, List.take_length] at hL
        exact ⟨sm, hL, y4, y5, y7, rfl⟩
    clear hLL sm1
    rintro σ2 H2 ⟨sm2, hLL, y4, y5, y7, rfl⟩
    refine ⟨fun σ H' => Same H2 H' ∧ ∃ d, LLL H2 H' d (rows0 n) ∧ ∃ y4 y5 y7, σ = [some (.ref l), some (.ref b), some (.ref c), some (.int (n : Int)), y4, y5, some (.ref a), y7, none, some (.ref d), none, none, none], ?_, ?_⟩
    · refine ⟨_, rfl, (n : Int), rfl, by omega, by omega, fun D nD => ?_⟩
      refine lc_new (walk_range (lo := 0) (n := n)) Rws1 (fun e q => rws_mono e q) (fun e ne q => rws_upd e ne q) (fun q => let ⟨bs, h, _⟩ := q; ⟨_, h⟩) (fun i => (List.range (n - (i + 1))).map fun m => unitR n (i + 1 + m)) (by omega) nD (fun _ _ => trivial) (fun i x H3 H4 Q2 hi sm hY q2 => ?_) (fun H3 as sm eD nd hf hp => ?_)
      · obtain ⟨rfl, rfl⟩ := hY
        refine ⟨rfl, _, rfl, _, _, rfl, rfl, _, rfl, _, _, rfl, ⟨by omega, by omega, by omega, by omega⟩, fun D2 nD2 => ?_⟩
        refine lc_new (walk_range (lo := 0 + (i : Int) + 1) (n := ((n : Int) - (0 + (i : Int) + 1)).toNat)) Rw1 (fun e q => e _ _ q) (fun _ ne q => by unfold Rw1; rw [upd_ne ne]; exact q) (fun q => ⟨_, q⟩) (fun m => unitR n (i + 1 + m)) (by omega) nD2 (fun _ _ => trivial) (fun m x H5 H6 Q3 hm sm5 hY q3 => ?_) (fun H5 bs sm5 eD2 nd hf hp => ?_)
        · obtain ⟨rfl, rfl⟩ := hY
          refine ⟨rfl, _, rfl, (n : Int), rfl, by omega, by omega, fun D3 nD3 => ?_⟩
          refine lc_rep (walk_range (lo := 0) (n := n)) st_RI (fun k => if k = i + 1 + m then 1 else 0) (by omega) nD3 (fun _ _ => trivial) (fun k x H7 H8 Q4 hk sm7 hY q4 => ?_) (fun H7 acc sm7 eD3 hp => ?_)
          · obtain ⟨rfl, rfl⟩ := hY
            refine ⟨rfl, _, rfl, _, rfl, rfl, .inr ⟨_, rfl, q4 _ _ (Same.refl _) ?_⟩⟩
            by_cases c : k = i + 1 + m
            · rw [if_pos c, if_pos (decide_eq_true (show V.int (0 + (k : Int)) = V.int (0 + (i : Int) + 1 + (m : Int)) from congrArg V.int (by omega)))]
              rfl
            · rw [if_neg c, if_neg (fun z => c (by have := V.int.inj (of_decide_eq_true z); omega))]
              rfl
          · have e := ints_of hp
            subst e
            exact q3 D3 H7 sm7 nD3 eD3
        · rw [show ((n : Int) - (0 + (i : Int) + 1)).toNat = n - (i + 1) from by omega] at hp
          refine q2 D2 H5 sm5 nD2 ⟨bs, eD2, hp, fun r hr => ?_⟩
          obtain ⟨m, _, rfl⟩ := List.mem_map.mp hr
          exact fun z => by
            have := congrArg List.length z
            unfold unitR at this
            rw [List.length_map, List.length_range] at this
            exact absurd this (by simp; omega)
      · refine ⟨sm, D, ⟨as, eD, nd, hp, hf, nD⟩, _, _, _, rfl⟩
    clear y4 y5 y7
    rintro σ3 H3 ⟨sm3, d, hLLL, y4, y5, y7, rfl⟩
    refine ⟨fun σ H' => Same H2 H' ∧ LLL H2 H' d (madeC n cjs) ∧ ∃ y4 y5 y7 y8 y10 y11 y12, σ = [some (.ref l), some (.ref b), some (.ref c), some (.int (n : Int)), y4, y5, some (.ref a), y7, y8, some (.ref d), y10, y11, y12], ?_, ?_⟩
    · refine ⟨_, rfl, c, rfl, ⟨_, .inl (.inl (sm3 _ _ (sm2 _ _ ec)))⟩, for_list (xs := ws) (fun j σ H' => Same H2 H' ∧ LLL H2 H' d ((cjs.take j).foldl (putC n) (rows0 n)) ∧ ∃ y4 y5 y7 y8 y10 y11 y12, σ = [some (.ref l), some (.ref b), some (.ref c), some (.int (n : Int)), y4, y5, some (.ref a), y7, y8, some (.ref d), y10, y11, y12])
        ⟨sm3, hLLL, _, _, _, _, _, _, _, rfl⟩ (fun j σ H' _ ⟨sm, _⟩ => .inl (.inl (sm _ _ (sm2 _ _ ec)))) ?_ ?_⟩
      · rintro j x σ H' hj ⟨smB, hC, z4, z5, z7, z8, z10, z11, z12, rfl⟩
        have sm := sm2.trans smB
        have hjl : j < cjs.length := by
          have := (List.getElem?_eq_some_iff.mp hj).1
          rw [hcl, List.length_map] at this
          exact this
        have ep : cjs[j]? = some cjs[j] := List.getElem?_eq_getElem hjl
        have hx := hcg j x (trC cjs[j]) hj (by rw [List.getElem?_map, ep]; rfl)
        obtain ⟨hx1, hx2, hx3⟩ := hcj _ (List.getElem_mem hjl)
        generalize cjs[j] = z at *
        obtain ⟨t, u0, u1, u2, rfl, hS, g0, g1, g2⟩ := has_tup3 hx
        have e0 := has_int g0
        have e1 := has_int g1
        subst e0
        subst e1
        obtain ⟨g, gs, rfl, eg, hgl, hgg⟩ := has_lst g2
        refine ⟨t, _, rfl, Own.same_tup sm hS, rfl, _, _, rfl, _, _, rfl, _, [], rfl, rfl, ?_⟩
        refine ⟨_, rfl, (n : Int), rfl, by omega, by omega, fun ro fro => ?_⟩
        refine lc_rep (walk_range (lo := 0) (n := n)) st_RI (fun _ => 0) (by omega) fro (fun _ _ => trivial) (fun i x H3 H4 Q3 hi sm3 hY q3 => ?_) (fun H5 acc sm5 hro hp => ?_)
        · obtain ⟨rfl, rfl⟩ := hY
          exact ⟨rfl, q3 _ _ (Same.refl _) rfl⟩
        have e := ints_of hp
        rw [range_zero] at e
        subst e
        refine ⟨_, rfl, g, rfl, ⟨_, .inl (.inl (sm5 _ _ (sm _ _ eg)))⟩, for_list (xs := gs) (fun j σ H7 => Same H' H7 ∧ Rw1 H7 ro ((z.2.2.take j).foldl (fun r y => r.set y.1 y.2) (zeroR n)) ∧ ∃ y5 y7, σ = [some (.ref l), some (.ref b), some (.ref c), some (.int (n : Int)), some (.int (z.1 : Int)), y5, some (.ref a), y7, some (.int (z.2.1 : Int)), some (.ref d), some (.ref g), some (.ref ro), z12])
            ⟨sm5, hro, _, _, rfl⟩ (fun j σ H7 _ ⟨s2, _⟩ => .inl (.inl (s2 _ _ (sm _ _ eg)))) ?_ ?_⟩
        · rintro m x σ H7 hm ⟨s2, hr, y5, y7, rfl⟩
          have hml : m < z.2.2.length := by
            have := (List.getElem?_eq_some_iff.mp hm).1
            rw [hgl, List.length_map] at this
            exact this
          have ey : z.2.2[m]? = some z.2.2[m] := List.getElem?_eq_getElem hml
          have hy := hgg m x (trE z.2.2[m]) hm (by rw [List.getElem?_map, ey]; rfl)
          have hy3 := hx3 _ (List.getElem_mem hml)
          generalize z.2.2[m] = y at *
          obtain ⟨t2, v0, v1, rfl, hS2, k0, k1⟩ := has_tup2 hy
          have f0 := has_int k0
          have f1 := has_int k1
          subst f0
          subst f1
          refine ⟨t2, _, rfl, Own.same_tup s2 (Own.same_tup sm hS2), rfl, _, _, rfl, _, [], rfl, rfl, ?_⟩
          have hrl : ((z.2.2.take m).foldl (fun r y => r.set y.1 y.2) (zeroR n)).length = n := pairR_len _ _ List.length_replicate
          refine ⟨_, rfl, _, rfl, _, rfl, ro, _, _, y.1, rfl, rfl, hr, ixN_ok (by rw [List.length_map]; omega), ?_⟩
          refine ⟨same_mut s2 fro, ?_, _, _, rfl⟩
          show (upd _ _ _) _ = _
          have tf := take_fold (fun (r : List Int) (y : Nat × Int) => r.set y.1 y.2) (zeroR n) z.2.2 ey
          rw [upd_same, tf, List.map_set]
        rintro σ6 H6 ⟨s6, hr6, y5b, y7, rfl⟩
        rw [hgl, List.length_map, List.take_length] at hr6
        have hr6 : Rw1 H6 ro (pairR n z.2.2) := hr6
        have hC6 := hC.mono s6
        have hsh := foldC_sh (cjs.take j) (fun x hx => by have := hcj x (List.mem_of_mem_take hx); omega) (rows0_sh n)
        have hi : z.1 < ((cjs.take j).foldl (putC n) (rows0 n)).length := by rw [hsh.1]; omega
        have er := List.getElem?_eq_getElem hi
        have hM := hsh.2 _ _ er
        have hk : z.2.1 - z.1 - 1 < (((cjs.take j).foldl (putC n) (rows0 n))[z.1]).length := by rw [hM.1]; omega
        have hne : pairR n z.2.2 ≠ [] := fun w => by
          have := pairR_len z.2.2 (zeroR n) List.length_replicate
          have h2 := congrArg List.length w
          unfold pairR at h2
          rw [this] at h2
          exact absurd h2 (by simp; omega)
        obtain ⟨as, x0, bs, p1, p2, p3, p4, p5, p6⟩ := hC6.put er hk hr6 hne
        refine ⟨_, rfl, _, rfl, _, rfl, d, _, _, .ref x0, rfl, rfl, .inl (.inl p1), atI_nat (by rw [List.getElem?_map, p2]; rfl), _, rfl, _, rfl, _, _, rfl, rfl, _, _, rfl, rfl, x0, _, _, z.2.1 - z.1 - 1, rfl, rfl, p3, ?_, ?_⟩
        · rw [show ((z.2.1 : Int) - (z.1 : Int) - 1) = ((z.2.1 - z.1 - 1 : Nat) : Int) from by omega]
          exact ixN_ok (by rw [List.length_map]; omega)
        · refine ⟨same_mut (smB.trans s6) p5, ?_, _, _, _, _, _, _, _, rfl⟩
          · rw [take_fold (putC n) _ cjs ep]
            show LLL _ _ _ (List.set _ z.1 ((List.getD _ z.1 []).set (z.2.1 - z.1 - 1) (pairR n z.2.2)))
            rw [getD_some er]
            exact p6
      · rintro σ H' ⟨sm, hC, y⟩
        rw [hcl, List.length_map, List.take_length] at hC
        exact ⟨sm, hC, y⟩
    clear hLLL sm3 y4 y5 y7
    rintro σ4 H4 ⟨sm4, hLLL, y4, y5, y7, y8, y10, y11, y12, rfl⟩
    obtain ⟨as, a1, a2, a3, a4, a5⟩ := (hLL.mono sm4).ex
    obtain ⟨ds, d1, d2, d3, d4, d5⟩ := hLLL.ex
    have hPl := foldP_len pws (fun x hx => (hpw x hx).1) (rep_len n)
    have hCl := foldC_sh cjs (fun x hx => by have := hcj x hx; omega) (rows0_sh n)
    have hasl : as.length = n := (Paired.length a3).trans hPl.1
    have hdsl : ds.length = n := (Paired.length d3).trans hCl.1
    refine ⟨_, rfl, l, _, rfl, .inl ⟨same_sql (sm2.trans sm4) hl, fun tp ntp => ?_⟩⟩
    refine ⟨_, rfl, a, rfl, ?_⟩
    have s5 := same_new (o := .tup (ps.map V.int)) ntp
    refine ⟨⟨_, .inl (.inl (s5 _ _ a1))⟩, fun D nD => ?_⟩
    have hPlen := hPl.1
    refine lc_rep (walk_list (xs := as.map V.ref)) (st_RS (K := K)) (fun i => (madeP n pws).getD i []) (by rw [List.length_map]; omega) nD (fun H6 s6 => .inl (.inl (s6 _ _ (s5 _ _ a1)))) (fun i x H6 H7 Q2 hi s6 hY q2 => ?_) (fun H6 acc s6 eD hPa => ?_)
    · obtain ⟨rfl, hx⟩ := hY
      rw [List.getElem?_map] at hx
      obtain ⟨x0, hx0, rfl⟩ := Option.map_eq_some_iff.mp hx
      obtain ⟨r, er, hr1⟩ := paired_get a3 hx0
      refine ⟨rfl, _, rfl, x0, _, rfl, .inl (.inl (s6 _ _ (s5 _ _ hr1))), fun t ob nt nob => q2 _ _ (same_new nt) ⟨t, rfl, .inl (.inr ⟨ob, ?_⟩)⟩⟩
      rw [getD_some er]
      exact upd_same
    rw [List.length_map, hasl, range_getD [] (show (madeP n pws).length = n from hPl.1)] at hPa
    refine ⟨D, _, rfl, .inl ⟨.inl (.inl eD), fun tq ntq => ?_⟩⟩
    have s7 := same_new (o := .tup acc) ntq
    have s47 := s5.trans (s6.trans s7)
    have hClen := hCl.1
    refine ⟨_, rfl, d, rfl, ⟨_, .inl (.inl (s47 _ _ d1))⟩, fun D2 nD2 => ?_⟩
    refine lc_rep (walk_list (xs := ds.map V.ref)) (st_Tup1 (K := K)) (fun i => (madeC n cjs).getD i []) (by rw [List.length_map]; omega) nD2 (fun H8 s8 => .inl (.inl (s8 _ _ (s47 _ _ d1)))) (fun i x H8 H9 Q2 hi s8 hY q2 => ?_) (fun H8 acc2 s8 eD2 hPb => ?_)
    · obtain ⟨rfl, hx⟩ := hY
      rw [List.getElem?_map] at hx
      obtain ⟨x0, hx0, rfl⟩ := Option.map_eq_some_iff.mp hx
      obtain ⟨M, eM, bs, hb1, hb2, hb3⟩ := paired_get d3 hx0
      have hML := (hCl.2 _ _ eM).1
      have hbl := Paired.length hb2
      have s48 := s47.trans s8
      refine ⟨rfl, _, rfl, x0, _, true, rfl, .inl (.inl (s8 _ _ (s47 _ _ hb1))), fun J wJ => ?_⟩
      intro D3 nD3
      refine lc_rep wJ (st_RS (K := K)) (fun j => M.getD j []) (by rw [List.length_map]; omega) nD3 (fun H10 s10 => .inl (.inl (s10 _ _ (s48 _ _ hb1)))) (fun j x H10 H11 Q3 hj s10 hY3 q3 => ?_) (fun H10 acc3 s10 eD3 hPc => ?_)
      · obtain ⟨rfl, hx3⟩ := hY3
        rw [List.getElem?_map] at hx3
        obtain ⟨x3, hx4, rfl⟩ := Option.map_eq_some_iff.mp hx3
        obtain ⟨r, er, hr1⟩ := paired_get hb2 hx4
        refine ⟨rfl, _, rfl, x3, _, rfl, .inl (.inl (s10 _ _ (s48 _ _ hr1))), fun t ob nt nob => q3 _ _ (same_new nt) ⟨t, rfl, .inl (.inr ⟨ob, ?_⟩)⟩⟩
        rw [getD_some er]
        exact upd_same
      · rw [List.length_map, hbl, range_getD [] rfl] at hPc
        refine ⟨D3, _, rfl, .inl (.inl eD3), fun t ob nt nob => q2 _ _ (s10.trans (same_new nt)) ⟨t, _, rfl, .inl (.inr ⟨ob, upd_same⟩), ?_⟩⟩
        rw [getD_some eM]
        exact st_RS.all (same_new nt) hPc
    rw [List.length_map, hdsl, range_getD [] (show (madeC n cjs).length = n from hCl.1)] at hPb
    refine ⟨D2, _, rfl, .inl ⟨.inl (.inl eD2), fun tr ntr => ⟨by show 3 ≤ sizeLine; decide, fun tz ntz => ?_⟩⟩⟩
    have s9 := same_new (o := .tup acc2) ntr
    have s10 := same_new (o := .tup [V.ref tp, V.ref tq, V.ref tr]) ntz
    have sAll := s47.trans (s8.trans (s9.trans s10))
    refine q _ _ (sm2.trans (sm4.trans sAll)) ⟨tz, tp, tq, tr, acc2, rfl, .inl (.inl upd_same), ?_, ?_, .inl (.inl (s10 _ _ upd_same)), ?_⟩
    · exact .inl (.inl ((s6.trans (s7.trans (s8.trans (s9.trans s10)))) _ _ upd_same))
    · refine ⟨tq, acc, rfl, .inl (.inl ((s8.trans (s9.trans s10)) _ _ upd_same)), ?_⟩
      show Paired _ _ (madeP ps.length pws)
      rw [hN]
      exact st_RS.all (s7.trans (s8.trans (s9.trans s10))) hPa
    · show Paired _ _ (madeC ps.length cjs)
      rw [hN]
      exact st_Tup1.all (s9.trans s10) hPb
/-! ### valid tables -/
def pr31 : List Int := [2, 3, 5, 7, 11, 13, 17, 19, 23, 29, 31]
/-- a row below the primes -/
def Bl (ps r : List Int) : Prop := r.length = ps.length ∧ ∀ k, k < ps.length → 0 ≤ atR r k ∧ atR r k < atR ps k
/-- 0 below a place -/
def Zb (r : List Int) (k : Nat) : Prop := ∀ i, i < k → atR r i = 0
def prodN : List Int → Nat
  | [] => 1
  | p :: ps => p.toNat * prodN ps
structure Vd (t : Tb) : Prop where
  pr : ∀ p ∈ t.ps, p ∈ pr31
  n10 : t.ps.length ≤ 10
  sz : prodN t.ps ≤ 1000
  pwl : t.pw.length = t.ps.length
  pwr : ∀ i r, t.pw[i]? = some r → Bl t.ps r ∧ Zb r (i + 1)
  cjl : t.cj.length = t.ps.length
  cjr : ∀ i M, t.cj[i]? = some M → M.length = t.ps.length - (i + 1) ∧ ∀ r ∈ M, Bl t.ps r ∧ Zb r (i + 1)
theorem pr31_in {p : Int} (h : p ∈ pr31) : 2 ≤ p ∧ p ≤ 31 := by
  simp only [pr31, List.mem_cons, List.not_mem_nil, or_false] at h
  omega
theorem atR_in {v : List Int} {i : Nat} (h : i < v.length) : atR v i ∈ v := List.mem_of_getElem? (atR_get h)
theorem Vd.p2 {t : Tb} (h : Vd t) {k : Nat} (hk : k < t.ps.length) : 2 ≤ atR t.ps k ∧ atR t.ps k ≤ 31 := pr31_in (h.pr _ (atR_in hk))
theorem ext_at2 {u v : List Int} (hl : u.length = v.length) (h : ∀ i, i < v.length → atR u i = atR v i) : u = v := by
  apply List.ext_getElem?
  intro i
  by_cases hi : i < v.length
  · rw [atR_get (by rw [hl]; exact hi), atR_get hi, h i hi]
  · rw [List.getElem?_eq_none (by omega), List.getElem?_eq_none (by omega)]
theorem atR_cons {x : Int} {r : List Int} : atR (x :: r) 0 = x := rfl
theorem atR_succ {x : Int} {r : List Int} {i : Nat} : atR (x :: r) (i + 1) = atR r i := rfl
theorem atR_drop {r : List Int} {j i : Nat} : atR (r.drop j) i = atR r (j + i) := by
  unfold atR
  rw [List.getD_eq_getElem?_getD, List.getElem?_drop, ← List.getD_eq_getElem?_getD]
theorem atR_take {r : List Int} {j i : Nat} (h : i < j) : atR (r.take j) i = atR r i := by
  unfold atR
  rw [List.getD_eq_getElem?_getD, List.getElem?_take, if_pos h, ← List.getD_eq_getElem?_getD]
theorem atR_app1 {u v : List Int} {i : Nat} (h : i < u.length) : atR (u ++ v) i = atR u i := by
  unfold atR
  rw [List.getD_eq_getElem?_getD, List.getElem?_append_left h, ← List.getD_eq_getElem?_getD]
theorem atR_app2 {u v : List Int} {i : Nat} (h : u.length ≤ i) : atR (u ++ v) i = atR v (i - u.length) := by
  unfold atR
  rw [List.getD_eq_getElem?_getD, List.getElem?_append_right h, ← List.getD_eq_getElem?_getD]
/-! all rows, all keys -/
def allB : List Int → List (List Int)
  | [] => [[]]
  | p :: ps => (List.range p.toNat).flatMap fun a : Nat => (allB ps).map fun r => ((a : Nat) : Int) :: r
def allK : Nat → List Int → List (Int × List Int)
  | _, [] => []
  | j, p :: ps => (allB (p :: ps)).map (fun r => ((j : Int), r)) ++ allK (j + 1) ps
theorem flat_len2 {α β : Type} {c : Nat} (f : α → List β) : ∀ (l : List α), (∀ x ∈ l, (f x).length = c) → (l.flatMap f).length = l.length * c
  | [], _ => by simp
  | x :: l, h => by
    rw [List.flatMap_cons, List.length_append, h x (List.mem_cons_self ..), flat_len2 f l fun y hy => h y (List.mem_cons_of_mem _ hy), List.length_cons, Nat.succ_mul, Nat.add_comm]
theorem allB_len : ∀ ps : List Int, (allB ps).length = prodN ps
  | [] => rfl
  | p :: ps => by
    unfold allB prodN
    rw [flat_len2 (c := prodN ps) _ _ (fun x _ => by rw [List.length_map, allB_len ps]), List.length_range]
theorem allB_mem : ∀ {ps r : List Int}, Bl ps r → r ∈ allB ps
  | [], r, h => by
    have := List.eq_nil_of_length_eq_zero h.1
    subst this
    exact List.mem_singleton.mpr rfl
  | p :: ps, [], h => by cases h.1
  | p :: ps, x :: r, h => by
    have h0 := h.2 0 (Nat.zero_lt_succ _)
    rw [atR_cons, atR_cons] at h0
    unfold allB
    refine List.mem_flatMap.mpr ⟨x.toNat, List.mem_range.mpr (by omega), List.mem_map.mpr ⟨r, allB_mem ⟨Nat.succ.inj h.1, fun k hk => ?_⟩, ?_⟩⟩
    · exact h.2 (k + 1) (Nat.succ_lt_succ hk)
    · rw [Int.toNat_of_nonneg h0.1]
theorem prodN_pos : ∀ {ps : List Int}, (∀ p ∈ ps, 2 ≤ p) → 1 ≤ prodN ps
  | [], _ => Nat.le_refl 1
  | p :: ps, h => by
    have h1 := h p (List.mem_cons_self ..)
    have h2 := prodN_pos (ps := ps) fun q hq => h q (List.mem_cons_of_mem _ hq)
    exact Nat.mul_pos (by omega) h2
theorem allK_len : ∀ (j : Nat) {ps : List Int} {c : Nat}, (∀ p ∈ ps, 2 ≤ p) → prodN ps ≤ c → (allK j ps).length ≤ ps.length * c
  | _, [], _, _, _ => Nat.zero_le _
  | j, p :: ps, c, h, hc => by
    have h1 := h p (List.mem_cons_self ..)
    have h2 : prodN ps ≤ prodN (p :: ps) := Nat.le_mul_of_pos_left _ (by omega)
    have h3 := allK_len (j + 1) (ps := ps) (c := c) (fun q hq => h q (List.mem_cons_of_mem _ hq)) (by omega)
    unfold allK
    rw [List.length_append, List.length_map, allB_len, List.length_cons, Nat.succ_mul]
    omega
theorem allK_mem : ∀ {ps : List Int} {i : Nat} (j : Nat) {ks : List Int}, i < ps.length → Bl (ps.drop i) ks → (((j + i : Nat) : Int), ks) ∈ allK j ps
  | [], _, _, _, h, _ => by cases h
  | p :: ps, 0, j, ks, _, hb => List.mem_append_left _ (List.mem_map.mpr ⟨ks, allB_mem hb, rfl⟩)
  | p :: ps, i + 1, j, ks, h, hb => by
    have := allK_mem (j + 1) (Nat.lt_of_succ_lt_succ h) hb
    rw [show j + (i + 1) = j + 1 + i by omega]
    exact List.mem_append_right _ this
theorem nodup_few {α : Type} [DecidableEq α] : ∀ {l m : List α}, l.Nodup → (∀ x ∈ l, x ∈ m) → l.length ≤ m.length
  | [], _, _, _ => Nat.zero_le _
  | x :: l, m, h, hs => by
    obtain ⟨h1, h2⟩ := List.nodup_cons.mp h
    have hx := hs x (List.mem_cons_self ..)
    have := nodup_few (l := l) (m := m.erase x) h2 fun y hy => (List.mem_erase_of_ne (fun e => h1 (by rw [← e]; exact hy))).mpr (hs y (List.mem_cons_of_mem _ hy))
    rw [List.length_erase_of_mem hx] at this
    have : 0 < m.length := List.length_pos_of_mem hx
    rw [List.length_cons]
    omega
/-! what a step and a product keep -/
structure StpR (ps r r' : List Int) (j : Nat) : Prop where
  bl : Bl ps r'
  lo : ∀ i, i < j → atR r' i = atR r i
  pl : atR r' j = (atR r j + 1) % atR ps j
structure AdR (ps x y x' : List Int) : Prop where
  bl : Bl ps x'
  ad : ∀ m, m ≤ ps.length → Zb y m → (∀ i, i < m → atR x' i = atR x i) ∧ (m < ps.length → atR x' m = (atR x m + atR y m) % atR ps m)
/-- behind k places and t turns at the next -/
structure AdP (ps x y x' : List Int) (k t : Nat) : Prop where
  bl : Bl ps x'
  ad : ∀ m, m ≤ ps.length → Zb y m → (∀ i, i < m → atR x' i = atR x i) ∧ (m < ps.length → atR x' m = (atR x m + (if m < k then atR y m else if m = k then (t : Int) else 0)) % atR ps m)
theorem AdP.init {ps x y : List Int} (h : Bl ps x) : AdP ps x y x 0 0 := ⟨h, fun m hm _ => ⟨fun _ _ => rfl, fun hl => by
  have := h.2 m hl
  have e : (if m < 0 then atR y m else if m = 0 then ((0 : Nat) : Int) else 0) = 0 := by
    rw [if_neg (Nat.not_lt_zero m)]
    split <;> rfl
  rw [e, Int.add_zero, Int.emod_eq_of_lt this.1 this.2]⟩⟩
theorem AdP.step {ps x y x1 x2 : List Int} {k t : Nat} (h : AdP ps x y x1 k t) (s : StpR ps x1 x2 k) (hk : k < ps.length) (ht : (t : Int) < atR y k) : AdP ps x y x2 k (t + 1) := ⟨s.bl, fun m hm hz => by
  have hmk : m ≤ k := by
    rcases Nat.lt_or_ge k m with c | c
    · have := hz k c
      omega
    · exact c
  obtain ⟨h1, h2⟩ := h.ad m hm hz
  refine ⟨fun i hi => by rw [s.lo i (by omega)]; exact h1 i hi, fun hl => ?_⟩
  rcases Nat.lt_or_ge m k with c | c
  · rw [s.lo m c, h2 hl, if_pos c, if_pos c]
  · have e : m = k := by omega
    subst e
    rw [s.pl, h2 hl, if_neg (Nat.lt_irrefl _), if_neg (Nat.lt_irrefl _), if_pos rfl, if_pos rfl, Int.emod_add_emod]
    congr 1
    omega⟩
theorem AdP.next {ps x y x1 : List Int} {k t : Nat} (h : AdP ps x y x1 k t) (ht : (t : Int) = atR y k) : AdP ps x y x1 (k + 1) 0 := ⟨h.bl, fun m hm hz => by
  obtain ⟨h1, h2⟩ := h.ad m hm hz
  refine ⟨h1, fun hl => ?_⟩
  rw [h2 hl]
  congr 2
  rcases Nat.lt_trichotomy m k with c | c | c
  · rw [if_pos c, if_pos (by omega)]
  · subst c
    rw [if_neg (Nat.lt_irrefl _), if_pos rfl, if_pos (by omega), ht]
  · rw [if_neg (by omega), if_neg (by omega), if_neg (by omega)]
    split <;> rfl⟩
theorem AdP.done {ps x y x1 : List Int} (h : AdP ps x y x1 ps.length 0) : AdR ps x y x1 := ⟨h.bl, fun m hm hz => by
  obtain ⟨h1, h2⟩ := h.ad m hm hz
  refine ⟨h1, fun hl => ?_⟩
  rw [h2 hl, if_pos hl]⟩
/-- the inverse's exponents -/
structure IvR (ps x f : List Int) : Prop where
  bl : Bl ps f
  iv : ∀ m, m ≤ ps.length → Zb x m → Zb f m ∧ (m < ps.length → atR f m = (atR ps m - atR x m) % atR ps m)
structure IvP (ps x x1 f : List Int) (k : Nat) : Prop where
  bl : Bl ps x1
  len : f.length = k
  fb : ∀ i, i < k → 0 ≤ atR f i ∧ atR f i < atR ps i
  iv : ∀ m, m ≤ ps.length → Zb x m → (k ≤ m → x1 = x) ∧ (∀ i, i < m → i < k → atR f i = 0) ∧ (m < ps.length → m < k → atR f m = (atR ps m - atR x m) % atR ps m)
theorem IvP.init {ps x : List Int} (h : Bl ps x) : IvP ps x x [] 0 := ⟨h, rfl, fun i hi => absurd hi (Nat.not_lt_zero i), fun m _ _ => ⟨fun _ => rfl, fun i _ hi => absurd hi (Nat.not_lt_zero i), fun _ hi => absurd hi (Nat.not_lt_zero m)⟩⟩
theorem IvP.next {ps x x1 x2 f : List Int} {k : Nat} {e : Int} (h : IvP ps x x1 f k) (hk : k < ps.length) (hp : 0 < atR ps k) (he : e = (atR ps k - atR x1 k) % atR ps k) (h2 : Bl ps x2) (h0 : e = 0 → x2 = x1) : IvP ps x x2 (f ++ [e]) (k + 1) := by
  have hb : 0 ≤ e ∧ e < atR ps k := by
    rw [he]
    exact ⟨Int.emod_nonneg _ (by omega), Int.emod_lt_of_pos _ hp⟩
  have l1 : ∀ i, i < k → atR (f ++ [e]) i = atR f i := fun i hi => atR_app1 (by rw [h.len]; exact hi)
  have l2 : atR (f ++ [e]) k = e := by
    rw [atR_app2 (by rw [h.len]; exact Nat.le_refl k), h.len, Nat.sub_self]
    rfl
  refine ⟨h2, by rw [List.length_append, h.len]; rfl, fun i hi => ?_, fun m hm hz => ?_⟩
  · rcases Nat.lt_or_ge i k with c | c
    · rw [l1 i c]
      exact h.fb i c
    · have c2 : i = k := by omega
      rw [c2, l2]
      exact hb
  · obtain ⟨g1, g2, g3⟩ := h.iv m hm hz
    refine ⟨fun hm2 => ?_, fun i hi hi2 => ?_, fun hl hmk => ?_⟩
    · have e1 := g1 (by omega)
      rw [e1] at he h0
      have ez : e = 0 := by
        rw [he, hz k (by omega), Int.sub_zero, Int.emod_self]
      exact h0 ez
    · rcases Nat.lt_or_ge i k with c | c
      · rw [l1 i c]
        exact g2 i hi c
      · have c2 : i = k := by omega
        have e1 := g1 (by omega)
        rw [c2, l2, he, e1, hz k (by omega), Int.sub_zero, Int.emod_self]
    · rcases Nat.lt_or_ge m k with c | c
      · rw [l1 m c]
        exact g3 hl c
      · have c2 : m = k := by omega
        subst c2
        rw [l2, he, g1 (Nat.le_refl _)]
theorem IvP.done {ps x x1 f : List Int} (h : IvP ps x x1 f ps.length) : IvR ps x f := ⟨⟨h.len, h.fb⟩, fun m hm hz => by
  obtain ⟨_, g2, g3⟩ := h.iv m hm hz
  exact ⟨fun i hi => g2 i hi (by omega), fun hl => g3 hl hl⟩⟩
/-- generators and powers -/
structure GnR (ps r : List Int) (k : Nat) : Prop where
  bl : Bl ps r
  zb : Zb r k
  one : atR r k = 1
structure NwR (ps x r' : List Int) (i : Nat) : Prop where
  bl : Bl ps r'
  lo : ∀ a, a ≤ i → atR r' a = atR x a
  same : atR x i = 0 → r' = x
theorem NwR.zb {ps x r' : List Int} {i k : Nat} (h : NwR ps x r' i) (hz : Zb x (k + 1)) : Zb r' (k + 1) := by
  rcases Nat.lt_or_ge i k with c | c
  · rw [h.same (hz i (by omega))]
    exact hz
  · intro a ha
    rw [h.lo a (by omega)]
    exact hz a ha
/-- the conjugate's place -/
theorem conj_zb {ps x y xy v f : List Int} {j k : Nat} (hj : k < j) (hjn : j < ps.length) (p2 : 2 ≤ atR ps k) (hx : GnR ps x j) (hy : GnR ps y k) (h1 : AdR ps x y xy) (h2 : IvR ps y v) (h3 : AdR ps v xy f) : Zb f (k + 1) := by
  obtain ⟨a1, a2⟩ := h1.ad k (by omega) hy.zb
  obtain ⟨b1, b2⟩ := h2.iv k (by omega) hy.zb
  have hxy : Zb xy k := fun i hi => by rw [a1 i hi]; exact hx.zb i (by omega)
  obtain ⟨c1, c2⟩ := h3.ad k (by omega) hxy
  intro i hi
  rcases Nat.lt_or_ge i k with c | c
  · rw [c1 i c]
    exact b1 i c
  · have e : i = k := by omega
    subst e
    rw [c2 (by omega), a2 (by omega), b2 (by omega), hy.one, hx.zb i hj, Int.zero_add]
    rw [Int.emod_eq_of_lt (show (0 : Int) ≤ 1 by omega) (show (1 : Int) < atR ps i by omega), Int.emod_eq_of_lt (show (0 : Int) ≤ atR ps i - 1 by omega) (show atR ps i - 1 < atR ps i by omega)]
    rw [show atR ps i - 1 + 1 = atR ps i by omega, Int.emod_self]
/-- the powers' places -/
structure PwP (ps g f : List Int) (k t : Nat) : Prop where
  bl : Bl ps f
  zb : Zb f k
  pl : atR f k = (t : Int) % atR ps k
theorem PwP.init {ps g : List Int} {k : Nat} (hk : k < ps.length) (p2 : 2 ≤ atR ps k) (h : GnR ps g k) : PwP ps g g k 1 := ⟨h.bl, h.zb, by
  rw [h.one]
  exact (Int.emod_eq_of_lt (show (0 : Int) ≤ 1 by omega) (by omega)).symm⟩
theorem PwP.step {ps g f f2 : List Int} {k t : Nat} (hk : k < ps.length) (h : GnR ps g k) (q : PwP ps g f k t) (a : AdR ps f g f2) : PwP ps g f2 k (t + 1) := by
  obtain ⟨a1, a2⟩ := a.ad k (by omega) h.zb
  refine ⟨a.bl, fun i hi => by rw [a1 i hi]; exact q.zb i hi, ?_⟩
  rw [a2 hk, q.pl, h.one, Int.emod_add_emod]
  congr 1
theorem PwP.done {ps g f : List Int} {k t : Nat} (q : PwP ps g f k t) (e : (t : Int) = atR ps k) : Zb f (k + 1) := by
  intro i hi
  rcases Nat.lt_or_ge i k with c | c
  · exact q.zb i c
  · have c2 : i = k := by omega
    rw [c2, q.pl, e, Int.emod_self]
theorem Bl.drop {ps r : List Int} (h : Bl ps r) (j : Nat) : Bl (ps.drop j) (r.drop j) := ⟨by rw [List.length_drop, List.length_drop, h.1], fun k hk => by
  rw [List.length_drop] at hk
  rw [atR_drop, atR_drop]
  exact h.2 (j + k) (by omega)⟩
/-- a step's row: the old up to the place, then the known -/
theorem step_row {ps r v : List Int} {j : Nat} (hr : Bl ps r) (hj : j < ps.length) (hv : Bl (ps.drop j) v) (h0 : atR v 0 = (atR r j + 1) % atR ps j) : StpR ps r (r.take j ++ v) j := by
  have hl : (r.take j).length = j := by rw [List.length_take, hr.1]; omega
  have hvl := hv.1
  rw [List.length_drop] at hvl
  refine ⟨⟨by rw [List.length_append, hl, hvl]; omega, fun k hk => ?_⟩, fun i hi => ?_, ?_⟩
  · rcases Nat.lt_or_ge k j with c | c
    · rw [atR_app1 (by omega), atR_take c]
      exact hr.2 k hk
    · rw [atR_app2 (by omega), hl]
      have := hv.2 (k - j) (by rw [List.length_drop]; omega)
      rw [atR_drop, show j + (k - j) = k by omega] at this
      exact this
  · rw [atR_app1 (by omega), atR_take hi]
  · rw [atR_app2 (by omega), hl, Nat.sub_self]
    exact h0
/-- a known row: the place, then the found -/
theorem known_row {ps f : List Int} {j : Nat} {pl : Int} (hf : Bl ps f) (hj : j < ps.length) (h0 : 0 ≤ pl) (h1 : pl < atR ps j) : Bl (ps.drop j) (pl :: f.drop (j + 1)) := by
  refine ⟨by rw [List.length_cons, List.length_drop, List.length_drop, hf.1]; omega, fun k hk => ?_⟩
  rw [List.length_drop] at hk
  rw [atR_drop]
  cases k with
  | zero => exact ⟨h0, h1⟩
  | succ k =>
    rw [atR_succ, atR_drop, show j + (k + 1) = j + 1 + k by omega]
    exact hf.2 (j + 1 + k) (by omega)
/-! ### collection: the pure steps -/
/-- the letters of a row, its first place being k -/
def letN : Nat → List Int → List Nat
  | _, [] => []
  | k, x :: r => List.replicate x.toNat k ++ letN (k + 1) r
/-- behind a place: the tail of a row from this place on, one letter more -/
def stpV (t : Tb) : Nat → Nat → List Int → List Int
  | 0, _, l => l
  | _ + 1, _, [] => []
  | d + 1, j, x :: l =>
    (if x + 1 = atR t.ps j then 0 else x + 1) ::
      ((letN (j + 1) l).foldl (fun f k => (letN 0 ((t.cj.getD j []).getD (k - j - 1) [])).foldl (fun f m => f.take m ++ stpV t d m (f.drop m)) f)
        (if x + 1 = atR t.ps j then t.pw.getD j [] else zeroR t.ps.length)).drop (j + 1)
/-- one letter behind a row -/
def stpT (t : Tb) (d : Nat) (r : List Int) (j : Nat) : List Int := r.take j ++ stpV t d j (r.drop j)
/-- a word behind a row -/
def colW (t : Tb) (d : Nat) (r : List Int) (w : List Nat) : List Int := w.foldl (stpT t d) r
def timT (t : Tb) (d : Nat) (x y : List Int) : List Int := colW t d x (letN 0 y)
/-- the word w_jk -/
def cjW (t : Tb) (j k : Nat) : List Int := (t.cj.getD j []).getD (k - j - 1) []
/-- the letters of a tail, each replaced -/
def tailF (t : Tb) (d j : Nat) (s : List Int) (ks : List Nat) : List Int := ks.foldl (fun f k => timT t d f (cjW t j k)) s
theorem stpV_cons (t : Tb) (d j : Nat) (x : Int) (l : List Int) : stpV t (d + 1) j (x :: l) = (if x + 1 = atR t.ps j then 0 else x + 1) :: (tailF t d j (if x + 1 = atR t.ps j then t.pw.getD j [] else zeroR t.ps.length) (letN (j + 1) l)).drop (j + 1) := rfl
theorem mem_letN : ∀ {r : List Int} {k m : Nat}, m ∈ letN k r → ∃ i, m = k + i ∧ i < r.length ∧ 0 < atR r i
  | [], _, _, h => by cases h
  | x :: r, k, m, h => by
    rcases List.mem_append.mp h with h | h
    · obtain ⟨h1, rfl⟩ := List.mem_replicate.mp h
      exact ⟨0, rfl, Nat.zero_lt_succ _, by rw [atR_cons]; omega⟩
    · obtain ⟨i, rfl, hi, hx⟩ := mem_letN h
      exact ⟨i + 1, by omega, Nat.succ_lt_succ hi, hx⟩
theorem foldl_inv {α β : Type} {P : β → Prop} {f : β → α → β} : ∀ {l : List α} {b : β}, P b → (∀ b x, x ∈ l → P b → P (f b x)) → P (l.foldl f b)
  | [], _, h, _ => h
  | x :: l, b, h, hs => foldl_inv (l := l) (b := f b x) (hs b x List.mem_cons_self h) fun b y hy => hs b y (List.mem_cons_of_mem _ hy)
theorem foldl_eq {α β : Type} {P : β → Prop} {f g : β → α → β} : ∀ {l : List α} {b : β}, P b → (∀ b x, x ∈ l → P b → f b x = g b x ∧ P (f b x)) → l.foldl f b = l.foldl g b
  | [], _, _, _ => rfl
  | x :: l, b, h, hs => by
    obtain ⟨e, hp⟩ := hs b x List.mem_cons_self h
    rw [List.foldl_cons, List.foldl_cons, ← e]
    exact foldl_eq (l := l) hp fun b y hy => hs b y (List.mem_cons_of_mem _ hy)
theorem Bl.split {ps r : List Int} (h : Bl ps r) {j : Nat} (hj : j < ps.length) : r.drop j = atR r j :: r.drop (j + 1) := by
  have hl : j < r.length := by rw [h.1]; exact hj
  rw [List.drop_eq_getElem_cons hl]
  congr 1
  have := atR_get hl
  rw [List.getElem?_eq_getElem hl] at this
  exact Option.some.inj this
theorem get_some {α : Type} {l : List α} {i : Nat} (h : i < l.length) : ∃ x, l[i]? = some x := ⟨_, List.getElem?_eq_getElem h⟩
theorem Vd.pwv {t : Tb} (h : Vd t) {j : Nat} (hj : j < t.ps.length) : ∃ r, t.pw[j]? = some r ∧ t.pw.getD j [] = r ∧ Bl t.ps r ∧ Zb r (j + 1) := by
  obtain ⟨r, e⟩ := get_some (l := t.pw) (i := j) (by rw [h.pwl]; exact hj)
  obtain ⟨a, b⟩ := h.pwr j _ e
  exact ⟨_, e, getD_some e, a, b⟩
theorem Vd.cjv {t : Tb} (h : Vd t) {j k : Nat} (hj : j < k) (hk : k < t.ps.length) : ∃ M r, t.cj[j]? = some M ∧ M[k - j - 1]? = some r ∧ cjW t j k = r ∧ Bl t.ps r ∧ Zb r (j + 1) := by
  obtain ⟨M, e⟩ := get_some (l := t.cj) (i := j) (by rw [h.cjl]; omega)
  obtain ⟨a, b⟩ := h.cjr j _ e
  obtain ⟨r, e2⟩ := get_some (l := M) (i := k - j - 1) (by rw [a]; omega)
  obtain ⟨c, d⟩ := b _ (List.mem_of_getElem? e2)
  exact ⟨_, _, e, e2, by unfold cjW; rw [getD_some e, getD_some e2], c, d⟩
theorem blz {t : Tb} (h : Vd t) : Bl t.ps (zeroR t.ps.length) := ⟨by unfold zeroR; rw [List.length_replicate], fun k hk => by
  rw [atR_zero]
  have := h.p2 hk
  omega⟩
theorem zb_zeroR {n m : Nat} : Zb (zeroR n) m := fun _ _ => atR_zero
theorem letN_lt {ps r : List Int} {m k : Nat} (h : Bl ps r) (hz : Zb r k) (hm : m ∈ letN 0 r) : k ≤ m ∧ m < ps.length := by
  obtain ⟨i, rfl, hi, hx⟩ := mem_letN hm
  rw [Nat.zero_add]
  refine ⟨?_, by rw [← h.1]; exact hi⟩
  rcases Nat.lt_or_ge i k with c | c
  · rw [hz i c] at hx
    omega
  · exact c
theorem tail_lt {ps r : List Int} {m j : Nat} (h : Bl ps r) (hm : m ∈ letN (j + 1) (r.drop (j + 1))) : j < m ∧ m < ps.length := by
  obtain ⟨i, rfl, hi, hx⟩ := mem_letN hm
  rw [List.length_drop, h.1] at hi
  omega
/-- what a step keeps; what it finds behind the place -/
theorem stp_all {t : Tb} (hV : Vd t) : ∀ (d : Nat) {r : List Int} {j : Nat}, Bl t.ps r → j < t.ps.length → t.ps.length ≤ j + d → StpR t.ps r (stpT t d r j) j
  | 0, _, _, _, hj, hd => absurd hd (by omega)
  | d + 1, r, j, hb, hj, hd => by
    have hrj := hb.2 j hj
    have hf : ∀ s, Bl t.ps s → Bl t.ps (tailF t d j s (letN (j + 1) (r.drop (j + 1)))) := fun s hs => by
      refine foldl_inv hs fun f k hk hf => ?_
      obtain ⟨k1, k2⟩ := tail_lt hb hk
      obtain ⟨M, w, _, _, e, hbw, hzw⟩ := hV.cjv k1 k2
      rw [e]
      refine foldl_inv (P := Bl t.ps) hf fun g m hm hg => ?_
      obtain ⟨m1, m2⟩ := letN_lt hbw hzw hm
      exact (stp_all hV d hg m2 (by omega)).bl
    unfold stpT
    rw [hb.split hj, stpV_cons]
    obtain ⟨pr, _, ep, hpb, _⟩ := hV.pwv hj
    by_cases c : atR r j + 1 = atR t.ps j
    · rw [if_pos c, if_pos c, ep]
      have e0 : (0 : Int) = (atR r j + 1) % atR t.ps j := by rw [c, Int.emod_self]
      have hp2 := hV.p2 hj
      exact step_row hb hj (known_row (hf _ hpb) hj (Int.le_refl 0) (by omega)) e0
    · rw [if_neg c, if_neg c]
      have e0 : atR r j + 1 = (atR r j + 1) % atR t.ps j := (Int.emod_eq_of_lt (by omega) (by omega)).symm
      exact step_row hb hj (known_row (hf _ (blz hV)) hj (by omega) (by omega)) e0
theorem stp_bl {t : Tb} (hV : Vd t) {d : Nat} {r : List Int} {j : Nat} (hb : Bl t.ps r) (hj : j < t.ps.length) (hd : t.ps.length ≤ j + d) : Bl t.ps (stpT t d r j) := (stp_all hV d hb hj hd).bl
/-- more fuel does nothing -/
theorem stp_fuel {t : Tb} (hV : Vd t) : ∀ (d d' : Nat) {r : List Int} {j : Nat}, Bl t.ps r → j < t.ps.length → t.ps.length ≤ j + d → t.ps.length ≤ j + d' → stpT t d r j = stpT t d' r j
  | 0, _, _, _, _, hj, hd, _ => absurd hd (by omega)
  | _ + 1, 0, _, _, _, hj, _, hd => absurd hd (by omega)
  | d + 1, d' + 1, r, j, hb, hj, hd, hd' => by
    have hf : ∀ s, Bl t.ps s → tailF t d j s (letN (j + 1) (r.drop (j + 1))) = tailF t d' j s (letN (j + 1) (r.drop (j + 1))) := fun s hs => by
      refine foldl_eq (P := Bl t.ps) hs fun f k hk hf => ?_
      obtain ⟨k1, k2⟩ := tail_lt hb hk
      obtain ⟨M, w, _, _, e, hbw, hzw⟩ := hV.cjv k1 k2
      rw [e]
      constructor
      · refine foldl_eq (P := Bl t.ps) hf fun g m hm hg => ?_
        obtain ⟨m1, m2⟩ := letN_lt hbw hzw hm
        exact ⟨stp_fuel hV d d' hg m2 (by omega) (by omega), stp_bl hV hg m2 (by omega)⟩
      · refine foldl_inv (P := Bl t.ps) hf fun g m hm hg => ?_
        obtain ⟨m1, m2⟩ := letN_lt hbw hzw hm
        exact stp_bl hV hg m2 (by omega)
    unfold stpT
    rw [hb.split hj, stpV_cons, stpV_cons]
    obtain ⟨pr, _, ep, hpb, _⟩ := hV.pwv hj
    rw [hf _ (by split; · rw [ep]; exact hpb
                 · exact blz hV)]
theorem col_bl {t : Tb} (hV : Vd t) {d : Nat} {r : List Int} {w : List Nat} (hb : Bl t.ps r) (hw : ∀ m ∈ w, m < t.ps.length ∧ t.ps.length ≤ m + d) : Bl t.ps (colW t d r w) :=
  foldl_inv (P := Bl t.ps) hb fun g m hm hg => stp_bl hV hg (hw m hm).1 (hw m hm).2
theorem col_fuel {t : Tb} (hV : Vd t) {d d' : Nat} {r : List Int} {w : List Nat} (hb : Bl t.ps r) (hw : ∀ m ∈ w, m < t.ps.length ∧ t.ps.length ≤ m + d ∧ t.ps.length ≤ m + d') : colW t d r w = colW t d' r w :=
  foldl_eq (P := Bl t.ps) hb fun g m hm hg => ⟨stp_fuel hV d d' hg (hw m hm).1 (hw m hm).2.1 (hw m hm).2.2, stp_bl hV hg (hw m hm).1 (hw m hm).2.1⟩
theorem col_app {t : Tb} {d : Nat} {r : List Int} {u v : List Nat} : colW t d r (u ++ v) = colW t d (colW t d r u) v := by unfold colW; rw [List.foldl_append]
/-! what a product keeps -/
theorem drop_cons {y : List Int} {k : Nat} (h : k < y.length) : y.drop k = atR y k :: y.drop (k + 1) := by
  rw [List.drop_eq_getElem_cons h]
  congr 1
  have := atR_get h
  rw [List.getElem?_eq_getElem h] at this
  exact Option.some.inj this
theorem adp_rep {t : Tb} (hV : Vd t) {d k : Nat} {x y : List Int} (hk : k < t.ps.length) (hd : t.ps.length ≤ k + d) : ∀ (m : Nat) {c : Nat} {x1 : List Int}, AdP t.ps x y x1 k c → ((c + m : Nat) : Int) ≤ atR y k → AdP t.ps x y ((List.replicate m k).foldl (stpT t d) x1) k (c + m)
  | 0, _, _, h, _ => h
  | m + 1, c, x1, h, hm => by
    rw [List.replicate_succ, List.foldl_cons, show c + (m + 1) = c + 1 + m by omega]
    exact adp_rep hV hk hd m (h.step (stp_all hV d h.bl hk hd) hk (by omega)) (by omega)
theorem adp_from {t : Tb} (hV : Vd t) {d : Nat} {x y : List Int} (hy : Bl t.ps y) (hd : ∀ m, 0 < atR y m → t.ps.length ≤ m + d) : ∀ (m k : Nat) {x1 : List Int}, k + m = t.ps.length → AdP t.ps x y x1 k 0 → AdP t.ps x y ((letN k (y.drop k)).foldl (stpT t d) x1) t.ps.length 0
  | 0, k, x1, e, h => by
    rw [List.drop_of_length_le (by rw [hy.1]; omega)]
    have : k = t.ps.length := by omega
    rw [← this]
    exact h
  | m + 1, k, x1, e, h => by
    have hk : k < t.ps.length := by omega
    rw [drop_cons (by rw [hy.1]; exact hk)]
    show AdP _ _ _ ((List.replicate (atR y k).toNat k ++ letN (k + 1) (y.drop (k + 1))).foldl _ _) _ _
    rw [List.foldl_append]
    have h0 := (hy.2 k hk).1
    refine adp_from hV hy hd m (k + 1) (by omega) ?_
    rcases Nat.eq_zero_or_pos (atR y k).toNat with c | c
    · rw [c]
      exact h.next (by omega)
    · have := adp_rep hV (x := x) (y := y) hk (hd k (by omega)) (atR y k).toNat (c := 0) h (by omega)
      exact this.next (by omega)
theorem tim_ad {t : Tb} (hV : Vd t) {d : Nat} {x y : List Int} (hx : Bl t.ps x) (hy : Bl t.ps y) (hd : ∀ m, 0 < atR y m → t.ps.length ≤ m + d) : AdR t.ps x y (timT t d x y) :=
  (adp_from hV hy hd t.ps.length 0 (by omega) (AdP.init hx)).done
/-! ### tables that tell a group: an action in which unlike rows do unlike things -/
def runA {S : Type} (a : Nat → S → S) (s : S) (w : List Nat) : S := w.foldl (fun s k => a k s) s
structure RepD (t : Tb) (S : Type) (a : Nat → S → S) (pt : S) : Prop where
  pw : ∀ i r, t.pw[i]? = some r → ∀ s, runA a s (List.replicate (atR t.ps i).toNat i) = runA a s (letN 0 r)
  cj : ∀ i j, i < j → j < t.ps.length → ∀ s, a i (a j s) = runA a (a i s) (letN 0 (cjW t i j))
  inj : ∀ r r', Bl t.ps r → Bl t.ps r' → runA a pt (letN 0 r) = runA a pt (letN 0 r') → r = r'
def RepT (t : Tb) : Prop := ∃ (S : Type) (a : Nat → S → S) (pt : S), RepD t S a pt
theorem runA_app {S : Type} {a : Nat → S → S} {s : S} {u v : List Nat} : runA a s (u ++ v) = runA a (runA a s u) v := by unfold runA; rw [List.foldl_append]
theorem letN_app : ∀ (x y : List Int) (k : Nat), letN k (x ++ y) = letN k x ++ letN (k + x.length) y
  | [], y, k => rfl
  | a :: x, y, k => by
    show List.replicate a.toNat k ++ letN (k + 1) (x ++ y) = (List.replicate a.toNat k ++ letN (k + 1) x) ++ _
    rw [letN_app x y (k + 1), List.append_assoc, List.length_cons, show k + 1 + x.length = k + (x.length + 1) by omega]
theorem letN_zeros : ∀ (n k : Nat), letN k (zeroR n) = []
  | 0, _ => rfl
  | n + 1, k => letN_zeros n (k + 1)
/-- a row with 0 up to a place -/
theorem zb_split {r : List Int} {j : Nat} (hj : j ≤ r.length) (hz : Zb r j) : r = zeroR j ++ r.drop j := by
  apply ext_at2
  · rw [List.length_append, List.length_drop]
    unfold zeroR
    rw [List.length_replicate]
    omega
  · intro i hi
    have hl : (zeroR j).length = j := List.length_replicate
    rw [List.length_append, hl, List.length_drop] at hi
    rcases Nat.lt_or_ge i j with c | c
    · rw [atR_app1 (by rw [hl]; exact c), atR_zero, hz i c]
    · rw [atR_app2 (by rw [hl]; exact c), hl, atR_drop, show j + (i - j) = i by omega]
theorem letN_zb {r : List Int} {j : Nat} (hj : j ≤ r.length) (hz : Zb r j) : letN 0 r = letN j (r.drop j) := by
  conv => lhs; rw [zb_split hj hz]
  rw [letN_app, letN_zeros, List.nil_append]
  unfold zeroR
  rw [List.length_replicate, Nat.zero_add]
theorem letN_at {r : List Int} {j : Nat} (hj : j < r.length) : letN 0 r = letN 0 (r.take j) ++ (List.replicate (atR r j).toNat j ++ letN (j + 1) (r.drop (j + 1))) := by
  conv => lhs; rw [← List.take_append_drop j r]
  rw [letN_app, drop_cons hj, List.length_take, Nat.zero_add, Nat.min_eq_left (Nat.le_of_lt hj)]
  rfl
section
variable {t : Tb} {S : Type} {a : Nat → S → S} {pt : S}
/-- the tail's letters go behind, replaced -/
theorem swapA (R : RepD t S a pt) {j : Nat} : ∀ (ks : List Nat) (s : S), (∀ k ∈ ks, j < k ∧ k < t.ps.length) → a j (runA a s ks) = ks.foldl (fun s k => runA a s (letN 0 (cjW t j k))) (a j s)
  | [], _, _ => rfl
  | k :: ks, s, h => by
    obtain ⟨h1, h2⟩ := h k List.mem_cons_self
    show a j (runA a (a k s) ks) = _
    rw [swapA R ks (a k s) fun m hm => h m (List.mem_cons_of_mem _ hm), R.cj j k h1 h2]
    rfl
theorem timA (hV : Vd t) {d : Nat} (hs : ∀ (r : List Int) (m : Nat), Bl t.ps r → m < t.ps.length → t.ps.length ≤ m + d → ∀ s, runA a s (letN 0 (stpT t d r m)) = a m (runA a s (letN 0 r))) : ∀ (w : List Nat) (r : List Int), Bl t.ps r → (∀ m ∈ w, m < t.ps.length ∧ t.ps.length ≤ m + d) → ∀ s, runA a s (letN 0 (colW t d r w)) = runA a (runA a s (letN 0 r)) w
  | [], _, _, _, _ => rfl
  | m :: w, r, hb, hw, s => by
    obtain ⟨h1, h2⟩ := hw m List.mem_cons_self
    show runA a s (letN 0 (colW t d (stpT t d r m) w)) = runA a (a m (runA a s (letN 0 r))) w
    rw [timA hV hs w _ (stp_bl hV hb h1 h2) (fun k hk => hw k (List.mem_cons_of_mem _ hk)), hs r m hb h1 h2]
theorem tail_all (hV : Vd t) {d : Nat} {r s : List Int} {j : Nat} (hb : Bl t.ps r) (hd : t.ps.length ≤ j + (d + 1)) (hj : j < t.ps.length) (hs : Bl t.ps s) (hz : Zb s (j + 1)) : Bl t.ps (tailF t d j s (letN (j + 1) (r.drop (j + 1)))) ∧ Zb (tailF t d j s (letN (j + 1) (r.drop (j + 1)))) (j + 1) := by
  refine foldl_inv (P := fun f => Bl t.ps f ∧ Zb f (j + 1)) ⟨hs, hz⟩ fun f k hk hf => ?_
  obtain ⟨k1, k2⟩ := tail_lt hb hk
  obtain ⟨M, w, _, _, e, hbw, hzw⟩ := hV.cjv k1 k2
  rw [e]
  have := tim_ad hV (d := d) hf.1 hbw (fun m hm => by
    rcases Nat.lt_or_ge m (j + 1) with c | c
    · rw [hzw m c] at hm
      omega
    · omega)
  refine ⟨this.bl, fun i hi => ?_⟩
  rw [(this.ad (j + 1) (by omega) hzw).1 i hi]
  exact hf.2 i hi
/-- a step is a letter -/
theorem stpA (hV : Vd t) (R : RepD t S a pt) : ∀ (d : Nat) (r : List Int) (j : Nat), Bl t.ps r → j < t.ps.length → t.ps.length ≤ j + d → ∀ s, runA a s (letN 0 (stpT t d r j)) = a j (runA a s (letN 0 r))
  | 0, _, _, _, hj, hd, _ => absurd hd (by omega)
  | d + 1, r, j, hb, hj, hd, s => by
    have hrl : j < r.length := by rw [hb.1]; exact hj
    have hrj := hb.2 j hj
    have key : ∀ f0, Bl t.ps f0 → Zb f0 (j + 1) → ∀ s2, runA a s2 (letN 0 (tailF t d j f0 (letN (j + 1) (r.drop (j + 1))))) = (letN (j + 1) (r.drop (j + 1))).foldl (fun s k => runA a s (letN 0 (cjW t j k))) (runA a s2 (letN 0 f0)) := by
      have gen : ∀ (ks : List Nat) (f0 : List Int), Bl t.ps f0 → (∀ k ∈ ks, j < k ∧ k < t.ps.length) → ∀ s2, runA a s2 (letN 0 (tailF t d j f0 ks)) = ks.foldl (fun s k => runA a s (letN 0 (cjW t j k))) (runA a s2 (letN 0 f0)) := by
        intro ks
        induction ks with
        | nil => intro f0 _ _ s2; rfl
        | cons k ks ih =>
          intro f0 hf hk s2
          obtain ⟨k1, k2⟩ := hk k List.mem_cons_self
          obtain ⟨M, w, _, _, e, hbw, hzw⟩ := hV.cjv k1 k2
          have hw : ∀ m ∈ letN 0 w, m < t.ps.length ∧ t.ps.length ≤ m + d := fun m hm => by
            obtain ⟨m1, m2⟩ := letN_lt hbw hzw hm
            omega
          show runA a s2 (letN 0 (tailF t d j (timT t d f0 (cjW t j k)) ks)) = ks.foldl _ (runA a (runA a s2 (letN 0 f0)) (letN 0 (cjW t j k)))
          rw [e]
          rw [ih (timT t d f0 w) (col_bl hV hf hw) (fun m hm => hk m (List.mem_cons_of_mem _ hm)) s2]
          congr 1
          exact timA hV (stpA hV R d) (letN 0 w) f0 hf hw s2
      intro f0 hf _ s2
      exact gen _ f0 hf (fun k hk => tail_lt hb hk) s2
    obtain ⟨pr, epr, ep, hpb, hpz⟩ := hV.pwv hj
    have hlt : (r.take j).length = j := by rw [List.length_take]; omega
    have out : ∀ (e : Int) (f : List Int), Bl t.ps f → Zb f (j + 1) → letN 0 (r.take j ++ e :: f.drop (j + 1)) = letN 0 (r.take j) ++ (List.replicate e.toNat j ++ letN 0 f) := fun e f hf hz => by
      rw [letN_app, hlt, Nat.zero_add, letN_zb (by rw [hf.1]; omega) hz]
      rfl
    have eR : runA a s (letN 0 r) = runA a (runA a (runA a s (letN 0 (r.take j))) (List.replicate (atR r j).toNat j)) (letN (j + 1) (r.drop (j + 1))) := by
      rw [letN_at hrl, runA_app, runA_app]
    rw [eR, swapA R _ _ fun k hk => tail_lt hb hk]
    unfold stpT
    rw [hb.split hj, stpV_cons]
    have rep1 : ∀ (m : Nat) (s : S), runA a s (List.replicate (m + 1) j) = a j (runA a s (List.replicate m j)) := fun m s => by
      rw [List.replicate_succ', runA_app]
      rfl
    by_cases c : atR r j + 1 = atR t.ps j
    · rw [if_pos c, if_pos c, ep]
      obtain ⟨f1, f2⟩ := tail_all hV hb hd hj hpb hpz
      rw [out 0 _ f1 f2, runA_app, runA_app, key _ hpb hpz]
      show List.foldl _ (runA a (runA a s (letN 0 (r.take j))) (letN 0 pr)) _ = _
      rw [← R.pw j pr epr, ← c, show (atR r j + 1).toNat = (atR r j).toNat + 1 by omega, rep1]
    · rw [if_neg c, if_neg c]
      obtain ⟨f1, f2⟩ := tail_all hV hb hd hj (blz hV) zb_zeroR
      rw [out _ _ f1 f2, runA_app, runA_app, key _ (blz hV) zb_zeroR, letN_zeros, show (atR r j + 1).toNat = (atR r j).toNat + 1 by omega, rep1]
      rfl
/-- a collected word does what the word does -/
theorem colA (hV : Vd t) (R : RepD t S a pt) {d : Nat} {w : List Nat} {r : List Int} (hb : Bl t.ps r) (hw : ∀ m ∈ w, m < t.ps.length ∧ t.ps.length ≤ m + d) (s : S) : runA a s (letN 0 (colW t d r w)) = runA a (runA a s (letN 0 r)) w := timA hV (stpA hV R d) w r hb hw s
/-- two words that do the same collect to one row -/
theorem col_one (hV : Vd t) (R : RepD t S a pt) {d : Nat} {u v : List Nat} {r r' : List Int} (hb : Bl t.ps r) (hb' : Bl t.ps r') (hu : ∀ m ∈ u, m < t.ps.length ∧ t.ps.length ≤ m + d) (hv : ∀ m ∈ v, m < t.ps.length ∧ t.ps.length ≤ m + d) (h : runA a (runA a pt (letN 0 r)) u = runA a (runA a pt (letN 0 r')) v) : colW t d r u = colW t d r' v :=
  R.inj _ _ (col_bl hV hb hu) (col_bl hV hb' hv) (by rw [colA hV R hb hu, colA hV R hb' hv, h])
end
/-! a normal word collects to its row -/
theorem stp_end {t : Tb} {d : Nat} {u : List Int} {c : Int} {m : Nat} (hl : u.length + 1 + m = t.ps.length) (hc : c + 1 < atR t.ps u.length) : stpT t (d + 1) (u ++ c :: zeroR m) u.length = u ++ (c + 1) :: zeroR m := by
  unfold stpT
  rw [List.take_left, List.drop_left, stpV_cons, if_neg (by omega), if_neg (by omega), letN_zeros]
  show u ++ (c + 1) :: (zeroR t.ps.length).drop (u.length + 1) = _
  congr 2
  unfold zeroR
  rw [List.drop_replicate]
  congr 1
  omega
theorem rep_end {t : Tb} {d : Nat} {u : List Int} {m : Nat} (hl : u.length + 1 + m = t.ps.length) : ∀ (e : Nat) (c : Int), c + e < atR t.ps u.length → (List.replicate e u.length).foldl (stpT t (d + 1)) (u ++ c :: zeroR m) = u ++ (c + e) :: zeroR m
  | 0, c, _ => by rw [show c + ((0 : Nat) : Int) = c by omega]; rfl
  | e + 1, c, h => by
    rw [List.replicate_succ, List.foldl_cons, stp_end hl (by omega), rep_end hl e (c + 1) (by omega)]
    congr 2
    omega
theorem normal_from {t : Tb} {d : Nat} {x : List Int} (hx : Bl t.ps x) : ∀ (m k : Nat), k + m = t.ps.length → colW t (d + 1) (x.take k ++ zeroR m) (letN k (x.drop k)) = x
  | 0, k, e => by
    rw [List.drop_of_length_le (by rw [hx.1]; omega), List.take_of_length_le (by rw [hx.1]; omega)]
    exact List.append_nil x
  | m + 1, k, e => by
    have hk : k < x.length := by rw [hx.1]; omega
    have h0 := hx.2 k (by omega)
    have hl : (x.take k).length = k := by rw [List.length_take]; omega
    rw [drop_cons hk]
    show colW t (d + 1) (x.take k ++ (0 :: zeroR m)) (List.replicate (atR x k).toNat k ++ letN (k + 1) (x.drop (k + 1))) = x
    rw [col_app]
    have e1 : colW t (d + 1) (x.take k ++ (0 :: zeroR m)) (List.replicate (atR x k).toNat k) = x.take (k + 1) ++ zeroR m := by
      have h1 := rep_end (t := t) (d := d) (u := x.take k) (m := m) (by rw [hl]; omega) (atR x k).toNat 0 (by rw [hl]; omega)
      rw [hl] at h1
      refine h1.trans ?_
      rw [Int.zero_add, Int.toNat_of_nonneg h0.1, List.take_add_one, atR_get hk, List.append_assoc]
      rfl
    rw [e1]
    exact normal_from hx m (k + 1) (by omega)
theorem col_normal {t : Tb} {d : Nat} {x : List Int} (hx : Bl t.ps x) : colW t (d + 1) (zeroR t.ps.length) (letN 0 x) = x := normal_from hx t.ps.length 0 (by omega)
theorem letN_take {y : List Int} {c k : Nat} (h : k < y.length) : letN c (y.take (k + 1)) = letN c (y.take k) ++ List.replicate (atR y k).toNat (c + k) := by
  rw [List.take_add_one, atR_get h, letN_app, List.length_take, Nat.min_eq_left (Nat.le_of_lt h)]
  show letN c (y.take k) ++ (List.replicate (atR y k).toNat (c + k) ++ []) = _
  rw [List.append_nil]
/-- what is known behind a place, fully -/
theorem stpV_full {t : Tb} (hV : Vd t) {r : List Int} {j : Nat} (hb : Bl t.ps r) (hj : j < t.ps.length) : stpV t t.ps.length j (r.drop j) = (if atR r j + 1 = atR t.ps j then 0 else atR r j + 1) :: (tailF t t.ps.length j (if atR r j + 1 = atR t.ps j then t.pw.getD j [] else zeroR t.ps.length) (letN (j + 1) (r.drop (j + 1)))).drop (j + 1) := by
  have hf : ∀ n d s, n = t.ps.length → n = d + 1 → Bl t.ps s → tailF t n j s (letN (j + 1) (r.drop (j + 1))) = tailF t d j s (letN (j + 1) (r.drop (j + 1))) := fun n d s en ed hs => by
    refine foldl_eq (P := Bl t.ps) hs fun f k hk hf => ?_
    obtain ⟨k1, k2⟩ := tail_lt hb hk
    obtain ⟨M, w, _, _, e, hbw, hzw⟩ := hV.cjv k1 k2
    rw [e]
    refine ⟨col_fuel hV hf fun m hm => ?_, col_bl hV hf fun m hm => ?_⟩
    · obtain ⟨m1, m2⟩ := letN_lt hbw hzw hm
      omega
    · obtain ⟨m1, m2⟩ := letN_lt hbw hzw hm
      omega
  obtain ⟨d, ed⟩ : ∃ d, t.ps.length = d + 1 := ⟨t.ps.length - 1, by omega⟩
  obtain ⟨pr, _, ep, hpb, _⟩ := hV.pwv hj
  have hs : Bl t.ps (if atR r j + 1 = atR t.ps j then t.pw.getD j [] else zeroR t.ps.length) := by
    split
    · rw [ep]; exact hpb
    · exact blz hV
  rw [hf t.ps.length d _ rfl ed hs, hb.split hj]
  conv => lhs; rw [ed]
  exact stpV_cons t d j _ _
theorem stpT_full {t : Tb} (hV : Vd t) {r : List Int} {j : Nat} (hb : Bl t.ps r) (hj : j < t.ps.length) : stpT t t.ps.length r j = r.take j ++ (if atR r j + 1 = atR t.ps j then 0 else atR r j + 1) :: (tailF t t.ps.length j (if atR r j + 1 = atR t.ps j then t.pw.getD j [] else zeroR t.ps.length) (letN (j + 1) (r.drop (j + 1)))).drop (j + 1) := by
  unfold stpT
  rw [stpV_full hV hb hj]
theorem e_mod {t : Tb} (hV : Vd t) {r : List Int} {j : Nat} (hb : Bl t.ps r) (hj : j < t.ps.length) : (if atR r j + 1 = atR t.ps j then 0 else atR r j + 1) = (atR r j + 1) % atR t.ps j := by
  have h0 := hb.2 j hj
  split
  · rename_i c
    rw [c, Int.emod_self]
  · exact (Int.emod_eq_of_lt (by omega) (by omega)).symm
/-! ### tables that tell a group: by looking; beside one another -/
/-- the relations hold as maps of all rows -/
def chkT (t : Tb) : Bool := (allB t.ps).all fun r => (List.range t.ps.length).all fun i => decide (colW t t.ps.length r (List.replicate (atR t.ps i).toNat i) = colW t t.ps.length r (letN 0 (t.pw.getD i []))) && (List.range t.ps.length).all fun j => !decide (i < j) || decide (stpT t t.ps.length (stpT t t.ps.length r j) i = colW t t.ps.length (stpT t t.ps.length r i) (letN 0 (cjW t i j)))
theorem rep_chk {t : Tb} (hV : Vd t) (h : chkT t = true) : RepT t := by
  have hx : ∀ r, Bl t.ps r → ∀ i, i < t.ps.length → colW t t.ps.length r (List.replicate (atR t.ps i).toNat i) = colW t t.ps.length r (letN 0 (t.pw.getD i [])) ∧ ∀ j, i < j → j < t.ps.length → stpT t t.ps.length (stpT t t.ps.length r j) i = colW t t.ps.length (stpT t t.ps.length r i) (letN 0 (cjW t i j)) := fun r hr i hi => by
    have h1 := List.all_eq_true.mp h r (allB_mem hr)
    have h2 := List.all_eq_true.mp h1 i (List.mem_range.mpr hi)
    rw [Bool.and_eq_true] at h2
    refine ⟨of_decide_eq_true h2.1, fun j hij hj => ?_⟩
    have h3 := List.all_eq_true.mp h2.2 j (List.mem_range.mpr hj)
    rw [Bool.or_eq_true, decide_eq_true hij] at h3
    rcases h3 with h3 | h3
    · cases h3
    · exact of_decide_eq_true h3
  let a : Nat → {r : List Int // Bl t.ps r} → {r : List Int // Bl t.ps r} := fun k s => if h : k < t.ps.length then ⟨stpT t t.ps.length s.1 k, stp_bl hV s.2 h (by omega)⟩ else s
  have run : ∀ (w : List Nat) (s : {r : List Int // Bl t.ps r}), (∀ m ∈ w, m < t.ps.length) → (runA a s w).1 = colW t t.ps.length s.1 w := by
    intro w
    induction w with
    | nil => intro s _; rfl
    | cons m w ih =>
      intro s hw
      have hm := hw m List.mem_cons_self
      show (runA a (a m s) w).1 = colW t t.ps.length (stpT t t.ps.length s.1 m) w
      rw [ih (a m s) fun k hk => hw k (List.mem_cons_of_mem _ hk)]
      have e : (a m s).1 = stpT t t.ps.length s.1 m := by
        show (if h : m < t.ps.length then (⟨stpT t t.ps.length s.1 m, stp_bl hV s.2 h (by omega)⟩ : {r : List Int // Bl t.ps r}) else s).1 = _
        rw [dif_pos hm]
      rw [e]
  have hl : ∀ {r : List Int}, Bl t.ps r → ∀ m ∈ letN 0 r, m < t.ps.length := fun hr m hm => (letN_lt hr (k := 0) (fun i hi => absurd hi (Nat.not_lt_zero i)) hm).2
  have one : ∀ (s : {r : List Int // Bl t.ps r}) (m : Nat), m < t.ps.length → (a m s).1 = stpT t t.ps.length s.1 m := fun s m hm => by
    have := run [m] s (fun k hk => by rw [List.mem_singleton.mp hk]; exact hm)
    exact this
  refine ⟨_, a, ⟨zeroR t.ps.length, blz hV⟩, fun i r e s => ?_, fun i j hij hj s => ?_, fun r r' hr hr' e => ?_⟩
  · have hi : i < t.ps.length := by
      rcases Nat.lt_or_ge i t.ps.length with c | c
      · exact c
      · rw [List.getElem?_eq_none (by rw [hV.pwl]; exact c)] at e
        cases e
    obtain ⟨r2, e2, e3, hb, _⟩ := hV.pwv hi
    rw [e] at e2
    cases e2
    apply Subtype.ext
    rw [run _ s (fun m hm => by rw [(List.mem_replicate.mp hm).2]; exact hi), run _ s (hl hb), (hx s.1 s.2 i hi).1, e3]
  · obtain ⟨M, r, _, _, e, hb, _⟩ := hV.cjv hij hj
    apply Subtype.ext
    rw [one _ i (by omega), one s j hj, run _ _ (by rw [e]; exact hl hb), one s i (by omega)]
    exact (hx s.1 s.2 i (by omega)).2 j hij hj
  · have h1 := congrArg Subtype.val e
    rw [run _ _ (hl hr), run _ _ (hl hr')] at h1
    rcases Nat.eq_zero_or_pos t.ps.length with c | c
    · have z1 : r = [] := List.eq_nil_of_length_eq_zero (by rw [hr.1]; exact c)
      have z2 : r' = [] := List.eq_nil_of_length_eq_zero (by rw [hr'.1]; exact c)
      rw [z1, z2]
    · obtain ⟨d, ed⟩ : ∃ d, t.ps.length = d + 1 := ⟨t.ps.length - 1, by omega⟩
      have n1 := col_normal (d := d) hr
      have n2 := col_normal (d := d) hr'
      rw [← ed] at n1 n2
      exact n1.symm.trans (h1.trans n2)
theorem letN_shift (c : Nat) : ∀ (r : List Int) (k : Nat), letN (k + c) r = (letN k r).map (· + c)
  | [], _ => rfl
  | x :: r, k => by
    show List.replicate x.toNat (k + c) ++ letN (k + c + 1) r = (List.replicate x.toNat k ++ letN (k + 1) r).map (· + c)
    rw [List.map_append, List.map_replicate, ← letN_shift c r (k + 1), show k + c + 1 = k + 1 + c by omega]
theorem letN_unit {n k : Nat} (hk : k < n) : letN 0 (unitR n k) = [k] := by
  have hl : (unitR n k).length = n := by unfold unitR; rw [List.length_map, List.length_range]
  rw [letN_zb (j := k) (by omega) (fun i hi => by rw [unitR_at (by omega), if_neg (by omega)]), drop_cons (by omega), unitR_at hk, if_pos rfl]
  show [k] ++ letN (k + 1) ((unitR n k).drop (k + 1)) = [k]
  have hz : (unitR n k).drop (k + 1) = zeroR (n - (k + 1)) := by
    apply ext_at2
    · rw [List.length_drop, hl]
      exact List.length_replicate.symm
    · intro i hi
      have hi : i < n - (k + 1) := by
        have : (zeroR (n - (k + 1))).length = n - (k + 1) := List.length_replicate
        omega
      rw [atR_drop, atR_zero, unitR_at (by omega), if_neg (by omega)]
  rw [hz, letN_zeros, List.append_nil]
section
variable {S1 S2 : Type} {n1 : Nat} {a1 : Nat → S1 → S1} {a2 : Nat → S2 → S2}
def besA (n1 : Nat) (a1 : Nat → S1 → S1) (a2 : Nat → S2 → S2) : Nat → S1 × S2 → S1 × S2 := fun k s => if k < n1 then (a1 k s.1, s.2) else (s.1, a2 (k - n1) s.2)
theorem bes_lo : ∀ (w : List Nat) (s : S1 × S2), (∀ m ∈ w, m < n1) → runA (besA n1 a1 a2) s w = (runA a1 s.1 w, s.2)
  | [], _, _ => rfl
  | m :: w, s, h => by
    show runA _ (besA n1 a1 a2 m s) w = _
    rw [bes_lo w _ fun k hk => h k (List.mem_cons_of_mem _ hk)]
    unfold besA
    rw [if_pos (h m List.mem_cons_self)]
    rfl
theorem bes_hi : ∀ (w : List Nat) (s : S1 × S2), runA (besA n1 a1 a2) s (w.map (· + n1)) = (s.1, runA a2 s.2 w)
  | [], _ => rfl
  | m :: w, s => by
    show runA _ (besA n1 a1 a2 (m + n1) s) (w.map (· + n1)) = _
    rw [bes_hi w _]
    unfold besA
    rw [if_neg (by omega), Nat.add_sub_cancel]
    rfl
end
def besT (t1 t2 : Tb) : Tb := ⟨t1.ps ++ t2.ps, t1.pw.map (· ++ zeroR t2.ps.length) ++ t2.pw.map (zeroR t1.ps.length ++ ·), t1.cj.map (fun M => M.map (· ++ zeroR t2.ps.length) ++ (List.range t2.ps.length).map fun j => zeroR t1.ps.length ++ unitR t2.ps.length j) ++ t2.cj.map fun M => M.map (zeroR t1.ps.length ++ ·)⟩
theorem zeroR_len {n : Nat} : (zeroR n).length = n := List.length_replicate
theorem rep_bes {t1 t2 : Tb} (h1 : Vd t1) (h2 : Vd t2) (R1 : RepT t1) (R2 : RepT t2) : RepT (besT t1 t2) := by
  obtain ⟨S1, a1, q1, R1⟩ := R1
  obtain ⟨S2, a2, q2, R2⟩ := R2
  have l0 : ∀ {t : Tb} {r : List Int}, Bl t.ps r → ∀ m ∈ letN 0 r, m < t.ps.length := fun hr m hm => (letN_lt hr (k := 0) (fun i hi => absurd hi (Nat.not_lt_zero i)) hm).2
  have lo : ∀ {r : List Int}, Bl t1.ps r → ∀ s : S1 × S2, runA (besA t1.ps.length a1 a2) s (letN 0 (r ++ zeroR t2.ps.length)) = (runA a1 s.1 (letN 0 r), s.2) := fun hr s => by
    rw [letN_app, letN_zeros, List.append_nil]
    exact bes_lo _ s (l0 hr)
  have hi : ∀ (r : List Int) (s : S1 × S2), runA (besA t1.ps.length a1 a2) s (letN 0 (zeroR t1.ps.length ++ r)) = (s.1, runA a2 s.2 (letN 0 r)) := fun r s => by
    rw [letN_app, letN_zeros, List.nil_append, zeroR_len, letN_shift]
    exact bes_hi _ s
  have eA : ∀ i, i < t1.ps.length → ∀ s : S1 × S2, besA t1.ps.length a1 a2 i s = (a1 i s.1, s.2) := fun i c s => by unfold besA; rw [if_pos c]
  have eB : ∀ i, t1.ps.length ≤ i → ∀ s : S1 × S2, besA t1.ps.length a1 a2 i s = (s.1, a2 (i - t1.ps.length) s.2) := fun i c s => by unfold besA; rw [if_neg (by omega)]
  refine ⟨S1 × S2, besA t1.ps.length a1 a2, (q1, q2), fun i r e s => ?_, fun i j hij hj s => ?_, fun r r' hr hr' e => ?_⟩
  · have e : (t1.pw.map (· ++ zeroR t2.ps.length) ++ t2.pw.map (zeroR t1.ps.length ++ ·))[i]? = some r := e
    have hl : (t1.pw.map (· ++ zeroR t2.ps.length)).length = t1.ps.length := by rw [List.length_map, h1.pwl]
    show runA _ s (List.replicate (atR (t1.ps ++ t2.ps) i).toNat i) = _
    rcases Nat.lt_or_ge i t1.ps.length with c | c
    · rw [List.getElem?_append_left (by rw [hl]; exact c), List.getElem?_map] at e
      obtain ⟨r1, e1, e2, hb, _⟩ := h1.pwv c
      rw [e1] at e
      cases e
      rw [atR_app1 c, lo hb, bes_lo _ s (fun m hm => by rw [(List.mem_replicate.mp hm).2]; exact c), R1.pw i r1 e1]
    · rw [List.getElem?_append_right (by rw [hl]; exact c), List.getElem?_map, hl] at e
      cases e1 : t2.pw[i - t1.ps.length]? with
      | none => rw [e1] at e; cases e
      | some r2 =>
        rw [e1] at e
        cases e
        rw [atR_app2 c, hi]
        have := bes_hi (n1 := t1.ps.length) (a1 := a1) (a2 := a2) (List.replicate (atR t2.ps (i - t1.ps.length)).toNat (i - t1.ps.length)) s
        rw [List.map_replicate, show i - t1.ps.length + t1.ps.length = i by omega] at this
        rw [this, R2.pw _ r2 e1]
  · have hj : j < (t1.ps ++ t2.ps).length := hj
    rw [List.length_append] at hj
    have hcl : (t1.cj.map (fun M => M.map (· ++ zeroR t2.ps.length) ++ (List.range t2.ps.length).map fun j => zeroR t1.ps.length ++ unitR t2.ps.length j)).length = t1.ps.length := by rw [List.length_map, h1.cjl]
    rcases Nat.lt_or_ge i t1.ps.length with c | c
    · obtain ⟨M, eM⟩ := get_some (l := t1.cj) (i := i) (by rw [h1.cjl]; exact c)
      obtain ⟨hMl, hMr⟩ := h1.cjr i M eM
      have ec : cjW (besT t1 t2) i j = (M.map (· ++ zeroR t2.ps.length) ++ (List.range t2.ps.length).map fun j => zeroR t1.ps.length ++ unitR t2.ps.length j).getD (j - i - 1) [] := by
        unfold cjW
        congr 1
        refine getD_some ?_
        show (_ ++ _)[i]? = _
        rw [List.getElem?_append_left (by rw [hcl]; exact c), List.getElem?_map, eM]
        rfl
      rw [ec]
      rcases Nat.lt_or_ge j t1.ps.length with c2 | c2
      · obtain ⟨r, er⟩ := get_some (l := M) (i := j - i - 1) (by rw [hMl]; omega)
        have hb := (hMr r (List.mem_of_getElem? er)).1
        have e2 : (M.map (· ++ zeroR t2.ps.length) ++ (List.range t2.ps.length).map fun j => zeroR t1.ps.length ++ unitR t2.ps.length j).getD (j - i - 1) [] = r ++ zeroR t2.ps.length := by
          refine getD_some ?_
          rw [List.getElem?_append_left (by rw [List.length_map, hMl]; omega), List.getElem?_map, er]
          rfl
        have e3 : cjW t1 i j = r := by unfold cjW; rw [getD_some eM, getD_some er]
        rw [e2, lo hb, eA i c, eA j c2, eA i c]
        show (a1 i (a1 j s.1), s.2) = (runA a1 (a1 i s.1) (letN 0 r), s.2)
        rw [R1.cj i j hij c2, e3]
      · have e2 : (M.map (· ++ zeroR t2.ps.length) ++ (List.range t2.ps.length).map fun j => zeroR t1.ps.length ++ unitR t2.ps.length j).getD (j - i - 1) [] = zeroR t1.ps.length ++ unitR t2.ps.length (j - t1.ps.length) := by
          refine getD_some ?_
          rw [List.getElem?_append_right (by rw [List.length_map, hMl]; omega), List.length_map, hMl, show j - i - 1 - (t1.ps.length - (i + 1)) = j - t1.ps.length by omega, List.getElem?_map, List.getElem?_range (by omega)]
          rfl
        rw [e2, hi, letN_unit (by omega), eA i c, eB j c2, eA i c]
        rfl
    · have ec : cjW (besT t1 t2) i j = zeroR t1.ps.length ++ cjW t2 (i - t1.ps.length) (j - t1.ps.length) := by
        obtain ⟨M, r, eM, er, e3, _, _⟩ := h2.cjv (j := i - t1.ps.length) (k := j - t1.ps.length) (by omega) (by omega)
        have e4 : (besT t1 t2).cj.getD i [] = M.map (zeroR t1.ps.length ++ ·) := by
          refine getD_some ?_
          show (_ ++ _)[i]? = _
          rw [List.getElem?_append_right (by rw [hcl]; exact c), hcl, List.getElem?_map, eM]
          rfl
        show ((besT t1 t2).cj.getD i []).getD (j - i - 1) [] = _
        rw [e4, e3]
        refine getD_some ?_
        rw [List.getElem?_map, show j - i - 1 = j - t1.ps.length - (i - t1.ps.length) - 1 by omega, er]
        rfl
      rw [ec, hi, eB i c, eB j (by omega), eB i c]
      show (s.1, a2 (i - t1.ps.length) (a2 (j - t1.ps.length) s.2)) = (s.1, runA a2 (a2 (i - t1.ps.length) s.2) _)
      rw [R2.cj _ _ (by omega) (by omega)]
  · have sp : ∀ {r : List Int}, Bl (t1.ps ++ t2.ps) r → Bl t1.ps (r.take t1.ps.length) ∧ Bl t2.ps (r.drop t1.ps.length) := fun {r} hr => by
      have hl := hr.1
      rw [List.length_append] at hl
      refine ⟨⟨by rw [List.length_take]; omega, fun k hk => ?_⟩, ⟨by rw [List.length_drop]; omega, fun k hk => ?_⟩⟩
      · rw [atR_take hk]
        have := hr.2 k (by rw [List.length_append]; omega)
        rw [atR_app1 hk] at this
        exact this
      · rw [atR_drop]
        have := hr.2 (t1.ps.length + k) (by rw [List.length_append]; omega)
        rw [atR_app2 (by omega), show t1.ps.length + k - t1.ps.length = k by omega] at this
        exact this
    have rr : ∀ {r : List Int}, Bl (t1.ps ++ t2.ps) r → runA (besA t1.ps.length a1 a2) (q1, q2) (letN 0 r) = (runA a1 q1 (letN 0 (r.take t1.ps.length)), runA a2 q2 (letN 0 (r.drop t1.ps.length))) := fun {r} hr => by
      have h := sp hr
      conv => lhs; rw [← List.take_append_drop t1.ps.length r]
      rw [letN_app, runA_app, bes_lo _ _ (l0 h.1), h.1.1, letN_shift, bes_hi]
    have e : runA (besA t1.ps.length a1 a2) (q1, q2) (letN 0 r) = runA (besA t1.ps.length a1 a2) (q1, q2) (letN 0 r') := e
    rw [rr hr, rr hr'] at e
    have x1 := R1.inj _ _ (sp hr).1 (sp hr').1 (congrArg Prod.fst e)
    have x2 := R2.inj _ _ (sp hr).2 (sp hr').2 (congrArg Prod.snd e)
    rw [← List.take_append_drop t1.ps.length r, ← List.take_append_drop t1.ps.length r', x1, x2]
/-! ### tables that tell a group: with a generator changed -/
def nmF (t : Tb) (i : Nat) (o : List Int) (k : Nat) : List Int := if k = i then o else unitR t.ps.length k
def twA {S : Type} (a : Nat → S → S) (i : Nat) (o : List Int) : Nat → S → S := fun k s => if k = i then runA a s (letN 0 o) else a k s
/-- f behind x is 1 -/
def InP (t : Tb) (x f : List Int) : Prop := timT t t.ps.length x f = zeroR t.ps.length
/-- r' in the new generators is x in the old ones -/
def NwP (t : Tb) (i : Nat) (o x r' : List Int) : Prop := ∀ (S : Type) (a : Nat → S → S) (pt : S), RepD t S a pt → ∀ s, runA (twA a i o) s (letN 0 r') = runA a s (letN 0 x)
def Pw2 (t : Tb) (i : Nat) (o : List Int) (k m : Nat) (x : List Int) : Prop := ∀ (S : Type) (a : Nat → S → S) (pt : S), RepD t S a pt → ∀ s, runA a s (letN 0 x) = runA (twA a i o) s (List.replicate m k)
def Cj2 (t : Tb) (i : Nat) (o : List Int) (k j : Nat) (x : List Int) : Prop := ∀ (S : Type) (a : Nat → S → S) (pt : S), RepD t S a pt → ∀ s, twA a i o k (twA a i o j s) = runA a (twA a i o k s) (letN 0 x)
def Pw3 (t : Tb) (i : Nat) (o : List Int) (k : Nat) (r : List Int) : Prop := ∀ (S : Type) (a : Nat → S → S) (pt : S), RepD t S a pt → ∀ s, runA (twA a i o) s (List.replicate (atR t.ps k).toNat k) = runA (twA a i o) s (letN 0 r)
def Cj3 (t : Tb) (i : Nat) (o : List Int) (k j : Nat) (r : List Int) : Prop := ∀ (S : Type) (a : Nat → S → S) (pt : S), RepD t S a pt → ∀ s, twA a i o k (twA a i o j s) = runA (twA a i o) (twA a i o k s) (letN 0 r)
theorem letN_ok {ps r : List Int} (h : Bl ps r) : ∀ m ∈ letN 0 r, m < ps.length ∧ ps.length ≤ m + ps.length := fun m hm => ⟨(letN_lt h (k := 0) (fun i hi => absurd hi (Nat.not_lt_zero i)) hm).2, by omega⟩
theorem timA2 {t : Tb} (hV : Vd t) {S : Type} {a : Nat → S → S} {pt : S} (R : RepD t S a pt) {x y : List Int} (hx : Bl t.ps x) (hy : Bl t.ps y) (s : S) : runA a s (letN 0 (timT t t.ps.length x y)) = runA a (runA a s (letN 0 x)) (letN 0 y) := colA hV R hx (letN_ok hy) s
theorem inv_run {t : Tb} (hV : Vd t) {S : Type} {a : Nat → S → S} {pt : S} (R : RepD t S a pt) {x f : List Int} (hx : Bl t.ps x) (hf : Bl t.ps f) (h : InP t x f) (s : S) : runA a (runA a s (letN 0 x)) (letN 0 f) = s := by
  have := timA2 hV R hx hf s
  rw [h, letN_zeros] at this
  exact this.symm
theorem run_nm {t : Tb} {S : Type} {a : Nat → S → S} {i k : Nat} {o : List Int} (hk : k < t.ps.length) (s : S) : runA a s (letN 0 (nmF t i o k)) = twA a i o k s := by
  unfold nmF twA
  by_cases c : k = i
  · rw [if_pos c, if_pos c]
  · rw [if_neg c, if_neg c, letN_unit hk]
    rfl
theorem tw_off {S : Type} {a : Nat → S → S} {i : Nat} {o : List Int} : ∀ (w : List Nat) (s : S), (∀ m ∈ w, m ≠ i) → runA (twA a i o) s w = runA a s w
  | [], _, _ => rfl
  | m :: w, s, h => by
    show runA (twA a i o) (twA a i o m s) w = runA a (a m s) w
    rw [tw_off w _ fun k hk => h k (List.mem_cons_of_mem _ hk)]
    unfold twA
    rw [if_neg (h m List.mem_cons_self)]
/-- so many turns of the new row -/
structure NlP (t : Tb) (i : Nat) (o x tl : List Int) (m : Nat) : Prop where
  bl : Bl t.ps tl
  zb : Zb tl i
  pl : atR tl i = atR x i - m
  rn : ∀ (S : Type) (a : Nat → S → S) (pt : S), RepD t S a pt → ∀ s, runA a (runA (twA a i o) s (List.replicate m i)) (letN 0 tl) = runA a s (letN i (x.drop i))
theorem NlP.init {t : Tb} {i : Nat} {o x tl : List Int} (hi : i < t.ps.length) (hx : Bl t.ps x) (hb : Bl t.ps tl) (h : ∀ k, k < t.ps.length → atR tl k = if k < i then 0 else atR x k) : NlP t i o x tl 0 := by
  have hz : Zb tl i := fun k hk => by rw [h k (by omega), if_pos hk]
  refine ⟨hb, hz, by rw [h i hi, if_neg (Nat.lt_irrefl i)]; omega, fun S a pt R s => ?_⟩
  show runA a s (letN 0 tl) = _
  rw [letN_zb (by rw [hb.1]; omega) hz]
  congr 2
  apply ext_at2
  · rw [List.length_drop, List.length_drop, hb.1, hx.1]
  · intro k hk
    rw [List.length_drop, hx.1] at hk
    rw [atR_drop, atR_drop, h (i + k) (by omega), if_neg (by omega)]
theorem NlP.step {t : Tb} (hV : Vd t) {i : Nat} {o x v tl : List Int} {m : Nat} (hi : i < t.ps.length) (ho : GnR t.ps o i) (hv : IvR t.ps o v) (hI : InP t o v) (h : NlP t i o x tl m) (hm : (m : Int) < atR x i) : NlP t i o x (timT t t.ps.length v tl) (m + 1) := by
  have p2 := hV.p2 hi
  have hA := tim_ad hV (d := t.ps.length) hv.bl h.bl (fun _ _ => by omega)
  obtain ⟨a1, a2⟩ := hA.ad i (by omega) h.zb
  obtain ⟨b1, b2⟩ := hv.iv i (by omega) ho.zb
  have hti := h.bl.2 i hi
  refine ⟨hA.bl, fun k hk => by rw [a1 k hk]; exact b1 k hk, ?_, fun S a pt R s => ?_⟩
  · rw [a2 hi, b2 hi, ho.one, h.pl, Int.emod_add_emod, show atR t.ps i - 1 + (atR x i - (m : Int)) = (atR x i - ((m + 1 : Nat) : Int)) + atR t.ps i by omega, Int.add_emod_right]
    have := h.pl
    exact Int.emod_eq_of_lt (by omega) (by omega)
  · rw [timA2 hV R hv.bl h.bl, List.replicate_succ', runA_app]
    have e : ∀ s, runA (twA a i o) s [i] = runA a s (letN 0 o) := fun s => by
      show twA a i o i s = _
      unfold twA
      rw [if_pos rfl]
    rw [e, inv_run hV R ho.bl hv.bl hI]
    exact h.rn S a pt R s
theorem NlP.done {t : Tb} {i : Nat} {o x tl : List Int} (hi : i < t.ps.length) (hx : Bl t.ps x) (h : NlP t i o x tl (atR x i).toNat) : NwP t i o x (x.take (i + 1) ++ tl.drop (i + 1)) := fun S a pt R s => by
  have hxl : i < x.length := by rw [hx.1]; exact hi
  have h0 := (hx.2 i hi).1
  have hz : Zb tl (i + 1) := fun k hk => by
    rcases Nat.lt_or_ge k i with c | c
    · exact h.zb k c
    · have : k = i := by omega
      rw [this, h.pl]
      omega
  have hlt : (x.take (i + 1)).length = i + 1 := by rw [List.length_take]; omega
  have e1 : letN 0 (x.take (i + 1) ++ tl.drop (i + 1)) = letN 0 (x.take i) ++ (List.replicate (atR x i).toNat i ++ letN 0 tl) := by
    rw [letN_app, hlt, Nat.zero_add, letN_zb (j := i + 1) (r := tl) (by rw [h.bl.1]; omega) hz, List.take_add_one, atR_get hxl, letN_app, List.length_take, Nat.zero_add, Nat.min_eq_left (Nat.le_of_lt hxl), List.append_assoc]
    show _ ++ ((List.replicate (atR x i).toNat i ++ []) ++ _) = _
    rw [List.append_nil]
  have e2 : letN 0 x = letN 0 (x.take i) ++ letN i (x.drop i) := by
    conv => lhs; rw [← List.take_append_drop i x]
    rw [letN_app, List.length_take, Nat.zero_add, Nat.min_eq_left (Nat.le_of_lt hxl)]
  have o1 : ∀ m ∈ letN 0 (x.take i), m ≠ i := fun m hm => by
    obtain ⟨q, rfl, hq, _⟩ := mem_letN hm
    rw [List.length_take] at hq
    omega
  have o2 : ∀ m ∈ letN 0 tl, m ≠ i := fun m hm => by
    have := (letN_lt h.bl hz hm).1
    omega
  rw [e1, e2, runA_app, runA_app, runA_app, tw_off _ _ o1, tw_off _ _ o2]
  exact h.rn S a pt R _
/-- the run of a step at one place -/
theorem rep_stp {t : Tb} (hV : Vd t) {d k : Nat} (hk : k < t.ps.length) (hd : t.ps.length ≤ k + d) : ∀ (m : Nat) {x : List Int}, Bl t.ps x → Bl t.ps (colW t d x (List.replicate m k)) ∧ (∀ i, i < k → atR (colW t d x (List.replicate m k)) i = atR x i) ∧ atR (colW t d x (List.replicate m k)) k = (atR x k + m) % atR t.ps k
  | 0, x, h => ⟨h, fun _ _ => rfl, by
    have := h.2 k hk
    show atR x k = _
    rw [show ((0 : Nat) : Int) = 0 from rfl, Int.add_zero, Int.emod_eq_of_lt this.1 this.2]⟩
  | m + 1, x, h => by
    have h1 := stp_all hV d h hk hd
    obtain ⟨a1, a2, a3⟩ := rep_stp hV hk hd m h1.bl
    rw [List.replicate_succ]
    refine ⟨a1, fun i hi => (a2 i hi).trans (h1.lo i hi), ?_⟩
    refine a3.trans ?_
    rw [h1.pl, Int.emod_add_emod]
    congr 1
    omega
theorem emod_inj {p c x y : Int} (hp : 0 < p) (hx : 0 ≤ x ∧ x < p) (hy : 0 ≤ y ∧ y < p) (h : (c + x) % p = (c + y) % p) : x = y := by
  have h1 : (c + x - (c + y)) % p = 0 := Int.emod_eq_emod_iff_emod_sub_eq_zero.mp h
  rw [show c + x - (c + y) = x - y by omega] at h1
  obtain ⟨q, hq⟩ := Int.dvd_of_emod_eq_zero h1
  rcases Int.lt_trichotomy q 0 with c1 | c1 | c1
  · have : p * q ≤ p * (-1) := Int.mul_le_mul_of_nonneg_left (by omega) (by omega)
    omega
  · rw [c1, Int.mul_zero] at hq
    omega
  · have : p * 1 ≤ p * q := Int.mul_le_mul_of_nonneg_left (by omega) (by omega)
    omega
/-- in the new generators, too, unlike rows are unlike -/
theorem tw_inj {t : Tb} (hV : Vd t) {i : Nat} {o : List Int} (hi : i < t.ps.length) (ho : GnR t.ps o i) {S : Type} {a : Nat → S → S} {pt : S} (R : RepD t S a pt) {r r' : List Int} (hr : Bl t.ps r) (hr' : Bl t.ps r') (h : runA (twA a i o) pt (letN 0 r) = runA (twA a i o) pt (letN 0 r')) : r = r' := by
  have gn : ∀ k, k < t.ps.length → GnR t.ps (nmF t i o k) k := fun k hk => by
    unfold nmF
    by_cases c : k = i
    · rw [if_pos c, c]; exact ho
    · rw [if_neg c]
      refine ⟨⟨by unfold unitR; rw [List.length_map, List.length_range], fun q hq => ?_⟩, fun q hq => ?_, ?_⟩
      · rw [unitR_at hq]
        have := hV.p2 hq
        split <;> omega
      · rw [unitR_at (by omega), if_neg (by omega)]
      · rw [unitR_at hk, if_pos rfl]
  let cv : List Int → List Nat → List Int := fun x w => w.foldl (fun x k => timT t t.ps.length x (nmF t i o k)) x
  have cvb : ∀ (w : List Nat) (x : List Int), Bl t.ps x → (∀ m ∈ w, m < t.ps.length) → Bl t.ps (cv x w) := fun w x hx hw => foldl_inv (P := Bl t.ps) hx fun f m hm hf => (tim_ad hV hf (gn m (hw m hm)).bl (fun _ _ => by omega)).bl
  have cvr : ∀ (w : List Nat) (x : List Int), Bl t.ps x → (∀ m ∈ w, m < t.ps.length) → ∀ s, runA a s (letN 0 (cv x w)) = runA (twA a i o) (runA a s (letN 0 x)) w := by
    intro w
    induction w with
    | nil => intro x _ _ s; rfl
    | cons m w ih =>
      intro x hx hw s
      have hm := hw m List.mem_cons_self
      show runA a s (letN 0 (cv (timT t t.ps.length x (nmF t i o m)) w)) = runA (twA a i o) (twA a i o m (runA a s (letN 0 x))) w
      rw [ih _ (tim_ad hV hx (gn m hm).bl (fun _ _ => by omega)).bl (fun k hk => hw k (List.mem_cons_of_mem _ hk)) s, timA2 hV R hx (gn m hm).bl, run_nm hm]
  -- letters from k on keep what is in front of k
  have keep : ∀ (w : List Nat) (x : List Int) (k : Nat), Bl t.ps x → (∀ m ∈ w, k ≤ m ∧ m < t.ps.length) → ∀ q, q < k → atR (cv x w) q = atR x q := by
    intro w
    induction w with
    | nil => intro x k _ _ q _; rfl
    | cons m w ih =>
      intro x k hx hw q hq
      obtain ⟨m1, m2⟩ := hw m List.mem_cons_self
      have hA := tim_ad hV (d := t.ps.length) hx (gn m m2).bl (fun _ _ => by omega)
      show atR (cv (timT t t.ps.length x (nmF t i o m)) w) q = _
      rw [ih _ k hA.bl (fun z hz => hw z (List.mem_cons_of_mem _ hz)) q hq]
      exact (hA.ad m (by omega) (gn m m2).zb).1 q (by omega)
  have rep : ∀ (c : Nat) (x : List Int) (k : Nat), Bl t.ps x → k < t.ps.length → atR (cv x (List.replicate c k)) k = (atR x k + c) % atR t.ps k := by
    intro c
    induction c with
    | zero =>
      intro x k hx hk
      have := hx.2 k hk
      show atR x k = _
      rw [show ((0 : Nat) : Int) = 0 from rfl, Int.add_zero, Int.emod_eq_of_lt this.1 this.2]
    | succ c ih =>
      intro x k hx hk
      have hA := tim_ad hV (d := t.ps.length) hx (gn k hk).bl (fun _ _ => by omega)
      rw [List.replicate_succ]
      show atR (cv (timT t t.ps.length x (nmF t i o k)) (List.replicate c k)) k = _
      rw [ih _ k hA.bl hk, (hA.ad k (by omega) (gn k hk).zb).2 hk, (gn k hk).one, Int.emod_add_emod]
      congr 1
      omega
  have lt0 : ∀ {r : List Int}, Bl t.ps r → ∀ m ∈ letN 0 r, m < t.ps.length := fun hr m hm => (letN_ok hr m hm).1
  have e0 : cv (zeroR t.ps.length) (letN 0 r) = cv (zeroR t.ps.length) (letN 0 r') := by
    refine R.inj _ _ (cvb _ _ (blz hV) (lt0 hr)) (cvb _ _ (blz hV) (lt0 hr')) ?_
    rw [cvr _ _ (blz hV) (lt0 hr), cvr _ _ (blz hV) (lt0 hr'), letN_zeros]
    exact h
  have item : ∀ {r : List Int}, Bl t.ps r → ∀ k, k < t.ps.length → atR (cv (zeroR t.ps.length) (letN 0 r)) k = (atR (cv (zeroR t.ps.length) (letN 0 (r.take k))) k + atR r k) % atR t.ps k := fun {r} hr k hk => by
    have hkl : k < r.length := by rw [hr.1]; exact hk
    have hlo : ∀ m ∈ letN 0 (r.take k), m < t.ps.length := fun m hm => by
      obtain ⟨q, rfl, hq, _⟩ := mem_letN hm
      rw [List.length_take] at hq
      omega
    have hb1 := cvb _ _ (blz hV) hlo
    have hb2 := cvb (List.replicate (atR r k).toNat k) _ hb1 (fun m hm => by rw [(List.mem_replicate.mp hm).2]; exact hk)
    have es : cv (zeroR t.ps.length) (letN 0 r) = cv (cv (cv (zeroR t.ps.length) (letN 0 (r.take k))) (List.replicate (atR r k).toNat k)) (letN (k + 1) (r.drop (k + 1))) := by
      show List.foldl _ _ _ = List.foldl _ (List.foldl _ (List.foldl _ _ _) _) _
      rw [letN_at hkl, List.foldl_append, List.foldl_append]
    rw [es, keep _ _ (k + 1) hb2 (fun m hm => tail_lt hr hm) k (Nat.lt_succ_self k), rep _ _ k hb1 hk, Int.toNat_of_nonneg (hr.2 k hk).1]
  have all : ∀ k, k ≤ t.ps.length → r.take k = r'.take k := by
    intro k
    induction k with
    | zero => intro _; rfl
    | succ k ih =>
      intro hk
      have hk2 : k < t.ps.length := hk
      have e1 := ih (by omega)
      have h1 := item hr k hk2
      have h2 := item hr' k hk2
      rw [← e0, ← e1] at h2
      rw [h1] at h2
      have p2 := hV.p2 hk2
      have e2 := emod_inj (by omega) (hr.2 k hk2) (hr'.2 k hk2) h2
      rw [List.take_add_one, List.take_add_one, atR_get (by rw [hr.1]; exact hk2), atR_get (by rw [hr'.1]; exact hk2), e1, e2]
  have := all t.ps.length (Nat.le_refl _)
  rw [List.take_of_length_le (by rw [hr.1]; exact Nat.le_refl _), List.take_of_length_le (by rw [hr'.1]; exact Nat.le_refl _)] at this
  exact this
theorem rep_twist {t t' : Tb} (hV : Vd t) {i : Nat} {o : List Int} (hi : i < t.ps.length) (ho : GnR t.ps o i) (eps : t'.ps = t.ps) (hpw : ∀ k r, t'.pw[k]? = some r → Pw3 t i o k r) (hcj : ∀ k j, k < j → j < t.ps.length → Cj3 t i o k j (cjW t' k j)) (R : RepT t) : RepT t' := by
  obtain ⟨S, a, pt, R⟩ := R
  refine ⟨S, twA a i o, pt, fun k r e s => ?_, fun k j hkj hj s => ?_, fun r r' hr hr' h => ?_⟩
  · rw [eps]
    exact hpw k r e S a pt R s
  · rw [eps] at hj
    exact hcj k j hkj hj S a pt R s
  · rw [eps] at hr hr'
    exact tw_inj hV hi ho R hr hr' h
theorem Pw2.init {t : Tb} {i k : Nat} {o : List Int} (hk : k < t.ps.length) : Pw2 t i o k 1 (nmF t i o k) := fun S a pt R s => run_nm hk s
theorem Pw2.step {t : Tb} (hV : Vd t) {i k m : Nat} {o x : List Int} (hk : k < t.ps.length) (hx : Bl t.ps x) (hn : Bl t.ps (nmF t i o k)) (h : Pw2 t i o k m x) : Pw2 t i o k (m + 1) (timT t t.ps.length x (nmF t i o k)) := fun S a pt R s => by
  rw [timA2 hV R hx hn, h S a pt R s, run_nm hk, List.replicate_succ', runA_app]
  rfl
theorem Pw2.row {t : Tb} {i k : Nat} {o x r : List Int} (h : Pw2 t i o k (atR t.ps k).toNat x) (hn : NwP t i o x r) : Pw3 t i o k r := fun S a pt R s => by rw [hn S a pt R s, h S a pt R s]
theorem cj2_of {t : Tb} (hV : Vd t) {i k j : Nat} {o v : List Int} (hk : k < t.ps.length) (hj : j < t.ps.length) (hx : Bl t.ps (nmF t i o j)) (hy : Bl t.ps (nmF t i o k)) (hv : Bl t.ps v) (hI : InP t (nmF t i o k) v) : Cj2 t i o k j (timT t t.ps.length v (timT t t.ps.length (nmF t i o j) (nmF t i o k))) := fun S a pt R s => by
  have hxy := (tim_ad hV (d := t.ps.length) hx hy (fun _ _ => by omega)).bl
  have e := inv_run hV R hy hv hI s
  rw [run_nm hk] at e
  rw [timA2 hV R hv hxy, timA2 hV R hx hy, e, run_nm hj, run_nm hk]
theorem Cj2.row {t : Tb} {i k j : Nat} {o x r : List Int} (h : Cj2 t i o k j x) (hn : NwP t i o x r) : Cj3 t i o k j r := fun S a pt R s => by rw [hn S a pt R, h S a pt R s]
/-! ### the dict of known steps -/
def KnOK (P : Program) (w : World) (K : PySem.W.Frag) (H : Hp) (kn : Addr) (t : Tb) : Prop := ∃ kvs : List (Pk.PK × V), Pk.KD P w K H kn kvs ∧ ∀ kv ∈ kvs, ∃ j : Nat, kv.1.1 = (j : Int) ∧ j < t.ps.length ∧ Bl (t.ps.drop j) kv.1.2 ∧ ∃ v, RS K H kv.2 v ∧ v = stpV t t.ps.length j kv.1.2
theorem paired_fst {α β γ : Type} {R : α × β → α × γ → Prop} (h : ∀ a b, R a b → a.1 = b.1) : ∀ {xs : List (α × β)} {ys : List (α × γ)}, Paired R xs ys → xs.map (·.1) = ys.map (·.1)
  | _, _, .nil => rfl
  | _, _, .cons q t => by rw [List.map_cons, List.map_cons, h _ _ q, paired_fst h t]
theorem kd_nodup {H : Hp} {d : Addr} {kvs : List (Pk.PK × V)} (h : Pk.KD P w K H d kvs) : (kvs.map (·.1)).Nodup := by
  obtain ⟨xs, h⟩ := h
  rw [paired_fst (fun _ _ q => q.1) h.rel]
  exact h.nd
theorem KnOK.few {H : Hp} {kn : Addr} {t : Tb} (hv : Vd t) {kvs : List (Pk.PK × V)} (h : Pk.KD P w K H kn kvs) (hk : ∀ kv ∈ kvs, ∃ j : Nat, kv.1.1 = (j : Int) ∧ j < t.ps.length ∧ Bl (t.ps.drop j) kv.1.2) : kvs.length < sizeLine := by
  have h1 := nodup_few (m := allK 0 t.ps) (kd_nodup h) fun x hx => by
    obtain ⟨kv, hkv, rfl⟩ := List.mem_map.mp hx
    obtain ⟨j, e, hj, hb⟩ := hk kv hkv
    have := allK_mem 0 hj hb
    rw [Nat.zero_add] at this
    rw [← Prod.eta kv.1, e]
    exact this
  have h2 := allK_len 0 (ps := t.ps) (c := 1000) (fun p hp => (pr31_in (hv.pr p hp)).1) hv.sz
  have h3 : t.ps.length * 1000 ≤ 10 * 1000 := Nat.mul_le_mul_right _ hv.n10
  rw [List.length_map] at h1
  exact small2000 (by omega)
theorem KnOK.mono {H H' : Hp} {kn : Addr} {t : Tb} (e : Same H H') (h : KnOK P w K H kn t) : KnOK P w K H' kn t := by
  obtain ⟨kvs, h1, h2⟩ := h
  refine ⟨kvs, h1.mono e, fun kv hkv => ?_⟩
  obtain ⟨j, a, b, c, v, d, f⟩ := h2 kv hkv
  exact ⟨j, a, b, c, v, rs_tps (Tps.of e) d, f⟩
theorem KnOK.ext {H : Hp} {kn : Addr} {t : Tb} (h : KnOK P w K H kn t) : ∃ φ, H kn = some (.ext φ) := by
  obtain ⟨kvs, ⟨xs, h⟩, _⟩ := h
  exact ⟨_, h.here⟩
theorem Tps.xe {H H' : Hp} {a : Addr} {φ : Heap → Prop} (e : SameX a H H') (ha : H a = some (.ext φ)) : Tps K H H' := fun b ys h => by
  rcases h with (h | ⟨o, h⟩) | h
  · exact .inl (.inl (e b _ (fun z => by rw [z, ha] at h; cases h) h))
  · exact .inl (.inr ⟨o, e b _ (fun z => by rw [z, ha] at h; cases h) h⟩)
  · exact .inr h
theorem valV_mem {κ : Type} [DecidableEq κ] {k : κ} {v : V} : ∀ {kvs : List (κ × V)}, valV kvs k = some v → (k, v) ∈ kvs
  | [], h => by cases h
  | p :: kvs, h => by
    by_cases e : p.1 = k
    · rw [valV_pos e] at h
      cases h
      rw [← e]
      exact List.mem_cons_self
    · rw [valV_neg e] at h
      exact List.mem_cons_of_mem _ (valV_mem h)
theorem mem_putK {κ : Type} [DecidableEq κ] {k : κ} {v : V} {kvs : List (κ × V)} {kv : κ × V} (h : kv ∈ putK kvs k v) : kv ∈ kvs ∨ (kv.1 = k ∧ kv.2 = v) := by
  unfold putK at h
  split at h
  · obtain ⟨q, hq, rfl⟩ := List.mem_map.mp h
    by_cases e : q.1 = k
    · rw [if_pos e]
      exact .inr ⟨e, rfl⟩
    · rw [if_neg e]
      exact .inl hq
  · rcases List.mem_append.mp h with h | h
    · exact .inl h
    · rw [List.mem_singleton.mp h]
      exact .inr ⟨rfl, rfl⟩
/-- one more -/
theorem KnOK.put {H H' : Hp} {kn : Addr} {t : Tb} {kvs : List (Pk.PK × V)} {k : Pk.PK} {x : V} (e : Tps K H H') (hk : ∀ kv ∈ kvs, ∃ j : Nat, kv.1.1 = (j : Int) ∧ j < t.ps.length ∧ Bl (t.ps.drop j) kv.1.2 ∧ ∃ v, RS K H kv.2 v ∧ v = stpV t t.ps.length j kv.1.2)
    (hn : ∃ j : Nat, k.1 = (j : Int) ∧ j < t.ps.length ∧ Bl (t.ps.drop j) k.2 ∧ ∃ v, RS K H x v ∧ v = stpV t t.ps.length j k.2) (h : Pk.KD P w K H' kn (putK kvs k x)) : KnOK P w K H' kn t := by
  refine ⟨_, h, fun kv hkv => ?_⟩
  rcases mem_putK hkv with q | ⟨q1, q2⟩
  · obtain ⟨j, a, b, c, v, d, f⟩ := hk kv q
    exact ⟨j, a, b, c, v, rs_tps e d, f⟩
  · obtain ⟨j, a, b, c, v, d, f⟩ := hn
    rw [q1, q2]
    exact ⟨j, a, b, c, v, rs_tps e d, f⟩
theorem TbAt.rd {H : Hp} {z : V} {t : Tb} (h : TbAt K H z t) : ∃ (x a b c : Addr) (us vs : List V), z = .ref x ∧ SqT K H x [.ref a, .ref b, .ref c] ∧ SqT K H a (t.ps.map V.int) ∧ SqT K H b us ∧ Paired (RS K H) us t.pw ∧ SqT K H c vs ∧ Paired (Tup1 K H) vs t.cj := by
  obtain ⟨x, a, b, c, vs, h1, h2, h3, ⟨b', us, eb, h4, h5⟩, h6, h7⟩ := h.ex
  cases eb
  exact ⟨x, a, b, c, us, vs, h1, h2, h3, h4, h5, h6, h7⟩
theorem cut_from {xs : List V} {j : Nat} (h : j ≤ xs.length) : cutV xs (some (j : Int)) none = xs.drop j := by
  unfold cutV
  rw [HT.sIx_none, HT.sIx_nat, Nat.min_eq_left h]
  exact List.take_of_length_le (by rw [List.length_drop]; exact Nat.le_refl _)
theorem cut_to {xs : List V} {j : Nat} (h : j ≤ xs.length) : cutV xs none (some (j : Int)) = xs.take j := by
  unfold cutV
  rw [HT.sIx_none, HT.sIx_nat, Nat.min_eq_left h, List.drop_zero, Nat.sub_zero]
theorem atW {r : List Int} {k : Nat} (h : k < r.length) : atI (r.map V.int) (k : Int) = some (.int (atR r k)) := atI_nat (by rw [List.getElem?_map, atR_get h]; rfl)
theorem hu2 {A : Around} {k : Nat} (hr : Room k A) : A.units + 2 < cLine := by
  have := hr.un
  omega
/-! ### _law_step, _law_times -/
def spStep (P : Program) (w : World) (K : PySem.W.Frag) (d : Nat) : Sp := fun vs H Q _ => ∃ (kn : Addr) (z rv : V) (t : Tb) (r : List Int) (j : Nat), vs = [z, .ref kn, rv, .int (j : Int)] ∧ TbAt K H z t ∧ Vd t ∧ KnOK P w K H kn t ∧ RS K H rv r ∧ Bl t.ps r ∧ j < t.ps.length ∧ t.ps.length ≤ j + d ∧
  ∀ z' r' H', SameX kn H H' → Tps K H H' → KnOK P w K H' kn t → RS K H' z' r' → StpR t.ps r r' j → r' = stpT t t.ps.length r j → Q z' H'
def spTimes (P : Program) (w : World) (K : PySem.W.Frag) (d : Nat) : Sp := fun vs H Q _ => ∃ (kn : Addr) (z xv yv : V) (t : Tb) (x y : List Int), vs = [z, .ref kn, xv, yv] ∧ TbAt K H z t ∧ Vd t ∧ KnOK P w K H kn t ∧ RS K H xv x ∧ RS K H yv y ∧ Bl t.ps x ∧ Bl t.ps y ∧ (∀ i, i + d < t.ps.length → atR y i = 0) ∧
  ∀ z' r' H', SameX kn H H' → Tps K H H' → KnOK P w K H' kn t → RS K H' z' r' → AdR t.ps x y r' → r' = timT t t.ps.length x y → Q z' H'
theorem ok_times0 {d : Nat} (T : Txt K mg) (G__law_step : FnOk P w K mg base CX0 (2 * d + 1) T.a__law_step T.d__law_step ["table", "known", "row", "j"] (spStep P w K d)) : FnOk P w K mg base CX0 (2 * d + 2) T.a__law_times T.d__law_times ["table", "known", "x", "y"] (spTimes P w K d) := by
  refine T.F__law_times.ok sc__law_times (fun vs H Q E h => ?_) (fun cdv A outer s H vs Q E hr h => ?_)
  · obtain ⟨kn, z, xv, yv, t, x, y, rfl, _⟩ := h
    rfl
  · obtain ⟨kn, z, xv, yv, t, x, y, rfl, hT, hV, hK, hx, hy, hbx, hby, hy0, q⟩ := h
    refine ⟨_, (pss_cons (ps_for PassesOwn.never rfl (pi_range1 (by rfl) T.n_range (pa_cons (pe_callB call_len_seq (by rfl) T.n_len (by decide +kernel) (pa_cons (pv 3) pa_nil)) pa_nil)) (pg_name (i := 4) sc__law_times.nd rfl (.inl rfl)) 
      (pss_one (ps_for PassesOwn.never rfl (pi_range1 (by rfl) T.n_range (pa_cons (pe_ix ix_tup (pv 3) (pv 4) (fun _ _ => rfl)) pa_nil)) (pg_name (i := 5) sc__law_times.nd rfl (.inl rfl)) 
        (pss_one (ps_set (i := 2) sc__law_times.nd rfl (.inl rfl) (pe_call G__law_step (hr.mono (by omega)) (by rfl) T.g__law_step T.F__law_step.kp T.b__law_step .nil pass0 (pa_cons (pv 0) (pa_cons (pv 1) (pa_cons (pv 2) (pa_cons (pv 4) pa_nil)))))))))) 
    (pss_one (ps_ret (pv 2)))), ?_⟩
    obtain ⟨yt, rfl, hyS⟩ := id hy
    have hn := hV.n10
    refine ⟨_, rfl, yt, _, rfl, .inr hyS, _, rfl, by rw [List.length_map, hby.1]; omega, by rw [List.length_map, hby.1]; omega, ?_⟩
    rw [List.length_map, hby.1, Int.toNat_natCast]
    refine for_range (lo := 0) (n := t.ps.length) (fun k σ H' => ∃ (xv : V) (x1 : List Int) (y4 y5 : Option V), σ = [some z, some (.ref kn), some xv, some (.ref yt), y4, y5] ∧ SameX kn H H' ∧ Tps K H H' ∧ KnOK P w K H' kn t ∧ RS K H' xv x1 ∧ AdP t.ps x y x1 k 0 ∧ x1 = colW t t.ps.length x (letN 0 (y.take k)))
      ⟨xv, x, none, none, rfl, Same.x (Same.refl H), Tps.of (Same.refl H), hK, hx, AdP.init hbx, rfl⟩ ?_ ?_
    · rintro k σ H' hk ⟨xv, x1, y4, y5, rfl, sx, tp, hK, hx1, hA, hE⟩
      rw [Int.zero_add]
      have hyk := hby.2 k hk
      have hp2 := hV.p2 hk
      refine ⟨_, rfl, _, rfl, yt, _, _, _, rfl, rfl, tp _ _ hyS, atW (by rw [hby.1]; exact hk), _, rfl, by omega, by omega, ?_⟩
      refine for_range (lo := 0) (n := (atR y k).toNat) (fun m σ H' => ∃ (xv : V) (x1 : List Int) (y5 : Option V), σ = [some z, some (.ref kn), some xv, some (.ref yt), some (.int (k : Int)), y5] ∧ SameX kn H H' ∧ Tps K H H' ∧ KnOK P w K H' kn t ∧ RS K H' xv x1 ∧ AdP t.ps x y x1 k m ∧ x1 = colW t t.ps.length x (letN 0 (y.take k) ++ List.replicate m k))
        ⟨xv, x1, _, rfl, sx, tp, hK, hx1, hA, by rw [hE, List.replicate_zero, List.append_nil]⟩ ?_ ?_
      · rintro m σ H2 hm ⟨xv, x1, y5, rfl, sx, tp, hK, hx1, hA, hE⟩
        refine ⟨_, rfl, _, rfl, _, rfl, _, rfl, kn, z, xv, t, x1, k, rfl, hT.tps tp, hV, hK, hx1, hA.bl, hk, ?_, fun z' r' H3 sx3 tp3 hK3 hr3 hs3 he3 => ?_⟩
        · rcases Nat.lt_or_ge (k + d) t.ps.length with c | c
          · have := hy0 k c
            omega
          · exact c
        · exact ⟨z', r', _, rfl, sx.trans sx3, tp.trans tp3, hK3, hr3, hA.step hs3 hk (by omega), by rw [he3, hE, List.replicate_succ', ← List.append_assoc, col_app (v := [k])]; rfl⟩
      · rintro σ H2 ⟨xv, x1, y5, rfl, sx, tp, hK, hx1, hA, hE⟩
        exact ⟨xv, x1, _, _, rfl, sx, tp, hK, hx1, hA.next (by omega), by rw [hE, letN_take (by rw [hby.1]; exact hk), Nat.zero_add]⟩
    · rintro σ H' ⟨xv, x1, y4, y5, rfl, sx, tp, hK, hx1, hA, hE⟩
      exact ⟨_, rfl, q _ _ _ sx tp hK hx1 hA.done (by rw [hE, List.take_of_length_le (by rw [hby.1]; exact Nat.le_refl _)]; rfl)⟩
theorem ok_step0 {d : Nat} (T : Txt K mg) (G__law_times : FnOk P w K mg base CX0 (2 * d + 2) T.a__law_times T.d__law_times ["table", "known", "x", "y"] (spTimes P w K d)) : FnOk P w K mg base CX0 (2 * d + 3) T.a__law_step T.d__law_step ["table", "known", "row", "j"] (spStep P w K (d + 1)) := by
  refine T.F__law_step.ok sc__law_step (fun vs H Q E h => ?_) (fun cdv A outer s H vs Q E hr h => ?_)
  · obtain ⟨kn, z, rv, t, r, j, rfl, _⟩ := h
    rfl
  · obtain ⟨kn, z, rv, t, r, j, rfl, hT, hV, hK, hr_, hbr, hj, hd, q⟩ := h
    refine ⟨_, (pss_cons (ps_set (i := 4) sc__law_step.nd rfl (.inl rfl) (pe_tup (pa_cons (pv 3) (pa_cons (pe_slice sl_tupA (pv 2) (po_some (pv 3)) po_none) pa_nil)))) 
    (C8.pss_cut (ps_if (pt_cmpR (Pk.op_notInP (hu2 hr)) (pv 4) (pv 1) rfl) 
      (pss_cons (ps_set (i := 5) sc__law_step.nd rfl (.inl rfl) (pe_callB call_len_seq (by rfl) T.n_len (by decide +kernel) (pa_cons (pv 2) pa_nil))) 
      (pss_cons (ps_set (i := 6) sc__law_step.nd rfl (.inl rfl) (pe_op op_add (pe_ix ix_tup (pv 2) (pv 3) (fun _ _ => rfl)) pe_int)) 
      (pss_cons (ps_set (i := 8) sc__law_step.nd rfl (.inl rfl) (pe_callTy call_tuple_of (by rfl) T.n_tuple (by decide +kernel) (pa_cons (pe_lc (own := [("k", 7)]) rfl sc__law_step.nd (pi_range1 (by rfl) T.n_range (pa_cons (pv 5) pa_nil)) (blkOk_by (N := N__law_step) (sc := defScope s__law_step) (own := [("k", 7)]) (by decide +kernel)) (fun _ _ _ _ _ => (pg_name (i := 7) sc__law_step.nd rfl (.inl rfl))) (fun _ _ _ _ _ => pts_nil) (fun _ _ _ _ _ => pe_int)) pa_nil))) 
      (C8.pss_cut (ps_if (pt_cmpR op_eq (pv 6) (pe_ix ix_tup (pe_ix ix_tup (pv 0) pe_int (fun _ _ => rfl)) (pv 3) (fun _ _ => rfl)) (nomark _)) 
        (pss_cons (ps_set (i := 6) sc__law_step.nd rfl (.inl rfl) pe_int) 
        (pss_one (ps_set (i := 8) sc__law_step.nd rfl (.inl rfl) (pe_ix ix_tup (pe_ix ix_tup (pv 0) pe_int (fun _ _ => rfl)) (pv 3) (fun _ _ => rfl))))) pss_nil) 
      (pss_cons (ps_for PassesOwn.never rfl (pi_range2 (by rfl) T.n_range (pa_cons (pe_op op_add (pv 3) pe_int) (pa_cons (pv 5) pa_nil))) (pg_name (i := 7) sc__law_step.nd rfl (.inl rfl)) 
        (pss_one (ps_for PassesOwn.never rfl (pi_range1 (by rfl) T.n_range (pa_cons (pe_ix ix_tup (pv 2) (pv 7) (fun _ _ => rfl)) pa_nil)) (pg_name (i := 9) sc__law_step.nd rfl (.inl rfl)) 
          (pss_one (ps_set (i := 8) sc__law_step.nd rfl (.inl rfl) (pe_call G__law_times (hr.mono (by omega)) (by rfl) T.g__law_times T.F__law_times.kp T.b__law_times .nil pass0 (pa_cons (pv 0) (pa_cons (pv 1) (pa_cons (pv 8) (pa_cons (pe_ix ix_tup (pe_ix ix_tup (pe_ix ix_tup (pv 0) pe_int (fun _ _ => rfl)) (pv 3) (fun _ _ => rfl)) (pe_op op_sub (pe_op op_sub (pv 7) (pv 3)) pe_int) (fun _ _ => rfl)) pa_nil)))))))))) 
      (pss_one (ps_asg (pe_op op_catA (pe_tup (pa_cons (pv 6) pa_nil)) (pe_slice sl_tupA (pv 8) (po_some (pe_op op_add (pv 3) pe_int)) po_none)) (pg_sub (pv 1) (pv 4) (Pk.set_dictP (hu2 hr)))))))))) pss_nil) 
    (pss_one (ps_ret (pe_op op_catA (pe_slice sl_tupA (pv 2) po_none (po_some (pv 3))) (pe_ix (Pk.ix_dictP (hu2 hr)) (pv 1) (pv 4) (fun _ _ => rfl))))))), ?_⟩
    obtain ⟨rt, rfl, hrS⟩ := id hr_
    have hn := hV.n10
    have hp2 := hV.p2 hj
    have hrj := hbr.2 j hj
    have hrl : (r.map V.int).length = t.ps.length := by rw [List.length_map]; exact hbr.1
    refine ⟨_, rfl, _, rfl, _, rfl, (j : Int), rfl, ?_⟩
    unfold tNoPart
    refine slA_q (lo := some (j : Int)) (hi := none) hrS fun dt H1 s1 hdt => ⟨by show 2 ≤ sizeLine; decide, fun kt nkt => ?_⟩
    rw [cut_from (by rw [hrl]; omega), ← List.map_drop] at hdt
    have s2 := same_new (o := .tup [V.int (j : Int), V.ref dt]) nkt
    have hKA : Pk.KeyAt K (upd H1 kt (.tup [V.int (j : Int), V.ref dt])) ((j : Int), r.drop j) kt := ⟨dt, .inl (.inl upd_same), Own.same_tup s2 hdt⟩
    have s12 := s1.trans s2
    have tp0 := Tps.of (K := K) s12
    have hK1 := hK.mono s12
    generalize upd H1 kt (.tup [V.int (j : Int), V.ref dt]) = H2 at *
    refine ⟨fun σ H' => SameX kn H H' ∧ Tps K H H' ∧ KnOK P w K H' kn t ∧ ∃ kvs vv v, Pk.KD P w K H' kn kvs ∧ valV kvs ((j : Int), r.drop j) = some vv ∧ RS K H' vv v ∧ v = stpV t t.ps.length j (r.drop j) ∧ Pk.KeyAt K H' ((j : Int), r.drop j) kt ∧ ∃ y5 y6 y7 y8 y9, σ = [some z, some (.ref kn), some (.ref rt), some (.int (j : Int)), some (.ref kt), y5, y6, y7, y8, y9], ?_, ?_⟩
    · obtain ⟨kvs, hKD, hkv⟩ := id hK1
      refine ⟨_, rfl, _, rfl, kn, kt, ((j : Int), r.drop j), kvs, rfl, rfl, hKA, hKD, _, rfl, ?_⟩
      cases hval : valV kvs ((j : Int), r.drop j) with
      | some vv =>
        obtain ⟨j2, e1, _, _, v, hv1, hv2⟩ := hkv _ (valV_mem hval)
        have e2 : j = j2 := by
          have : (j : Int) = (j2 : Int) := e1
          omega
        subst e2
        exact iteB (by simp) ⟨Same.x s12, tp0, hK1, kvs, vv, v, hKD, hval, hv1, hv2, hKA, _, _, _, _, _, rfl⟩
      | none =>
        refine iteA (by simp) ?_
        refine ⟨_, rfl, rt, _, rfl, .inr (tp0 _ _ hrS), ?_⟩
        refine ⟨_, rfl, _, rfl, rt, _, _, _, rfl, rfl, tp0 _ _ hrS, atW (by rw [hbr.1]; exact hj), _, _, rfl, rfl, ?_⟩
        rw [hrl]
        obtain ⟨x, a, b, c, us, vs, rfl, hSx, hSa, hSb, hPw, hSc, hPc⟩ := (hT.tps tp0).rd
        refine ⟨_, rfl, (t.ps.length : Int), rfl, by omega, by omega, fun D nD => ?_⟩
        refine lc_rep (walk_range (lo := 0) (n := t.ps.length)) st_RI (fun _ => 0) (by omega) nD (fun H2 sm => trivial) (fun i x H2 H3 Q2 hi sm hY q2 => ?_) (fun H3 acc s3 eD hP => ?_)
        · obtain ⟨rfl, rfl⟩ := hY
          exact ⟨rfl, q2 _ _ (Same.refl _) rfl⟩
        have e := ints_of hP
        have e2 : (List.range t.ps.length).map (fun _ => (0 : Int)) = zeroR t.ps.length := by
          unfold zeroR
          rw [List.map_const', List.length_range]
        rw [e2] at e
        subst e
        refine ⟨D, _, rfl, .inl ⟨.inl (.inl eD), fun u nu => ?_⟩⟩
        have s4 := s3.trans (same_new (o := .tup ((zeroR t.ps.length).map V.int)) nu)
        have hz : RS K (upd H3 u (.tup ((zeroR t.ps.length).map V.int))) (.ref u) (zeroR t.ps.length) := ⟨u, rfl, .inl (.inl upd_same)⟩
        generalize upd H3 u (.tup ((zeroR t.ps.length).map V.int)) = H4 at *
        have hbz : Bl t.ps (zeroR t.ps.length) := ⟨by unfold zeroR; rw [List.length_replicate], fun k hk => by
          rw [atR_zero]
          have := hV.p2 hk
          omega⟩
        refine ⟨fun σ H' => Same H4 H' ∧ ∃ (pl : Int) (fv : V) (f : List Int) (y7 y9 : Option V), σ = [some (.ref x), some (.ref kn), some (.ref rt), some (.int j), some (.ref kt), some (.int (t.ps.length : Int)), some (.int pl), y7, some fv, y9] ∧ pl = (if atR r j + 1 = atR t.ps j then 0 else atR r j + 1) ∧ RS K H' fv f ∧ f = (if atR r j + 1 = atR t.ps j then t.pw.getD j [] else zeroR t.ps.length), ?_, ?_⟩
        · refine ⟨_, rfl, _, rfl, x, _, 0, _, rfl, rfl, Own.same_tup s4 hSx, atI_nat (j := 0) rfl, _, rfl, a, _, (j : Int), _, rfl, rfl, Own.same_tup s4 hSa, atW hj, rfl, _, rfl, ite2 (fun c1 => ?_) (fun c1 => ?_)⟩
          · have c2 : atR r j + 1 = atR t.ps j := by simpa using c1
            obtain ⟨f, ef⟩ : ∃ f, t.pw[j]? = some f := ⟨_, List.getElem?_eq_getElem (by rw [hV.pwl]; exact hj)⟩
            obtain ⟨fv, efv, hfv⟩ := paired_get2 hPw ef
            refine ⟨_, rfl, x, _, 1, _, rfl, rfl, Own.same_tup s4 hSx, atI_nat (j := 1) rfl, _, rfl, b, _, (j : Int), _, rfl, rfl, Own.same_tup s4 hSb, atI_nat efv, ?_⟩
            exact ⟨Same.refl _, 0, fv, f, _, _, rfl, by rw [if_pos c2], rs_tps (Tps.of s4) hfv, by rw [if_pos c2, getD_some ef]⟩
          · have c2 : atR r j + 1 ≠ atR t.ps j := by simpa using c1
            exact ⟨Same.refl _, atR r j + 1, _, _, _, _, rfl, by rw [if_neg c2], hz, by rw [if_neg c2]⟩
        · rintro σ H5 ⟨s5, pl, fv, f, y7, y9, rfl, epl, hf, efs⟩
          obtain ⟨pr, _, epr, hpb, _⟩ := hV.pwv hj
          have hbf : Bl t.ps f := by
            rw [efs]
            split
            · rw [epr]; exact hpb
            · exact hbz
          have s15 := s4.trans s5
          have hSx := Own.same_tup s15 hSx
          have hSc := Own.same_tup s15 hSc
          have hT5 := (hT.tps tp0).tps (Tps.of s15)
          have hK5 := hK1.mono s15
          have hKA5 := hKA.via (Own.same_tup s15)
          have hrS5 := Own.same_tup s15 (tp0 _ _ hrS)
          have tp5 := tp0.trans (Tps.of s15)
          refine ⟨_, rfl, _, _, rfl, rfl, _, rfl, _, _, rfl, ⟨by omega, by omega, by omega, by omega⟩, ?_⟩
          refine for_range (lo := (j : Int) + 1) (n := ((t.ps.length : Int) - ((j : Int) + 1)).toNat) (fun m σ H' => ∃ (fv : V) (f : List Int) (y7 y9 : Option V), σ = [some (.ref x), some (.ref kn), some (.ref rt), some (.int j), some (.ref kt), some (.int (t.ps.length : Int)), some (.int pl), y7, some fv, y9] ∧ SameX kn H5 H' ∧ Tps K H5 H' ∧ KnOK P w K H' kn t ∧ RS K H' fv f ∧ Bl t.ps f ∧ f = tailF t t.ps.length j (if atR r j + 1 = atR t.ps j then t.pw.getD j [] else zeroR t.ps.length) (letN (j + 1) ((r.drop (j + 1)).take m)))
            ⟨fv, f, _, _, rfl, Same.x (Same.refl _), Tps.of (Same.refl _), hK5, hf, hbf, efs⟩ ?_ ?_
          · rintro m σ H6 hm ⟨fv, f, y7, y9, rfl, sx6, tp6, hK6, hf6, hbf6, hE6⟩
            have hkn : j + 1 + m < t.ps.length := by omega
            rw [show (j : Int) + 1 + (m : Int) = ((j + 1 + m : Nat) : Int) by omega]
            have hrk := hbr.2 _ hkn
            have hpk := hV.p2 hkn
            refine ⟨_, rfl, _, rfl, rt, _, _, _, rfl, rfl, tp6 _ _ hrS5, atW (by rw [hbr.1]; exact hkn), _, rfl, by omega, by omega, ?_⟩
            refine for_range (lo := 0) (n := (atR r (j + 1 + m)).toNat) (fun l σ H' => ∃ (fv : V) (f : List Int) (y9 : Option V), σ = [some (.ref x), some (.ref kn), some (.ref rt), some (.int j), some (.ref kt), some (.int (t.ps.length : Int)), some (.int pl), some (.int ((j + 1 + m : Nat) : Int)), some fv, y9] ∧ SameX kn H5 H' ∧ Tps K H5 H' ∧ KnOK P w K H' kn t ∧ RS K H' fv f ∧ Bl t.ps f ∧ f = tailF t t.ps.length j (if atR r j + 1 = atR t.ps j then t.pw.getD j [] else zeroR t.ps.length) (letN (j + 1) ((r.drop (j + 1)).take m) ++ List.replicate l (j + 1 + m)))
              ⟨fv, f, _, rfl, sx6, tp6, hK6, hf6, hbf6, by rw [hE6, List.replicate_zero, List.append_nil]⟩ ?_ ?_
            · rintro l σ H7 hl ⟨fv, f, y9, rfl, sx7, tp7, hK7, hf7, hbf7, hE7⟩
              obtain ⟨M, eM⟩ : ∃ M, t.cj[j]? = some M := ⟨_, List.getElem?_eq_getElem (by rw [hV.cjl]; exact hj)⟩
              obtain ⟨Mv, eMv, hMv⟩ := paired_get2 hPc eM
              obtain ⟨hMl, hMr⟩ := hV.cjr j M eM
              obtain ⟨y, ey⟩ : ∃ y, M[m]? = some y := ⟨_, List.getElem?_eq_getElem (by omega)⟩
              obtain ⟨Mt, us2, rfl, hMt, hMp⟩ := tup1_tps ((Tps.of s15).trans tp7) hMv
              obtain ⟨yv, eyv, hyv⟩ := paired_get2 hMp ey
              obtain ⟨hby, hzy⟩ := hMr y (List.mem_of_getElem? ey)
              refine ⟨_, rfl, _, rfl, _, rfl, _, rfl, x, _, 2, _, rfl, rfl, tp7 _ _ hSx, atI_nat (j := 2) rfl, _, rfl, c, _, (j : Int), _, rfl, rfl, tp7 _ _ hSc, atI_nat eMv, _, rfl, _, rfl, _, _, rfl, rfl, _, _, rfl, rfl, Mt, _, _, _, rfl, rfl, hMt, by rw [show ((j + 1 + m : Nat) : Int) - (j : Int) - 1 = (m : Int) by omega]; exact atI_nat eyv, ?_⟩
              refine ⟨kn, .ref x, fv, yv, t, f, y, rfl, hT5.tps tp7, hV, hK7, hf7, hyv, hbf7, hby, fun i hi => hzy i (by omega), fun z' r' H8 sx8 tp8 hK8 hr8 hA8 he8 => ?_⟩
              refine ⟨z', r', _, rfl, sx7.trans sx8, tp7.trans tp8, hK8, hr8, hA8.bl, ?_⟩
              have ecj : cjW t j (j + 1 + m) = y := by unfold cjW; rw [getD_some eM, show j + 1 + m - j - 1 = m by omega, getD_some ey]
              rw [he8, hE7, List.replicate_succ', ← List.append_assoc]
              unfold tailF
              rw [List.foldl_append (l' := [j + 1 + m])]
              show timT t t.ps.length _ y = timT t t.ps.length _ (cjW t j (j + 1 + m))
              rw [ecj]
            · rintro σ H7 ⟨fv, f, y9, rfl, sx7, tp7, hK7, hf7, hbf7, hE7⟩
              exact ⟨fv, f, _, _, rfl, sx7, tp7, hK7, hf7, hbf7, by rw [hE7, letN_take (by rw [List.length_drop, hbr.1]; omega), atR_drop]⟩
          · rintro σ H6 ⟨fv, f, y7, y9, rfl, sx6, tp6, hK6, hf6, hbf6, hE6⟩
            rw [List.take_of_length_le (by rw [List.length_drop, hbr.1]; omega)] at hE6
            refine ⟨_, rfl, by show 1 ≤ sizeLine; decide, fun pt npt => ?_⟩
            have s7 := same_new (o := .tup [V.int pl]) npt
            have hpt : SqT K (upd H6 pt (.tup [V.int pl])) pt ([pl].map V.int) := .inl (.inl upd_same)
            have tp7 := (tp5.trans tp6).trans (Tps.of s7)
            have sx7 : SameX kn H (upd H6 pt (.tup [V.int pl])) := ((Same.x (s12.trans s15)).trans sx6).trans (Same.x s7)
            have hK7 := hK6.mono s7
            have hKA7 := (hKA5.via (fun h => tp6 _ _ h)).via (Own.same_tup s7)
            have hf7 := rs_tps (Tps.of s7) hf6
            generalize upd H6 pt (.tup [V.int pl]) = H7 at *
            obtain ⟨ft, rfl, hfS⟩ := hf7
            refine ⟨_, rfl, _, rfl, _, _, rfl, rfl, (j : Int) + 1, rfl, ?_⟩
            refine slA_q (lo := some ((j : Int) + 1)) (hi := none) hfS fun gt H8 s8 hgt => ?_
            rw [show (j : Int) + 1 = ((j + 1 : Nat) : Int) by omega, cut_from (by rw [List.length_map, hbf6.1]; omega), ← List.map_drop] at hgt
            refine catA_q (Own.same_tup s8 hpt) hgt (by rw [List.length_map, List.length_map, List.length_drop, hbf6.1, List.length_singleton]; omega) fun ot H9 s9 hot => ?_
            rw [← List.map_append] at hot
            have s89 := s8.trans s9
            have hv : [pl] ++ f.drop (j + 1) = stpV t t.ps.length j (r.drop j) := by
              rw [stpV_full hV hbr hj, epl, hE6]
              rfl
            obtain ⟨kvs2, hKD2, hkv2⟩ := hK7.mono s89
            have hKA9 := hKA7.via (Own.same_tup s89)
            refine ⟨_, rfl, _, rfl, kn, kt, _, kvs2, rfl, rfl, hKA9, hKD2, KnOK.few hV hKD2 (fun kv hkv => let ⟨j, a, b, c, _⟩ := hkv2 kv hkv; ⟨j, a, b, c⟩), fun H10 sb hKD3 => ?_⟩
            have tp10 : Tps K H9 H10 := Tps.xe sb (KnOK.ext (hK7.mono s89)).choose_spec
            refine ⟨(sx7.trans (Same.x s89)).trans sb, (tp7.trans (Tps.of s89)).trans tp10, KnOK.put tp10 hkv2 ⟨j, rfl, hj, hbr.drop j, _, ⟨ot, rfl, hot⟩, hv⟩ hKD3, _, _, _, hKD3, (by rw [valV_put, if_pos rfl]), rs_tps tp10 ⟨ot, rfl, hot⟩, hv, hKA9.via (fun h => tp10 _ _ h), _, _, _, _, _, rfl⟩
    · rintro σ H3 ⟨sx, tp, hK3, kvs, vv, v, hKD, hval, hv1, hv2, hKA3, y5, y6, y7, y8, y9, rfl⟩
      refine ⟨_, rfl, _, rfl, (j : Int), rfl, slA_q (tp _ _ hrS) fun pt H4 s4 hpt => ?_⟩
      rw [cut_to (by rw [hrl]; omega), ← List.map_take] at hpt
      refine ⟨_, rfl, _, rfl, kn, kt, _, kvs, vv, rfl, rfl, hKA3.via (Own.same_tup s4), hKD.mono s4, hval, ?_⟩
      obtain ⟨vt, rfl, hvS⟩ := rs_tps (Tps.of s4) hv1
      have hst := stp_all hV t.ps.length hbr hj (by omega)
      have est : r.take j ++ v = stpT t t.ps.length r j := by rw [hv2]; rfl
      have hvl : v.length = t.ps.length - j := by
        have := hst.bl.1
        rw [← est, List.length_append, List.length_take, hbr.1] at this
        omega
      refine catA_q hpt hvS (by rw [List.length_map, List.length_map, List.length_take, hbr.1, hvl]; omega) fun ot H5 s5 hot => ?_
      rw [← List.map_append] at hot
      have s45 := s4.trans s5
      exact q _ _ _ (sx.trans (Same.x s45)) (tp.trans (Tps.of s45)) (hK3.mono s45) ⟨ot, rfl, hot⟩ (by rw [est]; exact hst) est
theorem ok_both0 (T : Txt K mg) : ∀ d : Nat, FnOk P w K mg base CX0 (2 * d + 1) T.a__law_step T.d__law_step ["table", "known", "row", "j"] (spStep P w K d) ∧ FnOk P w K mg base CX0 (2 * d + 2) T.a__law_times T.d__law_times ["table", "known", "x", "y"] (spTimes P w K d)
  | 0 => by
    have h1 : FnOk P w K mg base CX0 1 T.a__law_step T.d__law_step ["table", "known", "row", "j"] (spStep P w K 0) := by
      refine T.F__law_step.ok sc__law_step (fun vs H Q E h => ?_) (fun cdv A outer s H vs Q E hr h => ?_)
      · obtain ⟨kn, z, rv, t, r, j, rfl, _⟩ := h
        rfl
      · obtain ⟨kn, z, rv, t, r, j, rfl, hT, hV, hK, hr_, hbr, hj, hd, q⟩ := h
        exact absurd hd (by omega)
    exact ⟨h1, ok_times0 T h1⟩
  | d + 1 => by
    have h1 := ok_step0 T (ok_both0 T d).2
    exact ⟨h1, ok_times0 T h1⟩
theorem ok_lstep (T : Txt K mg) : FnOk P w K mg base CX0 21 T.a__law_step T.d__law_step ["table", "known", "row", "j"] (spStep P w K 10) := (ok_both0 T 10).1
theorem ok_ltimes (T : Txt K mg) : FnOk P w K mg base CX0 22 T.a__law_times T.d__law_times ["table", "known", "x", "y"] (spTimes P w K 10) := (ok_both0 T 10).2
/-! ### _law_inverse, _law_conjugated, _law_generator, _law_new_row -/
/-- what a run of steps leaves -/
structure Go (P : Program) (w : World) (K : PySem.W.Frag) (kn : Addr) (t : Tb) (H H' : Hp) : Prop where
  sx : SameX kn H H'
  tp : Tps K H H'
  ok : KnOK P w K H' kn t
theorem Go.trans {kn : Addr} {t : Tb} {H H1 H2 : Hp} (a : Go P w K kn t H H1) (b : Go P w K kn t H1 H2) : Go P w K kn t H H2 := ⟨a.sx.trans b.sx, a.tp.trans b.tp, b.ok⟩
theorem Go.same {kn : Addr} {t : Tb} {H H1 H2 : Hp} (a : Go P w K kn t H H1) (s : Same H1 H2) : Go P w K kn t H H2 := ⟨a.sx.trans (Same.x s), a.tp.trans (Tps.of s), a.ok.mono s⟩
theorem Go.init {kn : Addr} {t : Tb} {H H1 : Hp} (h : KnOK P w K H kn t) (s : Same H H1) : Go P w K kn t H H1 := ⟨Same.x s, Tps.of s, h.mono s⟩
theorem KnOK.put2 {H : Hp} {kn a : Addr} {t : Tb} {xs ys : List V} (ha : H a = some (.lst xs)) (h : KnOK P w K H kn t) : KnOK P w K (upd H a (.lst ys)) kn t := by
  obtain ⟨kvs, ⟨xs', h1⟩, h2⟩ := h
  have tp := Tps.x (K := K) (SameX.put (a := a) (H := H) (u := .lst ys)) ha
  refine ⟨kvs, ⟨xs', by rw [upd_ne (fun e => by have := h1.here; rw [e, ha] at this; cases this)]; exact h1.here, h1.nm, Pk.pair_via (fun _ _ q => ⟨q.1, q.2.1.via (fun h => tp _ _ h), q.2.2⟩) h1.rel, h1.nd, h1.few⟩, fun kv hkv => ?_⟩
  obtain ⟨j, a, b, c, v, d, f⟩ := h2 kv hkv
  exact ⟨j, a, b, c, v, rs_tps tp d, f⟩
/-- a list that was new is changed -/
theorem Go.put {kn a : Addr} {t : Tb} {H H1 : Hp} {xs ys : List V} (g : Go P w K kn t H H1) (n : H a = none) (e : H1 a = some (.lst xs)) : Go P w K kn t H (upd H1 a (.lst ys)) :=
  ⟨fun b o nb hb => by rw [upd_ne (ne_of_none hb n)]; exact g.sx b o nb hb, g.tp.trans (Tps.x SameX.put e), g.ok.put2 e⟩
def spInv (P : Program) (w : World) (K : PySem.W.Frag) : Sp := fun vs H Q _ => ∃ (kn : Addr) (z xv : V) (t : Tb) (x : List Int), vs = [z, .ref kn, xv] ∧ TbAt K H z t ∧ Vd t ∧ KnOK P w K H kn t ∧ RS K H xv x ∧ Bl t.ps x ∧
  ∀ z' r' H', Go P w K kn t H H' → RS K H' z' r' → IvR t.ps x r' → InP t x r' → Q z' H'
theorem ok_linv (T : Txt K mg) : FnOk P w K mg base CX0 22 T.a__law_inverse T.d__law_inverse ["table", "known", "x"] (spInv P w K) := by
  have G__law_step : FnOk P w K mg base CX0 21 T.a__law_step T.d__law_step ["table", "known", "row", "j"] (spStep P w K 10) := ok_lstep T
  refine T.F__law_inverse.ok sc__law_inverse (fun vs H Q E h => ?_) (fun cdv A outer s H vs Q E hr h => ?_)
  · obtain ⟨kn, z, xv, t, x, rfl, _⟩ := h
    rfl
  · obtain ⟨kn, z, xv, t, x, rfl, hT, hV, hK, hx, hbx, q⟩ := h
    refine ⟨_, (pss_cons (ps_set (i := 3) sc__law_inverse.nd rfl (.inl rfl) (pe_lst pa_nil)) 
    (pss_cons (ps_for PassesOwn.never rfl (pi_range1 (by rfl) T.n_range (pa_cons (pe_callB call_len_seq (by rfl) T.n_len (by decide +kernel) (pa_cons (pv 2) pa_nil)) pa_nil)) (pg_name (i := 4) sc__law_inverse.nd rfl (.inl rfl)) 
      (pss_cons (ps_set (i := 5) sc__law_inverse.nd rfl (.inl rfl) (pe_op op_modE (pe_callTy call_int1 (by rfl) T.n_int (by decide +kernel) (pa_cons (pe_op op_sub (pe_ix ix_tup (pe_ix ix_tup (pv 0) pe_int (fun _ _ => rfl)) (pv 4) (fun _ _ => rfl)) (pe_ix ix_tup (pv 2) (pv 4) (fun _ _ => rfl))) pa_nil)) (pe_ix ix_tup (pe_ix ix_tup (pv 0) pe_int (fun _ _ => rfl)) (pv 4) (fun _ _ => rfl)))) 
      (pss_cons (ps_for PassesOwn.never rfl (pi_range1 (by rfl) T.n_range (pa_cons (pv 5) pa_nil)) (pg_name (i := 6) sc__law_inverse.nd rfl (.inl rfl)) 
        (pss_one (ps_set (i := 2) sc__law_inverse.nd rfl (.inl rfl) (pe_call G__law_step (hr.mono (by decide)) (by rfl) T.g__law_step T.F__law_step.kp T.b__law_step .nil pass0 (pa_cons (pv 0) (pa_cons (pv 1) (pa_cons (pv 2) (pa_cons (pv 4) pa_nil)))))))) 
      (pss_one (ps_expr (pe_bm PySem.F.plainAttrs_list PySem.F.slot_list_append PySem.F.type_list_append mt_append (pv 3) (pa_cons (pv 5) pa_nil))))))) 
    (pss_one (ps_ret (pe_callTy call_tuple_of (by rfl) T.n_tuple (by decide +kernel) (pa_cons (pv 3) pa_nil)))))), ?_⟩
    have hn := hV.n10
    obtain ⟨x0, a, b, c, us, vs, rfl, hSx, hSa, hSb, hPw, hSc, hPc⟩ := hT.rd
    refine ⟨Nat.zero_le _, fun fo nfo => ?_⟩
    obtain ⟨xt, rfl, hxS⟩ := id hx
    refine ⟨_, rfl, xt, _, rfl, .inr (Own.same_tup (same_new nfo) hxS), _, rfl, by rw [List.length_map, hbx.1]; omega, by rw [List.length_map, hbx.1]; omega, ?_⟩
    rw [List.length_map, hbx.1, Int.toNat_natCast]
    refine for_range (lo := 0) (n := t.ps.length) (fun k σ H' => ∃ (xv : V) (x1 f : List Int) (y4 y5 y6 : Option V), σ = [some (.ref x0), some (.ref kn), some xv, some (.ref fo), y4, y5, y6] ∧ Go P w K kn t H H' ∧ RS K H' xv x1 ∧ H' fo = some (.lst (f.map V.int)) ∧ IvP t.ps x x1 f k ∧ x1 = colW t t.ps.length x (letN 0 f) ∧ Zb x1 k)
      ⟨.ref xt, x, [], none, none, none, rfl, Go.init hK (same_new nfo), rs_tps (Tps.of (same_new nfo)) hx, upd_same, IvP.init hbx, rfl, fun i hi => absurd hi (Nat.not_lt_zero i)⟩ ?_ ?_
    · rintro k σ H' hk ⟨xv, x1, f, y4, y5, y6, rfl, hg, hx1, hfo, hI, hE1, hZ1⟩
      rw [Int.zero_add]
      have hp2 := hV.p2 hk
      have hxk := hI.bl.2 k hk
      obtain ⟨xt1, rfl, hxS1⟩ := id hx1
      refine ⟨_, rfl, x0, _, 0, _, rfl, rfl, hg.tp _ _ hSx, atI_nat (j := 0) rfl, _, rfl, a, _, (k : Int), _, rfl, rfl, hg.tp _ _ hSa, atW hk, _, rfl, _, rfl, xt1, _, (k : Int), _, rfl, rfl, hxS1, atW (by rw [hI.bl.1]; exact hk), _, _, rfl, rfl, .inl ⟨_, rfl, ?_⟩⟩
      refine ⟨_, rfl, x0, _, 0, _, rfl, rfl, hg.tp _ _ hSx, atI_nat (j := 0) rfl, _, rfl, a, _, (k : Int), _, rfl, rfl, hg.tp _ _ hSa, atW hk, _, _, rfl, rfl, by omega, ?_⟩
      have he0 : 0 ≤ (atR t.ps k - atR x1 k) % atR t.ps k := Int.emod_nonneg _ (by omega)
      have he1 : (atR t.ps k - atR x1 k) % atR t.ps k < atR t.ps k := Int.emod_lt_of_pos _ (by omega)
      have hee : (atR t.ps k - atR x1 k) % atR t.ps k = (atR t.ps k - atR x1 k) % atR t.ps k := rfl
      generalize hE : (atR t.ps k - atR x1 k) % atR t.ps k = e at *
      refine ⟨_, rfl, e, rfl, by omega, by omega, ?_⟩
      refine for_range (lo := 0) (n := e.toNat) (fun m σ H' => ∃ (xv : V) (x2 : List Int) (y6 : Option V), σ = [some (.ref x0), some (.ref kn), some xv, some (.ref fo), some (.int k), some (.int e), y6] ∧ Go P w K kn t H H' ∧ RS K H' xv x2 ∧ H' fo = some (.lst (f.map V.int)) ∧ Bl t.ps x2 ∧ x2 = colW t t.ps.length x1 (List.replicate m k))
        ⟨.ref xt1, x1, _, rfl, hg, hx1, hfo, hI.bl, rfl⟩ ?_ ?_
      · rintro m σ H2 hm ⟨xv, x2, y6, rfl, hg2, hx2, hfo2, hb2, hE2⟩
        refine ⟨_, rfl, _, rfl, _, rfl, _, rfl, kn, .ref x0, xv, t, x2, k, rfl, hT.tps hg2.tp, hV, hg2.ok, hx2, hb2, hk, by omega, fun z' r' H3 sx3 tp3 hK3 hr3 hs3 he3 => ?_⟩
        exact ⟨z', r', _, rfl, hg2.trans ⟨sx3, tp3, hK3⟩, hr3, sx3 _ _ (fun e => by have := hK.ext; rw [← e, nfo] at this; obtain ⟨_, h⟩ := this; cases h) hfo2, hs3.bl, by rw [he3, hE2, List.replicate_succ', col_app (v := [k])]; rfl⟩
      · rintro σ H2 ⟨xv, x2, y6, rfl, hg2, hx2, hfo2, hb2, h0⟩
        obtain ⟨_, r2, r3⟩ := rep_stp hV (d := t.ps.length) hk (by omega) e.toNat hI.bl
        rw [← h0] at r2 r3
        have hZ2 : Zb x2 (k + 1) := fun i hi => by
          rcases Nat.lt_or_ge i k with c | c
          · rw [r2 i c]
            exact hZ1 i c
          · have ei : i = k := by omega
            rw [ei, r3, Int.toNat_of_nonneg he0, ← hE, Int.add_emod_emod, show atR x1 k + (atR t.ps k - atR x1 k) = atR t.ps k by omega, Int.emod_self]
        have hE3 : x2 = colW t t.ps.length x (letN 0 (f ++ [e])) := by
          rw [letN_app, hI.len, col_app, ← hE1, h0]
          show _ = colW t t.ps.length x1 (List.replicate e.toNat (0 + k) ++ [])
          rw [List.append_nil, Nat.zero_add]
        have hgt : f.length ≤ 10 := by rw [hI.len]; omega
        refine ⟨_, rfl, .inl ⟨rfl, _, .inl (.inl hfo2)⟩, _, rfl, fo, _, _, rfl, rfl, hfo2, small2000 (by rw [List.length_map]; omega), ?_⟩
        refine ⟨xv, x2, f ++ [e], _, _, _, rfl, hg2.put nfo hfo2, rs_tps (Tps.x SameX.put hfo2) hx2, by rw [upd_same, List.map_append]; rfl, hI.next hk (by omega) hE.symm hb2 (fun h => by rw [h0, h]; rfl), hE3, hZ2⟩
    · rintro σ H' ⟨xv, x1, f, y4, y5, y6, rfl, hg, hx1, hfo, hI, hE1, hZ1⟩
      refine ⟨_, rfl, fo, _, rfl, .inl ⟨.inl (.inl hfo), fun u nu => ?_⟩⟩
      exact q _ _ _ (hg.same (same_new nu)) ⟨u, rfl, .inl (.inl upd_same)⟩ hI.done (by
        show colW t t.ps.length x (letN 0 f) = _
        rw [← hE1]
        exact ext_at2 (by rw [hI.bl.1]; exact List.length_replicate.symm) fun i hi => by
          have hi : i < t.ps.length := by
            have : (zeroR t.ps.length).length = t.ps.length := List.length_replicate
            omega
          rw [hZ1 i hi, atR_zero])
def spConj (P : Program) (w : World) (K : PySem.W.Frag) : Sp := fun vs H Q _ => ∃ (kn : Addr) (z xv yv : V) (t : Tb) (x y : List Int), vs = [z, .ref kn, xv, yv] ∧ TbAt K H z t ∧ Vd t ∧ KnOK P w K H kn t ∧ RS K H xv x ∧ RS K H yv y ∧ Bl t.ps x ∧ Bl t.ps y ∧
  ∀ z' xy v f H', Go P w K kn t H H' → RS K H' z' f → AdR t.ps x y xy → IvR t.ps y v → AdR t.ps v xy f → (InP t y v ∧ xy = timT t t.ps.length x y ∧ f = timT t t.ps.length v xy) → Q z' H'
theorem ok_lconj (T : Txt K mg) : FnOk P w K mg base CX0 23 T.a__law_conjugated T.d__law_conjugated ["table", "known", "x", "y"] (spConj P w K) := by
  have G__law_times : FnOk P w K mg base CX0 22 T.a__law_times T.d__law_times ["table", "known", "x", "y"] (spTimes P w K 10) := ok_ltimes T
  have G__law_inverse : FnOk P w K mg base CX0 22 T.a__law_inverse T.d__law_inverse ["table", "known", "x"] (spInv P w K) := ok_linv T
  refine T.F__law_conjugated.ok sc__law_conjugated (fun vs H Q E h => ?_) (fun cdv A outer s H vs Q E hr h => ?_)
  · obtain ⟨kn, z, xv, yv, t, x, y, rfl, _⟩ := h
    rfl
  · obtain ⟨kn, z, xv, yv, t, x, y, rfl, hT, hV, hK, hx, hy, hbx, hby, q⟩ := h
    refine ⟨_, (pss_one (ps_ret (pe_call G__law_times (hr.mono (by decide)) (by rfl) T.g__law_times T.F__law_times.kp T.b__law_times .nil pass0 (pa_cons (pv 0) (pa_cons (pv 1) (pa_cons (pe_call G__law_inverse (hr.mono (by decide)) (by rfl) T.g__law_inverse T.F__law_inverse.kp T.b__law_inverse .nil pass0 (pa_cons (pv 0) (pa_cons (pv 1) (pa_cons (pv 3) pa_nil)))) (pa_cons (pe_call G__law_times (hr.mono (by decide)) (by rfl) T.g__law_times T.F__law_times.kp T.b__law_times .nil pass0 (pa_cons (pv 0) (pa_cons (pv 1) (pa_cons (pv 2) (pa_cons (pv 3) pa_nil))))) pa_nil))))))), ?_⟩
    have hn := hV.n10
    refine ⟨_, rfl, _, rfl, _, rfl, _, rfl, _, rfl, kn, z, yv, t, y, rfl, hT, hV, hK, hy, hby, fun iv v H1 g1 hv hI hP => ?_⟩
    refine ⟨_, rfl, _, rfl, _, rfl, _, rfl, kn, z, xv, yv, t, x, y, rfl, hT.tps g1.tp, hV, g1.ok, rs_tps g1.tp hx, rs_tps g1.tp hy, hbx, hby, fun i hi => by omega, fun pv_ xy H2 sx2 tp2 hK2 hxy hA exy => ?_⟩
    have g2 := g1.trans ⟨sx2, tp2, hK2⟩
    refine ⟨kn, z, iv, pv_, t, v, xy, rfl, hT.tps g2.tp, hV, g2.ok, rs_tps tp2 hv, hxy, hI.bl, hA.bl, fun i hi => by omega, fun z' f H3 sx3 tp3 hK3 hf hA3 ef => ?_⟩
    exact q z' xy v f H3 (g2.trans ⟨sx3, tp3, hK3⟩) hf hA hI hA3 ⟨hP, exy, ef⟩
def spGen (K : PySem.W.Frag) : Sp := fun vs H Q _ => ∃ n k : Nat, vs = [.int (n : Int), .int (k : Int)] ∧ n ≤ 1000 ∧ ∀ z' H', Same H H' → RS K H' z' (unitR n k) → Q z' H'
theorem ok_lgen (T : Txt K mg) : FnOk P w K mg base CX0 1 T.a__law_generator T.d__law_generator ["n", "k"] (spGen K) := by
  refine T.F__law_generator.ok sc__law_generator (fun vs H Q E h => ?_) (fun cdv A outer s H vs Q E hr h => ?_)
  · obtain ⟨n, k, rfl, _⟩ := h
    rfl
  · obtain ⟨n, k, rfl, hn, q⟩ := h
    refine ⟨_, (pss_one (ps_ret (pe_callTy call_tuple_of (by rfl) T.n_tuple (by decide +kernel) (pa_cons (pe_lc (own := [("i", 2)]) rfl sc__law_generator.nd (pi_range1 (by rfl) T.n_range (pa_cons (pv 0) pa_nil)) (blkOk_by (N := N__law_generator) (sc := defScope s__law_generator) (own := [("i", 2)]) (by decide +kernel)) (fun _ _ _ _ _ => (pg_name (i := 2) sc__law_generator.nd rfl (.inl rfl))) (fun _ _ _ _ _ => pts_nil) (fun _ _ _ _ _ => (pe_callTy call_int1 (by rfl) T.n_int (by decide +kernel) (pa_cons (pe_cmpR op_eq (pv 2) (pv 1) (nomark _)) pa_nil)))) pa_nil)))), ?_⟩
    refine ⟨_, rfl, (n : Int), rfl, by omega, by omega, fun D nD => ?_⟩
    refine lc_rep (walk_range (lo := 0) (n := n)) st_RI (fun i => if i = k then 1 else 0) (by omega) nD (fun H2 sm => trivial) (fun i x H2 H3 Q2 hi sm hY q2 => ?_) (fun H2 acc sm eD hP => ?_)
    · obtain ⟨rfl, rfl⟩ := hY
      refine ⟨rfl, _, rfl, _, rfl, rfl, .inr ⟨_, rfl, q2 _ _ (Same.refl _) ?_⟩⟩
      show V.int (if decide (V.int ((0 : Int) + (i : Int)) = V.int (k : Int)) = true then 1 else 0) = V.int (if i = k then 1 else 0)
      by_cases e : i = k
      · rw [if_pos e, if_pos (decide_eq_true (by rw [e, Int.zero_add]))]
      · rw [if_neg e, if_neg (fun h => e (by have := V.int.inj (of_decide_eq_true h); omega))]
    · have e := ints_of hP
      subst e
      refine ⟨D, _, rfl, .inl ⟨.inl (.inl eD), fun u nu => ?_⟩⟩
      exact q _ _ (sm.trans (same_new nu)) ⟨u, rfl, .inl (.inl upd_same)⟩
def spNewRow (P : Program) (w : World) (K : PySem.W.Frag) : Sp := fun vs H Q _ => ∃ (kn : Addr) (z xv ov : V) (t : Tb) (x o : List Int) (i : Nat), vs = [z, .ref kn, xv, .int (i : Int), ov] ∧ TbAt K H z t ∧ Vd t ∧ KnOK P w K H kn t ∧ RS K H xv x ∧ Bl t.ps x ∧ RS K H ov o ∧ GnR t.ps o i ∧ i < t.ps.length ∧
  ∀ z' r H', Go P w K kn t H H' → RS K H' z' r → NwR t.ps x r i → NwP t i o x r → Q z' H'
theorem ok_lnew (T : Txt K mg) : FnOk P w K mg base CX0 23 T.a__law_new_row T.d__law_new_row ["table", "known", "x", "i", "own"] (spNewRow P w K) := by
  have G__law_times : FnOk P w K mg base CX0 22 T.a__law_times T.d__law_times ["table", "known", "x", "y"] (spTimes P w K 10) := ok_ltimes T
  have G__law_inverse : FnOk P w K mg base CX0 22 T.a__law_inverse T.d__law_inverse ["table", "known", "x"] (spInv P w K) := ok_linv T
  refine T.F__law_new_row.ok sc__law_new_row (fun vs H Q E h => ?_) (fun cdv A outer s H vs Q E hr h => ?_)
  · obtain ⟨kn, z, xv, ov, t, x, o, i, rfl, _⟩ := h
    rfl
  · obtain ⟨kn, z, xv, ov, t, x, o, i, rfl, hT, hV, hK, hx, hbx, ho, hgo, hi, q⟩ := h
    have hbo := hgo.bl
    refine ⟨_, (pss_cons (ps_set (i := 5) sc__law_new_row.nd rfl (.inl rfl) (pe_callB call_len_seq (by rfl) T.n_len (by decide +kernel) (pa_cons (pv 2) pa_nil))) 
    (pss_cons (ps_set (i := 6) sc__law_new_row.nd rfl (.inl rfl) (pe_callTy call_tuple_of (by rfl) T.n_tuple (by decide +kernel) (pa_cons (pe_lc (own := [("k", 8)]) rfl sc__law_new_row.nd (pi_range1 (by rfl) T.n_range (pa_cons (pv 5) pa_nil)) (blkOk_by (N := N__law_new_row) (sc := defScope s__law_new_row) (own := [("k", 8)]) (by decide +kernel)) (fun _ _ _ _ _ => (pg_name (i := 8) sc__law_new_row.nd rfl (.inl rfl))) (fun _ _ _ _ _ => pts_nil) (fun _ _ _ _ _ => (pe_ifExp (pt_cmpR op_lt (pv 8) (pv 3) (nomark _)) pe_int (pe_ix (show IxR _ (rIxT K) from ix_tup) (pv 2) (pv 8) (fun _ _ => rfl))))) pa_nil))) 
    (pss_cons (ps_for PassesOwn.never rfl (pi_range1 (by rfl) T.n_range (pa_cons (pe_ix (show IxR _ (rIxT K) from ix_tup) (pv 2) (pv 3) (fun _ _ => rfl)) pa_nil)) (pg_name (i := 7) sc__law_new_row.nd rfl (.inl rfl)) 
      (pss_one (ps_set (i := 6) sc__law_new_row.nd rfl (.inl rfl) (pe_call G__law_times (hr.mono (by decide)) (by rfl) T.g__law_times T.F__law_times.kp T.b__law_times .nil pass0 (pa_cons (pv 0) (pa_cons (pv 1) (pa_cons (pe_call G__law_inverse (hr.mono (by decide)) (by rfl) T.g__law_inverse T.F__law_inverse.kp T.b__law_inverse .nil pass0 (pa_cons (pv 0) (pa_cons (pv 1) (pa_cons (pv 4) pa_nil)))) (pa_cons (pv 6) pa_nil)))))))) 
    (pss_one (ps_ret (pe_op op_catA (pe_slice sl_tupA (pv 2) po_none (po_some (pe_op op_add (pv 3) pe_int))) (pe_slice sl_tupA (pv 6) (po_some (pe_op op_add (pv 3) pe_int)) po_none))))))), ?_⟩
    have hn := hV.n10
    obtain ⟨xt, rfl, hxS⟩ := id hx
    have hxi := hbx.2 i hi
    have hpi := hV.p2 hi
    refine ⟨_, rfl, xt, _, rfl, .inr hxS, ?_⟩
    rw [List.length_map, hbx.1]
    refine ⟨_, rfl, (t.ps.length : Int), rfl, by omega, by omega, fun D nD => ?_⟩
    refine lc_rep (walk_range (lo := 0) (n := t.ps.length)) st_RI (fun k => if k < i then 0 else atR x k) (by omega) nD (fun H2 sm => trivial) (fun k y H2 H3 Q2 hk sm hY q2 => ?_) (fun H2 acc sm eD hP => ?_)
    · obtain ⟨rfl, rfl⟩ := hY
      refine ⟨rfl, _, rfl, _, rfl, _, _, rfl, rfl, _, rfl, ite2 (fun c => ?_) (fun c => ?_)⟩
      · have c2 : k < i := by
          have := of_decide_eq_true c
          omega
        exact q2 _ _ (Same.refl _) (by rw [if_pos c2]; rfl)
      · have c2 : ¬ k < i := fun z => c (decide_eq_true (by omega))
        refine ⟨_, rfl, _, rfl, xt, _, (k : Int), _, rfl, by show V.int (0 + (k : Int)) = _; rw [Int.zero_add], Own.same_tup sm hxS, atW (by rw [hbx.1]; exact hk), q2 _ _ (Same.refl _) (by rw [if_neg c2]; rfl)⟩
    · have e := ints_of hP
      subst e
      refine ⟨D, _, rfl, .inl ⟨.inl (.inl eD), fun u nu => ?_⟩⟩
      have s1 := sm.trans (same_new (o := .tup (((List.range t.ps.length).map fun k => if k < i then 0 else atR x k).map V.int)) nu)
      have hu : RS K (upd H2 u (.tup (((List.range t.ps.length).map fun k => if k < i then 0 else atR x k).map V.int))) (.ref u) ((List.range t.ps.length).map fun k => if k < i then 0 else atR x k) := ⟨u, rfl, .inl (.inl upd_same)⟩
      have eat : ∀ k, k < t.ps.length → atR ((List.range t.ps.length).map fun k => if k < i then 0 else atR x k) k = if k < i then 0 else atR x k := fun k hk => at_map hk
      have hbl : Bl t.ps ((List.range t.ps.length).map fun k => if k < i then 0 else atR x k) := ⟨by rw [List.length_map, List.length_range], fun k hk => by
        rw [eat k hk]
        have h1 := hbx.2 k hk
        split <;> omega⟩
      have hN0 : NlP t i o x ((List.range t.ps.length).map fun k => if k < i then 0 else atR x k) 0 := NlP.init hi hbx hbl eat
      generalize (List.range t.ps.length).map (fun k => if k < i then 0 else atR x k) = tl at *
      generalize upd H2 u (.tup (tl.map V.int)) = H3 at *
      refine ⟨_, rfl, _, rfl, xt, _, (i : Int), _, rfl, rfl, Own.same_tup s1 hxS, atW (by rw [hbx.1]; exact hi), _, rfl, by omega, by omega, ?_⟩
      refine for_range (lo := 0) (n := (atR x i).toNat) (fun m σ H' => ∃ (tv : V) (tl' : List Int) (y7 y8 : Option V), σ = [some z, some (.ref kn), some (.ref xt), some (.int i), some ov, some (.int (t.ps.length : Int)), some tv, y7, y8] ∧ Go P w K kn t H H' ∧ RS K H' tv tl' ∧ Bl t.ps tl' ∧ (m = 0 → tl' = tl) ∧ NlP t i o x tl' m)
        ⟨.ref u, tl, none, none, rfl, Go.init hK s1, hu, hbl, fun _ => rfl, hN0⟩ ?_ ?_
      · rintro m σ H4 hm ⟨tv, tl', y7, y8, rfl, hg, htv, hbt, _, hN⟩
        refine ⟨_, rfl, _, rfl, _, rfl, _, rfl, _, rfl, kn, z, ov, t, o, rfl, hT.tps hg.tp, hV, hg.ok, rs_tps hg.tp ho, hbo, fun iv v H5 g5 hv hI hP => ?_⟩
        have hg5 := hg.trans g5
        refine ⟨_, rfl, kn, z, iv, tv, t, v, tl', rfl, hT.tps hg5.tp, hV, hg5.ok, hv, rs_tps g5.tp htv, hI.bl, hbt, fun i hi => by omega, fun z' f H6 sx6 tp6 hK6 hf hA ef => ?_⟩
        exact ⟨z', f, _, _, rfl, hg5.trans ⟨sx6, tp6, hK6⟩, hf, hA.bl, fun e => absurd e (by omega), by rw [ef]; exact hN.step hV hi hgo hI hP (by omega)⟩
      · rintro σ H4 ⟨tv, tl', y7, y8, rfl, hg, htv, hbt, h0, hN⟩
        obtain ⟨tt, rfl, htS⟩ := htv
        refine ⟨_, rfl, _, rfl, _, _, rfl, rfl, (i : Int) + 1, rfl, slA_q (hg.tp _ _ hxS) fun u1 H5 s5 h5 => ?_⟩
        rw [show (i : Int) + 1 = ((i + 1 : Nat) : Int) by omega, cut_to (by rw [List.length_map, hbx.1]; omega), ← List.map_take] at h5
        refine ⟨_, rfl, _, rfl, _, _, rfl, rfl, (i : Int) + 1, rfl, ?_⟩
        unfold tNoPart
        refine slA_q (lo := some ((i : Int) + 1)) (hi := none) (Own.same_tup s5 htS) fun u2 H6 s6 h6 => ?_
        rw [show (i : Int) + 1 = ((i + 1 : Nat) : Int) by omega, cut_from (by rw [List.length_map, hbt.1]; omega), ← List.map_drop] at h6
        refine catA_q (Own.same_tup s6 h5) h6 (by rw [List.length_map, List.length_map, List.length_take, List.length_drop, hbx.1, hbt.1]; omega) fun u3 H7 s7 h7 => ?_
        rw [← List.map_append] at h7
        have hlt : (x.take (i + 1)).length = i + 1 := by rw [List.length_take, hbx.1]; omega
        have a1 : ∀ k, k ≤ i → atR (x.take (i + 1) ++ tl'.drop (i + 1)) k = atR x k := fun k hk => by rw [atR_app1 (by omega), atR_take (by omega)]
        have a2 : ∀ k, i < k → atR (x.take (i + 1) ++ tl'.drop (i + 1)) k = atR tl' k := fun k hk => by
          rw [atR_app2 (by omega), hlt, atR_drop]
          congr 1
          omega
        have hlen : (x.take (i + 1) ++ tl'.drop (i + 1)).length = t.ps.length := by
          rw [List.length_append, hlt, List.length_drop, hbt.1]
          omega
        refine q _ _ H7 (hg.same ((s5.trans s6).trans s7)) ⟨u3, rfl, h7⟩ ⟨⟨hlen, fun k hk => ?_⟩, a1, fun hz => ?_⟩ (hN.done hi hbx)
        · rcases Nat.lt_or_ge i k with c | c
          · rw [a2 k c]
            exact hbt.2 k hk
          · rw [a1 k c]
            exact hbx.2 k hk
        · refine ext_at2 (by rw [hlen, hbx.1]) fun k hk => ?_
          rw [hbx.1] at hk
          rcases Nat.lt_or_ge i k with c | c
          · rw [a2 k c, h0 (by omega), eat k hk, if_neg (by omega)]
          · exact a1 k c
/-! ### _law_twisted -/
/-- a comprehension of drawn ints -/
theorem lc_drawP {J : It} {n : Nat} {G : Hp → Prop} {Y : Nat → Hp → V → Hp → Prop} (w : Walk J n G Y) (Pi : Nat → Int → Prop) {g : TG} {te : TE} {vs : List Nat} {σ : L2.St} {H1 : Hp} {D st : Addr} {Qd : Hp → Prop} (hn : n ≤ 900) (nD : H1 D = none) (hst : StA H1 st) (hG : ∀ H, SameX st H1 H → G H)
    (hs : ∀ (i : Nat) (x : V) (H H' : Hp) (Q : VK), i < n → SameX st H1 H → StA H st → Y i H x H' → (∀ (c : Int) H2, SameX st H H2 → StA H2 st → Pi i c → Q (.int c) H2) → g x (wipe σ vs) H' fun σ2 H2 => wipe σ2 vs = wipe σ vs ∧ te σ2 H2 Q)
    (hd : ∀ (H : Hp) (rt : List Int), SameX st H1 H → StA H st → H D = some (.lst (rt.map V.int)) → rt.length = n → (∀ i, i < n → Pi i (atR rt i)) → Qd H) :
    ∃ W : Nat → Nat → Hp → Prop, (∃ m, W 0 m (upd H1 D (.lst []))) ∧ ∀ i m H, W i m H →
      (J.stop i H ∧ Qd H) ∨ (J.go i H ∧ ∃ Nx : Hp → Prop, (∀ H', Nx H' → ∃ m', m' < m ∧ W (i + 1) m' H') ∧ ∀ x H', J.yld i H x H' → g x (wipe σ vs) H' fun σ2 H2 => wipe σ2 vs = wipe σ vs ∧ tYes σ2 H2 fun b H3 =>
        if b = true then te σ2 H3 fun y H4 => ∃ acc, H4 D = some (.lst acc) ∧ acc.length < sizeLine ∧ Nx (upd H4 D (.lst (acc ++ [y]))) else Nx H3) := by
  obtain ⟨s0, t0, est⟩ := hst
  have hD : st ≠ D := ne_of_none est nD
  refine lc_it w (fun i H2 => i ≤ n ∧ ∃ rt : List Int, SameX st H1 H2 ∧ StA H2 st ∧ H2 D = some (.lst (rt.map V.int)) ∧ rt.length = i ∧ ∀ j, j < i → Pi j (atR rt j))
    ⟨Nat.zero_le _, [], Same.x (same_new nD), ⟨s0, t0, by rw [upd_ne hD]; exact est⟩, upd_same, rfl, fun r h => absurd h (Nat.not_lt_zero r)⟩ (fun i H _ k => hG H (k.2.elim fun _ k => k.1)) (fun i x H2 H3 hi hP hY => ?_) (fun H2 hP => ?_)
  · obtain ⟨_, rt, sx, hst2, eD, hl, hv⟩ := hP
    obtain ⟨s1, t1, es1⟩ := id hst2
    exact hs i x H2 H3 (fun y H4 => ∃ acc, H4 D = some (.lst acc) ∧ acc.length < sizeLine ∧ (i + 1 ≤ n ∧ ∃ rt : List Int, SameX st H1 (upd H4 D (.lst (acc ++ [y]))) ∧ StA (upd H4 D (.lst (acc ++ [y]))) st ∧ (upd H4 D (.lst (acc ++ [y]))) D = some (.lst (rt.map V.int)) ∧ rt.length = i + 1 ∧ ∀ j, j < i + 1 → Pi j (atR rt j))) hi sx hst2 hY fun c H4 sx4 ⟨s2, t2, es2⟩ hc => by
      have eD4 := sx4 _ _ hD.symm eD
      refine ⟨rt.map V.int, eD4, small1000 (by rw [List.length_map]; omega), hi, rt ++ [c], fun b o nb hb => ?_, ⟨s2, t2, by rw [upd_ne hD]; exact es2⟩, by rw [upd_same, List.map_append]; rfl, by rw [List.length_append, hl]; rfl, fun j hj => ?_⟩
      · rw [upd_ne (ne_of_none hb nD)]
        exact sx4 b o nb (sx b o nb hb)
      · rcases Nat.lt_or_ge j i with c2 | c2
        · rw [atR_app1 (by omega)]
          exact hv j c2
        · have e : j = i := by omega
          rw [e, atR_app2 (by omega), hl, Nat.sub_self]
          exact hc
  · obtain ⟨_, rt, sx, hst2, eD, hl, hv⟩ := hP
    exact hd H2 rt sx hst2 eD hl hv
theorem KnOK.tps {H H' : Hp} {kn : Addr} {t : Tb} (h : KnOK P w K H kn t) (tp : Tps K H H') (e : ∀ o, H kn = some o → H' kn = some o) : KnOK P w K H' kn t := by
  obtain ⟨kvs, ⟨xs', h1⟩, h2⟩ := h
  refine ⟨kvs, ⟨xs', e _ h1.here, h1.nm, Pk.pair_via (fun _ _ q => ⟨q.1, q.2.1.via (fun h => tp _ _ h), q.2.2⟩) h1.rel, h1.nd, h1.few⟩, fun kv hkv => ?_⟩
  obtain ⟨j, a, b, c, v, d, f⟩ := h2 kv hkv
  exact ⟨j, a, b, c, v, rs_tps tp d, f⟩
theorem bl_unit {t : Tb} (hV : Vd t) {k : Nat} (hk : k < t.ps.length) : GnR t.ps (unitR t.ps.length k) k := by
  refine ⟨⟨by unfold unitR; rw [List.length_map, List.length_range], fun i hi => ?_⟩, fun i hi => ?_, ?_⟩
  · rw [unitR_at hi]
    have := hV.p2 hi
    split <;> omega
  · rw [unitR_at (by omega), if_neg (by omega)]
  · rw [unitR_at hk, if_pos rfl]
def spBent (K : PySem.W.Frag) : Sp := fun vs H Q _ => ∃ (st : Addr) (z : V) (t : Tb), vs = [.ref st, z] ∧ StA H st ∧ TbAt K H z t ∧ Vd t ∧
  ∀ z' t' H', SameX st H H' → StA H' st → TbAt K H' z' t' → Vd t' → t'.ps = t.ps → Q z' H'
def spTwist (K : PySem.W.Frag) : Sp := fun vs H Q _ => ∃ (st : Addr) (z : V) (t : Tb), vs = [.ref st, z] ∧ StA H st ∧ TbAt K H z t ∧ Vd t ∧
  ∀ z' t' H', SameX st H H' → StA H' st → TbAt K H' z' t' → Vd t' → t'.ps = t.ps → (RepT t → RepT t') → Q z' H'
/-- so far: the powers' rows and the conjugates' -/
structure Twp (t : Tb) (i0 : Nat) (o : List Int) (pws : List (List Int)) (cjs : List (List (List Int))) (k : Nat) : Prop where
  pl : pws.length = k
  pr : ∀ i r, pws[i]? = some r → Bl t.ps r ∧ Zb r (i + 1)
  cl : cjs.length = k
  cr : ∀ i M, cjs[i]? = some M → M.length = t.ps.length - (i + 1) ∧ ∀ r ∈ M, Bl t.ps r ∧ Zb r (i + 1)
  px : ∀ i r, pws[i]? = some r → Pw3 t i0 o i r
  cx : ∀ i M, cjs[i]? = some M → ∀ m r, M[m]? = some r → Cj3 t i0 o i (i + 1 + m) r
theorem get_app {α : Type} {l : List α} {x y : α} {i : Nat} (h : (l ++ [x])[i]? = some y) : l[i]? = some y ∨ (i = l.length ∧ y = x) := by
  rcases Nat.lt_or_ge i l.length with c | c
  · rw [List.getElem?_append_left c] at h
    exact .inl h
  · rw [List.getElem?_append_right c] at h
    have e : i - l.length = 0 := by
      rcases Nat.eq_zero_or_pos (i - l.length) with e | e
      · exact e
      · rw [List.getElem?_eq_none (by rw [List.length_singleton]; omega)] at h
        cases h
    rw [e] at h
    cases h
    exact .inr ⟨by omega, rfl⟩
theorem Twp.next {t : Tb} {i0 : Nat} {o : List Int} {pws : List (List Int)} {cjs : List (List (List Int))} {k : Nat} {r : List Int} {M : List (List Int)} (h : Twp t i0 o pws cjs k) (hr : Bl t.ps r ∧ Zb r (k + 1)) (hM : M.length = t.ps.length - (k + 1)) (hM2 : ∀ r ∈ M, Bl t.ps r ∧ Zb r (k + 1)) (hx : Pw3 t i0 o k r) (hMx : ∀ m r, M[m]? = some r → Cj3 t i0 o k (k + 1 + m) r) : Twp t i0 o (pws ++ [r]) (cjs ++ [M]) (k + 1) :=
  ⟨by rw [List.length_append, h.pl]; rfl, fun i x e => by
    rcases get_app e with e | ⟨e1, e2⟩
    · exact h.pr i x e
    · rw [h.pl] at e1
      rw [e1, e2]
      exact hr, by rw [List.length_append, h.cl]; rfl, fun i x e => by
    rcases get_app e with e | ⟨e1, e2⟩
    · exact h.cr i x e
    · rw [h.cl] at e1
      rw [e1, e2]
      exact ⟨hM, hM2⟩, fun i x e => by
    rcases get_app e with e | ⟨e1, e2⟩
    · exact h.px i x e
    · rw [h.pl] at e1
      rw [e1, e2]
      exact hx, fun i x e => by
    rcases get_app e with e | ⟨e1, e2⟩
    · exact h.cx i x e
    · rw [h.cl] at e1
      rw [e1, e2]
      exact hMx⟩
theorem ok_twist (T : Txt K mg) : FnOk P w K mg base CX0 24 T.a__law_twisted T.d__law_twisted ["state", "table"] (spTwist K) := by
  have G__law_take : FnOk P w K mg base CX0 1 T.a__law_take T.d__law_take ["state", "m"] spTake := ok_take T
  have G__law_generator : FnOk P w K mg base CX0 1 T.a__law_generator T.d__law_generator ["n", "k"] (spGen K) := ok_lgen T
  have G__law_times : FnOk P w K mg base CX0 22 T.a__law_times T.d__law_times ["table", "known", "x", "y"] (spTimes P w K 10) := ok_ltimes T
  have G__law_conjugated : FnOk P w K mg base CX0 23 T.a__law_conjugated T.d__law_conjugated ["table", "known", "x", "y"] (spConj P w K) := ok_lconj T
  have G__law_new_row : FnOk P w K mg base CX0 23 T.a__law_new_row T.d__law_new_row ["table", "known", "x", "i", "own"] (spNewRow P w K) := ok_lnew T
  refine T.F__law_twisted.ok sc__law_twisted (fun vs H Q E h => ?_) (fun cdv A outer s H vs Q E hr h => ?_)
  · obtain ⟨st, z, t, rfl, _⟩ := h
    rfl
  · obtain ⟨st, z, t, rfl, hst, hT, hV, q⟩ := h
    refine ⟨_, (pss_cons (ps_set (i := 2) sc__law_twisted.nd rfl (.inr rfl) (pe_callB call_len_seq (by rfl) T.n_len (by decide +kernel) (pa_cons (pe_ix (show IxR _ (rIxT K) from ix_tup) (pv 1) pe_int (fun _ _ => rfl)) pa_nil))) 
    (pss_cons (ps_if (pt_cmpR op_lt (pv 2) pe_int (nomark _)) 
      (pss_one (ps_ret (pv 1))) pss_nil) 
    (pss_cons (ps_set (i := 3) sc__law_twisted.nd rfl (.inl rfl) Pk.pe_dnewP) 
    (pss_cons (ps_set (i := 4) sc__law_twisted.nd rfl (.inr rfl) (pe_call G__law_take (hr.mono (by decide)) (by rfl) T.g__law_take T.F__law_take.kp T.b__law_take .nil pass0 (pa_cons (pv 0) (pa_cons (pe_op op_sub (pv 2) pe_int) pa_nil)))) 
    (pss_cons (ps_set (i := 6) sc__law_twisted.nd rfl (.inr rfl) (pe_callTy call_tuple_of (by rfl) T.n_tuple (by decide +kernel) (pa_cons (pe_lc (own := [("k", 5)]) rfl sc__law_twisted.nd (pi_range1 (by rfl) T.n_range (pa_cons (pv 2) pa_nil)) (blkOk_by (N := N__law_twisted) (sc := defScope s__law_twisted) (own := [("k", 5)]) (by decide +kernel)) (fun _ _ _ _ _ => (pg_name (i := 5) sc__law_twisted.nd rfl (.inl rfl))) (fun _ _ _ _ _ => pts_nil) (fun _ _ _ _ _ => (pe_ifExp (pt_cmpR op_le (pv 5) (pv 4) (nomark _)) (pe_callTy call_int1 (by rfl) T.n_int (by decide +kernel) (pa_cons (pe_cmpR op_eq (pv 5) (pv 4) (nomark _)) pa_nil)) (pe_call G__law_take (hr.mono (by decide)) (by rfl) T.g__law_take T.F__law_take.kp T.b__law_take .nil pass0 (pa_cons (pv 0) (pa_cons (pe_ix (show IxR _ (rIxT K) from ix_tup) (pe_ix (show IxR _ (rIxT K) from ix_tup) (pv 1) pe_int (fun _ _ => rfl)) (pv 5) (fun _ _ => rfl)) pa_nil)))))) pa_nil))) 
    (C8.pss_cut (ps_setLc (i := 7) (own := [("k", 5)]) rfl sc__law_twisted.nd rfl rfl (sw_true rfl rfl rfl (by decide +kernel)) (pi_range1 (by rfl) T.n_range (pa_cons (pv 2) pa_nil)) (blkOk_by (N := N__law_twisted) (sc := defScope s__law_twisted) (own := [("k", 5)]) (by decide +kernel)) (fun _ _ _ _ _ => (pg_name (i := 5) sc__law_twisted.nd rfl (.inl rfl))) (fun _ _ _ _ _ => pts_nil) (fun _ _ _ _ _ => (pe_ifExp (pt_cmpR op_eq (pv 5) (pv 4) (nomark _)) (pv 6) (pe_call G__law_generator (hr.mono (by decide)) (by rfl) T.g__law_generator T.F__law_generator.kp T.b__law_generator .nil pass0 (pa_cons (pv 2) (pa_cons (pv 5) pa_nil)))))) 
    (pss_cons (ps_set (i := 8) sc__law_twisted.nd rfl (.inl rfl) (pe_lst pa_nil)) 
    (pss_cons (ps_set (i := 9) sc__law_twisted.nd rfl (.inl rfl) (pe_lst pa_nil)) 
    (pss_cons (ps_for PassesOwn.never rfl (pi_range1 (by rfl) T.n_range (pa_cons (pv 2) pa_nil)) (pg_name (i := 5) sc__law_twisted.nd rfl (.inl rfl)) 
      (pss_cons (ps_set (i := 10) sc__law_twisted.nd rfl (.inl rfl) (pe_ix ix_list (pv 7) (pv 5) (fun _ _ => rfl))) 
      (pss_cons (ps_for PassesOwn.never rfl (pi_range1 (by rfl) T.n_range (pa_cons (pe_op op_sub (pe_ix (show IxR _ (rIxT K) from ix_tup) (pe_ix (show IxR _ (rIxT K) from ix_tup) (pv 1) pe_int (fun _ _ => rfl)) (pv 5) (fun _ _ => rfl)) pe_int) pa_nil)) (pg_name (i := 11) sc__law_twisted.nd rfl (.inl rfl)) 
        (pss_one (ps_set (i := 10) sc__law_twisted.nd rfl (.inl rfl) (pe_call G__law_times (hr.mono (by decide)) (by rfl) T.g__law_times T.F__law_times.kp T.b__law_times .nil pass0 (pa_cons (pv 1) (pa_cons (pv 3) (pa_cons (pv 10) (pa_cons (pe_ix ix_list (pv 7) (pv 5) (fun _ _ => rfl)) pa_nil)))))))) 
      (pss_cons (ps_expr (pe_bm PySem.F.plainAttrs_list PySem.F.slot_list_append PySem.F.type_list_append mt_append (pv 8) (pa_cons (pe_call G__law_new_row (hr.mono (by decide)) (by rfl) T.g__law_new_row T.F__law_new_row.kp T.b__law_new_row .nil pass0 (pa_cons (pv 1) (pa_cons (pv 3) (pa_cons (pv 10) (pa_cons (pv 4) (pa_cons (pv 6) pa_nil)))))) pa_nil))) 
      (pss_cons (ps_set (i := 12) sc__law_twisted.nd rfl (.inl rfl) (pe_lst pa_nil)) 
      (pss_cons (ps_for PassesOwn.never rfl (pi_range2 (by rfl) T.n_range (pa_cons (pe_op op_add (pv 5) pe_int) (pa_cons (pv 2) pa_nil))) (pg_name (i := 13) sc__law_twisted.nd rfl (.inl rfl)) 
        (pss_one (ps_expr (pe_bm PySem.F.plainAttrs_list PySem.F.slot_list_append PySem.F.type_list_append mt_append (pv 12) (pa_cons (pe_call G__law_new_row (hr.mono (by decide)) (by rfl) T.g__law_new_row T.F__law_new_row.kp T.b__law_new_row .nil pass0 (pa_cons (pv 1) (pa_cons (pv 3) (pa_cons (pe_call G__law_conjugated (hr.mono (by decide)) (by rfl) T.g__law_conjugated T.F__law_conjugated.kp T.b__law_conjugated .nil pass0 (pa_cons (pv 1) (pa_cons (pv 3) (pa_cons (pe_ix ix_list (pv 7) (pv 13) (fun _ _ => rfl)) (pa_cons (pe_ix ix_list (pv 7) (pv 5) (fun _ _ => rfl)) pa_nil))))) (pa_cons (pv 4) (pa_cons (pv 6) pa_nil)))))) pa_nil))))) 
      (pss_one (ps_expr (pe_bm PySem.F.plainAttrs_list PySem.F.slot_list_append PySem.F.type_list_append mt_append (pv 9) (pa_cons (pe_callTy call_tuple_of (by rfl) T.n_tuple (by decide +kernel) (pa_cons (pv 12) pa_nil)) pa_nil)))))))))) 
    (pss_one (ps_ret (pe_tup (pa_cons (pe_ix (show IxR _ (rIxT K) from ix_tup) (pv 1) pe_int (fun _ _ => rfl)) (pa_cons (pe_callTy call_tuple_of (by rfl) T.n_tuple (by decide +kernel) (pa_cons (pv 8) pa_nil)) (pa_cons (pe_callTy call_tuple_of (by rfl) T.n_tuple (by decide +kernel) (pa_cons (pv 9) pa_nil)) pa_nil))))))))))))))), ?_⟩
    have hn := hV.n10
    obtain ⟨x0, a, b, c, us, vs, rfl, hSx, hSa, hSb, hPw, hSc, hPc⟩ := hT.rd
    refine ⟨_, rfl, x0, _, 0, _, rfl, rfl, hSx, atI_nat (j := 0) rfl, a, _, rfl, .inr hSa, ?_⟩
    rw [List.length_map]
    refine ⟨_, rfl, _, _, rfl, rfl, _, rfl, ite2 (fun c1 => ?_) (fun c1 => ?_)⟩
    · exact ⟨_, rfl, q _ t H (Same.x (Same.refl H)) hst hT hV rfl id⟩
    · have hn2 : 2 ≤ t.ps.length := by
        have h : ¬ ((t.ps.length : Int) < 2) := fun z => c1 (decide_eq_true z)
        omega
      intro kn H1 nkn s1 hKD
      have hK1 : KnOK P w K H1 kn t := ⟨[], hKD, fun kv h => by cases h⟩
      obtain ⟨s0, t0, est⟩ := id hst
      have est1 := s1 _ _ est
      have hne : st ≠ kn := ne_of_none est nkn
      refine ⟨_, rfl, _, rfl, _, _, rfl, rfl, st, _, s0, t0, rfl, by omega, by omega, est1, fun v s' t' hv0 hv1 => ?_⟩
      obtain ⟨i, rfl⟩ : ∃ i : Nat, v = (i : Int) := ⟨v.toNat, by rw [Int.toNat_of_nonneg hv0]⟩
      have hi : i + 1 < t.ps.length := by omega
      have hK2 := hK1.put2 (ys := [.int s', .int t']) est1
      have sx2 : SameX st H (upd H1 st (.lst [.int s', .int t'])) := (Same.x s1).trans SameX.put
      have tp2 : Tps K H (upd H1 st (.lst [.int s', .int t'])) := (Tps.of s1).trans (Tps.x SameX.put est1)
      have hst2 : StA (upd H1 st (.lst [.int s', .int t'])) st := ⟨s', t', upd_same⟩
      have nkn2 : ∃ φ, (upd H1 st (.lst [.int s', .int t'])) kn = some (.ext φ) := hK2.ext
      generalize upd H1 st (.lst [.int s', .int t']) = H2 at *
      refine ⟨_, rfl, (t.ps.length : Int), rfl, by omega, by omega, fun D nD => ?_⟩
      refine lc_drawP (walk_range (lo := 0) (n := t.ps.length)) (fun k c => if k ≤ i then c = (if k = i then 1 else 0) else 0 ≤ c ∧ c < atR t.ps k) (by omega) nD hst2 (fun _ _ => trivial) (fun k x H3 H4 Q2 hk sx3 hst3 hY q2 => ?_) (fun H3 o sx3 hst3 eD hol hov => ?_)
      · obtain ⟨rfl, rfl⟩ := hY
        refine ⟨rfl, _, rfl, _, rfl, _, _, rfl, rfl, _, rfl, ite2 (fun c2 => ?_) (fun c2 => ?_)⟩
        · have c3 : k ≤ i := by
            have := of_decide_eq_true c2
            omega
          refine ⟨_, rfl, _, rfl, rfl, .inr ⟨_, rfl, ?_⟩⟩
          refine q2 (if decide (V.int ((0 : Int) + (k : Int)) = V.int (i : Int)) = true then 1 else 0) _ (Same.x (Same.refl _)) hst3 ?_
          rw [if_pos c3]
          by_cases e : k = i
          · rw [if_pos e, if_pos (decide_eq_true (by rw [e, Int.zero_add]))]
          · rw [if_neg e, if_neg (fun h => e (by have := V.int.inj (of_decide_eq_true h); omega))]
        · have c3 : ¬ k ≤ i := fun z => c2 (decide_eq_true (by omega))
          have hpk := hV.p2 hk
          obtain ⟨s5, t5, est5⟩ := hst3
          obtain ⟨s6, t6, est6⟩ := id hst2
          have tp3 := tp2.trans (Tps.x sx3 est6)
          refine ⟨_, rfl, _, rfl, x0, _, 0, _, rfl, rfl, tp3 _ _ hSx, atI_nat (j := 0) rfl, _, rfl, a, _, (k : Int), _, rfl, by show V.int (0 + (k : Int)) = _; rw [Int.zero_add], tp3 _ _ hSa, atW hk, st, _, s5, t5, rfl, by omega, by omega, est5, fun v s7 t7 hv0 hv1 => ?_⟩
          refine q2 v _ SameX.put ⟨s7, t7, upd_same⟩ ?_
          rw [if_neg c3]
          exact ⟨hv0, hv1⟩
      have hgo : GnR t.ps o i := by
        refine ⟨⟨hol, fun k hk => ?_⟩, fun k hk => ?_, ?_⟩
        · have h1 := hov k hk
          have h2 := hV.p2 hk
          split at h1
          · rw [h1]
            split <;> omega
          · exact h1
        · have h1 := hov k (by omega)
          rw [if_pos (by omega), if_neg (by omega)] at h1
          exact h1
        · have h1 := hov i (by omega)
          rw [if_pos (Nat.le_refl _), if_pos rfl] at h1
          exact h1
      refine ⟨D, _, rfl, .inl ⟨.inl (.inl eD), fun u nu => ?_⟩⟩
      obtain ⟨s6, t6, est6⟩ := id hst2
      have tp4 := (tp2.trans (Tps.x sx3 est6)).trans (Tps.of (same_new (o := .tup (o.map V.int)) nu))
      have sx4 := (sx2.trans sx3).trans (Same.x (same_new (o := .tup (o.map V.int)) nu))
      have hst4 : StA (upd H3 u (.tup (o.map V.int))) st := let ⟨a, b, e⟩ := hst3; ⟨a, b, same_new nu _ _ e⟩
      have hK4 : KnOK P w K (upd H3 u (.tup (o.map V.int))) kn t := hK2.tps ((Tps.x sx3 est6).trans (Tps.of (same_new nu))) (fun ob h => same_new nu _ _ (sx3 _ _ hne.symm h))
      have hou : RS K (upd H3 u (.tup (o.map V.int))) (.ref u) o := ⟨u, rfl, .inl (.inl upd_same)⟩
      generalize upd H3 u (.tup (o.map V.int)) = H4 at *
      -- names
      refine ⟨fun σ H' => Same H4 H' ∧ ∃ (nm : Addr) (nvs : List V) (y5 : Option V), σ = [some (.ref st), some (.ref x0), some (.int (t.ps.length : Int)), some (.ref kn), some (.int i), y5, some (.ref u), some (.ref nm), none, none, none, none, none, none] ∧ H' nm = some (.lst nvs) ∧ ∀ k, k < t.ps.length → ∃ gv g, nvs[k]? = some gv ∧ RS K H' gv g ∧ GnR t.ps g k ∧ g = nmF t i o k, ?_, ?_⟩
      · refine ⟨_, rfl, (t.ps.length : Int), rfl, by omega, by omega, fun D nD => ?_⟩
        refine lc_rep (walk_range (lo := 0) (n := t.ps.length)) (st_RS (K := K)) (fun k => if k = i then o else unitR t.ps.length k) (by omega) nD (fun _ _ => trivial) (fun k x H5 H6 Q2 hk sm hY q2 => ?_) (fun H5 acc sm eD hP => ?_)
        · obtain ⟨rfl, rfl⟩ := hY
          refine ⟨rfl, _, rfl, _, rfl, rfl, _, rfl, ite2 (fun c2 => ?_) (fun c2 => ?_)⟩
          · have e : k = i := by
              have := V.int.inj (of_decide_eq_true c2)
              omega
            exact ⟨_, rfl, q2 _ _ (Same.refl _) (by rw [if_pos e]; exact st_RS.same sm hou)⟩
          · have e : k ≠ i := fun z => c2 (decide_eq_true (by rw [z]; show V.int (0 + (i : Int)) = _; rw [Int.zero_add]))
            refine ⟨_, rfl, _, rfl, t.ps.length, k, by show [V.int _, V.int (0 + (k : Int))] = _; rw [Int.zero_add], by omega, fun z' H6 s6 h6 => q2 _ _ s6 (by rw [if_neg e]; exact h6)⟩
        · refine ⟨sm, D, acc, _, rfl, eD, fun k hk => ?_⟩
          obtain ⟨gv, e1, e2⟩ := paired_get2 hP (show ((List.range t.ps.length).map fun k => if k = i then o else unitR t.ps.length k)[k]? = some (if k = i then o else unitR t.ps.length k) by rw [List.getElem?_map, List.getElem?_range hk]; rfl)
          refine ⟨gv, _, e1, e2, ?_, rfl⟩
          by_cases e : k = i
          · rw [if_pos e, e]
            exact hgo
          · rw [if_neg e]
            exact bl_unit hV hk
      rintro σ H5 ⟨s5, nm, nvs, y5, rfl, enm, hnv⟩
      have sx5 := sx4.trans (Same.x s5)
      have tp5 := tp4.trans (Tps.of s5)
      have hst5 : StA H5 st := let ⟨a, b, e⟩ := hst4; ⟨a, b, s5 _ _ e⟩
      have hK5 := hK4.mono s5
      have hou5 := rs_tps (Tps.of s5) hou
      have hT5 := hT.tps tp5
      have hSx5 := tp5 _ _ hSx
      have hSa5 := tp5 _ _ hSa
      clear hK4 hK2 hK1 hst4 hst3 sx4 sx3 sx2 tp4 tp2 s5 hPc hPw hSb hSc hou hov
      obtain ⟨φ, ekn⟩ := hK5.ext
      have hnk : nm ≠ kn := fun e => by rw [e, ekn] at enm; cases enm
      refine ⟨Nat.zero_le _, fun pw npw => ⟨Nat.zero_le _, fun pa npa => ?_⟩⟩
      have npa5 : H5 pa = none := same_new npw |>.free npa
      have hwa : pw ≠ pa := ne_of_none upd_same npa
      have hwk : pw ≠ kn := fun e => by rw [e, ekn] at npw; cases npw
      have hak : pa ≠ kn := fun e => by rw [e, ekn] at npa5; cases npa5
      refine ⟨_, rfl, (t.ps.length : Int), rfl, by omega, by omega, ?_⟩
      rw [Int.toNat_natCast]
      refine for_range (lo := 0) (n := t.ps.length) (fun k σ H' => ∃ (pvs cvs : List V) (pws : List (List Int)) (cjs : List (List (List Int))) (y5 y10 y11 y12 y13 : Option V), σ = [some (.ref st), some (.ref x0), some (.int (t.ps.length : Int)), some (.ref kn), some (.int i), y5, some (.ref u), some (.ref nm), some (.ref pw), some (.ref pa), y10, y11, y12, y13] ∧ Go P w K kn t H5 H' ∧ H' pw = some (.lst pvs) ∧ Paired (RS K H') pvs pws ∧ H' pa = some (.lst cvs) ∧ Paired (Tup1 K H') cvs cjs ∧ Twp t i o pws cjs k)
        ⟨[], [], [], [], _, _, _, _, _, rfl, Go.init hK5 ((same_new npw).trans (same_new npa)), by rw [upd_ne hwa]; exact upd_same, .nil, upd_same, .nil, rfl, (fun i r h => by cases h), rfl, (fun i r h => by cases h), (fun i r h => by cases h), (fun i r h => by cases h)⟩ ?_ ?_
      · rintro k σ H' hk ⟨pvs, cvs, pws, cjs, y5, y10, y11, y12, y13, rfl, hg, epw, hpw, epa, hpa, hW⟩
        rw [Int.zero_add]
        obtain ⟨gv, g, eg, hg1, hgn, egn⟩ := hnv k hk
        have hp2 := hV.p2 hk
        refine ⟨_, rfl, _, rfl, nm, _, (k : Int), _, rfl, rfl, .inl (.inl (hg.sx _ _ hnk enm)), atI_nat eg, ?_⟩
        refine ⟨_, rfl, x0, _, 0, _, rfl, rfl, hg.tp _ _ hSx5, atI_nat (j := 0) rfl, _, rfl, a, _, (k : Int), _, rfl, rfl, hg.tp _ _ hSa5, atW hk, _, _, rfl, rfl, _, rfl, by omega, by omega, ?_⟩
        refine for_range (lo := 0) (n := (atR t.ps k - 1).toNat) (fun m σ H2 => ∃ (fv : V) (f : List Int) (y11 : Option V), σ = [some (.ref st), some (.ref x0), some (.int (t.ps.length : Int)), some (.ref kn), some (.int i), some (.int k), some (.ref u), some (.ref nm), some (.ref pw), some (.ref pa), some fv, y11, y12, y13] ∧ Go P w K kn t H' H2 ∧ RS K H2 fv f ∧ PwP t.ps g f k (m + 1) ∧ Pw2 t i o k (m + 1) f)
          ⟨gv, g, _, rfl, Go.init hg.ok (Same.refl _), rs_tps hg.tp hg1, PwP.init hk hp2.1 hgn, by rw [egn]; exact Pw2.init hk⟩ ?_ ?_
        · rintro m σ H6 hm ⟨fv, f, y11, rfl, hg6, hf, hP, hX⟩
          have hq := hg.trans hg6
          refine ⟨_, rfl, _, rfl, _, rfl, _, rfl, _, rfl, nm, _, (k : Int), _, rfl, rfl, .inl (.inl (hq.sx _ _ hnk enm)), atI_nat eg, ?_⟩
          refine ⟨kn, .ref x0, fv, gv, t, f, g, rfl, hT5.tps hq.tp, hV, hg6.ok, hf, rs_tps hq.tp hg1, hP.bl, hgn.bl, fun i hi => by omega, fun z' r' H7 sx7 tp7 hK7 hr7 hA er7 => ?_⟩
          exact ⟨z', r', _, rfl, hg6.trans ⟨sx7, tp7, hK7⟩, hr7, hP.step hk hgn hA, by rw [er7, egn]; exact hX.step hV hk hP.bl (by rw [← egn]; exact hgn.bl)⟩
        · rintro σ H6 ⟨fv, f, y11, rfl, hg6, hf, hP, hX⟩
          rw [show (atR t.ps k - 1).toNat + 1 = (atR t.ps k).toNat by omega] at hX
          have hzf := hP.done (by omega)
          have hq6 := hg.trans hg6
          refine ⟨_, rfl, .inl ⟨rfl, _, .inl (.inl (hg6.sx _ _ hwk epw))⟩, _, rfl, _, rfl, _, rfl, _, rfl, _, rfl, kn, .ref x0, fv, .ref u, t, f, o, i, rfl, hT5.tps hq6.tp, hV, hg6.ok, hf, hP.bl, rs_tps hq6.tp hou5, hgo, by omega, fun z7 r7 H7 g7 hr7 hN7 hX7 => ?_⟩
          have hq7 := hq6.trans g7
          have h67 := hg6.trans g7
          have epw7 := h67.sx _ _ hwk epw
          have hpl : pvs.length = k := by rw [Paired.length hpw, hW.pl]
          have hcl : cvs.length = k := by rw [Paired.length hpa, hW.cl]
          refine ⟨pw, _, _, rfl, rfl, epw7, small2000 (by omega), ?_⟩
          have hq8 := hq7.put (ys := pvs ++ [z7]) npw epw7
          have tp8 : Tps K H7 (upd H7 pw (.lst (pvs ++ [z7]))) := Tps.x SameX.put epw7
          have epw8 : (upd H7 pw (.lst (pvs ++ [z7]))) pw = some (.lst (pvs ++ [z7])) := upd_same
          have epa8 : (upd H7 pw (.lst (pvs ++ [z7]))) pa = some (.lst cvs) := by rw [upd_ne hwa.symm]; exact h67.sx _ _ hak epa
          have hpw8 := paired_add (paired_via (fun _ _ => rs_tps (h67.tp.trans tp8)) hpw) (rs_tps tp8 hr7)
          have hpa8 := paired_via (fun _ _ => tup1_tps (h67.tp.trans tp8)) hpa
          generalize upd H7 pw (.lst (pvs ++ [z7])) = H8 at *
          refine ⟨Nat.zero_le _, fun ro nro => ?_⟩
          have hro : ro ≠ kn := fun e => by obtain ⟨ψ, e2⟩ := hq8.ok.ext; rw [e, e2] at nro; cases nro
          refine ⟨_, rfl, _, _, rfl, rfl, _, rfl, _, _, rfl, ⟨by omega, by omega, by omega, by omega⟩, ?_⟩
          refine for_range (lo := (k : Int) + 1) (n := ((t.ps.length : Int) - ((k : Int) + 1)).toNat) (fun m σ H9 => ∃ (rvs : List V) (M : List (List Int)) (y13 : Option V), σ = [some (.ref st), some (.ref x0), some (.int (t.ps.length : Int)), some (.ref kn), some (.int i), some (.int k), some (.ref u), some (.ref nm), some (.ref pw), some (.ref pa), some fv, y11, some (.ref ro), y13] ∧ Go P w K kn t H8 H9 ∧ H9 ro = some (.lst rvs) ∧ Paired (RS K H9) rvs M ∧ M.length = m ∧ (∀ r ∈ M, Bl t.ps r ∧ Zb r (k + 1)) ∧ ∀ m r, M[m]? = some r → Cj3 t i o k (k + 1 + m) r)
            ⟨[], [], _, rfl, Go.init hq8.ok (same_new nro), upd_same, .nil, rfl, (fun r h => by cases h), fun m r h => by cases h⟩ ?_ ?_
          · rintro m σ H9 hm ⟨rvs, M, y13, rfl, hg9, ero, hM, hMl, hMr, hMx⟩
            have hjn : k + 1 + m < t.ps.length := by omega
            rw [show (k : Int) + 1 + (m : Int) = ((k + 1 + m : Nat) : Int) by omega]
            obtain ⟨hv, h2, eh, hh1, hhn, ehn⟩ := hnv _ hjn
            have hq9 := hq8.trans hg9
            refine ⟨_, rfl, .inl ⟨rfl, _, .inl (.inl ero)⟩, _, rfl, _, rfl, _, rfl, _, rfl, _, rfl, _, rfl, nm, _, _, _, rfl, rfl, .inl (.inl (hq9.sx _ _ hnk enm)), atI_nat eh, _, rfl, _, rfl, nm, _, (k : Int), _, rfl, rfl, .inl (.inl (hq9.sx _ _ hnk enm)), atI_nat eg, ?_⟩
            refine ⟨kn, .ref x0, hv, gv, t, h2, g, rfl, hT5.tps hq9.tp, hV, hg9.ok, rs_tps hq9.tp hh1, rs_tps hq9.tp hg1, hhn.bl, hgn.bl, fun z10 xy v f10 H10 g10 hf10 hA1 hI hA2 hEx => ?_⟩
            have hq10 := hq9.trans g10
            refine ⟨_, rfl, _, rfl, kn, .ref x0, z10, .ref u, t, f10, o, i, rfl, hT5.tps hq10.tp, hV, g10.ok, hf10, hA2.bl, rs_tps hq10.tp hou5, hgo, by omega, fun z11 r11 H11 g11 hr11 hN11 hX11 => ?_⟩
            have h11 := g10.trans g11
            have ero11 := h11.sx _ _ hro ero
            have hrl : rvs.length = m := by rw [Paired.length hM, hMl]
            refine ⟨ro, _, _, rfl, rfl, ero11, small2000 (by omega), ?_⟩
            have tp12 : Tps K H11 (upd H11 ro (.lst (rvs ++ [z11]))) := Tps.x SameX.put ero11
            refine ⟨rvs ++ [z11], M ++ [r11], _, rfl, (hg9.trans h11).put nro ero11, upd_same, paired_add (paired_via (fun _ _ => rs_tps (h11.tp.trans tp12)) hM) (rs_tps tp12 hr11), by rw [List.length_append, hMl]; rfl, fun r hr => ?_, fun m2 r2 e2 => ?_⟩
            · rcases List.mem_append.mp hr with hr | hr
              · exact hMr r hr
              · rw [List.mem_singleton.mp hr]
                exact ⟨hN11.bl, hN11.zb (conj_zb (by omega) hjn hp2.1 hhn hgn hA1 hI hA2)⟩
            · rcases get_app e2 with e2 | ⟨e3, e4⟩
              · exact hMx m2 r2 e2
              · rw [e4, e3, hMl]
                obtain ⟨x1, x2, x3⟩ := hEx
                have c2 := cj2_of hV (i := i) (k := k) (j := k + 1 + m) (o := o) (v := v) hk hjn (by rw [← ehn]; exact hhn.bl) (by rw [← egn]; exact hgn.bl) hI.bl (by rw [← egn]; exact x1)
                rw [← ehn, ← egn, ← x2, ← x3] at c2
                exact c2.row hX11
          · rintro σ H9 ⟨rvs, M, y13, rfl, hg9, ero, hM, hMl, hMr, hMx⟩
            have hq9 := hq8.trans hg9
            have epa9 := hg9.sx _ _ hak epa8
            refine ⟨_, rfl, .inl ⟨rfl, _, .inl (.inl epa9)⟩, _, rfl, ro, _, rfl, .inl ⟨.inl (.inl ero), fun u2 nu2 => ?_⟩⟩
            have s10 := same_new (o := .tup rvs) nu2
            refine ⟨pa, _, _, rfl, rfl, s10 _ _ epa9, small2000 (by omega), ?_⟩
            have hq10 := (hq9.same s10).put (ys := cvs ++ [.ref u2]) npa5 (s10 _ _ epa9)
            have tp11 : Tps K (upd H9 u2 (.tup rvs)) (upd (upd H9 u2 (.tup rvs)) pa (.lst (cvs ++ [.ref u2]))) := Tps.x SameX.put (s10 _ _ epa9)
            have tp10 := (Tps.of (K := K) s10).trans tp11
            refine ⟨pvs ++ [z7], cvs ++ [.ref u2], pws ++ [r7], cjs ++ [M], _, _, _, _, _, rfl, hq10, by rw [upd_ne hwa]; exact s10 _ _ (hg9.sx _ _ hwk epw8), paired_via (fun _ _ => rs_tps (hg9.tp.trans tp10)) hpw8, upd_same, paired_add (paired_via (fun _ _ => tup1_tps (hg9.tp.trans tp10)) hpa8) ⟨u2, rvs, rfl, tp11 _ _ (.inl (.inl upd_same)), paired_via (fun _ _ => rs_tps tp10) hM⟩, hW.next ⟨hN7.bl, hN7.zb hzf⟩ (by omega) hMr (hX.row hX7) hMx⟩
      · rintro σ H' ⟨pvs, cvs, pws, cjs, y5, y10, y11, y12, y13, rfl, hg, epw, hpw, epa, hpa, hW⟩
        refine ⟨_, rfl, x0, _, 0, _, rfl, rfl, hg.tp _ _ hSx5, atI_nat (j := 0) rfl, _, rfl, pw, _, rfl, .inl ⟨.inl (.inl epw), fun u1 nu1 => ?_⟩⟩
        have s1' := same_new (o := .tup pvs) nu1
        refine ⟨_, rfl, pa, _, rfl, .inl ⟨.inl (.inl (s1' _ _ epa)), fun u2 nu2 => ⟨by show 3 ≤ sizeLine; decide, fun u3 nu3 => ?_⟩⟩⟩
        have s2 := same_new (o := .tup cvs) nu2
        have s3 := same_new (o := .tup [V.ref a, V.ref u1, V.ref u2]) nu3
        have s123 := (s1'.trans s2).trans s3
        refine q (.ref u3) ⟨t.ps, pws, cjs⟩ _ ?_ ?_ ⟨u3, a, u1, u2, cvs, rfl, .inl (.inl upd_same), Own.same_tup s123 (hg.tp _ _ hSa5), ⟨u1, pvs, rfl, Own.same_tup (s2.trans s3) (.inl (.inl upd_same)), paired_via (fun _ _ => rs_tps (Tps.of s123)) hpw⟩, Own.same_tup s3 (.inl (.inl upd_same)), paired_via (fun _ _ => tup1_tps (Tps.of s123)) hpa⟩ ⟨hV.pr, hV.n10, hV.sz, hW.pl, hW.pr, hW.cl, hW.cr⟩ rfl (rep_twist hV (by omega) hgo rfl hW.px fun k j hkj hj => ?_)
        rotate_right
        · obtain ⟨M, eM⟩ := get_some (l := cjs) (i := k) (by rw [hW.cl]; omega)
          obtain ⟨r, er⟩ := get_some (l := M) (i := j - k - 1) (by rw [(hW.cr k M eM).1]; omega)
          have := hW.cx k M eM _ r er
          rw [show k + 1 + (j - k - 1) = j by omega] at this
          have ec : cjW ⟨t.ps, pws, cjs⟩ k j = r := by unfold cjW; rw [getD_some eM, getD_some er]
          rw [ec]
          exact this
        · intro b o nb hb
          have hbk : b ≠ kn := ne_of_none hb nkn
          exact s123 _ _ (hg.sx _ _ hbk (sx5 _ _ nb hb))
        · obtain ⟨s8, t8, e8⟩ := hst5
          exact ⟨s8, t8, s123 _ _ (hg.sx _ _ hne e8)⟩
/-! ### made tables are valid -/
theorem bl_zero {ps : List Int} (h : ∀ p ∈ ps, 2 ≤ p) : Bl ps (zeroR ps.length) := ⟨by unfold zeroR; rw [List.length_replicate], fun k hk => by
  rw [atR_zero]
  have := h _ (atR_in hk)
  omega⟩
theorem zb_zero {n m : Nat} : Zb (zeroR n) m := fun _ _ => atR_zero
theorem bl_set {ps r : List Int} {k : Nat} {e : Int} (h : Bl ps r) (hk : k < ps.length) (h0 : 0 ≤ e) (h1 : e < atR ps k) : Bl ps (r.set k e) := ⟨by rw [List.length_set]; exact h.1, fun j hj => by
  rw [set_at (by rw [h.1]; exact hk)]
  split
  · rename_i c
    rw [c]
    exact ⟨h0, h1⟩
  · exact h.2 j hj⟩
theorem zb_set {r : List Int} {k m : Nat} {e : Int} (h : Zb r m) (hl : k < r.length) (hk : m ≤ k) : Zb (r.set k e) m := fun i hi => by
  rw [set_at hl, if_neg (by omega)]
  exact h i hi
def PwV (ps : List Int) (L : List (List Int)) : Prop := L.length = ps.length ∧ ∀ (i : Nat) (r : List Int), L[i]? = some r → Bl ps r ∧ Zb r (i + 1)
def CjV (ps : List Int) (C : List (List (List Int))) : Prop := C.length = ps.length ∧ ∀ (i : Nat) (M : List (List Int)), C[i]? = some M → M.length = ps.length - (i + 1) ∧ ∀ r ∈ M, Bl ps r ∧ Zb r (i + 1)
def OkP (ps : List Int) (x : PwE) : Prop := x.1 < x.2.1 ∧ x.2.1 < ps.length ∧ 0 ≤ x.2.2 ∧ x.2.2 < atR ps x.2.1
def OkC (ps : List Int) (x : CjE) : Prop := x.1 < x.2.1 ∧ x.2.1 < ps.length ∧ ∀ y ∈ x.2.2, x.1 < y.1 ∧ y.1 < ps.length ∧ 0 ≤ y.2 ∧ y.2 < atR ps y.1
theorem pwv_put {ps : List Int} {L : List (List Int)} {x : PwE} (h : PwV ps L) (hx : OkP ps x) : PwV ps (putR L x) := by
  unfold putR
  refine ⟨by rw [List.length_set]; exact h.1, fun i r e => ?_⟩
  have hl : x.1 < L.length := by rw [h.1]; have := hx.1; have := hx.2.1; omega
  rw [List.getElem?_set] at e
  by_cases c : x.1 = i
  · rw [if_pos c, if_pos hl] at e
    cases e
    have e1 : L[x.1]? = some L[x.1] := List.getElem?_eq_getElem hl
    obtain ⟨h1, h2⟩ := h.2 _ _ e1
    rw [getD_some e1]
    refine ⟨bl_set h1 hx.2.1 hx.2.2.1 hx.2.2.2, ?_⟩
    rw [← c]
    exact zb_set h2 (by rw [h1.1]; exact hx.2.1) hx.1
  · rw [if_neg c] at e
    exact h.2 i r e
theorem pwv_fold {ps : List Int} : ∀ {pws : List PwE} {L : List (List Int)}, (∀ x ∈ pws, OkP ps x) → PwV ps L → PwV ps (pws.foldl putR L)
  | [], _, _, h => h
  | x :: pws, L, hx, h => pwv_fold (pws := pws) (L := putR L x) (fun y hy => hx y (List.mem_cons_of_mem _ hy)) (pwv_put h (hx x (List.mem_cons_self ..)))
theorem pair_ok {ps : List Int} {i : Nat} : ∀ {prs : List (Nat × Int)} {r : List Int}, (∀ y ∈ prs, i < y.1 ∧ y.1 < ps.length ∧ 0 ≤ y.2 ∧ y.2 < atR ps y.1) → Bl ps r ∧ Zb r (i + 1) → Bl ps (prs.foldl (fun r y => r.set y.1 y.2) r) ∧ Zb (prs.foldl (fun r y => r.set y.1 y.2) r) (i + 1)
  | [], _, _, h => h
  | y :: prs, r, hy, h => by
    obtain ⟨a, b, c, d⟩ := hy y (List.mem_cons_self ..)
    exact pair_ok (prs := prs) (r := r.set y.1 y.2) (fun z hz => hy z (List.mem_cons_of_mem _ hz)) ⟨bl_set h.1 b c d, zb_set h.2 (by rw [h.1.1]; exact b) a⟩
theorem cjv_put {ps : List Int} {C : List (List (List Int))} {x : CjE} (h2 : ∀ p ∈ ps, 2 ≤ p) (h : CjV ps C) (hx : OkC ps x) : CjV ps (putC ps.length C x) := by
  unfold putC
  refine ⟨by rw [List.length_set]; exact h.1, fun i M e => ?_⟩
  have hl : x.1 < C.length := by rw [h.1]; have := hx.1; have := hx.2.1; omega
  rw [List.getElem?_set] at e
  by_cases c : x.1 = i
  · rw [if_pos c, if_pos hl] at e
    cases e
    have e1 : C[x.1]? = some C[x.1] := List.getElem?_eq_getElem hl
    obtain ⟨a1, a2⟩ := h.2 _ _ e1
    rw [getD_some e1]
    refine ⟨by rw [List.length_set, a1, c], fun r hr => ?_⟩
    rw [← c]
    rcases List.mem_or_eq_of_mem_set hr with hr | rfl
    · exact a2 r hr
    · exact pair_ok hx.2.2 ⟨bl_zero h2, zb_zero⟩
  · rw [if_neg c] at e
    exact h.2 i M e
theorem cjv_fold {ps : List Int} (h2 : ∀ p ∈ ps, 2 ≤ p) : ∀ {cjs : List CjE} {C : List (List (List Int))}, (∀ x ∈ cjs, OkC ps x) → CjV ps C → CjV ps (cjs.foldl (putC ps.length) C)
  | [], _, _, h => h
  | x :: cjs, C, hx, h => cjv_fold (cjs := cjs) (C := putC ps.length C x) h2 (fun y hy => hx y (List.mem_cons_of_mem _ hy)) (cjv_put h2 h (hx x (List.mem_cons_self ..)))
theorem unit_ok {ps : List Int} (h2 : ∀ p ∈ ps, 2 ≤ p) {i k : Nat} (hk : k < ps.length) (hi : i < k) : Bl ps (unitR ps.length k) ∧ Zb (unitR ps.length k) (i + 1) := by
  refine ⟨⟨by unfold unitR; rw [List.length_map, List.length_range], fun j hj => ?_⟩, fun j hj => ?_⟩
  · rw [unitR_at hj]
    have := h2 _ (atR_in hj)
    split <;> omega
  · rw [unitR_at (by omega), if_neg (by omega)]
theorem cjv_rows0 {ps : List Int} (h2 : ∀ p ∈ ps, 2 ≤ p) : CjV ps (rows0 ps.length) := by
  obtain ⟨h1, h3⟩ := rows0_sh ps.length
  refine ⟨h1, fun i M e => ⟨(h3 i M e).1, fun r hr => ?_⟩⟩
  have hi : i < ps.length := by
    have := (List.getElem?_eq_some_iff.mp e).1
    rw [h1] at this
    exact this
  unfold rows0 at e
  rw [List.getElem?_map, List.getElem?_range hi] at e
  cases e
  obtain ⟨m, hm, rfl⟩ := List.mem_map.mp hr
  have hm := List.mem_range.mp hm
  exact unit_ok h2 (by omega) (by omega)
theorem vd_made {ps : List Int} {pws : List PwE} {cjs : List CjE} (hp : ∀ p ∈ ps, p ∈ pr31) (hn : ps.length ≤ 10) (hs : prodN ps ≤ 1000) (h1 : ∀ x ∈ pws, OkP ps x) (hc : ∀ x ∈ cjs, OkC ps x) : Vd (madeT ps pws cjs) := by
  have h2 : ∀ p ∈ ps, 2 ≤ p := fun p h => (pr31_in (hp p h)).1
  have a : PwV ps (madeP ps.length pws) := pwv_fold h1 ⟨List.length_replicate, fun i r e => by
    rw [List.eq_of_mem_replicate (List.mem_of_getElem? e)]
    exact ⟨bl_zero h2, zb_zero⟩⟩
  have b : CjV ps (madeC ps.length cjs) := cjv_fold h2 hc (cjv_rows0 h2)
  exact ⟨hp, hn, hs, a.1, a.2, b.1, b.2⟩
theorem prodN_app : ∀ (a b : List Int), prodN (a ++ b) = prodN a * prodN b
  | [], b => by rw [List.nil_append, prodN, Nat.one_mul]
  | p :: a, b => by rw [List.cons_append, prodN, prodN, prodN_app a b, Nat.mul_assoc]
/-! ### _law_size -/
def spSize (K : PySem.W.Frag) : Sp := fun vs H Q _ => ∃ (z : V) (t : Tb), vs = [z] ∧ TbAt K H z t ∧ (∀ p ∈ t.ps, p ∈ pr31) ∧ prodN t.ps ≤ 1000 ∧ Q (.int (prodN t.ps : Int)) H
theorem ok_size (T : Txt K mg) : FnOk P w K mg base CX0 1 T.a__law_size T.d__law_size ["table"] (spSize K) := by
  refine T.F__law_size.ok sc__law_size (fun vs H Q E h => ?_) (fun cdv A outer s H vs Q E hr h => ?_)
  · obtain ⟨z, t, rfl, _⟩ := h
    rfl
  · obtain ⟨z, t, rfl, hT, hp, hs, q⟩ := h
    refine ⟨_, (pss_cons (ps_set (i := 1) sc__law_size.nd rfl (.inl rfl) pe_int) 
    (pss_cons (ps_for PassesOwn.never rfl (pi_tup (pe_ix ix_tup (pv 0) pe_int (fun _ _ => rfl))) (pg_name (i := 2) sc__law_size.nd rfl (.inl rfl)) 
      (pss_one (ps_set (i := 1) sc__law_size.nd rfl (.inl rfl) (pe_op op_mulW (pv 1) (pv 2))))) 
    (pss_one (ps_ret (pv 1))))), ?_⟩
    obtain ⟨x0, a, b, c, us, vs, rfl, hSx, hSa, hSb, hPw, hSc, hPc⟩ := hT.rd
    refine ⟨_, rfl, x0, _, 0, _, rfl, rfl, hSx, atI_nat (j := 0) rfl, a, rfl, ⟨_, hSa⟩, for_tup (xs := t.ps.map V.int) (fun i σ H' => H' = H ∧ ∃ y2, σ = [some (.ref x0), some (.int (prodN (t.ps.take i) : Int)), y2])
      ⟨rfl, none, rfl⟩ (fun i σ H' _ ⟨e, _⟩ => by rw [e]; exact hSa) ?_ ?_⟩
    · rintro i x σ H' hi ⟨rfl, y2, rfl⟩
      rw [List.getElem?_map] at hi
      cases hx : t.ps[i]? with
      | none => rw [hx] at hi; cases hi
      | some p =>
        rw [hx] at hi
        cases hi
        have hp2 := pr31_in (hp p (List.mem_of_getElem? hx))
        have hk : prodN (t.ps.take i) ≤ prodN t.ps := by
          have e := prodN_app (t.ps.take i) (t.ps.drop i)
          rw [List.take_append_drop] at e
          rw [e]
          exact Nat.le_mul_of_pos_right _ (prodN_pos fun p h => (pr31_in (hp p (List.mem_of_mem_drop h))).1)
        refine ⟨_, rfl, _, rfl, _, _, rfl, rfl, wide_mul (a := 10) (b := 5 + 1) (by omega) (by omega) (by decide) (by decide) (by decide), rfl, some (.int p), ?_⟩
        rw [List.take_add_one, hx, prodN_app]
        show [_, _, _] = [_, some (V.int ((prodN (t.ps.take i) * (p.toNat * 1) : Nat) : Int)), _]
        rw [Nat.mul_one, Int.natCast_mul, Int.toNat_of_nonneg (by omega)]
    · rintro σ H' ⟨rfl, y2, rfl⟩
      rw [List.length_map, List.take_length]
      exact ⟨_, rfl, q⟩
/-! ### _law_steep, _law_flat -/
instance {ps : List Int} {x : PwE} : Decidable (OkP ps x) := by unfold OkP; infer_instance
instance {ps : List Int} {x : CjE} : Decidable (OkC ps x) := by unfold OkC; infer_instance
def VB (ps : List Int) (pws : List PwE) (cjs : List CjE) : Prop := (∀ p ∈ ps, p ∈ pr31) ∧ ps.length ≤ 4 ∧ prodN ps ≤ 125 ∧ (∀ x ∈ pws, OkP ps x) ∧ (∀ x ∈ cjs, OkC ps x) ∧ (prodN ps ≤ 48 → chkT (madeT ps pws cjs) = true)
instance {ps : List Int} {pws : List PwE} {cjs : List CjE} : Decidable (VB ps pws cjs) := by unfold VB; infer_instance
theorem VB.vd {ps : List Int} {pws : List PwE} {cjs : List CjE} (h : VB ps pws cjs) : Vd (madeT ps pws cjs) := vd_made h.1 (by have := h.2.1; omega) (by have := h.2.2.1; omega) h.2.2.2.1 h.2.2.2.2.1
/-- a table of few elements -/
structure Sm (t : Tb) : Prop where
  vd : Vd t
  len : t.ps.length ≤ 4
  sz : prodN t.ps ≤ 125
  rep : prodN t.ps ≤ 48 → RepT t
theorem VB.sm {ps : List Int} {pws : List PwE} {cjs : List CjE} (h : VB ps pws cjs) : Sm (madeT ps pws cjs) := ⟨h.vd, h.2.1, h.2.2.1, fun z => rep_chk h.vd (h.2.2.2.2.2 z)⟩
theorem has_ints {H : Hp} {v : V} {ps : List Int} (h : Has K H v (.lst (ps.map Tr.int))) : ∃ a, v = .ref a ∧ H a = some (.lst (ps.map V.int)) := by
  obtain ⟨a, us, rfl, ea, hul, hug⟩ := has_lst h
  have e : us = ps.map V.int := by
    apply List.ext_getElem?
    intro i
    rw [List.getElem?_map]
    rw [List.length_map] at hul
    by_cases hi : i < ps.length
    · have e1 : us[i]? = some us[i] := List.getElem?_eq_getElem (by omega)
      have e2 : ps[i]? = some ps[i] := List.getElem?_eq_getElem hi
      have := has_int (hug i _ (Tr.int ps[i]) e1 (by rw [List.getElem?_map, e2]; rfl))
      rw [e1, e2, this]
      rfl
    · rw [List.getElem?_eq_none (by omega), List.getElem?_eq_none (by omega)]
      rfl
  exact ⟨a, rfl, by rw [← e]; exact ea⟩
theorem made_use {u v z : V} {H : Hp} {Q : VK} {E : XK} {ps : List Int} {pws : List PwE} {cjs : List CjE} (hu : Has K H u (.lst (ps.map Tr.int))) (hv : Has K H v (.lst (pws.map trP))) (hz : Has K H z (.lst (cjs.map trC))) (h : VB ps pws cjs)
    (q : ∀ z H', Same H H' → TbAt K H' z (madeT ps pws cjs) → Q z H') : spMade K [u, v, z] H Q E := by
  obtain ⟨a, rfl, ea⟩ := has_ints hu
  refine ⟨a, v, z, ps, pws, cjs, rfl, .inl (.inl ea), hv, hz, by have := h.2.1; omega, fun x hx => ?_, fun x hx => ?_, q⟩
  · have := h.2.2.2.1 x hx
    exact ⟨Nat.lt_trans this.1 this.2.1, this.2.1⟩
  · have := h.2.2.2.2.1 x hx
    exact ⟨this.1, this.2.1, fun y hy => (this.2.2 y hy).2.1⟩
theorem made_call {args : TA} {σ : L2.St} {H : Hp} {Q : VK} {ps : List Int} {pws : List PwE} {cjs : List CjE} (hE : EvDs K args σ [.lst (ps.map Tr.int), .lst (pws.map trP), .lst (cjs.map trC)]) (h : VB ps pws cjs)
    (q : ∀ z H', Same H H' → TbAt K H' z (madeT ps pws cjs) → Q z H') : tCall (spMade K) [] E0 args σ H Q := hE H _ fun vs H1 s1 hs => by
  obtain ⟨hl, hg⟩ := hs
  match vs, hl with
  | [u, v, z], _ => exact made_use (hg 0 _ _ rfl rfl) (hg 1 _ _ rfl rfl) (hg 2 _ _ rfl rfl) h fun z H' s k => q z H' (s1.trans s) k
def spSteep (K : PySem.W.Frag) : Sp := fun vs H Q _ => ∃ (st : Addr) (pk : Int), vs = [.ref st, .int pk] ∧ StA H st ∧ ∀ z t H', SameX st H H' → StA H' st → TbAt K H' z t → Sm t → Q z H'
theorem ok_steep (T : Txt K mg) : FnOk P w K mg base CX0 2 T.a__law_steep T.d__law_steep ["state", "pick"] (spSteep K) := by
  have G__law_take : FnOk P w K mg base CX0 1 T.a__law_take T.d__law_take ["state", "m"] spTake := ok_take T
  have G__law_made : FnOk P w K mg base CX0 1 T.a__law_made T.d__law_made ["primes", "powers", "conjugates"] (spMade K) := ok_made T
  refine T.F__law_steep.ok sc__law_steep (fun vs H Q E h => ?_) (fun cdv A outer s H vs Q E hr h => ?_)
  · obtain ⟨st, pk, rfl, _⟩ := h
    rfl
  · obtain ⟨st, pk, rfl, ⟨s0, t0, est⟩, q⟩ := h
    refine ⟨_, (pss_cons (ps_par (i := 2) (j := 3) (by rfl) sc__law_steep.nd rfl rfl (by decide) rfl rfl (pa_cons (pe_call G__law_take (hr.mono (by decide)) (by rfl) T.g__law_take T.F__law_take.kp T.b__law_take .nil pass0 (pa_cons (pv 0) (pa_cons pe_int pa_nil))) (pa_cons (pe_call G__law_take (hr.mono (by decide)) (by rfl) T.g__law_take T.F__law_take.kp T.b__law_take .nil pass0 (pa_cons (pv 0) (pa_cons pe_int pa_nil))) pa_nil)) (by rfl)) 
    (pss_cons (ps_if (pt_cmpR op_eq (pv 1) pe_int (nomark _)) 
      (pss_one (ps_ret (pe_call G__law_made (hr.mono (by decide)) (by rfl) T.g__law_made T.F__law_made.kp T.b__law_made .nil pass0 (pa_cons (pe_lst (pa_cons pe_int (pa_cons pe_int (pa_cons pe_int pa_nil)))) (pa_cons (pe_lst (pa_cons (pe_tup (pa_cons pe_int (pa_cons pe_int (pa_cons (pv 2) pa_nil)))) (pa_cons (pe_tup (pa_cons pe_int (pa_cons pe_int (pa_cons (pv 3) pa_nil)))) pa_nil))) (pa_cons (pe_lst (pa_cons (pe_tup (pa_cons pe_int (pa_cons pe_int (pa_cons (pe_lst (pa_cons (pe_tup (pa_cons pe_int (pa_cons pe_int pa_nil))) (pa_cons (pe_tup (pa_cons pe_int (pa_cons pe_int pa_nil))) pa_nil))) pa_nil)))) pa_nil)) pa_nil)))))) pss_nil) 
    (pss_cons (ps_if (pt_cmpR op_eq (pv 1) pe_int (nomark _)) 
      (pss_one (ps_ret (pe_call G__law_made (hr.mono (by decide)) (by rfl) T.g__law_made T.F__law_made.kp T.b__law_made .nil pass0 (pa_cons (pe_lst (pa_cons pe_int (pa_cons pe_int (pa_cons pe_int pa_nil)))) (pa_cons (pe_lst (pa_cons (pe_tup (pa_cons pe_int (pa_cons pe_int (pa_cons (pv 2) pa_nil)))) (pa_cons (pe_tup (pa_cons pe_int (pa_cons pe_int (pa_cons (pv 3) pa_nil)))) pa_nil))) (pa_cons (pe_lst (pa_cons (pe_tup (pa_cons pe_int (pa_cons pe_int (pa_cons (pe_lst (pa_cons (pe_tup (pa_cons pe_int (pa_cons pe_int pa_nil))) (pa_cons (pe_tup (pa_cons pe_int (pa_cons pe_int pa_nil))) pa_nil))) pa_nil)))) pa_nil)) pa_nil)))))) pss_nil) 
    (pss_cons (ps_if (pt_cmpR op_eq (pv 1) pe_int (nomark _)) 
      (pss_one (ps_ret (pe_call G__law_made (hr.mono (by decide)) (by rfl) T.g__law_made T.F__law_made.kp T.b__law_made .nil pass0 (pa_cons (pe_lst (pa_cons pe_int (pa_cons pe_int (pa_cons pe_int pa_nil)))) (pa_cons (pe_lst pa_nil) (pa_cons (pe_lst (pa_cons (pe_tup (pa_cons pe_int (pa_cons pe_int (pa_cons (pe_lst (pa_cons (pe_tup (pa_cons pe_int (pa_cons pe_int pa_nil))) pa_nil)) pa_nil)))) (pa_cons (pe_tup (pa_cons pe_int (pa_cons pe_int (pa_cons (pe_lst (pa_cons (pe_tup (pa_cons pe_int (pa_cons pe_int pa_nil))) (pa_cons (pe_tup (pa_cons pe_int (pa_cons pe_int pa_nil))) pa_nil))) pa_nil)))) pa_nil))) pa_nil)))))) pss_nil) 
    (pss_cons (ps_if (pt_cmpR op_eq (pv 1) pe_int (nomark _)) 
      (pss_one (ps_ret (pe_call G__law_made (hr.mono (by decide)) (by rfl) T.g__law_made T.F__law_made.kp T.b__law_made .nil pass0 (pa_cons (pe_lst (pa_cons pe_int (pa_cons pe_int (pa_cons pe_int (pa_cons pe_int pa_nil))))) (pa_cons (pe_lst pa_nil) (pa_cons (pe_lst (pa_cons (pe_tup (pa_cons pe_int (pa_cons pe_int (pa_cons (pe_lst (pa_cons (pe_tup (pa_cons pe_int (pa_cons pe_int pa_nil))) pa_nil)) pa_nil)))) (pa_cons (pe_tup (pa_cons pe_int (pa_cons pe_int (pa_cons (pe_lst (pa_cons (pe_tup (pa_cons pe_int (pa_cons pe_int pa_nil))) pa_nil)) pa_nil)))) (pa_cons (pe_tup (pa_cons pe_int (pa_cons pe_int (pa_cons (pe_lst (pa_cons (pe_tup (pa_cons pe_int (pa_cons pe_int pa_nil))) pa_nil)) pa_nil)))) (pa_cons (pe_tup (pa_cons pe_int (pa_cons pe_int (pa_cons (pe_lst (pa_cons (pe_tup (pa_cons pe_int (pa_cons pe_int pa_nil))) pa_nil)) pa_nil)))) (pa_cons (pe_tup (pa_cons pe_int (pa_cons pe_int (pa_cons (pe_lst (pa_cons (pe_tup (pa_cons pe_int (pa_cons pe_int pa_nil))) (pa_cons (pe_tup (pa_cons pe_int (pa_cons pe_int pa_nil))) pa_nil))) pa_nil)))) pa_nil)))))) pa_nil)))))) pss_nil) 
    (pss_cons (ps_if (pt_cmpR op_eq (pv 1) pe_int (nomark _)) 
      (pss_one (ps_ret (pe_call G__law_made (hr.mono (by decide)) (by rfl) T.g__law_made T.F__law_made.kp T.b__law_made .nil pass0 (pa_cons (pe_lst (pa_cons pe_int (pa_cons pe_int (pa_cons pe_int pa_nil)))) (pa_cons (pe_lst (pa_cons (pe_tup (pa_cons pe_int (pa_cons pe_int (pa_cons pe_int pa_nil)))) pa_nil)) (pa_cons (pe_lst (pa_cons (pe_tup (pa_cons pe_int (pa_cons pe_int (pa_cons (pe_lst (pa_cons (pe_tup (pa_cons pe_int (pa_cons pe_int pa_nil))) pa_nil)) pa_nil)))) (pa_cons (pe_tup (pa_cons pe_int (pa_cons pe_int (pa_cons (pe_lst (pa_cons (pe_tup (pa_cons pe_int (pa_cons pe_int pa_nil))) pa_nil)) pa_nil)))) pa_nil))) pa_nil)))))) pss_nil) 
    (pss_cons (ps_if (pt_cmpR op_eq (pv 1) pe_int (nomark _)) 
      (pss_one (ps_ret (pe_call G__law_made (hr.mono (by decide)) (by rfl) T.g__law_made T.F__law_made.kp T.b__law_made .nil pass0 (pa_cons (pe_lst (pa_cons pe_int (pa_cons pe_int (pa_cons pe_int (pa_cons pe_int pa_nil))))) (pa_cons (pe_lst pa_nil) (pa_cons (pe_lst (pa_cons (pe_tup (pa_cons pe_int (pa_cons pe_int (pa_cons (pe_lst (pa_cons (pe_tup (pa_cons pe_int (pa_cons pe_int pa_nil))) pa_nil)) pa_nil)))) (pa_cons (pe_tup (pa_cons pe_int (pa_cons pe_int (pa_cons (pe_lst (pa_cons (pe_tup (pa_cons pe_int (pa_cons pe_int pa_nil))) pa_nil)) pa_nil)))) (pa_cons (pe_tup (pa_cons pe_int (pa_cons pe_int (pa_cons (pe_lst (pa_cons (pe_tup (pa_cons pe_int (pa_cons pe_int pa_nil))) pa_nil)) pa_nil)))) pa_nil)))) pa_nil)))))) pss_nil) 
    (pss_cons (ps_if (pt_cmpR op_eq (pv 1) pe_int (nomark _)) 
      (pss_one (ps_ret (pe_call G__law_made (hr.mono (by decide)) (by rfl) T.g__law_made T.F__law_made.kp T.b__law_made .nil pass0 (pa_cons (pe_lst (pa_cons pe_int (pa_cons pe_int (pa_cons pe_int pa_nil)))) (pa_cons (pe_lst pa_nil) (pa_cons (pe_lst (pa_cons (pe_tup (pa_cons pe_int (pa_cons pe_int (pa_cons (pe_lst (pa_cons (pe_tup (pa_cons pe_int (pa_cons pe_int pa_nil))) pa_nil)) pa_nil)))) (pa_cons (pe_tup (pa_cons pe_int (pa_cons pe_int (pa_cons (pe_lst (pa_cons (pe_tup (pa_cons pe_int (pa_cons pe_int pa_nil))) pa_nil)) pa_nil)))) pa_nil))) pa_nil)))))) pss_nil) 
    (pss_one (ps_ret (pe_call G__law_made (hr.mono (by decide)) (by rfl) T.g__law_made T.F__law_made.kp T.b__law_made .nil pass0 (pa_cons (pe_lst (pa_cons pe_int (pa_cons pe_int (pa_cons pe_int (pa_cons pe_int pa_nil))))) (pa_cons (pe_lst (pa_cons (pe_tup (pa_cons pe_int (pa_cons pe_int (pa_cons pe_int pa_nil)))) (pa_cons (pe_tup (pa_cons pe_int (pa_cons pe_int (pa_cons pe_int pa_nil)))) pa_nil))) (pa_cons (pe_lst (pa_cons (pe_tup (pa_cons pe_int (pa_cons pe_int (pa_cons (pe_lst (pa_cons (pe_tup (pa_cons pe_int (pa_cons pe_int pa_nil))) pa_nil)) pa_nil)))) (pa_cons (pe_tup (pa_cons pe_int (pa_cons pe_int (pa_cons (pe_lst (pa_cons (pe_tup (pa_cons pe_int (pa_cons pe_int pa_nil))) (pa_cons (pe_tup (pa_cons pe_int (pa_cons pe_int pa_nil))) pa_nil))) pa_nil)))) (pa_cons (pe_tup (pa_cons pe_int (pa_cons pe_int (pa_cons (pe_lst (pa_cons (pe_tup (pa_cons pe_int (pa_cons pe_int pa_nil))) (pa_cons (pe_tup (pa_cons pe_int (pa_cons pe_int pa_nil))) pa_nil))) pa_nil)))) pa_nil)))) pa_nil)))))))))))))), ?_⟩
    refine ⟨_, rfl, st, _, s0, t0, rfl, by decide, by decide, est, fun a s1 t1 ha0 ha1 => ?_⟩
    refine ⟨_, rfl, st, _, s1, t1, rfl, by decide, by decide, upd_same, fun b s2 t2 hb0 hb1 => ?_⟩
    have sx : SameX st H (upd (upd H st (.lst [.int s1, .int t1])) st (.lst [.int s2, .int t2])) := SameX.put.trans SameX.put
    have hst : StA (upd (upd H st (.lst [.int s1, .int t1])) st (.lst [.int s2, .int t2])) st := ⟨s2, t2, upd_same⟩
    generalize upd (upd H st (.lst [.int s1, .int t1])) st (.lst [.int s2, .int t2]) = H1 at *
    have q : ∀ z ps pws cjs H', Same H1 H' → VB ps pws cjs → TbAt K H' z (madeT ps pws cjs) → Q z H' := fun z ps pws cjs H' s hb ht => q z _ H' (sx.trans (Same.x s)) (let ⟨a, b, e⟩ := hst; ⟨a, b, s _ _ e⟩) ht hb.sm
    have ha : a = 0 ∨ a = 1 := by omega
    have hb : b = 0 ∨ b = 1 := by omega
    refine ⟨_, _, rfl, _, rfl, rfl, _, rfl, ite2 (fun c => ?_) (fun c => ?_)⟩
    · have hv : VB [2, 2, 2] [(0, 2, a), (1, 2, b)] [(0, 1, [(1, 1), (2, 1)])] := by rcases ha with rfl | rfl <;> rcases hb with rfl | rfl <;> decide +kernel
      exact made_call (by (repeat' (first | exact ed_int | exact ed_nil | exact ed_var rfl | refine ed_cons ?_ ?_ | refine ed_tup ?_ (Nat.le_of_ble_eq_true rfl) | refine ed_lst ?_ (Nat.le_of_ble_eq_true rfl)))) hv fun z H' s h => q z _ _ _ H' s hv h
    refine ⟨_, rfl, rfl, _, rfl, ite2 (fun c => ?_) (fun c => ?_)⟩
    · have hv : VB [3, 3, 3] [(0, 2, a), (1, 2, b)] [(0, 1, [(1, 1), (2, 1)])] := by rcases ha with rfl | rfl <;> rcases hb with rfl | rfl <;> decide +kernel
      exact made_call (by (repeat' (first | exact ed_int | exact ed_nil | exact ed_var rfl | refine ed_cons ?_ ?_ | refine ed_tup ?_ (Nat.le_of_ble_eq_true rfl) | refine ed_lst ?_ (Nat.le_of_ble_eq_true rfl)))) hv fun z H' s h => q z _ _ _ H' s hv h
    refine ⟨_, rfl, rfl, _, rfl, ite2 (fun c => ?_) (fun c => ?_)⟩
    · have hv : VB [3, 2, 2] [] [(0, 1, [(2, 1)]), (0, 2, [(1, 1), (2, 1)])] := by decide +kernel
      exact made_call (by (repeat' (first | exact ed_int | exact ed_nil | exact ed_var rfl | refine ed_cons ?_ ?_ | refine ed_tup ?_ (Nat.le_of_ble_eq_true rfl) | refine ed_lst ?_ (Nat.le_of_ble_eq_true rfl)))) hv fun z H' s h => q z _ _ _ H' s hv h
    refine ⟨_, rfl, rfl, _, rfl, ite2 (fun c => ?_) (fun c => ?_)⟩
    · have hv : VB [2, 3, 2, 2] [] [(0, 1, [(1, 2)]), (0, 2, [(3, 1)]), (0, 3, [(2, 1)]), (1, 2, [(3, 1)]), (1, 3, [(2, 1), (3, 1)])] := by decide +kernel
      exact made_call (by (repeat' (first | exact ed_int | exact ed_nil | exact ed_var rfl | refine ed_cons ?_ ?_ | refine ed_tup ?_ (Nat.le_of_ble_eq_true rfl) | refine ed_lst ?_ (Nat.le_of_ble_eq_true rfl)))) hv fun z H' s h => q z _ _ _ H' s hv h
    refine ⟨_, rfl, rfl, _, rfl, ite2 (fun c => ?_) (fun c => ?_)⟩
    · have hv : VB [2, 2, 5] [(0, 1, 1)] [(0, 2, [(2, 2)]), (1, 2, [(2, 4)])] := by decide +kernel
      exact made_call (by (repeat' (first | exact ed_int | exact ed_nil | exact ed_var rfl | refine ed_cons ?_ ?_ | refine ed_tup ?_ (Nat.le_of_ble_eq_true rfl) | refine ed_lst ?_ (Nat.le_of_ble_eq_true rfl)))) hv fun z H' s h => q z _ _ _ H' s hv h
    refine ⟨_, rfl, rfl, _, rfl, ite2 (fun c => ?_) (fun c => ?_)⟩
    · have hv : VB [3, 2, 2, 2] [] [(0, 1, [(2, 1)]), (0, 2, [(3, 1)]), (0, 3, [(1, 1)])] := by decide +kernel
      exact made_call (by (repeat' (first | exact ed_int | exact ed_nil | exact ed_var rfl | refine ed_cons ?_ ?_ | refine ed_tup ?_ (Nat.le_of_ble_eq_true rfl) | refine ed_lst ?_ (Nat.le_of_ble_eq_true rfl)))) hv fun z H' s h => q z _ _ _ H' s hv h
    refine ⟨_, rfl, rfl, _, rfl, ite2 (fun c => ?_) (fun c => ?_)⟩
    · have hv : VB [2, 3, 3] [] [(0, 1, [(2, 1)]), (0, 2, [(1, 1)])] := by decide +kernel
      exact made_call (by (repeat' (first | exact ed_int | exact ed_nil | exact ed_var rfl | refine ed_cons ?_ ?_ | refine ed_tup ?_ (Nat.le_of_ble_eq_true rfl) | refine ed_lst ?_ (Nat.le_of_ble_eq_true rfl)))) hv fun z H' s h => q z _ _ _ H' s hv h
    · have hv : VB [3, 2, 2, 2] [(1, 3, 1), (2, 3, 1)] [(0, 1, [(2, 1)]), (0, 2, [(1, 1), (2, 1)]), (1, 2, [(2, 1), (3, 1)])] := by decide +kernel
      unfold tNext tRet
      dsimp only
      exact made_call (by (repeat' (first | exact ed_int | exact ed_nil | exact ed_var rfl | refine ed_cons ?_ ?_ | refine ed_tup ?_ (Nat.le_of_ble_eq_true rfl) | refine ed_lst ?_ (Nat.le_of_ble_eq_true rfl)))) hv fun z H' s h => q z _ _ _ H' s hv h
/-! ### _law_flat -/
theorem has_of_ints {H : Hp} {a : Addr} {rt : List Int} (h : H a = some (.lst (rt.map V.int))) : Has K H (.ref a) (.lst (rt.map Tr.int)) := .lst h (by rw [List.length_map, List.length_map]) fun i u t h1 h2 => by
  rw [List.getElem?_map] at h1 h2
  cases hx : rt[i]? with
  | none => rw [hx] at h1; cases h1
  | some x =>
    rw [hx] at h1 h2
    cases h1
    cases h2
    exact .int x
theorem has_nil {H : Hp} {a : Addr} (h : H a = some (.lst [])) : Has K H (.ref a) (.lst []) := .lst h rfl fun i u t h1 h2 => by simp at h1
theorem prod5 : ∀ {rt : List Int}, (∀ p ∈ rt, p ≤ 5) → prodN rt ≤ 5 ^ rt.length
  | [], _ => Nat.le_refl _
  | p :: rt, h => by
    have h1 := h p (List.mem_cons_self ..)
    have h2 := prod5 (rt := rt) fun q hq => h q (List.mem_cons_of_mem _ hq)
    rw [prodN, List.length_cons, Nat.pow_succ, Nat.mul_comm (5 ^ rt.length)]
    exact Nat.mul_le_mul (by omega) h2
theorem mem_at {rt : List Int} {p : Int} (h : p ∈ rt) : ∃ i, i < rt.length ∧ atR rt i = p := by
  obtain ⟨i, hi, e⟩ := List.mem_iff_getElem.mp h
  exact ⟨i, hi, by have := atR_get hi; rw [List.getElem?_eq_getElem hi, e] at this; exact (Option.some.inj this).symm⟩
theorem EvD.use {te : TE} {σ : L2.St} {t : Tr} {H : Hp} {Q : VK} (h : EvD K te σ t) (q : ∀ v H', Same H H' → Has K H' v t → Q v H') : te σ H Q := h H Q q
def R3 (K : PySem.W.Frag) : Hp → V → Nat → Prop := fun H v i => ∃ t, v = .ref t ∧ SqT K H t [.int (i : Int), .int ((i : Int) + 1), .int 1]
theorem st_R3 : Stable (R3 K) := ⟨fun e ⟨t, a, b⟩ => ⟨t, a, Own.same_tup e b⟩, fun e ⟨t, a, b⟩ => ⟨t, a, Tps.x SameX.put e _ _ b⟩⟩
theorem has_R3 {H : Hp} {a : Addr} {vs : List V} {l : List Nat} (h : H a = some (.lst vs)) (hp : Paired (R3 K H) vs l) : Has K H (.ref a) (.lst ((l.map fun i => ((i, i + 1, 1) : PwE)).map trP)) := .lst h (by rw [Paired.length hp, List.length_map, List.length_map]) fun i u t h1 h2 => by
  obtain ⟨x, ex, t0, rfl, hS⟩ := paired_get hp h1
  rw [List.getElem?_map, List.getElem?_map, ex] at h2
  cases h2
  exact .tup hS rfl fun j u t h3 h4 => by
    match j with
    | 0 => cases h3; cases h4; exact .int _
    | 1 => cases h3; cases h4; exact .int _
    | 2 => cases h3; cases h4; exact .int _
    | j + 3 => simp at h3
def fl3 : List (List Int) := [] :: ([2, 3, 5].flatMap fun a : Int => [a] :: [2, 3, 5].flatMap fun b : Int => [a, b] :: [2, 3, 5].map fun c : Int => [a, b, c])
theorem chk_fl3 : ∀ rt ∈ fl3, prodN rt ≤ 48 → chkT (madeT rt [] []) = true := by decide +kernel
theorem mem_fl3 : ∀ {rt : List Int}, rt.length ≤ 3 → (∀ p ∈ rt, p = 2 ∨ p = 3 ∨ p = 5) → rt ∈ fl3
  | [], _, _ => List.mem_cons_self
  | [a], _, h => by
    have ha := h a (by simp)
    rcases ha with rfl | rfl | rfl <;> decide
  | [a, b], _, h => by
    have ha := h a (by simp)
    have hb := h b (by simp)
    rcases ha with rfl | rfl | rfl <;> rcases hb with rfl | rfl | rfl <;> decide
  | [a, b, c], _, h => by
    have ha := h a (by simp)
    have hb := h b (by simp)
    have hc := h c (by simp)
    rcases ha with rfl | rfl | rfl <;> rcases hb with rfl | rfl | rfl <;> rcases hc with rfl | rfl | rfl <;> decide
  | _ :: _ :: _ :: _ :: _, h, _ => absurd h (by simp)
def spFlat (K : PySem.W.Frag) : Sp := fun vs H Q _ => ∃ (st : Addr), vs = [.ref st] ∧ StA H st ∧ ∀ z t H', SameX st H H' → StA H' st → TbAt K H' z t → Sm t → Q z H'
theorem ok_flat (T : Txt K mg) : FnOk P w K mg base CX0 2 T.a__law_flat T.d__law_flat ["state"] (spFlat K) := by
  have G__law_take : FnOk P w K mg base CX0 1 T.a__law_take T.d__law_take ["state", "m"] spTake := ok_take T
  have G__law_made : FnOk P w K mg base CX0 1 T.a__law_made T.d__law_made ["primes", "powers", "conjugates"] (spMade K) := ok_made T
  refine T.F__law_flat.ok sc__law_flat (fun vs H Q E h => ?_) (fun cdv A outer s H vs Q E hr h => ?_)
  · obtain ⟨st, rfl, _⟩ := h
    rfl
  · obtain ⟨st, rfl, ⟨s0, t0, est⟩, q⟩ := h
    refine ⟨_, (pss_cons (ps_set (i := 1) sc__law_flat.nd rfl (.inl rfl) (pe_call G__law_take (hr.mono (by decide)) (by rfl) T.g__law_take T.F__law_take.kp T.b__law_take .nil pass0 (pa_cons (pv 0) (pa_cons pe_int pa_nil)))) 
    (pss_cons (ps_if (pt_cmpR op_eq (pv 1) pe_int (nomark _)) 
      (pss_one (ps_ret (pe_call G__law_made (hr.mono (by decide)) (by rfl) T.g__law_made T.F__law_made.kp T.b__law_made .nil pass0 (pa_cons (pe_lc (own := [("k", 2)]) rfl sc__law_flat.nd (pi_range1 (by rfl) T.n_range (pa_cons (pe_call G__law_take (hr.mono (by decide)) (by rfl) T.g__law_take T.F__law_take.kp T.b__law_take .nil pass0 (pa_cons (pv 0) (pa_cons pe_int pa_nil))) pa_nil)) (blkOk_by (N := N__law_flat) (sc := defScope s__law_flat) (own := [("k", 2)]) (by decide +kernel)) (fun _ _ _ _ _ => (pg_name (i := 2) sc__law_flat.nd rfl (.inl rfl))) (fun _ _ _ _ _ => pts_nil) (fun _ _ _ _ _ => (pe_ix (show IxR _ (rIxL K) from ix_list) (pe_lst (pa_cons pe_int (pa_cons pe_int (pa_cons pe_int (pa_cons pe_int pa_nil))))) (pe_call G__law_take (hr.mono (by decide)) (by rfl) T.g__law_take T.F__law_take.kp T.b__law_take .nil pass0 (pa_cons (pv 0) (pa_cons pe_int pa_nil))) (fun _ _ => rfl)))) (pa_cons (pe_lst pa_nil) (pa_cons (pe_lst pa_nil) pa_nil)))))) pss_nil) 
    (pss_cons (ps_if (pt_cmpR op_eq (pv 1) pe_int (nomark _)) 
      (pss_cons (ps_set (i := 3) sc__law_flat.nd rfl (.inr rfl) (pe_op op_add pe_int (pe_call G__law_take (hr.mono (by decide)) (by rfl) T.g__law_take T.F__law_take.kp T.b__law_take .nil pass0 (pa_cons (pv 0) (pa_cons pe_int pa_nil))))) 
      (pss_cons (ps_set (i := 2) sc__law_flat.nd rfl (.inl rfl) (pe_op op_add pe_int (pe_call G__law_take (hr.mono (by decide)) (by rfl) T.g__law_take T.F__law_take.kp T.b__law_take .nil pass0 (pa_cons (pv 0) (pa_cons (pe_op op_sub pe_int (pv 3)) pa_nil))))) 
      (pss_one (ps_ret (pe_call G__law_made (hr.mono (by decide)) (by rfl) T.g__law_made T.F__law_made.kp T.b__law_made .nil pass0 (pa_cons (pe_lc (own := [("i", 6)]) rfl sc__law_flat.nd (pi_range1 (by rfl) T.n_range (pa_cons (pv 2) pa_nil)) (blkOk_by (N := N__law_flat) (sc := defScope s__law_flat) (own := [("i", 6)]) (by decide +kernel)) (fun _ _ _ _ _ => (pg_name (i := 6) sc__law_flat.nd rfl (.inl rfl))) (fun _ _ _ _ _ => pts_nil) (fun _ _ _ _ _ => (pv 3))) (pa_cons (pe_lc (own := [("i", 6)]) rfl sc__law_flat.nd (pi_range1 (by rfl) T.n_range (pa_cons (pe_op op_sub (pv 2) pe_int) pa_nil)) (blkOk_by (N := N__law_flat) (sc := defScope s__law_flat) (own := [("i", 6)]) (by decide +kernel)) (fun _ _ _ _ _ => (pg_name (i := 6) sc__law_flat.nd rfl (.inl rfl))) (fun _ _ _ _ _ => pts_nil) (fun _ _ _ _ _ => (pe_tup (pa_cons (pv 6) (pa_cons (pe_op op_add (pv 6) pe_int) (pa_cons pe_int pa_nil)))))) (pa_cons (pe_lst pa_nil) pa_nil)))))))) pss_nil) 
    (pss_cons (ps_asg (pe_ix (show IxR _ (rIxL K) from ix_list) (pe_lst (pa_cons (pe_tup (pa_cons pe_int (pa_cons pe_int (pa_cons pe_int pa_nil)))) (pa_cons (pe_tup (pa_cons pe_int (pa_cons pe_int (pa_cons pe_int pa_nil)))) (pa_cons (pe_tup (pa_cons pe_int (pa_cons pe_int (pa_cons pe_int pa_nil)))) (pa_cons (pe_tup (pa_cons pe_int (pa_cons pe_int (pa_cons pe_int pa_nil)))) (pa_cons (pe_tup (pa_cons pe_int (pa_cons pe_int (pa_cons pe_int pa_nil)))) pa_nil)))))) (pe_call G__law_take (hr.mono (by decide)) (by rfl) T.g__law_take T.F__law_take.kp T.b__law_take .nil pass0 (pa_cons (pv 0) (pa_cons pe_int pa_nil))) (fun _ _ => rfl)) (pg_tup rfl (pgs_cons (pg_name (i := 4) sc__law_flat.nd rfl (.inl rfl)) (pgs_cons (pg_name (i := 3) sc__law_flat.nd rfl (.inr rfl)) (pgs_cons (pg_name (i := 5) sc__law_flat.nd rfl (.inl rfl)) pgs_nil))))) 
    (pss_one (ps_ret (pe_call G__law_made (hr.mono (by decide)) (by rfl) T.g__law_made T.F__law_made.kp T.b__law_made .nil pass0 (pa_cons (pe_lst (pa_cons (pv 4) (pa_cons (pv 3) pa_nil))) (pa_cons (pe_lst pa_nil) (pa_cons (pe_lst (pa_cons (pe_tup (pa_cons pe_int (pa_cons pe_int (pa_cons (pe_lst (pa_cons (pe_tup (pa_cons pe_int (pa_cons (pv 5) pa_nil))) pa_nil)) pa_nil)))) pa_nil)) pa_nil)))))))))), ?_⟩
    refine ⟨_, rfl, st, _, s0, t0, rfl, by decide, by decide, est, fun pk s1 t1 hp0 hp1 => ?_⟩
    have sx : SameX st H (upd H st (.lst [.int s1, .int t1])) := SameX.put
    have est1 : (upd H st (.lst [.int s1, .int t1])) st = some (.lst [.int s1, .int t1]) := upd_same
    generalize upd H st (.lst [.int s1, .int t1]) = H1 at *
    have q : ∀ z ps pws cjs H', SameX st H1 H' → StA H' st → VB ps pws cjs → TbAt K H' z (madeT ps pws cjs) → Q z H' := fun z ps pws cjs H' s hst hb ht => q z _ H' (sx.trans s) hst ht hb.sm
    refine ⟨_, rfl, rfl, _, rfl, ite2 (fun c => ?_) (fun c => ?_)⟩
    · -- some of 2, 2, 3, 5
      refine ⟨_, rfl, st, _, s1, t1, rfl, by decide, by decide, est1, fun m s2 t2 hm0 hm1 => ?_⟩
      have sx2 : SameX st H1 (upd H1 st (.lst [.int s2, .int t2])) := SameX.put
      have hst2 : StA (upd H1 st (.lst [.int s2, .int t2])) st := ⟨s2, t2, upd_same⟩
      generalize upd H1 st (.lst [.int s2, .int t2]) = H2 at *
      obtain ⟨n, rfl⟩ : ∃ n : Nat, m = (n : Int) := ⟨m.toNat, by omega⟩
      refine ⟨(n : Int), rfl, by omega, by omega, fun D nD => ?_⟩
      refine lc_drawP (walk_range (lo := 0) (n := n)) (fun _ c => c = 2 ∨ c = 3 ∨ c = 5) (by omega) nD hst2 (fun _ _ => trivial) (fun i x H3 H4 Q2 hi sx3 hst3 hY q2 => ?_) (fun H3 rt sx3 hst3 eD hrl hrv => ?_)
      · obtain ⟨rfl, rfl⟩ := hY
        obtain ⟨s3, t3, est3⟩ := hst3
        refine ⟨rfl, by show 4 ≤ sizeLine; decide, fun l nl => ?_⟩
        have hls : st ≠ l := ne_of_none est3 nl
        refine ⟨_, rfl, st, _, s3, t3, rfl, by decide, by decide, by rw [upd_ne hls]; exact est3, fun v s4 t4 hv0 hv1 => ?_⟩
        have sx4 : SameX st H4 (upd (upd H4 l (.lst [.int 2, .int 2, .int 3, .int 5])) st (.lst [.int s4, .int t4])) := (Same.x (same_new nl)).trans SameX.put
        have el : (upd (upd H4 l (.lst [.int 2, .int 2, .int 3, .int 5])) st (.lst [.int s4, .int t4])) l = some (.lst [.int 2, .int 2, .int 3, .int 5]) := by rw [upd_ne hls.symm]; exact upd_same
        have hst4 : StA (upd (upd H4 l (.lst [.int 2, .int 2, .int 3, .int 5])) st (.lst [.int s4, .int t4])) st := ⟨s4, t4, upd_same⟩
        rcases (by omega : v = 0 ∨ v = 1 ∨ v = 2 ∨ v = 3) with rfl | rfl | rfl | rfl
        · exact ⟨l, _, _, _, rfl, rfl, .inl (.inl el), atI_nat (j := 0) rfl, q2 2 _ sx4 hst4 (by decide)⟩
        · exact ⟨l, _, _, _, rfl, rfl, .inl (.inl el), atI_nat (j := 1) rfl, q2 2 _ sx4 hst4 (by decide)⟩
        · exact ⟨l, _, _, _, rfl, rfl, .inl (.inl el), atI_nat (j := 2) rfl, q2 3 _ sx4 hst4 (by decide)⟩
        · exact ⟨l, _, _, _, rfl, rfl, .inl (.inl el), atI_nat (j := 3) rfl, q2 5 _ sx4 hst4 (by decide)⟩
      · have hall : ∀ p ∈ rt, p = 2 ∨ p = 3 ∨ p = 5 := fun p hp => by
          obtain ⟨i, hi, e⟩ := mem_at hp
          rw [← e]
          exact hrv i (by omega)
        have hv : VB rt [] [] := ⟨fun p hp => by rcases hall p hp with rfl | rfl | rfl <;> decide, by omega, by
          have h1 := prod5 (rt := rt) fun p hp => by rcases hall p hp with rfl | rfl | rfl <;> decide
          have h2 : 5 ^ rt.length ≤ 5 ^ 3 := Nat.pow_le_pow_right (by decide) (by omega)
          have h3 : 5 ^ 3 = 125 := by decide
          omega, (fun x h => by cases h), (fun x h => by cases h), chk_fl3 rt (mem_fl3 (by omega) hall)⟩
        refine ⟨Nat.zero_le _, fun l1 n1 => ⟨Nat.zero_le _, fun l2 n2 => ?_⟩⟩
        have s1' := same_new (o := .lst []) n1
        have s2' := same_new (o := .lst []) n2
        have s12 := s1'.trans s2'
        exact made_use (E := E0) (has_of_ints (s12 _ _ eD)) (has_nil (s2' _ _ upd_same)) (has_nil upd_same) hv fun z H' s h => q z _ _ _ H' ((sx2.trans sx3).trans (Same.x (s12.trans s))) (let ⟨a, b, e⟩ := hst3; ⟨a, b, (s12.trans s) _ _ e⟩) hv h
    refine ⟨_, rfl, rfl, _, rfl, ite2 (fun c => ?_) (fun c => ?_)⟩
    · -- cyclic
      refine ⟨_, rfl, st, _, s1, t1, rfl, by decide, by decide, est1, fun m s2 t2 hm0 hm1 => ⟨_, _, rfl, rfl, ?_⟩⟩
      refine ⟨_, rfl, _, rfl, _, _, rfl, rfl, st, _, s2, t2, rfl, by omega, by omega, upd_same, fun k s3 t3 hk0 hk1 => ⟨_, _, rfl, rfl, ?_⟩⟩
      have sx2 : SameX st H1 (upd (upd H1 st (.lst [.int s2, .int t2])) st (.lst [.int s3, .int t3])) := SameX.put.trans SameX.put
      have est2 : (upd (upd H1 st (.lst [.int s2, .int t2])) st (.lst [.int s3, .int t3])) st = some (.lst [.int s3, .int t3]) := upd_same
      generalize upd (upd H1 st (.lst [.int s2, .int t2])) st (.lst [.int s3, .int t3]) = H2 at *
      obtain ⟨n, rfl⟩ : ∃ n : Nat, k = (n : Int) := ⟨k.toNat, by omega⟩
      have hv : VB ((List.range (1 + n)).map fun _ => 2 + m) ((List.range n).map fun i => ((i, i + 1, 1) : PwE)) [] := by
        have hm : m = 0 ∨ m = 1 := by omega
        have hn : n = 0 ∨ n = 1 ∨ (n = 2 ∧ m = 0) := by omega
        rcases hn with rfl | rfl | ⟨rfl, rfl⟩
        · rcases hm with rfl | rfl <;> decide +kernel
        · rcases hm with rfl | rfl <;> decide +kernel
        · decide +kernel
      refine ⟨_, rfl, _, rfl, by omega, by omega, fun D nD => ?_⟩
      rw [show (1 + (n : Int)).toNat = 1 + n by omega]
      refine lc_rep (walk_range (lo := 0) (n := 1 + n)) st_RI (fun _ => 2 + m) (by omega) nD (fun _ _ => trivial) (fun i x H3 H4 Q2 hi sm hY q2 => ?_) (fun H3 acc s3' eD hP => ?_)
      · obtain ⟨rfl, rfl⟩ := hY
        exact ⟨rfl, _, rfl, q2 _ _ (Same.refl _) rfl⟩
      have e := ints_of hP
      subst e
      refine ⟨_, rfl, _, _, rfl, rfl, _, rfl, by omega, by omega, fun D2 nD2 => ?_⟩
      rw [show (1 + (n : Int) - 1).toNat = n by omega]
      refine lc_rep (walk_range (lo := 0) (n := n)) (st_R3 (K := K)) (fun i => i) (by omega) nD2 (fun _ _ => trivial) (fun i x H4 H5 Q2 hi sm hY q2 => ?_) (fun H4 acc2 s4' eD2 hP2 => ?_)
      · obtain ⟨rfl, rfl⟩ := hY
        refine ⟨rfl, _, rfl, _, rfl, _, _, rfl, rfl, by show 3 ≤ sizeLine; decide, fun u nu => ?_⟩
        exact q2 _ _ (same_new nu) ⟨u, rfl, .inl (.inl (by rw [upd_same, Int.zero_add]; show some (HO.tup [V.int (0 + (i : Int)), V.int ((i : Int) + 1), V.int 1]) = _; rw [Int.zero_add]))⟩
      rw [List.map_id'] at hP2
      refine ⟨Nat.zero_le _, fun l1 n1 => ?_⟩
      have s1' := same_new (o := .lst []) n1
      have s34 := s3'.trans (s4'.trans s1')
      exact made_use (E := E0) (has_of_ints ((s4'.trans s1') _ _ eD)) (has_R3 (s1' _ _ eD2) (st_R3.all s1' hP2)) (has_nil upd_same) hv fun z H' s h => q z _ _ _ H' (sx2.trans (Same.x (s34.trans s))) ⟨_, _, (s34.trans s) _ _ est2⟩ hv h
    · unfold tNext tSeq tAsg tOp
      dsimp only
      refine EvD.use (K := K) (t := .lst [.tup [.int 2, .int 3, .int 2], .tup [.int 2, .int 5, .int 4], .tup [.int 3, .int 7, .int 2], .tup [.int 2, .int 7, .int 6], .tup [.int 5, .int 11, .int 3]]) (te := tLst _) (by (repeat' (first | exact ed_int | exact ed_nil | exact ed_var rfl | refine ed_cons ?_ ?_ | refine ed_tup ?_ (Nat.le_of_ble_eq_true rfl) | refine ed_lst ?_ (Nat.le_of_ble_eq_true rfl)))) fun v H2 s2 hv => ?_
      refine ⟨_, rfl, st, _, s1, t1, rfl, by decide, by decide, s2 _ _ est1, fun m s3 t3 hm0 hm1 => ?_⟩
      obtain ⟨l, us, rfl, el, hul, hug⟩ := has_lst hv
      have hls : l ≠ st := fun e => by
        rw [e, s2 _ _ est1] at el
        cases el
        cases hul
      have tp3 : Tps K H2 (upd H2 st (.lst [.int s3, .int t3])) := Tps.x SameX.put (s2 _ _ est1)
      have sx3 : SameX st H1 (upd H2 st (.lst [.int s3, .int t3])) := (Same.x s2).trans SameX.put
      have el3 : (upd H2 st (.lst [.int s3, .int t3])) l = some (.lst us) := by rw [upd_ne hls]; exact el
      have est3 : (upd H2 st (.lst [.int s3, .int t3])) st = some (.lst [.int s3, .int t3]) := upd_same
      generalize upd H2 st (.lst [.int s3, .int t3]) = H3 at *
      obtain ⟨n, rfl⟩ : ∃ n : Nat, m = (n : Int) := ⟨m.toNat, by omega⟩
      obtain ⟨u, eu⟩ : ∃ u, us[n]? = some u := ⟨_, List.getElem?_eq_getElem (by rw [hul]; show n < 5; omega)⟩
      obtain ⟨p, r, mm, ht, hb⟩ : ∃ p r mm, Has K H2 u (.tup [.int p, .int r, .int mm]) ∧ VB [p, r] [] [(0, 1, [(1, mm)])] := by
        rcases (by omega : n = 0 ∨ n = 1 ∨ n = 2 ∨ n = 3 ∨ n = 4) with rfl | rfl | rfl | rfl | rfl
        · exact ⟨_, _, _, hug 0 u _ eu rfl, by decide +kernel⟩
        · exact ⟨_, _, _, hug 1 u _ eu rfl, by decide +kernel⟩
        · exact ⟨_, _, _, hug 2 u _ eu rfl, by decide +kernel⟩
        · exact ⟨_, _, _, hug 3 u _ eu rfl, by decide +kernel⟩
        · exact ⟨_, _, _, hug 4 u _ eu rfl, by decide +kernel⟩
      obtain ⟨t, x, y, z, rfl, hS, h1, h2, h3⟩ := has_tup3 ht
      have e1 := has_int h1
      have e2 := has_int h2
      have e3 := has_int h3
      subst e1 e2 e3
      refine ⟨l, us, (n : Int), _, rfl, rfl, .inl (.inl el3), atI_nat eu, t, _, rfl, tp3 _ _ hS, rfl, _, _, rfl, _, _, rfl, _, [], rfl, rfl, ?_⟩
      unfold tRet
      dsimp only
      exact made_call (by (repeat' (first | exact ed_int | exact ed_nil | exact ed_var rfl | refine ed_cons ?_ ?_ | refine ed_tup ?_ (Nat.le_of_ble_eq_true rfl) | refine ed_lst ?_ (Nat.le_of_ble_eq_true rfl)))) hb fun z H' s h => q z _ _ _ H' (sx3.trans (Same.x s)) ⟨_, _, s _ _ est3⟩ hb h
/-! ### _law_beside -/
/-- a comprehension over a tuple -/
theorem lc_tupmap {α β : Type} [Inhabited β] {a : Addr} {us : List V} {xs : List α} {R1 : Hp → V → α → Prop} {R2 : Hp → V → β → Prop} (S : Stable R2) (f : α → β) {g : TG} {te : TE} {vs : List Nat} {σ : L2.St} {H1 : Hp} {D : Addr} {Qd : Hp → Prop} (hl : xs.length ≤ 100000) (ha : SqT K H1 a us) (hp : Paired (R1 H1) us xs) (nD : H1 D = none)
    (hs : ∀ v y H (Q : VK), y ∈ xs → Same H1 H → R1 H1 v y → (∀ z H4, Same H H4 → R2 H4 z (f y) → Q z H4) → g v (wipe σ vs) H fun σ2 H2 => wipe σ2 vs = wipe σ vs ∧ te σ2 H2 Q)
    (hd : ∀ H acc, Same H1 H → H D = some (.lst acc) → Paired (R2 H) acc (xs.map f) → Qd H) :
    ∃ W : Nat → Nat → Hp → Prop, (∃ m, W 0 m (upd H1 D (.lst []))) ∧ ∀ i m H, W i m H →
      ((Itt K a).stop i H ∧ Qd H) ∨ ((Itt K a).go i H ∧ ∃ Nx : Hp → Prop, (∀ H', Nx H' → ∃ m', m' < m ∧ W (i + 1) m' H') ∧ ∀ x H', (Itt K a).yld i H x H' → g x (wipe σ vs) H' fun σ2 H2 => wipe σ2 vs = wipe σ vs ∧ tYes σ2 H2 fun b H3 =>
        if b = true then te σ2 H3 fun y H4 => ∃ acc, H4 D = some (.lst acc) ∧ acc.length < sizeLine ∧ Nx (upd H4 D (.lst (acc ++ [y]))) else Nx H3) := by
  have hul := Paired.length hp
  refine lc_rep (walk_tup (xs := us)) S (fun i => (xs.map f).getD i default) (by omega) nD (fun H s => Own.same_tup s ha) (fun i x H H' Q hi sm hY q2 => ?_) (fun H acc sm eD hP => ?_)
  · obtain ⟨rfl, h1⟩ := hY
    obtain ⟨y, ey, hy⟩ := paired_get hp h1
    refine hs x y _ Q (List.mem_of_getElem? ey) sm hy fun z H4 s4 h4 => q2 z H4 s4 ?_
    rw [getD_some (show (xs.map f)[i]? = some (f y) by rw [List.getElem?_map, ey]; rfl)]
    exact h4
  · refine hd H acc sm eD ?_
    have e : (List.range us.length).map (fun i => (xs.map f).getD i default) = xs.map f := by
      rw [hul, ← List.length_map (as := xs) f]
      exact map_range _ _ fun i x e => getD_some e
    rw [← e]
    exact hP
theorem bl_app {p1 p2 r1 r2 : List Int} (h1 : Bl p1 r1) (h2 : Bl p2 r2) : Bl (p1 ++ p2) (r1 ++ r2) := ⟨by rw [List.length_append, List.length_append, h1.1, h2.1], fun k hk => by
  rw [List.length_append] at hk
  rcases Nat.lt_or_ge k p1.length with c | c
  · rw [atR_app1 (by rw [h1.1]; exact c), atR_app1 c]
    exact h1.2 k c
  · rw [atR_app2 (by rw [h1.1]; exact c), atR_app2 c, h1.1]
    exact h2.2 _ (by omega)⟩
theorem zb_app1 {r : List Int} {n k : Nat} (h : Zb r k) : Zb (r ++ zeroR n) k := fun i hi => by
  rcases Nat.lt_or_ge i r.length with c | c
  · rw [atR_app1 c]
    exact h i hi
  · rw [atR_app2 c, atR_zero]
theorem zb_app2 {r : List Int} {n k : Nat} (h : Zb r k) : Zb (zeroR n ++ r) (n + k) := fun i hi => by
  rcases Nat.lt_or_ge i n with c | c
  · rw [atR_app1 (by rw [zeroR_len]; exact c), atR_zero]
  · rw [atR_app2 (by rw [zeroR_len]; exact c), zeroR_len]
    exact h _ (by omega)
theorem vd_bes {t1 t2 : Tb} (h1 : Vd t1) (h2 : Vd t2) (hn : t1.ps.length + t2.ps.length ≤ 10) (hs : prodN t1.ps * prodN t2.ps ≤ 1000) : Vd (besT t1 t2) := by
  have p1 : ∀ p ∈ t1.ps, 2 ≤ p := fun p h => (pr31_in (h1.pr p h)).1
  have p2 : ∀ p ∈ t2.ps, 2 ≤ p := fun p h => (pr31_in (h2.pr p h)).1
  have z1 := bl_zero p1
  have z2 := bl_zero p2
  refine ⟨fun p hp => ?_, ?_, ?_, ?_, fun i r e => ?_, ?_, fun i M e => ?_⟩
  · rcases List.mem_append.mp hp with h | h
    · exact h1.pr p h
    · exact h2.pr p h
  · show (t1.ps ++ t2.ps).length ≤ 10
    rw [List.length_append]
    exact hn
  · show prodN (t1.ps ++ t2.ps) ≤ 1000
    rw [prodN_app]
    exact hs
  · show (t1.pw.map _ ++ t2.pw.map _).length = (t1.ps ++ t2.ps).length
    rw [List.length_append, List.length_append, List.length_map, List.length_map, h1.pwl, h2.pwl]
  · have e : (t1.pw.map (· ++ zeroR t2.ps.length) ++ t2.pw.map (zeroR t1.ps.length ++ ·))[i]? = some r := e
    show Bl (t1.ps ++ t2.ps) r ∧ _
    have hl : (t1.pw.map (· ++ zeroR t2.ps.length)).length = t1.ps.length := by rw [List.length_map, h1.pwl]
    rcases Nat.lt_or_ge i t1.ps.length with c | c
    · rw [List.getElem?_append_left (by omega), List.getElem?_map] at e
      cases hx : t1.pw[i]? with
      | none => rw [hx] at e; cases e
      | some x =>
        rw [hx] at e
        cases e
        obtain ⟨a, b⟩ := h1.pwr i x hx
        exact ⟨bl_app a z2, zb_app1 b⟩
    · rw [List.getElem?_append_right (by omega), List.getElem?_map, hl] at e
      cases hx : t2.pw[i - t1.ps.length]? with
      | none => rw [hx] at e; cases e
      | some x =>
        rw [hx] at e
        cases e
        obtain ⟨a, b⟩ := h2.pwr _ x hx
        have := zb_app2 (n := t1.ps.length) b
        rw [show t1.ps.length + (i - t1.ps.length + 1) = i + 1 by omega] at this
        exact ⟨bl_app z1 a, this⟩
  · show (t1.cj.map _ ++ t2.cj.map _).length = (t1.ps ++ t2.ps).length
    rw [List.length_append, List.length_append, List.length_map, List.length_map, h1.cjl, h2.cjl]
  · have e : (t1.cj.map (fun M => M.map (· ++ zeroR t2.ps.length) ++ (List.range t2.ps.length).map fun j => zeroR t1.ps.length ++ unitR t2.ps.length j) ++ t2.cj.map fun M => M.map (zeroR t1.ps.length ++ ·))[i]? = some M := e
    show M.length = (t1.ps ++ t2.ps).length - (i + 1) ∧ ∀ r ∈ M, Bl (t1.ps ++ t2.ps) r ∧ _
    rw [List.length_append]
    have hl : (t1.cj.map (fun M => M.map (· ++ zeroR t2.ps.length) ++ (List.range t2.ps.length).map fun j => zeroR t1.ps.length ++ unitR t2.ps.length j)).length = t1.ps.length := by rw [List.length_map, h1.cjl]
    rcases Nat.lt_or_ge i t1.ps.length with c | c
    · rw [List.getElem?_append_left (by omega), List.getElem?_map] at e
      cases hx : t1.cj[i]? with
      | none => rw [hx] at e; cases e
      | some N =>
        rw [hx] at e
        cases e
        obtain ⟨a, b⟩ := h1.cjr i N hx
        refine ⟨by rw [List.length_append, List.length_map, List.length_map, List.length_range, a]; omega, fun r hr => ?_⟩
        rcases List.mem_append.mp hr with hr | hr
        · obtain ⟨r0, hr0, rfl⟩ := List.mem_map.mp hr
          exact ⟨bl_app (b r0 hr0).1 z2, zb_app1 (b r0 hr0).2⟩
        · obtain ⟨j, hj, rfl⟩ := List.mem_map.mp hr
          have hj := List.mem_range.mp hj
          have g := bl_unit h2 hj
          have := zb_app2 (n := t1.ps.length) (r := unitR t2.ps.length j) (k := 0) fun i hi => absurd hi (Nat.not_lt_zero i)
          exact ⟨bl_app z1 g.bl, fun a ha => this a (by omega)⟩
    · rw [List.getElem?_append_right (by omega), List.getElem?_map, hl] at e
      cases hx : t2.cj[i - t1.ps.length]? with
      | none => rw [hx] at e; cases e
      | some N =>
        rw [hx] at e
        cases e
        obtain ⟨a, b⟩ := h2.cjr _ N hx
        refine ⟨by rw [List.length_map, a]; omega, fun r hr => ?_⟩
        obtain ⟨r0, hr0, rfl⟩ := List.mem_map.mp hr
        have := zb_app2 (n := t1.ps.length) (b r0 hr0).2
        rw [show t1.ps.length + (i - t1.ps.length + 1) = i + 1 by omega] at this
        exact ⟨bl_app z1 (b r0 hr0).1, this⟩
theorem vd_len {t : Tb} (h : Vd t) {r : List Int} (hr : r ∈ t.pw) : r.length = t.ps.length := by
  obtain ⟨i, hi⟩ := List.mem_iff_getElem?.mp hr
  exact (h.pwr i r hi).1.1
theorem vd_len2 {t : Tb} (h : Vd t) {M : List (List Int)} {r : List Int} (hM : M ∈ t.cj) (hr : r ∈ M) : r.length = t.ps.length := by
  obtain ⟨i, hi⟩ := List.mem_iff_getElem?.mp hM
  exact ((h.cjr i M hi).2 r hr).1.1
theorem vd_len3 {t : Tb} (h : Vd t) {M : List (List Int)} (hM : M ∈ t.cj) : M.length ≤ 10 := by
  obtain ⟨i, hi⟩ := List.mem_iff_getElem?.mp hM
  have := (h.cjr i M hi).1
  have := h.n10
  omega
def spBeside (K : PySem.W.Frag) : Sp := fun vs H Q _ => ∃ (z1 z2 : V) (t1 t2 : Tb), vs = [z1, z2] ∧ TbAt K H z1 t1 ∧ Vd t1 ∧ TbAt K H z2 t2 ∧ Vd t2 ∧ ∀ z H', Same H H' → TbAt K H' z (besT t1 t2) → Q z H'
theorem ok_beside (T : Txt K mg) : FnOk P w K mg base CX0 1 T.a__law_beside T.d__law_beside ["one", "two"] (spBeside K) := by
  refine T.F__law_beside.ok sc__law_beside (fun vs H Q E h => ?_) (fun cdv A outer s H vs Q E hr h => ?_)
  · obtain ⟨z1, z2, t1, t2, rfl, _⟩ := h
    rfl
  · obtain ⟨z1, z2, t1, t2, rfl, hT1, hV1, hT2, hV2, q⟩ := h
    refine ⟨_, (pss_cons (ps_asg (pe_tup (pa_cons (pe_callB call_len_seq (by rfl) T.n_len (by decide +kernel) (pa_cons (pe_ix (show IxR _ (rIxT K) from ix_tup) (pv 0) pe_int (fun _ _ => rfl)) pa_nil)) (pa_cons (pe_callB call_len_seq (by rfl) T.n_len (by decide +kernel) (pa_cons (pe_ix (show IxR _ (rIxT K) from ix_tup) (pv 1) pe_int (fun _ _ => rfl)) pa_nil)) pa_nil))) (pg_tup rfl (pgs_cons (pg_name (i := 2) sc__law_beside.nd rfl (.inl rfl)) (pgs_cons (pg_name (i := 3) sc__law_beside.nd rfl (.inr rfl)) pgs_nil)))) 
    (pss_cons (ps_set (i := 4) sc__law_beside.nd rfl (.inr rfl) (pe_callTy (show CallR _ (.type "tuple") (rTupL K) from call_tupL) (by rfl) T.n_tuple (by decide +kernel) (pa_cons (pe_lc (own := [("k", 10)]) rfl sc__law_beside.nd (pi_range1 (by rfl) T.n_range (pa_cons (pv 2) pa_nil)) (blkOk_by (N := N__law_beside) (sc := defScope s__law_beside) (own := [("k", 10)]) (by decide +kernel)) (fun _ _ _ _ _ => (pg_name (i := 10) sc__law_beside.nd rfl (.inl rfl))) (fun _ _ _ _ _ => pts_nil) (fun _ _ _ _ _ => pe_int)) pa_nil))) 
    (pss_cons (ps_set (i := 5) sc__law_beside.nd rfl (.inr rfl) (pe_callTy (show CallR _ (.type "tuple") (rTupL K) from call_tupL) (by rfl) T.n_tuple (by decide +kernel) (pa_cons (pe_lc (own := [("k", 10)]) rfl sc__law_beside.nd (pi_range1 (by rfl) T.n_range (pa_cons (pv 3) pa_nil)) (blkOk_by (N := N__law_beside) (sc := defScope s__law_beside) (own := [("k", 10)]) (by decide +kernel)) (fun _ _ _ _ _ => (pg_name (i := 10) sc__law_beside.nd rfl (.inl rfl))) (fun _ _ _ _ _ => pts_nil) (fun _ _ _ _ _ => pe_int)) pa_nil))) 
    (pss_cons (ps_set (i := 6) sc__law_beside.nd rfl (.inl rfl) (pe_callTy (show CallR _ (.type "tuple") (rTupL K) from call_tupL) (by rfl) T.n_tuple (by decide +kernel) (pa_cons (pe_op op_cat (pe_lc (own := [("row", 12)]) rfl sc__law_beside.nd (pi_tup (pe_ix (show IxR _ (rIxT K) from ix_tup) (pv 0) pe_int (fun _ _ => rfl))) (blkOk_by (N := N__law_beside) (sc := defScope s__law_beside) (own := [("row", 12)]) (by decide +kernel)) (fun _ _ _ _ _ => (pg_name (i := 12) sc__law_beside.nd rfl (.inl rfl))) (fun _ _ _ _ _ => pts_nil) (fun _ _ _ _ _ => (pe_op (show OpR _ _ (rCatA K) from op_catA) (pv 12) (pv 5)))) (pe_lc (own := [("row", 12)]) rfl sc__law_beside.nd (pi_tup (pe_ix (show IxR _ (rIxT K) from ix_tup) (pv 1) pe_int (fun _ _ => rfl))) (blkOk_by (N := N__law_beside) (sc := defScope s__law_beside) (own := [("row", 12)]) (by decide +kernel)) (fun _ _ _ _ _ => (pg_name (i := 12) sc__law_beside.nd rfl (.inl rfl))) (fun _ _ _ _ _ => pts_nil) (fun _ _ _ _ _ => (pe_op (show OpR _ _ (rCatA K) from op_catA) (pv 4) (pv 12))))) pa_nil))) 
    (pss_cons (ps_set (i := 7) sc__law_beside.nd rfl (.inl rfl) (pe_lst pa_nil)) 
    (pss_cons (ps_for PassesOwn.never rfl (pi_range1 (by rfl) T.n_range (pa_cons (pv 2) pa_nil)) (pg_name (i := 8) sc__law_beside.nd rfl (.inl rfl)) 
      (pss_cons (ps_setLc (i := 9) (own := [("j", 11)]) rfl sc__law_beside.nd rfl rfl (sw_true rfl rfl rfl (by decide +kernel)) (pi_range1 (by rfl) T.n_range (pa_cons (pv 3) pa_nil)) (blkOk_by (N := N__law_beside) (sc := defScope s__law_beside) (own := [("j", 11)]) (by decide +kernel)) (fun _ _ _ _ _ => (pg_name (i := 11) sc__law_beside.nd rfl (.inr rfl))) (fun _ _ _ _ _ => pts_nil) (fun _ _ _ _ _ => (pe_op (show OpR _ _ (rCatA K) from op_catA) (pv 4) (pe_callTy (show CallR _ (.type "tuple") (rTupL K) from call_tupL) (by rfl) T.n_tuple (by decide +kernel) (pa_cons (pe_lc (own := [("k", 10)]) rfl sc__law_beside.nd (pi_range1 (by rfl) T.n_range (pa_cons (pv 3) pa_nil)) (blkOk_by (N := N__law_beside) (own := [("k", 10)]) (by rfl)) (fun _ _ _ _ _ => (pg_name (i := 10) sc__law_beside.nd rfl (.inl rfl))) (fun _ _ _ _ _ => pts_nil) (fun _ _ _ _ _ => (pe_callTy call_int1 (by rfl) T.n_int (by decide +kernel) (pa_cons (pe_cmpR op_eq (pv 10) (pv 11) (nomark _)) pa_nil)))) pa_nil))))) 
      (pss_one (ps_expr (pe_bm PySem.F.plainAttrs_list PySem.F.slot_list_append PySem.F.type_list_append mt_append (pv 7) (pa_cons (pe_callTy (show CallR _ (.type "tuple") (rTupL K) from call_tupL) (by rfl) T.n_tuple (by decide +kernel) (pa_cons (pe_op op_cat (pe_lc (own := [("row", 12)]) rfl sc__law_beside.nd (pi_tup (pe_ix (show IxR _ (rIxT K) from ix_tup) (pe_ix (show IxR _ (rIxT K) from ix_tup) (pv 0) pe_int (fun _ _ => rfl)) (pv 8) (fun _ _ => rfl))) (blkOk_by (N := N__law_beside) (sc := defScope s__law_beside) (own := [("row", 12)]) (by decide +kernel)) (fun _ _ _ _ _ => (pg_name (i := 12) sc__law_beside.nd rfl (.inl rfl))) (fun _ _ _ _ _ => pts_nil) (fun _ _ _ _ _ => (pe_op (show OpR _ _ (rCatA K) from op_catA) (pv 12) (pv 5)))) (pv 9)) pa_nil)) pa_nil)))))) 
    (pss_one (ps_ret (pe_tup (pa_cons (pe_op (show OpR _ _ (rCatA K) from op_catA) (pe_ix (show IxR _ (rIxT K) from ix_tup) (pv 0) pe_int (fun _ _ => rfl)) (pe_ix (show IxR _ (rIxT K) from ix_tup) (pv 1) pe_int (fun _ _ => rfl))) (pa_cons (pv 6) (pa_cons (pe_callTy (show CallR _ (.type "tuple") (rTupL K) from call_tupL) (by rfl) T.n_tuple (by decide +kernel) (pa_cons (pe_op op_cat (pv 7) (pe_lc (own := [("part", 13)]) rfl sc__law_beside.nd (pi_tup (pe_ix (show IxR _ (rIxT K) from ix_tup) (pv 1) pe_int (fun _ _ => rfl))) (blkOk_by (N := N__law_beside) (sc := defScope s__law_beside) (own := [("part", 13)]) (by decide +kernel)) (fun _ _ _ _ _ => (pg_name (i := 13) sc__law_beside.nd rfl (.inl rfl))) (fun _ _ _ _ _ => pts_nil) (fun _ _ _ _ _ => (pe_callTy (show CallR _ (.type "tuple") (rTupL K) from call_tupL) (by rfl) T.n_tuple (by decide +kernel) (pa_cons (pe_lc (own := [("row", 12)]) rfl sc__law_beside.nd (show PI _ _ _ (iTup K _) from pi_tup (pv 13)) (blkOk_by (N := N__law_beside) (own := [("row", 12)]) (by rfl)) (fun _ _ _ _ _ => (pg_name (i := 12) sc__law_beside.nd rfl (.inl rfl))) (fun _ _ _ _ _ => pts_nil) (fun _ _ _ _ _ => (pe_op (show OpR _ _ (rCatA K) from op_catA) (pv 4) (pv 12)))) pa_nil))))) pa_nil)) pa_nil)))))))))))), ?_⟩
    have hn1 := hV1.n10
    have hn2 := hV2.n10
    obtain ⟨x1, a1, b1, c1, us1, vs1, rfl, hSx1, hSa1, hSb1, hPw1, hSc1, hPc1⟩ := hT1.rd
    obtain ⟨x2, a2, b2, c2, us2, vs2, rfl, hSx2, hSa2, hSb2, hPw2, hSc2, hPc2⟩ := hT2.rd
    refine ⟨_, rfl, x1, _, 0, _, rfl, rfl, hSx1, atI_nat (j := 0) rfl, a1, _, rfl, .inr hSa1, _, rfl, x2, _, 0, _, rfl, rfl, hSx2, atI_nat (j := 0) rfl, a2, _, rfl, .inr hSa2, by show 2 ≤ sizeLine; decide, fun up nup => ?_⟩
    rw [List.length_map, List.length_map]
    generalize hN : t1.ps.length = n at *
    generalize hM : t2.ps.length = m at *
    have s00 := same_new (o := .tup [.int (n : Int), .int (m : Int)]) nup
    have hup : SqT K (upd H up (.tup [.int (n : Int), .int (m : Int)])) up [.int (n : Int), .int (m : Int)] := .inl (.inl upd_same)
    replace hSx1 := Own.same_tup s00 hSx1
    replace hSx2 := Own.same_tup s00 hSx2
    replace hSa1 := Own.same_tup s00 hSa1
    replace hSa2 := Own.same_tup s00 hSa2
    replace hSb1 := Own.same_tup s00 hSb1
    replace hSb2 := Own.same_tup s00 hSb2
    replace hSc1 := Own.same_tup s00 hSc1
    replace hSc2 := Own.same_tup s00 hSc2
    replace hPw1 := paired_via (fun _ _ => rs_tps (Tps.of s00)) hPw1
    replace hPw2 := paired_via (fun _ _ => rs_tps (Tps.of s00)) hPw2
    replace hPc1 := paired_via (fun _ _ => tup1_tps (Tps.of s00)) hPc1
    replace hPc2 := paired_via (fun _ _ => tup1_tps (Tps.of s00)) hPc2
    clear hT1 hT2
    generalize upd H up (.tup [.int (n : Int), .int (m : Int)]) = H0 at *
    refine ⟨up, _, rfl, hup, rfl, _, _, rfl, _, [], rfl, rfl, ?_⟩
    -- first, last
    refine ⟨_, rfl, (n : Int), rfl, by omega, by omega, fun D nD => ?_⟩
    refine lc_rep (walk_range (lo := 0) (n := n)) st_RI (fun _ => 0) (by omega) nD (fun _ _ => trivial) (fun i x H3 H4 Q2 hi sm hY q2 => ?_) (fun H1 acc s1 eD hP => ?_)
    · obtain ⟨rfl, rfl⟩ := hY
      exact ⟨rfl, q2 _ _ (Same.refl _) rfl⟩
    have e := ints_of hP
    rw [range_zero] at e
    subst e
    refine ⟨D, _, rfl, .inl (.inl eD), fun fo obfo nf hobfo => ?_⟩
    have s2 := s1.trans (same_new (o := .frz obfo (.tup ((zeroR n).map V.int))) nf)
    have hfo : SqT K (upd H1 fo (.frz obfo (.tup ((zeroR n).map V.int)))) fo ((zeroR n).map V.int) := .inl (.inr ⟨_, upd_same⟩)
    generalize upd H1 fo (.frz obfo (.tup ((zeroR n).map V.int))) = H2 at *
    clear eD nD nf s1 hP
    refine ⟨_, rfl, (m : Int), rfl, by omega, by omega, fun D nD => ?_⟩
    refine lc_rep (walk_range (lo := 0) (n := m)) st_RI (fun _ => 0) (by omega) nD (fun _ _ => trivial) (fun i x H3 H4 Q2 hi sm hY q2 => ?_) (fun H3 acc s3 eD hP => ?_)
    · obtain ⟨rfl, rfl⟩ := hY
      exact ⟨rfl, q2 _ _ (Same.refl _) rfl⟩
    have e := ints_of hP
    rw [range_zero] at e
    subst e
    refine ⟨D, _, rfl, .inl (.inl eD), fun la obla nla hobla => ?_⟩
    have s24 := s3.trans (same_new (o := .frz obla (.tup ((zeroR m).map V.int))) nla)
    have hla : SqT K (upd H3 la (.frz obla (.tup ((zeroR m).map V.int)))) la ((zeroR m).map V.int) := .inl (.inr ⟨_, upd_same⟩)
    have hfo := Own.same_tup s24 hfo
    have s4 := s2.trans s24
    generalize upd H3 la (.frz obla (.tup ((zeroR m).map V.int))) = H4 at *
    clear eD nD nla s3 hP s2 s24
    have hzl : ((zeroR n).map V.int).length = n := by rw [List.length_map, zeroR_len]
    have hzm : ((zeroR m).map V.int).length = m := by rw [List.length_map, zeroR_len]
    -- powers
    refine ⟨_, rfl, x1, _, 1, _, rfl, rfl, Own.same_tup s4 hSx1, atI_nat (j := 1) rfl, b1, rfl, ⟨_, Own.same_tup s4 hSb1⟩, fun D nD => ?_⟩
    refine lc_tupmap (st_RS (K := K)) (R1 := RS K) (xs := t1.pw) (· ++ zeroR m) (by rw [hV1.pwl]; omega) (Own.same_tup s4 hSb1) (paired_via (fun _ _ => rs_tps (Tps.of s4)) hPw1) nD (fun v y H5 Q2 hy s5 hR q2 => ?_) (fun H5 accA s5 eD hP => ?_)
    · obtain ⟨t, rfl, hS⟩ := hR
      refine ⟨rfl, _, rfl, _, rfl, catA_q (Own.same_tup s5 hS) (Own.same_tup s5 hla) (by rw [hzm, List.length_map, vd_len hV1 hy]; omega) fun u H6 s6 h6 => q2 _ _ s6 ⟨u, rfl, by rw [List.map_append]; exact h6⟩⟩
    have s45 := s4.trans s5
    refine ⟨_, rfl, x2, _, 1, _, rfl, rfl, Own.same_tup s45 hSx2, atI_nat (j := 1) rfl, b2, rfl, ⟨_, Own.same_tup s45 hSb2⟩, fun D2 nD2 => ?_⟩
    refine lc_tupmap (st_RS (K := K)) (R1 := RS K) (xs := t2.pw) (zeroR n ++ ·) (by rw [hV2.pwl]; omega) (Own.same_tup s45 hSb2) (paired_via (fun _ _ => rs_tps (Tps.of s45)) hPw2) nD2 (fun v y H6 Q2 hy s6 hR q2 => ?_) (fun H6 accB s6 eD2 hP2 => ?_)
    · obtain ⟨t, rfl, hS⟩ := hR
      refine ⟨rfl, _, rfl, _, rfl, catA_q (Own.same_tup (s5.trans s6) hfo) (Own.same_tup s6 hS) (by rw [hzl, List.length_map, vd_len hV2 hy]; omega) fun u H7 s7 h7 => q2 _ _ s7 ⟨u, rfl, by rw [List.map_append]; exact h7⟩⟩
    have hl1 : accA.length = n := by rw [Paired.length hP, List.length_map, hV1.pwl, hN]
    have hl2 : accB.length = m := by rw [Paired.length hP2, List.length_map, hV2.pwl, hM]
    refine ⟨D, D2, accA, accB, rfl, rfl, s6 _ _ eD, eD2, Nat.le_of_lt (small2000 (by omega)), fun pl npl => ⟨pl, _, rfl, .inl (.inl upd_same), fun pw ob npw hob => ?_⟩⟩
    have s67 := (same_new (o := .lst (accA ++ accB)) npl).trans (same_new (o := .frz ob (.tup (accA ++ accB))) npw)
    have hpw : SqT K (upd (upd H6 pl (.lst (accA ++ accB))) pw (.frz ob (.tup (accA ++ accB)))) pw (accA ++ accB) := .inl (.inr ⟨_, upd_same⟩)
    have hPW := paired_via (fun _ _ => rs_tps (Tps.of s67)) (paired_app (paired_via (fun _ _ => rs_tps (Tps.of s6)) hP) hP2)
    have s47 := (s5.trans s6).trans s67
    generalize upd (upd H6 pl (.lst (accA ++ accB))) pw (.frz ob (.tup (accA ++ accB))) = H7 at *
    replace hfo := Own.same_tup s47 hfo
    replace hla := Own.same_tup s47 hla
    have s07 := s4.trans s47
    replace hSx1 := Own.same_tup s07 hSx1
    replace hSx2 := Own.same_tup s07 hSx2
    replace hSa1 := Own.same_tup s07 hSa1
    replace hSa2 := Own.same_tup s07 hSa2
    replace hSc1 := Own.same_tup s07 hSc1
    replace hSc2 := Own.same_tup s07 hSc2
    replace hPc1 := paired_via (fun _ _ => tup1_tps (Tps.of s07)) hPc1
    replace hPc2 := paired_via (fun _ _ => tup1_tps (Tps.of s07)) hPc2
    have sH7 := s00.trans s07
    clear hP hP2 eD eD2 nD nD2 npl npw s4 s5 s6 s45 s47 s67 hPw1 hPw2 hSb1 hSb2 hup s07
    -- parts
    refine ⟨Nat.zero_le _, fun pa npa => ?_⟩
    refine ⟨_, rfl, (n : Int), rfl, by omega, by omega, ?_⟩
    rw [Int.toNat_natCast]
    refine for_range (lo := 0) (n := n) (fun i σ H' => ∃ (cvs : List V) (y8 y9 : Option V), σ = [some (.ref x1), some (.ref x2), some (.int (n : Int)), some (.int (m : Int)), some (.ref fo), some (.ref la), some (.ref pw), some (.ref pa), y8, y9, none, none, none, none] ∧ Same H7 H' ∧ H' pa = some (.lst cvs) ∧ Paired (Tup1 K H') cvs ((t1.cj.take i).map fun M => M.map (· ++ zeroR m) ++ (List.range m).map fun j => zeroR n ++ unitR m j))
      ⟨[], none, none, rfl, same_new npa, upd_same, .nil⟩ ?_ ?_
    · rintro i σ H' hi ⟨cvs, y8, y9, rfl, sm, epa, hcv⟩
      rw [Int.zero_add]
      obtain ⟨M, eM⟩ : ∃ M, t1.cj[i]? = some M := ⟨_, List.getElem?_eq_getElem (by rw [hV1.cjl, hN]; exact hi)⟩
      obtain ⟨Mv, eMv, hMv⟩ := paired_get2 hPc1 eM
      have hM1 := List.mem_of_getElem? eM
      have hM10 := vd_len3 hV1 hM1
      refine ⟨_, rfl, (m : Int), rfl, by omega, by omega, fun D nD => ?_⟩
      refine lc_rep (walk_range (lo := 0) (n := m)) (st_RS (K := K)) (fun j => zeroR n ++ unitR m j) (by omega) nD (fun _ _ => trivial) (fun j x H8 H9 Q2 hj s8 hY q2 => ?_) (fun H8 more s8 eD hmore => ?_)
      · obtain ⟨rfl, rfl⟩ := hY
        refine ⟨rfl, _, rfl, _, rfl, (m : Int), rfl, by omega, by omega, fun D2 nD2 => ?_⟩
        refine lc_rep (walk_range (lo := 0) (n := m)) st_RI (fun k => if k = j then 1 else 0) (by omega) nD2 (fun _ _ => trivial) (fun k x H10 H11 Q3 hk s10 hY q3 => ?_) (fun H10 acc s10 eD2 hP => ?_)
        · obtain ⟨rfl, rfl⟩ := hY
          refine ⟨rfl, _, rfl, _, rfl, rfl, .inr ⟨_, rfl, q3 _ _ (Same.refl _) ?_⟩⟩
          show V.int (if decide (V.int ((0 : Int) + (k : Int)) = V.int ((0 : Int) + (j : Int))) = true then 1 else 0) = V.int (if k = j then 1 else 0)
          by_cases e : k = j
          · rw [if_pos e, if_pos (decide_eq_true (by rw [e]))]
          · rw [if_neg e, if_neg (fun h => e (by have := V.int.inj (of_decide_eq_true h); omega))]
        have e := ints_of hP
        subst e
        refine ⟨D2, _, rfl, .inl (.inl eD2), fun u ob nu hob => ?_⟩
        have s11 := s10.trans (same_new (o := .frz ob (.tup (((List.range m).map fun k => if k = j then (1 : Int) else 0).map V.int))) nu)
        refine catA_q (Own.same_tup ((sm.trans s8).trans s11) hfo) (.inl (.inr ⟨_, upd_same⟩)) (by rw [hzl, List.length_map, List.length_map, List.length_range]; omega) fun w H12 s12 h12 => q2 _ _ (s11.trans s12) ⟨w, rfl, by rw [List.map_append]; exact h12⟩
      have sm8 := sm.trans s8
      obtain ⟨Mt, us2, rfl, hMt, hMp⟩ := tup1_tps (Tps.of sm8) hMv
      refine ⟨_, rfl, .inl ⟨rfl, _, .inl (.inl (s8 _ _ epa))⟩, _, rfl, x1, _, 2, _, rfl, rfl, Own.same_tup sm8 hSx1, atI_nat (j := 2) rfl, _, rfl, c1, _, (i : Int), _, rfl, rfl, Own.same_tup sm8 hSc1, atI_nat eMv, Mt, rfl, ⟨_, hMt⟩, fun D3 nD3 => ?_⟩
      refine lc_tupmap (st_RS (K := K)) (R1 := RS K) (xs := M) (· ++ zeroR m) (by omega) hMt hMp nD3 (fun v y H9 Q2 hy s9 hR q2 => ?_) (fun H9 acc3 s9 eD3 hP3 => ?_)
      · obtain ⟨t, rfl, hS⟩ := hR
        refine ⟨rfl, _, rfl, _, rfl, catA_q (Own.same_tup s9 hS) (Own.same_tup (sm8.trans s9) hla) (by rw [hzm, List.length_map, vd_len2 hV1 hM1 hy]; omega) fun u H10 s10 h10 => q2 _ _ s10 ⟨u, rfl, by rw [List.map_append]; exact h10⟩⟩
      have hl3 : acc3.length = M.length := by rw [Paired.length hP3, List.length_map]
      have hl4 : more.length = m := by rw [Paired.length hmore, List.length_map, List.length_range]
      refine ⟨_, rfl, D3, D, acc3, more, rfl, rfl, eD3, s9 _ _ eD, Nat.le_of_lt (small2000 (by omega)), fun pl npl => ⟨pl, _, rfl, .inl (.inl upd_same), fun u ob nu hob => ?_⟩⟩
      have s67 := (same_new (o := .lst (acc3 ++ more)) npl).trans (same_new (o := .frz ob (.tup (acc3 ++ more))) nu)
      have s89 := (s8.trans s9).trans s67
      have hlc : cvs.length ≤ 10 := by
        have := Paired.length hcv
        rw [List.length_map, List.length_take] at this
        omega
      refine ⟨pa, _, _, rfl, rfl, s89 _ _ epa, small2000 (by omega), ?_⟩
      have hrow := paired_via (fun _ _ => rs_tps (Tps.of s67)) (paired_app hP3 (st_RS.all s9 hmore))
      have hu : SqT K (upd (upd H9 pl (.lst (acc3 ++ more))) u (.frz ob (.tup (acc3 ++ more)))) u (acc3 ++ more) := .inl (.inr ⟨_, upd_same⟩)
      have epa9 := s89 _ _ epa
      have hcv9 := paired_via (fun _ _ => tup1_tps (Tps.of s89)) hcv
      have sm9 := sm.trans s89
      generalize upd (upd H9 pl (.lst (acc3 ++ more))) u (.frz ob (.tup (acc3 ++ more))) = H10 at *
      have tp : Tps K H10 (upd H10 pa (.lst (cvs ++ [.ref u]))) := Tps.x SameX.put epa9
      refine ⟨cvs ++ [.ref u], _, _, rfl, same_mut sm9 npa, upd_same, ?_⟩
      rw [List.take_add_one, eM, List.map_append]
      exact paired_add (paired_via (fun _ _ => tup1_tps tp) hcv9) ⟨u, _, rfl, tp _ _ hu, paired_via (fun _ _ => rs_tps tp) hrow⟩
    · rintro σ H' ⟨cvs, y8, y9, rfl, sm, epa, hcv⟩
      refine ⟨_, rfl, x1, _, 0, _, rfl, rfl, Own.same_tup sm hSx1, atI_nat (j := 0) rfl, _, rfl, x2, _, 0, _, rfl, rfl, Own.same_tup sm hSx2, atI_nat (j := 0) rfl, catA_q (Own.same_tup sm hSa1) (Own.same_tup sm hSa2) (by rw [List.length_map, List.length_map]; omega) fun pt H8 s8 hpt => ?_⟩
      rw [← List.map_append] at hpt
      have sm8 := sm.trans s8
      refine ⟨_, rfl, _, rfl, _, rfl, x2, _, 2, _, rfl, rfl, Own.same_tup sm8 hSx2, atI_nat (j := 2) rfl, c2, rfl, ⟨_, Own.same_tup sm8 hSc2⟩, fun D nD => ?_⟩
      refine lc_tupmap (st_Tup1 (K := K)) (R1 := Tup1 K) (xs := t2.cj) (fun M => M.map (zeroR n ++ ·)) (by rw [hV2.cjl]; omega) (Own.same_tup sm8 hSc2) (paired_via (fun _ _ => tup1_tps (Tps.of sm8)) hPc2) nD (fun v y H9 Q2 hy s9 hR q2 => ?_) (fun H9 acc s9 eD hP => ?_)
      · obtain ⟨t, us, rfl, hS, hp⟩ := hR
        refine ⟨rfl, _, rfl, t, rfl, ⟨_, Own.same_tup s9 hS⟩, fun D2 nD2 => ?_⟩
        refine lc_tupmap (st_RS (K := K)) (R1 := RS K) (xs := y) (zeroR n ++ ·) (by have := vd_len3 hV2 hy; omega) (Own.same_tup s9 hS) (paired_via (fun _ _ => rs_tps (Tps.of s9)) hp) nD2 (fun v2 y2 H10 Q3 hy2 s10 hR2 q3 => ?_) (fun H10 acc2 s10 eD2 hP2 => ?_)
        · obtain ⟨t2', rfl, hS2⟩ := hR2
          refine ⟨rfl, _, rfl, _, rfl, catA_q (Own.same_tup ((sm8.trans s9).trans s10) hfo) (Own.same_tup s10 hS2) (by rw [hzl, List.length_map, vd_len2 hV2 hy hy2]; omega) fun u H11 s11 h11 => q3 _ _ s11 ⟨u, rfl, by rw [List.map_append]; exact h11⟩⟩
        · exact ⟨D2, _, rfl, .inl (.inl eD2), fun u ob nu hob => q2 _ _ (s10.trans (same_new nu)) ⟨u, _, rfl, .inl (.inr ⟨_, upd_same⟩), paired_via (fun _ _ => rs_tps (Tps.of (same_new nu))) hP2⟩⟩
      have hlc : cvs.length ≤ 10 := by
        have := Paired.length hcv
        rw [List.length_map, List.length_take] at this
        omega
      have hla2 : acc.length ≤ 10 := by
        have := Paired.length hP
        rw [List.length_map, hV2.cjl] at this
        omega
      refine ⟨pa, D, cvs, acc, rfl, rfl, (s8.trans s9) _ _ epa, eD, Nat.le_of_lt (small2000 (by omega)), fun pl npl => ⟨pl, _, rfl, .inl (.inl upd_same), fun u ob nu hob => ⟨by show 3 ≤ sizeLine; decide, fun o no => ?_⟩⟩⟩
      have s1' := same_new (o := .lst (cvs ++ acc)) npl
      have s2' := same_new (o := .frz ob (.tup (cvs ++ acc))) nu
      have s3' := same_new (o := .tup [.ref pt, .ref pw, .ref u]) no
      have s23 := s2'.trans s3'
      have s123 := s1'.trans s23
      have s93 := s9.trans s123
      have s83 := s8.trans s93
      have s73 := sm.trans s83
      have hcj : Paired (Tup1 K (upd (upd (upd H9 pl (.lst (cvs ++ acc))) u (.frz ob (.tup (cvs ++ acc)))) o (.tup [.ref pt, .ref pw, .ref u]))) (cvs ++ acc) (besT t1 t2).cj := by
        have e : t1.cj.take n = t1.cj := List.take_of_length_le (by rw [hV1.cjl, hN]; exact Nat.le_refl _)
        rw [e] at hcv
        have hr := paired_app (paired_via (fun _ _ => tup1_tps (Tps.of s83)) hcv) (paired_via (fun _ _ => tup1_tps (Tps.of s123)) hP)
        unfold besT
        rw [hN, hM]
        exact hr
      have hpwR : Paired (RS K (upd (upd (upd H9 pl (.lst (cvs ++ acc))) u (.frz ob (.tup (cvs ++ acc)))) o (.tup [.ref pt, .ref pw, .ref u]))) (accA ++ accB) (besT t1 t2).pw := by
        have hr := paired_via (fun _ _ => rs_tps (Tps.of s73)) hPW
        unfold besT
        rw [hN, hM]
        exact hr
      exact q (.ref o) _ (sH7.trans s73) ⟨o, pt, pw, u, cvs ++ acc, rfl, .inl (.inl upd_same), Own.same_tup s93 hpt, ⟨pw, _, rfl, Own.same_tup s73 hpw, hpwR⟩, Own.same_tup s3' (.inl (.inr ⟨_, upd_same⟩)), hcj⟩
/-! ### _law_group -/
def spGroup (K : PySem.W.Frag) : Sp := fun vs H Q _ => ∃ (st : Addr) (m : Nat), vs = [.ref st, .int (m : Int)] ∧ 6 ≤ m ∧ m ≤ 125 ∧ StA H st ∧ ∀ z t H', SameX st H H' → StA H' st → TbAt K H' z t → Vd t → prodN t.ps ≤ m → t.ps.length ≤ 5 → (m ≤ 48 → RepT t) → Q z H'
theorem ok_group (T : Txt K mg) : FnOk P w K mg base CX0 25 T.a__law_group T.d__law_group ["state", "most"] (spGroup K) := by
  have G__law_take : FnOk P w K mg base CX0 1 T.a__law_take T.d__law_take ["state", "m"] spTake := ok_take T
  have G__law_flat : FnOk P w K mg base CX0 2 T.a__law_flat T.d__law_flat ["state"] (spFlat K) := ok_flat T
  have G__law_steep : FnOk P w K mg base CX0 2 T.a__law_steep T.d__law_steep ["state", "pick"] (spSteep K) := ok_steep T
  have G__law_size : FnOk P w K mg base CX0 1 T.a__law_size T.d__law_size ["table"] (spSize K) := ok_size T
  have G__law_made : FnOk P w K mg base CX0 1 T.a__law_made T.d__law_made ["primes", "powers", "conjugates"] (spMade K) := ok_made T
  have G__law_beside : FnOk P w K mg base CX0 1 T.a__law_beside T.d__law_beside ["one", "two"] (spBeside K) := ok_beside T
  have G__law_twisted : FnOk P w K mg base CX0 24 T.a__law_twisted T.d__law_twisted ["state", "table"] (spTwist K) := ok_twist T
  refine T.F__law_group.ok sc__law_group (fun vs H Q E h => ?_) (fun cdv A outer s H vs Q E hr h => ?_)
  · obtain ⟨st, m, rfl, _⟩ := h
    rfl
  · obtain ⟨st, m, rfl, hm0, hm1, hst, q⟩ := h
    refine ⟨_, (pss_cons (ps_set (i := 2) sc__law_group.nd rfl (.inl rfl) (pe_call G__law_flat (hr.mono (by decide)) (by rfl) T.g__law_flat T.F__law_flat.kp T.b__law_flat .nil pass0 (pa_cons (pv 0) pa_nil))) 
    (C8.pss_cut (ps_if (pt_cmpR op_gt (pe_call G__law_take (hr.mono (by decide)) (by rfl) T.g__law_take T.F__law_take.kp T.b__law_take .nil pass0 (pa_cons (pv 0) (pa_cons pe_int pa_nil))) pe_int (nomark _)) 
      (pss_one (ps_set (i := 2) sc__law_group.nd rfl (.inl rfl) (pe_call G__law_steep (hr.mono (by decide)) (by rfl) T.g__law_steep T.F__law_steep.kp T.b__law_steep .nil pass0 (pa_cons (pv 0) (pa_cons (pe_call G__law_take (hr.mono (by decide)) (by rfl) T.g__law_take T.F__law_take.kp T.b__law_take .nil pass0 (pa_cons (pv 0) (pa_cons pe_int pa_nil))) pa_nil))))) pss_nil) 
    (C8.pss_cut (ps_if (pt_cmpR op_gt (pe_call G__law_size (hr.mono (by decide)) (by rfl) T.g__law_size T.F__law_size.kp T.b__law_size .nil pass0 (pa_cons (pv 2) pa_nil)) (pv 1) (nomark _)) 
      (pss_one (ps_set (i := 2) sc__law_group.nd rfl (.inl rfl) (pe_call G__law_made (hr.mono (by decide)) (by rfl) T.g__law_made T.F__law_made.kp T.b__law_made .nil pass0 (pa_cons (pe_slice sl_list (pe_lst (pa_cons pe_int (pa_cons pe_int pa_nil))) po_none (po_some (pe_op op_add pe_int (pe_call G__law_take (hr.mono (by decide)) (by rfl) T.g__law_take T.F__law_take.kp T.b__law_take .nil pass0 (pa_cons (pv 0) (pa_cons pe_int pa_nil)))))) (pa_cons (pe_lst pa_nil) (pa_cons (pe_lst pa_nil) pa_nil)))))) pss_nil) 
    (pss_cons (ps_set (i := 3) sc__law_group.nd rfl (.inl rfl) (pe_op op_add pe_int (pe_call G__law_take (hr.mono (by decide)) (by rfl) T.g__law_take T.F__law_take.kp T.b__law_take .nil pass0 (pa_cons (pv 0) (pa_cons pe_int pa_nil))))) 
    (C8.pss_cut (ps_if (PW.pt (pw_and (pt_cmpR op_eq (pe_call G__law_take (hr.mono (by decide)) (by rfl) T.g__law_take T.F__law_take.kp T.b__law_take .nil pass0 (pa_cons (pv 0) (pa_cons pe_int pa_nil))) pe_int (nomark _)) (pw_and1 (pt_cmpR op_le (pe_op op_mulW (pe_call G__law_size (hr.mono (by decide)) (by rfl) T.g__law_size T.F__law_size.kp T.b__law_size .nil pass0 (pa_cons (pv 2) pa_nil)) (pv 3)) (pv 1) (nomark _))))) 
      (pss_one (ps_set (i := 2) sc__law_group.nd rfl (.inl rfl) (pe_call G__law_beside (hr.mono (by decide)) (by rfl) T.g__law_beside T.F__law_beside.kp T.b__law_beside .nil pass0 (pa_cons (pv 2) (pa_cons (pe_call G__law_made (hr.mono (by decide)) (by rfl) T.g__law_made T.F__law_made.kp T.b__law_made .nil pass0 (pa_cons (pe_lst (pa_cons (pv 3) pa_nil)) (pa_cons (pe_lst pa_nil) (pa_cons (pe_lst pa_nil) pa_nil)))) pa_nil))))) pss_nil) 
    (pss_cons (ps_for PassesOwn.never rfl (pi_range1 (by rfl) T.n_range (pa_cons (pe_call G__law_take (hr.mono (by decide)) (by rfl) T.g__law_take T.F__law_take.kp T.b__law_take .nil pass0 (pa_cons (pv 0) (pa_cons pe_int pa_nil))) pa_nil)) (pg_name (i := 4) sc__law_group.nd rfl (.inl rfl)) 
      (pss_one (ps_set (i := 2) sc__law_group.nd rfl (.inl rfl) (pe_call G__law_twisted (hr.mono (by decide)) (by rfl) T.g__law_twisted T.F__law_twisted.kp T.b__law_twisted .nil pass0 (pa_cons (pv 0) (pa_cons (pv 2) pa_nil)))))) 
    (pss_one (ps_ret (pv 2))))))))), ?_⟩
    refine ⟨_, rfl, st, rfl, hst, fun z t H1 sx1 hst1 hT1 hS1 => ?_⟩
    refine ⟨fun σ H' => SameX st H H' ∧ StA H' st ∧ ∃ z t, TbAt K H' z t ∧ Sm t ∧ σ = [some (.ref st), some (.int (m : Int)), some z, none, none], ?_, ?_⟩
    · obtain ⟨s0, t0, e0⟩ := id hst1
      refine ⟨_, rfl, st, _, s0, t0, rfl, by decide, by decide, e0, fun v s2 t2 hv0 hv1 => ⟨_, _, rfl, rfl, _, rfl, ite2 (fun c => ?_) (fun c => ?_)⟩⟩
      · refine ⟨_, rfl, _, rfl, st, _, s2, t2, rfl, by decide, by decide, upd_same, fun pk s3 t3 hp0 hp1 => ⟨st, pk, rfl, ⟨s3, t3, upd_same⟩, fun z t H2 sx2 hst2 hT2 hS2 => ?_⟩⟩
        exact ⟨sx1.trans ((SameX.put.trans SameX.put).trans sx2), hst2, z, t, hT2, hS2, rfl⟩
      · exact ⟨sx1.trans SameX.put, ⟨s2, t2, upd_same⟩, z, t, hT1.tps (Tps.x SameX.put e0), hS1, rfl⟩
    clear hT1 hS1 sx1 hst1
    rintro σ H1 ⟨sx1, hst1, z, t, hT1, hS1, rfl⟩
    refine ⟨fun σ H' => SameX st H H' ∧ StA H' st ∧ ∃ z t, TbAt K H' z t ∧ Sm t ∧ prodN t.ps ≤ m ∧ σ = [some (.ref st), some (.int (m : Int)), some z, none, none], ?_, ?_⟩
    · have hs125 := hS1.sz
      refine ⟨_, rfl, z, t, rfl, hT1, hS1.vd.pr, by omega, _, rfl, _, _, rfl, rfl, _, rfl, ite2 (fun c => ?_) (fun c => ?_)⟩
      · obtain ⟨s0, t0, e0⟩ := hst1
        refine ⟨by show 2 ≤ sizeLine; decide, fun l nl => ?_⟩
        have hls : st ≠ l := ne_of_none e0 nl
        unfold tNoPart
        refine ⟨_, rfl, st, _, s0, t0, rfl, by decide, by decide, by rw [upd_ne hls]; exact e0, fun v s2 t2 hv0 hv1 => ⟨_, _, rfl, rfl, _, rfl, l, _, rfl, .inl (.inl (by rw [upd_ne hls.symm]; exact upd_same)), fun c2 nc => ⟨Nat.zero_le _, fun l1 n1 => ⟨Nat.zero_le _, fun l2 n2 => ?_⟩⟩⟩⟩
        have hv : ∃ ps : List Int, cutV [V.int 2, V.int 3] none (some (1 + v)) = ps.map V.int ∧ VB ps [] [] ∧ prodN ps ≤ 6 := by
          rcases (by omega : v = 0 ∨ v = 1) with rfl | rfl
          · exact ⟨[2], rfl, by decide +kernel, by decide⟩
          · exact ⟨[2, 3], rfl, by decide +kernel, by decide⟩
        obtain ⟨ps, ep, hb, hp6⟩ := hv
        have sx2 : SameX st H1 (upd (upd H1 l (.lst [.int 2, .int 3])) st (.lst [.int s2, .int t2])) := (Same.x (same_new nl)).trans SameX.put
        have est2 : (upd (upd H1 l (.lst [.int 2, .int 3])) st (.lst [.int s2, .int t2])) st = some (.lst [.int s2, .int t2]) := upd_same
        generalize upd (upd H1 l (.lst [.int 2, .int 3])) st (.lst [.int s2, .int t2]) = H2 at *
        have sc := same_new (o := .lst (cutV [V.int 2, V.int 3] none (some (1 + v)))) nc
        have s1' := same_new (o := .lst []) n1
        have s2' := same_new (o := .lst []) n2
        refine made_use (E := E0) (ps := ps) (pws := []) (cjs := []) (has_of_ints ((s1'.trans s2') _ _ (by rw [← ep]; exact upd_same))) (has_nil (s2' _ _ upd_same)) (has_nil upd_same) hb fun z H' s h => ?_
        exact ⟨((sx1.trans sx2).trans (Same.x (sc.trans (s1'.trans (s2'.trans s))))), ⟨s2, t2, (sc.trans (s1'.trans (s2'.trans s))) _ _ est2⟩, z, _, h, hb.sm, Nat.le_trans hp6 hm0, rfl⟩
      · have : ¬ ((prodN t.ps : Int) > (m : Int)) := fun z => c (decide_eq_true z)
        exact ⟨sx1, hst1, z, t, hT1, hS1, by omega, rfl⟩
    clear hT1 hS1 sx1 hst1
    rintro σ H1 ⟨sx1, ⟨s0, t0, e0⟩, z, t, hT1, hS1, hsz, rfl⟩
    refine ⟨_, rfl, st, _, s0, t0, rfl, by decide, by decide, e0, fun v s2 t2 hv0 hv1 => ⟨_, _, rfl, rfl, ?_⟩⟩
    refine ⟨fun σ H' => SameX st H H' ∧ StA H' st ∧ ∃ z t y3, TbAt K H' z t ∧ Vd t ∧ prodN t.ps ≤ m ∧ t.ps.length ≤ 5 ∧ (m ≤ 48 → RepT t) ∧ σ = [some (.ref st), some (.int (m : Int)), some z, y3, none], ?_, ?_⟩
    · have sx2 : SameX st H (upd H1 st (.lst [.int s2, .int t2])) := sx1.trans SameX.put
      have e2 : (upd H1 st (.lst [.int s2, .int t2])) st = some (.lst [.int s2, .int t2]) := upd_same
      have hT2 := hT1.tps (Tps.x (K := K) (SameX.put (u := .lst [.int s2, .int t2])) e0)
      have hv := hS1.vd
      have hl := hS1.len
      have hs := hS1.sz
      have hrp : m ≤ 48 → RepT t := fun c => hS1.rep (by omega)
      generalize upd H1 st (.lst [.int s2, .int t2]) = H2 at *
      refine ⟨_, rfl, st, _, s2, t2, rfl, by decide, by decide, e2, fun k s3 t3 hk0 hk1 => ⟨rfl, _, rfl, ?_⟩⟩
      have sx3 : SameX st H (upd H2 st (.lst [.int s3, .int t3])) := sx2.trans SameX.put
      have e3 : (upd H2 st (.lst [.int s3, .int t3])) st = some (.lst [.int s3, .int t3]) := upd_same
      have hT3 := hT2.tps (Tps.x (K := K) (SameX.put (u := .lst [.int s3, .int t3])) e2)
      generalize upd H2 st (.lst [.int s3, .int t3]) = H3 at *
      have stay : SameX st H H3 ∧ StA H3 st ∧ ∃ z' t' y3, TbAt K H3 z' t' ∧ Vd t' ∧ prodN t'.ps ≤ m ∧ t'.ps.length ≤ 5 ∧ (m ≤ 48 → RepT t') ∧ ([some (V.ref st), some (V.int (m : Int)), some z, some (V.int (2 + v)), none] : L2.St) = [some (.ref st), some (.int (m : Int)), some z', y3, none] := ⟨sx3, ⟨s3, t3, e3⟩, z, t, _, hT3, hv, hsz, by omega, hrp, rfl⟩
      refine ite2 (fun c => ?_) (fun c => iteF stay)
      refine ⟨_, rfl, z, t, rfl, hT3, hv.pr, by omega, _, rfl, _, _, rfl, rfl, wide_mul (a := 10) (b := 3) (by omega) (by omega) (by decide) (by decide) (by decide), _, rfl, _, _, rfl, rfl, _, rfl, ite2 (fun c => ?_) (fun c => stay)⟩
      have c2 : (prodN t.ps : Int) * (2 + v) ≤ (m : Int) := of_decide_eq_true c
      refine ⟨_, rfl, _, rfl, by show 1 ≤ sizeLine; decide, fun l nl => ⟨Nat.zero_le _, fun l1 n1 => ⟨Nat.zero_le _, fun l2 n2 => ?_⟩⟩⟩
      have s0' := same_new (o := .lst [.int (2 + v)]) nl
      have s1' := same_new (o := .lst []) n1
      have s2' := same_new (o := .lst []) n2
      have hb : VB [2 + v] [] [] := by
        rcases (by omega : v = 0 ∨ v = 1) with rfl | rfl <;> decide +kernel
      refine made_use (E := E0) (ps := [2 + v]) (pws := []) (cjs := []) (has_of_ints ((s1'.trans s2') _ _ upd_same)) (has_nil (s2' _ _ upd_same)) (has_nil upd_same) hb fun z2 H' s h => ?_
      have s3' := s0'.trans (s1'.trans (s2'.trans s))
      refine ⟨z, z2, t, _, rfl, hT3.tps (Tps.of s3'), hv, h, hb.vd, fun z' H4 s4 h4 => ?_⟩
      have hq : prodN [2 + v] = (2 + v).toNat := Nat.mul_one _
      have hmul : prodN t.ps * prodN [2 + v] ≤ m := by
        have e : ((prodN t.ps * prodN [2 + v] : Nat) : Int) = (prodN t.ps : Int) * (2 + v) := by rw [hq, Int.natCast_mul, Int.toNat_of_nonneg (by omega)]
        omega
      refine ⟨sx3.trans (Same.x (s3'.trans s4)), ⟨s3, t3, (s3'.trans s4) _ _ e3⟩, z', _, _, h4, vd_bes hv hb.vd (by show t.ps.length + 1 ≤ 10; omega) (by show prodN t.ps * prodN [2 + v] ≤ 1000; omega), ?_, ?_, ?_, rfl⟩
      · show prodN (t.ps ++ [2 + v]) ≤ m
        rw [prodN_app]
        exact hmul
      · show (t.ps ++ [2 + v]).length ≤ 5
        rw [List.length_append]
        show t.ps.length + 1 ≤ 5
        omega
      · intro c
        exact rep_bes hv hb.vd (hrp c) (hb.sm.rep (by show (2 + v).toNat * 1 ≤ 48; omega))
    rintro σ H2 ⟨sx2, ⟨s1, t1, e1⟩, z, t, y3, hT2, hV2, hsz2, hl2, hR2, rfl⟩
    refine ⟨_, rfl, st, _, s1, t1, rfl, by decide, by decide, e1, fun k s3 t3 hk0 hk1 => ⟨k, rfl, by omega, by omega, ?_⟩⟩
    refine for_range (lo := 0) (n := k.toNat) (fun _ σ H' => SameX st H H' ∧ StA H' st ∧ ∃ z t y4, TbAt K H' z t ∧ Vd t ∧ prodN t.ps ≤ m ∧ t.ps.length ≤ 5 ∧ (m ≤ 48 → RepT t) ∧ σ = [some (.ref st), some (.int (m : Int)), some z, y3, y4])
      ⟨sx2.trans SameX.put, ⟨s3, t3, upd_same⟩, z, t, none, hT2.tps (Tps.x SameX.put e1), hV2, hsz2, hl2, hR2, rfl⟩ ?_ ?_
    · rintro i σ H3 hi ⟨sx3, hst3, z, t, y4, hT3, hV3, hsz3, hl3, hR3, rfl⟩
      refine ⟨_, rfl, _, rfl, st, z, t, rfl, hst3, hT3, hV3, fun z' t' H4 sx4 hst4 hT4 hV4 hps hRR => ?_⟩
      exact ⟨sx3.trans sx4, hst4, z', t', _, hT4, hV4, by rw [hps]; exact hsz3, by rw [hps]; exact hl3, fun c => hRR (hR3 c), rfl⟩
    · rintro σ H3 ⟨sx3, hst3, z, t, y4, hT3, hV3, hsz3, hl3, hR3, rfl⟩
      exact ⟨_, rfl, q z t H3 sx3 hst3 hT3 hV3 hsz3 hl3 hR3⟩
/-! ### is_integer -/
def IsI (K : PySem.W.Frag) (H : Hp) (x : V) (b : Bool) : Prop := ∃ (t : Value) (b1 b2 : Bool), TyX K H x t ∧ PySem.W.kitOne K t (.type "int") = some b1 ∧ PySem.W.kitOne K t (.type "bool") = some b2 ∧ b = (b1 && !b2) ∧ (b = true → ∃ i, x = .int i)
theorem isI_int {H : Hp} (i : Int) : IsI K H (.int i) true := ⟨_, true, false, .base (.int i), kit_ty (by decide +kernel), kit_ty (by decide +kernel), rfl, fun _ => ⟨i, rfl⟩⟩
theorem isI_bl {H : Hp} (b : Bool) : IsI K H (.bl b) false := ⟨_, true, true, .base (.bl b), kit_ty (by decide +kernel), kit_ty (by decide +kernel), rfl, fun h => Bool.noConfusion h⟩
theorem isI_non {H : Hp} : IsI K H .non false := ⟨_, false, false, .base .non, kit_ty (by decide +kernel), kit_ty (by decide +kernel), rfl, fun h => Bool.noConfusion h⟩
theorem isI_str {H : Hp} (s : Str) : IsI K H (.str s) false := ⟨_, false, false, .base (.str s), kit_ty (by decide +kernel), kit_ty (by decide +kernel), rfl, fun h => Bool.noConfusion h⟩
theorem isI_lst {H : Hp} {a : Addr} {xs : List V} (e : H a = some (.lst xs)) : IsI K H (.ref a) false := ⟨_, false, false, .base (.lst e), kit_ty (by decide +kernel), kit_ty (by decide +kernel), rfl, fun h => Bool.noConfusion h⟩
theorem isI_tup {H : Hp} {a : Addr} {xs : List V} (e : H a = some (.tup xs)) : IsI K H (.ref a) false := ⟨_, false, false, .base (.tup e), kit_ty (by decide +kernel), kit_ty (by decide +kernel), rfl, fun h => Bool.noConfusion h⟩
def spIsInt (K : PySem.W.Frag) : Sp := fun vs H Q _ => ∃ (x : V) (b : Bool), vs = [x] ∧ IsI K H x b ∧ Q (.bl b) H
theorem ok_isint (T : Txt K mg) : FnOk P w K mg base CX0 1 T.a_is_integer T.d_is_integer ["value"] (spIsInt K) := by
  refine T.F_is_integer.ok sc_is_integer (fun vs H Q E h => ?_) (fun cdv A outer s H vs Q E hr h => ?_)
  · obtain ⟨x, b, rfl, _⟩ := h
    rfl
  · obtain ⟨x, b, rfl, ⟨t, b1, b2, ty, k1, k2, rfl, _⟩, q⟩ := h
    refine ⟨_, (pss_one (ps_ret (pe_and (pe_callB call_isi (by rfl) T.n_isinstance (by decide +kernel) (pa_cons (pv 0) (pa_cons (pe_bltn (v := .ty "int") (by rfl) T.n_int (by decide +kernel) rfl) pa_nil))) (pe_one (pe_not (pe_callB call_isi (by rfl) T.n_isinstance (by decide +kernel) (pa_cons (pv 0) (pa_cons (pe_bltn (v := .ty "bool") (by rfl) T.n_bool (by decide +kernel) rfl) pa_nil)))))))), ?_⟩
    refine ⟨_, rfl, _, _, _, _, b1, rfl, .ty "int", ty, k1, b1, rfl, ?_⟩
    cases b1 with
    | true => exact iteT ⟨_, rfl, _, _, _, _, b2, rfl, .ty "bool", ty, k2, b2, rfl, q⟩
    | false => exact iteF q
/-! ### values of other forms -/
/-- a value; is it an integer; is it a tuple -/
inductive Kd (K : PySem.W.Frag) (H : Hp) : V → Bool → Bool → Prop
  | int (i : Int) : Kd K H (.int i) true false
  | bl (b : Bool) : Kd K H (.bl b) false false
  | non : Kd K H .non false false
  | str (s : Str) : Kd K H (.str s) false false
  | lst {a : Addr} {xs : List V} (e : H a = some (.lst xs)) : Kd K H (.ref a) false false
  | tup {a : Addr} {xs : List V} (e : SqT K H a xs) : Kd K H (.ref a) false true
theorem Kd.mono {H H' : Hp} {x : V} {i t : Bool} (e : Same H H') (h : Kd K H x i t) : Kd K H' x i t := by
  cases h with
  | int i => exact .int i
  | bl b => exact .bl b
  | non => exact .non
  | str s => exact .str s
  | lst h => exact .lst (e _ _ h)
  | tup h => exact .tup (Own.same_tup e h)
theorem ty_sqT {H : Hp} {a : Addr} {xs : List V} (h : SqT K H a xs) : TyX K H (.ref a) (.type "tuple") := by
  rcases h with (h | ⟨o, h⟩) | h
  · exact .base (.tup h)
  · exact .fTuple h
  · obtain ⟨o, its, k, h1, h2, _⟩ := h
    exact .kTuple h1 h2
theorem Kd.isI {H : Hp} {x : V} {i t : Bool} (h : Kd K H x i t) : IsI K H x i := by
  cases h with
  | int i => exact isI_int i
  | bl b => exact isI_bl b
  | non => exact isI_non
  | str s => exact isI_str s
  | lst h => exact isI_lst h
  | tup h => exact ⟨_, false, false, ty_sqT h, kit_ty (by decide +kernel), kit_ty (by decide +kernel), rfl, fun h => Bool.noConfusion h⟩
theorem Kd.isT {H : Hp} {x : V} {i t : Bool} (h : Kd K H x i t) : ∃ ty, TyX K H x ty ∧ PySem.W.kitOne K ty (.type "tuple") = some t := by
  cases h with
  | int i => exact ⟨_, .base (.int i), kit_ty (by decide +kernel)⟩
  | bl b => exact ⟨_, .base (.bl b), kit_ty (by decide +kernel)⟩
  | non => exact ⟨_, .base .non, kit_ty (by decide +kernel)⟩
  | str s => exact ⟨_, .base (.str s), kit_ty (by decide +kernel)⟩
  | lst h => exact ⟨_, .base (.lst h), kit_ty (by decide +kernel)⟩
  | tup h => exact ⟨_, ty_sqT h, kit_ty (by decide +kernel)⟩
/-! ### is_small_prime, _law_is_prime -/
def spSmall (K : PySem.W.Frag) : Sp := fun vs H Q _ => ∃ (x : V) (b : Bool), vs = [x] ∧ IsI K H x b ∧ Q (.bl (b && inV x ([2, 3, 5, 7, 11, 13, 17, 19, 23, 29, 31].map V.int))) H
theorem ok_small (T : Txt K mg) : FnOk P w K mg base CX0 2 T.a_is_small_prime T.d_is_small_prime ["value"] (spSmall K) := by
  have G_is_integer : FnOk P w K mg base CX0 1 T.a_is_integer T.d_is_integer ["value"] (spIsInt K) := ok_isint T
  refine T.F_is_small_prime.ok sc_is_small_prime (fun vs H Q E h => ?_) (fun cdv A outer s H vs Q E hr h => ?_)
  · obtain ⟨x, b, rfl, _⟩ := h
    rfl
  · obtain ⟨x, b, rfl, hI, q⟩ := h
    refine ⟨_, (pss_one (ps_ret (pe_and (pe_call G_is_integer (hr.mono (by decide)) (by rfl) T.g_is_integer T.F_is_integer.kp T.b_is_integer .nil pass0 (pa_cons (pv 0) pa_nil)) (pe_one (pe_cmpR op_in_seq (pv 0) (pe_glob (v := .ref T.q_SMALL_PRIMES) (by rfl) T.g_SMALL_PRIMES rfl) rfl))))), ?_⟩
    refine ⟨_, rfl, x, b, rfl, hI, b, rfl, ?_⟩
    cases b with
    | true =>
      obtain ⟨t, b1, b2, ty, k1, k2, _, hi⟩ := hI
      obtain ⟨i, rfl⟩ := hi rfl
      exact iteT ⟨_, rfl, _, _, rfl, .inr (T.t_SMALL H), rfl, by decide, q⟩
    | false => exact iteF q
def RB : Hp → V → Bool → Prop := fun _ v b => v = .bl b
theorem st_RB : Stable RB := ⟨fun _ h => h, fun _ h => h⟩
theorem bools_of {H : Hp} : ∀ {vs : List V} {bs : List Bool}, Paired (RB H) vs bs → vs = bs.map V.bl
  | _, _, .nil => rfl
  | _, _, @Paired.cons _ _ _ v b vs bs h t => by
    have e : v = .bl b := h
    rw [e, bools_of t]
    rfl
/-! ### what the class asks of its arguments, over values of any form -/
inductive Dv where
  | int (i : Int)
  | tup (l : List Dv)
  | oth
inductive AtV (K : PySem.W.Frag) (H : Hp) : V → Dv → Prop
  | int (i : Int) : AtV K H (.int i) (.int i)
  | tup {a : Addr} {us : List V} {ds : List Dv} (h : SqT K H a us) (l : us.length = ds.length) (g : ∀ (i : Nat) (u : V) (d : Dv), us[i]? = some u → ds[i]? = some d → AtV K H u d) : AtV K H (.ref a) (.tup ds)
  | oth {x : V} (h : Kd K H x false false) : AtV K H x .oth
theorem AtV.mono {H H' : Hp} {v : V} {d : Dv} (e : Same H H') (h : AtV K H v d) : AtV K H' v d := by
  induction h with
  | int i => exact .int i
  | tup h l g ih => exact .tup (Own.same_tup e h) l ih
  | oth h => exact .oth (h.mono e)
theorem AtV.isI {H : Hp} {v : V} {d : Dv} (h : AtV K H v d) : IsI K H v (match d with | .int _ => true | _ => false) := by
  cases h with
  | int i => exact isI_int i
  | tup h l g => exact (Kd.tup h).isI
  | oth h => exact h.isI
theorem AtV.isT {H : Hp} {v : V} {d : Dv} (h : AtV K H v d) : ∃ ty, TyX K H v ty ∧ PySem.W.kitOne K ty (.type "tuple") = some (match d with | .tup _ => true | _ => false) := by
  cases h with
  | int i => exact (Kd.int i).isT
  | tup h l g => exact (Kd.tup h).isT
  | oth h => exact h.isT
/-- the items of a tuple -/
def Items (K : PySem.W.Frag) (H : Hp) (us : List V) (ds : List Dv) : Prop := us.length = ds.length ∧ ∀ (i : Nat) (u : V) (d : Dv), us[i]? = some u → ds[i]? = some d → AtV K H u d
theorem AtV.tup_inv {H : Hp} {v : V} {l : List Dv} (h : AtV K H v (.tup l)) : ∃ a us, v = .ref a ∧ SqT K H a us ∧ Items K H us l := by
  cases h with
  | tup h l g => exact ⟨_, _, rfl, h, l, g⟩
def itemD (d : Dv) (p : Int) : Bool := match d with
  | .int i => decide (0 ≤ i) && decide (i < p)
  | _ => false
def rowD (d : Dv) (ps : List Int) : Bool := match d with
  | .tup l => decide (l.length = ps.length) && (List.zipWith itemD l ps).all id
  | _ => false
def zerD (d : Dv) : Bool := match d with
  | .int i => decide (i = 0)
  | _ => false
def rightD (ps : List Int) (i : Nat) (d : Dv) : Bool := rowD d ps && match d with
  | .tup l => (l.take (i + 1)).all zerD
  | _ => false
def rightsD (d : Dv) (many : Int) (ps : List Int) (i : Nat) : Bool := match d with
  | .tup l => decide ((l.length : Int) = many) && l.all (rightD ps i)
  | _ => false
def primesD (d : Dv) : Bool := match d with
  | .tup l => l.all fun d => match d with | .int i => decide (i ∈ pr31) | _ => false
  | _ => false
def powersD (d : Dv) (ps : List Int) : Bool := match d with
  | .tup l => decide (l.length = ps.length) && (List.range l.length).all fun i => rightD ps i (l.getD i .oth)
  | _ => false
def conjsD (d : Dv) (ps : List Int) : Bool := match d with
  | .tup l => decide (l.length = ps.length) && (List.range l.length).all fun i => rightsD (l.getD i .oth) ((ps.length : Int) - i - 1) ps i
  | _ => false
theorem bl_ne {x y : Int} (h : x ≠ y) : (!decide (V.int x = V.int y)) = true := by rw [decide_eq_false (fun z => h (V.int.inj z))]; rfl
theorem rowD_tup {l : List Dv} {ps : List Int} : rowD (.tup l) ps = (decide (l.length = ps.length) && (List.zipWith itemD l ps).all id) := rfl
theorem rowD_cons {d : Dv} {l : List Dv} {p : Int} {ps : List Int} : rowD (.tup (d :: l)) (p :: ps) = (itemD d p && rowD (.tup l) ps) := by
  unfold rowD
  simp only [List.zipWith_cons_cons, List.all_cons, List.length_cons, id]
  by_cases h : l.length = ps.length <;> simp [h]
theorem itemD_int {d : Dv} {p : Int} (h : itemD d p = true) : ∃ i, d = .int i ∧ 0 ≤ i ∧ i < p := by
  cases d with
  | int i =>
    unfold itemD at h
    rw [Bool.and_eq_true] at h
    exact ⟨i, rfl, of_decide_eq_true h.1, of_decide_eq_true h.2⟩
  | tup l => cases h
  | oth => cases h
/-- a row is so many ints -/
theorem rowD_ints : ∀ {ps : List Int} {l : List Dv}, rowD (.tup l) ps = true → ∃ r : List Int, l = r.map Dv.int ∧ Bl ps r
  | [], [], _ => ⟨[], rfl, rfl, fun k hk => absurd hk (Nat.not_lt_zero k)⟩
  | p :: ps, [], h => by simp [rowD] at h
  | [], d :: l, h => by simp [rowD] at h
  | p :: ps, d :: l, h => by
    rw [rowD_cons, Bool.and_eq_true] at h
    obtain ⟨i, rfl, h0, h1⟩ := itemD_int h.1
    obtain ⟨r, rfl, hb⟩ := rowD_ints h.2
    refine ⟨i :: r, rfl, by rw [List.length_cons, List.length_cons, hb.1], fun k hk => ?_⟩
    cases k with
    | zero => exact ⟨h0, h1⟩
    | succ k =>
      rw [atR_succ, atR_succ]
      exact hb.2 k (Nat.lt_of_succ_lt_succ hk)
theorem rowD_true : ∀ {ps r : List Int}, Bl ps r → rowD (.tup (r.map Dv.int)) ps = true
  | [], [], _ => rfl
  | p :: ps, [], h => by cases h.1
  | [], x :: r, h => by cases h.1
  | p :: ps, x :: r, h => by
    rw [List.map_cons, rowD_cons]
    have h0 := h.2 0 (Nat.zero_lt_succ _)
    rw [atR_cons, atR_cons] at h0
    have := rowD_true (ps := ps) (r := r) ⟨Nat.succ.inj h.1, fun k hk => h.2 (k + 1) (Nat.succ_lt_succ hk)⟩
    rw [this, Bool.and_true]
    show (decide (0 ≤ x) && decide (x < p)) = true
    rw [decide_eq_true h0.1, decide_eq_true h0.2]
    rfl
theorem items_ints {H : Hp} {us : List V} {r : List Int} (h : Items K H us (r.map Dv.int)) : us = r.map V.int := by
  apply List.ext_getElem?
  intro i
  have hl := h.1
  rw [List.length_map] at hl
  by_cases hi : i < r.length
  · have e1 : us[i]? = some us[i] := List.getElem?_eq_getElem (by omega)
    have e2 : r[i]? = some r[i] := List.getElem?_eq_getElem hi
    have := h.2 i _ (Dv.int r[i]) e1 (by rw [List.getElem?_map, e2]; rfl)
    rw [List.getElem?_map, e1, e2]
    cases hu : us[i] with
    | int z =>
      rw [hu] at this
      cases this
      rfl
    | _ => rw [hu] at this; cases this
  · rw [List.getElem?_map, List.getElem?_eq_none (by omega), List.getElem?_eq_none (by omega)]
    rfl
theorem Items.paired {H : Hp} : ∀ {us : List V} {ds : List Dv}, Items K H us ds → Paired (AtV K H) us ds
  | [], [], _ => .nil
  | [], _ :: _, h => by cases h.1
  | _ :: _, [], h => by cases h.1
  | u :: us, d :: ds, h => .cons (h.2 0 u d rfl rfl) (Items.paired ⟨Nat.succ.inj h.1, fun i u d e1 e2 => h.2 (i + 1) u d e1 e2⟩)
theorem Items.mono {H H' : Hp} {us : List V} {ds : List Dv} (e : Same H H') (h : Items K H us ds) : Items K H' us ds := ⟨h.1, fun i u d e1 e2 => (h.2 i u d e1 e2).mono e⟩
def spRowD (K : PySem.W.Frag) : Sp := fun vs H Q _ => ∃ (v : V) (pr : Addr) (d : Dv) (ps : List Int), vs = [v, .ref pr] ∧ AtV K H v d ∧ SqT K H pr (ps.map V.int) ∧ ps.length ≤ 1000 ∧ ∀ H', Same H H' → Q (.bl (rowD d ps)) H'
theorem ok_rowD (T : Txt K mg) : FnOk P w K mg base CX0 2 T.a__is_row T.d__is_row ["value", "primes"] (spRowD K) := by
  have G_is_integer : FnOk P w K mg base CX0 1 T.a_is_integer T.d_is_integer ["value"] (spIsInt K) := ok_isint T
  refine T.F__is_row.ok sc__is_row (fun vs H Q E h => ?_) (fun cdv A outer s H vs Q E hr h => ?_)
  · obtain ⟨v, pr, d, ps, rfl, _⟩ := h
    rfl
  · obtain ⟨v, pr, d, ps, rfl, hv, hp, hn, q⟩ := h
    refine ⟨_, (pss_cons (ps_if (PW.pt (pw_or (pt_not (pt_val (pe_callB call_isi (by rfl) T.n_isinstance (by decide +kernel) (pa_cons (pv 0) (pa_cons (pe_bltn (v := .ty "tuple") (by rfl) T.n_tuple (by decide +kernel) rfl) pa_nil))))) (pw_or1 (pt_cmpR op_ne (pe_callB call_len_seq (by rfl) T.n_len (by decide +kernel) (pa_cons (pv 0) pa_nil)) (pe_callB call_len_seq (by rfl) T.n_len (by decide +kernel) (pa_cons (pv 1) pa_nil)) (nomark _))))) 
      (pss_one (ps_ret pe_bl)) pss_nil) 
    (pss_one (ps_ret (pe_callB (cr_all rfl) (by rfl) T.n_all (by decide +kernel) (pa_cons (pe_lc (own := [("item", 2), ("p", 3)]) (g := gTup K 2 (gCons (gName 2) (gCons (gName 3) gNil))) rfl sc__is_row.nd (RZ.pi_zipA (by rfl) T.n_zip (pa_cons (pv 0) (pa_cons (pv 1) pa_nil))) (blkOk_by (N := N__is_row) (sc := defScope s__is_row) (own := [("item", 2), ("p", 3)]) (by decide +kernel)) (fun _ _ _ _ _ => by exact (pg_tup rfl (pgs_cons (pg_name (i := 2) sc__is_row.nd rfl (.inl rfl)) (pgs_cons (pg_name (i := 3) sc__is_row.nd rfl (.inl rfl)) pgs_nil)))) (fun _ _ _ _ _ => pts_nil) (fun _ _ _ _ _ => (pe_and (pe_call G_is_integer (hr.mono (by decide)) (by rfl) T.g_is_integer T.F_is_integer.kp T.b_is_integer .nil pass0 (pa_cons (pv 2) pa_nil)) (pe_one (pe_chain op_le op_lt pe_int (pv 2) (pv 3)))))) pa_nil))))), ?_⟩
    obtain ⟨ty, hty, hkit⟩ := hv.isT
    cases hd : d with
    | int i =>
      subst hd
      exact ⟨_, rfl, _, _, _, _, false, rfl, .ty "tuple", hty, hkit, false, rfl, iteT (q H (Same.refl H))⟩
    | oth =>
      subst hd
      exact ⟨_, rfl, _, _, _, _, false, rfl, .ty "tuple", hty, hkit, false, rfl, iteT (q H (Same.refl H))⟩
    | tup l =>
      subst hd
      obtain ⟨a, us, rfl, hS, hI⟩ := hv.tup_inv
      refine ⟨_, rfl, _, _, _, _, true, rfl, .ty "tuple", hty, hkit, true, rfl, iteF ?_⟩
      refine ⟨_, rfl, a, us, rfl, .inr hS, _, rfl, pr, _, rfl, .inr hp, rfl, _, rfl, ?_⟩
      rw [List.length_map]
      by_cases hl : l.length = ps.length
      · refine iteB (not_dec (congrArg V.int (by rw [hI.1, hl]))) ?_
        refine ⟨_, rfl, _, rfl, a, pr, us, _, rfl, .inr ⟨hS, hp, fun D nD => ?_⟩⟩
        refine lc_rep (walk_zipT (n := ps.length) (by rw [List.length_map, hI.1, hl, Nat.min_self])) st_RB (fun i => (List.zipWith itemD l ps).getD i false) (by omega) nD (fun H2 sm => ⟨Own.same_tup sm hS, Own.same_tup sm hp⟩) (fun i x H2 H3 Q2 hi sm hY q2 => ?_) (fun H2 acc sm eD hP => ?_)
        · obtain ⟨t, x1, x2, rfl, nt, rfl, g1, g2⟩ := hY
          have g1 : us[i]? = some x1 := g1
          have g2 : (ps.map V.int)[i]? = some x2 := g2
          have e2 : x2 = .int (atR ps i) := by
            rw [List.getElem?_map, atR_get hi] at g2
            exact (Option.some.inj g2).symm
          subst e2
          obtain ⟨dd, ed⟩ : ∃ dd, l[i]? = some dd := ⟨_, List.getElem?_eq_getElem (by omega)⟩
          have hx := (hI.2 i x1 dd g1 ed).mono (sm.trans (same_new (o := .tup [x1, .int (atR ps i)]) nt))
          have eg : (List.zipWith itemD l ps).getD i false = itemD dd (atR ps i) := by
            refine getD_some ?_
            rw [List.getElem?_zipWith, ed, atR_get hi]
          rw [eg] at q2
          refine ⟨t, [x1, .int (atR ps i)], rfl, .inl (.inl upd_same), rfl, _, [.int (atR ps i)], rfl, _, [], rfl, rfl, rfl, ?_⟩
          cases hx with
          | int k =>
            refine ⟨_, rfl, .int k, true, rfl, isI_int k, true, rfl, iteA rfl ?_⟩
            refine ⟨_, rfl, _, _, rfl, rfl, _, rfl, ?_⟩
            by_cases h0 : 0 ≤ k
            · refine iteA (decide_eq_true h0) ⟨_, rfl, _, _, rfl, rfl, q2 _ _ (same_new nt) ?_⟩
              show V.bl _ = V.bl (decide (0 ≤ k) && decide (k < atR ps i))
              rw [decide_eq_true h0, Bool.true_and]
            · refine iteB (decide_eq_false h0) (q2 _ _ (same_new nt) ?_)
              show V.bl _ = V.bl (decide (0 ≤ k) && decide (k < atR ps i))
              rw [decide_eq_false h0, Bool.false_and]
          | tup h hl2 g => exact ⟨_, rfl, _, false, rfl, (Kd.tup h).isI, false, rfl, iteB rfl (q2 _ _ (same_new nt) rfl)⟩
          | oth h => exact ⟨_, rfl, _, false, rfl, h.isI, false, rfl, iteB rfl (q2 _ _ (same_new nt) rfl)⟩
        · have e := bools_of hP
          have hzl : (List.zipWith itemD l ps).length = ps.length := by rw [List.length_zipWith, hl, Nat.min_self]
          have e2 : (List.range ps.length).map (fun i => (List.zipWith itemD l ps).getD i false) = List.zipWith itemD l ps := by
            rw [← hzl]
            exact map_range _ _ fun i x e => getD_some e
          rw [e2] at e
          subst e
          have hq := q H2 sm
          rw [rowD_tup, decide_eq_true hl, Bool.true_and] at hq
          exact ⟨D, _, rfl, .inl (.inl eD), hq⟩
      · refine iteA (bl_ne (by rw [hI.1]; omega)) ?_
        have hq := q H (Same.refl H)
        rw [rowD_tup, decide_eq_false hl, Bool.false_and] at hq
        exact hq
/-! ### _is_right_side, _are_right_sides, _are_primes, _are_powers, _are_conjugates, _order_of -/
theorem all_zer : ∀ r : List Int, (r.map Dv.int).all zerD = !(r.any (· != 0))
  | [] => rfl
  | x :: r => by
    rw [List.map_cons, List.all_cons, List.any_cons, all_zer r, Bool.not_or]
    congr 1
    show decide (x = 0) = !(x != 0)
    by_cases h : x = 0 <;> simp [h]
def spRight (K : PySem.W.Frag) : Sp := fun vs H Q _ => ∃ (v : V) (pr : Addr) (d : Dv) (ps : List Int) (i : Nat), vs = [v, .ref pr, .int (i : Int)] ∧ AtV K H v d ∧ SqT K H pr (ps.map V.int) ∧ ps.length ≤ 1000 ∧ i < ps.length ∧ ∀ H', Same H H' → Q (.bl (rightD ps i d)) H'
theorem ok_right (T : Txt K mg) : FnOk P w K mg base CX0 3 T.a__is_right_side T.d__is_right_side ["value", "primes", "i"] (spRight K) := by
  have G__is_row : FnOk P w K mg base CX0 2 T.a__is_row T.d__is_row ["value", "primes"] (spRowD K) := ok_rowD T
  refine T.F__is_right_side.ok sc__is_right_side (fun vs H Q E h => ?_) (fun cdv A outer s H vs Q E hr h => ?_)
  · obtain ⟨v, pr, d, ps, i, rfl, _⟩ := h
    rfl
  · obtain ⟨v, pr, d, ps, i, rfl, hv, hp, hn, hi, q⟩ := h
    refine ⟨_, (pss_one (ps_ret (pe_and (pe_call G__is_row (hr.mono (by decide)) (by rfl) T.g__is_row T.F__is_row.kp T.b__is_row .nil pass0 (pa_cons (pv 0) (pa_cons (pv 1) pa_nil))) (pe_one (pe_not (pe_callB (Own.cr_anyI rfl) (by rfl) T.n_any (by decide +kernel) (pa_cons (pe_slice sl_tupA (pv 0) po_none (po_some (pe_op op_add (pv 2) pe_int))) pa_nil))))))), ?_⟩
    refine ⟨_, rfl, _, rfl, v, pr, d, ps, rfl, hv, hp, hn, fun H1 s1 => ⟨_, rfl, ?_⟩⟩
    cases hR : rowD d ps with
    | false =>
      refine iteF ?_
      have hq := q H1 s1
      unfold rightD at hq
      rw [hR, Bool.false_and] at hq
      exact hq
    | true =>
      refine iteT ?_
      cases d with
      | int z => cases hR
      | oth => cases hR
      | tup l =>
        obtain ⟨r, rfl, hb⟩ := rowD_ints hR
        obtain ⟨a, us, rfl, hS, hI⟩ := hv.tup_inv
        have eu := items_ints hI
        subst eu
        refine ⟨_, rfl, _, rfl, _, _, rfl, rfl, (i : Int) + 1, rfl, slA_q (Own.same_tup s1 hS) fun t H2 s2 ht => ?_⟩
        rw [show (i : Int) + 1 = ((i + 1 : Nat) : Int) by omega, cut_to (by rw [List.length_map, hb.1]; omega), ← List.map_take] at ht
        refine ⟨t, r.take (i + 1), rfl, ht, _, rfl, ?_⟩
        have hq := q H2 (s1.trans s2)
        have e : rightD ps i (.tup (r.map Dv.int)) = !((r.take (i + 1)).any (· != 0)) := by
          unfold rightD
          rw [hR, Bool.true_and]
          show ((r.map Dv.int).take (i + 1)).all zerD = _
          rw [← List.map_take, all_zer]
        rw [e] at hq
        exact hq
def spRights (K : PySem.W.Frag) : Sp := fun vs H Q _ => ∃ (v : V) (pr : Addr) (d : Dv) (many : Int) (ps : List Int) (i : Nat), vs = [v, .int many, .ref pr, .int (i : Int)] ∧ AtV K H v d ∧ SqT K H pr (ps.map V.int) ∧ ps.length ≤ 1000 ∧ many ≤ 1000 ∧ i < ps.length ∧ ∀ H', Same H H' → Q (.bl (rightsD d many ps i)) H'
theorem ok_rights (T : Txt K mg) : FnOk P w K mg base CX0 4 T.a__are_right_sides T.d__are_right_sides ["value", "many", "primes", "i"] (spRights K) := by
  have G__is_right_side : FnOk P w K mg base CX0 3 T.a__is_right_side T.d__is_right_side ["value", "primes", "i"] (spRight K) := ok_right T
  refine T.F__are_right_sides.ok sc__are_right_sides (fun vs H Q E h => ?_) (fun cdv A outer s H vs Q E hr h => ?_)
  · obtain ⟨v, pr, d, many, ps, i, rfl, _⟩ := h
    rfl
  · obtain ⟨v, pr, d, many, ps, i, rfl, hv, hp, hn, hm, hi, q⟩ := h
    refine ⟨_, (pss_cons (ps_if (PW.pt (pw_or (pt_not (pt_val (pe_callB call_isi (by rfl) T.n_isinstance (by decide +kernel) (pa_cons (pv 0) (pa_cons (pe_bltn (v := .ty "tuple") (by rfl) T.n_tuple (by decide +kernel) rfl) pa_nil))))) (pw_or1 (pt_cmpR op_ne (pe_callB call_len_seq (by rfl) T.n_len (by decide +kernel) (pa_cons (pv 0) pa_nil)) (pv 1) (nomark _))))) 
      (pss_one (ps_ret pe_bl)) pss_nil) 
    (pss_one (ps_ret (pe_callB (cr_all rfl) (by rfl) T.n_all (by decide +kernel) (pa_cons (pe_lc (own := [("row", 4)]) rfl sc__are_right_sides.nd (pi_tup (pv 0)) (blkOk_by (N := N__are_right_sides) (sc := defScope s__are_right_sides) (own := [("row", 4)]) (by decide +kernel)) (fun _ _ _ _ _ => (pg_name (i := 4) sc__are_right_sides.nd rfl (.inl rfl))) (fun _ _ _ _ _ => pts_nil) (fun _ _ _ _ _ => (pe_call G__is_right_side (hr.mono (by decide)) (by rfl) T.g__is_right_side T.F__is_right_side.kp T.b__is_right_side .nil pass0 (pa_cons (pv 4) (pa_cons (pv 2) (pa_cons (pv 3) pa_nil)))))) pa_nil))))), ?_⟩
    obtain ⟨ty, hty, hkit⟩ := hv.isT
    cases d with
    | int z => exact ⟨_, rfl, _, _, _, _, false, rfl, .ty "tuple", hty, hkit, false, rfl, iteT (q H (Same.refl H))⟩
    | oth => exact ⟨_, rfl, _, _, _, _, false, rfl, .ty "tuple", hty, hkit, false, rfl, iteT (q H (Same.refl H))⟩
    | tup l =>
      obtain ⟨a, us, rfl, hS, hI⟩ := hv.tup_inv
      have et : ∀ (b : Bool), decide ((l.length : Int) = many) = b → rightsD (.tup l) many ps i = (b && l.all (rightD ps i)) := fun b e => by
        rw [← e]
        rfl
      refine ⟨_, rfl, _, _, _, _, true, rfl, .ty "tuple", hty, hkit, true, rfl, iteF ?_⟩
      refine ⟨_, rfl, a, us, rfl, .inr hS, _, rfl, rfl, _, rfl, ?_⟩
      by_cases hl : (l.length : Int) = many
      · refine iteB (not_dec (congrArg V.int (by rw [hI.1, hl]))) ?_
        refine ⟨_, rfl, a, rfl, ⟨_, hS⟩, fun D nD => ?_⟩
        refine lc_tupmap st_RB (R1 := AtV K) (xs := l) (rightD ps i) (by omega) hS hI.paired nD (fun x y H2 Q2 hy sm hx q2 => ?_) (fun H2 acc sm eD hP => ?_)
        · refine ⟨rfl, _, rfl, _, rfl, _, rfl, x, pr, y, ps, i, rfl, hx.mono sm, Own.same_tup sm hp, hn, hi, fun H3 s3 => q2 _ _ s3 rfl⟩
        · have e := bools_of hP
          subst e
          have hq := q H2 sm
          rw [et true (decide_eq_true hl), Bool.true_and] at hq
          refine ⟨D, _, rfl, .inl (.inl eD), ?_⟩
          rw [List.all_map]
          exact hq
      · refine iteA (bl_ne (by rw [hI.1]; omega)) ?_
        have hq := q H (Same.refl H)
        rw [et false (decide_eq_false hl), Bool.false_and] at hq
        exact hq
theorem isP_eq (d : Dv) : (match d with | .int i => decide (i ∈ pr31) | _ => false) = ((match d with | .int _ => true | _ => false) && match d with | .int i => decide (i ∈ pr31) | _ => false) := by
  cases d <;> simp
theorem inV_ints {i : Int} : ∀ {ns : List Int}, inV (.int i) (ns.map V.int) = decide (i ∈ ns)
  | [] => by simp [inV]
  | n :: ns => by
    have ih : (ns.map V.int).any (fun y => eqV y (.int i)) = decide (i ∈ ns) := inV_ints (i := i) (ns := ns)
    unfold inV
    rw [List.map_cons, List.any_cons, ih]
    have e : eqV (.int n) (.int i) = decide (n = i) := by
      by_cases h : n = i <;> simp [eqV, h]
    rw [e]
    by_cases h : n = i
    · simp [h]
    · simp [h, Ne.symm h]
def spPrimesD (K : PySem.W.Frag) : Sp := fun vs H Q _ => ∃ (v : V) (d : Dv), vs = [v] ∧ AtV K H v d ∧ (∀ l, d = .tup l → l.length ≤ 1000) ∧ ∀ H', Same H H' → Q (.bl (primesD d)) H'
def spPowersD (K : PySem.W.Frag) : Sp := fun vs H Q _ => ∃ (v : V) (pr : Addr) (d : Dv) (ps : List Int), vs = [v, .ref pr] ∧ AtV K H v d ∧ SqT K H pr (ps.map V.int) ∧ ps.length ≤ 1000 ∧ ∀ H', Same H H' → Q (.bl (powersD d ps)) H'
theorem ok_powersD (T : Txt K mg) : FnOk P w K mg base CX0 4 T.a__are_powers T.d__are_powers ["value", "primes"] (spPowersD K) := by
  have G__is_right_side : FnOk P w K mg base CX0 3 T.a__is_right_side T.d__is_right_side ["value", "primes", "i"] (spRight K) := ok_right T
  refine T.F__are_powers.ok sc__are_powers (fun vs H Q E h => ?_) (fun cdv A outer s H vs Q E hr h => ?_)
  · obtain ⟨v, pr, d, ps, rfl, _⟩ := h
    rfl
  · obtain ⟨v, pr, d, ps, rfl, hv, hp, hn, q⟩ := h
    refine ⟨_, (pss_cons (ps_if (PW.pt (pw_or (pt_not (pt_val (pe_callB call_isi (by rfl) T.n_isinstance (by decide +kernel) (pa_cons (pv 0) (pa_cons (pe_bltn (v := .ty "tuple") (by rfl) T.n_tuple (by decide +kernel) rfl) pa_nil))))) (pw_or1 (pt_cmpR op_ne (pe_callB call_len_seq (by rfl) T.n_len (by decide +kernel) (pa_cons (pv 0) pa_nil)) (pe_callB call_len_seq (by rfl) T.n_len (by decide +kernel) (pa_cons (pv 1) pa_nil)) (nomark _))))) 
      (pss_one (ps_ret pe_bl)) pss_nil) 
    (pss_one (ps_ret (pe_callB (cr_all rfl) (by rfl) T.n_all (by decide +kernel) (pa_cons (pe_lc (own := [("i", 2), ("row", 3)]) (g := gTup K 2 (gCons (gName 2) (gCons (gName 3) gNil))) rfl sc__are_powers.nd (Own.pi_enumT (by rfl) T.n_enumerate (pa_cons (pv 0) pa_nil)) (blkOk_by (N := N__are_powers) (sc := defScope s__are_powers) (own := [("i", 2), ("row", 3)]) (by decide +kernel)) (fun _ _ _ _ _ => by exact (pg_tup rfl (pgs_cons (pg_name (i := 2) sc__are_powers.nd rfl (.inl rfl)) (pgs_cons (pg_name (i := 3) sc__are_powers.nd rfl (.inl rfl)) pgs_nil)))) (fun _ _ _ _ _ => pts_nil) (fun _ _ _ _ _ => (pe_call G__is_right_side (hr.mono (by decide)) (by rfl) T.g__is_right_side T.F__is_right_side.kp T.b__is_right_side .nil pass0 (pa_cons (pv 3) (pa_cons (pv 1) (pa_cons (pv 2) pa_nil)))))) pa_nil))))), ?_⟩
    obtain ⟨ty, hty, hkit⟩ := hv.isT
    cases d with
    | int z => exact ⟨_, rfl, _, _, _, _, false, rfl, .ty "tuple", hty, hkit, false, rfl, iteT (q H (Same.refl H))⟩
    | oth => exact ⟨_, rfl, _, _, _, _, false, rfl, .ty "tuple", hty, hkit, false, rfl, iteT (q H (Same.refl H))⟩
    | tup l =>
      obtain ⟨a, us, rfl, hS, hI⟩ := hv.tup_inv
      have et : ∀ (b : Bool), decide (l.length = ps.length) = b → powersD (.tup l) ps = (b && (List.range l.length).all fun i => rightD ps i (l.getD i .oth)) := fun b e => by
        rw [← e]
        rfl
      refine ⟨_, rfl, _, _, _, _, true, rfl, .ty "tuple", hty, hkit, true, rfl, iteF ?_⟩
      refine ⟨_, rfl, a, us, rfl, .inr hS, _, rfl, pr, _, rfl, .inr hp, rfl, _, rfl, ?_⟩
      rw [List.length_map]
      by_cases hl : l.length = ps.length
      · refine iteB (not_dec (congrArg V.int (by rw [hI.1, hl]))) ?_
        refine ⟨_, rfl, a, us, rfl, hS, fun D nD => ?_⟩
        refine lc_rep (Own.walk_enumT (xs := us)) st_RB (fun i => rightD ps i (l.getD i .oth)) (by rw [hI.1]; omega) nD (fun H2 sm => Own.same_tup sm hS) (fun i x H2 H3 Q2 hi sm hY q2 => ?_) (fun H2 acc sm eD hP => ?_)
        · obtain ⟨t, x1, x2, rfl, nt, rfl, g1, g2⟩ := hY
          have e1 : x1 = .int (i : Int) := (Option.some.inj g1).symm
          subst e1
          have g2 : us[i]? = some x2 := g2
          obtain ⟨dd, ed⟩ : ∃ dd, l[i]? = some dd := ⟨_, List.getElem?_eq_getElem (by rw [← hI.1]; exact hi)⟩
          have s2 := sm.trans (same_new (o := .tup [V.int (i : Int), x2]) nt)
          rw [getD_some ed] at q2
          refine ⟨t, [.int (i : Int), x2], rfl, .inl (.inl upd_same), rfl, _, [x2], rfl, _, [], rfl, rfl, rfl, ?_⟩
          exact ⟨_, rfl, _, rfl, _, rfl, x2, pr, dd, ps, i, rfl, (hI.2 i x2 dd g2 ed).mono s2, Own.same_tup s2 hp, hn, by rw [← hl, ← hI.1]; exact hi, fun H4 s4 => q2 _ _ ((same_new nt).trans s4) rfl⟩
        · have e := bools_of hP
          rw [hI.1] at e
          subst e
          have hq := q H2 sm
          rw [et true (decide_eq_true hl), Bool.true_and] at hq
          refine ⟨D, _, rfl, .inl (.inl eD), ?_⟩
          rw [List.all_map]
          exact hq
      · refine iteA (bl_ne (by rw [hI.1]; omega)) ?_
        have hq := q H (Same.refl H)
        rw [et false (decide_eq_false hl), Bool.false_and] at hq
        exact hq
theorem ok_primesD (T : Txt K mg) : FnOk P w K mg base CX0 3 T.a__are_primes T.d__are_primes ["value"] (spPrimesD K) := by
  have G_is_small_prime : FnOk P w K mg base CX0 2 T.a_is_small_prime T.d_is_small_prime ["value"] (spSmall K) := ok_small T
  refine T.F__are_primes.ok sc__are_primes (fun vs H Q E h => ?_) (fun cdv A outer s H vs Q E hr h => ?_)
  · obtain ⟨v, d, rfl, _⟩ := h
    rfl
  · obtain ⟨v, d, rfl, hv, hl, q⟩ := h
    refine ⟨_, (pss_one (ps_ret (pe_and (pe_callB call_isi (by rfl) T.n_isinstance (by decide +kernel) (pa_cons (pv 0) (pa_cons (pe_bltn (v := .ty "tuple") (by rfl) T.n_tuple (by decide +kernel) rfl) pa_nil))) (pe_one (pe_callB (cr_all rfl) (by rfl) T.n_all (by decide +kernel) (pa_cons (pe_lc (own := [("p", 1)]) rfl sc__are_primes.nd (pi_tup (pv 0)) (blkOk_by (N := N__are_primes) (sc := defScope s__are_primes) (own := [("p", 1)]) (by decide +kernel)) (fun _ _ _ _ _ => (pg_name (i := 1) sc__are_primes.nd rfl (.inl rfl))) (fun _ _ _ _ _ => pts_nil) (fun _ _ _ _ _ => (pe_call G_is_small_prime (hr.mono (by decide)) (by rfl) T.g_is_small_prime T.F_is_small_prime.kp T.b_is_small_prime .nil pass0 (pa_cons (pv 1) pa_nil)))) pa_nil)))))), ?_⟩
    obtain ⟨ty, hty, hkit⟩ := hv.isT
    cases d with
    | int z => exact ⟨_, rfl, _, _, _, _, false, rfl, .ty "tuple", hty, hkit, false, rfl, iteF (q H (Same.refl H))⟩
    | oth => exact ⟨_, rfl, _, _, _, _, false, rfl, .ty "tuple", hty, hkit, false, rfl, iteF (q H (Same.refl H))⟩
    | tup l =>
      obtain ⟨a, us, rfl, hS, hI⟩ := hv.tup_inv
      refine ⟨_, rfl, _, _, _, _, true, rfl, .ty "tuple", hty, hkit, true, rfl, iteT ?_⟩
      refine ⟨_, rfl, a, rfl, ⟨_, hS⟩, fun D nD => ?_⟩
      refine lc_tupmap st_RB (R1 := AtV K) (xs := l) (fun d => match d with | .int i => decide (i ∈ pr31) | _ => false) (by have := hl l rfl; omega) hS hI.paired nD (fun x y H2 Q2 hy sm hx q2 => ?_) (fun H2 acc sm eD hP => ?_)
      · refine ⟨rfl, _, rfl, x, _, rfl, (hx.mono sm).isI, q2 _ _ (Same.refl _) ?_⟩
        cases hx with
        | int i =>
          show V.bl (true && inV (.int i) (pr31.map V.int)) = V.bl (decide (i ∈ pr31))
          rw [Bool.true_and, inV_ints]
        | tup h l g => rfl
        | oth h => rfl
      · have e := bools_of hP
        subst e
        refine ⟨D, _, rfl, .inl (.inl eD), ?_⟩
        rw [List.all_map]
        exact q H2 sm
def spConjsD (K : PySem.W.Frag) : Sp := fun vs H Q _ => ∃ (v : V) (pr : Addr) (d : Dv) (ps : List Int), vs = [v, .ref pr] ∧ AtV K H v d ∧ SqT K H pr (ps.map V.int) ∧ ps.length ≤ 1000 ∧ ∀ H', Same H H' → Q (.bl (conjsD d ps)) H'
theorem ok_conjsD (T : Txt K mg) : FnOk P w K mg base CX0 5 T.a__are_conjugates T.d__are_conjugates ["value", "primes"] (spConjsD K) := by
  have G__are_right_sides : FnOk P w K mg base CX0 4 T.a__are_right_sides T.d__are_right_sides ["value", "many", "primes", "i"] (spRights K) := ok_rights T
  refine T.F__are_conjugates.ok sc__are_conjugates (fun vs H Q E h => ?_) (fun cdv A outer s H vs Q E hr h => ?_)
  · obtain ⟨v, pr, d, ps, rfl, _⟩ := h
    rfl
  · obtain ⟨v, pr, d, ps, rfl, hv, hp, hn, q⟩ := h
    refine ⟨_, (pss_cons (ps_set (i := 2) sc__are_conjugates.nd rfl (.inr rfl) (pe_callB call_len_seq (by rfl) T.n_len (by decide +kernel) (pa_cons (pv 1) pa_nil))) 
    (pss_cons (ps_if (PW.pt (pw_or (pt_not (pt_val (pe_callB call_isi (by rfl) T.n_isinstance (by decide +kernel) (pa_cons (pv 0) (pa_cons (pe_bltn (v := .ty "tuple") (by rfl) T.n_tuple (by decide +kernel) rfl) pa_nil))))) (pw_or1 (pt_cmpR op_ne (pe_callB call_len_seq (by rfl) T.n_len (by decide +kernel) (pa_cons (pv 0) pa_nil)) (pv 2) (nomark _))))) 
      (pss_one (ps_ret pe_bl)) pss_nil) 
    (pss_one (ps_ret (pe_callB (cr_all rfl) (by rfl) T.n_all (by decide +kernel) (pa_cons (pe_lc (own := [("i", 3), ("rows", 4)]) (g := gTup K 2 (gCons (gName 3) (gCons (gName 4) gNil))) rfl sc__are_conjugates.nd (Own.pi_enumT (by rfl) T.n_enumerate (pa_cons (pv 0) pa_nil)) (blkOk_by (N := N__are_conjugates) (sc := defScope s__are_conjugates) (own := [("i", 3), ("rows", 4)]) (by decide +kernel)) (fun _ _ _ _ _ => by exact (pg_tup rfl (pgs_cons (pg_name (i := 3) sc__are_conjugates.nd rfl (.inl rfl)) (pgs_cons (pg_name (i := 4) sc__are_conjugates.nd rfl (.inl rfl)) pgs_nil)))) (fun _ _ _ _ _ => pts_nil) (fun _ _ _ _ _ => (pe_call G__are_right_sides (hr.mono (by decide)) (by rfl) T.g__are_right_sides T.F__are_right_sides.kp T.b__are_right_sides .nil pass0 (pa_cons (pv 4) (pa_cons (pe_op op_sub (pe_op op_sub (pv 2) (pv 3)) pe_int) (pa_cons (pv 1) (pa_cons (pv 3) pa_nil))))))) pa_nil)))))), ?_⟩
    obtain ⟨ty, hty, hkit⟩ := hv.isT
    refine ⟨_, rfl, pr, _, rfl, .inr hp, ?_⟩
    rw [List.length_map]
    cases d with
    | int z => exact ⟨_, rfl, _, _, _, _, false, rfl, .ty "tuple", hty, hkit, false, rfl, iteT (q H (Same.refl H))⟩
    | oth => exact ⟨_, rfl, _, _, _, _, false, rfl, .ty "tuple", hty, hkit, false, rfl, iteT (q H (Same.refl H))⟩
    | tup l =>
      obtain ⟨a, us, rfl, hS, hI⟩ := hv.tup_inv
      have et : ∀ (b : Bool), decide (l.length = ps.length) = b → conjsD (.tup l) ps = (b && (List.range l.length).all fun i => rightsD (l.getD i .oth) ((ps.length : Int) - i - 1) ps i) := fun b e => by
        rw [← e]
        rfl
      refine ⟨_, rfl, _, _, _, _, true, rfl, .ty "tuple", hty, hkit, true, rfl, iteF ?_⟩
      refine ⟨_, rfl, a, us, rfl, .inr hS, _, rfl, rfl, _, rfl, ?_⟩
      by_cases hl : l.length = ps.length
      · refine iteB (not_dec (congrArg V.int (by rw [hI.1, hl]))) ?_
        refine ⟨_, rfl, a, us, rfl, hS, fun D nD => ?_⟩
        refine lc_rep (Own.walk_enumT (xs := us)) st_RB (fun i => rightsD (l.getD i .oth) ((ps.length : Int) - i - 1) ps i) (by rw [hI.1]; omega) nD (fun H2 sm => Own.same_tup sm hS) (fun i x H2 H3 Q2 hi sm hY q2 => ?_) (fun H2 acc sm eD hP => ?_)
        · obtain ⟨t, x1, x2, rfl, nt, rfl, g1, g2⟩ := hY
          have e1 : x1 = .int (i : Int) := (Option.some.inj g1).symm
          subst e1
          have g2 : us[i]? = some x2 := g2
          obtain ⟨dd, ed⟩ : ∃ dd, l[i]? = some dd := ⟨_, List.getElem?_eq_getElem (by rw [← hI.1]; exact hi)⟩
          have s2 := sm.trans (same_new (o := .tup [V.int (i : Int), x2]) nt)
          rw [getD_some ed] at q2
          refine ⟨t, [.int (i : Int), x2], rfl, .inl (.inl upd_same), rfl, _, [x2], rfl, _, [], rfl, rfl, rfl, ?_⟩
          exact ⟨_, rfl, _, rfl, _, rfl, _, _, rfl, rfl, _, _, rfl, rfl, _, rfl, _, rfl, x2, pr, dd, _, ps, i, rfl, (hI.2 i x2 dd g2 ed).mono s2, Own.same_tup s2 hp, hn, by omega, by rw [← hl, ← hI.1]; exact hi, fun H4 s4 => q2 _ _ ((same_new nt).trans s4) rfl⟩
        · have e := bools_of hP
          rw [hI.1] at e
          subst e
          have hq := q H2 sm
          rw [et true (decide_eq_true hl), Bool.true_and] at hq
          refine ⟨D, _, rfl, .inl (.inl eD), ?_⟩
          rw [List.all_map]
          exact hq
      · refine iteA (bl_ne (by rw [hI.1]; omega)) ?_
        have hq := q H (Same.refl H)
        rw [et false (decide_eq_false hl), Bool.false_and] at hq
        exact hq
/-- the product of primes, however many (at most 1000) -/
def spOrderOf (K : PySem.W.Frag) : Sp := fun vs H Q _ => ∃ (pr : Addr) (ps : List Int), vs = [.ref pr] ∧ SqT K H pr (ps.map V.int) ∧ (∀ p ∈ ps, p ∈ pr31) ∧ ps.length ≤ 10 ∧ Q (.int (prodN ps : Int)) H
theorem prod31 : ∀ {rt : List Int}, (∀ p ∈ rt, p ∈ pr31) → prodN rt ≤ 32 ^ rt.length
  | [], _ => Nat.le_refl _
  | p :: rt, h => by
    have h1 := pr31_in (h p (List.mem_cons_self ..))
    have h2 := prod31 (rt := rt) fun q hq => h q (List.mem_cons_of_mem _ hq)
    rw [prodN, List.length_cons, Nat.pow_succ, Nat.mul_comm (32 ^ rt.length)]
    exact Nat.mul_le_mul (by omega) h2
theorem ok_orderOf (T : Txt K mg) : FnOk P w K mg base CX0 1 T.a__order_of T.d__order_of ["primes"] (spOrderOf K) := by
  refine T.F__order_of.ok sc__order_of (fun vs H Q E h => ?_) (fun cdv A outer s H vs Q E hr h => ?_)
  · obtain ⟨pr, ps, rfl, _⟩ := h
    rfl
  · obtain ⟨pr, ps, rfl, hp, hpr, hn, q⟩ := h
    refine ⟨_, (pss_cons (ps_set (i := 1) sc__order_of.nd rfl (.inl rfl) pe_int) 
    (pss_cons (ps_for PassesOwn.never rfl (pi_tup (pv 0)) (pg_name (i := 2) sc__order_of.nd rfl (.inl rfl)) 
      (pss_one (ps_set (i := 1) sc__order_of.nd rfl (.inl rfl) (pe_op op_mulW (pv 1) (pv 2))))) 
    (pss_one (ps_ret (pv 1))))), ?_⟩
    refine ⟨_, rfl, pr, rfl, ⟨_, hp⟩, for_tup (xs := ps.map V.int) (fun i σ H' => H' = H ∧ ∃ y2, σ = [some (.ref pr), some (.int (prodN (ps.take i) : Int)), y2])
      ⟨rfl, none, rfl⟩ (fun i σ H' _ ⟨e, _⟩ => by rw [e]; exact hp) ?_ ?_⟩
    · rintro i x σ H' hi ⟨rfl, y2, rfl⟩
      rw [List.getElem?_map] at hi
      cases hx : ps[i]? with
      | none => rw [hx] at hi; cases hi
      | some p =>
        rw [hx] at hi
        cases hi
        have hp2 := pr31_in (hpr p (List.mem_of_getElem? hx))
        have hk : prodN (ps.take i) < 2 ^ 51 := by
          have h1 := prod31 (rt := ps.take i) fun p h => hpr p (List.mem_of_mem_take h)
          have h2 : 32 ^ (ps.take i).length ≤ 32 ^ 10 := Nat.pow_le_pow_right (by decide) (by rw [List.length_take]; omega)
          have h3 : 32 ^ 10 < 2 ^ 51 := by decide
          omega
        refine ⟨_, rfl, _, rfl, _, _, rfl, rfl, wide_mul (a := 51) (b := 5 + 1) (by omega) (by omega) (by decide) (by decide) (by decide), rfl, some (.int p), ?_⟩
        rw [List.take_add_one, hx, prodN_app]
        show [_, _, _] = [_, some (V.int ((prodN (ps.take i) * (p.toNat * 1) : Nat) : Int)), _]
        rw [Nat.mul_one, Int.natCast_mul, Int.toNat_of_nonneg (by omega)]
    · rintro σ H' ⟨rfl, y2, rfl⟩
      rw [List.length_map, List.take_length]
      exact ⟨_, rfl, q⟩
/-! ### Refused -/
abbrev s_RI : Stmt := inClass (topS 4) 0
theorem sc_RI : FnScope ["self", "reason"] ["self", "reason"] (defScope s_RI) := ⟨rfl, rfl, rfl, by decide +kernel, rfl, by decide +kernel, by decide +kernel⟩
def spRI (C : Addr) : Sp := fun vs H Q _ => ∃ (a : Addr) (r : Str), vs = [.ref a, .str r] ∧ ((Str.empty ++ ("refused: " : Str)) ++ r).length ≤ sizeLine ∧ r.length ≤ sizeLine ∧ H a = some (exo a C none) ∧
  ∀ dx, H dx = none → dx ≠ a → Q .non (upd (upd H dx (exd dx [(("reason" : Str), .str r)])) a (exo a C (some dx)))
theorem ok_RI (R : RefC K mg s_RI) : FnOk P w K mg base CX0 1 R.fI R.dI ["self", "reason"] (spRI R.C) := by
  refine R.FI.ok sc_RI (fun vs H Q E h => ?_) (fun cdv A outer s H vs Q E hr h => ?_)
  · obtain ⟨a, r, rfl, _⟩ := h
    rfl
  · obtain ⟨a, r, rfl, hl, hl2, ha, q⟩ := h
    refine ⟨_, pss_cons (ps_expr (pe_finit (by rfl) R.gF R.rF R.vF (pa_cons (pv 0) (pa_cons (pe_joined (.cons pe_str (.cons (pe_fmt (pv 1)) .nil))) pa_nil)))) (pss_one (ps_ost (pv 0) (pv 1))), ?_⟩
    refine ⟨_, rfl, _, rfl, by decide +kernel, _, rfl, .inl ⟨r, rfl, hl2, r, rfl, hl, ?_⟩⟩
    refine ⟨a, R.C, _, rfl, by show 1 ≤ 1000; decide, R.ox, ha, ?_⟩
    exact ⟨_, rfl, _, rfl, a, R.C, rfl, R.ox, R.nf, .inl ⟨ha, fun dx h1 h2 => q dx h1 h2⟩⟩
/-! ### C(..) whose __init__ may raise, in a try -/
namespace Own
open PySem PySem.Spec PyProof.Rows L2
def tMakeS (C : Addr) (sp : Sp) (E : L2.St → XK) (t : TA) : TE := fun σ H Q => t σ H fun vs H1 => ∀ x dx, H1 x = none → H1 dx = none → dx ≠ x → sp (.ref x :: vs) (upd (upd H1 dx (.own x)) x (.ins C dx [])) (fun v H2 => v = .non ∧ Q (.ref x) H2) (E σ)
theorem pe_makeS {X : Cx} {CX : CXT} {k : Nat} {f C : Addr} {fd : FuncData} {ps : List Str} {sp : Sp} {E : L2.St → XK} {x : Str} {p pos : Pos} {e : Expr} {es : List Expr} {t : TA} (M : Mk X.K C f) (F : FnOk X.prog X.w X.K X.mg X.base CX k f fd ps sp) (hr : Room (k + 1) X.A) (hg : Gl X x) (hm : X.mg x = some (.ref C)) (hb : L2.Binds X.K fd ps []) (hx : ∀ σ, PassesAt CX X σ (E σ)) (ha : PA X (e :: es) t)
    (hd : (x == ("__debug__" : Str)) = false := by decide) (he : starEach (e :: es) X.env = (false, eval e X.env) :: starEach es X.env := by rfl) (hp : (backTo pos (starEach es X.env)).any (·.1) = false := by rfl) : PE X (.Call (.Name x p) (e :: es) [] pos) (tMakeS C sp E t) :=
  ⟨fun pins s σ H Q I h => wpAny_Call_Name_kw (ld_glob I hg hm (PySem.W.callWith_K (h₀ := X.base) I.ok.mod.kin M.kp (thn (ha.run pos pins s σ H _ I h) fun us s1 ⟨vs, H1, I1, r, q⟩ => ⟨I1.kIn, by
    have new := q (s1.heap.objs.size + 1) s1.heap.objs.size (I1.hok.fresh (Nat.le_succ _)) (I1.hok.fresh (Nat.le_refl _)) (Nat.ne_of_lt (Nat.lt_succ_self _))
    have J := Inv.made (C := C) I1
    have rs : Vals (V.ref (s1.heap.objs.size + 1) :: vs) (Value.ref (s1.heap.objs.size + 1) :: us) := .cons rfl r
    have len : (Value.ref (s1.heap.objs.size + 1) :: us).length = ps.length := by rw [← rs.length]; exact F.len _ _ _ _ new
    have bd := hb _ (Value.ref (s1.heap.objs.size + 1) :: us) J.kIn (by simpa using len)
    refine wpAny_call (make_map (f := f) I1.kIn M.makes M.init (beq_iff_eq.mp M.fn) (codeAny_mono (F.run _ X.stack _ _ ⟨Value.ref (s1.heap.objs.size + 1) :: us, []⟩ (Value.ref (s1.heap.objs.size + 1) :: us) _ _ (E σ) (hr.make C us []) (J.env0.make C us []) (by simpa using bd) rs new) fun z s' hq => ?_))
    match z, hq with
    | .error e, hq => exact hx σ pins _ _ e s' J hq
    | .ok (.ret u), hq =>
      obtain ⟨v, H', J', rv, ev, q3⟩ := J.after hq
      subst ev
      exact ⟨rv, V.ref (s1.heap.objs.size + 1), H', J', rfl, q3⟩⟩) he hp) hd)⟩
end Own
/-! ### the class Presentation -/
def psD : Dv → List Int
  | .tup l => l.map fun d => match d with | .int i => i | _ => 0
  | _ => []
def formD (dp dw dc : Dv) : Bool := primesD dp && (powersD dw (psD dp) && conjsD dc (psD dp))
def Big (ps : List Int) : Prop := 10 < ps.length ∨ 1024 < prodN ps
theorem primesD_ints {d : Dv} (h : primesD d = true) : d = .tup ((psD d).map Dv.int) ∧ ∀ p ∈ psD d, p ∈ pr31 := by
  cases d with
  | int i => cases h
  | oth => cases h
  | tup l =>
    have h : l.all (fun d => match d with | .int i => decide (i ∈ pr31) | _ => false) = true := h
    have key : ∀ d ∈ l, ∃ i, d = .int i ∧ i ∈ pr31 := fun d hd => by
      have := List.all_eq_true.mp h d hd
      cases d with
      | int i => exact ⟨i, rfl, of_decide_eq_true this⟩
      | tup l => cases this
      | oth => cases this
    constructor
    · show Dv.tup l = Dv.tup ((l.map _).map Dv.int)
      rw [List.map_map]
      congr 1
      have : l.map id = l.map (Dv.int ∘ fun d => match d with | .int i => i | _ => 0) := List.map_congr_left fun d hd => by
        obtain ⟨i, rfl, _⟩ := key d hd
        rfl
      rw [List.map_id] at this
      exact this
    · intro p hp
      obtain ⟨d, hd, rfl⟩ := List.mem_map.mp hp
      obtain ⟨i, rfl, hi⟩ := key d hd
      exact hi
/-- the attributes in the order in which they are set -/
def pFs (px wx cx : V) (ps : List Int) : List (Str × V) := [("n", .int (ps.length : Int)), ("primes", px), ("powers", wx), ("conjugates", cx), ("order", .int (prodN ps : Int))]
theorem pFs_eq (px wx cx : V) (ps : List Int) : putF "order" (.int (prodN ps : Int)) (putF "conjugates" cx (putF "powers" wx (putF "primes" px (putF "n" (.int (ps.length : Int)) [])))) = pFs px wx cx ps := by
  have n01 : ¬ (("n" : Str) = "primes") := by decide +kernel
  have n02 : ¬ (("n" : Str) = "powers") := by decide +kernel
  have n03 : ¬ (("n" : Str) = "conjugates") := by decide +kernel
  have n04 : ¬ (("n" : Str) = "order") := by decide +kernel
  have n12 : ¬ (("primes" : Str) = "powers") := by decide +kernel
  have n13 : ¬ (("primes" : Str) = "conjugates") := by decide +kernel
  have n14 : ¬ (("primes" : Str) = "order") := by decide +kernel
  have n23 : ¬ (("powers" : Str) = "conjugates") := by decide +kernel
  have n24 : ¬ (("powers" : Str) = "order") := by decide +kernel
  have n34 : ¬ (("conjugates" : Str) = "order") := by decide +kernel
  simp only [putF, if_neg n01, if_neg n02, if_neg n03, if_neg n04, if_neg n12, if_neg n13, if_neg n14, if_neg n23, if_neg n24, if_neg n34]
  rfl
theorem pFs_get (px wx cx : V) (ps : List Int) : (pFs px wx cx ps).lookup ("n" : Str) = some (.int (ps.length : Int)) ∧ (pFs px wx cx ps).lookup ("primes" : Str) = some px ∧ (pFs px wx cx ps).lookup ("powers" : Str) = some wx ∧ (pFs px wx cx ps).lookup ("conjugates" : Str) = some cx ∧ (pFs px wx cx ps).lookup ("order" : Str) = some (.int (prodN ps : Int)) := by
  refine ⟨?_, ?_, ?_, ?_, ?_⟩ <;> rfl
theorem pFs_no (px wx cx : V) (ps : List Int) : (pFs px wx cx ps).lookup ("is_row" : Str) = none ∧ (pFs px wx cx ps).lookup ("conjugate_row" : Str) = none ∧ (pFs px wx cx ps).lookup ("letters" : Str) = none := by
  refine ⟨?_, ?_, ?_⟩ <;> rfl
theorem sqt_ins {H : Hp} {a b C dx : Addr} {fs : List (Str × V)} {o : HO} {xs : List V} (ha : H a = some (.ins C dx fs)) (h : SqT K H b xs) : SqT K (upd H a o) b xs := by
  rcases h with (h | ⟨p, h⟩) | h
  · exact .inl (.inl (by rw [upd_ne (fun z => by rw [z, ha] at h; cases h)]; exact h))
  · exact .inl (.inr ⟨p, by rw [upd_ne (fun z => by rw [z, ha] at h; cases h)]; exact h⟩)
  · exact .inr h
/-- a Presentation at a -/
def PrAt (C : Addr) (H : Hp) (a : Addr) (px wx cx : V) (ps : List Int) : Prop := ∃ dx, H a = some (.ins C dx (pFs px wx cx ps))
def spPInit (K : PySem.W.Frag) (C CM CR : Addr) : Sp := fun vs H Q E => ∃ (a dx : Addr) (px wx cx : V) (dp dw dc : Dv), vs = [.ref a, px, wx, cx] ∧ H a = some (.ins C dx []) ∧ AtV K H px dp ∧ AtV K H wx dw ∧ AtV K H cx dc ∧ (∀ l, dp = .tup l → l.length ≤ 1000) ∧
  (formD dp dw dc = false → ∀ H', Same H H' → E (.ref CM) none H') ∧
  (formD dp dw dc = true → (Big (psD dp) → ∀ d H1 H', Same H H1 → H1 d = none → (∀ b, b ≠ d → H' b = H1 b) → H' d = some (.xd [(("reason" : Str), .str "large")]) → E (.ref CR) (some d) H') ∧
    (¬ Big (psD dp) → ∀ H', SameX a H H' → PrAt C H' a px wx cx (psD dp) → Q .non H'))
theorem ok_PInit (R : RefC K mg s_RI) (C_Malformed : ClMalformed K mg) (C_Presentation : ClPresentation K mg) (T : Txt K mg) : FnOk P w K mg base (L2.CX P w) 6 C_Presentation.a___init__ C_Presentation.d___init__ ["self", "primes", "powers", "conjugates"] (spPInit K C_Presentation.C C_Malformed.C R.C) := by
  have G__are_primes : FnOk P w K mg base CX0 3 T.a__are_primes T.d__are_primes ["value"] (spPrimesD K) := ok_primesD T
  have G__are_powers : FnOk P w K mg base CX0 4 T.a__are_powers T.d__are_powers ["value", "primes"] (spPowersD K) := ok_powersD T
  have G__are_conjugates : FnOk P w K mg base CX0 5 T.a__are_conjugates T.d__are_conjugates ["value", "primes"] (spConjsD K) := ok_conjsD T
  have G__order_of : FnOk P w K mg base CX0 1 T.a__order_of T.d__order_of ["primes"] (spOrderOf K) := ok_orderOf T
  have G_RI : FnOk P w K mg base CX0 1 R.fI R.dI ["self", "reason"] (spRI R.C) := ok_RI R
  refine C_Presentation.F___init__.okX sc_Presentation___init__ (fun vs H Q E h => ?_) (fun cdv A outer s H vs Q E hr h => ?_)
  · obtain ⟨a, dx, px, wx, cx, dp, dw, dc, rfl, _⟩ := h
    rfl
  · obtain ⟨a, dx, px, wx, cx, dp, dw, dc, rfl, ha, hp, hw, hc, hl, hE, hQ⟩ := h
    refine ⟨_, (pss_cons (ps_if (pt_not (pt_val (pe_call G__are_primes (hr.mono (by decide)) (by rfl) T.g__are_primes T.F__are_primes.kp T.b__are_primes .nil pass0 (pa_cons (pv 1) pa_nil)))) 
      (pss_one (ps_raise rfl (takes_of rfl rfl rfl rfl) (pmk_own C_Malformed.F C_Malformed.q C_Malformed.gC C_Malformed.kC (raises_own C_Malformed.eC C_Malformed.yC) rfl))) pss_nil) 
    (pss_cons (ps_if (pt_not (pt_val (pe_call G__are_powers (hr.mono (by decide)) (by rfl) T.g__are_powers T.F__are_powers.kp T.b__are_powers .nil pass0 (pa_cons (pv 2) (pa_cons (pv 1) pa_nil))))) 
      (pss_one (ps_raise rfl (takes_of rfl rfl rfl rfl) (pmk_own C_Malformed.F C_Malformed.q C_Malformed.gC C_Malformed.kC (raises_own C_Malformed.eC C_Malformed.yC) rfl))) pss_nil) 
    (pss_cons (ps_if (pt_not (pt_val (pe_call G__are_conjugates (hr.mono (by decide)) (by rfl) T.g__are_conjugates T.F__are_conjugates.kp T.b__are_conjugates .nil pass0 (pa_cons (pv 3) (pa_cons (pv 1) pa_nil))))) 
      (pss_one (ps_raise rfl (takes_of rfl rfl rfl rfl) (pmk_own C_Malformed.F C_Malformed.q C_Malformed.gC C_Malformed.kC (raises_own C_Malformed.eC C_Malformed.yC) rfl))) pss_nil) 
    (pss_cons (ps_if (PW.pt (pw_or (pt_cmpR op_gt (pe_callB call_len_seq (by rfl) T.n_len (by decide +kernel) (pa_cons (pv 1) pa_nil)) (pe_glob (v := .int 10) (by rfl) T.g_MOST_GENERATORS T.r_MOST_GENERATORS) (nomark _)) (pw_or1 (pt_cmpR op_gt (pe_call G__order_of (hr.mono (by decide)) (by rfl) T.g__order_of T.F__order_of.kp T.b__order_of .nil pass0 (pa_cons (pv 1) pa_nil)) (pe_glob (v := .int 1024) (by rfl) T.g_MOST_ORDER T.r_MOST_ORDER) (nomark _))))) 
      (pss_one (ps_raise rfl (takes_of rfl rfl rfl rfl) (pmk_oex R.ox R.iC R.tI G_RI (hr.mono (by decide)) R.bI .nil pass0 (by rfl) R.gC (pa_cons pe_str pa_nil)))) pss_nil) 
    (pss_cons (ps_fld (pv 0) (pe_callB call_len_seq (by rfl) T.n_len (by decide +kernel) (pa_cons (pv 1) pa_nil)) rfl) 
    (pss_cons (ps_fld (pv 0) (pv 1) rfl) 
    (pss_cons (ps_fld (pv 0) (pv 2) rfl) 
    (pss_cons (ps_fld (pv 0) (pv 3) rfl) 
    (pss_one (ps_fld (pv 0) (pe_call G__order_of (hr.mono (by decide)) (by rfl) T.g__order_of T.F__order_of.kp T.b__order_of .nil pass0 (pa_cons (pv 1) pa_nil)) rfl)))))))))), ?_⟩
    refine ⟨_, rfl, px, dp, rfl, hp, hl, fun H1 s1 => ⟨_, rfl, ite2 (fun c1 => ?_) (fun c1 => ?_)⟩⟩
    · have e1 : primesD dp = false := by simpa using c1
      exact hE (by unfold formD; rw [e1, Bool.false_and]) H1 s1
    have e1 : primesD dp = true := by simpa using c1
    obtain ⟨ed, hpr⟩ := primesD_ints e1
    have hp' := hp
    rw [ed] at hp'
    obtain ⟨pr, us, rfl, hS, hI⟩ := hp'.tup_inv
    have eu := items_ints hI
    subst eu
    have hpl : (psD dp).length ≤ 1000 := by
      have := hl _ ed
      rw [List.length_map] at this
      exact this
    generalize hps : psD dp = ps at *
    refine ⟨_, rfl, _, rfl, wx, pr, dw, ps, rfl, hw.mono s1, Own.same_tup s1 hS, hpl, fun H2 s2 => ⟨_, rfl, ite2 (fun c2 => ?_) (fun c2 => ?_)⟩⟩
    · have e2 : powersD dw ps = false := by simpa using c2
      exact hE (by unfold formD; rw [hps, e1, e2, Bool.true_and, Bool.false_and]) H2 (s1.trans s2)
    have e2 : powersD dw ps = true := by simpa using c2
    have s12 := s1.trans s2
    refine ⟨_, rfl, _, rfl, cx, pr, dc, ps, rfl, hc.mono s12, Own.same_tup s12 hS, hpl, fun H3 s3 => ⟨_, rfl, ite2 (fun c3 => ?_) (fun c3 => ?_)⟩⟩
    · have e3 : conjsD dc ps = false := by simpa using c3
      exact hE (by unfold formD; rw [hps, e1, e2, e3, Bool.true_and, Bool.true_and]) H3 (s12.trans s3)
    have e3 : conjsD dc ps = true := by simpa using c3
    have s13 := s12.trans s3
    obtain ⟨hbig, hok⟩ := hQ (by unfold formD; rw [hps, e1, e2, e3]; rfl)
    have hS3 := Own.same_tup s13 hS
    -- raise Refused
    have lrg : Big ps → ∀ σ, tMkO R.C (spRI R.C) [] (tCons (tC (.str "large")) tNil) σ H3 fun cls d H' => E cls d H' := fun hb σ => by
      refine ⟨by show 1 ≤ 1000; decide, fun x nx => ?_⟩
      refine ⟨x, "large", rfl, by decide +kernel, by decide +kernel, upd_same, fun dy ndy hne => ⟨rfl, dy, _, upd_same, by rw [upd_ne hne, upd_same], ?_, ?_⟩⟩
      · rw [upd_ne hne] at ndy
        exact ndy
      · have nd : H3 dy = none := by
          rw [upd_ne hne] at ndy
          exact ndy
        refine hbig hb dy H3 _ s13 nd (fun b hb2 => ?_) upd_same
        rw [upd_ne hb2]
        by_cases hx : b = x
        · rw [hx, del_same, nx]
        · rw [del_ne hx, upd_ne hx, upd_ne hb2, upd_ne hx]
    refine ⟨_, rfl, pr, _, rfl, .inr hS3, ?_⟩
    rw [List.length_map]
    refine ⟨_, _, rfl, rfl, _, rfl, ite2 (fun c4 => iteT (lrg (.inl ?_) _)) (fun c4 => ?_)⟩
    · have := of_decide_eq_true c4
      omega
    have hl10 : ps.length ≤ 10 := by
      have h : ¬ ((ps.length : Int) > 10) := fun z => c4 (decide_eq_true z)
      omega
    refine ⟨_, rfl, pr, ps, rfl, hS3, hpr, hl10, _, _, rfl, rfl, _, rfl, ite2 (fun c5 => lrg (.inr ?_) _) (fun c5 => ?_)⟩
    · have := of_decide_eq_true c5
      omega
    have hnb : ¬ Big ps := by
      have h : ¬ ((prodN ps : Int) > 1024) := fun z => c5 (decide_eq_true z)
      intro hb
      rcases hb with hb | hb <;> omega
    have ha3 := s13 _ _ ha
    refine ⟨_, rfl, pr, _, rfl, .inr hS3, _, rfl, a, _, dx, _, rfl, ha3, C_Presentation.cl, C_Presentation.n_n, by decide, ?_⟩
    rw [List.length_map]
    have sx1 : SameX a H (upd H3 a (.ins C_Presentation.C dx (putF "n" (.int (ps.length : Int)) []))) := (Same.x s13).trans SameX.put
    have hS4 := sqt_ins (o := .ins C_Presentation.C dx (putF "n" (.int (ps.length : Int)) [])) ha3 hS3
    have ha4 : (upd H3 a (.ins C_Presentation.C dx (putF "n" (.int (ps.length : Int)) []))) a = some (.ins C_Presentation.C dx (putF "n" (.int (ps.length : Int)) [])) := upd_same
    generalize upd H3 a (.ins C_Presentation.C dx (putF "n" (.int (ps.length : Int)) [])) = H4 at *
    refine ⟨_, rfl, _, rfl, a, _, dx, _, rfl, ha4, C_Presentation.cl, C_Presentation.n_primes, by show 1 < 1000; decide, ?_⟩
    have sx2 := sx1.trans (SameX.put (u := .ins C_Presentation.C dx (putF "primes" (.ref pr) (putF "n" (.int (ps.length : Int)) []))))
    have hS5 := sqt_ins (o := .ins C_Presentation.C dx (putF "primes" (.ref pr) (putF "n" (.int (ps.length : Int)) []))) ha4 hS4
    refine ⟨_, rfl, _, rfl, a, _, dx, _, rfl, upd_same, C_Presentation.cl, C_Presentation.n_powers, by show 2 < 1000; decide, ?_⟩
    refine ⟨_, rfl, _, rfl, a, _, dx, _, rfl, upd_same, C_Presentation.cl, C_Presentation.n_conjugates, by show 3 < 1000; decide, ?_⟩
    refine ⟨_, rfl, pr, ps, rfl, sqt_ins upd_same (sqt_ins upd_same hS5), hpr, hl10, _, rfl, a, _, dx, _, rfl, upd_same, C_Presentation.cl, C_Presentation.n_order, by show 4 < 1000; decide, ?_⟩
    refine hok hnb _ (((sx2.trans SameX.put).trans SameX.put).trans SameX.put) ⟨dx, ?_⟩
    rw [upd_same, pFs_eq]
/-! ### conjugate_row -/
def spPConj (K : PySem.W.Frag) (C : Addr) : Sp := fun vs H Q _ => ∃ (a c t : Addr) (px wx v : V) (ps : List Int) (us vs2 : List V) (i j : Nat), vs = [.ref a, .int (i : Int), .int (j : Int)] ∧ PrAt C H a px wx (.ref c) ps ∧ SqT K H c us ∧ us[i]? = some (.ref t) ∧ SqT K H t vs2 ∧ i < j ∧ vs2[j - i - 1]? = some v ∧ Q v H
theorem ok_PConj (C_Presentation : ClPresentation K mg) (T : Txt K mg) : FnOk P w K mg base CX0 1 C_Presentation.a_conjugate_row C_Presentation.d_conjugate_row ["self", "i", "j"] (spPConj K C_Presentation.C) := by
  refine C_Presentation.F_conjugate_row.ok sc_Presentation_conjugate_row (fun vs H Q E h => ?_) (fun cdv A outer s H vs Q E hr h => ?_)
  · obtain ⟨a, c, t, px, wx, v, ps, us, vs2, i, j, rfl, _⟩ := h
    rfl
  · obtain ⟨a, c, t, px, wx, v, ps, us, vs2, i, j, rfl, ⟨dx, ha⟩, hc, hu, ht, hij, hv, q⟩ := h
    refine ⟨_, (pss_one (ps_ret (pe_ix ix_tup (pe_ix ix_tup (pe_fld (pv 0) rfl) (pv 1) (fun _ _ => rfl)) (pe_op op_sub (pe_op op_sub (pv 2) (pv 1)) pe_int) (fun _ _ => rfl)))), ?_⟩
    refine ⟨_, rfl, a, _, dx, _, _, rfl, ha, C_Presentation.cl, C_Presentation.n_conjugates, (pFs_get _ _ _ _).2.2.2.1, _, rfl, c, us, (i : Int), _, rfl, rfl, hc, atI_nat hu, _, rfl, _, rfl, _, _, rfl, rfl, _, _, rfl, rfl, t, vs2, _, v, rfl, rfl, ht, ?_, q⟩
    rw [show (j : Int) - (i : Int) - 1 = ((j - i - 1 : Nat) : Int) by omega]
    exact atI_nat hv
/-! ### letters -/
/-- the letters of a row -/
def letF : Nat → List Int → List Int
  | _, [] => []
  | k, x :: r => List.replicate x.toNat ((k : Int) + 1) ++ letF (k + 1) r
theorem letF_take : ∀ (r : List Int) (k i : Nat), i < r.length → letF k (r.take (i + 1)) = letF k (r.take i) ++ List.replicate (atR r i).toNat (((k + i : Nat) : Int) + 1)
  | [], _, _, h => by cases h
  | x :: r, k, 0, _ => by
    rw [List.take_succ_cons, List.take_zero, List.take_zero]
    simp only [letF, List.append_nil, List.nil_append, atR_cons, Nat.add_zero]
  | x :: r, k, i + 1, h => by
    rw [List.take_succ_cons, List.take_succ_cons, letF, letF, letF_take r (k + 1) i (Nat.lt_of_succ_lt_succ h), atR_succ, List.append_assoc, show k + 1 + i = k + (i + 1) by omega]
theorem letF_len : ∀ (r : List Int) (k : Nat), (∀ x ∈ r, x ≤ 31) → (letF k r).length ≤ r.length * 31
  | [], _, _ => Nat.le_refl _
  | x :: r, k, h => by
    have h1 := h x (List.mem_cons_self ..)
    have h2 := letF_len r (k + 1) fun y hy => h y (List.mem_cons_of_mem _ hy)
    rw [letF, List.length_append, List.length_replicate, List.length_cons]
    omega
def spPLet (K : PySem.W.Frag) : Sp := fun vs H Q _ => ∃ (z rv : V) (r : List Int), vs = [z, rv] ∧ RS K H rv r ∧ r.length ≤ 10 ∧ (∀ x ∈ r, 0 ≤ x ∧ x ≤ 31) ∧ ∀ H' z', Same H H' → RS K H' z' (letF 0 r) → Q z' H'
theorem ok_PLet (C_Presentation : ClPresentation K mg) (T : Txt K mg) : FnOk P w K mg base CX0 1 C_Presentation.a_letters C_Presentation.d_letters ["self", "row"] (spPLet K) := by
  refine C_Presentation.F_letters.ok sc_Presentation_letters (fun vs H Q E h => ?_) (fun cdv A outer s H vs Q E hr h => ?_)
  · obtain ⟨z, rv, r, rfl, _⟩ := h
    rfl
  · obtain ⟨z, rv, r, rfl, ⟨rt, rfl, hS⟩, hn, hx, q⟩ := h
    refine ⟨_, (pss_one (ps_ret (pe_callTy call_tuple_of (by rfl) T.n_tuple (by decide +kernel) (pa_cons (pe_lc2 (own := [("at", 2), ("item", 3), ("_", 4)]) (vs1 := [4]) (g := gTup K 2 (gCons (gName 2) (gCons (gName 3) gNil))) rfl sc_Presentation_letters.nd (Own.pi_enumT (by rfl) T.n_enumerate (pa_cons (pv 1) pa_nil)) (blkOk_by (N := N_Presentation_letters) (sc := defScope s_Presentation_letters) (own := [("at", 2), ("item", 3), ("_", 4)]) (by decide +kernel)) (by decide)
      (fun _ _ _ _ _ => by exact (pg_tup rfl (pgs_cons (pg_name (i := 2) sc_Presentation_letters.nd rfl (.inl rfl)) (pgs_cons (pg_name (i := 3) sc_Presentation_letters.nd rfl (.inl rfl)) pgs_nil)))) (fun _ _ _ _ _ => pts_nil)
      (fun _ _ _ _ _ => (pi_range1 (by rfl) T.n_range (pa_cons (pv 3) pa_nil))) (fun _ _ _ _ _ => (pg_name (i := 4) sc_Presentation_letters.nd rfl (.inl rfl))) (fun _ _ _ _ _ => pts_nil) (fun _ _ _ _ _ => (pe_op op_add (pv 2) pe_int))) pa_nil)))), ?_⟩
    refine ⟨_, rfl, rt, _, rfl, hS, fun D nD => ⟨fun i m H2 => m = r.length - i ∧ i ≤ r.length ∧ Same H H2 ∧ H2 D = some (.lst ((letF 0 (r.take i)).map V.int)), ⟨r.length, rfl, Nat.zero_le _, same_new nD, by rw [upd_same]; rfl⟩, ?_⟩⟩
    rintro i m H2 ⟨rfl, hi, sm, eD⟩
    have hS2 := Own.same_tup sm hS
    rcases Nat.lt_or_ge i r.length with c | c
    · refine .inr ⟨⟨_, _, hS2, by rw [List.getElem?_map, atR_get c]; rfl⟩, fun H' => i + 1 ≤ r.length ∧ Same H H' ∧ H' D = some (.lst ((letF 0 (r.take (i + 1))).map V.int)), fun H' ⟨h1, h2, h3⟩ => ⟨r.length - (i + 1), by omega, rfl, h1, h2, h3⟩, ?_⟩
      rintro x H3 ⟨t, y, rfl, nt, rfl, hy⟩
      have ey : y = .int (atR r i) := by
        have := hy _ hS2
        rw [List.getElem?_map, atR_get c] at this
        exact (Option.some.inj this).symm
      subst ey
      have hxi := hx _ (atR_in c)
      refine ⟨t, [.int (i : Int), .int (atR r i)], rfl, .inl (.inl upd_same), rfl, _, [.int (atR r i)], rfl, _, [], rfl, rfl, rfl, ?_⟩
      have s3 := sm.trans (same_new (o := .tup [V.int (i : Int), V.int (atR r i)]) nt)
      have eD3 := same_new (o := .tup [V.int (i : Int), V.int (atR r i)]) nt _ _ eD
      generalize upd H2 t (.tup [V.int (i : Int), V.int (atR r i)]) = H3 at *
      refine yesT ?_
      refine ⟨_, rfl, atR r i, rfl, by omega, by omega, fun j k H4 => k = (atR r i).toNat - j ∧ j ≤ (atR r i).toNat ∧ Same H H4 ∧ H4 D = some (.lst ((letF 0 (r.take i) ++ List.replicate j ((i : Int) + 1)).map V.int)), ⟨_, rfl, Nat.zero_le _, s3, by rw [List.replicate_zero, List.append_nil]; exact eD3⟩, ?_⟩
      rintro j k H4 ⟨rfl, hj, s4, eD4⟩
      rcases Nat.lt_or_ge j (atR r i).toNat with c2 | c2
      · refine .inr ⟨c2, fun H' => j + 1 ≤ (atR r i).toNat ∧ Same H H' ∧ H' D = some (.lst ((letF 0 (r.take i) ++ List.replicate (j + 1) ((i : Int) + 1)).map V.int)), fun H' ⟨h1, h2, h3⟩ => ⟨(atR r i).toNat - (j + 1), by omega, rfl, h1, h2, h3⟩, ?_⟩
        rintro x H5 ⟨rfl, rfl⟩
        refine ⟨rfl, yesT ?_⟩
        have hlen := letF_len (r.take i) 0 fun x hx' => (hx x (List.mem_of_mem_take hx')).2
        rw [List.length_take] at hlen
        refine ⟨_, rfl, _, _, rfl, rfl, _, eD4, small2000 (by rw [List.length_map, List.length_append, List.length_replicate]; omega), c2, same_mut s4 nD, ?_⟩
        rw [upd_same, List.replicate_succ', ← List.append_assoc, List.map_append (l₁ := _ ++ _)]
        rfl
      · have ej : j = (atR r i).toNat := by omega
        refine .inl ⟨c2, c, s4, ?_⟩
        rw [letF_take r 0 i c, Nat.zero_add, ← ej]
        exact eD4
    · have ei : i = r.length := by omega
      subst ei
      rw [List.take_length] at eD
      refine .inl ⟨⟨_, hS2, by rw [List.length_map]⟩, D, _, rfl, .inl ⟨.inl (.inl eD), fun u nu => ?_⟩⟩
      exact q _ _ (sm.trans (same_new nu)) ⟨u, rfl, .inl (.inl upd_same)⟩
/-! ### the collector: what stands -/
theorem letF_eq : ∀ (r : List Int) (k : Nat), letF k r = (letN k r).map fun m => ((m : Nat) : Int) + 1
  | [], _ => rfl
  | x :: r, k => by
    show List.replicate x.toNat ((k : Int) + 1) ++ letF (k + 1) r = (List.replicate x.toNat k ++ letN (k + 1) r).map _
    rw [List.map_append, List.map_replicate, letF_eq r (k + 1)]
/-- everything but the objects of S stands -/
def SameS (S : List Addr) (H H' : Hp) : Prop := ∀ b o, b ∉ S → H b = some o → H' b = some o
theorem SameS.trans {S : List Addr} {H H1 H2 : Hp} (h : SameS S H H1) (k : SameS S H1 H2) : SameS S H H2 := fun b o n e => k b o n (h b o n e)
theorem Same.s {S : List Addr} {H H' : Hp} (h : Same H H') : SameS S H H' := fun b o _ e => h b o e
theorem SameS.of1 {S : List Addr} {d : Addr} {H H' : Hp} (hd : d ∈ S) (h : Pt.SameBut d H H') : SameS S H H' := fun b o n e => h b o (fun z => n (by rw [z]; exact hd)) e
/-- the objects of S are of no kind that others look at -/
def ExtS (S : List Addr) (H : Hp) : Prop := ∀ d ∈ S, ∃ φ, H d = some (.ext φ)
theorem Tps.s {S : List Addr} {H H' : Hp} (e : SameS S H H') (hx : ExtS S H) : Tps K H H' := fun b ys h => by
  have key : ∀ o, H b = some o → (∀ φ, o ≠ .ext φ) → H' b = some o := fun o ho hne => e b o (fun hb => by
    obtain ⟨φ, h2⟩ := hx b hb
    rw [ho] at h2
    exact hne φ (Option.some.inj h2)) ho
  rcases h with (h | ⟨o, h⟩) | h
  · exact .inl (.inl (key _ h fun φ z => nomatch z))
  · exact .inl (.inr ⟨o, key _ h fun φ z => nomatch z⟩)
  · exact .inr h
theorem sql_s {S : List Addr} {H H' : Hp} (e : SameS S H H') (hx : ExtS S H) {a : Addr} {xs : List V} (h : SqL K H a xs) : SqL K H' a xs := by
  have key : ∀ o, H a = some o → (∀ φ, o ≠ .ext φ) → H' a = some o := fun o ho hne => e a o (fun hb => by
    obtain ⟨φ, h2⟩ := hx a hb
    rw [ho] at h2
    exact hne φ (Option.some.inj h2)) ho
  rcases h with (h | ⟨o, h⟩) | h
  · exact .inl (.inl (key _ h fun φ z => nomatch z))
  · exact .inl (.inr ⟨o, key _ h fun φ z => nomatch z⟩)
  · exact .inr h
theorem keep_s {S : List Addr} {H H' : Hp} (e : SameS S H H') (hx : ExtS S H) {a : Addr} {o : HO} (ho : H a = some o) (hne : ∀ φ, o ≠ .ext φ) : H' a = some o := e a o (fun hb => by
  obtain ⟨φ, h2⟩ := hx a hb
  rw [ho] at h2
  exact hne φ (Option.some.inj h2)) ho
/-- the place of the dict i, its beginning, what is moved -/
def plI (n i : Nat) : Nat := if i < n then i else i - n
def stI (t : Tb) (i : Nat) : List Int := if i < t.ps.length then zeroR t.ps.length else t.pw.getD (i - t.ps.length) []
def mvI (t : Tb) (i : Nat) (l : List Int) : List Int := tailF t t.ps.length (plI t.ps.length i) (stI t i) (letN (plI t.ps.length i + 1) l)
def DAt (P : Program) (w : World) (K : PySem.W.Frag) (H : Hp) (d : Addr) (t : Tb) (i : Nat) : Prop :=
  ∃ kvs, Pt.KD P w K H d kvs ∧ (∀ kv ∈ kvs, Bl (t.ps.drop (plI t.ps.length i + 1)) kv.1 ∧ RS K H kv.2 (mvI t i kv.1)) ∧ ∃ v, valV kvs (zeroR (t.ps.length - (plI t.ps.length i + 1))) = some v
theorem Pt.KD.keep {P : Program} {w : World} {K : PySem.W.Frag} {H H' : Hp} {d : Addr} {kvs : List (Pt.TK × V)} (tp : Tps K H H') (e : ∀ o, H d = some o → H' d = some o) (h : Pt.KD P w K H d kvs) : Pt.KD P w K H' d kvs := by
  obtain ⟨xs, h⟩ := h
  exact ⟨xs, e _ h.here, h.nm, Pt.pair_via (fun _ _ q => ⟨q.1, tp _ _ q.2.1, q.2.2⟩) h.rel, h.nd, h.few⟩
theorem DAt.keep {H H' : Hp} {d : Addr} {t : Tb} {i : Nat} (tp : Tps K H H') (e : ∀ o, H d = some o → H' d = some o) (h : DAt P w K H d t i) : DAt P w K H' d t i := by
  obtain ⟨kvs, h1, h2, h3⟩ := h
  exact ⟨kvs, h1.keep tp e, fun kv hkv => ⟨(h2 kv hkv).1, rs_tps tp (h2 kv hkv).2⟩, h3⟩
theorem DAt.ext {H : Hp} {d : Addr} {t : Tb} {i : Nat} (h : DAt P w K H d t i) : ∃ φ, H d = some (.ext φ) := by
  obtain ⟨kvs, ⟨xs, h⟩, _⟩ := h
  exact ⟨_, h.here⟩
/-- the words -/
def WdsAt (K : PySem.W.Frag) (H : Hp) (wvs : List V) (t : Tb) : Prop := ∀ j, j < t.ps.length → ∃ wt us, wvs[j]? = some (.ref wt) ∧ SqT K H wt us ∧ ∀ k, j < k → k < t.ps.length → ∃ lt, us[k]? = some (.ref lt) ∧ SqT K H lt ((letF 0 (cjW t j k)).map V.int)
/-- the attributes in the order in which they are set -/
def cFs (a wl pl cl : Addr) : List (Str × V) := [("_primes", .ref a), ("_words", .ref wl), ("_plain", .ref pl), ("_carried", .ref cl)]
theorem cFs_get (a wl pl cl : Addr) : (cFs a wl pl cl).lookup ("_primes" : Str) = some (.ref a) ∧ (cFs a wl pl cl).lookup ("_words" : Str) = some (.ref wl) ∧ (cFs a wl pl cl).lookup ("_plain" : Str) = some (.ref pl) ∧ (cFs a wl pl cl).lookup ("_carried" : Str) = some (.ref cl) := by
  refine ⟨?_, ?_, ?_, ?_⟩ <;> rfl
theorem cFs_no (a wl pl cl : Addr) : (cFs a wl pl cl).lookup ("behind" : Str) = none ∧ (cFs a wl pl cl).lookup ("_step" : Str) = none ∧ (cFs a wl pl cl).lookup ("_moved" : Str) = none := by
  refine ⟨?_, ?_, ?_⟩ <;> rfl
/-- a collector at c; its dicts are S -/
structure ClAt (P : Program) (w : World) (K : PySem.W.Frag) (C : Addr) (H : Hp) (c : Addr) (t : Tb) (S : List Addr) : Prop where
  ob : ∃ dx a wl pl cl wvs, H c = some (.ins C dx (cFs a wl pl cl)) ∧ SqT K H a (t.ps.map V.int) ∧ H wl = some (.lst wvs) ∧ WdsAt K H wvs t ∧ H pl = some (.lst ((S.take t.ps.length).map V.ref)) ∧ H cl = some (.lst ((S.drop t.ps.length).map V.ref))
  nd : S.Nodup
  len : S.length = 2 * t.ps.length
  ds : ∀ i d, S[i]? = some d → DAt P w K H d t i
theorem ClAt.exts {C : Addr} {H : Hp} {c : Addr} {t : Tb} {S : List Addr} (h : ClAt P w K C H c t S) : ExtS S H := fun d hd => by
  obtain ⟨i, e⟩ := List.mem_iff_getElem?.mp hd
  exact (h.ds i d e).ext
theorem WdsAt.tps {H H' : Hp} {wvs : List V} {t : Tb} (tp : Tps K H H') (h : WdsAt K H wvs t) : WdsAt K H' wvs t := fun j hj => by
  obtain ⟨wt, us, e1, e2, e3⟩ := h j hj
  exact ⟨wt, us, e1, tp _ _ e2, fun k h1 h2 => let ⟨lt, x, y⟩ := e3 k h1 h2; ⟨lt, x, tp _ _ y⟩⟩
theorem ClAt.keep {C : Addr} {H H' : Hp} {c : Addr} {t : Tb} {S : List Addr} (h : ClAt P w K C H c t S) (e : SameS S H H') (hd : ∀ i d, S[i]? = some d → DAt P w K H' d t i) : ClAt P w K C H' c t S := by
  have hx := h.exts
  have tp := Tps.s (K := K) e hx
  obtain ⟨dx, a, wl, pl, cl, wvs, h1, h2, h3, h4, h5, h6⟩ := h.ob
  exact ⟨⟨dx, a, wl, pl, cl, wvs, keep_s e hx h1 (fun _ z => nomatch z), tp _ _ h2, keep_s e hx h3 (fun _ z => nomatch z), h4.tps tp, keep_s e hx h5 (fun _ z => nomatch z), keep_s e hx h6 (fun _ z => nomatch z)⟩, h.nd, h.len, hd⟩
theorem ClAt.mono {C : Addr} {H H' : Hp} {c : Addr} {t : Tb} {S : List Addr} (h : ClAt P w K C H c t S) (s : Same H H') : ClAt P w K C H' c t S := h.keep (Same.s s) fun i d e => (h.ds i d e).keep (Tps.of s) fun o ho => s _ _ ho
theorem nodup_idx {α : Type} {x : α} : ∀ {l : List α} {i j : Nat}, l.Nodup → l[i]? = some x → l[j]? = some x → i = j
  | [], _, _, _, h, _ => by cases h
  | y :: l, 0, 0, _, _, _ => rfl
  | y :: l, 0, j + 1, nd, h1, h2 => by
    cases h1
    exact absurd (List.mem_of_getElem? (l := l) (i := j) h2) (List.nodup_cons.mp nd).1
  | y :: l, i + 1, 0, nd, h1, h2 => by
    cases h2
    exact absurd (List.mem_of_getElem? (l := l) (i := i) h1) (List.nodup_cons.mp nd).1
  | y :: l, i + 1, j + 1, nd, h1, h2 => congrArg (· + 1) (nodup_idx (l := l) (List.nodup_cons.mp nd).2 h1 h2)
/-- one of its dicts is changed -/
theorem ClAt.put {C : Addr} {H H' : Hp} {c d : Addr} {t : Tb} {S : List Addr} {i : Nat} (h : ClAt P w K C H c t S) (hd : S[i]? = some d) (e : Pt.SameBut d H H') (hD : DAt P w K H' d t i) : ClAt P w K C H' c t S := by
  have es := SameS.of1 (List.mem_of_getElem? hd) e
  have tp := Tps.s (K := K) es h.exts
  refine h.keep es fun k d' e2 => ?_
  by_cases c1 : d' = d
  · have ek : k = i := by
      rw [c1] at e2
      exact nodup_idx h.nd e2 hd
    rw [ek, c1]
    exact hD
  · exact (h.ds k d' e2).keep tp fun o ho => e _ _ c1 ho
theorem kd_len {H : Hp} {d : Addr} {t : Tb} {i : Nat} {kvs : List (Pt.TK × V)} (hV : Vd t) (h : Pt.KD P w K H d kvs) (hk : ∀ kv ∈ kvs, Bl (t.ps.drop (plI t.ps.length i + 1)) kv.1) : kvs.length ≤ 1000 := by
  have nd : (kvs.map (·.1)).Nodup := by
    obtain ⟨xs, h⟩ := h
    rw [paired_fst (fun _ _ q => q.1) h.rel]
    exact h.nd
  have h1 := nodup_few (m := allB (t.ps.drop (plI t.ps.length i + 1))) nd fun x hx => by
    obtain ⟨kv, hkv, rfl⟩ := List.mem_map.mp hx
    exact allB_mem (hk kv hkv)
  have h2 : ∀ (ps : List Int) (j : Nat), (∀ p ∈ ps, 2 ≤ p) → prodN (ps.drop j) ≤ prodN ps := by
    intro ps
    induction ps with
    | nil => intro j _; rw [List.drop_nil]; exact Nat.le_refl _
    | cons p ps ih =>
      intro j hp
      cases j with
      | zero => exact Nat.le_refl _
      | succ j =>
        have := ih j fun q hq => hp q (List.mem_cons_of_mem _ hq)
        have h0 := hp p List.mem_cons_self
        show prodN (ps.drop j) ≤ p.toNat * prodN ps
        have : prodN ps ≤ p.toNat * prodN ps := Nat.le_mul_of_pos_left _ (by omega)
        omega
  have h3 := h2 t.ps (plI t.ps.length i + 1) fun p hp => (pr31_in (hV.pr p hp)).1
  have h4 := hV.sz
  rw [List.length_map, allB_len] at h1
  omega
/-- the last letter of a tail -/
theorem let_last {l : List Int} {k a : Nat} (ha : a < l.length) (h0 : 0 < atR l a) (hz : ∀ i, a < i → i < l.length → atR l i = 0) : letN k l = letN k (l.take a ++ (atR l a - 1) :: l.drop (a + 1)) ++ [k + a] := by
  have ht : (l.take a).length = a := by rw [List.length_take]; omega
  have ez : l.drop (a + 1) = zeroR (l.length - (a + 1)) := by
    apply ext_at2
    · rw [List.length_drop]
      exact List.length_replicate.symm
    · intro i hi
      have hi : i < l.length - (a + 1) := by
        have : (zeroR (l.length - (a + 1))).length = l.length - (a + 1) := List.length_replicate
        omega
      rw [atR_drop, atR_zero]
      exact hz _ (by omega) (by omega)
  conv => lhs; rw [← List.take_append_drop a l, drop_cons ha, ez]
  rw [ez, letN_app, letN_app, ht]
  show letN k (l.take a) ++ (List.replicate (atR l a).toNat (k + a) ++ letN (k + a + 1) (zeroR _)) = (letN k (l.take a) ++ (List.replicate (atR l a - 1).toNat (k + a) ++ letN (k + a + 1) (zeroR _))) ++ [k + a]
  rw [letN_zeros, List.append_nil, List.append_nil, List.append_assoc, ← List.replicate_succ', show (atR l a - 1).toNat + 1 = (atR l a).toNat by omega]
theorem bl_dec {ps l : List Int} {a : Nat} (h : Bl ps l) (ha : a < ps.length) (h0 : 0 < atR l a) : Bl ps (l.take a ++ (atR l a - 1) :: l.drop (a + 1)) := by
  have ht : (l.take a).length = a := by rw [List.length_take, h.1]; omega
  refine ⟨by rw [List.length_append, ht, List.length_cons, List.length_drop, h.1]; omega, fun k hk => ?_⟩
  have hb := h.2 k hk
  rcases Nat.lt_trichotomy k a with c | c | c
  · rw [atR_app1 (by omega), atR_take c]
    exact hb
  · subst c
    rw [atR_app2 (by omega), ht, Nat.sub_self, atR_cons]
    omega
  · rw [atR_app2 (by omega), ht, show k - a = (k - a - 1) + 1 by omega, atR_succ, atR_drop, show a + 1 + (k - a - 1) = k by omega]
    exact hb
/-! ### the collector: its methods -/
def spLast (K : PySem.W.Frag) : Sp := fun vs H Q _ => ∃ (rt : Addr) (l : List Int) (a : Nat), vs = [.ref rt] ∧ SqT K H rt (l.map V.int) ∧ l.length ≤ 1000 ∧ a < l.length ∧ atR l a ≠ 0 ∧ (∀ i, a < i → i < l.length → atR l i = 0) ∧ Q (.int (a : Int)) H
theorem ok_last (T : Txt K mg) : FnOk P w K mg base CX0 1 T.a__last_place T.d__last_place ["row"] (spLast K) := by
  refine T.F__last_place.ok sc__last_place (fun vs H Q E h => ?_) (fun cdv A outer s H vs Q E hr h => ?_)
  · obtain ⟨rt, l, a, rfl, _⟩ := h
    rfl
  · obtain ⟨rt, l, a, rfl, hS, hl, ha, h0, hz, q⟩ := h
    refine ⟨_, (pss_cons (ps_set (i := 1) sc__last_place.nd rfl (.inl rfl) (pe_op op_sub (pe_callB call_len_seq (by rfl) T.n_len (by decide +kernel) (pa_cons (pv 0) pa_nil)) pe_int)) 
    (pss_cons (ps_while PassesOwn.never (pt_cmpR op_eq (pe_ix (show IxR _ (rIxT K) from ix_tup) (pv 0) (pv 1) (fun _ _ => rfl)) pe_int (nomark _)) 
      (pss_one (ps_aug (i := 1) sc__last_place.nd rfl (.inl rfl) pe_int ip_sub))) 
    (pss_one (ps_ret (pv 1))))), ?_⟩
    refine ⟨_, rfl, rt, _, rfl, .inr hS, _, _, rfl, rfl, ?_⟩
    rw [List.length_map]
    refine ⟨fun m σ H' => ∃ i : Nat, σ = [some (.ref rt), some (.int (i : Int))] ∧ a ≤ i ∧ i < l.length ∧ m = i - a ∧ H' = H, ⟨l.length - 1 - a, l.length - 1, by show [some (V.ref rt), some (V.int ((l.length : Int) - 1))] = _; rw [show ((l.length : Nat) : Int) - 1 = ((l.length - 1 : Nat) : Int) by omega], by omega, by omega, rfl, rfl⟩, ?_⟩
    rintro m σ H' ⟨i, rfl, hai, hi, rfl, rfl⟩
    refine ⟨_, rfl, _, rfl, rt, _, (i : Int), _, rfl, rfl, hS, atW hi, rfl, _, rfl, ite2 (fun c => ?_) (fun c => ?_)⟩
    · have e0 : atR l i = 0 := V.int.inj (of_decide_eq_true c)
      have hne : i ≠ a := fun z => h0 (by rw [← z]; exact e0)
      refine ⟨fun σ' H'' => ∃ k : Nat, σ' = [some (.ref rt), some (.int (k : Int))] ∧ k = i - 1 ∧ H'' = H', fun σ' H'' ⟨k, e1, e2, e3⟩ => ⟨k - a, by omega, k, e1, by omega, by omega, rfl, e3⟩, ?_⟩
      refine ⟨_, rfl, _, _, rfl, rfl, i - 1, ?_, rfl, rfl⟩
      rw [show ((i - 1 : Nat) : Int) = (i : Int) - 1 by omega]
      rfl
    · have e0 : atR l i ≠ 0 := fun z => c (decide_eq_true (by rw [z]))
      have : i = a := by
        rcases Nat.lt_or_ge a i with c2 | c2
        · exact absurd (hz i c2 hi) e0
        · omega
      subst this
      exact ⟨_, rfl, q⟩
/-- a word at a list or a tuple -/
def WordAt (K : PySem.W.Frag) (H : Hp) (v : V) (w : List Nat) : Prop := ∃ a, v = .ref a ∧ (SqL K H a (w.map fun m : Nat => V.int ((m : Int) + 1)) ∨ SqT K H a (w.map fun m : Nat => V.int ((m : Int) + 1)))
theorem WordAt.s {S : List Addr} {H H' : Hp} (e : SameS S H H') (hx : ExtS S H) {v : V} {w : List Nat} (h : WordAt K H v w) : WordAt K H' v w := by
  obtain ⟨a, e1, h⟩ := h
  exact ⟨a, e1, h.imp (sql_s e hx) (Tps.s e hx _ _)⟩
def spBehind (P : Program) (w : World) (K : PySem.W.Frag) (C : Addr) (d : Nat) : Sp := fun vs H Q _ => ∃ (c : Addr) (rv wv : V) (t : Tb) (S : List Addr) (r : List Int) (ws : List Nat), vs = [.ref c, rv, wv] ∧ ClAt P w K C H c t S ∧ Vd t ∧ RS K H rv r ∧ Bl t.ps r ∧ WordAt K H wv ws ∧ ws.length ≤ 100000 ∧ (∀ m ∈ ws, m < t.ps.length ∧ t.ps.length ≤ m + d) ∧
  ∀ z' H', SameS S H H' → ClAt P w K C H' c t S → RS K H' z' (colW t t.ps.length r ws) → Q z' H'
def spCStep (P : Program) (w : World) (K : PySem.W.Frag) (C : Addr) (d : Nat) : Sp := fun vs H Q _ => ∃ (c : Addr) (rv : V) (t : Tb) (S : List Addr) (r : List Int) (j : Nat), vs = [.ref c, rv, .int (j : Int)] ∧ ClAt P w K C H c t S ∧ Vd t ∧ RS K H rv r ∧ Bl t.ps r ∧ j < t.ps.length ∧ t.ps.length ≤ j + d ∧
  ∀ z' H', SameS S H H' → ClAt P w K C H' c t S → RS K H' z' (stpT t t.ps.length r j) → Q z' H'
def spMoved (P : Program) (w : World) (K : PySem.W.Frag) (C : Addr) (d : Nat) : Sp := fun vs H Q _ => ∃ (c kd lt : Addr) (t : Tb) (S : List Addr) (l : List Int) (j i : Nat), vs = [.ref c, .ref kd, .int (j : Int), .ref lt] ∧ ClAt P w K C H c t S ∧ Vd t ∧ S[i]? = some kd ∧ plI t.ps.length i = j ∧ j < t.ps.length ∧ t.ps.length ≤ j + d ∧ SqT K H lt (l.map V.int) ∧ Bl (t.ps.drop (j + 1)) l ∧
  ∀ z' H', SameS S H H' → ClAt P w K C H' c t S → RS K H' z' (mvI t i l) → Q z' H'
theorem ok_behind0 {d : Nat} (C_Collector : ClCollector K mg) (T : Txt K mg) (G_Collector__step : FnOk P w K mg base CX0 (3 * d + 1) C_Collector.a__step C_Collector.d__step ["self", "row", "j"] (spCStep P w K C_Collector.C d)) : FnOk P w K mg base CX0 (3 * d + 2) C_Collector.a_behind C_Collector.d_behind ["self", "row", "word"] (spBehind P w K C_Collector.C d) := by
  refine C_Collector.F_behind.ok sc_Collector_behind (fun vs H Q E h => ?_) (fun cdv A outer s H vs Q E hr h => ?_)
  · obtain ⟨c, rv, wv, t, S, r, ws, rfl, _⟩ := h
    rfl
  · obtain ⟨c, rv, wv, t, S, r, ws, rfl, hC, hV, hr_, hb, ⟨wa, rfl, hw⟩, hlen, hm, q⟩ := h
    refine ⟨_, (pss_cons (ps_for PassesOwn.never rfl (Own.pi_seqA (pv 2)) (pg_name (i := 3) sc_Collector_behind.nd rfl (.inl rfl)) 
      (pss_one (ps_set (i := 1) sc_Collector_behind.nd rfl (.inl rfl) (pe_meth (pv 0) C_Collector.cl C_Collector.m__step G_Collector__step (hr.mono (by omega)) C_Collector.b__step .nil pass0 (pa_cons (pv 1) (pa_cons (pe_op op_sub (pv 3) pe_int) pa_nil)))))) 
    (pss_one (ps_ret (pv 1)))), ?_⟩
    refine ⟨_, rfl, wa, rfl, ?_⟩
    have hx := hC.exts
    rcases hw with hw | hw
    · refine .inl ⟨⟨_, hw⟩, for_list (xs := ws.map fun m : Nat => V.int ((m : Int) + 1)) (fun i σ H' => ∃ (rv : V) (y3 : Option V), σ = [some (.ref c), some rv, some (.ref wa), y3] ∧ SameS S H H' ∧ ClAt P w K C_Collector.C H' c t S ∧ RS K H' rv (colW t t.ps.length r (ws.take i))) ⟨rv, none, rfl, Same.s (Same.refl H), hC, hr_⟩ (fun i σ H' _ ⟨_, _, _, e, _⟩ => sql_s e hx hw) (fun i x σ H' hi hP => ?_) (fun σ H' hP => ?_)⟩
      · obtain ⟨rv, y3, rfl, e, hC2, hr2⟩ := hP
        rw [List.getElem?_map] at hi
        cases hx2 : ws[i]? with
        | none => rw [hx2] at hi; cases hi
        | some m =>
          rw [hx2] at hi
          cases hi
          obtain ⟨m1, m2⟩ := hm m (List.mem_of_getElem? hx2)
          have hbi : Bl t.ps (colW t t.ps.length r (ws.take i)) := col_bl hV hb fun k hk => ⟨(hm k (List.mem_of_mem_take hk)).1, by omega⟩
          obtain ⟨dx, a, wl, pl, cl, wvs, ec, _⟩ := id hC2.ob
          refine ⟨_, rfl, c, dx, _, rfl, ec, (cFs_no _ _ _ _).2.1, ?_⟩
          refine ⟨_, rfl, _, rfl, _, _, rfl, rfl, c, rv, t, S, _, m, ?_, hC2, hV, hr2, hbi, m1, m2, fun z' H3 e3 hC3 hr3 => ?_⟩
          · exact congrArg (fun z => [V.ref c, rv, V.int z]) (by omega : (m : Int) + 1 - 1 = (m : Int))
          · refine ⟨z', _, rfl, e.trans e3, hC3, ?_⟩
            rw [List.take_add_one, hx2, col_app]
            exact hr3
      · obtain ⟨rv, y3, rfl, e, hC2, hr2⟩ := hP
        rw [List.take_of_length_le (by rw [List.length_map]; exact Nat.le_refl _)] at hr2
        exact ⟨_, rfl, q _ _ e hC2 hr2⟩
    · refine .inr ⟨⟨_, hw⟩, for_tup (xs := ws.map fun m : Nat => V.int ((m : Int) + 1)) (fun i σ H' => ∃ (rv : V) (y3 : Option V), σ = [some (.ref c), some rv, some (.ref wa), y3] ∧ SameS S H H' ∧ ClAt P w K C_Collector.C H' c t S ∧ RS K H' rv (colW t t.ps.length r (ws.take i))) ⟨rv, none, rfl, Same.s (Same.refl H), hC, hr_⟩ (fun i σ H' _ ⟨_, _, _, e, _⟩ => Tps.s e hx _ _ hw) (fun i x σ H' hi hP => ?_) (fun σ H' hP => ?_)⟩
      · obtain ⟨rv, y3, rfl, e, hC2, hr2⟩ := hP
        rw [List.getElem?_map] at hi
        cases hx2 : ws[i]? with
        | none => rw [hx2] at hi; cases hi
        | some m =>
          rw [hx2] at hi
          cases hi
          obtain ⟨m1, m2⟩ := hm m (List.mem_of_getElem? hx2)
          have hbi : Bl t.ps (colW t t.ps.length r (ws.take i)) := col_bl hV hb fun k hk => ⟨(hm k (List.mem_of_mem_take hk)).1, by omega⟩
          obtain ⟨dx, a, wl, pl, cl, wvs, ec, _⟩ := id hC2.ob
          refine ⟨_, rfl, c, dx, _, rfl, ec, (cFs_no _ _ _ _).2.1, ?_⟩
          refine ⟨_, rfl, _, rfl, _, _, rfl, rfl, c, rv, t, S, _, m, ?_, hC2, hV, hr2, hbi, m1, m2, fun z' H3 e3 hC3 hr3 => ?_⟩
          · exact congrArg (fun z => [V.ref c, rv, V.int z]) (by omega : (m : Int) + 1 - 1 = (m : Int))
          · refine ⟨z', _, rfl, e.trans e3, hC3, ?_⟩
            rw [List.take_add_one, hx2, col_app]
            exact hr3
      · obtain ⟨rv, y3, rfl, e, hC2, hr2⟩ := hP
        rw [List.take_of_length_le (by rw [List.length_map]; exact Nat.le_refl _)] at hr2
        exact ⟨_, rfl, q _ _ e hC2 hr2⟩
theorem atI_ref {S : List Addr} {i n k : Nat} {d : Addr} (hk : i < k) (h : S[i]? = some d) : atI ((S.take k).map V.ref) (i : Int) = some (.ref d) := atI_nat (by rw [List.getElem?_map, List.getElem?_take, if_pos hk, h]; rfl)
theorem ok_cstep0 {d : Nat} (C_Collector : ClCollector K mg) (T : Txt K mg) (G_Collector__moved : FnOk P w K mg base CX0 (3 * d + 3) C_Collector.a__moved C_Collector.d__moved ["self", "known", "j", "tail"] (spMoved P w K C_Collector.C (d + 1))) : FnOk P w K mg base CX0 (3 * d + 4) C_Collector.a__step C_Collector.d__step ["self", "row", "j"] (spCStep P w K C_Collector.C (d + 1)) := by
  refine C_Collector.F__step.ok sc_Collector__step (fun vs H Q E h => ?_) (fun cdv A outer s H vs Q E hr h => ?_)
  · obtain ⟨c, rv, t, S, r, j, rfl, _⟩ := h
    rfl
  · obtain ⟨c, rv, t, S, r, j, rfl, hC, hV, ⟨rt, rfl, hrS⟩, hb, hj, hd, q⟩ := h
    refine ⟨_, (pss_cons (ps_set (i := 3) sc_Collector__step.nd rfl (.inl rfl) (pe_op op_add (pe_ix (show IxR _ (rIxT K) from ix_tup) (pv 1) (pv 2) (fun _ _ => rfl)) pe_int)) 
    (C8.pss_cut (ps_if (pt_cmpR op_eq (pv 3) (pe_ix (show IxR _ (rIxT K) from ix_tup) (pe_fld (pv 0) rfl) (pv 2) (fun _ _ => rfl)) (nomark _)) 
      (pss_cons (ps_set (i := 4) sc_Collector__step.nd rfl (.inl rfl) (pe_meth (pv 0) C_Collector.cl C_Collector.m__moved G_Collector__moved (hr.mono (by omega)) C_Collector.b__moved .nil pass0 (pa_cons (pe_ix (show IxR _ (rIxL K) from ix_list) (pe_fld (pv 0) rfl) (pv 2) (fun _ _ => rfl)) (pa_cons (pv 2) (pa_cons (pe_slice sl_tupA (pv 1) (po_some (pe_op op_add (pv 2) pe_int)) po_none) pa_nil))))) 
      (pss_one (ps_set (i := 3) sc_Collector__step.nd rfl (.inl rfl) pe_int))) 
      (pss_one (ps_set (i := 4) sc_Collector__step.nd rfl (.inl rfl) (pe_meth (pv 0) C_Collector.cl C_Collector.m__moved G_Collector__moved (hr.mono (by omega)) C_Collector.b__moved .nil pass0 (pa_cons (pe_ix (show IxR _ (rIxL K) from ix_list) (pe_fld (pv 0) rfl) (pv 2) (fun _ _ => rfl)) (pa_cons (pv 2) (pa_cons (pe_slice sl_tupA (pv 1) (po_some (pe_op op_add (pv 2) pe_int)) po_none) pa_nil))))))) 
    (pss_one (ps_ret (pe_op op_catA (pe_op op_catA (pe_slice sl_tupA (pv 1) po_none (po_some (pv 2))) (pe_tup (pa_cons (pv 3) pa_nil))) (pe_slice sl_tupA (pv 4) (po_some (pe_op op_add (pv 2) pe_int)) po_none)))))), ?_⟩
    have hx := hC.exts
    have hrj := hb.2 j hj
    have hn := hV.n10
    obtain ⟨dx, a, wl, pl, cl, wvs, ec, hSa, ewl, hW, epl, ecl⟩ := id hC.ob
    have g := cFs_get a wl pl cl
    refine ⟨_, rfl, _, rfl, rt, _, (j : Int), _, rfl, rfl, hrS, atW (by rw [hb.1]; exact hj), _, _, rfl, rfl, ?_⟩
    refine ⟨fun σ H' => SameS S H H' ∧ ClAt P w K C_Collector.C H' c t S ∧ ∃ mv, σ = [some (.ref c), some (.ref rt), some (.int (j : Int)), some (.int (if atR r j + 1 = atR t.ps j then 0 else atR r j + 1)), some mv] ∧ RS K H' mv (tailF t t.ps.length j (if atR r j + 1 = atR t.ps j then t.pw.getD j [] else zeroR t.ps.length) (letN (j + 1) (r.drop (j + 1)))), ?_, ?_⟩
    · refine ⟨_, rfl, _, rfl, c, _, dx, _, _, rfl, ec, C_Collector.cl, C_Collector.n__primes, g.1, _, rfl, a, _, (j : Int), _, rfl, rfl, hSa, atW hj, rfl, _, rfl, ite2 (fun c1 => ?_) (fun c1 => ?_)⟩
      · have c2 : atR r j + 1 = atR t.ps j := V.int.inj (of_decide_eq_true c1)
        rw [if_pos c2, if_pos c2]
        obtain ⟨kd, ekd⟩ := get_some (l := S) (i := t.ps.length + j) (by rw [hC.len]; omega)
        refine ⟨_, rfl, c, dx, _, rfl, ec, (cFs_no _ _ _ _).2.2, ?_⟩
        refine ⟨_, rfl, c, _, dx, _, _, rfl, ec, C_Collector.cl, C_Collector.n__carried, g.2.2.2, _, rfl, cl, _, (j : Int), .ref kd, rfl, rfl, .inl (.inl ecl), atI_nat (by rw [List.getElem?_map, List.getElem?_drop, ekd]; rfl), _, rfl, _, rfl, _, rfl, _, _, rfl, rfl, (j : Int) + 1, rfl, ?_⟩
        unfold tNoPart
        refine slA_q (lo := some ((j : Int) + 1)) (hi := none) hrS fun lt H1 s1 hlt => ?_
        rw [show (j : Int) + 1 = ((j + 1 : Nat) : Int) by omega, cut_from (by rw [List.length_map, hb.1]; omega), ← List.map_drop] at hlt
        refine ⟨c, kd, lt, t, S, _, j, t.ps.length + j, rfl, hC.mono s1, hV, ekd, by unfold plI; rw [if_neg (by omega)]; omega, hj, hd, hlt, hb.drop (j + 1), fun z' H2 e2 hC2 hr2 => ?_⟩
        refine ⟨(Same.s s1).trans e2, hC2, z', rfl, ?_⟩
        unfold mvI stI plI at hr2
        rw [if_neg (by omega), if_neg (by omega), show t.ps.length + j - t.ps.length = j by omega] at hr2
        exact hr2
      · have c2 : ¬ atR r j + 1 = atR t.ps j := fun z => c1 (decide_eq_true (congrArg V.int z))
        rw [if_neg c2, if_neg c2]
        obtain ⟨kd, ekd⟩ := get_some (l := S) (i := j) (by rw [hC.len]; omega)
        refine ⟨_, rfl, c, dx, _, rfl, ec, (cFs_no _ _ _ _).2.2, ?_⟩
        refine ⟨_, rfl, c, _, dx, _, _, rfl, ec, C_Collector.cl, C_Collector.n__plain, g.2.2.1, _, rfl, pl, _, (j : Int), .ref kd, rfl, rfl, .inl (.inl epl), atI_nat (by rw [List.getElem?_map, List.getElem?_take, if_pos hj, ekd]; rfl), _, rfl, _, rfl, _, rfl, _, _, rfl, rfl, (j : Int) + 1, rfl, ?_⟩
        unfold tNoPart
        refine slA_q (lo := some ((j : Int) + 1)) (hi := none) hrS fun lt H1 s1 hlt => ?_
        rw [show (j : Int) + 1 = ((j + 1 : Nat) : Int) by omega, cut_from (by rw [List.length_map, hb.1]; omega), ← List.map_drop] at hlt
        refine ⟨c, kd, lt, t, S, _, j, j, rfl, hC.mono s1, hV, ekd, by unfold plI; rw [if_pos hj], hj, hd, hlt, hb.drop (j + 1), fun z' H2 e2 hC2 hr2 => ?_⟩
        refine ⟨(Same.s s1).trans e2, hC2, z', rfl, ?_⟩
        unfold mvI stI plI at hr2
        rw [if_pos hj, if_pos hj] at hr2
        exact hr2
    · rintro σ H1 ⟨e1, hC1, mv, rfl, mt, rfl, hmS⟩
      have hrS1 := Tps.s e1 hx _ _ hrS
      have hfull := stpT_full hV hb hj
      have hml : (tailF t t.ps.length j (if atR r j + 1 = atR t.ps j then t.pw.getD j [] else zeroR t.ps.length) (letN (j + 1) (r.drop (j + 1)))).length = t.ps.length := by
        obtain ⟨pr, _, epr, hpb, hpz⟩ := hV.pwv hj
        refine (tail_all hV (d := t.ps.length) hb (by omega) hj ?_ ?_).1.1
        · split
          · rw [epr]; exact hpb
          · exact blz hV
        · split
          · rw [epr]; exact hpz
          · exact zb_zeroR
      refine ⟨_, rfl, _, rfl, (j : Int), rfl, slA_q hrS1 fun pt H2 s2 hpt => ⟨_, rfl, by show 1 ≤ sizeLine; decide, fun ot not_ => ?_⟩⟩
      have s3 := same_new (o := .tup [V.int (if atR r j + 1 = atR t.ps j then 0 else atR r j + 1)]) not_
      rw [cut_to (by rw [List.length_map, hb.1]; omega), ← List.map_take] at hpt
      refine catA_q (Own.same_tup s3 hpt) (.inl (.inl upd_same)) (by rw [List.length_map, List.length_take, hb.1]; show _ + 1 ≤ 2000; omega) fun ut H4 s4 hut => ?_
      have s34 := s3.trans s4
      refine ⟨_, rfl, _, rfl, _, _, rfl, rfl, (j : Int) + 1, rfl, ?_⟩
      unfold tNoPart
      refine slA_q (lo := some ((j : Int) + 1)) (hi := none) (Own.same_tup (s2.trans s34) hmS) fun gt H5 s5 hgt => ?_
      rw [show (j : Int) + 1 = ((j + 1 : Nat) : Int) by omega, cut_from (by rw [List.length_map, hml]; omega), ← List.map_drop] at hgt
      refine catA_q (Own.same_tup s5 hut) hgt (by rw [List.length_append, List.length_map, List.length_map, List.length_take, List.length_drop, hb.1, hml]; show _ + 1 + _ ≤ 2000; omega) fun zt H6 s6 hzt => ?_
      have sall := s2.trans (s34.trans (s5.trans s6))
      refine q _ H6 (e1.trans (Same.s sall)) (hC1.mono sall) ⟨zt, rfl, ?_⟩
      rw [hfull]
      rw [List.append_assoc] at hzt
      rw [List.map_append]
      exact hzt
/-! ### the collector: moving a tail -/
/-- what waits, in the order in which it is done -/
def WOk (t : Tb) (j : Nat) : List Int → List (List Int × Nat) → Prop
  | _, [] => True
  | l, x :: rl => letN (j + 1) x.1 = letN (j + 1) l ++ [x.2] ∧ Bl (t.ps.drop (j + 1)) x.1 ∧ j < x.2 ∧ x.2 < t.ps.length ∧ WOk t j x.1 rl
def endL : List Int → List (List Int × Nat) → List Int
  | l, [] => l
  | _, x :: rl => endL x.1 rl
theorem endL_some : ∀ {rl : List (List Int × Nat)} {l : List Int}, ∀ x rest, rl = x :: rest → endL l rl = endL x.1 rest
  | _, _, _, _, rfl => rfl
def RW2 (K : PySem.W.Frag) (H : Hp) (v : V) (x : List Int × Nat) : Prop := ∃ a la, v = .ref a ∧ SqT K H a [.ref la, .int (x.2 : Int)] ∧ SqT K H la (x.1.map V.int)
theorem RW2.tps {H H' : Hp} (e : Tps K H H') {v : V} {x : List Int × Nat} (h : RW2 K H v x) : RW2 K H' v x := let ⟨a, la, e1, e2, e3⟩ := h; ⟨a, la, e1, e _ _ e2, e _ _ e3⟩
theorem tailF_add {t : Tb} {d j k : Nat} {s : List Int} {ks : List Nat} : tailF t d j s (ks ++ [k]) = timT t d (tailF t d j s ks) (cjW t j k) := by
  unfold tailF
  rw [List.foldl_append]
  rfl
theorem bl_mv {t : Tb} (hV : Vd t) {j i : Nat} {l : List Int} (hi : i < 2 * t.ps.length) (hj : plI t.ps.length i = j) (hl : Bl (t.ps.drop (j + 1)) l) : Bl t.ps (mvI t i l) := by
  have hjn : j < t.ps.length := by
    rw [← hj]
    unfold plI
    split <;> omega
  have hs : Bl t.ps (stI t i) := by
    unfold stI
    split
    · exact blz hV
    · obtain ⟨pr, _, epr, hpb, _⟩ := hV.pwv (j := i - t.ps.length) (by omega)
      rw [epr]
      exact hpb
  unfold mvI
  rw [hj]
  refine foldl_inv (P := Bl t.ps) hs fun f k hk hf => ?_
  obtain ⟨m, rfl, hm, _⟩ := mem_letN hk
  rw [hl.1, List.length_drop] at hm
  obtain ⟨M, w, _, _, e, hbw, _⟩ := hV.cjv (j := j) (k := j + 1 + m) (by omega) (by omega)
  rw [e]
  exact col_bl hV hf (letN_ok hbw)
theorem dropB {ps : List Int} {j k : Nat} {l : List Int} (h : Bl (ps.drop j) l) (hk : k < l.length) : j + k < ps.length := by
  have := h.1
  rw [List.length_drop] at this
  omega
theorem last_nz : ∀ {l : List Int}, (∃ i, i < l.length ∧ atR l i ≠ 0) → ∃ a, a < l.length ∧ atR l a ≠ 0 ∧ ∀ i, a < i → i < l.length → atR l i = 0
  | [], ⟨i, h, _⟩ => absurd h (Nat.not_lt_zero i)
  | x :: l, ⟨i, h, h0⟩ => by
    by_cases c : ∃ i, i < l.length ∧ atR l i ≠ 0
    · obtain ⟨a, a1, a2, a3⟩ := last_nz c
      refine ⟨a + 1, Nat.succ_lt_succ a1, a2, fun i hi hil => ?_⟩
      obtain ⟨k, rfl⟩ : ∃ k, i = k + 1 := ⟨i - 1, by omega⟩
      rw [atR_succ]
      exact a3 k (by omega) (Nat.lt_of_succ_lt_succ hil)
    · have hz : ∀ i, i < l.length → atR l i = 0 := fun i hi => by
        by_cases z : atR l i = 0
        · exact z
        · exact absurd ⟨i, hi, z⟩ c
      cases i with
      | zero =>
        refine ⟨0, h, h0, fun i hi hil => ?_⟩
        obtain ⟨k, rfl⟩ : ∃ k, i = k + 1 := ⟨i - 1, by omega⟩
        rw [atR_succ]
        exact hz k (Nat.lt_of_succ_lt_succ hil)
      | succ i =>
        rw [atR_succ] at h0
        exact absurd (hz i (Nat.lt_of_succ_lt_succ h)) h0
theorem zero_or {l : List Int} : l = zeroR l.length ∨ ∃ i, i < l.length ∧ atR l i ≠ 0 := by
  by_cases c : ∃ i, i < l.length ∧ atR l i ≠ 0
  · exact .inr c
  · refine .inl (ext_at2 List.length_replicate.symm fun i hi => ?_)
    have hi : i < l.length := by
      have : (zeroR l.length).length = l.length := List.length_replicate
      omega
    rw [atR_zero]
    by_cases z : atR l i = 0
    · exact z
    · exact absurd ⟨i, hi, z⟩ c
theorem letN_len : ∀ {l : List Int} {k : Nat}, (∀ i, i < l.length → atR l i ≤ 31) → (letN k l).length ≤ l.length * 31
  | [], _, _ => Nat.le_refl _
  | x :: l, k, h => by
    have h0 := h 0 (Nat.zero_lt_succ _)
    rw [atR_cons] at h0
    have h1 := letN_len (l := l) (k := k + 1) fun i hi => by
      have := h (i + 1) (Nat.succ_lt_succ hi)
      rw [atR_succ] at this
      exact this
    show (List.replicate x.toNat k ++ letN (k + 1) l).length ≤ _
    rw [List.length_append, List.length_replicate, List.length_cons]
    omega
theorem WOk.len {t : Tb} {j : Nat} : ∀ {rl : List (List Int × Nat)} {l : List Int}, WOk t j l rl → (letN (j + 1) (endL l rl)).length = (letN (j + 1) l).length + rl.length
  | [], _, _ => rfl
  | x :: rl, l, h => by
    obtain ⟨h1, _, _, _, h2⟩ := h
    show (letN (j + 1) (endL x.1 rl)).length = _
    rw [WOk.len h2, h1]
    simp only [List.length_append, List.length_cons, List.length_nil]
    omega
def WMv (K : PySem.W.Frag) (t : Tb) (H : Hp) (c kd lt wt : Addr) (j : Nat) (l0 : List Int) (m : Nat) (σ : L2.St) (H' : Hp) : Prop := ∃ (l : List Int) (bt : Addr) (wvs : List V) (rl : List (List Int × Nat)) (y6 : Option V), σ = [some (.ref c), some (.ref kd), some (.int (j : Int)), some (.ref lt), some (.ref wt), some (.ref bt), y6, none, none, none] ∧ Same H H' ∧ H' wt = some (.lst wvs) ∧ SqT K H' bt (l.map V.int) ∧ Bl (t.ps.drop (j + 1)) l ∧ Paired (RW2 K H') wvs rl.reverse ∧ WOk t j l rl ∧ endL l rl = l0 ∧ m = (letN (j + 1) l).length
theorem ok_moved0 {d : Nat} (C_Collector : ClCollector K mg) (T : Txt K mg) (G_Collector_behind : FnOk P w K mg base CX0 (3 * d + 2) C_Collector.a_behind C_Collector.d_behind ["self", "row", "word"] (spBehind P w K C_Collector.C d)) : FnOk P w K mg base CX0 (3 * d + 3) C_Collector.a__moved C_Collector.d__moved ["self", "known", "j", "tail"] (spMoved P w K C_Collector.C (d + 1)) := by
  have G__last_place : FnOk P w K mg base CX0 1 T.a__last_place T.d__last_place ["row"] (spLast K) := ok_last T
  refine C_Collector.F__moved.ok sc_Collector__moved (fun vs H Q E h => ?_) (fun cdv A outer s H vs Q E hr h => ?_)
  · obtain ⟨c, kd, lt, t, S, l, j, i, rfl, _⟩ := h
    rfl
  · obtain ⟨c, kd, lt, t, S, l0, j, i, rfl, hC, hV, hkd, hpl, hj, hd, hlS, hl0, q⟩ := h
    refine ⟨_, (pss_cons (ps_set (i := 4) sc_Collector__moved.nd rfl (.inl rfl) (pe_lst pa_nil)) 
    (pss_cons (ps_set (i := 5) sc_Collector__moved.nd rfl (.inl rfl) (pv 3)) 
    (C8.pss_cut (ps_while PassesOwn.never (pt_cmpR (Pt.op_notInP (hu2 hr)) (pv 5) (pv 1) rfl) 
      (pss_cons (ps_set (i := 6) sc_Collector__moved.nd rfl (.inl rfl) (pe_call G__last_place (hr.mono (by omega)) (by rfl) T.g__last_place T.F__last_place.kp T.b__last_place .nil pass0 (pa_cons (pv 5) pa_nil))) 
      (pss_cons (ps_expr (pe_bm PySem.F.plainAttrs_list PySem.F.slot_list_append PySem.F.type_list_append mt_append (pv 4) (pa_cons (pe_tup (pa_cons (pv 5) (pa_cons (pe_op op_add (pe_op op_add (pv 6) (pv 2)) pe_int) pa_nil))) pa_nil))) 
      (pss_one (ps_set (i := 5) sc_Collector__moved.nd rfl (.inl rfl) (pe_op op_catA (pe_op op_catA (pe_slice sl_tupA (pv 5) po_none (po_some (pv 6))) (pe_tup (pa_cons (pe_op op_sub (pe_ix (show IxR _ (rIxT K) from ix_tup) (pv 5) (pv 6) (fun _ _ => rfl)) pe_int) pa_nil))) (pe_slice sl_tupA (pv 5) (po_some (pe_op op_add (pv 6) pe_int)) po_none))))))) 
    (pss_cons (ps_set (i := 7) sc_Collector__moved.nd rfl (.inl rfl) (pe_ix (Pt.ix_dictP (hu2 hr)) (pv 1) (pv 5) (fun _ _ => rfl))) 
    (pss_cons (ps_for PassesOwn.never rfl (RT.pi_revA (by rfl) T.n_reversed (pv 4)) (pg_tup rfl (pgs_cons (pg_name (i := 8) sc_Collector__moved.nd rfl (.inl rfl)) (pgs_cons (pg_name (i := 9) sc_Collector__moved.nd rfl (.inl rfl)) pgs_nil))) 
      (pss_cons (ps_set (i := 7) sc_Collector__moved.nd rfl (.inl rfl) (pe_meth (pv 0) C_Collector.cl C_Collector.m_behind G_Collector_behind (hr.mono (by omega)) C_Collector.b_behind .nil pass0 (pa_cons (pv 7) (pa_cons (pe_ix (show IxR _ (rIxT K) from ix_tup) (pe_ix (show IxR _ (rIxL K) from ix_list) (pe_fld (pv 0) rfl) (pv 2) (fun _ _ => rfl)) (pv 9) (fun _ _ => rfl)) pa_nil)))) 
      (pss_one (ps_asg (pv 7) (pg_sub (pv 1) (pv 8) (Pt.set_dictP (hu2 hr))))))) 
    (pss_one (ps_ret (pv 7)))))))), ?_⟩
    have hx := hC.exts
    have hn := hV.n10
    have hi2 : i < 2 * t.ps.length := by
      rw [← hC.len]
      exact (List.getElem?_eq_some_iff.mp hkd).1
    have hb31 : ∀ {l : List Int}, Bl (t.ps.drop (j + 1)) l → ∀ k, k < l.length → 0 ≤ atR l k ∧ atR l k ≤ 31 := fun {l} hl k hk => by
      have hkn := dropB hl hk
      have := hl.2 k (by rw [← hl.1]; exact hk)
      rw [atR_drop] at this
      have := hV.p2 hkn
      omega
    refine ⟨Nat.zero_le _, fun wt nwt => ⟨_, rfl, ?_⟩⟩
    have hwS : wt ∉ S := fun z => by
      obtain ⟨φ, e⟩ := hx wt z
      rw [nwt] at e
      cases e
    -- downwards
    refine ⟨fun σ H' => ∃ (l : List Int) (bt : Addr) (wvs : List V) (rl : List (List Int × Nat)) (y6 : Option V), σ = [some (.ref c), some (.ref kd), some (.int (j : Int)), some (.ref lt), some (.ref wt), some (.ref bt), y6, none, none, none] ∧ Same H H' ∧ H' wt = some (.lst wvs) ∧ SqT K H' bt (l.map V.int) ∧ Bl (t.ps.drop (j + 1)) l ∧ Paired (RW2 K H') wvs rl.reverse ∧ WOk t j l rl ∧ endL l rl = l0 ∧ ∃ kvs vv, Pt.KD P w K H' kd kvs ∧ valV kvs l = some vv ∧ RS K H' vv (mvI t i l), ?_, ?_⟩
    · refine ⟨WMv K t H c kd lt wt j l0, ⟨_, l0, lt, [], [], none, rfl, same_new nwt, upd_same, Own.same_tup (same_new nwt) hlS, hl0, .nil, True.intro, rfl, rfl⟩, ?_⟩
      rintro m σ H' ⟨l, bt, wvs, rl, y6, rfl, sm, ewt, hbt, hbl, hP, hW, hE, rfl⟩
      obtain ⟨kvs, hKD, hkv, v0, hv0⟩ := (hC.ds i kd hkd)
      have hKD2 := hKD.keep (Tps.of sm) (fun o ho => sm _ _ ho)
      refine ⟨_, rfl, _, rfl, kd, bt, l, kvs, rfl, rfl, hbt, hKD2, _, rfl, ?_⟩
      cases hval : valV kvs l with
      | some vv =>
        refine iteB (by simp) ⟨l, bt, wvs, rl, y6, rfl, sm, ewt, hbt, hbl, hP, hW, hE, kvs, vv, hKD2, hval, ?_⟩
        exact rs_tps (Tps.of sm) (hkv _ (valV_mem hval)).2
      | none =>
        have hll : l.length = t.ps.length - (j + 1) := by rw [hbl.1, List.length_drop]
        have hnz : ∃ i, i < l.length ∧ atR l i ≠ 0 := by
          rcases zero_or (l := l) with c1 | c1
          · rw [hpl, ← hll, ← c1, hval] at hv0
            cases hv0
          · exact c1
        obtain ⟨a, a1, a2, a3⟩ := last_nz hnz
        have a4 := hb31 hbl a a1
        have ajn := dropB hbl a1
        have hdec : Bl (t.ps.drop (j + 1)) (l.take a ++ (atR l a - 1) :: l.drop (a + 1)) := bl_dec hbl (by rw [← hbl.1]; exact a1) (by omega)
        have elet := let_last (k := j + 1) a1 (by omega) a3
        refine iteA (by simp) ⟨WMv K t H c kd lt wt j l0 ((letN (j + 1) l).length - 1), fun σ' H'' h => ⟨_, ?_, h⟩, ?_⟩
        · rw [elet, List.length_append]
          show _ + 1 - 1 < _ + 1
          omega
        · have hwl : wvs.length ≤ 400 := by
            have h1 := hW.len
            rw [hE] at h1
            have h2 := letN_len (l := l0) (k := j + 1) fun i hi => (hb31 hl0 i hi).2
            have h3 : l0.length ≤ 10 := by rw [hl0.1, List.length_drop]; omega
            have h4 : l0.length * 31 ≤ 10 * 31 := Nat.mul_le_mul_right _ h3
            rw [Paired.length hP, List.length_reverse]
            omega
          refine ⟨_, rfl, bt, l, a, rfl, hbt, by omega, a1, a2, a3, ?_⟩
          refine ⟨_, rfl, .inl ⟨rfl, _, .inl (.inl ewt)⟩, _, rfl, _, rfl, _, rfl, _, _, rfl, rfl, _, _, rfl, rfl, by show 2 ≤ sizeLine; decide, fun pt npt => ?_⟩
          have s1 := same_new (o := .tup [V.ref bt, V.int ((a : Int) + (j : Int) + 1)]) npt
          have ewt1 := s1 _ _ ewt
          refine ⟨wt, _, _, rfl, rfl, ewt1, small2000 (by omega), ?_⟩
          have tp2 : Tps K (upd H' pt (.tup [V.ref bt, V.int ((a : Int) + (j : Int) + 1)])) (upd (upd H' pt (.tup [V.ref bt, V.int ((a : Int) + (j : Int) + 1)])) wt (.lst (wvs ++ [.ref pt]))) := Tps.x SameX.put ewt1
          have tp1 := (Tps.of (K := K) s1).trans tp2
          have sm2 : Same H (upd (upd H' pt (.tup [V.ref bt, V.int ((a : Int) + (j : Int) + 1)])) wt (.lst (wvs ++ [.ref pt]))) := same_mut (sm.trans s1) nwt
          have ewt2 : (upd (upd H' pt (.tup [V.ref bt, V.int ((a : Int) + (j : Int) + 1)])) wt (.lst (wvs ++ [.ref pt]))) wt = some (.lst (wvs ++ [.ref pt])) := upd_same
          have hpt : SqT K (upd (upd H' pt (.tup [V.ref bt, V.int ((a : Int) + (j : Int) + 1)])) wt (.lst (wvs ++ [.ref pt]))) pt [.ref bt, .int ((j + 1 + a : Nat) : Int)] := by
            rw [show ((j + 1 + a : Nat) : Int) = (a : Int) + (j : Int) + 1 by omega]
            exact tp2 _ _ (.inl (.inl upd_same))
          generalize upd (upd H' pt (.tup [V.ref bt, V.int ((a : Int) + (j : Int) + 1)])) wt (.lst (wvs ++ [.ref pt])) = H2 at *
          have hbt2 := tp1 _ _ hbt
          refine ⟨_, rfl, _, rfl, (a : Int), rfl, slA_q hbt2 fun ut H3 s3 hut => ⟨_, rfl, _, rfl, bt, _, (a : Int), _, rfl, rfl, Own.same_tup s3 hbt2, atW a1, _, _, rfl, rfl, by show 1 ≤ sizeLine; decide, fun ot not_ => ?_⟩⟩
          have s4 := same_new (o := .tup [V.int (atR l a - 1)]) not_
          rw [cut_to (by rw [List.length_map]; omega), ← List.map_take] at hut
          refine catA_q (Own.same_tup s4 hut) (.inl (.inl upd_same)) (by rw [List.length_map, List.length_take]; show _ + 1 ≤ 2000; omega) fun xt H5 s5 hxt => ?_
          refine ⟨_, rfl, _, rfl, _, _, rfl, rfl, (a : Int) + 1, rfl, ?_⟩
          unfold tNoPart
          refine slA_q (lo := some ((a : Int) + 1)) (hi := none) (Own.same_tup (s3.trans (s4.trans s5)) hbt2) fun gt H6 s6 hgt => ?_
          rw [show (a : Int) + 1 = ((a + 1 : Nat) : Int) by omega, cut_from (by rw [List.length_map]; omega), ← List.map_drop] at hgt
          refine catA_q (Own.same_tup s6 hxt) hgt (by rw [List.length_append, List.length_map, List.length_map, List.length_take, List.length_drop]; show _ + 1 + _ ≤ 2000; omega) fun zt H7 s7 hzt => ?_
          have sall := s3.trans (s4.trans (s5.trans (s6.trans s7)))
          refine ⟨_, zt, wvs ++ [.ref pt], (l, j + 1 + a) :: rl, _, rfl, sm2.trans sall, sall _ _ ewt2, ?_, hdec, ?_, ⟨elet, hbl, by show j < j + 1 + a; omega, ajn, hW⟩, hE, ?_⟩
          · rw [List.append_assoc] at hzt
            rw [List.map_append]
            exact hzt
          · rw [List.reverse_cons]
            exact paired_add (paired_via (fun _ _ => RW2.tps (tp1.trans (Tps.of sall))) hP) ⟨pt, bt, rfl, Own.same_tup sall hpt, Own.same_tup sall hbt2⟩
          · rw [elet, List.length_append]
            show _ + 1 - 1 = _
            omega
    -- upwards
    · rintro σ H1 ⟨l, bt, wvs, rl, y6, rfl, sm, ewt, hbt, hbl, hP, hW, hE, kvs, vv, hKD, hval, hvv⟩
      have hC1 := hC.mono sm
      have hx1 := hC1.exts
      have hrl : wvs.length = rl.length := by rw [Paired.length hP, List.length_reverse]
      refine ⟨_, rfl, _, rfl, kd, bt, l, kvs, vv, rfl, rfl, hbt, hKD, hval, ?_⟩
      refine ⟨_, rfl, wt, wvs, rfl, .inl ⟨.inl (.inl ewt), RT.for_Itv (xs := wvs) (fun m σ H' => ∃ (rv : V) (b : List Int) (y8 y9 : Option V), σ = [some (.ref c), some (.ref kd), some (.int (j : Int)), some (.ref lt), some (.ref wt), some (.ref bt), y6, some rv, y8, y9] ∧ SameS S H1 H' ∧ ClAt P w K C_Collector.C H' c t S ∧ RS K H' rv (mvI t i b) ∧ Bl (t.ps.drop (j + 1)) b ∧ WOk t j b (rl.drop m) ∧ endL b (rl.drop m) = l0)
        ⟨vv, l, none, none, rfl, Same.s (Same.refl _), hC1, hvv, hbl, hW, hE⟩ (fun m σ H' ⟨_, _, _, _, _, e, _⟩ => .inl (.inl (keep_s e hx1 ewt (fun _ z => nomatch z)))) (fun m x σ H' hm hx2 hPv => ?_) (fun σ H' hPv => ?_)⟩⟩
      · obtain ⟨rv, b, y8, y9, rfl, e, hC2, hrv, hbb, hWb, hEb⟩ := hPv
        have hrev : rl.reverse[wvs.length - 1 - m]? = rl[m]? := by
          rw [List.getElem?_reverse (by omega)]
          congr 1
          omega
        obtain ⟨⟨l2, k2⟩, ex, at_, la, rfl, hat, hla⟩ := paired_get hP hx2
        rw [hrev] at ex
        have edrop : rl.drop m = (l2, k2) :: rl.drop (m + 1) := by
          obtain ⟨hm2, e3⟩ := List.getElem?_eq_some_iff.mp ex
          rw [List.drop_eq_getElem_cons hm2, e3]
        rw [edrop] at hWb hEb
        obtain ⟨w1, w2, w3, w4, w5⟩ := hWb
        have tp2 := Tps.s (K := K) e hx1
        refine ⟨at_, _, rfl, tp2 _ _ hat, rfl, _, _, rfl, _, _, rfl, rfl, ?_⟩
        obtain ⟨dx, a, wl, pl, cl, wvs2, ec, hSa, ewl, hWd, epl, ecl⟩ := id hC2.ob
        have g := cFs_get a wl pl cl
        obtain ⟨wt2, us2, ew1, ew2, ew3⟩ := hWd j hj
        obtain ⟨lt2, ew4, ew5⟩ := ew3 k2 w3 w4
        refine ⟨_, rfl, c, dx, _, rfl, ec, (cFs_no _ _ _ _).1, ?_⟩
        refine ⟨_, rfl, _, rfl, c, _, dx, _, _, rfl, ec, C_Collector.cl, C_Collector.n__words, g.2.1, _, rfl, wl, _, (j : Int), .ref wt2, rfl, rfl, .inl (.inl ewl), atI_nat ew1, _, rfl, wt2, us2, (k2 : Int), .ref lt2, rfl, rfl, ew2, atI_nat ew4, ?_⟩
        obtain ⟨M, wr, _, _, ecj, hbw, hzw⟩ := hV.cjv w3 w4
        have hmv := bl_mv hV hi2 hpl hbb
        refine ⟨c, rv, .ref lt2, t, S, mvI t i b, letN 0 (cjW t j k2), rfl, hC2, hV, hrv, hmv, ⟨lt2, rfl, .inr (by rw [letF_eq, List.map_map] at ew5; exact ew5)⟩, ?_, fun m hm => ?_, fun z' H3 e3 hC3 hz => ?_⟩
        · rw [ecj]
          have := letN_len (l := wr) (k := 0) fun i hi => by
            rw [hbw.1] at hi
            have h1 := hbw.2 i hi
            have h2 := hV.p2 hi
            omega
          have h3 : wr.length * 31 ≤ 10 * 31 := Nat.mul_le_mul_right _ (by rw [hbw.1]; omega)
          omega
        · rw [ecj] at hm
          obtain ⟨m1, m2⟩ := letN_lt hbw hzw hm
          omega
        · have ez : colW t t.ps.length (mvI t i b) (letN 0 (cjW t j k2)) = mvI t i l2 := by
            show timT t t.ps.length (mvI t i b) (cjW t j k2) = _
            unfold mvI
            have w1 : letN (j + 1) l2 = letN (j + 1) b ++ [k2] := w1
            rw [hpl, w1, tailF_add]
          rw [ez] at hz
          obtain ⟨kvs3, hKD3, hkv3, v3, hv3⟩ := hC3.ds i kd hkd
          have hx3 := hC3.exts
          have hla3 := (tp2.trans (Tps.s (K := K) e3 hC2.exts)) _ _ hla
          have hb2 : ∀ kv ∈ kvs3, Bl (t.ps.drop (plI t.ps.length i + 1)) kv.1 := fun kv hkv => (hkv3 kv hkv).1
          refine ⟨_, rfl, _, rfl, _, rfl, kd, la, l2, kvs3, rfl, rfl, hla3, hKD3, small2000 (by have := kd_len hV hKD3 hb2; omega), fun H4 sb hKD4 => ?_⟩
          have tp4 : Tps K H3 H4 := Tps.s (SameS.of1 (List.mem_of_getElem? hkd) sb) hx3
          have hD4 : DAt P w K H4 kd t i := by
            refine ⟨_, hKD4, fun kv hkv => ?_, ?_⟩
            · rcases mem_putK hkv with h | ⟨h1, h2⟩
              · exact ⟨(hkv3 kv h).1, rs_tps tp4 (hkv3 kv h).2⟩
              · rw [h1, h2]
                exact ⟨by rw [hpl]; exact w2, rs_tps tp4 hz⟩
            · rw [valV_put]
              split
              · exact ⟨_, rfl⟩
              · exact ⟨v3, hv3⟩
          exact ⟨z', l2, _, _, rfl, (e.trans e3).trans (SameS.of1 (List.mem_of_getElem? hkd) sb), hC3.put hkd sb hD4, rs_tps tp4 hz, w2, w5, hEb⟩
      · obtain ⟨rv, b, y8, y9, rfl, e, hC2, hrv, hbb, hWb, hEb⟩ := hPv
        have ed : rl.drop wvs.length = [] := List.drop_of_length_le (by omega)
        rw [ed] at hEb
        have hEb : b = l0 := hEb
        subst hEb
        exact ⟨_, rfl, q _ _ ((Same.s sm).trans e) hC2 hrv⟩
theorem ok_coll0 (C_Collector : ClCollector K mg) (T : Txt K mg) : ∀ d : Nat, FnOk P w K mg base CX0 (3 * d + 1) C_Collector.a__step C_Collector.d__step ["self", "row", "j"] (spCStep P w K C_Collector.C d) ∧ FnOk P w K mg base CX0 (3 * d + 2) C_Collector.a_behind C_Collector.d_behind ["self", "row", "word"] (spBehind P w K C_Collector.C d)
  | 0 => by
    have h1 : FnOk P w K mg base CX0 1 C_Collector.a__step C_Collector.d__step ["self", "row", "j"] (spCStep P w K C_Collector.C 0) := by
      refine C_Collector.F__step.ok sc_Collector__step (fun vs H Q E h => ?_) (fun cdv A outer s H vs Q E hr h => ?_)
      · obtain ⟨c, rv, t, S, r, j, rfl, _⟩ := h
        rfl
      · obtain ⟨c, rv, t, S, r, j, rfl, hC, hV, hr_, hb, hj, hd, q⟩ := h
        exact absurd hd (by omega)
    exact ⟨h1, ok_behind0 C_Collector T h1⟩
  | d + 1 => by
    have h1 := ok_cstep0 C_Collector T (ok_moved0 C_Collector T (ok_coll0 C_Collector T d).2)
    exact ⟨h1, ok_behind0 C_Collector T h1⟩
theorem ok_behind (C_Collector : ClCollector K mg) (T : Txt K mg) : FnOk P w K mg base CX0 32 C_Collector.a_behind C_Collector.d_behind ["self", "row", "word"] (spBehind P w K C_Collector.C 10) := (ok_coll0 C_Collector T 10).2
/-! ### the collector: making one -/
/-- a presentation at pr, of the table t -/
def PTb (K : PySem.W.Frag) (C : Addr) (H : Hp) (pr : Addr) (t : Tb) : Prop := ∃ a b c us vs, PrAt C H pr (.ref a) (.ref b) (.ref c) t.ps ∧ SqT K H a (t.ps.map V.int) ∧ SqT K H b us ∧ Paired (RS K H) us t.pw ∧ SqT K H c vs ∧ Paired (Tup1 K H) vs t.cj
theorem Tps.xi {H H' : Hp} {x C dx : Addr} {fs : List (Str × V)} (e : SameX x H H') (hx : H x = some (.ins C dx fs)) : Tps K H H' := fun b ys h => by
  rcases h with (h | ⟨o, h⟩) | h
  · exact .inl (.inl (e b _ (fun z => by rw [z, hx] at h; cases h) h))
  · exact .inl (.inr ⟨o, e b _ (fun z => by rw [z, hx] at h; cases h) h⟩)
  · exact .inr h
theorem PTb.keep {C : Addr} {H H' : Hp} {pr : Addr} {t : Tb} (h : PTb K C H pr t) (tp : Tps K H H') (e : ∀ o, H pr = some o → H' pr = some o) : PTb K C H' pr t := by
  obtain ⟨a, b, c, us, vs, ⟨dx, h1⟩, h2, h3, h4, h5, h6⟩ := h
  exact ⟨a, b, c, us, vs, ⟨dx, e _ h1⟩, tp _ _ h2, tp _ _ h3, paired_via (fun _ _ => rs_tps tp) h4, tp _ _ h5, paired_via (fun _ _ => tup1_tps tp) h6⟩
theorem PTb.mono {C : Addr} {H H' : Hp} {pr : Addr} {t : Tb} (h : PTb K C H pr t) (s : Same H H') : PTb K C H' pr t := h.keep (Tps.of s) fun o ho => s _ _ ho
/-- a word's row, the i-th -/
def WR (K : PySem.W.Frag) (t : Tb) : Hp → V → Nat → Prop := fun H v j => ∃ wt us, v = .ref wt ∧ SqT K H wt us ∧ ∀ k, j < k → k < t.ps.length → ∃ lt, us[k]? = some (.ref lt) ∧ SqT K H lt ((letF 0 (cjW t j k)).map V.int)
theorem WR.tps {t : Tb} {H H' : Hp} (tp : Tps K H H') {v : V} {j : Nat} (h : WR K t H v j) : WR K t H' v j := by
  obtain ⟨wt, us, e1, e2, e3⟩ := h
  exact ⟨wt, us, e1, tp _ _ e2, fun k h1 h2 => let ⟨lt, x, y⟩ := e3 k h1 h2; ⟨lt, x, tp _ _ y⟩⟩
theorem st_WR {t : Tb} : Stable (WR K t) := ⟨fun e h => h.tps (Tps.of e), fun e h => h.tps (Tps.x SameX.put e)⟩
def RL (K : PySem.W.Frag) : Hp → V → List Int → Prop := fun H v r => RS K H v (letF 0 r)
theorem st_RL : Stable (RL K) := ⟨fun e h => rs_tps (Tps.of e) h, fun e h => rs_tps (Tps.x SameX.put e) h⟩
theorem cFs_eq (a wl pl cl : Addr) : putF "_carried" (.ref cl) (putF "_plain" (.ref pl) (putF "_words" (.ref wl) (putF "_primes" (.ref a) []))) = cFs a wl pl cl := by
  have n01 : ¬ (("_primes" : Str) = "_words") := by decide +kernel
  have n02 : ¬ (("_primes" : Str) = "_plain") := by decide +kernel
  have n03 : ¬ (("_primes" : Str) = "_carried") := by decide +kernel
  have n12 : ¬ (("_words" : Str) = "_plain") := by decide +kernel
  have n13 : ¬ (("_words" : Str) = "_carried") := by decide +kernel
  have n23 : ¬ (("_plain" : Str) = "_carried") := by decide +kernel
  simp only [putF, if_neg n01, if_neg n02, if_neg n03, if_neg n12, if_neg n13, if_neg n23]
  rfl
theorem dat_put {H : Hp} {t : Tb} {i : Nat} {D x : Addr} {ds : List Addr} {ws : List V} (e : H D = some (.lst (ds.map V.ref))) (hne : x ≠ D) (h : DAt P w K H x t i) : DAt P w K (upd H D (.lst ws)) x t i := h.keep (Tps.x SameX.put e) fun o ho => by rw [upd_ne hne]; exact ho
theorem flat_non {v : V} : ∀ n : Nat, (List.replicate n [v]).flatten = List.replicate n v
  | 0 => rfl
  | n + 1 => by rw [List.replicate_succ, List.flatten_cons, flat_non n]; rfl
def spCInit (P : Program) (w : World) (K : PySem.W.Frag) (C CP : Addr) : Sp := fun vs H Q _ => ∃ (x dx pr : Addr) (t : Tb), vs = [.ref x, .ref pr] ∧ H x = some (.ins C dx []) ∧ PTb K CP H pr t ∧ Vd t ∧
  ∀ H' S, SameX x H H' → ClAt P w K C H' x t S → (∀ d ∈ S, H d = none) → Q .non H'
theorem ok_cinit (C_Presentation : ClPresentation K mg) (C_Collector : ClCollector K mg) (T : Txt K mg) : FnOk P w K mg base CX0 2 C_Collector.a___init__ C_Collector.d___init__ ["self", "presentation"] (spCInit P w K C_Collector.C C_Presentation.C) := by
  have G_Presentation_letters : FnOk P w K mg base CX0 1 C_Presentation.a_letters C_Presentation.d_letters ["self", "row"] (spPLet K) := ok_PLet C_Presentation T
  refine C_Collector.F___init__.ok sc_Collector___init__ (fun vs H Q E h => ?_) (fun cdv A outer s H vs Q E hr h => ?_)
  · obtain ⟨x, dx, pr, t, rfl, _⟩ := h
    rfl
  · obtain ⟨x, dx, pr, t, rfl, ex, hPT, hV, q⟩ := h
    refine ⟨_, (pss_cons (ps_fld (pv 0) (pe_fld (pv 1) rfl) rfl) 
    (pss_cons (ps_fld (pv 0) (pe_lc (own := [("i", 3), ("rows", 4)]) (g := gTup K 2 (gCons (gName 3) (gCons (gName 4) gNil))) rfl sc_Collector___init__.nd (Own.pi_enumT (by rfl) T.n_enumerate (pa_cons (pe_fld (pv 1) rfl) pa_nil)) (blkOk_by (N := N_Collector___init__) (sc := defScope s_Collector___init__) (own := [("i", 3), ("rows", 4)]) (by decide +kernel)) (fun _ _ _ _ _ => by exact (pg_tup rfl (pgs_cons (pg_name (i := 3) sc_Collector___init__.nd rfl (.inl rfl)) (pgs_cons (pg_name (i := 4) sc_Collector___init__.nd rfl (.inl rfl)) pgs_nil)))) (fun _ _ _ _ _ => pts_nil) (fun _ _ _ _ _ => (pe_op (show OpR _ _ (rCatA K) from op_catA) (pe_op Own.op_repA (pe_tup (pa_cons pe_non pa_nil)) (pe_op op_add (pv 3) pe_int)) (pe_callTy (show CallR _ (.type "tuple") (rTupL K) from call_tupL) (by rfl) T.n_tuple (by decide +kernel) (pa_cons (pe_lc (own := [("row", 5)]) rfl sc_Collector___init__.nd (show PI _ _ _ (iTup K _) from pi_tup (pv 4)) (blkOk_by (N := N_Collector___init__) (own := [("row", 5)]) (by rfl)) (fun _ _ _ _ _ => (pg_name (i := 5) sc_Collector___init__.nd rfl (.inl rfl))) (fun _ _ _ _ _ => pts_nil) (fun _ _ _ _ _ => (pe_meth (pv 1) C_Presentation.cl C_Presentation.m_letters G_Presentation_letters (hr.mono (by decide)) C_Presentation.b_letters .nil pass0 (pa_cons (pv 5) pa_nil)))) pa_nil))))) rfl) 
    (pss_cons (ps_set (i := 2) sc_Collector___init__.nd rfl (.inr rfl) (pe_op Own.op_repA (pe_tup (pa_cons pe_int pa_nil)) (pe_fld (pv 1) rfl))) 
    (pss_cons (ps_fld (pv 0) (pe_lc (own := [("i", 3)]) rfl sc_Collector___init__.nd (pi_range1 (by rfl) T.n_range (pa_cons (pe_fld (pv 1) rfl) pa_nil)) (blkOk_by (N := N_Collector___init__) (sc := defScope s_Collector___init__) (own := [("i", 3)]) (by decide +kernel)) (fun _ _ _ _ _ => (pg_name (i := 3) sc_Collector___init__.nd rfl (.inl rfl))) (fun _ _ _ _ _ => pts_nil) (fun _ _ _ _ _ => (show PE _ _ (Pt.tDisp1 P w K _ _) from Pt.pe_disp1 (hu2 hr) (pe_slice (show SlR _ (rSlA K) from sl_tupA) (pv 2) (po_some (pe_op op_add (pv 3) pe_int)) po_none) (pv 2)))) rfl) 
    (pss_one (ps_fld (pv 0) (pe_lc (own := [("i", 3), ("row", 5)]) (g := gTup K 2 (gCons (gName 3) (gCons (gName 5) gNil))) rfl sc_Collector___init__.nd (Own.pi_enumT (by rfl) T.n_enumerate (pa_cons (pe_fld (pv 1) rfl) pa_nil)) (blkOk_by (N := N_Collector___init__) (sc := defScope s_Collector___init__) (own := [("i", 3), ("row", 5)]) (by decide +kernel)) (fun _ _ _ _ _ => by exact (pg_tup rfl (pgs_cons (pg_name (i := 3) sc_Collector___init__.nd rfl (.inl rfl)) (pgs_cons (pg_name (i := 5) sc_Collector___init__.nd rfl (.inl rfl)) pgs_nil)))) (fun _ _ _ _ _ => pts_nil) (fun _ _ _ _ _ => (show PE _ _ (Pt.tDisp1 P w K _ _) from Pt.pe_disp1 (hu2 hr) (pe_slice (show SlR _ (rSlA K) from sl_tupA) (pv 2) (po_some (pe_op op_add (pv 3) pe_int)) po_none) (pv 5)))) rfl)))))), ?_⟩
    obtain ⟨a, b, c, us, vs, ⟨dp, ep⟩, hSa, hSb, hPw, hSc, hPc⟩ := hPT
    have f := pFs_get (.ref a) (.ref b) (.ref c) t.ps
    have hn := hV.n10
    have hpx : pr ≠ x := fun z => by
      rw [z, ex] at ep
      injection ep with ep
      injection ep with _ _ ep
      cases ep
    refine ⟨_, rfl, pr, _, dp, _, _, rfl, ep, C_Presentation.cl, C_Presentation.n_primes, f.2.1, _, rfl, x, _, dx, _, rfl, ex, C_Collector.cl, C_Collector.n__primes, by decide, ?_⟩
    have sx1 : SameX x H (upd H x (.ins C_Collector.C dx (putF "_primes" (.ref a) []))) := SameX.put
    have ex1 : (upd H x (.ins C_Collector.C dx (putF "_primes" (.ref a) []))) x = some (.ins C_Collector.C dx (putF "_primes" (.ref a) [])) := upd_same
    generalize upd H x (.ins C_Collector.C dx (putF "_primes" (.ref a) [])) = H1 at *
    have tp1 := Tps.xi (K := K) sx1 ex
    -- the words
    refine ⟨_, rfl, pr, _, dp, _, _, rfl, sx1 _ _ hpx ep, C_Presentation.cl, C_Presentation.n_conjugates, f.2.2.2.1, c, vs, rfl, tp1 _ _ hSc, fun D nD => ?_⟩
    have hvl : vs.length = t.ps.length := by rw [Paired.length hPc, hV.cjl]
    refine lc_rep (Own.walk_enumT (xs := vs)) (st_WR (K := K) (t := t)) (fun i => i) (by omega) nD (fun H2 sm => Own.same_tup sm (tp1 _ _ hSc)) (fun i y H2 H3 Q2 hi sm hY q2 => ?_) (fun H2 acc sm2 eD hP => ?_)
    · obtain ⟨tt, x1, x2, rfl, ntt, rfl, g1, g2⟩ := hY
      have e1 : x1 = .int (i : Int) := (Option.some.inj g1).symm
      subst e1
      have g2 : vs[i]? = some x2 := g2
      obtain ⟨M, eM, mt, us2, rfl, hSM, hPM⟩ := paired_get hPc g2
      obtain ⟨hMl, hMr⟩ := hV.cjr i M eM
      have s3 := same_new (o := .tup [V.int (i : Int), V.ref mt]) ntt
      refine ⟨tt, [.int (i : Int), .ref mt], rfl, .inl (.inl upd_same), rfl, _, [.ref mt], rfl, _, [], rfl, rfl, rfl, ?_⟩
      have tp3 := (tp1.trans (Tps.of sm)).trans (Tps.of s3)
      have ep3 : (upd H2 tt (.tup [V.int (i : Int), V.ref mt])) pr = some (.ins C_Presentation.C dp (pFs (.ref a) (.ref b) (.ref c) t.ps)) := s3 _ _ (sm _ _ (sx1 _ _ hpx ep))
      generalize upd H2 tt (.tup [V.int (i : Int), V.ref mt]) = H3 at *
      refine ⟨by show 1 ≤ sizeLine; decide, fun nt nnt => ?_⟩
      have s4 := same_new (o := .tup [V.non]) nnt
      refine ⟨_, rfl, _, _, rfl, rfl, nt, (i : Int) + 1, _, rfl, rfl, upd_same, by simp, by omega, by omega, by show 1 ≤ 1000; decide, fun wt H5 s5 ewt => ?_⟩
      have s45 := s4.trans s5
      rw [flat_non] at ewt
      refine ⟨_, rfl, mt, rfl, ⟨_, Own.same_tup s45 (tp3 _ _ hSM)⟩, fun D2 nD2 => ?_⟩
      refine lc_tupmap (st_RL (K := K)) (R1 := RS K) (xs := M) (fun r => r) (by omega) (Own.same_tup s45 (tp3 _ _ hSM)) (paired_via (fun _ _ => rs_tps (tp3.trans (Tps.of s45))) hPM) nD2 (fun v y H6 Q3 hy s6 hv q3 => ?_) (fun H6 acc2 s6 eD2 hP2 => ?_)
      · refine ⟨rfl, _, rfl, pr, dp, _, rfl, s6 _ _ (s45 _ _ ep3), (pFs_no _ _ _ _).2.2, _, rfl, .ref pr, v, y, rfl, rs_tps (Tps.of s6) hv, ?_, ?_, fun H7 z7 s7 h7 => q3 z7 H7 s7 h7⟩
        · rw [(hMr y hy).1.1]
          exact hn
        · intro e he
          obtain ⟨k, hk⟩ := List.mem_iff_getElem?.mp he
          have hkl : k < t.ps.length := by
            rw [← (hMr y hy).1.1]
            exact (List.getElem?_eq_some_iff.mp hk).1
          have h1 := (hMr y hy).1.2 k hkl
          have h2 := hV.p2 hkl
          have h3 : atR y k = e := by unfold atR; rw [List.getD_eq_getElem?_getD, hk]; rfl
          omega
      · rw [List.map_id'] at hP2
        refine ⟨D2, acc2, rfl, .inl (.inl eD2), fun l ob nl hob => ?_⟩
        have s7 := same_new (o := .frz ob (.tup acc2)) nl
        refine catA_q (Own.same_tup (s6.trans s7) (.inl (.inl ewt))) (.inl (.inr ⟨ob, upd_same⟩)) ?_ fun ot H8 s8 hot => ?_
        · rw [List.length_replicate, Paired.length hP2, hMl]
          omega
        · refine q2 _ _ (s3.trans (s45.trans (s6.trans (s7.trans s8)))) ⟨ot, _, rfl, hot, fun k hik hk => ?_⟩
          obtain ⟨M2, r, eM2, er, ecj, _, _⟩ := hV.cjv hik hk
          rw [eM] at eM2
          cases eM2
          obtain ⟨v, ev, lt, rfl, hlt⟩ := paired_get2 hP2 er
          refine ⟨lt, ?_, by rw [ecj]; exact Own.same_tup (s7.trans s8) hlt⟩
          rw [List.getElem?_append_right (by rw [List.length_replicate]; omega), List.length_replicate, show k - ((i : Int) + 1).toNat = k - i - 1 by omega]
          exact ev
    rw [List.map_id', hvl] at hP
    have ep2 := sm2 _ _ (sx1 _ _ hpx ep)
    have ex2 := sm2 _ _ ex1
    refine ⟨_, rfl, x, _, dx, _, rfl, ex2, C_Collector.cl, C_Collector.n__words, by show 1 < 1000; decide, ?_⟩
    have hDx : D ≠ x := fun z => by rw [z, ex2] at eD; cases eD
    have sx3 : SameX x H2 (upd H2 x (.ins C_Collector.C dx (putF "_words" (.ref D) (putF "_primes" (.ref a) [])))) := SameX.put
    have ex3 : (upd H2 x (.ins C_Collector.C dx (putF "_words" (.ref D) (putF "_primes" (.ref a) [])))) x = some (.ins C_Collector.C dx (putF "_words" (.ref D) (putF "_primes" (.ref a) []))) := upd_same
    have tp3 := Tps.xi (K := K) sx3 ex2
    have sxA := (sx1.trans (Same.x sm2)).trans sx3
    generalize upd H2 x (.ins C_Collector.C dx (putF "_words" (.ref D) (putF "_primes" (.ref a) []))) = H3 at *
    have tpA := (tp1.trans (Tps.of sm2)).trans tp3
    have ep3 := sx3 _ _ hpx ep2
    have eD3 := sx3 _ _ hDx eD
    have hP3 := paired_via (fun _ _ => WR.tps tp3) hP
    clear hP eD ep2 sm2 sx3 ex2 tp3
    -- zeros
    refine ⟨by show 1 ≤ sizeLine; decide, fun zt nzt => ?_⟩
    have s4 := same_new (o := .tup [V.int 0]) nzt
    refine ⟨_, rfl, pr, _, dp, _, _, rfl, s4 _ _ ep3, C_Presentation.cl, C_Presentation.n_n, f.1, zt, (t.ps.length : Int), _, rfl, rfl, upd_same, by simp, by omega, by omega, by show 1 ≤ 1000; decide, fun z0 H5 s5 ez => ?_⟩
    rw [flat_non, Int.toNat_natCast] at ez
    have ez : SqT K H5 z0 ((zeroR t.ps.length).map V.int) := by
      unfold zeroR
      rw [List.map_replicate]
      exact .inl (.inl ez)
    have s45 := s4.trans s5
    have ep5 := s45 _ _ ep3
    have hzb := blz hV
    have hz0 : ∀ i, i < t.ps.length → Bl (t.ps.drop (i + 1)) (zeroR (t.ps.length - (i + 1))) ∧ (zeroR t.ps.length).drop (i + 1) = zeroR (t.ps.length - (i + 1)) := fun i hi => by
      have e : (zeroR t.ps.length).drop (i + 1) = zeroR (t.ps.length - (i + 1)) := by
        unfold zeroR
        rw [List.drop_replicate]
      refine ⟨?_, e⟩
      rw [← e]
      exact hzb.drop (i + 1)
    -- the plain dicts
    refine ⟨_, rfl, pr, _, dp, _, _, rfl, ep5, C_Presentation.cl, C_Presentation.n_n, f.1, (t.ps.length : Int), rfl, by omega, by omega, fun D1 nD1 => ?_⟩
    refine lc_new (walk_range (lo := 0) (n := t.ps.length)) (fun H d i => DAt P w K H d t i) (fun e h => h.keep (Tps.of e) fun o ho => e _ _ ho) (fun e hne h => dat_put e hne h) (fun h => let ⟨φ, h⟩ := h.ext; ⟨_, h⟩) (fun i => i) (by omega) nD1 (fun _ _ => trivial) (fun i y H6 H7 Q2 hi sm hY q2 => ?_) (fun H6 as1 sm6 eD1 nd1 hno1 hP1 => ?_)
    · obtain ⟨rfl, rfl⟩ := hY
      refine ⟨rfl, fun p H8 np s8 hKD => ?_⟩
      have hz8 := Own.same_tup (sm.trans s8) ez
      refine ⟨_, rfl, _, rfl, _, _, rfl, rfl, 0 + (i : Int) + 1, rfl, ?_⟩
      unfold tNoPart
      refine slA_q (lo := some (0 + (i : Int) + 1)) (hi := none) hz8 fun kt H9 s9 hkt => ⟨_, rfl, ?_⟩
      rw [show 0 + (i : Int) + 1 = ((i + 1 : Nat) : Int) by omega, cut_from (by rw [List.length_map]; unfold zeroR; rw [List.length_replicate]; omega), ← List.map_drop, (hz0 i hi).2] at hkt
      refine ⟨kt, zeroR (t.ps.length - (i + 1)), _, rfl, hKD.mono s9, hkt, fun H10 sb hKD2 => ?_⟩
      have hx9 : ∃ φ, H9 p = some (.ext φ) := let ⟨xs, h⟩ := hKD.mono s9; ⟨_, h.here⟩
      have tp10 : Tps K H9 H10 := Tps.s (S := [p]) (SameS.of1 List.mem_cons_self sb) fun d hd => by rw [List.mem_singleton.mp hd]; exact hx9
      refine q2 p H10 (fun b o hb => sb b o (ne_of_none hb np) (s9 _ _ (s8 _ _ hb))) np ⟨_, hKD2, fun kv hkv => ?_, ?_⟩
      · rw [List.mem_singleton.mp hkv]
        unfold mvI stI plI
        rw [if_pos hi, if_pos hi, letN_zeros]
        exact ⟨(hz0 i hi).1, z0, rfl, tp10 _ _ (Own.same_tup s9 hz8)⟩
      · unfold plI
        rw [if_pos hi]
        exact ⟨_, valV_pos rfl⟩
    rw [List.map_id'] at hP1
    have s56 := s45.trans sm6
    have ep6 := sm6 _ _ ep5
    have ex6 := s56 _ _ ex3
    refine ⟨_, rfl, x, _, dx, _, rfl, ex6, C_Collector.cl, C_Collector.n__plain, by show 2 < 1000; decide, ?_⟩
    have hD1x : D1 ≠ x := fun z => by rw [z, ex6] at eD1; cases eD1
    have sx7 : SameX x H6 (upd H6 x (.ins C_Collector.C dx (putF "_plain" (.ref D1) (putF "_words" (.ref D) (putF "_primes" (.ref a) []))))) := SameX.put
    have ex7 : (upd H6 x (.ins C_Collector.C dx (putF "_plain" (.ref D1) (putF "_words" (.ref D) (putF "_primes" (.ref a) []))))) x = some (.ins C_Collector.C dx (putF "_plain" (.ref D1) (putF "_words" (.ref D) (putF "_primes" (.ref a) [])))) := upd_same
    have tp7 := Tps.xi (K := K) sx7 ex6
    generalize upd H6 x (.ins C_Collector.C dx (putF "_plain" (.ref D1) (putF "_words" (.ref D) (putF "_primes" (.ref a) [])))) = H7 at *
    have hl1 : as1.length = t.ps.length := by rw [Paired.length hP1, List.length_range]
    have hd7 : ∀ i d, as1[i]? = some d → DAt P w K H7 d t i ∧ H7 d = H7 d := fun i d e => by
      obtain ⟨i2, e2, h⟩ := paired_get hP1 e
      have hi2 : i2 = i := by
        rw [List.getElem?_range (by rw [← hl1]; exact (List.getElem?_eq_some_iff.mp e).1)] at e2
        exact (Option.some.inj e2).symm
      rw [hi2] at h
      obtain ⟨φ, eφ⟩ := h.ext
      exact ⟨h.keep tp7 fun o ho => sx7 _ _ (fun z => by rw [z, ex6] at eφ; cases eφ) ho, rfl⟩
    have ep7 := sx7 _ _ hpx ep6
    have sxB : SameX x H3 H7 := (Same.x s56).trans sx7
    have tpB := (Tps.of (K := K) s56).trans tp7
    have hz7 := tp7 _ _ (Own.same_tup sm6 ez)
    have hSb7 := (tpA.trans tpB) _ _ hSb
    -- the carried dicts
    refine ⟨_, rfl, pr, _, dp, _, _, rfl, ep7, C_Presentation.cl, C_Presentation.n_powers, f.2.2.1, b, us, rfl, hSb7, fun D2 nD2 => ?_⟩
    have hul : us.length = t.ps.length := by rw [Paired.length hPw, hV.pwl]
    refine lc_new (Own.walk_enumT (xs := us)) (fun H d i => DAt P w K H d t i) (fun e h => h.keep (Tps.of e) fun o ho => e _ _ ho) (fun e hne h => dat_put e hne h) (fun h => let ⟨φ, h⟩ := h.ext; ⟨_, h⟩) (fun i => t.ps.length + i) (by omega) nD2 (fun H2 sm => Own.same_tup sm hSb7) (fun i y H8 H9 Q2 hi sm hY q2 => ?_) (fun H8 as2 sm8 eD2 nd2 hno2 hP2 => ?_)
    · obtain ⟨tt, x1, x2, rfl, ntt, rfl, g1, g2⟩ := hY
      have e1 : x1 = .int (i : Int) := (Option.some.inj g1).symm
      subst e1
      have g2 : us[i]? = some x2 := g2
      have hin : i < t.ps.length := by omega
      obtain ⟨r, er, hr2⟩ := paired_get hPw g2
      have s9 := same_new (o := .tup [V.int (i : Int), x2]) ntt
      refine ⟨tt, [.int (i : Int), x2], rfl, .inl (.inl upd_same), rfl, _, [x2], rfl, _, [], rfl, rfl, rfl, ?_⟩
      have hr9 := rs_tps (((tpA.trans tpB).trans (Tps.of sm)).trans (Tps.of s9)) hr2
      have hz9 := Own.same_tup (sm.trans s9) hz7
      generalize upd H8 tt (.tup [V.int (i : Int), x2]) = H9 at *
      intro p H10 np s10 hKD
      have hz10 := Own.same_tup s10 hz9
      refine ⟨_, rfl, _, rfl, _, _, rfl, rfl, (i : Int) + 1, rfl, ?_⟩
      unfold tNoPart
      refine slA_q (lo := some ((i : Int) + 1)) (hi := none) hz10 fun kt H11 s11 hkt => ⟨_, rfl, ?_⟩
      rw [show (i : Int) + 1 = ((i + 1 : Nat) : Int) by omega, cut_from (by rw [List.length_map]; unfold zeroR; rw [List.length_replicate]; omega), ← List.map_drop, (hz0 i hin).2] at hkt
      refine ⟨kt, zeroR (t.ps.length - (i + 1)), _, rfl, hKD.mono s11, hkt, fun H12 sb hKD2 => ?_⟩
      have hx11 : ∃ φ, H11 p = some (.ext φ) := let ⟨xs, h⟩ := hKD.mono s11; ⟨_, h.here⟩
      have tp12 : Tps K H11 H12 := Tps.s (S := [p]) (SameS.of1 List.mem_cons_self sb) fun d hd => by rw [List.mem_singleton.mp hd]; exact hx11
      have np8 : H8 p = none := by
        cases c8 : H8 p with
        | none => rfl
        | some o => rw [s9 _ _ c8] at np; cases np
      have epl : plI t.ps.length (t.ps.length + i) = i := by
        unfold plI
        rw [if_neg (by omega)]
        omega
      refine q2 p H12 (fun b o hb => sb b o (ne_of_none hb np8) (s11 _ _ (s10 _ _ (s9 _ _ hb)))) np8 ⟨_, hKD2, fun kv hkv => ?_, ?_⟩
      · rw [List.mem_singleton.mp hkv]
        unfold mvI stI
        rw [epl, if_neg (by omega), letN_zeros, show t.ps.length + i - t.ps.length = i by omega, getD_some er]
        exact ⟨(hz0 i hin).1, rs_tps (((Tps.of s10).trans (Tps.of s11)).trans tp12) hr9⟩
      · rw [epl]
        exact ⟨_, valV_pos rfl⟩
    have hl2 : as2.length = t.ps.length := by rw [Paired.length hP2, List.length_map, List.length_range, hul]
    have ex8 := sm8 _ _ ex7
    have hD2x : D2 ≠ x := fun z => by rw [z, ex8] at eD2; cases eD2
    refine ⟨_, rfl, x, _, dx, _, rfl, ex8, C_Collector.cl, C_Collector.n__carried, by show 3 < 1000; decide, ?_⟩
    have sx9 : SameX x H8 (upd H8 x (.ins C_Collector.C dx (putF "_carried" (.ref D2) (putF "_plain" (.ref D1) (putF "_words" (.ref D) (putF "_primes" (.ref a) [])))))) := SameX.put
    have ex9 : (upd H8 x (.ins C_Collector.C dx (putF "_carried" (.ref D2) (putF "_plain" (.ref D1) (putF "_words" (.ref D) (putF "_primes" (.ref a) [])))))) x = some (.ins C_Collector.C dx (cFs a D D1 D2)) := by rw [upd_same, cFs_eq]
    have tp9 := Tps.xi (K := K) sx9 ex8
    generalize upd H8 x (.ins C_Collector.C dx (putF "_carried" (.ref D2) (putF "_plain" (.ref D1) (putF "_words" (.ref D) (putF "_primes" (.ref a) []))))) = H9 at *
    have sxC : SameX x H7 H9 := (Same.x sm8).trans sx9
    have tpC := (Tps.of (K := K) sm8).trans tp9
    have nx : ∀ {i : Nat} {H : Hp} {d : Addr}, DAt P w K H d t i → H x = some (.ins C_Collector.C dx (cFs a D D1 D2)) ∨ (∃ fs, H x = some (.ins C_Collector.C dx fs)) → d ≠ x := fun {i H d} h hx z => by
      obtain ⟨φ, e⟩ := h.ext
      rw [z] at e
      rcases hx with hx | ⟨fs, hx⟩
      · rw [hx] at e; cases e
      · rw [hx] at e; cases e
    refine q H9 (as1 ++ as2) ((sxA.trans sxB).trans sxC) ⟨⟨dx, a, D, D1, D2, acc, ex9, (tpA.trans (tpB.trans tpC)) _ _ hSa, sxC _ _ hDx (sxB _ _ hDx eD3), fun j hj => ?_, ?_, ?_⟩, ?_, ?_, fun i d e => ?_⟩ fun d hd => ?_
    · have hjr : (List.range t.ps.length)[j]? = some j := List.getElem?_range hj
      obtain ⟨v, ev, wt, us3, rfl, h1, h2⟩ := paired_get2 (paired_via (fun _ _ => WR.tps (tpB.trans tpC)) hP3) hjr
      exact ⟨wt, us3, ev, h1, h2⟩
    · rw [List.take_left' hl1]
      exact sxC _ _ hD1x (sx7 _ _ hD1x eD1)
    · rw [List.drop_left' hl1]
      exact sx9 _ _ hD2x eD2
    · rw [List.nodup_append]
      refine ⟨nd1, nd2, fun d1 h1 d2 h2 e => ?_⟩
      obtain ⟨i, ei⟩ := List.mem_iff_getElem?.mp h1
      obtain ⟨φ, eφ⟩ := (hd7 i d1 ei).1.ext
      have := (hno2 d2 h2).1
      rw [← e, eφ] at this
      cases this
    · rw [List.length_append, hl1, hl2]
      omega
    · rcases Nat.lt_or_ge i as1.length with c1 | c1
      · rw [List.getElem?_append_left c1] at e
        have h := (hd7 i d e).1
        exact h.keep tpC fun o ho => sxC _ _ (nx h (.inr ⟨_, ex7⟩)) ho
      · rw [List.getElem?_append_right c1] at e
        obtain ⟨i2, e2, h⟩ := paired_get hP2 e
        have hi2 : i2 = i := by
          rw [List.getElem?_map, List.getElem?_range (by have := (List.getElem?_eq_some_iff.mp e).1; omega)] at e2
          have h9 : t.ps.length + (i - as1.length) = i2 := Option.some.inj e2
          omega
        rw [hi2] at h
        exact h.keep tp9 fun o ho => sx9 _ _ (nx h (.inr ⟨_, ex8⟩)) ho
    · rcases List.mem_append.mp hd with h | h
      · have n5 := (hno1 d h).1
        cases cH : H d with
        | none => rfl
        | some o =>
          have hdx : d ≠ x := fun z => by
            obtain ⟨i, ei⟩ := List.mem_iff_getElem?.mp h
            exact nx (hd7 i d ei).1 (.inr ⟨_, ex7⟩) z
          rw [s45 _ _ (sxA _ _ hdx cH)] at n5
          cases n5
      · have n7 := (hno2 d h).1
        cases cH : H d with
        | none => rfl
        | some o =>
          have hdx : d ≠ x := fun z => by rw [z, ex7] at n7; cases n7
          rw [sxB _ _ hdx (sxA _ _ hdx cH)] at n7
          cases n7
def spProduct (K : PySem.W.Frag) (CP : Addr) : Sp := fun vs H Q _ => ∃ (pr : Addr) (xv yv : V) (t : Tb) (x y : List Int), vs = [.ref pr, xv, yv] ∧ PTb K CP H pr t ∧ Vd t ∧ RS K H xv x ∧ RS K H yv y ∧ Bl t.ps x ∧ Bl t.ps y ∧ ∀ z' H', Same H H' → RS K H' z' (timT t t.ps.length x y) → Q z' H'
/-- a collector just made: from outside only new things -/
theorem new_same {H H1 H2 : Hp} {x dx : Addr} {S : List Addr} {o1 o2 : HO} (nx : H x = none) (ndx : H dx = none) (sx : SameX x (upd (upd H dx o1) x o2) H1) (hS : ∀ d ∈ S, (upd (upd H dx o1) x o2) d = none) (e : SameS S H1 H2) : Same H H2 := fun b o hb => by
  have h1 : (upd (upd H dx o1) x o2) b = some o := by rw [upd_ne (ne_of_none hb nx), upd_ne (ne_of_none hb ndx)]; exact hb
  exact e b o (fun hm => by rw [hS b hm] at h1; cases h1) (sx b o (ne_of_none hb nx) h1)
theorem row_31 {t : Tb} (hV : Vd t) {r : List Int} (hb : Bl t.ps r) : ∀ x ∈ r, 0 ≤ x ∧ x ≤ 31 := fun e he => by
  obtain ⟨k, hk⟩ := List.mem_iff_getElem?.mp he
  have hkl : k < t.ps.length := by
    rw [← hb.1]
    exact (List.getElem?_eq_some_iff.mp hk).1
  have h1 := hb.2 k hkl
  have h2 := hV.p2 hkl
  have h3 : atR r k = e := by unfold atR; rw [List.getD_eq_getElem?_getD, hk]; rfl
  omega
theorem word_let {t : Tb} (hV : Vd t) {r : List Int} (hb : Bl t.ps r) : (letN 0 r).length ≤ 100000 ∧ ∀ m ∈ letN 0 r, m < t.ps.length ∧ t.ps.length ≤ m + 10 := by
  have hn := hV.n10
  refine ⟨?_, fun m hm => ⟨(letN_ok hb m hm).1, by omega⟩⟩
  have := letN_len (l := r) (k := 0) fun i hi => (row_31 hV hb _ (atR_in hi)).2
  have h2 : r.length * 31 ≤ 10 * 31 := Nat.mul_le_mul_right _ (by rw [hb.1]; exact hn)
  omega
theorem rs_word {H : Hp} {v : V} {r : List Int} (h : RS K H v (letF 0 r)) : WordAt K H v (letN 0 r) := by
  obtain ⟨a, e, h⟩ := h
  rw [letF_eq, List.map_map] at h
  exact ⟨a, e, .inr h⟩
/-! ### lists of lists that change: where they stand, and what stands in them -/
theorem paired_other {H : Hp} {x : Addr} {u : HO} : ∀ {as : List Addr} {L : List (List Int)}, (∀ a ∈ as, a ≠ x) → Paired (Rw1 H) as L → Paired (Rw1 (upd H x u)) as L
  | _, _, _, .nil => .nil
  | _, _, h, .cons q t => .cons (by unfold Rw1; rw [upd_ne (h _ List.mem_cons_self)]; exact q) (paired_other (fun a ha => h a (List.mem_cons_of_mem _ ha)) t)
theorem flat_nd {B : List (List Addr)} : B.flatten.Nodup → ∀ {i : Nat} {bs : List Addr}, B[i]? = some bs → bs.Nodup := by
  induction B with
  | nil => intro _ i bs e; simp at e
  | cons c B ih =>
    intro h i bs e
    rw [List.flatten_cons, List.nodup_append] at h
    cases i with
    | zero => cases e; exact h.1
    | succ i => exact ih h.2.1 e
theorem mem_flat {B : List (List Addr)} {i : Nat} {bs : List Addr} {b : Addr} (e : B[i]? = some bs) (h : b ∈ bs) : b ∈ B.flatten := List.mem_flatten.mpr ⟨bs, List.mem_of_getElem? e, h⟩
theorem flat_one {B : List (List Addr)} : B.flatten.Nodup → ∀ {i k : Nat} {bs cs : List Addr} {b : Addr}, B[i]? = some bs → B[k]? = some cs → b ∈ bs → b ∈ cs → i = k := by
  induction B with
  | nil => intro _ i k bs cs b e; simp at e
  | cons c B ih =>
    intro h i k bs cs b e1 e2 h1 h2
    rw [List.flatten_cons, List.nodup_append] at h
    cases i with
    | zero =>
      cases e1
      cases k with
      | zero => rfl
      | succ k => exact absurd rfl (h.2.2 b h1 b (mem_flat e2 h2))
    | succ i =>
      cases k with
      | zero =>
        cases e2
        exact absurd rfl (h.2.2 b h2 b (mem_flat e1 h1))
      | succ k => rw [ih h.2.1 e1 e2 h1 h2]
structure Lay (H0 : Hp) (a d : Addr) (as asP : List Addr) (B : List (List Addr)) : Prop where
  nd1 : as.Nodup
  nd2 : B.flatten.Nodup
  sep : ∀ b ∈ B.flatten, b ≠ a ∧ b ≠ d ∧ b ∉ as ∧ b ∉ asP ∧ H0 b = none
  sp1 : ∀ x ∈ as, x ≠ a ∧ x ≠ d ∧ x ∉ asP ∧ H0 x = none
  sp2 : ∀ x ∈ asP, H0 x = none
  fa : H0 a = none
  fd : H0 d = none
structure Cont (H : Hp) (a d : Addr) (as asP : List Addr) (B : List (List Addr)) (L : List (List Int)) (C : List (List (List Int))) : Prop where
  ha : H a = some (.lst (as.map V.ref))
  hd : H d = some (.lst (asP.map V.ref))
  hL : Paired (Rw1 H) as L
  lP : asP.length = C.length
  lB : B.length = C.length
  hC : ∀ (i : Nat) (x : Addr) (bs : List Addr) (M : List (List Int)), asP[i]? = some x → B[i]? = some bs → C[i]? = some M → H x = some (.lst (bs.map V.ref)) ∧ Paired (Rw1 H) bs M
section
variable {H0 H : Hp} {a d : Addr} {as asP : List Addr} {B : List (List Addr)} {L : List (List Int)} {C : List (List (List Int))}
theorem Cont.st {st : Addr} {o u : HO} (l : Lay H0 a d as asP B) (c : Cont H a d as asP B L C) (h : H0 st = some o) : Cont (upd H st u) a d as asP B L C := by
  have ne : ∀ {x}, H0 x = none → x ≠ st := fun hx e => by rw [e, h] at hx; cases hx
  refine ⟨by rw [upd_ne (ne l.fa)]; exact c.ha, by rw [upd_ne (ne l.fd)]; exact c.hd, paired_other (fun x hx => ne (l.sp1 x hx).2.2.2) c.hL, c.lP, c.lB, fun i x bs M e1 e2 e3 => ?_⟩
  obtain ⟨h1, h2⟩ := c.hC i x bs M e1 e2 e3
  exact ⟨by rw [upd_ne (ne (l.sp2 x (List.mem_of_getElem? e1)))]; exact h1, paired_other (fun b hb => ne (l.sep b (mem_flat e2 hb)).2.2.2.2) h2⟩
theorem Cont.same {H' : Hp} (c : Cont H a d as asP B L C) (e : Same H H') : Cont H' a d as asP B L C := by
  refine ⟨e _ _ c.ha, e _ _ c.hd, paired_via (fun _ _ q => e _ _ q) c.hL, c.lP, c.lB, fun i x bs M e1 e2 e3 => ?_⟩
  obtain ⟨h1, h2⟩ := c.hC i x bs M e1 e2 e3
  exact ⟨e _ _ h1, paired_via (fun _ _ q => e _ _ q) h2⟩
theorem Cont.setL (l : Lay H0 a d as asP B) (c : Cont H a d as asP B L C) {i : Nat} {x : Addr} {r' : List Int} {ys : List V} (ex : as[i]? = some x) (ey : ys = r'.map V.int) : Cont (upd H x (.lst ys)) a d as asP B (L.set i r') C := by
  have hx := List.mem_of_getElem? ex
  obtain ⟨x1, x2, x3, _⟩ := l.sp1 x hx
  refine ⟨by rw [upd_ne x1.symm]; exact c.ha, by rw [upd_ne x2.symm]; exact c.hd, paired_upd c.hL l.nd1 ex ey, c.lP, c.lB, fun k y bs M e1 e2 e3 => ?_⟩
  obtain ⟨h1, h2⟩ := c.hC k y bs M e1 e2 e3
  exact ⟨by rw [upd_ne (fun z => x3 (by rw [← z]; exact List.mem_of_getElem? e1))]; exact h1, paired_other (fun b hb z => (l.sep b (mem_flat e2 hb)).2.2.1 (by rw [z]; exact hx)) h2⟩
theorem Cont.setC (l : Lay H0 a d as asP B) (c : Cont H a d as asP B L C) {i j : Nat} {b : Addr} {bs : List Addr} {M : List (List Int)} {r' : List Int} {ys : List V} (eb : B[i]? = some bs) (ej : bs[j]? = some b) (eM : C[i]? = some M) (ey : ys = r'.map V.int) : Cont (upd H b (.lst ys)) a d as asP B L (C.set i (M.set j r')) := by
  have hb := List.mem_of_getElem? ej
  obtain ⟨b1, b2, b3, b4, _⟩ := l.sep b (mem_flat eb hb)
  have hiC : i < C.length := (List.getElem?_eq_some_iff.mp eM).1
  refine ⟨by rw [upd_ne b1.symm]; exact c.ha, by rw [upd_ne b2.symm]; exact c.hd, paired_other (fun x hx z => b3 (by rw [← z]; exact hx)) c.hL, by rw [List.length_set]; exact c.lP, by rw [List.length_set]; exact c.lB, fun k y cs N e1 e2 e3 => ?_⟩
  rw [List.getElem?_set] at e3
  have hy : y ≠ b := fun z => b4 (by rw [← z]; exact List.mem_of_getElem? e1)
  by_cases ck : i = k
  · subst ck
    rw [if_pos rfl, if_pos hiC] at e3
    cases e3
    cases e2.symm.trans eb
    obtain ⟨h1, h2⟩ := c.hC i y _ M e1 e2 eM
    exact ⟨by rw [upd_ne hy]; exact h1, paired_upd h2 (flat_nd l.nd2 eb) ej ey⟩
  · rw [if_neg ck] at e3
    obtain ⟨h1, h2⟩ := c.hC k y cs N e1 e2 e3
    exact ⟨by rw [upd_ne hy]; exact h1, paired_other (fun x hx z => ck (flat_one l.nd2 eb e2 (by rw [z] at hx; exact hb) (by rw [← z]; exact hx))) h2⟩
end
/-- a comprehension of fresh lists of fresh lists -/
theorem lc_new3 {J : It} {n : Nat} {G : Hp → Prop} {Y : Nat → Hp → V → Hp → Prop} (w : Walk J n G Y) (f : Nat → List (List Int)) (hn : n ≤ 1000)
    {g : TG} {te : TE} {vs : List Nat} {σ : L2.St} {H1 : Hp} {D : Addr} {Qd : Hp → Prop} (nD : H1 D = none) (hG : ∀ H, Same H1 H → G H)
    (hs : ∀ i x H H' (Q : VK), i < n → Same H1 H → Y i H x H' → (∀ (y : Addr) (bs : List Addr) (H4 : Hp), Same H H4 → H y = none → H4 y = some (.lst (bs.map V.ref)) → bs.Nodup → (∀ b ∈ bs, H b = none ∧ b ≠ y) → Paired (Rw1 H4) bs (f i) → Q (.ref y) H4) → g x (wipe σ vs) H' fun σ2 H2 => wipe σ2 vs = wipe σ vs ∧ te σ2 H2 Q)
    (hd : ∀ (H : Hp) (as : List Addr) (B : List (List Addr)), Same H1 H → H D = some (.lst (as.map V.ref)) → as.length = n → B.length = n → (∀ x ∈ as, H1 x = none ∧ x ≠ D) → B.flatten.Nodup → (∀ b ∈ B.flatten, H1 b = none ∧ b ≠ D ∧ b ∉ as) → (∀ (k : Nat) (x : Addr) (bs : List Addr), as[k]? = some x → B[k]? = some bs → H x = some (.lst (bs.map V.ref)) ∧ Paired (Rw1 H) bs (f k)) → Qd H) :
    ∃ W : Nat → Nat → Hp → Prop, (∃ m, W 0 m (upd H1 D (.lst []))) ∧ ∀ i m H, W i m H →
      (J.stop i H ∧ Qd H) ∨ (J.go i H ∧ ∃ Nx : Hp → Prop, (∀ H', Nx H' → ∃ m', m' < m ∧ W (i + 1) m' H') ∧ ∀ x H', J.yld i H x H' → g x (wipe σ vs) H' fun σ2 H2 => wipe σ2 vs = wipe σ vs ∧ tYes σ2 H2 fun b H3 =>
        if b = true then te σ2 H3 fun y H4 => ∃ acc, H4 D = some (.lst acc) ∧ acc.length < sizeLine ∧ Nx (upd H4 D (.lst (acc ++ [y]))) else Nx H3) := by
  refine lc_it w (fun i H => i ≤ n ∧ Same H1 H ∧ ∃ (as : List Addr) (B : List (List Addr)), H D = some (.lst (as.map V.ref)) ∧ as.length = i ∧ B.length = i ∧ (∀ x ∈ as, H1 x = none ∧ x ≠ D) ∧ B.flatten.Nodup ∧ (∀ b ∈ B.flatten, H1 b = none ∧ b ≠ D ∧ b ∉ as) ∧ (∀ (k : Nat) (x : Addr) (bs : List Addr), as[k]? = some x → B[k]? = some bs → H x = some (.lst (bs.map V.ref)) ∧ Paired (Rw1 H) bs (f k)))
    ⟨Nat.zero_le n, same_new nD, [], [], upd_same, rfl, rfl, (fun x h => by cases h), List.nodup_nil, (fun x h => by cases h), (fun k x bs h => by simp at h)⟩ (fun i H _ h => hG H h.2.1) (fun i x H H' hi hP hY => ?_) (fun H hP => ?_)
  · obtain ⟨_, sm, as, B, eD, la, lb, fa, nd, fb, hc⟩ := hP
    have z := hs i x H H' (fun y H4 => ∃ acc, H4 D = some (.lst acc) ∧ acc.length < sizeLine ∧ (i + 1 ≤ n ∧ Same H1 (upd H4 D (.lst (acc ++ [y]))) ∧ ∃ (as : List Addr) (B : List (List Addr)), (upd H4 D (.lst (acc ++ [y]))) D = some (.lst (as.map V.ref)) ∧ as.length = i + 1 ∧ B.length = i + 1 ∧ (∀ x ∈ as, H1 x = none ∧ x ≠ D) ∧ B.flatten.Nodup ∧ (∀ b ∈ B.flatten, H1 b = none ∧ b ≠ D ∧ b ∉ as) ∧ (∀ (k : Nat) (x : Addr) (bs : List Addr), as[k]? = some x → B[k]? = some bs → (upd H4 D (.lst (acc ++ [y]))) x = some (.lst (bs.map V.ref)) ∧ Paired (Rw1 (upd H4 D (.lst (acc ++ [y])))) bs (f k)))) hi sm hY (fun y bs H4 s4 ny hy ndb nb hpb => by
      have eD4 := s4 _ _ eD
      have hyD : y ≠ D := fun q => by rw [q, eD] at ny; cases ny
      have hbD : ∀ b ∈ bs, b ≠ D := fun b hb q => by have := (nb b hb).1; rw [q, eD] at this; cases this
      -- what stood stands elsewhere
      have inA : ∀ x ∈ as, ∃ o, H x = some o := fun x hx => by
        obtain ⟨k, hk⟩ := List.mem_iff_getElem?.mp hx
        obtain ⟨bs', hb'⟩ : ∃ bs', B[k]? = some bs' := ⟨_, List.getElem?_eq_getElem (by have := (List.getElem?_eq_some_iff.mp hk).1; omega)⟩
        exact ⟨_, (hc k x bs' hk hb').1⟩
      have inB : ∀ b ∈ B.flatten, ∃ o, H b = some o := fun b hb => by
        obtain ⟨bs', h1, h2⟩ := List.mem_flatten.mp hb
        obtain ⟨k, hk⟩ := List.mem_iff_getElem?.mp h1
        obtain ⟨x', hx'⟩ : ∃ x', as[k]? = some x' := ⟨_, List.getElem?_eq_getElem (by have := (List.getElem?_eq_some_iff.mp hk).1; omega)⟩
        obtain ⟨j, hj⟩ := List.mem_iff_getElem?.mp h2
        obtain ⟨r, _, hr⟩ := paired_get (hc k x' bs' hx' hk).2 hj
        exact ⟨_, hr⟩
      have no : ∀ {p : Addr} {o : HO}, H p = some o → H p ≠ none := fun h q => by rw [h] at q; cases q
      refine ⟨as.map V.ref, eD4, small2000 (by rw [List.length_map]; omega), hi, same_mut (sm.trans s4) nD, as ++ [y], B ++ [bs], by rw [upd_same, List.map_append]; rfl, by rw [List.length_append, la]; rfl, by rw [List.length_append, lb]; rfl, fun x hx => ?_, ?_, fun b hb => ?_, fun k x cs e1 e2 => ?_⟩
      · rcases List.mem_append.mp hx with hx | hx
        · exact fa x hx
        · rw [List.mem_singleton.mp hx]
          exact ⟨sm.free ny, hyD⟩
      · rw [List.flatten_append, List.flatten_cons, List.flatten_nil, List.append_nil, List.nodup_append]
        exact ⟨nd, ndb, fun p hp q hq e => by obtain ⟨o, ho⟩ := inB p hp; rw [e] at ho; exact no ho (nb q hq).1⟩
      · rw [List.flatten_append, List.flatten_cons, List.flatten_nil, List.append_nil] at hb
        rcases List.mem_append.mp hb with hb | hb
        · obtain ⟨q1, q2, q3⟩ := fb b hb
          refine ⟨q1, q2, fun hm => ?_⟩
          rcases List.mem_append.mp hm with hm | hm
          · exact q3 hm
          · obtain ⟨o, ho⟩ := inB b hb
            rw [List.mem_singleton.mp hm] at ho
            exact no ho ny
        · refine ⟨sm.free (nb b hb).1, hbD b hb, fun hm => ?_⟩
          rcases List.mem_append.mp hm with hm | hm
          · obtain ⟨o, ho⟩ := inA b hm
            exact no ho (nb b hb).1
          · exact (nb b hb).2 (List.mem_singleton.mp hm)
      · rcases get_app e1 with e1 | ⟨k1, rfl⟩
        · rcases get_app e2 with e2 | ⟨k2, rfl⟩
          · obtain ⟨h1, h2⟩ := hc k x cs e1 e2
            exact ⟨by rw [upd_ne (fa x (List.mem_of_getElem? e1)).2]; exact s4 _ _ h1, paired_other (fun b hb => (fb b (mem_flat e2 hb)).2.1) (paired_via (fun _ _ q => s4 _ _ q) h2)⟩
          · have := (List.getElem?_eq_some_iff.mp e1).1
            omega
        · rcases get_app e2 with e2 | ⟨k2, rfl⟩
          · have := (List.getElem?_eq_some_iff.mp e2).1
            omega
          · have ek : k = i := by omega
            subst ek
            exact ⟨by rw [upd_ne hyD]; exact hy, paired_other hbD hpb⟩)
    exact z
  · obtain ⟨_, sm, as, B, h⟩ := hP
    obtain ⟨eD, la, lb, fa, nd, fb, hc⟩ := h
    exact hd H as B sm eD la lb fa nd fb hc
def rLstK (K : PySem.W.Frag) : List V → Hp → VK → Prop := fun xs H Q => ∃ p ys, xs = [.ref p] ∧ (SqL K H p ys ∨ SqT K H p ys) ∧ ∀ l, H l = none → Q (.ref l) (upd H l (.lst ys))
theorem call_lstK {X : Cx} : CallR X (.type "list") (rLstK X.K) := call_list_of
/-! ### _law_bent -/
theorem cjv_row {ps : List Int} {C : List (List (List Int))} {i j k : Nat} {M : List (List Int)} {r : List Int} {e : Int} (h : CjV ps C) (eM : C[i]? = some M) (er : M[j]? = some r) (hik : i < k) (hk : k < ps.length) (h0 : 0 ≤ e) (h1 : e < atR ps k) : CjV ps (C.set i (M.set j (r.set k e))) := by
  have hl := (List.getElem?_eq_some_iff.mp eM).1
  obtain ⟨a1, a2⟩ := h.2 i M eM
  refine ⟨by rw [List.length_set]; exact h.1, fun m N eN => ?_⟩
  rw [List.getElem?_set] at eN
  by_cases c : i = m
  · subst c
    rw [if_pos rfl, if_pos hl] at eN
    cases eN
    refine ⟨by rw [List.length_set, a1], fun q hq => ?_⟩
    rcases List.mem_or_eq_of_mem_set hq with hq | rfl
    · exact a2 q hq
    · obtain ⟨b1, b2⟩ := a2 r (List.mem_of_getElem? er)
      exact ⟨bl_set b1 hk h0 h1, zb_set b2 (by rw [b1.1]; exact hk) hik⟩
  · rw [if_neg c] at eN
    exact h.2 m N eN
theorem ok_bent (T : Txt K mg) : FnOk P w K mg base CX0 2 T.a__law_bent T.d__law_bent ["state", "table"] (spBent K) := by
  have G__law_take : FnOk P w K mg base CX0 1 T.a__law_take T.d__law_take ["state", "m"] spTake := ok_take T
  refine T.F__law_bent.ok sc__law_bent (fun vs H Q E h => ?_) (fun cdv A outer s H vs Q E hr h => ?_)
  · obtain ⟨st, z, t, rfl, _⟩ := h
    rfl
  · obtain ⟨st, z, t, rfl, hst, hT, hV, q⟩ := h
    refine ⟨_, (pss_cons (ps_set (i := 2) sc__law_bent.nd rfl (.inl rfl) (pe_callB call_len_seq (by rfl) T.n_len (by decide +kernel) (pa_cons (pe_ix ix_tup (pv 1) pe_int (fun _ _ => rfl)) pa_nil))) 
    (pss_cons (ps_setLc (i := 3) (own := [("row", 10)]) rfl sc__law_bent.nd rfl rfl (sw_true rfl rfl rfl (by decide +kernel)) (pi_tup (pe_ix ix_tup (pv 1) pe_int (fun _ _ => rfl))) (blkOk_by (N := N__law_bent) (sc := defScope s__law_bent) (own := [("row", 10)]) (by decide +kernel)) (fun _ _ _ _ _ => (pg_name (i := 10) sc__law_bent.nd rfl (.inl rfl))) (fun _ _ _ _ _ => pts_nil) (fun _ _ _ _ _ => (pe_callTy (show CallR _ (.type "list") (rLstK K) from call_lstK) (by rfl) T.n_list (by decide +kernel) (pa_cons (pv 10) pa_nil)))) 
    (pss_cons (ps_setLc (i := 4) (own := [("part", 11)]) rfl sc__law_bent.nd rfl rfl (sw_true rfl rfl rfl (by decide +kernel)) (pi_tup (pe_ix ix_tup (pv 1) pe_int (fun _ _ => rfl))) (blkOk_by (N := N__law_bent) (sc := defScope s__law_bent) (own := [("part", 11)]) (by decide +kernel)) (fun _ _ _ _ _ => (pg_name (i := 11) sc__law_bent.nd rfl (.inl rfl))) (fun _ _ _ _ _ => pts_nil) (fun _ _ _ _ _ => (pe_lc (own := [("row", 10)]) rfl sc__law_bent.nd (show PI _ _ _ (iTup K _) from pi_tup (pv 11)) (blkOk_by (N := N__law_bent) (own := [("row", 10)]) (by rfl)) (fun _ _ _ _ _ => (pg_name (i := 10) sc__law_bent.nd rfl (.inl rfl))) (fun _ _ _ _ _ => pts_nil) (fun _ _ _ _ _ => (pe_callTy (show CallR _ (.type "list") (rLstK K) from call_lstK) (by rfl) T.n_list (by decide +kernel) (pa_cons (pv 10) pa_nil)))))) 
    (C8.pss_cut (ps_if (pt_cmpR op_gt (pv 2) pe_int (nomark _)) 
      (pss_one (ps_for PassesOwn.never rfl (pi_range1 (by rfl) T.n_range (pa_cons (pe_op op_add pe_int (pe_call G__law_take (hr.mono (by decide)) (by rfl) T.g__law_take T.F__law_take.kp T.b__law_take .nil pass0 (pa_cons (pv 0) (pa_cons pe_int pa_nil)))) pa_nil)) (pg_name (i := 5) sc__law_bent.nd rfl (.inl rfl)) 
        (pss_cons (ps_set (i := 6) sc__law_bent.nd rfl (.inl rfl) (pe_call G__law_take (hr.mono (by decide)) (by rfl) T.g__law_take T.F__law_take.kp T.b__law_take .nil pass0 (pa_cons (pv 0) (pa_cons (pe_op op_sub (pv 2) pe_int) pa_nil)))) 
        (pss_cons (ps_set (i := 7) sc__law_bent.nd rfl (.inl rfl) (pe_op op_addL (pe_op op_add (pv 6) pe_int) (pe_call G__law_take (hr.mono (by decide)) (by rfl) T.g__law_take T.F__law_take.kp T.b__law_take .nil pass0 (pa_cons (pv 0) (pa_cons (pe_op op_sub (pe_op op_sub (pv 2) pe_int) (pv 6)) pa_nil))))) 
        (pss_cons (ps_set (i := 8) sc__law_bent.nd rfl (.inl rfl) (pe_call G__law_take (hr.mono (by decide)) (by rfl) T.g__law_take T.F__law_take.kp T.b__law_take .nil pass0 (pa_cons (pv 0) (pa_cons (pe_ix ix_tup (pe_ix ix_tup (pv 1) pe_int (fun _ _ => rfl)) (pv 7) (fun _ _ => rfl)) pa_nil)))) 
        (pss_cons (ps_set (i := 9) sc__law_bent.nd rfl (.inl rfl) (pe_call G__law_take (hr.mono (by decide)) (by rfl) T.g__law_take T.F__law_take.kp T.b__law_take .nil pass0 (pa_cons (pv 0) (pa_cons (pe_op op_sub (pv 2) (pv 6)) pa_nil)))) 
        (pss_one (ps_if (pt_cmpR op_eq (pv 9) pe_int (nomark _)) 
          (pss_one (ps_asg (pv 8) (pg_sub (pe_ix ix_list (pv 3) (pv 6) (fun _ _ => rfl)) (pv 7) set_list))) 
          (pss_one (ps_asg (pv 8) (pg_sub (pe_ix ix_list (pe_ix ix_list (pv 4) (pv 6) (fun _ _ => rfl)) (pe_op op_sub (pv 9) pe_int) (fun _ _ => rfl)) (pv 7) set_list))))))))))) pss_nil) 
    (pss_one (ps_ret (pe_tup (pa_cons (pe_ix ix_tup (pv 1) pe_int (fun _ _ => rfl)) (pa_cons (pe_callTy (show CallR _ (.type "tuple") (rTupL K) from call_tupL) (by rfl) T.n_tuple (by decide +kernel) (pa_cons (pe_lc (own := [("row", 10)]) rfl sc__law_bent.nd (pi_list (pv 3)) (blkOk_by (N := N__law_bent) (sc := defScope s__law_bent) (own := [("row", 10)]) (by decide +kernel)) (fun _ _ _ _ _ => (pg_name (i := 10) sc__law_bent.nd rfl (.inl rfl))) (fun _ _ _ _ _ => pts_nil) (fun _ _ _ _ _ => (pe_callTy (show CallR _ (.type "tuple") (rTupL K) from call_tupL) (by rfl) T.n_tuple (by decide +kernel) (pa_cons (pv 10) pa_nil)))) pa_nil)) (pa_cons (pe_callTy (show CallR _ (.type "tuple") (rTupL K) from call_tupL) (by rfl) T.n_tuple (by decide +kernel) (pa_cons (pe_lc (own := [("part", 11)]) rfl sc__law_bent.nd (pi_list (pv 4)) (blkOk_by (N := N__law_bent) (sc := defScope s__law_bent) (own := [("part", 11)]) (by decide +kernel)) (fun _ _ _ _ _ => (pg_name (i := 11) sc__law_bent.nd rfl (.inl rfl))) (fun _ _ _ _ _ => pts_nil) (fun _ _ _ _ _ => (pe_callTy (show CallR _ (.type "tuple") (rTupL K) from call_tupL) (by rfl) T.n_tuple (by decide +kernel) (pa_cons (pe_lc (own := [("row", 10)]) rfl sc__law_bent.nd (show PI _ _ _ (iList K _) from pi_list (pv 11)) (blkOk_by (N := N__law_bent) (own := [("row", 10)]) (by rfl)) (fun _ _ _ _ _ => (pg_name (i := 10) sc__law_bent.nd rfl (.inl rfl))) (fun _ _ _ _ _ => pts_nil) (fun _ _ _ _ _ => (pe_callTy (show CallR _ (.type "tuple") (rTupL K) from call_tupL) (by rfl) T.n_tuple (by decide +kernel) (pa_cons (pv 10) pa_nil)))) pa_nil)))) pa_nil)) pa_nil)))))))))), ?_⟩
    have hn := hV.n10
    obtain ⟨x0, a0, b, c, us, vs, rfl, hSx, hSa, hSb, hPw, hSc, hPc⟩ := hT.rd
    obtain ⟨s0, t0, est⟩ := id hst
    refine ⟨_, rfl, x0, _, 0, _, rfl, rfl, hSx, atI_nat (j := 0) rfl, a0, _, rfl, .inr hSa, ?_⟩
    rw [List.length_map]
    generalize hN : t.ps.length = n at *
    have hul : us.length = n := by rw [Paired.length hPw, hV.pwl, hN]
    have hvl : vs.length = n := by rw [Paired.length hPc, hV.cjl, hN]
    refine ⟨_, rfl, x0, _, 1, _, rfl, rfl, hSx, atI_nat (j := 1) rfl, b, rfl, ⟨_, hSb⟩, fun a nA => ?_⟩
    refine lc_new (walk_tup (xs := us)) Rw1 (fun e q => e _ _ q) (fun _ ne q => by unfold Rw1; rw [upd_ne ne]; exact q) (fun q => ⟨_, q⟩) (fun i => t.pw.getD i []) (by omega) nA (fun _ sm => Own.same_tup sm hSb) (fun i x H1 H2 Q2 hi sm hY q2 => ?_) (fun H1 as s1 eA nd1 fr1 hL => ?_)
    · obtain ⟨rfl, hx⟩ := hY
      obtain ⟨r, er, t', rfl, hS⟩ := paired_get hPw hx
      rw [getD_some er] at q2
      exact ⟨rfl, _, rfl, t', _, rfl, .inr (Own.same_tup sm hS), fun l nl => q2 l _ (same_new nl) nl upd_same⟩
    have hL' : Paired (Rw1 H1) as t.pw := by
      rw [hul, range_getD [] (show t.pw.length = n by rw [hV.pwl, hN])] at hL
      exact hL
    refine ⟨_, rfl, x0, _, 2, _, rfl, rfl, Own.same_tup s1 hSx, atI_nat (j := 2) rfl, c, rfl, ⟨_, Own.same_tup s1 hSc⟩, fun d nD => ?_⟩
    refine lc_new3 (walk_tup (xs := vs)) (fun i => t.cj.getD i []) (by omega) nD (fun _ sm => Own.same_tup (s1.trans sm) hSc) (fun i x H2 H3 Q2 hi sm hY q2 => ?_) (fun H2 asP B s2 eD lP lB frP ndB frB hC => ?_)
    · obtain ⟨rfl, hx⟩ := hY
      obtain ⟨M, eM, mt, us2, rfl, hS, hM⟩ := paired_get hPc hx
      rw [getD_some eM] at q2
      have s12 := s1.trans sm
      have hS2 := Own.same_tup s12 hS
      have hml : us2.length ≤ 1000 := by
        have h1 := Paired.length hM
        have h2 := vd_len3 hV (List.mem_of_getElem? eM)
        omega
      refine ⟨rfl, _, rfl, mt, rfl, ⟨_, hS2⟩, fun D2 nD2 => ?_⟩
      refine lc_new (walk_tup (xs := us2)) Rw1 (fun e q => e _ _ q) (fun _ ne q => by unfold Rw1; rw [upd_ne ne]; exact q) (fun q => ⟨_, q⟩) (fun j => M.getD j []) hml nD2 (fun _ sm => Own.same_tup sm hS2) (fun j y H4 H5 Q3 hj s4 hY q3 => ?_) (fun H4 bs s4 eD2 nd2 fr2 hb => ?_)
      · obtain ⟨rfl, hy⟩ := hY
        obtain ⟨r, er, t', rfl, hSr⟩ := paired_get hM hy
        rw [getD_some er] at q3
        exact ⟨rfl, _, rfl, t', _, rfl, .inr (Own.same_tup (s12.trans s4) hSr), fun l nl => q3 l _ (same_new nl) nl upd_same⟩
      · refine q2 D2 bs H4 s4 nD2 eD2 nd2 fr2 ?_
        rw [Paired.length hM, range_getD [] rfl] at hb
        exact hb
    have inL : ∀ x ∈ as, ∃ o, H1 x = some o := fun x hx => by
      obtain ⟨k, hk⟩ := List.mem_iff_getElem?.mp hx
      obtain ⟨r, _, hr⟩ := paired_get hL' hk
      exact ⟨_, hr⟩
    have lay : Lay H a d as asP B := by
      refine ⟨nd1, ndB, fun y hy => ?_, fun x hx => ?_, fun x hx => s1.free (frP x hx).1, nA, s1.free nD⟩
      · obtain ⟨f1, f2, f3⟩ := frB y hy
        refine ⟨(fun e => by rw [e, eA] at f1; cases f1), f2, (fun hm => ?_), f3, s1.free f1⟩
        obtain ⟨o, ho⟩ := inL y hm
        rw [ho] at f1
        cases f1
      · obtain ⟨f1, f2⟩ := fr1 x hx
        obtain ⟨o, ho⟩ := inL x hx
        exact ⟨f2, (fun e => by rw [e, nD] at ho; cases ho), (fun hm => by rw [(frP x hm).1] at ho; cases ho), f1⟩
    have cont : Cont H2 a d as asP B t.pw t.cj := by
      refine ⟨s2 _ _ eA, eD, paired_via (fun _ _ q => s2 _ _ q) hL', by rw [lP, hV.cjl, hN, hvl], by rw [lB, hV.cjl, hN, hvl], fun i x bs M e1 e2 e3 => ?_⟩
      have := hC i x bs e1 e2
      rw [getD_some e3] at this
      exact this
    have s02 := s1.trans s2
    -- the changes
    refine ⟨fun σ H' => SameX st H H' ∧ StA H' st ∧ ∃ (L : List (List Int)) (C : List (List (List Int))) (y5 y6 y7 y8 y9 : Option V), σ = [some (.ref st), some (.ref x0), some (.int (n : Int)), some (.ref a), some (.ref d), y5, y6, y7, y8, y9, none, none] ∧ Cont H' a d as asP B L C ∧ PwV t.ps L ∧ CjV t.ps C, ?_, ?_⟩
    · have start : SameX st H H2 ∧ StA H2 st ∧ ∃ (L : List (List Int)) (C : List (List (List Int))) (y5 y6 y7 y8 y9 : Option V), ([some (V.ref st), some (.ref x0), some (.int (n : Int)), some (.ref a), some (.ref d), none, none, none, none, none, none, none] : L2.St) = [some (.ref st), some (.ref x0), some (.int (n : Int)), some (.ref a), some (.ref d), y5, y6, y7, y8, y9, none, none] ∧ Cont H2 a d as asP B L C ∧ PwV t.ps L ∧ CjV t.ps C :=
        ⟨Same.x s02, ⟨s0, t0, s02 _ _ est⟩, t.pw, t.cj, none, none, none, none, none, rfl, cont, ⟨hV.pwl, hV.pwr⟩, ⟨hV.cjl, hV.cjr⟩⟩
      refine ⟨_, rfl, _, _, rfl, rfl, _, rfl, ite2 (fun c1 => ?_) (fun c1 => start)⟩
      have hn2 : 2 ≤ n := by
        have := of_decide_eq_true c1
        omega
      refine ⟨_, rfl, st, _, s0, t0, rfl, by decide, by decide, s02 _ _ est, fun m s3 t3 hm0 hm1 => ⟨_, _, rfl, rfl, _, rfl, by omega, by omega, ?_⟩⟩
      refine for_range (lo := 0) (n := (1 + m).toNat) (fun _ σ H' => SameX st H H' ∧ StA H' st ∧ ∃ (L : List (List Int)) (C : List (List (List Int))) (y5 y6 y7 y8 y9 : Option V), σ = [some (.ref st), some (.ref x0), some (.int (n : Int)), some (.ref a), some (.ref d), y5, y6, y7, y8, y9, none, none] ∧ Cont H' a d as asP B L C ∧ PwV t.ps L ∧ CjV t.ps C)
        ⟨start.1.trans SameX.put, ⟨s3, t3, upd_same⟩, t.pw, t.cj, none, none, none, none, none, rfl, cont.st lay est, ⟨hV.pwl, hV.pwr⟩, ⟨hV.cjl, hV.cjr⟩⟩ ?_ (fun σ H' h => h)
      rintro turn σ H3 _ ⟨sx3, ⟨s4, t4, e4⟩, L, C, y5, y6, y7, y8, y9, rfl, c3, hPL, hCC⟩
      have tp3 : ∀ (p : Addr) (xs : List V), SqT K H p xs → SqT K H3 p xs := (Tps.x sx3 est)
      refine ⟨_, rfl, _, rfl, _, _, rfl, rfl, st, _, s4, t4, rfl, by omega, by omega, e4, fun i s5 t5 hi0 hi1 => ?_⟩
      obtain ⟨i, rfl⟩ : ∃ k : Nat, i = (k : Int) := ⟨i.toNat, by omega⟩
      refine ⟨_, rfl, _, _, rfl, rfl, _, rfl, _, rfl, _, _, rfl, rfl, _, rfl, _, _, rfl, rfl, st, _, s5, t5, rfl, by omega, by omega, upd_same, fun k s6 t6 hk0 hk1 => ⟨_, _, rfl, rfl, fun zk ezk => ?_⟩⟩
      obtain ⟨k, rfl⟩ : ∃ m : Nat, k = (m : Int) := ⟨k.toNat, by omega⟩
      have ezk1 : zk = (i : Int) + 1 + (k : Int) := ezk
      have ezk2 : zk = ((i + 1 + k : Nat) : Int) := by omega
      clear ezk ezk1
      subst ezk2
      have hkn : i + 1 + k < t.ps.length := by omega
      have hpk := hV.p2 hkn
      have sx5 : SameX st H3 (upd (upd H3 st (.lst [.int s5, .int t5])) st (.lst [.int s6, .int t6])) := SameX.put.trans SameX.put
      have tp5 := Tps.x (K := K) sx5 e4
      have c5 := (c3.st (u := .lst [.int s5, .int t5]) lay est).st (u := .lst [.int s6, .int t6]) lay est
      refine ⟨_, rfl, _, rfl, x0, _, 0, _, rfl, rfl, tp5 _ _ (tp3 _ _ hSx), atI_nat (j := 0) rfl, _, rfl, a0, _, _, _, rfl, rfl, tp5 _ _ (tp3 _ _ hSa), atW hkn, st, _, s6, t6, rfl, by omega, by omega, upd_same, fun e s7 t7 he0 he1 => ?_⟩
      refine ⟨_, rfl, _, rfl, _, rfl, _, _, rfl, rfl, st, _, s7, t7, rfl, by omega, by omega, upd_same, fun w s8 t8 hw0 hw1 => ?_⟩
      have c8 := (c5.st (u := .lst [.int s7, .int t7]) lay est).st (u := .lst [.int s8, .int t8]) lay est
      have sx8 : SameX st H (upd (upd (upd (upd H3 st (.lst [.int s5, .int t5])) st (.lst [.int s6, .int t6])) st (.lst [.int s7, .int t7])) st (.lst [.int s8, .int t8])) := ((sx3.trans sx5).trans SameX.put).trans SameX.put
      have e8 : (upd (upd (upd (upd H3 st (.lst [.int s5, .int t5])) st (.lst [.int s6, .int t6])) st (.lst [.int s7, .int t7])) st (.lst [.int s8, .int t8])) st = some (.lst [.int s8, .int t8]) := upd_same
      generalize upd (upd (upd (upd H3 st (.lst [.int s5, .int t5])) st (.lst [.int s6, .int t6])) st (.lst [.int s7, .int t7])) st (.lst [.int s8, .int t8]) = H8 at *
      refine ⟨_, rfl, rfl, _, rfl, ite2 (fun c2 => ?_) (fun c2 => ?_)⟩
      · obtain ⟨r, er⟩ : ∃ r, L[i]? = some r := ⟨_, List.getElem?_eq_getElem (by rw [hPL.1]; omega)⟩
        obtain ⟨x, ex, hx⟩ := paired_get2 c8.hL er
        obtain ⟨b1, b2⟩ := hPL.2 i r er
        refine ⟨_, rfl, _, rfl, _, rfl, a, _, _, .ref x, rfl, rfl, .inl (.inl c8.ha), atI_nat (by rw [List.getElem?_map, ex]; rfl), _, rfl, x, _, _, i + 1 + k, rfl, rfl, hx, ixN_ok (by rw [List.length_map, b1.1]; exact hkn), ?_⟩
        have nx := (lay.sp1 x (List.mem_of_getElem? ex)).2.2.2
        have hne : x ≠ st := fun z => by rw [z, est] at nx; cases nx
        refine ⟨fun y o ny hy => by rw [upd_ne (ne_of_none hy nx)]; exact sx8 y o ny hy, ⟨s8, t8, by rw [upd_ne hne.symm]; exact e8⟩, L.set i (r.set (i + 1 + k) e), C, _, _, _, _, _, rfl, c8.setL lay ex (by rw [List.map_set]), ?_, hCC⟩
        have := pwv_put (x := (i, i + 1 + k, e)) hPL ⟨by show i < i + 1 + k; omega, hkn, he0, he1⟩
        unfold putR at this
        rw [getD_some er] at this
        exact this
      · have hw : w ≠ 0 := fun z => c2 (decide_eq_true (by rw [z]))
        obtain ⟨M, eM⟩ : ∃ M, C[i]? = some M := ⟨_, List.getElem?_eq_getElem (by rw [hCC.1]; omega)⟩
        obtain ⟨a1, a2⟩ := hCC.2 i M eM
        obtain ⟨j, rfl⟩ : ∃ j : Nat, w = (j : Int) + 1 := ⟨(w - 1).toNat, by omega⟩
        obtain ⟨r, er⟩ : ∃ r, M[j]? = some r := ⟨_, List.getElem?_eq_getElem (by omega)⟩
        obtain ⟨b1, b2⟩ := a2 r (List.mem_of_getElem? er)
        obtain ⟨x, ex⟩ : ∃ x, asP[i]? = some x := ⟨_, List.getElem?_eq_getElem (by rw [c8.lP, hCC.1]; omega)⟩
        obtain ⟨bs, eb⟩ : ∃ bs, B[i]? = some bs := ⟨_, List.getElem?_eq_getElem (by rw [c8.lB, hCC.1]; omega)⟩
        obtain ⟨hx, hb⟩ := c8.hC i x bs M ex eb eM
        obtain ⟨y, ey, hy⟩ := paired_get2 hb er
        refine ⟨_, rfl, _, rfl, _, rfl, d, _, _, .ref x, rfl, rfl, .inl (.inl c8.hd), atI_nat (by rw [List.getElem?_map, ex]; rfl), _, rfl, _, _, rfl, rfl, x, _, _, .ref y, rfl, rfl, .inl (.inl hx), ?_, _, rfl, y, _, _, i + 1 + k, rfl, rfl, hy, ixN_ok (by rw [List.length_map, b1.1]; exact hkn), ?_⟩
        · rw [show (j : Int) + 1 - 1 = (j : Int) by omega]
          exact atI_nat (by rw [List.getElem?_map, ey]; rfl)
        have ny' := (lay.sep y (mem_flat eb (List.mem_of_getElem? ey))).2.2.2.2
        have hne : y ≠ st := fun z => by rw [z, est] at ny'; cases ny'
        exact ⟨fun z o nz hz => by rw [upd_ne (ne_of_none hz ny')]; exact sx8 z o nz hz, ⟨s8, t8, by rw [upd_ne hne.symm]; exact e8⟩, L, C.set i (M.set j (r.set (i + 1 + k) e)), _, _, _, _, _, rfl, c8.setC lay eb ey eM (by rw [List.map_set]), hPL, cjv_row hCC eM er (by omega) hkn he0 he1⟩
    · rintro σ H3 ⟨sx3, hst3, L, C, y5, y6, y7, y8, y9, rfl, c3, hPL, hCC⟩
      have hsx := Tps.x (K := K) sx3 est
      have hal : as.length = n := by rw [Paired.length c3.hL, hPL.1, hN]
      have hpl : asP.length = n := by rw [c3.lP, hCC.1, hN]
      refine ⟨_, rfl, x0, _, 0, _, rfl, rfl, hsx _ _ hSx, atI_nat (j := 0) rfl, ?_⟩
      refine ⟨_, rfl, a, rfl, ⟨_, .inl (.inl c3.ha)⟩, fun D nD => ?_⟩
      refine lc_rep (walk_list (xs := as.map V.ref)) (st_RS (K := K)) (fun i => L.getD i []) (by rw [List.length_map]; omega) nD (fun H6 s6 => .inl (.inl (s6 _ _ c3.ha))) (fun i x H6 H7 Q2 hi s6 hY q2 => ?_) (fun H6 acc s6 eD6 hPa => ?_)
      · obtain ⟨rfl, hx⟩ := hY
        rw [List.getElem?_map] at hx
        obtain ⟨x1, hx1, rfl⟩ := Option.map_eq_some_iff.mp hx
        obtain ⟨r, er, hr1⟩ := paired_get c3.hL hx1
        refine ⟨rfl, _, rfl, x1, _, rfl, .inl (.inl (s6 _ _ hr1)), fun t ob nt nob => q2 _ _ (same_new nt) ⟨t, rfl, .inl (.inr ⟨ob, ?_⟩)⟩⟩
        rw [getD_some er]
        exact upd_same
      rw [List.length_map, hal, range_getD [] (show L.length = n by rw [hPL.1, hN])] at hPa
      refine ⟨D, _, rfl, .inl (.inl eD6), fun tq obq ntq nobq => ?_⟩
      have s7 := s6.trans (same_new (o := .frz obq (.tup acc)) ntq)
      have htq : SqT K (upd H6 tq (.frz obq (.tup acc))) tq acc := .inl (.inr ⟨_, upd_same⟩)
      have hPa7 := st_RS.all (same_new (o := .frz obq (.tup acc)) ntq) hPa
      generalize upd H6 tq (.frz obq (.tup acc)) = H7 at *
      have c7 := c3.same s7
      refine ⟨_, rfl, d, rfl, ⟨_, .inl (.inl c7.hd)⟩, fun D2 nD2 => ?_⟩
      refine lc_rep (walk_list (xs := asP.map V.ref)) (st_Tup1 (K := K)) (fun i => C.getD i []) (by rw [List.length_map]; omega) nD2 (fun H8 s8 => .inl (.inl (s8 _ _ c7.hd))) (fun i x H8 H9 Q2 hi s8 hY q2 => ?_) (fun H8 acc2 s8 eD2 hPb => ?_)
      · obtain ⟨rfl, hx⟩ := hY
        rw [List.getElem?_map] at hx
        obtain ⟨x1, hx1, rfl⟩ := Option.map_eq_some_iff.mp hx
        rw [List.length_map] at hi
        obtain ⟨bs, eb⟩ : ∃ bs, B[i]? = some bs := ⟨_, List.getElem?_eq_getElem (by rw [c7.lB, ← c7.lP]; exact hi)⟩
        obtain ⟨M, eM⟩ : ∃ M, C[i]? = some M := ⟨_, List.getElem?_eq_getElem (by rw [← c7.lP]; exact hi)⟩
        obtain ⟨hb1, hb2⟩ := c7.hC i x1 bs M hx1 eb eM
        have hML := (hCC.2 _ _ eM).1
        have hbl := Paired.length hb2
        refine ⟨rfl, _, rfl, x1, rfl, ⟨_, .inl (.inl (s8 _ _ hb1))⟩, fun D3 nD3 => ?_⟩
        refine lc_rep (walk_list (xs := bs.map V.ref)) (st_RS (K := K)) (fun j => M.getD j []) (by rw [List.length_map]; omega) nD3 (fun H10 s10 => .inl (.inl (s10 _ _ (s8 _ _ hb1)))) (fun j x H10 H11 Q3 hj s10 hY3 q3 => ?_) (fun H10 acc3 s10 eD3 hPc => ?_)
        · obtain ⟨rfl, hx3⟩ := hY3
          rw [List.getElem?_map] at hx3
          obtain ⟨x3, hx4, rfl⟩ := Option.map_eq_some_iff.mp hx3
          obtain ⟨r, er, hr1⟩ := paired_get hb2 hx4
          refine ⟨rfl, _, rfl, x3, _, rfl, .inl (.inl (s10 _ _ (s8 _ _ hr1))), fun t ob nt nob => q3 _ _ (same_new nt) ⟨t, rfl, .inl (.inr ⟨ob, ?_⟩)⟩⟩
          rw [getD_some er]
          exact upd_same
        · rw [List.length_map, hbl, range_getD [] rfl] at hPc
          refine ⟨D3, _, rfl, .inl (.inl eD3), fun t ob nt nob => q2 _ _ (s10.trans (same_new nt)) ⟨t, _, rfl, .inl (.inr ⟨ob, upd_same⟩), ?_⟩⟩
          rw [getD_some eM]
          exact st_RS.all (same_new nt) hPc
      rw [List.length_map, hpl, range_getD [] (show C.length = n by rw [hCC.1, hN])] at hPb
      refine ⟨D2, _, rfl, .inl (.inl eD2), fun tr obr ntr nobr => ⟨by show 3 ≤ sizeLine; decide, fun tz ntz => ?_⟩⟩
      have s9 := same_new (o := .frz obr (.tup acc2)) ntr
      have s10 := same_new (o := .tup [V.ref a0, V.ref tq, V.ref tr]) ntz
      have s810 := s8.trans (s9.trans s10)
      have sAll := s7.trans s810
      obtain ⟨s11, t11, e11⟩ := hst3
      refine q (.ref tz) ⟨t.ps, L, C⟩ _ (sx3.trans (Same.x sAll)) ⟨s11, t11, sAll _ _ e11⟩ ⟨tz, a0, tq, tr, acc2, rfl, .inl (.inl upd_same), Own.same_tup sAll (hsx _ _ hSa), ⟨tq, acc, rfl, Own.same_tup s810 htq, st_RS.all s810 hPa7⟩, .inl (.inr ⟨obr, s10 _ _ upd_same⟩), st_Tup1.all (s9.trans s10) hPb⟩ ⟨hV.pr, by rw [hN]; exact hn, hV.sz, hPL.1, hPL.2, hCC.1, hCC.2⟩ rfl
/-! ### tables as values of any form -/
theorem Items.cons {H : Hp} {u : V} {d : Dv} {us : List V} {ds : List Dv} (h : AtV K H u d) (k : Items K H us ds) : Items K H (u :: us) (d :: ds) := ⟨by rw [List.length_cons, List.length_cons, k.1], fun i x y e1 e2 => by
  cases i with
  | zero =>
    cases e1
    cases e2
    exact h
  | succ i => exact k.2 i x y e1 e2⟩
theorem Items.nil {H : Hp} : Items K H [] [] := ⟨rfl, fun i u d h => by simp at h⟩
theorem items_of {H : Hp} : ∀ {us : List V} {ds : List Dv}, Paired (AtV K H) us ds → Items K H us ds
  | _, _, .nil => Items.nil
  | _, _, .cons h t => Items.cons h (items_of t)
def rowT (r : List Int) : Dv := .tup (r.map Dv.int)
def rowsT (M : List (List Int)) : Dv := .tup (M.map rowT)
theorem av_row {H : Hp} {v : V} {r : List Int} (h : RS K H v r) : AtV K H v (rowT r) := by
  obtain ⟨t, rfl, hS⟩ := h
  refine .tup hS (by rw [List.length_map, List.length_map]) fun i u d e1 e2 => ?_
  rw [List.getElem?_map] at e1 e2
  cases hr : r[i]? with
  | none => rw [hr] at e1; cases e1
  | some z =>
    rw [hr] at e1 e2
    cases e1
    cases e2
    exact .int z
theorem paired_map {α β γ : Type} {R : α → β → Prop} {S : α → γ → Prop} (f : β → γ) (h : ∀ a b, R a b → S a (f b)) : ∀ {as : List α} {bs : List β}, Paired R as bs → Paired S as (bs.map f)
  | _, _, .nil => .nil
  | _, _, .cons k t => .cons (h _ _ k) (paired_map f h t)
theorem av_rows {H : Hp} {v : V} {M : List (List Int)} (h : Tup1 K H v M) : AtV K H v (rowsT M) := by
  obtain ⟨t, us, rfl, hS, hP⟩ := h
  have hI := items_of (paired_map rowT (fun _ _ q => av_row q) hP)
  exact .tup hS hI.1 hI.2
theorem av_cj {H : Hp} {c : Addr} {us : List V} {C : List (List (List Int))} (hS : SqT K H c us) (hP : Paired (Tup1 K H) us C) : AtV K H (.ref c) (.tup (C.map rowsT)) := by
  have hI := items_of (paired_map rowsT (fun _ _ q => av_rows q) hP)
  exact .tup hS hI.1 hI.2
theorem psD_row (ps : List Int) : psD (rowT ps) = ps := by
  show (ps.map Dv.int).map _ = ps
  rw [List.map_map]
  exact List.map_id ps
theorem zer_take {r : List Int} {k : Nat} (h : Zb r k) (hk : k ≤ r.length) : ((r.map Dv.int).take k).all zerD = true := by
  rw [List.all_eq_true]
  intro d hd
  rw [← List.map_take] at hd
  obtain ⟨x, hx, rfl⟩ := List.mem_map.mp hd
  obtain ⟨i, hi, rfl⟩ := List.mem_iff_getElem.mp hx
  rw [List.length_take] at hi
  have := h i (by omega)
  unfold atR at this
  rw [List.getD_eq_getElem?_getD, List.getElem?_eq_getElem (by omega)] at this
  show decide (_ = 0) = true
  rw [List.getElem_take]
  exact decide_eq_true this
theorem rightD_true {ps r : List Int} {i : Nat} (hi : i < ps.length) (h : Bl ps r ∧ Zb r (i + 1)) : rightD ps i (rowT r) = true := by
  show (rowD (.tup (r.map Dv.int)) ps && _) = true
  rw [rowD_true h.1, Bool.true_and]
  exact zer_take h.2 (by rw [h.1.1]; omega)
theorem primes_true {ps : List Int} (h : ∀ p ∈ ps, p ∈ pr31) : primesD (rowT ps) = true := by
  show (ps.map Dv.int).all _ = true
  rw [List.all_eq_true]
  intro d hd
  obtain ⟨x, hx, rfl⟩ := List.mem_map.mp hd
  exact decide_eq_true (h x hx)
theorem powers_true {ps : List Int} {L : List (List Int)} (h : PwV ps L) : powersD (rowsT L) ps = true := by
  show (decide ((L.map rowT).length = ps.length) && _) = true
  rw [List.length_map, decide_eq_true h.1, Bool.true_and, List.all_eq_true]
  intro i hi
  have hi := List.mem_range.mp hi
  have e : L[i]? = some L[i] := List.getElem?_eq_getElem hi
  rw [getD_some (show (L.map rowT)[i]? = some (rowT L[i]) by rw [List.getElem?_map, e]; rfl)]
  exact rightD_true (by rw [← h.1]; exact hi) (h.2 i _ e)
theorem rights_true {ps : List Int} {M : List (List Int)} {i : Nat} (hi : i < ps.length) (hl : M.length = ps.length - (i + 1)) (h : ∀ r ∈ M, Bl ps r ∧ Zb r (i + 1)) : rightsD (rowsT M) ((ps.length : Int) - i - 1) ps i = true := by
  show (decide (((M.map rowT).length : Int) = _) && (M.map rowT).all _) = true
  rw [List.length_map, decide_eq_true (by omega), Bool.true_and, List.all_eq_true]
  intro d hd
  obtain ⟨r, hr, rfl⟩ := List.mem_map.mp hd
  exact rightD_true hi (h r hr)
theorem conjs_true {ps : List Int} {C : List (List (List Int))} (h : CjV ps C) : conjsD (.tup (C.map rowsT)) ps = true := by
  show (decide ((C.map rowsT).length = ps.length) && _) = true
  rw [List.length_map, decide_eq_true h.1, Bool.true_and, List.all_eq_true]
  intro i hi
  have hi := List.mem_range.mp hi
  have e : C[i]? = some C[i] := List.getElem?_eq_getElem hi
  rw [getD_some (show (C.map rowsT)[i]? = some (rowsT C[i]) by rw [List.getElem?_map, e]; rfl)]
  exact rights_true (by rw [← h.1]; exact hi) (h.2 i _ e).1 (h.2 i _ e).2
theorem form_true {ps : List Int} {L : List (List Int)} {C : List (List (List Int))} (hp : ∀ p ∈ ps, p ∈ pr31) (hL : PwV ps L) (hC : CjV ps C) : formD (rowT ps) (rowsT L) (.tup (C.map rowsT)) = true := by
  unfold formD
  rw [psD_row, primes_true hp, powers_true hL, conjs_true hC]
  rfl
/-! spoilt forms -/
theorem vd_form {t : Tb} (h : Vd t) : formD (rowT t.ps) (rowsT t.pw) (.tup (t.cj.map rowsT)) = true := form_true h.pr ⟨h.pwl, h.pwr⟩ ⟨h.cjl, h.cjr⟩
theorem vd_big {t : Tb} (h : Vd t) : ¬ Big (psD (rowT t.ps)) := by
  rw [psD_row]
  rintro (z | z)
  · have := h.n10
    omega
  · have := h.sz
    omega
/-! ### tables as data; rows taken one number after another; the tables behind large -/
def dRows (M : List (List Int)) : PyData := .tuple (M.map dInts)
def dRowsL (M : List (List Int)) : PyData := .list (M.map dInts)
def dCj (C : List (List (List Int))) : PyData := .tuple (C.map dRows)
def dTab (t : Tb) : PyData := .tuple [dInts t.ps, dRows t.pw, dCj t.cj]
def dOwn (t : Tb) : PyData := .tuple [.int (t.ps.length : Int), dInts t.ps, dRows t.pw, dCj t.cj, .int (prodN t.ps : Int)]
theorem dpAll_of {α : Type} {H : Hp} (f : α → PyData) {R : V → α → Prop} (h : ∀ v x, R v x → Dp K H v (f x)) : ∀ {us : List V} {xs : List α}, Paired R us xs → DpAll K H us (xs.map f)
  | _, _, .nil => .nil
  | _, _, .cons k t => .cons (h _ _ k) (dpAll_of f h t)
theorem dp_rs {H : Hp} {v : V} {r : List Int} (h : RS K H v r) : Dp K H v (dInts r) := by
  obtain ⟨t, rfl, hS⟩ := h
  exact dp_ints hS
theorem dp_tup1 {H : Hp} {v : V} {M : List (List Int)} (h : Tup1 K H v M) : Dp K H v (dRows M) := by
  obtain ⟨t, us, rfl, hS, hP⟩ := h
  exact .tup hS (dpAll_of _ (fun _ _ k => dp_rs k) hP)
theorem dp_cj {H : Hp} {c : Addr} {us : List V} {C : List (List (List Int))} (hS : SqT K H c us) (hP : Paired (Tup1 K H) us C) : Dp K H (.ref c) (dCj C) := .tup hS (dpAll_of _ (fun _ _ k => dp_tup1 k) hP)
theorem dp_tab {H : Hp} {z : V} {t : Tb} (h : TbAt K H z t) : Dp K H z (dTab t) := by
  obtain ⟨x, a, b, c, us, rfl, h2, h3, h4, h5, h6⟩ := h.ex
  exact .tup h2 (.cons (dp_ints h3) (.cons (dp_tup1 h4) (.cons (dp_cj h5 h6) .nil)))
theorem lay_all {α : Type} {f : α → PyData} (h : ∀ x, PyData.canLay0 (f x) = true) : ∀ xs : List α, PyData.canLayAll0 (xs.map f) = true
  | [] => by simp [PyData.canLayAll0]
  | x :: r => by simp [PyData.canLayAll0, h x, lay_all h r]
theorem dep_all {α : Type} {f : α → PyData} {k : Nat} (h : ∀ x, PyData.depth (f x) ≤ k) : ∀ xs : List α, PyData.depthAll (xs.map f) ≤ k
  | [] => by simp [PyData.depthAll]
  | x :: r => by
    have h1 := h x
    have h2 := dep_all h r
    simp only [List.map_cons, PyData.depthAll]
    omega
theorem eqv_all {α : Type} [DecidableEq α] {f : α → PyData} (h : ∀ x y, PyData.eqv (f x) (f y) = decide (x = y)) : ∀ xs ys : List α, PyData.eqvAll (xs.map f) (ys.map f) = decide (xs = ys)
  | [], [] => by simp [PyData.eqvAll]
  | [], _ :: _ => by simp [PyData.eqvAll]
  | _ :: _, [] => by simp [PyData.eqvAll]
  | x :: r, y :: q => by
    simp only [List.map_cons, PyData.eqvAll, h x y, eqv_all h r q]
    by_cases c : x = y <;> simp [c]
theorem lay_ints (r : List Int) : PyData.canLay0 (dInts r) = true := by
  unfold dInts
  simp only [PyData.canLay0]
  exact PySem.W.canLayAll0_ints r
theorem dep_ints (r : List Int) : PyData.depth (dInts r) ≤ 4 := by
  have h1 := PySem.W.depthAll_ints r
  unfold dInts
  simp only [PyData.depth]
  omega
theorem lay_rows (M : List (List Int)) : PyData.canLay0 (dRows M) = true := by
  unfold dRows
  simp only [PyData.canLay0]
  exact lay_all lay_ints M
theorem dep_rows (M : List (List Int)) : PyData.depth (dRows M) ≤ 6 := by
  have h1 := dep_all dep_ints M
  unfold dRows
  simp only [PyData.depth]
  omega
theorem lay_cj (C : List (List (List Int))) : PyData.canLay0 (dCj C) = true := by
  unfold dCj
  simp only [PyData.canLay0]
  exact lay_all lay_rows C
theorem dep_cj (C : List (List (List Int))) : PyData.depth (dCj C) ≤ 8 := by
  have h1 := dep_all dep_rows C
  unfold dCj
  simp only [PyData.depth]
  omega
theorem shaped_of {d : PyData} (h : PyData.canLay0 d = true) (k : PyData.depth d ≤ 64) : SeqAt.shaped d = true := by
  show (PyData.canLay0 d && decide (PyData.depth d ≤ 64)) = true
  rw [h, decide_eq_true k]
  rfl
theorem shaped_rows (M : List (List Int)) : SeqAt.shaped (dRows M) = true := shaped_of (lay_rows M) (Nat.le_trans (dep_rows M) (by decide))
theorem shaped_cj (C : List (List (List Int))) : SeqAt.shaped (dCj C) = true := shaped_of (lay_cj C) (Nat.le_trans (dep_cj C) (by decide))
theorem shaped_rowsL (M : List (List Int)) : SeqAt.shaped (dRowsL M) = true := by
  have h1 := dep_all dep_ints M
  refine shaped_of ?_ ?_
  · unfold dRowsL
    simp only [PyData.canLay0]
    exact lay_all lay_ints M
  · unfold dRowsL
    simp only [PyData.depth]
    omega
theorem shaped_tab (t : Tb) : SeqAt.shaped (dTab t) = true := by
  have h1 := dep_ints t.ps
  have h2 := dep_rows t.pw
  have h3 := dep_cj t.cj
  refine shaped_of ?_ ?_
  · unfold dTab
    simp [PyData.canLay0, PyData.canLayAll0, lay_ints, lay_rows, lay_cj]
  · unfold dTab
    simp only [PyData.depth, PyData.depthAll]
    omega
theorem shaped_own (t : Tb) : SeqAt.shaped (dOwn t) = true := by
  have h1 := dep_ints t.ps
  have h2 := dep_rows t.pw
  have h3 := dep_cj t.cj
  refine shaped_of ?_ ?_
  · unfold dOwn
    simp [PyData.canLay0, PyData.canLayAll0, lay_ints, lay_rows, lay_cj]
  · unfold dOwn
    simp only [PyData.depth, PyData.depthAll]
    omega
theorem eqv_rows (M N : List (List Int)) : PyData.eqv (dRows M) (dRows N) = decide (M = N) := by
  unfold dRows
  rw [PyData.eqv]
  exact eqv_all eqv_dInts M N
theorem eqv_rowsL (M N : List (List Int)) : PyData.eqv (dRowsL M) (dRowsL N) = decide (M = N) := by
  unfold dRowsL
  rw [PyData.eqv]
  exact eqv_all eqv_dInts M N
theorem eqv_cj (C D : List (List (List Int))) : PyData.eqv (dCj C) (dCj D) = decide (C = D) := by
  unfold dCj
  rw [PyData.eqv]
  exact eqv_all eqv_rows C D
theorem eqv_own (t : Tb) : PyData.eqv (dOwn t) (dOwn t) = true := by
  unfold dOwn
  simp [PyData.eqv, PyData.eqvAll, eqv_dInts, eqv_rows, eqv_cj]
theorem eqv_tab (t u : Tb) : PyData.eqv (dTab t) (dTab u) = (PyData.eqv (dInts u.ps) (dInts t.ps) && (PyData.eqv (dRows u.pw) (dRows t.pw) && PyData.eqv (dCj u.cj) (dCj t.cj))) := by
  unfold dTab
  simp only [PyData.eqv, PyData.eqvAll, eqv_dInts, eqv_rows, eqv_cj, Bool.and_true]
  rw [decide_eq_decide.mpr (eq_comm (a := t.ps) (b := u.ps)), decide_eq_decide.mpr (eq_comm (a := t.pw) (b := u.pw)), decide_eq_decide.mpr (eq_comm (a := t.cj) (b := u.cj))]
theorem lc_takes {g : TG} {te : TE} {vs : List Nat} {σ : L2.St} {H1 : Hp} {D st a : Addr} {ps : List Int} {Qd : Hp → Prop} (hl : ps.length ≤ 1000) (nD : H1 D = none) (hst : StA H1 st) (hS : SqT K H1 a (ps.map V.int))
    (hs : ∀ (i : Nat) (H : Hp) (Q : VK), i < ps.length → StA H st → (∀ v H', SameX st H H' → StA H' st → 0 ≤ v → v < atR ps i → Q (.int v) H') → g (V.int (atR ps i)) (wipe σ vs) H fun σ2 H2 => wipe σ2 vs = wipe σ vs ∧ te σ2 H2 Q)
    (hd : ∀ H r, SameX st H1 H → StA H st → H D = some (.lst (r.map V.int)) → Bl ps r → Qd H) :
    ∃ W : Nat → Nat → Hp → Prop, (∃ m, W 0 m (upd H1 D (.lst []))) ∧ ∀ i m H, W i m H →
      ((Itt K a).stop i H ∧ Qd H) ∨ ((Itt K a).go i H ∧ ∃ Nx : Hp → Prop, (∀ H', Nx H' → ∃ m', m' < m ∧ W (i + 1) m' H') ∧ ∀ x H', (Itt K a).yld i H x H' → g x (wipe σ vs) H' fun σ2 H2 => wipe σ2 vs = wipe σ vs ∧ tYes σ2 H2 fun b H3 =>
        if b = true then te σ2 H3 fun y H4 => ∃ acc, H4 D = some (.lst acc) ∧ acc.length < sizeLine ∧ Nx (upd H4 D (.lst (acc ++ [y]))) else Nx H3) := by
  obtain ⟨s0, t0, est⟩ := hst
  have hD : st ≠ D := ne_of_none est nD
  refine lc_it (walk_row (v := ps)) (fun i H2 => i ≤ ps.length ∧ ∃ r : List Int, SameX st H1 H2 ∧ StA H2 st ∧ H2 D = some (.lst (r.map V.int)) ∧ r.length = i ∧ ∀ k, k < i → 0 ≤ atR r k ∧ atR r k < atR ps k)
    ⟨Nat.zero_le _, [], Same.x (same_new nD), ⟨s0, t0, by rw [upd_ne hD]; exact est⟩, upd_same, rfl, fun k hk => absurd hk (Nat.not_lt_zero k)⟩ (fun i H2 _ h => by
      obtain ⟨_, r, sx, _⟩ := h
      exact (Tps.x sx est) _ _ hS) (fun i x H2 H3 hi hP hY => ?_) (fun H2 hP => ?_)
  · obtain ⟨_, r, sx, hst2, eD, hl2, hv⟩ := hP
    obtain ⟨rfl, hx⟩ := hY
    rw [List.getElem?_map, atR_get hi] at hx
    cases hx
    exact hs i _ (fun y H4 => ∃ acc, H4 D = some (.lst acc) ∧ acc.length < sizeLine ∧ (i + 1 ≤ ps.length ∧ ∃ r : List Int, SameX st H1 (upd H4 D (.lst (acc ++ [y]))) ∧ StA (upd H4 D (.lst (acc ++ [y]))) st ∧ (upd H4 D (.lst (acc ++ [y]))) D = some (.lst (r.map V.int)) ∧ r.length = i + 1 ∧ ∀ k, k < i + 1 → 0 ≤ atR r k ∧ atR r k < atR ps k)) hi hst2 fun v H4 sx4 hst4 h0 h1 => by
      obtain ⟨s2, t2, es2⟩ := hst4
      have eD4 := sx4 _ _ hD.symm eD
      refine ⟨r.map V.int, eD4, small2000 (by rw [List.length_map]; omega), hi, r ++ [v], fun b o nb hb => ?_, ⟨s2, t2, by rw [upd_ne hD]; exact es2⟩, by rw [upd_same, List.map_append]; rfl, by rw [List.length_append, hl2]; rfl, fun k hk => ?_⟩
      · rw [upd_ne (ne_of_none hb nD)]
        exact sx4 b o nb (sx b o nb hb)
      · rcases Nat.lt_or_ge k i with c | c
        · rw [atR_app1 (by omega)]
          exact hv k c
        · have e : k = i := by omega
          subst e
          rw [atR_app2 (by omega), hl2, Nat.sub_self]
          exact ⟨h0, h1⟩
  · obtain ⟨_, r, sx, hst2, eD, hl2, hv⟩ := hP
    exact hd H2 r sx hst2 eD ⟨hl2, fun k hk => hv k (by rw [← hl2] at hk; omega)⟩
theorem same_tps {H H' : Hp} (s : Same H H') : Tps K H H' := Tps.of s
/-- rows as data -/
theorem rs_d {H : Hp} {v : V} {r : List Int} (h : RS K H v r) : Dp K H v (dInts r) ∧ SeqAt.shaped (dInts r) = true := ⟨dp_rs h, shaped_dInts r⟩
theorem ne_rows {r r' : List Int} (h : r = r') : (!PyData.eqv (dInts r) (dInts r')) = false := by rw [eqv_dInts, decide_eq_true h]; rfl
theorem eq_rows {r r' : List Int} (h : r = r') : PyData.eqv (dInts r) (dInts r') = true := by rw [eqv_dInts, decide_eq_true h]
theorem rs_letters {H : Hp} {a b : V} {x y : List Int} (h : RS K H a (letF 0 x)) (k : RS K H b (letF 0 y)) : ∃ ta tb, a = .ref ta ∧ b = .ref tb ∧ SqT K H ta ((letN 0 x).map fun m : Nat => V.int ((m : Int) + 1)) ∧ SqT K H tb ((letN 0 y).map fun m : Nat => V.int ((m : Int) + 1)) := by
  obtain ⟨ta, rfl, h⟩ := h
  obtain ⟨tb, rfl, k⟩ := k
  rw [letF_eq, List.map_map] at h k
  exact ⟨ta, tb, rfl, rfl, h, k⟩
theorem col_two {t : Tb} {x y : List Int} (hx : Bl t.ps x) : colW t t.ps.length (zeroR t.ps.length) (letN 0 x ++ letN 0 y) = timT t t.ps.length x y := by
  rw [col_app]
  have e : colW t t.ps.length (zeroR t.ps.length) (letN 0 x) = x := by
    rcases Nat.eq_zero_or_pos t.ps.length with c | c
    · have z1 : x = [] := List.eq_nil_of_length_eq_zero (by rw [hx.1]; exact c)
      rw [z1, c]
      rfl
    · obtain ⟨d, ed⟩ : ∃ d, t.ps.length = d + 1 := ⟨t.ps.length - 1, by omega⟩
      have := col_normal (d := d) hx
      rw [← ed] at this
      exact this
  rw [e]
  rfl
theorem let_short {t : Tb} (hV : Vd t) (hn : t.ps.length ≤ 5) {r : List Int} (hb : Bl t.ps r) : (letN 0 r).length ≤ 155 := by
  have := letN_len (l := r) (k := 0) fun i hi => (row_31 hV hb _ (atR_in hi)).2
  have h2 : r.length * 31 ≤ 5 * 31 := Nat.mul_le_mul_right _ (by rw [hb.1]; exact hn)
  omega
/-! ### overlaps: as words, and in the heap -/
abbrev Ov := List Nat × List Nat × List Nat
def wV (ws : List Nat) : List V := ws.map fun m : Nat => V.int ((m : Int) + 1)
def pwN (t : Tb) (i : Nat) : List Nat := letN 0 (t.pw.getD i [])
def cjN (t : Tb) (i j : Nat) : List Nat := letN 0 (cjW t i j)
def o3 (t : Tb) (i j k : Nat) : Ov := ([k, j, i], j :: (cjN t j k ++ [i]), k :: i :: cjN t i j)
def oL (t : Tb) (i j : Nat) : Ov := (List.replicate (atR t.ps j).toNat j ++ [i], pwN t j ++ [i], List.replicate ((atR t.ps j).toNat - 1) j ++ (i :: cjN t i j))
def oE (t : Tb) (i j : Nat) : Ov := (j :: List.replicate (atR t.ps i).toNat i, j :: pwN t i, i :: (cjN t i j ++ List.replicate ((atR t.ps i).toNat - 1) i))
def oP (t : Tb) (i : Nat) : Ov := (List.replicate ((atR t.ps i).toNat + 1) i, pwN t i ++ [i], i :: pwN t i)
def prU (n i : Nat) : List (Nat × Nat) := (List.range (n - (i + 1))).map fun d => (i, i + 1 + d)
def prN (n : Nat) : List (Nat × Nat) := (List.range n).flatMap (prU n)
def trV (n i j : Nat) : List (Nat × Nat × Nat) := (List.range (n - (j + 1))).map fun d => (i, j, j + 1 + d)
def trU (n i : Nat) : List (Nat × Nat × Nat) := (List.range (n - (i + 1))).flatMap fun d => trV n i (i + 1 + d)
def trN (n : Nat) : List (Nat × Nat × Nat) := (List.range n).flatMap (trU n)
def f3 (t : Tb) (q : Nat × Nat × Nat) : Ov := o3 t q.1 q.2.1 q.2.2
def fL (t : Tb) (q : Nat × Nat) : Ov := oL t q.1 q.2
def fE (t : Tb) (q : Nat × Nat) : Ov := oE t q.1 q.2
def ov3 (t : Tb) : List Ov := (trN t.ps.length).map (f3 t)
def ovT (t : Tb) : List Ov := ov3 t ++ (prN t.ps.length).map (fL t) ++ (prN t.ps.length).map (fE t) ++ (List.range t.ps.length).map (oP t)
theorem mem_prN {n : Nat} {q : Nat × Nat} (h : q ∈ prN n) : q.1 < q.2 ∧ q.2 < n := by
  obtain ⟨i, hi, h⟩ := List.mem_flatMap.mp h
  obtain ⟨d, hd, rfl⟩ := List.mem_map.mp h
  rw [List.mem_range] at hd
  dsimp only
  omega
theorem mem_trN {n : Nat} {q : Nat × Nat × Nat} (h : q ∈ trN n) : q.1 < q.2.1 ∧ q.2.1 < q.2.2 ∧ q.2.2 < n := by
  obtain ⟨i, hi, h⟩ := List.mem_flatMap.mp h
  obtain ⟨d, hd, h⟩ := List.mem_flatMap.mp h
  obtain ⟨e, he, rfl⟩ := List.mem_map.mp h
  rw [List.mem_range] at hd he
  dsimp only
  omega
theorem range_add {α : Type} {n : Nat} (f : Nat → List α) : (List.range (n + 1)).flatMap f = (List.range n).flatMap f ++ f n := by
  rw [List.range_succ, List.flatMap_append, List.flatMap_cons, List.flatMap_nil, List.append_nil]
/-- lengths, by the number of places alone -/
theorem len_prN {n : Nat} (h : n ≤ 5) : (prN n).length = n * (n - 1) / 2 := by
  rcases n with _ | _ | _ | _ | _ | _ | n <;> first | rfl | omega
theorem len_trN {n : Nat} (h : n ≤ 5) : (trN n).length = n * (n - 1) * (n - 2) / 6 := by
  rcases n with _ | _ | _ | _ | _ | _ | n <;> first | rfl | omega
theorem len_ovT {t : Tb} : (ovT t).length = (trN t.ps.length).length + (prN t.ps.length).length + (prN t.ps.length).length + t.ps.length := by
  unfold ovT ov3
  simp only [List.length_append, List.length_map, List.length_range]
section
variable {t : Tb}
theorem pw_ok (hV : Vd t) {i : Nat} (hi : i < t.ps.length) : ∀ m ∈ pwN t i, m < t.ps.length := fun m hm => by
  obtain ⟨r, _, er, hb, _⟩ := hV.pwv hi
  unfold pwN at hm
  rw [er] at hm
  exact (letN_ok hb m hm).1
theorem cj_ok (hV : Vd t) {i j : Nat} (hi : i < j) (hj : j < t.ps.length) : ∀ m ∈ cjN t i j, m < t.ps.length := fun m hm => by
  obtain ⟨M, r, _, _, er, hb, _⟩ := hV.cjv hi hj
  unfold cjN at hm
  rw [er] at hm
  exact (letN_ok hb m hm).1
theorem pw_len (hV : Vd t) {i : Nat} (hi : i < t.ps.length) : (pwN t i).length ≤ 310 := by
  obtain ⟨r, _, er, hb, _⟩ := hV.pwv hi
  have := letN_len (l := r) (k := 0) fun i hi => (row_31 hV hb _ (atR_in hi)).2
  have h2 : r.length * 31 ≤ 10 * 31 := Nat.mul_le_mul_right _ (by rw [hb.1]; exact hV.n10)
  unfold pwN
  rw [er]
  omega
theorem cj_len (hV : Vd t) {i j : Nat} (hi : i < j) (hj : j < t.ps.length) : (cjN t i j).length ≤ 310 := by
  obtain ⟨M, r, _, _, er, hb, _⟩ := hV.cjv hi hj
  have := letN_len (l := r) (k := 0) fun i hi => (row_31 hV hb _ (atR_in hi)).2
  have h2 : r.length * 31 ≤ 10 * 31 := Nat.mul_le_mul_right _ (by rw [hb.1]; exact hV.n10)
  unfold cjN
  rw [er]
  omega
/-- a word: letters in their places, short -/
def WdN (n : Nat) (w : List Nat) : Prop := (∀ m ∈ w, m < n) ∧ w.length ≤ 700
def OvN (n : Nat) (o : Ov) : Prop := WdN n o.1 ∧ WdN n o.2.1 ∧ WdN n o.2.2
theorem wok_nil {n : Nat} : (∀ m ∈ ([] : List Nat), m < n) := fun m h => by cases h
theorem wok_cons {n k : Nat} {w : List Nat} (hk : k < n) (h : ∀ m ∈ w, m < n) : ∀ m ∈ k :: w, m < n := fun m hm => by
  rcases List.mem_cons.mp hm with rfl | hm
  · exact hk
  · exact h m hm
theorem wok_app {n : Nat} {v w : List Nat} (h1 : ∀ m ∈ v, m < n) (h2 : ∀ m ∈ w, m < n) : ∀ m ∈ v ++ w, m < n := fun m hm => by
  rcases List.mem_append.mp hm with hm | hm
  · exact h1 m hm
  · exact h2 m hm
theorem wok_rep {n k c : Nat} (h : k < n) : ∀ m ∈ List.replicate c k, m < n := fun m hm => by
  rw [(List.mem_replicate.mp hm).2]
  exact h
theorem ovT_ok (hV : Vd t) : ∀ o ∈ ovT t, OvN t.ps.length o := fun o ho => by
  have pl : ∀ {i}, i < t.ps.length → (atR t.ps i).toNat ≤ 31 := fun {i} hi => by
    have := hV.p2 hi
    omega
  unfold ovT ov3 at ho
  rw [List.mem_append, List.mem_append, List.mem_append] at ho
  rcases ho with ((ho | ho) | ho) | ho
  · obtain ⟨⟨i, j, k⟩, hq, rfl⟩ := List.mem_map.mp ho
    obtain ⟨h1, h2, h3⟩ := mem_trN hq
    dsimp only at h1 h2 h3
    have c1 := cj_len hV h2 h3
    have hj : j < t.ps.length := by omega
    have hi : i < t.ps.length := by omega
    have c2 := cj_len hV h1 hj
    refine ⟨⟨wok_cons h3 (wok_cons hj (wok_cons hi wok_nil)), ?_⟩, ⟨wok_cons hj (wok_app (cj_ok hV h2 h3) (wok_cons hi wok_nil)), ?_⟩, ⟨wok_cons h3 (wok_cons hi (cj_ok hV h1 hj)), ?_⟩⟩ <;> simp [f3, o3] <;> omega
  · obtain ⟨⟨i, j⟩, hq, rfl⟩ := List.mem_map.mp ho
    obtain ⟨h1, h2⟩ := mem_prN hq
    dsimp only at h1 h2
    have c1 := cj_len hV h1 h2
    have c2 := pw_len hV h2
    have c3 := pl h2
    have hi : i < t.ps.length := by omega
    refine ⟨⟨wok_app (wok_rep h2) (wok_cons hi wok_nil), ?_⟩, ⟨wok_app (pw_ok hV h2) (wok_cons hi wok_nil), ?_⟩, ⟨wok_app (wok_rep h2) (wok_cons hi (cj_ok hV h1 h2)), ?_⟩⟩ <;> simp [fL, oL] <;> omega
  · obtain ⟨⟨i, j⟩, hq, rfl⟩ := List.mem_map.mp ho
    obtain ⟨h1, h2⟩ := mem_prN hq
    dsimp only at h1 h2
    have hi : i < t.ps.length := by omega
    have c1 := cj_len hV h1 h2
    have c2 := pw_len hV hi
    have c3 := pl hi
    refine ⟨⟨wok_cons h2 (wok_rep hi), ?_⟩, ⟨wok_cons h2 (pw_ok hV hi), ?_⟩, ⟨wok_cons hi (wok_app (cj_ok hV h1 h2) (wok_rep hi)), ?_⟩⟩ <;> simp [fE, oE] <;> omega
  · obtain ⟨i, hi, rfl⟩ := List.mem_map.mp ho
    rw [List.mem_range] at hi
    have c2 := pw_len hV hi
    have c3 := pl hi
    refine ⟨⟨wok_rep hi, ?_⟩, ⟨wok_app (pw_ok hV hi) (wok_cons hi wok_nil), ?_⟩, ⟨wok_cons hi (pw_ok hV hi), ?_⟩⟩ <;> simp [oP] <;> omega
/-- where the table tells a group, the three words of an overlap collect to one row -/
theorem ovT_one (hV : Vd t) (R : RepT t) : ∀ o ∈ ovT t, colW t t.ps.length (zeroR t.ps.length) o.2.1 = colW t t.ps.length (zeroR t.ps.length) o.1 ∧ colW t t.ps.length (zeroR t.ps.length) o.2.2 = colW t t.ps.length (zeroR t.ps.length) o.1 := fun o ho => by
  obtain ⟨S, a, pt, R⟩ := R
  obtain ⟨⟨k1, _⟩, ⟨k2, _⟩, ⟨k3, _⟩⟩ := ovT_ok hV o ho
  have up : ∀ {w : List Nat}, (∀ m ∈ w, m < t.ps.length) → ∀ m ∈ w, m < t.ps.length ∧ t.ps.length ≤ m + t.ps.length := fun h m hm => ⟨h m hm, by omega⟩
  have key : ∀ {u v : List Nat}, (∀ m ∈ u, m < t.ps.length) → (∀ m ∈ v, m < t.ps.length) → (∀ s, runA a s u = runA a s v) → colW t t.ps.length (zeroR t.ps.length) u = colW t t.ps.length (zeroR t.ps.length) v := fun hu hv h => col_one hV R (blz hV) (blz hV) (up hu) (up hv) (h _)
  have hpw : ∀ {i}, i < t.ps.length → ∀ s, runA a s (pwN t i) = runA a s (List.replicate (atR t.ps i).toNat i) := fun {i} hi s => by
    obtain ⟨r, e, er, _, _⟩ := hV.pwv hi
    unfold pwN
    rw [er]
    exact (R.pw i r e s).symm
  have hcj : ∀ {i j}, i < j → j < t.ps.length → ∀ s, runA a (a i s) (cjN t i j) = a i (a j s) := fun h1 h2 s => (R.cj _ _ h1 h2 s).symm
  have one : ∀ {k : Nat} {s : S} {w : List Nat}, runA a s (k :: w) = runA a (a k s) w := rfl
  have non : ∀ {s : S}, runA a s [] = s := rfl
  have pos : ∀ {i}, i < t.ps.length → (atR t.ps i).toNat = (atR t.ps i).toNat - 1 + 1 := fun {i} hi => by
    have := hV.p2 hi
    omega
  unfold ovT ov3 at ho
  rw [List.mem_append, List.mem_append, List.mem_append] at ho
  rcases ho with ((ho | ho) | ho) | ho
  · obtain ⟨⟨i, j, k⟩, hq, rfl⟩ := List.mem_map.mp ho
    obtain ⟨h1, h2, h3⟩ := mem_trN hq
    dsimp only at h1 h2 h3
    refine ⟨key k2 k1 fun s => ?_, key k3 k1 fun s => ?_⟩
    · show runA a s (j :: (cjN t j k ++ [i])) = runA a s [k, j, i]
      rw [one, runA_app, hcj h2 h3]
      rfl
    · show runA a s (k :: i :: cjN t i j) = runA a s [k, j, i]
      rw [one, one, hcj h1 (by omega)]
      rfl
  · obtain ⟨⟨i, j⟩, hq, rfl⟩ := List.mem_map.mp ho
    obtain ⟨h1, h2⟩ := mem_prN hq
    dsimp only at h1 h2
    refine ⟨key k2 k1 fun s => ?_, key k3 k1 fun s => ?_⟩
    · show runA a s (pwN t j ++ [i]) = runA a s (List.replicate (atR t.ps j).toNat j ++ [i])
      rw [runA_app, runA_app, hpw h2]
    · show runA a s (List.replicate ((atR t.ps j).toNat - 1) j ++ (i :: cjN t i j)) = runA a s (List.replicate (atR t.ps j).toNat j ++ [i])
      rw [runA_app, runA_app, one, hcj h1 h2, pos h2, List.replicate_succ', runA_app]
      rfl
  · obtain ⟨⟨i, j⟩, hq, rfl⟩ := List.mem_map.mp ho
    obtain ⟨h1, h2⟩ := mem_prN hq
    dsimp only at h1 h2
    have hi : i < t.ps.length := by omega
    refine ⟨key k2 k1 fun s => ?_, key k3 k1 fun s => ?_⟩
    · show runA a s (j :: pwN t i) = runA a s (j :: List.replicate (atR t.ps i).toNat i)
      rw [one, one, hpw hi]
    · show runA a s (i :: (cjN t i j ++ List.replicate ((atR t.ps i).toNat - 1) i)) = runA a s (j :: List.replicate (atR t.ps i).toNat i)
      rw [one, runA_app, hcj h1 h2, one, pos hi, List.replicate_succ, one]
      rfl
  · obtain ⟨i, hi, rfl⟩ := List.mem_map.mp ho
    rw [List.mem_range] at hi
    refine ⟨key k2 k1 fun s => ?_, key k3 k1 fun s => ?_⟩
    · show runA a s (pwN t i ++ [i]) = runA a s (List.replicate ((atR t.ps i).toNat + 1) i)
      rw [runA_app, hpw hi, List.replicate_succ', runA_app]
    · show runA a s (i :: pwN t i) = runA a s (List.replicate ((atR t.ps i).toNat + 1) i)
      rw [one, hpw hi, List.replicate_succ, one]
end
/-! in the heap -/
def WT (K : PySem.W.Frag) (H : Hp) (v : V) (ws : List Nat) : Prop := ∃ a, v = .ref a ∧ SqT K H a (wV ws)
theorem WT.of {H : Hp} {v : V} {r : List Int} (h : RS K H v (letF 0 r)) : WT K H v (letN 0 r) := by
  obtain ⟨a, rfl, h⟩ := h
  rw [letF_eq, List.map_map] at h
  exact ⟨a, rfl, h⟩
def OV (K : PySem.W.Frag) (H : Hp) (v : V) (o : Ov) : Prop := ∃ q a b c, v = .ref q ∧ SqT K H q [.ref a, .ref b, .ref c] ∧ SqT K H a (wV o.1) ∧ SqT K H b (wV o.2.1) ∧ SqT K H c (wV o.2.2)
theorem OV.tps {H H' : Hp} (tp : Tps K H H') {v : V} {o : Ov} (h : OV K H v o) : OV K H' v o := by
  obtain ⟨q, a, b, c, e, h0, h1, h2, h3⟩ := h
  exact ⟨q, a, b, c, e, tp _ _ h0, tp _ _ h1, tp _ _ h2, tp _ _ h3⟩
theorem st_OV : Stable (OV K) := ⟨fun e h => h.tps (Tps.of e), fun e h => h.tps (Tps.x SameX.put e)⟩
theorem wV_app {a b : List Nat} : wV (a ++ b) = wV a ++ wV b := List.map_append
theorem wV_rep {c k : Nat} : wV (List.replicate c k) = List.replicate c (V.int ((k : Int) + 1)) := List.map_replicate
theorem wV_len {a : List Nat} : (wV a).length = a.length := List.length_map _
def PQ (K : PySem.W.Frag) (H : Hp) (v : V) (q : Nat × Nat) : Prop := ∃ a, v = .ref a ∧ SqT K H a [.int (q.1 : Int), .int (q.2 : Int)]
theorem st_PQ : Stable (PQ K) := ⟨fun e ⟨a, b, h⟩ => ⟨a, b, Own.same_tup e h⟩, fun e ⟨a, b, h⟩ => ⟨a, b, Tps.x SameX.put e _ _ h⟩⟩
/-- a list of overlaps under way, on a heap that keeps what stood before -/
def OvL (K : PySem.W.Frag) (H0 : Hp) (l : Addr) (H : Hp) (L : List Ov) (c : Nat) : Prop := Same H0 H ∧ (∃ us, H l = some (.lst us) ∧ Paired (OV K H) us L) ∧ L.length ≤ c
theorem OvL.init {H0 : Hp} {l : Addr} (nl : H0 l = none) : OvL K H0 l (upd H0 l (.lst [])) [] 0 := ⟨same_new nl, ⟨[], upd_same, .nil⟩, Nat.le_refl _⟩
theorem OvL.mono {H0 H H' : Hp} {l : Addr} {L : List Ov} {c : Nat} (h : OvL K H0 l H L c) (s : Same H H') : OvL K H0 l H' L c := by
  obtain ⟨s0, ⟨us, e, p⟩, hc⟩ := h
  exact ⟨s0.trans s, ⟨us, s _ _ e, st_OV.all s p⟩, hc⟩
theorem OvL.to {H0 H : Hp} {l : Addr} {L L' : List Ov} {c c' : Nat} (h : OvL K H0 l H L c) (e : L = L') (hc : c ≤ c') : OvL K H0 l H L' c' := by
  subst e
  exact ⟨h.1, h.2.1, Nat.le_trans h.2.2 hc⟩
/-- one more -/
theorem OvL.add {H0 H : Hp} {l : Addr} {L : List Ov} {c : Nat} {v : V} {o : Ov} (h : OvL K H0 l H L c) (nl : H0 l = none) (hv : OV K H v o) : ∃ us, H l = some (.lst us) ∧ us.length ≤ c ∧ OvL K H0 l (upd H l (.lst (us ++ [v]))) (L ++ [o]) (c + 1) := by
  obtain ⟨s0, ⟨us, e, p⟩, hc⟩ := h
  refine ⟨us, e, by rw [Paired.length p]; exact hc, same_mut s0 nl, ⟨_, upd_same, paired_add (st_OV.allPut e p) (st_OV.put e hv)⟩, ?_⟩
  rw [List.length_append]
  exact Nat.succ_le_succ hc
/-- many more -/
theorem OvL.ext {H0 H : Hp} {l : Addr} {L M : List Ov} {c : Nat} {acc : List V} (h : OvL K H0 l H L c) (nl : H0 l = none) (hm : Paired (OV K H) acc M) : ∃ us, H l = some (.lst us) ∧ us.length ≤ c ∧ OvL K H0 l (upd H l (.lst (us ++ acc))) (L ++ M) (c + M.length) := by
  obtain ⟨s0, ⟨us, e, p⟩, hc⟩ := h
  refine ⟨us, e, by rw [Paired.length p]; exact hc, same_mut s0 nl, ⟨_, upd_same, paired_app (st_OV.allPut e p) (st_OV.allPut e hm)⟩, ?_⟩
  rw [List.length_append]
  omega
theorem repB_q {H : Hp} {l : Addr} {x : V} {k : Int} {Q : VK} (h : H l = some (.tup [x])) (h0 : 0 ≤ k) (h1 : k ≤ 2000) (q : ∀ a H', Same H H' → SqT K H' a (List.replicate k.toNat x) → Q (.ref a) H') : Own.rRepB (.ref l) (.int k) H Q :=
  ⟨l, k, _, rfl, rfl, h, by simp, h0, h1, by show 1 ≤ 200; decide, fun a H' s e => q a H' s (.inl (.inl (by rw [flat_non] at e; exact e)))⟩
theorem let_call {H : Hp} {z v : V} {t : Tb} {r : List Int} {Q : VK} (hV : Vd t) (hb : Bl t.ps r) (h : RS K H v r) (q : ∀ z' H', Same H H' → WT K H' z' (letN 0 r) → Q z' H') : spPLet K [z, v] H Q E0 :=
  ⟨z, v, r, rfl, h, by rw [hb.1]; exact hV.n10, row_31 hV hb, fun H' z' s h => q z' H' s (WT.of h)⟩
theorem PTb.pwq {CP pr : Addr} {H : Hp} {t : Tb} (h : PTb K CP H pr t) (hV : Vd t) {i : Nat} (hi : i < t.ps.length) : ∃ a b c dp us v, H pr = some (.ins CP dp (pFs (.ref a) (.ref b) (.ref c) t.ps)) ∧ SqT K H a (t.ps.map V.int) ∧ SqT K H b us ∧ us[i]? = some v ∧ RS K H v (t.pw.getD i []) ∧ Bl t.ps (t.pw.getD i []) := by
  obtain ⟨a, b, c, us, vs, ⟨dp, ep⟩, hSa, hSb, hPw, hSc, hPc⟩ := h
  obtain ⟨r, e, er, hb, _⟩ := hV.pwv hi
  obtain ⟨v, ev, hv⟩ := paired_get2 hPw e
  exact ⟨a, b, c, dp, us, v, ep, hSa, hSb, ev, by rw [er]; exact hv, by rw [er]; exact hb⟩
theorem PTb.conj {CP pr : Addr} {H : Hp} {t : Tb} {i j : Nat} {Q : VK} (h : PTb K CP H pr t) (hV : Vd t) (hi : i < j) (hj : j < t.ps.length) (q : ∀ v, RS K H v (cjW t i j) → Bl t.ps (cjW t i j) → Q v H) : spPConj K CP [.ref pr, .int (i : Int), .int (j : Int)] H Q E0 := by
  obtain ⟨a, b, c, us, vs, hP, hSa, hSb, hPw, hSc, hPc⟩ := h
  obtain ⟨M, r, eM, er, ecj, hb, _⟩ := hV.cjv hi hj
  obtain ⟨v, ev, mt, us2, rfl, hSM, hPM⟩ := paired_get2 hPc eM
  obtain ⟨v2, ev2, hv2⟩ := paired_get2 hPM er
  exact ⟨pr, c, mt, .ref a, .ref b, v2, t.ps, vs, us2, i, j, rfl, hP, hSc, ev, hSM, hi, ev2, q v2 (by rw [ecj]; exact hv2) (by rw [ecj]; exact hb)⟩
/-! ### overlaps: the program's -/
def spOv2 (K : PySem.W.Frag) (CP : Addr) (f : Tb → Nat → Nat → Ov) : Sp := fun vs H Q _ => ∃ (pr : Addr) (t : Tb) (i j : Nat), vs = [.ref pr, .int (i : Int), .int (j : Int)] ∧ PTb K CP H pr t ∧ Vd t ∧ i < j ∧ j < t.ps.length ∧ ∀ z H', Same H H' → OV K H' z (f t i j) → Q z H'
def spOv1 (K : PySem.W.Frag) (CP : Addr) : Sp := fun vs H Q _ => ∃ (pr : Addr) (t : Tb) (i : Nat), vs = [.ref pr, .int (i : Int)] ∧ PTb K CP H pr t ∧ Vd t ∧ i < t.ps.length ∧ ∀ z H', Same H H' → OV K H' z (oP t i) → Q z H'
theorem ok_ovL (C_Presentation : ClPresentation K mg) (T : Txt K mg) : FnOk P w K mg base CX0 2 T.a__overlaps_of_later_power T.d__overlaps_of_later_power ["presentation", "i", "j"] (spOv2 K C_Presentation.C oL) := by
  have G_Presentation_letters : FnOk P w K mg base CX0 1 C_Presentation.a_letters C_Presentation.d_letters ["self", "row"] (spPLet K) := ok_PLet C_Presentation T
  have G_Presentation_conjugate_row : FnOk P w K mg base CX0 1 C_Presentation.a_conjugate_row C_Presentation.d_conjugate_row ["self", "i", "j"] (spPConj K C_Presentation.C) := ok_PConj C_Presentation T
  refine T.F__overlaps_of_later_power.ok sc__overlaps_of_later_power (fun vs H Q E h => ?_) (fun cdv A outer s H vs Q E hr h => ?_)
  · obtain ⟨pr, t, i, j, rfl, _⟩ := h
    rfl
  · obtain ⟨pr, t, i, j, rfl, hPT, hV, hij, hj, q⟩ := h
    refine ⟨_, (pss_cons (ps_set (i := 3) sc__overlaps_of_later_power.nd rfl (.inl rfl) (pe_ix ix_tup (pe_fld (pv 0) rfl) (pv 2) (fun _ _ => rfl))) 
    (pss_cons (ps_set (i := 4) sc__overlaps_of_later_power.nd rfl (.inl rfl) (pe_meth (pv 0) C_Presentation.cl C_Presentation.m_letters G_Presentation_letters (hr.mono (by decide)) C_Presentation.b_letters .nil pass0 (pa_cons (pe_ix ix_tup (pe_fld (pv 0) rfl) (pv 2) (fun _ _ => rfl)) pa_nil))) 
    (pss_cons (ps_set (i := 5) sc__overlaps_of_later_power.nd rfl (.inl rfl) (pe_meth (pv 0) C_Presentation.cl C_Presentation.m_letters G_Presentation_letters (hr.mono (by decide)) C_Presentation.b_letters .nil pass0 (pa_cons (pe_meth (pv 0) C_Presentation.cl C_Presentation.m_conjugate_row G_Presentation_conjugate_row (hr.mono (by decide)) C_Presentation.b_conjugate_row .nil pass0 (pa_cons (pv 1) (pa_cons (pv 2) pa_nil))) pa_nil))) 
    (pss_one (ps_ret (pe_tup (pa_cons (pe_op op_catA (pe_op Own.op_repB (pe_tup (pa_cons (pe_op op_add (pv 2) pe_int) pa_nil)) (pv 3)) (pe_tup (pa_cons (pe_op op_add (pv 1) pe_int) pa_nil))) (pa_cons (pe_tup (StX.pa_star (pv 4) (pa_cons (pe_op op_add (pv 1) pe_int) pa_nil))) (pa_cons (pe_op op_catA (pe_op Own.op_repB (pe_tup (pa_cons (pe_op op_add (pv 2) pe_int) pa_nil)) (pe_op op_sub (pv 3) pe_int)) (pe_tup (pa_cons (pe_op op_add (pv 1) pe_int) (StX.pa_star (pv 5) pa_nil)))) pa_nil))))))))), ?_⟩
    have hi : i < t.ps.length := by omega
    have hp := hV.p2 hj
    obtain ⟨a, b, c, dp, us, v, ep, hSa, hSb, ev, hv, hb⟩ := hPT.pwq hV hj
    have f := pFs_get (.ref a) (.ref b) (.ref c) t.ps
    refine ⟨_, rfl, pr, _, dp, _, _, rfl, ep, C_Presentation.cl, C_Presentation.n_primes, f.2.1, _, rfl, a, _, (j : Int), _, rfl, rfl, hSa, atW hj, ?_⟩
    refine ⟨_, rfl, pr, dp, _, rfl, ep, (pFs_no _ _ _ _).2.2, _, rfl, pr, _, dp, _, _, rfl, ep, C_Presentation.cl, C_Presentation.n_powers, f.2.2.1, _, rfl, b, us, (j : Int), v, rfl, rfl, hSb, atI_nat ev, let_call hV hb hv fun z1 H1 s1 h1 => ?_⟩
    have ep1 := s1 _ _ ep
    refine ⟨_, rfl, pr, dp, _, rfl, ep1, (pFs_no _ _ _ _).2.2, _, rfl, pr, dp, _, rfl, ep1, (pFs_no _ _ _ _).2.1, _, rfl, _, rfl, (hPT.mono s1).conj hV hij hj fun v2 hv2 hb2 => let_call hV hb2 hv2 fun z2 H2 s2 h2 => ?_⟩
    obtain ⟨x1, rfl, h1⟩ := h1
    obtain ⟨x2, rfl, h2⟩ := h2
    have h1 := Own.same_tup s2 h1
    have s12 := s1.trans s2
    refine ⟨_, rfl, _, _, rfl, rfl, by show 1 ≤ sizeLine; decide, fun t3 n3 => ?_⟩
    refine ⟨_, rfl, repB_q (K := K) upd_same (by omega) (by omega) fun x4 H4 s4 h4 => ?_⟩
    have s24 := (same_new n3).trans s4
    refine ⟨_, rfl, _, _, rfl, rfl, by show 1 ≤ sizeLine; decide, fun t5 n5 => catA_q (Own.same_tup (same_new n5) h4) (.inl (.inl upd_same)) (by rw [List.length_replicate]; show _ + 1 ≤ 2000; omega) fun x6 H6 s6 h6 => ?_⟩
    have s46 := (same_new n5).trans s6
    have h26 := Own.same_tup (s24.trans s46) h2
    have h16 := Own.same_tup (s24.trans s46) h1
    have l1 := pw_len hV hj
    have l2 := cj_len hV hij hj
    refine ⟨_, rfl, x1, _, rfl, .inl h16, _, rfl, _, _, rfl, rfl, Nat.le_of_lt (small2000 (by rw [List.length_append, wV_len]; show (pwN t j).length + 1 ≤ _; omega)), fun x7 n7 => ?_⟩
    have s7 := same_new (o := .tup (wV (letN 0 (t.pw.getD j [])) ++ [V.int ((i : Int) + 1)])) n7
    have h7 : SqT K (upd H6 x7 (.tup (wV (letN 0 (t.pw.getD j [])) ++ [V.int ((i : Int) + 1)]))) x7 _ := .inl (.inl upd_same)
    refine ⟨_, rfl, _, _, rfl, rfl, by show 1 ≤ sizeLine; decide, fun t8 n8 => ?_⟩
    refine ⟨_, rfl, _, _, rfl, rfl, repB_q (K := K) upd_same (by omega) (by omega) fun x9 H9 s9 h9 => ?_⟩
    have s79 := (same_new n8).trans s9
    refine ⟨_, rfl, _, _, rfl, rfl, _, rfl, x2, _, rfl, .inl (Own.same_tup (s7.trans s79) h26), Nat.le_of_lt (small2000 (by show (wV _ ++ []).length + 1 ≤ _; rw [List.append_nil, wV_len]; show (cjN t i j).length + 1 ≤ _; omega)), fun t10 n10 => ?_⟩
    refine catA_q (Own.same_tup (same_new n10) h9) (.inl (.inl upd_same)) (by rw [List.length_replicate]; show _ + ((wV _ ++ []).length + 1) ≤ 2000; rw [List.append_nil, wV_len]; show _ + ((cjN t i j).length + 1) ≤ _; omega) fun x11 H11 s11 h11 => ?_
    have s911 := (same_new n10).trans s11
    refine ⟨by show 3 ≤ sizeLine; decide, fun z nz => ?_⟩
    have sz := same_new (o := .tup [V.ref x6, V.ref x7, V.ref x11]) nz
    refine q _ _ ((s12.trans (s24.trans (s46.trans (s7.trans (s79.trans s911))))).trans sz) ⟨z, x6, x7, x11, rfl, .inl (.inl upd_same), ?_, ?_, ?_⟩
    · have := Own.same_tup ((s7.trans (s79.trans s911)).trans sz) h6
      show SqT K _ x6 (wV (List.replicate _ j ++ [i]))
      rw [wV_app, wV_rep]
      exact this
    · have := Own.same_tup ((s79.trans s911).trans sz) h7
      show SqT K _ x7 (wV (pwN t j ++ [i]))
      rw [wV_app]
      exact this
    · have := Own.same_tup sz h11
      show SqT K _ x11 (wV (List.replicate _ j ++ (i :: cjN t i j)))
      rw [wV_app, wV_rep]
      rw [List.append_nil, show (atR t.ps j - 1).toNat = (atR t.ps j).toNat - 1 by omega] at this
      exact this
theorem ok_ovE (C_Presentation : ClPresentation K mg) (T : Txt K mg) : FnOk P w K mg base CX0 2 T.a__overlaps_of_earlier_power T.d__overlaps_of_earlier_power ["presentation", "i", "j"] (spOv2 K C_Presentation.C oE) := by
  have G_Presentation_letters : FnOk P w K mg base CX0 1 C_Presentation.a_letters C_Presentation.d_letters ["self", "row"] (spPLet K) := ok_PLet C_Presentation T
  have G_Presentation_conjugate_row : FnOk P w K mg base CX0 1 C_Presentation.a_conjugate_row C_Presentation.d_conjugate_row ["self", "i", "j"] (spPConj K C_Presentation.C) := ok_PConj C_Presentation T
  refine T.F__overlaps_of_earlier_power.ok sc__overlaps_of_earlier_power (fun vs H Q E h => ?_) (fun cdv A outer s H vs Q E hr h => ?_)
  · obtain ⟨pr, t, i, j, rfl, _⟩ := h
    rfl
  · obtain ⟨pr, t, i, j, rfl, hPT, hV, hij, hj, q⟩ := h
    refine ⟨_, (pss_cons (ps_set (i := 3) sc__overlaps_of_earlier_power.nd rfl (.inl rfl) (pe_ix ix_tup (pe_fld (pv 0) rfl) (pv 1) (fun _ _ => rfl))) 
    (pss_cons (ps_set (i := 4) sc__overlaps_of_earlier_power.nd rfl (.inl rfl) (pe_meth (pv 0) C_Presentation.cl C_Presentation.m_letters G_Presentation_letters (hr.mono (by decide)) C_Presentation.b_letters .nil pass0 (pa_cons (pe_ix ix_tup (pe_fld (pv 0) rfl) (pv 1) (fun _ _ => rfl)) pa_nil))) 
    (pss_cons (ps_set (i := 5) sc__overlaps_of_earlier_power.nd rfl (.inl rfl) (pe_meth (pv 0) C_Presentation.cl C_Presentation.m_letters G_Presentation_letters (hr.mono (by decide)) C_Presentation.b_letters .nil pass0 (pa_cons (pe_meth (pv 0) C_Presentation.cl C_Presentation.m_conjugate_row G_Presentation_conjugate_row (hr.mono (by decide)) C_Presentation.b_conjugate_row .nil pass0 (pa_cons (pv 1) (pa_cons (pv 2) pa_nil))) pa_nil))) 
    (pss_one (ps_ret (pe_tup (pa_cons (pe_op op_catA (pe_tup (pa_cons (pe_op op_add (pv 2) pe_int) pa_nil)) (pe_op Own.op_repB (pe_tup (pa_cons (pe_op op_add (pv 1) pe_int) pa_nil)) (pv 3))) (pa_cons (pe_tup (pa_cons (pe_op op_add (pv 2) pe_int) (StX.pa_star (pv 4) pa_nil))) (pa_cons (pe_op op_catA (pe_tup (pa_cons (pe_op op_add (pv 1) pe_int) (StX.pa_star (pv 5) pa_nil))) (pe_op Own.op_repB (pe_tup (pa_cons (pe_op op_add (pv 1) pe_int) pa_nil)) (pe_op op_sub (pv 3) pe_int))) pa_nil))))))))), ?_⟩
    have hi : i < t.ps.length := by omega
    have hp := hV.p2 hi
    obtain ⟨a, b, c, dp, us, v, ep, hSa, hSb, ev, hv, hb⟩ := hPT.pwq hV hi
    have f := pFs_get (.ref a) (.ref b) (.ref c) t.ps
    refine ⟨_, rfl, pr, _, dp, _, _, rfl, ep, C_Presentation.cl, C_Presentation.n_primes, f.2.1, _, rfl, a, _, (i : Int), _, rfl, rfl, hSa, atW hi, ?_⟩
    refine ⟨_, rfl, pr, dp, _, rfl, ep, (pFs_no _ _ _ _).2.2, _, rfl, pr, _, dp, _, _, rfl, ep, C_Presentation.cl, C_Presentation.n_powers, f.2.2.1, _, rfl, b, us, (i : Int), v, rfl, rfl, hSb, atI_nat ev, let_call hV hb hv fun z1 H1 s1 h1 => ?_⟩
    have ep1 := s1 _ _ ep
    refine ⟨_, rfl, pr, dp, _, rfl, ep1, (pFs_no _ _ _ _).2.2, _, rfl, pr, dp, _, rfl, ep1, (pFs_no _ _ _ _).2.1, _, rfl, _, rfl, (hPT.mono s1).conj hV hij hj fun v2 hv2 hb2 => let_call hV hb2 hv2 fun z2 H2 s2 h2 => ?_⟩
    obtain ⟨x1, rfl, h1⟩ := h1
    obtain ⟨x2, rfl, h2⟩ := h2
    have h1 := Own.same_tup s2 h1
    have s12 := s1.trans s2
    have l1 := pw_len hV hi
    have l2 := cj_len hV hij hj
    refine ⟨_, rfl, _, _, rfl, rfl, by show 1 ≤ sizeLine; decide, fun t3 n3 => ?_⟩
    refine ⟨_, rfl, _, _, rfl, rfl, by show 1 ≤ sizeLine; decide, fun t4 n4 => ?_⟩
    refine ⟨_, rfl, repB_q (K := K) upd_same (by omega) (by omega) fun x5 H5 s5 h5 => ?_⟩
    have s45 := (same_new n4).trans s5
    refine catA_q (Own.same_tup s45 (.inl (.inl upd_same))) h5 (by rw [List.length_replicate]; show 1 + _ ≤ 2000; omega) fun x6 H6 s6 h6 => ?_
    have s36 := (same_new n3).trans (s45.trans s6)
    have h26 := Own.same_tup s36 h2
    have h16 := Own.same_tup s36 h1
    refine ⟨_, rfl, _, _, rfl, rfl, _, rfl, x1, _, rfl, .inl h16, Nat.le_of_lt (small2000 (by show (wV _ ++ []).length + 1 ≤ _; rw [List.append_nil, wV_len]; show (pwN t i).length + 1 ≤ _; omega)), fun x7 n7 => ?_⟩
    have s7 := same_new (o := .tup (V.int ((j : Int) + 1) :: (wV (letN 0 (t.pw.getD i [])) ++ []))) n7
    have h7 : SqT K (upd H6 x7 (.tup (V.int ((j : Int) + 1) :: (wV (letN 0 (t.pw.getD i [])) ++ [])))) x7 _ := .inl (.inl upd_same)
    refine ⟨_, rfl, _, _, rfl, rfl, _, rfl, x2, _, rfl, .inl (Own.same_tup s7 h26), Nat.le_of_lt (small2000 (by show (wV _ ++ []).length + 1 ≤ _; rw [List.append_nil, wV_len]; show (cjN t i j).length + 1 ≤ _; omega)), fun t8 n8 => ?_⟩
    refine ⟨_, rfl, _, _, rfl, rfl, by show 1 ≤ sizeLine; decide, fun t9 n9 => ?_⟩
    refine ⟨_, rfl, _, _, rfl, rfl, repB_q (K := K) upd_same (by omega) (by omega) fun x10 H10 s10 h10 => ?_⟩
    have s910 := (same_new n9).trans s10
    refine catA_q (Own.same_tup s910 (.inl (.inl upd_same))) h10 (by rw [List.length_replicate]; show (wV _ ++ []).length + 1 + _ ≤ 2000; rw [List.append_nil, wV_len]; show (cjN t i j).length + 1 + _ ≤ _; omega) fun x11 H11 s11 h11 => ?_
    have s811 := (same_new n8).trans (s910.trans s11)
    refine ⟨by show 3 ≤ sizeLine; decide, fun z nz => ?_⟩
    have sz := same_new (o := .tup [V.ref x6, V.ref x7, V.ref x11]) nz
    refine q _ _ ((s12.trans (s36.trans (s7.trans s811))).trans sz) ⟨z, x6, x7, x11, rfl, .inl (.inl upd_same), ?_, ?_, ?_⟩
    · have := Own.same_tup ((s7.trans s811).trans sz) h6
      show SqT K _ x6 (V.int ((j : Int) + 1) :: wV (List.replicate _ i))
      rw [wV_rep]
      exact this
    · have := Own.same_tup (s811.trans sz) h7
      rw [List.append_nil] at this
      exact this
    · have := Own.same_tup sz h11
      show SqT K _ x11 (V.int ((i : Int) + 1) :: wV (cjN t i j ++ List.replicate _ i))
      rw [wV_app, wV_rep]
      rw [List.append_nil, show (atR t.ps i - 1).toNat = (atR t.ps i).toNat - 1 by omega] at this
      exact this
theorem ok_ovP (C_Presentation : ClPresentation K mg) (T : Txt K mg) : FnOk P w K mg base CX0 2 T.a__overlap_of_power T.d__overlap_of_power ["presentation", "i"] (spOv1 K C_Presentation.C) := by
  have G_Presentation_letters : FnOk P w K mg base CX0 1 C_Presentation.a_letters C_Presentation.d_letters ["self", "row"] (spPLet K) := ok_PLet C_Presentation T
  refine T.F__overlap_of_power.ok sc__overlap_of_power (fun vs H Q E h => ?_) (fun cdv A outer s H vs Q E hr h => ?_)
  · obtain ⟨pr, t, i, rfl, _⟩ := h
    rfl
  · obtain ⟨pr, t, i, rfl, hPT, hV, hi, q⟩ := h
    refine ⟨_, (pss_cons (ps_set (i := 2) sc__overlap_of_power.nd rfl (.inl rfl) (pe_meth (pv 0) C_Presentation.cl C_Presentation.m_letters G_Presentation_letters (hr.mono (by decide)) C_Presentation.b_letters .nil pass0 (pa_cons (pe_ix ix_tup (pe_fld (pv 0) rfl) (pv 1) (fun _ _ => rfl)) pa_nil))) 
    (pss_one (ps_ret (pe_tup (pa_cons (pe_op Own.op_repB (pe_tup (pa_cons (pe_op op_add (pv 1) pe_int) pa_nil)) (pe_op op_add (pe_ix ix_tup (pe_fld (pv 0) rfl) (pv 1) (fun _ _ => rfl)) pe_int)) (pa_cons (pe_tup (StX.pa_star (pv 2) (pa_cons (pe_op op_add (pv 1) pe_int) pa_nil))) (pa_cons (pe_tup (pa_cons (pe_op op_add (pv 1) pe_int) (StX.pa_star (pv 2) pa_nil))) pa_nil))))))), ?_⟩
    have hp := hV.p2 hi
    obtain ⟨a, b, c, dp, us, v, ep, hSa, hSb, ev, hv, hb⟩ := hPT.pwq hV hi
    have f := pFs_get (.ref a) (.ref b) (.ref c) t.ps
    have l1 := pw_len hV hi
    refine ⟨_, rfl, pr, dp, _, rfl, ep, (pFs_no _ _ _ _).2.2, _, rfl, pr, _, dp, _, _, rfl, ep, C_Presentation.cl, C_Presentation.n_powers, f.2.2.1, _, rfl, b, us, (i : Int), v, rfl, rfl, hSb, atI_nat ev, let_call hV hb hv fun z1 H1 s1 h1 => ?_⟩
    obtain ⟨x1, rfl, h1⟩ := h1
    refine ⟨_, rfl, _, _, rfl, rfl, by show 1 ≤ sizeLine; decide, fun t3 n3 => ?_⟩
    have s13 := s1.trans (same_new (o := .tup [V.int ((i : Int) + 1)]) n3)
    refine ⟨_, rfl, pr, _, dp, _, _, rfl, s13 _ _ ep, C_Presentation.cl, C_Presentation.n_primes, f.2.1, _, rfl, a, _, (i : Int), _, rfl, rfl, Own.same_tup s13 hSa, atW hi, _, _, rfl, rfl, repB_q (K := K) upd_same (by omega) (by omega) fun x5 H5 s5 h5 => ?_⟩
    have s35 := (same_new n3).trans s5
    have h15 := Own.same_tup s35 h1
    refine ⟨_, rfl, x1, _, rfl, .inl h15, _, rfl, _, _, rfl, rfl, Nat.le_of_lt (small2000 (by rw [List.length_append, wV_len]; show (pwN t i).length + 1 ≤ _; omega)), fun x7 n7 => ?_⟩
    have s7 := same_new (o := .tup (wV (letN 0 (t.pw.getD i [])) ++ [V.int ((i : Int) + 1)])) n7
    have h7 : SqT K (upd H5 x7 (.tup (wV (letN 0 (t.pw.getD i [])) ++ [V.int ((i : Int) + 1)]))) x7 _ := .inl (.inl upd_same)
    refine ⟨_, rfl, _, _, rfl, rfl, _, rfl, x1, _, rfl, .inl (Own.same_tup s7 h15), Nat.le_of_lt (small2000 (by show (wV _ ++ []).length + 1 ≤ _; rw [List.append_nil, wV_len]; show (pwN t i).length + 1 ≤ _; omega)), fun x8 n8 => ?_⟩
    have s8 := same_new (o := .tup (V.int ((i : Int) + 1) :: (wV (letN 0 (t.pw.getD i [])) ++ []))) n8
    refine ⟨by show 3 ≤ sizeLine; decide, fun z nz => ?_⟩
    have sz := same_new (o := .tup [V.ref x5, V.ref x7, V.ref x8]) nz
    refine q _ _ ((s1.trans (s35.trans (s7.trans s8))).trans sz) ⟨z, x5, x7, x8, rfl, .inl (.inl upd_same), ?_, ?_, ?_⟩
    · have := Own.same_tup ((s7.trans s8).trans sz) h5
      show SqT K _ x5 (wV (List.replicate _ i))
      rw [wV_rep]
      rw [show (atR t.ps i + 1).toNat = (atR t.ps i).toNat + 1 by omega] at this
      exact this
    · have := Own.same_tup (s8.trans sz) h7
      show SqT K _ x7 (wV (pwN t i ++ [i]))
      rw [wV_app]
      exact this
    · have h8 := Own.same_tup (K := K) sz (.inl (.inl upd_same) : SqT K (upd (upd H5 x7 (.tup (wV (letN 0 (t.pw.getD i [])) ++ [V.int ((i : Int) + 1)]))) x8 (.tup (V.int ((i : Int) + 1) :: (wV (letN 0 (t.pw.getD i [])) ++ [])))) x8 _)
      have e : V.int ((i : Int) + 1) :: (wV (letN 0 (t.pw.getD i [])) ++ []) = wV (i :: pwN t i) := by
        rw [List.append_nil]
        rfl
      show SqT K _ x8 (wV (i :: pwN t i))
      rw [← e]
      exact h8
theorem ok_ov3 (C_Presentation : ClPresentation K mg) (T : Txt K mg) : FnOk P w K mg base CX0 2 T.a__overlaps_of_three T.d__overlaps_of_three ["presentation"] (fun vs H Q _ => ∃ (pr : Addr) (t : Tb), vs = [.ref pr] ∧ PTb K C_Presentation.C H pr t ∧ Vd t ∧ ∀ l H', H l = none → OvL K H l H' (ov3 t) 1000 → Q (.ref l) H') := by
  have G_Presentation_letters : FnOk P w K mg base CX0 1 C_Presentation.a_letters C_Presentation.d_letters ["self", "row"] (spPLet K) := ok_PLet C_Presentation T
  have G_Presentation_conjugate_row : FnOk P w K mg base CX0 1 C_Presentation.a_conjugate_row C_Presentation.d_conjugate_row ["self", "i", "j"] (spPConj K C_Presentation.C) := ok_PConj C_Presentation T
  refine T.F__overlaps_of_three.ok sc__overlaps_of_three (fun vs H Q E h => ?_) (fun cdv A outer s H vs Q E hr h => ?_)
  · obtain ⟨pr, t, rfl, _⟩ := h
    rfl
  · obtain ⟨pr, t, rfl, hPT, hV, q⟩ := h
    refine ⟨_, (pss_cons (ps_set (i := 1) sc__overlaps_of_three.nd rfl (.inl rfl) (pe_fld (pv 0) rfl)) 
    (pss_cons (ps_set (i := 2) sc__overlaps_of_three.nd rfl (.inl rfl) (pe_lst pa_nil)) 
    (pss_cons (ps_for PassesOwn.never rfl (pi_range1 (by rfl) T.n_range (pa_cons (pv 1) pa_nil)) (pg_name (i := 3) sc__overlaps_of_three.nd rfl (.inl rfl)) 
      (pss_one (ps_for PassesOwn.never rfl (pi_range2 (by rfl) T.n_range (pa_cons (pe_op op_add (pv 3) pe_int) (pa_cons (pv 1) pa_nil))) (pg_name (i := 4) sc__overlaps_of_three.nd rfl (.inl rfl)) 
        (pss_cons (ps_set (i := 5) sc__overlaps_of_three.nd rfl (.inl rfl) (pe_meth (pv 0) C_Presentation.cl C_Presentation.m_letters G_Presentation_letters (hr.mono (by decide)) C_Presentation.b_letters .nil pass0 (pa_cons (pe_meth (pv 0) C_Presentation.cl C_Presentation.m_conjugate_row G_Presentation_conjugate_row (hr.mono (by decide)) C_Presentation.b_conjugate_row .nil pass0 (pa_cons (pv 3) (pa_cons (pv 4) pa_nil))) pa_nil))) 
        (pss_one (ps_for PassesOwn.never rfl (pi_range2 (by rfl) T.n_range (pa_cons (pe_op op_add (pv 4) pe_int) (pa_cons (pv 1) pa_nil))) (pg_name (i := 6) sc__overlaps_of_three.nd rfl (.inl rfl)) 
          (pss_cons (ps_set (i := 7) sc__overlaps_of_three.nd rfl (.inl rfl) (pe_meth (pv 0) C_Presentation.cl C_Presentation.m_letters G_Presentation_letters (hr.mono (by decide)) C_Presentation.b_letters .nil pass0 (pa_cons (pe_meth (pv 0) C_Presentation.cl C_Presentation.m_conjugate_row G_Presentation_conjugate_row (hr.mono (by decide)) C_Presentation.b_conjugate_row .nil pass0 (pa_cons (pv 4) (pa_cons (pv 6) pa_nil))) pa_nil))) 
          (pss_one (ps_expr (pe_bm PySem.F.plainAttrs_list PySem.F.slot_list_append PySem.F.type_list_append mt_append (pv 2) (pa_cons (pe_tup (pa_cons (pe_tup (pa_cons (pe_op op_add (pv 6) pe_int) (pa_cons (pe_op op_add (pv 4) pe_int) (pa_cons (pe_op op_add (pv 3) pe_int) pa_nil)))) (pa_cons (pe_tup (pa_cons (pe_op op_add (pv 4) pe_int) (StX.pa_star (pv 7) (pa_cons (pe_op op_add (pv 3) pe_int) pa_nil)))) (pa_cons (pe_tup (pa_cons (pe_op op_add (pv 6) pe_int) (pa_cons (pe_op op_add (pv 3) pe_int) (StX.pa_star (pv 5) pa_nil)))) pa_nil)))) pa_nil))))))))))) 
    (pss_one (ps_ret (pv 2)))))), ?_⟩
    have hn := hV.n10
    obtain ⟨a, b, c, us, vs, ⟨dp, ep⟩, _⟩ := id hPT
    have f := pFs_get (.ref a) (.ref b) (.ref c) t.ps
    refine ⟨_, rfl, pr, _, dp, _, _, rfl, ep, C_Presentation.cl, C_Presentation.n_n, f.1, Nat.zero_le _, fun l nl => ?_⟩
    refine ⟨_, rfl, (t.ps.length : Int), rfl, by omega, by omega, ?_⟩
    rw [Int.toNat_natCast]
    refine for_range (lo := 0) (n := t.ps.length) (fun i σ H' => ∃ (y3 y4 y5 y6 y7 : Option V), σ = [some (.ref pr), some (.int (t.ps.length : Int)), some (.ref l), y3, y4, y5, y6, y7] ∧ OvL K H l H' (((List.range i).flatMap (trU t.ps.length)).map (f3 t)) (i * 100))
      ⟨none, none, none, none, none, rfl, (OvL.init nl).to rfl (Nat.zero_le _)⟩ ?_ ?_
    · rintro i σ H1 hi ⟨y3, y4, y5, y6, y7, rfl, hL⟩
      rw [Int.zero_add]
      refine ⟨_, rfl, _, _, rfl, rfl, _, rfl, _, _, rfl, ⟨by omega, by omega, by omega, by omega⟩, ?_⟩
      refine for_range (lo := (i : Int) + 1) (n := ((t.ps.length : Int) - ((i : Int) + 1)).toNat) (fun d σ H' => ∃ (y4 y5 y6 y7 : Option V), σ = [some (.ref pr), some (.int (t.ps.length : Int)), some (.ref l), some (.int (i : Int)), y4, y5, y6, y7] ∧ OvL K H l H' (((List.range i).flatMap (trU t.ps.length) ++ (List.range d).flatMap fun d => trV t.ps.length i (i + 1 + d)).map (f3 t)) (i * 100 + d * 10))
        ⟨_, _, _, _, rfl, hL.to (by rw [List.range_zero, List.flatMap_nil, List.append_nil]) (by omega)⟩ ?_ ?_
      · rintro d σ H2 hd ⟨y4, y5, y6, y7, rfl, hL⟩
        have hj : i + 1 + d < t.ps.length := by omega
        rw [show (i : Int) + 1 + (d : Int) = ((i + 1 + d : Nat) : Int) by omega]
        have s2 := hL.1
        have ep2 := s2 _ _ ep
        refine ⟨_, rfl, pr, dp, _, rfl, ep2, (pFs_no _ _ _ _).2.2, _, rfl, pr, dp, _, rfl, ep2, (pFs_no _ _ _ _).2.1, _, rfl, _, rfl, (hPT.mono s2).conj hV (by omega) hj fun v2 hv2 hb2 => let_call hV hb2 hv2 fun z3 H3 s3 h3 => ?_⟩
        obtain ⟨x3, rfl, h3⟩ := h3
        refine ⟨_, rfl, _, _, rfl, rfl, _, rfl, _, _, rfl, ⟨by omega, by omega, by omega, by omega⟩, ?_⟩
        refine for_range (lo := ((i + 1 + d : Nat) : Int) + 1) (n := ((t.ps.length : Int) - (((i + 1 + d : Nat) : Int) + 1)).toNat) (fun e σ H' => ∃ (y6 y7 : Option V), σ = [some (.ref pr), some (.int (t.ps.length : Int)), some (.ref l), some (.int (i : Int)), some (.int ((i + 1 + d : Nat) : Int)), some (.ref x3), y6, y7] ∧ SqT K H' x3 (wV (cjN t i (i + 1 + d))) ∧ OvL K H l H' (((List.range i).flatMap (trU t.ps.length) ++ ((List.range d).flatMap (fun d => trV t.ps.length i (i + 1 + d)) ++ (List.range e).map fun e => (i, i + 1 + d, i + 1 + d + 1 + e))).map (f3 t)) (i * 100 + d * 10 + e))
          ⟨_, _, rfl, h3, (hL.mono s3).to (by rw [List.range_zero, List.map_nil, List.append_nil]) (by omega)⟩ ?_ ?_
        · rintro e σ H4 he ⟨y6, y7, rfl, h3, hL⟩
          generalize hjj : i + 1 + d = j at *
          have hk : j + 1 + e < t.ps.length := by omega
          rw [show (j : Int) + 1 + (e : Int) = ((j + 1 + e : Nat) : Int) by omega]
          have s4 := hL.1
          have ep4 := s4 _ _ ep
          refine ⟨_, rfl, pr, dp, _, rfl, ep4, (pFs_no _ _ _ _).2.2, _, rfl, pr, dp, _, rfl, ep4, (pFs_no _ _ _ _).2.1, _, rfl, _, rfl, (hPT.mono s4).conj hV (by omega) hk fun v2 hv2 hb2 => let_call hV hb2 hv2 fun z5 H5 s5 h5 => ?_⟩
          obtain ⟨x5, rfl, h5⟩ := h5
          have hL5 := hL.mono s5
          have h35 := Own.same_tup s5 h3
          obtain ⟨_, ⟨us5, e5, _⟩, _⟩ := id hL5
          have l1 := cj_len hV (show i < j by omega) hj
          have l2 := cj_len hV (show j < j + 1 + e by omega) hk
          refine ⟨_, rfl, .inl ⟨rfl, _, .inl (.inl e5)⟩, ?_⟩
          refine ⟨_, rfl, _, _, rfl, rfl, _, rfl, _, _, rfl, rfl, _, rfl, _, _, rfl, rfl, by show 3 ≤ sizeLine; decide, fun t6 n6 => ?_⟩
          have s6 := same_new (o := .tup [V.int (((j + 1 + e : Nat) : Int) + 1), V.int ((j : Int) + 1), V.int ((i : Int) + 1)]) n6
          refine ⟨_, rfl, _, _, rfl, rfl, _, rfl, x5, _, rfl, .inl (Own.same_tup s6 h5), _, rfl, _, _, rfl, rfl, Nat.le_of_lt (small2000 (by rw [List.length_cons, List.length_append, wV_len]; show (cjN t j (j + 1 + e)).length + 1 + 1 ≤ _; omega)), fun t7 n7 => ?_⟩
          have s7 := same_new (o := .tup (V.int ((j : Int) + 1) :: (wV (letN 0 (cjW t j (j + 1 + e))) ++ [V.int ((i : Int) + 1)]))) n7
          refine ⟨_, rfl, _, _, rfl, rfl, _, rfl, _, _, rfl, rfl, _, rfl, x3, _, rfl, .inl (Own.same_tup (s6.trans s7) h35), Nat.le_of_lt (small2000 (by rw [List.length_cons, List.length_cons, List.append_nil, wV_len]; omega)), fun t8 n8 => ?_⟩
          rw [List.append_nil]
          have s8 := same_new (o := .tup (V.int (((j + 1 + e : Nat) : Int) + 1) :: V.int ((i : Int) + 1) :: wV (cjN t i j))) n8
          refine ⟨by show 3 ≤ sizeLine; decide, fun t9 n9 => ?_⟩
          have s9 := same_new (o := .tup [V.ref t6, V.ref t7, V.ref t8]) n9
          have hO : OV K _ (.ref t9) (o3 t i j (j + 1 + e)) := ⟨t9, t6, t7, t8, rfl, .inl (.inl upd_same), Own.same_tup ((s7.trans s8).trans s9) (.inl (.inl upd_same)), ?_, Own.same_tup s9 (.inl (.inl upd_same))⟩
          obtain ⟨us9, e9, c9, hL9⟩ := (hL5.mono ((s6.trans (s7.trans s8)).trans s9)).add nl hO
          refine ⟨l, _, _, rfl, rfl, e9, small2000 (by omega), ?_⟩
          refine ⟨_, _, rfl, ?_, hL9.to ?_ (by omega)⟩
          · exact Tps.x SameX.put e9 _ _ (Own.same_tup ((s6.trans (s7.trans s8)).trans s9) h35)
          · simp only [List.range_succ, List.map_append, List.append_assoc]
            rfl
          · show SqT K _ t7 (V.int ((j : Int) + 1) :: wV (cjN t j (j + 1 + e) ++ [i]))
            rw [wV_app]
            exact Own.same_tup (s8.trans s9) (.inl (.inl upd_same))
        · rintro σ H4 ⟨y6, y7, rfl, h3, hL⟩
          refine ⟨_, _, _, _, rfl, hL.to ?_ (by omega)⟩
          rw [range_add, show ((t.ps.length : Int) - (((i + 1 + d : Nat) : Int) + 1)).toNat = t.ps.length - (i + 1 + d + 1) by omega]
          rfl
      · rintro σ H2 ⟨y4, y5, y6, y7, rfl, hL⟩
        refine ⟨_, _, _, _, _, rfl, hL.to ?_ (by omega)⟩
        rw [range_add, show ((t.ps.length : Int) - ((i : Int) + 1)).toNat = t.ps.length - (i + 1) by omega]
        rfl
    · rintro σ H1 ⟨y3, y4, y5, y6, y7, rfl, hL⟩
      exact ⟨_, rfl, q l H1 nl (hL.to rfl (by omega))⟩
/-- overlaps -/
def spOvs (K : PySem.W.Frag) (CP : Addr) : Sp := fun vs H Q _ => ∃ (pr : Addr) (t : Tb), vs = [.ref pr] ∧ PTb K CP H pr t ∧ Vd t ∧ t.ps.length ≤ 5 ∧ ∀ z us H', Same H H' → H' z = some (.tup us) → Paired (OV K H') us (ovT t) → Q (.ref z) H'
theorem ok_overlaps (C_Presentation : ClPresentation K mg) (T : Txt K mg) : FnOk P w K mg base CX0 3 T.a_overlaps T.d_overlaps ["presentation"] (spOvs K C_Presentation.C) := by
  have G__overlaps_of_three : FnOk P w K mg base CX0 2 T.a__overlaps_of_three T.d__overlaps_of_three ["presentation"] _ := ok_ov3 C_Presentation T
  have G__overlaps_of_later_power : FnOk P w K mg base CX0 2 T.a__overlaps_of_later_power T.d__overlaps_of_later_power ["presentation", "i", "j"] (spOv2 K C_Presentation.C oL) := ok_ovL C_Presentation T
  have G__overlaps_of_earlier_power : FnOk P w K mg base CX0 2 T.a__overlaps_of_earlier_power T.d__overlaps_of_earlier_power ["presentation", "i", "j"] (spOv2 K C_Presentation.C oE) := ok_ovE C_Presentation T
  have G__overlap_of_power : FnOk P w K mg base CX0 2 T.a__overlap_of_power T.d__overlap_of_power ["presentation", "i"] (spOv1 K C_Presentation.C) := ok_ovP C_Presentation T
  refine T.F_overlaps.ok sc_overlaps (fun vs H Q E h => ?_) (fun cdv A outer s H vs Q E hr h => ?_)
  · obtain ⟨pr, t, rfl, _⟩ := h
    rfl
  · obtain ⟨pr, t, rfl, hPT, hV, hn5, q⟩ := h
    refine ⟨_, (pss_cons (ps_set (i := 1) sc_overlaps.nd rfl (.inr rfl) (pe_fld (pv 0) rfl)) 
    (pss_cons (ps_setLc2 (i := 2) (own := [("i", 4), ("j", 5)]) (vs1 := [5]) rfl sc_overlaps.nd rfl rfl (sw_true rfl rfl rfl (by decide +kernel)) (pi_range1 (by rfl) T.n_range (pa_cons (pv 1) pa_nil)) (blkOk_by (N := N_overlaps) (sc := defScope s_overlaps) (own := [("i", 4), ("j", 5)]) (by decide +kernel)) (by decide) (fun _ _ _ _ _ => (pg_name (i := 4) sc_overlaps.nd rfl (.inl rfl))) (fun _ _ _ _ _ => pts_nil) (fun _ _ _ _ _ => (pi_range2 (by rfl) T.n_range (pa_cons (pe_op op_add (pv 4) pe_int) (pa_cons (pv 1) pa_nil)))) (fun _ _ _ _ _ => (pg_name (i := 5) sc_overlaps.nd rfl (.inl rfl))) (fun _ _ _ _ _ => pts_nil) (fun _ _ _ _ _ => (pe_tup (pa_cons (pv 4) (pa_cons (pv 5) pa_nil))))) 
    (pss_cons (ps_set (i := 3) sc_overlaps.nd rfl (.inl rfl) (pe_call G__overlaps_of_three (hr.mono (by decide)) (by rfl) T.g__overlaps_of_three T.F__overlaps_of_three.kp T.b__overlaps_of_three .nil pass0 (pa_cons (pv 0) pa_nil))) 
    (pss_cons (ps_expr (pe_bm PySem.F.plainAttrs_list PySem.F.slot_list_extend PySem.F.type_list_extend mt_extend (pv 3) (pa_cons (pe_lc (own := [("i", 4), ("j", 5)]) (g := gTup K 2 (gCons (gName 4) (gCons (gName 5) gNil))) rfl sc_overlaps.nd (pi_list (pv 2)) (blkOk_by (N := N_overlaps) (sc := defScope s_overlaps) (own := [("i", 4), ("j", 5)]) (by decide +kernel)) (fun _ _ _ _ _ => by exact (pg_tup rfl (pgs_cons (pg_name (i := 4) sc_overlaps.nd rfl (.inl rfl)) (pgs_cons (pg_name (i := 5) sc_overlaps.nd rfl (.inl rfl)) pgs_nil)))) (fun _ _ _ _ _ => pts_nil) (fun _ _ _ _ _ => (pe_call G__overlaps_of_later_power (hr.mono (by decide)) (by rfl) T.g__overlaps_of_later_power T.F__overlaps_of_later_power.kp T.b__overlaps_of_later_power .nil pass0 (pa_cons (pv 0) (pa_cons (pv 4) (pa_cons (pv 5) pa_nil)))))) pa_nil))) 
    (pss_cons (ps_expr (pe_bm PySem.F.plainAttrs_list PySem.F.slot_list_extend PySem.F.type_list_extend mt_extend (pv 3) (pa_cons (pe_lc (own := [("i", 4), ("j", 5)]) (g := gTup K 2 (gCons (gName 4) (gCons (gName 5) gNil))) rfl sc_overlaps.nd (pi_list (pv 2)) (blkOk_by (N := N_overlaps) (sc := defScope s_overlaps) (own := [("i", 4), ("j", 5)]) (by decide +kernel)) (fun _ _ _ _ _ => by exact (pg_tup rfl (pgs_cons (pg_name (i := 4) sc_overlaps.nd rfl (.inl rfl)) (pgs_cons (pg_name (i := 5) sc_overlaps.nd rfl (.inl rfl)) pgs_nil)))) (fun _ _ _ _ _ => pts_nil) (fun _ _ _ _ _ => (pe_call G__overlaps_of_earlier_power (hr.mono (by decide)) (by rfl) T.g__overlaps_of_earlier_power T.F__overlaps_of_earlier_power.kp T.b__overlaps_of_earlier_power .nil pass0 (pa_cons (pv 0) (pa_cons (pv 4) (pa_cons (pv 5) pa_nil)))))) pa_nil))) 
    (pss_cons (ps_expr (pe_bm PySem.F.plainAttrs_list PySem.F.slot_list_extend PySem.F.type_list_extend mt_extend (pv 3) (pa_cons (pe_lc (own := [("i", 4)]) rfl sc_overlaps.nd (pi_range1 (by rfl) T.n_range (pa_cons (pv 1) pa_nil)) (blkOk_by (N := N_overlaps) (sc := defScope s_overlaps) (own := [("i", 4)]) (by decide +kernel)) (fun _ _ _ _ _ => (pg_name (i := 4) sc_overlaps.nd rfl (.inl rfl))) (fun _ _ _ _ _ => pts_nil) (fun _ _ _ _ _ => (pe_call G__overlap_of_power (hr.mono (by decide)) (by rfl) T.g__overlap_of_power T.F__overlap_of_power.kp T.b__overlap_of_power .nil pass0 (pa_cons (pv 0) (pa_cons (pv 4) pa_nil))))) pa_nil))) 
    (pss_one (ps_ret (pe_callTy call_tuple_of (by rfl) T.n_tuple (by decide +kernel) (pa_cons (pv 3) pa_nil)))))))))), ?_⟩
    obtain ⟨a, b, c, us, vs, ⟨dp, ep⟩, _⟩ := id hPT
    have f := pFs_get (.ref a) (.ref b) (.ref c) t.ps
    have lp := len_prN hn5
    have lt := len_trN hn5
    have hpl : (prN t.ps.length).length ≤ 10 := by
      rw [lp]
      generalize t.ps.length = n at *
      rcases n with _ | _ | _ | _ | _ | _ | n <;> omega
    refine ⟨_, rfl, pr, _, dp, _, _, rfl, ep, C_Presentation.cl, C_Presentation.n_n, f.1, ?_⟩
    refine ⟨_, rfl, (t.ps.length : Int), rfl, by omega, by omega, fun D nD => ⟨fun i m H2 => m = t.ps.length - i ∧ i ≤ t.ps.length ∧ Same H H2 ∧ ∃ acc, H2 D = some (.lst acc) ∧ Paired (PQ K H2) acc ((List.range i).flatMap (prU t.ps.length)) ∧ acc.length ≤ i * 10, ⟨t.ps.length, rfl, Nat.zero_le _, same_new nD, [], upd_same, .nil, Nat.zero_le _⟩, ?_⟩⟩
    rintro i m H2 ⟨rfl, hi, s2, acc, eD, hP, hcl⟩
    rcases Nat.lt_or_ge i t.ps.length with c1 | c1
    · refine .inr ⟨?_, fun H' => i + 1 ≤ t.ps.length ∧ Same H H' ∧ ∃ acc, H' D = some (.lst acc) ∧ Paired (PQ K H') acc ((List.range (i + 1)).flatMap (prU t.ps.length)) ∧ acc.length ≤ (i + 1) * 10, fun H' ⟨h1, h2, h3⟩ => ⟨t.ps.length - (i + 1), by omega, rfl, h1, h2, h3⟩, ?_⟩
      · rw [Int.toNat_natCast]
        exact c1
      rintro x H3 ⟨rfl, rfl⟩
      rw [Int.zero_add]
      refine ⟨rfl, yesT ?_⟩
      refine ⟨_, rfl, _, _, rfl, rfl, _, rfl, _, _, rfl, ⟨by omega, by omega, by omega, by omega⟩, fun j k H4 => k = t.ps.length - (i + 1) - j ∧ j ≤ t.ps.length - (i + 1) ∧ Same H H4 ∧ ∃ acc, H4 D = some (.lst acc) ∧ Paired (PQ K H4) acc ((List.range i).flatMap (prU t.ps.length) ++ (List.range j).map fun d => (i, i + 1 + d)) ∧ acc.length ≤ i * 10 + j, ⟨_, rfl, Nat.zero_le _, s2, acc, eD, by rw [List.range_zero, List.map_nil, List.append_nil]; exact hP, hcl⟩, ?_⟩
      rintro j k H4 ⟨rfl, hj, s4, acc, eD, hP, hcl⟩
      rcases Nat.lt_or_ge j (t.ps.length - (i + 1)) with c2 | c2
      · refine .inr ⟨by show j < _; omega, fun H' => j + 1 ≤ t.ps.length - (i + 1) ∧ Same H H' ∧ ∃ acc, H' D = some (.lst acc) ∧ Paired (PQ K H') acc ((List.range i).flatMap (prU t.ps.length) ++ (List.range (j + 1)).map fun d => (i, i + 1 + d)) ∧ acc.length ≤ i * 10 + (j + 1), fun H' ⟨h1, h2, h3⟩ => ⟨t.ps.length - (i + 1) - (j + 1), by omega, rfl, h1, h2, h3⟩, ?_⟩
        rintro x H5 ⟨rfl, rfl⟩
        rw [show (i : Int) + 1 + (j : Int) = ((i + 1 + j : Nat) : Int) by omega]
        refine ⟨rfl, yesT ?_⟩
        refine ⟨_, rfl, _, rfl, by show 2 ≤ sizeLine; decide, fun t5 n5 => ?_⟩
        have s5 := same_new (o := .tup [V.int (i : Int), V.int ((i + 1 + j : Nat) : Int)]) n5
        have eD5 := s5 _ _ eD
        refine ⟨acc, eD5, small2000 (by omega), c2, same_mut (s4.trans s5) nD, _, upd_same, ?_, by rw [List.length_append]; show _ + 1 ≤ _; omega⟩
        rw [List.range_succ, List.map_append (l₁ := List.range j), ← List.append_assoc]
        exact paired_add (st_PQ.allPut eD5 (st_PQ.all s5 hP)) (st_PQ.put eD5 ⟨t5, rfl, .inl (.inl upd_same)⟩)
      · refine .inl ⟨by show _ ≤ j; omega, c1, s4, acc, eD, ?_, by omega⟩
        have ej : j = t.ps.length - (i + 1) := by omega
        subst ej
        rw [range_add]
        exact hP
    · have ei : i = t.ps.length := by omega
      subst ei
      refine .inl ⟨?_, ?_⟩
      · rw [Int.toNat_natCast]
        exact c1
      change Paired (PQ K H2) acc (prN t.ps.length) at hP
      refine ⟨_, rfl, pr, t, rfl, hPT.mono s2, hV, fun l H3 nl hL3 => ?_⟩
      have hal : acc.length = (prN t.ps.length).length := Paired.length hP
      have hget : ∀ {k : Nat} {x : V}, acc[k]? = some x → PQ K H2 x ((prN t.ps.length).getD k (0, 0)) ∧ ((prN t.ps.length).getD k (0, 0)).1 < ((prN t.ps.length).getD k (0, 0)).2 ∧ ((prN t.ps.length).getD k (0, 0)).2 < t.ps.length := fun {k x} e => by
        obtain ⟨q, eq, hq⟩ := paired_get hP e
        rw [getD_some eq]
        exact ⟨hq, mem_prN (List.mem_of_getElem? eq)⟩
      have hmap : ∀ f : Nat × Nat → Ov, (List.range acc.length).map (fun k => f ((prN t.ps.length).getD k (0, 0))) = (prN t.ps.length).map f := fun f => by
        rw [hal]
        have := map_range (fun k => f ((prN t.ps.length).getD k (0, 0))) ((prN t.ps.length).map f) fun k x e3 => by
          rw [List.getElem?_map] at e3
          cases hd : (prN t.ps.length)[k]? with
          | none => rw [hd] at e3; cases e3
          | some d =>
            rw [hd] at e3
            rw [getD_some hd]
            exact Option.some.inj e3
        rw [List.length_map] at this
        exact this
      have eD3 := hL3.1 _ _ eD
      obtain ⟨_, ⟨us3, e3, _⟩, _⟩ := id hL3
      refine ⟨_, rfl, .inl ⟨rfl, _, .inl (.inl e3)⟩, _, rfl, D, rfl, ⟨_, .inl (.inl eD3)⟩, fun D4 nD4 => ?_⟩
      refine lc_rep (walk_list (xs := acc)) (st_OV (K := K)) (fun k => fL t ((prN t.ps.length).getD k (0, 0))) (by omega) nD4 (fun H2 sm => .inl (.inl (sm _ _ eD3))) (fun k x H5 H6 Q2 hk sm hY q2 => ?_) (fun H5 acc5 s5 eD5 hP5 => ?_)
      · obtain ⟨rfl, g⟩ := hY
        obtain ⟨⟨a5, rfl, h5⟩, hij, hj⟩ := hget g
        have s25 := hL3.1.trans sm
        refine ⟨a5, _, rfl, Own.same_tup s25 h5, rfl, _, _, rfl, _, [], rfl, rfl, rfl, ?_⟩
        exact ⟨_, rfl, _, rfl, _, rfl, pr, t, _, _, rfl, hPT.mono (s2.trans s25), hV, hij, hj, fun z H7 s7 h7 => q2 z H7 s7 h7⟩
      rw [hmap] at hP5
      obtain ⟨us5, e5, c5, hL6⟩ := (hL3.mono s5).ext nl hP5
      have hl5 := Paired.length hP5
      rw [List.length_map] at hl5
      refine ⟨l, D4, us5, acc5, rfl, rfl, e5, eD5, Nat.le_of_lt (small2000 (by omega)), ?_⟩
      have eD6 := hL6.1 _ _ eD
      rw [List.length_map] at hL6
      generalize upd H5 l (.lst (us5 ++ acc5)) = H6 at *
      obtain ⟨_, ⟨us6, e6, _⟩, _⟩ := id hL6
      clear hP5 eD5 e5 s5 hL3 e3 eD3 nD4
      -- the second
      refine ⟨_, rfl, .inl ⟨rfl, _, .inl (.inl e6)⟩, _, rfl, D, rfl, ⟨_, .inl (.inl eD6)⟩, fun D4 nD4 => ?_⟩
      refine lc_rep (walk_list (xs := acc)) (st_OV (K := K)) (fun k => fE t ((prN t.ps.length).getD k (0, 0))) (by omega) nD4 (fun H2 sm => .inl (.inl (sm _ _ eD6))) (fun k x H7 H8 Q2 hk sm hY q2 => ?_) (fun H7 acc7 s7 eD7 hP7 => ?_)
      · obtain ⟨rfl, g⟩ := hY
        obtain ⟨⟨a5, rfl, h5⟩, hij, hj⟩ := hget g
        have s25 := hL6.1.trans sm
        refine ⟨a5, _, rfl, Own.same_tup s25 h5, rfl, _, _, rfl, _, [], rfl, rfl, rfl, ?_⟩
        exact ⟨_, rfl, _, rfl, _, rfl, pr, t, _, _, rfl, hPT.mono (s2.trans s25), hV, hij, hj, fun z H7 s7 h7 => q2 z H7 s7 h7⟩
      rw [hmap] at hP7
      obtain ⟨us7, e7, c7, hL8⟩ := (hL6.mono s7).ext nl hP7
      have hl7 := Paired.length hP7
      rw [List.length_map] at hl7
      refine ⟨l, D4, us7, acc7, rfl, rfl, e7, eD7, Nat.le_of_lt (small2000 (by omega)), ?_⟩
      rw [List.length_map] at hL8
      generalize upd H7 l (.lst (us7 ++ acc7)) = H8 at *
      obtain ⟨_, ⟨us8, e8, _⟩, _⟩ := id hL8
      clear hP7 eD7 e7 s7 hL6 e6 eD6 nD4
      -- the third
      refine ⟨_, rfl, .inl ⟨rfl, _, .inl (.inl e8)⟩, _, rfl, (t.ps.length : Int), rfl, by omega, by omega, fun D4 nD4 => ?_⟩
      refine lc_rep (walk_range (lo := 0) (n := t.ps.length)) (st_OV (K := K)) (fun k => oP t k) (by omega) nD4 (fun _ _ => trivial) (fun k x H9 H10 Q2 hk sm hY q2 => ?_) (fun H9 acc9 s9 eD9 hP9 => ?_)
      · obtain ⟨rfl, rfl⟩ := hY
        refine ⟨rfl, _, rfl, _, rfl, pr, t, k, by show [V.ref pr, V.int (0 + (k : Int))] = _; rw [Int.zero_add], hPT.mono (s2.trans (hL8.1.trans sm)), hV, hk, fun z H7 s7 h7 => q2 z H7 s7 h7⟩
      obtain ⟨us9, e9, c9, hL10⟩ := (hL8.mono s9).ext nl hP9
      have hl9 := Paired.length hP9
      rw [List.length_map, List.length_range] at hl9
      refine ⟨l, D4, us9, acc9, rfl, rfl, e9, eD9, Nat.le_of_lt (small2000 (by omega)), ?_⟩
      generalize upd H9 l (.lst (us9 ++ acc9)) = H10 at *
      obtain ⟨s10, ⟨us10, e10, hP10⟩, _⟩ := id hL10
      refine ⟨_, rfl, l, _, rfl, .inl ⟨.inl (.inl e10), fun z nz => ?_⟩⟩
      have sz := same_new (o := .tup us10) nz
      exact q z us10 _ ((s2.trans s10).trans sz) upd_same (st_OV.all sz hP10)
/-! ### failing_overlap, is_consistent -/
def badOv (t : Tb) (o : Ov) : Bool := !decide (colW t t.ps.length (zeroR t.ps.length) o.2.1 = colW t t.ps.length (zeroR t.ps.length) o.2.2)
def failO (t : Tb) : Option Ov := (ovT t).find? (badOv t)
theorem find_at {α : Type} {q : α → Bool} : ∀ {l : List α} {k : Nat} {o : α}, (∀ x ∈ l.take k, q x = false) → l[k]? = some o → q o = true → l.find? q = some o
  | [], _, _, _, h, _ => by cases h
  | x :: l, 0, o, _, h, hq => by
    cases h
    rw [List.find?_cons_of_pos hq]
  | x :: l, k + 1, o, ha, h, hq => by
    rw [List.find?_cons_of_neg (by rw [ha x (by rw [List.take_succ_cons]; exact List.mem_cons_self)]; decide)]
    exact find_at (l := l) (k := k) (fun y hy => ha y (by rw [List.take_succ_cons]; exact List.mem_cons_of_mem _ hy)) h hq
theorem fail_none {t : Tb} (h : ∀ o ∈ ovT t, badOv t o = false) : failO t = none := List.find?_eq_none.mpr fun o ho => by
  rw [h o ho]
  decide
theorem rep_fail {t : Tb} (hV : Vd t) (R : RepT t) : failO t = none := fail_none fun o ho => by
  obtain ⟨h1, h2⟩ := ovT_one hV R o ho
  unfold badOv
  rw [h1, h2, decide_eq_true rfl]
  rfl
def spFail (K : PySem.W.Frag) (CP : Addr) : Sp := fun vs H Q _ => ∃ (pr : Addr) (t : Tb), vs = [.ref pr] ∧ PTb K CP H pr t ∧ Vd t ∧ t.ps.length ≤ 5 ∧ (∀ H', Same H H' → failO t = none → Q .non H') ∧ ∀ o a H', Same H H' → failO t = some o → SqT K H' a (wV o.1) → Q (.ref a) H'
theorem ok_fail (C_Presentation : ClPresentation K mg) (C_Collector : ClCollector K mg) (T : Txt K mg) : FnOk P w K mg base CX0 33 T.a_failing_overlap T.d_failing_overlap ["presentation"] (spFail K C_Presentation.C) := by
  have G_overlaps : FnOk P w K mg base CX0 3 T.a_overlaps T.d_overlaps ["presentation"] (spOvs K C_Presentation.C) := ok_overlaps C_Presentation T
  have G_Collector___init__ : FnOk P w K mg base CX0 2 C_Collector.a___init__ C_Collector.d___init__ ["self", "presentation"] (spCInit P w K C_Collector.C C_Presentation.C) := ok_cinit C_Presentation C_Collector T
  have G_Collector_behind : FnOk P w K mg base CX0 32 C_Collector.a_behind C_Collector.d_behind ["self", "row", "word"] (spBehind P w K C_Collector.C 10) := ok_behind C_Collector T
  refine T.F_failing_overlap.ok sc_failing_overlap (fun vs H Q E h => ?_) (fun cdv A outer s H vs Q E hr h => ?_)
  · obtain ⟨pr, t, rfl, _⟩ := h
    rfl
  · obtain ⟨pr, t, rfl, hPT, hV, hn5, qN, qS⟩ := h
    refine ⟨_, (pss_cons (ps_set (i := 1) sc_failing_overlap.nd rfl (.inl rfl) (pe_make C_Collector.mkr G_Collector___init__ (hr.mono (by decide)) rfl C_Collector.gC C_Collector.b___init__ .nil pass0 (pa_cons (pv 0) pa_nil))) 
    (pss_cons (ps_set (i := 2) sc_failing_overlap.nd rfl (.inl rfl) (pe_op Own.op_repB (pe_tup (pa_cons pe_int pa_nil)) (pe_fld (pv 0) rfl))) 
    (pss_cons (ps_for PassesOwn.never rfl (pi_tup (pe_call G_overlaps (hr.mono (by decide)) (by rfl) T.g_overlaps T.F_overlaps.kp T.b_overlaps .nil pass0 (pa_cons (pv 0) pa_nil))) (pg_tup rfl (pgs_cons (pg_name (i := 3) sc_failing_overlap.nd rfl (.inl rfl)) (pgs_cons (pg_name (i := 4) sc_failing_overlap.nd rfl (.inl rfl)) (pgs_cons (pg_name (i := 5) sc_failing_overlap.nd rfl (.inl rfl)) pgs_nil)))) 
      (pss_one (ps_if (pt_cmpR (op_neD hr.units) (pe_meth (pv 1) C_Collector.cl C_Collector.m_behind G_Collector_behind (hr.mono (by decide)) C_Collector.b_behind .nil pass0 (pa_cons (pv 2) (pa_cons (pv 4) pa_nil))) (pe_meth (pv 1) C_Collector.cl C_Collector.m_behind G_Collector_behind (hr.mono (by decide)) C_Collector.b_behind .nil pass0 (pa_cons (pv 2) (pa_cons (pv 5) pa_nil))) (nomark _)) 
        (pss_one (ps_ret (pv 3))) pss_nil))) 
    (pss_one (ps_ret pe_non))))), ?_⟩
    have hn := hV.n10
    obtain ⟨pa, pb, pc, us0, vs0, ⟨dp, ep⟩, _⟩ := id hPT
    have f := pFs_get (.ref pa) (.ref pb) (.ref pc) t.ps
    refine ⟨_, rfl, fun c dx nc ndx hne => ?_⟩
    have s0 : Same H (upd (upd H dx (.own c)) c (.ins C_Collector.C dx [])) := (same_new ndx).trans (same_new (by rw [upd_ne (Ne.symm hne)]; exact nc))
    refine ⟨c, dx, pr, t, rfl, upd_same, hPT.mono s0, hV, fun H2 S sx hC hS => ⟨rfl, ?_⟩⟩
    have s2 : Same H H2 := fun b o hb => sx b o (ne_of_none hb nc) (s0 _ _ hb)
    refine ⟨by show 1 ≤ sizeLine; decide, fun zt nzt => ?_⟩
    have s3 := same_new (o := .tup [V.int 0]) nzt
    refine ⟨_, rfl, pr, _, dp, _, _, rfl, s3 _ _ (s2 _ _ ep), C_Presentation.cl, C_Presentation.n_n, f.1, repB_q (K := K) upd_same (by omega) (by omega) fun z0 H4 s4 ez => ?_⟩
    rw [Int.toNat_natCast] at ez
    have ez : RS K H4 (.ref z0) (zeroR t.ps.length) := ⟨z0, rfl, by
      unfold zeroR
      rw [List.map_replicate]
      exact ez⟩
    have s34 := s3.trans s4
    refine ⟨_, rfl, pr, t, rfl, hPT.mono (s2.trans s34), hV, hn5, fun z us H5 s5 ez5 hP5 => ?_⟩
    have s35 := s34.trans s5
    have hC5 := hC.mono s35
    have hx5 := hC5.exts
    have ez0 := rs_tps (Tps.of s5) ez
    refine ⟨z, rfl, ⟨_, .inl (.inl ez5)⟩, for_tup (xs := us) (fun k σ H' => SameS S H5 H' ∧ ClAt P w K C_Collector.C H' c t S ∧ (∀ o ∈ (ovT t).take k, badOv t o = false) ∧ ∃ y3 y4 y5, σ = [some (.ref pr), some (.ref c), some (.ref z0), y3, y4, y5]) ⟨Same.s (Same.refl _), hC5, (fun o h => by cases h), _, _, _, rfl⟩ (fun k σ H' _ ⟨e, _⟩ => Tps.s e hx5 _ _ (.inl (.inl ez5))) (fun k v σ H' hk hP => ?_) (fun σ H' hP => ?_)⟩
    · obtain ⟨e, hC6, hall, y3, y4, y5, rfl⟩ := hP
      obtain ⟨o, eo, q0, wa, wb, wc, rfl, h0, ha, hb, hc⟩ := paired_get hP5 hk
      obtain ⟨⟨k1, l1⟩, ⟨k2, l2⟩, ⟨k3, l3⟩⟩ := ovT_ok hV o (List.mem_of_getElem? eo)
      have tp6 := Tps.s (K := K) e hx5
      refine ⟨q0, _, rfl, tp6 _ _ h0, rfl, _, _, rfl, _, _, rfl, _, [], rfl, rfl, ?_⟩
      obtain ⟨dc, a, wl, pl, cl, wvs, ec, _⟩ := id hC6.ob
      refine ⟨_, rfl, c, dc, _, rfl, ec, (cFs_no _ _ _ _).1, ?_⟩
      refine ⟨_, rfl, _, rfl, c, .ref z0, .ref wb, t, S, zeroR t.ps.length, o.2.1, rfl, hC6, hV, rs_tps tp6 ez0, blz hV, ⟨wb, rfl, .inr (tp6 _ _ hb)⟩, by omega, fun m hm => ⟨k2 m hm, by omega⟩, fun z7 H7 e7 hC7 hz7 => ?_⟩
      have e57 := e.trans e7
      have tp7 := Tps.s (K := K) e57 hx5
      obtain ⟨dc, a, wl, pl, cl, wvs, ec, _⟩ := id hC7.ob
      refine ⟨_, rfl, c, dc, _, rfl, ec, (cFs_no _ _ _ _).1, ?_⟩
      refine ⟨_, rfl, _, rfl, c, .ref z0, .ref wc, t, S, zeroR t.ps.length, o.2.2, rfl, hC7, hV, rs_tps tp7 ez0, blz hV, ⟨wc, rfl, .inr (tp7 _ _ hc)⟩, by omega, fun m hm => ⟨k3 m hm, by omega⟩, fun z8 H8 e8 hC8 hz8 => ?_⟩
      have e58 := e57.trans e8
      obtain ⟨D1, D2⟩ := rs_d (rs_tps (Tps.s e8 hC7.exts) hz7)
      obtain ⟨D3, D4⟩ := rs_d hz8
      refine ⟨_, _, D1, D3, D2, D4, _, rfl, ?_⟩
      rw [eqv_dInts]
      by_cases cb : badOv t o = true
      · refine iteA cb ?_
        have sA : Same H H8 := new_same nc ndx sx hS ((Same.s s35).trans e58)
        exact ⟨_, rfl, qS o wa H8 sA (find_at hall eo cb) (Tps.s e58 hx5 _ _ ha)⟩
      · have cb : badOv t o = false := by simpa using cb
        refine iteB cb ⟨e58, hC8, fun o2 h2 => ?_, _, _, _, rfl⟩
        rw [List.take_add_one, eo] at h2
        rcases List.mem_append.mp h2 with h2 | h2
        · exact hall o2 h2
        · have : o2 = o := by simpa using h2
          rw [this]
          exact cb
    · obtain ⟨e, hC6, hall, y3, y4, y5, rfl⟩ := hP
      rw [Paired.length hP5, List.take_length] at hall
      exact qN H' (new_same nc ndx sx hS ((Same.s s35).trans e)) (fail_none hall)
/-! ### rows out of a table -/
theorem cjq {H : Hp} {t : Tb} {vs : List V} {i j : Nat} (hP : Paired (Tup1 K H) vs t.cj) (hV : Vd t) (hi : i < j) (hj : j < t.ps.length) : ∃ mt us2 v, vs[i]? = some (.ref mt) ∧ SqT K H mt us2 ∧ us2[j - i - 1]? = some v ∧ RS K H v (cjW t i j) ∧ Bl t.ps (cjW t i j) := by
  obtain ⟨M, r, eM, er, ecj, hb, _⟩ := hV.cjv hi hj
  obtain ⟨v, ev, mt, us2, rfl, hSM, hPM⟩ := paired_get2 hP eM
  obtain ⟨v2, ev2, hv2⟩ := paired_get2 hPM er
  exact ⟨mt, us2, v2, ev, hSM, ev2, by rw [ecj]; exact hv2, by rw [ecj]; exact hb⟩
theorem pwq2 {H : Hp} {t : Tb} {us : List V} {i : Nat} (hP : Paired (RS K H) us t.pw) (hV : Vd t) (hi : i < t.ps.length) : ∃ v, us[i]? = some v ∧ RS K H v (t.pw.getD i []) ∧ Bl t.ps (t.pw.getD i []) := by
  obtain ⟨r, e, er, hb, _⟩ := hV.pwv hi
  obtain ⟨v, ev, hv⟩ := paired_get2 hP e
  exact ⟨v, ev, by rw [er]; exact hv, by rw [er]; exact hb⟩
theorem sub_at {i j : Nat} (h : i < j) : (j : Int) - (i : Int) - 1 = ((j - i - 1 : Nat) : Int) := by omega
/-! ### _law_letters, by comprehensions -/
/-- so many times the same number -/
theorem reps_of {H : Hp} {acc : List V} {n : Nat} {c : Int} (h : Paired (RI H) acc ((List.range n).map fun _ => c)) : acc = List.replicate n (V.int c) := by
  have e := ints_of h
  rw [List.map_const', List.length_range, List.map_replicate] at e
  exact e
theorem ok_lletters (T : Txt K mg) : FnOk P w K mg base CX0 1 T.a__law_letters T.d__law_letters ["row"] (fun vs H Q _ => ∃ (rv : V) (r : List Int), vs = [rv] ∧ RS K H rv r ∧ r.length ≤ 10 ∧ (∀ x ∈ r, 0 ≤ x ∧ x ≤ 31) ∧ ∀ H' z', Same H H' → RS K H' z' (letF 0 r) → Q z' H') := by
  refine T.F__law_letters.ok sc__law_letters (fun vs H Q E h => ?_) (fun cdv A outer s H vs Q E hr h => ?_)
  · obtain ⟨rv, r, rfl, _⟩ := h
    rfl
  · obtain ⟨rv, r, rfl, ⟨rt, rfl, hS⟩, hn, hx, q⟩ := h
    refine ⟨_, (pss_cons (ps_set (i := 1) sc__law_letters.nd rfl (.inl rfl) (pe_tup pa_nil)) 
    (pss_cons (ps_for PassesOwn.never rfl (pi_range1 (by rfl) T.n_range (pa_cons (pe_callB call_len_seq (by rfl) T.n_len (by decide +kernel) (pa_cons (pv 0) pa_nil)) pa_nil)) (pg_name (i := 2) sc__law_letters.nd rfl (.inr rfl)) 
      (pss_one (ps_set (i := 1) sc__law_letters.nd rfl (.inl rfl) (pe_op op_catA (pv 1) (pe_callTy call_tuple_of (by rfl) T.n_tuple (by decide +kernel) (pa_cons (pe_lc (own := [("turn", 3)]) rfl sc__law_letters.nd (pi_range1 (by rfl) T.n_range (pa_cons (pe_ix ix_tup (pv 0) (pv 2) (fun _ _ => rfl)) pa_nil)) (blkOk_by (N := N__law_letters) (sc := defScope s__law_letters) (own := [("turn", 3)]) (by decide +kernel)) (fun _ _ _ _ _ => (pg_name (i := 3) sc__law_letters.nd rfl (.inl rfl))) (fun _ _ _ _ _ => pts_nil) (fun _ _ _ _ _ => (pe_op op_add (pv 2) pe_int))) pa_nil)))))) 
    (pss_one (ps_ret (pv 1))))), ?_⟩
    refine ⟨Nat.zero_le _, fun t0 nt0 => ?_⟩
    refine ⟨_, rfl, rt, _, rfl, .inr (Own.same_tup (same_new nt0) hS), _, rfl, by rw [List.length_map]; omega, by rw [List.length_map]; omega, ?_⟩
    rw [List.length_map, Int.toNat_natCast]
    refine for_range (lo := 0) (n := r.length) (fun i σ H' => ∃ (fv : V) (y2 : Option V), σ = [some (.ref rt), some fv, y2, none] ∧ Same H H' ∧ RS K H' fv (letF 0 (r.take i)))
      ⟨.ref t0, none, rfl, same_new nt0, t0, rfl, .inl (.inl upd_same)⟩ ?_ ?_
    · rintro i σ H' hi ⟨fv, y2, rfl, sm, ft, rfl, hF⟩
      rw [Int.zero_add]
      have hxi := hx _ (atR_in hi)
      refine ⟨_, rfl, _, rfl, _, rfl, rt, _, _, _, rfl, rfl, Own.same_tup sm hS, atW hi, _, rfl, by omega, by omega, fun D nD => ?_⟩
      refine lc_rep (walk_range (lo := 0) (n := (atR r i).toNat)) st_RI (fun _ => (i : Int) + 1) (by omega) nD (fun _ _ => trivial) (fun j x H2 H3 Q2 hj s2 hY q2 => ?_) (fun H2 acc s2 eD hP => ?_)
      · obtain ⟨rfl, _⟩ := hY
        exact ⟨rfl, _, rfl, _, _, rfl, rfl, q2 _ _ (Same.refl _) rfl⟩
      · have e := reps_of hP
        subst e
        refine ⟨D, _, rfl, .inl ⟨.inl (.inl eD), fun t nt => ?_⟩⟩
        have s3 := s2.trans (same_new (o := .tup (List.replicate (atR r i).toNat (V.int ((i : Int) + 1)))) nt)
        have hlen := letF_len (r.take i) 0 fun x hx' => (hx x (List.mem_of_mem_take hx')).2
        rw [List.length_take] at hlen
        refine catA_q (Own.same_tup s3 hF) (.inl (.inl upd_same)) (by rw [List.length_map, List.length_replicate]; omega) fun t2 H4 s4 h4 => ?_
        refine ⟨.ref t2, _, rfl, sm.trans (s3.trans s4), t2, rfl, ?_⟩
        rw [letF_take r 0 i hi, Nat.zero_add, List.map_append, List.map_replicate]
        exact h4
    · rintro σ H' ⟨fv, y2, rfl, sm, hf⟩
      rw [List.take_length] at hf
      exact ⟨_, rfl, q _ _ sm hf⟩
/-! ### _law_row_of -/
def spWordRow (P : Program) (w : World) (K : PySem.W.Frag) : Sp := fun vs H Q _ => ∃ (kn wa : Addr) (z : V) (t : Tb) (ws : List Nat), vs = [z, .ref kn, .ref wa] ∧ TbAt K H z t ∧ Vd t ∧ KnOK P w K H kn t ∧ SqT K H wa (wV ws) ∧ (∀ m ∈ ws, m < t.ps.length) ∧
  ∀ z' H', Go P w K kn t H H' → RS K H' z' (colW t t.ps.length (zeroR t.ps.length) ws) → Q z' H'
theorem ok_wordrow (T : Txt K mg) : FnOk P w K mg base CX0 22 T.a__law_row_of T.d__law_row_of ["table", "known", "word"] (spWordRow P w K) := by
  have G__law_step : FnOk P w K mg base CX0 21 T.a__law_step T.d__law_step ["table", "known", "row", "j"] (spStep P w K 10) := ok_lstep T
  refine T.F__law_row_of.ok sc__law_row_of (fun vs H Q E h => ?_) (fun cdv A outer s H vs Q E hr h => ?_)
  · obtain ⟨kn, wa, z, t, ws, rfl, _⟩ := h
    rfl
  · obtain ⟨kn, wa, z, t, ws, rfl, hT, hV, hK, hw, hws, q⟩ := h
    refine ⟨_, (pss_cons (ps_set (i := 3) sc__law_row_of.nd rfl (.inl rfl) (pe_callTy call_tuple_of (by rfl) T.n_tuple (by decide +kernel) (pa_cons (pe_lc (own := [("p", 5)]) rfl sc__law_row_of.nd (pi_tup (pe_ix ix_tup (pv 0) pe_int (fun _ _ => rfl))) (blkOk_by (N := N__law_row_of) (sc := defScope s__law_row_of) (own := [("p", 5)]) (by decide +kernel)) (fun _ _ _ _ _ => (pg_name (i := 5) sc__law_row_of.nd rfl (.inl rfl))) (fun _ _ _ _ _ => pts_nil) (fun _ _ _ _ _ => pe_int)) pa_nil))) 
    (pss_cons (ps_for PassesOwn.never rfl (pi_tup (pv 2)) (pg_name (i := 4) sc__law_row_of.nd rfl (.inl rfl)) 
      (pss_one (ps_set (i := 3) sc__law_row_of.nd rfl (.inl rfl) (pe_call G__law_step (hr.mono (by decide)) (by rfl) T.g__law_step T.F__law_step.kp T.b__law_step .nil pass0 (pa_cons (pv 0) (pa_cons (pv 1) (pa_cons (pv 3) (pa_cons (pe_op op_sub (pv 4) pe_int) pa_nil)))))))) 
    (pss_one (ps_ret (pv 3))))), ?_⟩
    have hn := hV.n10
    obtain ⟨x0, a, b, c, us, vs, rfl, hSx, hSa, hSb, hPw, hSc, hPc⟩ := id hT.rd
    refine ⟨_, rfl, x0, _, 0, _, rfl, rfl, hSx, atI_nat (j := 0) rfl, a, rfl, ⟨_, hSa⟩, fun D nD => ?_⟩
    refine lc_rep (walk_tup (xs := t.ps.map V.int)) st_RI (fun _ => 0) (by rw [List.length_map]; omega) nD (fun H2 sm => Own.same_tup sm hSa) (fun i x H2 H3 Q2 hi sm hY q2 => ?_) (fun H2 acc sm eD hP => ?_)
    · obtain ⟨rfl, _⟩ := hY
      exact ⟨rfl, q2 _ _ (Same.refl _) rfl⟩
    have e := ints_of hP
    have e2 : (List.range (t.ps.map V.int).length).map (fun _ => (0 : Int)) = zeroR t.ps.length := by
      unfold zeroR
      rw [List.map_const', List.length_range, List.length_map]
    rw [e2] at e
    subst e
    refine ⟨D, _, rfl, .inl ⟨.inl (.inl eD), fun u nu => ?_⟩⟩
    have s1 := sm.trans (same_new (o := .tup ((zeroR t.ps.length).map V.int)) nu)
    have hz : RS K (upd H2 u (.tup ((zeroR t.ps.length).map V.int))) (.ref u) (zeroR t.ps.length) := ⟨u, rfl, .inl (.inl upd_same)⟩
    generalize upd H2 u (.tup ((zeroR t.ps.length).map V.int)) = H3 at *
    have g1 : Go P w K kn t H H3 := Go.init hK s1
    refine ⟨_, rfl, wa, rfl, ⟨_, Own.same_tup s1 hw⟩, for_tup (xs := wV ws) (fun i σ H' => ∃ (rv : V) (y4 : Option V), σ = [some (.ref x0), some (.ref kn), some (.ref wa), some rv, y4, none] ∧ Go P w K kn t H H' ∧ RS K H' rv (colW t t.ps.length (zeroR t.ps.length) (ws.take i)))
      ⟨.ref u, none, rfl, g1, hz⟩ (fun i σ H' _ ⟨_, _, _, g, _⟩ => g.tp _ _ hw) (fun i x σ H' hi hP => ?_) (fun σ H' hP => ?_)⟩
    · obtain ⟨rv, y4, rfl, g, hr2⟩ := hP
      unfold wV at hi
      rw [List.getElem?_map] at hi
      cases hx2 : ws[i]? with
      | none => rw [hx2] at hi; cases hi
      | some m =>
        rw [hx2] at hi
        cases hi
        have m1 := hws m (List.mem_of_getElem? hx2)
        have hbi : Bl t.ps (colW t t.ps.length (zeroR t.ps.length) (ws.take i)) := col_bl hV (blz hV) fun k hk => ⟨hws k (List.mem_of_mem_take hk), by omega⟩
        refine ⟨_, rfl, _, rfl, _, rfl, _, rfl, _, _, rfl, rfl, kn, .ref x0, rv, t, _, m, ?_, hT.tps g.tp, hV, g.ok, hr2, hbi, m1, by omega, fun z' r' H4 sx4 tp4 hK4 hr4 hs4 he4 => ?_⟩
        · exact congrArg (fun z => [V.ref x0, V.ref kn, rv, V.int z]) (by omega : (m : Int) + 1 - 1 = (m : Int))
        · refine ⟨z', _, rfl, g.trans ⟨sx4, tp4, hK4⟩, ?_⟩
          rw [List.take_add_one, hx2, col_app]
          rw [he4] at hr4
          exact hr4
    · obtain ⟨rv, y4, rfl, g, hr2⟩ := hP
      rw [List.take_of_length_le (by unfold wV; rw [List.length_map]; exact Nat.le_refl _)] at hr2
      exact ⟨_, rfl, q _ _ g hr2⟩
/-! ### _law_overlaps, by comprehensions -/
theorem llet_call {H : Hp} {v : V} {t : Tb} {r : List Int} {Q : VK} (hV : Vd t) (hb : Bl t.ps r) (h : RS K H v r) (q : ∀ z' H', Same H H' → WT K H' z' (letN 0 r) → Q z' H') : ∃ (rv : V) (r' : List Int), [v] = [rv] ∧ RS K H rv r' ∧ r'.length ≤ 10 ∧ (∀ x ∈ r', 0 ≤ x ∧ x ≤ 31) ∧ ∀ H' z', Same H H' → RS K H' z' (letF 0 r') → Q z' H' :=
  ⟨v, r, rfl, h, by rw [hb.1]; exact hV.n10, row_31 hV hb, fun H' z' s h => q z' H' s (WT.of h)⟩
/-- a tuple kept while the list grows -/
theorem keepL {H : Hp} {l : Addr} {us ys : List V} {y : Addr} {zs : List V} (e : H l = some (.lst us)) (h : SqT K H y zs) : SqT K (upd H l (.lst ys)) y zs := (Tps.x SameX.put e) _ _ h
theorem cut_tail {xs : List V} : cutV xs (some (1 : Int)) none = xs.drop 1 := by
  unfold cutV
  show (xs.drop (min 1 xs.length)).take (xs.length - min 1 xs.length) = _
  cases xs with
  | nil => rfl
  | cons y ys =>
    rw [List.length_cons, Nat.min_eq_left (by omega)]
    show ys.take (ys.length + 1 - 1) = ys
    rw [Nat.add_sub_cancel, List.take_length]
theorem ok_lovs (T : Txt K mg) : FnOk P w K mg base CX0 2 T.a__law_overlaps T.d__law_overlaps ["table"] (fun vs H Q _ => ∃ (z : V) (t : Tb), vs = [z] ∧ TbAt K H z t ∧ Vd t ∧ t.ps.length ≤ 5 ∧ ∀ l H', H l = none → OvL K H l H' (ovT t) 10000 → Q (.ref l) H') := by
  have G__law_letters : FnOk P w K mg base CX0 1 T.a__law_letters T.d__law_letters ["row"] _ := ok_lletters T
  refine T.F__law_overlaps.ok sc__law_overlaps (fun vs H Q E h => ?_) (fun cdv A outer s H vs Q E hr h => ?_)
  · obtain ⟨z, t, rfl, _⟩ := h
    rfl
  · obtain ⟨z, t, rfl, hT, hV, hn5, q⟩ := h
    refine ⟨_, (pss_cons (ps_asg (pv 0) (pg_tup rfl (pgs_cons (pg_name (i := 1) sc__law_overlaps.nd rfl (.inl rfl)) (pgs_cons (pg_name (i := 2) sc__law_overlaps.nd rfl (.inl rfl)) (pgs_cons (pg_name (i := 3) sc__law_overlaps.nd rfl (.inl rfl)) pgs_nil))))) 
    (pss_cons (ps_set (i := 4) sc__law_overlaps.nd rfl (.inl rfl) (pe_callB call_len_seq (by rfl) T.n_len (by decide +kernel) (pa_cons (pv 1) pa_nil))) 
    (pss_cons (ps_set (i := 5) sc__law_overlaps.nd rfl (.inl rfl) (pe_lst pa_nil)) 
    (pss_cons (ps_for PassesOwn.never rfl (pi_range1 (by rfl) T.n_range (pa_cons (pv 4) pa_nil)) (pg_name (i := 6) sc__law_overlaps.nd rfl (.inr rfl)) 
      (pss_one (ps_for PassesOwn.never rfl (pi_range2 (by rfl) T.n_range (pa_cons (pe_op op_add (pv 6) pe_int) (pa_cons (pv 4) pa_nil))) (pg_name (i := 7) sc__law_overlaps.nd rfl (.inr rfl)) 
        (pss_cons (ps_set (i := 8) sc__law_overlaps.nd rfl (.inl rfl) (pe_call G__law_letters (hr.mono (by decide)) (by rfl) T.g__law_letters T.F__law_letters.kp T.b__law_letters .nil pass0 (pa_cons (pe_ix ix_tup (pe_ix ix_tup (pv 3) (pv 6) (fun _ _ => rfl)) (pe_op op_sub (pe_op op_sub (pv 7) (pv 6)) pe_int) (fun _ _ => rfl)) pa_nil))) 
        (pss_one (ps_for PassesOwn.never rfl (pi_range2 (by rfl) T.n_range (pa_cons (pe_op op_add (pv 7) pe_int) (pa_cons (pv 4) pa_nil))) (pg_name (i := 9) sc__law_overlaps.nd rfl (.inl rfl)) 
          (pss_cons (ps_set (i := 10) sc__law_overlaps.nd rfl (.inl rfl) (pe_call G__law_letters (hr.mono (by decide)) (by rfl) T.g__law_letters T.F__law_letters.kp T.b__law_letters .nil pass0 (pa_cons (pe_ix ix_tup (pe_ix ix_tup (pv 3) (pv 7) (fun _ _ => rfl)) (pe_op op_sub (pe_op op_sub (pv 9) (pv 7)) pe_int) (fun _ _ => rfl)) pa_nil))) 
          (pss_one (ps_expr (pe_bm PySem.F.plainAttrs_list PySem.F.slot_list_append PySem.F.type_list_append mt_append (pv 5) (pa_cons (pe_tup (pa_cons (pe_tup (pa_cons (pe_op op_add (pv 9) pe_int) (pa_cons (pe_op op_add (pv 7) pe_int) (pa_cons (pe_op op_add (pv 6) pe_int) pa_nil)))) (pa_cons (pe_op op_catA (pe_op op_catA (pe_tup (pa_cons (pe_op op_add (pv 7) pe_int) pa_nil)) (pv 10)) (pe_tup (pa_cons (pe_op op_add (pv 6) pe_int) pa_nil))) (pa_cons (pe_op op_catA (pe_tup (pa_cons (pe_op op_add (pv 9) pe_int) (pa_cons (pe_op op_add (pv 6) pe_int) pa_nil))) (pv 8)) pa_nil)))) pa_nil))))))))))) 
    (pss_cons (ps_for PassesOwn.never rfl (pi_range1 (by rfl) T.n_range (pa_cons (pv 4) pa_nil)) (pg_name (i := 6) sc__law_overlaps.nd rfl (.inr rfl)) 
      (pss_one (ps_for PassesOwn.never rfl (pi_range2 (by rfl) T.n_range (pa_cons (pe_op op_add (pv 6) pe_int) (pa_cons (pv 4) pa_nil))) (pg_name (i := 7) sc__law_overlaps.nd rfl (.inr rfl)) 
        (pss_cons (ps_set (i := 8) sc__law_overlaps.nd rfl (.inl rfl) (pe_call G__law_letters (hr.mono (by decide)) (by rfl) T.g__law_letters T.F__law_letters.kp T.b__law_letters .nil pass0 (pa_cons (pe_ix ix_tup (pe_ix ix_tup (pv 3) (pv 6) (fun _ _ => rfl)) (pe_op op_sub (pe_op op_sub (pv 7) (pv 6)) pe_int) (fun _ _ => rfl)) pa_nil))) 
        (pss_cons (ps_set (i := 11) sc__law_overlaps.nd rfl (.inl rfl) (pe_callTy call_tuple_of (by rfl) T.n_tuple (by decide +kernel) (pa_cons (pe_lc (own := [("turn", 12)]) rfl sc__law_overlaps.nd (pi_range1 (by rfl) T.n_range (pa_cons (pe_ix ix_tup (pv 1) (pv 7) (fun _ _ => rfl)) pa_nil)) (blkOk_by (N := N__law_overlaps) (sc := defScope s__law_overlaps) (own := [("turn", 12)]) (by decide +kernel)) (fun _ _ _ _ _ => (pg_name (i := 12) sc__law_overlaps.nd rfl (.inl rfl))) (fun _ _ _ _ _ => pts_nil) (fun _ _ _ _ _ => (pe_op op_add (pv 7) pe_int))) pa_nil))) 
        (pss_one (ps_expr (pe_bm PySem.F.plainAttrs_list PySem.F.slot_list_append PySem.F.type_list_append mt_append (pv 5) (pa_cons (pe_tup (pa_cons (pe_op op_catA (pv 11) (pe_tup (pa_cons (pe_op op_add (pv 6) pe_int) pa_nil))) (pa_cons (pe_op op_catA (pe_call G__law_letters (hr.mono (by decide)) (by rfl) T.g__law_letters T.F__law_letters.kp T.b__law_letters .nil pass0 (pa_cons (pe_ix ix_tup (pv 2) (pv 7) (fun _ _ => rfl)) pa_nil)) (pe_tup (pa_cons (pe_op op_add (pv 6) pe_int) pa_nil))) (pa_cons (pe_op op_catA (pe_op op_catA (pe_slice sl_tupA (pv 11) (po_some pe_int) po_none) (pe_tup (pa_cons (pe_op op_add (pv 6) pe_int) pa_nil))) (pv 8)) pa_nil)))) pa_nil))))))))) 
    (pss_cons (ps_for PassesOwn.never rfl (pi_range1 (by rfl) T.n_range (pa_cons (pv 4) pa_nil)) (pg_name (i := 6) sc__law_overlaps.nd rfl (.inr rfl)) 
      (pss_one (ps_for PassesOwn.never rfl (pi_range2 (by rfl) T.n_range (pa_cons (pe_op op_add (pv 6) pe_int) (pa_cons (pv 4) pa_nil))) (pg_name (i := 7) sc__law_overlaps.nd rfl (.inr rfl)) 
        (pss_cons (ps_set (i := 8) sc__law_overlaps.nd rfl (.inl rfl) (pe_call G__law_letters (hr.mono (by decide)) (by rfl) T.g__law_letters T.F__law_letters.kp T.b__law_letters .nil pass0 (pa_cons (pe_ix ix_tup (pe_ix ix_tup (pv 3) (pv 6) (fun _ _ => rfl)) (pe_op op_sub (pe_op op_sub (pv 7) (pv 6)) pe_int) (fun _ _ => rfl)) pa_nil))) 
        (pss_cons (ps_set (i := 11) sc__law_overlaps.nd rfl (.inl rfl) (pe_callTy call_tuple_of (by rfl) T.n_tuple (by decide +kernel) (pa_cons (pe_lc (own := [("turn", 12)]) rfl sc__law_overlaps.nd (pi_range1 (by rfl) T.n_range (pa_cons (pe_ix ix_tup (pv 1) (pv 6) (fun _ _ => rfl)) pa_nil)) (blkOk_by (N := N__law_overlaps) (sc := defScope s__law_overlaps) (own := [("turn", 12)]) (by decide +kernel)) (fun _ _ _ _ _ => (pg_name (i := 12) sc__law_overlaps.nd rfl (.inl rfl))) (fun _ _ _ _ _ => pts_nil) (fun _ _ _ _ _ => (pe_op op_add (pv 6) pe_int))) pa_nil))) 
        (pss_one (ps_expr (pe_bm PySem.F.plainAttrs_list PySem.F.slot_list_append PySem.F.type_list_append mt_append (pv 5) (pa_cons (pe_tup (pa_cons (pe_op op_catA (pe_tup (pa_cons (pe_op op_add (pv 7) pe_int) pa_nil)) (pv 11)) (pa_cons (pe_op op_catA (pe_tup (pa_cons (pe_op op_add (pv 7) pe_int) pa_nil)) (pe_call G__law_letters (hr.mono (by decide)) (by rfl) T.g__law_letters T.F__law_letters.kp T.b__law_letters .nil pass0 (pa_cons (pe_ix ix_tup (pv 2) (pv 6) (fun _ _ => rfl)) pa_nil))) (pa_cons (pe_op op_catA (pe_op op_catA (pe_tup (pa_cons (pe_op op_add (pv 6) pe_int) pa_nil)) (pv 8)) (pe_slice sl_tupA (pv 11) (po_some pe_int) po_none)) pa_nil)))) pa_nil))))))))) 
    (pss_cons (ps_for PassesOwn.never rfl (pi_range1 (by rfl) T.n_range (pa_cons (pv 4) pa_nil)) (pg_name (i := 6) sc__law_overlaps.nd rfl (.inr rfl)) 
      (pss_cons (ps_set (i := 11) sc__law_overlaps.nd rfl (.inl rfl) (pe_callTy call_tuple_of (by rfl) T.n_tuple (by decide +kernel) (pa_cons (pe_lc (own := [("turn", 12)]) rfl sc__law_overlaps.nd (pi_range1 (by rfl) T.n_range (pa_cons (pe_ix ix_tup (pv 1) (pv 6) (fun _ _ => rfl)) pa_nil)) (blkOk_by (N := N__law_overlaps) (sc := defScope s__law_overlaps) (own := [("turn", 12)]) (by decide +kernel)) (fun _ _ _ _ _ => (pg_name (i := 12) sc__law_overlaps.nd rfl (.inl rfl))) (fun _ _ _ _ _ => pts_nil) (fun _ _ _ _ _ => (pe_op op_add (pv 6) pe_int))) pa_nil))) 
      (pss_one (ps_expr (pe_bm PySem.F.plainAttrs_list PySem.F.slot_list_append PySem.F.type_list_append mt_append (pv 5) (pa_cons (pe_tup (pa_cons (pe_op op_catA (pv 11) (pe_tup (pa_cons (pe_op op_add (pv 6) pe_int) pa_nil))) (pa_cons (pe_op op_catA (pe_call G__law_letters (hr.mono (by decide)) (by rfl) T.g__law_letters T.F__law_letters.kp T.b__law_letters .nil pass0 (pa_cons (pe_ix ix_tup (pv 2) (pv 6) (fun _ _ => rfl)) pa_nil)) (pe_tup (pa_cons (pe_op op_add (pv 6) pe_int) pa_nil))) (pa_cons (pe_op op_catA (pe_tup (pa_cons (pe_op op_add (pv 6) pe_int) pa_nil)) (pe_call G__law_letters (hr.mono (by decide)) (by rfl) T.g__law_letters T.F__law_letters.kp T.b__law_letters .nil pass0 (pa_cons (pe_ix ix_tup (pv 2) (pv 6) (fun _ _ => rfl)) pa_nil))) pa_nil)))) pa_nil)))))) 
    (pss_one (ps_ret (pv 5)))))))))), ?_⟩
    have hn := hV.n10
    obtain ⟨x, a, b, c, us, vs, rfl, hSx, hSa, hSb, hPw, hSc, hPc⟩ := hT.rd
    have lt : (trN t.ps.length).length ≤ 10 := by
      rw [len_trN hn5]
      generalize t.ps.length = n at *
      rcases n with _ | _ | _ | _ | _ | _ | n <;> omega
    have lp : (prN t.ps.length).length ≤ 10 := by
      rw [len_prN hn5]
      generalize t.ps.length = n at *
      rcases n with _ | _ | _ | _ | _ | _ | n <;> omega
    refine ⟨_, rfl, x, _, rfl, hSx, rfl, _, _, rfl, _, _, rfl, _, _, rfl, rfl, ?_⟩
    refine ⟨_, rfl, a, _, rfl, .inr hSa, ?_⟩
    rw [List.length_map]
    refine ⟨Nat.zero_le _, fun l nl => ?_⟩
    refine ⟨_, rfl, (t.ps.length : Int), rfl, by omega, by omega, ?_⟩
    rw [Int.toNat_natCast]
    refine for_range (lo := 0) (n := t.ps.length) (fun i σ H' => ∃ (y6 y7 y8 y9 y10 y11 y12 : Option V), σ = [some (.ref x), some (.ref a), some (.ref b), some (.ref c), some (.int (t.ps.length : Int)), some (.ref l), y6, y7, y8, y9, y10, y11, y12] ∧ OvL K H l H' (((List.range i).flatMap (trU t.ps.length)).map (f3 t)) (i * 100))
      ⟨_, _, _, _, _, _, _, rfl, (OvL.init nl).to rfl (Nat.zero_le _)⟩ ?_ ?_
    · rintro i σ H1 hi ⟨y6, y7, y8, y9, y10, y11, y12, rfl, hL⟩
      rw [Int.zero_add]
      refine ⟨_, rfl, _, _, rfl, rfl, _, rfl, _, _, rfl, ⟨by omega, by omega, by omega, by omega⟩, ?_⟩
      refine for_range (lo := (i : Int) + 1) (n := ((t.ps.length : Int) - ((i : Int) + 1)).toNat) (fun d σ H' => ∃ (y7 y8 y9 y10 y11 y12 : Option V), σ = [some (.ref x), some (.ref a), some (.ref b), some (.ref c), some (.int (t.ps.length : Int)), some (.ref l), some (.int (i : Int)), y7, y8, y9, y10, y11, y12] ∧ OvL K H l H' (((List.range i).flatMap (trU t.ps.length) ++ (List.range d).flatMap fun d => trV t.ps.length i (i + 1 + d)).map (f3 t)) (i * 100 + d * 10))
        ⟨_, _, _, _, _, _, rfl, hL.to (by rw [List.range_zero, List.flatMap_nil, List.append_nil]) (by omega)⟩ ?_ ?_
      · rintro d σ H2 hd ⟨y7, y8, y9, y10, y11, y12, rfl, hL⟩
        have hj : i + 1 + d < t.ps.length := by omega
        rw [show (i : Int) + 1 + (d : Int) = ((i + 1 + d : Nat) : Int) by omega]
        have hij0 : i < i + 1 + d := by omega
        obtain ⟨mt3, us3, v3, e3, hM3, e4, hv3, hb3⟩ := cjq hPc hV hij0 hj
        have l1 := cj_len hV hij0 hj
        have s02 := hL.1
        -- own
        refine ⟨_, rfl, _, rfl, c, _, (i : Int), _, rfl, rfl, Own.same_tup s02 hSc, atI_nat e3, _, rfl, _, rfl, _, _, rfl, rfl, _, _, rfl, rfl, mt3, _, _, _, rfl, rfl, Own.same_tup s02 hM3, by rw [sub_at hij0]; exact atI_nat e4, llet_call hV hb3 (rs_tps (Tps.of s02) hv3) fun z3 H3 s3 h3 => ?_⟩
        obtain ⟨x3, rfl, h3⟩ := h3
        have hL3 := hL.mono s3
        refine ⟨_, rfl, _, _, rfl, rfl, _, rfl, _, _, rfl, ⟨by omega, by omega, by omega, by omega⟩, ?_⟩
        refine for_range (lo := ((i + 1 + d : Nat) : Int) + 1) (n := ((t.ps.length : Int) - (((i + 1 + d : Nat) : Int) + 1)).toNat) (fun e σ H' => ∃ (y9 y10 y11 y12 : Option V), σ = [some (.ref x), some (.ref a), some (.ref b), some (.ref c), some (.int (t.ps.length : Int)), some (.ref l), some (.int (i : Int)), some (.int ((i + 1 + d : Nat) : Int)), some (.ref x3), y9, y10, y11, y12] ∧ OvL K H l H' (((List.range i).flatMap (trU t.ps.length) ++ ((List.range d).flatMap (fun d => trV t.ps.length i (i + 1 + d)) ++ (List.range e).map fun e => (i, i + 1 + d, i + 1 + d + 1 + e))).map (f3 t)) (i * 100 + d * 10 + e) ∧ SqT K H' x3 (wV (cjN t i (i + 1 + d))))
          ⟨_, _, _, _, rfl, hL3.to (by rw [List.range_zero, List.map_nil, List.append_nil]) (by omega), h3⟩ ?_ ?_
        · rintro e σ H4 he ⟨y9, y10, y11, y12, rfl, hL, hown⟩
          generalize hjj : i + 1 + d = j at *
          have hk : j + 1 + e < t.ps.length := by omega
          rw [show (j : Int) + 1 + (e : Int) = ((j + 1 + e : Nat) : Int) by omega]
          have hij : i < j := by omega
          have hjk : j < j + 1 + e := by omega
          generalize hkk : j + 1 + e = k at *
          obtain ⟨mt, us2, v2, e1, hM, e2, hv2, hb2⟩ := cjq hPc hV hjk hk
          have l2 := cj_len hV hjk hk
          have s04 := hL.1
          -- other
          refine ⟨_, rfl, _, rfl, c, _, (j : Int), _, rfl, rfl, Own.same_tup s04 hSc, atI_nat e1, _, rfl, _, rfl, _, _, rfl, rfl, _, _, rfl, rfl, mt, _, _, _, rfl, rfl, Own.same_tup s04 hM, by rw [sub_at hjk]; exact atI_nat e2, llet_call hV hb2 (rs_tps (Tps.of s04) hv2) fun z6 H6 s6 h6 => ?_⟩
          obtain ⟨x6, rfl, h6⟩ := h6
          have hL6 := hL.mono s6
          obtain ⟨_, ⟨us6, e6, _⟩, _⟩ := id hL6
          refine ⟨_, rfl, .inl ⟨rfl, _, .inl (.inl e6)⟩, ?_⟩
          refine ⟨_, rfl, _, _, rfl, rfl, _, rfl, _, _, rfl, rfl, _, rfl, _, _, rfl, rfl, by show 3 ≤ sizeLine; decide, fun t13 n13 => ?_⟩
          have s13 := same_new (o := .tup [V.int ((k : Int) + 1), V.int ((j : Int) + 1), V.int ((i : Int) + 1)]) n13
          have h13 : SqT K (upd H6 t13 (.tup [V.int ((k : Int) + 1), V.int ((j : Int) + 1), V.int ((i : Int) + 1)])) t13 [V.int ((k : Int) + 1), V.int ((j : Int) + 1), V.int ((i : Int) + 1)] := .inl (.inl upd_same)
          generalize upd H6 t13 (.tup [V.int ((k : Int) + 1), V.int ((j : Int) + 1), V.int ((i : Int) + 1)]) = H7 at *
          refine ⟨_, rfl, _, _, rfl, rfl, by show 1 ≤ sizeLine; decide, fun t5 n5 => ?_⟩
          have s5 := same_new (o := .tup [V.int ((j : Int) + 1)]) n5
          refine ⟨_, rfl, catA_q (.inl (.inl upd_same)) (Own.same_tup (s13.trans s5) h6) (by rw [wV_len]; show 1 + (cjN t j k).length ≤ 2000; omega) fun x7 H8 s7 h7 => ?_⟩
          refine ⟨_, rfl, _, _, rfl, rfl, by show 1 ≤ sizeLine; decide, fun t8 n8 => catA_q (Own.same_tup (same_new n8) h7) (.inl (.inl upd_same)) (by rw [List.length_append, wV_len]; show 1 + (cjN t j k).length + 1 ≤ 2000; omega) fun x9 H9 s9 h9 => ?_⟩
          have s79 := s5.trans (s7.trans ((same_new n8).trans s9))
          refine ⟨_, rfl, _, _, rfl, rfl, _, rfl, _, _, rfl, rfl, by show 2 ≤ sizeLine; decide, fun t10 n10 => ?_⟩
          have s10 := same_new (o := .tup [V.int ((k : Int) + 1), V.int ((i : Int) + 1)]) n10
          refine ⟨_, rfl, catA_q (.inl (.inl upd_same)) (Own.same_tup (s6.trans (s13.trans (s79.trans s10))) hown) (by rw [wV_len]; show 2 + (cjN t i j).length ≤ 2000; omega) fun x12 H12 s12 h12 => ?_⟩
          have s912 := s10.trans s12
          refine ⟨by show 3 ≤ sizeLine; decide, fun t14 n14 => ?_⟩
          have s14 := same_new (o := .tup [V.ref t13, V.ref x9, V.ref x12]) n14
          have hO : OV K _ (.ref t14) (o3 t i j k) := ⟨t14, t13, x9, x12, rfl, .inl (.inl upd_same), Own.same_tup (s79.trans (s912.trans s14)) h13, ?_, ?_⟩
          obtain ⟨us9, e9, c9, hL14⟩ := (hL6.mono (s13.trans (s79.trans (s912.trans s14)))).add nl hO
          refine ⟨l, _, _, rfl, rfl, e9, small2000 (by omega), ?_⟩
          refine ⟨_, _, _, _, rfl, hL14.to ?_ (by omega), keepL e9 (Own.same_tup (s6.trans (s13.trans (s79.trans (s912.trans s14)))) hown)⟩
          · simp only [List.range_succ, List.map_append, List.append_assoc]
            rw [← hkk]
            rfl
          · show SqT K _ x9 (V.int ((j : Int) + 1) :: wV (cjN t j k ++ [i]))
            rw [wV_app]
            exact Own.same_tup (s912.trans s14) h9
          · exact Own.same_tup s14 h12
        · rintro σ H4 ⟨y9, y10, y11, y12, rfl, hL, hown⟩
          refine ⟨_, _, _, _, _, _, rfl, hL.to ?_ (by omega)⟩
          rw [range_add, show ((t.ps.length : Int) - (((i + 1 + d : Nat) : Int) + 1)).toNat = t.ps.length - (i + 1 + d + 1) by omega]
          rfl
      · rintro σ H2 ⟨y7, y8, y9, y10, y11, y12, rfl, hL⟩
        refine ⟨_, _, _, _, _, _, _, rfl, hL.to ?_ (by omega)⟩
        rw [range_add, show ((t.ps.length : Int) - ((i : Int) + 1)).toNat = t.ps.length - (i + 1) by omega]
        rfl
    rintro σ H1 ⟨y6, y7, y8, y9, y10, y11, y12, rfl, hL⟩
    change OvL K H l H1 (ov3 t) _ at hL
    replace hL := hL.to rfl (show t.ps.length * 100 ≤ 1000 by omega)
    refine ⟨_, rfl, (t.ps.length : Int), rfl, by omega, by omega, ?_⟩
    rw [Int.toNat_natCast]
    refine for_range (lo := 0) (n := t.ps.length) (fun i σ H' => ∃ (y6 y7 y8 y9 y10 y11 y12 : Option V), σ = [some (.ref x), some (.ref a), some (.ref b), some (.ref c), some (.int (t.ps.length : Int)), some (.ref l), y6, y7, y8, y9, y10, y11, y12] ∧ OvL K H l H' (ov3 t ++ ((List.range i).flatMap (prU t.ps.length)).map (fL t)) (1000 + i * 10))
      ⟨_, _, _, _, _, _, _, rfl, hL.to (by rw [List.range_zero, List.flatMap_nil, List.map_nil, List.append_nil]) (by omega)⟩ ?_ ?_
    · clear hL
      rintro i σ H1 hi ⟨y6, y7, y8, y9, y10, y11, y12, rfl, hL⟩
      rw [Int.zero_add]
      refine ⟨_, rfl, _, _, rfl, rfl, _, rfl, _, _, rfl, ⟨by omega, by omega, by omega, by omega⟩, ?_⟩
      refine for_range (lo := (i : Int) + 1) (n := ((t.ps.length : Int) - ((i : Int) + 1)).toNat) (fun d σ H' => ∃ (y7 y8 y9 y10 y11 y12 : Option V), σ = [some (.ref x), some (.ref a), some (.ref b), some (.ref c), some (.int (t.ps.length : Int)), some (.ref l), some (.int (i : Int)), y7, y8, y9, y10, y11, y12] ∧ OvL K H l H' (ov3 t ++ ((List.range i).flatMap (prU t.ps.length) ++ (List.range d).map fun d => (i, i + 1 + d)).map (fL t)) (1000 + i * 10 + d))
        ⟨_, _, _, _, _, _, rfl, hL.to (by rw [List.range_zero, List.map_nil, List.append_nil]) (by omega)⟩ ?_ ?_
      · rintro d σ H2 hd ⟨y7, y8, y9, y10, y11, y12, rfl, hL⟩
        have hj : i + 1 + d < t.ps.length := by omega
        rw [show (i : Int) + 1 + (d : Int) = ((i + 1 + d : Nat) : Int) by omega]
        have hij : i < i + 1 + d := by omega
        generalize hjj : i + 1 + d = j at *
        obtain ⟨mt, us2, v2, e1, hM, e2, hv2, hb2⟩ := cjq hPc hV hij hj
        obtain ⟨v3, e3, hv3, hb3⟩ := pwq2 hPw hV hj
        have l1 := cj_len hV hij hj
        have l2 := pw_len hV hj
        have hp := hV.p2 hj
        have s2 := hL.1
        -- own
        refine ⟨_, rfl, _, rfl, c, _, (i : Int), _, rfl, rfl, Own.same_tup s2 hSc, atI_nat e1, _, rfl, _, rfl, _, _, rfl, rfl, _, _, rfl, rfl, mt, _, _, _, rfl, rfl, Own.same_tup s2 hM, by rw [sub_at hij]; exact atI_nat e2, llet_call hV hb2 (rs_tps (Tps.of s2) hv2) fun z3 H3 s3 h3 => ?_⟩
        obtain ⟨x3, rfl, h3⟩ := h3
        have hL3 := hL.mono s3
        have s03 := hL3.1
        -- many
        refine ⟨_, rfl, _, rfl, a, _, (j : Int), _, rfl, rfl, Own.same_tup s03 hSa, atW hj, _, rfl, by omega, by omega, fun D nD => ?_⟩
        refine lc_rep (walk_range (lo := 0) (n := (atR t.ps j).toNat)) st_RI (fun _ => (j : Int) + 1) (by omega) nD (fun _ _ => trivial) (fun q x H2 H3 Q2 hq s2 hY q2 => ?_) (fun H4 acc s4 eD hPm => ?_)
        · obtain ⟨rfl, _⟩ := hY
          exact ⟨rfl, _, rfl, _, _, rfl, rfl, q2 _ _ (Same.refl _) rfl⟩
        have e := reps_of hPm
        subst e
        refine ⟨D, _, rfl, .inl ⟨.inl (.inl eD), fun mn nmn => ?_⟩⟩
        have s5 := same_new (o := .tup (List.replicate (atR t.ps j).toNat (V.int ((j : Int) + 1)))) nmn
        have h5 : SqT K (upd H4 mn (.tup (List.replicate (atR t.ps j).toNat (V.int ((j : Int) + 1))))) mn (wV (List.replicate (atR t.ps j).toNat j)) := by
          rw [wV_rep]
          exact .inl (.inl upd_same)
        have hL5 := hL3.mono (s4.trans s5)
        have h35 := Own.same_tup (s4.trans s5) h3
        generalize upd H4 mn (.tup (List.replicate (atR t.ps j).toNat (V.int ((j : Int) + 1)))) = H5 at *
        clear hL hL3 h3 s03 s3 s4 s5 eD hPm nD nmn s2
        obtain ⟨_, ⟨us5, e5, _⟩, _⟩ := id hL5
        have s05 := hL5.1
        refine ⟨_, rfl, .inl ⟨rfl, _, .inl (.inl e5)⟩, ?_⟩
        -- many + (i + 1,)
        refine ⟨_, rfl, _, rfl, _, _, rfl, rfl, by show 1 ≤ sizeLine; decide, fun t6 n6 => catA_q (Own.same_tup (same_new n6) h5) (.inl (.inl upd_same)) (by rw [wV_len, List.length_replicate]; show _ + 1 ≤ 2000; omega) fun x7 H7 s7 h7 => ?_⟩
        have s57 := (same_new n6).trans s7
        -- the power's letters
        refine ⟨_, rfl, _, rfl, b, _, (j : Int), _, rfl, rfl, Own.same_tup (s05.trans s57) hSb, atI_nat e3, llet_call hV hb3 (rs_tps (Tps.of (s05.trans s57)) hv3) fun z8 H8 s8 h8 => ?_⟩
        obtain ⟨x8, rfl, h8⟩ := h8
        refine ⟨_, rfl, _, _, rfl, rfl, by show 1 ≤ sizeLine; decide, fun t9 n9 => catA_q (Own.same_tup (same_new n9) h8) (.inl (.inl upd_same)) (by rw [wV_len]; show (pwN t j).length + 1 ≤ 2000; omega) fun x10 H10 s10 h10 => ?_⟩
        have s70 := s8.trans ((same_new n9).trans s10)
        -- many[1:] + (i + 1,) + own
        refine ⟨_, rfl, (1 : Int), rfl, ?_⟩
        unfold tNoPart
        refine slA_q (lo := some (1 : Int)) (hi := none) (Own.same_tup (s57.trans s70) h5) fun t11 H11 s11 h11 => ?_
        rw [cut_tail] at h11
        refine ⟨_, rfl, _, _, rfl, rfl, by show 1 ≤ sizeLine; decide, fun t12 n12 => catA_q (Own.same_tup (same_new n12) h11) (.inl (.inl upd_same)) (by rw [List.length_drop, wV_len, List.length_replicate]; show _ + 1 ≤ 2000; omega) fun x13 H13 s13 h13 => ?_⟩
        have s0d := s57.trans (s70.trans (s11.trans ((same_new n12).trans s13)))
        refine ⟨_, rfl, catA_q h13 (Own.same_tup s0d h35) (by rw [List.length_append, List.length_drop, wV_len, wV_len, List.length_replicate]; show _ + 1 + (cjN t i j).length ≤ 2000; omega) fun x14 H14 s14 h14 => ?_⟩
        refine ⟨by show 3 ≤ sizeLine; decide, fun t15 n15 => ?_⟩
        have s15 := same_new (o := .tup [V.ref x7, V.ref x10, V.ref x14]) n15
        have hL15 := hL5.mono (s0d.trans (s14.trans s15))
        have hO : OV K (upd H14 t15 (.tup [V.ref x7, V.ref x10, V.ref x14])) (.ref t15) (oL t i j) := ⟨t15, x7, x10, x14, rfl, .inl (.inl upd_same), ?_, ?_, ?_⟩
        · obtain ⟨us18, e18, c18, hL18⟩ := hL15.add nl hO
          refine ⟨l, _, _, rfl, rfl, e18, small2000 (by omega), ?_⟩
          refine ⟨_, _, _, _, _, _, rfl, hL18.to ?_ (by omega)⟩
          simp only [List.range_succ, List.map_append, List.append_assoc]
          rw [← hjj]
          rfl
        · show SqT K _ x7 (wV (List.replicate _ j ++ [i]))
          rw [wV_app]
          exact Own.same_tup (s70.trans ((s11.trans ((same_new n12).trans s13)).trans (s14.trans s15))) h7
        · show SqT K _ x10 (wV (pwN t j ++ [i]))
          rw [wV_app]
          exact Own.same_tup ((s11.trans ((same_new n12).trans s13)).trans (s14.trans s15)) h10
        · have := Own.same_tup s15 h14
          show SqT K _ x14 (wV (List.replicate _ j ++ (i :: cjN t i j)))
          rw [wV_app]
          have ed : (wV (List.replicate (atR t.ps j).toNat j)).drop 1 = wV (List.replicate ((atR t.ps j).toNat - 1) j) := by
            unfold wV
            rw [← List.map_drop, List.drop_replicate]
          rw [ed, List.append_assoc] at this
          exact this
      · rintro σ H2 ⟨y7, y8, y9, y10, y11, y12, rfl, hL⟩
        refine ⟨_, _, _, _, _, _, _, rfl, hL.to ?_ (by omega)⟩
        rw [range_add, show ((t.ps.length : Int) - ((i : Int) + 1)).toNat = t.ps.length - (i + 1) by omega]
        rfl
    clear hL
    rintro σ H1 ⟨y6, y7, y8, y9, y10, y11, y12, rfl, hL⟩
    replace hL := hL.to rfl (show 1000 + t.ps.length * 10 ≤ 2000 by omega)
    refine ⟨_, rfl, (t.ps.length : Int), rfl, by omega, by omega, ?_⟩
    rw [Int.toNat_natCast]
    refine for_range (lo := 0) (n := t.ps.length) (fun i σ H' => ∃ (y6 y7 y8 y9 y10 y11 y12 : Option V), σ = [some (.ref x), some (.ref a), some (.ref b), some (.ref c), some (.int (t.ps.length : Int)), some (.ref l), y6, y7, y8, y9, y10, y11, y12] ∧ OvL K H l H' (ov3 t ++ (prN t.ps.length).map (fL t) ++ ((List.range i).flatMap (prU t.ps.length)).map (fE t)) (2000 + i * 10))
      ⟨_, _, _, _, _, _, _, rfl, hL.to (by rw [List.range_zero, List.flatMap_nil, List.map_nil, List.append_nil]; rfl) (by omega)⟩ ?_ ?_
    · clear hL
      rintro i σ H1 hi ⟨y6, y7, y8, y9, y10, y11, y12, rfl, hL⟩
      rw [Int.zero_add]
      refine ⟨_, rfl, _, _, rfl, rfl, _, rfl, _, _, rfl, ⟨by omega, by omega, by omega, by omega⟩, ?_⟩
      refine for_range (lo := (i : Int) + 1) (n := ((t.ps.length : Int) - ((i : Int) + 1)).toNat) (fun d σ H' => ∃ (y7 y8 y9 y10 y11 y12 : Option V), σ = [some (.ref x), some (.ref a), some (.ref b), some (.ref c), some (.int (t.ps.length : Int)), some (.ref l), some (.int (i : Int)), y7, y8, y9, y10, y11, y12] ∧ OvL K H l H' (ov3 t ++ (prN t.ps.length).map (fL t) ++ ((List.range i).flatMap (prU t.ps.length) ++ (List.range d).map fun d => (i, i + 1 + d)).map (fE t)) (2000 + i * 10 + d))
        ⟨_, _, _, _, _, _, rfl, hL.to (by rw [List.range_zero, List.map_nil, List.append_nil]) (by omega)⟩ ?_ ?_
      · rintro d σ H2 hd ⟨y7, y8, y9, y10, y11, y12, rfl, hL⟩
        have hj : i + 1 + d < t.ps.length := by omega
        rw [show (i : Int) + 1 + (d : Int) = ((i + 1 + d : Nat) : Int) by omega]
        have hij : i < i + 1 + d := by omega
        generalize hjj : i + 1 + d = j at *
        obtain ⟨mt, us2, v2, e1, hM, e2, hv2, hb2⟩ := cjq hPc hV hij hj
        obtain ⟨v3, e3, hv3, hb3⟩ := pwq2 hPw hV hi
        have l1 := cj_len hV hij hj
        have l2 := pw_len hV hi
        have hp := hV.p2 hi
        have s2 := hL.1
        -- own
        refine ⟨_, rfl, _, rfl, c, _, (i : Int), _, rfl, rfl, Own.same_tup s2 hSc, atI_nat e1, _, rfl, _, rfl, _, _, rfl, rfl, _, _, rfl, rfl, mt, _, _, _, rfl, rfl, Own.same_tup s2 hM, by rw [sub_at hij]; exact atI_nat e2, llet_call hV hb2 (rs_tps (Tps.of s2) hv2) fun z3 H3 s3 h3 => ?_⟩
        obtain ⟨x3, rfl, h3⟩ := h3
        have hL3 := hL.mono s3
        have s03 := hL3.1
        -- many
        refine ⟨_, rfl, _, rfl, a, _, (i : Int), _, rfl, rfl, Own.same_tup s03 hSa, atW hi, _, rfl, by omega, by omega, fun D nD => ?_⟩
        refine lc_rep (walk_range (lo := 0) (n := (atR t.ps i).toNat)) st_RI (fun _ => (i : Int) + 1) (by omega) nD (fun _ _ => trivial) (fun q x H2 H3 Q2 hq s2 hY q2 => ?_) (fun H4 acc s4 eD hPm => ?_)
        · obtain ⟨rfl, _⟩ := hY
          exact ⟨rfl, _, rfl, _, _, rfl, rfl, q2 _ _ (Same.refl _) rfl⟩
        have e := reps_of hPm
        subst e
        refine ⟨D, _, rfl, .inl ⟨.inl (.inl eD), fun mn nmn => ?_⟩⟩
        have s5 := same_new (o := .tup (List.replicate (atR t.ps i).toNat (V.int ((i : Int) + 1)))) nmn
        have h5 : SqT K (upd H4 mn (.tup (List.replicate (atR t.ps i).toNat (V.int ((i : Int) + 1))))) mn (wV (List.replicate (atR t.ps i).toNat i)) := by
          rw [wV_rep]
          exact .inl (.inl upd_same)
        have hL5 := hL3.mono (s4.trans s5)
        have h35 := Own.same_tup (s4.trans s5) h3
        generalize upd H4 mn (.tup (List.replicate (atR t.ps i).toNat (V.int ((i : Int) + 1)))) = H5 at *
        clear hL hL3 h3 s03 s3 s4 s5 eD hPm nD nmn s2
        obtain ⟨_, ⟨us5, e5, _⟩, _⟩ := id hL5
        have s05 := hL5.1
        refine ⟨_, rfl, .inl ⟨rfl, _, .inl (.inl e5)⟩, ?_⟩
        -- (j + 1,) + many
        refine ⟨_, rfl, _, _, rfl, rfl, by show 1 ≤ sizeLine; decide, fun t6 n6 => ⟨_, rfl, catA_q (.inl (.inl upd_same)) (Own.same_tup (same_new n6) h5) (by rw [wV_len, List.length_replicate]; show 1 + _ ≤ 2000; omega) fun x7 H7 s7 h7 => ?_⟩⟩
        have s57 := (same_new n6).trans s7
        -- (j + 1,) + the power's letters
        refine ⟨_, rfl, _, _, rfl, rfl, by show 1 ≤ sizeLine; decide, fun t9 n9 => ?_⟩
        have s79 := s57.trans (same_new (o := .tup [V.int ((j : Int) + 1)]) n9)
        refine ⟨_, rfl, _, rfl, b, _, (i : Int), _, rfl, rfl, Own.same_tup (s05.trans s79) hSb, atI_nat e3, llet_call hV hb3 (rs_tps (Tps.of (s05.trans s79)) hv3) fun z8 H8 s8 h8 => ?_⟩
        obtain ⟨x8, rfl, h8⟩ := h8
        refine catA_q (Own.same_tup s8 (.inl (.inl upd_same))) h8 (by rw [wV_len]; show 1 + (pwN t i).length ≤ 2000; omega) fun x10 H10 s10 h10 => ?_
        have s70 := (same_new (o := .tup [V.int ((j : Int) + 1)]) n9).trans (s8.trans s10)
        -- (i + 1,) + own + many[1:]
        refine ⟨_, rfl, _, _, rfl, rfl, by show 1 ≤ sizeLine; decide, fun t12 n12 => ⟨_, rfl, catA_q (.inl (.inl upd_same)) (Own.same_tup (s57.trans (s70.trans (same_new n12))) h35) (by rw [wV_len]; show 1 + (cjN t i j).length ≤ 2000; omega) fun x13 H13 s13 h13 => ?_⟩⟩
        have s0d := s57.trans (s70.trans ((same_new n12).trans s13))
        refine ⟨_, rfl, (1 : Int), rfl, ?_⟩
        unfold tNoPart
        refine slA_q (lo := some (1 : Int)) (hi := none) (Own.same_tup s0d h5) fun t11 H11 s11 h11 => ?_
        rw [cut_tail] at h11
        refine catA_q (Own.same_tup s11 h13) h11 (by rw [List.length_append, List.length_drop, wV_len, wV_len, List.length_replicate]; show 1 + (cjN t i j).length + _ ≤ 2000; omega) fun x14 H14 s14 h14 => ?_
        refine ⟨by show 3 ≤ sizeLine; decide, fun t15 n15 => ?_⟩
        have s15 := same_new (o := .tup [V.ref x7, V.ref x10, V.ref x14]) n15
        have hL15 := hL5.mono (s0d.trans (s11.trans (s14.trans s15)))
        have hO : OV K (upd H14 t15 (.tup [V.ref x7, V.ref x10, V.ref x14])) (.ref t15) (oE t i j) := ⟨t15, x7, x10, x14, rfl, .inl (.inl upd_same), ?_, ?_, ?_⟩
        · obtain ⟨us18, e18, c18, hL18⟩ := hL15.add nl hO
          refine ⟨l, _, _, rfl, rfl, e18, small2000 (by omega), ?_⟩
          refine ⟨_, _, _, _, _, _, rfl, hL18.to ?_ (by omega)⟩
          simp only [List.range_succ, List.map_append, List.append_assoc]
          rw [← hjj]
          rfl
        · exact Own.same_tup (s70.trans (((same_new n12).trans s13).trans (s11.trans (s14.trans s15)))) h7
        · exact Own.same_tup (((same_new n12).trans s13).trans (s11.trans (s14.trans s15))) h10
        · have := Own.same_tup s15 h14
          show SqT K _ x14 (V.int ((i : Int) + 1) :: wV (cjN t i j ++ List.replicate _ i))
          rw [wV_app]
          have ed : (wV (List.replicate (atR t.ps i).toNat i)).drop 1 = wV (List.replicate ((atR t.ps i).toNat - 1) i) := by
            unfold wV
            rw [← List.map_drop, List.drop_replicate]
          rw [ed] at this
          exact this
      · rintro σ H2 ⟨y7, y8, y9, y10, y11, y12, rfl, hL⟩
        refine ⟨_, _, _, _, _, _, _, rfl, hL.to ?_ (by omega)⟩
        rw [range_add, show ((t.ps.length : Int) - ((i : Int) + 1)).toNat = t.ps.length - (i + 1) by omega]
        rfl
    clear hL
    rintro σ H1 ⟨y6, y7, y8, y9, y10, y11, y12, rfl, hL⟩
    replace hL := hL.to rfl (show 2000 + t.ps.length * 10 ≤ 3000 by omega)
    -- the fourth
    refine ⟨_, rfl, (t.ps.length : Int), rfl, by omega, by omega, ?_⟩
    rw [Int.toNat_natCast]
    refine for_range (lo := 0) (n := t.ps.length) (fun i σ H' => ∃ (y6 y7 y8 y9 y10 y11 y12 : Option V), σ = [some (.ref x), some (.ref a), some (.ref b), some (.ref c), some (.int (t.ps.length : Int)), some (.ref l), y6, y7, y8, y9, y10, y11, y12] ∧ OvL K H l H' (ov3 t ++ (prN t.ps.length).map (fL t) ++ (prN t.ps.length).map (fE t) ++ (List.range i).map (oP t)) (3000 + i))
      ⟨_, _, _, _, _, _, _, rfl, hL.to (by rw [List.range_zero, List.map_nil, List.append_nil]; rfl) (by omega)⟩ ?_ ?_
    · clear hL
      rintro i σ H2 hi ⟨y6, y7, y8, y9, y10, y11, y12, rfl, hL⟩
      rw [Int.zero_add]
      obtain ⟨v3, e3, hv3, hb3⟩ := pwq2 hPw hV hi
      have l2 := pw_len hV hi
      have hp := hV.p2 hi
      have s2 := hL.1
      refine ⟨_, rfl, _, rfl, a, _, (i : Int), _, rfl, rfl, Own.same_tup s2 hSa, atW hi, _, rfl, by omega, by omega, fun D nD => ?_⟩
      refine lc_rep (walk_range (lo := 0) (n := (atR t.ps i).toNat)) st_RI (fun _ => (i : Int) + 1) (by omega) nD (fun _ _ => trivial) (fun q x H2 H3 Q2 hq s2 hY q2 => ?_) (fun H4 acc s4 eD hPm => ?_)
      · obtain ⟨rfl, _⟩ := hY
        exact ⟨rfl, _, rfl, _, _, rfl, rfl, q2 _ _ (Same.refl _) rfl⟩
      have e := reps_of hPm
      subst e
      refine ⟨D, _, rfl, .inl ⟨.inl (.inl eD), fun mn nmn => ?_⟩⟩
      have s5 := same_new (o := .tup (List.replicate (atR t.ps i).toNat (V.int ((i : Int) + 1)))) nmn
      have h5 : SqT K (upd H4 mn (.tup (List.replicate (atR t.ps i).toNat (V.int ((i : Int) + 1))))) mn (wV (List.replicate (atR t.ps i).toNat i)) := by
        rw [wV_rep]
        exact .inl (.inl upd_same)
      have hL5 := hL.mono (s4.trans s5)
      generalize upd H4 mn (.tup (List.replicate (atR t.ps i).toNat (V.int ((i : Int) + 1)))) = H5 at *
      clear hL s4 s5 eD hPm nD nmn s2
      obtain ⟨_, ⟨us5, e5, _⟩, _⟩ := id hL5
      have s05 := hL5.1
      refine ⟨_, rfl, .inl ⟨rfl, _, .inl (.inl e5)⟩, ?_⟩
      refine ⟨_, rfl, _, rfl, _, _, rfl, rfl, by show 1 ≤ sizeLine; decide, fun t6 n6 => catA_q (Own.same_tup (same_new n6) h5) (.inl (.inl upd_same)) (by rw [wV_len, List.length_replicate]; show _ + 1 ≤ 2000; omega) fun x7 H7 s7 h7 => ?_⟩
      have s57 := (same_new n6).trans s7
      refine ⟨_, rfl, _, rfl, b, _, (i : Int), _, rfl, rfl, Own.same_tup (s05.trans s57) hSb, atI_nat e3, llet_call hV hb3 (rs_tps (Tps.of (s05.trans s57)) hv3) fun z8 H8 s8 h8 => ?_⟩
      obtain ⟨x8, rfl, h8⟩ := h8
      refine ⟨_, rfl, _, _, rfl, rfl, by show 1 ≤ sizeLine; decide, fun t9 n9 => catA_q (Own.same_tup (same_new n9) h8) (.inl (.inl upd_same)) (by rw [wV_len]; show (pwN t i).length + 1 ≤ 2000; omega) fun x10 H10 s10 h10 => ?_⟩
      have s70 := s8.trans ((same_new n9).trans s10)
      refine ⟨_, rfl, _, _, rfl, rfl, by show 1 ≤ sizeLine; decide, fun t11 n11 => ?_⟩
      have s11 := same_new (o := .tup [V.int ((i : Int) + 1)]) n11
      have s511 := s57.trans (s70.trans s11)
      refine ⟨_, rfl, _, rfl, b, _, (i : Int), _, rfl, rfl, Own.same_tup (s05.trans s511) hSb, atI_nat e3, llet_call hV hb3 (rs_tps (Tps.of (s05.trans s511)) hv3) fun z12 H12 s12 h12 => ?_⟩
      obtain ⟨x12, rfl, h12⟩ := h12
      refine catA_q (Own.same_tup s12 (.inl (.inl upd_same))) h12 (by rw [wV_len]; show 1 + (pwN t i).length ≤ 2000; omega) fun x13 H13 s13 h13 => ?_
      refine ⟨by show 3 ≤ sizeLine; decide, fun t14 n14 => ?_⟩
      have s14 := same_new (o := .tup [V.ref x7, V.ref x10, V.ref x13]) n14
      have s1014 := s11.trans (s12.trans (s13.trans s14))
      have hL14 := hL5.mono (s57.trans (s70.trans s1014))
      have hO : OV K (upd H13 t14 (.tup [V.ref x7, V.ref x10, V.ref x13])) (.ref t14) (oP t i) := ⟨t14, x7, x10, x13, rfl, .inl (.inl upd_same), ?_, ?_, Own.same_tup s14 h13⟩
      · obtain ⟨us18, e18, c18, hL18⟩ := hL14.add nl hO
        refine ⟨l, _, _, rfl, rfl, e18, small2000 (by omega), ?_⟩
        refine ⟨_, _, _, _, _, _, _, rfl, hL18.to ?_ (by omega)⟩
        simp only [List.range_succ, List.map_append, List.append_assoc]
        rfl
      · have := Own.same_tup (s70.trans s1014) h7
        show SqT K _ x7 (wV (List.replicate ((atR t.ps i).toNat + 1) i))
        rw [List.replicate_succ', wV_app]
        exact this
      · show SqT K _ x10 (wV (pwN t i ++ [i]))
        rw [wV_app]
        exact Own.same_tup s1014 h10
    · rintro σ H2 ⟨y6, y7, y8, y9, y10, y11, y12, rfl, hL⟩
      exact ⟨_, rfl, q l H2 nl (hL.to rfl (by omega))⟩
/-! ### papers of consistency: what a paper may be; the checker -/
def AtomP (v : V) (d : PyData) : Prop := (∃ i, v = .int i ∧ d = .int i) ∨ ∃ b, v = .bl b ∧ d = .bool b
def isIntD : PyData → Bool
  | .int _ => true
  | _ => false
inductive Pf
  | no
  | one (d0 : Str)
  | two (d0 : Str) (w : Option (List PyData))
def WtAt (K : PySem.W.Frag) (H : Hp) (x : V) : Option (List PyData) → Prop
  | none => ∃ i, Kd K H x i false
  | some ds => ∃ b us, x = .ref b ∧ SqT K H b us ∧ Paired AtomP us ds ∧ us.length ≤ 1000
def PfAt (K : PySem.W.Frag) (H : Hp) (v : V) : Pf → Prop
  | .no => (∃ i, Kd K H v i false) ∨ ∃ a us, v = .ref a ∧ SqT K H a us ∧ us.length ≠ 1 ∧ us.length ≠ 2
  | .one d0 => ∃ a u, v = .ref a ∧ SqT K H a [u] ∧ u = .str d0 ∧ SeqAt.shaped (.str d0) = true
  | .two d0 w => ∃ a u x, v = .ref a ∧ SqT K H a [u, x] ∧ u = .str d0 ∧ SeqAt.shaped (.str d0) = true ∧ WtAt K H x w
def kindB (k : Str) : Pf → Bool
  | .two d0 _ => PyData.eqv (.str d0) (.str k)
  | _ => false
def letB : Option (List PyData) → Bool
  | none => false
  | some ds => ds.all isIntD
def fails (t : Tb) : List Ov := (ovT t).filter (badOv t)
def dW (ws : List Nat) : PyData := .tuple (ws.map fun m : Nat => .int ((m : Int) + 1))
def takC (t : Tb) : Pf → Bool
  | .no => false
  | .one d0 => PyData.eqv (.str d0) (.str "consistent") && (fails t).isEmpty
  | .two _ none => false
  | .two d0 (some ds) => PyData.eqv (.str d0) (.str "overlap") && (ds.all isIntD && (fails t).any fun o => PyData.eqv (dW o.1) (.tuple ds))
theorem atom_dp {H : Hp} : ∀ {us : List V} {ds : List PyData}, Paired AtomP us ds → DpAll K H us ds
  | _, _, .nil => .nil
  | _, _, .cons h t => .cons (by rcases h with ⟨i, rfl, rfl⟩ | ⟨b, rfl, rfl⟩; exact .int i; exact .bl b) (atom_dp t)
theorem wt_isT {H : Hp} {x : V} {w : Option (List PyData)} (h : WtAt K H x w) : ∃ ty, TyX K H x ty ∧ PySem.W.kitOne K ty (.type "tuple") = some w.isSome := by
  cases w with
  | none =>
    obtain ⟨i, h⟩ := h
    exact h.isT
  | some ds =>
    obtain ⟨b, us, rfl, h, _⟩ := h
    exact (Kd.tup h).isT
theorem atoms_lay : ∀ {us : List V} {ds : List PyData}, Paired AtomP us ds → PyData.canLayAll0 ds = true ∧ PyData.depthAll ds = 0
  | _, _, .nil => ⟨by unfold PyData.canLayAll0; rfl, by unfold PyData.depthAll; rfl⟩
  | _, _, .cons h t => by
    obtain ⟨i1, i2⟩ := atoms_lay t
    rcases h with ⟨i, rfl, rfl⟩ | ⟨b, rfl, rfl⟩
    · exact ⟨by simp [PyData.canLayAll0, PyData.canLay0, i1], by simp [PyData.depthAll, PyData.depth, i2]⟩
    · exact ⟨by simp [PyData.canLayAll0, PyData.canLay0, i1], by simp [PyData.depthAll, PyData.depth, i2]⟩
theorem atoms_shaped {us : List V} {ds : List PyData} (h : Paired AtomP us ds) : SeqAt.shaped (.tuple ds) = true := by
  obtain ⟨h1, h2⟩ := atoms_lay h
  show (PyData.canLay0 (.tuple ds) && decide (PyData.depth (.tuple ds) ≤ 64)) = true
  rw [Bool.and_eq_true]
  exact ⟨by simp only [PyData.canLay0]; exact h1, decide_eq_true (by simp only [PyData.depth]; omega)⟩
theorem dW_ints (ws : List Nat) : dW ws = dInts (ws.map fun m : Nat => (m : Int) + 1) := by
  unfold dW dInts
  rw [List.map_map]
  rfl
theorem wt_dp {H : Hp} {v : V} {ws : List Nat} (h : WT K H v ws) : Dp K H v (dW ws) := by
  obtain ⟨x, rfl, hx⟩ := h
  rw [dW_ints]
  refine dp_ints ?_
  rw [List.map_map]
  exact hx
theorem wts_dp {H : Hp} : ∀ {us : List V} {L : List Ov}, Paired (fun v o => WT K H v o.1) us L → DpAll K H us (L.map fun o => dW o.1)
  | _, _, .nil => .nil
  | _, _, .cons h t => .cons (wt_dp h) (wts_dp t)
theorem shaped_words (L : List (List Nat)) : SeqAt.shaped (.list (L.map dW)) = true := by
  have e : L.map dW = (L.map fun ws => ws.map fun m : Nat => (m : Int) + 1).map dInts := by
    rw [List.map_map]
    exact List.map_congr_left fun ws _ => dW_ints ws
  rw [e]
  exact shaped_rowsL _
def spHasK (K : PySem.W.Frag) : Sp := fun vs H Q _ => ∃ (v : V) (f : Pf) (k : Str), vs = [v, .str k] ∧ PfAt K H v f ∧ SeqAt.shaped (.str k) = true ∧ Q (.bl (kindB k f)) H
theorem ok_hask (T : Txt K mg) : FnOk P w K mg base CX0 1 T.a__has_kind T.d__has_kind ["paper", "kind"] (spHasK K) := by
  refine T.F__has_kind.ok sc__has_kind (fun vs H Q E h => ?_) (fun cdv A outer s H vs Q E hr h => ?_)
  · obtain ⟨v, f, k, rfl, _⟩ := h
    rfl
  · obtain ⟨v, f, k, rfl, hf, hk, q⟩ := h
    refine ⟨_, (pss_one (ps_ret (pe_and (pe_callB call_isi (by rfl) T.n_isinstance (by decide +kernel) (pa_cons (pv 0) (pa_cons (pe_bltn (v := .ty "tuple") (by rfl) T.n_tuple (by decide +kernel) rfl) pa_nil))) (pe_and (pe_cmpR op_eq (pe_callB call_len_seq (by rfl) T.n_len (by decide +kernel) (pa_cons (pv 0) pa_nil)) pe_int (nomark _)) (pe_one (pe_cmpR (op_eqD hr.units) (pe_ix ix_tup (pv 0) pe_int (fun _ _ => rfl)) (pv 1) (nomark _))))))), ?_⟩
    cases f with
    | no =>
      rcases hf with ⟨i, h⟩ | ⟨a, us, rfl, hS, h1, h2⟩
      · obtain ⟨ty, t1, t2⟩ := h.isT
        exact ⟨_, rfl, _, _, _, _, false, rfl, .ty "tuple", t1, t2, false, rfl, iteB rfl q⟩
      · obtain ⟨ty, t1, t2⟩ := (Kd.tup hS).isT
        have e2 : decide (V.int (us.length : Int) = V.int 2) = false := decide_eq_false fun z => h2 (by have := V.int.inj z; omega)
        exact ⟨_, rfl, _, _, _, _, true, rfl, .ty "tuple", t1, t2, true, rfl, iteA rfl ⟨_, rfl, a, us, rfl, .inr hS, rfl, _, rfl, iteB e2 q⟩⟩
    | one d0 =>
      obtain ⟨a, u, rfl, hS, rfl, hs⟩ := hf
      obtain ⟨ty, t1, t2⟩ := (Kd.tup hS).isT
      exact ⟨_, rfl, _, _, _, _, true, rfl, .ty "tuple", t1, t2, true, rfl, iteA rfl ⟨_, rfl, a, _, rfl, .inr hS, rfl, _, rfl, iteB (decide_eq_false fun z => absurd (V.int.inj z : ((1 : Nat) : Int) = 2) (by decide)) q⟩⟩
    | two d0 w =>
      obtain ⟨a, u, x, rfl, hS, rfl, hs, hw⟩ := hf
      obtain ⟨ty, t1, t2⟩ := (Kd.tup hS).isT
      exact ⟨_, rfl, _, _, _, _, true, rfl, .ty "tuple", t1, t2, true, rfl, iteA rfl ⟨_, rfl, a, _, rfl, .inr hS, rfl, _, rfl, iteA (decide_eq_true rfl) ⟨_, rfl, a, _, 0, _, rfl, rfl, hS, atI_nat (j := 0) rfl, _, rfl, _, _, .str _, .str k, hs, hk, q⟩⟩⟩
def spAreL (K : PySem.W.Frag) : Sp := fun vs H Q _ => ∃ (v : V) (w : Option (List PyData)), vs = [v] ∧ WtAt K H v w ∧ ∀ H', Same H H' → Q (.bl (letB w)) H'
theorem ok_arel (T : Txt K mg) : FnOk P w K mg base CX0 2 T.a__are_letters T.d__are_letters ["value"] (spAreL K) := by
  have G_is_integer : FnOk P w K mg base CX0 1 T.a_is_integer T.d_is_integer ["value"] (spIsInt K) := ok_isint T
  refine T.F__are_letters.ok sc__are_letters (fun vs H Q E h => ?_) (fun cdv A outer s H vs Q E hr h => ?_)
  · obtain ⟨v, w, rfl, _⟩ := h
    rfl
  · obtain ⟨v, w, rfl, hw, q⟩ := h
    refine ⟨_, (pss_one (ps_ret (pe_and (pe_callB call_isi (by rfl) T.n_isinstance (by decide +kernel) (pa_cons (pv 0) (pa_cons (pe_bltn (v := .ty "tuple") (by rfl) T.n_tuple (by decide +kernel) rfl) pa_nil))) (pe_one (pe_callB (cr_all rfl) (by rfl) T.n_all (by decide +kernel) (pa_cons (pe_lc (own := [("letter", 1)]) rfl sc__are_letters.nd (pi_tup (pv 0)) (blkOk_by (N := N__are_letters) (sc := defScope s__are_letters) (own := [("letter", 1)]) (by decide +kernel)) (fun _ _ _ _ _ => (pg_name (i := 1) sc__are_letters.nd rfl (.inl rfl))) (fun _ _ _ _ _ => pts_nil) (fun _ _ _ _ _ => (pe_call G_is_integer (hr.mono (by decide)) (by rfl) T.g_is_integer T.F_is_integer.kp T.b_is_integer .nil pass0 (pa_cons (pv 1) pa_nil)))) pa_nil)))))), ?_⟩
    obtain ⟨ty, t1, t2⟩ := wt_isT hw
    cases w with
    | none => exact ⟨_, rfl, _, _, _, _, false, rfl, .ty "tuple", t1, t2, false, rfl, iteB rfl (q H (Same.refl H))⟩
    | some ds =>
      obtain ⟨b, us, rfl, hS, hP, hl⟩ := hw
      refine ⟨_, rfl, _, _, _, _, true, rfl, .ty "tuple", t1, t2, true, rfl, iteA rfl ⟨_, rfl, b, rfl, ⟨_, hS⟩, fun D nD => ?_⟩⟩
      have hul := Paired.length hP
      refine lc_rep (walk_tup (xs := us)) st_RB (fun i => isIntD (ds.getD i .none)) (by omega) nD (fun H2 sm => Own.same_tup sm hS) (fun i x H2 H3 Q2 hi sm hY q2 => ?_) (fun H2 acc sm eD hPb => ?_)
      · obtain ⟨rfl, g5⟩ := hY
        obtain ⟨d, ed, hx⟩ := paired_get hP g5
        rw [getD_some ed] at q2
        rcases hx with ⟨k, rfl, rfl⟩ | ⟨k, rfl, rfl⟩
        · exact ⟨rfl, _, rfl, .int k, true, rfl, isI_int k, q2 _ _ (Same.refl _) rfl⟩
        · exact ⟨rfl, _, rfl, .bl k, false, rfl, isI_bl k, q2 _ _ (Same.refl _) rfl⟩
      · have eb := bools_of hPb
        rw [hul, show (List.range ds.length).map (fun i => isIntD (ds.getD i .none)) = ds.map isIntD by
          have := map_range (fun i => isIntD (ds.getD i .none)) (ds.map isIntD) fun i x e3 => by
            rw [List.getElem?_map] at e3
            cases hd : ds[i]? with
            | none => rw [hd] at e3; cases e3
            | some d =>
              rw [hd] at e3
              rw [getD_some hd]
              exact Option.some.inj e3
          rw [List.length_map] at this
          exact this] at eb
        subst eb
        refine ⟨D, _, rfl, .inl (.inl eD), ?_⟩
        rw [List.all_map]
        exact q H2 sm
/-! ### takes_consistent, consistency_paper -/
theorem sql_m {H H' : Hp} {a : Addr} {xs : List V} (s : Same H H') (h : SqL K H a xs) : SqL K H' a xs := h.imp (fun r => r.imp (s _ _) fun ⟨o, h⟩ => ⟨o, s _ _ h⟩) id
mutual
theorem dp_m {H H' : Hp} (s : Same H H') : ∀ (d : PyData) (v : V), Dp K H v d → Dp K H' v d
  | .none, _, h => by cases h; exact .non
  | .bool b, _, h => by cases h; exact .bl b
  | .int i, _, h => by cases h; exact .int i
  | .str x, _, h => by cases h; exact .str x
  | .list ds, _, h => by
    cases h with
    | lst h1 h2 => exact .lst (sql_m s h1) (dpAll_m s ds _ h2)
  | .tuple ds, _, h => by
    cases h with
    | tup h1 h2 => exact .tup (Own.same_tup s h1) (dpAll_m s ds _ h2)
  | .dict _, _, h => by cases h
theorem dpAll_m {H H' : Hp} (s : Same H H') : ∀ (ds : List PyData) (vs : List V), DpAll K H vs ds → DpAll K H' vs ds
  | [], _, h => by cases h; exact .nil
  | d :: ds, _, h => by
    cases h with
    | cons h1 h2 => exact .cons (dp_m s d _ h1) (dpAll_m s ds _ h2)
end
theorem WtAt.mono {H H' : Hp} {v : V} {w : Option (List PyData)} (s : Same H H') (h : WtAt K H v w) : WtAt K H' v w := by
  cases w with
  | none => exact let ⟨i, h⟩ := h; ⟨i, h.mono s⟩
  | some ds => exact let ⟨b, us, e, h1, h2⟩ := h; ⟨b, us, e, Own.same_tup s h1, h2⟩
theorem PfAt.mono {H H' : Hp} {v : V} {f : Pf} (s : Same H H') (h : PfAt K H v f) : PfAt K H' v f := by
  cases f with
  | no =>
    rcases h with ⟨i, h⟩ | ⟨a, us, e, h, h2⟩
    · exact .inl ⟨i, h.mono s⟩
    · exact .inr ⟨a, us, e, Own.same_tup s h, h2⟩
  | one d0 => exact let ⟨a, u, e, h1, h2, h3⟩ := h; ⟨a, u, e, Own.same_tup s h1, h2, h3⟩
  | two d0 w => exact let ⟨a, u, x, e, h1, h2, h3, h4⟩ := h; ⟨a, u, x, e, Own.same_tup s h1, h2, h3, h4.mono s⟩
theorem hu65 {A : Around} {k : Nat} (hr : Room k A) : A.units + 65 < cLine := by
  have := hr.un
  omega
/-- is it the word of a whole table -/
def fullB : Pf → Bool
  | .one d0 => PyData.eqv (.str d0) (.str "consistent")
  | _ => false
def overB : Pf → Bool
  | .two d0 w => PyData.eqv (.str d0) (.str "overlap") && letB w
  | _ => false
theorem put_s {S : List Addr} {H H' : Hp} {D : Addr} (e : SameS S H H') (n : H D = none) (u : HO) : SameS S H (upd H' D u) := fun b o hb ho => by
  rw [upd_ne (ne_of_none ho n)]
  exact e b o hb ho
theorem ovT_len5 {t : Tb} (hn5 : t.ps.length ≤ 5) : (ovT t).length ≤ 40 := by
  rw [len_ovT, len_trN hn5, len_prN hn5]
  generalize t.ps.length = n at *
  rcases n with _ | _ | _ | _ | _ | _ | n <;> omega
def spTakC (K : PySem.W.Frag) (CP : Addr) : Sp := fun vs H Q _ => ∃ (pr : Addr) (v : V) (t : Tb) (f : Pf), vs = [.ref pr, v] ∧ PTb K CP H pr t ∧ Vd t ∧ t.ps.length ≤ 5 ∧ PfAt K H v f ∧ ∀ r H', r = V.bl (takC t f) → Same H H' → Q r H'
theorem ok_takC (C_Presentation : ClPresentation K mg) (C_Collector : ClCollector K mg) (T : Txt K mg) : FnOk P w K mg base CX0 34 T.a_takes_consistent T.d_takes_consistent ["presentation", "paper"] (spTakC K C_Presentation.C) := by
  have G__has_kind : FnOk P w K mg base CX0 1 T.a__has_kind T.d__has_kind ["paper", "kind"] (spHasK K) := ok_hask T
  have G__are_letters : FnOk P w K mg base CX0 2 T.a__are_letters T.d__are_letters ["value"] (spAreL K) := ok_arel T
  have G_overlaps : FnOk P w K mg base CX0 3 T.a_overlaps T.d_overlaps ["presentation"] (spOvs K C_Presentation.C) := ok_overlaps C_Presentation T
  have G_Collector___init__ : FnOk P w K mg base CX0 2 C_Collector.a___init__ C_Collector.d___init__ ["self", "presentation"] (spCInit P w K C_Collector.C C_Presentation.C) := ok_cinit C_Presentation C_Collector T
  have G_Collector_behind : FnOk P w K mg base CX0 32 C_Collector.a_behind C_Collector.d_behind ["self", "row", "word"] (spBehind P w K C_Collector.C 10) := ok_behind C_Collector T
  refine T.F_takes_consistent.ok sc_takes_consistent (fun vs H Q E h => ?_) (fun cdv A outer s H vs Q E hr h => ?_)
  · obtain ⟨pr, v, t, f, rfl, _⟩ := h
    rfl
  · obtain ⟨pr, v, t, f, rfl, hPT, hV, hn5, hf, q⟩ := h
    replace q : ∀ H', Same H H' → Q (.bl (takC t f)) H' := fun H' s => q _ H' rfl s
    refine ⟨_, (C8.pss_cut (ps_set (i := 2) sc_takes_consistent.nd rfl (.inl rfl) (pe_and (pe_callB call_isi (by rfl) T.n_isinstance (by decide +kernel) (pa_cons (pv 1) (pa_cons (pe_bltn (v := .ty "tuple") (by rfl) T.n_tuple (by decide +kernel) rfl) pa_nil))) (pe_and (pe_cmpR op_eq (pe_callB call_len_seq (by rfl) T.n_len (by decide +kernel) (pa_cons (pv 1) pa_nil)) pe_int (nomark _)) (pe_one (pe_cmpR (op_eqD hr.units) (pe_ix ix_tup (pv 1) pe_int (fun _ _ => rfl)) pe_str (nomark _)))))) 
    (C8.pss_cut (ps_if (PW.pt (pw_and (pt_not (pt_truth (pv 2) (by intro _; rfl))) (pw_and1 (pt_not (PW.pt (pw_and (pt_val (pe_call G__has_kind (hr.mono (by decide)) (by rfl) T.g__has_kind T.F__has_kind.kp T.b__has_kind .nil pass0 (pa_cons (pv 1) (pa_cons pe_str pa_nil)))) (pw_and1 (pt_val (pe_call G__are_letters (hr.mono (by decide)) (by rfl) T.g__are_letters T.F__are_letters.kp T.b__are_letters .nil pass0 (pa_cons (pe_ix ix_tup (pv 1) pe_int (fun _ _ => rfl)) pa_nil)))))))))) 
      (pss_one (ps_ret pe_bl)) pss_nil) 
    (pss_cons (ps_set (i := 3) sc_takes_consistent.nd rfl (.inr rfl) (pe_make C_Collector.mkr G_Collector___init__ (hr.mono (by decide)) rfl C_Collector.gC C_Collector.b___init__ .nil pass0 (pa_cons (pv 0) pa_nil))) 
    (pss_cons (ps_set (i := 4) sc_takes_consistent.nd rfl (.inr rfl) (pe_op Own.op_repB (pe_tup (pa_cons pe_int pa_nil)) (pe_fld (pv 0) rfl))) 
    (pss_cons (ps_setLc (i := 5) (own := [("word", 6), ("one", 7), ("two", 8)]) (g := gTup K 3 (gCons (gName 6) (gCons (gName 7) (gCons (gName 8) gNil)))) rfl sc_takes_consistent.nd rfl rfl (sw_true rfl rfl rfl (by decide +kernel)) (pi_tup (pe_call G_overlaps (hr.mono (by decide)) (by rfl) T.g_overlaps T.F_overlaps.kp T.b_overlaps .nil pass0 (pa_cons (pv 0) pa_nil))) (blkOk_by (N := N_takes_consistent) (sc := defScope s_takes_consistent) (own := [("word", 6), ("one", 7), ("two", 8)]) (by decide +kernel)) (fun _ _ _ _ _ => by exact (pg_tup rfl (pgs_cons (pg_name (i := 6) sc_takes_consistent.nd rfl (.inl rfl)) (pgs_cons (pg_name (i := 7) sc_takes_consistent.nd rfl (.inl rfl)) (pgs_cons (pg_name (i := 8) sc_takes_consistent.nd rfl (.inl rfl)) pgs_nil))))) (fun _ _ _ _ _ => (pts_one (pt_cmpR (show OpR _ _ (rNeD K) from op_neD hr.units) (pe_meth (pv 3) C_Collector.cl C_Collector.m_behind G_Collector_behind (hr.mono (by decide)) C_Collector.b_behind .nil pass0 (pa_cons (pv 4) (pa_cons (pv 7) pa_nil))) (pe_meth (pv 3) C_Collector.cl C_Collector.m_behind G_Collector_behind (hr.mono (by decide)) C_Collector.b_behind .nil pass0 (pa_cons (pv 4) (pa_cons (pv 8) pa_nil))) (nomark _)))) (fun _ _ _ _ _ => (pv 6))) 
    (pss_one (ps_ret (pe_ifExp (pt_truth (pv 2) (by intro _; rfl)) (pe_notT (pv 5)) (pe_cmpR (op_inD (hu65 hr)) (pe_ix ix_tup (pv 1) pe_int (fun _ _ => rfl)) (pv 5) rfl))))))))), ?_⟩
    have hn := hV.n10
    -- full
    refine ⟨fun σ H' => H' = H ∧ σ = [some (.ref pr), some v, some (.bl (fullB f)), none, none, none, none, none, none], ?_, ?_⟩
    · cases f with
      | no =>
        rcases hf with ⟨i, h⟩ | ⟨a, us, rfl, hS, h1, h2⟩
        · obtain ⟨ty, t1, t2⟩ := h.isT
          exact ⟨_, rfl, _, _, _, _, false, rfl, .ty "tuple", t1, t2, false, rfl, iteB rfl ⟨rfl, rfl⟩⟩
        · obtain ⟨ty, t1, t2⟩ := (Kd.tup hS).isT
          have e2 : decide (V.int (us.length : Int) = V.int 1) = false := decide_eq_false fun z => h1 (by have := V.int.inj z; omega)
          exact ⟨_, rfl, _, _, _, _, true, rfl, .ty "tuple", t1, t2, true, rfl, iteA rfl ⟨_, rfl, a, us, rfl, .inr hS, rfl, _, rfl, iteB e2 ⟨rfl, rfl⟩⟩⟩
      | one d0 =>
        obtain ⟨a, u, rfl, hS, rfl, hs⟩ := hf
        obtain ⟨ty, t1, t2⟩ := (Kd.tup hS).isT
        exact ⟨_, rfl, _, _, _, _, true, rfl, .ty "tuple", t1, t2, true, rfl, iteA rfl ⟨_, rfl, a, _, rfl, .inr hS, rfl, _, rfl, iteA (decide_eq_true rfl) ⟨_, rfl, a, _, 0, _, rfl, rfl, hS, atI_nat (j := 0) rfl, _, _, .str _, .str _, hs, by decide +kernel, rfl, rfl⟩⟩⟩
      | two d0 w =>
        obtain ⟨a, u, x, rfl, hS, rfl, hs, hw⟩ := hf
        obtain ⟨ty, t1, t2⟩ := (Kd.tup hS).isT
        have e2 : decide (V.int (([V.str d0, x] : List V).length : Int) = V.int 1) = false := decide_eq_false fun z => absurd (V.int.inj z : ((2 : Nat) : Int) = 1) (by decide)
        exact ⟨_, rfl, _, _, _, _, true, rfl, .ty "tuple", t1, t2, true, rfl, iteA rfl ⟨_, rfl, a, _, rfl, .inr hS, rfl, _, rfl, iteB e2 ⟨rfl, rfl⟩⟩⟩
    rintro σ H' ⟨rfl, rfl⟩
    -- the guard
    have q0 : fullB f = false → overB f = false → takC t f = false := fun h1 h2 => by
      cases f with
      | no => rfl
      | one d0 =>
        have h1 : PyData.eqv (.str d0) (.str "consistent") = false := h1
        show (PyData.eqv (.str d0) (.str "consistent") && _) = false
        rw [h1, Bool.false_and]
      | two d0 w =>
        cases w with
        | none => rfl
        | some ds =>
          have h2 : (PyData.eqv (.str d0) (.str "overlap") && ds.all isIntD) = false := h2
          show (PyData.eqv (.str d0) (.str "overlap") && (ds.all isIntD && _)) = false
          rw [← Bool.and_assoc, h2, Bool.false_and]
    refine ⟨fun σ H1 => Same H' H1 ∧ (fullB f = true ∨ overB f = true) ∧ σ = [some (.ref pr), some v, some (.bl (fullB f)), none, none, none, none, none, none], ?_, ?_⟩
    · refine ⟨_, rfl, fullB f, rfl, ?_⟩
      cases hfb : fullB f with
      | true => exact iteF ⟨Same.refl _, .inl rfl, rfl⟩
      | false =>
        refine iteT ⟨_, rfl, v, f, "overlap", rfl, hf, by decide +kernel, ?_⟩
        cases f with
        | no => exact ⟨false, rfl, iteB rfl (iteT (by have := q H' (Same.refl _); rw [q0 hfb rfl] at this; exact this))⟩
        | one d0 => exact ⟨false, rfl, iteB rfl (iteT (by have := q H' (Same.refl _); rw [q0 hfb rfl] at this; exact this))⟩
        | two d0 w =>
          refine ⟨_, rfl, ?_⟩
          obtain ⟨a, u, x, rfl, hS, rfl, hs, hw⟩ := id hf
          have ov : overB (.two d0 w) = (PyData.eqv (.str d0) (.str "overlap") && letB w) := rfl
          have kd : kindB "overlap" (.two d0 w) = PyData.eqv (.str d0) (.str "overlap") := rfl
          rw [kd]
          cases hk : PyData.eqv (.str d0) (.str "overlap") with
          | false => exact iteB rfl (iteT (by have := q H' (Same.refl _); rw [q0 hfb (by rw [ov, hk, Bool.false_and])] at this; exact this))
          | true =>
            refine iteA rfl ⟨_, rfl, a, _, 1, _, rfl, rfl, hS, atI_nat (j := 1) rfl, x, w, rfl, hw, fun H2 s2 => ⟨_, rfl, ?_⟩⟩
            cases hlb : letB w with
            | false => exact iteT (by have := q H2 s2; rw [q0 hfb (by rw [ov, hlb, Bool.and_false])] at this; exact this)
            | true => exact iteF ⟨s2, .inr (by rw [ov, hk, hlb]; rfl), rfl⟩
    rintro σ H1 ⟨s1, hcase, rfl⟩
    replace q : ∀ H2, Same H1 H2 → Q (.bl (takC t f)) H2 := fun H2 s2 => q H2 (s1.trans s2)
    replace hf := hf.mono s1
    replace hPT := hPT.mono s1
    clear s1 q0
    obtain ⟨pa, pb, pc, us0, vs0, ⟨dp, ep⟩, _⟩ := id hPT
    have fF := pFs_get (.ref pa) (.ref pb) (.ref pc) t.ps
    refine ⟨_, rfl, fun c dx nc ndx hne => ?_⟩
    have s0 : Same H1 (upd (upd H1 dx (.own c)) c (.ins C_Collector.C dx [])) := (same_new ndx).trans (same_new (by rw [upd_ne (Ne.symm hne)]; exact nc))
    refine ⟨c, dx, pr, t, rfl, upd_same, hPT.mono s0, hV, fun H2 S sx hC hS => ⟨rfl, ?_⟩⟩
    have s2 : Same H1 H2 := fun b o hb => sx b o (ne_of_none hb nc) (s0 _ _ hb)
    refine ⟨by show 1 ≤ sizeLine; decide, fun zt nzt => ?_⟩
    have s3 := same_new (o := .tup [V.int 0]) nzt
    refine ⟨_, rfl, pr, _, dp, _, _, rfl, s3 _ _ (s2 _ _ ep), C_Presentation.cl, C_Presentation.n_n, fF.1, repB_q (K := K) upd_same (by omega) (by omega) fun z0 H4 s4 ez => ?_⟩
    rw [Int.toNat_natCast] at ez
    have ez : RS K H4 (.ref z0) (zeroR t.ps.length) := ⟨z0, rfl, by
      unfold zeroR
      rw [List.map_replicate]
      exact ez⟩
    have s34 := s3.trans s4
    -- the overlaps that fail
    refine ⟨_, rfl, pr, t, rfl, hPT.mono (s2.trans s34), hV, hn5, fun z us H5 s5 ez5 hP5 => ?_⟩
    have s35 := s34.trans s5
    have hC5 := hC.mono s35
    have hx5 := hC5.exts
    have ez0 := rs_tps (Tps.of s5) ez
    have hul := Paired.length hP5
    have hol := ovT_len5 hn5
    refine ⟨z, rfl, ⟨_, .inl (.inl ez5)⟩, fun D nD => ?_⟩
    refine lc_it (walk_tup (xs := us)) (fun i H6 => SameS S H5 H6 ∧ ClAt P w K C_Collector.C H6 c t S ∧ ∃ acc, H6 D = some (.lst acc) ∧ acc.length ≤ i ∧ i ≤ us.length ∧ Paired (fun v o => WT K H6 v o.1) acc (((ovT t).take i).filter (badOv t)))
      ⟨Same.s (same_new nD), hC5.mono (same_new nD), [], upd_same, Nat.le_refl _, Nat.zero_le _, .nil⟩ (fun i H6 _ h => Tps.s h.1 hx5 _ _ (.inl (.inl ez5))) (fun i y H6 H6' hi hI hY => ?_) (fun H6 hI => ?_)
    · obtain ⟨rfl, hk⟩ := hY
      obtain ⟨e, hC6, acc, eD, hal, _, hPa⟩ := hI
      obtain ⟨o, eo, q0, wa, wb, wc, rfl, h0, ha, hb, hc⟩ := paired_get hP5 hk
      obtain ⟨⟨k1, l1⟩, ⟨k2, l2⟩, ⟨k3, l3⟩⟩ := ovT_ok hV o (List.mem_of_getElem? eo)
      have tp6 := Tps.s (K := K) e hx5
      refine ⟨q0, _, rfl, tp6 _ _ h0, rfl, _, _, rfl, _, _, rfl, _, [], rfl, rfl, rfl, ?_⟩
      obtain ⟨dc, a, wl, pl, cl, wvs, ec, _⟩ := id hC6.ob
      refine ⟨_, rfl, c, dc, _, rfl, ec, (cFs_no _ _ _ _).1, ?_⟩
      refine ⟨_, rfl, _, rfl, c, .ref z0, .ref wb, t, S, zeroR t.ps.length, o.2.1, rfl, hC6, hV, rs_tps tp6 ez0, blz hV, ⟨wb, rfl, .inr (tp6 _ _ hb)⟩, by omega, fun m hm => ⟨k2 m hm, by omega⟩, fun z7 H7 e7 hC7 hz7 => ?_⟩
      have e57 := e.trans e7
      have tp7 := Tps.s (K := K) e57 hx5
      obtain ⟨dc, a, wl, pl, cl, wvs, ec, _⟩ := id hC7.ob
      refine ⟨_, rfl, c, dc, _, rfl, ec, (cFs_no _ _ _ _).1, ?_⟩
      refine ⟨_, rfl, _, rfl, c, .ref z0, .ref wc, t, S, zeroR t.ps.length, o.2.2, rfl, hC7, hV, rs_tps tp7 ez0, blz hV, ⟨wc, rfl, .inr (tp7 _ _ hc)⟩, by omega, fun m hm => ⟨k3 m hm, by omega⟩, fun z8 H8 e8 hC8 hz8 => ?_⟩
      have e58 := e57.trans e8
      have e68 := e7.trans e8
      obtain ⟨D1, D2⟩ := rs_d (rs_tps (Tps.s e8 hC7.exts) hz7)
      obtain ⟨D3, D4⟩ := rs_d hz8
      refine ⟨_, _, D1, D3, D2, D4, _, rfl, ?_⟩
      rw [eqv_dInts]
      have eD8 := keep_s e68 hC6.exts eD (fun _ z => nomatch z)
      have tp68 := Tps.s (K := K) e68 hC6.exts
      have hPa8 : Paired (fun v o => WT K H8 v o.1) acc (((ovT t).take i).filter (badOv t)) := paired_via (fun _ _ h => let ⟨x, e, k⟩ := h; ⟨x, e, tp68 _ _ k⟩) hPa
      have more : ((ovT t).take (i + 1)).filter (badOv t) = ((ovT t).take i).filter (badOv t) ++ (if badOv t o = true then [o] else []) := by
        rw [List.take_add_one, eo, List.filter_append]
        congr 1
        by_cases cb : badOv t o = true
        · rw [if_pos cb]
          show List.filter (badOv t) [o] = [o]
          rw [List.filter_cons_of_pos cb, List.filter_nil]
        · rw [if_neg cb]
          show List.filter (badOv t) [o] = []
          rw [List.filter_cons_of_neg cb, List.filter_nil]
      by_cases cb : badOv t o = true
      · refine iteA cb ⟨_, rfl, acc, eD8, small2000 (by omega), ?_⟩
        have tp9 := Tps.x (K := K) (SameX.put (u := .lst (acc ++ [V.ref wa]))) eD8
        refine ⟨put_s e58 nD _, hC5.keep (put_s e58 nD _) fun k d ed => (hC8.ds k d ed).keep tp9 fun oo hoo => ?_, acc ++ [.ref wa], upd_same, by rw [List.length_append]; show acc.length + 1 ≤ i + 1; omega, hi, ?_⟩
        · obtain ⟨φ, ex⟩ := (hC8.ds k d ed).ext
          rw [upd_ne (fun z => by rw [z, eD8] at ex; cases ex)]
          exact hoo
        · rw [more, if_pos cb]
          exact paired_app (paired_via (fun _ _ h => let ⟨x, e, k⟩ := h; ⟨x, e, tp9 _ _ k⟩) hPa8) (.cons ⟨wa, rfl, tp9 _ _ (Tps.s e58 hx5 _ _ ha)⟩ .nil)
      · have cb : badOv t o = false := by simpa using cb
        refine iteB cb ⟨e58, hC8, acc, eD8, by omega, hi, ?_⟩
        rw [more, cb, if_neg Bool.false_ne_true, List.append_nil]
        exact hPa8
    · obtain ⟨e, hC6, acc, eD, hal, _, hPa⟩ := hI
      rw [hul, List.take_length] at hPa
      have hPa : Paired (fun v o => WT K H6 v o.1) acc (fails t) := hPa
      have sA : Same H1 H6 := new_same nc ndx sx hS ((Same.s s35).trans e)
      have hf6 := hf.mono sA
      have hq := q H6 sA
      refine ⟨_, rfl, fullB f, rfl, ?_⟩
      have hlen := Paired.length hPa
      have hemp : acc.isEmpty = (fails t).isEmpty := by
        cases acc with
        | nil =>
          have : (fails t) = [] := List.eq_nil_of_length_eq_zero hlen.symm
          rw [this]
          rfl
        | cons a acc =>
          cases hF : fails t with
          | nil => rw [hF] at hlen; cases hlen
          | cons o L => rfl
      cases hfb : fullB f with
      | true =>
        refine iteA rfl ⟨_, rfl, !acc.isEmpty, .inl ⟨acc, .inl (.inl eD), rfl⟩, ?_⟩
        cases f with
        | no => cases hfb
        | two d0 w => cases hfb
        | one d0 =>
          have hfb : PyData.eqv (.str d0) (.str "consistent") = true := hfb
          have hq : Q (.bl (PyData.eqv (.str d0) (.str "consistent") && (fails t).isEmpty)) H6 := hq
          rw [hfb, Bool.true_and, ← hemp] at hq
          rw [Bool.not_not]
          exact hq
      | false =>
        refine iteB rfl ?_
        have hov : overB f = true := by
          rcases hcase with h | h
          · rw [hfb] at h
            cases h
          · exact h
        cases f with
        | no => cases hov
        | one d0 => cases hov
        | two d0 w =>
          cases w with
          | none =>
            have hov : (PyData.eqv (.str d0) (.str "overlap") && false) = true := hov
            rw [Bool.and_false] at hov
            cases hov
          | some ds =>
            have hov : (PyData.eqv (.str d0) (.str "overlap") && ds.all isIntD) = true := hov
            have hq : Q (.bl (PyData.eqv (.str d0) (.str "overlap") && (ds.all isIntD && (fails t).any fun o => PyData.eqv (dW o.1) (.tuple ds)))) H6 := hq
            rw [← Bool.and_assoc, hov, Bool.true_and] at hq
            obtain ⟨a, u, x, rfl, hS, rfl, hs, b, xs, rfl, hSb, hPb, _⟩ := hf6
            have esh : SeqAt.shaped (.list ((fails t).map fun o : Ov => dW o.1)) = true := by
              have := shaped_words ((fails t).map (·.1))
              rw [List.map_map] at this
              exact this
            refine ⟨_, rfl, a, _, 1, _, rfl, rfl, hS, atI_nat (j := 1) rfl, _, rfl, .tuple ds, (fails t).map fun o : Ov => dW o.1, .tup hSb (atom_dp hPb), .lst (.inl (.inl eD)) (wts_dp hPa), atoms_shaped hPb, esh, ?_⟩
            rw [List.any_map]
            exact hq
def spCPap (K : PySem.W.Frag) (CP : Addr) : Sp := fun vs H Q _ => ∃ (pr : Addr) (t : Tb), vs = [.ref pr] ∧ PTb K CP H pr t ∧ Vd t ∧ t.ps.length ≤ 5 ∧
  ∀ a H', Same H H' → ((failO t = none ∧ SqT K H' a [.str "consistent"]) ∨ ∃ o b, failO t = some o ∧ SqT K H' a [.str "overlap", .ref b] ∧ SqT K H' b (wV o.1)) → Q (.ref a) H'
theorem ok_cpap (C_Presentation : ClPresentation K mg) (C_Collector : ClCollector K mg) (T : Txt K mg) : FnOk P w K mg base CX0 34 T.a_consistency_paper T.d_consistency_paper ["presentation"] (spCPap K C_Presentation.C) := by
  have G_failing_overlap : FnOk P w K mg base CX0 33 T.a_failing_overlap T.d_failing_overlap ["presentation"] (spFail K C_Presentation.C) := ok_fail C_Presentation C_Collector T
  refine T.F_consistency_paper.ok sc_consistency_paper (fun vs H Q E h => ?_) (fun cdv A outer s H vs Q E hr h => ?_)
  · obtain ⟨pr, t, rfl, _⟩ := h
    rfl
  · obtain ⟨pr, t, rfl, hPT, hV, hn5, q⟩ := h
    refine ⟨_, (pss_cons (ps_set (i := 1) sc_consistency_paper.nd rfl (.inl rfl) (pe_call G_failing_overlap (hr.mono (by decide)) (by rfl) T.g_failing_overlap T.F_failing_overlap.kp T.b_failing_overlap .nil pass0 (pa_cons (pv 0) pa_nil))) 
    (pss_cons (ps_if (pt_cmpR op_isN (pv 1) pe_non (nomark _)) 
      (pss_one (ps_ret (pe_tup (pa_cons pe_str pa_nil)))) pss_nil) 
    (pss_one (ps_ret (pe_tup (pa_cons pe_str (pa_cons (pv 1) pa_nil))))))), ?_⟩
    refine ⟨_, rfl, pr, t, rfl, hPT, hV, hn5, fun H1 s1 e => ?_, fun o a H1 s1 e ha => ?_⟩
    · refine ⟨_, rfl, rfl, _, rfl, iteA rfl ⟨by show 1 ≤ sizeLine; decide, fun x nx => ?_⟩⟩
      exact q x _ (s1.trans (same_new nx)) (.inl ⟨e, .inl (.inl upd_same)⟩)
    · refine ⟨_, rfl, rfl, _, rfl, iteB rfl ⟨_, rfl, by show 2 ≤ sizeLine; decide, fun x nx => ?_⟩⟩
      exact q x _ (s1.trans (same_new nx)) (.inr ⟨o, a, e, .inl (.inl upd_same), Own.same_tup (same_new nx) ha⟩)
/-! ### what stands while a law runs: the state, the table, its presentation, the known steps -/
structure W08 (P : Program) (w : World) (K : PySem.W.Frag) (CP : Addr) (H : Hp) (st own kn : Addr) (z : V) (t : Tb) : Prop where
  ss : StA H st
  tb : TbAt K H z t
  pt : PTb K CP H own t
  kn : KnOK P w K H kn t
section
variable {CP st own kn : Addr} {z : V} {t : Tb} {H H' : Hp}
theorem PTb.ins {CP : Addr} {H : Hp} {pr : Addr} {t : Tb} (h : PTb K CP H pr t) : ∃ dx fs, H pr = some (.ins CP dx fs) := by
  obtain ⟨a, b, c, us, vs, ⟨dx, h1⟩, _⟩ := h
  exact ⟨dx, _, h1⟩
theorem W08.mono (h : W08 P w K CP H st own kn z t) (s : Same H H') : W08 P w K CP H' st own kn z t := by
  obtain ⟨s1, t1, e⟩ := h.ss
  exact ⟨⟨s1, t1, s _ _ e⟩, h.tb.tps (Tps.of s), h.pt.mono s, h.kn.mono s⟩
/-- the state alone changes -/
theorem W08.x (h : W08 P w K CP H st own kn z t) (sx : SameX st H H') (hs : StA H' st) : W08 P w K CP H' st own kn z t := by
  obtain ⟨s1, t1, e⟩ := h.ss
  have tp := Tps.x (K := K) sx e
  obtain ⟨dx, fs, ei⟩ := h.pt.ins
  obtain ⟨φ, ek⟩ := h.kn.ext
  exact ⟨hs, h.tb.tps tp, h.pt.keep tp fun o ho => sx _ _ (fun z => by rw [z, e] at ei; cases ei) ho, h.kn.tps tp fun o ho => sx _ _ (fun z => by rw [z, e] at ek; cases ek) ho⟩
theorem W08.draw (h : W08 P w K CP H st own kn z t) {s2 t2 : Int} : W08 P w K CP (upd H st (.lst [.int s2, .int t2])) st own kn z t := h.x SameX.put ⟨s2, t2, upd_same⟩
/-- steps -/
theorem W08.go (h : W08 P w K CP H st own kn z t) (g : Go P w K kn t H H') : W08 P w K CP H' st own kn z t := by
  obtain ⟨s1, t1, e⟩ := h.ss
  obtain ⟨dx, fs, ei⟩ := h.pt.ins
  obtain ⟨φ, ek⟩ := h.kn.ext
  exact ⟨⟨s1, t1, g.sx _ _ (fun z => by rw [z, ek] at e; cases e) e⟩, h.tb.tps g.tp, h.pt.keep g.tp fun o ho => g.sx _ _ (fun z => by rw [z, ek] at ei; cases ei) ho, g.ok⟩
end
section
variable {CP st own kn l : Addr} {us ys : List V} {z : V} {t : Tb} {H : Hp}
/-- a list other than the state is changed -/
theorem W08.putL (h : W08 P w K CP H st own kn z t) (e : H l = some (.lst us)) (ne : l ≠ st) : W08 P w K CP (upd H l (.lst ys)) st own kn z t := by
  obtain ⟨s1, t1, es⟩ := h.ss
  have tp := Tps.x (K := K) (SameX.put (u := .lst ys)) e
  obtain ⟨dx, fs, ei⟩ := h.pt.ins
  obtain ⟨φ, ek⟩ := h.kn.ext
  exact ⟨⟨s1, t1, by rw [upd_ne ne.symm]; exact es⟩, h.tb.tps tp, h.pt.keep tp fun o ho => by rw [upd_ne (fun z => by rw [z, e] at ei; cases ei)]; exact ho, h.kn.tps tp fun o ho => by rw [upd_ne (fun z => by rw [z, e] at ek; cases ek)]; exact ho⟩
end
/-- the word of an overlap -/
def WO (K : PySem.W.Frag) (H : Hp) (v : V) (o : Ov) : Prop := WT K H v o.1
theorem WO.tps {H H' : Hp} (tp : Tps K H H') {v : V} {o : Ov} (h : WO K H v o) : WO K H' v o := let ⟨x, e, k⟩ := h; ⟨x, e, tp _ _ k⟩
theorem WO.dps {H : Hp} : ∀ {us : List V} {L : List Ov}, Paired (WO K H) us L → DpAll K H us (L.map fun o : Ov => dW o.1)
  | _, _, .nil => .nil
  | _, _, .cons h t => .cons (wt_dp h) (WO.dps t)
theorem take_more {t : Tb} {i : Nat} {o : Ov} (eo : (ovT t)[i]? = some o) : ((ovT t).take (i + 1)).filter (badOv t) = ((ovT t).take i).filter (badOv t) ++ (if badOv t o = true then [o] else []) := by
  rw [List.take_add_one, eo, List.filter_append]
  congr 1
  by_cases cb : badOv t o = true
  · rw [if_pos cb]
    show List.filter (badOv t) [o] = [o]
    rw [List.filter_cons_of_pos cb, List.filter_nil]
  · rw [if_neg cb]
    show List.filter (badOv t) [o] = []
    rw [List.filter_cons_of_neg cb, List.filter_nil]
/-! ### what an expression gives, told as a paper -/
def EvF (K : PySem.W.Frag) (H0 : Hp) (te : TE) (σ : L2.St) (f : Pf) : Prop := ∀ (H : Hp) (Q : VK), Same H0 H → (∀ v H', Same H H' → PfAt K H' v f → Q v H') → te σ H Q
def EvW (K : PySem.W.Frag) (H0 : Hp) (te : TE) (σ : L2.St) (w : Option (List PyData)) : Prop := ∀ (H : Hp) (Q : VK), Same H0 H → (∀ v H', Same H H' → WtAt K H' v w → Q v H') → te σ H Q
def EvFs (K : PySem.W.Frag) (H0 : Hp) (ta : TA) (σ : L2.St) (fs : List Pf) : Prop := ∀ (H : Hp) (Q : List V → Hp → Prop), Same H0 H → (∀ vs H', Same H H' → Paired (PfAt K H') vs fs → Q vs H') → ta σ H Q
section
variable {H0 : Hp} {σ : L2.St} {te : TE} {ta : TA} {f : Pf} {fs : List Pf} {w : Option (List PyData)} {s : Str}
theorem fs_mono {H H' : Hp} (e : Same H H') : ∀ {us : List V} {fs : List Pf}, Paired (PfAt K H) us fs → Paired (PfAt K H') us fs
  | _, _, .nil => .nil
  | _, _, .cons h t => .cons (h.mono e) (fs_mono e t)
theorem f_nil : EvFs K H0 tNil σ [] := fun H Q s q => q [] H (Same.refl H) .nil
theorem f_cons (h : EvF K H0 te σ f) (k : EvFs K H0 ta σ fs) : EvFs K H0 (tCons te ta) σ (f :: fs) := fun H Q s q => h H _ s fun v H1 s1 hv => k H1 _ (s.trans s1) fun vs H2 s2 hs => q (v :: vs) H2 (s1.trans s2) (.cons (hv.mono s2) hs)
theorem f_one (hs : SeqAt.shaped (.str s) = true) : EvF K H0 (tTup (tCons (tC (.str s)) tNil)) σ (.one s) := fun H Q _ q => ⟨by show 1 ≤ sizeLine; decide, fun t nt => q _ _ (same_new nt) ⟨t, _, rfl, .inl (.inl upd_same), rfl, hs⟩⟩
theorem f_two (hs : SeqAt.shaped (.str s) = true) (h : EvW K H0 te σ w) : EvF K H0 (tTup (tCons (tC (.str s)) (tCons te tNil))) σ (.two s w) := fun H Q s0 q => h H _ s0 fun v H1 s1 hv => ⟨by show 2 ≤ sizeLine; decide, fun t nt => q _ _ (s1.trans (same_new nt)) ⟨t, _, v, rfl, .inl (.inl upd_same), rfl, hs, hv.mono (same_new nt)⟩⟩
theorem f_three {i : Nat} {v : V} {c : Int} (hv : σ[i]? = some (some v)) : EvF K H0 (tTup (tCons (tC (.str s)) (tCons (tVar i) (tCons (tC (.int c)) tNil)))) σ .no := fun H Q _ q => ⟨_, hv, by show 3 ≤ sizeLine; decide, fun t nt => q _ _ (same_new nt) (.inr ⟨t, _, rfl, .inl (.inl upd_same), by show 3 ≠ 1; decide, by show 3 ≠ 2; decide⟩)⟩
theorem f_lst1 : EvF K H0 (tLst (tCons (tC (.str s)) tNil)) σ .no := fun H Q _ q => ⟨by show 1 ≤ sizeLine; decide, fun t nt => q _ _ (same_new nt) (.inl ⟨_, .lst upd_same⟩)⟩
theorem f_lst2 {i : Nat} {v : V} (hv : σ[i]? = some (some v)) : EvF K H0 (tLst (tCons (tC (.str s)) (tCons (tVar i) tNil))) σ .no := fun H Q _ q => ⟨_, hv, by show 2 ≤ sizeLine; decide, fun t nt => q _ _ (same_new nt) (.inl ⟨_, .lst upd_same⟩)⟩
theorem f_non : EvF K H0 (tC .non) σ .no := fun H Q _ q => q _ H (Same.refl H) (.inl ⟨_, .non⟩)
theorem f_str : EvF K H0 (tC (.str s)) σ .no := fun H Q _ q => q _ H (Same.refl H) (.inl ⟨_, .str s⟩)
theorem f_unit : EvF K H0 (tTup tNil) σ .no := fun H Q _ q => ⟨Nat.zero_le _, fun t nt => q _ _ (same_new nt) (.inr ⟨t, _, rfl, .inl (.inl upd_same), by show 0 ≠ 1; decide, by show 0 ≠ 2; decide⟩)⟩
theorem atoms_ints : ∀ ns : List Int, Paired AtomP (ns.map V.int) (ns.map PyData.int)
  | [] => .nil
  | n :: ns => .cons (.inl ⟨n, rfl, rfl⟩) (atoms_ints ns)
theorem w_unit : EvW K H0 (tTup tNil) σ (some []) := fun H Q _ q => ⟨Nat.zero_le _, fun t nt => q _ _ (same_new nt) ⟨t, [], rfl, .inl (.inl upd_same), .nil, Nat.zero_le _⟩⟩
theorem w_int {i : Int} : EvW K H0 (tC (.int i)) σ none := fun H Q _ q => q _ H (Same.refl H) ⟨_, .int i⟩
theorem w_two {i j : Int} : EvW K H0 (tTup (tCons (tC (.int i)) (tCons (tC (.int j)) tNil))) σ (some [.int i, .int j]) := fun H Q _ q => ⟨by show 2 ≤ sizeLine; decide, fun t nt => q _ _ (same_new nt) ⟨t, _, rfl, .inl (.inl upd_same), atoms_ints [i, j], by show 2 ≤ 1000; decide⟩⟩
theorem w_var {i : Nat} {v : V} (hv : σ[i]? = some (some v)) (h : WtAt K H0 v w) : EvW K H0 (tVar i) σ w := fun H Q s q => ⟨_, hv, q _ H (Same.refl H) (h.mono s)⟩
section
variable {i : Nat} {a : Addr} {ns : List Int} (hv : σ[i]? = some (some (.ref a))) (h : SqT K H0 a (ns.map V.int)) (hl : ns.length ≤ 900)
include hv h hl
theorem w_list : EvW K H0 (tCB (rLstK K) (tCons (tVar i) tNil)) σ none := fun H Q s q => ⟨_, hv, a, _, rfl, .inr (Own.same_tup s h), fun t nt => q _ _ (same_new nt) ⟨_, .lst upd_same⟩⟩
theorem w_drop : EvW K H0 (tSl (rSlA K) (tVar i) (tPart (tC (.int 1))) tNoPart) σ (some ((ns.drop 1).map PyData.int)) := fun H Q s q => ⟨_, hv, (1 : Int), rfl, by
  unfold tNoPart
  refine slA_q (lo := some (1 : Int)) (hi := none) (Own.same_tup s h) fun t H1 s1 h1 => ?_
  rw [cut_tail, ← List.map_drop] at h1
  exact q _ H1 s1 ⟨t, _, rfl, h1, atoms_ints _, by rw [List.length_map, List.length_drop]; omega⟩⟩
theorem w_cat : EvW K H0 (tOp (rCatA K) (tVar i) (tSl (rSlA K) (tVar i) tNoPart (tPart (tC (.int 1))))) σ (some ((ns ++ ns.take 1).map PyData.int)) := fun H Q s q => ⟨_, hv, _, hv, (1 : Int), rfl, by
  refine slA_q (lo := none) (hi := some (1 : Int)) (Own.same_tup s h) fun t H1 s1 h1 => ?_
  have e1 : cutV (ns.map V.int) none (some (1 : Int)) = (ns.take 1).map V.int := by
    cases ns with
    | nil => rfl
    | cons n ns => rw [show (1 : Int) = ((1 : Nat) : Int) from rfl, cut_to (by rw [List.map_cons, List.length_cons]; omega), ← List.map_take]
  rw [e1] at h1
  refine catA_q (Own.same_tup (s.trans s1) h) h1 (by rw [List.length_map, List.length_map, List.length_take]; omega) fun t2 H2 s2 h2 => ?_
  rw [← List.map_append] at h2
  exact q _ H2 (s1.trans s2) ⟨t2, _, rfl, h2, atoms_ints _, by rw [List.length_map, List.length_append, List.length_take]; omega⟩⟩
end
theorem asg_forms {H : Hp} {g : TG} {D : Ends} (h : EvFs K H ta σ fs) (hl : fs.length ≤ 1000) (q : ∀ l vs H', Same H H' → H' l = some (.lst vs) → H l = none → Paired (PfAt K H') vs fs → g (.ref l) σ H' D.nx) : tAsg (tLst ta) g D σ H :=
  h H _ (Same.refl H) fun vs H1 s1 hI => ⟨Nat.le_of_lt (small2000 (by rw [Paired.length hI]; omega)), fun a na => q a vs _ (s1.trans (same_new na)) upd_same (by
    cases e : H a with
    | none => rfl
    | some o => rw [s1 _ _ e] at na; cases na) (fs_mono (same_new na) hI)⟩
end
/-- a list grows -/
theorem PfAt.put {H : Hp} {l : Addr} {us ys : List V} {v : V} {f : Pf} (e : H l = some (.lst us)) (h : PfAt K H v f) : PfAt K (upd H l (.lst ys)) v f := by
  have tp := Tps.x (K := K) (SameX.put (u := .lst ys)) e
  have kd : ∀ {v : V} {i : Bool}, Kd K H v i false → Kd K (upd H l (.lst ys)) v i false := fun {v i} h => by
    cases h with
    | int i => exact .int i
    | bl b => exact .bl b
    | non => exact .non
    | str s => exact .str s
    | @lst a xs ea =>
      by_cases c : a = l
      · subst c
        exact .lst upd_same
      · exact .lst (by rw [upd_ne c]; exact ea)
  have wt : ∀ {x : V} {w : Option (List PyData)}, WtAt K H x w → WtAt K (upd H l (.lst ys)) x w := fun {x w} h => by
    cases w with
    | none => exact let ⟨i, h⟩ := h; ⟨i, kd h⟩
    | some ds => exact let ⟨b, us, e, h1, h2⟩ := h; ⟨b, us, e, tp _ _ h1, h2⟩
  cases f with
  | no =>
    rcases h with ⟨i, h⟩ | ⟨a, us, e, h, h2⟩
    · exact .inl ⟨i, kd h⟩
    · exact .inr ⟨a, us, e, tp _ _ h, h2⟩
  | one d0 => exact let ⟨a, u, e, h1, h2, h3⟩ := h; ⟨a, u, e, tp _ _ h1, h2, h3⟩
  | two d0 w => exact let ⟨a, u, x, e, h1, h2, h3, h4⟩ := h; ⟨a, u, x, e, tp _ _ h1, h2, h3, wt h4⟩
theorem fs_put {H : Hp} {l : Addr} {us ys : List V} (e : H l = some (.lst us)) : ∀ {vs : List V} {fs : List Pf}, Paired (PfAt K H) vs fs → Paired (PfAt K (upd H l (.lst ys))) vs fs
  | _, _, .nil => .nil
  | _, _, .cons h t => .cons (h.put e) (fs_put e t)
def OkF : Pf → Prop
  | .one s => PyData.eqv (.str s) (.str "consistent") = false
  | _ => True
/-! ### comprehensions with a test -/
theorem lc_filt {α : Type} {J : It} {n : Nat} {G : Hp → Prop} {Y : Nat → Hp → V → Hp → Prop} (w : Walk J n G Y) {R : Hp → V → α → Prop} (S : Stable R) (h : Nat → Bool) (f : Nat → α) (hn : n ≤ 100000) {g : TG} {tt : L2.St → Hp → (Bool → Hp → Prop) → Prop} {te : TE} {vs : List Nat} {σ : L2.St} {H1 : Hp} {D : Addr} {Qd : Hp → Prop}
    (nD : H1 D = none) (hG : ∀ H, Same H1 H → G H)
    (hs : ∀ i x H H' (Q : VK) (N : Hp → Prop), i < n → Same H1 H → Y i H x H' → (h i = true → ∀ y H4, Same H H4 → R H4 y (f i) → Q y H4) → (h i = false → ∀ H4, Same H H4 → N H4) → g x (wipe σ vs) H' fun σ2 H2 => wipe σ2 vs = wipe σ vs ∧ tt σ2 H2 fun b H3 => if b = true then te σ2 H3 Q else N H3)
    (hd : ∀ H acc, Same H1 H → H D = some (.lst acc) → Paired (R H) acc (((List.range n).filter h).map f) → Qd H) :
    ∃ W : Nat → Nat → Hp → Prop, (∃ m, W 0 m (upd H1 D (.lst []))) ∧ ∀ i m H, W i m H →
      (J.stop i H ∧ Qd H) ∨ (J.go i H ∧ ∃ Nx : Hp → Prop, (∀ H', Nx H' → ∃ m', m' < m ∧ W (i + 1) m' H') ∧ ∀ x H', J.yld i H x H' → g x (wipe σ vs) H' fun σ2 H2 => wipe σ2 vs = wipe σ vs ∧ tt σ2 H2 fun b H3 =>
        if b = true then te σ2 H3 fun y H4 => ∃ acc, H4 D = some (.lst acc) ∧ acc.length < sizeLine ∧ Nx (upd H4 D (.lst (acc ++ [y]))) else Nx H3) := by
  have more : ∀ i, (List.range (i + 1)).filter h = (List.range i).filter h ++ (if h i = true then [i] else []) := fun i => by
    rw [List.range_succ, List.filter_append]
    congr 1
    by_cases e : h i = true
    · rw [if_pos e, List.filter_cons_of_pos e, List.filter_nil]
    · rw [if_neg e, List.filter_cons_of_neg e, List.filter_nil]
  refine lc_it w (fun i H => i ≤ n ∧ Same H1 H ∧ ∃ acc, H D = some (.lst acc) ∧ Paired (R H) acc (((List.range i).filter h).map f)) ⟨Nat.zero_le n, same_new nD, [], upd_same, .nil⟩ (fun i H _ k => hG H k.2.1) (fun i x H H' hi hP hY => ?_) (fun H hP => ?_)
  · obtain ⟨hin, sm, acc, eD, hp⟩ := hP
    have hlen : acc.length ≤ i := by
      rw [Paired.length hp, List.length_map]
      refine Nat.le_trans (List.length_filter_le _ _) ?_
      rw [List.length_range]
      exact Nat.le_refl i
    exact hs i x H H' (fun y H4 => ∃ acc, H4 D = some (.lst acc) ∧ acc.length < sizeLine ∧ (i + 1 ≤ n ∧ Same H1 (upd H4 D (.lst (acc ++ [y]))) ∧ ∃ acc2, (upd H4 D (.lst (acc ++ [y]))) D = some (.lst acc2) ∧ Paired (R (upd H4 D (.lst (acc ++ [y])))) acc2 (((List.range (i + 1)).filter h).map f))) (fun H4 => i + 1 ≤ n ∧ Same H1 H4 ∧ ∃ acc2, H4 D = some (.lst acc2) ∧ Paired (R H4) acc2 (((List.range (i + 1)).filter h).map f)) hi sm hY (fun e y H4 sm4 r => by
      have eD4 := sm4 _ _ eD
      refine ⟨acc, eD4, small2000 (by omega), hi, same_mut (sm.trans sm4) nD, _, upd_same, ?_⟩
      rw [more, if_pos e, List.map_append]
      exact S.allPut eD4 (paired_add (S.all sm4 hp) r)) (fun e H4 sm4 => by
      refine ⟨hi, sm.trans sm4, acc, sm4 _ _ eD, ?_⟩
      rw [more, if_neg (by rw [e]; exact Bool.false_ne_true), List.append_nil]
      exact S.all sm4 hp)
  · obtain ⟨_, sm, acc, eD, hp⟩ := hP
    exact hd H acc sm eD hp
def rLen (K : PySem.W.Frag) : List V → Hp → VK → Prop := fun xs H Q => ∃ p ys, xs = [.ref p] ∧ (SqL K H p ys ∨ SqT K H p ys) ∧ Q (.int (ys.length : Int)) H
theorem call_lenK {X : Cx} : CallR X (.builtin "len") (rLen X.K) := call_len_seq
/-! ### the law -/
def sp_law (K : PySem.W.Frag) : Sp := fun vs H Q _ => ∃ (a : Addr) (ns : List Int), vs = [.ref a] ∧ SqL K H a (ns.map V.int) ∧ ns.length ≤ 63 ∧ ∀ H', Q (.bl true) H'
/-- what stands behind the first loop -/
structure E57 (P : Program) (w : World) (K : PySem.W.Frag) (CP : Addr) (H : Hp) (st x kn x0 l5 l6 : Addr) (acc5 acc6 : List V) (t : Tb) : Prop where
  w : W08 P w K CP H st x kn (.ref x0) t
  e5 : H l5 = some (.lst acc5)
  e6 : H l6 = some (.lst acc6)
  p5 : Paired (WO K H) acc5 (ovT t)
  p6 : Paired (WO K H) acc6 (fails t)
section
variable {CP st x kn x0 l5 l6 : Addr} {acc5 acc6 : List V} {t : Tb} {H H' : Hp}
theorem E57.mono (h : E57 P w K CP H st x kn x0 l5 l6 acc5 acc6 t) (s : Same H H') : E57 P w K CP H' st x kn x0 l5 l6 acc5 acc6 t :=
  ⟨h.w.mono s, s _ _ h.e5, s _ _ h.e6, paired_via (fun _ _ => WO.tps (Tps.of s)) h.p5, paired_via (fun _ _ => WO.tps (Tps.of s)) h.p6⟩
theorem E57.put (h : E57 P w K CP H st x kn x0 l5 l6 acc5 acc6 t) {l : Addr} {us ys : List V} (e : H l = some (.lst us)) (n0 : l ≠ st) (n5 : l ≠ l5) (n6 : l ≠ l6) : E57 P w K CP (upd H l (.lst ys)) st x kn x0 l5 l6 acc5 acc6 t := by
  have tp := Tps.x (K := K) (SameX.put (u := .lst ys)) e
  exact ⟨h.w.putL e n0, by rw [upd_ne n5.symm]; exact h.e5, by rw [upd_ne n6.symm]; exact h.e6, paired_via (fun _ _ => WO.tps tp) h.p5, paired_via (fun _ _ => WO.tps tp) h.p6⟩
theorem E57.ne (h : E57 P w K CP H st x kn x0 l5 l6 acc5 acc6 t) {l : Addr} (n : H l = none) : l ≠ st ∧ l ≠ l5 ∧ l ≠ l6 := by
  obtain ⟨s1, t1, es⟩ := h.w.ss
  exact ⟨fun z => (by rw [z, es] at n; cases n), fun z => (by rw [z, h.e5] at n; cases n), fun z => (by rw [z, h.e6] at n; cases n)⟩
theorem E57.tak (h : E57 P w K CP H st x kn x0 l5 l6 acc5 acc6 t) (hV : Vd t) (hln : t.ps.length ≤ 5) {v : V} {f : Pf} (hf : PfAt K H v f) {Q : VK} (q : ∀ r H', r = V.bl (takC t f) → Same H H' → E57 P w K CP H' st x kn x0 l5 l6 acc5 acc6 t → Q r H') : spTakC K CP [.ref x, v] H Q E0 :=
  ⟨x, v, t, f, rfl, h.w.pt, hV, hln, hf, fun r H' e s => q r H' e s (h.mono s)⟩
end
theorem fails_head {t : Tb} : (fails t).head? = failO t := List.head?_filter
def nW (ws : List Nat) : List Int := ws.map fun m : Nat => (m : Int) + 1
theorem wV_nW (ws : List Nat) : wV ws = (nW ws).map V.int := by
  unfold wV nW
  rw [List.map_map]
  rfl
theorem dW_nW (ws : List Nat) : dW ws = .tuple ((nW ws).map PyData.int) := dW_ints ws
theorem sh_dW (ws : List Nat) : SeqAt.shaped (dW ws) = true := by
  rw [dW_ints]
  exact shaped_dInts _
theorem sh_over (ws : List Nat) : SeqAt.shaped (.tuple [.str "overlap", dW ws]) = true := by
  rw [dW_ints]
  have h1 := PySem.W.depthAll_ints (ws.map fun m : Nat => (m : Int) + 1)
  have h2 := PySem.W.canLayAll0_ints (ws.map fun m : Nat => (m : Int) + 1)
  show (PyData.canLay0 _ && decide (PyData.depth _ ≤ 64)) = true
  rw [Bool.and_eq_true]
  refine ⟨?_, decide_eq_true (by unfold dInts; simp only [PyData.depth, PyData.depthAll]; omega)⟩
  unfold dInts
  simp only [PyData.canLay0, PyData.canLayAll0, h2, Bool.and_true]
  decide +kernel
theorem eq_over (ws : List Nat) : PyData.eqv (.tuple [.str "overlap", dW ws]) (.tuple [.str "overlap", dW ws]) = true := by
  have h := eqv_dInts (ws.map fun m : Nat => (m : Int) + 1) (ws.map fun m : Nat => (m : Int) + 1)
  rw [decide_eq_true rfl] at h
  rw [dW_ints]
  simp only [PyData.eqv, PyData.eqvAll, h, Bool.and_true]
  decide +kernel
theorem all_ints : ∀ ns : List Int, (ns.map PyData.int).all isIntD = true
  | [] => rfl
  | n :: ns => by
    rw [List.map_cons, List.all_cons, all_ints ns]
    rfl
theorem tak_word {t : Tb} (ws : List Nat) : takC t (.two "overlap" (some ((nW ws).map PyData.int))) = ((fails t).map fun o : Ov => dW o.1).any fun z => PyData.eqv z (dW ws) := by
  show (PyData.eqv (.str "overlap") (.str "overlap") && (((nW ws).map PyData.int).all isIntD && (fails t).any fun o => PyData.eqv (dW o.1) (.tuple ((nW ws).map PyData.int)))) = _
  rw [all_ints, show PyData.eqv (.str "overlap") (.str "overlap") = true by decide +kernel, Bool.true_and, Bool.true_and, List.any_map, dW_nW]
  rfl
theorem tak_one {t : Tb} : takC t (.one "consistent") = (fails t).isEmpty := by
  show (PyData.eqv (.str "consistent") (.str "consistent") && (fails t).isEmpty) = _
  rw [show PyData.eqv (.str "consistent") (.str "consistent") = true by decide +kernel, Bool.true_and]
theorem sh_fails (t : Tb) : SeqAt.shaped (.list ((fails t).map fun o : Ov => dW o.1)) = true := by
  have := shaped_words ((fails t).map (·.1))
  rw [List.map_map] at this
  exact this
theorem len_dec {acc : List V} {t : Tb} {H : Hp} (h : Paired (WO K H) acc (fails t)) : decide (V.int (acc.length : Int) = V.int 0) = (fails t).isEmpty := by
  rw [Paired.length h]
  cases fails t with
  | nil => exact decide_eq_true rfl
  | cons o L => exact decide_eq_false fun z => absurd (V.int.inj z) (by rw [List.length_cons]; omega)
theorem filt_len' {α : Type} {d0 : α} (q : α → Bool) {L : List α} : ((List.range L.length).filter fun i => q (L.getD i d0)).length = (L.filter q).length := by
  have e : (List.range L.length).map (fun i => L.getD i d0) = L := map_range _ _ fun i x h => getD_some h
  conv => rhs; rw [← e, List.filter_map, List.length_map]
  rfl
theorem cut_one {xs : List V} : cutV xs none (some (1 : Int)) = xs.take 1 := by
  cases xs with
  | nil => rfl
  | cons n ns => rw [show (1 : Int) = ((1 : Nat) : Int) from rfl, cut_to (by rw [List.length_cons]; omega)]
theorem atoms_bools : ∀ bs : List Bool, Paired AtomP (bs.map V.bl) (bs.map PyData.bool)
  | [] => .nil
  | b :: bs => .cons (.inr ⟨b, rfl, rfl⟩) (atoms_bools bs)
/-- the paper that is due -/
def DueAt (K : PySem.W.Frag) (H : Hp) (dv : V) (t : Tb) : Prop := (fails t = [] ∧ ∃ a, dv = .ref a ∧ SqT K H a [.str "consistent"]) ∨ ∃ o L a b, fails t = o :: L ∧ dv = .ref a ∧ SqT K H a [.str "overlap", .ref b] ∧ SqT K H b (wV o.1)
theorem word_len {t : Tb} (hV : Vd t) {o : Ov} (h : o ∈ ovT t) : (nW o.1).length ≤ 900 := by
  obtain ⟨⟨_, m1⟩, _⟩ := ovT_ok hV o h
  unfold nW
  rw [List.length_map]
  omega
theorem ok_law (R : RefC K mg s_RI) (C_Malformed : ClMalformed K mg) (C_Presentation : ClPresentation K mg) (C_Collector : ClCollector K mg) (T : Txt K mg) : FnOk P w K mg base CX0 36 T.a_law T.d_law ["script"] (sp_law K) := by
  have G__law_state : FnOk P w K mg base CX0 1 T.a__law_state T.d__law_state ["script"] (spState K) := ok_state T
  have G__law_take : FnOk P w K mg base CX0 1 T.a__law_take T.d__law_take ["state", "m"] spTake := ok_take T
  have G__law_group : FnOk P w K mg base CX0 25 T.a__law_group T.d__law_group ["state", "most"] (spGroup K) := ok_group T
  have G__law_bent : FnOk P w K mg base CX0 2 T.a__law_bent T.d__law_bent ["state", "table"] (spBent K) := ok_bent T
  have G__law_overlaps : FnOk P w K mg base CX0 2 T.a__law_overlaps T.d__law_overlaps ["table"] _ := ok_lovs T
  have G__law_row_of : FnOk P w K mg base CX0 22 T.a__law_row_of T.d__law_row_of ["table", "known", "word"] (spWordRow P w K) := ok_wordrow T
  have G_consistency_paper : FnOk P w K mg base CX0 34 T.a_consistency_paper T.d_consistency_paper ["presentation"] (spCPap K C_Presentation.C) := ok_cpap C_Presentation C_Collector T
  have G_takes_consistent : FnOk P w K mg base CX0 34 T.a_takes_consistent T.d_takes_consistent ["presentation", "paper"] (spTakC K C_Presentation.C) := ok_takC C_Presentation C_Collector T
  have G_Presentation___init__ : FnOk P w K mg base (L2.CX P w) 6 C_Presentation.a___init__ C_Presentation.d___init__ ["self", "primes", "powers", "conjugates"] (spPInit K C_Presentation.C C_Malformed.C R.C) := ok_PInit R C_Malformed C_Presentation T
  refine T.F_law.ok sc_law (fun vs H Q E h => ?_) (fun cdv A outer s H vs Q E hr h => ?_)
  · obtain ⟨a, ns, rfl, _⟩ := h
    rfl
  · obtain ⟨as, ns, rfl, hS, hlen, q⟩ := h
    refine ⟨_, (pss_cons (ps_set (i := 1) sc_law.nd rfl (.inl rfl) (pe_call G__law_state (hr.mono (by decide)) (by rfl) T.g__law_state T.F__law_state.kp T.b__law_state .nil pass0 (pa_cons (pv 0) pa_nil))) 
    (pss_cons (ps_set (i := 2) sc_law.nd rfl (.inl rfl) (pe_call G__law_group (hr.mono (by decide)) (by rfl) T.g__law_group T.F__law_group.kp T.b__law_group .nil pass0 (pa_cons (pv 1) (pa_cons pe_int pa_nil)))) 
    (C8.pss_cut (ps_if (pt_cmpR op_gt (pe_call G__law_take (hr.mono (by decide)) (by rfl) T.g__law_take T.F__law_take.kp T.b__law_take .nil pass0 (pa_cons (pv 1) (pa_cons pe_int pa_nil))) pe_int (nomark _)) 
      (pss_one (ps_set (i := 2) sc_law.nd rfl (.inl rfl) (pe_call G__law_bent (hr.mono (by decide)) (by rfl) T.g__law_bent T.F__law_bent.kp T.b__law_bent .nil pass0 (pa_cons (pv 1) (pa_cons (pv 2) pa_nil))))) pss_nil) 
    (pss_cons (ps_set (i := 3) sc_law.nd rfl (.inl rfl) (pe_make C_Presentation.mkr G_Presentation___init__ (hr.mono (by decide)) rfl C_Presentation.gC C_Presentation.b___init__ .nil passL (pa_cons (pe_ix ix_tup (pv 2) pe_int (fun _ _ => rfl)) (pa_cons (pe_ix ix_tup (pv 2) pe_int (fun _ _ => rfl)) (pa_cons (pe_ix ix_tup (pv 2) pe_int (fun _ _ => rfl)) pa_nil))))) 
    (pss_cons (ps_set (i := 4) sc_law.nd rfl (.inl rfl) Pk.pe_dnewP) 
    (pss_cons (ps_set (i := 5) sc_law.nd rfl (.inl rfl) (pe_lst pa_nil)) 
    (pss_cons (ps_set (i := 6) sc_law.nd rfl (.inl rfl) (pe_lst pa_nil)) 
    (C8.pss_cut (ps_for PassesOwn.never rfl (pi_list (pe_call G__law_overlaps (hr.mono (by decide)) (by rfl) T.g__law_overlaps T.F__law_overlaps.kp T.b__law_overlaps .nil pass0 (pa_cons (pv 2) pa_nil))) (pg_tup rfl (pgs_cons (pg_name (i := 7) sc_law.nd rfl (.inl rfl)) (pgs_cons (pg_name (i := 8) sc_law.nd rfl (.inl rfl)) (pgs_cons (pg_name (i := 9) sc_law.nd rfl (.inl rfl)) pgs_nil)))) 
      (pss_cons (ps_expr (pe_bm PySem.F.plainAttrs_list PySem.F.slot_list_append PySem.F.type_list_append mt_append (pv 5) (pa_cons (pv 7) pa_nil))) 
      (pss_one (ps_if (pt_cmpR (op_neD hr.units) (pe_call G__law_row_of (hr.mono (by decide)) (by rfl) T.g__law_row_of T.F__law_row_of.kp T.b__law_row_of .nil pass0 (pa_cons (pv 2) (pa_cons (pv 4) (pa_cons (pv 8) pa_nil)))) (pe_call G__law_row_of (hr.mono (by decide)) (by rfl) T.g__law_row_of T.F__law_row_of.kp T.b__law_row_of .nil pass0 (pa_cons (pv 2) (pa_cons (pv 4) (pa_cons (pv 9) pa_nil)))) (nomark _)) 
        (pss_one (ps_expr (pe_bm PySem.F.plainAttrs_list PySem.F.slot_list_append PySem.F.type_list_append mt_append (pv 6) (pa_cons (pv 7) pa_nil)))) pss_nil)))) 
    (pss_cons (ps_set (i := 10) sc_law.nd rfl (.inl rfl) (pe_tup (pa_cons pe_str pa_nil))) 
    (C8.pss_cut (ps_if (pt_cmpR op_gt (pe_callB call_len_seq (by rfl) T.n_len (by decide +kernel) (pa_cons (pv 6) pa_nil)) pe_int (nomark _)) 
      (pss_one (ps_set (i := 10) sc_law.nd rfl (.inl rfl) (pe_tup (pa_cons pe_str (pa_cons (pe_ix ix_list (pv 6) pe_int (fun _ _ => rfl)) pa_nil))))) pss_nil) 
    (C8.pss_cut (ps_if (PW.pt (pw_or (pt_cmpR (op_neD hr.units) (pe_call G_consistency_paper (hr.mono (by decide)) (by rfl) T.g_consistency_paper T.F_consistency_paper.kp T.b_consistency_paper .nil pass0 (pa_cons (pv 3) pa_nil)) (pv 10) (nomark _)) (pw_or1 (pt_cmpR op_isnot_bl (pe_call G_takes_consistent (hr.mono (by decide)) (by rfl) T.g_takes_consistent T.F_takes_consistent.kp T.b_takes_consistent .nil pass0 (pa_cons (pv 3) (pa_cons (pv 10) pa_nil))) pe_bl (nomark _))))) 
      (pss_one (ps_ret pe_bl)) pss_nil) 
    (C8.pss_cut (ps_if (pt_cmpR op_ne (pe_call G_takes_consistent (hr.mono (by decide)) (by rfl) T.g_takes_consistent T.F_takes_consistent.kp T.b_takes_consistent .nil pass0 (pa_cons (pv 3) (pa_cons (pe_tup (pa_cons pe_str pa_nil)) pa_nil))) (pe_cmpR op_eq (pe_callB call_len_seq (by rfl) T.n_len (by decide +kernel) (pa_cons (pv 6) pa_nil)) pe_int (nomark _)) (nomark _)) 
      (pss_one (ps_ret pe_bl)) pss_nil) 
    (C8.pss_cut (ps_for PassesOwn.never rfl (pi_list (pv 5)) (pg_name (i := 7) sc_law.nd rfl (.inl rfl)) 
      (pss_one (ps_if (pt_cmpR op_ne (pe_call G_takes_consistent (hr.mono (by decide)) (by rfl) T.g_takes_consistent T.F_takes_consistent.kp T.b_takes_consistent .nil pass0 (pa_cons (pv 3) (pa_cons (pe_tup (pa_cons pe_str (pa_cons (pv 7) pa_nil))) pa_nil))) (pe_cmpR (op_inD (hu65 hr)) (pv 7) (pv 6) rfl) (nomark _)) 
        (pss_one (ps_ret pe_bl)) pss_nil))) 
    (C8.pss_cut (ps_set (i := 11) sc_law.nd rfl (.inl rfl) (pe_lst (pa_cons (pe_tup (pa_cons pe_str (pa_cons (pe_tup pa_nil) pa_nil))) (pa_cons (pe_tup (pa_cons pe_str pa_nil)) (pa_cons (pe_tup (pa_cons pe_str (pa_cons pe_int pa_nil))) (pa_cons (pe_lst (pa_cons pe_str pa_nil)) (pa_cons pe_non (pa_cons (pe_tup pa_nil) (pa_cons (pe_tup (pa_cons pe_str (pa_cons (pe_tup (pa_cons pe_int (pa_cons pe_int pa_nil))) pa_nil))) (pa_cons pe_str pa_nil)))))))))) 
    (C8.pss_cut (ps_for PassesOwn.never rfl (pi_list (pe_slice sl_list (pv 6) po_none (po_some pe_int))) (pg_name (i := 7) sc_law.nd rfl (.inl rfl)) 
      (pss_cons (ps_set (i := 11) sc_law.nd rfl (.inl rfl) (pe_op op_cat (pv 11) (pe_lst (pa_cons (pe_tup (pa_cons pe_str (pa_cons (pe_callTy (show CallR _ (.type "list") (rLstK K) from call_lstK) (by rfl) T.n_list (by decide +kernel) (pa_cons (pv 7) pa_nil)) pa_nil))) (pa_cons (pe_tup (pa_cons pe_str (pa_cons (pv 7) (pa_cons pe_int pa_nil)))) (pa_cons (pe_tup (pa_cons pe_str (pa_cons (pe_slice sl_tupA (pv 7) (po_some pe_int) po_none) pa_nil))) (pa_cons (pe_tup (pa_cons pe_str (pa_cons (pe_op op_catA (pv 7) (pe_slice sl_tupA (pv 7) po_none (po_some pe_int))) pa_nil))) (pa_cons (pe_lst (pa_cons pe_str (pa_cons (pv 7) pa_nil))) pa_nil)))))))) 
      (pss_one (ps_expr (pe_bm PySem.F.plainAttrs_list PySem.F.slot_list_append PySem.F.type_list_append mt_append (pv 11) (pa_cons (pe_tup (pa_cons pe_str (pa_cons (pe_callTy call_tuple_of (by rfl) T.n_tuple (by decide +kernel) (pa_cons (pe_lc (own := [("k", 13)]) rfl sc_law.nd (pi_tup (pv 7)) (blkOk_by (N := N_law) (sc := defScope s_law) (own := [("k", 13)]) (by decide +kernel)) (fun _ _ _ _ _ => (pg_name (i := 13) sc_law.nd rfl (.inl rfl))) (fun _ _ _ _ _ => pts_nil) (fun _ _ _ _ _ => (pe_cmpR op_eq (pv 13) pe_int (nomark _)))) pa_nil)) pa_nil))) pa_nil)))))) 
    (pss_cons (ps_for PassesOwn.never rfl (pi_list (pv 11)) (pg_name (i := 12) sc_law.nd rfl (.inl rfl)) 
      (pss_one (ps_if (PW.pt (pw_and (pt_val (pe_callB call_isi (by rfl) T.n_isinstance (by decide +kernel) (pa_cons (pv 12) (pa_cons (pe_bltn (v := .ty "tuple") (by rfl) T.n_tuple (by decide +kernel) rfl) pa_nil)))) (pw_and (pt_cmpR op_eq (pe_callB call_len_seq (by rfl) T.n_len (by decide +kernel) (pa_cons (pv 12) pa_nil)) pe_int (nomark _)) (pw_and (pt_cmpR (op_eqD hr.units) (pe_ix ix_tup (pv 12) pe_int (fun _ _ => rfl)) pe_str (nomark _)) (pw_and1 (pt_val (pe_callB call_isi (by rfl) T.n_isinstance (by decide +kernel) (pa_cons (pe_ix ix_tup (pv 12) pe_int (fun _ _ => rfl)) (pa_cons (pe_bltn (v := .ty "tuple") (by rfl) T.n_tuple (by decide +kernel) rfl) pa_nil))))))))) 
        (pss_cons (ps_set (i := 10) sc_law.nd rfl (.inl rfl) (pe_and (pe_cmpR (op_inD (hu65 hr)) (pe_ix ix_tup (pv 12) pe_int (fun _ _ => rfl)) (pv 6) rfl) (pe_one (pe_cmpR op_eq (pe_callB call_len_seq (by rfl) T.n_len (by decide +kernel) (pa_cons (pe_lc (own := [("k", 13)]) rfl sc_law.nd (pi_tup (pe_ix ix_tup (pv 12) pe_int (fun _ _ => rfl))) (blkOk_by (N := N_law) (sc := defScope s_law) (own := [("k", 13)]) (by decide +kernel)) (fun _ _ _ _ _ => (pg_name (i := 13) sc_law.nd rfl (.inl rfl))) (fun _ _ _ _ _ => (pts_one (pt_val (pe_callB (show CallR _ (.builtin "isinstance") (rIsi K) from call_isi) (by rfl) T.n_isinstance (by decide +kernel) (pa_cons (pv 13) (pa_cons (pe_bltn (v := .ty "bool") (by rfl) T.n_bool (by decide +kernel) rfl) pa_nil)))))) (fun _ _ _ _ _ => (pv 13))) pa_nil)) pe_int (nomark _))))) 
        (pss_one (ps_if (pt_cmpR op_ne (pe_call G_takes_consistent (hr.mono (by decide)) (by rfl) T.g_takes_consistent T.F_takes_consistent.kp T.b_takes_consistent .nil pass0 (pa_cons (pv 3) (pa_cons (pv 12) pa_nil))) (pv 10) (nomark _)) 
          (pss_one (ps_ret pe_bl)) pss_nil))) 
        (pss_one (ps_if (pt_cmpR op_isnot_bl (pe_call G_takes_consistent (hr.mono (by decide)) (by rfl) T.g_takes_consistent T.F_takes_consistent.kp T.b_takes_consistent .nil pass0 (pa_cons (pv 3) (pa_cons (pv 12) pa_nil))) pe_bl (nomark _)) 
          (pss_one (ps_ret pe_bl)) pss_nil))))) 
    (pss_one (ps_ret pe_bl)))))))))))))))))), ?_⟩
    refine ⟨_, rfl, as, ns, rfl, hS, fun H1 st s0 t0 _ _ est => ?_⟩
    refine ⟨_, rfl, st, 24, rfl, by decide, by decide, ⟨s0, t0, est⟩, fun z t H2 sx2 hst2 hT hV hsz hln _ => ?_⟩
    -- bent
    refine ⟨fun σ H => ∃ z t, StA H st ∧ TbAt K H z t ∧ Vd t ∧ t.ps.length ≤ 5 ∧ σ = [some (.ref as), some (.ref st), some z, none, none, none, none, none, none, none, none, none, none, none], ?_, ?_⟩
    · obtain ⟨s2, t2, es2⟩ := hst2
      refine ⟨_, rfl, st, 3, s2, t2, rfl, by decide, by decide, es2, fun v s3 t3 h0 h1 => ⟨_, _, rfl, rfl, _, rfl, ?_⟩⟩
      have hT3 := hT.tps (Tps.x (K := K) (SameX.put (u := .lst [.int s3, .int t3])) es2)
      refine ite2 (fun c => ?_) (fun c => ⟨z, t, ⟨s3, t3, upd_same⟩, hT3, hV, hln, rfl⟩)
      exact ⟨_, rfl, _, rfl, st, z, t, rfl, ⟨s3, t3, upd_same⟩, hT3, hV, fun z' t' H4 sx4 hst4 hT4 hV4 hps => ⟨z', t', hst4, hT4, hV4, by rw [hps]; exact hln, rfl⟩⟩
    clear hT hV hsz hln sx2 hst2 est
    rintro σ H3 ⟨z, t, hst3, hT, hV, hln, rfl⟩
    obtain ⟨x0, a, b, c, us, vs, rfl, hSx, hSa, hSb, hPw, hSc, hPc⟩ := id hT.rd
    -- the presentation
    refine ⟨_, rfl, x0, _, 0, _, rfl, rfl, hSx, atI_nat (j := 0) rfl, _, rfl, x0, _, 1, _, rfl, rfl, hSx, atI_nat (j := 1) rfl, _, rfl, x0, _, 2, _, rfl, rfl, hSx, atI_nat (j := 2) rfl, fun x dx nx ndx hne => ?_⟩
    have s0' : Same H3 (upd (upd H3 dx (.own x)) x (.ins C_Presentation.C dx [])) := (same_new ndx).trans (same_new (by rw [upd_ne (Ne.symm hne)]; exact nx))
    have ap := (av_row (K := K) ⟨a, rfl, hSa⟩).mono s0'
    have aw := (av_rows (K := K) ⟨b, us, rfl, hSb, hPw⟩).mono s0'
    have ac := (av_cj (K := K) hSc hPc).mono s0'
    have lp : ∀ l, rowT t.ps = .tup l → l.length ≤ 1000 := fun l e => by cases e; rw [List.length_map]; omega
    refine ⟨x, dx, .ref a, .ref b, .ref c, _, _, _, rfl, upd_same, ap, aw, ac, lp, fun z => Bool.noConfusion ((vd_form hV).symm.trans z), fun _ => ⟨fun z => absurd z (vd_big hV), fun _ H4 s4 hpr => ⟨rfl, ?_⟩⟩⟩
    rw [psD_row] at hpr
    have s34 : Same H3 H4 := fun b o e => s4 b o (ne_of_none e nx) (s0' _ _ e)
    have tp4 := Tps.of (K := K) s34
    have hPT : PTb K C_Presentation.C H4 x t := ⟨a, b, c, us, vs, hpr, tp4 _ _ hSa, tp4 _ _ hSb, paired_via (fun _ _ => rs_tps tp4) hPw, tp4 _ _ hSc, paired_via (fun _ _ => tup1_tps tp4) hPc⟩
    have hT4 := hT.tps tp4
    have hst4 : StA H4 st := let ⟨a, b, e⟩ := hst3; ⟨a, b, s34 _ _ e⟩
    clear hpr s4 ap aw ac s0' nx ndx hne hst3 hT
    intro kn H5 nkn s5 hKD
    have hW : W08 P w K C_Presentation.C H5 st x kn (.ref x0) t := ⟨let ⟨a, b, e⟩ := hst4; ⟨a, b, s5 _ _ e⟩, hT4.tps (Tps.of s5), hPT.mono s5, ⟨[], hKD, fun kv h => by cases h⟩⟩
    clear hPT hT4 hst4 hKD nkn s5 tp4 s34 hSb hPw hSc hPc hSx hSa lp
    -- words, failing
    refine ⟨Nat.zero_le _, fun l5 n5 => ?_⟩
    have s5 := same_new (o := .lst []) n5
    have hW5 := hW.mono s5
    refine ⟨Nat.zero_le _, fun l6 n6 => ?_⟩
    have s6 := same_new (o := .lst []) n6
    have hW6 := hW5.mono s6
    have ne5 : l5 ≠ st := by
      obtain ⟨s1, t1, es⟩ := hW.ss
      exact fun z => by rw [z, es] at n5; cases n5
    have ne6 : l6 ≠ st := by
      obtain ⟨s1, t1, es⟩ := hW5.ss
      exact fun z => by rw [z, es] at n6; cases n6
    have e56 := s6 _ _ (upd_same (H := H5) (a := l5) (o := .lst []))
    have ne56 : l5 ≠ l6 := fun z => by rw [← z, upd_same] at n6; cases n6
    have e6 : (upd (upd H5 l5 (.lst [])) l6 (.lst [])) l6 = some (.lst []) := upd_same
    generalize upd (upd H5 l5 (.lst [])) l6 (.lst []) = H6 at *
    clear hW hW5 s5 s6 n5 n6
    refine ⟨fun σ H => ∃ acc5 acc6, W08 P w K C_Presentation.C H st x kn (.ref x0) t ∧ H l5 = some (.lst acc5) ∧ H l6 = some (.lst acc6) ∧ Paired (WO K H) acc5 (ovT t) ∧ Paired (WO K H) acc6 (fails t) ∧ ∃ y7 y8 y9, σ = [some (.ref as), some (.ref st), some (.ref x0), some (.ref x), some (.ref kn), some (.ref l5), some (.ref l6), y7, y8, y9, none, none, none, none], ?_, ?_⟩
    · refine ⟨_, rfl, .ref x0, t, rfl, hW6.tb, hV, hln, fun l H7 nl hL => ?_⟩
      obtain ⟨s7, ⟨us, el, hPo⟩, _⟩ := id hL
      have nl5 : l5 ≠ l := fun z => by rw [← z, e56] at nl; cases nl
      have nl6 : l6 ≠ l := fun z => by rw [← z, e6] at nl; cases nl
      have hol := ovT_len5 hln
      refine ⟨l, rfl, ⟨_, .inl (.inl el)⟩, for_list (xs := us) (fun i σ H => ∃ acc5 acc6, W08 P w K C_Presentation.C H st x kn (.ref x0) t ∧ H l = some (.lst us) ∧ Paired (OV K H) us (ovT t) ∧ H l5 = some (.lst acc5) ∧ H l6 = some (.lst acc6) ∧ acc5.length ≤ i ∧ acc6.length ≤ i ∧ Paired (WO K H) acc5 ((ovT t).take i) ∧ Paired (WO K H) acc6 (((ovT t).take i).filter (badOv t)) ∧ ∃ y7 y8 y9, σ = [some (.ref as), some (.ref st), some (.ref x0), some (.ref x), some (.ref kn), some (.ref l5), some (.ref l6), y7, y8, y9, none, none, none, none]) ⟨[], [], hW6.mono s7, el, hPo, s7 _ _ e56, s7 _ _ e6, Nat.le_refl _, Nat.le_refl _, .nil, .nil, none, none, none, rfl⟩ (fun i σ H _ ⟨_, _, _, h, _⟩ => .inl (.inl h)) (fun i v σ H hi hI => ?_) (fun σ H hI => ?_)⟩
      · obtain ⟨acc5, acc6, hW, el, hP, e5, e6, c5, c6, p5, p6, y7, y8, y9, rfl⟩ := hI
        obtain ⟨o, eo, q0, wa, wb, wc, rfl, h0, ha, hb, hc⟩ := paired_get hP hi
        obtain ⟨⟨k1, m1⟩, ⟨k2, m2⟩, ⟨k3, m3⟩⟩ := ovT_ok hV o (List.mem_of_getElem? eo)
        have hi2 : i < us.length := (List.getElem?_eq_some_iff.mp hi).1
        have hi3 : i < 40 := by rw [Paired.length hP] at hi2; omega
        refine ⟨q0, _, rfl, h0, rfl, _, _, rfl, _, _, rfl, _, [], rfl, rfl, ?_⟩
        refine ⟨_, rfl, .inl ⟨rfl, _, .inl (.inl e5)⟩, _, rfl, l5, _, _, rfl, rfl, e5, small2000 (by omega), ?_⟩
        have tp5 := Tps.x (K := K) (SameX.put (u := .lst (acc5 ++ [V.ref wa]))) e5
        have hW1 := hW.putL (ys := acc5 ++ [V.ref wa]) e5 ne5
        have el1 : (upd H l5 (.lst (acc5 ++ [V.ref wa]))) l = some (.lst us) := by rw [upd_ne nl5.symm]; exact el
        have e61 : (upd H l5 (.lst (acc5 ++ [V.ref wa]))) l6 = some (.lst acc6) := by rw [upd_ne ne56.symm]; exact e6
        have e51 : (upd H l5 (.lst (acc5 ++ [V.ref wa]))) l5 = some (.lst (acc5 ++ [V.ref wa])) := upd_same
        generalize upd H l5 (.lst (acc5 ++ [V.ref wa])) = H1 at *
        refine ⟨_, rfl, _, rfl, _, rfl, kn, wb, .ref x0, t, o.2.1, rfl, hW1.tb, hV, hW1.kn, tp5 _ _ hb, k2, fun z2 H2 g2 h2 => ?_⟩
        have hW2 := hW1.go g2
        refine ⟨_, rfl, _, rfl, _, rfl, kn, wc, .ref x0, t, o.2.2, rfl, hW2.tb, hV, hW2.kn, g2.tp _ _ (tp5 _ _ hc), k3, fun z3 H3 g3 h3 => ?_⟩
        have hW3 := hW2.go g3
        obtain ⟨D1, D2⟩ := rs_d (rs_tps g3.tp h2)
        obtain ⟨D3, D4⟩ := rs_d h3
        have tp3 := tp5.trans (g2.tp.trans g3.tp)
        obtain ⟨φ, ek⟩ := hW1.kn.ext
        obtain ⟨φ2, ek2⟩ := hW2.kn.ext
        have keepL2 : ∀ {q : Addr} {xs : List V}, H1 q = some (.lst xs) → H3 q = some (.lst xs) := fun {q xs} hq => by
          have k1 := g2.sx _ _ (fun z => by rw [z, ek] at hq; cases hq) hq
          exact g3.sx _ _ (fun z => by rw [z, ek2] at k1; cases k1) k1
        have el3 := keepL2 el1
        have e53 := keepL2 e51
        have e63 := keepL2 e61
        have hP3 := paired_via (fun _ _ => OV.tps tp3) hP
        have p53 : Paired (WO K H3) (acc5 ++ [V.ref wa]) ((ovT t).take (i + 1)) := by
          rw [List.take_add_one, eo]
          exact paired_app (paired_via (fun _ _ => WO.tps tp3) p5) (.cons ⟨wa, rfl, tp3 _ _ ha⟩ .nil)
        have p63 := paired_via (fun _ _ => WO.tps tp3) p6
        refine ⟨_, _, D1, D3, D2, D4, _, rfl, ?_⟩
        rw [eqv_dInts]
        by_cases cb : badOv t o = true
        · refine iteA cb ⟨_, rfl, .inl ⟨rfl, _, .inl (.inl e63)⟩, _, rfl, l6, _, _, rfl, rfl, e63, small2000 (by omega), ?_⟩
          have tp6 := Tps.x (K := K) (SameX.put (u := .lst (acc6 ++ [V.ref wa]))) e63
          refine ⟨_, _, hW3.putL e63 ne6, by rw [upd_ne nl6.symm]; exact el3, paired_via (fun _ _ => OV.tps tp6) hP3, by rw [upd_ne ne56]; exact e53, upd_same, by rw [List.length_append]; show acc5.length + 1 ≤ i + 1; omega, by rw [List.length_append]; show acc6.length + 1 ≤ i + 1; omega, paired_via (fun _ _ => WO.tps tp6) p53, ?_, _, _, _, rfl⟩
          rw [take_more eo, if_pos cb]
          exact paired_app (paired_via (fun _ _ => WO.tps tp6) p63) (.cons ⟨wa, rfl, tp6 _ _ (tp3 _ _ ha)⟩ .nil)
        · have cb : badOv t o = false := by simpa using cb
          refine iteB cb ⟨_, _, hW3, el3, hP3, e53, e63, by rw [List.length_append]; show acc5.length + 1 ≤ i + 1; omega, by omega, p53, ?_, _, _, _, rfl⟩
          rw [take_more eo, cb, if_neg Bool.false_ne_true, List.append_nil]
          exact p63
      · obtain ⟨acc5, acc6, hW, el, hP, e5, e6, c5, c6, p5, p6, y7, y8, y9, rfl⟩ := hI
        rw [Paired.length hP, List.take_length] at p5 p6
        exact ⟨acc5, acc6, hW, e5, e6, p5, p6, _, _, _, rfl⟩
    clear hW6 e56 e6
    rintro σ H7 ⟨acc5, acc6, hW, e5, e6, p5, p6, y7, y8, y9, rfl⟩
    have hE : E57 P w K C_Presentation.C H7 st x kn x0 l5 l6 acc5 acc6 t := ⟨hW, e5, e6, p5, p6⟩
    clear hW e5 e6 p5 p6
    -- due
    refine ⟨by show 1 ≤ sizeLine; decide, fun d0 nd0 => ?_⟩
    have hE8 := hE.mono (same_new (o := .tup [V.str "consistent"]) nd0)
    have hd0 : SqT K (upd H7 d0 (.tup [V.str "consistent"])) d0 [V.str "consistent"] := .inl (.inl upd_same)
    show C8.tCut _ _ _ _ (upd H7 d0 (.tup [V.str "consistent"]))
    generalize upd H7 d0 (.tup [V.str "consistent"]) = H8 at *
    clear hE nd0
    refine ⟨fun σ H => ∃ dv, E57 P w K C_Presentation.C H st x kn x0 l5 l6 acc5 acc6 t ∧ DueAt K H dv t ∧ σ = [some (.ref as), some (.ref st), some (.ref x0), some (.ref x), some (.ref kn), some (.ref l5), some (.ref l6), y7, y8, y9, some dv, none, none, none], ?_, ?_⟩
    · have hlen := Paired.length hE8.p6
      refine ⟨_, rfl, l6, acc6, rfl, .inl (.inl (.inl hE8.e6)), _, _, rfl, rfl, _, rfl, ite2 (fun cc => ?_) (fun cc => ?_)⟩
      · have c0 : 0 < acc6.length := by
          have := of_decide_eq_true cc
          omega
        cases hF : fails t with
        | nil => rw [hF] at hlen; rw [hlen] at c0; exact absurd c0 (Nat.lt_irrefl _)
        | cons o L =>
          obtain ⟨v, ev, b, rfl, hb⟩ := paired_get2 (i := 0) (b := o) hE8.p6 (by rw [hF]; rfl)
          refine ⟨_, rfl, l6, acc6, 0, .ref b, rfl, rfl, .inl (.inl hE8.e6), atI_nat (j := 0) ev, by show 2 ≤ sizeLine; decide, fun d1 nd1 => ?_⟩
          have s1 := same_new (o := .tup [V.str "overlap", V.ref b]) nd1
          exact ⟨.ref d1, hE8.mono s1, .inr ⟨o, L, d1, b, hF, rfl, .inl (.inl upd_same), Own.same_tup s1 hb⟩, rfl⟩
      · have c0 : acc6.length = 0 := by
          have h : ¬ (0 : Int) < (acc6.length : Int) := fun z => cc (decide_eq_true z)
          omega
        exact ⟨.ref d0, hE8, .inl ⟨List.eq_nil_of_length_eq_zero (by rw [← hlen]; exact c0), d0, rfl, hd0⟩, rfl⟩
    clear hE8 hd0
    rintro σ H8 ⟨dv, hE, hD, rfl⟩
    -- the paper, and the paper taken
    refine ⟨fun σ H => E57 P w K C_Presentation.C H st x kn x0 l5 l6 acc5 acc6 t ∧ σ = [some (.ref as), some (.ref st), some (.ref x0), some (.ref x), some (.ref kn), some (.ref l5), some (.ref l6), y7, y8, y9, some dv, none, none, none], ?_, ?_⟩
    · refine ⟨_, rfl, x, t, rfl, hE.w.pt, hV, hln, fun a1 H9 s9 hc => ?_⟩
      have hE9 := hE.mono s9
      rcases hD with ⟨hF, a2, rfl, hS2⟩ | ⟨o, L, a2, b2, hF, rfl, hS2, hb2⟩
      · have hS29 := Own.same_tup s9 hS2
        rcases hc with ⟨_, hS1⟩ | ⟨o, b, ho, _⟩
        · refine ⟨_, rfl, .tuple [.str "consistent"], .tuple [.str "consistent"], .tup hS1 (.cons (.str _) .nil), .tup hS29 (.cons (.str _) .nil), by decide +kernel, by decide +kernel, _, rfl, iteB (by decide +kernel) ?_⟩
          refine ⟨_, rfl, _, rfl, hE9.tak hV hln (f := .one "consistent") ⟨a2, _, rfl, hS29, rfl, by decide +kernel⟩ fun r H10 er s10 hE10 => ⟨_, _, er, rfl, _, rfl, iteB (by rw [tak_one, hF]; rfl) ⟨hE10, rfl⟩⟩⟩
        · rw [← fails_head, hF] at ho
          cases ho
      · have hS29 := Own.same_tup s9 hS2
        have hb29 := Own.same_tup s9 hb2
        rcases hc with ⟨ho, _⟩ | ⟨o2, b, ho, hS1, hb1⟩
        · rw [← fails_head, hF] at ho
          cases ho
        · rw [← fails_head, hF] at ho
          cases ho
          refine ⟨_, rfl, .tuple [.str "overlap", dW o.1], .tuple [.str "overlap", dW o.1], .tup hS1 (.cons (.str _) (.cons (wt_dp ⟨b, rfl, hb1⟩) .nil)), .tup hS29 (.cons (.str _) (.cons (wt_dp ⟨b2, rfl, hb29⟩) .nil)), sh_over _, sh_over _, _, rfl, iteB (by rw [eq_over]; rfl) ?_⟩
          have ho : o ∈ ovT t := (List.mem_filter.mp (show o ∈ fails t by rw [hF]; exact List.mem_cons_self)).1
          refine ⟨_, rfl, _, rfl, hE9.tak hV hln (f := .two "overlap" (some ((nW o.1).map PyData.int))) ⟨a2, _, .ref b2, rfl, hS29, rfl, by decide +kernel, b2, (nW o.1).map V.int, rfl, by rw [← wV_nW]; exact hb29, atoms_ints _, by rw [List.length_map]; have := word_len hV ho; omega⟩ fun r H10 er s10 hE10 => ⟨_, _, er, rfl, _, rfl, iteB (by
            rw [tak_word, hF, List.map_cons, List.any_cons, dW_ints, eqv_dInts, decide_eq_true rfl, Bool.true_or]
            rfl) ⟨hE10, rfl⟩⟩⟩
    clear hE hD
    rintro σ H9 ⟨hE, rfl⟩
    -- ("consistent",)
    refine ⟨fun σ H => E57 P w K C_Presentation.C H st x kn x0 l5 l6 acc5 acc6 t ∧ σ = [some (.ref as), some (.ref st), some (.ref x0), some (.ref x), some (.ref kn), some (.ref l5), some (.ref l6), y7, y8, y9, some dv, none, none, none], ?_, ?_⟩
    · refine ⟨_, rfl, by show 1 ≤ sizeLine; decide, fun d1 nd1 => ?_⟩
      have s1 := same_new (o := .tup [V.str "consistent"]) nd1
      refine (hE.mono s1).tak hV hln (f := .one "consistent") ⟨d1, _, rfl, .inl (.inl upd_same), rfl, by decide +kernel⟩ fun r H10 er s10 hE10 => ?_
      subst er
      refine ⟨_, rfl, l6, acc6, rfl, .inl (.inl (.inl hE10.e6)), rfl, rfl, _, rfl, iteB ?_ ⟨hE10, rfl⟩⟩
      rw [tak_one, len_dec hE10.p6]
      exact not_dec rfl
    clear hE
    rintro σ H10 ⟨hE, rfl⟩
    -- all words
    refine ⟨fun σ H => E57 P w K C_Presentation.C H st x kn x0 l5 l6 acc5 acc6 t ∧ ∃ y7, σ = [some (.ref as), some (.ref st), some (.ref x0), some (.ref x), some (.ref kn), some (.ref l5), some (.ref l6), y7, y8, y9, some dv, none, none, none], ?_, ?_⟩
    · refine ⟨_, rfl, l5, rfl, ⟨_, .inl (.inl hE.e5)⟩, for_list (xs := acc5) (fun i σ H => E57 P w K C_Presentation.C H st x kn x0 l5 l6 acc5 acc6 t ∧ ∃ y7, σ = [some (.ref as), some (.ref st), some (.ref x0), some (.ref x), some (.ref kn), some (.ref l5), some (.ref l6), y7, y8, y9, some dv, none, none, none]) ⟨hE, _, rfl⟩ (fun i σ H _ h => .inl (.inl h.1.e5)) (fun i v σ H hi hI => ?_) (fun σ H hI => hI)⟩
      obtain ⟨hE, y7, rfl⟩ := hI
      obtain ⟨o, eo, b, rfl, hb⟩ := paired_get hE.p5 hi
      have ho := List.mem_of_getElem? eo
      refine ⟨_, rfl, _, rfl, by show 2 ≤ sizeLine; decide, fun d1 nd1 => ?_⟩
      have s1 := same_new (o := .tup [V.str "overlap", V.ref b]) nd1
      refine (hE.mono s1).tak hV hln (f := .two "overlap" (some ((nW o.1).map PyData.int))) ⟨d1, _, .ref b, rfl, .inl (.inl upd_same), rfl, by decide +kernel, b, (nW o.1).map V.int, rfl, by rw [← wV_nW]; exact Own.same_tup s1 hb, atoms_ints _, by rw [List.length_map]; have := word_len hV ho; omega⟩ fun r H2 er s2 hE2 => ?_
      subst er
      refine ⟨_, rfl, _, rfl, dW o.1, (fails t).map fun o : Ov => dW o.1, wt_dp ⟨b, rfl, Own.same_tup (s1.trans s2) hb⟩, .lst (.inl (.inl hE2.e6)) (WO.dps hE2.p6), sh_dW _, sh_fails t, rfl, _, rfl, iteB (by rw [tak_word]; exact not_dec rfl) ⟨hE2, _, rfl⟩⟩
    clear hE
    rintro σ H11 ⟨hE, z7, rfl⟩
    -- other papers
    refine ⟨fun σ H => ∃ (l11 : Addr) (us11 : List V) (fs : List Pf), E57 P w K C_Presentation.C H st x kn x0 l5 l6 acc5 acc6 t ∧ H l11 = some (.lst us11) ∧ l11 ≠ st ∧ l11 ≠ l5 ∧ l11 ≠ l6 ∧ Paired (PfAt K H) us11 fs ∧ (∀ f ∈ fs, OkF f) ∧ fs.length ≤ 8 ∧ σ = [some (.ref as), some (.ref st), some (.ref x0), some (.ref x), some (.ref kn), some (.ref l5), some (.ref l6), z7, y8, y9, some dv, some (.ref l11), none, none], ?_, ?_⟩
    · have h1 : SeqAt.shaped (.str "overlap") = true := by decide +kernel
      have h2 : SeqAt.shaped (.str "consistent") = true := by decide +kernel
      refine asg_forms (K := K) (f_cons (f_two h1 w_unit) (f_cons (f_one h1) (f_cons (f_two h2 w_int) (f_cons f_lst1 (f_cons f_non (f_cons f_unit (f_cons (f_two h1 w_two) (f_cons f_str f_nil)))))))) (by show 8 ≤ 1000; decide) fun l11 us11 H12 s12 e12 n12 hP12 => ?_
      obtain ⟨n0, n5, n6⟩ := hE.ne n12
      refine ⟨l11, us11, _, hE.mono s12, e12, n0, n5, n6, hP12, fun f hf => ?_, by show 8 ≤ 8; decide, rfl⟩
      simp only [List.mem_cons, List.not_mem_nil, or_false] at hf
      rcases hf with rfl | rfl | rfl | rfl | rfl | rfl | rfl | rfl
      · trivial
      · show PyData.eqv (.str "overlap") (.str "consistent") = false
        decide +kernel
      all_goals trivial
    clear hE
    rintro σ H12 ⟨l11, us11, fs, hE, e11, n0, n5, n6, hP, hO, hfl, rfl⟩
    refine ⟨fun σ H => ∃ (l11 : Addr) (us11 : List V) (fs : List Pf), E57 P w K C_Presentation.C H st x kn x0 l5 l6 acc5 acc6 t ∧ H l11 = some (.lst us11) ∧ Paired (PfAt K H) us11 fs ∧ (∀ f ∈ fs, OkF f) ∧ fs.length ≤ 1000 ∧ ∃ z7, σ = [some (.ref as), some (.ref st), some (.ref x0), some (.ref x), some (.ref kn), some (.ref l5), some (.ref l6), z7, y8, y9, some dv, some (.ref l11), none, none], ?_, ?_⟩
    · have h1 : SeqAt.shaped (.str "overlap") = true := by decide +kernel
      refine ⟨_, rfl, (1 : Int), rfl, l6, acc6, rfl, .inl (.inl hE.e6), fun sl nsl => ?_⟩
      have s1 := same_new (o := .lst (cutV acc6 none (some (1 : Int)))) nsl
      have esl : (upd H12 sl (.lst (cutV acc6 none (some (1 : Int))))) sl = some (.lst (cutV acc6 none (some (1 : Int)))) := upd_same
      have nls : l11 ≠ sl := fun z => by rw [← z, e11] at nsl; cases nsl
      have hE1 := hE.mono s1
      have e111 := s1 _ _ e11
      have hP1 := fs_mono s1 hP
      generalize upd H12 sl (.lst (cutV acc6 none (some (1 : Int)))) = H13 at *
      refine ⟨sl, rfl, ⟨_, .inl (.inl esl)⟩, for_list (xs := cutV acc6 none (some (1 : Int))) (fun i σ H => ∃ (l11 : Addr) (us11 : List V) (fs : List Pf), E57 P w K C_Presentation.C H st x kn x0 l5 l6 acc5 acc6 t ∧ H sl = some (.lst (cutV acc6 none (some (1 : Int)))) ∧ H l11 = some (.lst us11) ∧ l11 ≠ sl ∧ Paired (PfAt K H) us11 fs ∧ (∀ f ∈ fs, OkF f) ∧ fs.length ≤ 8 + 6 * i ∧ ∃ z7, σ = [some (.ref as), some (.ref st), some (.ref x0), some (.ref x), some (.ref kn), some (.ref l5), some (.ref l6), z7, y8, y9, some dv, some (.ref l11), none, none]) ⟨l11, us11, fs, hE1, esl, e111, nls, hP1, hO, hfl, _, rfl⟩ (fun i σ H _ ⟨_, _, _, _, h, _⟩ => .inl (.inl h)) (fun i v σ H hi hI => ?_) (fun σ H hI => ?_)⟩
      · clear hE hE1 e11 e111 hP hP1 hO hfl n0 n5 n6 esl nls s1 nsl
        obtain ⟨l11, us11, fs, hE, esl, e11, nls, hP, hO, hfl, z7, rfl⟩ := hI
        have hi0 : i = 0 := by
          have h := (List.getElem?_eq_some_iff.mp hi).1
          rw [cut_one, List.length_take] at h
          omega
        subst hi0
        have hi6 : acc6[0]? = some v := by
          rw [cut_one] at hi
          cases h : acc6 with
          | nil => rw [h] at hi; cases hi
          | cons y ys => rw [h] at hi; exact hi
        obtain ⟨o, eo, b, rfl, hb⟩ := paired_get hE.p6 hi6
        have ho : o ∈ ovT t := (List.mem_filter.mp (show o ∈ fails t from List.mem_of_getElem? eo)).1
        have hwl := word_len hV ho
        have hb : SqT K H b ((nW o.1).map V.int) := by
          rw [← wV_nW]
          exact hb
        have hul := Paired.length hP
        -- five more
        refine ⟨_, rfl, ?_⟩
        refine (f_cons (K := K) (fs := [.no, .two "overlap" (some (((nW o.1).drop 1).map PyData.int)), .two "overlap" (some (((nW o.1) ++ (nW o.1).take 1).map PyData.int)), .no]) (f_two h1 (w_list (i := 7) rfl hb hwl)) (f_cons (f_three (i := 7) rfl) (f_cons (f_two h1 (w_drop (i := 7) rfl hb hwl)) (f_cons (f_two h1 (w_cat (i := 7) rfl hb hwl)) (f_cons (f_lst2 (i := 7) rfl) f_nil))))) _ _ (Same.refl _) fun ws2 H2 s2 hI2 => ⟨Nat.le_of_lt (small2000 (by rw [Paired.length hI2]; show 5 ≤ 100000; decide)), fun a2 na2 => ?_⟩
        have s3 := s2.trans (same_new (o := .lst ws2) na2)
        refine ⟨l11, a2, us11, ws2, rfl, rfl, s3 _ _ e11, upd_same, ?_, fun p np => ?_⟩
        · rw [hul, Paired.length hI2]
          show fs.length + 5 ≤ sizeLine
          exact Nat.le_of_lt (small2000 (by omega))
        have s4 := s3.trans (same_new (o := .lst (us11 ++ ws2)) np)
        have hE4 := hE.mono s4
        have hP4 := paired_app (fs_mono s4 hP) (fs_mono ((same_new (o := .lst ws2) na2).trans (same_new (o := .lst (us11 ++ ws2)) np)) hI2)
        have e4 : (upd (upd H2 a2 (.lst ws2)) p (.lst (us11 ++ ws2))) p = some (.lst (us11 ++ ws2)) := upd_same
        have hb4 := Own.same_tup s4 hb
        have esl4 := s4 _ _ esl
        have npH : H p = none := by
          cases e : H p with
          | none => rfl
          | some ob => rw [s3 _ _ e] at np; cases np
        obtain ⟨n0, n5, n6⟩ := hE.ne npH
        have nps : p ≠ sl := fun z => by rw [z, esl] at npH; cases npH
        generalize upd (upd H2 a2 (.lst ws2)) p (.lst (us11 ++ ws2)) = H4 at *
        -- the word's comparisons
        refine ⟨_, rfl, .inl ⟨rfl, _, .inl (.inl e4)⟩, _, rfl, b, rfl, ⟨_, hb4⟩, fun D nD => ?_⟩
        refine lc_rep (walk_tup (xs := (nW o.1).map V.int)) st_RB (fun k => decide (V.int (atR (nW o.1) k) = V.int 1)) (by rw [List.length_map]; omega) nD (fun H5 sm => Own.same_tup sm hb4) (fun k y H5 H6 Q2 hk2 sm hY q2 => ?_) (fun H5 acc sm eD hPb => ?_)
        · obtain ⟨rfl, g5⟩ := hY
          rw [List.length_map] at hk2
          rw [List.getElem?_map, atR_get hk2] at g5
          cases g5
          exact ⟨rfl, _, rfl, rfl, q2 _ _ (Same.refl _) rfl⟩
        have eb := bools_of hPb
        have hbsl : ((List.range ((nW o.1).map V.int).length).map (fun k => decide (V.int (atR (nW o.1) k) = V.int 1))).length ≤ 900 := by
          rw [List.length_map, List.length_range, List.length_map]
          exact hwl
        generalize (List.range ((nW o.1).map V.int).length).map (fun k => decide (V.int (atR (nW o.1) k) = V.int 1)) = bs at *
        have hbl : acc.length ≤ 900 := by
          rw [Paired.length hPb]
          exact hbsl
        subst eb
        refine ⟨D, _, rfl, .inl ⟨.inl (.inl eD), fun bt nbt => ?_⟩⟩
        have s6 := sm.trans (same_new (o := .tup (bs.map V.bl)) nbt)
        refine ⟨by show 2 ≤ sizeLine; decide, fun d1 nd1 => ?_⟩
        have s7 := s6.trans (same_new (o := .tup [V.str "overlap", V.ref bt]) nd1)
        refine ⟨p, _, _, rfl, rfl, s7 _ _ e4, small2000 (by rw [Paired.length hP4, List.length_append]; show fs.length + 5 ≤ 100000; omega), ?_⟩
        have hf : PfAt K (upd (upd H5 bt (.tup (bs.map V.bl))) d1 (.tup [V.str "overlap", V.ref bt])) (.ref d1) (.two "overlap" (some (bs.map PyData.bool))) := ⟨d1, _, .ref bt, rfl, .inl (.inl upd_same), rfl, h1, bt, bs.map V.bl, rfl, Own.same_tup (same_new nd1) (.inl (.inl upd_same)), atoms_bools bs, by omega⟩
        refine ⟨p, _, _, (hE4.mono s7).put (s7 _ _ e4) n0 n5 n6, by rw [upd_ne nps.symm]; exact s7 _ _ esl4, upd_same, nps, fs_put (s7 _ _ e4) (paired_app (fs_mono s7 hP4) (.cons hf .nil)), fun f hf2 => ?_, ?_, _, rfl⟩
        · rcases List.mem_append.mp hf2 with hf2 | hf2
          · rcases List.mem_append.mp hf2 with hf2 | hf2
            · exact hO f hf2
            · simp only [List.mem_cons, List.not_mem_nil, or_false] at hf2
              rcases hf2 with rfl | rfl | rfl | rfl | rfl
              all_goals trivial
          · rw [List.mem_singleton.mp hf2]
            trivial
        · rw [List.length_append, List.length_append]
          show fs.length + 5 + 1 ≤ 8 + 6 * (0 + 1)
          omega
      · obtain ⟨l11, us11, fs, hE, esl, e11, nls, hP, hO, hfl, z7, rfl⟩ := hI
        refine ⟨l11, us11, fs, hE, e11, hP, hO, ?_, z7, rfl⟩
        rw [cut_one, List.length_take] at hfl
        omega
    clear hE e11 n0 n5 n6 hP hO hfl l11 us11 fs
    rintro σ H13 ⟨l11, us11, fs, hE, e11, hP, hO, hfl, z8, rfl⟩
    refine ⟨_, rfl, l11, rfl, ⟨_, .inl (.inl e11)⟩, for_list (xs := us11) (fun i σ H => E57 P w K C_Presentation.C H st x kn x0 l5 l6 acc5 acc6 t ∧ H l11 = some (.lst us11) ∧ Paired (PfAt K H) us11 fs ∧ ∃ dv z12, σ = [some (.ref as), some (.ref st), some (.ref x0), some (.ref x), some (.ref kn), some (.ref l5), some (.ref l6), z8, y8, y9, some dv, some (.ref l11), z12, none]) ⟨hE, e11, hP, _, _, rfl⟩ (fun i σ H _ h => .inl (.inl h.2.1)) (fun i v σ H hi hI => ?_) (fun σ H hI => ?_)⟩
    · obtain ⟨hE, e11, hP, dv, z12, rfl⟩ := hI
      obtain ⟨f, ef, hf⟩ := paired_get hP hi
      have hOf := hO f (List.mem_of_getElem? ef)
      cases f with
      | no =>
        rcases id hf with ⟨j, h⟩ | ⟨a2, us2, rfl, hS, m1, m2⟩
        · obtain ⟨ty, t1, t2⟩ := h.isT
          refine ⟨_, rfl, _, _, _, _, false, rfl, .ty "tuple", t1, t2, false, rfl, iteB rfl ?_⟩
          refine ⟨_, rfl, _, rfl, hE.tak hV hln hf fun r H2 er s2 hE2 => ⟨_, _, er, rfl, _, rfl, iteB rfl ⟨hE2, s2 _ _ e11, fs_mono s2 hP, _, _, rfl⟩⟩⟩
        · obtain ⟨ty, t1, t2⟩ := (Kd.tup hS).isT
          have e2 : decide (V.int (us2.length : Int) = V.int 2) = false := decide_eq_false fun z => m2 (by have := V.int.inj z; omega)
          refine ⟨_, rfl, _, _, _, _, true, rfl, .ty "tuple", t1, t2, true, rfl, iteA rfl ⟨_, rfl, a2, us2, rfl, .inr hS, rfl, _, rfl, iteB e2 ?_⟩⟩
          refine ⟨_, rfl, _, rfl, hE.tak hV hln hf fun r H2 er s2 hE2 => ⟨_, _, er, rfl, _, rfl, iteB rfl ⟨hE2, s2 _ _ e11, fs_mono s2 hP, _, _, rfl⟩⟩⟩
      | one d0 =>
        obtain ⟨a2, u, rfl, hS, rfl, hs⟩ := id hf
        obtain ⟨ty, t1, t2⟩ := (Kd.tup hS).isT
        have hOf : PyData.eqv (.str d0) (.str "consistent") = false := hOf
        have e2 : decide (V.int (([V.str d0] : List V).length : Int) = V.int 2) = false := decide_eq_false fun z => absurd (V.int.inj z : ((1 : Nat) : Int) = 2) (by decide)
        have ef : takC t (.one d0) = false := by
          show (PyData.eqv (.str d0) (.str "consistent") && _) = false
          rw [hOf, Bool.false_and]
        refine ⟨_, rfl, _, _, _, _, true, rfl, .ty "tuple", t1, t2, true, rfl, iteA rfl ⟨_, rfl, a2, _, rfl, .inr hS, rfl, _, rfl, iteB e2 ?_⟩⟩
        refine ⟨_, rfl, _, rfl, hE.tak hV hln hf fun r H2 er s2 hE2 => ⟨_, _, er, rfl, _, rfl, iteB (by rw [ef]; rfl) ⟨hE2, s2 _ _ e11, fs_mono s2 hP, _, _, rfl⟩⟩⟩
      | two d0 wo =>
        obtain ⟨a2, u, y, rfl, hS, rfl, hs, hw⟩ := id hf
        obtain ⟨ty, t1, t2⟩ := (Kd.tup hS).isT
        obtain ⟨ty2, t3, t4⟩ := wt_isT hw
        refine ⟨_, rfl, _, _, _, _, true, rfl, .ty "tuple", t1, t2, true, rfl, iteA rfl ⟨_, rfl, a2, _, rfl, .inr hS, rfl, _, rfl, iteA (decide_eq_true rfl) ⟨_, rfl, a2, _, 0, _, rfl, rfl, hS, atI_nat (j := 0) rfl, _, _, .str _, .str _, hs, by decide +kernel, _, rfl, ?_⟩⟩⟩
        cases hk : PyData.eqv (.str d0) (.str "overlap") with
        | false =>
          have ef : takC t (.two d0 wo) = false := by
            cases wo with
            | none => rfl
            | some ds =>
              show (PyData.eqv (.str d0) (.str "overlap") && _) = false
              rw [hk, Bool.false_and]
          refine iteB rfl ?_
          refine ⟨_, rfl, _, rfl, hE.tak hV hln hf fun r H2 er s2 hE2 => ⟨_, _, er, rfl, _, rfl, iteB (by rw [ef]; rfl) ⟨hE2, s2 _ _ e11, fs_mono s2 hP, _, _, rfl⟩⟩⟩
        | true =>
          refine iteA rfl ⟨_, rfl, a2, _, 1, _, rfl, rfl, hS, atI_nat (j := 1) rfl, _, _, _, _, wo.isSome, rfl, .ty "tuple", t3, t4, _, rfl, ?_⟩
          cases wo with
          | none =>
            refine iteB rfl ?_
            refine ⟨_, rfl, _, rfl, hE.tak hV hln hf fun r H2 er s2 hE2 => ⟨_, _, er, rfl, _, rfl, iteB rfl ⟨hE2, s2 _ _ e11, fs_mono s2 hP, _, _, rfl⟩⟩⟩
          | some ds =>
            refine iteA rfl ?_
            obtain ⟨b2, us2, rfl, hSb, hPb, hl2⟩ := id hw
            have etk : takC t (.two d0 (some ds)) = (ds.all isIntD && ((fails t).map fun o : Ov => dW o.1).any fun z => PyData.eqv z (.tuple ds)) := by
              show (PyData.eqv (.str d0) (.str "overlap") && _) = _
              rw [hk, Bool.true_and, List.any_map]
              rfl
            refine ⟨_, rfl, a2, _, 1, _, rfl, rfl, hS, atI_nat (j := 1) rfl, _, rfl, .tuple ds, (fails t).map fun o : Ov => dW o.1, .tup hSb (atom_dp hPb), .lst (.inl (.inl hE.e6)) (WO.dps hE.p6), atoms_shaped hPb, sh_fails t, _, rfl, ?_⟩
            cases hm : (((fails t).map fun o : Ov => dW o.1).any fun z => PyData.eqv z (.tuple ds)) with
            | false =>
              refine iteB rfl ?_
              refine ⟨_, rfl, _, rfl, hE.tak hV hln hf fun r H2 er s2 hE2 => ⟨_, rfl, ?_⟩⟩
              subst er
              exact ⟨rfl, _, rfl, iteB (by rw [etk, hm, Bool.and_false]; exact not_dec rfl) ⟨hE2, s2 _ _ e11, fs_mono s2 hP, _, _, rfl⟩⟩
            | true =>
              refine iteA rfl ?_
              have hul := Paired.length hPb
              refine ⟨_, rfl, a2, _, 1, _, rfl, rfl, hS, atI_nat (j := 1) rfl, b2, rfl, ⟨_, hSb⟩, fun D nD => ?_⟩
              refine lc_filt (walk_tup (xs := us2)) (R := fun (_ : Hp) (_ : V) (_ : Unit) => True) ⟨fun _ h => h, fun _ h => h⟩ (fun k => !isIntD (ds.getD k .none)) (fun _ => ()) (by omega) nD (fun H2 sm => Own.same_tup sm hSb) (fun k y H4 H5 Q2 N hk2 sm hY q2 qN => ?_) (fun H3 acc s3 eD hPf => ?_)
              · obtain ⟨rfl, g5⟩ := hY
                obtain ⟨d, ed, hx⟩ := paired_get hPb g5
                rw [getD_some ed] at q2 qN
                rcases hx with ⟨n, rfl, rfl⟩ | ⟨n, rfl, rfl⟩
                · exact ⟨rfl, _, rfl, _, _, _, _, false, rfl, .ty "bool", .base (.int n), kit_ty (by decide +kernel), false, rfl, iteB rfl (qN rfl _ (Same.refl _))⟩
                · exact ⟨rfl, _, rfl, _, _, _, _, true, rfl, .ty "bool", .base (.bl n), kit_ty (by decide +kernel), true, rfl, iteA rfl ⟨_, rfl, q2 rfl _ _ (Same.refl _) trivial⟩⟩
              · have hE3 := hE.mono s3
                have hlen := Paired.length hPf
                rw [List.length_map, hul, filt_len' (fun d => !isIntD d)] at hlen
                have hdec : decide (V.int (acc.length : Int) = V.int 0) = ds.all isIntD := by
                  rw [hlen]
                  by_cases c : ds.all isIntD = true
                  · rw [c]
                    refine decide_eq_true (congrArg V.int ?_)
                    rw [List.filter_eq_nil_iff.mpr fun d hd => by
                      have := List.all_eq_true.mp c d hd
                      rw [this]
                      decide]
                    rfl
                  · have c : ds.all isIntD = false := by simpa using c
                    rw [c]
                    refine decide_eq_false fun z => ?_
                    have h0 : (ds.filter fun d => !isIntD d).length = 0 := by
                      have := V.int.inj z
                      omega
                    have h0 := List.eq_nil_of_length_eq_zero h0
                    obtain ⟨d, hd, e⟩ := List.all_eq_false.mp c
                    have := List.filter_eq_nil_iff.mp h0 d hd
                    have e : isIntD d = false := by simpa using e
                    rw [e] at this
                    exact this rfl
                refine ⟨D, acc, rfl, .inl (.inl (.inl eD)), rfl, ?_⟩
                rw [hdec]
                refine ⟨_, rfl, _, rfl, hE3.tak hV hln (hf.mono s3) fun r H2 er s2 hE2 => ⟨_, rfl, ?_⟩⟩
                subst er
                exact ⟨rfl, _, rfl, iteB (by rw [etk, hm, Bool.and_true]; exact not_dec rfl) ⟨hE2, s2 _ _ (s3 _ _ e11), fs_mono (s3.trans s2) hP, _, _, rfl⟩⟩
    · exact q H
end
theorem all_mk {l : PySem.W.OpenLaw} {w : World} {K : PySem.W.Frag} {h : Heap} {mg : Str → Option Value} {fa : Addr} (X : K.In h) (G : h.Ns mainGlobals mg) (hfa : mg "law" = some (.ref fa))
    {f__wall : Addr} {od__wall an__wall : Option Addr} {sl__wall : Array (Option Value)} {oc__wall kV__wall dc__wall pm__wall cd__wall ct__wall : Value}
    (a__wall : PySem.W.nsIn K mainGlobals "_wall" = some (some (.ref f__wall))) (l__wall : K.lookup f__wall = some ⟨oc__wall, od__wall, .func (PySem.W.fnOf "_wall" "_wall" (defArgs s__wall) (defBody s__wall) (defScope s__wall) .none kV__wall dc__wall pm__wall an__wall cd__wall ct__wall), sl__wall⟩)
    (c__wall : PySem.W.codeIn K cd__wall "_wall" = true) (k__wall : PySem.W.keepIn K (.ref f__wall) = true)
    {f_is_integer : Addr} {od_is_integer an_is_integer : Option Addr} {sl_is_integer : Array (Option Value)} {oc_is_integer kV_is_integer dc_is_integer pm_is_integer cd_is_integer ct_is_integer : Value}
    (a_is_integer : PySem.W.nsIn K mainGlobals "is_integer" = some (some (.ref f_is_integer))) (l_is_integer : K.lookup f_is_integer = some ⟨oc_is_integer, od_is_integer, .func (PySem.W.fnOf "is_integer" "is_integer" (defArgs s_is_integer) (defBody s_is_integer) (defScope s_is_integer) .none kV_is_integer dc_is_integer pm_is_integer an_is_integer cd_is_integer ct_is_integer), sl_is_integer⟩)
    (c_is_integer : PySem.W.codeIn K cd_is_integer "is_integer" = true) (k_is_integer : PySem.W.keepIn K (.ref f_is_integer) = true)
    {f_is_small_prime : Addr} {od_is_small_prime an_is_small_prime : Option Addr} {sl_is_small_prime : Array (Option Value)} {oc_is_small_prime kV_is_small_prime dc_is_small_prime pm_is_small_prime cd_is_small_prime ct_is_small_prime : Value}
    (a_is_small_prime : PySem.W.nsIn K mainGlobals "is_small_prime" = some (some (.ref f_is_small_prime))) (l_is_small_prime : K.lookup f_is_small_prime = some ⟨oc_is_small_prime, od_is_small_prime, .func (PySem.W.fnOf "is_small_prime" "is_small_prime" (defArgs s_is_small_prime) (defBody s_is_small_prime) (defScope s_is_small_prime) .none kV_is_small_prime dc_is_small_prime pm_is_small_prime an_is_small_prime cd_is_small_prime ct_is_small_prime), sl_is_small_prime⟩)
    (c_is_small_prime : PySem.W.codeIn K cd_is_small_prime "is_small_prime" = true) (k_is_small_prime : PySem.W.keepIn K (.ref f_is_small_prime) = true)
    {f__last_place : Addr} {od__last_place an__last_place : Option Addr} {sl__last_place : Array (Option Value)} {oc__last_place kV__last_place dc__last_place pm__last_place cd__last_place ct__last_place : Value}
    (a__last_place : PySem.W.nsIn K mainGlobals "_last_place" = some (some (.ref f__last_place))) (l__last_place : K.lookup f__last_place = some ⟨oc__last_place, od__last_place, .func (PySem.W.fnOf "_last_place" "_last_place" (defArgs s__last_place) (defBody s__last_place) (defScope s__last_place) .none kV__last_place dc__last_place pm__last_place an__last_place cd__last_place ct__last_place), sl__last_place⟩)
    (c__last_place : PySem.W.codeIn K cd__last_place "_last_place" = true) (k__last_place : PySem.W.keepIn K (.ref f__last_place) = true)
    {f__overlaps_of_three : Addr} {od__overlaps_of_three an__overlaps_of_three : Option Addr} {sl__overlaps_of_three : Array (Option Value)} {oc__overlaps_of_three kV__overlaps_of_three dc__overlaps_of_three pm__overlaps_of_three cd__overlaps_of_three ct__overlaps_of_three : Value}
    (a__overlaps_of_three : PySem.W.nsIn K mainGlobals "_overlaps_of_three" = some (some (.ref f__overlaps_of_three))) (l__overlaps_of_three : K.lookup f__overlaps_of_three = some ⟨oc__overlaps_of_three, od__overlaps_of_three, .func (PySem.W.fnOf "_overlaps_of_three" "_overlaps_of_three" (defArgs s__overlaps_of_three) (defBody s__overlaps_of_three) (defScope s__overlaps_of_three) .none kV__overlaps_of_three dc__overlaps_of_three pm__overlaps_of_three an__overlaps_of_three cd__overlaps_of_three ct__overlaps_of_three), sl__overlaps_of_three⟩)
    (c__overlaps_of_three : PySem.W.codeIn K cd__overlaps_of_three "_overlaps_of_three" = true) (k__overlaps_of_three : PySem.W.keepIn K (.ref f__overlaps_of_three) = true)
    {f__overlaps_of_later_power : Addr} {od__overlaps_of_later_power an__overlaps_of_later_power : Option Addr} {sl__overlaps_of_later_power : Array (Option Value)} {oc__overlaps_of_later_power kV__overlaps_of_later_power dc__overlaps_of_later_power pm__overlaps_of_later_power cd__overlaps_of_later_power ct__overlaps_of_later_power : Value}
    (a__overlaps_of_later_power : PySem.W.nsIn K mainGlobals "_overlaps_of_later_power" = some (some (.ref f__overlaps_of_later_power))) (l__overlaps_of_later_power : K.lookup f__overlaps_of_later_power = some ⟨oc__overlaps_of_later_power, od__overlaps_of_later_power, .func (PySem.W.fnOf "_overlaps_of_later_power" "_overlaps_of_later_power" (defArgs s__overlaps_of_later_power) (defBody s__overlaps_of_later_power) (defScope s__overlaps_of_later_power) .none kV__overlaps_of_later_power dc__overlaps_of_later_power pm__overlaps_of_later_power an__overlaps_of_later_power cd__overlaps_of_later_power ct__overlaps_of_later_power), sl__overlaps_of_later_power⟩)
    (c__overlaps_of_later_power : PySem.W.codeIn K cd__overlaps_of_later_power "_overlaps_of_later_power" = true) (k__overlaps_of_later_power : PySem.W.keepIn K (.ref f__overlaps_of_later_power) = true)
    {f__overlaps_of_earlier_power : Addr} {od__overlaps_of_earlier_power an__overlaps_of_earlier_power : Option Addr} {sl__overlaps_of_earlier_power : Array (Option Value)} {oc__overlaps_of_earlier_power kV__overlaps_of_earlier_power dc__overlaps_of_earlier_power pm__overlaps_of_earlier_power cd__overlaps_of_earlier_power ct__overlaps_of_earlier_power : Value}
    (a__overlaps_of_earlier_power : PySem.W.nsIn K mainGlobals "_overlaps_of_earlier_power" = some (some (.ref f__overlaps_of_earlier_power))) (l__overlaps_of_earlier_power : K.lookup f__overlaps_of_earlier_power = some ⟨oc__overlaps_of_earlier_power, od__overlaps_of_earlier_power, .func (PySem.W.fnOf "_overlaps_of_earlier_power" "_overlaps_of_earlier_power" (defArgs s__overlaps_of_earlier_power) (defBody s__overlaps_of_earlier_power) (defScope s__overlaps_of_earlier_power) .none kV__overlaps_of_earlier_power dc__overlaps_of_earlier_power pm__overlaps_of_earlier_power an__overlaps_of_earlier_power cd__overlaps_of_earlier_power ct__overlaps_of_earlier_power), sl__overlaps_of_earlier_power⟩)
    (c__overlaps_of_earlier_power : PySem.W.codeIn K cd__overlaps_of_earlier_power "_overlaps_of_earlier_power" = true) (k__overlaps_of_earlier_power : PySem.W.keepIn K (.ref f__overlaps_of_earlier_power) = true)
    {f__overlap_of_power : Addr} {od__overlap_of_power an__overlap_of_power : Option Addr} {sl__overlap_of_power : Array (Option Value)} {oc__overlap_of_power kV__overlap_of_power dc__overlap_of_power pm__overlap_of_power cd__overlap_of_power ct__overlap_of_power : Value}
    (a__overlap_of_power : PySem.W.nsIn K mainGlobals "_overlap_of_power" = some (some (.ref f__overlap_of_power))) (l__overlap_of_power : K.lookup f__overlap_of_power = some ⟨oc__overlap_of_power, od__overlap_of_power, .func (PySem.W.fnOf "_overlap_of_power" "_overlap_of_power" (defArgs s__overlap_of_power) (defBody s__overlap_of_power) (defScope s__overlap_of_power) .none kV__overlap_of_power dc__overlap_of_power pm__overlap_of_power an__overlap_of_power cd__overlap_of_power ct__overlap_of_power), sl__overlap_of_power⟩)
    (c__overlap_of_power : PySem.W.codeIn K cd__overlap_of_power "_overlap_of_power" = true) (k__overlap_of_power : PySem.W.keepIn K (.ref f__overlap_of_power) = true)
    {f_overlaps : Addr} {od_overlaps an_overlaps : Option Addr} {sl_overlaps : Array (Option Value)} {oc_overlaps kV_overlaps dc_overlaps pm_overlaps cd_overlaps ct_overlaps : Value}
    (a_overlaps : PySem.W.nsIn K mainGlobals "overlaps" = some (some (.ref f_overlaps))) (l_overlaps : K.lookup f_overlaps = some ⟨oc_overlaps, od_overlaps, .func (PySem.W.fnOf "overlaps" "overlaps" (defArgs s_overlaps) (defBody s_overlaps) (defScope s_overlaps) .none kV_overlaps dc_overlaps pm_overlaps an_overlaps cd_overlaps ct_overlaps), sl_overlaps⟩)
    (c_overlaps : PySem.W.codeIn K cd_overlaps "overlaps" = true) (k_overlaps : PySem.W.keepIn K (.ref f_overlaps) = true)
    {f_failing_overlap : Addr} {od_failing_overlap an_failing_overlap : Option Addr} {sl_failing_overlap : Array (Option Value)} {oc_failing_overlap kV_failing_overlap dc_failing_overlap pm_failing_overlap cd_failing_overlap ct_failing_overlap : Value}
    (a_failing_overlap : PySem.W.nsIn K mainGlobals "failing_overlap" = some (some (.ref f_failing_overlap))) (l_failing_overlap : K.lookup f_failing_overlap = some ⟨oc_failing_overlap, od_failing_overlap, .func (PySem.W.fnOf "failing_overlap" "failing_overlap" (defArgs s_failing_overlap) (defBody s_failing_overlap) (defScope s_failing_overlap) .none kV_failing_overlap dc_failing_overlap pm_failing_overlap an_failing_overlap cd_failing_overlap ct_failing_overlap), sl_failing_overlap⟩)
    (c_failing_overlap : PySem.W.codeIn K cd_failing_overlap "failing_overlap" = true) (k_failing_overlap : PySem.W.keepIn K (.ref f_failing_overlap) = true)
    {f__has_kind : Addr} {od__has_kind an__has_kind : Option Addr} {sl__has_kind : Array (Option Value)} {oc__has_kind kV__has_kind dc__has_kind pm__has_kind cd__has_kind ct__has_kind : Value}
    (a__has_kind : PySem.W.nsIn K mainGlobals "_has_kind" = some (some (.ref f__has_kind))) (l__has_kind : K.lookup f__has_kind = some ⟨oc__has_kind, od__has_kind, .func (PySem.W.fnOf "_has_kind" "_has_kind" (defArgs s__has_kind) (defBody s__has_kind) (defScope s__has_kind) .none kV__has_kind dc__has_kind pm__has_kind an__has_kind cd__has_kind ct__has_kind), sl__has_kind⟩)
    (c__has_kind : PySem.W.codeIn K cd__has_kind "_has_kind" = true) (k__has_kind : PySem.W.keepIn K (.ref f__has_kind) = true)
    {f__are_letters : Addr} {od__are_letters an__are_letters : Option Addr} {sl__are_letters : Array (Option Value)} {oc__are_letters kV__are_letters dc__are_letters pm__are_letters cd__are_letters ct__are_letters : Value}
    (a__are_letters : PySem.W.nsIn K mainGlobals "_are_letters" = some (some (.ref f__are_letters))) (l__are_letters : K.lookup f__are_letters = some ⟨oc__are_letters, od__are_letters, .func (PySem.W.fnOf "_are_letters" "_are_letters" (defArgs s__are_letters) (defBody s__are_letters) (defScope s__are_letters) .none kV__are_letters dc__are_letters pm__are_letters an__are_letters cd__are_letters ct__are_letters), sl__are_letters⟩)
    (c__are_letters : PySem.W.codeIn K cd__are_letters "_are_letters" = true) (k__are_letters : PySem.W.keepIn K (.ref f__are_letters) = true)
    {f_takes_consistent : Addr} {od_takes_consistent an_takes_consistent : Option Addr} {sl_takes_consistent : Array (Option Value)} {oc_takes_consistent kV_takes_consistent dc_takes_consistent pm_takes_consistent cd_takes_consistent ct_takes_consistent : Value}
    (a_takes_consistent : PySem.W.nsIn K mainGlobals "takes_consistent" = some (some (.ref f_takes_consistent))) (l_takes_consistent : K.lookup f_takes_consistent = some ⟨oc_takes_consistent, od_takes_consistent, .func (PySem.W.fnOf "takes_consistent" "takes_consistent" (defArgs s_takes_consistent) (defBody s_takes_consistent) (defScope s_takes_consistent) .none kV_takes_consistent dc_takes_consistent pm_takes_consistent an_takes_consistent cd_takes_consistent ct_takes_consistent), sl_takes_consistent⟩)
    (c_takes_consistent : PySem.W.codeIn K cd_takes_consistent "takes_consistent" = true) (k_takes_consistent : PySem.W.keepIn K (.ref f_takes_consistent) = true)
    {f__is_row : Addr} {od__is_row an__is_row : Option Addr} {sl__is_row : Array (Option Value)} {oc__is_row kV__is_row dc__is_row pm__is_row cd__is_row ct__is_row : Value}
    (a__is_row : PySem.W.nsIn K mainGlobals "_is_row" = some (some (.ref f__is_row))) (l__is_row : K.lookup f__is_row = some ⟨oc__is_row, od__is_row, .func (PySem.W.fnOf "_is_row" "_is_row" (defArgs s__is_row) (defBody s__is_row) (defScope s__is_row) .none kV__is_row dc__is_row pm__is_row an__is_row cd__is_row ct__is_row), sl__is_row⟩)
    (c__is_row : PySem.W.codeIn K cd__is_row "_is_row" = true) (k__is_row : PySem.W.keepIn K (.ref f__is_row) = true)
    {f__is_right_side : Addr} {od__is_right_side an__is_right_side : Option Addr} {sl__is_right_side : Array (Option Value)} {oc__is_right_side kV__is_right_side dc__is_right_side pm__is_right_side cd__is_right_side ct__is_right_side : Value}
    (a__is_right_side : PySem.W.nsIn K mainGlobals "_is_right_side" = some (some (.ref f__is_right_side))) (l__is_right_side : K.lookup f__is_right_side = some ⟨oc__is_right_side, od__is_right_side, .func (PySem.W.fnOf "_is_right_side" "_is_right_side" (defArgs s__is_right_side) (defBody s__is_right_side) (defScope s__is_right_side) .none kV__is_right_side dc__is_right_side pm__is_right_side an__is_right_side cd__is_right_side ct__is_right_side), sl__is_right_side⟩)
    (c__is_right_side : PySem.W.codeIn K cd__is_right_side "_is_right_side" = true) (k__is_right_side : PySem.W.keepIn K (.ref f__is_right_side) = true)
    {f__are_right_sides : Addr} {od__are_right_sides an__are_right_sides : Option Addr} {sl__are_right_sides : Array (Option Value)} {oc__are_right_sides kV__are_right_sides dc__are_right_sides pm__are_right_sides cd__are_right_sides ct__are_right_sides : Value}
    (a__are_right_sides : PySem.W.nsIn K mainGlobals "_are_right_sides" = some (some (.ref f__are_right_sides))) (l__are_right_sides : K.lookup f__are_right_sides = some ⟨oc__are_right_sides, od__are_right_sides, .func (PySem.W.fnOf "_are_right_sides" "_are_right_sides" (defArgs s__are_right_sides) (defBody s__are_right_sides) (defScope s__are_right_sides) .none kV__are_right_sides dc__are_right_sides pm__are_right_sides an__are_right_sides cd__are_right_sides ct__are_right_sides), sl__are_right_sides⟩)
    (c__are_right_sides : PySem.W.codeIn K cd__are_right_sides "_are_right_sides" = true) (k__are_right_sides : PySem.W.keepIn K (.ref f__are_right_sides) = true)
    {f__are_primes : Addr} {od__are_primes an__are_primes : Option Addr} {sl__are_primes : Array (Option Value)} {oc__are_primes kV__are_primes dc__are_primes pm__are_primes cd__are_primes ct__are_primes : Value}
    (a__are_primes : PySem.W.nsIn K mainGlobals "_are_primes" = some (some (.ref f__are_primes))) (l__are_primes : K.lookup f__are_primes = some ⟨oc__are_primes, od__are_primes, .func (PySem.W.fnOf "_are_primes" "_are_primes" (defArgs s__are_primes) (defBody s__are_primes) (defScope s__are_primes) .none kV__are_primes dc__are_primes pm__are_primes an__are_primes cd__are_primes ct__are_primes), sl__are_primes⟩)
    (c__are_primes : PySem.W.codeIn K cd__are_primes "_are_primes" = true) (k__are_primes : PySem.W.keepIn K (.ref f__are_primes) = true)
    {f__are_powers : Addr} {od__are_powers an__are_powers : Option Addr} {sl__are_powers : Array (Option Value)} {oc__are_powers kV__are_powers dc__are_powers pm__are_powers cd__are_powers ct__are_powers : Value}
    (a__are_powers : PySem.W.nsIn K mainGlobals "_are_powers" = some (some (.ref f__are_powers))) (l__are_powers : K.lookup f__are_powers = some ⟨oc__are_powers, od__are_powers, .func (PySem.W.fnOf "_are_powers" "_are_powers" (defArgs s__are_powers) (defBody s__are_powers) (defScope s__are_powers) .none kV__are_powers dc__are_powers pm__are_powers an__are_powers cd__are_powers ct__are_powers), sl__are_powers⟩)
    (c__are_powers : PySem.W.codeIn K cd__are_powers "_are_powers" = true) (k__are_powers : PySem.W.keepIn K (.ref f__are_powers) = true)
    {f__are_conjugates : Addr} {od__are_conjugates an__are_conjugates : Option Addr} {sl__are_conjugates : Array (Option Value)} {oc__are_conjugates kV__are_conjugates dc__are_conjugates pm__are_conjugates cd__are_conjugates ct__are_conjugates : Value}
    (a__are_conjugates : PySem.W.nsIn K mainGlobals "_are_conjugates" = some (some (.ref f__are_conjugates))) (l__are_conjugates : K.lookup f__are_conjugates = some ⟨oc__are_conjugates, od__are_conjugates, .func (PySem.W.fnOf "_are_conjugates" "_are_conjugates" (defArgs s__are_conjugates) (defBody s__are_conjugates) (defScope s__are_conjugates) .none kV__are_conjugates dc__are_conjugates pm__are_conjugates an__are_conjugates cd__are_conjugates ct__are_conjugates), sl__are_conjugates⟩)
    (c__are_conjugates : PySem.W.codeIn K cd__are_conjugates "_are_conjugates" = true) (k__are_conjugates : PySem.W.keepIn K (.ref f__are_conjugates) = true)
    {f__order_of : Addr} {od__order_of an__order_of : Option Addr} {sl__order_of : Array (Option Value)} {oc__order_of kV__order_of dc__order_of pm__order_of cd__order_of ct__order_of : Value}
    (a__order_of : PySem.W.nsIn K mainGlobals "_order_of" = some (some (.ref f__order_of))) (l__order_of : K.lookup f__order_of = some ⟨oc__order_of, od__order_of, .func (PySem.W.fnOf "_order_of" "_order_of" (defArgs s__order_of) (defBody s__order_of) (defScope s__order_of) .none kV__order_of dc__order_of pm__order_of an__order_of cd__order_of ct__order_of), sl__order_of⟩)
    (c__order_of : PySem.W.codeIn K cd__order_of "_order_of" = true) (k__order_of : PySem.W.keepIn K (.ref f__order_of) = true)
    {f__row_text : Addr} {od__row_text an__row_text : Option Addr} {sl__row_text : Array (Option Value)} {oc__row_text kV__row_text dc__row_text pm__row_text cd__row_text ct__row_text : Value}
    (a__row_text : PySem.W.nsIn K mainGlobals "_row_text" = some (some (.ref f__row_text))) (l__row_text : K.lookup f__row_text = some ⟨oc__row_text, od__row_text, .func (PySem.W.fnOf "_row_text" "_row_text" (defArgs s__row_text) (defBody s__row_text) (defScope s__row_text) .none kV__row_text dc__row_text pm__row_text an__row_text cd__row_text ct__row_text), sl__row_text⟩)
    (c__row_text : PySem.W.codeIn K cd__row_text "_row_text" = true) (k__row_text : PySem.W.keepIn K (.ref f__row_text) = true)
    {f__right_sides : Addr} {od__right_sides an__right_sides : Option Addr} {sl__right_sides : Array (Option Value)} {oc__right_sides kV__right_sides dc__right_sides pm__right_sides cd__right_sides ct__right_sides : Value}
    (a__right_sides : PySem.W.nsIn K mainGlobals "_right_sides" = some (some (.ref f__right_sides))) (l__right_sides : K.lookup f__right_sides = some ⟨oc__right_sides, od__right_sides, .func (PySem.W.fnOf "_right_sides" "_right_sides" (defArgs s__right_sides) (defBody s__right_sides) (defScope s__right_sides) .none kV__right_sides dc__right_sides pm__right_sides an__right_sides cd__right_sides ct__right_sides), sl__right_sides⟩)
    (c__right_sides : PySem.W.codeIn K cd__right_sides "_right_sides" = true) (k__right_sides : PySem.W.keepIn K (.ref f__right_sides) = true)
    {f_consistency_paper : Addr} {od_consistency_paper an_consistency_paper : Option Addr} {sl_consistency_paper : Array (Option Value)} {oc_consistency_paper kV_consistency_paper dc_consistency_paper pm_consistency_paper cd_consistency_paper ct_consistency_paper : Value}
    (a_consistency_paper : PySem.W.nsIn K mainGlobals "consistency_paper" = some (some (.ref f_consistency_paper))) (l_consistency_paper : K.lookup f_consistency_paper = some ⟨oc_consistency_paper, od_consistency_paper, .func (PySem.W.fnOf "consistency_paper" "consistency_paper" (defArgs s_consistency_paper) (defBody s_consistency_paper) (defScope s_consistency_paper) .none kV_consistency_paper dc_consistency_paper pm_consistency_paper an_consistency_paper cd_consistency_paper ct_consistency_paper), sl_consistency_paper⟩)
    (c_consistency_paper : PySem.W.codeIn K cd_consistency_paper "consistency_paper" = true) (k_consistency_paper : PySem.W.keepIn K (.ref f_consistency_paper) = true)
    {f__law_state : Addr} {od__law_state an__law_state : Option Addr} {sl__law_state : Array (Option Value)} {oc__law_state kV__law_state dc__law_state pm__law_state cd__law_state ct__law_state : Value}
    (a__law_state : PySem.W.nsIn K mainGlobals "_law_state" = some (some (.ref f__law_state))) (l__law_state : K.lookup f__law_state = some ⟨oc__law_state, od__law_state, .func (PySem.W.fnOf "_law_state" "_law_state" (defArgs s__law_state) (defBody s__law_state) (defScope s__law_state) .none kV__law_state dc__law_state pm__law_state an__law_state cd__law_state ct__law_state), sl__law_state⟩)
    (c__law_state : PySem.W.codeIn K cd__law_state "_law_state" = true) (k__law_state : PySem.W.keepIn K (.ref f__law_state) = true)
    {f__law_take : Addr} {od__law_take an__law_take : Option Addr} {sl__law_take : Array (Option Value)} {oc__law_take kV__law_take dc__law_take pm__law_take cd__law_take ct__law_take : Value}
    (a__law_take : PySem.W.nsIn K mainGlobals "_law_take" = some (some (.ref f__law_take))) (l__law_take : K.lookup f__law_take = some ⟨oc__law_take, od__law_take, .func (PySem.W.fnOf "_law_take" "_law_take" (defArgs s__law_take) (defBody s__law_take) (defScope s__law_take) .none kV__law_take dc__law_take pm__law_take an__law_take cd__law_take ct__law_take), sl__law_take⟩)
    (c__law_take : PySem.W.codeIn K cd__law_take "_law_take" = true) (k__law_take : PySem.W.keepIn K (.ref f__law_take) = true)
    {f__law_made : Addr} {od__law_made an__law_made : Option Addr} {sl__law_made : Array (Option Value)} {oc__law_made kV__law_made dc__law_made pm__law_made cd__law_made ct__law_made : Value}
    (a__law_made : PySem.W.nsIn K mainGlobals "_law_made" = some (some (.ref f__law_made))) (l__law_made : K.lookup f__law_made = some ⟨oc__law_made, od__law_made, .func (PySem.W.fnOf "_law_made" "_law_made" (defArgs s__law_made) (defBody s__law_made) (defScope s__law_made) .none kV__law_made dc__law_made pm__law_made an__law_made cd__law_made ct__law_made), sl__law_made⟩)
    (c__law_made : PySem.W.codeIn K cd__law_made "_law_made" = true) (k__law_made : PySem.W.keepIn K (.ref f__law_made) = true)
    {f__law_size : Addr} {od__law_size an__law_size : Option Addr} {sl__law_size : Array (Option Value)} {oc__law_size kV__law_size dc__law_size pm__law_size cd__law_size ct__law_size : Value}
    (a__law_size : PySem.W.nsIn K mainGlobals "_law_size" = some (some (.ref f__law_size))) (l__law_size : K.lookup f__law_size = some ⟨oc__law_size, od__law_size, .func (PySem.W.fnOf "_law_size" "_law_size" (defArgs s__law_size) (defBody s__law_size) (defScope s__law_size) .none kV__law_size dc__law_size pm__law_size an__law_size cd__law_size ct__law_size), sl__law_size⟩)
    (c__law_size : PySem.W.codeIn K cd__law_size "_law_size" = true) (k__law_size : PySem.W.keepIn K (.ref f__law_size) = true)
    {f__law_steep : Addr} {od__law_steep an__law_steep : Option Addr} {sl__law_steep : Array (Option Value)} {oc__law_steep kV__law_steep dc__law_steep pm__law_steep cd__law_steep ct__law_steep : Value}
    (a__law_steep : PySem.W.nsIn K mainGlobals "_law_steep" = some (some (.ref f__law_steep))) (l__law_steep : K.lookup f__law_steep = some ⟨oc__law_steep, od__law_steep, .func (PySem.W.fnOf "_law_steep" "_law_steep" (defArgs s__law_steep) (defBody s__law_steep) (defScope s__law_steep) .none kV__law_steep dc__law_steep pm__law_steep an__law_steep cd__law_steep ct__law_steep), sl__law_steep⟩)
    (c__law_steep : PySem.W.codeIn K cd__law_steep "_law_steep" = true) (k__law_steep : PySem.W.keepIn K (.ref f__law_steep) = true)
    {f__law_flat : Addr} {od__law_flat an__law_flat : Option Addr} {sl__law_flat : Array (Option Value)} {oc__law_flat kV__law_flat dc__law_flat pm__law_flat cd__law_flat ct__law_flat : Value}
    (a__law_flat : PySem.W.nsIn K mainGlobals "_law_flat" = some (some (.ref f__law_flat))) (l__law_flat : K.lookup f__law_flat = some ⟨oc__law_flat, od__law_flat, .func (PySem.W.fnOf "_law_flat" "_law_flat" (defArgs s__law_flat) (defBody s__law_flat) (defScope s__law_flat) .none kV__law_flat dc__law_flat pm__law_flat an__law_flat cd__law_flat ct__law_flat), sl__law_flat⟩)
    (c__law_flat : PySem.W.codeIn K cd__law_flat "_law_flat" = true) (k__law_flat : PySem.W.keepIn K (.ref f__law_flat) = true)
    {f__law_beside : Addr} {od__law_beside an__law_beside : Option Addr} {sl__law_beside : Array (Option Value)} {oc__law_beside kV__law_beside dc__law_beside pm__law_beside cd__law_beside ct__law_beside : Value}
    (a__law_beside : PySem.W.nsIn K mainGlobals "_law_beside" = some (some (.ref f__law_beside))) (l__law_beside : K.lookup f__law_beside = some ⟨oc__law_beside, od__law_beside, .func (PySem.W.fnOf "_law_beside" "_law_beside" (defArgs s__law_beside) (defBody s__law_beside) (defScope s__law_beside) .none kV__law_beside dc__law_beside pm__law_beside an__law_beside cd__law_beside ct__law_beside), sl__law_beside⟩)
    (c__law_beside : PySem.W.codeIn K cd__law_beside "_law_beside" = true) (k__law_beside : PySem.W.keepIn K (.ref f__law_beside) = true)
    {f__law_step : Addr} {od__law_step an__law_step : Option Addr} {sl__law_step : Array (Option Value)} {oc__law_step kV__law_step dc__law_step pm__law_step cd__law_step ct__law_step : Value}
    (a__law_step : PySem.W.nsIn K mainGlobals "_law_step" = some (some (.ref f__law_step))) (l__law_step : K.lookup f__law_step = some ⟨oc__law_step, od__law_step, .func (PySem.W.fnOf "_law_step" "_law_step" (defArgs s__law_step) (defBody s__law_step) (defScope s__law_step) .none kV__law_step dc__law_step pm__law_step an__law_step cd__law_step ct__law_step), sl__law_step⟩)
    (c__law_step : PySem.W.codeIn K cd__law_step "_law_step" = true) (k__law_step : PySem.W.keepIn K (.ref f__law_step) = true)
    {f__law_times : Addr} {od__law_times an__law_times : Option Addr} {sl__law_times : Array (Option Value)} {oc__law_times kV__law_times dc__law_times pm__law_times cd__law_times ct__law_times : Value}
    (a__law_times : PySem.W.nsIn K mainGlobals "_law_times" = some (some (.ref f__law_times))) (l__law_times : K.lookup f__law_times = some ⟨oc__law_times, od__law_times, .func (PySem.W.fnOf "_law_times" "_law_times" (defArgs s__law_times) (defBody s__law_times) (defScope s__law_times) .none kV__law_times dc__law_times pm__law_times an__law_times cd__law_times ct__law_times), sl__law_times⟩)
    (c__law_times : PySem.W.codeIn K cd__law_times "_law_times" = true) (k__law_times : PySem.W.keepIn K (.ref f__law_times) = true)
    {f__law_inverse : Addr} {od__law_inverse an__law_inverse : Option Addr} {sl__law_inverse : Array (Option Value)} {oc__law_inverse kV__law_inverse dc__law_inverse pm__law_inverse cd__law_inverse ct__law_inverse : Value}
    (a__law_inverse : PySem.W.nsIn K mainGlobals "_law_inverse" = some (some (.ref f__law_inverse))) (l__law_inverse : K.lookup f__law_inverse = some ⟨oc__law_inverse, od__law_inverse, .func (PySem.W.fnOf "_law_inverse" "_law_inverse" (defArgs s__law_inverse) (defBody s__law_inverse) (defScope s__law_inverse) .none kV__law_inverse dc__law_inverse pm__law_inverse an__law_inverse cd__law_inverse ct__law_inverse), sl__law_inverse⟩)
    (c__law_inverse : PySem.W.codeIn K cd__law_inverse "_law_inverse" = true) (k__law_inverse : PySem.W.keepIn K (.ref f__law_inverse) = true)
    {f__law_conjugated : Addr} {od__law_conjugated an__law_conjugated : Option Addr} {sl__law_conjugated : Array (Option Value)} {oc__law_conjugated kV__law_conjugated dc__law_conjugated pm__law_conjugated cd__law_conjugated ct__law_conjugated : Value}
    (a__law_conjugated : PySem.W.nsIn K mainGlobals "_law_conjugated" = some (some (.ref f__law_conjugated))) (l__law_conjugated : K.lookup f__law_conjugated = some ⟨oc__law_conjugated, od__law_conjugated, .func (PySem.W.fnOf "_law_conjugated" "_law_conjugated" (defArgs s__law_conjugated) (defBody s__law_conjugated) (defScope s__law_conjugated) .none kV__law_conjugated dc__law_conjugated pm__law_conjugated an__law_conjugated cd__law_conjugated ct__law_conjugated), sl__law_conjugated⟩)
    (c__law_conjugated : PySem.W.codeIn K cd__law_conjugated "_law_conjugated" = true) (k__law_conjugated : PySem.W.keepIn K (.ref f__law_conjugated) = true)
    {f__law_generator : Addr} {od__law_generator an__law_generator : Option Addr} {sl__law_generator : Array (Option Value)} {oc__law_generator kV__law_generator dc__law_generator pm__law_generator cd__law_generator ct__law_generator : Value}
    (a__law_generator : PySem.W.nsIn K mainGlobals "_law_generator" = some (some (.ref f__law_generator))) (l__law_generator : K.lookup f__law_generator = some ⟨oc__law_generator, od__law_generator, .func (PySem.W.fnOf "_law_generator" "_law_generator" (defArgs s__law_generator) (defBody s__law_generator) (defScope s__law_generator) .none kV__law_generator dc__law_generator pm__law_generator an__law_generator cd__law_generator ct__law_generator), sl__law_generator⟩)
    (c__law_generator : PySem.W.codeIn K cd__law_generator "_law_generator" = true) (k__law_generator : PySem.W.keepIn K (.ref f__law_generator) = true)
    {f__law_new_row : Addr} {od__law_new_row an__law_new_row : Option Addr} {sl__law_new_row : Array (Option Value)} {oc__law_new_row kV__law_new_row dc__law_new_row pm__law_new_row cd__law_new_row ct__law_new_row : Value}
    (a__law_new_row : PySem.W.nsIn K mainGlobals "_law_new_row" = some (some (.ref f__law_new_row))) (l__law_new_row : K.lookup f__law_new_row = some ⟨oc__law_new_row, od__law_new_row, .func (PySem.W.fnOf "_law_new_row" "_law_new_row" (defArgs s__law_new_row) (defBody s__law_new_row) (defScope s__law_new_row) .none kV__law_new_row dc__law_new_row pm__law_new_row an__law_new_row cd__law_new_row ct__law_new_row), sl__law_new_row⟩)
    (c__law_new_row : PySem.W.codeIn K cd__law_new_row "_law_new_row" = true) (k__law_new_row : PySem.W.keepIn K (.ref f__law_new_row) = true)
    {f__law_twisted : Addr} {od__law_twisted an__law_twisted : Option Addr} {sl__law_twisted : Array (Option Value)} {oc__law_twisted kV__law_twisted dc__law_twisted pm__law_twisted cd__law_twisted ct__law_twisted : Value}
    (a__law_twisted : PySem.W.nsIn K mainGlobals "_law_twisted" = some (some (.ref f__law_twisted))) (l__law_twisted : K.lookup f__law_twisted = some ⟨oc__law_twisted, od__law_twisted, .func (PySem.W.fnOf "_law_twisted" "_law_twisted" (defArgs s__law_twisted) (defBody s__law_twisted) (defScope s__law_twisted) .none kV__law_twisted dc__law_twisted pm__law_twisted an__law_twisted cd__law_twisted ct__law_twisted), sl__law_twisted⟩)
    (c__law_twisted : PySem.W.codeIn K cd__law_twisted "_law_twisted" = true) (k__law_twisted : PySem.W.keepIn K (.ref f__law_twisted) = true)
    {f__law_group : Addr} {od__law_group an__law_group : Option Addr} {sl__law_group : Array (Option Value)} {oc__law_group kV__law_group dc__law_group pm__law_group cd__law_group ct__law_group : Value}
    (a__law_group : PySem.W.nsIn K mainGlobals "_law_group" = some (some (.ref f__law_group))) (l__law_group : K.lookup f__law_group = some ⟨oc__law_group, od__law_group, .func (PySem.W.fnOf "_law_group" "_law_group" (defArgs s__law_group) (defBody s__law_group) (defScope s__law_group) .none kV__law_group dc__law_group pm__law_group an__law_group cd__law_group ct__law_group), sl__law_group⟩)
    (c__law_group : PySem.W.codeIn K cd__law_group "_law_group" = true) (k__law_group : PySem.W.keepIn K (.ref f__law_group) = true)
    {f__law_bent : Addr} {od__law_bent an__law_bent : Option Addr} {sl__law_bent : Array (Option Value)} {oc__law_bent kV__law_bent dc__law_bent pm__law_bent cd__law_bent ct__law_bent : Value}
    (a__law_bent : PySem.W.nsIn K mainGlobals "_law_bent" = some (some (.ref f__law_bent))) (l__law_bent : K.lookup f__law_bent = some ⟨oc__law_bent, od__law_bent, .func (PySem.W.fnOf "_law_bent" "_law_bent" (defArgs s__law_bent) (defBody s__law_bent) (defScope s__law_bent) .none kV__law_bent dc__law_bent pm__law_bent an__law_bent cd__law_bent ct__law_bent), sl__law_bent⟩)
    (c__law_bent : PySem.W.codeIn K cd__law_bent "_law_bent" = true) (k__law_bent : PySem.W.keepIn K (.ref f__law_bent) = true)
    {f__law_letters : Addr} {od__law_letters an__law_letters : Option Addr} {sl__law_letters : Array (Option Value)} {oc__law_letters kV__law_letters dc__law_letters pm__law_letters cd__law_letters ct__law_letters : Value}
    (a__law_letters : PySem.W.nsIn K mainGlobals "_law_letters" = some (some (.ref f__law_letters))) (l__law_letters : K.lookup f__law_letters = some ⟨oc__law_letters, od__law_letters, .func (PySem.W.fnOf "_law_letters" "_law_letters" (defArgs s__law_letters) (defBody s__law_letters) (defScope s__law_letters) .none kV__law_letters dc__law_letters pm__law_letters an__law_letters cd__law_letters ct__law_letters), sl__law_letters⟩)
    (c__law_letters : PySem.W.codeIn K cd__law_letters "_law_letters" = true) (k__law_letters : PySem.W.keepIn K (.ref f__law_letters) = true)
    {f__law_row_of : Addr} {od__law_row_of an__law_row_of : Option Addr} {sl__law_row_of : Array (Option Value)} {oc__law_row_of kV__law_row_of dc__law_row_of pm__law_row_of cd__law_row_of ct__law_row_of : Value}
    (a__law_row_of : PySem.W.nsIn K mainGlobals "_law_row_of" = some (some (.ref f__law_row_of))) (l__law_row_of : K.lookup f__law_row_of = some ⟨oc__law_row_of, od__law_row_of, .func (PySem.W.fnOf "_law_row_of" "_law_row_of" (defArgs s__law_row_of) (defBody s__law_row_of) (defScope s__law_row_of) .none kV__law_row_of dc__law_row_of pm__law_row_of an__law_row_of cd__law_row_of ct__law_row_of), sl__law_row_of⟩)
    (c__law_row_of : PySem.W.codeIn K cd__law_row_of "_law_row_of" = true) (k__law_row_of : PySem.W.keepIn K (.ref f__law_row_of) = true)
    {f__law_overlaps : Addr} {od__law_overlaps an__law_overlaps : Option Addr} {sl__law_overlaps : Array (Option Value)} {oc__law_overlaps kV__law_overlaps dc__law_overlaps pm__law_overlaps cd__law_overlaps ct__law_overlaps : Value}
    (a__law_overlaps : PySem.W.nsIn K mainGlobals "_law_overlaps" = some (some (.ref f__law_overlaps))) (l__law_overlaps : K.lookup f__law_overlaps = some ⟨oc__law_overlaps, od__law_overlaps, .func (PySem.W.fnOf "_law_overlaps" "_law_overlaps" (defArgs s__law_overlaps) (defBody s__law_overlaps) (defScope s__law_overlaps) .none kV__law_overlaps dc__law_overlaps pm__law_overlaps an__law_overlaps cd__law_overlaps ct__law_overlaps), sl__law_overlaps⟩)
    (c__law_overlaps : PySem.W.codeIn K cd__law_overlaps "_law_overlaps" = true) (k__law_overlaps : PySem.W.keepIn K (.ref f__law_overlaps) = true)
    {f_law : Addr} {od_law an_law : Option Addr} {sl_law : Array (Option Value)} {oc_law kV_law dc_law pm_law cd_law ct_law : Value}
    (a_law : PySem.W.nsIn K mainGlobals "law" = some (some (.ref f_law))) (l_law : K.lookup f_law = some ⟨oc_law, od_law, .func (PySem.W.fnOf "law" "law" (defArgs s_law) (defBody s_law) (defScope s_law) .none kV_law dc_law pm_law an_law cd_law ct_law), sl_law⟩)
    (c_law : PySem.W.codeIn K cd_law "law" = true) (k_law : PySem.W.keepIn K (.ref f_law) = true)
    (z_isinstance : PySem.W.nsIn K mainGlobals "isinstance" = some none)
    (z_int : PySem.W.nsIn K mainGlobals "int" = some none)
    (z_bool : PySem.W.nsIn K mainGlobals "bool" = some none)
    (z_len : PySem.W.nsIn K mainGlobals "len" = some none)
    (z_range : PySem.W.nsIn K mainGlobals "range" = some none)
    (z_tuple : PySem.W.nsIn K mainGlobals "tuple" = some none)
    (z_all : PySem.W.nsIn K mainGlobals "all" = some none)
    (z_zip : PySem.W.nsIn K mainGlobals "zip" = some none)
    (z_any : PySem.W.nsIn K mainGlobals "any" = some none)
    (z_enumerate : PySem.W.nsIn K mainGlobals "enumerate" = some none)
    (z_str : PySem.W.nsIn K mainGlobals "str" = some none)
    (z_abs : PySem.W.nsIn K mainGlobals "abs" = some none)
    (z_list : PySem.W.nsIn K mainGlobals "list" = some none)
    (z_reversed : PySem.W.nsIn K mainGlobals "reversed" = some none)
    {q_S : Addr} {dd_S : Option Addr} {its_S : Array Value} {n_S : Nat} {sl_S : Array (Option Value)}
    (a_S : PySem.W.nsIn K mainGlobals "SMALL_PRIMES" = some (some (.ref q_S))) (l_S : K.lookup q_S = some ⟨.type "tuple", dd_S, .seq its_S n_S, sl_S⟩) (v_S : Vals ([2, 3, 5, 7, 11, 13, 17, 19, 23, 29, 31].map V.int) its_S.toList)
    {tk_MOST_GENERATORS : Tok} (a_MOST_GENERATORS : PySem.W.nsIn K mainGlobals "MOST_GENERATORS" = some (some (.int 10 tk_MOST_GENERATORS)))
    {tk_MOST_ORDER : Tok} (a_MOST_ORDER : PySem.W.nsIn K mainGlobals "MOST_ORDER" = some (some (.int 1024 tk_MOST_ORDER)))
    {C CF fI : Addr} {nmR qnR : Str} {NR : Addr} {bsR bmR : List Value} {snR : List Str} {subR : List Value} {abR : Bool} {colR : Option Bool} {ddR : Option Addr} {m0R m1R m2R m3R m5R : Option Value}
    {odI anI : Option Addr} {slI : Array (Option Value)} {ocI kVI dcI pmI cdI ctI : Value}
    (aC : PySem.W.nsIn K mainGlobals "Refused" = some (some (.ref C))) (aF : PySem.W.nsIn K mainGlobals "Fault" = some (some (.ref CF)))
    (xC : K.lookup C = some (excClassObj nmR qnR C NR bsR bmR true snR subR abR colR ddR m0R m1R m2R m3R m5R "ValueError.__new__")) (rb : PySem.HandSPX.refsVE bmR = true)
    (sa : PySem.W.findIn K (.ref C) "__setattr__" = some (some (.builtin "object.__setattr__"))) (eC : PySem.W.subIn K (.ref C) (.type "BaseException") = some true) (yC : PySem.W.typeIn K (.ref C) = some (.type "type")) (kC : PySem.W.keepIn K (.ref C) = true)
    (iC : PySem.W.findIn K (.ref C) "__init__" = some (some (.ref fI))) (tI : PySem.W.typeIn K (.ref fI) = some (.type "function"))
    (lI : K.lookup fI = some ⟨ocI, odI, .func (PySem.W.fnOf "__init__" "Refused.__init__" (defArgs s_RI) (defBody s_RI) (defScope s_RI) .none kVI dcI pmI anI cdI ctI), slI⟩) (cI : PySem.W.codeIn K cdI "Refused.__init__" = true) (kI : PySem.W.keepIn K (.ref fI) = true)
    (rF : PySem.W.readsIn K CF (.type "type") = true) (gF : PySem.W.specialIn K (.ref CF) "__getattribute__" = some (some (.builtin "type.__getattribute__")))
    (vF : PySem.W.findCls K (.ref CF) (.type "type") "__init__" = some (.val (.builtin "ValueError.__init__"))) (nf : PySem.W.findIn K (.ref C) "reason" = some none)
    (ga : PySem.W.findIn K (.ref C) "__getattribute__" = some (some (.builtin "BaseException.__getattribute__"))) (gg : PySem.W.findIn K (.ref C) "__getattr__" = some none) (hdC : PySem.W.hasDictIn K C = true) (icC : PySem.W.isClsIn K C = true)
    (haC : PySem.W.findIn K (.ref C) "__class__" = some (some (.builtin "object.__class__"))) (hnC : PySem.W.specialIn K (.builtin "object.__class__") "__get__" = some (some (.builtin "getset_descriptor.__get__"))) (htC : PySem.W.takesIn K (.builtin "object.__class__") = some true)
    (hmC : PySem.W.mroIn K C (.type "object") = some true) (eF : PySem.W.subIn K (.ref CF) (.type "BaseException") = some true) (hF : PySem.W.hasDictIn K CF = true) (yF : PySem.W.typeIn K (.ref CF) = some (.type "type")) (sF : PySem.W.subIn K (.ref C) (.ref CF) = some true) (cF : PySem.W.isClsIn K CF = true)
    {C_M : Addr} (aC_M : PySem.W.nsIn K mainGlobals "Malformed" = some (some (.ref C_M))) (q_M : PySem.W.excIn K C_M [.type "ValueError", .type "Exception", .type "BaseException", .type "object"] "ValueError.__new__" = true) (kC_M : PySem.W.keepIn K (.ref C_M) = true) (eC_M : PySem.W.subIn K (.ref C_M) (.type "BaseException") = some true) (yC_M : PySem.W.typeIn K (.ref C_M) = some (.type "type"))
    {K_Collector : Addr} (aC_Collector : PySem.W.nsIn K mainGlobals "Collector" = some (some (.ref K_Collector))) (pg_Collector : PySem.W.plainGet K K_Collector Str.empty = true) (hd_Collector : PySem.W.hasDictIn K K_Collector = true) (po_Collector : PySem.W.plainOver K K_Collector = true) (sa_Collector : PySem.W.findIn K (.ref K_Collector) "__setattr__" = some (some (.builtin "object.__setattr__"))) (mk_Collector : PySem.W.makesIn K K_Collector = true) (kc_Collector : PySem.W.keepIn K (.ref K_Collector) = true)
    {f_Collector___init__ : Addr} {od_Collector___init__ an_Collector___init__ : Option Addr} {sl_Collector___init__ : Array (Option Value)} {oc_Collector___init__ kV_Collector___init__ dc_Collector___init__ pm_Collector___init__ cd_Collector___init__ ct_Collector___init__ : Value}
    (a_Collector___init__ : PySem.W.findIn K (.ref K_Collector) "__init__" = some (some (.ref f_Collector___init__))) (i_Collector___init__ : PySem.W.isFn K (.ref f_Collector___init__) = true) (l_Collector___init__ : K.lookup f_Collector___init__ = some ⟨oc_Collector___init__, od_Collector___init__, .func (PySem.W.fnOf "__init__" "Collector.__init__" (defArgs s_Collector___init__) (defBody s_Collector___init__) (defScope s_Collector___init__) .none kV_Collector___init__ dc_Collector___init__ pm_Collector___init__ an_Collector___init__ cd_Collector___init__ ct_Collector___init__), sl_Collector___init__⟩)
    (c_Collector___init__ : PySem.W.codeIn K cd_Collector___init__ "Collector.__init__" = true) (k_Collector___init__ : PySem.W.keepIn K (.ref f_Collector___init__) = true)
    {f_Collector_behind : Addr} {od_Collector_behind an_Collector_behind : Option Addr} {sl_Collector_behind : Array (Option Value)} {oc_Collector_behind kV_Collector_behind dc_Collector_behind pm_Collector_behind cd_Collector_behind ct_Collector_behind : Value}
    (a_Collector_behind : PySem.W.findIn K (.ref K_Collector) "behind" = some (some (.ref f_Collector_behind))) (i_Collector_behind : PySem.W.isFn K (.ref f_Collector_behind) = true) (l_Collector_behind : K.lookup f_Collector_behind = some ⟨oc_Collector_behind, od_Collector_behind, .func (PySem.W.fnOf "behind" "Collector.behind" (defArgs s_Collector_behind) (defBody s_Collector_behind) (defScope s_Collector_behind) .none kV_Collector_behind dc_Collector_behind pm_Collector_behind an_Collector_behind cd_Collector_behind ct_Collector_behind), sl_Collector_behind⟩)
    (c_Collector_behind : PySem.W.codeIn K cd_Collector_behind "Collector.behind" = true) (k_Collector_behind : PySem.W.keepIn K (.ref f_Collector_behind) = true)
    {f_Collector__step : Addr} {od_Collector__step an_Collector__step : Option Addr} {sl_Collector__step : Array (Option Value)} {oc_Collector__step kV_Collector__step dc_Collector__step pm_Collector__step cd_Collector__step ct_Collector__step : Value}
    (a_Collector__step : PySem.W.findIn K (.ref K_Collector) "_step" = some (some (.ref f_Collector__step))) (i_Collector__step : PySem.W.isFn K (.ref f_Collector__step) = true) (l_Collector__step : K.lookup f_Collector__step = some ⟨oc_Collector__step, od_Collector__step, .func (PySem.W.fnOf "_step" "Collector._step" (defArgs s_Collector__step) (defBody s_Collector__step) (defScope s_Collector__step) .none kV_Collector__step dc_Collector__step pm_Collector__step an_Collector__step cd_Collector__step ct_Collector__step), sl_Collector__step⟩)
    (c_Collector__step : PySem.W.codeIn K cd_Collector__step "Collector._step" = true) (k_Collector__step : PySem.W.keepIn K (.ref f_Collector__step) = true)
    {f_Collector__moved : Addr} {od_Collector__moved an_Collector__moved : Option Addr} {sl_Collector__moved : Array (Option Value)} {oc_Collector__moved kV_Collector__moved dc_Collector__moved pm_Collector__moved cd_Collector__moved ct_Collector__moved : Value}
    (a_Collector__moved : PySem.W.findIn K (.ref K_Collector) "_moved" = some (some (.ref f_Collector__moved))) (i_Collector__moved : PySem.W.isFn K (.ref f_Collector__moved) = true) (l_Collector__moved : K.lookup f_Collector__moved = some ⟨oc_Collector__moved, od_Collector__moved, .func (PySem.W.fnOf "_moved" "Collector._moved" (defArgs s_Collector__moved) (defBody s_Collector__moved) (defScope s_Collector__moved) .none kV_Collector__moved dc_Collector__moved pm_Collector__moved an_Collector__moved cd_Collector__moved ct_Collector__moved), sl_Collector__moved⟩)
    (c_Collector__moved : PySem.W.codeIn K cd_Collector__moved "Collector._moved" = true) (k_Collector__moved : PySem.W.keepIn K (.ref f_Collector__moved) = true)
    (n_Collector__primes : PySem.W.findIn K (.ref K_Collector) "_primes" = some none)
    (n_Collector__words : PySem.W.findIn K (.ref K_Collector) "_words" = some none)
    (n_Collector__plain : PySem.W.findIn K (.ref K_Collector) "_plain" = some none)
    (n_Collector__carried : PySem.W.findIn K (.ref K_Collector) "_carried" = some none)
    (ha_Collector : PySem.W.findIn K (.ref K_Collector) "__class__" = some (some (.builtin "object.__class__")))
    (hn_Collector : PySem.W.specialIn K (.builtin "object.__class__") "__get__" = some (some (.builtin "getset_descriptor.__get__")))
    (ht_Collector : PySem.W.takesIn K (.builtin "object.__class__") = some true)
    (hm_Collector : PySem.W.mroIn K K_Collector (.type "object") = some true)
    (ci_Collector : PySem.W.isClsIn K K_Collector = true)
    (ty_Collector : PySem.W.typeIn K (.ref K_Collector) = some (.type "type"))
    {K_Presentation : Addr} (aC_Presentation : PySem.W.nsIn K mainGlobals "Presentation" = some (some (.ref K_Presentation))) (pg_Presentation : PySem.W.plainGet K K_Presentation Str.empty = true) (hd_Presentation : PySem.W.hasDictIn K K_Presentation = true) (po_Presentation : PySem.W.plainOver K K_Presentation = true) (sa_Presentation : PySem.W.findIn K (.ref K_Presentation) "__setattr__" = some (some (.builtin "object.__setattr__"))) (mk_Presentation : PySem.W.makesIn K K_Presentation = true) (kc_Presentation : PySem.W.keepIn K (.ref K_Presentation) = true)
    {f_Presentation___init__ : Addr} {od_Presentation___init__ an_Presentation___init__ : Option Addr} {sl_Presentation___init__ : Array (Option Value)} {oc_Presentation___init__ kV_Presentation___init__ dc_Presentation___init__ pm_Presentation___init__ cd_Presentation___init__ ct_Presentation___init__ : Value}
    (a_Presentation___init__ : PySem.W.findIn K (.ref K_Presentation) "__init__" = some (some (.ref f_Presentation___init__))) (i_Presentation___init__ : PySem.W.isFn K (.ref f_Presentation___init__) = true) (l_Presentation___init__ : K.lookup f_Presentation___init__ = some ⟨oc_Presentation___init__, od_Presentation___init__, .func (PySem.W.fnOf "__init__" "Presentation.__init__" (defArgs s_Presentation___init__) (defBody s_Presentation___init__) (defScope s_Presentation___init__) .none kV_Presentation___init__ dc_Presentation___init__ pm_Presentation___init__ an_Presentation___init__ cd_Presentation___init__ ct_Presentation___init__), sl_Presentation___init__⟩)
    (c_Presentation___init__ : PySem.W.codeIn K cd_Presentation___init__ "Presentation.__init__" = true) (k_Presentation___init__ : PySem.W.keepIn K (.ref f_Presentation___init__) = true)
    {f_Presentation___eq__ : Addr} {od_Presentation___eq__ an_Presentation___eq__ : Option Addr} {sl_Presentation___eq__ : Array (Option Value)} {oc_Presentation___eq__ kV_Presentation___eq__ dc_Presentation___eq__ pm_Presentation___eq__ cd_Presentation___eq__ ct_Presentation___eq__ : Value}
    (a_Presentation___eq__ : PySem.W.findIn K (.ref K_Presentation) "__eq__" = some (some (.ref f_Presentation___eq__))) (i_Presentation___eq__ : PySem.W.isFn K (.ref f_Presentation___eq__) = true) (l_Presentation___eq__ : K.lookup f_Presentation___eq__ = some ⟨oc_Presentation___eq__, od_Presentation___eq__, .func (PySem.W.fnOf "__eq__" "Presentation.__eq__" (defArgs s_Presentation___eq__) (defBody s_Presentation___eq__) (defScope s_Presentation___eq__) .none kV_Presentation___eq__ dc_Presentation___eq__ pm_Presentation___eq__ an_Presentation___eq__ cd_Presentation___eq__ ct_Presentation___eq__), sl_Presentation___eq__⟩)
    (c_Presentation___eq__ : PySem.W.codeIn K cd_Presentation___eq__ "Presentation.__eq__" = true) (k_Presentation___eq__ : PySem.W.keepIn K (.ref f_Presentation___eq__) = true)
    {f_Presentation___str__ : Addr} {od_Presentation___str__ an_Presentation___str__ : Option Addr} {sl_Presentation___str__ : Array (Option Value)} {oc_Presentation___str__ kV_Presentation___str__ dc_Presentation___str__ pm_Presentation___str__ cd_Presentation___str__ ct_Presentation___str__ : Value}
    (a_Presentation___str__ : PySem.W.findIn K (.ref K_Presentation) "__str__" = some (some (.ref f_Presentation___str__))) (i_Presentation___str__ : PySem.W.isFn K (.ref f_Presentation___str__) = true) (l_Presentation___str__ : K.lookup f_Presentation___str__ = some ⟨oc_Presentation___str__, od_Presentation___str__, .func (PySem.W.fnOf "__str__" "Presentation.__str__" (defArgs s_Presentation___str__) (defBody s_Presentation___str__) (defScope s_Presentation___str__) .none kV_Presentation___str__ dc_Presentation___str__ pm_Presentation___str__ an_Presentation___str__ cd_Presentation___str__ ct_Presentation___str__), sl_Presentation___str__⟩)
    (c_Presentation___str__ : PySem.W.codeIn K cd_Presentation___str__ "Presentation.__str__" = true) (k_Presentation___str__ : PySem.W.keepIn K (.ref f_Presentation___str__) = true)
    {f_Presentation_is_row : Addr} {od_Presentation_is_row an_Presentation_is_row : Option Addr} {sl_Presentation_is_row : Array (Option Value)} {oc_Presentation_is_row kV_Presentation_is_row dc_Presentation_is_row pm_Presentation_is_row cd_Presentation_is_row ct_Presentation_is_row : Value}
    (a_Presentation_is_row : PySem.W.findIn K (.ref K_Presentation) "is_row" = some (some (.ref f_Presentation_is_row))) (i_Presentation_is_row : PySem.W.isFn K (.ref f_Presentation_is_row) = true) (l_Presentation_is_row : K.lookup f_Presentation_is_row = some ⟨oc_Presentation_is_row, od_Presentation_is_row, .func (PySem.W.fnOf "is_row" "Presentation.is_row" (defArgs s_Presentation_is_row) (defBody s_Presentation_is_row) (defScope s_Presentation_is_row) .none kV_Presentation_is_row dc_Presentation_is_row pm_Presentation_is_row an_Presentation_is_row cd_Presentation_is_row ct_Presentation_is_row), sl_Presentation_is_row⟩)
    (c_Presentation_is_row : PySem.W.codeIn K cd_Presentation_is_row "Presentation.is_row" = true) (k_Presentation_is_row : PySem.W.keepIn K (.ref f_Presentation_is_row) = true)
    {f_Presentation_conjugate_row : Addr} {od_Presentation_conjugate_row an_Presentation_conjugate_row : Option Addr} {sl_Presentation_conjugate_row : Array (Option Value)} {oc_Presentation_conjugate_row kV_Presentation_conjugate_row dc_Presentation_conjugate_row pm_Presentation_conjugate_row cd_Presentation_conjugate_row ct_Presentation_conjugate_row : Value}
    (a_Presentation_conjugate_row : PySem.W.findIn K (.ref K_Presentation) "conjugate_row" = some (some (.ref f_Presentation_conjugate_row))) (i_Presentation_conjugate_row : PySem.W.isFn K (.ref f_Presentation_conjugate_row) = true) (l_Presentation_conjugate_row : K.lookup f_Presentation_conjugate_row = some ⟨oc_Presentation_conjugate_row, od_Presentation_conjugate_row, .func (PySem.W.fnOf "conjugate_row" "Presentation.conjugate_row" (defArgs s_Presentation_conjugate_row) (defBody s_Presentation_conjugate_row) (defScope s_Presentation_conjugate_row) .none kV_Presentation_conjugate_row dc_Presentation_conjugate_row pm_Presentation_conjugate_row an_Presentation_conjugate_row cd_Presentation_conjugate_row ct_Presentation_conjugate_row), sl_Presentation_conjugate_row⟩)
    (c_Presentation_conjugate_row : PySem.W.codeIn K cd_Presentation_conjugate_row "Presentation.conjugate_row" = true) (k_Presentation_conjugate_row : PySem.W.keepIn K (.ref f_Presentation_conjugate_row) = true)
    {f_Presentation_letters : Addr} {od_Presentation_letters an_Presentation_letters : Option Addr} {sl_Presentation_letters : Array (Option Value)} {oc_Presentation_letters kV_Presentation_letters dc_Presentation_letters pm_Presentation_letters cd_Presentation_letters ct_Presentation_letters : Value}
    (a_Presentation_letters : PySem.W.findIn K (.ref K_Presentation) "letters" = some (some (.ref f_Presentation_letters))) (i_Presentation_letters : PySem.W.isFn K (.ref f_Presentation_letters) = true) (l_Presentation_letters : K.lookup f_Presentation_letters = some ⟨oc_Presentation_letters, od_Presentation_letters, .func (PySem.W.fnOf "letters" "Presentation.letters" (defArgs s_Presentation_letters) (defBody s_Presentation_letters) (defScope s_Presentation_letters) .none kV_Presentation_letters dc_Presentation_letters pm_Presentation_letters an_Presentation_letters cd_Presentation_letters ct_Presentation_letters), sl_Presentation_letters⟩)
    (c_Presentation_letters : PySem.W.codeIn K cd_Presentation_letters "Presentation.letters" = true) (k_Presentation_letters : PySem.W.keepIn K (.ref f_Presentation_letters) = true)
    (n_Presentation_n : PySem.W.findIn K (.ref K_Presentation) "n" = some none)
    (n_Presentation_primes : PySem.W.findIn K (.ref K_Presentation) "primes" = some none)
    (n_Presentation_powers : PySem.W.findIn K (.ref K_Presentation) "powers" = some none)
    (n_Presentation_conjugates : PySem.W.findIn K (.ref K_Presentation) "conjugates" = some none)
    (n_Presentation_order : PySem.W.findIn K (.ref K_Presentation) "order" = some none)
    (ha_Presentation : PySem.W.findIn K (.ref K_Presentation) "__class__" = some (some (.builtin "object.__class__")))
    (hn_Presentation : PySem.W.specialIn K (.builtin "object.__class__") "__get__" = some (some (.builtin "getset_descriptor.__get__")))
    (ht_Presentation : PySem.W.takesIn K (.builtin "object.__class__") = some true)
    (hm_Presentation : PySem.W.mroIn K K_Presentation (.type "object") = some true)
    (ci_Presentation : PySem.W.isClsIn K K_Presentation = true)
    (ty_Presentation : PySem.W.typeIn K (.ref K_Presentation) = some (.type "type")) :
    ∃ fd : FuncData, (∀ (s : Shared) (v : Value), BindsTo s fd ⟨[v], []⟩ [("script", v)]) ∧ ∀ base : Heap, K.In base → base.Ns mainGlobals mg → FnOk l.prog w K mg base CX0 36 fa fd ["script"] (sp_law K) := by
  have e := hfa.symm.trans (PySem.W.mg_of X G a_law)
  cases e
  let T : Txt K mg := txt_mk X G a__wall l__wall c__wall k__wall a_is_integer l_is_integer c_is_integer k_is_integer a_is_small_prime l_is_small_prime c_is_small_prime k_is_small_prime a__last_place l__last_place c__last_place k__last_place a__overlaps_of_three l__overlaps_of_three c__overlaps_of_three k__overlaps_of_three a__overlaps_of_later_power l__overlaps_of_later_power c__overlaps_of_later_power k__overlaps_of_later_power a__overlaps_of_earlier_power l__overlaps_of_earlier_power c__overlaps_of_earlier_power k__overlaps_of_earlier_power a__overlap_of_power l__overlap_of_power c__overlap_of_power k__overlap_of_power a_overlaps l_overlaps c_overlaps k_overlaps a_failing_overlap l_failing_overlap c_failing_overlap k_failing_overlap a__has_kind l__has_kind c__has_kind k__has_kind a__are_letters l__are_letters c__are_letters k__are_letters a_takes_consistent l_takes_consistent c_takes_consistent k_takes_consistent a__is_row l__is_row c__is_row k__is_row a__is_right_side l__is_right_side c__is_right_side k__is_right_side a__are_right_sides l__are_right_sides c__are_right_sides k__are_right_sides a__are_primes l__are_primes c__are_primes k__are_primes a__are_powers l__are_powers c__are_powers k__are_powers a__are_conjugates l__are_conjugates c__are_conjugates k__are_conjugates a__order_of l__order_of c__order_of k__order_of a__row_text l__row_text c__row_text k__row_text a__right_sides l__right_sides c__right_sides k__right_sides a_consistency_paper l_consistency_paper c_consistency_paper k_consistency_paper a__law_state l__law_state c__law_state k__law_state a__law_take l__law_take c__law_take k__law_take a__law_made l__law_made c__law_made k__law_made a__law_size l__law_size c__law_size k__law_size a__law_steep l__law_steep c__law_steep k__law_steep a__law_flat l__law_flat c__law_flat k__law_flat a__law_beside l__law_beside c__law_beside k__law_beside a__law_step l__law_step c__law_step k__law_step a__law_times l__law_times c__law_times k__law_times a__law_inverse l__law_inverse c__law_inverse k__law_inverse a__law_conjugated l__law_conjugated c__law_conjugated k__law_conjugated a__law_generator l__law_generator c__law_generator k__law_generator a__law_new_row l__law_new_row c__law_new_row k__law_new_row a__law_twisted l__law_twisted c__law_twisted k__law_twisted a__law_group l__law_group c__law_group k__law_group a__law_bent l__law_bent c__law_bent k__law_bent a__law_letters l__law_letters c__law_letters k__law_letters a__law_row_of l__law_row_of c__law_row_of k__law_row_of a__law_overlaps l__law_overlaps c__law_overlaps k__law_overlaps a_law l_law c_law k_law z_isinstance z_int z_bool z_len z_range z_tuple z_all z_zip z_any z_enumerate z_str z_abs z_list z_reversed a_S l_S v_S a_MOST_GENERATORS a_MOST_ORDER
  let FI := fun_mk (st := s_RI) lI cI kI
  let R : RefC K mg s_RI := { C := C, CF := CF, fI := fI, dI := _, gC := PySem.W.mg_of X G aC, gF := PySem.W.mg_of X G aF, rF := ⟨rF, gF⟩, vF := vF, ox := { cls := ⟨_, _, _, _, _, _, _, _, _, _, _, _, _, _, _, xC, rb⟩, sa := sa, exC := eC, tyC := yC, kC := kC }, iC := iC, tI := tI, FI := FI, bI := FI.binds (ps := ["self", "reason"]) fun _ _ _ _ _ _ us hl => match us, hl with | [_, _], _ => rfl, nf := nf, ed := ⟨ga, gg, eC, icC, haC, hnC, htC, hmC⟩, xf := ⟨ga, gg, eC, hdC⟩, ex := PySem.W.exm_ref eF hF yF sF, cF := cF }
  let C_Malformed : ClMalformed K mg := { C := C_M, gC := PySem.W.mg_of X G aC_M, q := q_M, kC := kC_M, eC := eC_M, yC := yC_M }
  have F_Collector___init__ := fun_mk (st := s_Collector___init__) l_Collector___init__ c_Collector___init__ k_Collector___init__
  have b_Collector___init__ := F_Collector___init__.binds (ps := ["self", "presentation"]) fun _ _ _ _ _ _ us hl => match us, hl with | [_, _], _ => rfl
  have F_Collector_behind := fun_mk (st := s_Collector_behind) l_Collector_behind c_Collector_behind k_Collector_behind
  have b_Collector_behind := F_Collector_behind.binds (ps := ["self", "row", "word"]) fun _ _ _ _ _ _ us hl => match us, hl with | [_, _, _], _ => rfl
  have F_Collector__step := fun_mk (st := s_Collector__step) l_Collector__step c_Collector__step k_Collector__step
  have b_Collector__step := F_Collector__step.binds (ps := ["self", "row", "j"]) fun _ _ _ _ _ _ us hl => match us, hl with | [_, _, _], _ => rfl
  have F_Collector__moved := fun_mk (st := s_Collector__moved) l_Collector__moved c_Collector__moved k_Collector__moved
  have b_Collector__moved := F_Collector__moved.binds (ps := ["self", "known", "j", "tail"]) fun _ _ _ _ _ _ us hl => match us, hl with | [_, _, _, _], _ => rfl
  let C_Collector : ClCollector K mg := { C := K_Collector, gC := PySem.W.mg_of X G aC_Collector, cl := ⟨pg_Collector, hd_Collector, po_Collector, sa_Collector⟩, a___init__ := f_Collector___init__, d___init__ := _, F___init__ := F_Collector___init__, m___init__ := ⟨a_Collector___init__, i_Collector___init__, k_Collector___init__⟩, b___init__ := b_Collector___init__, a_behind := f_Collector_behind, d_behind := _, F_behind := F_Collector_behind, m_behind := ⟨a_Collector_behind, i_Collector_behind, k_Collector_behind⟩, b_behind := b_Collector_behind, a__step := f_Collector__step, d__step := _, F__step := F_Collector__step, m__step := ⟨a_Collector__step, i_Collector__step, k_Collector__step⟩, b__step := b_Collector__step, a__moved := f_Collector__moved, d__moved := _, F__moved := F_Collector__moved, m__moved := ⟨a_Collector__moved, i_Collector__moved, k_Collector__moved⟩, b__moved := b_Collector__moved, mkr := ⟨mk_Collector, a_Collector___init__, i_Collector___init__, kc_Collector⟩, n__primes := n_Collector__primes, n__words := n_Collector__words, n__plain := n_Collector__plain, n__carried := n_Collector__carried, ha := ha_Collector, hn := hn_Collector, ht := ht_Collector, hm := hm_Collector, ci := ci_Collector, ty := ty_Collector }
  have F_Presentation___init__ := fun_mk (st := s_Presentation___init__) l_Presentation___init__ c_Presentation___init__ k_Presentation___init__
  have b_Presentation___init__ := F_Presentation___init__.binds (ps := ["self", "primes", "powers", "conjugates"]) fun _ _ _ _ _ _ us hl => match us, hl with | [_, _, _, _], _ => rfl
  have F_Presentation___eq__ := fun_mk (st := s_Presentation___eq__) l_Presentation___eq__ c_Presentation___eq__ k_Presentation___eq__
  have b_Presentation___eq__ := F_Presentation___eq__.binds (ps := ["self", "other"]) fun _ _ _ _ _ _ us hl => match us, hl with | [_, _], _ => rfl
  have F_Presentation___str__ := fun_mk (st := s_Presentation___str__) l_Presentation___str__ c_Presentation___str__ k_Presentation___str__
  have b_Presentation___str__ := F_Presentation___str__.binds (ps := ["self"]) fun _ _ _ _ _ _ us hl => match us, hl with | [_], _ => rfl
  have F_Presentation_is_row := fun_mk (st := s_Presentation_is_row) l_Presentation_is_row c_Presentation_is_row k_Presentation_is_row
  have b_Presentation_is_row := F_Presentation_is_row.binds (ps := ["self", "value"]) fun _ _ _ _ _ _ us hl => match us, hl with | [_, _], _ => rfl
  have F_Presentation_conjugate_row := fun_mk (st := s_Presentation_conjugate_row) l_Presentation_conjugate_row c_Presentation_conjugate_row k_Presentation_conjugate_row
  have b_Presentation_conjugate_row := F_Presentation_conjugate_row.binds (ps := ["self", "i", "j"]) fun _ _ _ _ _ _ us hl => match us, hl with | [_, _, _], _ => rfl
  have F_Presentation_letters := fun_mk (st := s_Presentation_letters) l_Presentation_letters c_Presentation_letters k_Presentation_letters
  have b_Presentation_letters := F_Presentation_letters.binds (ps := ["self", "row"]) fun _ _ _ _ _ _ us hl => match us, hl with | [_, _], _ => rfl
  let C_Presentation : ClPresentation K mg := { C := K_Presentation, gC := PySem.W.mg_of X G aC_Presentation, cl := ⟨pg_Presentation, hd_Presentation, po_Presentation, sa_Presentation⟩, a___init__ := f_Presentation___init__, d___init__ := _, F___init__ := F_Presentation___init__, m___init__ := ⟨a_Presentation___init__, i_Presentation___init__, k_Presentation___init__⟩, b___init__ := b_Presentation___init__, a___eq__ := f_Presentation___eq__, d___eq__ := _, F___eq__ := F_Presentation___eq__, m___eq__ := ⟨a_Presentation___eq__, i_Presentation___eq__, k_Presentation___eq__⟩, b___eq__ := b_Presentation___eq__, a___str__ := f_Presentation___str__, d___str__ := _, F___str__ := F_Presentation___str__, m___str__ := ⟨a_Presentation___str__, i_Presentation___str__, k_Presentation___str__⟩, b___str__ := b_Presentation___str__, a_is_row := f_Presentation_is_row, d_is_row := _, F_is_row := F_Presentation_is_row, m_is_row := ⟨a_Presentation_is_row, i_Presentation_is_row, k_Presentation_is_row⟩, b_is_row := b_Presentation_is_row, a_conjugate_row := f_Presentation_conjugate_row, d_conjugate_row := _, F_conjugate_row := F_Presentation_conjugate_row, m_conjugate_row := ⟨a_Presentation_conjugate_row, i_Presentation_conjugate_row, k_Presentation_conjugate_row⟩, b_conjugate_row := b_Presentation_conjugate_row, a_letters := f_Presentation_letters, d_letters := _, F_letters := F_Presentation_letters, m_letters := ⟨a_Presentation_letters, i_Presentation_letters, k_Presentation_letters⟩, b_letters := b_Presentation_letters, mkr := ⟨mk_Presentation, a_Presentation___init__, i_Presentation___init__, kc_Presentation⟩, n_n := n_Presentation_n, n_primes := n_Presentation_primes, n_powers := n_Presentation_powers, n_conjugates := n_Presentation_conjugates, n_order := n_Presentation_order, ha := ha_Presentation, hn := hn_Presentation, ht := ht_Presentation, hm := hm_Presentation, ci := ci_Presentation, ty := ty_Presentation }
  exact ⟨PySem.W.fnOf "law" "law" (defArgs s_law) (defBody s_law) (defScope s_law) .none kV_law dc_law pm_law an_law cd_law ct_law, fun s v => .of_eq rfl, fun base _ _ => ok_law R C_Malformed C_Presentation C_Collector T⟩
end K57
open PySem PySem.W PyProof.Rows
set_option maxRecDepth 100000 in
set_option maxHeartbeats 0 in
theorem PySem.Challenge.cw_polychains_k57_whole_papers_of_consisten_holds : PySem.Challenge.rw_polychains_k57_whole_papers_of_consisten.Holds := by
  w_on; o_law; k_head; (case hw => w_witness2)
  k_fill
  refine L2.walk_of (l := PySem.Challenge.rw_polychains_k57_whole_papers_of_consisten) (n := 63) (k := 36) (x := "script") (CX := fun _ => L2.CX0) (sp := fun w => K57.sp_law _) rfl (by decide) rfl ⟨rfl, by decide, by decide⟩ (fun w h Y => PySem.W.kIn_of Y) ?F (fun _ _ a ns hl _ hS => ⟨a, ns, rfl, hS, hl, fun _ => rfl⟩) (fun _ _ _ _ _ h => h)
  case F =>
    intro w mg fa h KX G hmg
    refine' K57.all_mk KX G hmg ?a__wall ?l__wall ?c__wall ?k__wall ?a_is_integer ?l_is_integer ?c_is_integer ?k_is_integer ?a_is_small_prime ?l_is_small_prime ?c_is_small_prime ?k_is_small_prime ?a__last_place ?l__last_place ?c__last_place ?k__last_place ?a__overlaps_of_three ?l__overlaps_of_three ?c__overlaps_of_three ?k__overlaps_of_three ?a__overlaps_of_later_power ?l__overlaps_of_later_power ?c__overlaps_of_later_power ?k__overlaps_of_later_power ?a__overlaps_of_earlier_power ?l__overlaps_of_earlier_power ?c__overlaps_of_earlier_power ?k__overlaps_of_earlier_power ?a__overlap_of_power ?l__overlap_of_power ?c__overlap_of_power ?k__overlap_of_power ?a_overlaps ?l_overlaps ?c_overlaps ?k_overlaps ?a_failing_overlap ?l_failing_overlap ?c_failing_overlap ?k_failing_overlap ?a__has_kind ?l__has_kind ?c__has_kind ?k__has_kind ?a__are_letters ?l__are_letters ?c__are_letters ?k__are_letters ?a_takes_consistent ?l_takes_consistent ?c_takes_consistent ?k_takes_consistent ?a__is_row ?l__is_row ?c__is_row ?k__is_row ?a__is_right_side ?l__is_right_side ?c__is_right_side ?k__is_right_side ?a__are_right_sides ?l__are_right_sides ?c__are_right_sides ?k__are_right_sides ?a__are_primes ?l__are_primes ?c__are_primes ?k__are_primes ?a__are_powers ?l__are_powers ?c__are_powers ?k__are_powers ?a__are_conjugates ?l__are_conjugates ?c__are_conjugates ?k__are_conjugates ?a__order_of ?l__order_of ?c__order_of ?k__order_of ?a__row_text ?l__row_text ?c__row_text ?k__row_text ?a__right_sides ?l__right_sides ?c__right_sides ?k__right_sides ?a_consistency_paper ?l_consistency_paper ?c_consistency_paper ?k_consistency_paper ?a__law_state ?l__law_state ?c__law_state ?k__law_state ?a__law_take ?l__law_take ?c__law_take ?k__law_take ?a__law_made ?l__law_made ?c__law_made ?k__law_made ?a__law_size ?l__law_size ?c__law_size ?k__law_size ?a__law_steep ?l__law_steep ?c__law_steep ?k__law_steep ?a__law_flat ?l__law_flat ?c__law_flat ?k__law_flat ?a__law_beside ?l__law_beside ?c__law_beside ?k__law_beside ?a__law_step ?l__law_step ?c__law_step ?k__law_step ?a__law_times ?l__law_times ?c__law_times ?k__law_times ?a__law_inverse ?l__law_inverse ?c__law_inverse ?k__law_inverse ?a__law_conjugated ?l__law_conjugated ?c__law_conjugated ?k__law_conjugated ?a__law_generator ?l__law_generator ?c__law_generator ?k__law_generator ?a__law_new_row ?l__law_new_row ?c__law_new_row ?k__law_new_row ?a__law_twisted ?l__law_twisted ?c__law_twisted ?k__law_twisted ?a__law_group ?l__law_group ?c__law_group ?k__law_group ?a__law_bent ?l__law_bent ?c__law_bent ?k__law_bent ?a__law_letters ?l__law_letters ?c__law_letters ?k__law_letters ?a__law_row_of ?l__law_row_of ?c__law_row_of ?k__law_row_of ?a__law_overlaps ?l__law_overlaps ?c__law_overlaps ?k__law_overlaps ?a_law ?l_law ?c_law ?k_law ?z_isinstance ?z_int ?z_bool ?z_len ?z_range ?z_tuple ?z_all ?z_zip ?z_any ?z_enumerate ?z_str ?z_abs ?z_list ?z_reversed ?a_S ?l_S ?v_S ?a_MOST_GENERATORS ?a_MOST_ORDER ?aC ?aF ?xC ?rb ?sa ?eC ?yC ?kC ?iC ?tI ?lI ?cI ?kI ?rF ?gF ?vF ?nf ?ga ?gg ?hdC ?icC ?haC ?hnC ?htC ?hmC ?eF ?hF ?yF ?sF ?cF ?aC_M ?q_M ?kC_M ?eC_M ?yC_M ?aC_Collector ?pg_Collector ?hd_Collector ?po_Collector ?sa_Collector ?mk_Collector ?kc_Collector ?a_Collector___init__ ?i_Collector___init__ ?l_Collector___init__ ?c_Collector___init__ ?k_Collector___init__ ?a_Collector_behind ?i_Collector_behind ?l_Collector_behind ?c_Collector_behind ?k_Collector_behind ?a_Collector__step ?i_Collector__step ?l_Collector__step ?c_Collector__step ?k_Collector__step ?a_Collector__moved ?i_Collector__moved ?l_Collector__moved ?c_Collector__moved ?k_Collector__moved ?n_Collector__primes ?n_Collector__words ?n_Collector__plain ?n_Collector__carried ?ha_Collector ?hn_Collector ?ht_Collector ?hm_Collector ?ci_Collector ?ty_Collector ?aC_Presentation ?pg_Presentation ?hd_Presentation ?po_Presentation ?sa_Presentation ?mk_Presentation ?kc_Presentation ?a_Presentation___init__ ?i_Presentation___init__ ?l_Presentation___init__ ?c_Presentation___init__ ?k_Presentation___init__ ?a_Presentation___eq__ ?i_Presentation___eq__ ?l_Presentation___eq__ ?c_Presentation___eq__ ?k_Presentation___eq__ ?a_Presentation___str__ ?i_Presentation___str__ ?l_Presentation___str__ ?c_Presentation___str__ ?k_Presentation___str__ ?a_Presentation_is_row ?i_Presentation_is_row ?l_Presentation_is_row ?c_Presentation_is_row ?k_Presentation_is_row ?a_Presentation_conjugate_row ?i_Presentation_conjugate_row ?l_Presentation_conjugate_row ?c_Presentation_conjugate_row ?k_Presentation_conjugate_row ?a_Presentation_letters ?i_Presentation_letters ?l_Presentation_letters ?c_Presentation_letters ?k_Presentation_letters ?n_Presentation_n ?n_Presentation_primes ?n_Presentation_powers ?n_Presentation_conjugates ?n_Presentation_order ?ha_Presentation ?hn_Presentation ?ht_Presentation ?hm_Presentation ?ci_Presentation ?ty_Presentation
    (case a__wall => k_is)
    (case l__wall => k_is)
    (case c__wall => k_is)
    (case k__wall => k_is)
    (case a_is_integer => k_is)
    (case l_is_integer => k_is)
    (case c_is_integer => k_is)
    (case k_is_integer => k_is)
    (case a_is_small_prime => k_is)
    (case l_is_small_prime => k_is)
    (case c_is_small_prime => k_is)
    (case k_is_small_prime => k_is)
    (case a__last_place => k_is)
    (case l__last_place => k_is)
    (case c__last_place => k_is)
    (case k__last_place => k_is)
    (case a__overlaps_of_three => k_is)
    (case l__overlaps_of_three => k_is)
    (case c__overlaps_of_three => k_is)
    (case k__overlaps_of_three => k_is)
    (case a__overlaps_of_later_power => k_is)
    (case l__overlaps_of_later_power => k_is)
    (case c__overlaps_of_later_power => k_is)
    (case k__overlaps_of_later_power => k_is)
    (case a__overlaps_of_earlier_power => k_is)
    (case l__overlaps_of_earlier_power => k_is)
    (case c__overlaps_of_earlier_power => k_is)
    (case k__overlaps_of_earlier_power => k_is)
    (case a__overlap_of_power => k_is)
    (case l__overlap_of_power => k_is)
    (case c__overlap_of_power => k_is)
    (case k__overlap_of_power => k_is)
    (case a_overlaps => k_is)
    (case l_overlaps => k_is)
    (case c_overlaps => k_is)
    (case k_overlaps => k_is)
    (case a_failing_overlap => k_is)
    (case l_failing_overlap => k_is)
    (case c_failing_overlap => k_is)
    (case k_failing_overlap => k_is)
    (case a__has_kind => k_is)
    (case l__has_kind => k_is)
    (case c__has_kind => k_is)
    (case k__has_kind => k_is)
    (case a__are_letters => k_is)
    (case l__are_letters => k_is)
    (case c__are_letters => k_is)
    (case k__are_letters => k_is)
    (case a_takes_consistent => k_is)
    (case l_takes_consistent => k_is)
    (case c_takes_consistent => k_is)
    (case k_takes_consistent => k_is)
    (case a__is_row => k_is)
    (case l__is_row => k_is)
    (case c__is_row => k_is)
    (case k__is_row => k_is)
    (case a__is_right_side => k_is)
    (case l__is_right_side => k_is)
    (case c__is_right_side => k_is)
    (case k__is_right_side => k_is)
    (case a__are_right_sides => k_is)
    (case l__are_right_sides => k_is)
    (case c__are_right_sides => k_is)
    (case k__are_right_sides => k_is)
    (case a__are_primes => k_is)
    (case l__are_primes => k_is)
    (case c__are_primes => k_is)
    (case k__are_primes => k_is)
    (case a__are_powers => k_is)
    (case l__are_powers => k_is)
    (case c__are_powers => k_is)
    (case k__are_powers => k_is)
    (case a__are_conjugates => k_is)
    (case l__are_conjugates => k_is)
    (case c__are_conjugates => k_is)
    (case k__are_conjugates => k_is)
    (case a__order_of => k_is)
    (case l__order_of => k_is)
    (case c__order_of => k_is)
    (case k__order_of => k_is)
    (case a__row_text => k_is)
    (case l__row_text => k_is)
    (case c__row_text => k_is)
    (case k__row_text => k_is)
    (case a__right_sides => k_is)
    (case l__right_sides => k_is)
    (case c__right_sides => k_is)
    (case k__right_sides => k_is)
    (case a_consistency_paper => k_is)
    (case l_consistency_paper => k_is)
    (case c_consistency_paper => k_is)
    (case k_consistency_paper => k_is)
    (case a__law_state => k_is)
    (case l__law_state => k_is)
    (case c__law_state => k_is)
    (case k__law_state => k_is)
    (case a__law_take => k_is)
    (case l__law_take => k_is)
    (case c__law_take => k_is)
    (case k__law_take => k_is)
    (case a__law_made => k_is)
    (case l__law_made => k_is)
    (case c__law_made => k_is)
    (case k__law_made => k_is)
    (case a__law_size => k_is)
    (case l__law_size => k_is)
    (case c__law_size => k_is)
    (case k__law_size => k_is)
    (case a__law_steep => k_is)
    (case l__law_steep => k_is)
    (case c__law_steep => k_is)
    (case k__law_steep => k_is)
    (case a__law_flat => k_is)
    (case l__law_flat => k_is)
    (case c__law_flat => k_is)
    (case k__law_flat => k_is)
    (case a__law_beside => k_is)
    (case l__law_beside => k_is)
    (case c__law_beside => k_is)
    (case k__law_beside => k_is)
    (case a__law_step => k_is)
    (case l__law_step => k_is)
    (case c__law_step => k_is)
    (case k__law_step => k_is)
    (case a__law_times => k_is)
    (case l__law_times => k_is)
    (case c__law_times => k_is)
    (case k__law_times => k_is)
    (case a__law_inverse => k_is)
    (case l__law_inverse => k_is)
    (case c__law_inverse => k_is)
    (case k__law_inverse => k_is)
    (case a__law_conjugated => k_is)
    (case l__law_conjugated => k_is)
    (case c__law_conjugated => k_is)
    (case k__law_conjugated => k_is)
    (case a__law_generator => k_is)
    (case l__law_generator => k_is)
    (case c__law_generator => k_is)
    (case k__law_generator => k_is)
    (case a__law_new_row => k_is)
    (case l__law_new_row => k_is)
    (case c__law_new_row => k_is)
    (case k__law_new_row => k_is)
    (case a__law_twisted => k_is)
    (case l__law_twisted => k_is)
    (case c__law_twisted => k_is)
    (case k__law_twisted => k_is)
    (case a__law_group => k_is)
    (case l__law_group => k_is)
    (case c__law_group => k_is)
    (case k__law_group => k_is)
    (case a__law_bent => k_is)
    (case l__law_bent => k_is)
    (case c__law_bent => k_is)
    (case k__law_bent => k_is)
    (case a__law_letters => k_is)
    (case l__law_letters => k_is)
    (case c__law_letters => k_is)
    (case k__law_letters => k_is)
    (case a__law_row_of => k_is)
    (case l__law_row_of => k_is)
    (case c__law_row_of => k_is)
    (case k__law_row_of => k_is)
    (case a__law_overlaps => k_is)
    (case l__law_overlaps => k_is)
    (case c__law_overlaps => k_is)
    (case k__law_overlaps => k_is)
    (case a_law => k_is)
    (case l_law => k_is)
    (case c_law => k_is)
    (case k_law => k_is)
    (case z_isinstance => k_is)
    (case z_int => k_is)
    (case z_bool => k_is)
    (case z_len => k_is)
    (case z_range => k_is)
    (case z_tuple => k_is)
    (case z_all => k_is)
    (case z_zip => k_is)
    (case z_any => k_is)
    (case z_enumerate => k_is)
    (case z_str => k_is)
    (case z_abs => k_is)
    (case z_list => k_is)
    (case z_reversed => k_is)
    (case a_S => k_is)
    (case l_S => k_is)
    (case v_S => exact .cons ⟨_, rfl⟩ (.cons ⟨_, rfl⟩ (.cons ⟨_, rfl⟩ (.cons ⟨_, rfl⟩ (.cons ⟨_, rfl⟩ (.cons ⟨_, rfl⟩ (.cons ⟨_, rfl⟩ (.cons ⟨_, rfl⟩ (.cons ⟨_, rfl⟩ (.cons ⟨_, rfl⟩ (.cons ⟨_, rfl⟩ .nil)))))))))))
    (case a_MOST_GENERATORS => k_is)
    (case a_MOST_ORDER => k_is)
    (case aC => k_is)
    (case aF => k_is)
    (case xC => k_is)
    (case rb => first | rfl | decide +kernel | k_is)
    (case sa => k_is)
    (case eC => k_is)
    (case yC => k_is)
    (case kC => k_is)
    (case iC => k_is)
    (case tI => k_is)
    (case lI => k_is)
    (case cI => k_is)
    (case kI => k_is)
    (case rF => k_is)
    (case gF => k_is)
    (case vF => k_is)
    (case nf => k_is)
    (case ga => k_is)
    (case gg => k_is)
    (case hdC => k_is)
    (case icC => k_is)
    (case haC => k_is)
    (case hnC => k_is)
    (case htC => k_is)
    (case hmC => k_is)
    (case eF => k_is)
    (case hF => k_is)
    (case yF => k_is)
    (case sF => k_is)
    (case cF => k_is)
    (case aC_M => k_is)
    (case q_M => k_exc)
    (case kC_M => k_is)
    (case eC_M => k_is)
    (case yC_M => k_is)
    (case aC_Collector => k_is)
    (case pg_Collector => k_is)
    (case hd_Collector => k_is)
    (case po_Collector => k_is)
    (case sa_Collector => k_is)
    (case mk_Collector => k_is)
    (case kc_Collector => k_is)
    (case a_Collector___init__ => k_is)
    (case i_Collector___init__ => k_is)
    (case l_Collector___init__ => k_is)
    (case c_Collector___init__ => k_is)
    (case k_Collector___init__ => k_is)
    (case a_Collector_behind => k_is)
    (case i_Collector_behind => k_is)
    (case l_Collector_behind => k_is)
    (case c_Collector_behind => k_is)
    (case k_Collector_behind => k_is)
    (case a_Collector__step => k_is)
    (case i_Collector__step => k_is)
    (case l_Collector__step => k_is)
    (case c_Collector__step => k_is)
    (case k_Collector__step => k_is)
    (case a_Collector__moved => k_is)
    (case i_Collector__moved => k_is)
    (case l_Collector__moved => k_is)
    (case c_Collector__moved => k_is)
    (case k_Collector__moved => k_is)
    (case n_Collector__primes => k_is)
    (case n_Collector__words => k_is)
    (case n_Collector__plain => k_is)
    (case n_Collector__carried => k_is)
    (case ha_Collector => k_is)
    (case hn_Collector => k_is)
    (case ht_Collector => k_is)
    (case hm_Collector => k_is)
    (case ci_Collector => k_is)
    (case ty_Collector => k_is)
    (case aC_Presentation => k_is)
    (case pg_Presentation => k_is)
    (case hd_Presentation => k_is)
    (case po_Presentation => k_is)
    (case sa_Presentation => k_is)
    (case mk_Presentation => k_is)
    (case kc_Presentation => k_is)
    (case a_Presentation___init__ => k_is)
    (case i_Presentation___init__ => k_is)
    (case l_Presentation___init__ => k_is)
    (case c_Presentation___init__ => k_is)
    (case k_Presentation___init__ => k_is)
    (case a_Presentation___eq__ => k_is)
    (case i_Presentation___eq__ => k_is)
    (case l_Presentation___eq__ => k_is)
    (case c_Presentation___eq__ => k_is)
    (case k_Presentation___eq__ => k_is)
    (case a_Presentation___str__ => k_is)
    (case i_Presentation___str__ => k_is)
    (case l_Presentation___str__ => k_is)
    (case c_Presentation___str__ => k_is)
    (case k_Presentation___str__ => k_is)
    (case a_Presentation_is_row => k_is)
    (case i_Presentation_is_row => k_is)
    (case l_Presentation_is_row => k_is)
    (case c_Presentation_is_row => k_is)
    (case k_Presentation_is_row => k_is)
    (case a_Presentation_conjugate_row => k_is)
    (case i_Presentation_conjugate_row => k_is)
    (case l_Presentation_conjugate_row => k_is)
    (case c_Presentation_conjugate_row => k_is)
    (case k_Presentation_conjugate_row => k_is)
    (case a_Presentation_letters => k_is)
    (case i_Presentation_letters => k_is)
    (case l_Presentation_letters => k_is)
    (case c_Presentation_letters => k_is)
    (case k_Presentation_letters => k_is)
    (case n_Presentation_n => k_is)
    (case n_Presentation_primes => k_is)
    (case n_Presentation_powers => k_is)
    (case n_Presentation_conjugates => k_is)
    (case n_Presentation_order => k_is)
    (case ha_Presentation => k_is)
    (case hn_Presentation => k_is)
    (case ht_Presentation => k_is)
    (case hm_Presentation => k_is)
    (case ci_Presentation => k_is)
    (case ty_Presentation => k_is)
