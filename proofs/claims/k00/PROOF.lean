import PyProof.Rows.All
import Wide.All
import OpenK.AllK
import Wide.FinOn
import PySem.Challenge.RW_polychains_k00_numbers
import HandS.ForMost
import HandS.Exc
import HandS.ExcOwn
import HandS.WordsExc
import HandS.ExcInit
import HandS.ExcField
import HandS.IsInst
import HandS.Wide
import HandS.SortInts
import HandS.TupLe
import HandS.FStr
import HandS.ClsMeth
import HandS.Conv
import HandS.Flow
import HandS.Codes
import HandS.ExcIs
import KE.KExcIs
set_option Elab.async false
set_option linter.all false
set_option maxRecDepth 100000
set_option maxHeartbeats 4000000
namespace K00
open PySem PySem.Spec PyProof.Rows L2
section
variable {P : Program} {w : World} {K : PySem.W.Frag} {mg : Str → Option Value} {base : Heap}
theorem yesT {σ : L2.St} {H : Hp} {A B : Hp → Prop} (h : A H) : tYes σ H (fun b H3 => if b = true then A H3 else B H3) := h
/-! operators that hand on a letter -/
def rL (g : Int → Int → Int) : R2 := fun x y H Q => ∃ i j, x = .int i ∧ y = .int j ∧ ∀ z, z = g i j → Q (.int z) H
theorem op_addL {X : Cx} : OpR X (binaryOp .Add) (rL fun i j => i + j) := by
  intro pins s σ H x y v u Q I rx ry h
  obtain ⟨i, j, hx, hy, q⟩ := h
  exact op_add pins s σ H x y v u Q I rx ry ⟨i, j, hx, hy, q _ rfl⟩
theorem op_subL {X : Cx} : OpR X (binaryOp .Sub) (rL fun i j => i - j) := by
  intro pins s σ H x y v u Q I rx ry h
  obtain ⟨i, j, hx, hy, q⟩ := h
  exact op_sub pins s σ H x y v u Q I rx ry ⟨i, j, hx, hy, q _ rfl⟩
theorem call_lenL {X : Cx} : CallR X (.builtin "len") (fun xs H Q => ∃ p ys, xs = [.ref p] ∧ (SqL X.K H p ys ∨ SqT X.K H p ys) ∧ ∀ z : Int, z = (ys.length : Int) → Q (.int z) H) := by
  intro pins s σ H xs us Q I r h
  obtain ⟨p, ys, e, hs, q⟩ := h
  exact call_len_seq pins s σ H xs us Q I r ⟨p, ys, e, hs, q _ rfl⟩
theorem iteB {b : Bool} {A B : Prop} (h : b = false) (q : B) : if b = true then A else B := by
  rw [h]
  exact iteF q
theorem iteA {b : Bool} {A B : Prop} (h : b = true) (q : A) : if b = true then A else B := by
  rw [h]
  exact iteT q
theorem not_dec {p : Prop} [Decidable p] (h : p) : (!decide p) = false := by rw [decide_eq_true h]; rfl
/-! ### the error with a reason -/
theorem pe_finit {X : Cx} {e : Expr} {es : List Expr} {ta : TA} {p1 p2 pos : Pos} {f : Str} {CF : Addr} {pl : Sem Bool} (hg : Gl X f) (hm : X.mg f = some (.ref CF)) (r : ClX.CRead X.K CF (.type "type"))
    (kv : PySem.W.findCls X.K (.ref CF) (.type "type") "__init__" = some (.val (.builtin "ValueError.__init__"))) (ha : PA X (e :: es) ta)
    (hc : eval (.Call (.Attribute (.Name f p1) "__init__" p2) (e :: es) [] pos) X.env = (do
      let ov ← eval (.Name f p1) X.env
      standAt p2.atName
      let (f, first) ← holding [ov] (getMethod ov "__init__" pl)
      callWith pos f first (backTo pos (starEach (e :: es) X.env)) (backToKw pos (keywordEach [] X.env))) := by rfl)
    (hd : (f == ("__debug__" : Str)) = false := by decide)
    (he : starEach (e :: es) X.env = (false, eval e X.env) :: starEach es X.env := by rfl) (hpl : (backTo pos (starEach es X.env)).any (·.1) = false := by rfl) :
    PE X (.Call (.Attribute (.Name f p1) "__init__" p2) (e :: es) [] pos) (tVeI X.K ta) := by
  refine ⟨fun pins s σ H Q I h => ?_⟩
  refine PySem.W.methodCall_KW (ld_glob I hg hm ?_ hd) hc
  refine PySem.W.method_cls I.kIn r.ga (PySem.W.cls_value I.kIn r.rd kv (by decide +kernel) ?_)
  have I := I.tok s.toks.succ
  show wpAny _ _ (callWith pos (Value.builtin "ValueError.__init__") [] (backTo pos (starEach (e :: es) X.env)) []) _ _ _
  refine PyProof.Rows.callWith_method1 (thn (ha.run pos pins _ σ H _ I h) fun us s1 ⟨vs, H1, I1, r1, a, C, ws, ev, hl, T, ea, q⟩ => ?_) he hpl
  subst ev
  cases r1 with
  | @cons _ u0 _ ur ra rw' =>
    obtain rfl : u0 = Value.ref a := ra
    have hlen : ur.length ≤ sizeLine := by
      rw [← Paired.length rw', sizeLine_eq]
      omega
    exact oinit_ok T I1 ea hlen fun s' J => ⟨.non, H1, J, rfl, q⟩
/-- what isinstance asks of the class of an exception that has its dict -/
structure ExcD (K : PySem.W.Frag) (D : Addr) : Prop where
  hg : PySem.W.findIn K (.ref D) "__getattribute__" = some (some (.builtin "BaseException.__getattribute__"))
  hk : PySem.W.findIn K (.ref D) "__getattr__" = some none
  hs : PySem.W.subIn K (.ref D) (.type "BaseException") = some true
  hc : PySem.W.isClsIn K D = true
  ha : PySem.W.findIn K (.ref D) "__class__" = some (some (.builtin "object.__class__"))
  hn : PySem.W.specialIn K (.builtin "object.__class__") "__get__" = some (some (.builtin "getset_descriptor.__get__"))
  ht : PySem.W.takesIn K (.builtin "object.__class__") = some true
  hm : PySem.W.mroIn K D (.type "object") = some true
def rIsD (K : PySem.W.Frag) (D a : Addr) (cls : Value) (d : Option Addr) : List V → Hp → VK → Prop := fun xs H Q => ∃ (c : V) (cv : Value) (b : Bool) (dd : Addr) (fs : List (Str × V)), xs = [.ref a, c] ∧ ClsV c cv ∧ cls = .ref D ∧ d = some dd ∧ H dd = some (.xd fs) ∧ PySem.W.kitOne K (.ref D) cv = some b ∧ Q (.bl b) H
def rIsDT (K : PySem.W.Frag) (D a : Addr) (cls : Value) (d : Option Addr) : List V → Hp → VK → Prop := fun xs H Q => ∃ (tp : Addr) (cs : List V) (us : List Value) (b : Bool) (dd : Addr) (fs : List (Str × V)), xs = [.ref a, .ref tp] ∧ H tp = some (.tup cs) ∧ Paired ClsV cs us ∧ cls = .ref D ∧ d = some dd ∧ H dd = some (.xd fs) ∧ PySem.W.kitAny K (.ref D) us = some b ∧ Q (.bl b) H
section
variable {X : Cx} {a D : Addr} {oe : Obj} {cls : Value} {d : Option Addr} {pn : List (Addr × Obj)}
theorem inst_of {pins : List (Addr × Obj)} {σ : L2.St} {H : Hp} {s : Shared} {dd : Addr} {fs : List (Str × V)} (I : Inv (X.suite a ((a, oe) :: pn)) pins σ H s) (hz : Zc (.ref D) (some dd) oe) (hf : ∃ vs, oe.data = .fields vs) (ea : H dd = some (.xd fs)) :
    ∃ od : Obj, PySem.W.InstAt s.heap a oe D (some od) := by
  obtain ⟨ha, _⟩ := I.pin (a, oe) (List.mem_append_left _ List.mem_cons_self)
  obtain ⟨vs, hd⟩ := hf
  obtain ⟨mA, hns, hr⟩ := (show ObjOk X.prog X.w H s.heap dd (.xd fs) from I.hok dd _ ea)
  obtain ⟨od, ho, hl⟩ := lookIn_ns hns
  exact ⟨od, ha, hz.1, by unfold PySem.W.notCls; rw [hd] <;> rfl, by rw [hz.2]; exact ho⟩
theorem call_isD (C : ExcD X.K D) (hz : Zc cls d oe) (hf : ∃ vs, oe.data = .fields vs) : CallR (X.suite a ((a, oe) :: pn)) (.builtin "isinstance") (rIsD X.K D a cls d) := by
  intro pins s σ H xs us Q I r h
  obtain ⟨c, cv, b, dd, fs, rfl, hcv, rfl, rfl, ea, e, q⟩ := h
  obtain ⟨u1, u2, rfl, r1, r2⟩ := vals2 r
  cases (show u1 = Value.ref a from r1)
  have ec := hcv.eq r2
  cases ec
  obtain ⟨od, J⟩ := inst_of I hz hf ea
  exact PySem.W.kia_one (PySem.W.kitx_exc C.hc C.hg C.hk C.hs C.ha C.hn C.ht C.hm) I.kIn J e (fun z => nomatch z) fun tk => ⟨.bl b, H, I.tok tk, rfl, q⟩
theorem call_isDT (C : ExcD X.K D) (hz : Zc cls d oe) (hf : ∃ vs, oe.data = .fields vs) : CallR (X.suite a ((a, oe) :: pn)) (.builtin "isinstance") (rIsDT X.K D a cls d) := by
  intro pins s σ H xs us Q I r h
  obtain ⟨tp, cs, ws, b, dd, fs, rfl, hT, hcv, rfl, rfl, ea, e, q⟩ := h
  obtain ⟨u1, u2, rfl, r1, r2⟩ := vals2 r
  cases (show u1 = Value.ref a from r1)
  cases (show u2 = Value.ref tp from r2)
  obtain ⟨od, J⟩ := inst_of I hz hf ea
  obtain ⟨_, its, rv, o, h1, h2, n, h3⟩ := (show ObjOk X.prog X.w H s.heap tp (.tup cs) from I.hok tp _ hT)
  have e3 := ClsV.all hcv rv
  subst e3
  obtain ⟨oc, od', dt, sl⟩ := o
  simp only at h2 h3
  subst h2 h3
  exact PySem.W.kia_tup (PySem.W.kitx_exc C.hc C.hg C.hk C.hs C.ha C.hn C.ht C.hm) I.kIn J h1 e (fun z => nomatch z) fun tk => ⟨.bl b, H, I.tok tk, rfl, q⟩
end
theorem kit_self {K : PySem.W.Frag} {C : Addr} : PySem.W.kitOne K (.ref C) (.ref C) = some true := by
  unfold PySem.W.kitOne
  rw [if_pos (beq_self_eq_true _)]
theorem kit_base {K : PySem.W.Frag} {C : Addr} {T : String} {b : Bool} (hm : PySem.W.kitMeta T = true) (h : PySem.W.subIn K (.ref C) (.type T) = some b) : PySem.W.kitOne K (.ref C) (.type T) = some b := by
  unfold PySem.W.kitOne
  rw [if_neg (by intro z; exact nomatch (beq_iff_eq.mp z))]
  show (if PySem.W.kitMeta T = true then PySem.W.subIn K (.ref C) (.type T) else none) = some b
  rw [if_pos hm]
  exact h
theorem kit_other {K : PySem.W.Frag} {C D : Addr} (hne : ((Value.ref C) == (Value.ref D)) = false) (hc : PySem.W.isClsIn K D = true) (ht : PySem.W.typeIn K (.ref D) = some (.type "type")) (h : PySem.W.subIn K (.ref C) (.ref D) = some false) : PySem.W.kitOne K (.ref C) (.ref D) = some false := by
  unfold PySem.W.kitOne
  rw [if_neg (by rw [hne]; exact Bool.false_ne_true)]
  show (if ((PySem.W.clsIn K D).isSome && PySem.W.typeIn K (.ref D) == some (.type "type")) = true then PySem.W.subIn K (.ref C) (.ref D) else none) = some false
  have h2 : (PySem.W.clsIn K D).isSome = true := hc
  rw [if_pos (by rw [h2, ht]; rfl)]
  exact h
/-- what the written part says of Refused, over Fault -/
structure RefC (K : PySem.W.Frag) (mg : Str → Option Value) (st : Stmt) where
  C : Addr
  CF : Addr
  fI : Addr
  dI : FuncData
  gC : mg "Refused" = some (.ref C)
  gF : mg "Fault" = some (.ref CF)
  rF : ClX.CRead K CF (.type "type")
  vF : PySem.W.findCls K (.ref CF) (.type "type") "__init__" = some (.val (.builtin "ValueError.__init__"))
  ox : OexC K C
  iC : PySem.W.findIn K (.ref C) "__init__" = some (some (.ref fI))
  tI : PySem.W.typeIn K (.ref fI) = some (.type "function")
  FI : Fun K "__init__" "Refused.__init__" st fI dI
  bI : Binds K dI ["self", "reason"] []
  nf : PySem.W.findIn K (.ref C) "reason" = some none
  ed : ExcD K C
  xf : XfC K C
  ex : PySem.W.exmOne K (.ref C) (.ref CF) = some true
  cF : PySem.W.isClsIn K CF = true
/-! ### tuples of ints, tuples of pairs, as data -/
theorem dpAll_ints {H : Hp} : ∀ ns : List Int, DpAll K H (ns.map V.int) (ns.map PyData.int)
  | [] => .nil
  | n :: r => .cons (.int n) (dpAll_ints r)
def dInts (ns : List Int) : PyData := .tuple (ns.map PyData.int)
def dPair (x : Int × Int) : PyData := .tuple [.int x.1, .int x.2]
def dPairs (l : List (Int × Int)) : PyData := .tuple (l.map dPair)
theorem dp_ints {H : Hp} {a : Addr} {ns : List Int} (h : SqT K H a (ns.map V.int)) : Dp K H (.ref a) (dInts ns) := .tup h (dpAll_ints ns)
theorem shaped_dInts (ns : List Int) : SeqAt.shaped (dInts ns) = true := by
  have h1 := PySem.W.depthAll_ints ns
  have h2 : PyData.depth (.tuple (ns.map PyData.int)) ≤ 64 := by simp only [PyData.depth]; omega
  show (PyData.canLay0 (.tuple (ns.map PyData.int)) && decide (PyData.depth (.tuple (ns.map PyData.int)) ≤ 64)) = true
  rw [Bool.and_eq_true]
  exact ⟨by simp only [PyData.canLay0]; exact PySem.W.canLayAll0_ints ns, decide_eq_true h2⟩
theorem canLay_dPairs : ∀ l : List (Int × Int), PyData.canLayAll0 (l.map dPair) = true
  | [] => by simp [PyData.canLayAll0]
  | x :: r => by simp [PyData.canLayAll0, PyData.canLay0, dPair, canLay_dPairs r]
theorem depth_dPairs : ∀ l : List (Int × Int), PyData.depthAll (l.map dPair) ≤ 2
  | [] => by simp [PyData.depthAll]
  | x :: r => by
    have := depth_dPairs r
    simp only [List.map_cons, PyData.depthAll, PyData.depth, dPair]
    omega
theorem shaped_dPairs (l : List (Int × Int)) : SeqAt.shaped (dPairs l) = true := by
  have h1 := depth_dPairs l
  have h2 : PyData.depth (.tuple (l.map dPair)) ≤ 64 := by simp only [PyData.depth]; omega
  show (PyData.canLay0 (.tuple (l.map dPair)) && decide (PyData.depth (.tuple (l.map dPair)) ≤ 64)) = true
  rw [Bool.and_eq_true]
  exact ⟨by simp only [PyData.canLay0]; exact canLay_dPairs l, decide_eq_true h2⟩
theorem eqvAll_ints : ∀ ns ms : List Int, PyData.eqvAll (ns.map PyData.int) (ms.map PyData.int) = decide (ns = ms)
  | [], [] => by simp [PyData.eqvAll]
  | [], _ :: _ => by simp [PyData.eqvAll]
  | _ :: _, [] => by simp [PyData.eqvAll]
  | n :: r, k :: q => by
    simp only [List.map_cons, PyData.eqvAll, PyData.eqv, eqvAll_ints r q]
    by_cases h : n = k <;> simp [h]
theorem eqv_dInts (ns ms : List Int) : PyData.eqv (dInts ns) (dInts ms) = decide (ns = ms) := by
  unfold dInts
  rw [PyData.eqv]
  exact eqvAll_ints ns ms
theorem eqvAll_dPairs : ∀ l : List (Int × Int), PyData.eqvAll (l.map dPair) (l.map dPair) = true
  | [] => by simp [PyData.eqvAll]
  | x :: r => by
    simp only [List.map_cons, PyData.eqvAll, eqvAll_dPairs r, Bool.and_true]
    unfold dPair
    simp [PyData.eqv, PyData.eqvAll]
theorem eqv_dPairs (l : List (Int × Int)) : PyData.eqv (dPairs l) (dPairs l) = true := by
  unfold dPairs
  rw [PyData.eqv]
  exact eqvAll_dPairs l
theorem dpAll_pairs {H : Hp} : ∀ {ts : List Addr} {l : List (Int × Int)}, Paired (fun t x => H t = some (.tup [.int x.1, .int x.2])) ts l → DpAll K H (ts.map V.ref) (l.map dPair)
  | _, _, .nil => .nil
  | _, _, .cons h r => .cons (.tup (.inl (.inl h)) (.cons (.int _) (.cons (.int _) .nil))) (dpAll_pairs r)
theorem dp_pairs {H : Hp} {a : Addr} {ts : List Addr} {l : List (Int × Int)} (h : SqT K H a (ts.map V.ref)) (hp : Paired (fun t x => H t = some (.tup [.int x.1, .int x.2])) ts l) : Dp K H (.ref a) (dPairs l) := .tup h (dpAll_pairs hp)
end
def topS (i : Nat) : Stmt := PySem.Challenge.pw_polychains_k00_numbers.main.body.getD i (.Pass ⟨0, 0, 0, 0⟩)
abbrev s_is_integer : Stmt := topS 7
abbrev N_is_integer : List Str := ["value"]
theorem sc_is_integer : FnScope N_is_integer ["value"] (defScope s_is_integer) := ⟨rfl, rfl, rfl, by decide +kernel, rfl, by decide +kernel, by decide +kernel⟩
abbrev s_is_small_prime : Stmt := topS 8
abbrev N_is_small_prime : List Str := ["value"]
theorem sc_is_small_prime : FnScope N_is_small_prime ["value"] (defScope s_is_small_prime) := ⟨rfl, rfl, rfl, by decide +kernel, rfl, by decide +kernel, by decide +kernel⟩
abbrev s_power : Stmt := topS 9
abbrev N_power : List Str := ["a", "k", "result"]
theorem sc_power : FnScope N_power ["a", "k"] (defScope s_power) := ⟨rfl, rfl, rfl, by decide +kernel, rfl, by decide +kernel, by decide +kernel⟩
abbrev s_factors : Stmt := topS 10
abbrev N_factors : List Str := ["n", "found", "p", "exponent"]
theorem sc_factors : FnScope N_factors ["n"] (defScope s_factors) := ⟨rfl, rfl, rfl, by decide +kernel, rfl, by decide +kernel, by decide +kernel⟩
abbrev s_divisors : Stmt := topS 11
abbrev N_divisors : List Str := ["n", "found", "p", "exponent", "multiples", "_", "d"]
theorem sc_divisors : FnScope N_divisors ["n"] (defScope s_divisors) := ⟨rfl, rfl, rfl, by decide +kernel, rfl, by decide +kernel, by decide +kernel⟩
abbrev s_inverse : Stmt := topS 12
abbrev N_inverse : List Str := ["a", "p", "remainder"]
theorem sc_inverse : FnScope N_inverse ["a", "p"] (defScope s_inverse) := ⟨rfl, rfl, rfl, by decide +kernel, rfl, by decide +kernel, by decide +kernel⟩
abbrev s__law_state : Stmt := topS 14
abbrev N__law_state : List Str := ["script", "seed", "total", "cell"]
theorem sc__law_state : FnScope N__law_state ["script"] (defScope s__law_state) := ⟨rfl, rfl, rfl, by decide +kernel, rfl, by decide +kernel, by decide +kernel⟩
abbrev s__law_take : Stmt := topS 15
abbrev N__law_take : List Str := ["state", "m", "value"]
theorem sc__law_take : FnScope N__law_take ["state", "m"] (defScope s__law_take) := ⟨rfl, rfl, rfl, by decide +kernel, rfl, by decide +kernel, by decide +kernel⟩
abbrev s__law_reason : Stmt := topS 16
abbrev N__law_reason : List Str := ["a", "p", "e"]
theorem sc__law_reason : FnScope N__law_reason ["a", "p"] (defScope s__law_reason) := ⟨rfl, rfl, rfl, by decide +kernel, rfl, by decide +kernel, by decide +kernel⟩
abbrev s__law_is_prime : Stmt := topS 17
abbrev N__law_is_prime : List Str := ["n", "d"]
theorem sc__law_is_prime : FnScope N__law_is_prime ["n"] (defScope s__law_is_prime) := ⟨rfl, rfl, rfl, by decide +kernel, rfl, by decide +kernel, by decide +kernel⟩
abbrev s_law : Stmt := topS 18
abbrev N_law : List Str := ["script", "state", "p", "a", "b", "k", "total", "turn", "n", "due", "d", "most", "m", "told", "value"]
theorem sc_law : FnScope N_law ["script"] (defScope s_law) := ⟨rfl, rfl, rfl, by decide +kernel, rfl, by decide +kernel, by decide +kernel⟩
structure Txt (K : PySem.W.Frag) (mg : Str → Option Value) where
  a_is_integer : Addr
  d_is_integer : FuncData
  F_is_integer : Fun K "is_integer" "is_integer" s_is_integer a_is_integer d_is_integer
  g_is_integer : mg "is_integer" = some (.ref a_is_integer)
  b_is_integer : Binds K d_is_integer ["value"] []
  a_is_small_prime : Addr
  d_is_small_prime : FuncData
  F_is_small_prime : Fun K "is_small_prime" "is_small_prime" s_is_small_prime a_is_small_prime d_is_small_prime
  g_is_small_prime : mg "is_small_prime" = some (.ref a_is_small_prime)
  b_is_small_prime : Binds K d_is_small_prime ["value"] []
  a_power : Addr
  d_power : FuncData
  F_power : Fun K "power" "power" s_power a_power d_power
  g_power : mg "power" = some (.ref a_power)
  b_power : Binds K d_power ["a", "k"] []
  a_factors : Addr
  d_factors : FuncData
  F_factors : Fun K "factors" "factors" s_factors a_factors d_factors
  g_factors : mg "factors" = some (.ref a_factors)
  b_factors : Binds K d_factors ["n"] []
  a_divisors : Addr
  d_divisors : FuncData
  F_divisors : Fun K "divisors" "divisors" s_divisors a_divisors d_divisors
  g_divisors : mg "divisors" = some (.ref a_divisors)
  b_divisors : Binds K d_divisors ["n"] []
  a_inverse : Addr
  d_inverse : FuncData
  F_inverse : Fun K "inverse" "inverse" s_inverse a_inverse d_inverse
  g_inverse : mg "inverse" = some (.ref a_inverse)
  b_inverse : Binds K d_inverse ["a", "p"] []
  a__law_state : Addr
  d__law_state : FuncData
  F__law_state : Fun K "_law_state" "_law_state" s__law_state a__law_state d__law_state
  g__law_state : mg "_law_state" = some (.ref a__law_state)
  b__law_state : Binds K d__law_state ["script"] []
  a__law_take : Addr
  d__law_take : FuncData
  F__law_take : Fun K "_law_take" "_law_take" s__law_take a__law_take d__law_take
  g__law_take : mg "_law_take" = some (.ref a__law_take)
  b__law_take : Binds K d__law_take ["state", "m"] []
  a__law_reason : Addr
  d__law_reason : FuncData
  F__law_reason : Fun K "_law_reason" "_law_reason" s__law_reason a__law_reason d__law_reason
  g__law_reason : mg "_law_reason" = some (.ref a__law_reason)
  b__law_reason : Binds K d__law_reason ["a", "p"] []
  a__law_is_prime : Addr
  d__law_is_prime : FuncData
  F__law_is_prime : Fun K "_law_is_prime" "_law_is_prime" s__law_is_prime a__law_is_prime d__law_is_prime
  g__law_is_prime : mg "_law_is_prime" = some (.ref a__law_is_prime)
  b__law_is_prime : Binds K d__law_is_prime ["n"] []
  a_law : Addr
  d_law : FuncData
  F_law : Fun K "law" "law" s_law a_law d_law
  g_law : mg "law" = some (.ref a_law)
  b_law : Binds K d_law ["script"] []
  n_isinstance : mg "isinstance" = none
  n_int : mg "int" = none
  n_bool : mg "bool" = none
  n_tuple : mg "tuple" = none
  n_range : mg "range" = none
  n_sorted : mg "sorted" = none
  n_abs : mg "abs" = none
  n_ValueError : mg "ValueError" = none
  n_len : mg "len" = none
  q_SMALL_PRIMES : Addr
  g_SMALL_PRIMES : mg "SMALL_PRIMES" = some (.ref q_SMALL_PRIMES)
  t_SMALL : ∀ H : Hp, SqT K H q_SMALL_PRIMES ([2, 3, 5, 7, 11, 13, 17, 19, 23, 29, 31].map V.int)
def txt_mk {K : PySem.W.Frag} {h : Heap} {mg : Str → Option Value} (X : K.In h) (G : h.Ns mainGlobals mg)
    {f_is_integer : Addr} {od_is_integer an_is_integer : Option Addr} {sl_is_integer : Array (Option Value)} {oc_is_integer kV_is_integer dc_is_integer pm_is_integer cd_is_integer ct_is_integer : Value}
    (a_is_integer : PySem.W.nsIn K mainGlobals "is_integer" = some (some (.ref f_is_integer))) (l_is_integer : K.lookup f_is_integer = some ⟨oc_is_integer, od_is_integer, .func (PySem.W.fnOf "is_integer" "is_integer" (defArgs s_is_integer) (defBody s_is_integer) (defScope s_is_integer) .none kV_is_integer dc_is_integer pm_is_integer an_is_integer cd_is_integer ct_is_integer), sl_is_integer⟩)
    (c_is_integer : PySem.W.codeIn K cd_is_integer "is_integer" = true) (k_is_integer : PySem.W.keepIn K (.ref f_is_integer) = true)
    {f_is_small_prime : Addr} {od_is_small_prime an_is_small_prime : Option Addr} {sl_is_small_prime : Array (Option Value)} {oc_is_small_prime kV_is_small_prime dc_is_small_prime pm_is_small_prime cd_is_small_prime ct_is_small_prime : Value}
    (a_is_small_prime : PySem.W.nsIn K mainGlobals "is_small_prime" = some (some (.ref f_is_small_prime))) (l_is_small_prime : K.lookup f_is_small_prime = some ⟨oc_is_small_prime, od_is_small_prime, .func (PySem.W.fnOf "is_small_prime" "is_small_prime" (defArgs s_is_small_prime) (defBody s_is_small_prime) (defScope s_is_small_prime) .none kV_is_small_prime dc_is_small_prime pm_is_small_prime an_is_small_prime cd_is_small_prime ct_is_small_prime), sl_is_small_prime⟩)
    (c_is_small_prime : PySem.W.codeIn K cd_is_small_prime "is_small_prime" = true) (k_is_small_prime : PySem.W.keepIn K (.ref f_is_small_prime) = true)
    {f_power : Addr} {od_power an_power : Option Addr} {sl_power : Array (Option Value)} {oc_power kV_power dc_power pm_power cd_power ct_power : Value}
    (a_power : PySem.W.nsIn K mainGlobals "power" = some (some (.ref f_power))) (l_power : K.lookup f_power = some ⟨oc_power, od_power, .func (PySem.W.fnOf "power" "power" (defArgs s_power) (defBody s_power) (defScope s_power) .none kV_power dc_power pm_power an_power cd_power ct_power), sl_power⟩)
    (c_power : PySem.W.codeIn K cd_power "power" = true) (k_power : PySem.W.keepIn K (.ref f_power) = true)
    {f_factors : Addr} {od_factors an_factors : Option Addr} {sl_factors : Array (Option Value)} {oc_factors kV_factors dc_factors pm_factors cd_factors ct_factors : Value}
    (a_factors : PySem.W.nsIn K mainGlobals "factors" = some (some (.ref f_factors))) (l_factors : K.lookup f_factors = some ⟨oc_factors, od_factors, .func (PySem.W.fnOf "factors" "factors" (defArgs s_factors) (defBody s_factors) (defScope s_factors) .none kV_factors dc_factors pm_factors an_factors cd_factors ct_factors), sl_factors⟩)
    (c_factors : PySem.W.codeIn K cd_factors "factors" = true) (k_factors : PySem.W.keepIn K (.ref f_factors) = true)
    {f_divisors : Addr} {od_divisors an_divisors : Option Addr} {sl_divisors : Array (Option Value)} {oc_divisors kV_divisors dc_divisors pm_divisors cd_divisors ct_divisors : Value}
    (a_divisors : PySem.W.nsIn K mainGlobals "divisors" = some (some (.ref f_divisors))) (l_divisors : K.lookup f_divisors = some ⟨oc_divisors, od_divisors, .func (PySem.W.fnOf "divisors" "divisors" (defArgs s_divisors) (defBody s_divisors) (defScope s_divisors) .none kV_divisors dc_divisors pm_divisors an_divisors cd_divisors ct_divisors), sl_divisors⟩)
    (c_divisors : PySem.W.codeIn K cd_divisors "divisors" = true) (k_divisors : PySem.W.keepIn K (.ref f_divisors) = true)
    {f_inverse : Addr} {od_inverse an_inverse : Option Addr} {sl_inverse : Array (Option Value)} {oc_inverse kV_inverse dc_inverse pm_inverse cd_inverse ct_inverse : Value}
    (a_inverse : PySem.W.nsIn K mainGlobals "inverse" = some (some (.ref f_inverse))) (l_inverse : K.lookup f_inverse = some ⟨oc_inverse, od_inverse, .func (PySem.W.fnOf "inverse" "inverse" (defArgs s_inverse) (defBody s_inverse) (defScope s_inverse) .none kV_inverse dc_inverse pm_inverse an_inverse cd_inverse ct_inverse), sl_inverse⟩)
    (c_inverse : PySem.W.codeIn K cd_inverse "inverse" = true) (k_inverse : PySem.W.keepIn K (.ref f_inverse) = true)
    {f__law_state : Addr} {od__law_state an__law_state : Option Addr} {sl__law_state : Array (Option Value)} {oc__law_state kV__law_state dc__law_state pm__law_state cd__law_state ct__law_state : Value}
    (a__law_state : PySem.W.nsIn K mainGlobals "_law_state" = some (some (.ref f__law_state))) (l__law_state : K.lookup f__law_state = some ⟨oc__law_state, od__law_state, .func (PySem.W.fnOf "_law_state" "_law_state" (defArgs s__law_state) (defBody s__law_state) (defScope s__law_state) .none kV__law_state dc__law_state pm__law_state an__law_state cd__law_state ct__law_state), sl__law_state⟩)
    (c__law_state : PySem.W.codeIn K cd__law_state "_law_state" = true) (k__law_state : PySem.W.keepIn K (.ref f__law_state) = true)
    {f__law_take : Addr} {od__law_take an__law_take : Option Addr} {sl__law_take : Array (Option Value)} {oc__law_take kV__law_take dc__law_take pm__law_take cd__law_take ct__law_take : Value}
    (a__law_take : PySem.W.nsIn K mainGlobals "_law_take" = some (some (.ref f__law_take))) (l__law_take : K.lookup f__law_take = some ⟨oc__law_take, od__law_take, .func (PySem.W.fnOf "_law_take" "_law_take" (defArgs s__law_take) (defBody s__law_take) (defScope s__law_take) .none kV__law_take dc__law_take pm__law_take an__law_take cd__law_take ct__law_take), sl__law_take⟩)
    (c__law_take : PySem.W.codeIn K cd__law_take "_law_take" = true) (k__law_take : PySem.W.keepIn K (.ref f__law_take) = true)
    {f__law_reason : Addr} {od__law_reason an__law_reason : Option Addr} {sl__law_reason : Array (Option Value)} {oc__law_reason kV__law_reason dc__law_reason pm__law_reason cd__law_reason ct__law_reason : Value}
    (a__law_reason : PySem.W.nsIn K mainGlobals "_law_reason" = some (some (.ref f__law_reason))) (l__law_reason : K.lookup f__law_reason = some ⟨oc__law_reason, od__law_reason, .func (PySem.W.fnOf "_law_reason" "_law_reason" (defArgs s__law_reason) (defBody s__law_reason) (defScope s__law_reason) .none kV__law_reason dc__law_reason pm__law_reason an__law_reason cd__law_reason ct__law_reason), sl__law_reason⟩)
    (c__law_reason : PySem.W.codeIn K cd__law_reason "_law_reason" = true) (k__law_reason : PySem.W.keepIn K (.ref f__law_reason) = true)
    {f__law_is_prime : Addr} {od__law_is_prime an__law_is_prime : Option Addr} {sl__law_is_prime : Array (Option Value)} {oc__law_is_prime kV__law_is_prime dc__law_is_prime pm__law_is_prime cd__law_is_prime ct__law_is_prime : Value}
    (a__law_is_prime : PySem.W.nsIn K mainGlobals "_law_is_prime" = some (some (.ref f__law_is_prime))) (l__law_is_prime : K.lookup f__law_is_prime = some ⟨oc__law_is_prime, od__law_is_prime, .func (PySem.W.fnOf "_law_is_prime" "_law_is_prime" (defArgs s__law_is_prime) (defBody s__law_is_prime) (defScope s__law_is_prime) .none kV__law_is_prime dc__law_is_prime pm__law_is_prime an__law_is_prime cd__law_is_prime ct__law_is_prime), sl__law_is_prime⟩)
    (c__law_is_prime : PySem.W.codeIn K cd__law_is_prime "_law_is_prime" = true) (k__law_is_prime : PySem.W.keepIn K (.ref f__law_is_prime) = true)
    {f_law : Addr} {od_law an_law : Option Addr} {sl_law : Array (Option Value)} {oc_law kV_law dc_law pm_law cd_law ct_law : Value}
    (a_law : PySem.W.nsIn K mainGlobals "law" = some (some (.ref f_law))) (l_law : K.lookup f_law = some ⟨oc_law, od_law, .func (PySem.W.fnOf "law" "law" (defArgs s_law) (defBody s_law) (defScope s_law) .none kV_law dc_law pm_law an_law cd_law ct_law), sl_law⟩)
    (c_law : PySem.W.codeIn K cd_law "law" = true) (k_law : PySem.W.keepIn K (.ref f_law) = true)
    (z_isinstance : PySem.W.nsIn K mainGlobals "isinstance" = some none)
    (z_int : PySem.W.nsIn K mainGlobals "int" = some none)
    (z_bool : PySem.W.nsIn K mainGlobals "bool" = some none)
    (z_tuple : PySem.W.nsIn K mainGlobals "tuple" = some none)
    (z_range : PySem.W.nsIn K mainGlobals "range" = some none)
    (z_sorted : PySem.W.nsIn K mainGlobals "sorted" = some none)
    (z_abs : PySem.W.nsIn K mainGlobals "abs" = some none)
    (z_ValueError : PySem.W.nsIn K mainGlobals "ValueError" = some none)
    (z_len : PySem.W.nsIn K mainGlobals "len" = some none)
    {q_S : Addr} {dd_S : Option Addr} {its_S : Array Value} {n_S : Nat} {sl_S : Array (Option Value)}
    (a_S : PySem.W.nsIn K mainGlobals "SMALL_PRIMES" = some (some (.ref q_S))) (l_S : K.lookup q_S = some ⟨.type "tuple", dd_S, .seq its_S n_S, sl_S⟩) (v_S : Vals ([2, 3, 5, 7, 11, 13, 17, 19, 23, 29, 31].map V.int) its_S.toList) : Txt K mg :=
  have F_is_integer := fun_mk (st := s_is_integer) l_is_integer c_is_integer k_is_integer
  have b_is_integer := F_is_integer.binds (ps := ["value"]) fun _ _ _ _ _ _ us hl => match us, hl with | [_], _ => rfl
  have F_is_small_prime := fun_mk (st := s_is_small_prime) l_is_small_prime c_is_small_prime k_is_small_prime
  have b_is_small_prime := F_is_small_prime.binds (ps := ["value"]) fun _ _ _ _ _ _ us hl => match us, hl with | [_], _ => rfl
  have F_power := fun_mk (st := s_power) l_power c_power k_power
  have b_power := F_power.binds (ps := ["a", "k"]) fun _ _ _ _ _ _ us hl => match us, hl with | [_, _], _ => rfl
  have F_factors := fun_mk (st := s_factors) l_factors c_factors k_factors
  have b_factors := F_factors.binds (ps := ["n"]) fun _ _ _ _ _ _ us hl => match us, hl with | [_], _ => rfl
  have F_divisors := fun_mk (st := s_divisors) l_divisors c_divisors k_divisors
  have b_divisors := F_divisors.binds (ps := ["n"]) fun _ _ _ _ _ _ us hl => match us, hl with | [_], _ => rfl
  have F_inverse := fun_mk (st := s_inverse) l_inverse c_inverse k_inverse
  have b_inverse := F_inverse.binds (ps := ["a", "p"]) fun _ _ _ _ _ _ us hl => match us, hl with | [_, _], _ => rfl
  have F__law_state := fun_mk (st := s__law_state) l__law_state c__law_state k__law_state
  have b__law_state := F__law_state.binds (ps := ["script"]) fun _ _ _ _ _ _ us hl => match us, hl with | [_], _ => rfl
  have F__law_take := fun_mk (st := s__law_take) l__law_take c__law_take k__law_take
  have b__law_take := F__law_take.binds (ps := ["state", "m"]) fun _ _ _ _ _ _ us hl => match us, hl with | [_, _], _ => rfl
  have F__law_reason := fun_mk (st := s__law_reason) l__law_reason c__law_reason k__law_reason
  have b__law_reason := F__law_reason.binds (ps := ["a", "p"]) fun _ _ _ _ _ _ us hl => match us, hl with | [_, _], _ => rfl
  have F__law_is_prime := fun_mk (st := s__law_is_prime) l__law_is_prime c__law_is_prime k__law_is_prime
  have b__law_is_prime := F__law_is_prime.binds (ps := ["n"]) fun _ _ _ _ _ _ us hl => match us, hl with | [_], _ => rfl
  have F_law := fun_mk (st := s_law) l_law c_law k_law
  have b_law := F_law.binds (ps := ["script"]) fun _ _ _ _ _ _ us hl => match us, hl with | [_], _ => rfl
  { a_is_integer := f_is_integer, d_is_integer := _, F_is_integer := F_is_integer, g_is_integer := PySem.W.mg_of X G a_is_integer, b_is_integer := b_is_integer, a_is_small_prime := f_is_small_prime, d_is_small_prime := _, F_is_small_prime := F_is_small_prime, g_is_small_prime := PySem.W.mg_of X G a_is_small_prime, b_is_small_prime := b_is_small_prime, a_power := f_power, d_power := _, F_power := F_power, g_power := PySem.W.mg_of X G a_power, b_power := b_power, a_factors := f_factors, d_factors := _, F_factors := F_factors, g_factors := PySem.W.mg_of X G a_factors, b_factors := b_factors, a_divisors := f_divisors, d_divisors := _, F_divisors := F_divisors, g_divisors := PySem.W.mg_of X G a_divisors, b_divisors := b_divisors, a_inverse := f_inverse, d_inverse := _, F_inverse := F_inverse, g_inverse := PySem.W.mg_of X G a_inverse, b_inverse := b_inverse, a__law_state := f__law_state, d__law_state := _, F__law_state := F__law_state, g__law_state := PySem.W.mg_of X G a__law_state, b__law_state := b__law_state, a__law_take := f__law_take, d__law_take := _, F__law_take := F__law_take, g__law_take := PySem.W.mg_of X G a__law_take, b__law_take := b__law_take, a__law_reason := f__law_reason, d__law_reason := _, F__law_reason := F__law_reason, g__law_reason := PySem.W.mg_of X G a__law_reason, b__law_reason := b__law_reason, a__law_is_prime := f__law_is_prime, d__law_is_prime := _, F__law_is_prime := F__law_is_prime, g__law_is_prime := PySem.W.mg_of X G a__law_is_prime, b__law_is_prime := b__law_is_prime, a_law := f_law, d_law := _, F_law := F_law, g_law := PySem.W.mg_of X G a_law, b_law := b_law, n_isinstance := PySem.W.mg_none_of X G z_isinstance, n_int := PySem.W.mg_none_of X G z_int, n_bool := PySem.W.mg_none_of X G z_bool, n_tuple := PySem.W.mg_none_of X G z_tuple, n_range := PySem.W.mg_none_of X G z_range, n_sorted := PySem.W.mg_none_of X G z_sorted, n_abs := PySem.W.mg_none_of X G z_abs, n_ValueError := PySem.W.mg_none_of X G z_ValueError, n_len := PySem.W.mg_none_of X G z_len, q_SMALL_PRIMES := q_S, g_SMALL_PRIMES := PySem.W.mg_of X G a_S, t_SMALL := fun H => .inr ⟨_, its_S, n_S, l_S, rfl, rfl, by rw [← Array.length_toList, ← Vals.length v_S]; decide, v_S⟩ }
section
variable {P : Program} {w : World} {K : PySem.W.Frag} {mg : Str → Option Value} {base : Heap}
/-! ### power -/
def spPower : Sp := fun vs H Q _ => ∃ (a : Int) (k : Nat), vs = [.int a, .int k] ∧ a.natAbs < 2 ^ 40 ∧ k ≤ 1000 ∧ Q (.int (a ^ k)) H
theorem pow_size {a : Int} (h : a.natAbs < 2 ^ 40) (e : Nat) : (a ^ e).natAbs < 2 ^ (40 * e + 1) := by
  rw [Int.natAbs_pow]
  have h1 : a.natAbs ^ e ≤ (2 ^ 40) ^ e := Nat.pow_le_pow_left (Nat.le_of_lt h) e
  rw [← Nat.pow_mul] at h1
  exact Nat.lt_of_le_of_lt h1 (Nat.pow_lt_pow_right (by decide) (by omega))
theorem bit1 (m : Nat) : Builtin.bitAnd (m : Int) 1 = ((m % 2 : Nat) : Int) := by
  have h : Builtin.bitAnd (m : Int) ((1 : Nat) : Int) = ((m &&& 1 : Nat) : Int) := rfl
  have h2 : Builtin.bitAnd (m : Int) 1 = ((m &&& 1 : Nat) : Int) := h
  rw [h2, Nat.and_one_is_mod]
theorem ok_power (T : Txt K mg) : FnOk P w K mg base CX0 1 T.a_power T.d_power ["a", "k"] spPower := by
  refine T.F_power.ok sc_power (fun vs H Q E h => ?_) (fun cdv A outer s H vs Q E hr h => ?_)
  · obtain ⟨a, k, rfl, _⟩ := h
    rfl
  · obtain ⟨a, k, rfl, ha, hk, q⟩ := h
    refine ⟨_, (pss_cons (ps_set (i := 2) sc_power.nd rfl (.inl rfl) pe_int) 
    (pss_cons (ps_while PassesOwn.never (pt_cmpR op_gt (pv 1) pe_int (nomark _)) 
      (pss_cons (ps_if (pt_truth (pe_op op_and (pv 1) pe_int) (by intro _; rfl)) 
        (pss_one (ps_set (i := 2) sc_power.nd rfl (.inl rfl) (pe_op op_mulW (pv 2) (pv 0)))) pss_nil) 
      (pss_cons (ps_set (i := 1) sc_power.nd rfl (.inl rfl) (pe_op op_shr (pv 1) pe_int)) 
      (pss_one (ps_if (pt_cmpR op_gt (pv 1) pe_int (nomark _)) 
        (pss_one (ps_set (i := 0) sc_power.nd rfl (.inl rfl) (pe_op op_mulW (pv 0) (pv 0)))) pss_nil))))) 
    (pss_one (ps_ret (pv 2))))), ?_⟩
    refine ⟨fun m σ H' => ∃ (e r : Nat) (x z y : Int), σ = [some (.int x), some (.int z), some (.int y)] ∧ x = a ^ e ∧ z = (m : Int) ∧ y = a ^ r ∧ e * m + r = k ∧ (0 < m → e ≤ k) ∧ H' = H,
      ⟨k, 1, 0, a, (k : Int), 1, rfl, (Int.pow_one a).symm, rfl, (Int.pow_zero a).symm, by omega, fun _ => by omega, rfl⟩, fun m σ H' hW => ?_⟩
    obtain ⟨e, r, x, z, y, rfl, hx, hz, hy, hs, he, rfl⟩ := hW
    refine ⟨_, rfl, _, _, rfl, rfl, _, rfl, ite2 (fun c => ?_) (fun c => ?_)⟩
    · have c1 : 0 < m := by
        have := of_decide_eq_true c
        omega
      have he1 := he c1
      have hm : e * m = e * 2 * (m / 2) + e * (m % 2) := by
        rw [Nat.mul_assoc, ← Nat.mul_add, Nat.div_add_mod]
      have sz := fun n : Nat => pow_size ha n
      have hbit : Builtin.bitAnd z 1 = ((m % 2 : Nat) : Int) := by rw [hz, bit1]
      have hdiv : z / 2 ^ (1 : Int).toNat = ((m / 2 : Nat) : Int) := by
        rw [hz]
        show (m : Int) / 2 = _
        omega
      have hee : x * x = a ^ (e * 2) := by rw [hx, ← Int.pow_add, Nat.mul_two]
      have hmul : ∀ i j : Nat, i ≤ k → j ≤ k → ∀ u v : Int, u = a ^ i → v = a ^ j → CMulW u v := fun i j hi hj u v eu ev => by
        rw [eu, ev]
        exact wide_mul (sz i) (sz j) (by omega) (by omega) (by omega)
      refine ⟨fun σ' H'' => H'' = H' ∧ ∃ (e2 r2 : Nat) (x2 z2 y2 : Int), σ' = [some (.int x2), some (.int z2), some (.int y2)] ∧ x2 = a ^ e2 ∧ z2 = ((m / 2 : Nat) : Int) ∧ y2 = a ^ r2 ∧ e2 * (m / 2) + r2 = k ∧ (0 < m / 2 → e2 ≤ k), fun σ' H'' hN => ?_, ?_⟩
      · obtain ⟨rfl, e2, r2, x2, z2, y2, rfl, h1, h2, h3, hs2, he2⟩ := hN
        exact ⟨m / 2, by omega, e2, r2, x2, z2, y2, rfl, h1, h2, h3, hs2, he2, rfl⟩
      refine ⟨_, rfl, _, _, rfl, rfl, _, rfl, ite2 (fun c2 => ?_) (fun c2 => ?_)⟩
      · have odd : m % 2 = 1 := by
          have c3 : Builtin.bitAnd z 1 ≠ 0 := bne_iff_ne.mp c2
          omega
        rw [odd, Nat.mul_one] at hm
        refine ⟨_, rfl, _, rfl, _, _, rfl, rfl, hmul r e (by omega) he1 _ _ hy hx, ?_⟩
        have hyy : y * x = a ^ (r + e) := by rw [hx, hy, ← Int.pow_add]
        refine ⟨_, rfl, _, _, rfl, rfl, (by show (0 : Int) ≤ 1; decide), ?_⟩
        refine ⟨_, rfl, _, _, rfl, rfl, _, rfl, ite2 (fun c4 => ?_) (fun c4 => ?_)⟩
        · have c5 : 0 < m / 2 := by
            have := of_decide_eq_true c4
            omega
          have : e * 2 ≤ e * 2 * (m / 2) := Nat.le_mul_of_pos_right _ c5
          exact ⟨_, rfl, _, rfl, _, _, rfl, rfl, hmul e e he1 he1 _ _ hx hx, rfl, e * 2, r + e, _, _, _, rfl, hee, hdiv, hyy, by omega, fun _ => by omega⟩
        · have c5 : m / 2 = 0 := by
            have h6 : ¬ (0 < z / 2 ^ (1 : Int).toNat) := fun h7 => c4 (decide_eq_true h7)
            omega
          rw [c5] at hm
          exact ⟨rfl, e, r + e, _, _, _, rfl, hx, hdiv, hyy, by rw [c5]; omega, fun h => by omega⟩
      · have ev : m % 2 = 0 := by
          have c3 : Builtin.bitAnd z 1 = 0 := by
            cases h7 : (Builtin.bitAnd z 1 != 0) with
            | true => exact absurd h7 c2
            | false => exact bne_eq_false_iff_eq.mp h7
          omega
        rw [ev, Nat.mul_zero] at hm
        refine ⟨_, rfl, _, _, rfl, rfl, (by show (0 : Int) ≤ 1; decide), ?_⟩
        have c5 : 0 < m / 2 := by omega
        refine ⟨_, rfl, _, _, rfl, rfl, _, rfl, ite2 (fun c4 => ?_) (fun c4 => ?_)⟩
        · have : e * 2 ≤ e * 2 * (m / 2) := Nat.le_mul_of_pos_right _ c5
          exact ⟨_, rfl, _, rfl, _, _, rfl, rfl, hmul e e he1 he1 _ _ hx hx, rfl, e * 2, r, _, _, _, rfl, hee, hdiv, hy, by omega, fun _ => by omega⟩
        · exact absurd (decide_eq_true (show 0 < z / 2 ^ (1 : Int).toNat by omega)) c4
    · have c1 : m = 0 := by
        have h6 : ¬ (0 < z) := fun h7 => c (decide_eq_true h7)
        omega
      rw [c1, Nat.mul_zero] at hs
      have e1 : r = k := by omega
      subst e1
      rw [← hy] at q
      exact ⟨_, rfl, q⟩
/-! ### Refused, inverse -/
abbrev s_RI : Stmt := inClass (topS 3) 0
theorem sc_RI : FnScope ["self", "reason"] ["self", "reason"] (defScope s_RI) := ⟨rfl, rfl, rfl, by decide +kernel, rfl, by decide +kernel, by decide +kernel⟩
def spRI (C : Addr) : Sp := fun vs H Q _ => ∃ (a : Addr) (r : Str), vs = [.ref a, .str r] ∧ ((Str.empty ++ ("refused: " : Str)) ++ r).length ≤ sizeLine ∧ r.length ≤ sizeLine ∧ H a = some (exo a C none) ∧
  ∀ dx, H dx = none → dx ≠ a → Q .non (upd (upd H dx (exd dx [(("reason" : Str), .str r)])) a (exo a C (some dx)))
theorem ok_RI (R : RefC K mg s_RI) : FnOk P w K mg base CX0 1 R.fI R.dI ["self", "reason"] (spRI R.C) := by
  refine R.FI.ok sc_RI (fun vs H Q E h => ?_) (fun cdv A outer s H vs Q E hr h => ?_)
  · obtain ⟨a, r, rfl, _⟩ := h
    rfl
  · obtain ⟨a, r, rfl, hl, hl2, ha, q⟩ := h
    refine ⟨_, pss_cons (ps_expr (pe_finit (by rfl) R.gF R.rF R.vF (pa_cons (pv 0) (pa_cons (pe_joined (.cons pe_str (.cons (pe_fmt (pv 1)) .nil))) pa_nil)))) (pss_one (ps_ost (pv 0) (pv 1))), ?_⟩
    refine ⟨_, rfl, _, rfl, by decide +kernel, _, rfl, .inl ⟨r, rfl, hl2, r, rfl, hl, ?_⟩⟩
    refine ⟨a, R.C, _, rfl, by show 1 ≤ 1000; decide, R.ox, ha, ?_⟩
    exact ⟨_, rfl, _, rfl, a, R.C, rfl, R.ox, R.nf, .inl ⟨ha, fun dx h1 h2 => q dx h1 h2⟩⟩
def spInv (C : Addr) : Sp := fun vs H Q E => ∃ (a p : Int), vs = [.int a, .int p] ∧ 2 ≤ p ∧ p ≤ 31 ∧
  (a.fmod p = 0 → ∀ d H', H d = none → (∀ b, b ≠ d → H' b = H b) → H' d = some (.xd [(("reason" : Str), .str "inverse")]) → E (.ref C) (some d) H') ∧
  (a.fmod p ≠ 0 → Q (.int (((a.fmod p) ^ (p - 2).toNat).fmod p)) H)
theorem ok_inv (R : RefC K mg s_RI) (T : Txt K mg) : FnOk P w K mg base (L2.CX P w) 3 T.a_inverse T.d_inverse ["a", "p"] (spInv R.C) := by
  have G_power : FnOk P w K mg base CX0 1 T.a_power T.d_power ["a", "k"] spPower := ok_power T
  have G_RI : FnOk P w K mg base CX0 1 R.fI R.dI ["self", "reason"] (spRI R.C) := ok_RI R
  refine T.F_inverse.okX sc_inverse (fun vs H Q E h => ?_) (fun cdv A outer s H vs Q E hr h => ?_)
  · obtain ⟨a, p, rfl, _⟩ := h
    rfl
  · obtain ⟨a, p, rfl, h2, h31, hE, hQ⟩ := h
    refine ⟨_, (pss_cons (ps_set (i := 2) sc_inverse.nd rfl (.inl rfl) (pe_op op_modN (pv 0) (pv 1))) 
    (pss_cons (ps_if (pt_cmpR op_eq (pv 2) pe_int (nomark _)) 
      (pss_one (ps_raise rfl (takes_of rfl rfl rfl rfl) (pmk_oex R.ox R.iC R.tI G_RI (hr.mono (by decide)) R.bI .nil pass0 (by rfl) R.gC (pa_cons pe_str pa_nil)))) pss_nil) 
    (pss_one (ps_ret (pe_op op_modN (pe_call G_power (hr.mono (by decide)) (by rfl) T.g_power T.F_power.kp T.b_power .nil pass0 (pa_cons (pv 2) (pa_cons (pe_op op_sub (pv 1) pe_int) pa_nil))) (pv 1)))))), ?_⟩
    have hne : p ≠ 0 := by omega
    have hr1 : 0 ≤ a.fmod p ∧ a.fmod p < p := by
      rw [Int.fmod_eq_emod_of_nonneg _ (by omega)]
      exact ⟨Int.emod_nonneg _ (by omega), Int.emod_lt_of_pos _ (by omega)⟩
    refine ⟨_, rfl, _, rfl, _, _, rfl, rfl, hne, ?_⟩
    refine ⟨_, rfl, rfl, _, rfl, ite2 (fun c => ?_) (fun c => ?_)⟩
    · have c1 : a.fmod p = 0 := V.int.inj (of_decide_eq_true c)
      refine ⟨by show 1 ≤ 1000; decide, fun x nx => ?_⟩
      refine ⟨x, "inverse", rfl, by decide +kernel, by decide +kernel, upd_same, fun dx ndx hne => ⟨rfl, dx, _, upd_same, by rw [upd_ne hne, upd_same], ?_, ?_⟩⟩
      · rw [upd_ne hne] at ndx
        exact ndx
      · have nd : H dx = none := by
          rw [upd_ne hne] at ndx
          exact ndx
        refine hE c1 dx _ nd (fun b hb => ?_) upd_same
        rw [upd_ne hb]
        by_cases hx : b = x
        · rw [hx, del_same, nx]
        · rw [del_ne hx, upd_ne hx, upd_ne hb, upd_ne hx]
    · have c1 : a.fmod p ≠ 0 := fun z => c (decide_eq_true (congrArg V.int z))
      have e1 : p - 2 = ((p - 2).toNat : Int) := by omega
      refine ⟨_, rfl, _, rfl, _, _, rfl, rfl, a.fmod p, (p - 2).toNat, ?_, by omega, by omega, _, rfl, _, _, rfl, rfl, hne, hQ c1⟩
      rw [← e1]
      rfl
/-! ### _law_state, _law_take -/
theorem mem_cut {xs : List V} {lo hi : Option Int} {i : Nat} {x : V} (h : (cutV xs lo hi)[i]? = some x) : x ∈ xs :=
  List.mem_of_mem_drop (List.mem_of_mem_take (List.mem_of_getElem? h))
theorem mem_ints {ns : List Int} {x : V} (h : x ∈ ns.map V.int) : ∃ z, x = .int z := by
  obtain ⟨z, _, e⟩ := List.mem_map.mp h
  exact ⟨z, e.symm⟩
theorem same_new {H : Hp} {p : Addr} {o : HO} (h : H p = none) : Same H (upd H p o) := fun b x e => by
  rw [upd_ne (ne_of_none e h)]
  exact e
def spState (K : PySem.W.Frag) : Sp := fun vs H Q _ => ∃ (a : Addr) (ns : List Int), vs = [.ref a] ∧ SqL K H a (ns.map V.int) ∧
  ∀ H' p (s t : Int), Same H H' → H p = none → H' p = some (.lst [.int s, .int t]) → Q (.ref p) H'
theorem ok_state (T : Txt K mg) : FnOk P w K mg base CX0 1 T.a__law_state T.d__law_state ["script"] (spState K) := by
  refine T.F__law_state.ok sc__law_state (fun vs H Q E h => ?_) (fun cdv A outer s H vs Q E hr h => ?_)
  · obtain ⟨a, ns, rfl, _⟩ := h
    rfl
  · obtain ⟨a, ns, rfl, hS, q⟩ := h
    refine ⟨_, (pss_cons (ps_set (i := 1) sc__law_state.nd rfl (.inl rfl) pe_int) 
    (pss_cons (ps_set (i := 2) sc__law_state.nd rfl (.inl rfl) pe_int) 
    (pss_cons (ps_for PassesOwn.never rfl (pi_list (pe_slice sl_list (pv 0) po_none (po_some pe_int))) (pg_name (i := 3) sc__law_state.nd rfl (.inl rfl)) 
      (pss_cons (ps_set (i := 1) sc__law_state.nd rfl (.inl rfl) (pe_op op_add (pe_op op_mul (pv 1) pe_int) (pe_callB call_abs (by rfl) T.n_abs (by decide +kernel) (pa_cons (pv 3) pa_nil)))) 
      (pss_one (ps_set (i := 2) sc__law_state.nd rfl (.inl rfl) (pe_op op_modN (pe_callTy call_int1 (by rfl) T.n_int (by decide +kernel) (pa_cons (pe_op op_add (pe_op op_mul (pv 2) pe_int) (pv 3)) pa_nil)) pe_int))))) 
    (pss_one (ps_ret (pe_lst (pa_cons (pv 1) (pa_cons (pv 2) pa_nil)))))))), ?_⟩
    refine ⟨.ref a, rfl, 63, rfl, a, ns.map V.int, rfl, hS, fun c nc => ?_⟩
    refine ⟨c, rfl, ⟨_, .inl (.inl upd_same)⟩, for_list (xs := cutV (ns.map V.int) none (some 63)) (fun i σ H' => ∃ (s t : Int) (y : Option V), σ = [some (.ref a), some (.int s), some (.int t), y] ∧ Same H H' ∧ H' c = some (.lst (cutV (ns.map V.int) none (some 63))))
      ⟨0, 1, none, rfl, same_new nc, upd_same⟩ (fun i σ H' _ ⟨_, _, _, _, _, e⟩ => .inl (.inl e)) ?_ ?_⟩
    · rintro i x σ H' hi ⟨s, t, y, rfl, sm, ec⟩
      obtain ⟨z, rfl⟩ := mem_ints (mem_cut hi)
      refine ⟨_, rfl, _, _, rfl, rfl, .inr ⟨by decide, by decide⟩, _, rfl, _, rfl, _, _, rfl, rfl, ?_⟩
      refine ⟨_, rfl, _, _, rfl, rfl, .inr ⟨by decide, by decide⟩, _, rfl, _, _, rfl, rfl, .inl ⟨_, rfl, _, _, rfl, rfl, (show (2147483647 : Int) ≠ 0 by decide), ?_⟩⟩
      exact ⟨_, _, _, rfl, sm, ec⟩
    · rintro σ H' ⟨s, t, y, rfl, sm, ec⟩
      refine ⟨_, rfl, _, rfl, (by show 2 ≤ sizeLine; decide), fun p np => ?_⟩
      exact q _ p s t (sm.trans (same_new np)) (sm.free np) upd_same
/-- a draw: some number below m, the state changed -/
def spTake : Sp := fun vs H Q _ => ∃ (a : Addr) (m : Int) (s t : Int), vs = [.ref a, .int m] ∧ 0 < m ∧ m < 1000000 ∧ H a = some (.lst [.int s, .int t]) ∧
  ∀ (v s' t' : Int), 0 ≤ v → v < m → Q (.int v) (upd H a (.lst [.int s', .int t']))
theorem ok_take (T : Txt K mg) : FnOk P w K mg base CX0 1 T.a__law_take T.d__law_take ["state", "m"] spTake := by
  refine T.F__law_take.ok sc__law_take (fun vs H Q E h => ?_) (fun cdv A outer s H vs Q E hr h => ?_)
  · obtain ⟨a, m, s, t, rfl, _⟩ := h
    rfl
  · obtain ⟨a, m, s, t, rfl, h0, hm, hS, q⟩ := h
    refine ⟨_, (pss_cons (ps_if (pt_cmpR op_gt (pe_ix ix_list (pv 0) pe_int (fun _ _ => rfl)) pe_int (nomark _)) 
      (pss_cons (ps_set (i := 2) sc__law_take.nd rfl (.inl rfl) (pe_op op_modN (pe_callTy call_int1 (by rfl) T.n_int (by decide +kernel) (pa_cons (pe_ix ix_list (pv 0) pe_int (fun _ _ => rfl)) pa_nil)) (pv 1))) 
      (pss_cons (ps_asg (pe_op op_fdivN (pe_ix ix_list (pv 0) pe_int (fun _ _ => rfl)) (pv 1)) (pg_sub (pv 0) pe_int set_list)) 
      (pss_one (ps_ret (pv 2))))) pss_nil) 
    (pss_cons (ps_asg (pe_op op_modN (pe_callTy call_int1 (by rfl) T.n_int (by decide +kernel) (pa_cons (pe_op op_add (pe_op op_mul (pe_ix ix_list (pv 0) pe_int (fun _ _ => rfl)) pe_int) pe_int) pa_nil)) pe_int) (pg_sub (pv 0) pe_int set_list)) 
    (pss_one (ps_ret (pe_op op_modN (pe_callTy call_int1 (by rfl) T.n_int (by decide +kernel) (pa_cons (pe_op op_fdivN (pe_ix ix_list (pv 0) pe_int (fun _ _ => rfl)) pe_int) pa_nil)) (pv 1)))))), ?_⟩
    have hmod : ∀ x : Int, 0 ≤ x.fmod m ∧ x.fmod m < m := fun x => by
      rw [Int.fmod_eq_emod_of_nonneg _ (by omega)]
      exact ⟨Int.emod_nonneg _ (by omega), Int.emod_lt_of_pos _ h0⟩
    have hne : m ≠ 0 := by omega
    have hdv : m ≠ 0 ∧ m.natAbs < 1073741824 := by omega
    refine ⟨.ref a, rfl, a, _, 0, _, rfl, rfl, .inl (.inl hS), atI_nat (j := 0) rfl, _, _, rfl, rfl, _, rfl, ite2 (fun c => ?_) (fun c => ?_)⟩
    · refine ⟨.ref a, rfl, a, _, 0, _, rfl, rfl, .inl (.inl hS), atI_nat (j := 0) rfl, .inl ⟨_, rfl, _, rfl, _, _, rfl, rfl, hne, ?_⟩⟩
      refine ⟨.ref a, rfl, a, _, 0, _, rfl, rfl, .inl (.inl hS), atI_nat (j := 0) rfl, _, rfl, _, _, rfl, rfl, hdv, ?_⟩
      refine ⟨.ref a, rfl, a, _, _, 0, rfl, rfl, hS, rfl, ?_⟩
      exact ⟨_, rfl, q _ _ _ (hmod s).1 (hmod s).2⟩
    · refine ⟨.ref a, rfl, a, _, 1, _, rfl, rfl, .inl (.inl hS), atI_nat (j := 1) rfl, _, _, rfl, rfl, .inr ⟨by decide, by decide⟩, _, _, rfl, rfl, .inl ⟨_, rfl, _, _, rfl, rfl, (show (2147483647 : Int) ≠ 0 by decide), ?_⟩⟩
      refine ⟨.ref a, rfl, a, _, _, 1, rfl, rfl, hS, rfl, ?_⟩
      refine ⟨.ref a, rfl, a, _, 1, _, rfl, rfl, .inl (.inl upd_same), atI_nat (j := 1) rfl, _, _, rfl, rfl, ⟨by decide, by decide⟩, .inl ⟨_, rfl, _, rfl, _, _, rfl, rfl, hne, ?_⟩⟩
      exact q _ _ _ (hmod _).1 (hmod _).2
/-! ### _law_reason -/
structure ReasonC (K : PySem.W.Frag) (mg : Str → Option Value) (C : Addr) where
  CM : Addr
  CN : Addr
  gM : mg "Malformed" = some (.ref CM)
  gN : mg "NoText" = some (.ref CN)
  k1 : PySem.W.kitOne K (.ref C) (.ref C) = some true
  k2 : PySem.W.kitOne K (.ref C) (.type "ValueError") = some true
  k3 : PySem.W.kitAny K (.ref C) [.ref CM, .ref CN] = some false
def spReason : Sp := fun vs H Q _ => ∃ (a p : Int), vs = [.int a, .int p] ∧ 2 ≤ p ∧ p ≤ 31 ∧ a.fmod p = 0 ∧
  ∀ H' t, Same H H' → H t = none → H' t = some (.tup [.str "refused", .str "inverse"]) → Q (.ref t) H'
theorem ok_reason (R : RefC K mg s_RI) (T : Txt K mg) (M : ReasonC K mg R.C) : FnOk P w K mg base CX0 5 T.a__law_reason T.d__law_reason ["a", "p"] spReason := by
  have G_inverse : FnOk P w K mg base (L2.CX P w) 3 T.a_inverse T.d_inverse ["a", "p"] (spInv R.C) := ok_inv R T
  refine T.F__law_reason.ok sc__law_reason (fun vs H Q E h => ?_) (fun cdv A outer s H vs Q E hr h => ?_)
  · obtain ⟨a, p, rfl, _⟩ := h
    rfl
  · obtain ⟨a, p, rfl, h2, h31, h0, q⟩ := h
    refine ⟨_, pss_cons (ps_try_as (i := 2) (c := .ref R.CF) (Wout := fun _ _ _ _ => False) rfl rfl sc__law_reason.nd rfl rfl ⟨rfl, by decide, .inl R.gF⟩ takes0
        (fun W pn xe tk _ => by exact (pss_one (ps_expr (pe_callS G_inverse (hr.mono (by decide)) (by rfl) T.g_inverse T.F_inverse.kp T.b_inverse (fun σ => passAt tk σ) (pa_cons (pv 0) (pa_cons (pv 1) pa_nil))))))
        (fun a oe cls d pn hz hf => by exact (pss_one (ps_if (PW.pt (pw_and (pt_val (pe_callB (call_isD R.ed hz hf) (by rfl) T.n_isinstance (by decide +kernel) (pa_cons (pv 2) (pa_cons (pe_glob (by rfl) R.gC (show RelV (.ref R.C) (.ref R.C) from rfl)) pa_nil))))
            (pw_and (pt_val (pe_callB (call_isD R.ed hz hf) (by rfl) T.n_isinstance (by decide +kernel) (pa_cons (pv 2) (pa_cons (pe_bltn (v := .ty "ValueError") (by rfl) T.n_ValueError (by decide +kernel) rfl) pa_nil))))
            (pw_and1 (pt_not (pt_val (pe_callB (call_isDT R.ed hz hf) (by rfl) T.n_isinstance (by decide +kernel) (pa_cons (pv 2) (pa_cons (pe_tup (pa_cons (pe_glob (by rfl) M.gM (show RelV (.ref M.CM) (.ref M.CM) from rfl)) (pa_cons (pe_glob (by rfl) M.gN (show RelV (.ref M.CN) (.ref M.CN) from rfl)) pa_nil))) pa_nil))))))))) (pss_one (ps_ret (pe_tup (pa_cons pe_str (pa_cons (pe_xf R.xf R.nf hz hf (pv 2)) pa_nil))))) pss_nil))))
      (pss_one (ps_ret pe_non)), ?_⟩
    refine ⟨_, rfl, _, rfl, a, p, rfl, h2, h31, fun _ d H1 hd hsame hx => ?_, fun z => absurd h0 z⟩
    have sm : Same H H1 := fun b o e => by
      rw [hsame b (ne_of_none e hd)]
      exact e
    refine ⟨true, R.ex, fun _ x nx => ?_, fun z => Bool.noConfusion z⟩
    refine ⟨_, rfl, _, _, true, d, _, rfl, .own R.C, rfl, rfl, hx, M.k1, true, rfl, iteT ?_⟩
    refine ⟨_, rfl, _, _, true, d, _, rfl, .ty "ValueError", rfl, rfl, hx, M.k2, true, rfl, iteT ?_⟩
    refine ⟨_, rfl, (by show 2 ≤ sizeLine; decide), fun t nt => ?_⟩
    have hx2 : (upd H1 t (.tup [.ref M.CM, .ref M.CN])) d = some (.xd [(("reason" : Str), .str "inverse")]) := by
      rw [upd_ne (ne_of_none hx nt)]
      exact hx
    refine ⟨t, _, _, false, d, _, rfl, upd_same, .cons (.own M.CM) (.cons (.own M.CN) .nil), rfl, rfl, hx2, M.k3, false, rfl, iteT ?_⟩
    refine ⟨_, rfl, rfl, rfl, d, _, _, rfl, hx2, rfl, (by show 2 ≤ sizeLine; decide), fun t2 nt2 => ?_⟩
    exact q _ t2 ((sm.trans (same_new nt)).trans (same_new nt2)) (sm.free ((same_new nt).free nt2)) upd_same
/-! ### factors -/
def innR : Nat → Int → Int → Int → Option (Int × Int)
  | 0, _, _, _ => none
  | f + 1, n, p, e => if n.fmod p = 0 then innR f (n.fdiv p) p (e + 1) else some (n, e)
def outR : Nat → Int → Int → List (Int × Int) → Option (List (Int × Int))
  | 0, _, _, _ => none
  | f + 1, n, p, l => if p * p ≤ n then (match innR 12 n p 0 with
      | some (n', e) => outR f n' (p + (if p = 2 then 1 else 2)) (if 0 < e then l ++ [(p, e)] else l)
      | none => none) else some (if 1 < n then l ++ [(n, 1)] else l)
def facR (n : Int) : Option (List (Int × Int)) := outR 20 n 2 []
/-- a tuple of two ints at t -/
def T2 (H : Hp) (t : Addr) (x : Int × Int) : Prop := H t = some (.tup [.int x.1, .int x.2])
theorem T2.mono {H H' : Hp} (e : Same H H') : ∀ {ts : List Addr} {l : List (Int × Int)}, Paired (T2 H) ts l → Paired (T2 H') ts l
  | _, _, .nil => .nil
  | _, _, .cons h t => .cons (e _ _ h) (T2.mono e t)
theorem T2.add {H : Hp} {t : Addr} {x : Int × Int} (h : T2 H t x) : ∀ {ts : List Addr} {l : List (Int × Int)}, Paired (T2 H) ts l → Paired (T2 H) (ts ++ [t]) (l ++ [x])
  | _, _, .nil => .cons h .nil
  | _, _, .cons a r => .cons a (T2.add h r)
/-- a list at o that was new may change -/
theorem same_mut {H H' : Hp} {o : Addr} {u : HO} (e : Same H H') (h : H o = none) : Same H (upd H' o u) := fun b x hb => by
  rw [upd_ne (ne_of_none hb h)]
  exact e b x hb
theorem T2.upd {H : Hp} {o : Addr} {u : HO} {xs : List V} (ho : H o = some (.lst xs)) : ∀ {ts : List Addr} {l : List (Int × Int)}, Paired (T2 H) ts l → Paired (T2 (upd H o u)) ts l
  | _, _, .nil => .nil
  | _, _, @Paired.cons _ _ _ t x _ _ h r => .cons (by
      show L2.upd H o u t = _
      rw [upd_ne (fun z => by
        have h' : H t = some (.tup [.int x.1, .int x.2]) := h
        rw [z, ho] at h'
        cases h')]
      exact h) (T2.upd ho r)
def spFactors : Sp := fun vs H Q _ => ∃ (n : Int) (l : List (Int × Int)), vs = [.int n] ∧ facR n = some l ∧ 0 ≤ n ∧ n < 2 ^ 40 ∧
  ∀ H' t ts, Same H H' → H t = none → H' t = some (.tup (ts.map V.ref)) → Paired (T2 H') ts l → ts.length ≤ 100 → Q (.ref t) H'
def WFac (H : Hp) (o : Addr) (lf : List (Int × Int)) (m : Nat) (σ : L2.St) (H' : Hp) : Prop := ∃ (n p : Int) (l : List (Int × Int)) (ts : List Addr) (y : Option V), σ = [some (.int n), some (.ref o), some (.int p), y] ∧
  outR m n p l = some lf ∧ 2 ≤ p ∧ p + 2 * m ≤ 42 ∧ ts.length + m ≤ 20 ∧ 0 ≤ n ∧ n < 2 ^ 40 ∧ Same H H' ∧ H' o = some (.lst (ts.map V.ref)) ∧ Paired (T2 H') ts l
theorem small100 {n : Nat} (h : n ≤ 100) : n < sizeLine := Nat.lt_of_le_of_lt h (by decide)
theorem ok_factors (T : Txt K mg) : FnOk P w K mg base CX0 1 T.a_factors T.d_factors ["n"] spFactors := by
  refine T.F_factors.ok sc_factors (fun vs H Q E h => ?_) (fun cdv A outer s H vs Q E hr h => ?_)
  · obtain ⟨n, l, rfl, _⟩ := h
    rfl
  · obtain ⟨n0, lf, rfl, hf, hn0, hn1, q⟩ := h
    refine ⟨_, (pss_cons (ps_set (i := 1) sc_factors.nd rfl (.inl rfl) (pe_lst pa_nil)) 
    (pss_cons (ps_set (i := 2) sc_factors.nd rfl (.inl rfl) pe_int) 
    (pss_cons (ps_while PassesOwn.never (pt_cmpR op_le (pe_op op_mulW (pv 2) (pv 2)) (pv 0) (nomark _)) 
      (pss_cons (ps_set (i := 3) sc_factors.nd rfl (.inl rfl) pe_int) 
      (pss_cons (ps_while PassesOwn.never (pt_cmpR op_eq (pe_op op_modN (pv 0) (pv 2)) pe_int (nomark _)) 
        (pss_cons (ps_set (i := 0) sc_factors.nd rfl (.inl rfl) (pe_op op_fdivN (pv 0) (pv 2))) 
        (pss_one (ps_aug (i := 3) sc_factors.nd rfl (.inl rfl) pe_int ip_add)))) 
      (pss_cons (ps_if (pt_cmpR op_gt (pv 3) pe_int (nomark _)) 
        (pss_one (ps_expr (pe_bm PySem.F.plainAttrs_list PySem.F.slot_list_append PySem.F.type_list_append mt_append (pv 1) (pa_cons (pe_tup (pa_cons (pv 2) (pa_cons (pv 3) pa_nil))) pa_nil)))) pss_nil) 
      (pss_one (ps_aug (i := 2) sc_factors.nd rfl (.inl rfl) (pe_ifExp (pt_cmpR op_eq (pv 2) pe_int (nomark _)) pe_int pe_int) ip_add)))))) 
    (pss_cons (ps_if (pt_cmpR op_gt (pv 0) pe_int (nomark _)) 
      (pss_one (ps_expr (pe_bm PySem.F.plainAttrs_list PySem.F.slot_list_append PySem.F.type_list_append mt_append (pv 1) (pa_cons (pe_tup (pa_cons (pv 0) (pa_cons pe_int pa_nil))) pa_nil)))) pss_nil) 
    (pss_one (ps_ret (pe_callTy call_tuple_of (by rfl) T.n_tuple (by decide +kernel) (pa_cons (pv 1) pa_nil)))))))), ?_⟩
    refine ⟨Nat.zero_le _, fun o no => ?_⟩
    refine ⟨WFac H o lf, ⟨20, n0, 2, [], [], none, rfl, hf, by decide, by decide, by decide, hn0, hn1, same_new no, upd_same, .nil⟩, fun m σ H' hW => ?_⟩
    obtain ⟨n, p, l, ts, y, rfl, ho, hp2, hpm, hlm, hn2, hn3, sm, eo, hP⟩ := hW
    have hpb : p.natAbs < 2 ^ 20 := by omega
    have hne : p ≠ 0 := by omega
    refine ⟨_, rfl, _, rfl, _, _, rfl, rfl, wide_mul hpb hpb (by decide) (by decide) (by decide), _, rfl, _, _, rfl, rfl, _, rfl, ite2 (fun c => ?_) (fun c => ?_)⟩
    · have c1 : p * p ≤ n := of_decide_eq_true c
      cases m with
      | zero => cases ho
      | succ m =>
        rw [outR, if_pos c1] at ho
        cases hi : innR 12 n p 0 with
        | none => rw [hi] at ho; cases ho
        | some r =>
          obtain ⟨n', e'⟩ := r
          rw [hi] at ho
          refine ⟨WFac H o lf m, fun σ' H'' h => ⟨m, Nat.lt_succ_self m, h⟩, ?_⟩
          refine ⟨fun f σ H2 => ∃ (n1 e1 : Int), σ = [some (.int n1), some (.ref o), some (.int p), some (.int e1)] ∧ innR f n1 p e1 = some (n', e') ∧ 0 ≤ n1 ∧ n1 < 2 ^ 40 ∧ H2 = H', ⟨12, n, 0, rfl, hi, hn2, hn3, rfl⟩, fun f σ H2 hV => ?_⟩
          obtain ⟨n1, e1, rfl, hi1, hn4, hn5, rfl⟩ := hV
          refine ⟨_, rfl, _, rfl, _, _, rfl, rfl, hne, rfl, _, rfl, ite2 (fun c2 => ?_) (fun c2 => ?_)⟩
          · have c3 : n1.fmod p = 0 := V.int.inj (of_decide_eq_true c2)
            cases f with
            | zero => cases hi1
            | succ f =>
              rw [innR, if_pos c3] at hi1
              have hd : 0 ≤ n1.fdiv p ∧ n1.fdiv p < 2 ^ 40 := by
                rw [Int.fdiv_eq_ediv_of_nonneg _ (by omega)]
                exact ⟨Int.ediv_nonneg hn4 (by omega), Int.lt_of_le_of_lt (Int.ediv_le_self _ hn4) hn5⟩
              refine ⟨fun σ' H'' => ∃ (n1 e1 : Int), σ' = [some (.int n1), some (.ref o), some (.int p), some (.int e1)] ∧ innR f n1 p e1 = some (n', e') ∧ 0 ≤ n1 ∧ n1 < 2 ^ 40 ∧ H'' = H2, fun σ' H'' h => ⟨f, Nat.lt_succ_self f, h⟩, ?_⟩
              exact ⟨_, rfl, _, rfl, _, _, rfl, rfl, ⟨hne, by omega⟩, _, rfl, _, _, rfl, rfl, _, _, rfl, hi1, hd.1, hd.2, rfl⟩
          · have c3 : ¬ n1.fmod p = 0 := fun z => c2 (decide_eq_true (congrArg V.int z))
            have e3 : n1 = n' ∧ e1 = e' := by
              cases f with
              | zero => cases hi1
              | succ f =>
                rw [innR, if_neg c3] at hi1
                cases hi1
                exact ⟨rfl, rfl⟩
            obtain ⟨rfl, rfl⟩ := e3
            refine ⟨_, rfl, _, _, rfl, rfl, _, rfl, ite2 (fun c4 => ?_) (fun c4 => ?_)⟩
            · have c5 : 0 < e1 := of_decide_eq_true c4
              dsimp only at ho
              rw [if_pos c5] at ho
              refine ⟨.ref o, rfl, .inl ⟨rfl, _, .inl (.inl eo)⟩, _, rfl, _, rfl, (by show 2 ≤ sizeLine; decide), fun t nt => ?_⟩
              have not : o ≠ t := ne_of_none eo nt
              have eot : (upd H2 t (.tup [.int p, .int e1])) o = some (.lst (ts.map V.ref)) := by
                rw [upd_ne not]
                exact eo
              have sm2 := sm.trans (same_new (o := .tup [.int p, .int e1]) nt)
              have hP2 : Paired (T2 (upd H2 t (.tup [.int p, .int e1]))) (ts ++ [t]) (l ++ [(p, e1)]) := T2.add (x := (p, e1)) upd_same (T2.mono (same_new nt) hP)
              refine ⟨o, _, _, rfl, rfl, eot, small100 (by rw [List.length_map]; omega), ?_⟩
              have fin : ∀ p2 : Int, p2 = p + (if p = 2 then 1 else 2) → WFac H o lf m [some (.int n1), some (.ref o), some (.int p2), some (.int e1)] (upd (upd H2 t (.tup [.int p, .int e1])) o (.lst (ts.map V.ref ++ [.ref t]))) := fun p2 h2 => by
                refine ⟨n1, p2, _, ts ++ [t], _, rfl, by rw [h2]; exact ho, by split at h2 <;> omega, by split at h2 <;> omega, by rw [List.length_append, List.length_singleton]; omega, hn4, hn5, same_mut sm2 no, ?_, T2.upd eot hP2⟩
                rw [upd_same, List.map_append]
                rfl
              refine ⟨_, rfl, _, rfl, rfl, _, rfl, ite2 (fun c6 => ?_) (fun c6 => ?_)⟩
              · exact ⟨_, _, rfl, rfl, fin _ (by rw [if_pos (V.int.inj (of_decide_eq_true c6))])⟩
              · exact ⟨_, _, rfl, rfl, fin _ (by rw [if_neg (fun z => c6 (decide_eq_true (congrArg V.int z)))])⟩
            · have c5 : ¬ 0 < e1 := fun z => c4 (decide_eq_true z)
              dsimp only at ho
              rw [if_neg c5] at ho
              have fin : ∀ p2 : Int, p2 = p + (if p = 2 then 1 else 2) → WFac H o lf m [some (.int n1), some (.ref o), some (.int p2), some (.int e1)] H2 := fun p2 h2 =>
                ⟨n1, p2, _, ts, _, rfl, by rw [h2]; exact ho, by split at h2 <;> omega, by split at h2 <;> omega, by omega, hn4, hn5, sm, eo, hP⟩
              refine ⟨_, rfl, _, rfl, rfl, _, rfl, ite2 (fun c6 => ?_) (fun c6 => ?_)⟩
              · exact ⟨_, _, rfl, rfl, fin _ (by rw [if_pos (V.int.inj (of_decide_eq_true c6))])⟩
              · exact ⟨_, _, rfl, rfl, fin _ (by rw [if_neg (fun z => c6 (decide_eq_true (congrArg V.int z)))])⟩
    · have c1 : ¬ p * p ≤ n := fun z => c (decide_eq_true z)
      have hl : lf = if 1 < n then l ++ [(n, 1)] else l := by
        cases m with
        | zero => cases ho
        | succ m =>
          rw [outR, if_neg c1] at ho
          exact (Option.some.inj ho).symm
      refine ⟨_, rfl, _, _, rfl, rfl, _, rfl, ite2 (fun c4 => ?_) (fun c4 => ?_)⟩
      · rw [if_pos (of_decide_eq_true c4)] at hl
        refine ⟨.ref o, rfl, .inl ⟨rfl, _, .inl (.inl eo)⟩, _, rfl, (by show 2 ≤ sizeLine; decide), fun t nt => ?_⟩
        have not : o ≠ t := ne_of_none eo nt
        have eot : (upd H' t (.tup [.int n, .int 1])) o = some (.lst (ts.map V.ref)) := by
          rw [upd_ne not]
          exact eo
        have sm2 := sm.trans (same_new (o := .tup [.int n, .int 1]) nt)
        have hP2 : Paired (T2 (upd H' t (.tup [.int n, .int 1]))) (ts ++ [t]) (l ++ [(n, 1)]) := T2.add (x := (n, 1)) upd_same (T2.mono (same_new nt) hP)
        refine ⟨o, _, _, rfl, rfl, eot, small100 (by rw [List.length_map]; omega), ?_⟩
        have e2 : (upd (upd H' t (.tup [.int n, .int 1])) o (.lst (ts.map V.ref ++ [.ref t]))) o = some (.lst ((ts ++ [t]).map V.ref)) := by
          rw [upd_same, List.map_append]
          rfl
        refine ⟨_, rfl, o, _, rfl, .inl ⟨.inl (.inl e2), fun u nu => ?_⟩⟩
        have sm3 := (same_mut (u := .lst (ts.map V.ref ++ [.ref t])) sm2 no)
        have hP3 := T2.upd (u := .lst (ts.map V.ref ++ [.ref t])) eot hP2
        rw [hl] at q
        exact q _ u _ (sm3.trans (same_new nu)) (sm3.free nu) upd_same (T2.mono (same_new nu) hP3) (by rw [List.length_append, List.length_singleton]; omega)
      · rw [if_neg (fun z => c4 (decide_eq_true z))] at hl
        refine ⟨_, rfl, o, _, rfl, .inl ⟨.inl (.inl eo), fun u nu => ?_⟩⟩
        rw [hl] at q
        exact q _ u _ (sm.trans (same_new nu)) (sm.free nu) upd_same (T2.mono (same_new nu) hP) (by omega)
/-! ### divisors -/
def stepR : Nat → Int → List Int → List Int → Option (List Int)
  | 0, _, _, f => some f
  | k + 1, p, m, f => if m.length ≤ 1000 ∧ f.length ≤ 1000 ∧ (m.all fun d => decide (d.natAbs < 2 ^ 40)) = true ∧ p.natAbs < 2 ^ 40 then stepR k p (m.map fun d => p * d) (f ++ m.map fun d => p * d) else none
def divL : List (Int × Int) → List Int → Option (List Int)
  | [], f => some f
  | (p, e) :: r, f => if 0 ≤ e ∧ e ≤ 100 then (match stepR e.toNat p f f with
      | some f' => divL r f'
      | none => none) else none
def spDivisors : Sp := fun vs H Q _ => ∃ (n : Int) (l : List (Int × Int)) (ds : List Int), vs = [.int n] ∧ facR n = some l ∧ 0 ≤ n ∧ n < 2 ^ 40 ∧ divL l [1] = some ds ∧
  ∀ H' t (ds' : List Int), Same H H' → H t = none → H' t = some (.tup (ds'.map V.int)) → ds'.Perm ds → ds'.Pairwise (· ≤ ·) → Q (.ref t) H'
theorem T2.get {H : Hp} : ∀ {ts : List Addr} {l : List (Int × Int)} {i : Nat} {x : Int × Int} {r : List (Int × Int)}, Paired (T2 H) ts l → l.drop i = x :: r → ∃ t, (ts.map V.ref)[i]? = some (.ref t) ∧ T2 H t x ∧ l.drop (i + 1) = r
  | _, _, 0, _, _, @Paired.cons _ _ _ t y _ _ h _, e => by
    obtain ⟨rfl, rfl⟩ := List.cons.inj e
    exact ⟨t, rfl, h, rfl⟩
  | _, _, i + 1, _, _, .cons _ rr, e => by
    obtain ⟨t, a, b, c⟩ := T2.get (i := i) rr e
    exact ⟨t, a, b, c⟩
  | _, _, 0, _, _, .nil, e => by cases e
  | _, _, i + 1, _, _, .nil, e => by cases e
theorem T2.len {H : Hp} {ts : List Addr} {l : List (Int × Int)} (h : Paired (T2 H) ts l) : ts.length = l.length := Paired.length h
theorem drop_at {α : Type} {l : List α} {i : Nat} (h : i < l.length) : ∃ x r, l.drop i = x :: r := by
  cases e : l.drop i with
  | nil =>
    have := congrArg List.length e
    rw [List.length_drop] at this
    simp at this
    omega
  | cons x r => exact ⟨x, r, rfl⟩
theorem ok_divisors (T : Txt K mg) : FnOk P w K mg base CX0 2 T.a_divisors T.d_divisors ["n"] spDivisors := by
  have G_factors : FnOk P w K mg base CX0 1 T.a_factors T.d_factors ["n"] spFactors := ok_factors T
  refine T.F_divisors.ok sc_divisors (fun vs H Q E h => ?_) (fun cdv A outer s H vs Q E hr h => ?_)
  · obtain ⟨n, l, ds, rfl, _⟩ := h
    rfl
  · obtain ⟨n, l, ds, rfl, hf, hn0, hn1, hd, q⟩ := h
    refine ⟨_, (pss_cons (ps_set (i := 1) sc_divisors.nd rfl (.inl rfl) (pe_lst (pa_cons pe_int pa_nil))) 
    (pss_cons (ps_for PassesOwn.never rfl (pi_tup (pe_call G_factors (hr.mono (by decide)) (by rfl) T.g_factors T.F_factors.kp T.b_factors .nil pass0 (pa_cons (pv 0) pa_nil))) (pg_tup rfl (pgs_cons (pg_name (i := 2) sc_divisors.nd rfl (.inr rfl)) (pgs_cons (pg_name (i := 3) sc_divisors.nd rfl (.inl rfl)) pgs_nil))) 
      (pss_cons (ps_set (i := 4) sc_divisors.nd rfl (.inl rfl) (pv 1)) 
      (pss_one (ps_for PassesOwn.never rfl (pi_range1 (by rfl) T.n_range (pa_cons (pv 3) pa_nil)) (pg_name (i := 5) sc_divisors.nd rfl (.inl rfl)) 
        (pss_cons (ps_setLc (i := 4) (own := [("d", 6)]) rfl sc_divisors.nd rfl rfl (sw_true rfl rfl rfl (by decide +kernel)) (pi_list (pv 4)) (blkOk_by (N := N_divisors) (sc := defScope s_divisors) (own := [("d", 6)]) (by decide +kernel)) (fun _ _ _ _ _ => (pg_name (i := 6) sc_divisors.nd rfl (.inl rfl))) (fun _ _ _ _ _ => pts_nil) (fun _ _ _ _ _ => (pe_op op_mulW (pv 2) (pv 6)))) 
        (pss_one (ps_set (i := 1) sc_divisors.nd rfl (.inl rfl) (pe_op op_cat (pv 1) (pv 4))))))))) 
    (pss_one (ps_ret (pe_callTy call_tuple_of (by rfl) T.n_tuple (by decide +kernel) (pa_cons (pe_callB cr_sortedI (by rfl) T.n_sorted (by decide +kernel) (pa_cons (pv 1) pa_nil)) pa_nil)))))), ?_⟩
    refine ⟨by show 1 ≤ sizeLine; decide, fun o no => ?_⟩
    refine ⟨_, rfl, n, l, rfl, hf, hn0, hn1, fun H1 t ts sm1 nt et hP hts => ?_⟩
    have eo1 : H1 o = some (.lst [.int 1]) := sm1 _ _ upd_same
    have smH : Same H H1 := (same_new no).trans sm1
    refine ⟨t, rfl, ⟨_, .inl (.inl et)⟩, for_tup (xs := ts.map V.ref) (fun i σ H' => ∃ (f : List Int) (fo : Addr) (y2 y3 y4 y5 : Option V), σ = [some (.int n), some (.ref fo), y2, y3, y4, y5, none] ∧ divL (l.drop i) f = some ds ∧ H' fo = some (.lst (f.map V.int)) ∧ Same H1 H')
      ⟨[1], o, none, none, none, none, rfl, hd, eo1, Same.refl _⟩ (fun i σ H' _ ⟨_, _, _, _, _, _, _, _, _, sm⟩ => .inl (.inl (sm _ _ et))) ?_ ?_⟩
    · rintro i x σ H' hi ⟨f, fo, y2, y3, y4, y5, rfl, hdl, ef, sm⟩
      have hlen : i < l.length := by
        have h := List.getElem?_eq_some_iff.mp hi
        obtain ⟨h, _⟩ := h
        rw [List.length_map, T2.len hP] at h
        exact h
      obtain ⟨⟨p, e⟩, r, hdrop⟩ := drop_at hlen
      obtain ⟨tt, g1, g2, g3⟩ := T2.get hP hdrop
      have ex : x = .ref tt := Option.some.inj (hi.symm.trans g1)
      subst ex
      have g2' : H' tt = some (.tup [.int p, .int e]) := sm _ _ g2
      rw [hdrop, divL] at hdl
      split at hdl
      case isFalse => cases hdl
      case isTrue he =>
      cases hst : stepR e.toNat p f f with
      | none => rw [hst] at hdl; cases hdl
      | some f' =>
        rw [hst] at hdl
        dsimp only at hdl
        refine ⟨tt, [.int p, .int e], rfl, .inl (.inl g2'), rfl, .int p, [.int e], rfl, .int e, [], rfl, rfl, ?_⟩
        refine ⟨_, rfl, ?_⟩
        refine ⟨_, rfl, e, rfl, by omega, by omega, for_range (lo := 0) (n := e.toNat) (fun j σ H2 => ∃ (m g : List Int) (mo go : Addr) (y5 : Option V), σ = [some (.int n), some (.ref go), some (.int p), some (.int e), some (.ref mo), y5, none] ∧ stepR (e.toNat - j) p m g = some f' ∧ H2 mo = some (.lst (m.map V.int)) ∧ H2 go = some (.lst (g.map V.int)) ∧ Same H1 H2)
          ⟨f, f, fo, fo, y5, rfl, hst, ef, ef, sm⟩ ?_ ?_⟩
        · rintro j σ H2 hj ⟨m, g, mo, go, y5, rfl, hst2, em, eg, sm2⟩
          have ej : e.toNat - j = (e.toNat - (j + 1)) + 1 := by omega
          rw [ej, stepR] at hst2
          split at hst2
          case isFalse => cases hst2
          case isTrue hb =>
          obtain ⟨hm, hg, hall, hp⟩ := hb
          refine ⟨_, rfl, mo, rfl, ⟨_, .inl (.inl em)⟩, fun D nD => lc_list (K := K) (a := mo) (xs := m.map V.int) (fun k H3 => H3 D = some (.lst (((m.take k).map fun d => p * d).map V.int)) ∧ Same H2 H3)
            ⟨upd_same, same_new nD⟩ (fun k H3 _ h => .inl (.inl (h.2 _ _ em))) (fun k x H3 hk hPv => ?_) (fun H3 hPv => ?_)⟩
          · rw [List.getElem?_map] at hk
            cases hmk : m[k]? with
            | none => rw [hmk] at hk; cases hk
            | some d =>
              rw [hmk] at hk
              have ex : x = .int d := (Option.some.inj hk).symm
              subst ex
              have hdm : d ∈ m := List.mem_of_getElem? hmk
              have hdb : d.natAbs < 2 ^ 40 := of_decide_eq_true (List.all_eq_true.mp hall d hdm)
              refine ⟨rfl, ?_⟩
              refine yesT ?_
              refine ⟨_, rfl, _, rfl, _, _, rfl, rfl, wide_mul hp hdb (by decide) (by decide) (by decide), _, hPv.1, small1000 (by rw [List.length_map, List.length_map, List.length_take]; omega), ?_, same_mut hPv.2 nD⟩
              rw [upd_same, List.take_add_one, hmk, List.map_append, List.map_append]
              rfl
          · obtain ⟨eD, sm3⟩ := hPv
            rw [List.take_of_length_le (by rw [List.length_map]; exact Nat.le_refl _)] at eD
            refine ⟨_, rfl, _, rfl, go, D, _, _, rfl, rfl, sm3 _ _ eg, eD, by rw [List.length_map, List.length_map, List.length_map]; exact Nat.le_of_lt (Nat.lt_of_le_of_lt (show _ ≤ 2000 by omega) (by decide)), fun u nu => ?_⟩
            refine ⟨m.map fun d => p * d, g ++ m.map fun d => p * d, D, u, _, rfl, hst2, ?_, ?_, sm2.trans (sm3.trans (same_new nu))⟩
            · rw [upd_ne (ne_of_none eD nu)]
              exact eD
            · rw [upd_same, List.map_append]
        · rintro σ H2 ⟨m, g, mo, go, y5, rfl, hst2, em, eg, sm2⟩
          rw [Nat.sub_self, stepR] at hst2
          cases hst2
          exact ⟨_, go, _, _, _, _, rfl, by rw [g3]; exact hdl, eg, sm2⟩
    · rintro σ H' ⟨f, fo, y2, y3, y4, y5, rfl, hdl, ef, sm⟩
      rw [List.length_map, List.drop_of_length_le (by rw [T2.len hP]; omega), divL] at hdl
      cases hdl
      refine ⟨_, rfl, fo, _, rfl, .inl (.inl ef), fun ds' p perm ris np => ?_⟩
      refine ⟨p, _, rfl, .inl ⟨.inl (.inl upd_same), fun u nu => ?_⟩⟩
      have smF := (smH.trans sm).trans (same_new (o := .lst (ds'.map V.int)) np)
      exact q _ u ds' (smF.trans (same_new nu)) (smF.free nu) upd_same perm ris
/-! ### is_integer, is_small_prime, _law_is_prime -/
def IsI (K : PySem.W.Frag) (H : Hp) (x : V) (b : Bool) : Prop := ∃ (t : Value) (b1 b2 : Bool), TyX K H x t ∧ PySem.W.kitOne K t (.type "int") = some b1 ∧ PySem.W.kitOne K t (.type "bool") = some b2 ∧ b = (b1 && !b2) ∧ (b = true → ∃ i, x = .int i)
theorem isI_int {H : Hp} (i : Int) : IsI K H (.int i) true := ⟨_, true, false, .base (.int i), kit_ty (by decide +kernel), kit_ty (by decide +kernel), rfl, fun _ => ⟨i, rfl⟩⟩
theorem isI_bl {H : Hp} (b : Bool) : IsI K H (.bl b) false := ⟨_, true, true, .base (.bl b), kit_ty (by decide +kernel), kit_ty (by decide +kernel), rfl, fun h => Bool.noConfusion h⟩
theorem isI_non {H : Hp} : IsI K H .non false := ⟨_, false, false, .base .non, kit_ty (by decide +kernel), kit_ty (by decide +kernel), rfl, fun h => Bool.noConfusion h⟩
theorem isI_str {H : Hp} (s : Str) : IsI K H (.str s) false := ⟨_, false, false, .base (.str s), kit_ty (by decide +kernel), kit_ty (by decide +kernel), rfl, fun h => Bool.noConfusion h⟩
theorem isI_lst {H : Hp} {a : Addr} {xs : List V} (e : H a = some (.lst xs)) : IsI K H (.ref a) false := ⟨_, false, false, .base (.lst e), kit_ty (by decide +kernel), kit_ty (by decide +kernel), rfl, fun h => Bool.noConfusion h⟩
theorem isI_tup {H : Hp} {a : Addr} {xs : List V} (e : H a = some (.tup xs)) : IsI K H (.ref a) false := ⟨_, false, false, .base (.tup e), kit_ty (by decide +kernel), kit_ty (by decide +kernel), rfl, fun h => Bool.noConfusion h⟩
def spIsInt (K : PySem.W.Frag) : Sp := fun vs H Q _ => ∃ (x : V) (b : Bool), vs = [x] ∧ IsI K H x b ∧ Q (.bl b) H
theorem ok_isint (T : Txt K mg) : FnOk P w K mg base CX0 1 T.a_is_integer T.d_is_integer ["value"] (spIsInt K) := by
  refine T.F_is_integer.ok sc_is_integer (fun vs H Q E h => ?_) (fun cdv A outer s H vs Q E hr h => ?_)
  · obtain ⟨x, b, rfl, _⟩ := h
    rfl
  · obtain ⟨x, b, rfl, ⟨t, b1, b2, ty, k1, k2, rfl, _⟩, q⟩ := h
    refine ⟨_, (pss_one (ps_ret (pe_and (pe_callB call_isi (by rfl) T.n_isinstance (by decide +kernel) (pa_cons (pv 0) (pa_cons (pe_bltn (v := .ty "int") (by rfl) T.n_int (by decide +kernel) rfl) pa_nil))) (pe_one (pe_not (pe_callB call_isi (by rfl) T.n_isinstance (by decide +kernel) (pa_cons (pv 0) (pa_cons (pe_bltn (v := .ty "bool") (by rfl) T.n_bool (by decide +kernel) rfl) pa_nil)))))))), ?_⟩
    refine ⟨_, rfl, _, _, _, _, b1, rfl, .ty "int", ty, k1, b1, rfl, ?_⟩
    cases b1 with
    | true => exact iteT ⟨_, rfl, _, _, _, _, b2, rfl, .ty "bool", ty, k2, b2, rfl, q⟩
    | false => exact iteF q
def spSmall (K : PySem.W.Frag) : Sp := fun vs H Q _ => ∃ (x : V) (b : Bool), vs = [x] ∧ IsI K H x b ∧ Q (.bl (b && inV x ([2, 3, 5, 7, 11, 13, 17, 19, 23, 29, 31].map V.int))) H
theorem ok_small (T : Txt K mg) : FnOk P w K mg base CX0 2 T.a_is_small_prime T.d_is_small_prime ["value"] (spSmall K) := by
  have G_is_integer : FnOk P w K mg base CX0 1 T.a_is_integer T.d_is_integer ["value"] (spIsInt K) := ok_isint T
  refine T.F_is_small_prime.ok sc_is_small_prime (fun vs H Q E h => ?_) (fun cdv A outer s H vs Q E hr h => ?_)
  · obtain ⟨x, b, rfl, _⟩ := h
    rfl
  · obtain ⟨x, b, rfl, hI, q⟩ := h
    refine ⟨_, (pss_one (ps_ret (pe_and (pe_call G_is_integer (hr.mono (by decide)) (by rfl) T.g_is_integer T.F_is_integer.kp T.b_is_integer .nil pass0 (pa_cons (pv 0) pa_nil)) (pe_one (pe_cmpR op_in_seq (pv 0) (pe_glob (v := .ref T.q_SMALL_PRIMES) (by rfl) T.g_SMALL_PRIMES rfl) rfl))))), ?_⟩
    refine ⟨_, rfl, x, b, rfl, hI, b, rfl, ?_⟩
    cases b with
    | true =>
      obtain ⟨t, b1, b2, ty, k1, k2, _, hi⟩ := hI
      obtain ⟨i, rfl⟩ := hi rfl
      exact iteT ⟨_, rfl, _, _, rfl, .inr (T.t_SMALL H), rfl, by decide, q⟩
    | false => exact iteF q
def flt (n : Int) (lo : Int) (k : Nat) : List Int := ((List.range k).map fun i : Nat => lo + (i : Int)).filter fun d => decide (n.fdiv d * d = n)
theorem flt_more (n lo : Int) (k : Nat) : flt n lo (k + 1) = flt n lo k ++ (if n.fdiv (lo + k) * (lo + k) = n then [lo + (k : Int)] else []) := by
  unfold flt
  rw [List.range_succ, List.map_append, List.filter_append]
  congr 1
  show List.filter _ [lo + (k : Int)] = _
  by_cases h : n.fdiv (lo + k) * (lo + k) = n
  · rw [if_pos h, List.filter_cons_of_pos (by exact decide_eq_true h), List.filter_nil]
  · rw [if_neg h, List.filter_cons_of_neg (by rw [decide_eq_false h]; exact Bool.false_ne_true), List.filter_nil]
theorem flt_len (n lo : Int) (k : Nat) : (flt n lo k).length ≤ k := by
  unfold flt
  refine Nat.le_trans (List.length_filter_le _ _) ?_
  rw [List.length_map, List.length_range]
  exact Nat.le_refl k
def isP (n : Int) : Bool := if 1 < n then decide (((flt n 2 (n - 2).toNat).length : Int) = 0) else false
theorem fdiv_size {n d : Int} (h0 : 0 ≤ n) (h1 : 1 ≤ d) : 0 ≤ n.fdiv d ∧ n.fdiv d ≤ n := by
  rw [Int.fdiv_eq_ediv_of_nonneg _ (by omega)]
  exact ⟨Int.ediv_nonneg h0 (by omega), Int.ediv_le_self _ h0⟩
def spIsPrime : Sp := fun vs H Q _ => ∃ (n : Int), vs = [.int n] ∧ n < 1000 ∧ ∀ H', Same H H' → Q (.bl (isP n)) H'
theorem ok_isprime (T : Txt K mg) : FnOk P w K mg base CX0 1 T.a__law_is_prime T.d__law_is_prime ["n"] spIsPrime := by
  refine T.F__law_is_prime.ok sc__law_is_prime (fun vs H Q E h => ?_) (fun cdv A outer s H vs Q E hr h => ?_)
  · obtain ⟨n, rfl, _⟩ := h
    rfl
  · obtain ⟨n, rfl, hn, q⟩ := h
    refine ⟨_, (pss_one (ps_ret (pe_and (pe_cmpR op_gt (pv 0) pe_int (nomark _)) (pe_one (pe_cmpR op_eq (pe_callB call_len_seq (by rfl) T.n_len (by decide +kernel) (pa_cons (pe_lc (own := [("d", 1)]) rfl sc__law_is_prime.nd (pi_range2 (by rfl) T.n_range (pa_cons pe_int (pa_cons (pv 0) pa_nil))) (blkOk_by (N := N__law_is_prime) (sc := defScope s__law_is_prime) (own := [("d", 1)]) (by decide +kernel)) (fun _ _ _ _ _ => (pg_name (i := 1) sc__law_is_prime.nd rfl (.inl rfl))) (fun _ _ _ _ _ => (pts_one (pt_cmpR op_eq (pe_op op_mulW (pe_op op_fdivN (pv 0) (pv 1)) (pv 1)) (pv 0) (nomark _)))) (fun _ _ _ _ _ => (pv 1))) pa_nil)) pe_int (nomark _)))))), ?_⟩
    refine ⟨_, rfl, _, _, rfl, rfl, _, rfl, ite2 (fun c => ?_) (fun c => ?_)⟩
    · have c1 : 1 < n := of_decide_eq_true c
      refine ⟨_, rfl, 2, n, rfl, ⟨by decide, by decide, by omega, by omega⟩, fun D nD => lc_range (lo := 2) (n := (n - 2).toNat) (fun i H3 => H3 D = some (.lst ((flt n 2 i).map V.int)) ∧ Same H H3)
        ⟨upd_same, same_new nD⟩ (fun i H3 hi hPv => ?_) (fun H3 hPv => ?_)⟩
      · have hs := fdiv_size (n := n) (d := 2 + (i : Int)) (by omega) (by omega)
        refine ⟨rfl, ?_⟩
        refine ⟨_, rfl, _, rfl, _, _, rfl, rfl, ⟨by omega, by omega⟩, _, rfl, _, _, rfl, rfl, wide_mul (a := 20) (b := 20) (by omega) (by omega) (by decide) (by decide) (by decide), _, rfl, rfl, _, rfl, ite2 (fun c2 => ?_) (fun c2 => ?_)⟩
        · refine ⟨_, rfl, _, hPv.1, small1000 (by rw [List.length_map]; have := flt_len n 2 i; omega), ?_, same_mut hPv.2 nD⟩
          rw [upd_same, flt_more, if_pos (V.int.inj (of_decide_eq_true c2)), List.map_append]
          rfl
        · refine ⟨?_, hPv.2⟩
          rw [flt_more, if_neg (fun z => c2 (decide_eq_true (congrArg V.int z))), List.append_nil]
          exact hPv.1
      · refine ⟨D, _, rfl, .inl (.inl (.inl hPv.1)), rfl, ?_⟩
        have := q H3 hPv.2
        unfold isP at this
        rw [if_pos c1] at this
        rw [List.length_map]
        have e : decide (V.int ((flt n 2 (n - 2).toNat).length : Int) = V.int 0) = decide (((flt n 2 (n - 2).toNat).length : Int) = 0) := by
          by_cases h : ((flt n 2 (n - 2).toNat).length : Int) = 0
          · rw [h]
            rfl
          · rw [decide_eq_false h, decide_eq_false (fun z => h (V.int.inj z))]
        rw [e]
        exact this
    · have := q H (Same.refl H)
      unfold isP at this
      rw [if_neg (fun z => c (decide_eq_true z))] at this
      rw [show decide (1 < n) = false from decide_eq_false (fun z => c (decide_eq_true z))] at c
      exact this
/-! ### the tables of law k00 -/
def menu : List Int := [2, 3, 5, 7, 11, 13, 17, 19, 23, 29, 31]
theorem menu_inv : (menu.all fun p => (List.range 31).all fun r => decide (r = 0) || decide (p ≤ (r : Int)) || (let b := (((r : Int) ^ (p - 2).toNat).fmod p); decide (0 < b) && decide (b < p) && decide (((r : Int) * b).fmod p = 1))) = true := by decide +kernel
theorem menu_bound : ∀ p ∈ menu, 2 ≤ p ∧ p ≤ 31 := by decide
theorem inv_ok {p a : Int} (hp : p ∈ menu) (h : a.fmod p ≠ 0) : 0 < ((a.fmod p) ^ (p - 2).toNat).fmod p ∧ ((a.fmod p) ^ (p - 2).toNat).fmod p < p ∧ (a * ((a.fmod p) ^ (p - 2).toNat).fmod p).fmod p = 1 := by
  have hb := menu_bound p hp
  have e : ∀ x : Int, x.fmod p = x % p := fun x => Int.fmod_eq_emod_of_nonneg _ (by omega)
  have h0 : 0 ≤ a.fmod p ∧ a.fmod p < p := by
    rw [e]
    exact ⟨Int.emod_nonneg _ (by omega), Int.emod_lt_of_pos _ (by omega)⟩
  have k := List.all_eq_true.mp (List.all_eq_true.mp menu_inv p hp) (a.fmod p).toNat (List.mem_range.mpr (by omega))
  have e2 : ((a.fmod p).toNat : Int) = a.fmod p := by omega
  rw [e2] at k
  simp only [Bool.or_eq_true, Bool.and_eq_true, decide_eq_true_eq] at k
  rcases k with (k | k) | k
  · omega
  · omega
  · obtain ⟨⟨k1, k2⟩, k3⟩ := k
    refine ⟨k1, k2, ?_⟩
    generalize ((a.fmod p) ^ (p - 2).toNat).fmod p = b at *
    rw [e (a.fmod p * b), e a] at k3
    rw [e (a * b), Int.mul_emod a b p]
    rw [Int.mul_emod (a % p) b p, Int.emod_emod_of_dvd a (Int.dvd_refl p)] at k3
    exact k3
def pf (n d : Int) (k : Nat) : List Int := ((List.range k).filter fun i => decide (n / d ^ (1 + i) * d ^ (1 + i) = n)).map fun i : Nat => (1 : Int) + i
def most (n d : Int) : Int := ((pf n d 8).length : Int)
theorem pf_more (n d : Int) (k : Nat) : pf n d (k + 1) = pf n d k ++ (if n / d ^ (1 + k) * d ^ (1 + k) = n then [(1 : Int) + k] else []) := by
  unfold pf
  rw [List.range_succ, List.filter_append, List.map_append]
  congr 1
  by_cases h : n / d ^ (1 + k) * d ^ (1 + k) = n
  · rw [if_pos h, List.filter_cons_of_pos (by exact decide_eq_true h), List.filter_nil]
    rfl
  · rw [if_neg h, List.filter_cons_of_neg (by rw [decide_eq_false h]; exact Bool.false_ne_true), List.filter_nil]
    rfl
theorem pf_len (n d : Int) (k : Nat) : (pf n d k).length ≤ k := by
  unfold pf
  rw [List.length_map]
  refine Nat.le_trans (List.length_filter_le _ _) ?_
  rw [List.length_range]
  exact Nat.le_refl k
def dueR (n : Int) : Nat → List (Int × Int)
  | 0 => []
  | k + 1 => dueR n k ++ (if isP (2 + (k : Int)) = true ∧ 0 < most n (2 + k) then [(2 + (k : Int), most n (2 + k))] else [])
def primesTo : Nat → List Int
  | 0 => []
  | k + 1 => primesTo k ++ (if isP (2 + (k : Int)) = true then [2 + (k : Int)] else [])
theorem dueR_eq (n : Int) : ∀ k, dueR n k = ((primesTo k).filter fun d => decide (0 < most n d)).map fun d => (d, most n d)
  | 0 => rfl
  | k + 1 => by
    rw [dueR, primesTo, dueR_eq n k, List.filter_append, List.map_append]
    congr 1
    by_cases h : isP (2 + (k : Int)) = true
    · rw [if_pos h]
      by_cases g : 0 < most n (2 + k)
      · rw [if_pos ⟨h, g⟩, List.filter_cons_of_pos (by exact decide_eq_true g), List.filter_nil]
        rfl
      · rw [if_neg (fun z => g z.2), List.filter_cons_of_neg (by rw [decide_eq_false g]; exact Bool.false_ne_true), List.filter_nil]
        rfl
    · rw [if_neg (fun z => h z.1), if_neg h, List.filter_nil]
      rfl
def pl : List Int := [2, 3, 5, 7, 11, 13, 17, 19, 23, 29, 31, 37, 41, 43, 47, 53, 59, 61, 67, 71, 73, 79, 83, 89, 97, 101, 103, 107, 109, 113, 127, 131, 137, 139, 149, 151, 157, 163, 167, 173, 179, 181, 191, 193, 197, 199, 211, 223, 227, 229, 233, 239, 241, 251, 257, 263, 269, 271, 277, 281, 283, 293]
theorem primes_pl : primesTo 299 = pl := by decide +kernel
theorem primesTo_le : ∀ (m k : Nat), (∀ d ∈ primesTo k, 2 ≤ d ∧ d < 2 + (k : Int)) ∧ (k ≤ m → primesTo k = (primesTo m).filter fun d => decide (d < 2 + (k : Int)))
  | m, k => by
    have low : ∀ k, ∀ d ∈ primesTo k, 2 ≤ d ∧ d < 2 + (k : Int) := by
      intro k
      induction k with
      | zero => intro d h; cases h
      | succ k ih =>
        intro d h
        rw [primesTo] at h
        rcases List.mem_append.mp h with h | h
        · have := ih d h
          omega
        · split at h
          · have := List.mem_singleton.mp h
            omega
          · cases h
    refine ⟨low k, fun hk => ?_⟩
    induction m with
    | zero =>
      have : k = 0 := by omega
      subst this
      rfl
    | succ m ih =>
      rw [primesTo, List.filter_append]
      by_cases e : k = m + 1
      · subst e
        have h1 : (primesTo m).filter (fun d => decide (d < 2 + ((m + 1 : Nat) : Int))) = primesTo m := List.filter_eq_self.mpr fun d hd => decide_eq_true (by have := low m d hd; omega)
        rw [h1, primesTo]
        congr 1
        split
        · rw [List.filter_cons_of_pos (by exact decide_eq_true (by omega)), List.filter_nil]
        · rfl
      · rw [ih (by omega)]
        have h1 : (if isP (2 + (m : Int)) = true then [2 + (m : Int)] else []).filter (fun d => decide (d < 2 + (k : Int))) = [] := by
          split
          · rw [List.filter_cons_of_neg (by rw [decide_eq_false (by omega)]; exact Bool.false_ne_true), List.filter_nil]
          · rfl
        rw [h1, List.append_nil]
def okN (n : Nat) : Bool := match facR n with
  | some l => decide (l = ((pl.filter fun d => decide (d < 2 + ((n - 1 : Nat) : Int))).filter fun d => decide (0 < most n d)).map fun d => (d, most n d)) && (match divL l [1] with
    | some ds => ds.isPerm (flt n 1 n)
    | none => false)
  | none => false
set_option maxRecDepth 1000000 in
theorem okN_all : ((List.range 300).all fun i => okN (i + 1)) = true := by decide +kernel
theorem due_eq {n : Nat} (h1 : 1 ≤ n) (h2 : n ≤ 300) : ∃ l ds, facR n = some l ∧ l = dueR n (n - 1) ∧ divL l [1] = some ds ∧ ds.Perm (flt n 1 n) := by
  have k := List.all_eq_true.mp okN_all (n - 1) (List.mem_range.mpr (by omega))
  have e : n - 1 + 1 = n := by omega
  rw [e] at k
  unfold okN at k
  cases hf : facR n with
  | none => rw [hf] at k; cases k
  | some l =>
    rw [hf] at k
    dsimp only at k
    rw [Bool.and_eq_true] at k
    obtain ⟨k1, k2⟩ := k
    cases hd : divL l [1] with
    | none => rw [hd] at k2; cases k2
    | some ds =>
      rw [hd] at k2
      refine ⟨l, ds, rfl, ?_, hd, List.isPerm_iff.mp k2⟩
      rw [dueR_eq, (primesTo_le 299 (n - 1)).2 (by omega), primes_pl]
      exact of_decide_eq_true k1
theorem small_told : ((List.range 60).all fun i => let m : Int := (i : Int) - 5; inV (.int m) (menu.map V.int) == (decide (m < 32) && isP m)) = true := by decide +kernel
theorem flt_sorted (n lo : Int) (k : Nat) : (flt n lo k).Pairwise (· ≤ ·) := by
  unfold flt
  refine List.Pairwise.filter _ ?_
  rw [List.pairwise_map]
  refine List.Pairwise.imp (fun h => ?_) (List.pairwise_lt_range (n := k))
  omega
/-! ### the law -/
def sp_law (K : PySem.W.Frag) : Sp := fun vs H Q _ => ∃ (a : Addr) (ns : List Int), vs = [.ref a] ∧ SqL K H a (ns.map V.int) ∧ ns.length ≤ 63 ∧ ∀ H', Q (.bl true) H'
theorem take_menu {v : Int} (h0 : 0 ≤ v) (h1 : v < 11) : ∃ p, p ∈ menu ∧ atI (menu.map V.int) v = some (.int p) := by
  obtain ⟨j, rfl⟩ := Int.eq_ofNat_of_zero_le h0
  have hj : j < menu.length := by
    show j < 11
    omega
  refine ⟨menu[j], List.getElem_mem hj, atI_nat ?_⟩
  rw [List.getElem?_map, List.getElem?_eq_getElem hj]
  rfl
theorem ok_law (R : RefC K mg s_RI) (T : Txt K mg) (M : ReasonC K mg R.C) : FnOk P w K mg base CX0 7 T.a_law T.d_law ["script"] (sp_law K) := by
  have G__law_state : FnOk P w K mg base CX0 1 T.a__law_state T.d__law_state ["script"] (spState K) := ok_state T
  have G__law_take : FnOk P w K mg base CX0 1 T.a__law_take T.d__law_take ["state", "m"] spTake := ok_take T
  have G__law_reason : FnOk P w K mg base CX0 5 T.a__law_reason T.d__law_reason ["a", "p"] spReason := ok_reason R T M
  have G_inverse : FnOk P w K mg base (L2.CX P w) 3 T.a_inverse T.d_inverse ["a", "p"] (spInv R.C) := ok_inv R T
  have G_power : FnOk P w K mg base CX0 1 T.a_power T.d_power ["a", "k"] spPower := ok_power T
  have G__law_is_prime : FnOk P w K mg base CX0 1 T.a__law_is_prime T.d__law_is_prime ["n"] spIsPrime := ok_isprime T
  have G_divisors : FnOk P w K mg base CX0 2 T.a_divisors T.d_divisors ["n"] spDivisors := ok_divisors T
  have G_factors : FnOk P w K mg base CX0 1 T.a_factors T.d_factors ["n"] spFactors := ok_factors T
  have G_is_small_prime : FnOk P w K mg base CX0 2 T.a_is_small_prime T.d_is_small_prime ["value"] (spSmall K) := ok_small T
  have G_is_integer : FnOk P w K mg base CX0 1 T.a_is_integer T.d_is_integer ["value"] (spIsInt K) := ok_isint T
  refine T.F_law.ok sc_law (fun vs H Q E h => ?_) (fun cdv A outer s H vs Q E hr h => ?_)
  · obtain ⟨a, ns, rfl, _⟩ := h
    rfl
  · obtain ⟨as, ns, rfl, hS, hlen, q⟩ := h
    refine ⟨_, (pss_cons (ps_set (i := 1) sc_law.nd rfl (.inl rfl) (pe_call G__law_state (hr.mono (by decide)) (by rfl) T.g__law_state T.F__law_state.kp T.b__law_state .nil pass0 (pa_cons (pv 0) pa_nil))) 
    (pss_cons (ps_set (i := 2) sc_law.nd rfl (.inl rfl) (pe_ix ix_list (pe_lst (pa_cons pe_int (pa_cons pe_int (pa_cons pe_int (pa_cons pe_int (pa_cons pe_int (pa_cons pe_int (pa_cons pe_int (pa_cons pe_int (pa_cons pe_int (pa_cons pe_int (pa_cons pe_int pa_nil)))))))))))) (pe_call G__law_take (hr.mono (by decide)) (by rfl) T.g__law_take T.F__law_take.kp T.b__law_take .nil pass0 (pa_cons (pv 1) (pa_cons pe_int pa_nil))) (fun _ _ => rfl))) 
    (pss_cons (ps_set (i := 3) sc_law.nd rfl (.inl rfl) (pe_op op_subL (pe_call G__law_take (hr.mono (by decide)) (by rfl) T.g__law_take T.F__law_take.kp T.b__law_take .nil pass0 (pa_cons (pv 1) (pa_cons pe_int pa_nil))) pe_int)) 
    (C8.pss_cut (ps_if (pt_cmpR op_eq (pe_op op_modN (pe_callTy call_int1 (by rfl) T.n_int (by decide +kernel) (pa_cons (pv 3) pa_nil)) (pv 2)) pe_int (nomark _)) 
      (pss_one (ps_if (pt_cmpR (op_neD hr.units) (pe_call G__law_reason (hr.mono (by decide)) (by rfl) T.g__law_reason T.F__law_reason.kp T.b__law_reason .nil pass0 (pa_cons (pv 3) (pa_cons (pv 2) pa_nil))) (pe_tup (pa_cons pe_str (pa_cons pe_str pa_nil))) (nomark _)) 
        (pss_one (ps_ret pe_bl)) pss_nil)) 
      (pss_cons (ps_set (i := 4) sc_law.nd rfl (.inl rfl) (pe_call G_inverse (hr.mono (by decide)) (by rfl) T.g_inverse T.F_inverse.kp T.b_inverse .nil passL (pa_cons (pv 3) (pa_cons (pv 2) pa_nil)))) 
      (pss_one (ps_if (PW.pt (pw_or (pt_not (pt_chain op_lt op_lt pe_int (pv 4) (pv 2))) (pw_or1 (pt_cmpR op_ne (pe_op op_modN (pe_callTy call_int1 (by rfl) T.n_int (by decide +kernel) (pa_cons (pe_op op_mulW (pv 3) (pv 4)) pa_nil)) (pv 2)) pe_int (nomark _))))) 
        (pss_one (ps_ret pe_bl)) pss_nil)))) 
    (pss_cons (ps_set (i := 5) sc_law.nd rfl (.inl rfl) (pe_call G__law_take (hr.mono (by decide)) (by rfl) T.g__law_take T.F__law_take.kp T.b__law_take .nil pass0 (pa_cons (pv 1) (pa_cons pe_int pa_nil)))) 
    (pss_cons (ps_set (i := 6) sc_law.nd rfl (.inl rfl) pe_int) 
    (pss_cons (ps_for PassesOwn.never rfl (pi_range1 (by rfl) T.n_range (pa_cons (pv 5) pa_nil)) (pg_name (i := 7) sc_law.nd rfl (.inl rfl)) 
      (pss_one (ps_set (i := 6) sc_law.nd rfl (.inl rfl) (pe_op op_mulW (pv 6) (pv 3))))) 
    (pss_cons (ps_set (i := 8) sc_law.nd rfl (.inr rfl) (pe_op op_addL pe_int (pe_call G__law_take (hr.mono (by decide)) (by rfl) T.g__law_take T.F__law_take.kp T.b__law_take .nil pass0 (pa_cons (pv 1) (pa_cons pe_int pa_nil))))) 
    (pss_cons (ps_set (i := 9) sc_law.nd rfl (.inl rfl) (pe_lst pa_nil)) 
    (pss_cons (ps_for PassesOwn.never rfl (pi_range2 (by rfl) T.n_range (pa_cons pe_int (pa_cons (pe_op op_add (pv 8) pe_int) pa_nil))) (pg_name (i := 10) sc_law.nd rfl (.inr rfl)) 
      (pss_cons (ps_set (i := 11) sc_law.nd rfl (.inl rfl) (pe_callB call_lenL (by rfl) T.n_len (by decide +kernel) (pa_cons (pe_lc (own := [("k", 5)]) rfl sc_law.nd (pi_range2 (by rfl) T.n_range (pa_cons pe_int (pa_cons pe_int pa_nil))) (blkOk_by (N := N_law) (sc := defScope s_law) (own := [("k", 5)]) (by decide +kernel)) (fun _ _ _ _ _ => (pg_name (i := 5) sc_law.nd rfl (.inl rfl))) (fun _ _ _ _ _ => (pts_one (pt_cmpR op_eq (pe_op op_mulW (pe_op op_fdivW (pv 8) (pe_call G_power (hr.mono (by decide)) (by rfl) T.g_power T.F_power.kp T.b_power .nil pass0 (pa_cons (pv 10) (pa_cons (pv 5) pa_nil)))) (pe_call G_power (hr.mono (by decide)) (by rfl) T.g_power T.F_power.kp T.b_power .nil pass0 (pa_cons (pv 10) (pa_cons (pv 5) pa_nil)))) (pv 8) (nomark _)))) (fun _ _ _ _ _ => (pv 5))) pa_nil))) 
      (pss_one (ps_if (PW.pt (pw_and (pt_val (pe_call G__law_is_prime (hr.mono (by decide)) (by rfl) T.g__law_is_prime T.F__law_is_prime.kp T.b__law_is_prime .nil pass0 (pa_cons (pv 10) pa_nil))) (pw_and1 (pt_cmpR op_gt (pv 11) pe_int (nomark _))))) 
        (pss_one (ps_expr (pe_bm PySem.F.plainAttrs_list PySem.F.slot_list_append PySem.F.type_list_append mt_append (pv 9) (pa_cons (pe_tup (pa_cons (pv 10) (pa_cons (pv 11) pa_nil))) pa_nil)))) pss_nil)))) 
    (C8.pss_cut (ps_if (PW.pt (pw_or (pt_cmpR op_ne (pe_call G_power (hr.mono (by decide)) (by rfl) T.g_power T.F_power.kp T.b_power .nil pass0 (pa_cons (pv 3) (pa_cons (pv 5) pa_nil))) (pv 6) (nomark _)) (pw_or (pt_cmpR (op_neD hr.units) (pe_call G_divisors (hr.mono (by decide)) (by rfl) T.g_divisors T.F_divisors.kp T.b_divisors .nil pass0 (pa_cons (pv 8) pa_nil)) (pe_callTy call_tuple_of (by rfl) T.n_tuple (by decide +kernel) (pa_cons (pe_lc (own := [("d", 10)]) rfl sc_law.nd (pi_range2 (by rfl) T.n_range (pa_cons pe_int (pa_cons (pe_op op_add (pv 8) pe_int) pa_nil))) (blkOk_by (N := N_law) (sc := defScope s_law) (own := [("d", 10)]) (by decide +kernel)) (fun _ _ _ _ _ => (pg_name (i := 10) sc_law.nd rfl (.inl rfl))) (fun _ _ _ _ _ => (pts_one (pt_cmpR op_eq (pe_op op_mulW (pe_op op_fdivN (pv 8) (pv 10)) (pv 10)) (pv 8) (nomark _)))) (fun _ _ _ _ _ => (pv 10))) pa_nil)) (nomark _)) (pw_or1 (pt_cmpR (op_neD hr.units) (pe_call G_factors (hr.mono (by decide)) (by rfl) T.g_factors T.F_factors.kp T.b_factors .nil pass0 (pa_cons (pv 8) pa_nil)) (pe_callTy call_tuple_of (by rfl) T.n_tuple (by decide +kernel) (pa_cons (pv 9) pa_nil)) (nomark _)))))) 
      (pss_one (ps_ret pe_bl)) pss_nil) 
    (pss_cons (ps_set (i := 12) sc_law.nd rfl (.inl rfl) (pe_op op_subL (pe_call G__law_take (hr.mono (by decide)) (by rfl) T.g__law_take T.F__law_take.kp T.b__law_take .nil pass0 (pa_cons (pv 1) (pa_cons pe_int pa_nil))) pe_int)) 
    (pss_cons (ps_set (i := 13) sc_law.nd rfl (.inl rfl) (pe_call G_is_small_prime (hr.mono (by decide)) (by rfl) T.g_is_small_prime T.F_is_small_prime.kp T.b_is_small_prime .nil pass0 (pa_cons (pv 12) pa_nil))) 
    (C8.pss_cut (ps_if (PW.pt (pw_or (pt_not (pt_val (pe_callB call_isi (by rfl) T.n_isinstance (by decide +kernel) (pa_cons (pv 13) (pa_cons (pe_bltn (v := .ty "bool") (by rfl) T.n_bool (by decide +kernel) rfl) pa_nil))))) (pw_or1 (pt_cmpR op_ne (pv 13) (pe_and (pe_cmpR op_lt (pv 12) pe_int (nomark _)) (pe_one (pe_call G__law_is_prime (hr.mono (by decide)) (by rfl) T.g__law_is_prime T.F__law_is_prime.kp T.b__law_is_prime .nil pass0 (pa_cons (pv 12) pa_nil)))) (nomark _))))) 
      (pss_one (ps_ret pe_bl)) pss_nil) 
    (pss_cons (ps_for PassesOwn.never rfl (pi_list (pe_lst (pa_cons pe_bl (pa_cons pe_bl (pa_cons pe_non (pa_cons pe_str (pa_cons (pe_tup (pa_cons pe_int pa_nil)) (pa_cons (pe_lst (pa_cons pe_int pa_nil)) (pa_cons (pe_tup pa_nil) pa_nil))))))))) (pg_name (i := 14) sc_law.nd rfl (.inl rfl)) 
      (pss_one (ps_if (PW.pt (pw_or (pt_cmpR op_isnot_bl (pe_call G_is_integer (hr.mono (by decide)) (by rfl) T.g_is_integer T.F_is_integer.kp T.b_is_integer .nil pass0 (pa_cons (pv 14) pa_nil)) pe_bl (nomark _)) (pw_or1 (pt_cmpR op_isnot_bl (pe_call G_is_small_prime (hr.mono (by decide)) (by rfl) T.g_is_small_prime T.F_is_small_prime.kp T.b_is_small_prime .nil pass0 (pa_cons (pv 14) pa_nil)) pe_bl (nomark _))))) 
        (pss_one (ps_ret pe_bl)) pss_nil))) 
    (pss_one (ps_ret (pe_cmpR op_is_bl (pe_call G_is_integer (hr.mono (by decide)) (by rfl) T.g_is_integer T.F_is_integer.kp T.b_is_integer .nil pass0 (pa_cons (pv 3) pa_nil)) pe_bl (nomark _))))))))))))))))))), ?_⟩
    -- state
    refine ⟨_, rfl, as, ns, rfl, hS, fun H1 st s0 t0 _ _ est => ?_⟩
    -- p
    refine ⟨by show 11 ≤ sizeLine; decide, fun l nl => ?_⟩
    have est1 := (upd_ne (o := .lst (menu.map V.int)) (ne_of_none est nl)).trans est
    refine ⟨_, rfl, st, 11, _, _, rfl, by decide, by decide, est1, fun v s1 t1 hv0 hv1 => ?_⟩
    obtain ⟨p, hpm, hat⟩ := take_menu hv0 hv1
    have hlst : l ≠ st := fun z => by
      rw [z, est] at nl
      cases nl
    refine ⟨l, menu.map V.int, v, .int p, rfl, rfl, .inl (.inl (by rw [upd_ne hlst, upd_same]; rfl)), hat, ?_⟩
    have hpb := menu_bound p hpm
    have hne : p ≠ 0 := by omega
    -- a
    refine ⟨_, rfl, st, 2001, _, _, rfl, by decide, by decide, upd_same, fun v2 s2 t2 hv2 hv3 => ?_⟩
    refine ⟨_, _, rfl, rfl, fun a ha => ?_⟩
    have hab : a.natAbs < 2 ^ 40 := by
      have ha' : a = v2 - 1000 := ha
      omega
    refine ⟨fun σ' H' => ∃ (y4 : Option V) (s t : Int), σ' = [some (.ref as), some (.ref st), some (.int p), some (.int a), y4, none, none, none, none, none, none, none, none, none, none] ∧ H' st = some (.lst [.int s, .int t]), ?_, ?_⟩
    · refine ⟨_, rfl, .inl ⟨_, rfl, _, rfl, _, _, rfl, rfl, hne, rfl, _, rfl, ite2 (fun c => ?_) (fun c => ?_)⟩⟩
      · have c1 : a.fmod p = 0 := V.int.inj (of_decide_eq_true c)
        refine ⟨_, rfl, _, rfl, a, p, rfl, hpb.1, hpb.2, c1, fun H2 t sm nt et => ?_⟩
        refine ⟨(by show 2 ≤ sizeLine; decide), fun u nu => ?_⟩
        have et2 : (upd H2 u (.tup [.str "refused", .str "inverse"])) t = some (.tup [.str "refused", .str "inverse"]) := by
          rw [upd_ne (ne_of_none et nu)]
          exact et
        refine ⟨.tuple [.str "refused", .str "inverse"], .tuple [.str "refused", .str "inverse"], .tup (.inl (.inl et2)) (.cons (.str _) (.cons (.str _) .nil)), .tup (.inl (.inl upd_same)) (.cons (.str _) (.cons (.str _) .nil)), by decide +kernel, by decide +kernel, _, rfl, ?_⟩
        rw [show PyData.eqv (.tuple [.str "refused", .str "inverse"]) (.tuple [.str "refused", .str "inverse"]) = true by decide +kernel]
        exact iteF ⟨none, s2, t2, rfl, by rw [upd_ne (ne_of_none (sm _ _ upd_same) nu)]; exact sm _ _ upd_same⟩
      · have c1 : a.fmod p ≠ 0 := fun z => c (decide_eq_true (congrArg V.int z))
        obtain ⟨k1, k2, k3⟩ := inv_ok hpm c1
        refine ⟨_, rfl, _, rfl, a, p, rfl, hpb.1, hpb.2, fun z => absurd z c1, fun _ => ?_⟩
        generalize hb : ((a.fmod p) ^ (p - 2).toNat).fmod p = b at k1 k2 k3
        refine ⟨_, rfl, _, _, rfl, rfl, _, rfl, ?_⟩
        rw [decide_eq_true k1]
        refine iteT ⟨_, rfl, _, _, rfl, rfl, _, rfl, ?_⟩
        rw [decide_eq_true k2]
        refine iteF ⟨_, rfl, _, rfl, _, _, rfl, rfl, wide_mul (a := 40) (b := 40) hab (by omega) (by decide) (by decide) (by decide), .inl ⟨_, rfl, _, rfl, _, _, rfl, rfl, hne, rfl, _, rfl, ?_⟩⟩
        exact iteB (not_dec (congrArg V.int k3)) ⟨some (.int b), s2, t2, rfl, upd_same⟩
    rintro σ4 H4 ⟨y4, s4, t4, rfl, est4⟩
    -- k, total
    refine ⟨_, rfl, st, 9, _, _, rfl, by decide, by decide, est4, fun v5 s5 t5 h50 h51 => ?_⟩
    obtain ⟨k, rfl⟩ := Int.eq_ofNat_of_zero_le h50
    have hk : k < 9 := by omega
    have pw := fun i : Nat => pow_size hab i
    refine ⟨_, rfl, (k : Int), rfl, by omega, by omega, for_range (lo := 0) (n := k) (fun i σ H' => ∃ y7 : Option V, σ = [some (.ref as), some (.ref st), some (.int p), some (.int a), y4, some (.int (k : Int)), some (.int (a ^ i)), y7, none, none, none, none, none, none, none] ∧ H' st = some (.lst [.int s5, .int t5]))
      ⟨none, by rw [Int.pow_zero]; rfl, upd_same⟩ (fun i σ H' hi hPv => ?_) (fun σ H' hPv => ?_)⟩
    · obtain ⟨y7, rfl, est⟩ := hPv
      refine ⟨_, rfl, _, rfl, _, _, rfl, rfl, wide_mul (pw i) hab (by omega) (by decide) (by omega), some (.int (0 + (i : Int))), ?_, est⟩
      rw [Int.pow_succ]
      rfl
    obtain ⟨y7, rfl, est7⟩ := hPv
    -- n, due
    refine ⟨_, rfl, st, 300, _, _, rfl, by decide, by decide, est7, fun v8 s8 t8 h80 h81 => ?_⟩
    refine ⟨_, _, rfl, rfl, fun nv hnv => ?_⟩
    have hnv' : nv = 1 + v8 := hnv
    obtain ⟨n, rfl⟩ : ∃ n : Nat, nv = (n : Int) := ⟨nv.toNat, by omega⟩
    have hn1 : 1 ≤ n := by omega
    have hn2 : n ≤ 300 := by omega
    obtain ⟨l9, ds9, hf9, hl9, hd9, hp9⟩ := due_eq hn1 hn2
    refine ⟨Nat.zero_le _, fun o no => ?_⟩
    have hsto : st ≠ o := ne_of_none upd_same no
    have hR : ((n : Int) + 1 - 2).toNat = n - 1 := by omega
    refine ⟨_, rfl, _, _, rfl, rfl, 2, _, rfl, ⟨by decide, by decide, by omega, by omega⟩, for_range (lo := 2) (n := ((n : Int) + 1 - 2).toNat) (fun i σ H' => ∃ (ts : List Addr) (y10 y11 : Option V), σ = [some (.ref as), some (.ref st), some (.int p), some (.int a), y4, some (.int (k : Int)), some (.int (a ^ k)), y7, some (.int (n : Int)), some (.ref o), y10, y11, none, none, none] ∧ H' st = some (.lst [.int s8, .int t8]) ∧ H' o = some (.lst (ts.map V.ref)) ∧ Paired (T2 H') ts (dueR n i) ∧ ts.length ≤ i)
      ⟨[], none, none, rfl, by rw [upd_ne hsto, upd_same], upd_same, .nil, Nat.le_refl _⟩ (fun i σ H' hi hPv => ?_) (fun σ H' hPv => ?_)⟩
    · obtain ⟨ts, y10, y11, rfl, est, eo, hP, hts⟩ := hPv
      have hd0 : (0 : Int) < 2 + (i : Int) := by omega
      have hdb : (2 + (i : Int)).natAbs < 2 ^ 40 := by omega
      refine ⟨1, 9, rfl, ⟨by decide, by decide, by decide, by decide⟩, fun D nD => lc_range (lo := 1) (n := 8) (fun j H3 => H3 D = some (.lst ((pf n (2 + i) j).map V.int)) ∧ Same H' H3)
        ⟨upd_same, same_new nD⟩ (fun j H3 hj hPj => ?_) (fun H3 hPj => ?_)⟩
      · have e1 : (1 : Int) + (j : Int) = ((1 + j : Nat) : Int) := by omega
        have hvs : [V.int (2 + (i : Int)), V.int (1 + (j : Int))] = [V.int (2 + (i : Int)), V.int ((1 + j : Nat) : Int)] := by rw [e1]
        have hpp : (0 : Int) < (2 + (i : Int)) ^ (1 + j) := Int.pow_pos hd0
        have hsz := pow_size hdb (1 + j)
        have hq : (((n : Int) / (2 + (i : Int)) ^ (1 + j))).natAbs < 2 ^ 40 := by
          have h1 := Int.ediv_nonneg (a := (n : Int)) (b := (2 + (i : Int)) ^ (1 + j)) (by omega) (Int.le_of_lt hpp)
          have h2 := Int.ediv_le_self (a := (n : Int)) ((2 + (i : Int)) ^ (1 + j)) (by omega)
          omega
        refine ⟨rfl, ?_⟩
        refine ⟨_, rfl, _, rfl, _, rfl, _, 1 + j, hvs, hdb, by omega, _, _, rfl, rfl, wide_div hpp hsz (by omega) (by omega), _, rfl, _, rfl, _, 1 + j, hvs, hdb, by omega, _, _, rfl, rfl, wide_mul hq hsz (by decide) (by omega) (by omega), _, rfl, rfl, _, rfl, ite2 (fun c => ?_) (fun c => ?_)⟩
        · refine ⟨_, rfl, _, hPj.1, small1000 (by rw [List.length_map]; have := pf_len n (2 + i) j; omega), ?_, same_mut hPj.2 nD⟩
          rw [upd_same, pf_more, if_pos (V.int.inj (of_decide_eq_true c)), List.map_append]
          rfl
        · refine ⟨?_, hPj.2⟩
          rw [pf_more, if_neg (fun z => c (decide_eq_true (congrArg V.int z))), List.append_nil]
          exact hPj.1
      · obtain ⟨eD, sm3⟩ := hPj
        refine ⟨D, _, rfl, .inl (.inl (.inl eD)), fun mm hmm => ?_⟩
        have hm : mm = most n (2 + i) := by
          rw [hmm, List.length_map]
          rfl
        have hdl : dueR n (i + 1) = dueR n i ++ (if isP (2 + (i : Int)) = true ∧ 0 < most n (2 + i) then [(2 + (i : Int), most n (2 + i))] else []) := rfl
        refine ⟨_, rfl, _, rfl, by omega, fun H4 sm4 => ⟨_, rfl, ?_⟩⟩
        have sm5 := sm3.trans sm4
        have skip : ¬ (isP (2 + (i : Int)) = true ∧ 0 < most n (2 + i)) → ∃ (ts : List Addr) (y10 y11 : Option V), [some (.ref as), some (.ref st), some (.int p), some (.int a), y4, some (.int (k : Int)), some (.int (a ^ k)), y7, some (.int (n : Int)), some (.ref o), some (.int (2 + (i : Int))), some (.int mm), none, none, none] = [some (.ref as), some (.ref st), some (.int p), some (.int a), y4, some (.int (k : Int)), some (.int (a ^ k)), y7, some (.int (n : Int)), some (.ref o), y10, y11, none, none, none] ∧ H4 st = some (.lst [.int s8, .int t8]) ∧ H4 o = some (.lst (ts.map V.ref)) ∧ Paired (T2 H4) ts (dueR n (i + 1)) ∧ ts.length ≤ i + 1 := fun hc => by
          refine ⟨ts, _, _, rfl, sm5 _ _ est, sm5 _ _ eo, ?_, by omega⟩
          rw [hdl, if_neg hc, List.append_nil]
          exact T2.mono sm5 hP
        refine ite2 (fun c => ?_) (fun c => iteF (skip fun z => c z.1))
        refine ⟨_, rfl, _, _, rfl, rfl, _, rfl, ite2 (fun c2 => ?_) (fun c2 => skip fun z => c2 (decide_eq_true (by rw [hm]; exact z.2)))⟩
        have hc2 : 0 < most n (2 + i) := by
          have := of_decide_eq_true c2
          rw [hm] at this
          exact this
        have eo4 := sm5 _ _ eo
        refine ⟨.ref o, rfl, .inl ⟨rfl, _, .inl (.inl eo4)⟩, _, rfl, _, rfl, (by show 2 ≤ sizeLine; decide), fun t nt => ?_⟩
        have not : o ≠ t := ne_of_none eo4 nt
        have eot : (upd H4 t (.tup [.int (2 + (i : Int)), .int mm])) o = some (.lst (ts.map V.ref)) := by
          rw [upd_ne not]
          exact eo4
        have hP2 : Paired (T2 (upd H4 t (.tup [.int (2 + (i : Int)), .int mm]))) (ts ++ [t]) (dueR n i ++ [(2 + (i : Int), mm)]) := T2.add (x := (2 + (i : Int), mm)) upd_same (T2.mono (same_new nt) (T2.mono sm5 hP))
        refine ⟨o, _, _, rfl, rfl, eot, small1000 (by rw [List.length_map]; omega), ?_⟩
        refine ⟨ts ++ [t], _, _, rfl, ?_, ?_, ?_, by rw [List.length_append, List.length_singleton]; omega⟩
        · rw [upd_ne hsto, upd_ne (ne_of_none (sm5 _ _ est) nt)]
          exact sm5 _ _ est
        · rw [upd_same, List.map_append]
          rfl
        · rw [hdl, if_pos ⟨c, hc2⟩, ← hm]
          exact T2.upd eot hP2
    obtain ⟨ts, y10, y11, rfl, est, eo, hP, hts⟩ := hPv
    rw [hR] at hP
    refine ⟨fun σ' H' => σ' = [some (.ref as), some (.ref st), some (.int p), some (.int a), y4, some (.int (k : Int)), some (.int (a ^ k)), y7, some (.int (n : Int)), some (.ref o), y10, y11, none, none, none] ∧ H' st = some (.lst [.int s8, .int t8]), ?_, ?_⟩
    · refine ⟨_, rfl, _, rfl, a, k, rfl, hab, by omega, _, rfl, rfl, _, rfl, iteB (not_dec rfl) ?_⟩
      -- divisors
      refine ⟨_, rfl, (n : Int), l9, ds9, rfl, hf9, by omega, by omega, hd9, fun H6 t6 ds' sm6 nt6 et6 perm srt => ?_⟩
      have hR2 : ((n : Int) + 1 - 1).toNat = n := by omega
      refine ⟨_, rfl, _, _, rfl, rfl, 1, _, rfl, ⟨by decide, by decide, by omega, by omega⟩, fun D nD => lc_range (lo := 1) (n := ((n : Int) + 1 - 1).toNat) (fun i H3 => H3 D = some (.lst ((flt n 1 i).map V.int)) ∧ Same H6 H3)
        ⟨upd_same, same_new nD⟩ (fun i H3 hi hPv => ?_) (fun H3 hPv => ?_)⟩
      · have hs := fdiv_size (n := n) (d := 1 + (i : Int)) (by omega) (by omega)
        refine ⟨rfl, ?_⟩
        refine ⟨_, rfl, _, rfl, _, _, rfl, rfl, ⟨by omega, by omega⟩, _, rfl, _, _, rfl, rfl, wide_mul (a := 20) (b := 20) (by omega) (by omega) (by decide) (by decide) (by decide), _, rfl, rfl, _, rfl, ite2 (fun c2 => ?_) (fun c2 => ?_)⟩
        · refine ⟨_, rfl, _, hPv.1, small1000 (by rw [List.length_map]; have := flt_len n 1 i; omega), ?_, same_mut hPv.2 nD⟩
          rw [upd_same, flt_more, if_pos (V.int.inj (of_decide_eq_true c2)), List.map_append]
          rfl
        · refine ⟨?_, hPv.2⟩
          rw [flt_more, if_neg (fun z => c2 (decide_eq_true (congrArg V.int z))), List.append_nil]
          exact hPv.1
      obtain ⟨eD, sm7⟩ := hPv
      rw [hR2] at eD
      have hds : ds' = flt n 1 n := PySem.W.ksm_same (perm.trans hp9) srt (flt_sorted _ _ _)
      refine ⟨D, _, rfl, .inl ⟨.inl (.inl eD), fun u nu => ?_⟩⟩
      have sm8 := sm7.trans (same_new (o := .tup ((flt n 1 n).map V.int)) nu)
      refine ⟨dInts ds', dInts (flt n 1 n), dp_ints (.inl (.inl (sm8 _ _ et6))), dp_ints (.inl (.inl upd_same)), shaped_dInts _, shaped_dInts _, _, rfl, iteB ?_ ?_⟩
      · rw [eqv_dInts]
        exact not_dec hds
      -- factors
      have sm9 := sm6.trans sm8
      refine ⟨_, rfl, (n : Int), l9, rfl, hf9, by omega, by omega, fun H10 t10 ts10 sm10 nt10 et10 hP10 _ => ?_⟩
      have smA := sm9.trans sm10
      refine ⟨_, rfl, o, _, rfl, .inl ⟨.inl (.inl (smA _ _ eo)), fun u2 nu2 => ?_⟩⟩
      have smB := same_new (o := .tup (ts.map V.ref)) nu2
      refine ⟨dPairs l9, dPairs (dueR n (n - 1)), dp_pairs (.inl (.inl (smB _ _ et10))) (T2.mono smB hP10), dp_pairs (.inl (.inl upd_same)) (T2.mono (smA.trans smB) hP), shaped_dPairs _, shaped_dPairs _, _, rfl, iteB ?_ ?_⟩
      · rw [← hl9, eqv_dPairs]
        rfl
      exact ⟨rfl, (smA.trans smB) _ _ est⟩
    rintro σ5 H5 ⟨rfl, est5⟩
    -- m, told
    refine ⟨_, rfl, st, 60, _, _, rfl, by decide, by decide, est5, fun v6 s6 t6 h60 h61 => ⟨_, _, rfl, rfl, fun m hm0 => ?_⟩⟩
    have hm1 : m = v6 - 5 := hm0
    refine ⟨_, rfl, .int m, true, rfl, isI_int m, ?_⟩
    have told : inV (.int m) (menu.map V.int) = (decide (m < 32) && isP m) := by
      have k := List.all_eq_true.mp small_told v6.toNat (List.mem_range.mpr (by omega))
      have e : (v6.toNat : Int) - 5 = m := by omega
      dsimp only at k
      rw [e] at k
      exact beq_iff_eq.mp k
    have told2 : (true && inV (.int m) ([2, 3, 5, 7, 11, 13, 17, 19, 23, 29, 31].map V.int)) = (decide (m < 32) && isP m) := told
    refine ⟨fun σ' H' => ∃ y12 y13 : Option V, σ' = [some (.ref as), some (.ref st), some (.int p), some (.int a), y4, some (.int (k : Int)), some (.int (a ^ k)), y7, some (.int (n : Int)), some (.ref o), y10, y11, y12, y13, none], ?_, ?_⟩
    · refine ⟨_, rfl, _, _, _, _, true, rfl, .ty "bool", .base (.bl _), kit_ty (by decide +kernel), true, rfl, iteF ?_⟩
      refine ⟨_, rfl, _, rfl, _, _, rfl, rfl, _, rfl, ite2 (fun c => ?_) (fun c => ?_)⟩
      · have c1 : m < 32 := of_decide_eq_true c
        refine ⟨_, rfl, m, rfl, by omega, fun H7 sm7 => ⟨rfl, _, rfl, iteB (not_dec ?_) ⟨_, _, rfl⟩⟩⟩
        rw [told2, decide_eq_true c1]
        rfl
      · refine ⟨rfl, _, rfl, iteB (not_dec ?_) ⟨_, _, rfl⟩⟩
        have c1 : ¬ m < 32 := fun z => c (decide_eq_true z)
        rw [told2, decide_eq_false c1]
        rfl
    rintro σ6 H6 ⟨y12, y13, rfl⟩
    -- other values
    refine ⟨by show 1 ≤ sizeLine; decide, fun t1 nt1 => ⟨by show 1 ≤ sizeLine; decide, fun t2 nt2 => ⟨by show 0 ≤ sizeLine; decide, fun t3 nt3 => ⟨by show 7 ≤ sizeLine; decide, fun t4 nt4 => ?_⟩⟩⟩⟩
    have hall : ∀ x ∈ ([.bl true, .bl false, .non, .str "2", .ref t1, .ref t2, .ref t3] : List V), IsI K (upd (upd (upd (upd H6 t1 (.tup [.int 2])) t2 (.lst [.int 2])) t3 (.tup [])) t4 (.lst [.bl true, .bl false, .non, .str "2", .ref t1, .ref t2, .ref t3])) x false := by
      have e1 : (upd H6 t1 (.tup [.int 2])) t1 = some (.tup [.int 2]) := upd_same
      have e1b := same_new (o := .lst [.int 2]) nt2 _ _ e1
      have e1c := same_new (o := .tup []) nt3 _ _ e1b
      have e2 : (upd (upd H6 t1 (.tup [.int 2])) t2 (.lst [.int 2])) t2 = some (.lst [.int 2]) := upd_same
      have e2b := same_new (o := .tup []) nt3 _ _ e2
      have e3 : (upd (upd (upd H6 t1 (.tup [.int 2])) t2 (.lst [.int 2])) t3 (.tup [])) t3 = some (.tup []) := upd_same
      have sm := same_new (o := .lst [.bl true, .bl false, .non, .str "2", .ref t1, .ref t2, .ref t3]) nt4
      intro x hx
      simp only [List.mem_cons, List.not_mem_nil, or_false] at hx
      rcases hx with rfl | rfl | rfl | rfl | rfl | rfl | rfl
      · exact isI_bl _
      · exact isI_bl _
      · exact isI_non
      · exact isI_str _
      · exact isI_tup (sm _ _ e1c)
      · exact isI_lst (sm _ _ e2b)
      · exact isI_tup (sm _ _ e3)
    refine ⟨t4, rfl, ⟨_, .inl (.inl upd_same)⟩, for_list (xs := [.bl true, .bl false, .non, .str "2", .ref t1, .ref t2, .ref t3]) (fun i σ H' => ∃ y14 : Option V, σ = [some (.ref as), some (.ref st), some (.int p), some (.int a), y4, some (.int (k : Int)), some (.int (a ^ k)), y7, some (.int (n : Int)), some (.ref o), y10, y11, y12, y13, y14] ∧ H' = upd (upd (upd (upd H6 t1 (.tup [.int 2])) t2 (.lst [.int 2])) t3 (.tup [])) t4 (.lst [.bl true, .bl false, .non, .str "2", .ref t1, .ref t2, .ref t3]))
      ⟨none, rfl, rfl⟩ (fun i σ H' _ ⟨_, _, e⟩ => by rw [e]; exact .inl (.inl upd_same)) ?_ ?_⟩
    · rintro i x σ H' hi ⟨y14, rfl, rfl⟩
      have hI := hall x (List.mem_of_getElem? hi)
      refine ⟨_, rfl, x, false, rfl, hI, false, false, rfl, rfl, _, rfl, iteB rfl ?_⟩
      exact ⟨_, rfl, x, false, rfl, hI, false, false, rfl, rfl, _, rfl, iteB rfl ⟨_, rfl, rfl⟩⟩
    · rintro σ H' ⟨y14, rfl, rfl⟩
      exact ⟨_, rfl, .int a, true, rfl, isI_int a, true, true, rfl, rfl, q _⟩
end
theorem all_mk {l : PySem.W.OpenLaw} {w : World} {K : PySem.W.Frag} {h : Heap} {mg : Str → Option Value} {fa : Addr} (X : K.In h) (G : h.Ns mainGlobals mg) (hfa : mg "law" = some (.ref fa))
    {f_is_integer : Addr} {od_is_integer an_is_integer : Option Addr} {sl_is_integer : Array (Option Value)} {oc_is_integer kV_is_integer dc_is_integer pm_is_integer cd_is_integer ct_is_integer : Value}
    (a_is_integer : PySem.W.nsIn K mainGlobals "is_integer" = some (some (.ref f_is_integer))) (l_is_integer : K.lookup f_is_integer = some ⟨oc_is_integer, od_is_integer, .func (PySem.W.fnOf "is_integer" "is_integer" (defArgs s_is_integer) (defBody s_is_integer) (defScope s_is_integer) .none kV_is_integer dc_is_integer pm_is_integer an_is_integer cd_is_integer ct_is_integer), sl_is_integer⟩)
    (c_is_integer : PySem.W.codeIn K cd_is_integer "is_integer" = true) (k_is_integer : PySem.W.keepIn K (.ref f_is_integer) = true)
    {f_is_small_prime : Addr} {od_is_small_prime an_is_small_prime : Option Addr} {sl_is_small_prime : Array (Option Value)} {oc_is_small_prime kV_is_small_prime dc_is_small_prime pm_is_small_prime cd_is_small_prime ct_is_small_prime : Value}
    (a_is_small_prime : PySem.W.nsIn K mainGlobals "is_small_prime" = some (some (.ref f_is_small_prime))) (l_is_small_prime : K.lookup f_is_small_prime = some ⟨oc_is_small_prime, od_is_small_prime, .func (PySem.W.fnOf "is_small_prime" "is_small_prime" (defArgs s_is_small_prime) (defBody s_is_small_prime) (defScope s_is_small_prime) .none kV_is_small_prime dc_is_small_prime pm_is_small_prime an_is_small_prime cd_is_small_prime ct_is_small_prime), sl_is_small_prime⟩)
    (c_is_small_prime : PySem.W.codeIn K cd_is_small_prime "is_small_prime" = true) (k_is_small_prime : PySem.W.keepIn K (.ref f_is_small_prime) = true)
    {f_power : Addr} {od_power an_power : Option Addr} {sl_power : Array (Option Value)} {oc_power kV_power dc_power pm_power cd_power ct_power : Value}
    (a_power : PySem.W.nsIn K mainGlobals "power" = some (some (.ref f_power))) (l_power : K.lookup f_power = some ⟨oc_power, od_power, .func (PySem.W.fnOf "power" "power" (defArgs s_power) (defBody s_power) (defScope s_power) .none kV_power dc_power pm_power an_power cd_power ct_power), sl_power⟩)
    (c_power : PySem.W.codeIn K cd_power "power" = true) (k_power : PySem.W.keepIn K (.ref f_power) = true)
    {f_factors : Addr} {od_factors an_factors : Option Addr} {sl_factors : Array (Option Value)} {oc_factors kV_factors dc_factors pm_factors cd_factors ct_factors : Value}
    (a_factors : PySem.W.nsIn K mainGlobals "factors" = some (some (.ref f_factors))) (l_factors : K.lookup f_factors = some ⟨oc_factors, od_factors, .func (PySem.W.fnOf "factors" "factors" (defArgs s_factors) (defBody s_factors) (defScope s_factors) .none kV_factors dc_factors pm_factors an_factors cd_factors ct_factors), sl_factors⟩)
    (c_factors : PySem.W.codeIn K cd_factors "factors" = true) (k_factors : PySem.W.keepIn K (.ref f_factors) = true)
    {f_divisors : Addr} {od_divisors an_divisors : Option Addr} {sl_divisors : Array (Option Value)} {oc_divisors kV_divisors dc_divisors pm_divisors cd_divisors ct_divisors : Value}
    (a_divisors : PySem.W.nsIn K mainGlobals "divisors" = some (some (.ref f_divisors))) (l_divisors : K.lookup f_divisors = some ⟨oc_divisors, od_divisors, .func (PySem.W.fnOf "divisors" "divisors" (defArgs s_divisors) (defBody s_divisors) (defScope s_divisors) .none kV_divisors dc_divisors pm_divisors an_divisors cd_divisors ct_divisors), sl_divisors⟩)
    (c_divisors : PySem.W.codeIn K cd_divisors "divisors" = true) (k_divisors : PySem.W.keepIn K (.ref f_divisors) = true)
    {f_inverse : Addr} {od_inverse an_inverse : Option Addr} {sl_inverse : Array (Option Value)} {oc_inverse kV_inverse dc_inverse pm_inverse cd_inverse ct_inverse : Value}
    (a_inverse : PySem.W.nsIn K mainGlobals "inverse" = some (some (.ref f_inverse))) (l_inverse : K.lookup f_inverse = some ⟨oc_inverse, od_inverse, .func (PySem.W.fnOf "inverse" "inverse" (defArgs s_inverse) (defBody s_inverse) (defScope s_inverse) .none kV_inverse dc_inverse pm_inverse an_inverse cd_inverse ct_inverse), sl_inverse⟩)
    (c_inverse : PySem.W.codeIn K cd_inverse "inverse" = true) (k_inverse : PySem.W.keepIn K (.ref f_inverse) = true)
    {f__law_state : Addr} {od__law_state an__law_state : Option Addr} {sl__law_state : Array (Option Value)} {oc__law_state kV__law_state dc__law_state pm__law_state cd__law_state ct__law_state : Value}
    (a__law_state : PySem.W.nsIn K mainGlobals "_law_state" = some (some (.ref f__law_state))) (l__law_state : K.lookup f__law_state = some ⟨oc__law_state, od__law_state, .func (PySem.W.fnOf "_law_state" "_law_state" (defArgs s__law_state) (defBody s__law_state) (defScope s__law_state) .none kV__law_state dc__law_state pm__law_state an__law_state cd__law_state ct__law_state), sl__law_state⟩)
    (c__law_state : PySem.W.codeIn K cd__law_state "_law_state" = true) (k__law_state : PySem.W.keepIn K (.ref f__law_state) = true)
    {f__law_take : Addr} {od__law_take an__law_take : Option Addr} {sl__law_take : Array (Option Value)} {oc__law_take kV__law_take dc__law_take pm__law_take cd__law_take ct__law_take : Value}
    (a__law_take : PySem.W.nsIn K mainGlobals "_law_take" = some (some (.ref f__law_take))) (l__law_take : K.lookup f__law_take = some ⟨oc__law_take, od__law_take, .func (PySem.W.fnOf "_law_take" "_law_take" (defArgs s__law_take) (defBody s__law_take) (defScope s__law_take) .none kV__law_take dc__law_take pm__law_take an__law_take cd__law_take ct__law_take), sl__law_take⟩)
    (c__law_take : PySem.W.codeIn K cd__law_take "_law_take" = true) (k__law_take : PySem.W.keepIn K (.ref f__law_take) = true)
    {f__law_reason : Addr} {od__law_reason an__law_reason : Option Addr} {sl__law_reason : Array (Option Value)} {oc__law_reason kV__law_reason dc__law_reason pm__law_reason cd__law_reason ct__law_reason : Value}
    (a__law_reason : PySem.W.nsIn K mainGlobals "_law_reason" = some (some (.ref f__law_reason))) (l__law_reason : K.lookup f__law_reason = some ⟨oc__law_reason, od__law_reason, .func (PySem.W.fnOf "_law_reason" "_law_reason" (defArgs s__law_reason) (defBody s__law_reason) (defScope s__law_reason) .none kV__law_reason dc__law_reason pm__law_reason an__law_reason cd__law_reason ct__law_reason), sl__law_reason⟩)
    (c__law_reason : PySem.W.codeIn K cd__law_reason "_law_reason" = true) (k__law_reason : PySem.W.keepIn K (.ref f__law_reason) = true)
    {f__law_is_prime : Addr} {od__law_is_prime an__law_is_prime : Option Addr} {sl__law_is_prime : Array (Option Value)} {oc__law_is_prime kV__law_is_prime dc__law_is_prime pm__law_is_prime cd__law_is_prime ct__law_is_prime : Value}
    (a__law_is_prime : PySem.W.nsIn K mainGlobals "_law_is_prime" = some (some (.ref f__law_is_prime))) (l__law_is_prime : K.lookup f__law_is_prime = some ⟨oc__law_is_prime, od__law_is_prime, .func (PySem.W.fnOf "_law_is_prime" "_law_is_prime" (defArgs s__law_is_prime) (defBody s__law_is_prime) (defScope s__law_is_prime) .none kV__law_is_prime dc__law_is_prime pm__law_is_prime an__law_is_prime cd__law_is_prime ct__law_is_prime), sl__law_is_prime⟩)
    (c__law_is_prime : PySem.W.codeIn K cd__law_is_prime "_law_is_prime" = true) (k__law_is_prime : PySem.W.keepIn K (.ref f__law_is_prime) = true)
    {f_law : Addr} {od_law an_law : Option Addr} {sl_law : Array (Option Value)} {oc_law kV_law dc_law pm_law cd_law ct_law : Value}
    (a_law : PySem.W.nsIn K mainGlobals "law" = some (some (.ref f_law))) (l_law : K.lookup f_law = some ⟨oc_law, od_law, .func (PySem.W.fnOf "law" "law" (defArgs s_law) (defBody s_law) (defScope s_law) .none kV_law dc_law pm_law an_law cd_law ct_law), sl_law⟩)
    (c_law : PySem.W.codeIn K cd_law "law" = true) (k_law : PySem.W.keepIn K (.ref f_law) = true)
    (z_isinstance : PySem.W.nsIn K mainGlobals "isinstance" = some none)
    (z_int : PySem.W.nsIn K mainGlobals "int" = some none)
    (z_bool : PySem.W.nsIn K mainGlobals "bool" = some none)
    (z_tuple : PySem.W.nsIn K mainGlobals "tuple" = some none)
    (z_range : PySem.W.nsIn K mainGlobals "range" = some none)
    (z_sorted : PySem.W.nsIn K mainGlobals "sorted" = some none)
    (z_abs : PySem.W.nsIn K mainGlobals "abs" = some none)
    (z_ValueError : PySem.W.nsIn K mainGlobals "ValueError" = some none)
    (z_len : PySem.W.nsIn K mainGlobals "len" = some none)
    {q_S : Addr} {dd_S : Option Addr} {its_S : Array Value} {n_S : Nat} {sl_S : Array (Option Value)}
    (a_S : PySem.W.nsIn K mainGlobals "SMALL_PRIMES" = some (some (.ref q_S))) (l_S : K.lookup q_S = some ⟨.type "tuple", dd_S, .seq its_S n_S, sl_S⟩) (v_S : Vals ([2, 3, 5, 7, 11, 13, 17, 19, 23, 29, 31].map V.int) its_S.toList)
    {C CF fI : Addr} {nmR qnR : Str} {NR : Addr} {bsR bmR : List Value} {snR : List Str} {subR : List Value} {abR : Bool} {colR : Option Bool} {ddR : Option Addr} {m0R m1R m2R m3R m5R : Option Value}
    {odI anI : Option Addr} {slI : Array (Option Value)} {ocI kVI dcI pmI cdI ctI : Value}
    (aC : PySem.W.nsIn K mainGlobals "Refused" = some (some (.ref C))) (aF : PySem.W.nsIn K mainGlobals "Fault" = some (some (.ref CF)))
    (xC : K.lookup C = some (excClassObj nmR qnR C NR bsR bmR true snR subR abR colR ddR m0R m1R m2R m3R m5R "ValueError.__new__")) (rb : PySem.HandSPX.refsVE bmR = true)
    (sa : PySem.W.findIn K (.ref C) "__setattr__" = some (some (.builtin "object.__setattr__"))) (eC : PySem.W.subIn K (.ref C) (.type "BaseException") = some true) (yC : PySem.W.typeIn K (.ref C) = some (.type "type")) (kC : PySem.W.keepIn K (.ref C) = true)
    (iC : PySem.W.findIn K (.ref C) "__init__" = some (some (.ref fI))) (tI : PySem.W.typeIn K (.ref fI) = some (.type "function"))
    (lI : K.lookup fI = some ⟨ocI, odI, .func (PySem.W.fnOf "__init__" "Refused.__init__" (defArgs s_RI) (defBody s_RI) (defScope s_RI) .none kVI dcI pmI anI cdI ctI), slI⟩) (cI : PySem.W.codeIn K cdI "Refused.__init__" = true) (kI : PySem.W.keepIn K (.ref fI) = true)
    (rF : PySem.W.readsIn K CF (.type "type") = true) (gF : PySem.W.specialIn K (.ref CF) "__getattribute__" = some (some (.builtin "type.__getattribute__")))
    (vF : PySem.W.findCls K (.ref CF) (.type "type") "__init__" = some (.val (.builtin "ValueError.__init__"))) (nf : PySem.W.findIn K (.ref C) "reason" = some none)
    (ga : PySem.W.findIn K (.ref C) "__getattribute__" = some (some (.builtin "BaseException.__getattribute__"))) (gg : PySem.W.findIn K (.ref C) "__getattr__" = some none) (hdC : PySem.W.hasDictIn K C = true) (icC : PySem.W.isClsIn K C = true)
    (haC : PySem.W.findIn K (.ref C) "__class__" = some (some (.builtin "object.__class__"))) (hnC : PySem.W.specialIn K (.builtin "object.__class__") "__get__" = some (some (.builtin "getset_descriptor.__get__"))) (htC : PySem.W.takesIn K (.builtin "object.__class__") = some true)
    (hmC : PySem.W.mroIn K C (.type "object") = some true) (eF : PySem.W.subIn K (.ref CF) (.type "BaseException") = some true) (hF : PySem.W.hasDictIn K CF = true) (yF : PySem.W.typeIn K (.ref CF) = some (.type "type")) (sF : PySem.W.subIn K (.ref C) (.ref CF) = some true) (cF : PySem.W.isClsIn K CF = true)
    {CM CN : Addr} (aM : PySem.W.nsIn K mainGlobals "Malformed" = some (some (.ref CM))) (aN : PySem.W.nsIn K mainGlobals "NoText" = some (some (.ref CN)))
    (vC : PySem.W.subIn K (.ref C) (.type "ValueError") = some true)
    (nM : ((Value.ref C) == (Value.ref CM)) = false) (cM : PySem.W.isClsIn K CM = true) (yM : PySem.W.typeIn K (.ref CM) = some (.type "type")) (sM : PySem.W.subIn K (.ref C) (.ref CM) = some false)
    (nN : ((Value.ref C) == (Value.ref CN)) = false) (cN : PySem.W.isClsIn K CN = true) (yN : PySem.W.typeIn K (.ref CN) = some (.type "type")) (sN : PySem.W.subIn K (.ref C) (.ref CN) = some false) :
    ∃ fd : FuncData, (∀ (s : Shared) (v : Value), BindsTo s fd ⟨[v], []⟩ [("script", v)]) ∧ ∀ base : Heap, K.In base → base.Ns mainGlobals mg → FnOk l.prog w K mg base CX0 7 fa fd ["script"] (sp_law K) := by
  have e := hfa.symm.trans (PySem.W.mg_of X G a_law)
  cases e
  let T : Txt K mg := txt_mk X G a_is_integer l_is_integer c_is_integer k_is_integer a_is_small_prime l_is_small_prime c_is_small_prime k_is_small_prime a_power l_power c_power k_power a_factors l_factors c_factors k_factors a_divisors l_divisors c_divisors k_divisors a_inverse l_inverse c_inverse k_inverse a__law_state l__law_state c__law_state k__law_state a__law_take l__law_take c__law_take k__law_take a__law_reason l__law_reason c__law_reason k__law_reason a__law_is_prime l__law_is_prime c__law_is_prime k__law_is_prime a_law l_law c_law k_law z_isinstance z_int z_bool z_tuple z_range z_sorted z_abs z_ValueError z_len a_S l_S v_S
  let FI := fun_mk (st := s_RI) lI cI kI
  let R : RefC K mg s_RI := { C := C, CF := CF, fI := fI, dI := _, gC := PySem.W.mg_of X G aC, gF := PySem.W.mg_of X G aF, rF := ⟨rF, gF⟩, vF := vF, ox := { cls := ⟨_, _, _, _, _, _, _, _, _, _, _, _, _, _, _, xC, rb⟩, sa := sa, exC := eC, tyC := yC, kC := kC }, iC := iC, tI := tI, FI := FI, bI := FI.binds (ps := ["self", "reason"]) fun _ _ _ _ _ _ us hl => match us, hl with | [_, _], _ => rfl, nf := nf, ed := ⟨ga, gg, eC, icC, haC, hnC, htC, hmC⟩, xf := ⟨ga, gg, eC, hdC⟩, ex := PySem.W.exm_ref eF hF yF sF, cF := cF }
  let M : ReasonC K mg R.C := { CM := CM, CN := CN, gM := PySem.W.mg_of X G aM, gN := PySem.W.mg_of X G aN, k1 := kit_self, k2 := kit_base (by decide +kernel) vC, k3 := kitAny_cons (kit_other nM cM yM sM) (fun _ => kitAny_cons (kit_other nN cN yN sN) (fun _ => rfl) (fun z => Bool.noConfusion z)) (fun z => Bool.noConfusion z) }
  exact ⟨PySem.W.fnOf "law" "law" (defArgs s_law) (defBody s_law) (defScope s_law) .none kV_law dc_law pm_law an_law cd_law ct_law, fun s v => .of_eq rfl, fun base _ _ => ok_law R T M⟩
end K00
open PySem PySem.W PyProof.Rows
set_option maxRecDepth 100000 in
set_option maxHeartbeats 0 in
theorem PySem.Challenge.cw_polychains_k00_numbers_holds : PySem.Challenge.rw_polychains_k00_numbers.Holds := by
  w_on; o_law; k_head; (case hw => w_witness2)
  k_fill
  refine L2.walk_of (l := PySem.Challenge.rw_polychains_k00_numbers) (n := 63) (k := 7) (x := "script") (CX := fun _ => L2.CX0) (sp := fun w => K00.sp_law _) rfl (by decide) rfl ⟨rfl, by decide, by decide⟩ (fun w h Y => PySem.W.kIn_of Y) ?F (fun _ _ a ns hl _ hS => ⟨a, ns, rfl, hS, hl, fun _ => rfl⟩) (fun _ _ _ _ _ h => h)
  case F =>
    intro w mg fa h KX G hmg
    refine' K00.all_mk KX G hmg ?a_is_integer ?l_is_integer ?c_is_integer ?k_is_integer ?a_is_small_prime ?l_is_small_prime ?c_is_small_prime ?k_is_small_prime ?a_power ?l_power ?c_power ?k_power ?a_factors ?l_factors ?c_factors ?k_factors ?a_divisors ?l_divisors ?c_divisors ?k_divisors ?a_inverse ?l_inverse ?c_inverse ?k_inverse ?a__law_state ?l__law_state ?c__law_state ?k__law_state ?a__law_take ?l__law_take ?c__law_take ?k__law_take ?a__law_reason ?l__law_reason ?c__law_reason ?k__law_reason ?a__law_is_prime ?l__law_is_prime ?c__law_is_prime ?k__law_is_prime ?a_law ?l_law ?c_law ?k_law ?z_isinstance ?z_int ?z_bool ?z_tuple ?z_range ?z_sorted ?z_abs ?z_ValueError ?z_len ?a_S ?l_S ?v_S ?aC ?aF ?xC ?rb ?sa ?eC ?yC ?kC ?iC ?tI ?lI ?cI ?kI ?rF ?gF ?vF ?nf ?ga ?gg ?hdC ?icC ?haC ?hnC ?htC ?hmC ?eF ?hF ?yF ?sF ?cF ?aM ?aN ?vC ?nM ?cM ?yM ?sM ?nN ?cN ?yN ?sN
    (case a_is_integer => k_is)
    (case l_is_integer => k_is)
    (case c_is_integer => k_is)
    (case k_is_integer => k_is)
    (case a_is_small_prime => k_is)
    (case l_is_small_prime => k_is)
    (case c_is_small_prime => k_is)
    (case k_is_small_prime => k_is)
    (case a_power => k_is)
    (case l_power => k_is)
    (case c_power => k_is)
    (case k_power => k_is)
    (case a_factors => k_is)
    (case l_factors => k_is)
    (case c_factors => k_is)
    (case k_factors => k_is)
    (case a_divisors => k_is)
    (case l_divisors => k_is)
    (case c_divisors => k_is)
    (case k_divisors => k_is)
    (case a_inverse => k_is)
    (case l_inverse => k_is)
    (case c_inverse => k_is)
    (case k_inverse => k_is)
    (case a__law_state => k_is)
    (case l__law_state => k_is)
    (case c__law_state => k_is)
    (case k__law_state => k_is)
    (case a__law_take => k_is)
    (case l__law_take => k_is)
    (case c__law_take => k_is)
    (case k__law_take => k_is)
    (case a__law_reason => k_is)
    (case l__law_reason => k_is)
    (case c__law_reason => k_is)
    (case k__law_reason => k_is)
    (case a__law_is_prime => k_is)
    (case l__law_is_prime => k_is)
    (case c__law_is_prime => k_is)
    (case k__law_is_prime => k_is)
    (case a_law => k_is)
    (case l_law => k_is)
    (case c_law => k_is)
    (case k_law => k_is)
    (case z_isinstance => k_is)
    (case z_int => k_is)
    (case z_bool => k_is)
    (case z_tuple => k_is)
    (case z_range => k_is)
    (case z_sorted => k_is)
    (case z_abs => k_is)
    (case z_ValueError => k_is)
    (case z_len => k_is)
    (case a_S => k_is)
    (case l_S => k_is)
    (case v_S => exact .cons ⟨_, rfl⟩ (.cons ⟨_, rfl⟩ (.cons ⟨_, rfl⟩ (.cons ⟨_, rfl⟩ (.cons ⟨_, rfl⟩ (.cons ⟨_, rfl⟩ (.cons ⟨_, rfl⟩ (.cons ⟨_, rfl⟩ (.cons ⟨_, rfl⟩ (.cons ⟨_, rfl⟩ (.cons ⟨_, rfl⟩ .nil)))))))))))
    (case aC => k_is)
    (case aF => k_is)
    (case xC => k_is)
    (case rb => first | rfl | decide +kernel | k_is)
    (case sa => k_is)
    (case eC => k_is)
    (case yC => k_is)
    (case kC => k_is)
    (case iC => k_is)
    (case tI => k_is)
    (case lI => k_is)
    (case cI => k_is)
    (case kI => k_is)
    (case rF => k_is)
    (case gF => k_is)
    (case vF => k_is)
    (case nf => k_is)
    (case ga => k_is)
    (case gg => k_is)
    (case hdC => k_is)
    (case icC => k_is)
    (case haC => k_is)
    (case hnC => k_is)
    (case htC => k_is)
    (case hmC => k_is)
    (case eF => k_is)
    (case hF => k_is)
    (case yF => k_is)
    (case sF => k_is)
    (case cF => k_is)
    (case aM => k_is)
    (case aN => k_is)
    (case vC => k_is)
    (case nM => first | rfl | decide +kernel | k_is)
    (case cM => k_is)
    (case yM => k_is)
    (case sM => k_is)
    (case nN => first | rfl | decide +kernel | k_is)
    (case cN => k_is)
    (case yN => k_is)
    (case sN => k_is)
