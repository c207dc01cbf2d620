import PyProof.Rows.All
import Wide.All
import OpenK.AllK
import Wide.FinOn
import HandS.ForExc
import HandS.IsInst
import HandS.Gcd
import HandS.Wide
import HandS.Style
import HandS.ExcInit
import HandS.ExcField
import HandS.ExcIs
import HandS.TupAny
import KE.KExcIs
import HandS.Codes
import HandS.Comp
import KE.KMathG
import Flt.RightSqrt
import HandS.AnyAll
import HandS.JoinGen
import HandS.EndTab
import PyProof.GenCompD
import PySem.Challenge.RW_oddscall_k08_numbers_in_one_form
set_option Elab.async false
set_option linter.all false
set_option maxRecDepth 100000
set_option maxHeartbeats 4000000
/-! ## Odds: what all proofs of this program share -/
namespace Odds
open PySem L2

/-! ### floor division by any wide divisor but 0 -/
def CDivZ (_ j : Int) : Prop := j ≠ 0 ∧ j.natAbs.log2 < 9000
theorem op_fdivZ {X : Cx} : OpR X (binaryOp .FloorDiv) (rI CDivZ fun i j => .int (i.fdiv j)) := opI fun i j _ _ _ _ _ hc q =>
  PyProof.Rows.floordiv_int hc.1 q (.inl (PyProof.noPylong_of_log2 hc.2))
theorem cdivz {i j : Int} {b : Nat} (h : j ≠ 0) (hb : j.natAbs < 2 ^ b) (h9 : b ≤ 9000) : CDivZ i j := by
  refine ⟨h, ?_⟩
  have h1 : j.natAbs ≠ 0 := by omega
  have := (Nat.log2_lt h1).mpr (Nat.lt_of_lt_of_le hb (Nat.pow_le_pow_right (by decide) h9))
  exact this
theorem cmulw {i j : Int} {a b : Nat} (ha : i.natAbs < 2 ^ a) (hb : j.natAbs < 2 ^ b) (h : a + b ≤ 900000) : CMulW i j := by
  have e : ∀ (x : Int) (n : Nat), x.natAbs < 2 ^ n → x.natAbs.log2 < n + 1 := fun x n hx => by
    by_cases h0 : x.natAbs = 0
    · rw [h0]; exact Nat.lt_of_lt_of_le (by decide) (Nat.succ_le_succ (Nat.zero_le n))
    · exact Nat.lt_succ_of_lt ((Nat.log2_lt h0).mpr hx)
  have h1 := e i a ha
  have h2 := e j b hb
  unfold CMulW
  omega

/-! ### heaps -/
/-- all but s is as it was -/
def Keep (s : Addr) (H H' : Hp) : Prop := ∀ b o, H b = some o → b ≠ s → H' b = some o
theorem Keep.refl (s : Addr) (H : Hp) : Keep s H H := fun _ _ h _ => h
theorem Keep.trans {s : Addr} {H H1 H2 : Hp} (a : Keep s H H1) (b : Keep s H1 H2) : Keep s H H2 := fun c o h n => b c o (a c o h n) n
theorem Same.keep {s : Addr} {H H' : Hp} (a : Same H H') : Keep s H H' := fun b o h _ => a b o h
theorem same_new {H : Hp} {p : Addr} {o : HO} (h : H p = none) : Same H (upd H p o) := fun b u e => by
  rw [upd_ne (ne_of_none e h)]
  exact e
theorem Same.t {H H' : Hp} {a : Addr} {o : HO} (e : Same H H') (h : H a = some o) : H' a = some o := e a o h

/-! ### the stream of draws -/
/-- a list of a list of ints, an int, an int from 0 -/
def Strm (H : Hp) (s : Addr) : Prop := ∃ (l : Addr) (ns : List Int) (c k : Int), H s = some (.lst [.ref l, .int c, .int k]) ∧ H l = some (.lst (ns.map V.int)) ∧ 0 ≤ k
theorem Strm.same {H H' : Hp} {s : Addr} (e : Same H H') (h : Strm H s) : Strm H' s := by
  obtain ⟨l, ns, c, k, h1, h2, h3⟩ := h
  exact ⟨l, ns, c, k, e _ _ h1, e _ _ h2, h3⟩
theorem lst_ne {l : Addr} {c k : Int} {ns : List Int} : HO.lst [.ref l, .int c, .int k] ≠ HO.lst (ns.map V.int) := by
  intro e
  have e' : [V.ref l, V.int c, V.int k] = ns.map V.int := by injection e
  cases ns with
  | nil => simp at e'
  | cons n r => simp at e'
/-- a draw: the stream goes on, all else stands -/
def spNext : Sp := fun vs H Q _ => ∃ (s : Addr) (m : Int), vs = [.ref s, .int m] ∧ Strm H s ∧ 0 < m ∧ m.natAbs < 2 ^ 9000 ∧
  ∀ (d : Int) (H' : Hp), 0 ≤ d → d < m → Strm H' s → Keep s H H' → Q (.int d) H'
def spStream (K : PySem.W.Frag) : Sp := fun vs H Q _ => ∃ (a : Addr) (ns : List Int), vs = [.ref a] ∧ SqL K H a (ns.map V.int) ∧
  ∀ (s : Addr) (H' : Hp), Strm H' s → Same H H' → H s = none → Q (.ref s) H'

/-! ### isinstance of the exception that a suite holds, one with its own dict -/
structure ExcD (K : PySem.W.Frag) (D : Addr) : Prop where
  hg : PySem.W.findIn K (.ref D) "__getattribute__" = some (some (.builtin "BaseException.__getattribute__"))
  hk : PySem.W.findIn K (.ref D) "__getattr__" = some none
  hs : PySem.W.subIn K (.ref D) (.type "BaseException") = some true
  hd : PySem.W.isClsIn K D = true
  ha : PySem.W.findIn K (.ref D) "__class__" = some (some (.builtin "object.__class__"))
  hn : PySem.W.specialIn K (.builtin "object.__class__") "__get__" = some (some (.builtin "getset_descriptor.__get__"))
  ht : PySem.W.takesIn K (.builtin "object.__class__") = some true
  hm : PySem.W.mroIn K D (.type "object") = some true
def rIsX (K : PySem.W.Frag) (D a : Addr) (cls : Value) (d : Option Addr) : List V → Hp → VK → Prop := fun xs H Q => ∃ (dd : Addr) (fs : List (Str × V)) (c : V) (cv : Value) (b : Bool), cls = .ref D ∧ d = some dd ∧ H dd = some (.xd fs) ∧
  xs = [.ref a, c] ∧ (∀ u, RelV c u → u = cv) ∧ PySem.W.kitOne K (.ref D) cv = some b ∧ Q (.bl b) H
theorem call_isX {X : Cx} {a D : Addr} {d : Option Addr} {cls : Value} {oe : Obj} {pn : List (Addr × Obj)} (C : ExcD X.K D) (hz : Zc cls d oe) (hf : ∃ vs, oe.data = .fields vs) :
    CallR (X.suite a ((a, oe) :: pn)) (.builtin "isinstance") (rIsX X.K D a cls d) := by
  intro pins s σ H xs us Q I r h
  obtain ⟨dd, fs, c, cv, b, rfl, rfl, ea, rfl, hcv, e, q⟩ := h
  cases r with
  | cons rx rr =>
    cases rr with
    | cons rt rr =>
      cases rr
      cases rx
      have ec := hcv _ rt
      subst ec
      obtain ⟨hget, _⟩ := I.pin (a, oe) (List.mem_append.mpr (.inl List.mem_cons_self))
      obtain ⟨vs, hv⟩ := hf
      have hx : ObjOk X.prog X.w H s.heap dd (.xd fs) := I.hok dd _ ea
      obtain ⟨mA, hns, hr⟩ := hx
      obtain ⟨od, ho, hl⟩ := lookIn_ns hns
      have J : PySem.W.InstAt s.heap a oe D (some od) := ⟨hget, hz.1, by unfold PySem.W.notCls; rw [hv] <;> rfl, by rw [hz.2]; exact ho⟩
      exact PySem.W.kia_one (PySem.W.kitx_exc C.hd C.hg C.hk C.hs C.ha C.hn C.ht C.hm) I.kIn J e (fun z => nomatch z) fun tk => ⟨.bl b, H, I.kept (t' := tk) fun _ _ z => z, rfl, q⟩
theorem boot_VE : bootBuiltins "ValueError" = some (.type "ValueError") := by decide +kernel

/-! ### a def of the text, an error class -/
structure Dn (K : PySem.W.Frag) (mg : Str → Option Value) (x : Str) (st : Stmt) (ps : List Str) (f : Addr) (fd : FuncData) : Prop where
  F : Fun K x x st f fd
  g : mg x = some (.ref f)
  b : Binds K fd ps []
structure BadT (K : PySem.W.Frag) (mg : Str → Option Value) (C Od fI : Addr) (fdI : FuncData) (st : Stmt) : Prop where
  gC : mg "BadValue" = some (.ref C)
  gO : mg "OddsError" = some (.ref Od)
  iC : PySem.W.findIn K (.ref C) "__init__" = some (some (.ref fI))
  tI : PySem.W.typeIn K (.ref fI) = some (.type "function")
  FI : Fun K "__init__" "BadValue.__init__" st fI fdI
  bI : Binds K fdI ["self", "name"] []
  O : OexC K C
  X : XfC K C
  no : PySem.W.findIn K (.ref C) "name" = some none
  I : ExcD K C
  te : PySem.W.exmOne K (.ref C) (.ref C) = some true
  kO : PySem.W.kitOne K (.ref C) (.ref Od) = some true
  kV : PySem.W.kitOne K (.ref C) (.type "ValueError") = some true
theorem kit_own {K : PySem.W.Frag} {C O : Addr} (h1 : PySem.W.isClsIn K O = true) (h2 : PySem.W.typeIn K (.ref O) = some (.type "type")) (h3 : PySem.W.subIn K (.ref C) (.ref O) = some true) : PySem.W.kitOne K (.ref C) (.ref O) = some true := by
  unfold PySem.W.kitOne
  split
  · rfl
  · have e2 : ((PySem.W.clsIn K O).isSome && PySem.W.typeIn K (.ref O) == some (.type "type")) = true := by
      have h1' : (PySem.W.clsIn K O).isSome = true := h1
      rw [h1', h2] <;> rfl
    show (if ((PySem.W.clsIn K O).isSome && PySem.W.typeIn K (.ref O) == some (.type "type")) = true then PySem.W.subIn K (.ref C) (.ref O) else none) = some true
    rw [if_pos e2]
    exact h3
theorem kit_VE {K : PySem.W.Frag} {C : Addr} (h3 : PySem.W.subIn K (.ref C) (.type "ValueError") = some true) : PySem.W.kitOne K (.ref C) (.type "ValueError") = some true := by
  unfold PySem.W.kitOne
  split
  · rfl
  · show (if PySem.W.kitMeta "ValueError" = true then PySem.W.subIn K (.ref C) (.type "ValueError") else none) = some true
    rw [if_pos (by decide +kernel)]
    exact h3
/-- BadValue.__init__ -/
def spInit (C : Addr) : Sp := fun vs H Q _ => ∃ (a : Addr) (z : V), vs = [.ref a, z] ∧ H a = some (exo a C none) ∧
  ∀ dx, H dx = none → dx ≠ a → Q .non (upd (upd H dx (exd dx [(("name" : Str), z)])) a (exo a C (some dx)))
/-- what is left behind raise BadValue(z) -/
theorem made_eq {H : Hp} {a dx : Addr} {o1 o2 o3 o4 : HO} (ha : H a = none) (hd : dx ≠ a) : upd (del (upd (upd (upd H a o1) dx o2) a o3) a) dx o4 = upd H dx o4 := by
  funext b
  unfold upd del
  by_cases h1 : b = dx
  · rw [if_pos h1, if_pos h1]
  · rw [if_neg h1, if_neg h1]
    by_cases h2 : b = a
    · rw [if_pos h2, h2, ha]
    · rw [if_neg h2]
      show (if b = a then some o3 else if b = dx then some o2 else if b = a then some o1 else H b) = H b
      rw [if_neg h2, if_neg h1, if_neg h2]

/-! ### tests whose answer is known -/
theorem iteN1 {c A B : Prop} [Decidable c] (hc : ¬ c) (h : A) : if (!decide c) = true then A else B := by
  rw [decide_eq_false hc]
  exact iteT h
theorem iteD1 {c A B : Prop} [Decidable c] (hc : c) (h : A) : if decide c = true then A else B := by
  rw [decide_eq_true hc]
  exact iteT h
theorem iteD0 {c A B : Prop} [Decidable c] (hc : ¬ c) (h : B) : if decide c = true then A else B := by
  rw [decide_eq_false hc]
  exact iteF h
theorem iteD {c A B : Prop} [Decidable c] (h1 : c → A) (h2 : ¬ c → B) : if decide c = true then A else B := by
  by_cases h : c
  · exact iteD1 h (h1 h)
  · exact iteD0 h (h2 h)
theorem lc_yes {te : TE} {σ : L2.St} {H : Hp} {K1 : V → Hp → Prop} {K2 : Hp → Prop} (h : te σ H K1) : tYes σ H (fun b H3 => if b = true then te σ H3 K1 else K2 H3) := by
  show (if true = true then te σ H K1 else K2 H)
  rw [if_pos rfl]
  exact h
theorem abs_eq (i : Int) : (if i < 0 then -i else i) = ((i.natAbs : Nat) : Int) := by
  split <;> omega

/-- a tuple that the text has written -/
def WT (K : PySem.W.Frag) (c : Addr) (xs : List V) : Prop := ∃ (o : Obj) (its : Array Value) (n : Nat), K.lookup c = some o ∧ o.cls = .type "tuple" ∧ o.data = .seq its n ∧ its.size ≤ sizeLine ∧ Vals xs its.toList
theorem WT.sq {K : PySem.W.Frag} {H : Hp} {c : Addr} {xs : List V} (h : WT K c xs) : SqT K H c xs := Or.inr h
/-- a pair of ints as data -/
theorem dp_pair {K : PySem.W.Frag} {H : Hp} {c : Addr} {n d : Int} (h : SqT K H c [.int n, .int d]) : Dp K H (.ref c) (.tuple [.int n, .int d]) := .tup h (.cons (.int n) (.cons (.int d) .nil))
theorem eqv_ints (n d m e : Int) : PyData.eqv (.tuple [.int n, .int d]) (.tuple [.int m, .int e]) = decide (n = m ∧ d = e) := by
  simp only [PyData.eqv, PyData.eqvAll, Bool.and_true]
  by_cases h1 : n = m <;> by_cases h2 : d = e <;> simp [h1, h2]
/-- math.isqrt -/
def rIsqrt : List V → Hp → VK → Prop := fun vs H Q => ∃ n : Int, vs = [.int n] ∧ 0 ≤ n ∧ n.natAbs < 2 ^ 13000 ∧ ∀ r : Int, 0 ≤ r → r * r ≤ n → n < (r + 1) * (r + 1) → Q (.int r) H
theorem cr_isqrt {X : Cx} : CallR X (.builtin "math.isqrt") rIsqrt := by
  intro pins s σ H vs us Q I r h
  obtain ⟨n, rfl, h0, hb, q⟩ := h
  cases r with
  | cons r1 rn =>
    cases rn
    obtain ⟨t, rfl⟩ := r1
    have e : n.toNat = n.natAbs := by omega
    have hl : n.toNat.log2 < 13000 := by
      rw [e]
      by_cases z : n.natAbs = 0
      · rw [z]; decide
      · exact (Nat.log2_lt z).mpr hb
    have sp := PySem.Float64.isqrt_spec n.toNat
    refine PySem.call_function_meets PySem.W.MGF.kind_isqrt PySem.W.MGF.plain_isqrt PySem.W.MGF.entry_isqrt (PySem.W.MGF.args_isqrt _) (PySem.W.mg_run_isqrt n t (by omega) (by omega) (by omega)).meets ?_
    refine ⟨.int _, H, I.tok _, ⟨_, rfl⟩, q _ (by omega) ?_ ?_⟩
    · have := sp.1
      rw [← Int.natCast_mul]
      omega
    · have h2 := sp.2
      have e2 : (((PySem.Float64.isqrt n.toNat : Nat) : Int) + 1) * (((PySem.Float64.isqrt n.toNat : Nat) : Int) + 1) = (((PySem.Float64.isqrt n.toNat + 1) * (PySem.Float64.isqrt n.toNat + 1) : Nat) : Int) := by
        rw [Int.natCast_mul]
        rfl
      rw [e2]
      omega

/-! ### the kinds of values -/
def tys : List String := ["int", "bool", "NoneType", "str", "tuple", "list"]
/-- is_whole -/
def spWhole (K : PySem.W.Frag) : Sp := fun vs H Q _ => ∃ (x : V) (t : String), vs = [x] ∧ TyX K H x (.type t) ∧ t ∈ tys ∧ Q (.bl (decide (t = "int"))) H
theorem ty_int {K : PySem.W.Frag} {H : Hp} (i : Int) : TyX K H (.int i) (.type "int") := .base (.int i)
theorem ty_bl {K : PySem.W.Frag} {H : Hp} (b : Bool) : TyX K H (.bl b) (.type "bool") := .base (.bl b)
theorem ty_non {K : PySem.W.Frag} {H : Hp} : TyX K H .non (.type "NoneType") := .base .non
theorem ty_str {K : PySem.W.Frag} {H : Hp} (x : Str) : TyX K H (.str x) (.type "str") := .base (.str x)
theorem ty_tup {K : PySem.W.Frag} {H : Hp} {a : Addr} {xs : List V} (h : H a = some (.tup xs)) : TyX K H (.ref a) (.type "tuple") := .base (.tup h)
theorem ty_lst {K : PySem.W.Frag} {H : Hp} {a : Addr} {xs : List V} (h : H a = some (.lst xs)) : TyX K H (.ref a) (.type "list") := .base (.lst h)

/-! ### Euclid -/
def GcdI (B g i a b : Nat) : Prop := Nat.gcd a b = g ∧ ((i = 0 ∧ a < 2 ^ B ∧ b < 2 ^ B) ∨ (0 < i ∧ (b = 0 ∨ (b < a ∧ a * b * 2 ^ (i - 1) < 2 ^ (B + B)))))
theorem gcdI_step {B g i a b : Nat} (h : GcdI B g i a b) (hb : b ≠ 0) : GcdI B g (i + 1) b (a % b) := by
  obtain ⟨hg, h⟩ := h
  refine ⟨by rw [← hg, Nat.gcd_comm b (a % b), ← Nat.gcd_rec, Nat.gcd_comm], .inr ⟨Nat.succ_pos _, ?_⟩⟩
  have hlt : a % b < b := Nat.mod_lt _ (Nat.pos_of_ne_zero hb)
  refine .inr ⟨hlt, ?_⟩
  rcases h with ⟨rfl, ha, hb2⟩ | ⟨hi, h0 | ⟨hba, hp⟩⟩
  · show b * (a % b) * 2 ^ 0 < 2 ^ (B + B)
    rw [Nat.pow_zero, Nat.mul_one, Nat.pow_add]
    exact Nat.mul_lt_mul'' hb2 (Nat.lt_trans hlt hb2)
  · exact absurd h0 hb
  · have e : i + 1 - 1 = (i - 1) + 1 := by omega
    rw [e, Nat.pow_succ]
    have h2 : 2 * (a % b) ≤ a := by
      have h3 := Nat.mod_add_div a b
      have h4 : 1 ≤ a / b := (Nat.one_le_div_iff (Nat.pos_of_ne_zero hb)).mpr (Nat.le_of_lt hba)
      have h5 : b * 1 ≤ b * (a / b) := Nat.mul_le_mul_left b h4
      omega
    calc b * (a % b) * (2 ^ (i - 1) * 2) = (2 * (a % b)) * b * 2 ^ (i - 1) := by
            rw [Nat.mul_comm (2 ^ (i - 1)) 2, ← Nat.mul_assoc, Nat.mul_comm b (a % b), Nat.mul_comm (a % b * b) 2, ← Nat.mul_assoc]
      _ ≤ a * b * 2 ^ (i - 1) := Nat.mul_le_mul_right _ (Nat.mul_le_mul_right _ h2)
      _ < 2 ^ (B + B) := hp
theorem gcdI_end {B g a b : Nat} (h : GcdI B g 40000 a b) (hB : B ≤ 19000) : a = g := by
  obtain ⟨hg, h⟩ := h
  rcases h with ⟨h, _⟩ | ⟨_, h0 | ⟨hba, hp⟩⟩
  · cases h
  · rw [h0, Nat.gcd_zero_right] at hg
    exact hg
  · by_cases hb : b = 0
    · rw [hb, Nat.gcd_zero_right] at hg
      exact hg
    · exfalso
      have h1 : 1 ≤ a * b := Nat.mul_pos (by omega) (Nat.pos_of_ne_zero hb)
      have h2 : 2 ^ (40000 - 1) < 2 ^ (B + B) := Nat.lt_of_le_of_lt (Nat.le_trans (Nat.le_of_eq (Nat.one_mul _).symm) (Nat.mul_le_mul_right _ h1)) hp
      have h3 := (Nat.pow_lt_pow_iff_right (by decide : 1 < 2)).mp h2
      omega

/-! ### lowest terms -/
def sg (n d : Int) : Int := if d < 0 then -((Nat.gcd n.natAbs d.natAbs : Nat) : Int) else ((Nat.gcd n.natAbs d.natAbs : Nat) : Int)
def lo1 (n d : Int) : Int := n.fdiv (sg n d)
def lo2 (n d : Int) : Int := d.fdiv (sg n d)
theorem sg_abs (n d : Int) : (sg n d).natAbs = Nat.gcd n.natAbs d.natAbs := by
  unfold sg
  split <;> omega
theorem sg_ne {n d : Int} (h : d ≠ 0) : sg n d ≠ 0 := by
  intro e
  have := sg_abs n d
  rw [e] at this
  have h2 := Nat.gcd_pos_of_pos_right n.natAbs (show 0 < d.natAbs by omega)
  simp at this
  omega
theorem sg_dvd1 (n d : Int) : sg n d ∣ n := by
  rw [← Int.natAbs_dvd_natAbs, sg_abs]
  exact Nat.gcd_dvd_left _ _
theorem sg_dvd2 (n d : Int) : sg n d ∣ d := by
  rw [← Int.natAbs_dvd_natAbs, sg_abs]
  exact Nat.gcd_dvd_right _ _
theorem fdiv_cancel {a b : Int} (h : b ∣ a) : b * a.fdiv b = a := Int.mul_fdiv_cancel' h
theorem lo1_mul (n d : Int) : sg n d * lo1 n d = n := fdiv_cancel (sg_dvd1 n d)
theorem lo2_mul (n d : Int) : sg n d * lo2 n d = d := fdiv_cancel (sg_dvd2 n d)
theorem sg_size {n d : Int} {b : Nat} (h : d ≠ 0) (hb : d.natAbs < 2 ^ b) : (sg n d).natAbs < 2 ^ b := by
  rw [sg_abs]
  exact Nat.lt_of_le_of_lt (Nat.gcd_le_right _ (by omega)) hb
theorem lo2_pos {n d : Int} (h : d ≠ 0) : 1 ≤ lo2 n d := by
  have e := lo2_mul n d
  have hs := sg_ne (n := n) h
  have hp : 0 < sg n d * sg n d := by
    rcases Int.lt_or_gt_of_ne hs with h1 | h1
    · exact Int.mul_pos_of_neg_of_neg h1 h1
    · exact Int.mul_pos h1 h1
  have hsd : 0 < sg n d * d := by
    unfold sg
    have hg : 0 < Nat.gcd n.natAbs d.natAbs := Nat.gcd_pos_of_pos_right _ (by omega)
    split
    · exact Int.mul_pos_of_neg_of_neg (by omega) (by omega)
    · exact Int.mul_pos (by omega) (by omega)
  rcases (show lo2 n d < 1 ∨ 1 ≤ lo2 n d by omega) with hl | hl
  · exfalso
    have h2 : lo2 n d ≤ 0 := by omega
    have h3 : sg n d * (sg n d * lo2 n d) ≤ 0 := by
      rw [← Int.mul_assoc]
      exact Int.mul_nonpos_of_nonneg_of_nonpos (Int.le_of_lt hp) h2
    rw [e] at h3
    omega
  · exact hl
theorem lo_gcd {n d : Int} (h : d ≠ 0) : Nat.gcd (lo1 n d).natAbs (lo2 n d).natAbs = 1 := by
  have e1 : (sg n d).natAbs * (lo1 n d).natAbs = n.natAbs := by rw [← Int.natAbs_mul, lo1_mul]
  have e2 : (sg n d).natAbs * (lo2 n d).natAbs = d.natAbs := by rw [← Int.natAbs_mul, lo2_mul]
  have hg : 0 < Nat.gcd n.natAbs d.natAbs := Nat.gcd_pos_of_pos_right _ (by omega)
  have h1 := Nat.gcd_mul_left (sg n d).natAbs (lo1 n d).natAbs (lo2 n d).natAbs
  rw [e1, e2, sg_abs] at h1
  exact Nat.eq_of_mul_eq_mul_left hg (by omega)
theorem lo_cross (n d : Int) (h : d ≠ 0) : lo1 n d * d = lo2 n d * n := by
  have e1 := lo1_mul n d
  have e2 := lo2_mul n d
  calc lo1 n d * d = lo1 n d * (sg n d * lo2 n d) := by rw [e2]
    _ = lo2 n d * (sg n d * lo1 n d) := by rw [Int.mul_comm (lo1 n d), Int.mul_assoc, Int.mul_comm (lo2 n d) (lo1 n d), ← Int.mul_assoc, Int.mul_comm (sg n d * lo1 n d)]
    _ = lo2 n d * n := by rw [e1]
theorem lo1_size {n d : Int} (h : d ≠ 0) : (lo1 n d).natAbs ≤ n.natAbs := by
  have e1 : (sg n d).natAbs * (lo1 n d).natAbs = n.natAbs := by rw [← Int.natAbs_mul, lo1_mul]
  have hs : 1 ≤ (sg n d).natAbs := by have := sg_ne (n := n) h; omega
  calc (lo1 n d).natAbs = 1 * (lo1 n d).natAbs := (Nat.one_mul _).symm
    _ ≤ (sg n d).natAbs * (lo1 n d).natAbs := Nat.mul_le_mul_right _ hs
    _ = n.natAbs := e1
theorem lo2_size {n d : Int} (h : d ≠ 0) : (lo2 n d).natAbs ≤ d.natAbs := by
  have e1 : (sg n d).natAbs * (lo2 n d).natAbs = d.natAbs := by rw [← Int.natAbs_mul, lo2_mul]
  have hs : 1 ≤ (sg n d).natAbs := by have := sg_ne (n := n) h; omega
  calc (lo2 n d).natAbs = 1 * (lo2 n d).natAbs := (Nat.one_mul _).symm
    _ ≤ (sg n d).natAbs * (lo2 n d).natAbs := Nat.mul_le_mul_right _ hs
    _ = d.natAbs := e1
/-- a pair in lowest terms is its own -/
theorem sg_one {n d : Int} (hd : 1 ≤ d) (hg : Nat.gcd n.natAbs d.natAbs = 1) : sg n d = 1 := by
  unfold sg
  rw [if_neg (by omega), hg]
  rfl
theorem up (a : Nat) {b x : Nat} (h : x < 2 ^ a) (hab : a ≤ b := by decide) : x < 2 ^ b := Nat.lt_of_lt_of_le h (Nat.pow_le_pow_right (by decide) hab)
theorem mul_up {i j : Int} (a b : Nat) {c : Nat} (ha : i.natAbs < 2 ^ a) (hb : j.natAbs < 2 ^ b) (hc : a + b ≤ c := by decide) : (i * j).natAbs < 2 ^ c := by
  rw [Int.natAbs_mul]
  exact up (a + b) (by rw [Nat.pow_add]; exact Nat.mul_lt_mul'' ha hb) hc
/-- a new pair of ints -/
def spPair (f : Int → Int → Int × Int) : Sp := fun vs H Q _ => ∃ n d : Int, vs = [.int n, .int d] ∧ d ≠ 0 ∧ n.natAbs < 2 ^ 9000 ∧ d.natAbs < 2 ^ 9000 ∧
  ∀ (p : Addr) (H' : Hp), Same H H' → H p = none → H' p = some (.tup [.int (f n d).1, .int (f n d).2]) → Q (.ref p) H'
end Odds
namespace Odds
open PySem
/-! ### generator expressions over tuples, whose element asks is_whole -/
/-- what is_whole says of a value that needs no heap -/
inductive Wh : Value → Bool → Prop where
  | int (i : Int) (t : Tok) : Wh (.int i t) true
  | bl (b : Bool) : Wh (.bool b) false
  | str (z : Str) (t : Tok) : Wh (.str z t) false
theorem Wh.kit {K : W.Frag} {u : Value} {b : Bool} (h : Wh u b) : ∃ t : String, W.KitX K u (.type t) (fun _ => True) ∧ L2.kitB t "int" = some (b || t == "bool") ∧ L2.kitB t "bool" = some (t == "bool") ∧ b = (t == "int") ∧ u ≠ .builtin "__main__.__loader__#opaque" := by
  cases h with
  | int i t => exact ⟨"int", W.kitx_int, by decide +kernel, by decide +kernel, by decide, fun z => nomatch z⟩
  | bl c => exact ⟨"bool", W.kitx_bool, by decide +kernel, by decide +kernel, by decide, fun z => nomatch z⟩
  | str z t => exact ⟨"str", W.kitx_str, by decide +kernel, by decide +kernel, by decide, fun z => nomatch z⟩
/-- isinstance(value, T) in any frame of a def -/
theorem ev_isi {prog : Program} {w : World} {A : Around} {E : Value → Shared → Prop} {s : Shared} {env : Env} {K : W.Frag} {mg : Str → Option Value} {base : Heap} {u : Value} {t cn : String} {r : Bool} {m : Str → Option Value} {Q : Value → Shared → Prop} {p1 p2 p3 p4 : Pos}
    (M : L2.Mod K mg base) (hb : ∀ b o, base.get? b = some o → s.heap.get? b = some o) (hk : env.scope.kind = .function) (hg : env.globals = mainGlobals) (hbl : env.builtins = builtinsNs)
    (k1 : env.kindOf "isinstance" = some .globalImplicit) (k2 : env.kindOf "value" = some .local) (k3 : env.kindOf cn = some .globalImplicit)
    (g1 : mg "isinstance" = none) (g3 : mg cn = none) (n3 : (cn : Str) ≠ "__name__") (d3 : ((cn : Str) == "__debug__") = false) (b3 : bootBuiltins cn = some (.type cn))
    (hns : s.heap.Ns env.locals m) (hm : m "value" = some u) (X : W.KitX K u (.type t) (fun _ => True)) (hu : u ≠ .builtin "__main__.__loader__#opaque") (e : L2.kitB t cn = some r)
    (q : ∀ tk : Nat, Q (.bool r) { s with toks := tk }) :
    wpAny (model prog w) A (eval (.Call (.Name "isinstance" p1) [.Name "value" p2, .Name cn p3] [] p4) env) Q E s := by
  obtain ⟨mb, hmb, hbb⟩ := M.blt
  have G : s.heap.Ns env.globals mg := by rw [hg]; exact M.glob.keeps hb
  have B : s.heap.Ns env.builtins mb := by rw [hbl]; exact hmb.keeps hb
  refine wpAny_Call_Name_kw ?_
  refine Calls.Name_function_global hk k1 ?_
  refine Calls.loadGlobal_builtin G g1 B ((hbb _ (by decide)).trans PyProof.Rows.boot_isinstance) ?_
  refine PyProof.Rows.callWith_builtin1 ?_
  refine Calls.spliced_cons ?_
  refine wpAny_Name ?_
  refine wpAny_loadName_local hk k2 hns hm ?_
  refine Calls.spliced_cons ?_
  refine Calls.Name_function_global hk k3 ?_ d3
  refine Calls.loadGlobal_builtin G g3 B ((hbb _ n3).trans b3) ?_
  refine Calls.spliced_nil ?_
  exact W.kia_one X (M.kin.keeps hb) trivial (L2.kit_ty e) hu q
/-- the body of is_whole -/
theorem run_whole {prog : Program} {w : World} {A : Around} {E : Value → Shared → Prop} {s : Shared} {env : Env} {K : W.Frag} {mg : Str → Option Value} {base : Heap} {u : Value} {b : Bool} {m : Str → Option Value} {Q : Flow → Shared → Prop} {p1 p2 p3 p4 p5 p6 p7 p8 p9 p10 p11 : Pos}
    (M : L2.Mod K mg base) (hb : ∀ b o, base.get? b = some o → s.heap.get? b = some o) (hk : env.scope.kind = .function) (hg : env.globals = mainGlobals) (hbl : env.builtins = builtinsNs)
    (k1 : env.kindOf "isinstance" = some .globalImplicit) (k2 : env.kindOf "value" = some .local) (k3 : env.kindOf "int" = some .globalImplicit) (k4 : env.kindOf "bool" = some .globalImplicit)
    (g1 : mg "isinstance" = none) (g3 : mg "int" = none) (g4 : mg "bool" = none)
    (hns : s.heap.Ns env.locals m) (hm : m "value" = some u) (h : Wh u b) (q : ∀ tk : Nat, Q (.ret (.bool b)) { s with toks := tk }) :
    wpAny (model prog w) A (execs [.Return (some (.BoolOp .And [.Call (.Name "isinstance" p1) [.Name "value" p2, .Name "int" p3] [] p4, .UnaryOp .Not (.Call (.Name "isinstance" p5) [.Name "value" p6, .Name "bool" p7] [] p8) p9] p10)) p11] env) Q E s := by
  obtain ⟨t, X, e1, e2, eb, hu⟩ := h.kit (K := K)
  refine wpAny_execs_cons ?_
  refine wpAny_Return_some ?_
  refine PyProof.Rows.BoolOp_and ?_
  refine ev_isi M hb hk hg hbl k1 k2 k3 g1 g3 (by decide) (by decide) PyProof.Rows.boot_int hns hm X hu e1 fun tk => ?_
  refine wpAny_truthy_bool ?_
  by_cases hc : (b || t == "bool") = true
  · rw [if_pos hc]
    refine PyProof.Rows.BoolOp_one ?_
    refine PyProof.Rows.UnaryOp_ ?_
    refine ev_isi (s := { s with toks := tk }) M hb hk hg hbl k1 k2 k4 g1 g4 (by decide) (by decide) PyProof.Rows.boot_bool hns hm X hu e2 fun tk2 => ?_
    refine PyProof.Rows.not_of ?_
    refine wpAny_truthy_bool ?_
    have e : (!(t == "bool")) = b := by
      subst eb
      by_cases h1 : t = "int"
      · subst h1; decide
      · by_cases h2 : t = "bool"
        · subst h2; decide
        · simp [h1, h2] at hc
    rw [e]
    exact q tk2
  · rw [if_neg hc]
    have e : (b || t == "bool") = b := by
      cases b
      · simpa using hc
      · rfl
    rw [e]
    exact q tk
/-- what the text must say of is_whole -/
structure WhT (K : W.Frag) (mg : Str → Option Value) (f : Addr) (fd : FuncData) : Prop where
  ex : ∃ (st : Stmt) (p1 p2 p3 p4 p5 p6 p7 p8 p9 p10 p11 : Pos), Dn K mg "is_whole" st ["value"] f fd ∧
    L2.defBody st = [.Return (some (.BoolOp .And [.Call (.Name "isinstance" p1) [.Name "value" p2, .Name "int" p3] [] p4, .UnaryOp .Not (.Call (.Name "isinstance" p5) [.Name "value" p6, .Name "bool" p7] [] p8) p9] p10)) p11] ∧
    (L2.defScope st).kind = .function ∧ (L2.defScope st).isCoroutine = false ∧ (L2.defScope st).isGenerator = false ∧ (L2.defScope st).names.lookup ("value" : Str) = some NameKind.local ∧
    (L2.defScope st).names.lookup ("isinstance" : Str) = some NameKind.globalImplicit ∧ (L2.defScope st).names.lookup ("int" : Str) = some NameKind.globalImplicit ∧ (L2.defScope st).names.lookup ("bool" : Str) = some NameKind.globalImplicit
  isinstance : mg "isinstance" = none
  int : mg "int" = none
  bool : mg "bool" = none
theorem call_whole {prog : Program} {w : World} {A : Around} {E : Value → Shared → Prop} {s : Shared} {K : W.Frag} {mg : Str → Option Value} {base : Heap} {u : Value} {b : Bool} {f : Addr} {fd : FuncData} {Q : Value → Shared → Prop}
    (T : WhT K mg f fd) (M : L2.Mod K mg base) (hb : ∀ b o, base.get? b = some o → s.heap.get? b = some o) (hd : A.depth < recursionLimit) (h : Wh u b)
    (q : ∀ (h' : Heap) (tk : Nat), (∀ (b : Addr) (o : Obj), s.heap.get? b = some o → h'.get? b = some o) → Q (.bool b) { heap := h', gens := s.gens, drawn := s.drawn, toks := tk, os := s.os }) :
    wpAny (model prog w) A (call (.ref f) [u]) Q E s := by
  obtain ⟨st, p1, p2, p3, p4, p5, p6, p7, p8, p9, p10, p11, D, hbody, hk, hco, hge, n1, n2, n3, n4⟩ := T.ex
  obtain ⟨oc, od, kV, doc, pm, an, cdv, ct, osl, efd, lk, hcd⟩ := D.F.ex
  have kin := M.kin.keeps hb
  have bt := D.b s [u] kin rfl
  subst efd
  refine wpAny_call ?_
  refine Att.call_fn (binds := [("value", u)]) kin (M.nolimit.keeps hb) lk hcd hd bt (by simp [n1]) (fun s₁ ic => ?_) hco hge hk
  have ic' := ic.toInCall
  obtain ⟨h1, tk1, rfl⟩ := ic'.same
  rw [hbody]
  refine run_whole M (fun b o e => ic'.keep _ _ (hb b o e)) hk rfl rfl n2 n1 n3 n4 T.isinstance T.int T.bool ic'.ns ?_ h fun tk => ?_
  · show bindL _ [("value", u)] _ "value" = some u
    simp [bindL, Env.kindOf, PyProof.Rows.envOfC, n1]
  · exact q h1 tk fun b o e => ic'.keep _ _ e
/-- what the element says of a value, in a state that keeps the base -/
def EltT (prog : Program) (w : World) (base : Heap) (scope : Scope) (x : Str) (elt : Expr) (D : Nat) (Wv : Value → Bool → Prop) : Prop :=
  ∀ (cenv : Env) (A' : Around) (E' : Value → Shared → Prop) (u : Value) (b : Bool) (s₂ : Shared) (m₂ : Str → Option Value), cenv.scope = scope → cenv.globals = mainGlobals → cenv.builtins = builtinsNs → s₂.heap.Ns cenv.locals m₂ → m₂ x = some u →
    A'.handled = none → A'.depth ≤ D → (∀ b o, base.get? b = some o → s₂.heap.get? b = some o) → Wv u b → wpAny (model prog w) A' (eval elt cenv) (fun y s₃ => y = .bool b ∧ Keeps s₂ s₃) E' s₂
def Els (Wv : Value → Bool → Prop) (xs : List L2.V) (bs : List Bool) : Prop := xs.length = bs.length ∧ ∀ (i : Nat) (x : L2.V) (b : Bool) (u : Value), xs[i]? = some x → bs[i]? = some b → L2.RelV x u → Wv u b
def ReadyT (X : L2.Cx) (pins : List (Addr × Obj)) (σ : L2.St) (H1 : L2.Hp) (P : Addr) (bs : List Bool) (g : Addr) (s5 : Shared) : Prop :=
  ∃ fp wr G F St, WalksS X.prog X.w X.A.in1 g fp wr G bs.length F St ∧ St 0 s5 ∧ TruthOf X.prog X.w X.A.in1 F (fun i => bs.getD i false) ∧ ∀ s', Moved wr G s5 s' → ∃ H2, GxR.Tabbed P H1 H2 ∧ L2.Inv X pins σ H2 s'
theorem gen_tup {X : L2.Cx} {pins : List (Addr × Obj)} {σ : L2.St} {H : L2.Hp} {s : Shared} {c P : Addr} {elt iter : Expr} {x : Str} {px gpos : Pos} {scope : Scope} {Wv : Value → Bool → Prop} {te : L2.TE} {k : Nat} {Q' : Value → Shared → Prop} {R : List Bool → L2.Hp → Prop}
    (hr : L2.Room k X.A) (TB : GxR.TabB X.base X.mg c P) (hc : X.env.code = .ref c) (S : GxR.GenS X.env scope x) (it : L2.PE X iter te) (el : EltT X.prog X.w X.base scope x elt (X.A.depth + 1) Wv) (hs : ∀ v, genFold iter X.env v = pure v)
    (I : L2.Inv X pins σ H s) (h : te σ H fun v H1 => ∃ (a : Addr) (xs : List L2.V) (bs : List Bool), v = .ref a ∧ L2.SqT X.K H1 a xs ∧ Els Wv xs bs ∧ GxR.TabG H1 P ∧ R bs H1)
    (kk : ∀ (bs : List Bool) (H1 : L2.Hp) (g : Addr) (s5 : Shared), R bs H1 → ReadyT X pins σ H1 P bs g s5 → Q' (.ref g) s5) :
    wpAny (model X.prog X.w) X.A (eval (.GeneratorExp elt [⟨.Name x px, iter, [], 0⟩] scope gpos) X.env) Q' X.xe s := by
  refine wpAny_GeneratorExp_walksQD hr.hd S.co (L2.closure_ok S.free) S.cell S.dot S.loc S.kind (by have := hr.dp; omega) ?_ hs
  refine L2.thn (it.run pins s σ H _ I h) ?_
  rintro u s1 ⟨v, H1, I1, rv, a, xs, bs, rfl, hS, ⟨hl, hel⟩, ⟨ps, hP, hT⟩, hR⟩
  have eu : u = .ref a := rv
  subst eu
  obtain ⟨its, hv, htup, hlen⟩ := I1.tuple hS
  have hPo : s1.heap.get? P = some (W.tabObj ps) := by
    have := I1.hok P _ hP
    simpa only [L2.ObjOk] using this
  obtain ⟨ot, t1, t2, nt, t3⟩ := id htup
  have aP : a ≠ P := by
    intro e
    subst e
    rw [hPo] at t1
    cases t1
    cases t2
  refine wpAny_pyIter_tuple htup ?_
  generalize hI : s1.heap.objs.size = J
  have ltP : P < J := by rw [← hI]; exact Heap.lt_size hPo
  have lta : a < J := by rw [← hI]; exact Heap.lt_size t1
  have keep2 : ∀ b o, s1.heap.get? b = some o → (s1.heap.push { cls := Value.type "tuple_iterator", data := Data.fields #[Value.ref a, Value.int 0 0] }).get? b = some o := fun b o e => Heap.get?_push_of_some _ e
  have getJ : (s1.heap.push { cls := Value.type "tuple_iterator", data := Data.fields #[Value.ref a, Value.int 0 0] }).get? J = some { cls := Value.type "tuple_iterator", data := Data.fields #[Value.ref a, Value.int 0 0] } := by
    rw [← hI]
    exact Heap.get?_push_size _ rfl
  have nl2 := (I1.nolimit).push { cls := Value.type "tuple_iterator", data := Data.fields #[Value.ref a, Value.int 0 0] }
  have sz2 : (s1.heap.push { cls := Value.type "tuple_iterator", data := Data.fields #[Value.ref a, Value.int 0 0] }).objs.size = J + 1 := by
    rw [Heap.size_push, hI]
  generalize s1.heap.push { cls := Value.type "tuple_iterator", data := Data.fields #[Value.ref a, Value.int 0 0] } = h2 at *
  refine ⟨nl2, ?_⟩
  have bk := I1.bk
  have cs1 : cStatics < J := by
    obtain ⟨mc, n1, _⟩ := I1.nolimit
    rw [← hI]
    exact n1.lt
  have csP : cStatics ≠ P := by
    obtain ⟨mc, n1, _⟩ := I1.nolimit
    obtain ⟨o, es, ep, n2, n3, _⟩ := n1
    intro e
    rw [e, hPo] at n2
    cases n2
    cases n3
  have getP2 := keep2 _ _ hPo
  have hd2 : W.CodeHd h2 c P := TB.code.keeps fun b o e => keep2 _ _ (bk b o e)
  have fin : ∀ (code : Value) (h3 : Heap) (tk : Nat) (more : Array Value), Heap.ExtBut P h2 h3 → h3.get? P = some (W.tabObj (ps ++ more)) → TriplesOk (ps ++ more).toList → h2.objs.size ≤ h3.objs.size →
      wpAny (model X.prog X.w) X.A (builtinsFor X.env.globals X.env.builtins) (fun bi s₄ =>
        ∃ I fp wr n₀ P St₀ pz F, Value.ref J = Value.ref I ∧ (∀ (A' : Around), A'.handled = none → Walks X.prog X.w A' I fp wr n₀ P St₀) ∧ St₀ 0 s₄.heap ∧ (∀ (b : Addr), b ∈ fp → b < s₄.heap.objs.size) ∧ s₄.heap.NoLimit ∧ ¬cStatics ∈ wr ∧
          (∀ (href : Heap), (∀ (b : Addr) (o : Obj), s₄.heap.get? b = some o → href.get? b = some o) → QuietGenD X.prog X.w (genEnv scope (L2.cloFrom X.env.cells scope.names []) s₄.heap.objs.size code bi X.env) x [] elt (List.range s₄.heap.objs.size) wr P pz F href (X.A.depth + 1) (X.A.units + 8)) ∧
          ∀ (a : Nat) (h₅ : Heap) (tk : Nat) (gs : GenState), gs.bare = true → s₄.heap.objs.size < a → h₅.objs.size = a + 1 → (∀ (b : Addr) (o : Obj), s₄.heap.get? b = some o → h₅.get? b = some o) →
            WalksS X.prog X.w X.A.in4 a (a :: s₄.heap.objs.size :: List.range s₄.heap.objs.size) (s₄.heap.objs.size :: wr) (GenOnlyQ s₄.gens.size) (passing pz n₀ 0).length (fun j y => ∃ i, (passing pz n₀ 0)[j]? = some i ∧ F i y)
              (GenAt X.prog X.w X.A.in4 a s₄.gens.size s₄.heap.objs.size (List.range s₄.heap.objs.size) wr pz n₀ F) →
            GenAt X.prog X.w X.A.in4 a s₄.gens.size s₄.heap.objs.size (List.range s₄.heap.objs.size) wr pz n₀ F 0 { heap := h₅, gens := s₄.gens.push gs, drawn := s₄.drawn, toks := tk, os := s₄.os } →
              Q' (Value.ref a) { heap := h₅, gens := s₄.gens.push gs, drawn := s₄.drawn, toks := tk, os := s₄.os }) X.xe { heap := h3, gens := s1.gens, drawn := s1.drawn, toks := tk, os := s1.os } := by
    intro code h3 tk more ext getP3 hT3 szz
    have keep3 : ∀ b o, b ≠ P → s1.heap.get? b = some o → h3.get? b = some o := fun b o n e => ext b o n (keep2 b o e)
    obtain ⟨bm, obm, b1, b2, b3, b4, b5, b6, b7, b8⟩ := TB.bm
    have gns : h3.Ns X.env.globals X.mg := by
      rw [I1.ok.glob]
      exact ((I1.mod.glob.keeps bk).keeps keep2).extBut ext TB.gP
    refine wpAny_builtinsFor gns b1 b2 (keep3 _ _ b4 (bk _ _ b5)) b6 b7 b8 ?_
    have J3 : J < h3.objs.size := by omega
    have lt3 : ∀ b, b < J → b < h3.objs.size := fun b hb => Nat.lt_trans hb J3
    have nJP : J ≠ P := fun e => absurd e.symm (Nat.ne_of_lt ltP)
    have nl3 : h3.NoLimit := nl2.extBut ext csP
    refine ⟨J, [J, a], [J], its.toArray.size, _, _, fun _ => true, fun i y => ∃ b, bs[i]? = some b ∧ y = .bool b, rfl, fun A' hA' => Walks.tuple hA' J a (Nat.ne_of_lt lta) its.toArray, ⟨⟨_, ext _ _ nJP getJ, rfl, rfl⟩, ⟨ot, keep3 _ _ aP t1, t2, nt, t3⟩⟩, ?_, nl3, ?_, ?_, ?_⟩
    · intro b hb
      rcases List.mem_cons.mp hb with rfl | hb
      · exact J3
      · rcases List.mem_cons.mp hb with rfl | hb
        · exact lt3 _ lta
        · cases hb
    · intro hb
      rcases List.mem_cons.mp hb with e | hb
      · exact absurd e (Nat.ne_of_lt cs1)
      · cases hb
    · intro href hext
      refine ⟨fun A' E' i v s₂ m₂ _ _ _ _ _ _ _ => ?_, fun A' E' i v s₂ m₂ hA hdp hun hPi _ hns hmx hkeep => ?_⟩
      · show wpAny _ A' (pure true) _ E' s₂
        exact wpAny_pure ⟨rfl, GxR.keeps_refl s₂⟩
      · have hi : i < its.length := by
          have := (Array.getElem?_eq_some_iff.mp hPi).1
          simpa using this
        have hxl := hv.length
        have hx : xs[i]? = some (xs[i]'(by omega)) := List.getElem?_eq_getElem _
        have hbb : bs[i]? = some (bs[i]'(by omega)) := List.getElem?_eq_getElem _
        obtain ⟨u, hu, hrel⟩ := hv.get hx
        have euv : u = v := by
          rw [List.getElem?_toArray] at hPi
          rw [hu] at hPi
          exact Option.some.inj hPi
        subst euv
        refine L2.thn (el _ A' E' u _ s₂ m₂ rfl I1.ok.glob rfl hns hmx hA hdp (fun b o e => ?_) (hel i _ _ u hx hbb hrel)) fun y s₃ ⟨e1, e2⟩ => ⟨⟨_, hbb, e1⟩, e2⟩
        have e1 := bk _ _ e
        have ltb : b < J := by rw [← hI]; exact Heap.lt_size e1
        have bP : b ≠ P := by
          intro q
          subst q
          have hbs := I1.ok.bs _ _ e
          have z := I1.base.free _ _ hbs.1 hbs.2 (I1.ok.noex _ _ e)
          rw [hP] at z
          cases z
        refine hkeep b (List.mem_range.mpr (lt3 _ ltb)) ?_ o (hext _ _ (keep3 _ _ bP e1))
        intro hb
        rcases List.mem_cons.mp hb with q | hb
        · exact absurd q (Nat.ne_of_lt ltb)
        · cases hb
    · intro g h5 tk5 gs hbare hlt hsz hext5 W G
      have en : (passing (fun _ => true) its.toArray.size 0).length = bs.length := by
        rw [GxR.passing_true, List.length_range, List.size_toArray, ← hv.length, hl]
      refine kk bs H1 g _ hR ⟨_, _, _, _, _, en ▸ (WalksS.in4_2 W).of_in1, G, ?_, fun s' mv => ?_⟩
      · rintro i v s0 Q0 E0 ⟨j, hj, b, hb, rfl⟩ q
        rw [GxR.passing_true] at hj
        have hij : i = j := by
          have h1 := List.getElem?_eq_some_iff.mp hj
          obtain ⟨h2, h3⟩ := h1
          rw [List.getElem_range] at h3
          exact h3
        subst hij
        refine wpAny_truthy_bool ?_
        have : bs.getD i false = b := by rw [List.getD_eq_getElem?_getD, hb]; rfl
        show Q0 b s0
        rw [← this]
        exact q
      · have hnin : ∀ b, b < J → ¬ b ∈ [h3.objs.size, J] := fun b hb hm => by
          rcases List.mem_cons.mp hm with q | hm
          · exact absurd q (Nat.ne_of_lt (Nat.lt_trans hb J3))
          · rcases List.mem_cons.mp hm with q | hm
            · exact absurd q (Nat.ne_of_lt hb)
            · cases hm
        have i2 := GxR.inv_tab (P := P) (ps := ps) (more := more) (h' := s'.heap) (g' := s'.gens) (d' := s'.drawn) (t' := s'.toks) I1 hP
          (fun b o n e => mv.heap b o (hnin b (by rw [← hI]; exact Heap.lt_size e)) (hext5 _ _ (keep3 _ _ n e)))
          (mv.heap P _ (hnin P ltP) (hext5 _ _ getP3)) ((I1.bare.push hbare).movedS mv)
        rw [GxR.sh_eta s1 s' mv.os] at i2
        exact ⟨_, ⟨⟨_, L2.upd_same, hT3⟩, fun b n => L2.upd_ne n⟩, i2⟩
  cases hcm : codeAmong gpos ps.toList with
  | some cv =>
    refine wpAny_genexprCode_hit hc (hd2.code getP2 hT) hcm ?_
    exact fin cv h2 _ #[] (Heap.ExtBut.refl P h2) (by simpa using getP2) (by simpa using hT) (Nat.le_refl _)
  | none =>
    refine wpAny_genexprCodeX hc (hd2.code getP2 hT) (hd2.tab getP2) hcm ?_
    intro c' h' tk ext hle hlt hcode _ htab _
    obtain ⟨o, vs, file, tf, flags, tg, inF, text, tt, op, _, _, _, _, _, _, _, _, _, tr, _⟩ := id hcode
    exact fin (.ref c') h' tk _ ext htab.2 tr (Nat.le_trans hle (Nat.le_of_lt hlt))
theorem elt_whole {prog : Program} {w : World} {K : W.Frag} {mg : Str → Option Value} {base : Heap} {scope : Scope} {x : Str} {f : Addr} {fd : FuncData} {D : Nat} {p1 p2 p3 : Pos} (T : WhT K mg f fd) (M : L2.Mod K mg base)
    (hk : scope.kind = .function) (h1 : scope.names.lookup ("is_whole" : Str) = some NameKind.globalImplicit) (h2 : scope.names.lookup x = some NameKind.local) (hD : D < recursionLimit) (hx : (x == ("__debug__" : Str)) = false := by decide) :
    EltT prog w base scope x (.Call (.Name "is_whole" p1) [.Name x p2] [] p3) D Wh := by
  intro cenv A' E' u b s₂ m₂ hsc hg hbl hns hmx hA hdp hb hw
  subst hsc
  obtain ⟨st, _, _, _, _, _, _, _, _, _, _, _, Dw, _⟩ := id T.ex
  have G : s₂.heap.Ns cenv.globals mg := by rw [hg]; exact M.glob.keeps hb
  refine wpAny_Call_Name_kw ?_
  refine Calls.Name_function_global hk h1 ?_
  refine Calls.loadGlobal_global G Dw.g ?_
  refine W.callWith_K (M.kin.keeps hb) Dw.F.kp ?_
  refine Calls.spliced_cons ?_
  refine wpAny_Name ?_ hx
  refine wpAny_loadName_local hk h2 hns hmx ?_
  refine Calls.spliced_nil ⟨M.kin.keeps hb, ?_⟩
  refine call_whole T M hb (by omega) hw fun h' tk hk' => ⟨rfl, h', tk, rfl, hk'⟩
def tAllT (K : W.Frag) (P : Addr) (Wv : Value → Bool → Prop) (te : L2.TE) : L2.TE := fun σ H Q => te σ H fun v H1 => ∃ (a : Addr) (xs : List L2.V) (bs : List Bool), v = .ref a ∧ L2.SqT K H1 a xs ∧ Els Wv xs bs ∧ GxR.TabG H1 P ∧ ∀ H2, GxR.Tabbed P H1 H2 → Q (.bl (bs.all id)) H2
theorem all_bs (bs : List Bool) : (List.range bs.length).all (fun i => bs.getD i false) = bs.all id := by
  rw [Bool.eq_iff_iff, List.all_eq_true, List.all_eq_true]
  constructor
  · intro h b hb
    obtain ⟨i, hi, e⟩ := List.getElem_of_mem hb
    have := h i (List.mem_range.mpr hi)
    rw [List.getD_eq_getElem?_getD, List.getElem?_eq_getElem hi, e] at this
    exact this
  · intro h i hi
    have hi := List.mem_range.mp hi
    rw [List.getD_eq_getElem?_getD, List.getElem?_eq_getElem hi]
    exact h _ (List.getElem_mem hi)
theorem pe_allT {X : L2.Cx} {c P : Addr} {elt iter : Expr} {x : Str} {px p pos gpos : Pos} {scope : Scope} {Wv : Value → Bool → Prop} {te : L2.TE} {k : Nat}
    (hr : L2.Room k X.A) (hg : L2.Gl X "all") (hm : X.mg "all" = none) (TB : GxR.TabB X.base X.mg c P) (hc : X.env.code = .ref c) (S : GxR.GenS X.env scope x) (it : L2.PE X iter te) (el : L2.Mod X.K X.mg X.base → EltT X.prog X.w X.base scope x elt (X.A.depth + 1) Wv) (hs : ∀ v, genFold iter X.env v = pure v)
    (st : starEach [Expr.GeneratorExp elt [⟨.Name x px, iter, [], 0⟩] scope gpos] X.env = (false, eval (Expr.GeneratorExp elt [⟨.Name x px, iter, [], 0⟩] scope gpos) X.env) :: starEach [] X.env := by rfl) :
    L2.PE X (.Call (.Name "all" p) [.GeneratorExp elt [⟨.Name x px, iter, [], 0⟩] scope gpos] [] pos) (tAllT X.K P Wv te) := by
  refine ⟨fun pins s σ H Q I h => ?_⟩
  refine wpAny_Call_Name_kw ?_
  refine L2.ld_blt I hg hm (u := .builtin "all") (by decide +kernel) ?_
  refine PyProof.Rows.callWith_builtin1 ?_ st
  refine Calls.spliced_cons ?_
  refine gen_tup (R := fun bs H1 => ∀ H2, GxR.Tabbed P H1 H2 → Q (.bl (bs.all id)) H2) hr TB hc S it (el I.mod) hs I h ?_
  rintro bs H1 g s5 hR ⟨fp, wr, G, F, St, W, h0, tr, mv⟩
  refine Calls.spliced_nil ?_
  refine call_all_walkS ?_
  refine W.self 0 s5 _ _ h0 ?_
  refine ⟨g, fp, wr, G, _, F, St, _, rfl, W, h0, tr, fun s' m => ?_⟩
  obtain ⟨H2, t2, i2⟩ := mv s' m
  rw [all_bs]
  exact ⟨.bl (bs.all id), H2, i2, rfl, hR H2 t2⟩
theorem gen_free {env : Env} {scope : Scope} (h : ∀ y ∈ scope.names, y.2 ≠ NameKind.free) : ∀ (y : Str × NameKind), y ∈ scope.names → y.2 = NameKind.free → ∃ c, List.lookup y.1 env.cells = some c := fun y hy e => absurd e (h y hy)
theorem fun_okC {CX : L2.CXT} {P : Program} {w : World} {K : W.Frag} {mg : Str → Option Value} {base : Heap} {k : Nat} {f : Addr} {x qual : Str} {st : Stmt} {fd : FuncData} {N ps : List Str} {sp : L2.Sp} {c : Addr} (F : L2.Fun K x qual st f fd) (hc : fd.code = .ref c)
    (S : L2.FnScope N ps (L2.defScope st)) (len : ∀ (vs : List L2.V) (H : L2.Hp) (Q : L2.VK) (E : L2.XK), sp vs H Q E → vs.length = ps.length)
    (hb : ∀ (A : Around) (outer : List Env) (s : Shared) (H : L2.Hp) (vs : List L2.V) (Q : L2.VK) (E : L2.XK), L2.Room k (A.deeper (PyProof.Rows.envOfC qual (L2.defScope st) s.heap.objs.size f (.ref c))) → sp vs H Q E →
      ∃ t, L2.PSs (L2.cxOf CX P w K mg base N qual (L2.defScope st) f (.ref c) A outer s H E) (L2.defBody st) t ∧ t { nx := fun _ H' => Q .non H', rt := Q } (L2.start N vs) H) : L2.FnOk P w K mg base CX (k + 1) f fd ps sp := by
  obtain ⟨oc, od, kV, doc, pm, an, cdv, ct, osl, e, lk, hcd⟩ := F.ex
  subst e
  have e : cdv = .ref c := hc
  subst e
  exact L2.fn_of lk hcd S len hb
theorem room_lim {k : Nat} {A : Around} (h : L2.Room k A) : A.depth + 1 < recursionLimit := by have := h.dp; omega
theorem walk_tab {l : W.OpenLaw} {n k : Nat} {q : Program} {loose : List Str} {XP : (Str → Option Value) → Heap → Prop} {YP : World → Heap → Prop} {d : DefRec} {K : Params → W.Frag} {CX : World → L2.CXT} {x : Str} (hn : l.most = some n) (hn2 : n ≤ sizeLine) (hdf : d.params.defaults = []) (hr : L2.Room k callerA)
    (hY : ∀ (w : World) (h : Heap), YP w h → (K w.params).In h)
    (F : ∀ (w : World) (mg : Str → Option Value) (fa : Addr) (h : Heap), (K w.params).In h → h.Ns mainGlobals mg → mg d.name = some (.ref fa) →
      (∀ (y : Str) (c P : Addr), ((PyProof.Rows.recsOf q).find? (fun e => e.name == y)).isSome = true → W.tabIn (K w.params) y = some (c, P) → W.CodeHd h c P ∧ h.get? P = some (W.tabObj #[])) → LamX.LawAtS l w (K w.params) (CX w) k n x mg fa h)
    (hCX : ∀ (w : World) (H : L2.Hp) (s : Shared) (e : Value) (s' : Shared), CX w [] H s (fun _ _ _ => False) e s' → False) :
    W.WalkO q loose XP YP l.row.toRowW d [] fun f vs => call f vs := by
  refine Att.attach_callB hn hdf fun w s₀ s₁ mg mb fa o pm cd doc a vs ns G Y ho hd hcd hmg hobj hints hlen hbits hg => ?_
  have KX := hY w s₁.heap Y
  obtain ⟨fd, cs, sp, hT, nT, C, hb, hsp, hF⟩ := F w mg fa s₁.heap KX G.T.g hmg fun y c P h1 h2 => by
    obtain ⟨d', hd'⟩ := Option.isSome_iff_exists.mp h1
    exact W.tab_of G.T KX hd' h2
  exact LamX.law_callTs KX G.T.g G.T.b G.T.builtins G.T.nolimit hg hT nT C G.T.bmain hobj hints (Nat.le_trans hlen hn2) hr hF hb (fun H hH hS => hsp H a ns hlen hbits hH hS) fun H e s' => hCX w H s₁ e s'
/-- all but the tables is as it was -/
def SameT (P : Addr) (H H' : L2.Hp) : Prop := GxR.TabG H P ∧ GxR.TabG H' P ∧ ∀ b o, b ≠ P → H b = some o → H' b = some o
theorem SameT.ne {P b : Addr} {H H' : L2.Hp} {o : L2.HO} (e : SameT P H H') (h : H b = some o) (n : ∀ ps, o ≠ .tbl ps) : b ≠ P := by
  intro q
  subst q
  obtain ⟨⟨ps, hp, _⟩, _⟩ := e
  rw [hp] at h
  exact n ps (Option.some.inj h).symm
theorem SameT.tup {P b : Addr} {H H' : L2.Hp} {xs : List L2.V} (e : SameT P H H') (h : H b = some (.tup xs)) : H' b = some (.tup xs) := e.2.2 _ _ (e.ne h fun _ z => nomatch z) h
theorem SameT.lst {P b : Addr} {H H' : L2.Hp} {xs : List L2.V} (e : SameT P H H') (h : H b = some (.lst xs)) : H' b = some (.lst xs) := e.2.2 _ _ (e.ne h fun _ z => nomatch z) h
theorem Tabbed.same {P : Addr} {H H' : L2.Hp} (g : GxR.TabG H P) (t : GxR.Tabbed P H H') : SameT P H H' := ⟨g, t.1, fun b o n h => by rw [t.2 b n]; exact h⟩
theorem SameT.trans {P : Addr} {H H1 H2 : L2.Hp} (a : SameT P H H1) (b : SameT P H1 H2) : SameT P H H2 := ⟨a.1, b.2.1, fun c o n h => b.2.2 c o n (a.2.2 c o n h)⟩
theorem TabG.same {P : Addr} {H H' : L2.Hp} (e : L2.Same H H') (h : GxR.TabG H P) : GxR.TabG H' P := by
  obtain ⟨ps, h1, h2⟩ := h
  exact ⟨ps, e _ _ h1, h2⟩
theorem same_toT {P : Addr} {H H' : L2.Hp} (e : L2.Same H H') (h : GxR.TabG H P) : SameT P H H' := ⟨h, TabG.same e h, fun b o _ q => e _ _ q⟩
theorem SameT.refl {P : Addr} {H : L2.Hp} (h : GxR.TabG H P) : SameT P H H := ⟨h, h, fun _ _ _ q => q⟩
theorem mg_run_gcd3 (a : Int) (t : Tok) (b : Int) (u : Tok) (c : Int) (v : Tok) : Gives (Builtin.«math.gcd» { pos := [.int a t, .int b u, .int c v] }) (Made.int ↑(((Nat.gcd 0 a.natAbs).gcd b.natAbs).gcd c.natAbs)) := by
  refine Gives.of_wp ?_
  intro M A E s Q h
  simp only [Made.post] at h
  unfold Builtin.«math.gcd»
  wp_walk
  exact ⟨_, rfl, h⟩
/-- math.gcd of three -/
def rGcd3 : List L2.V → L2.Hp → L2.VK → Prop := fun vs H Q => ∃ a b c : Int, vs = [.int a, .int b, .int c] ∧ Q (.int ((Nat.gcd (Nat.gcd a.natAbs b.natAbs) c.natAbs : Nat) : Int)) H
theorem cr_gcd3 {X : L2.Cx} : L2.CallR X (.builtin "math.gcd") rGcd3 := by
  intro pins s σ H vs us Q I r h
  obtain ⟨a, b, c, rfl, q⟩ := h
  cases r with
  | cons r1 rn =>
    cases rn with
    | cons r2 rn =>
      cases rn with
      | cons r3 rn =>
        cases rn
        obtain ⟨t, rfl⟩ := r1
        obtain ⟨u, rfl⟩ := r2
        obtain ⟨v, rfl⟩ := r3
        refine PySem.call_function_meets PySem.W.MGF.kind_gcd PySem.W.MGF.plain_gcd PySem.W.MGF.entry_gcd (show argsOk "math.gcd" _ from rfl) (mg_run_gcd3 a t b u c v).meets ?_
        rw [Nat.gcd_zero_left]
        exact ⟨.int _, H, I.tok _, ⟨_, rfl⟩, q⟩
end Odds

namespace Odds
open PySem L2
def topS (i : Nat) : Stmt := PySem.Challenge.pw_oddscall_k08_numbers_in_one_form.main.body.getD i (.Pass ⟨0, 0, 0, 0⟩)
abbrev s_l_stream : Stmt := topS 14
theorem sc_l_stream : FnScope ["script"] ["script"] (defScope s_l_stream) := ⟨rfl, rfl, rfl, by decide +kernel, rfl, by decide +kernel, by decide +kernel⟩
abbrev s_l_next : Stmt := topS 15
theorem sc_l_next : FnScope ["stream", "many", "k", "cell", "digit"] ["stream", "many"] (defScope s_l_next) := ⟨rfl, rfl, rfl, by decide +kernel, rfl, by decide +kernel, by decide +kernel⟩
abbrev s_l_gcd : Stmt := topS 17
theorem sc_l_gcd : FnScope ["a", "b", "k"] ["a", "b"] (defScope s_l_gcd) := ⟨rfl, rfl, rfl, by decide +kernel, rfl, by decide +kernel, by decide +kernel⟩
abbrev s_l_low : Stmt := topS 18
theorem sc_l_low : FnScope ["n", "d", "shared"] ["n", "d"] (defScope s_l_low) := ⟨rfl, rfl, rfl, by decide +kernel, rfl, by decide +kernel, by decide +kernel⟩
abbrev s_is_whole : Stmt := topS 2
theorem sc_is_whole : FnScope ["value"] ["value"] (defScope s_is_whole) := ⟨rfl, rfl, rfl, by decide +kernel, rfl, by decide +kernel, by decide +kernel⟩
abbrev s_is_rational : Stmt := topS 6
theorem sc_is_rational : FnScope ["x", "n", "d"] ["x"] (defScope s_is_rational) := ⟨rfl, rfl, rfl, by decide +kernel, rfl, by decide +kernel, by decide +kernel⟩
abbrev s_l_ratio : Stmt := topS 22
theorem sc_l_ratio : FnScope ["stream", "top", "most", "n"] ["stream", "top", "most"] (defScope s_l_ratio) := ⟨rfl, rfl, rfl, by decide +kernel, rfl, by decide +kernel, by decide +kernel⟩
abbrev s_l_root : Stmt := topS 23
theorem sc_l_root : FnScope ["n", "low", "high", "k", "middle"] ["n"] (defScope s_l_root) := ⟨rfl, rfl, rfl, by decide +kernel, rfl, by decide +kernel, by decide +kernel⟩
abbrev s_l_is_square : Stmt := topS 24
theorem sc_l_is_square : FnScope ["n"] ["n"] (defScope s_l_is_square) := ⟨rfl, rfl, rfl, by decide +kernel, rfl, by decide +kernel, by decide +kernel⟩
abbrev s_square_root : Stmt := topS 4
theorem sc_square_root : FnScope ["n", "root"] ["n"] (defScope s_square_root) := ⟨rfl, rfl, rfl, by decide +kernel, rfl, by decide +kernel, by decide +kernel⟩
abbrev s_is_field : Stmt := topS 8
theorem sc_is_field : FnScope ["x"] ["x"] (defScope s_is_field) := ⟨rfl, rfl, rfl, by decide +kernel, rfl, by decide +kernel, by decide +kernel⟩
abbrev s_l_is : Stmt := topS 25
theorem sc_l_is : FnScope ["actual", "due"] ["actual", "due"] (defScope s_l_is) := ⟨rfl, rfl, rfl, by decide +kernel, rfl, by decide +kernel, by decide +kernel⟩
abbrev s_is_index : Stmt := topS 3
theorem sc_is_index : FnScope ["value", "many"] ["value", "many"] (defScope s_is_index) := ⟨rfl, rfl, rfl, by decide +kernel, rfl, by decide +kernel, by decide +kernel⟩
abbrev s_discriminant : Stmt := topS 12
theorem sc_discriminant : FnScope ["coefficients", "c", "b", "a"] ["coefficients"] (defScope s_discriminant) := ⟨rfl, rfl, rfl, by decide +kernel, rfl, by decide +kernel, by decide +kernel⟩
abbrev s_is_equation : Stmt := topS 11
theorem sc_is_equation : FnScope ["coefficients", "k", "c", "b", "a", "inside"] ["coefficients"] (defScope s_is_equation) := ⟨rfl, rfl, rfl, by decide +kernel, rfl, by decide +kernel, by decide +kernel⟩
abbrev s_is_number : Stmt := topS 10
theorem sc_is_number : FnScope ["x"] ["x"] (defScope s_is_number) := ⟨rfl, rfl, rfl, by decide +kernel, rfl, by decide +kernel, by decide +kernel⟩
abbrev s_law : Stmt := topS 26
theorem sc_law : FnScope ["script", "stream", "far", "a", "b", "c", "which", "inside", "due", "good", "wrong", "rational"] ["script"] (defScope s_law) := ⟨rfl, rfl, rfl, by decide +kernel, rfl, by decide +kernel, by decide +kernel⟩
structure Txt (K : PySem.W.Frag) (mg : Str → Option Value) where
  f_l_stream : Addr
  fd_l_stream : FuncData
  D_l_stream : Dn K mg "_law_stream" s_l_stream ["script"] f_l_stream fd_l_stream
  f_l_next : Addr
  fd_l_next : FuncData
  D_l_next : Dn K mg "_law_next" s_l_next ["stream", "many"] f_l_next fd_l_next
  f_l_gcd : Addr
  fd_l_gcd : FuncData
  D_l_gcd : Dn K mg "_law_gcd" s_l_gcd ["a", "b"] f_l_gcd fd_l_gcd
  f_l_low : Addr
  fd_l_low : FuncData
  D_l_low : Dn K mg "_law_low" s_l_low ["n", "d"] f_l_low fd_l_low
  f_is_whole : Addr
  fd_is_whole : FuncData
  D_is_whole : Dn K mg "is_whole" s_is_whole ["value"] f_is_whole fd_is_whole
  f_is_rational : Addr
  fd_is_rational : FuncData
  D_is_rational : Dn K mg "is_rational" s_is_rational ["x"] f_is_rational fd_is_rational
  f_l_ratio : Addr
  fd_l_ratio : FuncData
  D_l_ratio : Dn K mg "_law_ratio" s_l_ratio ["stream", "top", "most"] f_l_ratio fd_l_ratio
  f_l_root : Addr
  fd_l_root : FuncData
  D_l_root : Dn K mg "_law_root" s_l_root ["n"] f_l_root fd_l_root
  f_l_is_square : Addr
  fd_l_is_square : FuncData
  D_l_is_square : Dn K mg "_law_is_square" s_l_is_square ["n"] f_l_is_square fd_l_is_square
  f_square_root : Addr
  fd_square_root : FuncData
  D_square_root : Dn K mg "square_root" s_square_root ["n"] f_square_root fd_square_root
  f_is_field : Addr
  fd_is_field : FuncData
  D_is_field : Dn K mg "is_field" s_is_field ["x"] f_is_field fd_is_field
  f_l_is : Addr
  fd_l_is : FuncData
  D_l_is : Dn K mg "_law_is" s_l_is ["actual", "due"] f_l_is fd_l_is
  f_is_index : Addr
  fd_is_index : FuncData
  D_is_index : Dn K mg "is_index" s_is_index ["value", "many"] f_is_index fd_is_index
  f_discriminant : Addr
  fd_discriminant : FuncData
  D_discriminant : Dn K mg "discriminant" s_discriminant ["coefficients"] f_discriminant fd_discriminant
  f_is_equation : Addr
  fd_is_equation : FuncData
  D_is_equation : Dn K mg "is_equation" s_is_equation ["coefficients"] f_is_equation fd_is_equation
  f_is_number : Addr
  fd_is_number : FuncData
  D_is_number : Dn K mg "is_number" s_is_number ["x"] f_is_number fd_is_number
  f_law : Addr
  fd_law : FuncData
  D_law : Dn K mg "law" s_law ["script"] f_law fd_law
  abs : mg "abs" = none
  all : mg "all" = none
  bool : mg "bool" = none
  int : mg "int" = none
  isinstance : mg "isinstance" = none
  len : mg "len" = none
  list : mg "list" = none
  range : mg "range" = none
  str : mg "str" = none
  tuple : mg "tuple" = none
  gcd : mg "gcd" = some (.builtin "math.gcd")
  isqrt : mg "isqrt" = some (.builtin "math.isqrt")
  c_tab : Addr
  P_tab : Addr
  code_tab : fd_is_equation.code = .ref c_tab
theorem Txt.W {K : PySem.W.Frag} {mg : Str → Option Value} (T : Txt K mg) : WhT K mg T.f_is_whole T.fd_is_whole := ⟨⟨s_is_whole, _, _, _, _, _, _, _, _, _, _, _, T.D_is_whole, rfl, rfl, rfl, rfl, by decide +kernel, by decide +kernel, by decide +kernel, by decide +kernel⟩, T.isinstance, T.int, T.bool⟩
section
variable {P : Program} {w : World} {K : PySem.W.Frag} {mg : Str → Option Value} {base : Heap}
/-! ### the draws -/
theorem ok_l_stream (T : Txt K mg) : FnOk P w K mg base CX0 1 T.f_l_stream T.fd_l_stream ["script"] (spStream K) := by
  refine T.D_l_stream.F.ok sc_l_stream (fun vs H Q E h => ?_) (fun cdv A outer s H vs Q E hr h => ?_)
  · obtain ⟨a, ns, rfl, _⟩ := h
    rfl
  · obtain ⟨a, ns, rfl, hS, k⟩ := h
    refine ⟨_, (pss_one (ps_ret (pe_lst (pa_cons (pe_callTy call_list_of (by rfl) T.list PyProof.Rows.boot_list (pa_cons (pv 0) pa_nil)) (pa_cons pe_int (pa_cons pe_int pa_nil)))))), ?_⟩
    refine ⟨_, rfl, a, _, rfl, .inl hS, fun l hl => ?_⟩
    refine ⟨(by show 3 ≤ sizeLine; decide), fun s hs => ?_⟩
    have e1 := same_new (o := .lst (ns.map V.int)) hl
    have e2 := same_new (o := .lst [.ref l, .int 0, .int 0]) hs
    exact k s _ ⟨l, ns, 0, 0, upd_same, e2 _ _ upd_same, Int.le_refl _⟩ (e1.trans e2) (e1.free hs)
theorem ok_l_next (T : Txt K mg) : FnOk P w K mg base CX0 1 T.f_l_next T.fd_l_next ["stream", "many"] spNext := by
  refine T.D_l_next.F.ok sc_l_next (fun vs H Q E h => ?_) (fun cdv A outer s H vs Q E hr h => ?_)
  · obtain ⟨s, m, rfl, _⟩ := h
    rfl
  · obtain ⟨s, m, rfl, ⟨l, ns, c, k, hs, hl, hk⟩, hm, hmb, kk⟩ := h
    have nsl : s ≠ l := ne_of hs hl lst_ne
    have tail : ∀ (H1 : Hp) (c1 k1 : Int) (v2 v3 : Option V), H1 s = some (.lst [.ref l, .int c1, .int k1]) → H1 l = some (.lst (ns.map V.int)) → 0 ≤ k1 → Keep s H H1 →
        (tSeq (tAsg (tOp (rI (fun _ j => 0 < j) fun i j => .int (i % j)) (tCB (fun xs H Q => (∃ i, xs = [.int i] ∧ Q (.int i) H) ∨ ∃ k, xs = [.bl k] ∧ Q (.int (if k then 1 else 0)) H) (tCons (tOp (rIxL K) (tVar 0) (tC (.int 1))) tNil)) (tVar 1)) (gName 4))
          (tSeq (tAsg (tOp (rI CDivW fun i j => .int (i / j)) (tOp (rIxL K) (tVar 0) (tC (.int 1))) (tVar 1)) (gSub (tVar 0) (tC (.int 1)) rSetL)) (tRet (tVar 4)))) { nx := fun _ H' => Q .non H', rt := Q } [some (.ref s), some (.int m), v2, v3, none] H1 := by
      intro H1 c1 k1 v2 v3 h1 h2 h3 h4
      refine ⟨_, rfl, s, _, _, _, rfl, rfl, SqL.of h1, rfl, .inl ⟨_, rfl, _, rfl, _, _, rfl, rfl, hm, ?_⟩⟩
      refine ⟨_, rfl, s, _, _, _, rfl, rfl, SqL.of h1, rfl, _, rfl, _, _, rfl, rfl, wide_div hm hmb (by decide) (by decide), ?_⟩
      refine ⟨_, rfl, s, _, _, 1, rfl, rfl, h1, rfl, ?_⟩
      refine ⟨_, rfl, ?_⟩
      refine kk _ _ (Int.emod_nonneg _ (by omega)) (Int.emod_lt_of_pos _ hm) ⟨l, ns, _, k1, upd_same, by rw [upd_ne nsl.symm]; exact h2, h3⟩ fun b o e hb => ?_
      rw [upd_ne hb]
      exact h4 b o e hb
    refine ⟨_, (pss_cons (ps_if (pt_cmpR op_eq (pe_ix (r := rIxL K) ix_list (pv 0) pe_int (fun _ _ => rfl)) pe_int (nomark _)) (pss_cons (ps_set (i := 2) sc_l_next.nd rfl (Or.inl rfl) (pe_ix (r := rIxL K) ix_list (pv 0) pe_int (fun _ _ => rfl)))
    (pss_cons (ps_set (i := 3) sc_l_next.nd rfl (Or.inl rfl) (pe_op op_add pe_int (pv 2)))
    (pss_cons (ps_if (pt_cmpR op_lt (pv 2) (pe_callB call_len_seq (by rfl) T.len PySem.boot_len (pa_cons (pe_ix (r := rIxL K) ix_list (pv 0) pe_int (fun _ _ => rfl)) pa_nil)) (nomark _)) (pss_one (ps_set (i := 3) sc_l_next.nd rfl (Or.inl rfl) (pe_callB call_abs (by rfl) T.abs PyProof.Rows.boot_abs (pa_cons (pe_ix (r := rIxL K) ix_list (pe_ix (r := rIxL K) ix_list (pv 0) pe_int (fun _ _ => rfl)) (pv 2) (fun _ _ => rfl)) pa_nil)))) pss_nil)
    (pss_cons (ps_if (pt_cmpR op_lt (pv 3) (pe_op op_pow pe_int pe_int) (nomark _)) (pss_cons (ps_set (i := 3) sc_l_next.nd rfl (Or.inl rfl) (pe_op op_mod (pe_callTy call_int1 (by rfl) T.int PyProof.Rows.boot_int (pa_cons (pe_op op_add (pe_op op_add (pe_op op_mul (pv 3) pe_int) (pe_op op_mul (pv 2) pe_int)) pe_int) pa_nil)) pe_int))
    (pss_one (ps_set (i := 3) sc_l_next.nd rfl (Or.inl rfl) (pe_op op_add (pe_op op_mul (pe_op op_mod (pe_callTy call_int1 (by rfl) T.int PyProof.Rows.boot_int (pa_cons (pe_op op_add (pe_op op_mul (pv 3) pe_int) pe_int) pa_nil)) pe_int) pe_int) (pv 3))))) pss_nil)
    (pss_cons (ps_asg (pv 3) (pg_sub (pv 0) pe_int set_list))
    (pss_one (ps_asg (pe_op op_add (pv 2) pe_int) (pg_sub (pv 0) pe_int set_list)))))))) pss_nil)
    (pss_cons (ps_set (i := 4) sc_l_next.nd rfl (Or.inl rfl) (pe_op op_mod (pe_callTy call_int1 (by rfl) T.int PyProof.Rows.boot_int (pa_cons (pe_ix (r := rIxL K) ix_list (pv 0) pe_int (fun _ _ => rfl)) pa_nil)) (pv 1)))
    (pss_cons (ps_asg (pe_op op_fdivW (pe_ix (r := rIxL K) ix_list (pv 0) pe_int (fun _ _ => rfl)) (pv 1)) (pg_sub (pv 0) pe_int set_list))
    (pss_one (ps_ret (pv 4)))))), ?_⟩
    refine ⟨_, rfl, s, _, _, _, rfl, rfl, SqL.of hs, rfl, rfl, _, rfl, ite2 (fun _ => ?_) (fun _ => ?_)⟩
    · -- a new cell
      refine ⟨_, rfl, s, _, _, _, rfl, rfl, SqL.of hs, rfl, ?_⟩
      refine ⟨_, rfl, _, _, rfl, rfl, ?_⟩
      have part : ∀ c2 : Int, (tSeq (tIfS (tTest (tOp (rI0 fun i j => .bl (decide (i < j))) (tVar 3) (tOp (rI CPow fun i j => .int (i ^ j.toNat)) (tC (.int 10)) (tC (.int 18)))))
          (tSeq (tAsg (tOp (rI (fun _ j => 0 < j) fun i j => .int (i % j)) (tCB (fun xs H Q => (∃ i, xs = [.int i] ∧ Q (.int i) H) ∨ ∃ k, xs = [.bl k] ∧ Q (.int (if k then 1 else 0)) H) (tCons (tOp (rI0 fun i j => .int (i + j)) (tOp (rI0 fun i j => .int (i + j)) (tOp (rI CMul fun i j => .int (i * j)) (tVar 3) (tC (.int 48271))) (tOp (rI CMul fun i j => .int (i * j)) (tVar 2) (tC (.int 69621)))) (tC (.int 11))) tNil)) (tC (.int 2147483647))) (gName 3))
            (tAsg (tOp (rI0 fun i j => .int (i + j)) (tOp (rI CMul fun i j => .int (i * j)) (tOp (rI (fun _ j => 0 < j) fun i j => .int (i % j)) (tCB (fun xs H Q => (∃ i, xs = [.int i] ∧ Q (.int i) H) ∨ ∃ k, xs = [.bl k] ∧ Q (.int (if k then 1 else 0)) H) (tCons (tOp (rI0 fun i j => .int (i + j)) (tOp (rI CMul fun i j => .int (i * j)) (tVar 3) (tC (.int 16807))) (tC (.int 13))) tNil)) (tC (.int 2147483647))) (tC (.int 65537))) (tVar 3)) (gName 3)))
          tNext)
          (tSeq (tAsg (tVar 3) (gSub (tVar 0) (tC (.int 1)) rSetL)) (tAsg (tOp (rI0 fun i j => .int (i + j)) (tVar 2) (tC (.int 1))) (gSub (tVar 0) (tC (.int 2)) rSetL))))
          { nx := fun σ' H' => (tSeq (tAsg (tOp (rI (fun _ j => 0 < j) fun i j => .int (i % j)) (tCB (fun xs H Q => (∃ i, xs = [.int i] ∧ Q (.int i) H) ∨ ∃ k, xs = [.bl k] ∧ Q (.int (if k then 1 else 0)) H) (tCons (tOp (rIxL K) (tVar 0) (tC (.int 1))) tNil)) (tVar 1)) (gName 4))
          (tSeq (tAsg (tOp (rI CDivW fun i j => .int (i / j)) (tOp (rIxL K) (tVar 0) (tC (.int 1))) (tVar 1)) (gSub (tVar 0) (tC (.int 1)) rSetL)) (tRet (tVar 4)))) { nx := fun _ H' => Q .non H', rt := Q } σ' H', rt := Q } [some (.ref s), some (.int m), some (.int k), some (.int c2), none] H := by
        intro c2
        have store : ∀ c3 : Int, (tSeq (tAsg (tVar 3) (gSub (tVar 0) (tC (.int 1)) rSetL)) (tAsg (tOp (rI0 fun i j => .int (i + j)) (tVar 2) (tC (.int 1))) (gSub (tVar 0) (tC (.int 2)) rSetL)))
          { nx := fun σ' H' => (tSeq (tAsg (tOp (rI (fun _ j => 0 < j) fun i j => .int (i % j)) (tCB (fun xs H Q => (∃ i, xs = [.int i] ∧ Q (.int i) H) ∨ ∃ k, xs = [.bl k] ∧ Q (.int (if k then 1 else 0)) H) (tCons (tOp (rIxL K) (tVar 0) (tC (.int 1))) tNil)) (tVar 1)) (gName 4))
          (tSeq (tAsg (tOp (rI CDivW fun i j => .int (i / j)) (tOp (rIxL K) (tVar 0) (tC (.int 1))) (tVar 1)) (gSub (tVar 0) (tC (.int 1)) rSetL)) (tRet (tVar 4)))) { nx := fun _ H' => Q .non H', rt := Q } σ' H', rt := Q } [some (.ref s), some (.int m), some (.int k), some (.int c3), none] H := by
          intro c3
          refine ⟨_, rfl, _, rfl, s, _, _, 1, rfl, rfl, hs, rfl, ?_⟩
          refine ⟨_, rfl, _, _, rfl, rfl, _, rfl, s, _, _, 2, rfl, rfl, upd_same, rfl, ?_⟩
          refine tail _ c3 (k + 1) _ _ upd_same ?_ (by omega) fun b o e hb => ?_
          · rw [upd_ne nsl.symm, upd_ne nsl.symm]
            exact hl
          · rw [upd_ne hb, upd_ne hb]
            exact e
        refine ⟨_, rfl, _, _, rfl, rfl, ⟨by decide, by decide, by decide⟩, _, _, rfl, rfl, _, rfl, ite2 (fun _ => ?_) (fun _ => ?_)⟩
        · refine ⟨_, rfl, _, _, rfl, rfl, .inr ⟨by decide, by decide⟩, _, rfl, _, _, rfl, rfl, .inr ⟨by decide, by decide⟩, _, _, rfl, rfl, _, _, rfl, rfl, .inl ⟨_, rfl, _, _, rfl, rfl, (by show (0 : Int) < 2147483647; decide), ?_⟩⟩
          refine ⟨_, rfl, _, _, rfl, rfl, .inr ⟨by decide, by decide⟩, _, _, rfl, rfl, .inl ⟨_, rfl, _, _, rfl, rfl, (by show (0 : Int) < 2147483647; decide), _, _, rfl, rfl, .inr ⟨by decide, by decide⟩, _, rfl, _, _, rfl, rfl, ?_⟩⟩
          exact store _
        · exact store _
      refine ⟨_, rfl, _, rfl, s, _, _, _, rfl, rfl, SqL.of hs, rfl, l, _, rfl, .inl (SqL.of hl), _, _, rfl, rfl, _, rfl, iteD (fun hlt => ?_) (fun _ => ?_)⟩
      · have hlt' : k < ((ns.map V.int).length : Int) := hlt
        obtain ⟨j, rfl⟩ : ∃ j : Nat, k = (j : Int) := ⟨k.toNat, by omega⟩
        have hj : j < ns.length := by rw [List.length_map] at hlt'; omega
        refine ⟨_, rfl, s, _, _, _, rfl, rfl, SqL.of hs, rfl, _, rfl, l, _, _, _, rfl, rfl, SqL.of hl, at_of (j := j) (v := V.int ns[j]) rfl (by rw [List.getElem?_map, List.getElem?_eq_getElem hj]; rfl), _, rfl, ?_⟩
        exact part _
      · exact part _
    · -- the cell stands
      exact tail H c k none none hs hl hk (Keep.refl s H)
/-! ### the law's own fractions -/
def spGcd : Sp := fun vs H Q _ => ∃ a b : Int, vs = [.int a, .int b] ∧ a.natAbs < 2 ^ 19000 ∧ b.natAbs < 2 ^ 19000 ∧ Q (.int ((Nat.gcd a.natAbs b.natAbs : Nat) : Int)) H
theorem ok_l_gcd (T : Txt K mg) : FnOk P w K mg base CX0 1 T.f_l_gcd T.fd_l_gcd ["a", "b"] spGcd := by
  refine T.D_l_gcd.F.ok sc_l_gcd (fun vs H Q E h => ?_) (fun cdv A outer s H vs Q E hr h => ?_)
  · obtain ⟨a, b, rfl, _⟩ := h
    rfl
  · obtain ⟨a, b, rfl, ha, hb, k⟩ := h
    refine ⟨_, (pss_cons (ps_set (i := 0) sc_l_gcd.nd rfl (Or.inl rfl) (pe_callB call_abs (by rfl) T.abs PyProof.Rows.boot_abs (pa_cons (pv 0) pa_nil)))
    (pss_cons (ps_set (i := 1) sc_l_gcd.nd rfl (Or.inl rfl) (pe_callB call_abs (by rfl) T.abs PyProof.Rows.boot_abs (pa_cons (pv 1) pa_nil)))
    (pss_cons (ps_for PassesOwn.never rfl (pi_range1 rfl T.range (pa_cons pe_int pa_nil)) (pg_name (i := 2) sc_l_gcd.nd rfl (Or.inl rfl)) (pss_cons (ps_if (pt_cmpR op_eq (pv 1) pe_int (nomark _)) (pss_one ps_break) pss_nil)
    (pss_one (ps_par (i := 0) (j := 1) (by rfl) sc_l_gcd.nd rfl rfl (by decide) rfl rfl (pa_cons (pv 1) (pa_cons (pe_op op_mod (pe_callTy call_int1 (by rfl) T.int PyProof.Rows.boot_int (pa_cons (pv 0) pa_nil)) (pv 1)) pa_nil)) (by rfl)))))
    (pss_one (ps_ret (pv 0)))))), ?_⟩
    refine ⟨_, rfl, _, rfl, ?_⟩
    refine ⟨_, rfl, _, rfl, ?_⟩
    refine ⟨40000, rfl, by decide, by decide, for_range (lo := 0) (n := 40000) (fun i σ H' => H' = H ∧ ∃ (x y : Nat) (v : Option V), σ = [some (.int (x : Int)), some (.int (y : Int)), v] ∧ GcdI 19000 (Nat.gcd a.natAbs b.natAbs) i x y)
      ⟨rfl, a.natAbs, b.natAbs, none, by rw [abs_eq, abs_eq]; rfl, rfl, .inl ⟨rfl, ha, hb⟩⟩ ?_ ?_⟩
    · rintro i σ H' hi ⟨rfl, x, y, v, rfl, g⟩
      refine ⟨_, rfl, rfl, _, rfl, ite2 (fun hz => ?_) (fun hz => ?_)⟩
      · have hy : y = 0 := by
          have h1 := of_decide_eq_true hz
          injection h1 with h2
          omega
        subst hy
        have e : x = Nat.gcd a.natAbs b.natAbs := by
          have := g.1
          rw [Nat.gcd_zero_right] at this
          exact this
        refine ⟨_, rfl, ?_⟩
        rw [e]
        exact k
      · have hy : y ≠ 0 := fun q => hz (by subst q; exact decide_eq_true rfl)
        refine ⟨_, rfl, _, rfl, .inl ⟨_, rfl, _, rfl, _, _, rfl, rfl, (by show (0 : Int) < (y : Int); omega), ?_⟩⟩
        exact ⟨_, _, rfl, rfl, y, x % y, _, rfl, gcdI_step g hy⟩
    · rintro σ H' ⟨rfl, x, y, v, rfl, g⟩
      refine ⟨_, rfl, ?_⟩
      rw [gcdI_end g (by decide)]
      exact k
theorem ok_l_low (T : Txt K mg) : FnOk P w K mg base CX0 2 T.f_l_low T.fd_l_low ["n", "d"] (spPair fun n d => (lo1 n d, lo2 n d)) := by
  refine T.D_l_low.F.ok sc_l_low (fun vs H Q E h => ?_) (fun cdv A outer s H vs Q E hr h => ?_)
  · obtain ⟨n, d, rfl, _⟩ := h
    rfl
  · obtain ⟨n, d, rfl, hd, hn, hb, k⟩ := h
    have low : ∀ g : Int, g = sg n d → (tRet (tTup (tCons (tOp (rI CDivZ fun i j => .int (i.fdiv j)) (tVar 0) (tVar 2)) (tCons (tOp (rI CDivZ fun i j => .int (i.fdiv j)) (tVar 1) (tVar 2)) tNil)))) { nx := fun _ H' => Q .non H', rt := Q } [some (.int n), some (.int d), some (.int g)] H := by
      rintro g rfl
      have c : ∀ x, CDivZ x (sg n d) := fun x => cdivz (sg_ne hd) (sg_size hd hb) (Nat.le_refl _)
      refine ⟨_, rfl, _, rfl, _, _, rfl, rfl, c _, _, rfl, _, rfl, _, _, rfl, rfl, c _, (by show 2 ≤ sizeLine; decide), fun p hp => ?_⟩
      exact k p _ (same_new hp) hp upd_same
    refine ⟨_, (pss_cons (ps_set (i := 2) sc_l_low.nd rfl (Or.inl rfl) (pe_call (ok_l_gcd T) (hr.mono (by omega)) rfl T.D_l_gcd.g T.D_l_gcd.F.kp T.D_l_gcd.b .nil pass0 (pa_cons (pv 0) (pa_cons (pv 1) pa_nil))))
    (pss_cons (ps_if (pt_cmpR op_lt (pv 1) pe_int (nomark _)) (pss_one (ps_set (i := 2) sc_l_low.nd rfl (Or.inl rfl) (pe_op op_sub pe_int (pv 2)))) pss_nil)
    (pss_one (ps_ret (pe_tup (pa_cons (pe_op op_fdivZ (pv 0) (pv 2)) (pa_cons (pe_op op_fdivZ (pv 1) (pv 2)) pa_nil))))))), ?_⟩
    refine ⟨_, rfl, _, rfl, n, d, rfl, Nat.lt_of_lt_of_le hn (Nat.pow_le_pow_right (by decide) (by decide)), Nat.lt_of_lt_of_le hb (Nat.pow_le_pow_right (by decide) (by decide)), ?_⟩
    refine ⟨_, rfl, _, _, rfl, rfl, _, rfl, iteD (fun hneg => ?_) (fun hneg => ?_)⟩
    · refine ⟨_, rfl, _, _, rfl, rfl, ?_⟩
      exact low _ (by unfold sg; rw [if_pos hneg]; omega)
    · exact low _ (by unfold sg; rw [if_neg hneg])
end
section
variable {P : Program} {w : World} {K : PySem.W.Frag} {mg : Str → Option Value} {base : Heap}
theorem ok_is_whole (T : Txt K mg) : FnOk P w K mg base CX0 1 T.f_is_whole T.fd_is_whole ["value"] (spWhole K) := by
  refine T.D_is_whole.F.ok sc_is_whole (fun vs H Q E h => ?_) (fun cdv A outer s H vs Q E hr h => ?_)
  · obtain ⟨x, t, rfl, _⟩ := h
    rfl
  · obtain ⟨x, t, rfl, ty, mem, k⟩ := h
    refine ⟨_, (pss_one (ps_ret (pe_and (pe_callB call_isi (by rfl) T.isinstance PyProof.Rows.boot_isinstance (pa_cons (pv 0) (pa_cons (pe_bltn (v := .ty "int") (by rfl) T.int PyProof.Rows.boot_int rfl) pa_nil))) (pe_one (pe_not (pe_callB call_isi (by rfl) T.isinstance PyProof.Rows.boot_isinstance (pa_cons (pv 0) (pa_cons (pe_bltn (v := .ty "bool") (by rfl) T.bool PyProof.Rows.boot_bool rfl) pa_nil)))))))), ?_⟩
    simp only [tys, List.mem_cons, List.not_mem_nil, or_false] at mem
    rcases mem with rfl | rfl | rfl | rfl | rfl | rfl
    · exact ⟨_, rfl, _, _, _, _, true, rfl, .ty "int", ty, kit_ty (by decide +kernel), true, rfl, iteT ⟨_, rfl, _, _, _, _, false, rfl, .ty "bool", ty, kit_ty (by decide +kernel), false, rfl, k⟩⟩
    · exact ⟨_, rfl, _, _, _, _, true, rfl, .ty "int", ty, kit_ty (by decide +kernel), true, rfl, iteT ⟨_, rfl, _, _, _, _, true, rfl, .ty "bool", ty, kit_ty (by decide +kernel), true, rfl, k⟩⟩
    all_goals exact ⟨_, rfl, _, _, _, _, false, rfl, .ty "int", ty, kit_ty (by decide +kernel), false, rfl, iteF k⟩
/-- is_rational, by what stands in x -/
inductive RatV (K : PySem.W.Frag) (H : Hp) : V → Bool → Prop where
  | other {x : V} {t : String} (ty : TyX K H x (.type t)) (m : t ∈ tys) (n : t ≠ "tuple") : RatV K H x false
  | size {a : Addr} {xs : List V} (h : H a = some (.tup xs)) (n : (xs.length : Int) ≠ 2) : RatV K H (.ref a) false
  | left {a : Addr} {x y : V} {t : String} (h : H a = some (.tup [x, y])) (ty : TyX K H x (.type t)) (m : t ∈ tys) (n : t ≠ "int") : RatV K H (.ref a) false
  | right {a : Addr} {x : Int} {y : V} {t : String} (h : H a = some (.tup [.int x, y])) (ty : TyX K H y (.type t)) (m : t ∈ tys) (n : t ≠ "int") : RatV K H (.ref a) false
  | pair {a : Addr} {n d : Int} (h : H a = some (.tup [.int n, .int d])) : RatV K H (.ref a) (decide (1 ≤ d) && decide (Nat.gcd n.natAbs d.natAbs = 1))
def spIsRat (K : PySem.W.Frag) : Sp := fun vs H Q _ => ∃ (x : V) (b : Bool), vs = [x] ∧ RatV K H x b ∧ Q (.bl b) H
theorem ok_is_rational (T : Txt K mg) : FnOk P w K mg base CX0 2 T.f_is_rational T.fd_is_rational ["x"] (spIsRat K) := by
  refine T.D_is_rational.F.ok sc_is_rational (fun vs H Q E h => ?_) (fun cdv A outer s H vs Q E hr h => ?_)
  · obtain ⟨x, b, rfl, _⟩ := h
    rfl
  · obtain ⟨x, b, rfl, hR, k⟩ := h
    refine ⟨_, (pss_cons (ps_if (PW.pt (pw_or (pt_not (pt_val (pe_callB call_isi (by rfl) T.isinstance PyProof.Rows.boot_isinstance (pa_cons (pv 0) (pa_cons (pe_bltn (v := .ty "tuple") (by rfl) T.tuple PyProof.Rows.boot_tuple rfl) pa_nil))))) (pw_or1 (pt_cmpR op_ne (pe_callB call_len_seq (by rfl) T.len PySem.boot_len (pa_cons (pv 0) pa_nil)) pe_int (nomark _))))) (pss_one (ps_ret pe_bl)) pss_nil)
    (pss_cons (ps_asg (pv 0) (pg_tup (by rfl) (pgs_cons (pg_name (i := 1) sc_is_rational.nd rfl (Or.inl rfl)) (pgs_cons (pg_name (i := 2) sc_is_rational.nd rfl (Or.inl rfl)) pgs_nil))))
    (pss_one (ps_ret (pe_and (pe_call (ok_is_whole T) (hr.mono (by omega)) rfl T.D_is_whole.g T.D_is_whole.F.kp T.D_is_whole.b .nil pass0 (pa_cons (pv 1) pa_nil)) (pe_and (pe_call (ok_is_whole T) (hr.mono (by omega)) rfl T.D_is_whole.g T.D_is_whole.F.kp T.D_is_whole.b .nil pass0 (pa_cons (pv 2) pa_nil)) (pe_and (pe_cmpR op_ge (pv 2) pe_int (nomark _)) (pe_one (pe_cmpR op_eq (pe_callBfun cr_gcd (by rfl) T.gcd (pa_cons (pv 1) (pa_cons (pv 2) pa_nil))) pe_int (nomark _)))))))))), ?_⟩
    have mi : "int" ∈ tys := by decide
    cases hR with
    | other ty m n =>
      rename_i t
      refine ⟨_, rfl, _, _, _, _, false, rfl, .ty "tuple", ty, kit_ty ?_, false, rfl, iteT (iteT k)⟩
      simp only [tys, List.mem_cons, List.not_mem_nil, or_false] at m
      rcases m with rfl | rfl | rfl | rfl | rfl | rfl
      all_goals first | exact absurd rfl n | decide +kernel
    | size h n =>
      refine ⟨_, rfl, _, _, _, _, true, rfl, .ty "tuple", ty_tup h, kit_ty (by decide +kernel), true, rfl, iteF ⟨_, rfl, _, _, rfl, .inr (SqT.of h), rfl, _, rfl, iteN1 (fun e => n ?_) k⟩⟩
      injection e
    | left h ty m n =>
      refine ⟨_, rfl, _, _, _, _, true, rfl, .ty "tuple", ty_tup h, kit_ty (by decide +kernel), true, rfl, iteF ⟨_, rfl, _, _, rfl, .inr (SqT.of h), rfl, _, rfl, iteNS rfl ?_⟩⟩
      refine ⟨_, rfl, _, _, rfl, SqT.of h, rfl, _, _, rfl, _, _, rfl, rfl, ?_⟩
      refine ⟨_, rfl, _, _, rfl, ty, m, _, rfl, iteD0 n k⟩
    | right h ty m n =>
      refine ⟨_, rfl, _, _, _, _, true, rfl, .ty "tuple", ty_tup h, kit_ty (by decide +kernel), true, rfl, iteF ⟨_, rfl, _, _, rfl, .inr (SqT.of h), rfl, _, rfl, iteNS rfl ?_⟩⟩
      refine ⟨_, rfl, _, _, rfl, SqT.of h, rfl, _, _, rfl, _, _, rfl, rfl, ?_⟩
      refine ⟨_, rfl, _, _, rfl, ty_int _, mi, _, rfl, iteD1 rfl ⟨_, rfl, _, _, rfl, ty, m, _, rfl, iteD0 n k⟩⟩
    | pair h =>
      rename_i a n d
      refine ⟨_, rfl, _, _, _, _, true, rfl, .ty "tuple", ty_tup h, kit_ty (by decide +kernel), true, rfl, iteF ⟨_, rfl, _, _, rfl, .inr (SqT.of h), rfl, _, rfl, iteNS rfl ?_⟩⟩
      refine ⟨_, rfl, _, _, rfl, SqT.of h, rfl, _, _, rfl, _, _, rfl, rfl, ?_⟩
      refine ⟨_, rfl, _, _, rfl, ty_int _, mi, _, rfl, iteD1 rfl ⟨_, rfl, _, _, rfl, ty_int _, mi, _, rfl, iteD1 rfl ⟨_, rfl, _, _, rfl, rfl, _, rfl, iteD (fun h1 => ?_) (fun h1 => ?_)⟩⟩⟩
      · refine ⟨_, rfl, _, rfl, n, d, rfl, rfl, ?_⟩
        have e : decide (V.int ((Nat.gcd n.natAbs d.natAbs : Nat) : Int) = V.int 1) = (decide (1 ≤ d) && decide (Nat.gcd n.natAbs d.natAbs = 1)) := by
          rw [decide_eq_true h1, Bool.true_and]
          refine decide_eq_decide.mpr ⟨fun q => ?_, fun q => by rw [q]; rfl⟩
          injection q with q'
          omega
        rw [e]
        exact k
      · rw [decide_eq_false h1, Bool.false_and] at k
        exact k
end
/-! ### rationals -/
/-- two pairs of ints in, one new pair in lowest terms out -/
def spBin (N D : Int → Int → Int → Int → Int) : Sp := fun vs H Q _ => ∃ (p q : Addr) (a b c d : Int), vs = [.ref p, .ref q] ∧ H p = some (.tup [.int a, .int b]) ∧ H q = some (.tup [.int c, .int d]) ∧
  D a b c d ≠ 0 ∧ a.natAbs < 2 ^ 4000 ∧ b.natAbs < 2 ^ 4000 ∧ c.natAbs < 2 ^ 4000 ∧ d.natAbs < 2 ^ 4000 ∧
  ∀ (r : Addr) (H' : Hp), Same H H' → H r = none → H' r = some (.tup [.int (lo1 (N a b c d) (D a b c d)), .int (lo2 (N a b c d) (D a b c d))]) → Q (.ref r) H'
def nPlus (a b c d : Int) : Int := a * d + c * b
def nMinus (a b c d : Int) : Int := a * d - c * b
def nTimes (a _ c _ : Int) : Int := a * c
def dBoth (_ b _ d : Int) : Int := b * d
theorem add_up {i j : Int} (a : Nat) {c : Nat} (ha : i.natAbs < 2 ^ a) (hb : j.natAbs < 2 ^ a) (hc : a + 1 ≤ c := by decide) : (i + j).natAbs < 2 ^ c := by
  have h := Int.natAbs_add_le i j
  have e : 2 ^ (a + 1) = 2 ^ a + 2 ^ a := by rw [Nat.pow_succ]; omega
  exact Nat.lt_of_lt_of_le (by omega : (i + j).natAbs < 2 ^ (a + 1)) (Nat.pow_le_pow_right (by decide) hc)
theorem sub_up {i j : Int} (a : Nat) {c : Nat} (ha : i.natAbs < 2 ^ a) (hb : j.natAbs < 2 ^ a) (hc : a + 1 ≤ c := by decide) : (i - j).natAbs < 2 ^ c := by
  rw [Int.sub_eq_add_neg]
  exact add_up a ha (by rw [Int.natAbs_neg]; exact hb) hc
/-- a draw of a rational with a part below top, the other one to most -/
def spDraw : Sp := fun vs H Q _ => ∃ (s : Addr) (t m : Int), vs = [.ref s, .int t, .int m] ∧ Strm H s ∧ 0 < t ∧ 0 < m ∧ t.natAbs < 2 ^ 1000 ∧ m.natAbs < 2 ^ 1000 ∧
  ∀ (p : Addr) (H' : Hp) (n d : Int), 1 ≤ d → Nat.gcd n.natAbs d.natAbs = 1 → n.natAbs ≤ t.natAbs → d ≤ m → Strm H' s → Keep s H H' → H p = none → p ≠ s → H' p = some (.tup [.int n, .int d]) → Q (.ref p) H'
section
variable {P : Program} {w : World} {K : PySem.W.Frag} {mg : Str → Option Value} {base : Heap}
theorem ok_l_ratio (T : Txt K mg) : FnOk P w K mg base CX0 3 T.f_l_ratio T.fd_l_ratio ["stream", "top", "most"] spDraw := by
  refine T.D_l_ratio.F.ok sc_l_ratio (fun vs H Q E h => ?_) (fun cdv A outer s H vs Q E hr h => ?_)
  · obtain ⟨s, t, m, rfl, _⟩ := h
    rfl
  · obtain ⟨s, t, m, rfl, hs, ht, hm, bt, bm, k⟩ := h
    have b2 : (2 * t + 1).natAbs < 2 ^ 1003 := add_up 1002 (mul_up 2 1000 (show (2 : Int).natAbs < 2 ^ 2 by decide) bt) (up 1 (by decide))
    refine ⟨_, (pss_cons (ps_set (i := 3) sc_l_ratio.nd rfl (Or.inl rfl) (pe_op op_sub (pe_call (ok_l_next T) (hr.mono (by omega)) rfl T.D_l_next.g T.D_l_next.F.kp T.D_l_next.b .nil pass0 (pa_cons (pv 0) (pa_cons (pe_op op_add (pe_op op_mul pe_int (pv 1)) pe_int) pa_nil))) (pv 1)))
    (pss_one (ps_ret (pe_call (ok_l_low T) (hr.mono (by omega)) rfl T.D_l_low.g T.D_l_low.F.kp T.D_l_low.b .nil pass0 (pa_cons (pv 3) (pa_cons (pe_op op_add pe_int (pe_call (ok_l_next T) (hr.mono (by omega)) rfl T.D_l_next.g T.D_l_next.F.kp T.D_l_next.b .nil pass0 (pa_cons (pv 0) (pa_cons (pv 2) pa_nil)))) pa_nil)))))), ?_⟩
    refine ⟨_, rfl, _, rfl, _, _, rfl, rfl, .inl ⟨by decide, by decide⟩, _, _, rfl, rfl, s, 2 * t + 1, rfl, hs, by omega, up 1003 b2, fun d0 H1 a0 b0 hs1 k1 => ?_⟩
    refine ⟨_, rfl, _, _, rfl, rfl, ?_⟩
    refine ⟨_, rfl, _, rfl, _, rfl, s, m, rfl, hs1, hm, up 1000 bm, fun d1 H2 a1 b1 hs2 k2 => ⟨_, _, rfl, rfl, ?_⟩⟩
    have nz : (1 + d1 : Int) ≠ 0 := by omega
    have bn : (d0 - t).natAbs ≤ t.natAbs := by omega
    have bd : (1 + d1).natAbs ≤ m.natAbs := by omega
    refine ⟨d0 - t, 1 + d1, rfl, nz, up 1000 (Nat.lt_of_le_of_lt bn bt), up 1000 (Nat.lt_of_le_of_lt bd bm), fun p H3 e3 hn hp => ?_⟩
    have hk := k1.trans k2
    have f : ∀ {b : Addr} {o : HO}, H b = some o → b ≠ s → H3 b = some o := fun h n => e3 _ _ (hk _ _ h n)
    have ps : p ≠ s := by
      obtain ⟨_, _, _, _, h, _⟩ := hs2
      exact (ne_of_none h hn).symm
    refine k p H3 _ _ (lo2_pos nz) (lo_gcd nz) (Nat.le_trans (lo1_size nz) bn) ?_ (hs2.same e3) (fun b o h n => f h n) ?_ ps hp
    · have h1 := lo2_size (n := d0 - t) nz
      have h2 := lo2_pos (n := d0 - t) nz
      omega
    · cases z : H p with
      | none => rfl
      | some o =>
        rw [hk _ _ z ps] at hn
        cases hn
end
/-! ### squares -/
def isSq (n : Int) : Prop := ∃ r : Int, 0 ≤ r ∧ r * r = n
theorem sq_mono {a b : Int} (h0 : 0 ≤ a) (h : a ≤ b) : a * a ≤ b * b := Int.mul_self_le_mul_self h0 h
theorem root_uniq {n r q : Int} (r0 : 0 ≤ r) (q0 : 0 ≤ q) (r1 : r * r ≤ n) (r2 : n < (r + 1) * (r + 1)) (q1 : q * q ≤ n) (q2 : n < (q + 1) * (q + 1)) : r = q := by
  rcases (show r < q ∨ r = q ∨ q < r by omega) with h | h | h
  · have := sq_mono (show 0 ≤ r + 1 by omega) (show r + 1 ≤ q by omega)
    omega
  · exact h
  · have := sq_mono (show 0 ≤ q + 1 by omega) (show q + 1 ≤ r by omega)
    omega
theorem root_size {n r : Int} {a : Nat} (r0 : 0 ≤ r) (r1 : r * r ≤ n) (hn : n.natAbs < 2 ^ (a + a)) : r.natAbs < 2 ^ a := by
  rcases (show r.natAbs < 2 ^ a ∨ 2 ^ a ≤ r.natAbs by omega) with h | h
  · exact h
  · exfalso
    have h1 : 2 ^ a * 2 ^ a ≤ r.natAbs * r.natAbs := Nat.mul_le_mul h h
    rw [← Nat.pow_add, ← Int.natAbs_mul] at h1
    have h2 : 0 ≤ r * r := Int.mul_nonneg r0 r0
    omega
theorem two_sq : ∀ (r s : Nat), r * r = 2 * (s * s) → s = 0 := by
  intro r
  induction r using Nat.strongRecOn with
  | _ r ih =>
    intro s h
    have he : r % 2 = 0 := by
      have h1 : (r * r) % 2 = 0 := by rw [h]; exact Nat.mul_mod_right 2 _
      rw [Nat.mul_mod] at h1
      rcases (show r % 2 = 0 ∨ r % 2 = 1 by omega) with z | z
      · exact z
      · rw [z] at h1; cases h1
    obtain ⟨t, ht⟩ : ∃ t, r = 2 * t := ⟨r / 2, by omega⟩
    subst ht
    have h2 : s * s = 2 * (t * t) := by
      have e : 2 * t * (2 * t) = 2 * (2 * (t * t)) := by
        rw [Nat.mul_assoc, Nat.mul_left_comm t 2 t]
      rw [e] at h
      omega
    by_cases z : s = 0
    · exact z
    · exfalso
      have hlt : s < 2 * t := by
        rcases (show s < 2 * t ∨ 2 * t ≤ s by omega) with q | q
        · exact q
        · exfalso
          have h3 := Nat.mul_le_mul q q
          rw [h] at h3
          have : 0 < s * s := Nat.mul_pos (by omega) (by omega)
          omega
      have ht0 := ih s hlt t h2
      rw [ht0] at hlt
      omega
theorem two_not_sq {f : Int} (h0 : 0 < f) (h : isSq f) : ¬ isSq (f * 2) := by
  rintro ⟨r, hr, er⟩
  obtain ⟨s, hs, es⟩ := h
  have h1 : r.natAbs * r.natAbs = 2 * (s.natAbs * s.natAbs) := by
    rw [← Int.natAbs_mul, ← Int.natAbs_mul, er, es]
    omega
  have h2 := two_sq _ _ h1
  have h3 : s = 0 := by omega
  rw [h3] at es
  omega
/-! ### pairs in lowest terms -/
abbrev Q2 := Int × Int
def RatAt (H : Hp) (p : Addr) (q : Q2) : Prop := H p = some (.tup [.int q.1, .int q.2])
def EltAt (H : Hp) (e : Addr) (x y : Q2) : Prop := ∃ px py, H e = some (.tup [.ref px, .ref py]) ∧ RatAt H px x ∧ RatAt H py y
theorem EltAt.same {H H' : Hp} {e : Addr} {x y : Q2} (s : Same H H') (h : EltAt H e x y) : EltAt H' e x y := by
  obtain ⟨px, py, h1, h2, h3⟩ := h
  exact ⟨px, py, s _ _ h1, s _ _ h2, s _ _ h3⟩
def Sm (n : Nat) (q : Q2) : Prop := 1 ≤ q.2 ∧ q.1.natAbs < 2 ^ n ∧ q.2.natAbs < 2 ^ n
theorem Sm.up {n : Nat} (m : Nat) {q : Q2} (h : Sm n q) (hm : n ≤ m := by decide) : Sm m q := ⟨h.1, Odds.up n h.2.1 hm, Odds.up n h.2.2 hm⟩
def qPlus (x y : Q2) : Q2 := (lo1 (nPlus x.1 x.2 y.1 y.2) (dBoth x.1 x.2 y.1 y.2), lo2 (nPlus x.1 x.2 y.1 y.2) (dBoth x.1 x.2 y.1 y.2))
def qMinus (x y : Q2) : Q2 := (lo1 (nMinus x.1 x.2 y.1 y.2) (dBoth x.1 x.2 y.1 y.2), lo2 (nMinus x.1 x.2 y.1 y.2) (dBoth x.1 x.2 y.1 y.2))
def qTimes (x y : Q2) : Q2 := (lo1 (nTimes x.1 x.2 y.1 y.2) (dBoth x.1 x.2 y.1 y.2), lo2 (nTimes x.1 x.2 y.1 y.2) (dBoth x.1 x.2 y.1 y.2))
theorem Sm.den {n m : Nat} {x y : Q2} (hx : Sm n x) (hy : Sm m y) : dBoth x.1 x.2 y.1 y.2 ≠ 0 := Int.mul_ne_zero (by have := hx.1; omega) (by have := hy.1; omega)
theorem sm_lo {n : Nat} {N D : Int} (h : D ≠ 0) (hN : N.natAbs < 2 ^ n) (hD : D.natAbs < 2 ^ n) : Sm n (lo1 N D, lo2 N D) :=
  ⟨lo2_pos h, Nat.lt_of_le_of_lt (lo1_size h) hN, Nat.lt_of_le_of_lt (lo2_size h) hD⟩
theorem Sm.plus {n : Nat} {x y : Q2} (hx : Sm n x) (hy : Sm n y) : Sm (n + n + 1) (qPlus x y) :=
  sm_lo (hx.den hy) (add_up (n + n) (mul_up n n hx.2.1 hy.2.2 (Nat.le_refl _)) (mul_up n n hy.2.1 hx.2.2 (Nat.le_refl _)) (Nat.le_refl _)) (mul_up n n hx.2.2 hy.2.2 (Nat.le_succ _))
theorem Sm.minus {n : Nat} {x y : Q2} (hx : Sm n x) (hy : Sm n y) : Sm (n + n + 1) (qMinus x y) :=
  sm_lo (hx.den hy) (sub_up (n + n) (mul_up n n hx.2.1 hy.2.2 (Nat.le_refl _)) (mul_up n n hy.2.1 hx.2.2 (Nat.le_refl _)) (Nat.le_refl _)) (mul_up n n hx.2.2 hy.2.2 (Nat.le_succ _))
theorem Sm.times {n m : Nat} {x y : Q2} (hx : Sm n x) (hy : Sm m y) : Sm (n + m) (qTimes x y) :=
  sm_lo (hx.den hy) (mul_up n m hx.2.1 hy.2.1 (Nat.le_refl _)) (mul_up n m hx.2.2 hy.2.2 (Nat.le_refl _))
theorem qPlus_comm (x y : Q2) : qPlus x y = qPlus y x := by
  have e1 : nPlus x.1 x.2 y.1 y.2 = nPlus y.1 y.2 x.1 x.2 := by unfold nPlus; rw [Int.add_comm]
  have e2 : dBoth x.1 x.2 y.1 y.2 = dBoth y.1 y.2 x.1 x.2 := by unfold dBoth; rw [Int.mul_comm]
  unfold qPlus
  rw [e1, e2]
theorem qTimes_comm (x y : Q2) : qTimes x y = qTimes y x := by
  have e1 : nTimes x.1 x.2 y.1 y.2 = nTimes y.1 y.2 x.1 x.2 := by unfold nTimes; rw [Int.mul_comm]
  have e2 : dBoth x.1 x.2 y.1 y.2 = dBoth y.1 y.2 x.1 x.2 := by unfold dBoth; rw [Int.mul_comm]
  unfold qTimes
  rw [e1, e2]
theorem qMinus_neg (x y : Q2) : qMinus x y = qPlus x (0 - y.1, y.2) := by
  have e1 : nMinus x.1 x.2 y.1 y.2 = nPlus x.1 x.2 (0 - y.1) y.2 := by
    unfold nMinus nPlus
    rw [Int.sub_mul, Int.zero_mul, Int.zero_sub, Int.sub_eq_add_neg]
  have e2 : dBoth x.1 x.2 y.1 y.2 = dBoth x.1 x.2 (0 - y.1) y.2 := rfl
  unfold qMinus qPlus
  rw [e1, e2]
/-- two rationals in, a new one out, by pairs -/
@[irreducible] def spQ (F : Q2 → Q2 → Q2) : Sp := fun vs H Q _ => ∃ (p q : Addr) (x y : Q2), vs = [.ref p, .ref q] ∧ RatAt H p x ∧ RatAt H q y ∧ Sm 4000 x ∧ Sm 4000 y ∧
  ∀ (r : Addr) (H' : Hp), Same H H' → H r = none → RatAt H' r (F x y) → Q (.ref r) H'
theorem b_q {F : Q2 → Q2 → Q2} {H : Hp} {Q : VK} {E : XK} {p q : Addr} {x y : Q2} (hp : RatAt H p x) (hq : RatAt H q y) (hx : Sm 4000 x) (hy : Sm 4000 y) (k : ∀ (r : Addr) (H' : Hp), Same H H' → H r = none → RatAt H' r (F x y) → Q (.ref r) H') :
    spQ F [.ref p, .ref q] H Q E := by
  unfold spQ
  exact ⟨p, q, x, y, rfl, hp, hq, hx, hy, k⟩
theorem q_bin {N : Int → Int → Int → Int → Int} {F : Q2 → Q2 → Q2} (hF : ∀ x y : Q2, F x y = (lo1 (N x.1 x.2 y.1 y.2) (dBoth x.1 x.2 y.1 y.2), lo2 (N x.1 x.2 y.1 y.2) (dBoth x.1 x.2 y.1 y.2)))
    (vs : List V) (H : Hp) (Q : VK) (E : XK) (h : spQ F vs H Q E) : spBin N dBoth vs H Q E := by
  unfold spQ at h
  obtain ⟨p, q, x, y, rfl, hp, hq, hx, hy, k⟩ := h
  exact ⟨p, q, x.1, x.2, y.1, y.2, rfl, hp, hq, hx.den hy, hx.2.1, hx.2.2, hy.2.1, hy.2.2, fun r H' e n h => k r H' e n (by unfold RatAt; rw [hF]; exact h)⟩
/-- two elements in, a new element out -/
def spElt2 (m : Nat) (F : Int → Q2 → Q2 → Q2 → Q2 → Q2 × Q2) : Sp := fun vs H Q _ => ∃ (f : Int) (a b : Addr) (x y z w : Q2), vs = [.int f, .ref a, .ref b] ∧ EltAt H a x y ∧ EltAt H b z w ∧ Sm m x ∧ Sm m y ∧ Sm m z ∧ Sm m w ∧ f.natAbs < 2 ^ 100 ∧
  ∀ (r : Addr) (H' : Hp), Same H H' → EltAt H' r (F f x y z w).1 (F f x y z w).2 → Q (.ref r) H'
def fMul (f : Int) (x y z w : Q2) : Q2 × Q2 := (qPlus (qTimes x z) (qTimes (f, 1) (qTimes y w)), qPlus (qTimes x w) (qTimes y z))
theorem sm_int {f : Int} {n : Nat} (h : f.natAbs < 2 ^ n) (hn : n ≠ 0 := by decide) : Sm n (f, 1) := ⟨Int.le_refl 1, h, Nat.one_lt_two_pow hn⟩
def spRoot : Sp := fun vs H Q _ => ∃ n : Int, vs = [.int n] ∧ 0 ≤ n ∧ n.natAbs < 2 ^ 7900 ∧ ∀ r : Int, 0 ≤ r → r * r ≤ n → n < (r + 1) * (r + 1) → Q (.int r) H
def spSq : Sp := fun vs H Q _ => ∃ n : Int, vs = [.int n] ∧ 0 ≤ n ∧ n.natAbs < 2 ^ 7900 ∧ ∀ b : Bool, (b = true ↔ isSq n) → Q (.bl b) H
def spField : Sp := fun vs H Q _ => ∃ s : Addr, vs = [.ref s] ∧ Strm H s ∧ ∀ (f : Int) (H' : Hp), (f = 0 ∨ (0 < f ∧ ¬ isSq f)) → f.natAbs < 2 ^ 60 → Strm H' s → Keep s H H' → Q (.int f) H'
/-- a drawn element -/
def spElem : Sp := fun vs H Q _ => ∃ (s : Addr) (f t m : Int), vs = [.ref s, .int f, .int t, .int m] ∧ Strm H s ∧ 0 < t ∧ 0 < m ∧ t.natAbs < 2 ^ 100 ∧ m.natAbs < 2 ^ 100 ∧
  ∀ (e px py : Addr) (H' : Hp) (x y : Q2), Sm 100 x → Sm 100 y → Nat.gcd x.1.natAbs x.2.natAbs = 1 → Nat.gcd y.1.natAbs y.2.natAbs = 1 → (f = 0 → y = (0, 1)) → x.1.natAbs ≤ t.natAbs → y.1.natAbs ≤ t.natAbs → x.2 ≤ m → y.2 ≤ m →
    Strm H' s → Keep s H H' → e ≠ s → px ≠ s → py ≠ s → H' e = some (.tup [.ref px, .ref py]) → RatAt H' px x → RatAt H' py y → Q (.ref e) H'
theorem Strm.ne {H : Hp} {s b : Addr} (h : Strm H s) (n : H b = none) : b ≠ s := by
  obtain ⟨_, _, _, _, h1, _⟩ := h
  exact (ne_of_none h1 n).symm
section
variable {P : Program} {w : World} {K : PySem.W.Frag} {mg : Str → Option Value} {base : Heap}
end
section
variable {P : Program} {w : World} {K : PySem.W.Frag} {mg : Str → Option Value} {base : Heap}
theorem ok_l_root (T : Txt K mg) : FnOk P w K mg base CX0 1 T.f_l_root T.fd_l_root ["n"] spRoot := by
  refine T.D_l_root.F.ok sc_l_root (fun vs H Q E h => ?_) (fun cdv A outer s H vs Q E hr h => ?_)
  · obtain ⟨n, rfl, _⟩ := h
    rfl
  · obtain ⟨n, rfl, h0, hb, k⟩ := h
    have pw : ∀ i : Nat, i ≤ 4000 → ((2 ^ i : Nat) : Int).natAbs < 2 ^ 4001 := fun i hi => by
      rw [Int.natAbs_natCast]
      exact Nat.pow_lt_pow_right (by decide) (by omega)
    have nlt : n < ((2 ^ 4000 : Nat) : Int) * ((2 ^ 4000 : Nat) : Int) := by
      rw [← Int.natCast_mul, ← Nat.pow_add]
      have : 2 ^ 7900 ≤ 2 ^ (4000 + 4000) := Nat.pow_le_pow_right (by decide) (by decide)
      omega
    refine ⟨_, (pss_cons (ps_set (i := 1) sc_l_root.nd rfl (Or.inl rfl) pe_int)
    (pss_cons (ps_set (i := 2) sc_l_root.nd rfl (Or.inl rfl) pe_int)
    (C8.pss_cut (ps_for PassesOwn.never rfl (pi_range1 rfl T.range (pa_cons pe_int pa_nil)) (pg_name (i := 3) sc_l_root.nd rfl (Or.inl rfl)) (pss_cons (ps_if (pt_cmpR op_gt (pe_op op_mulW (pv 2) (pv 2)) (pv 0) (nomark _)) (pss_one ps_break) pss_nil)
    (pss_one (ps_set (i := 2) sc_l_root.nd rfl (Or.inl rfl) (pe_op op_mul (pv 2) pe_int)))))
    (C8.pss_cut (ps_for PassesOwn.never rfl (pi_range1 rfl T.range (pa_cons pe_int pa_nil)) (pg_name (i := 3) sc_l_root.nd rfl (Or.inl rfl)) (pss_cons (ps_if (pt_cmpR op_lt (pe_op op_sub (pv 2) (pv 1)) pe_int (nomark _)) (pss_one ps_break) pss_nil)
    (pss_cons (ps_set (i := 4) sc_l_root.nd rfl (Or.inl rfl) (pe_op op_fdiv (pe_op op_add (pv 1) (pv 2)) pe_int))
    (pss_one (ps_if (pt_cmpR op_gt (pe_op op_mulW (pv 4) (pv 4)) (pv 0) (nomark _)) (pss_one (ps_set (i := 2) sc_l_root.nd rfl (Or.inl rfl) (pv 4))) (pss_one (ps_set (i := 1) sc_l_root.nd rfl (Or.inl rfl) (pv 4))))))))
    (pss_one (ps_ret (pv 1))))))), ?_⟩
    refine ⟨fun σ H' => H' = H ∧ ∃ (i : Nat) (v : Option V), σ = [some (.int n), some (.int 0), some (.int ((2 ^ i : Nat) : Int)), v, none] ∧ i ≤ 4000 ∧ n < ((2 ^ i : Nat) : Int) * ((2 ^ i : Nat) : Int), ?_, ?_⟩
    · refine ⟨4000, rfl, by decide, by decide, for_range (lo := 0) (n := 4000) (fun i σ H' => H' = H ∧ i ≤ 4000 ∧ ∃ v : Option V, σ = [some (.int n), some (.int 0), some (.int ((2 ^ i : Nat) : Int)), v, none]) ⟨rfl, by omega, none, rfl⟩ ?_ ?_⟩
      · rintro i σ H' hi ⟨rfl, _, v, rfl⟩
        refine ⟨_, rfl, _, rfl, _, _, rfl, rfl, cmulw (pw i (by omega)) (pw i (by omega)) (by decide), _, rfl, _, _, rfl, rfl, _, rfl, iteD (fun hgt => ?_) (fun hgt => ?_)⟩
        · exact ⟨rfl, i, _, rfl, by omega, hgt⟩
        · refine ⟨_, rfl, _, _, rfl, rfl, .inr ⟨by decide, by decide⟩, rfl, by omega, some (.int (0 + (i : Int))), ?_⟩
          have e : ((2 ^ i : Nat) : Int) * 2 = ((2 ^ (i + 1) : Nat) : Int) := by
            rw [Nat.pow_succ, Int.natCast_mul]
            rfl
          rw [← e]
          rfl
      · rintro σ H' ⟨rfl, _, v, rfl⟩
        exact ⟨rfl, 4000, v, rfl, by omega, nlt⟩
    rintro σ H' ⟨rfl, i0, v0, rfl, hi0, hn0⟩
    refine ⟨fun σ H'' => H'' = H' ∧ ∃ (lo hi : Int) (v v4 : Option V), σ = [some (.int n), some (.int lo), some (.int hi), v, v4] ∧ 0 ≤ lo ∧ lo * lo ≤ n ∧ n < (lo + 1) * (lo + 1), ?_, ?_⟩
    · refine ⟨4000, rfl, by decide, by decide, for_range (lo := 0) (n := 4000) (fun i σ H'' => H'' = H' ∧ ∃ (lo hi : Int) (v v4 : Option V), σ = [some (.int n), some (.int lo), some (.int hi), v, v4] ∧ 0 ≤ lo ∧ lo < hi ∧ lo * lo ≤ n ∧ n < hi * hi ∧
        hi - lo ≤ ((2 ^ (4000 - i) : Nat) : Int) ∧ hi.natAbs < 2 ^ 4001) ⟨rfl, 0, _, v0, none, rfl, Int.le_refl _, ?_, h0, hn0, ?_, pw i0 hi0⟩ ?_ ?_⟩
      · have := Nat.two_pow_pos i0
        omega
      · have : 2 ^ i0 ≤ 2 ^ (4000 - 0) := Nat.pow_le_pow_right (by decide) (by omega)
        omega
      · rintro i σ H'' hi ⟨rfl, lo, hg, v, v4, rfl, l0, lh, l1, l2, l3, l4⟩
        refine ⟨_, rfl, _, rfl, _, _, rfl, rfl, _, _, rfl, rfl, _, rfl, iteD (fun hlt => ?_) (fun hlt => ?_)⟩
        · have e : hg = lo + 1 := by
            have : hg - lo < 2 := hlt
            omega
          subst e
          exact ⟨rfl, lo, _, _, _, rfl, l0, l1, l2⟩
        · have hge : 2 ≤ hg - lo := by
            have : ¬ hg - lo < 2 := hlt
            omega
          have e2 : 2 ^ (4000 - i) = 2 * 2 ^ (4000 - (i + 1)) := by
            rw [show 4000 - i = (4000 - (i + 1)) + 1 by omega, Nat.pow_succ, Nat.mul_comm]
          have mb : ((lo + hg) / 2).natAbs < 2 ^ 4001 := by omega
          refine ⟨_, rfl, _, rfl, _, _, rfl, rfl, _, _, rfl, rfl, ⟨by decide, by decide⟩, ?_⟩
          refine ⟨_, rfl, _, rfl, _, _, rfl, rfl, cmulw mb mb (by decide), _, rfl, _, _, rfl, rfl, _, rfl, iteD (fun hgt => ?_) (fun hgt => ?_)⟩
          · exact ⟨_, rfl, rfl, lo, _, _, _, rfl, l0, by omega, l1, hgt, by omega, mb⟩
          · exact ⟨_, rfl, rfl, _, hg, _, _, rfl, by omega, by omega, Int.not_lt.mp hgt, l2, by omega, l4⟩
      · rintro σ H'' ⟨rfl, lo, hg, v, v4, rfl, l0, lh, l1, l2, l3, l4⟩
        have e : hg = lo + 1 := by
          have : (2 : Nat) ^ (4000 - 4000) = 1 := rfl
          rw [this] at l3
          omega
        subst e
        exact ⟨rfl, lo, _, _, _, rfl, l0, l1, l2⟩
    rintro σ H'' ⟨rfl, lo, hg, v, v4, rfl, l0, l1, l2⟩
    exact ⟨_, rfl, k lo l0 l1 l2⟩
theorem ok_l_is_square (T : Txt K mg) : FnOk P w K mg base CX0 2 T.f_l_is_square T.fd_l_is_square ["n"] spSq := by
  refine T.D_l_is_square.F.ok sc_l_is_square (fun vs H Q E h => ?_) (fun cdv A outer s H vs Q E hr h => ?_)
  · obtain ⟨n, rfl, _⟩ := h
    rfl
  · obtain ⟨n, rfl, h0, hb, k⟩ := h
    refine ⟨_, (pss_one (ps_ret (pe_cmpR op_eq (pe_op op_mulW (pe_call (ok_l_root T) (hr.mono (by omega)) rfl T.D_l_root.g T.D_l_root.F.kp T.D_l_root.b .nil pass0 (pa_cons (pv 0) pa_nil)) (pe_call (ok_l_root T) (hr.mono (by omega)) rfl T.D_l_root.g T.D_l_root.F.kp T.D_l_root.b .nil pass0 (pa_cons (pv 0) pa_nil))) (pv 0) (nomark _)))), ?_⟩
    refine ⟨_, rfl, n, rfl, h0, hb, fun r r0 r1 r2 => ⟨_, rfl, n, rfl, h0, hb, fun q q0 q1 q2 => ?_⟩⟩
    have e := root_uniq q0 r0 q1 q2 r1 r2
    subst e
    have rb : q.natAbs < 2 ^ 3950 := root_size q0 q1 hb
    refine ⟨_, _, rfl, rfl, cmulw rb rb (by decide), _, rfl, rfl, ?_⟩
    refine k _ ⟨fun z => ?_, fun z => ?_⟩
    · have h1 := of_decide_eq_true z
      injection h1 with h2
      exact ⟨q, q0, h2⟩
    · obtain ⟨u, u0, hu⟩ := z
      have e : (u + 1) * (u + 1) = u * u + u + u + 1 := by
        rw [Int.add_mul, Int.mul_add]
        omega
      have : q = u := root_uniq q0 u0 q1 q2 (by omega) (by omega)
      subst this
      exact decide_eq_true (congrArg V.int hu)
end
theorem RatV.no {K : PySem.W.Frag} {H : Hp} {a : Addr} {n d : Int} (h : H a = some (.tup [.int n, .int d])) (e : ¬ (1 ≤ d ∧ Nat.gcd n.natAbs d.natAbs = 1)) : RatV K H (.ref a) false := by
  have r := RatV.pair (K := K) h
  have z : (decide (1 ≤ d) && decide (Nat.gcd n.natAbs d.natAbs = 1)) = false := by
    rw [Bool.and_eq_false_iff]
    by_cases h1 : 1 ≤ d
    · exact .inr (decide_eq_false fun h2 => e ⟨h1, h2⟩)
    · exact .inl (decide_eq_false h1)
  rw [z] at r
  exact r
theorem RatV.yes {K : PySem.W.Frag} {H : Hp} {a : Addr} {n d : Int} (h : H a = some (.tup [.int n, .int d])) (h1 : 1 ≤ d) (h2 : Nat.gcd n.natAbs d.natAbs = 1) : RatV K H (.ref a) true := by
  have r := RatV.pair (K := K) h
  rw [decide_eq_true h1, decide_eq_true h2] at r
  exact r
theorem isSq_nonneg {n : Int} (h : isSq n) : 0 ≤ n := by
  obtain ⟨r, r0, rfl⟩ := h
  exact Int.mul_nonneg r0 r0
def spSqrt : Sp := fun vs H Q _ => ∃ n : Int, vs = [.int n] ∧ n.natAbs < 2 ^ 12000 ∧ (∀ r : Int, 0 ≤ r → r * r = n → Q (.int r) H) ∧ (¬ isSq n → Q .non H)
def spIsField (K : PySem.W.Frag) : Sp := fun vs H Q _ => ∃ x : V, vs = [x] ∧ ((∃ n : Int, x = .int n ∧ n.natAbs < 2 ^ 12000 ∧ ∀ b : Bool, (b = true ↔ (n = 0 ∨ (0 < n ∧ ¬ isSq n))) → Q (.bl b) H) ∨
  (∃ t : String, TyX K H x (.type t) ∧ t ∈ tys ∧ t ≠ "int" ∧ Q (.bl false) H))
/-- what is no element of any field -/
inductive ElNo (K : PySem.W.Frag) (H : Hp) : V → Prop where
  | other {x : V} {t : String} (ty : TyX K H x (.type t)) (m : t ∈ tys) (n : t ≠ "tuple") : ElNo K H x
  | size {a : Addr} {xs : List V} (h : H a = some (.tup xs)) (n : (xs.length : Int) ≠ 2) : ElNo K H (.ref a)
  | left {a : Addr} {u v : V} (h : H a = some (.tup [u, v])) (r : RatV K H u false) : ElNo K H (.ref a)
  | right {a : Addr} {u v : V} (h : H a = some (.tup [u, v])) (r : RatV K H u true) (r2 : RatV K H v false) : ElNo K H (.ref a)
def spIsEl (K : PySem.W.Frag) : Sp := fun vs H Q _ => ∃ (f : Int) (x : V), vs = [.int f, x] ∧ ((ElNo K H x ∧ Q (.bl false) H) ∨
  (∃ (a p : Addr) (u : V) (m e : Int), x = .ref a ∧ H a = some (.tup [u, .ref p]) ∧ RatV K H u true ∧ RatV K H (.ref p) true ∧ H p = some (.tup [.int m, .int e]) ∧ Q (.bl (decide (f ≠ 0 ∨ (m = 0 ∧ e = 1)))) H))
section
variable {P : Program} {w : World} {K : PySem.W.Frag} {mg : Str → Option Value} {base : Heap}
theorem ok_square_root (T : Txt K mg) : FnOk P w K mg base CX0 1 T.f_square_root T.fd_square_root ["n"] spSqrt := by
  refine T.D_square_root.F.ok sc_square_root (fun vs H Q E h => ?_) (fun cdv A outer s H vs Q E hr h => ?_)
  · obtain ⟨n, rfl, _⟩ := h
    rfl
  · obtain ⟨n, rfl, hb, kY, kN⟩ := h
    refine ⟨_, (pss_cons (ps_if (pt_cmpR op_lt (pv 0) pe_int (nomark _)) (pss_one (ps_ret pe_non)) pss_nil)
    (pss_cons (ps_set (i := 1) sc_square_root.nd rfl (Or.inl rfl) (pe_callBfun cr_isqrt (by rfl) T.isqrt (pa_cons (pv 0) pa_nil)))
    (pss_one (ps_ret (pe_ifExp (pt_cmpR op_eq (pe_op op_mulW (pv 1) (pv 1)) (pv 0) (nomark _)) (pv 1) pe_non))))), ?_⟩
    refine ⟨_, rfl, _, _, rfl, rfl, _, rfl, iteD (fun h0 => ?_) (fun h0 => ?_)⟩
    · exact kN fun z => by have := isSq_nonneg z; omega
    · refine ⟨_, rfl, n, rfl, by omega, up 12000 hb, fun r r0 r1 r2 => ?_⟩
      have rb : r.natAbs < 2 ^ 6000 := root_size r0 r1 hb
      refine ⟨_, rfl, _, rfl, _, _, rfl, rfl, cmulw rb rb (by decide), _, rfl, rfl, _, rfl, ite2 (fun hz => ?_) (fun hz => ?_)⟩
      · have h1 := of_decide_eq_true hz
        injection h1 with h2
        exact ⟨_, rfl, kY r r0 h2⟩
      · refine kN fun z => ?_
        obtain ⟨u, u0, hu⟩ := z
        have e : (u + 1) * (u + 1) = u * u + u + u + 1 := by
          rw [Int.add_mul, Int.mul_add]
          omega
        have : r = u := root_uniq r0 u0 r1 r2 (by omega) (by omega)
        subst this
        exact hz (decide_eq_true (congrArg V.int hu))
theorem ok_is_field (T : Txt K mg) : FnOk P w K mg base CX0 2 T.f_is_field T.fd_is_field ["x"] (spIsField K) := by
  refine T.D_is_field.F.ok sc_is_field (fun vs H Q E h => ?_) (fun cdv A outer s H vs Q E hr h => ?_)
  · obtain ⟨x, rfl, _⟩ := h
    rfl
  · obtain ⟨x, rfl, h⟩ := h
    refine ⟨_, (pss_cons (ps_if (pt_not (pt_val (pe_call (ok_is_whole T) (hr.mono (by omega)) rfl T.D_is_whole.g T.D_is_whole.F.kp T.D_is_whole.b .nil pass0 (pa_cons (pv 0) pa_nil)))) (pss_one (ps_ret pe_bl)) pss_nil)
    (pss_one (ps_ret (pe_or (pe_cmpR op_eq (pv 0) pe_int (nomark _)) (pe_one (pe_and (pe_cmpR op_gt (pv 0) pe_int (nomark _)) (pe_one (pe_cmpR op_isN (pe_call (ok_square_root T) (hr.mono (by omega)) rfl T.D_square_root.g T.D_square_root.F.kp T.D_square_root.b .nil pass0 (pa_cons (pv 0) pa_nil)) pe_non (nomark _))))))))), ?_⟩
    rcases h with ⟨n, rfl, hb, k⟩ | ⟨t, ty, mem, ne, k⟩
    · refine ⟨_, rfl, _, _, rfl, ty_int _, (by decide), _, rfl, iteNS rfl ?_⟩
      refine ⟨_, rfl, rfl, _, rfl, ite2 (fun hz => ?_) (fun hz => ?_)⟩
      · have h1 := of_decide_eq_true hz
        injection h1 with h2
        exact k true ⟨fun _ => .inl h2, fun _ => rfl⟩
      · have h2 : n ≠ 0 := fun z => hz (by rw [z]; exact decide_eq_true rfl)
        refine ⟨_, rfl, _, _, rfl, rfl, _, rfl, iteD (fun h0 => ?_) (fun h0 => ?_)⟩
        · refine ⟨_, rfl, n, rfl, hb, fun r r0 hr' => ?_, fun hs => ?_⟩
          · refine ⟨rfl, k _ ⟨fun z => ?_, fun z => ?_⟩⟩
            · have := of_decide_eq_true z
              cases this
            · rcases z with z | z
              · exact absurd z h2
              · exact absurd ⟨r, r0, hr'⟩ z.2
          · exact ⟨rfl, k _ ⟨fun _ => .inr ⟨h0, hs⟩, fun _ => decide_eq_true rfl⟩⟩
        · exact k _ ⟨fun z => Bool.noConfusion z, fun z => z.elim (fun q => absurd q h2) (fun q => absurd q.1 h0)⟩
    · refine ⟨_, rfl, _, _, rfl, ty, mem, _, rfl, iteN1 ne k⟩
def spLIs : Sp := fun vs H Q _ => ∃ b : Bool, vs = [.bl b, .bl b] ∧ Q (.bl true) H
theorem ok_l_is (T : Txt K mg) : FnOk P w K mg base CX0 1 T.f_l_is T.fd_l_is ["actual", "due"] spLIs := by
  refine T.D_l_is.F.ok sc_l_is (fun vs H Q E h => ?_) (fun cdv A outer s H vs Q E hr h => ?_)
  · obtain ⟨b, rfl, _⟩ := h
    rfl
  · obtain ⟨b, rfl, k⟩ := h
    refine ⟨_, (pss_one (ps_ret (pe_and (pe_callB call_isi (by rfl) T.isinstance PyProof.Rows.boot_isinstance (pa_cons (pv 0) (pa_cons (pe_bltn (v := .ty "bool") (by rfl) T.bool PyProof.Rows.boot_bool rfl) pa_nil))) (pe_one (pe_cmpR op_eq (pv 0) (pv 1) (nomark _)))))), ?_⟩
    refine ⟨_, rfl, _, _, _, _, true, rfl, .ty "bool", ty_bl _, kit_ty (by decide +kernel), true, rfl, iteT ⟨_, rfl, _, rfl, rfl, ?_⟩⟩
    rw [decide_eq_true rfl]
    exact k
end
/-! ### numbers in their one form -/
def spIndex (K : PySem.W.Frag) : Sp := fun vs H Q _ => ∃ (x : V) (m : Int), vs = [x, .int m] ∧ ((∃ i : Int, x = .int i ∧ Q (.bl (decide (0 ≤ i ∧ i < m))) H) ∨ (∃ t : String, TyX K H x (.type t) ∧ t ∈ tys ∧ t ≠ "int" ∧ Q (.bl false) H))
def spDisc (K : PySem.W.Frag) : Sp := fun vs H Q _ => ∃ (p : Addr) (c b a : Int), vs = [.ref p] ∧ SqT K H p [.int c, .int b, .int a] ∧ c.natAbs < 2 ^ 2000 ∧ b.natAbs < 2 ^ 2000 ∧ a.natAbs < 2 ^ 2000 ∧ Q (.int (b * b - 4 * a * c)) H
def EqOk (c b a : Int) : Prop := 1 ≤ a ∧ Nat.gcd (Nat.gcd c.natAbs b.natAbs) a.natAbs = 1 ∧ 0 < b * b - 4 * a * c ∧ ¬ isSq (b * b - 4 * a * c)
theorem disc_size {c b a : Int} {n : Nat} (hc : c.natAbs < 2 ^ n) (hb : b.natAbs < 2 ^ n) (ha : a.natAbs < 2 ^ n) : (b * b - 4 * a * c).natAbs < 2 ^ (n + n + 4) :=
  sub_up (n + n + 3) (mul_up n n hb hb (by omega)) (mul_up (n + 3) n (mul_up 3 n (show (4 : Int).natAbs < 2 ^ 3 by decide) ha (by omega)) hc (by omega)) (by omega)
/-- is_equation, by what stands in x -/
def EqA (K : PySem.W.Frag) (P : Addr) (H : Hp) (x : V) (k : Bool → Hp → Prop) : Prop :=
  (∃ t : String, TyX K H x (.type t) ∧ t ∈ tys ∧ t ≠ "tuple" ∧ k false H) ∨
  (∃ (p : Addr) (xs : List V), x = .ref p ∧ H p = some (.tup xs) ∧ (xs.length : Int) ≠ 3 ∧ k false H) ∨
  (∃ (p : Addr) (xs : List V) (bs : List Bool), x = .ref p ∧ H p = some (.tup xs) ∧ xs.length = 3 ∧ Els Wh xs bs ∧ bs.all id = false ∧ ∀ H', SameT P H H' → k false H') ∨
  (∃ (p : Addr) (c b a : Int), x = .ref p ∧ H p = some (.tup [.int c, .int b, .int a]) ∧ c.natAbs < 2 ^ 2000 ∧ b.natAbs < 2 ^ 2000 ∧ a.natAbs < 2 ^ 2000 ∧ ∀ (r : Bool) (H' : Hp), (r = true ↔ EqOk c b a) → SameT P H H' → k r H')
theorem EqA.imp {K : PySem.W.Frag} {P : Addr} {H : Hp} {x : V} {k k' : Bool → Hp → Prop} (hT : GxR.TabG H P) (h : EqA K P H x k) (i : ∀ r H', SameT P H H' → k r H' → k' r H') : EqA K P H x k' := by
  rcases h with ⟨t, a, b, c, d⟩ | ⟨p, xs, a, b, c, d⟩ | ⟨p, xs, bs, a, b, c, d, e, f⟩ | ⟨p, c, b, a, h1, h2, h3, h4, h5, f⟩
  · exact .inl ⟨t, a, b, c, i _ _ (SameT.refl hT) d⟩
  · exact .inr (.inl ⟨p, xs, a, b, c, i _ _ (SameT.refl hT) d⟩)
  · exact .inr (.inr (.inl ⟨p, xs, bs, a, b, c, d, e, fun H' s => i _ _ s (f H' s)⟩))
  · exact .inr (.inr (.inr ⟨p, c, b, a, h1, h2, h3, h4, h5, fun r H' z s => i _ _ s (f r H' z s)⟩))
def IxA (K : PySem.W.Frag) (H : Hp) (x : V) (m : Int) (k : Bool → Prop) : Prop := (∃ i : Int, x = .int i ∧ k (decide (0 ≤ i ∧ i < m))) ∨ (∃ t : String, TyX K H x (.type t) ∧ t ∈ tys ∧ t ≠ "int" ∧ k false)
/-- is_number, by what stands in x -/
def NumA (K : PySem.W.Frag) (P : Addr) (H : Hp) (x : V) (k : Bool → Hp → Prop) : Prop :=
  (∃ t : String, TyX K H x (.type t) ∧ t ∈ tys ∧ t ≠ "tuple" ∧ k false H) ∨
  (∃ p : Addr, x = .ref p ∧ H p = some (.tup []) ∧ k false H) ∨
  (∃ (p : Addr) (u : V) (us : List V) (t : String), x = .ref p ∧ H p = some (.tup (u :: us)) ∧ TyX K H u (.type t) ∧ t ∈ tys ∧ t ≠ "str" ∧ k false H) ∨
  (∃ (p : Addr) (z : Str) (us : List V), x = .ref p ∧ H p = some (.tup (.str z :: us)) ∧
    ((z = "rational" ∧ ((us.length ≠ 1 ∧ k false H) ∨ (∃ (v : V) (r : Bool), us = [v] ∧ RatV K H v r ∧ k r H))) ∨
     (z ≠ "rational" ∧ z ≠ "root" ∧ k false H) ∨
     (z ≠ "rational" ∧ z = "root" ∧ ((us.length ≠ 2 ∧ k false H) ∨ (∃ e i : V, us = [e, i] ∧ EqA K P H e (fun r H' => (r = false → k false H') ∧ (r = true → IxA K H' i 2 (fun b => k b H'))))))))
def spIsEq (K : PySem.W.Frag) (P : Addr) : Sp := fun vs H Q _ => ∃ x : V, vs = [x] ∧ GxR.TabG H P ∧ EqA K P H x (fun r H' => Q (.bl r) H')
def spIsNum (K : PySem.W.Frag) (P : Addr) : Sp := fun vs H Q _ => ∃ x : V, vs = [x] ∧ GxR.TabG H P ∧ NumA K P H x (fun r H' => Q (.bl r) H')
theorem at0 (u : V) (us : List V) : atI (u :: us) 0 = some u := atI_nat rfl
theorem kit_not {t u : String} (m : t ∈ tys) (n : t ≠ u) (hu : u = "tuple" ∨ u = "str") : kitB t u = some false := by
  simp only [tys, List.mem_cons, List.not_mem_nil, or_false] at m
  rcases hu with rfl | rfl <;> rcases m with rfl | rfl | rfl | rfl | rfl | rfl
  all_goals first | exact absurd rfl n | decide +kernel
section
variable {P : Program} {w : World} {K : PySem.W.Frag} {mg : Str → Option Value} {base : Heap}
theorem ok_is_index (T : Txt K mg) : FnOk P w K mg base CX0 2 T.f_is_index T.fd_is_index ["value", "many"] (spIndex K) := by
  refine T.D_is_index.F.ok sc_is_index (fun vs H Q E h => ?_) (fun cdv A outer s H vs Q E hr h => ?_)
  · obtain ⟨x, m, rfl, _⟩ := h
    rfl
  · obtain ⟨x, m, rfl, h⟩ := h
    refine ⟨_, (pss_one (ps_ret (pe_and (pe_call (ok_is_whole T) (hr.mono (by omega)) rfl T.D_is_whole.g T.D_is_whole.F.kp T.D_is_whole.b .nil pass0 (pa_cons (pv 0) pa_nil)) (pe_one (pe_chain op_le op_lt pe_int (pv 0) (pv 1)))))), ?_⟩
    rcases h with ⟨i, rfl, k⟩ | ⟨t, ty, mem, ne, k⟩
    · refine ⟨_, rfl, _, _, rfl, ty_int _, (by decide), _, rfl, iteD1 rfl ?_⟩
      refine ⟨_, rfl, _, _, rfl, rfl, _, rfl, iteD (fun h1 => ?_) (fun h1 => ?_)⟩
      · refine ⟨_, rfl, _, _, rfl, rfl, ?_⟩
        dsimp only
        by_cases h2 : i < m
        · rw [decide_eq_true ⟨h1, h2⟩] at k
          rw [decide_eq_true h2]
          exact k
        · rw [decide_eq_false (fun z => h2 z.2)] at k
          rw [decide_eq_false h2]
          exact k
      · rw [decide_eq_false (fun z => h1 z.1)] at k
        exact k
    · exact ⟨_, rfl, _, _, rfl, ty, mem, _, rfl, iteD0 ne k⟩
theorem ok_discriminant (T : Txt K mg) : FnOk P w K mg base CX0 1 T.f_discriminant T.fd_discriminant ["coefficients"] (spDisc K) := by
  refine T.D_discriminant.F.ok sc_discriminant (fun vs H Q E h => ?_) (fun cdv A outer s H vs Q E hr h => ?_)
  · obtain ⟨p, c, b, a, rfl, _⟩ := h
    rfl
  · obtain ⟨p, c, b, a, rfl, hp, hc, hb, ha, k⟩ := h
    refine ⟨_, (pss_cons (ps_asg (pv 0) (pg_tup (by rfl) (pgs_cons (pg_name (i := 1) sc_discriminant.nd rfl (Or.inl rfl)) (pgs_cons (pg_name (i := 2) sc_discriminant.nd rfl (Or.inl rfl)) (pgs_cons (pg_name (i := 3) sc_discriminant.nd rfl (Or.inl rfl)) pgs_nil)))))
    (pss_one (ps_ret (pe_op op_sub (pe_op op_mulW (pv 2) (pv 2)) (pe_op op_mulW (pe_op op_mul pe_int (pv 3)) (pv 1)))))), ?_⟩
    refine ⟨_, rfl, _, _, rfl, hp, rfl, _, _, rfl, _, _, rfl, _, _, rfl, rfl, ?_⟩
    have h4 : (4 * a).natAbs < 2 ^ 2003 := mul_up 3 2000 (show (4 : Int).natAbs < 2 ^ 3 by decide) ha
    exact ⟨_, rfl, _, rfl, _, _, rfl, rfl, cmulw hb hb (by decide), _, rfl, _, _, rfl, rfl, .inl ⟨by decide, by decide⟩, _, rfl, _, _, rfl, rfl, cmulw h4 hc (by decide), _, _, rfl, rfl, k⟩
theorem ok_is_equation (T : Txt K mg) (TB : GxR.TabB base mg T.c_tab T.P_tab) : FnOk P w K mg base CX0 3 T.f_is_equation T.fd_is_equation ["coefficients"] (spIsEq K T.P_tab) := by
  refine fun_okC T.D_is_equation.F T.code_tab sc_is_equation (fun vs H Q E h => ?_) (fun A outer s H vs Q E hr h => ?_)
  · obtain ⟨x, rfl, _⟩ := h
    rfl
  · obtain ⟨x, rfl, hT, h⟩ := h
    refine ⟨_, (pss_cons (ps_if (PW.pt (pw_or (pt_not (pt_val (pe_callB call_isi (by rfl) T.isinstance PyProof.Rows.boot_isinstance (pa_cons (pv 0) (pa_cons (pe_bltn (v := .ty "tuple") (by rfl) T.tuple PyProof.Rows.boot_tuple rfl) pa_nil))))) (pw_or1 (pt_cmpR op_ne (pe_callB call_len_seq (by rfl) T.len PySem.boot_len (pa_cons (pv 0) pa_nil)) pe_int (nomark _))))) (pss_one (ps_ret pe_bl)) pss_nil)
    (pss_cons (ps_if (pt_not (pt_val (pe_allT hr (by rfl) T.all TB rfl ⟨rfl, rfl, by decide +kernel, by rfl, by rfl, gen_free (by decide +kernel)⟩ (pv 0) (fun M => elt_whole T.W M rfl (by decide +kernel) (by decide +kernel) (room_lim hr)) (fun _ => rfl)))) (pss_one (ps_ret pe_bl)) pss_nil)
    (pss_cons (ps_asg (pv 0) (pg_tup (by rfl) (pgs_cons (pg_name (i := 2) sc_is_equation.nd rfl (Or.inl rfl)) (pgs_cons (pg_name (i := 3) sc_is_equation.nd rfl (Or.inl rfl)) (pgs_cons (pg_name (i := 4) sc_is_equation.nd rfl (Or.inl rfl)) pgs_nil)))))
    (pss_cons (ps_if (PW.pt (pw_or (pt_cmpR op_le (pv 4) pe_int (nomark _)) (pw_or1 (pt_cmpR op_ne (pe_callBfun cr_gcd3 (by rfl) T.gcd (pa_cons (pv 2) (pa_cons (pv 3) (pa_cons (pv 4) pa_nil)))) pe_int (nomark _))))) (pss_one (ps_ret pe_bl)) pss_nil)
    (pss_cons (ps_set (i := 5) sc_is_equation.nd rfl (Or.inl rfl) (pe_call (ok_discriminant T) (hr.mono (by omega)) rfl T.D_discriminant.g T.D_discriminant.F.kp T.D_discriminant.b .nil pass0 (pa_cons (pv 0) pa_nil)))
    (pss_one (ps_ret (pe_and (pe_cmpR op_gt (pv 5) pe_int (nomark _)) (pe_one (pe_call (ok_is_field T) (hr.mono (by omega)) rfl T.D_is_field.g T.D_is_field.F.kp T.D_is_field.b .nil pass0 (pa_cons (pv 5) pa_nil))))))))))), ?_⟩
    rcases h with ⟨t, ty, m, n, k⟩ | ⟨p, xs, rfl, h, n, k⟩ | ⟨p, xs, bs, rfl, h, h3, hel, hall, k⟩ | ⟨p, c, b, a, rfl, h, hc, hb, ha, k⟩
    · exact ⟨_, rfl, _, _, _, _, false, rfl, .ty "tuple", ty, kit_ty (kit_not m n (.inl rfl)), false, rfl, iteT (iteT k)⟩
    · refine ⟨_, rfl, _, _, _, _, true, rfl, .ty "tuple", ty_tup h, kit_ty (by decide +kernel), true, rfl, iteF ⟨_, rfl, _, _, rfl, .inr (SqT.of h), rfl, _, rfl, iteN1 (fun e => n ?_) k⟩⟩
      injection e
    · refine ⟨_, rfl, _, _, _, _, true, rfl, .ty "tuple", ty_tup h, kit_ty (by decide +kernel), true, rfl, iteF ⟨_, rfl, _, _, rfl, .inr (SqT.of h), rfl, _, rfl, iteNS (by rw [h3]; rfl) ?_⟩⟩
      refine ⟨_, rfl, p, xs, bs, rfl, SqT.of h, hel, hT, fun H2 t2 => ⟨_, rfl, ?_⟩⟩
      rw [hall]
      exact iteT (k H2 (Tabbed.same hT t2))
    · refine ⟨_, rfl, _, _, _, _, true, rfl, .ty "tuple", ty_tup h, kit_ty (by decide +kernel), true, rfl, iteF ⟨_, rfl, _, _, rfl, .inr (SqT.of h), rfl, _, rfl, iteNS rfl ?_⟩⟩
      have hel : Els Wh [V.int c, .int b, .int a] [true, true, true] := ⟨rfl, fun i x r u hx hr' hrel => by
        match i, hx, hr' with
        | 0, hx, hr' => cases hx; cases hr'; obtain ⟨t, rfl⟩ := hrel; exact .int _ _
        | 1, hx, hr' => cases hx; cases hr'; obtain ⟨t, rfl⟩ := hrel; exact .int _ _
        | 2, hx, hr' => cases hx; cases hr'; obtain ⟨t, rfl⟩ := hrel; exact .int _ _
        | j + 3, hx, _ => simp at hx⟩
      refine ⟨_, rfl, p, _, _, rfl, SqT.of h, hel, hT, fun H2 t2 => ⟨_, rfl, ?_⟩⟩
      have e2 := Tabbed.same hT t2
      have h2 := e2.tup h
      refine iteF ?_
      refine ⟨_, rfl, _, _, rfl, SqT.of h2, rfl, _, _, rfl, _, _, rfl, _, _, rfl, rfl, ?_⟩
      have no : ¬ EqOk c b a → Q (.bl false) H2 := fun q => k false H2 ⟨fun z => Bool.noConfusion z, fun z => absurd z q⟩ e2
      refine ⟨_, rfl, _, _, rfl, rfl, _, rfl, iteD (fun h0 => ?_) (fun h0 => ?_)⟩
      · exact no fun z => by have := z.1; omega
      · refine ⟨_, rfl, _, rfl, _, rfl, c, b, a, rfl, rfl, _, rfl, ?_⟩
        by_cases hg : Nat.gcd (Nat.gcd c.natAbs b.natAbs) a.natAbs = 1
        · refine iteNS (by rw [hg]; rfl) ?_
          refine ⟨_, rfl, p, c, b, a, rfl, SqT.of h2, hc, hb, ha, ?_⟩
          have bd : (b * b - 4 * a * c).natAbs < 2 ^ 4004 := disc_size hc hb ha
          refine ⟨_, rfl, _, _, rfl, rfl, _, rfl, iteD (fun h1 => ?_) (fun h1 => ?_)⟩
          · refine ⟨_, rfl, _, rfl, .inl ⟨_, rfl, up 4004 bd, fun r hr' => ?_⟩⟩
            refine k r H2 ⟨fun z => ?_, fun z => ?_⟩ e2
            · rcases hr'.mp z with q | q
              · omega
              · exact ⟨by omega, hg, q.1, q.2⟩
            · exact hr'.mpr (.inr ⟨z.2.2.1, z.2.2.2⟩)
          · exact no fun z => h1 z.2.2.1
        · refine iteN1 (fun e => hg ?_) (no fun z => hg z.2.1)
          injection e with e
          omega
theorem ok_is_number (T : Txt K mg) (TB : GxR.TabB base mg T.c_tab T.P_tab) : FnOk P w K mg base CX0 4 T.f_is_number T.fd_is_number ["x"] (spIsNum K T.P_tab) := by
  refine T.D_is_number.F.ok sc_is_number (fun vs H Q E h => ?_) (fun cdv A outer s H vs Q E hr h => ?_)
  · obtain ⟨x, rfl, _⟩ := h
    rfl
  · obtain ⟨x, rfl, hT, h⟩ := h
    refine ⟨_, (pss_cons (ps_if (PW.pt (pw_or (pt_not (pt_val (pe_callB call_isi (by rfl) T.isinstance PyProof.Rows.boot_isinstance (pa_cons (pv 0) (pa_cons (pe_bltn (v := .ty "tuple") (by rfl) T.tuple PyProof.Rows.boot_tuple rfl) pa_nil))))) (pw_or (pt_cmpR op_eq (pe_callB call_len_seq (by rfl) T.len PySem.boot_len (pa_cons (pv 0) pa_nil)) pe_int (nomark _)) (pw_or1 (pt_not (pt_val (pe_callB call_isi (by rfl) T.isinstance PyProof.Rows.boot_isinstance (pa_cons (pe_ix (r := rIxT K) ix_tup (pv 0) pe_int (fun _ _ => rfl)) (pa_cons (pe_bltn (v := .ty "str") (by rfl) T.str PyProof.Rows.boot_str rfl) pa_nil))))))))) (pss_one (ps_ret pe_bl)) pss_nil)
    (pss_cons (ps_if (pt_cmpR op_eq (pe_ix (r := rIxT K) ix_tup (pv 0) pe_int (fun _ _ => rfl)) pe_str (nomark _)) (pss_one (ps_ret (pe_and (pe_cmpR op_eq (pe_callB call_len_seq (by rfl) T.len PySem.boot_len (pa_cons (pv 0) pa_nil)) pe_int (nomark _)) (pe_one (pe_call (ok_is_rational T) (hr.mono (by omega)) rfl T.D_is_rational.g T.D_is_rational.F.kp T.D_is_rational.b .nil pass0 (pa_cons (pe_ix (r := rIxT K) ix_tup (pv 0) pe_int (fun _ _ => rfl)) pa_nil)))))) pss_nil)
    (pss_one (ps_ret (pe_and (pe_cmpR op_eq (pe_ix (r := rIxT K) ix_tup (pv 0) pe_int (fun _ _ => rfl)) pe_str (nomark _)) (pe_and (pe_cmpR op_eq (pe_callB call_len_seq (by rfl) T.len PySem.boot_len (pa_cons (pv 0) pa_nil)) pe_int (nomark _)) (pe_and (pe_call (ok_is_equation T TB) (hr.mono (by omega)) rfl T.D_is_equation.g T.D_is_equation.F.kp T.D_is_equation.b .nil pass0 (pa_cons (pe_ix (r := rIxT K) ix_tup (pv 0) pe_int (fun _ _ => rfl)) pa_nil)) (pe_one (pe_call (ok_is_index T) (hr.mono (by omega)) rfl T.D_is_index.g T.D_is_index.F.kp T.D_is_index.b .nil pass0 (pa_cons (pe_ix (r := rIxT K) ix_tup (pv 0) pe_int (fun _ _ => rfl)) (pa_cons pe_int pa_nil))))))))))), ?_⟩
    rcases h with ⟨t, ty, m, n, k⟩ | ⟨p, rfl, h, k⟩ | ⟨p, u, us, t, rfl, h, ty, m, n, k⟩ | ⟨p, z, us, rfl, h, hz⟩
    · exact ⟨_, rfl, _, _, _, _, false, rfl, .ty "tuple", ty, kit_ty (kit_not m n (.inl rfl)), false, rfl, iteT (iteT k)⟩
    · exact ⟨_, rfl, _, _, _, _, true, rfl, .ty "tuple", ty_tup h, kit_ty (by decide +kernel), true, rfl, iteF ⟨_, rfl, _, _, rfl, .inr (SqT.of h), rfl, _, rfl, iteD1 rfl k⟩⟩
    · refine ⟨_, rfl, _, _, _, _, true, rfl, .ty "tuple", ty_tup h, kit_ty (by decide +kernel), true, rfl, iteF ⟨_, rfl, _, _, rfl, .inr (SqT.of h), rfl, _, rfl, iteD0 ?_ ?_⟩⟩
      · intro e
        injection e with e
        simp at e
        omega
      · exact ⟨_, rfl, _, _, _, _, rfl, rfl, SqT.of h, at0 _ _, _, _, _, _, false, rfl, .ty "str", ty, kit_ty (kit_not m n (.inr rfl)), false, rfl, iteT k⟩
    · refine ⟨_, rfl, _, _, _, _, true, rfl, .ty "tuple", ty_tup h, kit_ty (by decide +kernel), true, rfl, iteF ⟨_, rfl, _, _, rfl, .inr (SqT.of h), rfl, _, rfl, iteD0 ?_ ?_⟩⟩
      · intro e
        injection e with e
        simp at e
        omega
      refine ⟨_, rfl, _, _, _, _, rfl, rfl, SqT.of h, at0 _ _, _, _, _, _, true, rfl, .ty "str", ty_str _, kit_ty (by decide +kernel), true, rfl, iteF ?_⟩
      refine ⟨_, rfl, _, _, _, _, rfl, rfl, SqT.of h, at0 _ _, rfl, _, rfl, ?_⟩
      rcases hz with ⟨rfl, hz⟩ | ⟨n1, n2, k⟩ | ⟨n1, rfl, hz⟩
      · refine iteD1 rfl ?_
        rcases hz with ⟨hl, k⟩ | ⟨v, r, rfl, hv, k⟩
        · refine ⟨_, rfl, _, _, rfl, .inr (SqT.of h), rfl, _, rfl, iteD0 (fun e => hl ?_) k⟩
          injection e with e
          simp at e
          omega
        · exact ⟨_, rfl, _, _, rfl, .inr (SqT.of h), rfl, _, rfl, iteD1 rfl ⟨_, rfl, _, _, _, _, rfl, rfl, SqT.of h, rfl, v, r, rfl, hv, k⟩⟩
      · refine iteD0 (fun e => n1 (by injection e)) ?_
        exact ⟨_, rfl, _, _, _, _, rfl, rfl, SqT.of h, at0 _ _, rfl, _, rfl, iteD0 (fun e => n2 (by injection e)) k⟩
      · refine iteD0 (fun e => n1 (by injection e)) ?_
        refine ⟨_, rfl, _, _, _, _, rfl, rfl, SqT.of h, at0 _ _, rfl, _, rfl, iteD1 rfl ?_⟩
        rcases hz with ⟨hl, k⟩ | ⟨e, i, rfl, he⟩
        · refine ⟨_, rfl, _, _, rfl, .inr (SqT.of h), rfl, _, rfl, iteD0 (fun e => hl ?_) k⟩
          injection e with e
          simp at e
          omega
        · refine ⟨_, rfl, _, _, rfl, .inr (SqT.of h), rfl, _, rfl, iteD1 rfl ?_⟩
          refine ⟨_, rfl, _, _, _, _, rfl, rfl, SqT.of h, rfl, e, rfl, hT, EqA.imp hT he fun r H' st k => ?_⟩
          refine ⟨r, rfl, ?_⟩
          cases r with
          | false => exact iteF (k.1 rfl)
          | true =>
            refine iteT ?_
            have h' := st.tup h
            exact ⟨_, rfl, _, _, _, _, rfl, rfl, SqT.of h', rfl, i, 2, rfl, k.2 rfl⟩
end
/-! ### many new objects; cases of numbers -/
structure Bag (P s : Addr) (H : Hp) (L : List (Addr × HO)) : Prop where
  hs : Strm H s
  T : GxR.TabG H P
  all : ∀ q ∈ L, q.1 ≠ s ∧ H q.1 = some q.2
theorem Bag.new {P s p : Addr} {H : Hp} {L : List (Addr × HO)} {o : HO} (B : Bag P s H L) (h : H p = none) : Bag P s (upd H p o) ((p, o) :: L) :=
  ⟨B.hs.same (same_new h), TabG.same (same_new h) B.T, fun q hq => by
    rcases List.mem_cons.mp hq with rfl | hq
    · exact ⟨B.hs.ne h, upd_same⟩
    · exact ⟨(B.all q hq).1, same_new h _ _ (B.all q hq).2⟩⟩
theorem Bag.keep {P s : Addr} {H H' : Hp} {L : List (Addr × HO)} (B : Bag P s H L) (k : Keep s H H') (hs : Strm H' s) : Bag P s H' L := by
  refine ⟨hs, ?_, fun q hq => ⟨(B.all q hq).1, k _ _ (B.all q hq).2 (B.all q hq).1⟩⟩
  obtain ⟨ps, h1, h2⟩ := B.T
  refine ⟨ps, k _ _ h1 ?_, h2⟩
  intro e
  subst e
  obtain ⟨_, _, _, _, h3, _⟩ := B.hs
  rw [h1] at h3
  cases h3
theorem Bag.get {P s p : Addr} {H : Hp} {L : List (Addr × HO)} {o : HO} (B : Bag P s H L) (m : (p, o) ∈ L) : H p = some o := (B.all _ m).2
theorem Strm.sameT {P s : Addr} {H H' : Hp} (e : SameT P H H') (h : Strm H s) : Strm H' s := by
  obtain ⟨l, ns, c, k, h1, h2, h3⟩ := h
  exact ⟨l, ns, c, k, e.lst h1, e.lst h2, h3⟩
theorem NumA.imp {K : PySem.W.Frag} {P : Addr} {H : Hp} {x : V} {k k' : Bool → Hp → Prop} (hT : GxR.TabG H P) (h : NumA K P H x k) (i : ∀ r H', SameT P H H' → k r H' → k' r H') : NumA K P H x k' := by
  have r0 := SameT.refl hT
  rcases h with ⟨t, a, b, c, d⟩ | ⟨p, a, b, d⟩ | ⟨p, u, us, t, a, b, c, e, f, d⟩ | ⟨p, z, us, a, b, h⟩
  · exact .inl ⟨t, a, b, c, i _ _ r0 d⟩
  · exact .inr (.inl ⟨p, a, b, i _ _ r0 d⟩)
  · exact .inr (.inr (.inl ⟨p, u, us, t, a, b, c, e, f, i _ _ r0 d⟩))
  · refine .inr (.inr (.inr ⟨p, z, us, a, b, ?_⟩))
    rcases h with ⟨e, ⟨f, d⟩ | ⟨v, r, f, g, d⟩⟩ | ⟨e, f, d⟩ | ⟨e, f, ⟨g, d⟩ | ⟨v, j, g, d⟩⟩
    · exact .inl ⟨e, .inl ⟨f, i _ _ r0 d⟩⟩
    · exact .inl ⟨e, .inr ⟨v, r, f, g, i _ _ r0 d⟩⟩
    · exact .inr (.inl ⟨e, f, i _ _ r0 d⟩)
    · exact .inr (.inr ⟨e, f, .inl ⟨g, i _ _ r0 d⟩⟩)
    · refine .inr (.inr ⟨e, f, .inr ⟨v, j, g, EqA.imp hT d fun r H' st q => ⟨fun z => i _ _ st (q.1 z), fun z => ?_⟩⟩⟩)
      rcases q.2 z with ⟨n, h1, h2⟩ | ⟨t, h1, h2, h3, h4⟩
      · exact .inl ⟨n, h1, i _ _ st h2⟩
      · exact .inr ⟨t, h1, h2, h3, i _ _ st h4⟩
/-- a root with ints -/
theorem num_root {K : PySem.W.Frag} {P p q : Addr} {H : Hp} {c b a w : Int} {k : Bool → Hp → Prop} (h : H p = some (.tup [.str "root", .ref q, .int w])) (hq : H q = some (.tup [.int c, .int b, .int a])) (bc : c.natAbs < 2 ^ 2000) (bb : b.natAbs < 2 ^ 2000) (ba : a.natAbs < 2 ^ 2000)
    (kk : ∀ (r : Bool) (H' : Hp), (r = true ↔ (EqOk c b a ∧ 0 ≤ w ∧ w < 2)) → SameT P H H' → k r H') : NumA K P H (.ref p) k := by
  refine .inr (.inr (.inr ⟨p, _, _, rfl, h, .inr (.inr ⟨by decide, rfl, .inr ⟨_, _, rfl, .inr (.inr (.inr ⟨q, c, b, a, rfl, hq, bc, bb, ba, fun r H' hr st => ⟨fun z => ?_, fun z => ?_⟩⟩))⟩⟩)⟩))
  · exact kk false H' ⟨fun y => Bool.noConfusion y, fun y => by rw [hr.mpr y.1] at z; cases z⟩ st
  · refine .inl ⟨w, rfl, kk _ H' ⟨fun y => ⟨hr.mp z, of_decide_eq_true y⟩, fun y => decide_eq_true y.2⟩ st⟩
theorem num_rat {K : PySem.W.Frag} {P p : Addr} {H : Hp} {v : V} {r : Bool} {k : Bool → Hp → Prop} (h : H p = some (.tup [.str "rational", v])) (hv : RatV K H v r) (kk : k r H) : NumA K P H (.ref p) k :=
  .inr (.inr (.inr ⟨p, _, _, rfl, h, .inl ⟨rfl, .inr ⟨v, r, rfl, hv, kk⟩⟩⟩))
theorem num_size {K : PySem.W.Frag} {P p : Addr} {H : Hp} {us : List V} {k : Bool → Hp → Prop} (h : H p = some (.tup (.str "root" :: us))) (hl : us.length ≠ 2) (kk : k false H) : NumA K P H (.ref p) k :=
  .inr (.inr (.inr ⟨p, _, _, rfl, h, .inr (.inr ⟨by decide, rfl, .inl ⟨hl, kk⟩⟩)⟩))
theorem num_rsize {K : PySem.W.Frag} {P p : Addr} {H : Hp} {us : List V} {k : Bool → Hp → Prop} (h : H p = some (.tup (.str "rational" :: us))) (hl : us.length ≠ 1) (kk : k false H) : NumA K P H (.ref p) k :=
  .inr (.inr (.inr ⟨p, _, _, rfl, h, .inl ⟨rfl, .inl ⟨hl, kk⟩⟩⟩))
theorem num_word {K : PySem.W.Frag} {P p : Addr} {H : Hp} {z : Str} {us : List V} {k : Bool → Hp → Prop} (h : H p = some (.tup (.str z :: us))) (h1 : z ≠ "rational") (h2 : z ≠ "root") (kk : k false H) : NumA K P H (.ref p) k :=
  .inr (.inr (.inr ⟨p, _, _, rfl, h, .inr (.inl ⟨h1, h2, kk⟩)⟩))
theorem num_eq {K : PySem.W.Frag} {P p : Addr} {H : Hp} {e i : V} {k : Bool → Hp → Prop} (h : H p = some (.tup [.str "root", e, i])) (he : EqA K P H e fun r H' => (r = false → k false H') ∧ (r = true → IxA K H' i 2 fun b => k b H')) : NumA K P H (.ref p) k :=
  .inr (.inr (.inr ⟨p, _, _, rfl, h, .inr (.inr ⟨by decide, rfl, .inr ⟨_, _, rfl, he⟩⟩)⟩))
theorem num_other {K : PySem.W.Frag} {P : Addr} {H : Hp} {x : V} {t : String} {k : Bool → Hp → Prop} (ty : TyX K H x (.type t)) (m : t ∈ tys) (n : t ≠ "tuple") (kk : k false H) : NumA K P H x k := .inl ⟨t, ty, m, n, kk⟩
theorem not_sq_eight : ¬ isSq 8 := by
  rintro ⟨r, r0, h⟩
  rcases (show r ≤ 2 ∨ 3 ≤ r by omega) with q | q
  · have := Int.mul_self_le_mul_self r0 q
    omega
  · have := Int.mul_self_le_mul_self (show (0 : Int) ≤ 3 by decide) q
    omega
theorem good_ok : EqOk (0 - 2) 0 1 := ⟨by decide, by decide, by decide, by
  have : (0 * 0 - 4 * 1 * (0 - 2) : Int) = 8 := by decide
  rw [this]
  exact not_sq_eight⟩
def spLaw (K : PySem.W.Frag) (P : Addr) : Sp := fun vs H Q _ => ∃ (a : Addr) (ns : List Int), vs = [.ref a] ∧ SqL K H a (ns.map V.int) ∧ ns.length ≤ 63 ∧ GxR.TabG H P ∧ ∀ H', Q (.bl true) H'
section
variable {P : Program} {w : World} {K : PySem.W.Frag} {mg : Str → Option Value} {base : Heap}
theorem ok_law (T : Txt K mg) (TB : GxR.TabB base mg T.c_tab T.P_tab) : FnOk P w K mg base CX0 5 T.f_law T.fd_law ["script"] (spLaw K T.P_tab) := by
  refine T.D_law.F.ok sc_law (fun vs H Q E h => ?_) (fun cdv A outer st H vs Q E hr h => ?_)
  · obtain ⟨a, ns, rfl, _⟩ := h
    rfl
  · obtain ⟨a, ns, rfl, hS, hlen, hT, k⟩ := h
    refine ⟨_, (pss_cons (ps_set (i := 1) sc_law.nd rfl (Or.inl rfl) (pe_call (ok_l_stream T) (hr.mono (by omega)) rfl T.D_l_stream.g T.D_l_stream.F.kp T.D_l_stream.b .nil pass0 (pa_cons (pv 0) pa_nil)))
    (pss_cons (ps_set (i := 2) sc_law.nd rfl (Or.inl rfl) (pe_ix (r := rIxL K) ix_list (pe_lst (pa_cons pe_int (pa_cons pe_int (pa_cons pe_int (pa_cons (pe_op op_pow pe_int pe_int) pa_nil))))) (pe_call (ok_l_next T) (hr.mono (by omega)) rfl T.D_l_next.g T.D_l_next.F.kp T.D_l_next.b .nil pass0 (pa_cons (pv 1) (pa_cons pe_int pa_nil))) (fun _ _ => rfl)))
    (pss_cons (ps_set (i := 3) sc_law.nd rfl (Or.inl rfl) (pe_op op_sub (pe_call (ok_l_next T) (hr.mono (by omega)) rfl T.D_l_next.g T.D_l_next.F.kp T.D_l_next.b .nil pass0 (pa_cons (pv 1) (pa_cons pe_int pa_nil))) pe_int))
    (pss_cons (ps_set (i := 4) sc_law.nd rfl (Or.inl rfl) (pe_op op_sub (pe_call (ok_l_next T) (hr.mono (by omega)) rfl T.D_l_next.g T.D_l_next.F.kp T.D_l_next.b .nil pass0 (pa_cons (pv 1) (pa_cons (pe_op op_add (pe_op op_mul pe_int (pv 2)) pe_int) pa_nil))) (pv 2)))
    (pss_cons (ps_set (i := 5) sc_law.nd rfl (Or.inl rfl) (pe_op op_sub (pe_call (ok_l_next T) (hr.mono (by omega)) rfl T.D_l_next.g T.D_l_next.F.kp T.D_l_next.b .nil pass0 (pa_cons (pv 1) (pa_cons (pe_op op_add (pe_op op_mul pe_int (pv 2)) pe_int) pa_nil))) (pv 2)))
    (pss_cons (ps_set (i := 6) sc_law.nd rfl (Or.inl rfl) (pe_call (ok_l_next T) (hr.mono (by omega)) rfl T.D_l_next.g T.D_l_next.F.kp T.D_l_next.b .nil pass0 (pa_cons (pv 1) (pa_cons pe_int pa_nil))))
    (pss_cons (ps_set (i := 7) sc_law.nd rfl (Or.inl rfl) (pe_op op_sub (pe_op op_mulW (pv 4) (pv 4)) (pe_op op_mulW (pe_op op_mul pe_int (pv 3)) (pv 5))))
    (C8.pss_cut (ps_set (i := 8) sc_law.nd rfl (Or.inl rfl) (pe_and (pe_cmpR op_gt (pv 3) pe_int (nomark _)) (pe_and (pe_cmpR op_eq (pe_call (ok_l_gcd T) (hr.mono (by omega)) rfl T.D_l_gcd.g T.D_l_gcd.F.kp T.D_l_gcd.b .nil pass0 (pa_cons (pe_call (ok_l_gcd T) (hr.mono (by omega)) rfl T.D_l_gcd.g T.D_l_gcd.F.kp T.D_l_gcd.b .nil pass0 (pa_cons (pv 3) (pa_cons (pv 4) pa_nil))) (pa_cons (pv 5) pa_nil))) pe_int (nomark _)) (pe_and (pe_cmpR op_gt (pv 7) pe_int (nomark _)) (pe_one (pe_not (pe_call (ok_l_is_square T) (hr.mono (by omega)) rfl T.D_l_is_square.g T.D_l_is_square.F.kp T.D_l_is_square.b .nil pass0 (pa_cons (pv 7) pa_nil))))))))
    (pss_cons (ps_if (pt_not (pt_val (pe_call (ok_l_is T) (hr.mono (by omega)) rfl T.D_l_is.g T.D_l_is.F.kp T.D_l_is.b .nil pass0 (pa_cons (pe_call (ok_is_number T TB) (hr.mono (by omega)) rfl T.D_is_number.g T.D_is_number.F.kp T.D_is_number.b .nil pass0 (pa_cons (pe_tup (pa_cons pe_str (pa_cons (pe_tup (pa_cons (pv 5) (pa_cons (pv 4) (pa_cons (pv 3) pa_nil)))) (pa_cons (pv 6) pa_nil)))) pa_nil)) (pa_cons (pv 8) pa_nil))))) (pss_one (ps_ret pe_bl)) pss_nil)
    (pss_cons (ps_set (i := 9) sc_law.nd rfl (Or.inl rfl) (pe_tup (pa_cons (pe_op op_sub pe_int pe_int) (pa_cons pe_int (pa_cons pe_int pa_nil)))))
    (pss_cons (ps_set (i := 10) sc_law.nd rfl (Or.inl rfl) (pe_lst (pa_cons (pe_tup (pa_cons pe_str (pa_cons (pv 9) pa_nil))) (pa_cons (pe_tup (pa_cons pe_str (pa_cons (pe_callTy call_list_of (by rfl) T.list PyProof.Rows.boot_list (pa_cons (pv 9) pa_nil)) (pa_cons pe_int pa_nil)))) (pa_cons (pe_tup (pa_cons pe_str (pa_cons (pv 9) (pa_cons pe_int pa_nil)))) (pa_cons (pe_tup (pa_cons pe_str (pa_cons (pv 9) (pa_cons (pe_un un_neg pe_int) pa_nil)))) (pa_cons (pe_tup (pa_cons pe_str (pa_cons (pv 9) (pa_cons pe_bl pa_nil)))) pa_nil)))))))
    (pss_cons (ps_set (i := 10) sc_law.nd rfl (Or.inl rfl) (pe_op op_cat (pv 10) (pe_lst (pa_cons (pe_tup (pa_cons pe_str (pa_cons (pv 9) (pa_cons pe_int (pa_cons pe_int pa_nil))))) (pa_cons (pe_lst (pa_cons pe_str (pa_cons (pv 9) (pa_cons pe_int pa_nil)))) (pa_cons (pe_tup (pa_cons pe_str (pa_cons (pv 9) (pa_cons pe_int pa_nil)))) (pa_cons (pe_tup (pa_cons pe_str (pa_cons (pe_op op_catA (pv 9) (pe_tup (pa_cons pe_int pa_nil))) (pa_cons pe_int pa_nil)))) (pa_cons (pe_tup (pa_cons pe_str (pa_cons pe_non (pa_cons pe_int pa_nil)))) pa_nil))))))))
    (pss_cons (ps_set (i := 10) sc_law.nd rfl (Or.inl rfl) (pe_op op_cat (pv 10) (pe_lst (pa_cons (pe_tup (pa_cons pe_str (pa_cons (pe_tup (pa_cons (pe_op op_sub pe_int pe_int) (pa_cons pe_int (pa_cons pe_bl pa_nil)))) (pa_cons pe_int pa_nil)))) (pa_cons (pe_tup (pa_cons pe_str (pa_cons (pe_tup (pa_cons pe_int (pa_cons pe_int pa_nil))) pa_nil))) (pa_cons (pe_tup (pa_cons pe_str (pa_cons pe_int pa_nil))) (pa_cons (pe_tup (pa_cons pe_str (pa_cons (pe_tup (pa_cons pe_int (pa_cons pe_int pa_nil))) (pa_cons pe_int pa_nil)))) (pa_cons (pe_tup (pa_cons pe_str pa_nil)) pa_nil))))))))
    (pss_cons (ps_set (i := 10) sc_law.nd rfl (Or.inl rfl) (pe_op op_cat (pv 10) (pe_lst (pa_cons (pe_tup (pa_cons pe_str (pa_cons (pe_tup (pa_cons pe_int (pa_cons pe_int pa_nil))) pa_nil))) (pa_cons (pe_tup (pa_cons pe_int (pa_cons pe_int pa_nil))) (pa_cons pe_non (pa_cons (pe_tup pa_nil) (pa_cons pe_str (pa_cons (pe_tup (pa_cons pe_str (pa_cons (pe_tup (pa_cons (pe_op op_sub pe_int pe_int) (pa_cons pe_int (pa_cons pe_str pa_nil)))) (pa_cons pe_int pa_nil)))) (pa_cons (pe_tup (pa_cons pe_str (pa_cons (pe_tup (pa_cons (pe_op op_sub pe_int pe_int) (pa_cons pe_int (pa_cons pe_int pa_nil)))) (pa_cons pe_int pa_nil)))) (pa_cons pe_int pa_nil)))))))))))
    (pss_cons (ps_if (pt_not (pt_val (pe_call (ok_l_is T) (hr.mono (by omega)) rfl T.D_l_is.g T.D_l_is.F.kp T.D_l_is.b .nil pass0 (pa_cons (pe_call (ok_is_number T TB) (hr.mono (by omega)) rfl T.D_is_number.g T.D_is_number.F.kp T.D_is_number.b .nil pass0 (pa_cons (pe_ix (r := rIxL K) ix_list (pv 10) (pe_call (ok_l_next T) (hr.mono (by omega)) rfl T.D_l_next.g T.D_l_next.F.kp T.D_l_next.b .nil pass0 (pa_cons (pv 1) (pa_cons (pe_callB call_len_seq (by rfl) T.len PySem.boot_len (pa_cons (pv 10) pa_nil)) pa_nil))) (fun _ _ => rfl)) pa_nil)) (pa_cons pe_bl pa_nil))))) (pss_one (ps_ret pe_bl)) pss_nil)
    (pss_cons (ps_set (i := 11) sc_law.nd rfl (Or.inl rfl) (pe_tup (pa_cons pe_str (pa_cons (pe_call (ok_l_ratio T) (hr.mono (by omega)) rfl T.D_l_ratio.g T.D_l_ratio.F.kp T.D_l_ratio.b .nil pass0 (pa_cons (pv 1) (pa_cons (pv 2) (pa_cons pe_int pa_nil)))) pa_nil))))
    (pss_one (ps_ret (pe_and (pe_call (ok_l_is T) (hr.mono (by omega)) rfl T.D_l_is.g T.D_l_is.F.kp T.D_l_is.b .nil pass0 (pa_cons (pe_call (ok_is_number T TB) (hr.mono (by omega)) rfl T.D_is_number.g T.D_is_number.F.kp T.D_is_number.b .nil pass0 (pa_cons (pv 11) pa_nil)) (pa_cons pe_bl pa_nil))) (pe_one (pe_call (ok_l_is T) (hr.mono (by omega)) rfl T.D_l_is.g T.D_l_is.F.kp T.D_l_is.b .nil pass0 (pa_cons (pe_call (ok_is_number T TB) (hr.mono (by omega)) rfl T.D_is_number.g T.D_is_number.F.kp T.D_is_number.b .nil pass0 (pa_cons (pe_tup (pa_cons pe_str (pa_cons (pv 9) (pa_cons (pv 6) pa_nil)))) pa_nil)) (pa_cons pe_bl pa_nil))))))))))))))))))))))), ?_⟩
    refine ⟨_, rfl, a, ns, rfl, hS, fun s H1 hs1 e1 n1 => ?_⟩
    have B : Bag T.P_tab s H1 [] := ⟨hs1, TabG.same e1 hT, fun q hq => by cases hq⟩
    refine ⟨_, _, rfl, rfl, ⟨by decide, by decide, by decide⟩, (by show 4 ≤ sizeLine; decide), fun l ql => ?_⟩
    have B := Bag.new (o := .lst [.int 20, .int 20, .int 20, .int (10 ^ 12)]) B ql
    refine ⟨_, rfl, s, 4, rfl, B.hs, by decide, up 3 (by decide), fun d0 H2 a0 b0 hs2 k2 => ?_⟩
    have B := B.keep k2 hs2
    obtain ⟨far, hat, f0, fb⟩ : ∃ far : Int, atI [V.int 20, V.int 20, V.int 20, V.int (10 ^ 12)] d0 = some (V.int far) ∧ 0 < far ∧ far.natAbs < 2 ^ 41 := by
      obtain rfl | rfl | rfl | rfl : d0 = 0 ∨ d0 = 1 ∨ d0 = 2 ∨ d0 = 3 := by omega
      · exact ⟨_, rfl, by decide, by decide⟩
      · exact ⟨_, rfl, by decide, by decide⟩
      · exact ⟨_, rfl, by decide, by decide⟩
      · exact ⟨_, rfl, by decide, by decide⟩
    refine ⟨l, _, _, _, rfl, rfl, SqL.of (B.get (by simp)), hat, ?_⟩
    refine ⟨_, rfl, s, 13, rfl, B.hs, by decide, up 4 (by decide), fun d1 H3 a1 b1 hs3 k3 => ⟨_, _, rfl, rfl, ?_⟩⟩
    have B := B.keep k3 hs3
    refine ⟨_, rfl, _, rfl, _, _, rfl, rfl, .inl ⟨by decide, by decide⟩, _, _, rfl, rfl, s, 2 * far + 1, rfl, B.hs, by omega, up 45 (by omega), fun d2 H4 a2 b2 hs4 k4 => ?_⟩
    have B := B.keep k4 hs4
    refine ⟨_, rfl, _, _, rfl, rfl, ?_⟩
    refine ⟨_, rfl, _, rfl, _, _, rfl, rfl, .inl ⟨by decide, by decide⟩, _, _, rfl, rfl, s, 2 * far + 1, rfl, B.hs, by omega, up 45 (by omega), fun d3 H5 a3 b3 hs5 k5 => ?_⟩
    have B := B.keep k5 hs5
    refine ⟨_, rfl, _, _, rfl, rfl, ?_⟩
    refine ⟨_, rfl, s, 2, rfl, B.hs, by decide, up 3 (by decide), fun wh H6 a4 b4 hs6 k6 => ?_⟩
    have B := B.keep k6 hs6
    have ba : (d1 - 3).natAbs < 2 ^ 50 := by omega
    have bb : (d2 - far).natAbs < 2 ^ 50 := by omega
    have bc : (d3 - far).natAbs < 2 ^ 50 := by omega
    dsimp only
    generalize d1 - 3 = va at *
    generalize d2 - far = vb at *
    generalize d3 - far = vc at *
    have bd : (vb * vb - 4 * va * vc).natAbs < 2 ^ 104 := disc_size bc bb ba
    have b4a : (4 * va).natAbs < 2 ^ 53 := mul_up 3 50 (show (4 : Int).natAbs < 2 ^ 3 by decide) ba
    refine ⟨_, rfl, _, rfl, _, _, rfl, rfl, cmulw bb bb (by decide), _, rfl, _, _, rfl, rfl, .inl ⟨by decide, by decide⟩, _, rfl, _, _, rfl, rfl, cmulw b4a bc (by decide), _, _, rfl, rfl, ?_⟩
    refine ⟨fun σ H' => H' = H6 ∧ ∃ b : Bool, σ = [some (.ref a), some (.ref s), some (.int far), some (.int va), some (.int vb), some (.int vc), some (.int wh), some (.int (vb * vb - 4 * va * vc)), some (.bl b), none, none, none] ∧ (b = true ↔ EqOk vc vb va), ?_, ?_⟩
    · have no : ¬ EqOk vc vb va → ∃ b : Bool, [some (V.ref a), some (.ref s), some (.int far), some (.int va), some (.int vb), some (.int vc), some (.int wh), some (.int (vb * vb - 4 * va * vc)), some (.bl false), none, none, none] = [some (.ref a), some (.ref s), some (.int far), some (.int va), some (.int vb), some (.int vc), some (.int wh), some (.int (vb * vb - 4 * va * vc)), some (.bl b), none, none, none] ∧ (b = true ↔ EqOk vc vb va) := fun q => ⟨false, rfl, fun z => Bool.noConfusion z, fun z => absurd z q⟩
      have eg : Nat.gcd ((Nat.gcd va.natAbs vb.natAbs : Nat) : Int).natAbs vc.natAbs = Nat.gcd (Nat.gcd vc.natAbs vb.natAbs) va.natAbs := by
        rw [Int.natAbs_natCast, Nat.gcd_assoc, Nat.gcd_comm va.natAbs, Nat.gcd_comm vb.natAbs vc.natAbs]
      have bg : (((Nat.gcd va.natAbs vb.natAbs : Nat) : Int)).natAbs < 2 ^ 60 := by
        rw [Int.natAbs_natCast]
        by_cases z : va.natAbs = 0
        · rw [z, Nat.gcd_zero_left]; exact up 50 bb
        · exact up 50 (Nat.lt_of_le_of_lt (Nat.gcd_le_left _ (by omega)) ba)
      refine ⟨_, rfl, _, _, rfl, rfl, _, rfl, iteD (fun h1 => ?_) (fun h1 => ?_)⟩
      · refine ⟨_, rfl, _, rfl, va, vb, rfl, up 50 ba, up 50 bb, ?_⟩
        refine ⟨_, rfl, _, vc, rfl, up 60 bg, up 50 bc, ?_⟩
        rw [eg]
        refine ⟨rfl, _, rfl, ite2 (fun hz => ?_) (fun hz => ?_)⟩
        · have h2 : Nat.gcd (Nat.gcd vc.natAbs vb.natAbs) va.natAbs = 1 := by
            have := of_decide_eq_true hz
            injection this with this
            omega
          refine ⟨_, rfl, _, _, rfl, rfl, _, rfl, iteD (fun h3 => ?_) (fun h3 => ?_)⟩
          · refine ⟨_, rfl, _, rfl, by omega, up 104 bd, fun b hb => ⟨_, rfl, ?_⟩⟩
            refine ⟨rfl, !b, rfl, fun z => ⟨by omega, h2, h3, fun q => ?_⟩, fun z => ?_⟩
            · rw [hb.mpr q] at z
              cases z
            · cases b with
              | false => rfl
              | true => exact absurd (hb.mp rfl) z.2.2.2
          · exact ⟨rfl, no fun z => h3 z.2.2.1⟩
        · exact ⟨rfl, no fun z => hz (by rw [z.2.1]; exact decide_eq_true rfl)⟩
      · exact ⟨rfl, no fun z => h1 (by have := z.1; omega)⟩
    rintro σ H7 ⟨rfl, due, rfl, hdue⟩
    refine ⟨_, rfl, _, rfl, _, rfl, (by show 3 ≤ sizeLine; decide), fun pe qe => ?_⟩
    have B := Bag.new (o := .tup [.int vc, .int vb, .int va]) B qe
    refine ⟨_, rfl, (by show 3 ≤ sizeLine; decide), fun pr qr => ?_⟩
    have B := Bag.new (o := .tup [.str "root", .ref pe, .int wh]) B qr
    refine ⟨_, rfl, B.T, num_root (p := pr) (q := pe) (c := vc) (b := vb) (a := va) (w := wh) (B.get (by simp)) (B.get (by simp)) (up 50 bc) (up 50 bb) (up 50 ba) fun r H8 hr8 st8 => ?_⟩
    have er : r = due := by
      have h1 : r = true ↔ due = true := hr8.trans ⟨fun z => hdue.mpr z.1, fun z => ⟨hdue.mp z, a4, b4⟩⟩
      cases r <;> cases due <;> simp at h1 ⊢
    subst er
    refine ⟨_, rfl, r, rfl, _, rfl, iteF ?_⟩
    have B : Bag T.P_tab s H8 [] := ⟨Strm.sameT st8 B.hs, st8.2.1, fun q hq => by cases hq⟩
    clear hs1 hs2 hs3 hs4 hs5 hs6 k2 k3 k4 k5 k6
    refine ⟨_, _, rfl, rfl, (by show 3 ≤ sizeLine; decide), fun good qg => ?_⟩
    have B := Bag.new (o := .tup [.int (0 - 2), .int 0, .int 1]) B qg
    refine ⟨_, rfl, (by show 2 ≤ sizeLine; decide), fun p1 q1 => ?_⟩
    have B := Bag.new (o := .tup [.str "root", .ref good]) B q1
    refine ⟨_, rfl, good, _, rfl, .inr (SqT.of (B.get (p := good) (o := .tup [.int (0 - 2), .int 0, .int 1]) (by simp))), fun l2 q2 => ?_⟩
    have B := Bag.new (o := .lst [.int (0 - 2), .int 0, .int 1]) B q2
    refine ⟨(by show 3 ≤ sizeLine; decide), fun p3 q3 => ?_⟩
    have B := Bag.new (o := .tup [.str "root", .ref l2, .int 0]) B q3
    refine ⟨_, rfl, (by show 3 ≤ sizeLine; decide), fun p4 q4 => ?_⟩
    have B := Bag.new (o := .tup [.str "root", .ref good, .int 2]) B q4
    refine ⟨_, rfl, _, rfl, (by show 3 ≤ sizeLine; decide), fun p5 q5 => ?_⟩
    have B := Bag.new (o := .tup [.str "root", .ref good, .int (-1)]) B q5
    refine ⟨_, rfl, (by show 3 ≤ sizeLine; decide), fun p6 q6 => ?_⟩
    have B := Bag.new (o := .tup [.str "root", .ref good, .bl true]) B q6
    refine ⟨(by show 5 ≤ sizeLine; decide), fun w7 q7 => ?_⟩
    have B := Bag.new (o := .lst [.ref p1, .ref p3, .ref p4, .ref p5, .ref p6]) B q7
    refine ⟨_, rfl, _, rfl, (by show 4 ≤ sizeLine; decide), fun p8 q8 => ?_⟩
    have B := Bag.new (o := .tup [.str "root", .ref good, .int 0, .int 0]) B q8
    refine ⟨_, rfl, (by show 3 ≤ sizeLine; decide), fun x9 q9 => ?_⟩
    have B := Bag.new (o := .lst [.str "root", .ref good, .int 0]) B q9
    refine ⟨_, rfl, (by show 3 ≤ sizeLine; decide), fun p10 q10 => ?_⟩
    have B := Bag.new (o := .tup [.str "Root", .ref good, .int 0]) B q10
    refine ⟨_, rfl, (by show 1 ≤ sizeLine; decide), fun p11 q11 => ?_⟩
    have B := Bag.new (o := .tup [.int 1]) B q11
    refine ⟨_, _, _, _, rfl, rfl, SqT.of (B.get (p := good) (o := .tup [.int (0 - 2), .int 0, .int 1]) (by simp)), SqT.of (B.get (p := p11) (o := .tup [.int 1]) (by simp)), (by show 4 ≤ sizeLine; decide), (fun z => by cases z), (fun _ z => by cases z), fun _ _ p12 q12 => ?_⟩
    have B := Bag.new (o := .tup [.int (0 - 2), .int 0, .int 1, .int 1]) B q12
    refine ⟨(by show 3 ≤ sizeLine; decide), fun p13 q13 => ?_⟩
    have B := Bag.new (o := .tup [.str "root", .ref p12, .int 0]) B q13
    refine ⟨(by show 3 ≤ sizeLine; decide), fun p14 q14 => ?_⟩
    have B := Bag.new (o := .tup [.str "root", .non, .int 0]) B q14
    refine ⟨(by show 5 ≤ sizeLine; decide), fun w15 q15 => ?_⟩
    have B := Bag.new (o := .lst [.ref p8, .ref x9, .ref p10, .ref p13, .ref p14]) B q15
    refine ⟨_, _, _, _, rfl, rfl, B.get (p := w7) (o := .lst [.ref p1, .ref p3, .ref p4, .ref p5, .ref p6]) (by simp), B.get (p := w15) (o := .lst [.ref p8, .ref x9, .ref p10, .ref p13, .ref p14]) (by simp), (by show 10 ≤ sizeLine; decide), fun w16 q16 => ?_⟩
    have B := Bag.new (o := .lst [.ref p1, .ref p3, .ref p4, .ref p5, .ref p6, .ref p8, .ref x9, .ref p10, .ref p13, .ref p14]) B q16
    refine ⟨_, rfl, _, _, rfl, rfl, (by show 3 ≤ sizeLine; decide), fun p17 q17 => ?_⟩
    have B := Bag.new (o := .tup [.int (0 - 2), .int 0, .bl true]) B q17
    refine ⟨(by show 3 ≤ sizeLine; decide), fun p18 q18 => ?_⟩
    have B := Bag.new (o := .tup [.str "root", .ref p17, .int 0]) B q18
    refine ⟨(by show 2 ≤ sizeLine; decide), fun p19 q19 => ?_⟩
    have B := Bag.new (o := .tup [.int 2, .int 4]) B q19
    refine ⟨(by show 2 ≤ sizeLine; decide), fun p20 q20 => ?_⟩
    have B := Bag.new (o := .tup [.str "rational", .ref p19]) B q20
    refine ⟨(by show 2 ≤ sizeLine; decide), fun p21 q21 => ?_⟩
    have B := Bag.new (o := .tup [.str "rational", .int 3]) B q21
    refine ⟨(by show 2 ≤ sizeLine; decide), fun p22 q22 => ?_⟩
    have B := Bag.new (o := .tup [.int 1, .int 2]) B q22
    refine ⟨(by show 3 ≤ sizeLine; decide), fun p23 q23 => ?_⟩
    have B := Bag.new (o := .tup [.str "rational", .ref p22, .int 0]) B q23
    refine ⟨(by show 1 ≤ sizeLine; decide), fun p24 q24 => ?_⟩
    have B := Bag.new (o := .tup [.str "rational"]) B q24
    refine ⟨(by show 5 ≤ sizeLine; decide), fun w25 q25 => ?_⟩
    have B := Bag.new (o := .lst [.ref p18, .ref p20, .ref p21, .ref p23, .ref p24]) B q25
    refine ⟨_, _, _, _, rfl, rfl, B.get (p := w16) (o := .lst [.ref p1, .ref p3, .ref p4, .ref p5, .ref p6, .ref p8, .ref x9, .ref p10, .ref p13, .ref p14]) (by simp), B.get (p := w25) (o := .lst [.ref p18, .ref p20, .ref p21, .ref p23, .ref p24]) (by simp), (by show 15 ≤ sizeLine; decide), fun w26 q26 => ?_⟩
    have B := Bag.new (o := .lst [.ref p1, .ref p3, .ref p4, .ref p5, .ref p6, .ref p8, .ref x9, .ref p10, .ref p13, .ref p14, .ref p18, .ref p20, .ref p21, .ref p23, .ref p24]) B q26
    refine ⟨_, rfl, (by show 2 ≤ sizeLine; decide), fun p27 q27 => ?_⟩
    have B := Bag.new (o := .tup [.int 1, .int 2]) B q27
    refine ⟨(by show 2 ≤ sizeLine; decide), fun p28 q28 => ?_⟩
    have B := Bag.new (o := .tup [.str "ratio", .ref p27]) B q28
    refine ⟨(by show 2 ≤ sizeLine; decide), fun p29 q29 => ?_⟩
    have B := Bag.new (o := .tup [.int 1, .int 2]) B q29
    refine ⟨(by show 0 ≤ sizeLine; decide), fun p30 q30 => ?_⟩
    have B := Bag.new (o := .tup []) B q30
    refine ⟨_, _, rfl, rfl, (by show 3 ≤ sizeLine; decide), fun p31 q31 => ?_⟩
    have B := Bag.new (o := .tup [.int (0 - 2), .int 0, .str "1"]) B q31
    refine ⟨(by show 3 ≤ sizeLine; decide), fun p32 q32 => ?_⟩
    have B := Bag.new (o := .tup [.str "root", .ref p31, .int 0]) B q32
    refine ⟨_, _, rfl, rfl, (by show 3 ≤ sizeLine; decide), fun p33 q33 => ?_⟩
    have B := Bag.new (o := .tup [.int (0 - 4), .int 0, .int 2]) B q33
    refine ⟨(by show 3 ≤ sizeLine; decide), fun p34 q34 => ?_⟩
    have B := Bag.new (o := .tup [.str "root", .ref p33, .int 0]) B q34
    refine ⟨(by show 8 ≤ sizeLine; decide), fun w35 q35 => ?_⟩
    have B := Bag.new (o := .lst [.ref p28, .ref p29, .non, .ref p30, .str "root", .ref p32, .ref p34, .int 7]) B q35
    refine ⟨_, _, _, _, rfl, rfl, B.get (p := w26) (o := .lst [.ref p1, .ref p3, .ref p4, .ref p5, .ref p6, .ref p8, .ref x9, .ref p10, .ref p13, .ref p14, .ref p18, .ref p20, .ref p21, .ref p23, .ref p24]) (by simp), B.get (p := w35) (o := .lst [.ref p28, .ref p29, .non, .ref p30, .str "root", .ref p32, .ref p34, .int 7]) (by simp), (by show 23 ≤ sizeLine; decide), fun w36 q36 => ?_⟩
    have B := Bag.new (o := .lst [.ref p1, .ref p3, .ref p4, .ref p5, .ref p6, .ref p8, .ref x9, .ref p10, .ref p13, .ref p14, .ref p18, .ref p20, .ref p21, .ref p23, .ref p24, .ref p28, .ref p29, .non, .ref p30, .str "root", .ref p32, .ref p34, .int 7]) B q36
    refine ⟨_, rfl, _, rfl, _, rfl, w36, _, rfl, .inl (SqL.of (B.get (p := w36) (o := .lst [.ref p1, .ref p3, .ref p4, .ref p5, .ref p6, .ref p8, .ref x9, .ref p10, .ref p13, .ref p14, .ref p18, .ref p20, .ref p21, .ref p23, .ref p24, .ref p28, .ref p29, .non, .ref p30, .str "root", .ref p32, .ref p34, .int 7]) (by simp))), ?_⟩
    refine ⟨s, 23, rfl, B.hs, by decide, up 5 (by decide), fun d9 H9 a9 b9 hs9 k9 => ?_⟩
    have B := B.keep k9 hs9
    have key : ∃ v, atI [V.ref p1, .ref p3, .ref p4, .ref p5, .ref p6, .ref p8, .ref x9, .ref p10, .ref p13, .ref p14, .ref p18, .ref p20, .ref p21, .ref p23, .ref p24, .ref p28, .ref p29, .non, .ref p30, .str "root", .ref p32, .ref p34, .int 7] d9 = some v ∧ NumA K T.P_tab H9 v (fun r H' => r = false ∧ SameT T.P_tab H9 H') := by
      have F : (false = false) ∧ SameT T.P_tab H9 H9 := ⟨rfl, SameT.refl B.T⟩
      have case : d9 = 0 ∨ d9 = 1 ∨ d9 = 2 ∨ d9 = 3 ∨ d9 = 4 ∨ d9 = 5 ∨ d9 = 6 ∨ d9 = 7 ∨ d9 = 8 ∨ d9 = 9 ∨ d9 = 10 ∨ d9 = 11 ∨ d9 = 12 ∨ d9 = 13 ∨ d9 = 14 ∨ d9 = 15 ∨ d9 = 16 ∨ d9 = 17 ∨ d9 = 18 ∨ d9 = 19 ∨ d9 = 20 ∨ d9 = 21 ∨ d9 = 22 := by omega
      rcases case with rfl | rfl | rfl | rfl | rfl | rfl | rfl | rfl | rfl | rfl | rfl | rfl | rfl | rfl | rfl | rfl | rfl | rfl | rfl | rfl | rfl | rfl | rfl
      · exact ⟨_, rfl, num_size (B.get (p := p1) (o := .tup [.str "root", .ref good]) (by simp)) (by simp) F⟩
      · exact ⟨_, rfl, num_eq (B.get (p := p3) (o := .tup [.str "root", .ref l2, .int 0]) (by simp)) (.inl ⟨"list", ty_lst (B.get (p := l2) (o := .lst [.int (0 - 2), .int 0, .int 1]) (by simp)), by decide, by decide, ⟨fun _ => F, fun z => Bool.noConfusion z⟩⟩)⟩
      · exact ⟨_, rfl, num_root (p := p4) (q := good) (c := (0 - 2)) (b := 0) (a := 1) (w := 2) (B.get (p := p4) (o := .tup [.str "root", .ref good, .int 2]) (by simp)) (B.get (p := good) (o := .tup [.int (0 - 2), .int 0, .int 1]) (by simp)) (by decide) (by decide) (by decide) fun r H' hr st => ⟨by cases r with | false => rfl | true => exact absurd (hr.mp rfl) (fun z => absurd z.2.2 (by decide)), st⟩⟩
      · exact ⟨_, rfl, num_root (p := p5) (q := good) (c := (0 - 2)) (b := 0) (a := 1) (w := (-1)) (B.get (p := p5) (o := .tup [.str "root", .ref good, .int (-1)]) (by simp)) (B.get (p := good) (o := .tup [.int (0 - 2), .int 0, .int 1]) (by simp)) (by decide) (by decide) (by decide) fun r H' hr st => ⟨by cases r with | false => rfl | true => exact absurd (hr.mp rfl) (fun z => absurd z.2.1 (by decide)), st⟩⟩
      · exact ⟨_, rfl, num_eq (B.get (p := p6) (o := .tup [.str "root", .ref good, .bl true]) (by simp)) (.inr (.inr (.inr ⟨good, 0 - 2, 0, 1, rfl, (B.get (p := good) (o := .tup [.int (0 - 2), .int 0, .int 1]) (by simp)), by decide, by decide, by decide, fun r H' hr st => ⟨fun _ => ⟨rfl, st⟩, fun _ => .inr ⟨"bool", ty_bl _, by decide, by decide, rfl, st⟩⟩⟩)))⟩
      · exact ⟨_, rfl, num_size (B.get (p := p8) (o := .tup [.str "root", .ref good, .int 0, .int 0]) (by simp)) (by simp) F⟩
      · exact ⟨_, rfl, num_other (ty_lst (B.get (p := x9) (o := .lst [.str "root", .ref good, .int 0]) (by simp))) (by decide) (by decide) F⟩
      · exact ⟨_, rfl, num_word (B.get (p := p10) (o := .tup [.str "Root", .ref good, .int 0]) (by simp)) (by decide) (by decide) F⟩
      · exact ⟨_, rfl, num_eq (B.get (p := p13) (o := .tup [.str "root", .ref p12, .int 0]) (by simp)) (.inr (.inl ⟨p12, _, rfl, (B.get (p := p12) (o := .tup [.int (0 - 2), .int 0, .int 1, .int 1]) (by simp)), by decide, ⟨fun _ => F, fun z => Bool.noConfusion z⟩⟩))⟩
      · exact ⟨_, rfl, num_eq (B.get (p := p14) (o := .tup [.str "root", .non, .int 0]) (by simp)) (.inl ⟨"NoneType", ty_non, by decide, by decide, ⟨fun _ => F, fun z => Bool.noConfusion z⟩⟩)⟩
      · exact ⟨_, rfl, num_eq (B.get (p := p18) (o := .tup [.str "root", .ref p17, .int 0]) (by simp)) (.inr (.inr (.inl ⟨p17, _, [true, true, false], rfl, (B.get (p := p17) (o := .tup [.int (0 - 2), .int 0, .bl true]) (by simp)), rfl, ⟨rfl, fun i x r u hx hr' hrel => by
            match i, hx, hr' with
            | 0, hx, hr' => cases hx; cases hr'; obtain ⟨t, rfl⟩ := hrel; exact .int _ _
            | 1, hx, hr' => cases hx; cases hr'; obtain ⟨t, rfl⟩ := hrel; exact .int _ _
            | 2, hx, hr' => cases hx; cases hr'; have e : u = .bool true := hrel; subst e; exact .bl _
            | j + 3, hx, _ => simp at hx⟩, rfl, fun H' st => ⟨fun _ => ⟨rfl, st⟩, fun z => Bool.noConfusion z⟩⟩)))⟩
      · exact ⟨_, rfl, num_rat (r := false) (B.get (p := p20) (o := .tup [.str "rational", .ref p19]) (by simp)) (RatV.pair (K := K) (n := 2) (d := 4) (B.get (p := p19) (o := .tup [.int 2, .int 4]) (by simp))) F⟩
      · exact ⟨_, rfl, num_rat (r := false) (B.get (p := p21) (o := .tup [.str "rational", .int 3]) (by simp)) (.other (ty_int _) (by decide) (by decide)) F⟩
      · exact ⟨_, rfl, num_rsize (B.get (p := p23) (o := .tup [.str "rational", .ref p22, .int 0]) (by simp)) (by simp) F⟩
      · exact ⟨_, rfl, num_rsize (B.get (p := p24) (o := .tup [.str "rational"]) (by simp)) (by simp) F⟩
      · exact ⟨_, rfl, num_word (B.get (p := p28) (o := .tup [.str "ratio", .ref p27]) (by simp)) (by decide) (by decide) F⟩
      · exact ⟨_, rfl, .inr (.inr (.inl ⟨p29, .int 1, [.int 2], "int", rfl, (B.get (p := p29) (o := .tup [.int 1, .int 2]) (by simp)), ty_int _, by decide, by decide, F⟩))⟩
      · exact ⟨_, rfl, num_other ty_non (by decide) (by decide) F⟩
      · exact ⟨_, rfl, .inr (.inl ⟨p30, rfl, (B.get (p := p30) (o := .tup []) (by simp)), F⟩)⟩
      · exact ⟨_, rfl, num_other (ty_str _) (by decide) (by decide) F⟩
      · exact ⟨_, rfl, num_eq (B.get (p := p32) (o := .tup [.str "root", .ref p31, .int 0]) (by simp)) (.inr (.inr (.inl ⟨p31, _, [true, true, false], rfl, (B.get (p := p31) (o := .tup [.int (0 - 2), .int 0, .str "1"]) (by simp)), rfl, ⟨rfl, fun i x r u hx hr' hrel => by
            match i, hx, hr' with
            | 0, hx, hr' => cases hx; cases hr'; obtain ⟨t, rfl⟩ := hrel; exact .int _ _
            | 1, hx, hr' => cases hx; cases hr'; obtain ⟨t, rfl⟩ := hrel; exact .int _ _
            | 2, hx, hr' => cases hx; cases hr'; obtain ⟨t, rfl⟩ := hrel; exact .str _ _
            | j + 3, hx, _ => simp at hx⟩, rfl, fun H' st => ⟨fun _ => ⟨rfl, st⟩, fun z => Bool.noConfusion z⟩⟩)))⟩
      · exact ⟨_, rfl, num_root (p := p34) (q := p33) (c := (0 - 4)) (b := 0) (a := 2) (w := 0) (B.get (p := p34) (o := .tup [.str "root", .ref p33, .int 0]) (by simp)) (B.get (p := p33) (o := .tup [.int (0 - 4), .int 0, .int 2]) (by simp)) (by decide) (by decide) (by decide) fun r H' hr st => ⟨by cases r with | false => rfl | true => exact absurd (hr.mp rfl) (fun z => absurd z.1.2.1 (by decide)), st⟩⟩
      · exact ⟨_, rfl, num_other (ty_int _) (by decide) (by decide) F⟩
    obtain ⟨v, hat9, hnum⟩ := key
    refine ⟨w36, _, _, _, rfl, rfl, SqL.of (B.get (p := w36) (o := .lst [.ref p1, .ref p3, .ref p4, .ref p5, .ref p6, .ref p8, .ref x9, .ref p10, .ref p13, .ref p14, .ref p18, .ref p20, .ref p21, .ref p23, .ref p24, .ref p28, .ref p29, .non, .ref p30, .str "root", .ref p32, .ref p34, .int 7]) (by simp)), hat9, ?_⟩
    refine ⟨v, rfl, B.T, NumA.imp B.T hnum fun r H10 _ hk => ?_⟩
    obtain ⟨er, st⟩ := hk
    subst er
    refine ⟨false, rfl, _, rfl, iteF ?_⟩
    have gg : H10 good = some (.tup [.int (0 - 2), .int 0, .int 1]) := st.tup (B.get (p := good) (o := .tup [.int (0 - 2), .int 0, .int 1]) (by simp))
    have gn : good ≠ s := (B.all (good, .tup [.int (0 - 2), .int 0, .int 1]) (by simp)).1
    have B : Bag T.P_tab s H10 [(good, .tup [.int (0 - 2), .int 0, .int 1])] := ⟨Strm.sameT st B.hs, st.2.1, fun q hq => by
      rcases List.mem_cons.mp hq with rfl | hq
      · exact ⟨gn, gg⟩
      · cases hq⟩
    refine ⟨_, rfl, _, rfl, s, far, 40, rfl, B.hs, f0, by decide, up 41 fb, by decide, fun px H11 xn xd x1 x2 x3 x4 hs11 k11 _ nx hx => ?_⟩
    have B := B.keep k11 hs11
    refine ⟨(by show 2 ≤ sizeLine; decide), fun pr2 qr2 => ?_⟩
    have hx2 := same_new (o := .tup [.str "rational", .ref px]) qr2 _ _ hx
    have B := Bag.new (o := .tup [.str "rational", .ref px]) B qr2
    refine ⟨_, rfl, _, rfl, B.T, num_rat (p := pr2) (v := .ref px) (r := true) (B.get (by simp)) (.yes hx2 x1 x2) ?_⟩
    refine ⟨true, rfl, true, rfl, iteT ?_⟩
    refine ⟨_, rfl, _, rfl, (by show 3 ≤ sizeLine; decide), fun pz qz => ?_⟩
    have B := Bag.new (o := .tup [.str "root", .ref good, .int wh]) B qz
    refine ⟨_, rfl, B.T, num_root (p := pz) (q := good) (c := 0 - 2) (b := 0) (a := 1) (w := wh) (B.get (by simp)) (B.get (by simp)) (by decide) (by decide) (by decide) fun r H12 hr12 st12 => ?_⟩
    have er : r = true := hr12.mpr ⟨good_ok, a4, b4⟩
    subst er
    exact ⟨true, rfl, k H12⟩
end

theorem all_mk {l : PySem.W.OpenLaw} {w : World} {K : PySem.W.Frag} {h : Heap} {mg : Str → Option Value} {fa : Addr} (X : K.In h) (G : h.Ns mainGlobals mg) (hfa : mg "law" = some (.ref fa))
    {f0 : Addr} {oc0 kV0 dc0 pm0 cd0 ct0 : Value} {od0 an0 : Option Addr} {sl0 : Array (Option Value)}
    (a0 : PySem.W.nsIn K mainGlobals "_law_stream" = some (some (.ref f0))) (l0 : K.lookup f0 = some ⟨oc0, od0, .func (PySem.W.fnOf "_law_stream" "_law_stream" (defArgs s_l_stream) (defBody s_l_stream) (defScope s_l_stream) .none kV0 dc0 pm0 an0 cd0 ct0), sl0⟩) (c0 : PySem.W.codeIn K cd0 "_law_stream" = true) (k0 : PySem.W.keepIn K (.ref f0) = true)
    {f1 : Addr} {oc1 kV1 dc1 pm1 cd1 ct1 : Value} {od1 an1 : Option Addr} {sl1 : Array (Option Value)}
    (a1 : PySem.W.nsIn K mainGlobals "_law_next" = some (some (.ref f1))) (l1 : K.lookup f1 = some ⟨oc1, od1, .func (PySem.W.fnOf "_law_next" "_law_next" (defArgs s_l_next) (defBody s_l_next) (defScope s_l_next) .none kV1 dc1 pm1 an1 cd1 ct1), sl1⟩) (c1 : PySem.W.codeIn K cd1 "_law_next" = true) (k1 : PySem.W.keepIn K (.ref f1) = true)
    {f2 : Addr} {oc2 kV2 dc2 pm2 cd2 ct2 : Value} {od2 an2 : Option Addr} {sl2 : Array (Option Value)}
    (a2 : PySem.W.nsIn K mainGlobals "_law_gcd" = some (some (.ref f2))) (l2 : K.lookup f2 = some ⟨oc2, od2, .func (PySem.W.fnOf "_law_gcd" "_law_gcd" (defArgs s_l_gcd) (defBody s_l_gcd) (defScope s_l_gcd) .none kV2 dc2 pm2 an2 cd2 ct2), sl2⟩) (c2 : PySem.W.codeIn K cd2 "_law_gcd" = true) (k2 : PySem.W.keepIn K (.ref f2) = true)
    {f3 : Addr} {oc3 kV3 dc3 pm3 cd3 ct3 : Value} {od3 an3 : Option Addr} {sl3 : Array (Option Value)}
    (a3 : PySem.W.nsIn K mainGlobals "_law_low" = some (some (.ref f3))) (l3 : K.lookup f3 = some ⟨oc3, od3, .func (PySem.W.fnOf "_law_low" "_law_low" (defArgs s_l_low) (defBody s_l_low) (defScope s_l_low) .none kV3 dc3 pm3 an3 cd3 ct3), sl3⟩) (c3 : PySem.W.codeIn K cd3 "_law_low" = true) (k3 : PySem.W.keepIn K (.ref f3) = true)
    {f4 : Addr} {oc4 kV4 dc4 pm4 cd4 ct4 : Value} {od4 an4 : Option Addr} {sl4 : Array (Option Value)}
    (a4 : PySem.W.nsIn K mainGlobals "is_whole" = some (some (.ref f4))) (l4 : K.lookup f4 = some ⟨oc4, od4, .func (PySem.W.fnOf "is_whole" "is_whole" (defArgs s_is_whole) (defBody s_is_whole) (defScope s_is_whole) .none kV4 dc4 pm4 an4 cd4 ct4), sl4⟩) (c4 : PySem.W.codeIn K cd4 "is_whole" = true) (k4 : PySem.W.keepIn K (.ref f4) = true)
    {f5 : Addr} {oc5 kV5 dc5 pm5 cd5 ct5 : Value} {od5 an5 : Option Addr} {sl5 : Array (Option Value)}
    (a5 : PySem.W.nsIn K mainGlobals "is_rational" = some (some (.ref f5))) (l5 : K.lookup f5 = some ⟨oc5, od5, .func (PySem.W.fnOf "is_rational" "is_rational" (defArgs s_is_rational) (defBody s_is_rational) (defScope s_is_rational) .none kV5 dc5 pm5 an5 cd5 ct5), sl5⟩) (c5 : PySem.W.codeIn K cd5 "is_rational" = true) (k5 : PySem.W.keepIn K (.ref f5) = true)
    {f6 : Addr} {oc6 kV6 dc6 pm6 cd6 ct6 : Value} {od6 an6 : Option Addr} {sl6 : Array (Option Value)}
    (a6 : PySem.W.nsIn K mainGlobals "_law_ratio" = some (some (.ref f6))) (l6 : K.lookup f6 = some ⟨oc6, od6, .func (PySem.W.fnOf "_law_ratio" "_law_ratio" (defArgs s_l_ratio) (defBody s_l_ratio) (defScope s_l_ratio) .none kV6 dc6 pm6 an6 cd6 ct6), sl6⟩) (c6 : PySem.W.codeIn K cd6 "_law_ratio" = true) (k6 : PySem.W.keepIn K (.ref f6) = true)
    {f7 : Addr} {oc7 kV7 dc7 pm7 cd7 ct7 : Value} {od7 an7 : Option Addr} {sl7 : Array (Option Value)}
    (a7 : PySem.W.nsIn K mainGlobals "_law_root" = some (some (.ref f7))) (l7 : K.lookup f7 = some ⟨oc7, od7, .func (PySem.W.fnOf "_law_root" "_law_root" (defArgs s_l_root) (defBody s_l_root) (defScope s_l_root) .none kV7 dc7 pm7 an7 cd7 ct7), sl7⟩) (c7 : PySem.W.codeIn K cd7 "_law_root" = true) (k7 : PySem.W.keepIn K (.ref f7) = true)
    {f8 : Addr} {oc8 kV8 dc8 pm8 cd8 ct8 : Value} {od8 an8 : Option Addr} {sl8 : Array (Option Value)}
    (a8 : PySem.W.nsIn K mainGlobals "_law_is_square" = some (some (.ref f8))) (l8 : K.lookup f8 = some ⟨oc8, od8, .func (PySem.W.fnOf "_law_is_square" "_law_is_square" (defArgs s_l_is_square) (defBody s_l_is_square) (defScope s_l_is_square) .none kV8 dc8 pm8 an8 cd8 ct8), sl8⟩) (c8 : PySem.W.codeIn K cd8 "_law_is_square" = true) (k8 : PySem.W.keepIn K (.ref f8) = true)
    {f9 : Addr} {oc9 kV9 dc9 pm9 cd9 ct9 : Value} {od9 an9 : Option Addr} {sl9 : Array (Option Value)}
    (a9 : PySem.W.nsIn K mainGlobals "square_root" = some (some (.ref f9))) (l9 : K.lookup f9 = some ⟨oc9, od9, .func (PySem.W.fnOf "square_root" "square_root" (defArgs s_square_root) (defBody s_square_root) (defScope s_square_root) .none kV9 dc9 pm9 an9 cd9 ct9), sl9⟩) (c9 : PySem.W.codeIn K cd9 "square_root" = true) (k9 : PySem.W.keepIn K (.ref f9) = true)
    {f10 : Addr} {oc10 kV10 dc10 pm10 cd10 ct10 : Value} {od10 an10 : Option Addr} {sl10 : Array (Option Value)}
    (a10 : PySem.W.nsIn K mainGlobals "is_field" = some (some (.ref f10))) (l10 : K.lookup f10 = some ⟨oc10, od10, .func (PySem.W.fnOf "is_field" "is_field" (defArgs s_is_field) (defBody s_is_field) (defScope s_is_field) .none kV10 dc10 pm10 an10 cd10 ct10), sl10⟩) (c10 : PySem.W.codeIn K cd10 "is_field" = true) (k10 : PySem.W.keepIn K (.ref f10) = true)
    {f11 : Addr} {oc11 kV11 dc11 pm11 cd11 ct11 : Value} {od11 an11 : Option Addr} {sl11 : Array (Option Value)}
    (a11 : PySem.W.nsIn K mainGlobals "_law_is" = some (some (.ref f11))) (l11 : K.lookup f11 = some ⟨oc11, od11, .func (PySem.W.fnOf "_law_is" "_law_is" (defArgs s_l_is) (defBody s_l_is) (defScope s_l_is) .none kV11 dc11 pm11 an11 cd11 ct11), sl11⟩) (c11 : PySem.W.codeIn K cd11 "_law_is" = true) (k11 : PySem.W.keepIn K (.ref f11) = true)
    {f12 : Addr} {oc12 kV12 dc12 pm12 cd12 ct12 : Value} {od12 an12 : Option Addr} {sl12 : Array (Option Value)}
    (a12 : PySem.W.nsIn K mainGlobals "is_index" = some (some (.ref f12))) (l12 : K.lookup f12 = some ⟨oc12, od12, .func (PySem.W.fnOf "is_index" "is_index" (defArgs s_is_index) (defBody s_is_index) (defScope s_is_index) .none kV12 dc12 pm12 an12 cd12 ct12), sl12⟩) (c12 : PySem.W.codeIn K cd12 "is_index" = true) (k12 : PySem.W.keepIn K (.ref f12) = true)
    {f13 : Addr} {oc13 kV13 dc13 pm13 cd13 ct13 : Value} {od13 an13 : Option Addr} {sl13 : Array (Option Value)}
    (a13 : PySem.W.nsIn K mainGlobals "discriminant" = some (some (.ref f13))) (l13 : K.lookup f13 = some ⟨oc13, od13, .func (PySem.W.fnOf "discriminant" "discriminant" (defArgs s_discriminant) (defBody s_discriminant) (defScope s_discriminant) .none kV13 dc13 pm13 an13 cd13 ct13), sl13⟩) (c13 : PySem.W.codeIn K cd13 "discriminant" = true) (k13 : PySem.W.keepIn K (.ref f13) = true)
    {f14 : Addr} {oc14 kV14 dc14 pm14 cd14 ct14 : Value} {od14 an14 : Option Addr} {sl14 : Array (Option Value)}
    (a14 : PySem.W.nsIn K mainGlobals "is_equation" = some (some (.ref f14))) (l14 : K.lookup f14 = some ⟨oc14, od14, .func (PySem.W.fnOf "is_equation" "is_equation" (defArgs s_is_equation) (defBody s_is_equation) (defScope s_is_equation) .none kV14 dc14 pm14 an14 cd14 ct14), sl14⟩) (c14 : PySem.W.codeIn K cd14 "is_equation" = true) (k14 : PySem.W.keepIn K (.ref f14) = true)
    {f15 : Addr} {oc15 kV15 dc15 pm15 cd15 ct15 : Value} {od15 an15 : Option Addr} {sl15 : Array (Option Value)}
    (a15 : PySem.W.nsIn K mainGlobals "is_number" = some (some (.ref f15))) (l15 : K.lookup f15 = some ⟨oc15, od15, .func (PySem.W.fnOf "is_number" "is_number" (defArgs s_is_number) (defBody s_is_number) (defScope s_is_number) .none kV15 dc15 pm15 an15 cd15 ct15), sl15⟩) (c15 : PySem.W.codeIn K cd15 "is_number" = true) (k15 : PySem.W.keepIn K (.ref f15) = true)
    {f16 : Addr} {oc16 kV16 dc16 pm16 cd16 ct16 : Value} {od16 an16 : Option Addr} {sl16 : Array (Option Value)}
    (a16 : PySem.W.nsIn K mainGlobals "law" = some (some (.ref f16))) (l16 : K.lookup f16 = some ⟨oc16, od16, .func (PySem.W.fnOf "law" "law" (defArgs s_law) (defBody s_law) (defScope s_law) .none kV16 dc16 pm16 an16 cd16 ct16), sl16⟩) (c16 : PySem.W.codeIn K cd16 "law" = true) (k16 : PySem.W.keepIn K (.ref f16) = true)
    (z_abs : PySem.W.nsIn K mainGlobals "abs" = some none)
    (z_all : PySem.W.nsIn K mainGlobals "all" = some none)
    (z_bool : PySem.W.nsIn K mainGlobals "bool" = some none)
    (z_int : PySem.W.nsIn K mainGlobals "int" = some none)
    (z_isinstance : PySem.W.nsIn K mainGlobals "isinstance" = some none)
    (z_len : PySem.W.nsIn K mainGlobals "len" = some none)
    (z_list : PySem.W.nsIn K mainGlobals "list" = some none)
    (z_range : PySem.W.nsIn K mainGlobals "range" = some none)
    (z_str : PySem.W.nsIn K mainGlobals "str" = some none)
    (z_tuple : PySem.W.nsIn K mainGlobals "tuple" = some none)
    (z_gcd : PySem.W.nsIn K mainGlobals "gcd" = some (some (.builtin "math.gcd")))
    (z_isqrt : PySem.W.nsIn K mainGlobals "isqrt" = some (some (.builtin "math.isqrt")))
    {cT PT : Addr} {ocT : Value} {odT : Option Addr} {vsT : Array Value} {slT : Array (Option Value)} (ceq : cd14 = .ref cT) (lcT : K.lookup cT = some ⟨ocT, odT, .fields vsT, slT⟩) (v11 : vsT[11]? = some (.ref PT)) (nPT : K.lookup PT = none)
    (tabF : ∀ (y : Str) (c P : Addr), y = "is_equation" → PySem.W.tabIn K y = some (c, P) → PySem.W.CodeHd h c P ∧ h.get? P = some (PySem.W.tabObj #[]))
    : LamX.LawAtS l w K CX0 5 63 "script" mg fa h := by
  have e := hfa.symm.trans (PySem.W.mg_of X G a16)
  cases e
  have F0 := fun_mk (st := s_l_stream) l0 c0 k0
  have b0 := F0.binds (ps := ["script"]) fun _ _ _ _ _ _ us hl => match us, hl with | [_], _ => rfl
  have F1 := fun_mk (st := s_l_next) l1 c1 k1
  have b1 := F1.binds (ps := ["stream", "many"]) fun _ _ _ _ _ _ us hl => match us, hl with | [_, _], _ => rfl
  have F2 := fun_mk (st := s_l_gcd) l2 c2 k2
  have b2 := F2.binds (ps := ["a", "b"]) fun _ _ _ _ _ _ us hl => match us, hl with | [_, _], _ => rfl
  have F3 := fun_mk (st := s_l_low) l3 c3 k3
  have b3 := F3.binds (ps := ["n", "d"]) fun _ _ _ _ _ _ us hl => match us, hl with | [_, _], _ => rfl
  have F4 := fun_mk (st := s_is_whole) l4 c4 k4
  have b4 := F4.binds (ps := ["value"]) fun _ _ _ _ _ _ us hl => match us, hl with | [_], _ => rfl
  have F5 := fun_mk (st := s_is_rational) l5 c5 k5
  have b5 := F5.binds (ps := ["x"]) fun _ _ _ _ _ _ us hl => match us, hl with | [_], _ => rfl
  have F6 := fun_mk (st := s_l_ratio) l6 c6 k6
  have b6 := F6.binds (ps := ["stream", "top", "most"]) fun _ _ _ _ _ _ us hl => match us, hl with | [_, _, _], _ => rfl
  have F7 := fun_mk (st := s_l_root) l7 c7 k7
  have b7 := F7.binds (ps := ["n"]) fun _ _ _ _ _ _ us hl => match us, hl with | [_], _ => rfl
  have F8 := fun_mk (st := s_l_is_square) l8 c8 k8
  have b8 := F8.binds (ps := ["n"]) fun _ _ _ _ _ _ us hl => match us, hl with | [_], _ => rfl
  have F9 := fun_mk (st := s_square_root) l9 c9 k9
  have b9 := F9.binds (ps := ["n"]) fun _ _ _ _ _ _ us hl => match us, hl with | [_], _ => rfl
  have F10 := fun_mk (st := s_is_field) l10 c10 k10
  have b10 := F10.binds (ps := ["x"]) fun _ _ _ _ _ _ us hl => match us, hl with | [_], _ => rfl
  have F11 := fun_mk (st := s_l_is) l11 c11 k11
  have b11 := F11.binds (ps := ["actual", "due"]) fun _ _ _ _ _ _ us hl => match us, hl with | [_, _], _ => rfl
  have F12 := fun_mk (st := s_is_index) l12 c12 k12
  have b12 := F12.binds (ps := ["value", "many"]) fun _ _ _ _ _ _ us hl => match us, hl with | [_, _], _ => rfl
  have F13 := fun_mk (st := s_discriminant) l13 c13 k13
  have b13 := F13.binds (ps := ["coefficients"]) fun _ _ _ _ _ _ us hl => match us, hl with | [_], _ => rfl
  have F14 := fun_mk (st := s_is_equation) l14 c14 k14
  have b14 := F14.binds (ps := ["coefficients"]) fun _ _ _ _ _ _ us hl => match us, hl with | [_], _ => rfl
  have F15 := fun_mk (st := s_is_number) l15 c15 k15
  have b15 := F15.binds (ps := ["x"]) fun _ _ _ _ _ _ us hl => match us, hl with | [_], _ => rfl
  have F16 := fun_mk (st := s_law) l16 c16 k16
  have b16 := F16.binds (ps := ["script"]) fun _ _ _ _ _ _ us hl => match us, hl with | [_], _ => rfl
  let T : Txt K mg := {
    f_l_stream := f0, fd_l_stream := _, D_l_stream := ⟨F0, PySem.W.mg_of X G a0, b0⟩
    f_l_next := f1, fd_l_next := _, D_l_next := ⟨F1, PySem.W.mg_of X G a1, b1⟩
    f_l_gcd := f2, fd_l_gcd := _, D_l_gcd := ⟨F2, PySem.W.mg_of X G a2, b2⟩
    f_l_low := f3, fd_l_low := _, D_l_low := ⟨F3, PySem.W.mg_of X G a3, b3⟩
    f_is_whole := f4, fd_is_whole := _, D_is_whole := ⟨F4, PySem.W.mg_of X G a4, b4⟩
    f_is_rational := f5, fd_is_rational := _, D_is_rational := ⟨F5, PySem.W.mg_of X G a5, b5⟩
    f_l_ratio := f6, fd_l_ratio := _, D_l_ratio := ⟨F6, PySem.W.mg_of X G a6, b6⟩
    f_l_root := f7, fd_l_root := _, D_l_root := ⟨F7, PySem.W.mg_of X G a7, b7⟩
    f_l_is_square := f8, fd_l_is_square := _, D_l_is_square := ⟨F8, PySem.W.mg_of X G a8, b8⟩
    f_square_root := f9, fd_square_root := _, D_square_root := ⟨F9, PySem.W.mg_of X G a9, b9⟩
    f_is_field := f10, fd_is_field := _, D_is_field := ⟨F10, PySem.W.mg_of X G a10, b10⟩
    f_l_is := f11, fd_l_is := _, D_l_is := ⟨F11, PySem.W.mg_of X G a11, b11⟩
    f_is_index := f12, fd_is_index := _, D_is_index := ⟨F12, PySem.W.mg_of X G a12, b12⟩
    f_discriminant := f13, fd_discriminant := _, D_discriminant := ⟨F13, PySem.W.mg_of X G a13, b13⟩
    f_is_equation := f14, fd_is_equation := _, D_is_equation := ⟨F14, PySem.W.mg_of X G a14, b14⟩
    f_is_number := f15, fd_is_number := _, D_is_number := ⟨F15, PySem.W.mg_of X G a15, b15⟩
    f_law := fa, fd_law := _, D_law := ⟨F16, PySem.W.mg_of X G a16, b16⟩
    abs := PySem.W.mg_none_of X G z_abs
    all := PySem.W.mg_none_of X G z_all
    bool := PySem.W.mg_none_of X G z_bool
    int := PySem.W.mg_none_of X G z_int
    isinstance := PySem.W.mg_none_of X G z_isinstance
    len := PySem.W.mg_none_of X G z_len
    list := PySem.W.mg_none_of X G z_list
    range := PySem.W.mg_none_of X G z_range
    str := PySem.W.mg_none_of X G z_str
    tuple := PySem.W.mg_none_of X G z_tuple
    gcd := PySem.W.mg_of X G z_gcd
    isqrt := PySem.W.mg_of X G z_isqrt
    c_tab := cT, P_tab := PT, code_tab := ceq }
  have ht : PySem.W.tabIn K "is_equation" = some (cT, PT) := by
    subst ceq
    simp only [PySem.W.tabIn, a14, l14, PySem.W.fnOf, lcT, v11]
  obtain ⟨hc, hg⟩ := tabF _ _ _ rfl ht
  refine ⟨PySem.W.fnOf "law" "law" (defArgs s_law) (defBody s_law) (defScope s_law) .none kV16 dc16 pm16 an16 cd16 ct16, [(cT, PT)], spLaw K PT, ?_, ?_, ?_, fun s v => .of_eq rfl, ?_, ?_⟩
  · intro p hp
    rcases List.mem_cons.mp hp with rfl | hp
    · exact hg
    · cases hp
  · intro p hp
    rcases List.mem_cons.mp hp with rfl | hp
    · exact nPT
    · cases hp
  · intro p hp
    rcases List.mem_cons.mp hp with rfl | hp
    · exact hc
    · cases hp
  · intro H a ns hl _ hH hS
    exact ⟨a, ns, rfl, hS, hl, ⟨#[], hH (cT, PT) List.mem_cons_self, trivial⟩, fun _ => rfl⟩
  · intro base _ _ TB
    have t := TB (cT, PT) List.mem_cons_self
    exact ok_law T ⟨t.code, t.bm, t.gP⟩
end Odds
open PySem PySem.W PyProof.Rows
set_option maxRecDepth 100000 in
set_option maxHeartbeats 0 in
theorem PySem.Challenge.cw_oddscall_k08_numbers_in_one_form_holds : PySem.Challenge.rw_oddscall_k08_numbers_in_one_form.Holds := by
  w_on; o_law; k_head; (case hw => w_witness2)
  k_fill
  refine Odds.walk_tab (l := PySem.Challenge.rw_oddscall_k08_numbers_in_one_form) (n := 63) (k := 5) (CX := fun _ => L2.CX0) (x := "script") rfl (by decide) rfl ⟨rfl, by decide, by decide⟩ (fun w h Y => PySem.W.kIn_of Y) ?F (fun _ _ _ _ _ z => z)
  case F =>
    intro w mg fa h KX G hmg tabF
    refine' Odds.all_mk KX G hmg ?a0 ?l0 ?c0 ?k0 ?a1 ?l1 ?c1 ?k1 ?a2 ?l2 ?c2 ?k2 ?a3 ?l3 ?c3 ?k3 ?a4 ?l4 ?c4 ?k4 ?a5 ?l5 ?c5 ?k5 ?a6 ?l6 ?c6 ?k6 ?a7 ?l7 ?c7 ?k7 ?a8 ?l8 ?c8 ?k8 ?a9 ?l9 ?c9 ?k9 ?a10 ?l10 ?c10 ?k10 ?a11 ?l11 ?c11 ?k11 ?a12 ?l12 ?c12 ?k12 ?a13 ?l13 ?c13 ?k13 ?a14 ?l14 ?c14 ?k14 ?a15 ?l15 ?c15 ?k15 ?a16 ?l16 ?c16 ?k16 ?z_abs ?z_all ?z_bool ?z_int ?z_isinstance ?z_len ?z_list ?z_range ?z_str ?z_tuple ?z_gcd ?z_isqrt ?ceq ?lcT ?v11 ?nPT (fun y c P e => tabF y c P (by rw [e]; decide +kernel))
    (case a0 => k_is)
    (case l0 => k_is)
    (case c0 => k_is)
    (case k0 => k_is)
    (case a1 => k_is)
    (case l1 => k_is)
    (case c1 => k_is)
    (case k1 => k_is)
    (case a2 => k_is)
    (case l2 => k_is)
    (case c2 => k_is)
    (case k2 => k_is)
    (case a3 => k_is)
    (case l3 => k_is)
    (case c3 => k_is)
    (case k3 => k_is)
    (case a4 => k_is)
    (case l4 => k_is)
    (case c4 => k_is)
    (case k4 => k_is)
    (case a5 => k_is)
    (case l5 => k_is)
    (case c5 => k_is)
    (case k5 => k_is)
    (case a6 => k_is)
    (case l6 => k_is)
    (case c6 => k_is)
    (case k6 => k_is)
    (case a7 => k_is)
    (case l7 => k_is)
    (case c7 => k_is)
    (case k7 => k_is)
    (case a8 => k_is)
    (case l8 => k_is)
    (case c8 => k_is)
    (case k8 => k_is)
    (case a9 => k_is)
    (case l9 => k_is)
    (case c9 => k_is)
    (case k9 => k_is)
    (case a10 => k_is)
    (case l10 => k_is)
    (case c10 => k_is)
    (case k10 => k_is)
    (case a11 => k_is)
    (case l11 => k_is)
    (case c11 => k_is)
    (case k11 => k_is)
    (case a12 => k_is)
    (case l12 => k_is)
    (case c12 => k_is)
    (case k12 => k_is)
    (case a13 => k_is)
    (case l13 => k_is)
    (case c13 => k_is)
    (case k13 => k_is)
    (case a14 => k_is)
    (case l14 => k_is)
    (case c14 => k_is)
    (case k14 => k_is)
    (case a15 => k_is)
    (case l15 => k_is)
    (case c15 => k_is)
    (case k15 => k_is)
    (case a16 => k_is)
    (case l16 => k_is)
    (case c16 => k_is)
    (case k16 => k_is)
    (case z_abs => k_is)
    (case z_all => k_is)
    (case z_bool => k_is)
    (case z_int => k_is)
    (case z_isinstance => k_is)
    (case z_len => k_is)
    (case z_list => k_is)
    (case z_range => k_is)
    (case z_str => k_is)
    (case z_tuple => k_is)
    (case z_gcd => k_is)
    (case z_isqrt => k_is)
    (case ceq => first | rfl | k_is)
    (case lcT => k_is)
    (case v11 => first | rfl | k_is)
    (case nPT => first | rfl | k_is)
