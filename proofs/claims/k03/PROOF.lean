import PyProof.Rows.All
import Wide.All
import OpenK.AllK
import Wide.FinOn
import HandS.ForExc
import HandS.IsInst
import HandS.Gcd
import HandS.Wide
import HandS.Style
import HandS.ExcInit
import HandS.ExcField
import HandS.ExcIs
import HandS.TupAny
import KE.KExcIs
import HandS.Codes
import HandS.Comp
import KE.KMathG
import Flt.RightSqrt
import PySem.Challenge.RW_oddscall_k03_fields_and_elements
set_option Elab.async false
set_option linter.all false
set_option maxRecDepth 100000
set_option maxHeartbeats 4000000
/-! ## Odds: what all proofs of this program share -/
namespace Odds
open PySem L2

/-! ### floor division by any wide divisor but 0 -/
def CDivZ (_ j : Int) : Prop := j ≠ 0 ∧ j.natAbs.log2 < 9000
theorem op_fdivZ {X : Cx} : OpR X (binaryOp .FloorDiv) (rI CDivZ fun i j => .int (i.fdiv j)) := opI fun i j _ _ _ _ _ hc q =>
  PyProof.Rows.floordiv_int hc.1 q (.inl (PyProof.noPylong_of_log2 hc.2))
theorem cdivz {i j : Int} {b : Nat} (h : j ≠ 0) (hb : j.natAbs < 2 ^ b) (h9 : b ≤ 9000) : CDivZ i j := by
  refine ⟨h, ?_⟩
  have h1 : j.natAbs ≠ 0 := by omega
  have := (Nat.log2_lt h1).mpr (Nat.lt_of_lt_of_le hb (Nat.pow_le_pow_right (by decide) h9))
  exact this
theorem cmulw {i j : Int} {a b : Nat} (ha : i.natAbs < 2 ^ a) (hb : j.natAbs < 2 ^ b) (h : a + b ≤ 900000) : CMulW i j := by
  have e : ∀ (x : Int) (n : Nat), x.natAbs < 2 ^ n → x.natAbs.log2 < n + 1 := fun x n hx => by
    by_cases h0 : x.natAbs = 0
    · rw [h0]; exact Nat.lt_of_lt_of_le (by decide) (Nat.succ_le_succ (Nat.zero_le n))
    · exact Nat.lt_succ_of_lt ((Nat.log2_lt h0).mpr hx)
  have h1 := e i a ha
  have h2 := e j b hb
  unfold CMulW
  omega

/-! ### heaps -/
/-- all but s is as it was -/
def Keep (s : Addr) (H H' : Hp) : Prop := ∀ b o, H b = some o → b ≠ s → H' b = some o
theorem Keep.refl (s : Addr) (H : Hp) : Keep s H H := fun _ _ h _ => h
theorem Keep.trans {s : Addr} {H H1 H2 : Hp} (a : Keep s H H1) (b : Keep s H1 H2) : Keep s H H2 := fun c o h n => b c o (a c o h n) n
theorem Same.keep {s : Addr} {H H' : Hp} (a : Same H H') : Keep s H H' := fun b o h _ => a b o h
theorem same_new {H : Hp} {p : Addr} {o : HO} (h : H p = none) : Same H (upd H p o) := fun b u e => by
  rw [upd_ne (ne_of_none e h)]
  exact e
theorem Same.t {H H' : Hp} {a : Addr} {o : HO} (e : Same H H') (h : H a = some o) : H' a = some o := e a o h

/-! ### the stream of draws -/
/-- a list of a list of ints, an int, an int from 0 -/
def Strm (H : Hp) (s : Addr) : Prop := ∃ (l : Addr) (ns : List Int) (c k : Int), H s = some (.lst [.ref l, .int c, .int k]) ∧ H l = some (.lst (ns.map V.int)) ∧ 0 ≤ k
theorem Strm.same {H H' : Hp} {s : Addr} (e : Same H H') (h : Strm H s) : Strm H' s := by
  obtain ⟨l, ns, c, k, h1, h2, h3⟩ := h
  exact ⟨l, ns, c, k, e _ _ h1, e _ _ h2, h3⟩
theorem lst_ne {l : Addr} {c k : Int} {ns : List Int} : HO.lst [.ref l, .int c, .int k] ≠ HO.lst (ns.map V.int) := by
  intro e
  have e' : [V.ref l, V.int c, V.int k] = ns.map V.int := by injection e
  cases ns with
  | nil => simp at e'
  | cons n r => simp at e'
/-- a draw: the stream goes on, all else stands -/
def spNext : Sp := fun vs H Q _ => ∃ (s : Addr) (m : Int), vs = [.ref s, .int m] ∧ Strm H s ∧ 0 < m ∧ m.natAbs < 2 ^ 9000 ∧
  ∀ (d : Int) (H' : Hp), 0 ≤ d → d < m → Strm H' s → Keep s H H' → Q (.int d) H'
def spStream (K : PySem.W.Frag) : Sp := fun vs H Q _ => ∃ (a : Addr) (ns : List Int), vs = [.ref a] ∧ SqL K H a (ns.map V.int) ∧
  ∀ (s : Addr) (H' : Hp), Strm H' s → Same H H' → H s = none → Q (.ref s) H'

/-! ### isinstance of the exception that a suite holds, one with its own dict -/
structure ExcD (K : PySem.W.Frag) (D : Addr) : Prop where
  hg : PySem.W.findIn K (.ref D) "__getattribute__" = some (some (.builtin "BaseException.__getattribute__"))
  hk : PySem.W.findIn K (.ref D) "__getattr__" = some none
  hs : PySem.W.subIn K (.ref D) (.type "BaseException") = some true
  hd : PySem.W.isClsIn K D = true
  ha : PySem.W.findIn K (.ref D) "__class__" = some (some (.builtin "object.__class__"))
  hn : PySem.W.specialIn K (.builtin "object.__class__") "__get__" = some (some (.builtin "getset_descriptor.__get__"))
  ht : PySem.W.takesIn K (.builtin "object.__class__") = some true
  hm : PySem.W.mroIn K D (.type "object") = some true
def rIsX (K : PySem.W.Frag) (D a : Addr) (cls : Value) (d : Option Addr) : List V → Hp → VK → Prop := fun xs H Q => ∃ (dd : Addr) (fs : List (Str × V)) (c : V) (cv : Value) (b : Bool), cls = .ref D ∧ d = some dd ∧ H dd = some (.xd fs) ∧
  xs = [.ref a, c] ∧ (∀ u, RelV c u → u = cv) ∧ PySem.W.kitOne K (.ref D) cv = some b ∧ Q (.bl b) H
theorem call_isX {X : Cx} {a D : Addr} {d : Option Addr} {cls : Value} {oe : Obj} {pn : List (Addr × Obj)} (C : ExcD X.K D) (hz : Zc cls d oe) (hf : ∃ vs, oe.data = .fields vs) :
    CallR (X.suite a ((a, oe) :: pn)) (.builtin "isinstance") (rIsX X.K D a cls d) := by
  intro pins s σ H xs us Q I r h
  obtain ⟨dd, fs, c, cv, b, rfl, rfl, ea, rfl, hcv, e, q⟩ := h
  cases r with
  | cons rx rr =>
    cases rr with
    | cons rt rr =>
      cases rr
      cases rx
      have ec := hcv _ rt
      subst ec
      obtain ⟨hget, _⟩ := I.pin (a, oe) (List.mem_append.mpr (.inl List.mem_cons_self))
      obtain ⟨vs, hv⟩ := hf
      have hx : ObjOk X.prog X.w H s.heap dd (.xd fs) := I.hok dd _ ea
      obtain ⟨mA, hns, hr⟩ := hx
      obtain ⟨od, ho, hl⟩ := lookIn_ns hns
      have J : PySem.W.InstAt s.heap a oe D (some od) := ⟨hget, hz.1, by unfold PySem.W.notCls; rw [hv] <;> rfl, by rw [hz.2]; exact ho⟩
      exact PySem.W.kia_one (PySem.W.kitx_exc C.hd C.hg C.hk C.hs C.ha C.hn C.ht C.hm) I.kIn J e (fun z => nomatch z) fun tk => ⟨.bl b, H, I.kept (t' := tk) fun _ _ z => z, rfl, q⟩
theorem boot_VE : bootBuiltins "ValueError" = some (.type "ValueError") := by decide +kernel

/-! ### a def of the text, an error class -/
structure Dn (K : PySem.W.Frag) (mg : Str → Option Value) (x : Str) (st : Stmt) (ps : List Str) (f : Addr) (fd : FuncData) : Prop where
  F : Fun K x x st f fd
  g : mg x = some (.ref f)
  b : Binds K fd ps []
structure BadT (K : PySem.W.Frag) (mg : Str → Option Value) (C Od fI : Addr) (fdI : FuncData) (st : Stmt) : Prop where
  gC : mg "BadValue" = some (.ref C)
  gO : mg "OddsError" = some (.ref Od)
  iC : PySem.W.findIn K (.ref C) "__init__" = some (some (.ref fI))
  tI : PySem.W.typeIn K (.ref fI) = some (.type "function")
  FI : Fun K "__init__" "BadValue.__init__" st fI fdI
  bI : Binds K fdI ["self", "name"] []
  O : OexC K C
  X : XfC K C
  no : PySem.W.findIn K (.ref C) "name" = some none
  I : ExcD K C
  te : PySem.W.exmOne K (.ref C) (.ref C) = some true
  kO : PySem.W.kitOne K (.ref C) (.ref Od) = some true
  kV : PySem.W.kitOne K (.ref C) (.type "ValueError") = some true
theorem kit_own {K : PySem.W.Frag} {C O : Addr} (h1 : PySem.W.isClsIn K O = true) (h2 : PySem.W.typeIn K (.ref O) = some (.type "type")) (h3 : PySem.W.subIn K (.ref C) (.ref O) = some true) : PySem.W.kitOne K (.ref C) (.ref O) = some true := by
  unfold PySem.W.kitOne
  split
  · rfl
  · have e2 : ((PySem.W.clsIn K O).isSome && PySem.W.typeIn K (.ref O) == some (.type "type")) = true := by
      have h1' : (PySem.W.clsIn K O).isSome = true := h1
      rw [h1', h2] <;> rfl
    show (if ((PySem.W.clsIn K O).isSome && PySem.W.typeIn K (.ref O) == some (.type "type")) = true then PySem.W.subIn K (.ref C) (.ref O) else none) = some true
    rw [if_pos e2]
    exact h3
theorem kit_VE {K : PySem.W.Frag} {C : Addr} (h3 : PySem.W.subIn K (.ref C) (.type "ValueError") = some true) : PySem.W.kitOne K (.ref C) (.type "ValueError") = some true := by
  unfold PySem.W.kitOne
  split
  · rfl
  · show (if PySem.W.kitMeta "ValueError" = true then PySem.W.subIn K (.ref C) (.type "ValueError") else none) = some true
    rw [if_pos (by decide +kernel)]
    exact h3
/-- BadValue.__init__ -/
def spInit (C : Addr) : Sp := fun vs H Q _ => ∃ (a : Addr) (z : V), vs = [.ref a, z] ∧ H a = some (exo a C none) ∧
  ∀ dx, H dx = none → dx ≠ a → Q .non (upd (upd H dx (exd dx [(("name" : Str), z)])) a (exo a C (some dx)))
/-- what is left behind raise BadValue(z) -/
theorem made_eq {H : Hp} {a dx : Addr} {o1 o2 o3 o4 : HO} (ha : H a = none) (hd : dx ≠ a) : upd (del (upd (upd (upd H a o1) dx o2) a o3) a) dx o4 = upd H dx o4 := by
  funext b
  unfold upd del
  by_cases h1 : b = dx
  · rw [if_pos h1, if_pos h1]
  · rw [if_neg h1, if_neg h1]
    by_cases h2 : b = a
    · rw [if_pos h2, h2, ha]
    · rw [if_neg h2]
      show (if b = a then some o3 else if b = dx then some o2 else if b = a then some o1 else H b) = H b
      rw [if_neg h2, if_neg h1, if_neg h2]

/-! ### tests whose answer is known -/
theorem iteN1 {c A B : Prop} [Decidable c] (hc : ¬ c) (h : A) : if (!decide c) = true then A else B := by
  rw [decide_eq_false hc]
  exact iteT h
theorem iteD1 {c A B : Prop} [Decidable c] (hc : c) (h : A) : if decide c = true then A else B := by
  rw [decide_eq_true hc]
  exact iteT h
theorem iteD0 {c A B : Prop} [Decidable c] (hc : ¬ c) (h : B) : if decide c = true then A else B := by
  rw [decide_eq_false hc]
  exact iteF h
theorem iteD {c A B : Prop} [Decidable c] (h1 : c → A) (h2 : ¬ c → B) : if decide c = true then A else B := by
  by_cases h : c
  · exact iteD1 h (h1 h)
  · exact iteD0 h (h2 h)
theorem lc_yes {te : TE} {σ : L2.St} {H : Hp} {K1 : V → Hp → Prop} {K2 : Hp → Prop} (h : te σ H K1) : tYes σ H (fun b H3 => if b = true then te σ H3 K1 else K2 H3) := by
  show (if true = true then te σ H K1 else K2 H)
  rw [if_pos rfl]
  exact h
theorem abs_eq (i : Int) : (if i < 0 then -i else i) = ((i.natAbs : Nat) : Int) := by
  split <;> omega

/-- a tuple that the text has written -/
def WT (K : PySem.W.Frag) (c : Addr) (xs : List V) : Prop := ∃ (o : Obj) (its : Array Value) (n : Nat), K.lookup c = some o ∧ o.cls = .type "tuple" ∧ o.data = .seq its n ∧ its.size ≤ sizeLine ∧ Vals xs its.toList
theorem WT.sq {K : PySem.W.Frag} {H : Hp} {c : Addr} {xs : List V} (h : WT K c xs) : SqT K H c xs := Or.inr h
/-- a pair of ints as data -/
theorem dp_pair {K : PySem.W.Frag} {H : Hp} {c : Addr} {n d : Int} (h : SqT K H c [.int n, .int d]) : Dp K H (.ref c) (.tuple [.int n, .int d]) := .tup h (.cons (.int n) (.cons (.int d) .nil))
theorem eqv_ints (n d m e : Int) : PyData.eqv (.tuple [.int n, .int d]) (.tuple [.int m, .int e]) = decide (n = m ∧ d = e) := by
  simp only [PyData.eqv, PyData.eqvAll, Bool.and_true]
  by_cases h1 : n = m <;> by_cases h2 : d = e <;> simp [h1, h2]
/-- math.isqrt -/
def rIsqrt : List V → Hp → VK → Prop := fun vs H Q => ∃ n : Int, vs = [.int n] ∧ 0 ≤ n ∧ n.natAbs < 2 ^ 13000 ∧ ∀ r : Int, 0 ≤ r → r * r ≤ n → n < (r + 1) * (r + 1) → Q (.int r) H
theorem cr_isqrt {X : Cx} : CallR X (.builtin "math.isqrt") rIsqrt := by
  intro pins s σ H vs us Q I r h
  obtain ⟨n, rfl, h0, hb, q⟩ := h
  cases r with
  | cons r1 rn =>
    cases rn
    obtain ⟨t, rfl⟩ := r1
    have e : n.toNat = n.natAbs := by omega
    have hl : n.toNat.log2 < 13000 := by
      rw [e]
      by_cases z : n.natAbs = 0
      · rw [z]; decide
      · exact (Nat.log2_lt z).mpr hb
    have sp := PySem.Float64.isqrt_spec n.toNat
    refine PySem.call_function_meets PySem.W.MGF.kind_isqrt PySem.W.MGF.plain_isqrt PySem.W.MGF.entry_isqrt (PySem.W.MGF.args_isqrt _) (PySem.W.mg_run_isqrt n t (by omega) (by omega) (by omega)).meets ?_
    refine ⟨.int _, H, I.tok _, ⟨_, rfl⟩, q _ (by omega) ?_ ?_⟩
    · have := sp.1
      rw [← Int.natCast_mul]
      omega
    · have h2 := sp.2
      have e2 : (((PySem.Float64.isqrt n.toNat : Nat) : Int) + 1) * (((PySem.Float64.isqrt n.toNat : Nat) : Int) + 1) = (((PySem.Float64.isqrt n.toNat + 1) * (PySem.Float64.isqrt n.toNat + 1) : Nat) : Int) := by
        rw [Int.natCast_mul]
        rfl
      rw [e2]
      omega

/-! ### the kinds of values -/
def tys : List String := ["int", "bool", "NoneType", "str", "tuple", "list"]
/-- is_whole -/
def spWhole (K : PySem.W.Frag) : Sp := fun vs H Q _ => ∃ (x : V) (t : String), vs = [x] ∧ TyX K H x (.type t) ∧ t ∈ tys ∧ Q (.bl (decide (t = "int"))) H
theorem ty_int {K : PySem.W.Frag} {H : Hp} (i : Int) : TyX K H (.int i) (.type "int") := .base (.int i)
theorem ty_bl {K : PySem.W.Frag} {H : Hp} (b : Bool) : TyX K H (.bl b) (.type "bool") := .base (.bl b)
theorem ty_non {K : PySem.W.Frag} {H : Hp} : TyX K H .non (.type "NoneType") := .base .non
theorem ty_str {K : PySem.W.Frag} {H : Hp} (x : Str) : TyX K H (.str x) (.type "str") := .base (.str x)
theorem ty_tup {K : PySem.W.Frag} {H : Hp} {a : Addr} {xs : List V} (h : H a = some (.tup xs)) : TyX K H (.ref a) (.type "tuple") := .base (.tup h)
theorem ty_lst {K : PySem.W.Frag} {H : Hp} {a : Addr} {xs : List V} (h : H a = some (.lst xs)) : TyX K H (.ref a) (.type "list") := .base (.lst h)

/-! ### Euclid -/
def GcdI (B g i a b : Nat) : Prop := Nat.gcd a b = g ∧ ((i = 0 ∧ a < 2 ^ B ∧ b < 2 ^ B) ∨ (0 < i ∧ (b = 0 ∨ (b < a ∧ a * b * 2 ^ (i - 1) < 2 ^ (B + B)))))
theorem gcdI_step {B g i a b : Nat} (h : GcdI B g i a b) (hb : b ≠ 0) : GcdI B g (i + 1) b (a % b) := by
  obtain ⟨hg, h⟩ := h
  refine ⟨by rw [← hg, Nat.gcd_comm b (a % b), ← Nat.gcd_rec, Nat.gcd_comm], .inr ⟨Nat.succ_pos _, ?_⟩⟩
  have hlt : a % b < b := Nat.mod_lt _ (Nat.pos_of_ne_zero hb)
  refine .inr ⟨hlt, ?_⟩
  rcases h with ⟨rfl, ha, hb2⟩ | ⟨hi, h0 | ⟨hba, hp⟩⟩
  · show b * (a % b) * 2 ^ 0 < 2 ^ (B + B)
    rw [Nat.pow_zero, Nat.mul_one, Nat.pow_add]
    exact Nat.mul_lt_mul'' hb2 (Nat.lt_trans hlt hb2)
  · exact absurd h0 hb
  · have e : i + 1 - 1 = (i - 1) + 1 := by omega
    rw [e, Nat.pow_succ]
    have h2 : 2 * (a % b) ≤ a := by
      have h3 := Nat.mod_add_div a b
      have h4 : 1 ≤ a / b := (Nat.one_le_div_iff (Nat.pos_of_ne_zero hb)).mpr (Nat.le_of_lt hba)
      have h5 : b * 1 ≤ b * (a / b) := Nat.mul_le_mul_left b h4
      omega
    calc b * (a % b) * (2 ^ (i - 1) * 2) = (2 * (a % b)) * b * 2 ^ (i - 1) := by
            rw [Nat.mul_comm (2 ^ (i - 1)) 2, ← Nat.mul_assoc, Nat.mul_comm b (a % b), Nat.mul_comm (a % b * b) 2, ← Nat.mul_assoc]
      _ ≤ a * b * 2 ^ (i - 1) := Nat.mul_le_mul_right _ (Nat.mul_le_mul_right _ h2)
      _ < 2 ^ (B + B) := hp
theorem gcdI_end {B g a b : Nat} (h : GcdI B g 40000 a b) (hB : B ≤ 19000) : a = g := by
  obtain ⟨hg, h⟩ := h
  rcases h with ⟨h, _⟩ | ⟨_, h0 | ⟨hba, hp⟩⟩
  · cases h
  · rw [h0, Nat.gcd_zero_right] at hg
    exact hg
  · by_cases hb : b = 0
    · rw [hb, Nat.gcd_zero_right] at hg
      exact hg
    · exfalso
      have h1 : 1 ≤ a * b := Nat.mul_pos (by omega) (Nat.pos_of_ne_zero hb)
      have h2 : 2 ^ (40000 - 1) < 2 ^ (B + B) := Nat.lt_of_le_of_lt (Nat.le_trans (Nat.le_of_eq (Nat.one_mul _).symm) (Nat.mul_le_mul_right _ h1)) hp
      have h3 := (Nat.pow_lt_pow_iff_right (by decide : 1 < 2)).mp h2
      omega

/-! ### lowest terms -/
def sg (n d : Int) : Int := if d < 0 then -((Nat.gcd n.natAbs d.natAbs : Nat) : Int) else ((Nat.gcd n.natAbs d.natAbs : Nat) : Int)
def lo1 (n d : Int) : Int := n.fdiv (sg n d)
def lo2 (n d : Int) : Int := d.fdiv (sg n d)
theorem sg_abs (n d : Int) : (sg n d).natAbs = Nat.gcd n.natAbs d.natAbs := by
  unfold sg
  split <;> omega
theorem sg_ne {n d : Int} (h : d ≠ 0) : sg n d ≠ 0 := by
  intro e
  have := sg_abs n d
  rw [e] at this
  have h2 := Nat.gcd_pos_of_pos_right n.natAbs (show 0 < d.natAbs by omega)
  simp at this
  omega
theorem sg_dvd1 (n d : Int) : sg n d ∣ n := by
  rw [← Int.natAbs_dvd_natAbs, sg_abs]
  exact Nat.gcd_dvd_left _ _
theorem sg_dvd2 (n d : Int) : sg n d ∣ d := by
  rw [← Int.natAbs_dvd_natAbs, sg_abs]
  exact Nat.gcd_dvd_right _ _
theorem fdiv_cancel {a b : Int} (h : b ∣ a) : b * a.fdiv b = a := Int.mul_fdiv_cancel' h
theorem lo1_mul (n d : Int) : sg n d * lo1 n d = n := fdiv_cancel (sg_dvd1 n d)
theorem lo2_mul (n d : Int) : sg n d * lo2 n d = d := fdiv_cancel (sg_dvd2 n d)
theorem sg_size {n d : Int} {b : Nat} (h : d ≠ 0) (hb : d.natAbs < 2 ^ b) : (sg n d).natAbs < 2 ^ b := by
  rw [sg_abs]
  exact Nat.lt_of_le_of_lt (Nat.gcd_le_right _ (by omega)) hb
theorem lo2_pos {n d : Int} (h : d ≠ 0) : 1 ≤ lo2 n d := by
  have e := lo2_mul n d
  have hs := sg_ne (n := n) h
  have hp : 0 < sg n d * sg n d := by
    rcases Int.lt_or_gt_of_ne hs with h1 | h1
    · exact Int.mul_pos_of_neg_of_neg h1 h1
    · exact Int.mul_pos h1 h1
  have hsd : 0 < sg n d * d := by
    unfold sg
    have hg : 0 < Nat.gcd n.natAbs d.natAbs := Nat.gcd_pos_of_pos_right _ (by omega)
    split
    · exact Int.mul_pos_of_neg_of_neg (by omega) (by omega)
    · exact Int.mul_pos (by omega) (by omega)
  rcases (show lo2 n d < 1 ∨ 1 ≤ lo2 n d by omega) with hl | hl
  · exfalso
    have h2 : lo2 n d ≤ 0 := by omega
    have h3 : sg n d * (sg n d * lo2 n d) ≤ 0 := by
      rw [← Int.mul_assoc]
      exact Int.mul_nonpos_of_nonneg_of_nonpos (Int.le_of_lt hp) h2
    rw [e] at h3
    omega
  · exact hl
theorem lo_gcd {n d : Int} (h : d ≠ 0) : Nat.gcd (lo1 n d).natAbs (lo2 n d).natAbs = 1 := by
  have e1 : (sg n d).natAbs * (lo1 n d).natAbs = n.natAbs := by rw [← Int.natAbs_mul, lo1_mul]
  have e2 : (sg n d).natAbs * (lo2 n d).natAbs = d.natAbs := by rw [← Int.natAbs_mul, lo2_mul]
  have hg : 0 < Nat.gcd n.natAbs d.natAbs := Nat.gcd_pos_of_pos_right _ (by omega)
  have h1 := Nat.gcd_mul_left (sg n d).natAbs (lo1 n d).natAbs (lo2 n d).natAbs
  rw [e1, e2, sg_abs] at h1
  exact Nat.eq_of_mul_eq_mul_left hg (by omega)
theorem lo_cross (n d : Int) (h : d ≠ 0) : lo1 n d * d = lo2 n d * n := by
  have e1 := lo1_mul n d
  have e2 := lo2_mul n d
  calc lo1 n d * d = lo1 n d * (sg n d * lo2 n d) := by rw [e2]
    _ = lo2 n d * (sg n d * lo1 n d) := by rw [Int.mul_comm (lo1 n d), Int.mul_assoc, Int.mul_comm (lo2 n d) (lo1 n d), ← Int.mul_assoc, Int.mul_comm (sg n d * lo1 n d)]
    _ = lo2 n d * n := by rw [e1]
theorem lo1_size {n d : Int} (h : d ≠ 0) : (lo1 n d).natAbs ≤ n.natAbs := by
  have e1 : (sg n d).natAbs * (lo1 n d).natAbs = n.natAbs := by rw [← Int.natAbs_mul, lo1_mul]
  have hs : 1 ≤ (sg n d).natAbs := by have := sg_ne (n := n) h; omega
  calc (lo1 n d).natAbs = 1 * (lo1 n d).natAbs := (Nat.one_mul _).symm
    _ ≤ (sg n d).natAbs * (lo1 n d).natAbs := Nat.mul_le_mul_right _ hs
    _ = n.natAbs := e1
theorem lo2_size {n d : Int} (h : d ≠ 0) : (lo2 n d).natAbs ≤ d.natAbs := by
  have e1 : (sg n d).natAbs * (lo2 n d).natAbs = d.natAbs := by rw [← Int.natAbs_mul, lo2_mul]
  have hs : 1 ≤ (sg n d).natAbs := by have := sg_ne (n := n) h; omega
  calc (lo2 n d).natAbs = 1 * (lo2 n d).natAbs := (Nat.one_mul _).symm
    _ ≤ (sg n d).natAbs * (lo2 n d).natAbs := Nat.mul_le_mul_right _ hs
    _ = d.natAbs := e1
/-- a pair in lowest terms is its own -/
theorem sg_one {n d : Int} (hd : 1 ≤ d) (hg : Nat.gcd n.natAbs d.natAbs = 1) : sg n d = 1 := by
  unfold sg
  rw [if_neg (by omega), hg]
  rfl
theorem up (a : Nat) {b x : Nat} (h : x < 2 ^ a) (hab : a ≤ b := by decide) : x < 2 ^ b := Nat.lt_of_lt_of_le h (Nat.pow_le_pow_right (by decide) hab)
theorem mul_up {i j : Int} (a b : Nat) {c : Nat} (ha : i.natAbs < 2 ^ a) (hb : j.natAbs < 2 ^ b) (hc : a + b ≤ c := by decide) : (i * j).natAbs < 2 ^ c := by
  rw [Int.natAbs_mul]
  exact up (a + b) (by rw [Nat.pow_add]; exact Nat.mul_lt_mul'' ha hb) hc
/-- a new pair of ints -/
def spPair (f : Int → Int → Int × Int) : Sp := fun vs H Q _ => ∃ n d : Int, vs = [.int n, .int d] ∧ d ≠ 0 ∧ n.natAbs < 2 ^ 9000 ∧ d.natAbs < 2 ^ 9000 ∧
  ∀ (p : Addr) (H' : Hp), Same H H' → H p = none → H' p = some (.tup [.int (f n d).1, .int (f n d).2]) → Q (.ref p) H'
end Odds

namespace Odds
open PySem L2
def topS (i : Nat) : Stmt := PySem.Challenge.pw_oddscall_k03_fields_and_elements.main.body.getD i (.Pass ⟨0, 0, 0, 0⟩)
abbrev s_l_stream : Stmt := topS 11
theorem sc_l_stream : FnScope ["script"] ["script"] (defScope s_l_stream) := ⟨rfl, rfl, rfl, by decide +kernel, rfl, by decide +kernel, by decide +kernel⟩
abbrev s_l_next : Stmt := topS 12
theorem sc_l_next : FnScope ["stream", "many", "k", "cell", "digit"] ["stream", "many"] (defScope s_l_next) := ⟨rfl, rfl, rfl, by decide +kernel, rfl, by decide +kernel, by decide +kernel⟩
abbrev s_l_gcd : Stmt := topS 14
theorem sc_l_gcd : FnScope ["a", "b", "k"] ["a", "b"] (defScope s_l_gcd) := ⟨rfl, rfl, rfl, by decide +kernel, rfl, by decide +kernel, by decide +kernel⟩
abbrev s_l_low : Stmt := topS 15
theorem sc_l_low : FnScope ["n", "d", "shared"] ["n", "d"] (defScope s_l_low) := ⟨rfl, rfl, rfl, by decide +kernel, rfl, by decide +kernel, by decide +kernel⟩
abbrev s_is_whole : Stmt := topS 2
theorem sc_is_whole : FnScope ["value"] ["value"] (defScope s_is_whole) := ⟨rfl, rfl, rfl, by decide +kernel, rfl, by decide +kernel, by decide +kernel⟩
abbrev s_is_rational : Stmt := topS 6
theorem sc_is_rational : FnScope ["x", "n", "d"] ["x"] (defScope s_is_rational) := ⟨rfl, rfl, rfl, by decide +kernel, rfl, by decide +kernel, by decide +kernel⟩
abbrev s_l_ratio : Stmt := topS 19
theorem sc_l_ratio : FnScope ["stream", "top", "most", "n"] ["stream", "top", "most"] (defScope s_l_ratio) := ⟨rfl, rfl, rfl, by decide +kernel, rfl, by decide +kernel, by decide +kernel⟩
abbrev s_l_root : Stmt := topS 20
theorem sc_l_root : FnScope ["n", "low", "high", "k", "middle"] ["n"] (defScope s_l_root) := ⟨rfl, rfl, rfl, by decide +kernel, rfl, by decide +kernel, by decide +kernel⟩
abbrev s_l_is_square : Stmt := topS 21
theorem sc_l_is_square : FnScope ["n"] ["n"] (defScope s_l_is_square) := ⟨rfl, rfl, rfl, by decide +kernel, rfl, by decide +kernel, by decide +kernel⟩
abbrev s_l_field : Stmt := topS 22
theorem sc_l_field : FnScope ["stream", "pick", "field"] ["stream"] (defScope s_l_field) := ⟨rfl, rfl, rfl, by decide +kernel, rfl, by decide +kernel, by decide +kernel⟩
abbrev s_l_element : Stmt := topS 23
theorem sc_l_element : FnScope ["stream", "field", "top", "most", "x", "y"] ["stream", "field", "top", "most"] (defScope s_l_element) := ⟨rfl, rfl, rfl, by decide +kernel, rfl, by decide +kernel, by decide +kernel⟩
abbrev s_square_root : Stmt := topS 3
theorem sc_square_root : FnScope ["n", "root"] ["n"] (defScope s_square_root) := ⟨rfl, rfl, rfl, by decide +kernel, rfl, by decide +kernel, by decide +kernel⟩
abbrev s_is_field : Stmt := topS 8
theorem sc_is_field : FnScope ["x"] ["x"] (defScope s_is_field) := ⟨rfl, rfl, rfl, by decide +kernel, rfl, by decide +kernel, by decide +kernel⟩
abbrev s_is_element : Stmt := topS 9
theorem sc_is_element : FnScope ["field", "x"] ["field", "x"] (defScope s_is_element) := ⟨rfl, rfl, rfl, by decide +kernel, rfl, by decide +kernel, by decide +kernel⟩
abbrev s_l_is : Stmt := topS 27
theorem sc_l_is : FnScope ["actual", "due"] ["actual", "due"] (defScope s_l_is) := ⟨rfl, rfl, rfl, by decide +kernel, rfl, by decide +kernel, by decide +kernel⟩
abbrev s_law : Stmt := topS 28
theorem sc_law : FnScope ["script", "stream", "n", "size", "due", "odd", "field", "x", "y", "wrong"] ["script"] (defScope s_law) := ⟨rfl, rfl, rfl, by decide +kernel, rfl, by decide +kernel, by decide +kernel⟩
structure Txt (K : PySem.W.Frag) (mg : Str → Option Value) where
  f_l_stream : Addr
  fd_l_stream : FuncData
  D_l_stream : Dn K mg "_law_stream" s_l_stream ["script"] f_l_stream fd_l_stream
  f_l_next : Addr
  fd_l_next : FuncData
  D_l_next : Dn K mg "_law_next" s_l_next ["stream", "many"] f_l_next fd_l_next
  f_l_gcd : Addr
  fd_l_gcd : FuncData
  D_l_gcd : Dn K mg "_law_gcd" s_l_gcd ["a", "b"] f_l_gcd fd_l_gcd
  f_l_low : Addr
  fd_l_low : FuncData
  D_l_low : Dn K mg "_law_low" s_l_low ["n", "d"] f_l_low fd_l_low
  f_is_whole : Addr
  fd_is_whole : FuncData
  D_is_whole : Dn K mg "is_whole" s_is_whole ["value"] f_is_whole fd_is_whole
  f_is_rational : Addr
  fd_is_rational : FuncData
  D_is_rational : Dn K mg "is_rational" s_is_rational ["x"] f_is_rational fd_is_rational
  f_l_ratio : Addr
  fd_l_ratio : FuncData
  D_l_ratio : Dn K mg "_law_ratio" s_l_ratio ["stream", "top", "most"] f_l_ratio fd_l_ratio
  f_l_root : Addr
  fd_l_root : FuncData
  D_l_root : Dn K mg "_law_root" s_l_root ["n"] f_l_root fd_l_root
  f_l_is_square : Addr
  fd_l_is_square : FuncData
  D_l_is_square : Dn K mg "_law_is_square" s_l_is_square ["n"] f_l_is_square fd_l_is_square
  f_l_field : Addr
  fd_l_field : FuncData
  D_l_field : Dn K mg "_law_field" s_l_field ["stream"] f_l_field fd_l_field
  f_l_element : Addr
  fd_l_element : FuncData
  D_l_element : Dn K mg "_law_element" s_l_element ["stream", "field", "top", "most"] f_l_element fd_l_element
  f_square_root : Addr
  fd_square_root : FuncData
  D_square_root : Dn K mg "square_root" s_square_root ["n"] f_square_root fd_square_root
  f_is_field : Addr
  fd_is_field : FuncData
  D_is_field : Dn K mg "is_field" s_is_field ["x"] f_is_field fd_is_field
  f_is_element : Addr
  fd_is_element : FuncData
  D_is_element : Dn K mg "is_element" s_is_element ["field", "x"] f_is_element fd_is_element
  f_l_is : Addr
  fd_l_is : FuncData
  D_l_is : Dn K mg "_law_is" s_l_is ["actual", "due"] f_l_is fd_l_is
  f_law : Addr
  fd_law : FuncData
  D_law : Dn K mg "law" s_law ["script"] f_law fd_law
  abs : mg "abs" = none
  bool : mg "bool" = none
  int : mg "int" = none
  isinstance : mg "isinstance" = none
  len : mg "len" = none
  list : mg "list" = none
  range : mg "range" = none
  tuple : mg "tuple" = none
  gcd : mg "gcd" = some (.builtin "math.gcd")
  isqrt : mg "isqrt" = some (.builtin "math.isqrt")
  c_ZERO : Addr
  g_ZERO : mg "ZERO" = some (.ref c_ZERO)
  k_ZERO : WT K c_ZERO [.int 0, .int 1]
section
variable {P : Program} {w : World} {K : PySem.W.Frag} {mg : Str → Option Value} {base : Heap}
/-! ### the draws -/
theorem ok_l_stream (T : Txt K mg) : FnOk P w K mg base CX0 1 T.f_l_stream T.fd_l_stream ["script"] (spStream K) := by
  refine T.D_l_stream.F.ok sc_l_stream (fun vs H Q E h => ?_) (fun cdv A outer s H vs Q E hr h => ?_)
  · obtain ⟨a, ns, rfl, _⟩ := h
    rfl
  · obtain ⟨a, ns, rfl, hS, k⟩ := h
    refine ⟨_, (pss_one (ps_ret (pe_lst (pa_cons (pe_callTy call_list_of (by rfl) T.list PyProof.Rows.boot_list (pa_cons (pv 0) pa_nil)) (pa_cons pe_int (pa_cons pe_int pa_nil)))))), ?_⟩
    refine ⟨_, rfl, a, _, rfl, .inl hS, fun l hl => ?_⟩
    refine ⟨(by show 3 ≤ sizeLine; decide), fun s hs => ?_⟩
    have e1 := same_new (o := .lst (ns.map V.int)) hl
    have e2 := same_new (o := .lst [.ref l, .int 0, .int 0]) hs
    exact k s _ ⟨l, ns, 0, 0, upd_same, e2 _ _ upd_same, Int.le_refl _⟩ (e1.trans e2) (e1.free hs)
theorem ok_l_next (T : Txt K mg) : FnOk P w K mg base CX0 1 T.f_l_next T.fd_l_next ["stream", "many"] spNext := by
  refine T.D_l_next.F.ok sc_l_next (fun vs H Q E h => ?_) (fun cdv A outer s H vs Q E hr h => ?_)
  · obtain ⟨s, m, rfl, _⟩ := h
    rfl
  · obtain ⟨s, m, rfl, ⟨l, ns, c, k, hs, hl, hk⟩, hm, hmb, kk⟩ := h
    have nsl : s ≠ l := ne_of hs hl lst_ne
    have tail : ∀ (H1 : Hp) (c1 k1 : Int) (v2 v3 : Option V), H1 s = some (.lst [.ref l, .int c1, .int k1]) → H1 l = some (.lst (ns.map V.int)) → 0 ≤ k1 → Keep s H H1 →
        (tSeq (tAsg (tOp (rI (fun _ j => 0 < j) fun i j => .int (i % j)) (tCB (fun xs H Q => (∃ i, xs = [.int i] ∧ Q (.int i) H) ∨ ∃ k, xs = [.bl k] ∧ Q (.int (if k then 1 else 0)) H) (tCons (tOp (rIxL K) (tVar 0) (tC (.int 1))) tNil)) (tVar 1)) (gName 4))
          (tSeq (tAsg (tOp (rI CDivW fun i j => .int (i / j)) (tOp (rIxL K) (tVar 0) (tC (.int 1))) (tVar 1)) (gSub (tVar 0) (tC (.int 1)) rSetL)) (tRet (tVar 4)))) { nx := fun _ H' => Q .non H', rt := Q } [some (.ref s), some (.int m), v2, v3, none] H1 := by
      intro H1 c1 k1 v2 v3 h1 h2 h3 h4
      refine ⟨_, rfl, s, _, _, _, rfl, rfl, SqL.of h1, rfl, .inl ⟨_, rfl, _, rfl, _, _, rfl, rfl, hm, ?_⟩⟩
      refine ⟨_, rfl, s, _, _, _, rfl, rfl, SqL.of h1, rfl, _, rfl, _, _, rfl, rfl, wide_div hm hmb (by decide) (by decide), ?_⟩
      refine ⟨_, rfl, s, _, _, 1, rfl, rfl, h1, rfl, ?_⟩
      refine ⟨_, rfl, ?_⟩
      refine kk _ _ (Int.emod_nonneg _ (by omega)) (Int.emod_lt_of_pos _ hm) ⟨l, ns, _, k1, upd_same, by rw [upd_ne nsl.symm]; exact h2, h3⟩ fun b o e hb => ?_
      rw [upd_ne hb]
      exact h4 b o e hb
    refine ⟨_, (pss_cons (ps_if (pt_cmpR op_eq (pe_ix (r := rIxL K) ix_list (pv 0) pe_int (fun _ _ => rfl)) pe_int (nomark _)) (pss_cons (ps_set (i := 2) sc_l_next.nd rfl (Or.inl rfl) (pe_ix (r := rIxL K) ix_list (pv 0) pe_int (fun _ _ => rfl)))
    (pss_cons (ps_set (i := 3) sc_l_next.nd rfl (Or.inl rfl) (pe_op op_add pe_int (pv 2)))
    (pss_cons (ps_if (pt_cmpR op_lt (pv 2) (pe_callB call_len_seq (by rfl) T.len PySem.boot_len (pa_cons (pe_ix (r := rIxL K) ix_list (pv 0) pe_int (fun _ _ => rfl)) pa_nil)) (nomark _)) (pss_one (ps_set (i := 3) sc_l_next.nd rfl (Or.inl rfl) (pe_callB call_abs (by rfl) T.abs PyProof.Rows.boot_abs (pa_cons (pe_ix (r := rIxL K) ix_list (pe_ix (r := rIxL K) ix_list (pv 0) pe_int (fun _ _ => rfl)) (pv 2) (fun _ _ => rfl)) pa_nil)))) pss_nil)
    (pss_cons (ps_if (pt_cmpR op_lt (pv 3) (pe_op op_pow pe_int pe_int) (nomark _)) (pss_cons (ps_set (i := 3) sc_l_next.nd rfl (Or.inl rfl) (pe_op op_mod (pe_callTy call_int1 (by rfl) T.int PyProof.Rows.boot_int (pa_cons (pe_op op_add (pe_op op_add (pe_op op_mul (pv 3) pe_int) (pe_op op_mul (pv 2) pe_int)) pe_int) pa_nil)) pe_int))
    (pss_one (ps_set (i := 3) sc_l_next.nd rfl (Or.inl rfl) (pe_op op_add (pe_op op_mul (pe_op op_mod (pe_callTy call_int1 (by rfl) T.int PyProof.Rows.boot_int (pa_cons (pe_op op_add (pe_op op_mul (pv 3) pe_int) pe_int) pa_nil)) pe_int) pe_int) (pv 3))))) pss_nil)
    (pss_cons (ps_asg (pv 3) (pg_sub (pv 0) pe_int set_list))
    (pss_one (ps_asg (pe_op op_add (pv 2) pe_int) (pg_sub (pv 0) pe_int set_list)))))))) pss_nil)
    (pss_cons (ps_set (i := 4) sc_l_next.nd rfl (Or.inl rfl) (pe_op op_mod (pe_callTy call_int1 (by rfl) T.int PyProof.Rows.boot_int (pa_cons (pe_ix (r := rIxL K) ix_list (pv 0) pe_int (fun _ _ => rfl)) pa_nil)) (pv 1)))
    (pss_cons (ps_asg (pe_op op_fdivW (pe_ix (r := rIxL K) ix_list (pv 0) pe_int (fun _ _ => rfl)) (pv 1)) (pg_sub (pv 0) pe_int set_list))
    (pss_one (ps_ret (pv 4)))))), ?_⟩
    refine ⟨_, rfl, s, _, _, _, rfl, rfl, SqL.of hs, rfl, rfl, _, rfl, ite2 (fun _ => ?_) (fun _ => ?_)⟩
    · -- a new cell
      refine ⟨_, rfl, s, _, _, _, rfl, rfl, SqL.of hs, rfl, ?_⟩
      refine ⟨_, rfl, _, _, rfl, rfl, ?_⟩
      have part : ∀ c2 : Int, (tSeq (tIfS (tTest (tOp (rI0 fun i j => .bl (decide (i < j))) (tVar 3) (tOp (rI CPow fun i j => .int (i ^ j.toNat)) (tC (.int 10)) (tC (.int 18)))))
          (tSeq (tAsg (tOp (rI (fun _ j => 0 < j) fun i j => .int (i % j)) (tCB (fun xs H Q => (∃ i, xs = [.int i] ∧ Q (.int i) H) ∨ ∃ k, xs = [.bl k] ∧ Q (.int (if k then 1 else 0)) H) (tCons (tOp (rI0 fun i j => .int (i + j)) (tOp (rI0 fun i j => .int (i + j)) (tOp (rI CMul fun i j => .int (i * j)) (tVar 3) (tC (.int 48271))) (tOp (rI CMul fun i j => .int (i * j)) (tVar 2) (tC (.int 69621)))) (tC (.int 11))) tNil)) (tC (.int 2147483647))) (gName 3))
            (tAsg (tOp (rI0 fun i j => .int (i + j)) (tOp (rI CMul fun i j => .int (i * j)) (tOp (rI (fun _ j => 0 < j) fun i j => .int (i % j)) (tCB (fun xs H Q => (∃ i, xs = [.int i] ∧ Q (.int i) H) ∨ ∃ k, xs = [.bl k] ∧ Q (.int (if k then 1 else 0)) H) (tCons (tOp (rI0 fun i j => .int (i + j)) (tOp (rI CMul fun i j => .int (i * j)) (tVar 3) (tC (.int 16807))) (tC (.int 13))) tNil)) (tC (.int 2147483647))) (tC (.int 65537))) (tVar 3)) (gName 3)))
          tNext)
          (tSeq (tAsg (tVar 3) (gSub (tVar 0) (tC (.int 1)) rSetL)) (tAsg (tOp (rI0 fun i j => .int (i + j)) (tVar 2) (tC (.int 1))) (gSub (tVar 0) (tC (.int 2)) rSetL))))
          { nx := fun σ' H' => (tSeq (tAsg (tOp (rI (fun _ j => 0 < j) fun i j => .int (i % j)) (tCB (fun xs H Q => (∃ i, xs = [.int i] ∧ Q (.int i) H) ∨ ∃ k, xs = [.bl k] ∧ Q (.int (if k then 1 else 0)) H) (tCons (tOp (rIxL K) (tVar 0) (tC (.int 1))) tNil)) (tVar 1)) (gName 4))
          (tSeq (tAsg (tOp (rI CDivW fun i j => .int (i / j)) (tOp (rIxL K) (tVar 0) (tC (.int 1))) (tVar 1)) (gSub (tVar 0) (tC (.int 1)) rSetL)) (tRet (tVar 4)))) { nx := fun _ H' => Q .non H', rt := Q } σ' H', rt := Q } [some (.ref s), some (.int m), some (.int k), some (.int c2), none] H := by
        intro c2
        have store : ∀ c3 : Int, (tSeq (tAsg (tVar 3) (gSub (tVar 0) (tC (.int 1)) rSetL)) (tAsg (tOp (rI0 fun i j => .int (i + j)) (tVar 2) (tC (.int 1))) (gSub (tVar 0) (tC (.int 2)) rSetL)))
          { nx := fun σ' H' => (tSeq (tAsg (tOp (rI (fun _ j => 0 < j) fun i j => .int (i % j)) (tCB (fun xs H Q => (∃ i, xs = [.int i] ∧ Q (.int i) H) ∨ ∃ k, xs = [.bl k] ∧ Q (.int (if k then 1 else 0)) H) (tCons (tOp (rIxL K) (tVar 0) (tC (.int 1))) tNil)) (tVar 1)) (gName 4))
          (tSeq (tAsg (tOp (rI CDivW fun i j => .int (i / j)) (tOp (rIxL K) (tVar 0) (tC (.int 1))) (tVar 1)) (gSub (tVar 0) (tC (.int 1)) rSetL)) (tRet (tVar 4)))) { nx := fun _ H' => Q .non H', rt := Q } σ' H', rt := Q } [some (.ref s), some (.int m), some (.int k), some (.int c3), none] H := by
          intro c3
          refine ⟨_, rfl, _, rfl, s, _, _, 1, rfl, rfl, hs, rfl, ?_⟩
          refine ⟨_, rfl, _, _, rfl, rfl, _, rfl, s, _, _, 2, rfl, rfl, upd_same, rfl, ?_⟩
          refine tail _ c3 (k + 1) _ _ upd_same ?_ (by omega) fun b o e hb => ?_
          · rw [upd_ne nsl.symm, upd_ne nsl.symm]
            exact hl
          · rw [upd_ne hb, upd_ne hb]
            exact e
        refine ⟨_, rfl, _, _, rfl, rfl, ⟨by decide, by decide, by decide⟩, _, _, rfl, rfl, _, rfl, ite2 (fun _ => ?_) (fun _ => ?_)⟩
        · refine ⟨_, rfl, _, _, rfl, rfl, .inr ⟨by decide, by decide⟩, _, rfl, _, _, rfl, rfl, .inr ⟨by decide, by decide⟩, _, _, rfl, rfl, _, _, rfl, rfl, .inl ⟨_, rfl, _, _, rfl, rfl, (by show (0 : Int) < 2147483647; decide), ?_⟩⟩
          refine ⟨_, rfl, _, _, rfl, rfl, .inr ⟨by decide, by decide⟩, _, _, rfl, rfl, .inl ⟨_, rfl, _, _, rfl, rfl, (by show (0 : Int) < 2147483647; decide), _, _, rfl, rfl, .inr ⟨by decide, by decide⟩, _, rfl, _, _, rfl, rfl, ?_⟩⟩
          exact store _
        · exact store _
      refine ⟨_, rfl, _, rfl, s, _, _, _, rfl, rfl, SqL.of hs, rfl, l, _, rfl, .inl (SqL.of hl), _, _, rfl, rfl, _, rfl, iteD (fun hlt => ?_) (fun _ => ?_)⟩
      · have hlt' : k < ((ns.map V.int).length : Int) := hlt
        obtain ⟨j, rfl⟩ : ∃ j : Nat, k = (j : Int) := ⟨k.toNat, by omega⟩
        have hj : j < ns.length := by rw [List.length_map] at hlt'; omega
        refine ⟨_, rfl, s, _, _, _, rfl, rfl, SqL.of hs, rfl, _, rfl, l, _, _, _, rfl, rfl, SqL.of hl, at_of (j := j) (v := V.int ns[j]) rfl (by rw [List.getElem?_map, List.getElem?_eq_getElem hj]; rfl), _, rfl, ?_⟩
        exact part _
      · exact part _
    · -- the cell stands
      exact tail H c k none none hs hl hk (Keep.refl s H)
/-! ### the law's own fractions -/
def spGcd : Sp := fun vs H Q _ => ∃ a b : Int, vs = [.int a, .int b] ∧ a.natAbs < 2 ^ 19000 ∧ b.natAbs < 2 ^ 19000 ∧ Q (.int ((Nat.gcd a.natAbs b.natAbs : Nat) : Int)) H
theorem ok_l_gcd (T : Txt K mg) : FnOk P w K mg base CX0 1 T.f_l_gcd T.fd_l_gcd ["a", "b"] spGcd := by
  refine T.D_l_gcd.F.ok sc_l_gcd (fun vs H Q E h => ?_) (fun cdv A outer s H vs Q E hr h => ?_)
  · obtain ⟨a, b, rfl, _⟩ := h
    rfl
  · obtain ⟨a, b, rfl, ha, hb, k⟩ := h
    refine ⟨_, (pss_cons (ps_set (i := 0) sc_l_gcd.nd rfl (Or.inl rfl) (pe_callB call_abs (by rfl) T.abs PyProof.Rows.boot_abs (pa_cons (pv 0) pa_nil)))
    (pss_cons (ps_set (i := 1) sc_l_gcd.nd rfl (Or.inl rfl) (pe_callB call_abs (by rfl) T.abs PyProof.Rows.boot_abs (pa_cons (pv 1) pa_nil)))
    (pss_cons (ps_for PassesOwn.never rfl (pi_range1 rfl T.range (pa_cons pe_int pa_nil)) (pg_name (i := 2) sc_l_gcd.nd rfl (Or.inl rfl)) (pss_cons (ps_if (pt_cmpR op_eq (pv 1) pe_int (nomark _)) (pss_one ps_break) pss_nil)
    (pss_one (ps_par (i := 0) (j := 1) (by rfl) sc_l_gcd.nd rfl rfl (by decide) rfl rfl (pa_cons (pv 1) (pa_cons (pe_op op_mod (pe_callTy call_int1 (by rfl) T.int PyProof.Rows.boot_int (pa_cons (pv 0) pa_nil)) (pv 1)) pa_nil)) (by rfl)))))
    (pss_one (ps_ret (pv 0)))))), ?_⟩
    refine ⟨_, rfl, _, rfl, ?_⟩
    refine ⟨_, rfl, _, rfl, ?_⟩
    refine ⟨40000, rfl, by decide, by decide, for_range (lo := 0) (n := 40000) (fun i σ H' => H' = H ∧ ∃ (x y : Nat) (v : Option V), σ = [some (.int (x : Int)), some (.int (y : Int)), v] ∧ GcdI 19000 (Nat.gcd a.natAbs b.natAbs) i x y)
      ⟨rfl, a.natAbs, b.natAbs, none, by rw [abs_eq, abs_eq]; rfl, rfl, .inl ⟨rfl, ha, hb⟩⟩ ?_ ?_⟩
    · rintro i σ H' hi ⟨rfl, x, y, v, rfl, g⟩
      refine ⟨_, rfl, rfl, _, rfl, ite2 (fun hz => ?_) (fun hz => ?_)⟩
      · have hy : y = 0 := by
          have h1 := of_decide_eq_true hz
          injection h1 with h2
          omega
        subst hy
        have e : x = Nat.gcd a.natAbs b.natAbs := by
          have := g.1
          rw [Nat.gcd_zero_right] at this
          exact this
        refine ⟨_, rfl, ?_⟩
        rw [e]
        exact k
      · have hy : y ≠ 0 := fun q => hz (by subst q; exact decide_eq_true rfl)
        refine ⟨_, rfl, _, rfl, .inl ⟨_, rfl, _, rfl, _, _, rfl, rfl, (by show (0 : Int) < (y : Int); omega), ?_⟩⟩
        exact ⟨_, _, rfl, rfl, y, x % y, _, rfl, gcdI_step g hy⟩
    · rintro σ H' ⟨rfl, x, y, v, rfl, g⟩
      refine ⟨_, rfl, ?_⟩
      rw [gcdI_end g (by decide)]
      exact k
theorem ok_l_low (T : Txt K mg) : FnOk P w K mg base CX0 2 T.f_l_low T.fd_l_low ["n", "d"] (spPair fun n d => (lo1 n d, lo2 n d)) := by
  refine T.D_l_low.F.ok sc_l_low (fun vs H Q E h => ?_) (fun cdv A outer s H vs Q E hr h => ?_)
  · obtain ⟨n, d, rfl, _⟩ := h
    rfl
  · obtain ⟨n, d, rfl, hd, hn, hb, k⟩ := h
    have low : ∀ g : Int, g = sg n d → (tRet (tTup (tCons (tOp (rI CDivZ fun i j => .int (i.fdiv j)) (tVar 0) (tVar 2)) (tCons (tOp (rI CDivZ fun i j => .int (i.fdiv j)) (tVar 1) (tVar 2)) tNil)))) { nx := fun _ H' => Q .non H', rt := Q } [some (.int n), some (.int d), some (.int g)] H := by
      rintro g rfl
      have c : ∀ x, CDivZ x (sg n d) := fun x => cdivz (sg_ne hd) (sg_size hd hb) (Nat.le_refl _)
      refine ⟨_, rfl, _, rfl, _, _, rfl, rfl, c _, _, rfl, _, rfl, _, _, rfl, rfl, c _, (by show 2 ≤ sizeLine; decide), fun p hp => ?_⟩
      exact k p _ (same_new hp) hp upd_same
    refine ⟨_, (pss_cons (ps_set (i := 2) sc_l_low.nd rfl (Or.inl rfl) (pe_call (ok_l_gcd T) (hr.mono (by omega)) rfl T.D_l_gcd.g T.D_l_gcd.F.kp T.D_l_gcd.b .nil pass0 (pa_cons (pv 0) (pa_cons (pv 1) pa_nil))))
    (pss_cons (ps_if (pt_cmpR op_lt (pv 1) pe_int (nomark _)) (pss_one (ps_set (i := 2) sc_l_low.nd rfl (Or.inl rfl) (pe_op op_sub pe_int (pv 2)))) pss_nil)
    (pss_one (ps_ret (pe_tup (pa_cons (pe_op op_fdivZ (pv 0) (pv 2)) (pa_cons (pe_op op_fdivZ (pv 1) (pv 2)) pa_nil))))))), ?_⟩
    refine ⟨_, rfl, _, rfl, n, d, rfl, Nat.lt_of_lt_of_le hn (Nat.pow_le_pow_right (by decide) (by decide)), Nat.lt_of_lt_of_le hb (Nat.pow_le_pow_right (by decide) (by decide)), ?_⟩
    refine ⟨_, rfl, _, _, rfl, rfl, _, rfl, iteD (fun hneg => ?_) (fun hneg => ?_)⟩
    · refine ⟨_, rfl, _, _, rfl, rfl, ?_⟩
      exact low _ (by unfold sg; rw [if_pos hneg]; omega)
    · exact low _ (by unfold sg; rw [if_neg hneg])
end
section
variable {P : Program} {w : World} {K : PySem.W.Frag} {mg : Str → Option Value} {base : Heap}
theorem ok_is_whole (T : Txt K mg) : FnOk P w K mg base CX0 1 T.f_is_whole T.fd_is_whole ["value"] (spWhole K) := by
  refine T.D_is_whole.F.ok sc_is_whole (fun vs H Q E h => ?_) (fun cdv A outer s H vs Q E hr h => ?_)
  · obtain ⟨x, t, rfl, _⟩ := h
    rfl
  · obtain ⟨x, t, rfl, ty, mem, k⟩ := h
    refine ⟨_, (pss_one (ps_ret (pe_and (pe_callB call_isi (by rfl) T.isinstance PyProof.Rows.boot_isinstance (pa_cons (pv 0) (pa_cons (pe_bltn (v := .ty "int") (by rfl) T.int PyProof.Rows.boot_int rfl) pa_nil))) (pe_one (pe_not (pe_callB call_isi (by rfl) T.isinstance PyProof.Rows.boot_isinstance (pa_cons (pv 0) (pa_cons (pe_bltn (v := .ty "bool") (by rfl) T.bool PyProof.Rows.boot_bool rfl) pa_nil)))))))), ?_⟩
    simp only [tys, List.mem_cons, List.not_mem_nil, or_false] at mem
    rcases mem with rfl | rfl | rfl | rfl | rfl | rfl
    · exact ⟨_, rfl, _, _, _, _, true, rfl, .ty "int", ty, kit_ty (by decide +kernel), true, rfl, iteT ⟨_, rfl, _, _, _, _, false, rfl, .ty "bool", ty, kit_ty (by decide +kernel), false, rfl, k⟩⟩
    · exact ⟨_, rfl, _, _, _, _, true, rfl, .ty "int", ty, kit_ty (by decide +kernel), true, rfl, iteT ⟨_, rfl, _, _, _, _, true, rfl, .ty "bool", ty, kit_ty (by decide +kernel), true, rfl, k⟩⟩
    all_goals exact ⟨_, rfl, _, _, _, _, false, rfl, .ty "int", ty, kit_ty (by decide +kernel), false, rfl, iteF k⟩
/-- is_rational, by what stands in x -/
inductive RatV (K : PySem.W.Frag) (H : Hp) : V → Bool → Prop where
  | other {x : V} {t : String} (ty : TyX K H x (.type t)) (m : t ∈ tys) (n : t ≠ "tuple") : RatV K H x false
  | size {a : Addr} {xs : List V} (h : H a = some (.tup xs)) (n : (xs.length : Int) ≠ 2) : RatV K H (.ref a) false
  | left {a : Addr} {x y : V} {t : String} (h : H a = some (.tup [x, y])) (ty : TyX K H x (.type t)) (m : t ∈ tys) (n : t ≠ "int") : RatV K H (.ref a) false
  | right {a : Addr} {x : Int} {y : V} {t : String} (h : H a = some (.tup [.int x, y])) (ty : TyX K H y (.type t)) (m : t ∈ tys) (n : t ≠ "int") : RatV K H (.ref a) false
  | pair {a : Addr} {n d : Int} (h : H a = some (.tup [.int n, .int d])) : RatV K H (.ref a) (decide (1 ≤ d) && decide (Nat.gcd n.natAbs d.natAbs = 1))
def spIsRat (K : PySem.W.Frag) : Sp := fun vs H Q _ => ∃ (x : V) (b : Bool), vs = [x] ∧ RatV K H x b ∧ Q (.bl b) H
theorem ok_is_rational (T : Txt K mg) : FnOk P w K mg base CX0 2 T.f_is_rational T.fd_is_rational ["x"] (spIsRat K) := by
  refine T.D_is_rational.F.ok sc_is_rational (fun vs H Q E h => ?_) (fun cdv A outer s H vs Q E hr h => ?_)
  · obtain ⟨x, b, rfl, _⟩ := h
    rfl
  · obtain ⟨x, b, rfl, hR, k⟩ := h
    refine ⟨_, (pss_cons (ps_if (PW.pt (pw_or (pt_not (pt_val (pe_callB call_isi (by rfl) T.isinstance PyProof.Rows.boot_isinstance (pa_cons (pv 0) (pa_cons (pe_bltn (v := .ty "tuple") (by rfl) T.tuple PyProof.Rows.boot_tuple rfl) pa_nil))))) (pw_or1 (pt_cmpR op_ne (pe_callB call_len_seq (by rfl) T.len PySem.boot_len (pa_cons (pv 0) pa_nil)) pe_int (nomark _))))) (pss_one (ps_ret pe_bl)) pss_nil)
    (pss_cons (ps_asg (pv 0) (pg_tup (by rfl) (pgs_cons (pg_name (i := 1) sc_is_rational.nd rfl (Or.inl rfl)) (pgs_cons (pg_name (i := 2) sc_is_rational.nd rfl (Or.inl rfl)) pgs_nil))))
    (pss_one (ps_ret (pe_and (pe_call (ok_is_whole T) (hr.mono (by omega)) rfl T.D_is_whole.g T.D_is_whole.F.kp T.D_is_whole.b .nil pass0 (pa_cons (pv 1) pa_nil)) (pe_and (pe_call (ok_is_whole T) (hr.mono (by omega)) rfl T.D_is_whole.g T.D_is_whole.F.kp T.D_is_whole.b .nil pass0 (pa_cons (pv 2) pa_nil)) (pe_and (pe_cmpR op_ge (pv 2) pe_int (nomark _)) (pe_one (pe_cmpR op_eq (pe_callBfun cr_gcd (by rfl) T.gcd (pa_cons (pv 1) (pa_cons (pv 2) pa_nil))) pe_int (nomark _)))))))))), ?_⟩
    have mi : "int" ∈ tys := by decide
    cases hR with
    | other ty m n =>
      rename_i t
      refine ⟨_, rfl, _, _, _, _, false, rfl, .ty "tuple", ty, kit_ty ?_, false, rfl, iteT (iteT k)⟩
      simp only [tys, List.mem_cons, List.not_mem_nil, or_false] at m
      rcases m with rfl | rfl | rfl | rfl | rfl | rfl
      all_goals first | exact absurd rfl n | decide +kernel
    | size h n =>
      refine ⟨_, rfl, _, _, _, _, true, rfl, .ty "tuple", ty_tup h, kit_ty (by decide +kernel), true, rfl, iteF ⟨_, rfl, _, _, rfl, .inr (SqT.of h), rfl, _, rfl, iteN1 (fun e => n ?_) k⟩⟩
      injection e
    | left h ty m n =>
      refine ⟨_, rfl, _, _, _, _, true, rfl, .ty "tuple", ty_tup h, kit_ty (by decide +kernel), true, rfl, iteF ⟨_, rfl, _, _, rfl, .inr (SqT.of h), rfl, _, rfl, iteNS rfl ?_⟩⟩
      refine ⟨_, rfl, _, _, rfl, SqT.of h, rfl, _, _, rfl, _, _, rfl, rfl, ?_⟩
      refine ⟨_, rfl, _, _, rfl, ty, m, _, rfl, iteD0 n k⟩
    | right h ty m n =>
      refine ⟨_, rfl, _, _, _, _, true, rfl, .ty "tuple", ty_tup h, kit_ty (by decide +kernel), true, rfl, iteF ⟨_, rfl, _, _, rfl, .inr (SqT.of h), rfl, _, rfl, iteNS rfl ?_⟩⟩
      refine ⟨_, rfl, _, _, rfl, SqT.of h, rfl, _, _, rfl, _, _, rfl, rfl, ?_⟩
      refine ⟨_, rfl, _, _, rfl, ty_int _, mi, _, rfl, iteD1 rfl ⟨_, rfl, _, _, rfl, ty, m, _, rfl, iteD0 n k⟩⟩
    | pair h =>
      rename_i a n d
      refine ⟨_, rfl, _, _, _, _, true, rfl, .ty "tuple", ty_tup h, kit_ty (by decide +kernel), true, rfl, iteF ⟨_, rfl, _, _, rfl, .inr (SqT.of h), rfl, _, rfl, iteNS rfl ?_⟩⟩
      refine ⟨_, rfl, _, _, rfl, SqT.of h, rfl, _, _, rfl, _, _, rfl, rfl, ?_⟩
      refine ⟨_, rfl, _, _, rfl, ty_int _, mi, _, rfl, iteD1 rfl ⟨_, rfl, _, _, rfl, ty_int _, mi, _, rfl, iteD1 rfl ⟨_, rfl, _, _, rfl, rfl, _, rfl, iteD (fun h1 => ?_) (fun h1 => ?_)⟩⟩⟩
      · refine ⟨_, rfl, _, rfl, n, d, rfl, rfl, ?_⟩
        have e : decide (V.int ((Nat.gcd n.natAbs d.natAbs : Nat) : Int) = V.int 1) = (decide (1 ≤ d) && decide (Nat.gcd n.natAbs d.natAbs = 1)) := by
          rw [decide_eq_true h1, Bool.true_and]
          refine decide_eq_decide.mpr ⟨fun q => ?_, fun q => by rw [q]; rfl⟩
          injection q with q'
          omega
        rw [e]
        exact k
      · rw [decide_eq_false h1, Bool.false_and] at k
        exact k
end
/-! ### rationals -/
/-- two pairs of ints in, one new pair in lowest terms out -/
def spBin (N D : Int → Int → Int → Int → Int) : Sp := fun vs H Q _ => ∃ (p q : Addr) (a b c d : Int), vs = [.ref p, .ref q] ∧ H p = some (.tup [.int a, .int b]) ∧ H q = some (.tup [.int c, .int d]) ∧
  D a b c d ≠ 0 ∧ a.natAbs < 2 ^ 4000 ∧ b.natAbs < 2 ^ 4000 ∧ c.natAbs < 2 ^ 4000 ∧ d.natAbs < 2 ^ 4000 ∧
  ∀ (r : Addr) (H' : Hp), Same H H' → H r = none → H' r = some (.tup [.int (lo1 (N a b c d) (D a b c d)), .int (lo2 (N a b c d) (D a b c d))]) → Q (.ref r) H'
def nPlus (a b c d : Int) : Int := a * d + c * b
def nMinus (a b c d : Int) : Int := a * d - c * b
def nTimes (a _ c _ : Int) : Int := a * c
def dBoth (_ b _ d : Int) : Int := b * d
theorem add_up {i j : Int} (a : Nat) {c : Nat} (ha : i.natAbs < 2 ^ a) (hb : j.natAbs < 2 ^ a) (hc : a + 1 ≤ c := by decide) : (i + j).natAbs < 2 ^ c := by
  have h := Int.natAbs_add_le i j
  have e : 2 ^ (a + 1) = 2 ^ a + 2 ^ a := by rw [Nat.pow_succ]; omega
  exact Nat.lt_of_lt_of_le (by omega : (i + j).natAbs < 2 ^ (a + 1)) (Nat.pow_le_pow_right (by decide) hc)
theorem sub_up {i j : Int} (a : Nat) {c : Nat} (ha : i.natAbs < 2 ^ a) (hb : j.natAbs < 2 ^ a) (hc : a + 1 ≤ c := by decide) : (i - j).natAbs < 2 ^ c := by
  rw [Int.sub_eq_add_neg]
  exact add_up a ha (by rw [Int.natAbs_neg]; exact hb) hc
/-- a draw of a rational with a part below top, the other one to most -/
def spDraw : Sp := fun vs H Q _ => ∃ (s : Addr) (t m : Int), vs = [.ref s, .int t, .int m] ∧ Strm H s ∧ 0 < t ∧ 0 < m ∧ t.natAbs < 2 ^ 1000 ∧ m.natAbs < 2 ^ 1000 ∧
  ∀ (p : Addr) (H' : Hp) (n d : Int), 1 ≤ d → Nat.gcd n.natAbs d.natAbs = 1 → n.natAbs ≤ t.natAbs → d ≤ m → Strm H' s → Keep s H H' → H p = none → p ≠ s → H' p = some (.tup [.int n, .int d]) → Q (.ref p) H'
section
variable {P : Program} {w : World} {K : PySem.W.Frag} {mg : Str → Option Value} {base : Heap}
theorem ok_l_ratio (T : Txt K mg) : FnOk P w K mg base CX0 3 T.f_l_ratio T.fd_l_ratio ["stream", "top", "most"] spDraw := by
  refine T.D_l_ratio.F.ok sc_l_ratio (fun vs H Q E h => ?_) (fun cdv A outer s H vs Q E hr h => ?_)
  · obtain ⟨s, t, m, rfl, _⟩ := h
    rfl
  · obtain ⟨s, t, m, rfl, hs, ht, hm, bt, bm, k⟩ := h
    have b2 : (2 * t + 1).natAbs < 2 ^ 1003 := add_up 1002 (mul_up 2 1000 (show (2 : Int).natAbs < 2 ^ 2 by decide) bt) (up 1 (by decide))
    refine ⟨_, (pss_cons (ps_set (i := 3) sc_l_ratio.nd rfl (Or.inl rfl) (pe_op op_sub (pe_call (ok_l_next T) (hr.mono (by omega)) rfl T.D_l_next.g T.D_l_next.F.kp T.D_l_next.b .nil pass0 (pa_cons (pv 0) (pa_cons (pe_op op_add (pe_op op_mul pe_int (pv 1)) pe_int) pa_nil))) (pv 1)))
    (pss_one (ps_ret (pe_call (ok_l_low T) (hr.mono (by omega)) rfl T.D_l_low.g T.D_l_low.F.kp T.D_l_low.b .nil pass0 (pa_cons (pv 3) (pa_cons (pe_op op_add pe_int (pe_call (ok_l_next T) (hr.mono (by omega)) rfl T.D_l_next.g T.D_l_next.F.kp T.D_l_next.b .nil pass0 (pa_cons (pv 0) (pa_cons (pv 2) pa_nil)))) pa_nil)))))), ?_⟩
    refine ⟨_, rfl, _, rfl, _, _, rfl, rfl, .inl ⟨by decide, by decide⟩, _, _, rfl, rfl, s, 2 * t + 1, rfl, hs, by omega, up 1003 b2, fun d0 H1 a0 b0 hs1 k1 => ?_⟩
    refine ⟨_, rfl, _, _, rfl, rfl, ?_⟩
    refine ⟨_, rfl, _, rfl, _, rfl, s, m, rfl, hs1, hm, up 1000 bm, fun d1 H2 a1 b1 hs2 k2 => ⟨_, _, rfl, rfl, ?_⟩⟩
    have nz : (1 + d1 : Int) ≠ 0 := by omega
    have bn : (d0 - t).natAbs ≤ t.natAbs := by omega
    have bd : (1 + d1).natAbs ≤ m.natAbs := by omega
    refine ⟨d0 - t, 1 + d1, rfl, nz, up 1000 (Nat.lt_of_le_of_lt bn bt), up 1000 (Nat.lt_of_le_of_lt bd bm), fun p H3 e3 hn hp => ?_⟩
    have hk := k1.trans k2
    have f : ∀ {b : Addr} {o : HO}, H b = some o → b ≠ s → H3 b = some o := fun h n => e3 _ _ (hk _ _ h n)
    have ps : p ≠ s := by
      obtain ⟨_, _, _, _, h, _⟩ := hs2
      exact (ne_of_none h hn).symm
    refine k p H3 _ _ (lo2_pos nz) (lo_gcd nz) (Nat.le_trans (lo1_size nz) bn) ?_ (hs2.same e3) (fun b o h n => f h n) ?_ ps hp
    · have h1 := lo2_size (n := d0 - t) nz
      have h2 := lo2_pos (n := d0 - t) nz
      omega
    · cases z : H p with
      | none => rfl
      | some o =>
        rw [hk _ _ z ps] at hn
        cases hn
end
/-! ### squares -/
def isSq (n : Int) : Prop := ∃ r : Int, 0 ≤ r ∧ r * r = n
theorem sq_mono {a b : Int} (h0 : 0 ≤ a) (h : a ≤ b) : a * a ≤ b * b := Int.mul_self_le_mul_self h0 h
theorem root_uniq {n r q : Int} (r0 : 0 ≤ r) (q0 : 0 ≤ q) (r1 : r * r ≤ n) (r2 : n < (r + 1) * (r + 1)) (q1 : q * q ≤ n) (q2 : n < (q + 1) * (q + 1)) : r = q := by
  rcases (show r < q ∨ r = q ∨ q < r by omega) with h | h | h
  · have := sq_mono (show 0 ≤ r + 1 by omega) (show r + 1 ≤ q by omega)
    omega
  · exact h
  · have := sq_mono (show 0 ≤ q + 1 by omega) (show q + 1 ≤ r by omega)
    omega
theorem root_size {n r : Int} {a : Nat} (r0 : 0 ≤ r) (r1 : r * r ≤ n) (hn : n.natAbs < 2 ^ (a + a)) : r.natAbs < 2 ^ a := by
  rcases (show r.natAbs < 2 ^ a ∨ 2 ^ a ≤ r.natAbs by omega) with h | h
  · exact h
  · exfalso
    have h1 : 2 ^ a * 2 ^ a ≤ r.natAbs * r.natAbs := Nat.mul_le_mul h h
    rw [← Nat.pow_add, ← Int.natAbs_mul] at h1
    have h2 : 0 ≤ r * r := Int.mul_nonneg r0 r0
    omega
theorem two_sq : ∀ (r s : Nat), r * r = 2 * (s * s) → s = 0 := by
  intro r
  induction r using Nat.strongRecOn with
  | _ r ih =>
    intro s h
    have he : r % 2 = 0 := by
      have h1 : (r * r) % 2 = 0 := by rw [h]; exact Nat.mul_mod_right 2 _
      rw [Nat.mul_mod] at h1
      rcases (show r % 2 = 0 ∨ r % 2 = 1 by omega) with z | z
      · exact z
      · rw [z] at h1; cases h1
    obtain ⟨t, ht⟩ : ∃ t, r = 2 * t := ⟨r / 2, by omega⟩
    subst ht
    have h2 : s * s = 2 * (t * t) := by
      have e : 2 * t * (2 * t) = 2 * (2 * (t * t)) := by
        rw [Nat.mul_assoc, Nat.mul_left_comm t 2 t]
      rw [e] at h
      omega
    by_cases z : s = 0
    · exact z
    · exfalso
      have hlt : s < 2 * t := by
        rcases (show s < 2 * t ∨ 2 * t ≤ s by omega) with q | q
        · exact q
        · exfalso
          have h3 := Nat.mul_le_mul q q
          rw [h] at h3
          have : 0 < s * s := Nat.mul_pos (by omega) (by omega)
          omega
      have ht0 := ih s hlt t h2
      rw [ht0] at hlt
      omega
theorem two_not_sq {f : Int} (h0 : 0 < f) (h : isSq f) : ¬ isSq (f * 2) := by
  rintro ⟨r, hr, er⟩
  obtain ⟨s, hs, es⟩ := h
  have h1 : r.natAbs * r.natAbs = 2 * (s.natAbs * s.natAbs) := by
    rw [← Int.natAbs_mul, ← Int.natAbs_mul, er, es]
    omega
  have h2 := two_sq _ _ h1
  have h3 : s = 0 := by omega
  rw [h3] at es
  omega
/-! ### pairs in lowest terms -/
abbrev Q2 := Int × Int
def RatAt (H : Hp) (p : Addr) (q : Q2) : Prop := H p = some (.tup [.int q.1, .int q.2])
def EltAt (H : Hp) (e : Addr) (x y : Q2) : Prop := ∃ px py, H e = some (.tup [.ref px, .ref py]) ∧ RatAt H px x ∧ RatAt H py y
theorem EltAt.same {H H' : Hp} {e : Addr} {x y : Q2} (s : Same H H') (h : EltAt H e x y) : EltAt H' e x y := by
  obtain ⟨px, py, h1, h2, h3⟩ := h
  exact ⟨px, py, s _ _ h1, s _ _ h2, s _ _ h3⟩
def Sm (n : Nat) (q : Q2) : Prop := 1 ≤ q.2 ∧ q.1.natAbs < 2 ^ n ∧ q.2.natAbs < 2 ^ n
theorem Sm.up {n : Nat} (m : Nat) {q : Q2} (h : Sm n q) (hm : n ≤ m := by decide) : Sm m q := ⟨h.1, Odds.up n h.2.1 hm, Odds.up n h.2.2 hm⟩
def qPlus (x y : Q2) : Q2 := (lo1 (nPlus x.1 x.2 y.1 y.2) (dBoth x.1 x.2 y.1 y.2), lo2 (nPlus x.1 x.2 y.1 y.2) (dBoth x.1 x.2 y.1 y.2))
def qMinus (x y : Q2) : Q2 := (lo1 (nMinus x.1 x.2 y.1 y.2) (dBoth x.1 x.2 y.1 y.2), lo2 (nMinus x.1 x.2 y.1 y.2) (dBoth x.1 x.2 y.1 y.2))
def qTimes (x y : Q2) : Q2 := (lo1 (nTimes x.1 x.2 y.1 y.2) (dBoth x.1 x.2 y.1 y.2), lo2 (nTimes x.1 x.2 y.1 y.2) (dBoth x.1 x.2 y.1 y.2))
theorem Sm.den {n m : Nat} {x y : Q2} (hx : Sm n x) (hy : Sm m y) : dBoth x.1 x.2 y.1 y.2 ≠ 0 := Int.mul_ne_zero (by have := hx.1; omega) (by have := hy.1; omega)
theorem sm_lo {n : Nat} {N D : Int} (h : D ≠ 0) (hN : N.natAbs < 2 ^ n) (hD : D.natAbs < 2 ^ n) : Sm n (lo1 N D, lo2 N D) :=
  ⟨lo2_pos h, Nat.lt_of_le_of_lt (lo1_size h) hN, Nat.lt_of_le_of_lt (lo2_size h) hD⟩
theorem Sm.plus {n : Nat} {x y : Q2} (hx : Sm n x) (hy : Sm n y) : Sm (n + n + 1) (qPlus x y) :=
  sm_lo (hx.den hy) (add_up (n + n) (mul_up n n hx.2.1 hy.2.2 (Nat.le_refl _)) (mul_up n n hy.2.1 hx.2.2 (Nat.le_refl _)) (Nat.le_refl _)) (mul_up n n hx.2.2 hy.2.2 (Nat.le_succ _))
theorem Sm.minus {n : Nat} {x y : Q2} (hx : Sm n x) (hy : Sm n y) : Sm (n + n + 1) (qMinus x y) :=
  sm_lo (hx.den hy) (sub_up (n + n) (mul_up n n hx.2.1 hy.2.2 (Nat.le_refl _)) (mul_up n n hy.2.1 hx.2.2 (Nat.le_refl _)) (Nat.le_refl _)) (mul_up n n hx.2.2 hy.2.2 (Nat.le_succ _))
theorem Sm.times {n m : Nat} {x y : Q2} (hx : Sm n x) (hy : Sm m y) : Sm (n + m) (qTimes x y) :=
  sm_lo (hx.den hy) (mul_up n m hx.2.1 hy.2.1 (Nat.le_refl _)) (mul_up n m hx.2.2 hy.2.2 (Nat.le_refl _))
theorem qPlus_comm (x y : Q2) : qPlus x y = qPlus y x := by
  have e1 : nPlus x.1 x.2 y.1 y.2 = nPlus y.1 y.2 x.1 x.2 := by unfold nPlus; rw [Int.add_comm]
  have e2 : dBoth x.1 x.2 y.1 y.2 = dBoth y.1 y.2 x.1 x.2 := by unfold dBoth; rw [Int.mul_comm]
  unfold qPlus
  rw [e1, e2]
theorem qTimes_comm (x y : Q2) : qTimes x y = qTimes y x := by
  have e1 : nTimes x.1 x.2 y.1 y.2 = nTimes y.1 y.2 x.1 x.2 := by unfold nTimes; rw [Int.mul_comm]
  have e2 : dBoth x.1 x.2 y.1 y.2 = dBoth y.1 y.2 x.1 x.2 := by unfold dBoth; rw [Int.mul_comm]
  unfold qTimes
  rw [e1, e2]
theorem qMinus_neg (x y : Q2) : qMinus x y = qPlus x (0 - y.1, y.2) := by
  have e1 : nMinus x.1 x.2 y.1 y.2 = nPlus x.1 x.2 (0 - y.1) y.2 := by
    unfold nMinus nPlus
    rw [Int.sub_mul, Int.zero_mul, Int.zero_sub, Int.sub_eq_add_neg]
  have e2 : dBoth x.1 x.2 y.1 y.2 = dBoth x.1 x.2 (0 - y.1) y.2 := rfl
  unfold qMinus qPlus
  rw [e1, e2]
/-- two rationals in, a new one out, by pairs -/
@[irreducible] def spQ (F : Q2 → Q2 → Q2) : Sp := fun vs H Q _ => ∃ (p q : Addr) (x y : Q2), vs = [.ref p, .ref q] ∧ RatAt H p x ∧ RatAt H q y ∧ Sm 4000 x ∧ Sm 4000 y ∧
  ∀ (r : Addr) (H' : Hp), Same H H' → H r = none → RatAt H' r (F x y) → Q (.ref r) H'
theorem b_q {F : Q2 → Q2 → Q2} {H : Hp} {Q : VK} {E : XK} {p q : Addr} {x y : Q2} (hp : RatAt H p x) (hq : RatAt H q y) (hx : Sm 4000 x) (hy : Sm 4000 y) (k : ∀ (r : Addr) (H' : Hp), Same H H' → H r = none → RatAt H' r (F x y) → Q (.ref r) H') :
    spQ F [.ref p, .ref q] H Q E := by
  unfold spQ
  exact ⟨p, q, x, y, rfl, hp, hq, hx, hy, k⟩
theorem q_bin {N : Int → Int → Int → Int → Int} {F : Q2 → Q2 → Q2} (hF : ∀ x y : Q2, F x y = (lo1 (N x.1 x.2 y.1 y.2) (dBoth x.1 x.2 y.1 y.2), lo2 (N x.1 x.2 y.1 y.2) (dBoth x.1 x.2 y.1 y.2)))
    (vs : List V) (H : Hp) (Q : VK) (E : XK) (h : spQ F vs H Q E) : spBin N dBoth vs H Q E := by
  unfold spQ at h
  obtain ⟨p, q, x, y, rfl, hp, hq, hx, hy, k⟩ := h
  exact ⟨p, q, x.1, x.2, y.1, y.2, rfl, hp, hq, hx.den hy, hx.2.1, hx.2.2, hy.2.1, hy.2.2, fun r H' e n h => k r H' e n (by unfold RatAt; rw [hF]; exact h)⟩
/-- two elements in, a new element out -/
def spElt2 (m : Nat) (F : Int → Q2 → Q2 → Q2 → Q2 → Q2 × Q2) : Sp := fun vs H Q _ => ∃ (f : Int) (a b : Addr) (x y z w : Q2), vs = [.int f, .ref a, .ref b] ∧ EltAt H a x y ∧ EltAt H b z w ∧ Sm m x ∧ Sm m y ∧ Sm m z ∧ Sm m w ∧ f.natAbs < 2 ^ 100 ∧
  ∀ (r : Addr) (H' : Hp), Same H H' → EltAt H' r (F f x y z w).1 (F f x y z w).2 → Q (.ref r) H'
def fMul (f : Int) (x y z w : Q2) : Q2 × Q2 := (qPlus (qTimes x z) (qTimes (f, 1) (qTimes y w)), qPlus (qTimes x w) (qTimes y z))
theorem sm_int {f : Int} {n : Nat} (h : f.natAbs < 2 ^ n) (hn : n ≠ 0 := by decide) : Sm n (f, 1) := ⟨Int.le_refl 1, h, Nat.one_lt_two_pow hn⟩
def spRoot : Sp := fun vs H Q _ => ∃ n : Int, vs = [.int n] ∧ 0 ≤ n ∧ n.natAbs < 2 ^ 7900 ∧ ∀ r : Int, 0 ≤ r → r * r ≤ n → n < (r + 1) * (r + 1) → Q (.int r) H
def spSq : Sp := fun vs H Q _ => ∃ n : Int, vs = [.int n] ∧ 0 ≤ n ∧ n.natAbs < 2 ^ 7900 ∧ ∀ b : Bool, (b = true ↔ isSq n) → Q (.bl b) H
def spField : Sp := fun vs H Q _ => ∃ s : Addr, vs = [.ref s] ∧ Strm H s ∧ ∀ (f : Int) (H' : Hp), (f = 0 ∨ (0 < f ∧ ¬ isSq f)) → f.natAbs < 2 ^ 60 → Strm H' s → Keep s H H' → Q (.int f) H'
/-- a drawn element -/
def spElem : Sp := fun vs H Q _ => ∃ (s : Addr) (f t m : Int), vs = [.ref s, .int f, .int t, .int m] ∧ Strm H s ∧ 0 < t ∧ 0 < m ∧ t.natAbs < 2 ^ 100 ∧ m.natAbs < 2 ^ 100 ∧
  ∀ (e px py : Addr) (H' : Hp) (x y : Q2), Sm 100 x → Sm 100 y → Nat.gcd x.1.natAbs x.2.natAbs = 1 → Nat.gcd y.1.natAbs y.2.natAbs = 1 → (f = 0 → y = (0, 1)) → x.1.natAbs ≤ t.natAbs → y.1.natAbs ≤ t.natAbs → x.2 ≤ m → y.2 ≤ m →
    Strm H' s → Keep s H H' → e ≠ s → px ≠ s → py ≠ s → H' e = some (.tup [.ref px, .ref py]) → RatAt H' px x → RatAt H' py y → Q (.ref e) H'
theorem Strm.ne {H : Hp} {s b : Addr} (h : Strm H s) (n : H b = none) : b ≠ s := by
  obtain ⟨_, _, _, _, h1, _⟩ := h
  exact (ne_of_none h1 n).symm
section
variable {P : Program} {w : World} {K : PySem.W.Frag} {mg : Str → Option Value} {base : Heap}
end
section
variable {P : Program} {w : World} {K : PySem.W.Frag} {mg : Str → Option Value} {base : Heap}
theorem ok_l_root (T : Txt K mg) : FnOk P w K mg base CX0 1 T.f_l_root T.fd_l_root ["n"] spRoot := by
  refine T.D_l_root.F.ok sc_l_root (fun vs H Q E h => ?_) (fun cdv A outer s H vs Q E hr h => ?_)
  · obtain ⟨n, rfl, _⟩ := h
    rfl
  · obtain ⟨n, rfl, h0, hb, k⟩ := h
    have pw : ∀ i : Nat, i ≤ 4000 → ((2 ^ i : Nat) : Int).natAbs < 2 ^ 4001 := fun i hi => by
      rw [Int.natAbs_natCast]
      exact Nat.pow_lt_pow_right (by decide) (by omega)
    have nlt : n < ((2 ^ 4000 : Nat) : Int) * ((2 ^ 4000 : Nat) : Int) := by
      rw [← Int.natCast_mul, ← Nat.pow_add]
      have : 2 ^ 7900 ≤ 2 ^ (4000 + 4000) := Nat.pow_le_pow_right (by decide) (by decide)
      omega
    refine ⟨_, (pss_cons (ps_set (i := 1) sc_l_root.nd rfl (Or.inl rfl) pe_int)
    (pss_cons (ps_set (i := 2) sc_l_root.nd rfl (Or.inl rfl) pe_int)
    (C8.pss_cut (ps_for PassesOwn.never rfl (pi_range1 rfl T.range (pa_cons pe_int pa_nil)) (pg_name (i := 3) sc_l_root.nd rfl (Or.inl rfl)) (pss_cons (ps_if (pt_cmpR op_gt (pe_op op_mulW (pv 2) (pv 2)) (pv 0) (nomark _)) (pss_one ps_break) pss_nil)
    (pss_one (ps_set (i := 2) sc_l_root.nd rfl (Or.inl rfl) (pe_op op_mul (pv 2) pe_int)))))
    (C8.pss_cut (ps_for PassesOwn.never rfl (pi_range1 rfl T.range (pa_cons pe_int pa_nil)) (pg_name (i := 3) sc_l_root.nd rfl (Or.inl rfl)) (pss_cons (ps_if (pt_cmpR op_lt (pe_op op_sub (pv 2) (pv 1)) pe_int (nomark _)) (pss_one ps_break) pss_nil)
    (pss_cons (ps_set (i := 4) sc_l_root.nd rfl (Or.inl rfl) (pe_op op_fdiv (pe_op op_add (pv 1) (pv 2)) pe_int))
    (pss_one (ps_if (pt_cmpR op_gt (pe_op op_mulW (pv 4) (pv 4)) (pv 0) (nomark _)) (pss_one (ps_set (i := 2) sc_l_root.nd rfl (Or.inl rfl) (pv 4))) (pss_one (ps_set (i := 1) sc_l_root.nd rfl (Or.inl rfl) (pv 4))))))))
    (pss_one (ps_ret (pv 1))))))), ?_⟩
    refine ⟨fun σ H' => H' = H ∧ ∃ (i : Nat) (v : Option V), σ = [some (.int n), some (.int 0), some (.int ((2 ^ i : Nat) : Int)), v, none] ∧ i ≤ 4000 ∧ n < ((2 ^ i : Nat) : Int) * ((2 ^ i : Nat) : Int), ?_, ?_⟩
    · refine ⟨4000, rfl, by decide, by decide, for_range (lo := 0) (n := 4000) (fun i σ H' => H' = H ∧ i ≤ 4000 ∧ ∃ v : Option V, σ = [some (.int n), some (.int 0), some (.int ((2 ^ i : Nat) : Int)), v, none]) ⟨rfl, by omega, none, rfl⟩ ?_ ?_⟩
      · rintro i σ H' hi ⟨rfl, _, v, rfl⟩
        refine ⟨_, rfl, _, rfl, _, _, rfl, rfl, cmulw (pw i (by omega)) (pw i (by omega)) (by decide), _, rfl, _, _, rfl, rfl, _, rfl, iteD (fun hgt => ?_) (fun hgt => ?_)⟩
        · exact ⟨rfl, i, _, rfl, by omega, hgt⟩
        · refine ⟨_, rfl, _, _, rfl, rfl, .inr ⟨by decide, by decide⟩, rfl, by omega, some (.int (0 + (i : Int))), ?_⟩
          have e : ((2 ^ i : Nat) : Int) * 2 = ((2 ^ (i + 1) : Nat) : Int) := by
            rw [Nat.pow_succ, Int.natCast_mul]
            rfl
          rw [← e]
          rfl
      · rintro σ H' ⟨rfl, _, v, rfl⟩
        exact ⟨rfl, 4000, v, rfl, by omega, nlt⟩
    rintro σ H' ⟨rfl, i0, v0, rfl, hi0, hn0⟩
    refine ⟨fun σ H'' => H'' = H' ∧ ∃ (lo hi : Int) (v v4 : Option V), σ = [some (.int n), some (.int lo), some (.int hi), v, v4] ∧ 0 ≤ lo ∧ lo * lo ≤ n ∧ n < (lo + 1) * (lo + 1), ?_, ?_⟩
    · refine ⟨4000, rfl, by decide, by decide, for_range (lo := 0) (n := 4000) (fun i σ H'' => H'' = H' ∧ ∃ (lo hi : Int) (v v4 : Option V), σ = [some (.int n), some (.int lo), some (.int hi), v, v4] ∧ 0 ≤ lo ∧ lo < hi ∧ lo * lo ≤ n ∧ n < hi * hi ∧
        hi - lo ≤ ((2 ^ (4000 - i) : Nat) : Int) ∧ hi.natAbs < 2 ^ 4001) ⟨rfl, 0, _, v0, none, rfl, Int.le_refl _, ?_, h0, hn0, ?_, pw i0 hi0⟩ ?_ ?_⟩
      · have := Nat.two_pow_pos i0
        omega
      · have : 2 ^ i0 ≤ 2 ^ (4000 - 0) := Nat.pow_le_pow_right (by decide) (by omega)
        omega
      · rintro i σ H'' hi ⟨rfl, lo, hg, v, v4, rfl, l0, lh, l1, l2, l3, l4⟩
        refine ⟨_, rfl, _, rfl, _, _, rfl, rfl, _, _, rfl, rfl, _, rfl, iteD (fun hlt => ?_) (fun hlt => ?_)⟩
        · have e : hg = lo + 1 := by
            have : hg - lo < 2 := hlt
            omega
          subst e
          exact ⟨rfl, lo, _, _, _, rfl, l0, l1, l2⟩
        · have hge : 2 ≤ hg - lo := by
            have : ¬ hg - lo < 2 := hlt
            omega
          have e2 : 2 ^ (4000 - i) = 2 * 2 ^ (4000 - (i + 1)) := by
            rw [show 4000 - i = (4000 - (i + 1)) + 1 by omega, Nat.pow_succ, Nat.mul_comm]
          have mb : ((lo + hg) / 2).natAbs < 2 ^ 4001 := by omega
          refine ⟨_, rfl, _, rfl, _, _, rfl, rfl, _, _, rfl, rfl, ⟨by decide, by decide⟩, ?_⟩
          refine ⟨_, rfl, _, rfl, _, _, rfl, rfl, cmulw mb mb (by decide), _, rfl, _, _, rfl, rfl, _, rfl, iteD (fun hgt => ?_) (fun hgt => ?_)⟩
          · exact ⟨_, rfl, rfl, lo, _, _, _, rfl, l0, by omega, l1, hgt, by omega, mb⟩
          · exact ⟨_, rfl, rfl, _, hg, _, _, rfl, by omega, by omega, Int.not_lt.mp hgt, l2, by omega, l4⟩
      · rintro σ H'' ⟨rfl, lo, hg, v, v4, rfl, l0, lh, l1, l2, l3, l4⟩
        have e : hg = lo + 1 := by
          have : (2 : Nat) ^ (4000 - 4000) = 1 := rfl
          rw [this] at l3
          omega
        subst e
        exact ⟨rfl, lo, _, _, _, rfl, l0, l1, l2⟩
    rintro σ H'' ⟨rfl, lo, hg, v, v4, rfl, l0, l1, l2⟩
    exact ⟨_, rfl, k lo l0 l1 l2⟩
theorem ok_l_is_square (T : Txt K mg) : FnOk P w K mg base CX0 2 T.f_l_is_square T.fd_l_is_square ["n"] spSq := by
  refine T.D_l_is_square.F.ok sc_l_is_square (fun vs H Q E h => ?_) (fun cdv A outer s H vs Q E hr h => ?_)
  · obtain ⟨n, rfl, _⟩ := h
    rfl
  · obtain ⟨n, rfl, h0, hb, k⟩ := h
    refine ⟨_, (pss_one (ps_ret (pe_cmpR op_eq (pe_op op_mulW (pe_call (ok_l_root T) (hr.mono (by omega)) rfl T.D_l_root.g T.D_l_root.F.kp T.D_l_root.b .nil pass0 (pa_cons (pv 0) pa_nil)) (pe_call (ok_l_root T) (hr.mono (by omega)) rfl T.D_l_root.g T.D_l_root.F.kp T.D_l_root.b .nil pass0 (pa_cons (pv 0) pa_nil))) (pv 0) (nomark _)))), ?_⟩
    refine ⟨_, rfl, n, rfl, h0, hb, fun r r0 r1 r2 => ⟨_, rfl, n, rfl, h0, hb, fun q q0 q1 q2 => ?_⟩⟩
    have e := root_uniq q0 r0 q1 q2 r1 r2
    subst e
    have rb : q.natAbs < 2 ^ 3950 := root_size q0 q1 hb
    refine ⟨_, _, rfl, rfl, cmulw rb rb (by decide), _, rfl, rfl, ?_⟩
    refine k _ ⟨fun z => ?_, fun z => ?_⟩
    · have h1 := of_decide_eq_true z
      injection h1 with h2
      exact ⟨q, q0, h2⟩
    · obtain ⟨u, u0, hu⟩ := z
      have e : (u + 1) * (u + 1) = u * u + u + u + 1 := by
        rw [Int.add_mul, Int.mul_add]
        omega
      have : q = u := root_uniq q0 u0 q1 q2 (by omega) (by omega)
      subst this
      exact decide_eq_true (congrArg V.int hu)
theorem ok_l_field (T : Txt K mg) : FnOk P w K mg base CX0 3 T.f_l_field T.fd_l_field ["stream"] spField := by
  refine T.D_l_field.F.ok sc_l_field (fun vs H Q E h => ?_) (fun cdv A outer st H vs Q E hr h => ?_)
  · obtain ⟨s, rfl, _⟩ := h
    rfl
  · obtain ⟨s, rfl, hs, k⟩ := h
    refine ⟨_, (pss_cons (ps_set (i := 1) sc_l_field.nd rfl (Or.inl rfl) (pe_call (ok_l_next T) (hr.mono (by omega)) rfl T.D_l_next.g T.D_l_next.F.kp T.D_l_next.b .nil pass0 (pa_cons (pv 0) (pa_cons pe_int pa_nil))))
    (pss_cons (ps_if (pt_cmpR op_eq (pv 1) pe_int (nomark _)) (pss_one (ps_ret pe_int)) pss_nil)
    (pss_cons (ps_set (i := 2) sc_l_field.nd rfl (Or.inl rfl) (pe_ix (r := rIxL K) ix_list (pe_lst (pa_cons pe_int (pa_cons pe_int (pa_cons pe_int (pa_cons pe_int (pa_cons pe_int (pa_cons pe_int (pa_cons (pe_op op_add pe_int (pe_call (ok_l_next T) (hr.mono (by omega)) rfl T.D_l_next.g T.D_l_next.F.kp T.D_l_next.b .nil pass0 (pa_cons (pv 0) (pa_cons pe_int pa_nil)))) (pa_cons (pe_op op_add pe_int (pe_call (ok_l_next T) (hr.mono (by omega)) rfl T.D_l_next.g T.D_l_next.F.kp T.D_l_next.b .nil pass0 (pa_cons (pv 0) (pa_cons pe_int pa_nil)))) pa_nil))))))))) (pe_call (ok_l_next T) (hr.mono (by omega)) rfl T.D_l_next.g T.D_l_next.F.kp T.D_l_next.b .nil pass0 (pa_cons (pv 0) (pa_cons pe_int pa_nil))) (fun _ _ => rfl)))
    (C8.pss_cut (ps_if (pt_cmpR op_eq (pv 1) pe_int (nomark _)) (pss_one (ps_set (i := 2) sc_l_field.nd rfl (Or.inl rfl) (pe_op op_add pe_int (pe_call (ok_l_next T) (hr.mono (by omega)) rfl T.D_l_next.g T.D_l_next.F.kp T.D_l_next.b .nil pass0 (pa_cons (pv 0) (pa_cons (pe_op op_pow pe_int pe_int) pa_nil)))))) pss_nil)
    (C8.pss_cut (ps_if (pt_val (pe_call (ok_l_is_square T) (hr.mono (by omega)) rfl T.D_l_is_square.g T.D_l_is_square.F.kp T.D_l_is_square.b .nil pass0 (pa_cons (pv 2) pa_nil))) (pss_one (ps_set (i := 2) sc_l_field.nd rfl (Or.inl rfl) (pe_op op_mul (pv 2) pe_int))) pss_nil)
    (pss_one (ps_ret (pv 2)))))))), ?_⟩
    refine ⟨_, rfl, s, 6, rfl, hs, by decide, up 3 (by decide), fun d0 H1 a0 b0 hs1 k1 => ?_⟩
    refine ⟨_, rfl, rfl, _, rfl, ite2 (fun _ => ?_) (fun _ => ?_)⟩
    · exact k 0 H1 (.inl rfl) (by decide) hs1 k1
    · refine ⟨_, rfl, s, 200, rfl, hs1, by decide, up 8 (by decide), fun d1 H2 a1 b1 hs2 k2 => ⟨_, _, rfl, rfl, ?_⟩⟩
      refine ⟨_, rfl, s, 200, rfl, hs2, by decide, up 8 (by decide), fun d2 H3 a2 b2 hs3 k3 => ⟨_, _, rfl, rfl, ?_⟩⟩
      refine ⟨(by show 8 ≤ sizeLine; decide), fun l ql => ?_⟩
      have e3 := same_new (o := .lst [.int 2, .int 3, .int 5, .int 8, .int 12, .int 18, .int (1 + d1), .int (1 + d2)]) ql
      refine ⟨_, rfl, s, 8, rfl, hs3.same e3, by decide, up 4 (by decide), fun d3 H4 a3 b3 hs4 k4 => ?_⟩
      have kk : Keep s H H4 := ((k1.trans k2).trans (k3.trans (Same.keep e3))).trans k4
      obtain ⟨f, hat, f0, f1⟩ : ∃ f : Int, atI [V.int 2, .int 3, .int 5, .int 8, .int 12, .int 18, .int (1 + d1), .int (1 + d2)] d3 = some (V.int f) ∧ 0 < f ∧ f ≤ 200 := by
        obtain rfl | rfl | rfl | rfl | rfl | rfl | rfl | rfl : d3 = 0 ∨ d3 = 1 ∨ d3 = 2 ∨ d3 = 3 ∨ d3 = 4 ∨ d3 = 5 ∨ d3 = 6 ∨ d3 = 7 := by omega
        · exact ⟨_, rfl, by decide, by decide⟩
        · exact ⟨_, rfl, by decide, by decide⟩
        · exact ⟨_, rfl, by decide, by decide⟩
        · exact ⟨_, rfl, by decide, by decide⟩
        · exact ⟨_, rfl, by decide, by decide⟩
        · exact ⟨_, rfl, by decide, by decide⟩
        · exact ⟨_, rfl, by omega, by omega⟩
        · exact ⟨_, rfl, by omega, by omega⟩
      refine ⟨l, _, _, _, rfl, rfl, SqL.of (k4 l _ upd_same (hs3.ne ql)), hat, ?_⟩
      refine ⟨fun σ H' => ∃ f : Int, σ = [some (.ref s), some (.int d0), some (.int f)] ∧ 0 < f ∧ f.natAbs < 2 ^ 50 ∧ Strm H' s ∧ Keep s H H', ?_, ?_⟩
      · refine ⟨_, rfl, rfl, _, rfl, ite2 (fun _ => ?_) (fun _ => ?_)⟩
        · refine ⟨_, rfl, _, _, rfl, rfl, ⟨by decide, by decide, by decide⟩, s, 10 ^ 12, rfl, hs4, by decide, up 50 (by decide), fun d4 H5 a4 b4 hs5 k5 => ⟨_, _, rfl, rfl, ?_⟩⟩
          exact ⟨_, rfl, by omega, by omega, hs5, kk.trans k5⟩
        · exact ⟨f, rfl, f0, by omega, hs4, kk⟩
      rintro σ H5 ⟨f, rfl, f0, fb, hs5, k5⟩
      refine ⟨fun σ H' => ∃ f : Int, σ = [some (.ref s), some (.int d0), some (.int f)] ∧ 0 < f ∧ ¬ isSq f ∧ f.natAbs < 2 ^ 60 ∧ Strm H' s ∧ Keep s H H', ?_, ?_⟩
      · refine ⟨_, rfl, f, rfl, by omega, up 50 fb, fun b hbq => ⟨b, rfl, ?_⟩⟩
        cases b with
        | true =>
          refine iteT ⟨_, rfl, _, _, rfl, rfl, .inr ⟨by decide, by decide⟩, ?_⟩
          exact ⟨_, rfl, by omega, two_not_sq f0 (hbq.mp rfl), by omega, hs5, k5⟩
        | false => exact iteF ⟨f, rfl, f0, fun z => Bool.noConfusion (hbq.mpr z), by omega, hs5, k5⟩
      rintro σ H6 ⟨f, rfl, f0, fq, fb, hs6, k6⟩
      exact ⟨_, rfl, k f H6 (.inr ⟨f0, fq⟩) fb hs6 k6⟩
theorem ok_l_element (T : Txt K mg) : FnOk P w K mg base CX0 4 T.f_l_element T.fd_l_element ["stream", "field", "top", "most"] spElem := by
  refine T.D_l_element.F.ok sc_l_element (fun vs H Q E h => ?_) (fun cdv A outer st H vs Q E hr h => ?_)
  · obtain ⟨s, f, t, m, rfl, _⟩ := h
    rfl
  · obtain ⟨s, f, t, m, rfl, hs, ht, hm, bt, bm, k⟩ := h
    refine ⟨_, (pss_cons (ps_set (i := 4) sc_l_element.nd rfl (Or.inl rfl) (pe_call (ok_l_ratio T) (hr.mono (by omega)) rfl T.D_l_ratio.g T.D_l_ratio.F.kp T.D_l_ratio.b .nil pass0 (pa_cons (pv 0) (pa_cons (pv 2) (pa_cons (pv 3) pa_nil)))))
    (pss_cons (ps_set (i := 5) sc_l_element.nd rfl (Or.inl rfl) (pe_call (ok_l_ratio T) (hr.mono (by omega)) rfl T.D_l_ratio.g T.D_l_ratio.F.kp T.D_l_ratio.b .nil pass0 (pa_cons (pv 0) (pa_cons (pv 2) (pa_cons (pv 3) pa_nil)))))
    (C8.pss_cut (ps_if (PW.pt (pw_or (pt_cmpR op_eq (pv 1) pe_int (nomark _)) (pw_or1 (pt_cmpR op_eq (pe_call (ok_l_next T) (hr.mono (by omega)) rfl T.D_l_next.g T.D_l_next.F.kp T.D_l_next.b .nil pass0 (pa_cons (pv 0) (pa_cons pe_int pa_nil))) pe_int (nomark _))))) (pss_one (ps_set (i := 5) sc_l_element.nd rfl (Or.inl rfl) (pe_tup (pa_cons pe_int (pa_cons pe_int pa_nil))))) pss_nil)
    (C8.pss_cut (ps_if (pt_cmpR op_eq (pe_call (ok_l_next T) (hr.mono (by omega)) rfl T.D_l_next.g T.D_l_next.F.kp T.D_l_next.b .nil pass0 (pa_cons (pv 0) (pa_cons pe_int pa_nil))) pe_int (nomark _)) (pss_one (ps_set (i := 4) sc_l_element.nd rfl (Or.inl rfl) (pe_tup (pa_cons pe_int (pa_cons pe_int pa_nil))))) pss_nil)
    (pss_one (ps_ret (pe_tup (pa_cons (pv 4) (pa_cons (pv 5) pa_nil))))))))), ?_⟩
    refine ⟨_, rfl, _, rfl, _, rfl, s, t, m, rfl, hs, ht, hm, up 100 bt, up 100 bm, fun px H1 xn xd x1 x2 x3 x4 hs1 k1 _ nx hx => ?_⟩
    refine ⟨_, rfl, _, rfl, _, rfl, s, t, m, rfl, hs1, ht, hm, up 100 bt, up 100 bm, fun py H2 yn yd y1 y2 y3 y4 hs2 k2 _ ny hy => ?_⟩
    have hx2 := k2 _ _ hx nx
    refine ⟨fun σ H' => ∃ (py : Addr) (y : Q2), σ = [some (.ref s), some (.int f), some (.int t), some (.int m), some (.ref px), some (.ref py)] ∧ Sm 100 y ∧ Nat.gcd y.1.natAbs y.2.natAbs = 1 ∧ (f = 0 → y = (0, 1)) ∧ y.1.natAbs ≤ t.natAbs ∧ y.2 ≤ m ∧
      py ≠ s ∧ RatAt H' py y ∧ H' px = some (.tup [.int xn, .int xd]) ∧ Strm H' s ∧ Keep s H H', ?_, ?_⟩
    · have zero : ∀ (H' : Hp), Strm H' s → Keep s H H' → H' px = some (.tup [.int xn, .int xd]) → ∀ p, H' p = none → ∃ (py : Addr) (y : Q2), [some (V.ref s), some (.int f), some (.int t), some (.int m), some (.ref px), some (.ref p)] = [some (V.ref s), some (.int f), some (.int t), some (.int m), some (.ref px), some (.ref py)] ∧ Sm 100 y ∧ Nat.gcd y.1.natAbs y.2.natAbs = 1 ∧ (f = 0 → y = (0, 1)) ∧ y.1.natAbs ≤ t.natAbs ∧ y.2 ≤ m ∧
          py ≠ s ∧ RatAt (upd H' p (.tup [.int 0, .int 1])) py y ∧ (upd H' p (.tup [.int 0, .int 1])) px = some (.tup [.int xn, .int xd]) ∧ Strm (upd H' p (.tup [.int 0, .int 1])) s ∧ Keep s H (upd H' p (.tup [.int 0, .int 1])) := fun H' z1 z2 z3 p hp =>
        ⟨p, (0, 1), rfl, sm_int (by decide), rfl, fun _ => rfl, Nat.zero_le _, by show (1 : Int) ≤ m; omega, z1.ne hp, upd_same, same_new hp _ _ z3, z1.same (same_new hp), z2.trans (Same.keep (same_new hp))⟩
      refine ⟨_, rfl, rfl, _, rfl, ?_⟩
      by_cases hf : f = 0
      · refine iteD1 (by rw [hf]) (iteT ⟨(by show 2 ≤ sizeLine; decide), fun p hp => ?_⟩)
        exact zero H2 hs2 (k1.trans k2) hx2 p hp
      · refine iteD0 (fun q => hf (by injection q)) ?_
        refine ⟨_, rfl, s, 6, rfl, hs2, by decide, up 3 (by decide), fun d H3 _ _ hs3 k3 => ⟨rfl, _, rfl, ite2 (fun _ => ?_) (fun _ => ?_)⟩⟩
        · refine ⟨(by show 2 ≤ sizeLine; decide), fun p hp => ?_⟩
          exact zero H3 hs3 ((k1.trans k2).trans k3) (k3 _ _ hx2 nx) p hp
        · exact ⟨py, (yn, yd), rfl, ⟨y1, by show yn.natAbs < 2 ^ 100; omega, by show yd.natAbs < 2 ^ 100; omega⟩, y2, fun z => absurd z hf, y3, y4, ny, k3 _ _ hy ny, k3 _ _ hx2 nx, hs3, (k1.trans k2).trans k3⟩
    rintro σ H3 ⟨py, y, rfl, sy, gy, zy, ty, my, ny, hy, hx3, hs3, k3⟩
    refine ⟨fun σ H' => ∃ (px : Addr) (x : Q2), σ = [some (.ref s), some (.int f), some (.int t), some (.int m), some (.ref px), some (.ref py)] ∧ Sm 100 x ∧ Nat.gcd x.1.natAbs x.2.natAbs = 1 ∧ x.1.natAbs ≤ t.natAbs ∧ x.2 ≤ m ∧ px ≠ s ∧ RatAt H' px x ∧ RatAt H' py y ∧ Strm H' s ∧ Keep s H H', ?_, ?_⟩
    · refine ⟨_, rfl, s, 8, rfl, hs3, by decide, up 4 (by decide), fun d H4 _ _ hs4 k4 => ⟨rfl, _, rfl, ite2 (fun _ => ?_) (fun _ => ?_)⟩⟩
      · refine ⟨(by show 2 ≤ sizeLine; decide), fun p hp => ?_⟩
        exact ⟨p, (0, 1), rfl, sm_int (by decide), rfl, Nat.zero_le _, by show (1 : Int) ≤ m; omega, hs4.ne hp, upd_same, same_new hp _ _ (k4 _ _ hy ny), hs4.same (same_new hp), (k3.trans k4).trans (Same.keep (same_new hp))⟩
      · exact ⟨px, (xn, xd), rfl, ⟨x1, by show xn.natAbs < 2 ^ 100; omega, by show xd.natAbs < 2 ^ 100; omega⟩, x2, x3, x4, nx, k4 _ _ hx3 nx, k4 _ _ hy ny, hs4, k3.trans k4⟩
    rintro σ H4 ⟨px, x, rfl, sx, gx, tx, mx, nx, hx, hy, hs4, k4⟩
    refine ⟨_, rfl, _, rfl, (by show 2 ≤ sizeLine; decide), fun e he => ?_⟩
    have e4 := same_new (o := .tup [.ref px, .ref py]) he
    exact k e px py _ x y sx sy gx gy zy tx ty mx my (hs4.same e4) (k4.trans (Same.keep e4)) (hs4.ne he) nx ny upd_same (e4 _ _ hx) (e4 _ _ hy)
end
theorem RatV.no {K : PySem.W.Frag} {H : Hp} {a : Addr} {n d : Int} (h : H a = some (.tup [.int n, .int d])) (e : ¬ (1 ≤ d ∧ Nat.gcd n.natAbs d.natAbs = 1)) : RatV K H (.ref a) false := by
  have r := RatV.pair (K := K) h
  have z : (decide (1 ≤ d) && decide (Nat.gcd n.natAbs d.natAbs = 1)) = false := by
    rw [Bool.and_eq_false_iff]
    by_cases h1 : 1 ≤ d
    · exact .inr (decide_eq_false fun h2 => e ⟨h1, h2⟩)
    · exact .inl (decide_eq_false h1)
  rw [z] at r
  exact r
theorem RatV.yes {K : PySem.W.Frag} {H : Hp} {a : Addr} {n d : Int} (h : H a = some (.tup [.int n, .int d])) (h1 : 1 ≤ d) (h2 : Nat.gcd n.natAbs d.natAbs = 1) : RatV K H (.ref a) true := by
  have r := RatV.pair (K := K) h
  rw [decide_eq_true h1, decide_eq_true h2] at r
  exact r
theorem isSq_nonneg {n : Int} (h : isSq n) : 0 ≤ n := by
  obtain ⟨r, r0, rfl⟩ := h
  exact Int.mul_nonneg r0 r0
def spSqrt : Sp := fun vs H Q _ => ∃ n : Int, vs = [.int n] ∧ n.natAbs < 2 ^ 12000 ∧ (∀ r : Int, 0 ≤ r → r * r = n → Q (.int r) H) ∧ (¬ isSq n → Q .non H)
def spIsField (K : PySem.W.Frag) : Sp := fun vs H Q _ => ∃ x : V, vs = [x] ∧ ((∃ n : Int, x = .int n ∧ n.natAbs < 2 ^ 12000 ∧ ∀ b : Bool, (b = true ↔ (n = 0 ∨ (0 < n ∧ ¬ isSq n))) → Q (.bl b) H) ∨
  (∃ t : String, TyX K H x (.type t) ∧ t ∈ tys ∧ t ≠ "int" ∧ Q (.bl false) H))
/-- what is no element of any field -/
inductive ElNo (K : PySem.W.Frag) (H : Hp) : V → Prop where
  | other {x : V} {t : String} (ty : TyX K H x (.type t)) (m : t ∈ tys) (n : t ≠ "tuple") : ElNo K H x
  | size {a : Addr} {xs : List V} (h : H a = some (.tup xs)) (n : (xs.length : Int) ≠ 2) : ElNo K H (.ref a)
  | left {a : Addr} {u v : V} (h : H a = some (.tup [u, v])) (r : RatV K H u false) : ElNo K H (.ref a)
  | right {a : Addr} {u v : V} (h : H a = some (.tup [u, v])) (r : RatV K H u true) (r2 : RatV K H v false) : ElNo K H (.ref a)
def spIsEl (K : PySem.W.Frag) : Sp := fun vs H Q _ => ∃ (f : Int) (x : V), vs = [.int f, x] ∧ ((ElNo K H x ∧ Q (.bl false) H) ∨
  (∃ (a p : Addr) (u : V) (m e : Int), x = .ref a ∧ H a = some (.tup [u, .ref p]) ∧ RatV K H u true ∧ RatV K H (.ref p) true ∧ H p = some (.tup [.int m, .int e]) ∧ Q (.bl (decide (f ≠ 0 ∨ (m = 0 ∧ e = 1)))) H))
section
variable {P : Program} {w : World} {K : PySem.W.Frag} {mg : Str → Option Value} {base : Heap}
theorem ok_square_root (T : Txt K mg) : FnOk P w K mg base CX0 1 T.f_square_root T.fd_square_root ["n"] spSqrt := by
  refine T.D_square_root.F.ok sc_square_root (fun vs H Q E h => ?_) (fun cdv A outer s H vs Q E hr h => ?_)
  · obtain ⟨n, rfl, _⟩ := h
    rfl
  · obtain ⟨n, rfl, hb, kY, kN⟩ := h
    refine ⟨_, (pss_cons (ps_if (pt_cmpR op_lt (pv 0) pe_int (nomark _)) (pss_one (ps_ret pe_non)) pss_nil)
    (pss_cons (ps_set (i := 1) sc_square_root.nd rfl (Or.inl rfl) (pe_callBfun cr_isqrt (by rfl) T.isqrt (pa_cons (pv 0) pa_nil)))
    (pss_one (ps_ret (pe_ifExp (pt_cmpR op_eq (pe_op op_mulW (pv 1) (pv 1)) (pv 0) (nomark _)) (pv 1) pe_non))))), ?_⟩
    refine ⟨_, rfl, _, _, rfl, rfl, _, rfl, iteD (fun h0 => ?_) (fun h0 => ?_)⟩
    · exact kN fun z => by have := isSq_nonneg z; omega
    · refine ⟨_, rfl, n, rfl, by omega, up 12000 hb, fun r r0 r1 r2 => ?_⟩
      have rb : r.natAbs < 2 ^ 6000 := root_size r0 r1 hb
      refine ⟨_, rfl, _, rfl, _, _, rfl, rfl, cmulw rb rb (by decide), _, rfl, rfl, _, rfl, ite2 (fun hz => ?_) (fun hz => ?_)⟩
      · have h1 := of_decide_eq_true hz
        injection h1 with h2
        exact ⟨_, rfl, kY r r0 h2⟩
      · refine kN fun z => ?_
        obtain ⟨u, u0, hu⟩ := z
        have e : (u + 1) * (u + 1) = u * u + u + u + 1 := by
          rw [Int.add_mul, Int.mul_add]
          omega
        have : r = u := root_uniq r0 u0 r1 r2 (by omega) (by omega)
        subst this
        exact hz (decide_eq_true (congrArg V.int hu))
theorem ok_is_field (T : Txt K mg) : FnOk P w K mg base CX0 2 T.f_is_field T.fd_is_field ["x"] (spIsField K) := by
  refine T.D_is_field.F.ok sc_is_field (fun vs H Q E h => ?_) (fun cdv A outer s H vs Q E hr h => ?_)
  · obtain ⟨x, rfl, _⟩ := h
    rfl
  · obtain ⟨x, rfl, h⟩ := h
    refine ⟨_, (pss_cons (ps_if (pt_not (pt_val (pe_call (ok_is_whole T) (hr.mono (by omega)) rfl T.D_is_whole.g T.D_is_whole.F.kp T.D_is_whole.b .nil pass0 (pa_cons (pv 0) pa_nil)))) (pss_one (ps_ret pe_bl)) pss_nil)
    (pss_one (ps_ret (pe_or (pe_cmpR op_eq (pv 0) pe_int (nomark _)) (pe_one (pe_and (pe_cmpR op_gt (pv 0) pe_int (nomark _)) (pe_one (pe_cmpR op_isN (pe_call (ok_square_root T) (hr.mono (by omega)) rfl T.D_square_root.g T.D_square_root.F.kp T.D_square_root.b .nil pass0 (pa_cons (pv 0) pa_nil)) pe_non (nomark _))))))))), ?_⟩
    rcases h with ⟨n, rfl, hb, k⟩ | ⟨t, ty, mem, ne, k⟩
    · refine ⟨_, rfl, _, _, rfl, ty_int _, (by decide), _, rfl, iteNS rfl ?_⟩
      refine ⟨_, rfl, rfl, _, rfl, ite2 (fun hz => ?_) (fun hz => ?_)⟩
      · have h1 := of_decide_eq_true hz
        injection h1 with h2
        exact k true ⟨fun _ => .inl h2, fun _ => rfl⟩
      · have h2 : n ≠ 0 := fun z => hz (by rw [z]; exact decide_eq_true rfl)
        refine ⟨_, rfl, _, _, rfl, rfl, _, rfl, iteD (fun h0 => ?_) (fun h0 => ?_)⟩
        · refine ⟨_, rfl, n, rfl, hb, fun r r0 hr' => ?_, fun hs => ?_⟩
          · refine ⟨rfl, k _ ⟨fun z => ?_, fun z => ?_⟩⟩
            · have := of_decide_eq_true z
              cases this
            · rcases z with z | z
              · exact absurd z h2
              · exact absurd ⟨r, r0, hr'⟩ z.2
          · exact ⟨rfl, k _ ⟨fun _ => .inr ⟨h0, hs⟩, fun _ => decide_eq_true rfl⟩⟩
        · exact k _ ⟨fun z => Bool.noConfusion z, fun z => z.elim (fun q => absurd q h2) (fun q => absurd q.1 h0)⟩
    · refine ⟨_, rfl, _, _, rfl, ty, mem, _, rfl, iteN1 ne k⟩
theorem ok_is_element (T : Txt K mg) : FnOk P w K mg base CX0 3 T.f_is_element T.fd_is_element ["field", "x"] (spIsEl K) := by
  refine T.D_is_element.F.ok sc_is_element (fun vs H Q E h => ?_) (fun cdv A outer s H vs Q E hr h => ?_)
  · obtain ⟨f, x, rfl, _⟩ := h
    rfl
  · obtain ⟨f, x, rfl, h⟩ := h
    refine ⟨_, (pss_cons (ps_if (PW.pt (pw_or (pt_not (pt_val (pe_callB call_isi (by rfl) T.isinstance PyProof.Rows.boot_isinstance (pa_cons (pv 1) (pa_cons (pe_bltn (v := .ty "tuple") (by rfl) T.tuple PyProof.Rows.boot_tuple rfl) pa_nil))))) (pw_or1 (pt_cmpR op_ne (pe_callB call_len_seq (by rfl) T.len PySem.boot_len (pa_cons (pv 1) pa_nil)) pe_int (nomark _))))) (pss_one (ps_ret pe_bl)) pss_nil)
    (pss_cons (ps_if (PW.pt (pw_or (pt_not (pt_val (pe_call (ok_is_rational T) (hr.mono (by omega)) rfl T.D_is_rational.g T.D_is_rational.F.kp T.D_is_rational.b .nil pass0 (pa_cons (pe_ix (r := rIxT K) ix_tup (pv 1) pe_int (fun _ _ => rfl)) pa_nil)))) (pw_or1 (pt_not (pt_val (pe_call (ok_is_rational T) (hr.mono (by omega)) rfl T.D_is_rational.g T.D_is_rational.F.kp T.D_is_rational.b .nil pass0 (pa_cons (pe_ix (r := rIxT K) ix_tup (pv 1) pe_int (fun _ _ => rfl)) pa_nil))))))) (pss_one (ps_ret pe_bl)) pss_nil)
    (pss_one (ps_ret (pe_or (pe_cmpR op_ne (pv 0) pe_int (nomark _)) (pe_one (pe_cmpR (op_eqD hr.units) (pe_ix (r := rIxT K) ix_tup (pv 1) pe_int (fun _ _ => rfl)) (pe_glob (v := .ref T.c_ZERO) rfl T.g_ZERO rfl) (nomark _)))))))), ?_⟩
    rcases h with ⟨hno, k⟩ | ⟨a, p, u, m, e, rfl, ha, ru, rp, hp, k⟩
    · cases hno with
      | other ty m n =>
        rename_i t
        refine ⟨_, rfl, _, _, _, _, false, rfl, .ty "tuple", ty, kit_ty ?_, false, rfl, iteT (iteT k)⟩
        simp only [tys, List.mem_cons, List.not_mem_nil, or_false] at m
        rcases m with rfl | rfl | rfl | rfl | rfl | rfl
        all_goals first | exact absurd rfl n | decide +kernel
      | size h n =>
        refine ⟨_, rfl, _, _, _, _, true, rfl, .ty "tuple", ty_tup h, kit_ty (by decide +kernel), true, rfl, iteF ⟨_, rfl, _, _, rfl, .inr (SqT.of h), rfl, _, rfl, iteN1 (fun e => n ?_) k⟩⟩
        injection e
      | left h r =>
        refine ⟨_, rfl, _, _, _, _, true, rfl, .ty "tuple", ty_tup h, kit_ty (by decide +kernel), true, rfl, iteF ⟨_, rfl, _, _, rfl, .inr (SqT.of h), rfl, _, rfl, iteNS rfl ?_⟩⟩
        exact ⟨_, rfl, _, _, _, _, rfl, rfl, SqT.of h, rfl, _, _, rfl, r, _, rfl, iteT (iteT k)⟩
      | right h r r2 =>
        refine ⟨_, rfl, _, _, _, _, true, rfl, .ty "tuple", ty_tup h, kit_ty (by decide +kernel), true, rfl, iteF ⟨_, rfl, _, _, rfl, .inr (SqT.of h), rfl, _, rfl, iteNS rfl ?_⟩⟩
        exact ⟨_, rfl, _, _, _, _, rfl, rfl, SqT.of h, rfl, _, _, rfl, r, _, rfl, iteF ⟨_, rfl, _, _, _, _, rfl, rfl, SqT.of h, rfl, _, _, rfl, r2, _, rfl, iteT k⟩⟩
    · refine ⟨_, rfl, _, _, _, _, true, rfl, .ty "tuple", ty_tup ha, kit_ty (by decide +kernel), true, rfl, iteF ⟨_, rfl, _, _, rfl, .inr (SqT.of ha), rfl, _, rfl, iteNS rfl ?_⟩⟩
      refine ⟨_, rfl, _, _, _, _, rfl, rfl, SqT.of ha, rfl, _, _, rfl, ru, _, rfl, iteF ⟨_, rfl, _, _, _, _, rfl, rfl, SqT.of ha, rfl, _, _, rfl, rp, _, rfl, iteF ?_⟩⟩
      refine ⟨_, rfl, rfl, _, rfl, ?_⟩
      by_cases hf : f = 0
      · refine iteNS (congrArg V.int hf) ?_
        refine ⟨_, rfl, _, _, _, _, rfl, rfl, SqT.of ha, rfl, _, _, dp_pair (SqT.of hp), dp_pair T.k_ZERO.sq, rfl, rfl, ?_⟩
        rw [eqv_ints]
        have e1 : decide (m = 0 ∧ e = 1) = decide (f ≠ 0 ∨ (m = 0 ∧ e = 1)) := decide_eq_decide.mpr ⟨.inr, fun z => z.elim (fun q => absurd hf q) id⟩
        rw [e1]
        exact k
      · refine iteN1 (fun q => hf (by injection q)) ?_
        rw [decide_eq_true (.inl hf)] at k
        exact k
def spLIs : Sp := fun vs H Q _ => ∃ b : Bool, vs = [.bl b, .bl b] ∧ Q (.bl true) H
theorem ok_l_is (T : Txt K mg) : FnOk P w K mg base CX0 1 T.f_l_is T.fd_l_is ["actual", "due"] spLIs := by
  refine T.D_l_is.F.ok sc_l_is (fun vs H Q E h => ?_) (fun cdv A outer s H vs Q E hr h => ?_)
  · obtain ⟨b, rfl, _⟩ := h
    rfl
  · obtain ⟨b, rfl, k⟩ := h
    refine ⟨_, (pss_one (ps_ret (pe_and (pe_callB call_isi (by rfl) T.isinstance PyProof.Rows.boot_isinstance (pa_cons (pv 0) (pa_cons (pe_bltn (v := .ty "bool") (by rfl) T.bool PyProof.Rows.boot_bool rfl) pa_nil))) (pe_one (pe_cmpR op_eq (pv 0) (pv 1) (nomark _)))))), ?_⟩
    refine ⟨_, rfl, _, _, _, _, true, rfl, .ty "bool", ty_bl _, kit_ty (by decide +kernel), true, rfl, iteT ⟨_, rfl, _, rfl, rfl, ?_⟩⟩
    rw [decide_eq_true rfl]
    exact k
end
def spLaw (K : PySem.W.Frag) : Sp := fun vs H Q _ => ∃ (a : Addr) (ns : List Int), vs = [.ref a] ∧ SqL K H a (ns.map V.int) ∧ ns.length ≤ 63 ∧ ∀ H', Q (.bl true) H'
theorem gcd_one {n : Nat} : Nat.gcd 0 1 = 1 := rfl
section
variable {P : Program} {w : World} {K : PySem.W.Frag} {mg : Str → Option Value} {base : Heap}
theorem ok_law (T : Txt K mg) : FnOk P w K mg base CX0 5 T.f_law T.fd_law ["script"] (spLaw K) := by
  refine T.D_law.F.ok sc_law (fun vs H Q E h => ?_) (fun cdv A outer st H vs Q E hr h => ?_)
  · obtain ⟨a, ns, rfl, _⟩ := h
    rfl
  · obtain ⟨a, ns, rfl, hS, hlen, k⟩ := h
    refine ⟨_, (pss_cons (ps_set (i := 1) sc_law.nd rfl (Or.inl rfl) (pe_call (ok_l_stream T) (hr.mono (by omega)) rfl T.D_l_stream.g T.D_l_stream.F.kp T.D_l_stream.b .nil pass0 (pa_cons (pv 0) pa_nil)))
    (pss_cons (ps_set (i := 2) sc_law.nd rfl (Or.inl rfl) (pe_op op_sub (pe_call (ok_l_next T) (hr.mono (by omega)) rfl T.D_l_next.g T.D_l_next.F.kp T.D_l_next.b .nil pass0 (pa_cons (pv 1) (pa_cons pe_int pa_nil))) pe_int))
    (C8.pss_cut (ps_if (pt_cmpR op_eq (pe_call (ok_l_next T) (hr.mono (by omega)) rfl T.D_l_next.g T.D_l_next.F.kp T.D_l_next.b .nil pass0 (pa_cons (pv 1) (pa_cons pe_int pa_nil))) pe_int (nomark _)) (pss_cons (ps_set (i := 3) sc_law.nd rfl (Or.inl rfl) (pe_op op_add pe_int (pe_call (ok_l_next T) (hr.mono (by omega)) rfl T.D_l_next.g T.D_l_next.F.kp T.D_l_next.b .nil pass0 (pa_cons (pv 1) (pa_cons (pe_op op_pow pe_int pe_int) pa_nil)))))
    (pss_one (ps_set (i := 2) sc_law.nd rfl (Or.inl rfl) (pe_op op_sub (pe_op op_add (pe_op op_mulW (pv 3) (pv 3)) (pe_call (ok_l_next T) (hr.mono (by omega)) rfl T.D_l_next.g T.D_l_next.F.kp T.D_l_next.b .nil pass0 (pa_cons (pv 1) (pa_cons pe_int pa_nil)))) pe_int)))) pss_nil)
    (C8.pss_cut (ps_set (i := 4) sc_law.nd rfl (Or.inl rfl) (pe_or (pe_cmpR op_eq (pv 2) pe_int (nomark _)) (pe_one (pe_and (pe_cmpR op_gt (pv 2) pe_int (nomark _)) (pe_one (pe_not (pe_call (ok_l_is_square T) (hr.mono (by omega)) rfl T.D_l_is_square.g T.D_l_is_square.F.kp T.D_l_is_square.b .nil pass0 (pa_cons (pv 2) pa_nil))))))))
    (pss_cons (ps_if (pt_not (pt_val (pe_call (ok_l_is T) (hr.mono (by omega)) rfl T.D_l_is.g T.D_l_is.F.kp T.D_l_is.b .nil pass0 (pa_cons (pe_call (ok_is_field T) (hr.mono (by omega)) rfl T.D_is_field.g T.D_is_field.F.kp T.D_is_field.b .nil pass0 (pa_cons (pv 2) pa_nil)) (pa_cons (pv 4) pa_nil))))) (pss_one (ps_ret pe_bl)) pss_nil)
    (pss_cons (ps_set (i := 5) sc_law.nd rfl (Or.inl rfl) (pe_ix (r := rIxL K) ix_list (pe_lst (pa_cons pe_bl (pa_cons pe_bl (pa_cons pe_non (pa_cons pe_str (pa_cons (pe_tup (pa_cons pe_int (pa_cons pe_int pa_nil))) (pa_cons (pe_lst (pa_cons pe_int pa_nil)) pa_nil))))))) (pe_call (ok_l_next T) (hr.mono (by omega)) rfl T.D_l_next.g T.D_l_next.F.kp T.D_l_next.b .nil pass0 (pa_cons (pv 1) (pa_cons pe_int pa_nil))) (fun _ _ => rfl)))
    (pss_cons (ps_if (pt_not (pt_val (pe_call (ok_l_is T) (hr.mono (by omega)) rfl T.D_l_is.g T.D_l_is.F.kp T.D_l_is.b .nil pass0 (pa_cons (pe_call (ok_is_field T) (hr.mono (by omega)) rfl T.D_is_field.g T.D_is_field.F.kp T.D_is_field.b .nil pass0 (pa_cons (pv 5) pa_nil)) (pa_cons pe_bl pa_nil))))) (pss_one (ps_ret pe_bl)) pss_nil)
    (pss_cons (ps_set (i := 6) sc_law.nd rfl (Or.inl rfl) (pe_call (ok_l_field T) (hr.mono (by omega)) rfl T.D_l_field.g T.D_l_field.F.kp T.D_l_field.b .nil pass0 (pa_cons (pv 1) pa_nil)))
    (pss_cons (ps_asg (pe_call (ok_l_element T) (hr.mono (by omega)) rfl T.D_l_element.g T.D_l_element.F.kp T.D_l_element.b .nil pass0 (pa_cons (pv 1) (pa_cons (pv 6) (pa_cons pe_int (pa_cons pe_int pa_nil))))) (pg_tup (by rfl) (pgs_cons (pg_name (i := 7) sc_law.nd rfl (Or.inl rfl)) (pgs_cons (pg_name (i := 8) sc_law.nd rfl (Or.inl rfl)) pgs_nil))))
    (pss_cons (ps_if (PW.pt (pw_or (pt_not (pt_val (pe_call (ok_l_is T) (hr.mono (by omega)) rfl T.D_l_is.g T.D_l_is.F.kp T.D_l_is.b .nil pass0 (pa_cons (pe_call (ok_is_field T) (hr.mono (by omega)) rfl T.D_is_field.g T.D_is_field.F.kp T.D_is_field.b .nil pass0 (pa_cons (pv 6) pa_nil)) (pa_cons pe_bl pa_nil))))) (pw_or1 (pt_not (pt_val (pe_call (ok_l_is T) (hr.mono (by omega)) rfl T.D_l_is.g T.D_l_is.F.kp T.D_l_is.b .nil pass0 (pa_cons (pe_call (ok_is_element T) (hr.mono (by omega)) rfl T.D_is_element.g T.D_is_element.F.kp T.D_is_element.b .nil pass0 (pa_cons (pv 6) (pa_cons (pe_tup (pa_cons (pv 7) (pa_cons (pv 8) pa_nil))) pa_nil))) (pa_cons pe_bl pa_nil)))))))) (pss_one (ps_ret pe_bl)) pss_nil)
    (pss_cons (ps_set (i := 9) sc_law.nd rfl (Or.inl rfl) (pe_lst (pa_cons (pe_lst (pa_cons (pv 7) (pa_cons (pv 8) pa_nil))) (pa_cons (pe_tup (pa_cons (pv 7) (pa_cons (pv 8) (pa_cons (pv 8) pa_nil)))) (pa_cons (pe_tup (pa_cons (pv 7) pa_nil)) (pa_cons (pe_tup (pa_cons (pv 7) (pa_cons pe_int pa_nil))) (pa_cons (pe_tup (pa_cons pe_int (pa_cons (pv 8) pa_nil))) (pa_cons (pe_tup (pa_cons (pv 7) (pa_cons (pe_tup (pa_cons pe_int (pa_cons pe_int pa_nil))) pa_nil))) (pa_cons (pe_tup (pa_cons (pe_tup (pa_cons pe_int (pa_cons pe_int pa_nil))) (pa_cons (pv 8) pa_nil))) (pa_cons (pe_tup (pa_cons (pv 7) (pa_cons (pe_tup (pa_cons pe_int (pa_cons pe_int pa_nil))) pa_nil))) (pa_cons pe_non (pa_cons (pe_tup (pa_cons pe_bl (pa_cons (pv 8) pa_nil))) (pa_cons (pe_tup (pa_cons (pe_callTy call_list_of (by rfl) T.list PyProof.Rows.boot_list (pa_cons (pv 7) pa_nil)) (pa_cons (pv 8) pa_nil))) pa_nil)))))))))))))
    (pss_cons (ps_if (pt_not (pt_val (pe_call (ok_l_is T) (hr.mono (by omega)) rfl T.D_l_is.g T.D_l_is.F.kp T.D_l_is.b .nil pass0 (pa_cons (pe_call (ok_is_element T) (hr.mono (by omega)) rfl T.D_is_element.g T.D_is_element.F.kp T.D_is_element.b .nil pass0 (pa_cons (pv 6) (pa_cons (pe_ix (r := rIxL K) ix_list (pv 9) (pe_call (ok_l_next T) (hr.mono (by omega)) rfl T.D_l_next.g T.D_l_next.F.kp T.D_l_next.b .nil pass0 (pa_cons (pv 1) (pa_cons (pe_callB call_len_seq (by rfl) T.len PySem.boot_len (pa_cons (pv 9) pa_nil)) pa_nil))) (fun _ _ => rfl)) pa_nil))) (pa_cons pe_bl pa_nil))))) (pss_one (ps_ret pe_bl)) pss_nil)
    (pss_one (ps_ret (pe_call (ok_l_is T) (hr.mono (by omega)) rfl T.D_l_is.g T.D_l_is.F.kp T.D_l_is.b .nil pass0 (pa_cons (pe_call (ok_is_element T) (hr.mono (by omega)) rfl T.D_is_element.g T.D_is_element.F.kp T.D_is_element.b .nil pass0 (pa_cons pe_int (pa_cons (pe_tup (pa_cons (pv 7) (pa_cons (pv 8) pa_nil))) pa_nil))) (pa_cons (pe_cmpR (op_eqD hr.units) (pv 8) (pe_tup (pa_cons pe_int (pa_cons pe_int pa_nil))) (nomark _)) pa_nil))))))))))))))))), ?_⟩
    refine ⟨_, rfl, a, ns, rfl, hS, fun s H1 hs1 e1 n1 => ?_⟩
    refine ⟨_, rfl, s, 331, rfl, hs1, by decide, up 9 (by decide), fun d0 H2 a0 b0 hs2 k2 => ⟨_, _, rfl, rfl, ?_⟩⟩
    refine ⟨fun σ H' => ∃ (n : Int) (v3 : Option V), σ = [some (.ref a), some (.ref s), some (.int n), v3, none, none, none, none, none, none] ∧ n.natAbs < 2 ^ 90 ∧ Strm H' s, ?_, ?_⟩
    · refine ⟨_, rfl, s, 2, rfl, hs2, by decide, up 3 (by decide), fun d1 H3 _ _ hs3 k3 => ⟨rfl, _, rfl, ite2 (fun _ => ?_) (fun _ => ?_)⟩⟩
      · refine ⟨_, rfl, _, _, rfl, rfl, ⟨by decide, by decide, by decide⟩, s, 10 ^ 12, rfl, hs3, by decide, up 50 (by decide), fun d2 H4 a2 b2 hs4 k4 => ⟨_, _, rfl, rfl, ?_⟩⟩
        have bs : (1 + d2).natAbs < 2 ^ 41 := by omega
        have bss : ((1 + d2) * (1 + d2)).natAbs < 2 ^ 82 := mul_up 41 41 bs bs
        refine ⟨_, rfl, _, rfl, _, _, rfl, rfl, cmulw bs bs (by decide), ?_⟩
        refine ⟨_, rfl, s, 3, rfl, hs4, by decide, up 3 (by decide), fun d3 H5 a3 b3 hs5 k5 => ⟨_, _, rfl, rfl, _, _, rfl, rfl, ?_⟩⟩
        exact ⟨_, _, rfl, by omega, hs5⟩
      · exact ⟨d0 - 30, none, rfl, by omega, hs3⟩
    rintro σ H3 ⟨n, v3, rfl, bn, hs3⟩
    refine ⟨fun σ H' => H' = H3 ∧ ∃ b : Bool, σ = [some (.ref a), some (.ref s), some (.int n), v3, some (.bl b), none, none, none, none, none] ∧ (b = true ↔ (n = 0 ∨ (0 < n ∧ ¬ isSq n))), ?_, ?_⟩
    · refine ⟨_, rfl, rfl, _, rfl, ite2 (fun hz => ?_) (fun hz => ?_)⟩
      · have h1 := of_decide_eq_true hz
        injection h1 with h2
        exact ⟨rfl, true, rfl, fun _ => .inl h2, fun _ => rfl⟩
      · have h2 : n ≠ 0 := fun z => hz (by rw [z]; exact decide_eq_true rfl)
        refine ⟨_, rfl, _, _, rfl, rfl, _, rfl, iteD (fun h0 => ?_) (fun h0 => ?_)⟩
        · refine ⟨_, rfl, n, rfl, Int.le_of_lt h0, up 90 bn, fun b hb => ⟨_, rfl, ?_⟩⟩
          refine ⟨rfl, !b, rfl, fun z => .inr ⟨h0, fun q => ?_⟩, fun z => ?_⟩
          · rw [hb.mpr q] at z
            cases z
          · cases b with
            | false => rfl
            | true => exact (z.elim (fun q => absurd q h2) fun q => absurd (hb.mp rfl) q.2)
        · exact ⟨rfl, false, rfl, fun z => Bool.noConfusion z, fun z => z.elim (fun q => absurd q h2) (fun q => absurd q.1 h0)⟩
    rintro σ H4 ⟨rfl, b, rfl, hb⟩
    refine ⟨_, rfl, _, rfl, .inl ⟨n, rfl, up 90 bn, fun b' hb' => ?_⟩⟩
    have eb : b' = b := by
      have h1 : b' = true ↔ b = true := hb'.trans hb.symm
      cases b <;> cases b' <;> simp at h1 ⊢
    subst eb
    refine ⟨_, rfl, b', rfl, _, rfl, iteF ?_⟩
    refine ⟨(by show 2 ≤ sizeLine; decide), fun p0 q0 => ⟨(by show 1 ≤ sizeLine; decide), fun p1 q1 => ⟨(by show 6 ≤ sizeLine; decide), fun l ql => ?_⟩⟩⟩
    have i0 := same_new (o := .tup [.int 2, .int 1]) q0
    have i1 := same_new (o := .lst [.int 2]) q1
    have i2 := same_new (o := .lst [.bl true, .bl false, .non, .str "2", .ref p0, .ref p1]) ql
    have m0 := hs3.ne q0
    have m1 := hs3.ne (i0.free q1)
    have ml := hs3.ne ((i0.trans i1).free ql)
    refine ⟨_, rfl, s, 6, rfl, hs3.same ((i0.trans i1).trans i2), by decide, up 4 (by decide), fun d4 H5 a4 b4 hs5 k5 => ?_⟩
    have g0 := k5 _ _ ((i1.trans i2) _ _ (upd_same (H := H4) (a := p0) (o := .tup [.int 2, .int 1]))) m0
    have g1 := k5 _ _ (i2 _ _ (upd_same (a := p1) (o := .lst [.int 2]))) m1
    obtain ⟨v, hv, t, ty, mem, nt⟩ : ∃ v, atI [V.bl true, .bl false, .non, .str "2", .ref p0, .ref p1] d4 = some v ∧ ∃ t : String, TyX K H5 v (.type t) ∧ t ∈ tys ∧ t ≠ "int" := by
      obtain rfl | rfl | rfl | rfl | rfl | rfl : d4 = 0 ∨ d4 = 1 ∨ d4 = 2 ∨ d4 = 3 ∨ d4 = 4 ∨ d4 = 5 := by omega
      · exact ⟨_, rfl, _, ty_bl _, by decide, by decide⟩
      · exact ⟨_, rfl, _, ty_bl _, by decide, by decide⟩
      · exact ⟨_, rfl, _, ty_non, by decide, by decide⟩
      · exact ⟨_, rfl, _, ty_str _, by decide, by decide⟩
      · exact ⟨_, rfl, _, ty_tup g0, by decide, by decide⟩
      · exact ⟨_, rfl, _, ty_lst g1, by decide, by decide⟩
    refine ⟨l, _, _, _, rfl, rfl, SqL.of (k5 l _ upd_same ml), hv, ?_⟩
    refine ⟨_, rfl, _, rfl, .inr ⟨t, ty, mem, nt, false, rfl, _, rfl, iteF ?_⟩⟩
    refine ⟨_, rfl, s, rfl, hs5, fun f H6 hf fb hs6 k6 => ?_⟩
    refine ⟨_, rfl, _, rfl, s, f, 20, 9, rfl, hs6, by decide, by decide, by decide, by decide, fun ee px py H7 x y sx sy gx gy zy _ _ _ _ hs7 k7 ne nx ny he hx hy => ?_⟩
    refine ⟨_, _, rfl, SqT.of he, rfl, _, _, rfl, _, _, rfl, rfl, ?_⟩
    refine ⟨_, rfl, _, rfl, .inl ⟨f, rfl, up 60 fb, fun b5 hb5 => ?_⟩⟩
    have eb5 : b5 = true := hb5.mpr hf
    subst eb5
    have rx : ∀ {H' : Hp}, RatAt H' px x → RatV K H' (.ref px) true := fun h => .yes h sx.1 gx
    have ry : ∀ {H' : Hp}, RatAt H' py y → RatV K H' (.ref py) true := fun h => .yes h sy.1 gy
    refine ⟨true, rfl, _, rfl, iteF ?_⟩
    refine ⟨_, rfl, _, rfl, _, rfl, (by show 2 ≤ sizeLine; decide), fun o1 w1 => ?_⟩
    have z1 := same_new (o := .tup [.ref px, .ref py]) w1
    have fy : f ≠ 0 ∨ (y.1 = 0 ∧ y.2 = 1) := by
      by_cases h : f = 0
      · exact .inr (by rw [zy h]; exact ⟨rfl, rfl⟩)
      · exact .inl h
    refine ⟨f, .ref o1, rfl, .inr ⟨o1, py, _, _, _, rfl, upd_same, rx (z1 _ _ hx), ry (z1 _ _ hy), z1 _ _ hy, ?_⟩⟩
    rw [decide_eq_true fy]
    refine ⟨true, rfl, _, rfl, iteF ?_⟩
    have hx8 := z1 _ _ hx
    have hy8 := z1 _ _ hy
    have hs8 := hs7.same z1
    refine ⟨_, rfl, _, rfl, (by show 2 ≤ sizeLine; decide), fun p0 q0 => ?_⟩
    refine ⟨_, rfl, _, rfl, _, rfl, (by show 3 ≤ sizeLine; decide), fun p1 q1 => ?_⟩
    refine ⟨_, rfl, (by show 1 ≤ sizeLine; decide), fun p2 q2 => ?_⟩
    refine ⟨_, rfl, (by show 2 ≤ sizeLine; decide), fun p3 q3 => ?_⟩
    refine ⟨_, rfl, (by show 2 ≤ sizeLine; decide), fun p4 q4 => ?_⟩
    refine ⟨_, rfl, (by show 2 ≤ sizeLine; decide), fun p5 q5 => ⟨(by show 2 ≤ sizeLine; decide), fun p6 q6 => ?_⟩⟩
    refine ⟨(by show 2 ≤ sizeLine; decide), fun p7 q7 => ⟨_, rfl, (by show 2 ≤ sizeLine; decide), fun p8 q8 => ?_⟩⟩
    refine ⟨_, rfl, (by show 2 ≤ sizeLine; decide), fun p9 q9 => ⟨(by show 2 ≤ sizeLine; decide), fun p10 q10 => ?_⟩⟩
    refine ⟨_, rfl, (by show 2 ≤ sizeLine; decide), fun p11 q11 => ?_⟩
    have j0 := same_new (o := .lst [.ref px, .ref py]) q0
    have j1 := same_new (o := .tup [.ref px, .ref py, .ref py]) q1
    have j2 := same_new (o := .tup [.ref px]) q2
    have j3 := same_new (o := .tup [.ref px, .int 0]) q3
    have j4 := same_new (o := .tup [.int 1, .ref py]) q4
    have j5 := same_new (o := .tup [.int 2, .int 2]) q5
    have j6 := same_new (o := .tup [.ref px, .ref p5]) q6
    have j7 := same_new (o := .tup [.int 0, .int 3]) q7
    have j8 := same_new (o := .tup [.ref p7, .ref py]) q8
    have j9 := same_new (o := .tup [.int 1, .int 0]) q9
    have j10 := same_new (o := .tup [.ref px, .ref p9]) q10
    have j11 := same_new (o := .tup [.bl true, .ref py]) q11
    have s1 := j0.trans j1
    have s2 := s1.trans j2
    have s3 := s2.trans j3
    have s4 := s3.trans j4
    have s5 := s4.trans j5
    have s6 := s5.trans j6
    have s7 := s6.trans j7
    have s8 := s7.trans j8
    have s9 := s8.trans j9
    have s10 := s9.trans j10
    have s11 := s10.trans j11
    refine ⟨_, rfl, px, _, rfl, .inr (SqT.of (s11 _ _ hx8)), fun p12 q12 => ⟨_, rfl, (by show 2 ≤ sizeLine; decide), fun p13 q13 => ⟨(by show 11 ≤ sizeLine; decide), fun pw qw => ?_⟩⟩⟩
    have j12 := same_new (o := .lst [.int x.1, .int x.2]) q12
    have j13 := same_new (o := .tup [.ref p12, .ref py]) q13
    have jw := same_new (o := .lst [.ref p0, .ref p1, .ref p2, .ref p3, .ref p4, .ref p6, .ref p8, .ref p10, .non, .ref p11, .ref p13]) qw
    have s12 := s11.trans j12
    have s13 := s12.trans j13
    have sw := s13.trans jw
    have c13 := j13.trans jw
    have c12 := j12.trans c13
    have c11 := j11.trans c12
    have c10 := j10.trans c11
    have c9 := j9.trans c10
    have c8 := j8.trans c9
    have c7 := j7.trans c8
    have c6 := j6.trans c7
    have c5 := j5.trans c6
    have c4 := j4.trans c5
    have c3 := j3.trans c4
    have c2 := j2.trans c3
    have c1 := j1.trans c2
    have f0 := c1 _ _ (upd_same (a := p0) (o := .lst [.ref px, .ref py]))
    have f1 := c2 _ _ (upd_same (a := p1) (o := .tup [.ref px, .ref py, .ref py]))
    have f2 := c3 _ _ (upd_same (a := p2) (o := .tup [.ref px]))
    have f3 := c4 _ _ (upd_same (a := p3) (o := .tup [.ref px, .int 0]))
    have f4 := c5 _ _ (upd_same (a := p4) (o := .tup [.int 1, .ref py]))
    have f5 := c6 _ _ (upd_same (a := p5) (o := .tup [.int 2, .int 2]))
    have f6 := c7 _ _ (upd_same (a := p6) (o := .tup [.ref px, .ref p5]))
    have f7 := c8 _ _ (upd_same (a := p7) (o := .tup [.int 0, .int 3]))
    have f8 := c9 _ _ (upd_same (a := p8) (o := .tup [.ref p7, .ref py]))
    have f9 := c10 _ _ (upd_same (a := p9) (o := .tup [.int 1, .int 0]))
    have f10 := c11 _ _ (upd_same (a := p10) (o := .tup [.ref px, .ref p9]))
    have f11 := c12 _ _ (upd_same (a := p11) (o := .tup [.bl true, .ref py]))
    have f12 := c13 _ _ (upd_same (a := p12) (o := .lst [.int x.1, .int x.2]))
    have f13 := jw _ _ (upd_same (a := p13) (o := .tup [.ref p12, .ref py]))
    refine ⟨_, rfl, _, rfl, _, rfl, _, rfl, pw, _, rfl, .inl (SqL.of upd_same), s, 11, rfl, hs8.same sw, by decide, up 4 (by decide), fun d5 H9 a5 b5 hs9 k9 => ?_⟩
    have hx9 := k9 _ _ (sw _ _ hx8) nx
    have hy9 := k9 _ _ (sw _ _ hy8) ny
    obtain ⟨v, hv, hr⟩ : ∃ v, atI [V.ref p0, .ref p1, .ref p2, .ref p3, .ref p4, .ref p6, .ref p8, .ref p10, .non, .ref p11, .ref p13] d5 = some v ∧ ElNo K H9 v := by
      obtain rfl | rfl | rfl | rfl | rfl | rfl | rfl | rfl | rfl | rfl | rfl : d5 = 0 ∨ d5 = 1 ∨ d5 = 2 ∨ d5 = 3 ∨ d5 = 4 ∨ d5 = 5 ∨ d5 = 6 ∨ d5 = 7 ∨ d5 = 8 ∨ d5 = 9 ∨ d5 = 10 := by omega
      · exact ⟨_, rfl, .other (ty_lst (k9 _ _ f0 (hs8.ne q0))) (by decide) (by decide)⟩
      · exact ⟨_, rfl, .size (k9 _ _ f1 (hs8.ne (j0.free q1))) (by show (3 : Int) ≠ 2; decide)⟩
      · exact ⟨_, rfl, .size (k9 _ _ f2 (hs8.ne (s1.free q2))) (by show (1 : Int) ≠ 2; decide)⟩
      · exact ⟨_, rfl, .right (k9 _ _ f3 (hs8.ne (s2.free q3))) (rx hx9) (.other (ty_int _) (by decide) (by decide))⟩
      · exact ⟨_, rfl, .left (k9 _ _ f4 (hs8.ne (s3.free q4))) (.other (ty_int _) (by decide) (by decide))⟩
      · exact ⟨_, rfl, .right (k9 _ _ f6 (hs8.ne (s5.free q6))) (rx hx9) (.no (k9 _ _ f5 (hs8.ne (s4.free q5))) (by decide))⟩
      · exact ⟨_, rfl, .left (k9 _ _ f8 (hs8.ne (s7.free q8))) (.no (k9 _ _ f7 (hs8.ne (s6.free q7))) (by decide))⟩
      · exact ⟨_, rfl, .right (k9 _ _ f10 (hs8.ne (s9.free q10))) (rx hx9) (.no (k9 _ _ f9 (hs8.ne (s8.free q9))) (by decide))⟩
      · exact ⟨_, rfl, .other ty_non (by decide) (by decide)⟩
      · exact ⟨_, rfl, .left (k9 _ _ f11 (hs8.ne (s10.free q11))) (.other (ty_bl _) (by decide) (by decide))⟩
      · exact ⟨_, rfl, .left (k9 _ _ f13 (hs8.ne (s12.free q13))) (.other (ty_lst (k9 _ _ f12 (hs8.ne (s11.free q12)))) (by decide) (by decide))⟩
    refine ⟨pw, _, _, _, rfl, rfl, SqL.of (k9 _ _ upd_same (hs8.ne (s13.free qw))), hv, f, v, rfl, .inl ⟨hr, false, rfl, _, rfl, iteF ?_⟩⟩
    refine ⟨_, rfl, _, rfl, (by show 2 ≤ sizeLine; decide), fun o2 w2 => ?_⟩
    have z2 := same_new (o := .tup [.ref px, .ref py]) w2
    refine ⟨0, .ref o2, rfl, .inr ⟨o2, py, _, _, _, rfl, upd_same, rx (z2 _ _ hx9), ry (z2 _ _ hy9), z2 _ _ hy9, ?_⟩⟩
    refine ⟨_, rfl, (by show 2 ≤ sizeLine; decide), fun o3 w3 => ?_⟩
    have z3 := same_new (o := .tup [.int 0, .int 1]) w3
    refine ⟨_, _, dp_pair (SqT.of (z3 _ _ (z2 _ _ hy9))), dp_pair (SqT.of upd_same), rfl, rfl, ?_⟩
    rw [eqv_ints]
    refine ⟨decide (y.1 = 0 ∧ y.2 = 1), ?_, k _⟩
    have e : decide ((0 : Int) ≠ 0 ∨ (y.1 = 0 ∧ y.2 = 1)) = decide (y.1 = 0 ∧ y.2 = 1) := decide_eq_decide.mpr ⟨fun z => z.elim (fun q => absurd rfl q) id, .inr⟩
    rw [e]
    rfl
end
theorem all_mk {l : PySem.W.OpenLaw} {w : World} {K : PySem.W.Frag} {h : Heap} {mg : Str → Option Value} {fa : Addr} (X : K.In h) (G : h.Ns mainGlobals mg) (hfa : mg "law" = some (.ref fa))
    {f0 : Addr} {oc0 kV0 dc0 pm0 cd0 ct0 : Value} {od0 an0 : Option Addr} {sl0 : Array (Option Value)}
    (a0 : PySem.W.nsIn K mainGlobals "_law_stream" = some (some (.ref f0))) (l0 : K.lookup f0 = some ⟨oc0, od0, .func (PySem.W.fnOf "_law_stream" "_law_stream" (defArgs s_l_stream) (defBody s_l_stream) (defScope s_l_stream) .none kV0 dc0 pm0 an0 cd0 ct0), sl0⟩) (c0 : PySem.W.codeIn K cd0 "_law_stream" = true) (k0 : PySem.W.keepIn K (.ref f0) = true)
    {f1 : Addr} {oc1 kV1 dc1 pm1 cd1 ct1 : Value} {od1 an1 : Option Addr} {sl1 : Array (Option Value)}
    (a1 : PySem.W.nsIn K mainGlobals "_law_next" = some (some (.ref f1))) (l1 : K.lookup f1 = some ⟨oc1, od1, .func (PySem.W.fnOf "_law_next" "_law_next" (defArgs s_l_next) (defBody s_l_next) (defScope s_l_next) .none kV1 dc1 pm1 an1 cd1 ct1), sl1⟩) (c1 : PySem.W.codeIn K cd1 "_law_next" = true) (k1 : PySem.W.keepIn K (.ref f1) = true)
    {f2 : Addr} {oc2 kV2 dc2 pm2 cd2 ct2 : Value} {od2 an2 : Option Addr} {sl2 : Array (Option Value)}
    (a2 : PySem.W.nsIn K mainGlobals "_law_gcd" = some (some (.ref f2))) (l2 : K.lookup f2 = some ⟨oc2, od2, .func (PySem.W.fnOf "_law_gcd" "_law_gcd" (defArgs s_l_gcd) (defBody s_l_gcd) (defScope s_l_gcd) .none kV2 dc2 pm2 an2 cd2 ct2), sl2⟩) (c2 : PySem.W.codeIn K cd2 "_law_gcd" = true) (k2 : PySem.W.keepIn K (.ref f2) = true)
    {f3 : Addr} {oc3 kV3 dc3 pm3 cd3 ct3 : Value} {od3 an3 : Option Addr} {sl3 : Array (Option Value)}
    (a3 : PySem.W.nsIn K mainGlobals "_law_low" = some (some (.ref f3))) (l3 : K.lookup f3 = some ⟨oc3, od3, .func (PySem.W.fnOf "_law_low" "_law_low" (defArgs s_l_low) (defBody s_l_low) (defScope s_l_low) .none kV3 dc3 pm3 an3 cd3 ct3), sl3⟩) (c3 : PySem.W.codeIn K cd3 "_law_low" = true) (k3 : PySem.W.keepIn K (.ref f3) = true)
    {f4 : Addr} {oc4 kV4 dc4 pm4 cd4 ct4 : Value} {od4 an4 : Option Addr} {sl4 : Array (Option Value)}
    (a4 : PySem.W.nsIn K mainGlobals "is_whole" = some (some (.ref f4))) (l4 : K.lookup f4 = some ⟨oc4, od4, .func (PySem.W.fnOf "is_whole" "is_whole" (defArgs s_is_whole) (defBody s_is_whole) (defScope s_is_whole) .none kV4 dc4 pm4 an4 cd4 ct4), sl4⟩) (c4 : PySem.W.codeIn K cd4 "is_whole" = true) (k4 : PySem.W.keepIn K (.ref f4) = true)
    {f5 : Addr} {oc5 kV5 dc5 pm5 cd5 ct5 : Value} {od5 an5 : Option Addr} {sl5 : Array (Option Value)}
    (a5 : PySem.W.nsIn K mainGlobals "is_rational" = some (some (.ref f5))) (l5 : K.lookup f5 = some ⟨oc5, od5, .func (PySem.W.fnOf "is_rational" "is_rational" (defArgs s_is_rational) (defBody s_is_rational) (defScope s_is_rational) .none kV5 dc5 pm5 an5 cd5 ct5), sl5⟩) (c5 : PySem.W.codeIn K cd5 "is_rational" = true) (k5 : PySem.W.keepIn K (.ref f5) = true)
    {f6 : Addr} {oc6 kV6 dc6 pm6 cd6 ct6 : Value} {od6 an6 : Option Addr} {sl6 : Array (Option Value)}
    (a6 : PySem.W.nsIn K mainGlobals "_law_ratio" = some (some (.ref f6))) (l6 : K.lookup f6 = some ⟨oc6, od6, .func (PySem.W.fnOf "_law_ratio" "_law_ratio" (defArgs s_l_ratio) (defBody s_l_ratio) (defScope s_l_ratio) .none kV6 dc6 pm6 an6 cd6 ct6), sl6⟩) (c6 : PySem.W.codeIn K cd6 "_law_ratio" = true) (k6 : PySem.W.keepIn K (.ref f6) = true)
    {f7 : Addr} {oc7 kV7 dc7 pm7 cd7 ct7 : Value} {od7 an7 : Option Addr} {sl7 : Array (Option Value)}
    (a7 : PySem.W.nsIn K mainGlobals "_law_root" = some (some (.ref f7))) (l7 : K.lookup f7 = some ⟨oc7, od7, .func (PySem.W.fnOf "_law_root" "_law_root" (defArgs s_l_root) (defBody s_l_root) (defScope s_l_root) .none kV7 dc7 pm7 an7 cd7 ct7), sl7⟩) (c7 : PySem.W.codeIn K cd7 "_law_root" = true) (k7 : PySem.W.keepIn K (.ref f7) = true)
    {f8 : Addr} {oc8 kV8 dc8 pm8 cd8 ct8 : Value} {od8 an8 : Option Addr} {sl8 : Array (Option Value)}
    (a8 : PySem.W.nsIn K mainGlobals "_law_is_square" = some (some (.ref f8))) (l8 : K.lookup f8 = some ⟨oc8, od8, .func (PySem.W.fnOf "_law_is_square" "_law_is_square" (defArgs s_l_is_square) (defBody s_l_is_square) (defScope s_l_is_square) .none kV8 dc8 pm8 an8 cd8 ct8), sl8⟩) (c8 : PySem.W.codeIn K cd8 "_law_is_square" = true) (k8 : PySem.W.keepIn K (.ref f8) = true)
    {f9 : Addr} {oc9 kV9 dc9 pm9 cd9 ct9 : Value} {od9 an9 : Option Addr} {sl9 : Array (Option Value)}
    (a9 : PySem.W.nsIn K mainGlobals "_law_field" = some (some (.ref f9))) (l9 : K.lookup f9 = some ⟨oc9, od9, .func (PySem.W.fnOf "_law_field" "_law_field" (defArgs s_l_field) (defBody s_l_field) (defScope s_l_field) .none kV9 dc9 pm9 an9 cd9 ct9), sl9⟩) (c9 : PySem.W.codeIn K cd9 "_law_field" = true) (k9 : PySem.W.keepIn K (.ref f9) = true)
    {f10 : Addr} {oc10 kV10 dc10 pm10 cd10 ct10 : Value} {od10 an10 : Option Addr} {sl10 : Array (Option Value)}
    (a10 : PySem.W.nsIn K mainGlobals "_law_element" = some (some (.ref f10))) (l10 : K.lookup f10 = some ⟨oc10, od10, .func (PySem.W.fnOf "_law_element" "_law_element" (defArgs s_l_element) (defBody s_l_element) (defScope s_l_element) .none kV10 dc10 pm10 an10 cd10 ct10), sl10⟩) (c10 : PySem.W.codeIn K cd10 "_law_element" = true) (k10 : PySem.W.keepIn K (.ref f10) = true)
    {f11 : Addr} {oc11 kV11 dc11 pm11 cd11 ct11 : Value} {od11 an11 : Option Addr} {sl11 : Array (Option Value)}
    (a11 : PySem.W.nsIn K mainGlobals "square_root" = some (some (.ref f11))) (l11 : K.lookup f11 = some ⟨oc11, od11, .func (PySem.W.fnOf "square_root" "square_root" (defArgs s_square_root) (defBody s_square_root) (defScope s_square_root) .none kV11 dc11 pm11 an11 cd11 ct11), sl11⟩) (c11 : PySem.W.codeIn K cd11 "square_root" = true) (k11 : PySem.W.keepIn K (.ref f11) = true)
    {f12 : Addr} {oc12 kV12 dc12 pm12 cd12 ct12 : Value} {od12 an12 : Option Addr} {sl12 : Array (Option Value)}
    (a12 : PySem.W.nsIn K mainGlobals "is_field" = some (some (.ref f12))) (l12 : K.lookup f12 = some ⟨oc12, od12, .func (PySem.W.fnOf "is_field" "is_field" (defArgs s_is_field) (defBody s_is_field) (defScope s_is_field) .none kV12 dc12 pm12 an12 cd12 ct12), sl12⟩) (c12 : PySem.W.codeIn K cd12 "is_field" = true) (k12 : PySem.W.keepIn K (.ref f12) = true)
    {f13 : Addr} {oc13 kV13 dc13 pm13 cd13 ct13 : Value} {od13 an13 : Option Addr} {sl13 : Array (Option Value)}
    (a13 : PySem.W.nsIn K mainGlobals "is_element" = some (some (.ref f13))) (l13 : K.lookup f13 = some ⟨oc13, od13, .func (PySem.W.fnOf "is_element" "is_element" (defArgs s_is_element) (defBody s_is_element) (defScope s_is_element) .none kV13 dc13 pm13 an13 cd13 ct13), sl13⟩) (c13 : PySem.W.codeIn K cd13 "is_element" = true) (k13 : PySem.W.keepIn K (.ref f13) = true)
    {f14 : Addr} {oc14 kV14 dc14 pm14 cd14 ct14 : Value} {od14 an14 : Option Addr} {sl14 : Array (Option Value)}
    (a14 : PySem.W.nsIn K mainGlobals "_law_is" = some (some (.ref f14))) (l14 : K.lookup f14 = some ⟨oc14, od14, .func (PySem.W.fnOf "_law_is" "_law_is" (defArgs s_l_is) (defBody s_l_is) (defScope s_l_is) .none kV14 dc14 pm14 an14 cd14 ct14), sl14⟩) (c14 : PySem.W.codeIn K cd14 "_law_is" = true) (k14 : PySem.W.keepIn K (.ref f14) = true)
    {f15 : Addr} {oc15 kV15 dc15 pm15 cd15 ct15 : Value} {od15 an15 : Option Addr} {sl15 : Array (Option Value)}
    (a15 : PySem.W.nsIn K mainGlobals "law" = some (some (.ref f15))) (l15 : K.lookup f15 = some ⟨oc15, od15, .func (PySem.W.fnOf "law" "law" (defArgs s_law) (defBody s_law) (defScope s_law) .none kV15 dc15 pm15 an15 cd15 ct15), sl15⟩) (c15 : PySem.W.codeIn K cd15 "law" = true) (k15 : PySem.W.keepIn K (.ref f15) = true)
    (z_abs : PySem.W.nsIn K mainGlobals "abs" = some none)
    (z_bool : PySem.W.nsIn K mainGlobals "bool" = some none)
    (z_int : PySem.W.nsIn K mainGlobals "int" = some none)
    (z_isinstance : PySem.W.nsIn K mainGlobals "isinstance" = some none)
    (z_len : PySem.W.nsIn K mainGlobals "len" = some none)
    (z_list : PySem.W.nsIn K mainGlobals "list" = some none)
    (z_range : PySem.W.nsIn K mainGlobals "range" = some none)
    (z_tuple : PySem.W.nsIn K mainGlobals "tuple" = some none)
    (z_gcd : PySem.W.nsIn K mainGlobals "gcd" = some (some (.builtin "math.gcd")))
    (z_isqrt : PySem.W.nsIn K mainGlobals "isqrt" = some (some (.builtin "math.isqrt")))
    {cc_ZERO : Addr} (z_ZERO : PySem.W.nsIn K mainGlobals "ZERO" = some (some (.ref cc_ZERO)))
    {kk_ZERO_d : Option Addr} {kk_ZERO_n : Nat} {kk_ZERO_s : Array (Option Value)} {kk_ZERO_t0 : Tok} {kk_ZERO_t1 : Tok} (kk_ZERO : K.lookup cc_ZERO = some ⟨.type "tuple", kk_ZERO_d, .seq #[.int 0 kk_ZERO_t0, .int 1 kk_ZERO_t1] kk_ZERO_n, kk_ZERO_s⟩)
    : ∃ fd : FuncData, (∀ (s : Shared) (v : Value), BindsTo s fd ⟨[v], []⟩ [("script", v)]) ∧ ∀ base : Heap, K.In base → base.Ns mainGlobals mg → FnOk l.prog w K mg base CX0 5 fa fd ["script"] (spLaw K) := by
  have e := hfa.symm.trans (PySem.W.mg_of X G a15)
  cases e
  have F0 := fun_mk (st := s_l_stream) l0 c0 k0
  have b0 := F0.binds (ps := ["script"]) fun _ _ _ _ _ _ us hl => match us, hl with | [_], _ => rfl
  have F1 := fun_mk (st := s_l_next) l1 c1 k1
  have b1 := F1.binds (ps := ["stream", "many"]) fun _ _ _ _ _ _ us hl => match us, hl with | [_, _], _ => rfl
  have F2 := fun_mk (st := s_l_gcd) l2 c2 k2
  have b2 := F2.binds (ps := ["a", "b"]) fun _ _ _ _ _ _ us hl => match us, hl with | [_, _], _ => rfl
  have F3 := fun_mk (st := s_l_low) l3 c3 k3
  have b3 := F3.binds (ps := ["n", "d"]) fun _ _ _ _ _ _ us hl => match us, hl with | [_, _], _ => rfl
  have F4 := fun_mk (st := s_is_whole) l4 c4 k4
  have b4 := F4.binds (ps := ["value"]) fun _ _ _ _ _ _ us hl => match us, hl with | [_], _ => rfl
  have F5 := fun_mk (st := s_is_rational) l5 c5 k5
  have b5 := F5.binds (ps := ["x"]) fun _ _ _ _ _ _ us hl => match us, hl with | [_], _ => rfl
  have F6 := fun_mk (st := s_l_ratio) l6 c6 k6
  have b6 := F6.binds (ps := ["stream", "top", "most"]) fun _ _ _ _ _ _ us hl => match us, hl with | [_, _, _], _ => rfl
  have F7 := fun_mk (st := s_l_root) l7 c7 k7
  have b7 := F7.binds (ps := ["n"]) fun _ _ _ _ _ _ us hl => match us, hl with | [_], _ => rfl
  have F8 := fun_mk (st := s_l_is_square) l8 c8 k8
  have b8 := F8.binds (ps := ["n"]) fun _ _ _ _ _ _ us hl => match us, hl with | [_], _ => rfl
  have F9 := fun_mk (st := s_l_field) l9 c9 k9
  have b9 := F9.binds (ps := ["stream"]) fun _ _ _ _ _ _ us hl => match us, hl with | [_], _ => rfl
  have F10 := fun_mk (st := s_l_element) l10 c10 k10
  have b10 := F10.binds (ps := ["stream", "field", "top", "most"]) fun _ _ _ _ _ _ us hl => match us, hl with | [_, _, _, _], _ => rfl
  have F11 := fun_mk (st := s_square_root) l11 c11 k11
  have b11 := F11.binds (ps := ["n"]) fun _ _ _ _ _ _ us hl => match us, hl with | [_], _ => rfl
  have F12 := fun_mk (st := s_is_field) l12 c12 k12
  have b12 := F12.binds (ps := ["x"]) fun _ _ _ _ _ _ us hl => match us, hl with | [_], _ => rfl
  have F13 := fun_mk (st := s_is_element) l13 c13 k13
  have b13 := F13.binds (ps := ["field", "x"]) fun _ _ _ _ _ _ us hl => match us, hl with | [_, _], _ => rfl
  have F14 := fun_mk (st := s_l_is) l14 c14 k14
  have b14 := F14.binds (ps := ["actual", "due"]) fun _ _ _ _ _ _ us hl => match us, hl with | [_, _], _ => rfl
  have F15 := fun_mk (st := s_law) l15 c15 k15
  have b15 := F15.binds (ps := ["script"]) fun _ _ _ _ _ _ us hl => match us, hl with | [_], _ => rfl
  let T : Txt K mg := {
    f_l_stream := f0, fd_l_stream := _, D_l_stream := ⟨F0, PySem.W.mg_of X G a0, b0⟩
    f_l_next := f1, fd_l_next := _, D_l_next := ⟨F1, PySem.W.mg_of X G a1, b1⟩
    f_l_gcd := f2, fd_l_gcd := _, D_l_gcd := ⟨F2, PySem.W.mg_of X G a2, b2⟩
    f_l_low := f3, fd_l_low := _, D_l_low := ⟨F3, PySem.W.mg_of X G a3, b3⟩
    f_is_whole := f4, fd_is_whole := _, D_is_whole := ⟨F4, PySem.W.mg_of X G a4, b4⟩
    f_is_rational := f5, fd_is_rational := _, D_is_rational := ⟨F5, PySem.W.mg_of X G a5, b5⟩
    f_l_ratio := f6, fd_l_ratio := _, D_l_ratio := ⟨F6, PySem.W.mg_of X G a6, b6⟩
    f_l_root := f7, fd_l_root := _, D_l_root := ⟨F7, PySem.W.mg_of X G a7, b7⟩
    f_l_is_square := f8, fd_l_is_square := _, D_l_is_square := ⟨F8, PySem.W.mg_of X G a8, b8⟩
    f_l_field := f9, fd_l_field := _, D_l_field := ⟨F9, PySem.W.mg_of X G a9, b9⟩
    f_l_element := f10, fd_l_element := _, D_l_element := ⟨F10, PySem.W.mg_of X G a10, b10⟩
    f_square_root := f11, fd_square_root := _, D_square_root := ⟨F11, PySem.W.mg_of X G a11, b11⟩
    f_is_field := f12, fd_is_field := _, D_is_field := ⟨F12, PySem.W.mg_of X G a12, b12⟩
    f_is_element := f13, fd_is_element := _, D_is_element := ⟨F13, PySem.W.mg_of X G a13, b13⟩
    f_l_is := f14, fd_l_is := _, D_l_is := ⟨F14, PySem.W.mg_of X G a14, b14⟩
    f_law := fa, fd_law := _, D_law := ⟨F15, PySem.W.mg_of X G a15, b15⟩
    abs := PySem.W.mg_none_of X G z_abs
    bool := PySem.W.mg_none_of X G z_bool
    int := PySem.W.mg_none_of X G z_int
    isinstance := PySem.W.mg_none_of X G z_isinstance
    len := PySem.W.mg_none_of X G z_len
    list := PySem.W.mg_none_of X G z_list
    range := PySem.W.mg_none_of X G z_range
    tuple := PySem.W.mg_none_of X G z_tuple
    gcd := PySem.W.mg_of X G z_gcd
    isqrt := PySem.W.mg_of X G z_isqrt
    c_ZERO := cc_ZERO, g_ZERO := PySem.W.mg_of X G z_ZERO, k_ZERO := ⟨_, _, _, kk_ZERO, rfl, rfl, by show 2 ≤ sizeLine; decide, .cons ⟨_, rfl⟩ (.cons ⟨_, rfl⟩ .nil)⟩ }
  refine ⟨PySem.W.fnOf "law" "law" (defArgs s_law) (defBody s_law) (defScope s_law) .none kV15 dc15 pm15 an15 cd15 ct15, fun s v => .of_eq rfl, fun base _ _ => ?_⟩
  exact ok_law T
theorem walk {l : PySem.W.OpenLaw} {q : Program} {loose : List Str} {XP : (Str → Option Value) → Heap → Prop} {YP : World → Heap → Prop} {d : DefRec} {K : Params → PySem.W.Frag} (hn : l.most = some 63) (hdf : d.params.defaults = [])
    (hY : ∀ (w : World) (h : Heap), YP w h → (K w.params).In h)
    (F : ∀ (w : World) (mg : Str → Option Value) (fa : Addr) (h : Heap), (K w.params).In h → h.Ns mainGlobals mg → mg d.name = some (.ref fa) →
      ∃ fd : FuncData, (∀ (s : Shared) (u : Value), BindsTo s fd ⟨[u], []⟩ [("script", u)]) ∧ ∀ base : Heap, (K w.params).In base → base.Ns mainGlobals mg → FnOk l.prog w (K w.params) mg base CX0 5 fa fd ["script"] (spLaw (K w.params))) :
    PySem.W.WalkO q loose XP YP l.row.toRowW d [] (fun f vs => PySem.call f vs) :=
  L2.walk_of (n := 63) (k := 5) (x := "script") (CX := fun _ => CX0) (sp := fun w => spLaw (K w.params)) hn (by decide) hdf ⟨rfl, by decide, by decide⟩ hY F (fun _ _ a ns hl _ hS => ⟨a, ns, rfl, hS, hl, fun _ => rfl⟩) fun _ _ _ _ _ z => z
end Odds
open PySem PySem.W PyProof.Rows
set_option maxRecDepth 100000 in
set_option maxHeartbeats 0 in
theorem PySem.Challenge.cw_oddscall_k03_fields_and_elements_holds : PySem.Challenge.rw_oddscall_k03_fields_and_elements.Holds := by
  w_on; o_law; k_head; (case hw => w_witness2)
  k_fill
  refine Odds.walk (l := PySem.Challenge.rw_oddscall_k03_fields_and_elements) rfl rfl (fun w h Y => PySem.W.kIn_of Y) ?F
  case F =>
    intro w mg fa h KX G hmg
    refine' Odds.all_mk KX G hmg ?a0 ?l0 ?c0 ?k0 ?a1 ?l1 ?c1 ?k1 ?a2 ?l2 ?c2 ?k2 ?a3 ?l3 ?c3 ?k3 ?a4 ?l4 ?c4 ?k4 ?a5 ?l5 ?c5 ?k5 ?a6 ?l6 ?c6 ?k6 ?a7 ?l7 ?c7 ?k7 ?a8 ?l8 ?c8 ?k8 ?a9 ?l9 ?c9 ?k9 ?a10 ?l10 ?c10 ?k10 ?a11 ?l11 ?c11 ?k11 ?a12 ?l12 ?c12 ?k12 ?a13 ?l13 ?c13 ?k13 ?a14 ?l14 ?c14 ?k14 ?a15 ?l15 ?c15 ?k15 ?z_abs ?z_bool ?z_int ?z_isinstance ?z_len ?z_list ?z_range ?z_tuple ?z_gcd ?z_isqrt ?z_ZERO ?kk_ZERO
    (case a0 => k_is)
    (case l0 => k_is)
    (case c0 => k_is)
    (case k0 => k_is)
    (case a1 => k_is)
    (case l1 => k_is)
    (case c1 => k_is)
    (case k1 => k_is)
    (case a2 => k_is)
    (case l2 => k_is)
    (case c2 => k_is)
    (case k2 => k_is)
    (case a3 => k_is)
    (case l3 => k_is)
    (case c3 => k_is)
    (case k3 => k_is)
    (case a4 => k_is)
    (case l4 => k_is)
    (case c4 => k_is)
    (case k4 => k_is)
    (case a5 => k_is)
    (case l5 => k_is)
    (case c5 => k_is)
    (case k5 => k_is)
    (case a6 => k_is)
    (case l6 => k_is)
    (case c6 => k_is)
    (case k6 => k_is)
    (case a7 => k_is)
    (case l7 => k_is)
    (case c7 => k_is)
    (case k7 => k_is)
    (case a8 => k_is)
    (case l8 => k_is)
    (case c8 => k_is)
    (case k8 => k_is)
    (case a9 => k_is)
    (case l9 => k_is)
    (case c9 => k_is)
    (case k9 => k_is)
    (case a10 => k_is)
    (case l10 => k_is)
    (case c10 => k_is)
    (case k10 => k_is)
    (case a11 => k_is)
    (case l11 => k_is)
    (case c11 => k_is)
    (case k11 => k_is)
    (case a12 => k_is)
    (case l12 => k_is)
    (case c12 => k_is)
    (case k12 => k_is)
    (case a13 => k_is)
    (case l13 => k_is)
    (case c13 => k_is)
    (case k13 => k_is)
    (case a14 => k_is)
    (case l14 => k_is)
    (case c14 => k_is)
    (case k14 => k_is)
    (case a15 => k_is)
    (case l15 => k_is)
    (case c15 => k_is)
    (case k15 => k_is)
    (case z_abs => k_is)
    (case z_bool => k_is)
    (case z_int => k_is)
    (case z_isinstance => k_is)
    (case z_len => k_is)
    (case z_list => k_is)
    (case z_range => k_is)
    (case z_tuple => k_is)
    (case z_gcd => k_is)
    (case z_isqrt => k_is)
    (case z_ZERO => k_is)
    (case kk_ZERO => k_is)
