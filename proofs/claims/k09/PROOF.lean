import PyProof.Rows.All
import Wide.All
import OpenK.AllK
import Wide.FinOn
import HandS.ForExc
import HandS.IsInst
import HandS.Gcd
import HandS.Wide
import HandS.Style
import HandS.ExcInit
import HandS.ExcField
import HandS.ExcIs
import HandS.TupAny
import KE.KExcIs
import HandS.Codes
import HandS.Comp
import KE.KMathG
import Flt.RightSqrt
import PySem.Challenge.RW_oddscall_k09_numbers_of_elements
set_option Elab.async false
set_option linter.all false
set_option maxRecDepth 100000
set_option maxHeartbeats 4000000
/-! ## Odds: what all proofs of this program share -/
namespace Odds
open PySem L2

/-! ### floor division by any wide divisor but 0 -/
def CDivZ (_ j : Int) : Prop := j ≠ 0 ∧ j.natAbs.log2 < 9000
theorem op_fdivZ {X : Cx} : OpR X (binaryOp .FloorDiv) (rI CDivZ fun i j => .int (i.fdiv j)) := opI fun i j _ _ _ _ _ hc q =>
  PyProof.Rows.floordiv_int hc.1 q (.inl (PyProof.noPylong_of_log2 hc.2))
theorem cdivz {i j : Int} {b : Nat} (h : j ≠ 0) (hb : j.natAbs < 2 ^ b) (h9 : b ≤ 9000) : CDivZ i j := by
  refine ⟨h, ?_⟩
  have h1 : j.natAbs ≠ 0 := by omega
  have := (Nat.log2_lt h1).mpr (Nat.lt_of_lt_of_le hb (Nat.pow_le_pow_right (by decide) h9))
  exact this
theorem cmulw {i j : Int} {a b : Nat} (ha : i.natAbs < 2 ^ a) (hb : j.natAbs < 2 ^ b) (h : a + b ≤ 900000) : CMulW i j := by
  have e : ∀ (x : Int) (n : Nat), x.natAbs < 2 ^ n → x.natAbs.log2 < n + 1 := fun x n hx => by
    by_cases h0 : x.natAbs = 0
    · rw [h0]; exact Nat.lt_of_lt_of_le (by decide) (Nat.succ_le_succ (Nat.zero_le n))
    · exact Nat.lt_succ_of_lt ((Nat.log2_lt h0).mpr hx)
  have h1 := e i a ha
  have h2 := e j b hb
  unfold CMulW
  omega

/-! ### heaps -/
/-- all but s is as it was -/
def Keep (s : Addr) (H H' : Hp) : Prop := ∀ b o, H b = some o → b ≠ s → H' b = some o
theorem Keep.refl (s : Addr) (H : Hp) : Keep s H H := fun _ _ h _ => h
theorem Keep.trans {s : Addr} {H H1 H2 : Hp} (a : Keep s H H1) (b : Keep s H1 H2) : Keep s H H2 := fun c o h n => b c o (a c o h n) n
theorem Same.keep {s : Addr} {H H' : Hp} (a : Same H H') : Keep s H H' := fun b o h _ => a b o h
theorem same_new {H : Hp} {p : Addr} {o : HO} (h : H p = none) : Same H (upd H p o) := fun b u e => by
  rw [upd_ne (ne_of_none e h)]
  exact e
theorem Same.t {H H' : Hp} {a : Addr} {o : HO} (e : Same H H') (h : H a = some o) : H' a = some o := e a o h

/-! ### the stream of draws -/
/-- a list of a list of ints, an int, an int from 0 -/
def Strm (H : Hp) (s : Addr) : Prop := ∃ (l : Addr) (ns : List Int) (c k : Int), H s = some (.lst [.ref l, .int c, .int k]) ∧ H l = some (.lst (ns.map V.int)) ∧ 0 ≤ k
theorem Strm.same {H H' : Hp} {s : Addr} (e : Same H H') (h : Strm H s) : Strm H' s := by
  obtain ⟨l, ns, c, k, h1, h2, h3⟩ := h
  exact ⟨l, ns, c, k, e _ _ h1, e _ _ h2, h3⟩
theorem lst_ne {l : Addr} {c k : Int} {ns : List Int} : HO.lst [.ref l, .int c, .int k] ≠ HO.lst (ns.map V.int) := by
  intro e
  have e' : [V.ref l, V.int c, V.int k] = ns.map V.int := by injection e
  cases ns with
  | nil => simp at e'
  | cons n r => simp at e'
/-- a draw: the stream goes on, all else stands -/
def spNext : Sp := fun vs H Q _ => ∃ (s : Addr) (m : Int), vs = [.ref s, .int m] ∧ Strm H s ∧ 0 < m ∧ m.natAbs < 2 ^ 9000 ∧
  ∀ (d : Int) (H' : Hp), 0 ≤ d → d < m → Strm H' s → Keep s H H' → Q (.int d) H'
def spStream (K : PySem.W.Frag) : Sp := fun vs H Q _ => ∃ (a : Addr) (ns : List Int), vs = [.ref a] ∧ SqL K H a (ns.map V.int) ∧
  ∀ (s : Addr) (H' : Hp), Strm H' s → Same H H' → H s = none → Q (.ref s) H'

/-! ### isinstance of the exception that a suite holds, one with its own dict -/
structure ExcD (K : PySem.W.Frag) (D : Addr) : Prop where
  hg : PySem.W.findIn K (.ref D) "__getattribute__" = some (some (.builtin "BaseException.__getattribute__"))
  hk : PySem.W.findIn K (.ref D) "__getattr__" = some none
  hs : PySem.W.subIn K (.ref D) (.type "BaseException") = some true
  hd : PySem.W.isClsIn K D = true
  ha : PySem.W.findIn K (.ref D) "__class__" = some (some (.builtin "object.__class__"))
  hn : PySem.W.specialIn K (.builtin "object.__class__") "__get__" = some (some (.builtin "getset_descriptor.__get__"))
  ht : PySem.W.takesIn K (.builtin "object.__class__") = some true
  hm : PySem.W.mroIn K D (.type "object") = some true
def rIsX (K : PySem.W.Frag) (D a : Addr) (cls : Value) (d : Option Addr) : List V → Hp → VK → Prop := fun xs H Q => ∃ (dd : Addr) (fs : List (Str × V)) (c : V) (cv : Value) (b : Bool), cls = .ref D ∧ d = some dd ∧ H dd = some (.xd fs) ∧
  xs = [.ref a, c] ∧ (∀ u, RelV c u → u = cv) ∧ PySem.W.kitOne K (.ref D) cv = some b ∧ Q (.bl b) H
theorem call_isX {X : Cx} {a D : Addr} {d : Option Addr} {cls : Value} {oe : Obj} {pn : List (Addr × Obj)} (C : ExcD X.K D) (hz : Zc cls d oe) (hf : ∃ vs, oe.data = .fields vs) :
    CallR (X.suite a ((a, oe) :: pn)) (.builtin "isinstance") (rIsX X.K D a cls d) := by
  intro pins s σ H xs us Q I r h
  obtain ⟨dd, fs, c, cv, b, rfl, rfl, ea, rfl, hcv, e, q⟩ := h
  cases r with
  | cons rx rr =>
    cases rr with
    | cons rt rr =>
      cases rr
      cases rx
      have ec := hcv _ rt
      subst ec
      obtain ⟨hget, _⟩ := I.pin (a, oe) (List.mem_append.mpr (.inl List.mem_cons_self))
      obtain ⟨vs, hv⟩ := hf
      have hx : ObjOk X.prog X.w H s.heap dd (.xd fs) := I.hok dd _ ea
      obtain ⟨mA, hns, hr⟩ := hx
      obtain ⟨od, ho, hl⟩ := lookIn_ns hns
      have J : PySem.W.InstAt s.heap a oe D (some od) := ⟨hget, hz.1, by unfold PySem.W.notCls; rw [hv] <;> rfl, by rw [hz.2]; exact ho⟩
      exact PySem.W.kia_one (PySem.W.kitx_exc C.hd C.hg C.hk C.hs C.ha C.hn C.ht C.hm) I.kIn J e (fun z => nomatch z) fun tk => ⟨.bl b, H, I.kept (t' := tk) fun _ _ z => z, rfl, q⟩
theorem boot_VE : bootBuiltins "ValueError" = some (.type "ValueError") := by decide +kernel

/-! ### a def of the text, an error class -/
structure Dn (K : PySem.W.Frag) (mg : Str → Option Value) (x : Str) (st : Stmt) (ps : List Str) (f : Addr) (fd : FuncData) : Prop where
  F : Fun K x x st f fd
  g : mg x = some (.ref f)
  b : Binds K fd ps []
structure BadT (K : PySem.W.Frag) (mg : Str → Option Value) (C Od fI : Addr) (fdI : FuncData) (st : Stmt) : Prop where
  gC : mg "BadValue" = some (.ref C)
  gO : mg "OddsError" = some (.ref Od)
  iC : PySem.W.findIn K (.ref C) "__init__" = some (some (.ref fI))
  tI : PySem.W.typeIn K (.ref fI) = some (.type "function")
  FI : Fun K "__init__" "BadValue.__init__" st fI fdI
  bI : Binds K fdI ["self", "name"] []
  O : OexC K C
  X : XfC K C
  no : PySem.W.findIn K (.ref C) "name" = some none
  I : ExcD K C
  te : PySem.W.exmOne K (.ref C) (.ref C) = some true
  kO : PySem.W.kitOne K (.ref C) (.ref Od) = some true
  kV : PySem.W.kitOne K (.ref C) (.type "ValueError") = some true
theorem kit_own {K : PySem.W.Frag} {C O : Addr} (h1 : PySem.W.isClsIn K O = true) (h2 : PySem.W.typeIn K (.ref O) = some (.type "type")) (h3 : PySem.W.subIn K (.ref C) (.ref O) = some true) : PySem.W.kitOne K (.ref C) (.ref O) = some true := by
  unfold PySem.W.kitOne
  split
  · rfl
  · have e2 : ((PySem.W.clsIn K O).isSome && PySem.W.typeIn K (.ref O) == some (.type "type")) = true := by
      have h1' : (PySem.W.clsIn K O).isSome = true := h1
      rw [h1', h2] <;> rfl
    show (if ((PySem.W.clsIn K O).isSome && PySem.W.typeIn K (.ref O) == some (.type "type")) = true then PySem.W.subIn K (.ref C) (.ref O) else none) = some true
    rw [if_pos e2]
    exact h3
theorem kit_VE {K : PySem.W.Frag} {C : Addr} (h3 : PySem.W.subIn K (.ref C) (.type "ValueError") = some true) : PySem.W.kitOne K (.ref C) (.type "ValueError") = some true := by
  unfold PySem.W.kitOne
  split
  · rfl
  · show (if PySem.W.kitMeta "ValueError" = true then PySem.W.subIn K (.ref C) (.type "ValueError") else none) = some true
    rw [if_pos (by decide +kernel)]
    exact h3
/-- BadValue.__init__ -/
def spInit (C : Addr) : Sp := fun vs H Q _ => ∃ (a : Addr) (z : V), vs = [.ref a, z] ∧ H a = some (exo a C none) ∧
  ∀ dx, H dx = none → dx ≠ a → Q .non (upd (upd H dx (exd dx [(("name" : Str), z)])) a (exo a C (some dx)))
/-- what is left behind raise BadValue(z) -/
theorem made_eq {H : Hp} {a dx : Addr} {o1 o2 o3 o4 : HO} (ha : H a = none) (hd : dx ≠ a) : upd (del (upd (upd (upd H a o1) dx o2) a o3) a) dx o4 = upd H dx o4 := by
  funext b
  unfold upd del
  by_cases h1 : b = dx
  · rw [if_pos h1, if_pos h1]
  · rw [if_neg h1, if_neg h1]
    by_cases h2 : b = a
    · rw [if_pos h2, h2, ha]
    · rw [if_neg h2]
      show (if b = a then some o3 else if b = dx then some o2 else if b = a then some o1 else H b) = H b
      rw [if_neg h2, if_neg h1, if_neg h2]

/-! ### tests whose answer is known -/
theorem iteN1 {c A B : Prop} [Decidable c] (hc : ¬ c) (h : A) : if (!decide c) = true then A else B := by
  rw [decide_eq_false hc]
  exact iteT h
theorem iteD1 {c A B : Prop} [Decidable c] (hc : c) (h : A) : if decide c = true then A else B := by
  rw [decide_eq_true hc]
  exact iteT h
theorem iteD0 {c A B : Prop} [Decidable c] (hc : ¬ c) (h : B) : if decide c = true then A else B := by
  rw [decide_eq_false hc]
  exact iteF h
theorem iteD {c A B : Prop} [Decidable c] (h1 : c → A) (h2 : ¬ c → B) : if decide c = true then A else B := by
  by_cases h : c
  · exact iteD1 h (h1 h)
  · exact iteD0 h (h2 h)
theorem lc_yes {te : TE} {σ : L2.St} {H : Hp} {K1 : V → Hp → Prop} {K2 : Hp → Prop} (h : te σ H K1) : tYes σ H (fun b H3 => if b = true then te σ H3 K1 else K2 H3) := by
  show (if true = true then te σ H K1 else K2 H)
  rw [if_pos rfl]
  exact h
theorem abs_eq (i : Int) : (if i < 0 then -i else i) = ((i.natAbs : Nat) : Int) := by
  split <;> omega

/-- a tuple that the text has written -/
def WT (K : PySem.W.Frag) (c : Addr) (xs : List V) : Prop := ∃ (o : Obj) (its : Array Value) (n : Nat), K.lookup c = some o ∧ o.cls = .type "tuple" ∧ o.data = .seq its n ∧ its.size ≤ sizeLine ∧ Vals xs its.toList
theorem WT.sq {K : PySem.W.Frag} {H : Hp} {c : Addr} {xs : List V} (h : WT K c xs) : SqT K H c xs := Or.inr h
/-- a pair of ints as data -/
theorem dp_pair {K : PySem.W.Frag} {H : Hp} {c : Addr} {n d : Int} (h : SqT K H c [.int n, .int d]) : Dp K H (.ref c) (.tuple [.int n, .int d]) := .tup h (.cons (.int n) (.cons (.int d) .nil))
theorem eqv_ints (n d m e : Int) : PyData.eqv (.tuple [.int n, .int d]) (.tuple [.int m, .int e]) = decide (n = m ∧ d = e) := by
  simp only [PyData.eqv, PyData.eqvAll, Bool.and_true]
  by_cases h1 : n = m <;> by_cases h2 : d = e <;> simp [h1, h2]
/-- math.isqrt -/
def rIsqrt : List V → Hp → VK → Prop := fun vs H Q => ∃ n : Int, vs = [.int n] ∧ 0 ≤ n ∧ n.natAbs < 2 ^ 13000 ∧ ∀ r : Int, 0 ≤ r → r * r ≤ n → n < (r + 1) * (r + 1) → Q (.int r) H
theorem cr_isqrt {X : Cx} : CallR X (.builtin "math.isqrt") rIsqrt := by
  intro pins s σ H vs us Q I r h
  obtain ⟨n, rfl, h0, hb, q⟩ := h
  cases r with
  | cons r1 rn =>
    cases rn
    obtain ⟨t, rfl⟩ := r1
    have e : n.toNat = n.natAbs := by omega
    have hl : n.toNat.log2 < 13000 := by
      rw [e]
      by_cases z : n.natAbs = 0
      · rw [z]; decide
      · exact (Nat.log2_lt z).mpr hb
    have sp := PySem.Float64.isqrt_spec n.toNat
    refine PySem.call_function_meets PySem.W.MGF.kind_isqrt PySem.W.MGF.plain_isqrt PySem.W.MGF.entry_isqrt (PySem.W.MGF.args_isqrt _) (PySem.W.mg_run_isqrt n t (by omega) (by omega) (by omega)).meets ?_
    refine ⟨.int _, H, I.tok _, ⟨_, rfl⟩, q _ (by omega) ?_ ?_⟩
    · have := sp.1
      rw [← Int.natCast_mul]
      omega
    · have h2 := sp.2
      have e2 : (((PySem.Float64.isqrt n.toNat : Nat) : Int) + 1) * (((PySem.Float64.isqrt n.toNat : Nat) : Int) + 1) = (((PySem.Float64.isqrt n.toNat + 1) * (PySem.Float64.isqrt n.toNat + 1) : Nat) : Int) := by
        rw [Int.natCast_mul]
        rfl
      rw [e2]
      omega

/-! ### the kinds of values -/
def tys : List String := ["int", "bool", "NoneType", "str", "tuple", "list"]
/-- is_whole -/
def spWhole (K : PySem.W.Frag) : Sp := fun vs H Q _ => ∃ (x : V) (t : String), vs = [x] ∧ TyX K H x (.type t) ∧ t ∈ tys ∧ Q (.bl (decide (t = "int"))) H
theorem ty_int {K : PySem.W.Frag} {H : Hp} (i : Int) : TyX K H (.int i) (.type "int") := .base (.int i)
theorem ty_bl {K : PySem.W.Frag} {H : Hp} (b : Bool) : TyX K H (.bl b) (.type "bool") := .base (.bl b)
theorem ty_non {K : PySem.W.Frag} {H : Hp} : TyX K H .non (.type "NoneType") := .base .non
theorem ty_str {K : PySem.W.Frag} {H : Hp} (x : Str) : TyX K H (.str x) (.type "str") := .base (.str x)
theorem ty_tup {K : PySem.W.Frag} {H : Hp} {a : Addr} {xs : List V} (h : H a = some (.tup xs)) : TyX K H (.ref a) (.type "tuple") := .base (.tup h)
theorem ty_lst {K : PySem.W.Frag} {H : Hp} {a : Addr} {xs : List V} (h : H a = some (.lst xs)) : TyX K H (.ref a) (.type "list") := .base (.lst h)

/-! ### Euclid -/
def GcdI (B g i a b : Nat) : Prop := Nat.gcd a b = g ∧ ((i = 0 ∧ a < 2 ^ B ∧ b < 2 ^ B) ∨ (0 < i ∧ (b = 0 ∨ (b < a ∧ a * b * 2 ^ (i - 1) < 2 ^ (B + B)))))
theorem gcdI_step {B g i a b : Nat} (h : GcdI B g i a b) (hb : b ≠ 0) : GcdI B g (i + 1) b (a % b) := by
  obtain ⟨hg, h⟩ := h
  refine ⟨by rw [← hg, Nat.gcd_comm b (a % b), ← Nat.gcd_rec, Nat.gcd_comm], .inr ⟨Nat.succ_pos _, ?_⟩⟩
  have hlt : a % b < b := Nat.mod_lt _ (Nat.pos_of_ne_zero hb)
  refine .inr ⟨hlt, ?_⟩
  rcases h with ⟨rfl, ha, hb2⟩ | ⟨hi, h0 | ⟨hba, hp⟩⟩
  · show b * (a % b) * 2 ^ 0 < 2 ^ (B + B)
    rw [Nat.pow_zero, Nat.mul_one, Nat.pow_add]
    exact Nat.mul_lt_mul'' hb2 (Nat.lt_trans hlt hb2)
  · exact absurd h0 hb
  · have e : i + 1 - 1 = (i - 1) + 1 := by omega
    rw [e, Nat.pow_succ]
    have h2 : 2 * (a % b) ≤ a := by
      have h3 := Nat.mod_add_div a b
      have h4 : 1 ≤ a / b := (Nat.one_le_div_iff (Nat.pos_of_ne_zero hb)).mpr (Nat.le_of_lt hba)
      have h5 : b * 1 ≤ b * (a / b) := Nat.mul_le_mul_left b h4
      omega
    calc b * (a % b) * (2 ^ (i - 1) * 2) = (2 * (a % b)) * b * 2 ^ (i - 1) := by
            rw [Nat.mul_comm (2 ^ (i - 1)) 2, ← Nat.mul_assoc, Nat.mul_comm b (a % b), Nat.mul_comm (a % b * b) 2, ← Nat.mul_assoc]
      _ ≤ a * b * 2 ^ (i - 1) := Nat.mul_le_mul_right _ (Nat.mul_le_mul_right _ h2)
      _ < 2 ^ (B + B) := hp
theorem gcdI_end {B g a b : Nat} (h : GcdI B g 40000 a b) (hB : B ≤ 19000) : a = g := by
  obtain ⟨hg, h⟩ := h
  rcases h with ⟨h, _⟩ | ⟨_, h0 | ⟨hba, hp⟩⟩
  · cases h
  · rw [h0, Nat.gcd_zero_right] at hg
    exact hg
  · by_cases hb : b = 0
    · rw [hb, Nat.gcd_zero_right] at hg
      exact hg
    · exfalso
      have h1 : 1 ≤ a * b := Nat.mul_pos (by omega) (Nat.pos_of_ne_zero hb)
      have h2 : 2 ^ (40000 - 1) < 2 ^ (B + B) := Nat.lt_of_le_of_lt (Nat.le_trans (Nat.le_of_eq (Nat.one_mul _).symm) (Nat.mul_le_mul_right _ h1)) hp
      have h3 := (Nat.pow_lt_pow_iff_right (by decide : 1 < 2)).mp h2
      omega

/-! ### lowest terms -/
def sg (n d : Int) : Int := if d < 0 then -((Nat.gcd n.natAbs d.natAbs : Nat) : Int) else ((Nat.gcd n.natAbs d.natAbs : Nat) : Int)
def lo1 (n d : Int) : Int := n.fdiv (sg n d)
def lo2 (n d : Int) : Int := d.fdiv (sg n d)
theorem sg_abs (n d : Int) : (sg n d).natAbs = Nat.gcd n.natAbs d.natAbs := by
  unfold sg
  split <;> omega
theorem sg_ne {n d : Int} (h : d ≠ 0) : sg n d ≠ 0 := by
  intro e
  have := sg_abs n d
  rw [e] at this
  have h2 := Nat.gcd_pos_of_pos_right n.natAbs (show 0 < d.natAbs by omega)
  simp at this
  omega
theorem sg_dvd1 (n d : Int) : sg n d ∣ n := by
  rw [← Int.natAbs_dvd_natAbs, sg_abs]
  exact Nat.gcd_dvd_left _ _
theorem sg_dvd2 (n d : Int) : sg n d ∣ d := by
  rw [← Int.natAbs_dvd_natAbs, sg_abs]
  exact Nat.gcd_dvd_right _ _
theorem fdiv_cancel {a b : Int} (h : b ∣ a) : b * a.fdiv b = a := Int.mul_fdiv_cancel' h
theorem lo1_mul (n d : Int) : sg n d * lo1 n d = n := fdiv_cancel (sg_dvd1 n d)
theorem lo2_mul (n d : Int) : sg n d * lo2 n d = d := fdiv_cancel (sg_dvd2 n d)
theorem sg_size {n d : Int} {b : Nat} (h : d ≠ 0) (hb : d.natAbs < 2 ^ b) : (sg n d).natAbs < 2 ^ b := by
  rw [sg_abs]
  exact Nat.lt_of_le_of_lt (Nat.gcd_le_right _ (by omega)) hb
theorem lo2_pos {n d : Int} (h : d ≠ 0) : 1 ≤ lo2 n d := by
  have e := lo2_mul n d
  have hs := sg_ne (n := n) h
  have hp : 0 < sg n d * sg n d := by
    rcases Int.lt_or_gt_of_ne hs with h1 | h1
    · exact Int.mul_pos_of_neg_of_neg h1 h1
    · exact Int.mul_pos h1 h1
  have hsd : 0 < sg n d * d := by
    unfold sg
    have hg : 0 < Nat.gcd n.natAbs d.natAbs := Nat.gcd_pos_of_pos_right _ (by omega)
    split
    · exact Int.mul_pos_of_neg_of_neg (by omega) (by omega)
    · exact Int.mul_pos (by omega) (by omega)
  rcases (show lo2 n d < 1 ∨ 1 ≤ lo2 n d by omega) with hl | hl
  · exfalso
    have h2 : lo2 n d ≤ 0 := by omega
    have h3 : sg n d * (sg n d * lo2 n d) ≤ 0 := by
      rw [← Int.mul_assoc]
      exact Int.mul_nonpos_of_nonneg_of_nonpos (Int.le_of_lt hp) h2
    rw [e] at h3
    omega
  · exact hl
theorem lo_gcd {n d : Int} (h : d ≠ 0) : Nat.gcd (lo1 n d).natAbs (lo2 n d).natAbs = 1 := by
  have e1 : (sg n d).natAbs * (lo1 n d).natAbs = n.natAbs := by rw [← Int.natAbs_mul, lo1_mul]
  have e2 : (sg n d).natAbs * (lo2 n d).natAbs = d.natAbs := by rw [← Int.natAbs_mul, lo2_mul]
  have hg : 0 < Nat.gcd n.natAbs d.natAbs := Nat.gcd_pos_of_pos_right _ (by omega)
  have h1 := Nat.gcd_mul_left (sg n d).natAbs (lo1 n d).natAbs (lo2 n d).natAbs
  rw [e1, e2, sg_abs] at h1
  exact Nat.eq_of_mul_eq_mul_left hg (by omega)
theorem lo_cross (n d : Int) (h : d ≠ 0) : lo1 n d * d = lo2 n d * n := by
  have e1 := lo1_mul n d
  have e2 := lo2_mul n d
  calc lo1 n d * d = lo1 n d * (sg n d * lo2 n d) := by rw [e2]
    _ = lo2 n d * (sg n d * lo1 n d) := by rw [Int.mul_comm (lo1 n d), Int.mul_assoc, Int.mul_comm (lo2 n d) (lo1 n d), ← Int.mul_assoc, Int.mul_comm (sg n d * lo1 n d)]
    _ = lo2 n d * n := by rw [e1]
theorem lo1_size {n d : Int} (h : d ≠ 0) : (lo1 n d).natAbs ≤ n.natAbs := by
  have e1 : (sg n d).natAbs * (lo1 n d).natAbs = n.natAbs := by rw [← Int.natAbs_mul, lo1_mul]
  have hs : 1 ≤ (sg n d).natAbs := by have := sg_ne (n := n) h; omega
  calc (lo1 n d).natAbs = 1 * (lo1 n d).natAbs := (Nat.one_mul _).symm
    _ ≤ (sg n d).natAbs * (lo1 n d).natAbs := Nat.mul_le_mul_right _ hs
    _ = n.natAbs := e1
theorem lo2_size {n d : Int} (h : d ≠ 0) : (lo2 n d).natAbs ≤ d.natAbs := by
  have e1 : (sg n d).natAbs * (lo2 n d).natAbs = d.natAbs := by rw [← Int.natAbs_mul, lo2_mul]
  have hs : 1 ≤ (sg n d).natAbs := by have := sg_ne (n := n) h; omega
  calc (lo2 n d).natAbs = 1 * (lo2 n d).natAbs := (Nat.one_mul _).symm
    _ ≤ (sg n d).natAbs * (lo2 n d).natAbs := Nat.mul_le_mul_right _ hs
    _ = d.natAbs := e1
/-- a pair in lowest terms is its own -/
theorem sg_one {n d : Int} (hd : 1 ≤ d) (hg : Nat.gcd n.natAbs d.natAbs = 1) : sg n d = 1 := by
  unfold sg
  rw [if_neg (by omega), hg]
  rfl
theorem up (a : Nat) {b x : Nat} (h : x < 2 ^ a) (hab : a ≤ b := by decide) : x < 2 ^ b := Nat.lt_of_lt_of_le h (Nat.pow_le_pow_right (by decide) hab)
theorem mul_up {i j : Int} (a b : Nat) {c : Nat} (ha : i.natAbs < 2 ^ a) (hb : j.natAbs < 2 ^ b) (hc : a + b ≤ c := by decide) : (i * j).natAbs < 2 ^ c := by
  rw [Int.natAbs_mul]
  exact up (a + b) (by rw [Nat.pow_add]; exact Nat.mul_lt_mul'' ha hb) hc
/-- a new pair of ints -/
def spPair (f : Int → Int → Int × Int) : Sp := fun vs H Q _ => ∃ n d : Int, vs = [.int n, .int d] ∧ d ≠ 0 ∧ n.natAbs < 2 ^ 9000 ∧ d.natAbs < 2 ^ 9000 ∧
  ∀ (p : Addr) (H' : Hp), Same H H' → H p = none → H' p = some (.tup [.int (f n d).1, .int (f n d).2]) → Q (.ref p) H'
end Odds

namespace Odds
open PySem L2
def topS (i : Nat) : Stmt := PySem.Challenge.pw_oddscall_k09_numbers_of_elements.main.body.getD i (.Pass ⟨0, 0, 0, 0⟩)
abbrev s_l_stream : Stmt := topS 20
theorem sc_l_stream : FnScope ["script"] ["script"] (defScope s_l_stream) := ⟨rfl, rfl, rfl, by decide +kernel, rfl, by decide +kernel, by decide +kernel⟩
abbrev s_l_next : Stmt := topS 21
theorem sc_l_next : FnScope ["stream", "many", "k", "cell", "digit"] ["stream", "many"] (defScope s_l_next) := ⟨rfl, rfl, rfl, by decide +kernel, rfl, by decide +kernel, by decide +kernel⟩
abbrev s_l_is_integer : Stmt := topS 22
theorem sc_l_is_integer : FnScope ["actual"] ["actual"] (defScope s_l_is_integer) := ⟨rfl, rfl, rfl, by decide +kernel, rfl, by decide +kernel, by decide +kernel⟩
abbrev s_l_gcd : Stmt := topS 23
theorem sc_l_gcd : FnScope ["a", "b", "k"] ["a", "b"] (defScope s_l_gcd) := ⟨rfl, rfl, rfl, by decide +kernel, rfl, by decide +kernel, by decide +kernel⟩
abbrev s_l_low : Stmt := topS 24
theorem sc_l_low : FnScope ["n", "d", "shared"] ["n", "d"] (defScope s_l_low) := ⟨rfl, rfl, rfl, by decide +kernel, rfl, by decide +kernel, by decide +kernel⟩
abbrev s_is_whole : Stmt := topS 5
theorem sc_is_whole : FnScope ["value"] ["value"] (defScope s_is_whole) := ⟨rfl, rfl, rfl, by decide +kernel, rfl, by decide +kernel, by decide +kernel⟩
abbrev s_is_rational : Stmt := topS 12
theorem sc_is_rational : FnScope ["x", "n", "d"] ["x"] (defScope s_is_rational) := ⟨rfl, rfl, rfl, by decide +kernel, rfl, by decide +kernel, by decide +kernel⟩
abbrev s_ratio : Stmt := topS 9
theorem sc_ratio : FnScope ["n", "d", "shared"] ["n", "d"] (defScope s_ratio) := ⟨rfl, rfl, rfl, by decide +kernel, rfl, by decide +kernel, by decide +kernel⟩
abbrev s_l_plus : Stmt := topS 25
theorem sc_l_plus : FnScope ["a", "b"] ["a", "b"] (defScope s_l_plus) := ⟨rfl, rfl, rfl, by decide +kernel, rfl, by decide +kernel, by decide +kernel⟩
abbrev s_l_times : Stmt := topS 26
theorem sc_l_times : FnScope ["a", "b"] ["a", "b"] (defScope s_l_times) := ⟨rfl, rfl, rfl, by decide +kernel, rfl, by decide +kernel, by decide +kernel⟩
abbrev s_l_ratio : Stmt := topS 28
theorem sc_l_ratio : FnScope ["stream", "top", "most", "n"] ["stream", "top", "most"] (defScope s_l_ratio) := ⟨rfl, rfl, rfl, by decide +kernel, rfl, by decide +kernel, by decide +kernel⟩
abbrev s_minus : Stmt := topS 10
theorem sc_minus : FnScope ["a", "b"] ["a", "b"] (defScope s_minus) := ⟨rfl, rfl, rfl, by decide +kernel, rfl, by decide +kernel, by decide +kernel⟩
abbrev s_times : Stmt := topS 11
theorem sc_times : FnScope ["a", "b"] ["a", "b"] (defScope s_times) := ⟨rfl, rfl, rfl, by decide +kernel, rfl, by decide +kernel, by decide +kernel⟩
abbrev s_l_equal : Stmt := topS 29
theorem sc_l_equal : FnScope ["actual", "due", "at"] ["actual", "due"] (defScope s_l_equal) := ⟨rfl, rfl, rfl, by decide +kernel, rfl, by decide +kernel, by decide +kernel⟩
abbrev s_l_root : Stmt := topS 30
theorem sc_l_root : FnScope ["n", "low", "high", "k", "middle"] ["n"] (defScope s_l_root) := ⟨rfl, rfl, rfl, by decide +kernel, rfl, by decide +kernel, by decide +kernel⟩
abbrev s_l_is_square : Stmt := topS 31
theorem sc_l_is_square : FnScope ["n"] ["n"] (defScope s_l_is_square) := ⟨rfl, rfl, rfl, by decide +kernel, rfl, by decide +kernel, by decide +kernel⟩
abbrev s_l_field : Stmt := topS 32
theorem sc_l_field : FnScope ["stream", "pick", "field"] ["stream"] (defScope s_l_field) := ⟨rfl, rfl, rfl, by decide +kernel, rfl, by decide +kernel, by decide +kernel⟩
abbrev s_l_element : Stmt := topS 33
theorem sc_l_element : FnScope ["stream", "field", "top", "most", "x", "y"] ["stream", "field", "top", "most"] (defScope s_l_element) := ⟨rfl, rfl, rfl, by decide +kernel, rfl, by decide +kernel, by decide +kernel⟩
abbrev s_l_multiply : Stmt := topS 34
theorem sc_l_multiply : FnScope ["field", "a", "b", "first"] ["field", "a", "b"] (defScope s_l_multiply) := ⟨rfl, rfl, rfl, by decide +kernel, rfl, by decide +kernel, by decide +kernel⟩
abbrev s_norm : Stmt := topS 16
theorem sc_norm : FnScope ["field", "a"] ["field", "a"] (defScope s_norm) := ⟨rfl, rfl, rfl, by decide +kernel, rfl, by decide +kernel, by decide +kernel⟩
abbrev s_square_root : Stmt := topS 6
theorem sc_square_root : FnScope ["n", "root"] ["n"] (defScope s_square_root) := ⟨rfl, rfl, rfl, by decide +kernel, rfl, by decide +kernel, by decide +kernel⟩
abbrev s_is_field : Stmt := topS 14
theorem sc_is_field : FnScope ["x"] ["x"] (defScope s_is_field) := ⟨rfl, rfl, rfl, by decide +kernel, rfl, by decide +kernel, by decide +kernel⟩
abbrev s_is_element : Stmt := topS 15
theorem sc_is_element : FnScope ["field", "x"] ["field", "x"] (defScope s_is_element) := ⟨rfl, rfl, rfl, by decide +kernel, rfl, by decide +kernel, by decide +kernel⟩
abbrev s_number_of : Stmt := topS 18
theorem sc_number_of : FnScope ["field", "element", "x", "y", "linear", "constant", "a", "b", "c"] ["field", "element"] (defScope s_number_of) := ⟨rfl, rfl, rfl, by decide +kernel, rfl, by decide +kernel, by decide +kernel⟩
abbrev s_l_told : Stmt := topS 37
theorem sc_l_told : FnScope ["field", "element", "e"] ["field", "element"] (defScope s_l_told) := ⟨rfl, rfl, rfl, by decide +kernel, rfl, by decide +kernel, by decide +kernel⟩
abbrev s_l_fits : Stmt := topS 38
theorem sc_l_fits : FnScope ["field", "element", "actual", "one", "c", "b", "a", "square", "first", "second"] ["field", "element", "actual"] (defScope s_l_fits) := ⟨rfl, rfl, rfl, by decide +kernel, rfl, by decide +kernel, by decide +kernel⟩
abbrev s_law : Stmt := topS 39
theorem sc_law : FnScope ["script", "stream", "field", "top", "most", "element", "actual", "wrong"] ["script"] (defScope s_law) := ⟨rfl, rfl, rfl, by decide +kernel, rfl, by decide +kernel, by decide +kernel⟩
abbrev s_init : Stmt := inClass (topS 3) 0
theorem sc_init : FnScope ["self", "name"] ["self", "name"] (defScope s_init) := ⟨rfl, rfl, rfl, by decide +kernel, rfl, by decide +kernel, by decide +kernel⟩
structure Txt (K : PySem.W.Frag) (mg : Str → Option Value) where
  f_l_stream : Addr
  fd_l_stream : FuncData
  D_l_stream : Dn K mg "_law_stream" s_l_stream ["script"] f_l_stream fd_l_stream
  f_l_next : Addr
  fd_l_next : FuncData
  D_l_next : Dn K mg "_law_next" s_l_next ["stream", "many"] f_l_next fd_l_next
  f_l_is_integer : Addr
  fd_l_is_integer : FuncData
  D_l_is_integer : Dn K mg "_law_is_integer" s_l_is_integer ["actual"] f_l_is_integer fd_l_is_integer
  f_l_gcd : Addr
  fd_l_gcd : FuncData
  D_l_gcd : Dn K mg "_law_gcd" s_l_gcd ["a", "b"] f_l_gcd fd_l_gcd
  f_l_low : Addr
  fd_l_low : FuncData
  D_l_low : Dn K mg "_law_low" s_l_low ["n", "d"] f_l_low fd_l_low
  f_is_whole : Addr
  fd_is_whole : FuncData
  D_is_whole : Dn K mg "is_whole" s_is_whole ["value"] f_is_whole fd_is_whole
  f_is_rational : Addr
  fd_is_rational : FuncData
  D_is_rational : Dn K mg "is_rational" s_is_rational ["x"] f_is_rational fd_is_rational
  f_ratio : Addr
  fd_ratio : FuncData
  D_ratio : Dn K mg "ratio" s_ratio ["n", "d"] f_ratio fd_ratio
  f_l_plus : Addr
  fd_l_plus : FuncData
  D_l_plus : Dn K mg "_law_plus" s_l_plus ["a", "b"] f_l_plus fd_l_plus
  f_l_times : Addr
  fd_l_times : FuncData
  D_l_times : Dn K mg "_law_times" s_l_times ["a", "b"] f_l_times fd_l_times
  f_l_ratio : Addr
  fd_l_ratio : FuncData
  D_l_ratio : Dn K mg "_law_ratio" s_l_ratio ["stream", "top", "most"] f_l_ratio fd_l_ratio
  f_minus : Addr
  fd_minus : FuncData
  D_minus : Dn K mg "minus" s_minus ["a", "b"] f_minus fd_minus
  f_times : Addr
  fd_times : FuncData
  D_times : Dn K mg "times" s_times ["a", "b"] f_times fd_times
  f_l_equal : Addr
  fd_l_equal : FuncData
  D_l_equal : Dn K mg "_law_equal" s_l_equal ["actual", "due"] f_l_equal fd_l_equal
  f_l_root : Addr
  fd_l_root : FuncData
  D_l_root : Dn K mg "_law_root" s_l_root ["n"] f_l_root fd_l_root
  f_l_is_square : Addr
  fd_l_is_square : FuncData
  D_l_is_square : Dn K mg "_law_is_square" s_l_is_square ["n"] f_l_is_square fd_l_is_square
  f_l_field : Addr
  fd_l_field : FuncData
  D_l_field : Dn K mg "_law_field" s_l_field ["stream"] f_l_field fd_l_field
  f_l_element : Addr
  fd_l_element : FuncData
  D_l_element : Dn K mg "_law_element" s_l_element ["stream", "field", "top", "most"] f_l_element fd_l_element
  f_l_multiply : Addr
  fd_l_multiply : FuncData
  D_l_multiply : Dn K mg "_law_multiply" s_l_multiply ["field", "a", "b"] f_l_multiply fd_l_multiply
  f_norm : Addr
  fd_norm : FuncData
  D_norm : Dn K mg "norm" s_norm ["field", "a"] f_norm fd_norm
  f_square_root : Addr
  fd_square_root : FuncData
  D_square_root : Dn K mg "square_root" s_square_root ["n"] f_square_root fd_square_root
  f_is_field : Addr
  fd_is_field : FuncData
  D_is_field : Dn K mg "is_field" s_is_field ["x"] f_is_field fd_is_field
  f_is_element : Addr
  fd_is_element : FuncData
  D_is_element : Dn K mg "is_element" s_is_element ["field", "x"] f_is_element fd_is_element
  f_number_of : Addr
  fd_number_of : FuncData
  D_number_of : Dn K mg "number_of" s_number_of ["field", "element"] f_number_of fd_number_of
  f_l_told : Addr
  fd_l_told : FuncData
  D_l_told : Dn K mg "_law_told" s_l_told ["field", "element"] f_l_told fd_l_told
  f_l_fits : Addr
  fd_l_fits : FuncData
  D_l_fits : Dn K mg "_law_fits" s_l_fits ["field", "element", "actual"] f_l_fits fd_l_fits
  f_law : Addr
  fd_law : FuncData
  D_law : Dn K mg "law" s_law ["script"] f_law fd_law
  abs : mg "abs" = none
  all : mg "all" = none
  bool : mg "bool" = none
  int : mg "int" = none
  isinstance : mg "isinstance" = none
  len : mg "len" = none
  list : mg "list" = none
  range : mg "range" = none
  str : mg "str" = none
  tuple : mg "tuple" = none
  gcd : mg "gcd" = some (.builtin "math.gcd")
  isqrt : mg "isqrt" = some (.builtin "math.isqrt")
  lcm : mg "lcm" = some (.builtin "math.lcm")
  c_ZERO : Addr
  g_ZERO : mg "ZERO" = some (.ref c_ZERO)
  k_ZERO : WT K c_ZERO [.int 0, .int 1]
  c_BadValue : Addr
  c_OddsError : Addr
  f_init : Addr
  fd_init : FuncData
  B : BadT K mg c_BadValue c_OddsError f_init fd_init s_init
section
variable {P : Program} {w : World} {K : PySem.W.Frag} {mg : Str → Option Value} {base : Heap}
/-! ### the draws -/
theorem ok_l_stream (T : Txt K mg) : FnOk P w K mg base CX0 1 T.f_l_stream T.fd_l_stream ["script"] (spStream K) := by
  refine T.D_l_stream.F.ok sc_l_stream (fun vs H Q E h => ?_) (fun cdv A outer s H vs Q E hr h => ?_)
  · obtain ⟨a, ns, rfl, _⟩ := h
    rfl
  · obtain ⟨a, ns, rfl, hS, k⟩ := h
    refine ⟨_, (pss_one (ps_ret (pe_lst (pa_cons (pe_callTy call_list_of (by rfl) T.list PyProof.Rows.boot_list (pa_cons (pv 0) pa_nil)) (pa_cons pe_int (pa_cons pe_int pa_nil)))))), ?_⟩
    refine ⟨_, rfl, a, _, rfl, .inl hS, fun l hl => ?_⟩
    refine ⟨(by show 3 ≤ sizeLine; decide), fun s hs => ?_⟩
    have e1 := same_new (o := .lst (ns.map V.int)) hl
    have e2 := same_new (o := .lst [.ref l, .int 0, .int 0]) hs
    exact k s _ ⟨l, ns, 0, 0, upd_same, e2 _ _ upd_same, Int.le_refl _⟩ (e1.trans e2) (e1.free hs)
theorem ok_l_next (T : Txt K mg) : FnOk P w K mg base CX0 1 T.f_l_next T.fd_l_next ["stream", "many"] spNext := by
  refine T.D_l_next.F.ok sc_l_next (fun vs H Q E h => ?_) (fun cdv A outer s H vs Q E hr h => ?_)
  · obtain ⟨s, m, rfl, _⟩ := h
    rfl
  · obtain ⟨s, m, rfl, ⟨l, ns, c, k, hs, hl, hk⟩, hm, hmb, kk⟩ := h
    have nsl : s ≠ l := ne_of hs hl lst_ne
    have tail : ∀ (H1 : Hp) (c1 k1 : Int) (v2 v3 : Option V), H1 s = some (.lst [.ref l, .int c1, .int k1]) → H1 l = some (.lst (ns.map V.int)) → 0 ≤ k1 → Keep s H H1 →
        (tSeq (tAsg (tOp (rI (fun _ j => 0 < j) fun i j => .int (i % j)) (tCB (fun xs H Q => (∃ i, xs = [.int i] ∧ Q (.int i) H) ∨ ∃ k, xs = [.bl k] ∧ Q (.int (if k then 1 else 0)) H) (tCons (tOp (rIxL K) (tVar 0) (tC (.int 1))) tNil)) (tVar 1)) (gName 4))
          (tSeq (tAsg (tOp (rI CDivW fun i j => .int (i / j)) (tOp (rIxL K) (tVar 0) (tC (.int 1))) (tVar 1)) (gSub (tVar 0) (tC (.int 1)) rSetL)) (tRet (tVar 4)))) { nx := fun _ H' => Q .non H', rt := Q } [some (.ref s), some (.int m), v2, v3, none] H1 := by
      intro H1 c1 k1 v2 v3 h1 h2 h3 h4
      refine ⟨_, rfl, s, _, _, _, rfl, rfl, SqL.of h1, rfl, .inl ⟨_, rfl, _, rfl, _, _, rfl, rfl, hm, ?_⟩⟩
      refine ⟨_, rfl, s, _, _, _, rfl, rfl, SqL.of h1, rfl, _, rfl, _, _, rfl, rfl, wide_div hm hmb (by decide) (by decide), ?_⟩
      refine ⟨_, rfl, s, _, _, 1, rfl, rfl, h1, rfl, ?_⟩
      refine ⟨_, rfl, ?_⟩
      refine kk _ _ (Int.emod_nonneg _ (by omega)) (Int.emod_lt_of_pos _ hm) ⟨l, ns, _, k1, upd_same, by rw [upd_ne nsl.symm]; exact h2, h3⟩ fun b o e hb => ?_
      rw [upd_ne hb]
      exact h4 b o e hb
    refine ⟨_, (pss_cons (ps_if (pt_cmpR op_eq (pe_ix (r := rIxL K) ix_list (pv 0) pe_int (fun _ _ => rfl)) pe_int (nomark _)) (pss_cons (ps_set (i := 2) sc_l_next.nd rfl (Or.inl rfl) (pe_ix (r := rIxL K) ix_list (pv 0) pe_int (fun _ _ => rfl)))
    (pss_cons (ps_set (i := 3) sc_l_next.nd rfl (Or.inl rfl) (pe_op op_add pe_int (pv 2)))
    (pss_cons (ps_if (pt_cmpR op_lt (pv 2) (pe_callB call_len_seq (by rfl) T.len PySem.boot_len (pa_cons (pe_ix (r := rIxL K) ix_list (pv 0) pe_int (fun _ _ => rfl)) pa_nil)) (nomark _)) (pss_one (ps_set (i := 3) sc_l_next.nd rfl (Or.inl rfl) (pe_callB call_abs (by rfl) T.abs PyProof.Rows.boot_abs (pa_cons (pe_ix (r := rIxL K) ix_list (pe_ix (r := rIxL K) ix_list (pv 0) pe_int (fun _ _ => rfl)) (pv 2) (fun _ _ => rfl)) pa_nil)))) pss_nil)
    (pss_cons (ps_if (pt_cmpR op_lt (pv 3) (pe_op op_pow pe_int pe_int) (nomark _)) (pss_cons (ps_set (i := 3) sc_l_next.nd rfl (Or.inl rfl) (pe_op op_mod (pe_callTy call_int1 (by rfl) T.int PyProof.Rows.boot_int (pa_cons (pe_op op_add (pe_op op_add (pe_op op_mul (pv 3) pe_int) (pe_op op_mul (pv 2) pe_int)) pe_int) pa_nil)) pe_int))
    (pss_one (ps_set (i := 3) sc_l_next.nd rfl (Or.inl rfl) (pe_op op_add (pe_op op_mul (pe_op op_mod (pe_callTy call_int1 (by rfl) T.int PyProof.Rows.boot_int (pa_cons (pe_op op_add (pe_op op_mul (pv 3) pe_int) pe_int) pa_nil)) pe_int) pe_int) (pv 3))))) pss_nil)
    (pss_cons (ps_asg (pv 3) (pg_sub (pv 0) pe_int set_list))
    (pss_one (ps_asg (pe_op op_add (pv 2) pe_int) (pg_sub (pv 0) pe_int set_list)))))))) pss_nil)
    (pss_cons (ps_set (i := 4) sc_l_next.nd rfl (Or.inl rfl) (pe_op op_mod (pe_callTy call_int1 (by rfl) T.int PyProof.Rows.boot_int (pa_cons (pe_ix (r := rIxL K) ix_list (pv 0) pe_int (fun _ _ => rfl)) pa_nil)) (pv 1)))
    (pss_cons (ps_asg (pe_op op_fdivW (pe_ix (r := rIxL K) ix_list (pv 0) pe_int (fun _ _ => rfl)) (pv 1)) (pg_sub (pv 0) pe_int set_list))
    (pss_one (ps_ret (pv 4)))))), ?_⟩
    refine ⟨_, rfl, s, _, _, _, rfl, rfl, SqL.of hs, rfl, rfl, _, rfl, ite2 (fun _ => ?_) (fun _ => ?_)⟩
    · -- a new cell
      refine ⟨_, rfl, s, _, _, _, rfl, rfl, SqL.of hs, rfl, ?_⟩
      refine ⟨_, rfl, _, _, rfl, rfl, ?_⟩
      have part : ∀ c2 : Int, (tSeq (tIfS (tTest (tOp (rI0 fun i j => .bl (decide (i < j))) (tVar 3) (tOp (rI CPow fun i j => .int (i ^ j.toNat)) (tC (.int 10)) (tC (.int 18)))))
          (tSeq (tAsg (tOp (rI (fun _ j => 0 < j) fun i j => .int (i % j)) (tCB (fun xs H Q => (∃ i, xs = [.int i] ∧ Q (.int i) H) ∨ ∃ k, xs = [.bl k] ∧ Q (.int (if k then 1 else 0)) H) (tCons (tOp (rI0 fun i j => .int (i + j)) (tOp (rI0 fun i j => .int (i + j)) (tOp (rI CMul fun i j => .int (i * j)) (tVar 3) (tC (.int 48271))) (tOp (rI CMul fun i j => .int (i * j)) (tVar 2) (tC (.int 69621)))) (tC (.int 11))) tNil)) (tC (.int 2147483647))) (gName 3))
            (tAsg (tOp (rI0 fun i j => .int (i + j)) (tOp (rI CMul fun i j => .int (i * j)) (tOp (rI (fun _ j => 0 < j) fun i j => .int (i % j)) (tCB (fun xs H Q => (∃ i, xs = [.int i] ∧ Q (.int i) H) ∨ ∃ k, xs = [.bl k] ∧ Q (.int (if k then 1 else 0)) H) (tCons (tOp (rI0 fun i j => .int (i + j)) (tOp (rI CMul fun i j => .int (i * j)) (tVar 3) (tC (.int 16807))) (tC (.int 13))) tNil)) (tC (.int 2147483647))) (tC (.int 65537))) (tVar 3)) (gName 3)))
          tNext)
          (tSeq (tAsg (tVar 3) (gSub (tVar 0) (tC (.int 1)) rSetL)) (tAsg (tOp (rI0 fun i j => .int (i + j)) (tVar 2) (tC (.int 1))) (gSub (tVar 0) (tC (.int 2)) rSetL))))
          { nx := fun σ' H' => (tSeq (tAsg (tOp (rI (fun _ j => 0 < j) fun i j => .int (i % j)) (tCB (fun xs H Q => (∃ i, xs = [.int i] ∧ Q (.int i) H) ∨ ∃ k, xs = [.bl k] ∧ Q (.int (if k then 1 else 0)) H) (tCons (tOp (rIxL K) (tVar 0) (tC (.int 1))) tNil)) (tVar 1)) (gName 4))
          (tSeq (tAsg (tOp (rI CDivW fun i j => .int (i / j)) (tOp (rIxL K) (tVar 0) (tC (.int 1))) (tVar 1)) (gSub (tVar 0) (tC (.int 1)) rSetL)) (tRet (tVar 4)))) { nx := fun _ H' => Q .non H', rt := Q } σ' H', rt := Q } [some (.ref s), some (.int m), some (.int k), some (.int c2), none] H := by
        intro c2
        have store : ∀ c3 : Int, (tSeq (tAsg (tVar 3) (gSub (tVar 0) (tC (.int 1)) rSetL)) (tAsg (tOp (rI0 fun i j => .int (i + j)) (tVar 2) (tC (.int 1))) (gSub (tVar 0) (tC (.int 2)) rSetL)))
          { nx := fun σ' H' => (tSeq (tAsg (tOp (rI (fun _ j => 0 < j) fun i j => .int (i % j)) (tCB (fun xs H Q => (∃ i, xs = [.int i] ∧ Q (.int i) H) ∨ ∃ k, xs = [.bl k] ∧ Q (.int (if k then 1 else 0)) H) (tCons (tOp (rIxL K) (tVar 0) (tC (.int 1))) tNil)) (tVar 1)) (gName 4))
          (tSeq (tAsg (tOp (rI CDivW fun i j => .int (i / j)) (tOp (rIxL K) (tVar 0) (tC (.int 1))) (tVar 1)) (gSub (tVar 0) (tC (.int 1)) rSetL)) (tRet (tVar 4)))) { nx := fun _ H' => Q .non H', rt := Q } σ' H', rt := Q } [some (.ref s), some (.int m), some (.int k), some (.int c3), none] H := by
          intro c3
          refine ⟨_, rfl, _, rfl, s, _, _, 1, rfl, rfl, hs, rfl, ?_⟩
          refine ⟨_, rfl, _, _, rfl, rfl, _, rfl, s, _, _, 2, rfl, rfl, upd_same, rfl, ?_⟩
          refine tail _ c3 (k + 1) _ _ upd_same ?_ (by omega) fun b o e hb => ?_
          · rw [upd_ne nsl.symm, upd_ne nsl.symm]
            exact hl
          · rw [upd_ne hb, upd_ne hb]
            exact e
        refine ⟨_, rfl, _, _, rfl, rfl, ⟨by decide, by decide, by decide⟩, _, _, rfl, rfl, _, rfl, ite2 (fun _ => ?_) (fun _ => ?_)⟩
        · refine ⟨_, rfl, _, _, rfl, rfl, .inr ⟨by decide, by decide⟩, _, rfl, _, _, rfl, rfl, .inr ⟨by decide, by decide⟩, _, _, rfl, rfl, _, _, rfl, rfl, .inl ⟨_, rfl, _, _, rfl, rfl, (by show (0 : Int) < 2147483647; decide), ?_⟩⟩
          refine ⟨_, rfl, _, _, rfl, rfl, .inr ⟨by decide, by decide⟩, _, _, rfl, rfl, .inl ⟨_, rfl, _, _, rfl, rfl, (by show (0 : Int) < 2147483647; decide), _, _, rfl, rfl, .inr ⟨by decide, by decide⟩, _, rfl, _, _, rfl, rfl, ?_⟩⟩
          exact store _
        · exact store _
      refine ⟨_, rfl, _, rfl, s, _, _, _, rfl, rfl, SqL.of hs, rfl, l, _, rfl, .inl (SqL.of hl), _, _, rfl, rfl, _, rfl, iteD (fun hlt => ?_) (fun _ => ?_)⟩
      · have hlt' : k < ((ns.map V.int).length : Int) := hlt
        obtain ⟨j, rfl⟩ : ∃ j : Nat, k = (j : Int) := ⟨k.toNat, by omega⟩
        have hj : j < ns.length := by rw [List.length_map] at hlt'; omega
        refine ⟨_, rfl, s, _, _, _, rfl, rfl, SqL.of hs, rfl, _, rfl, l, _, _, _, rfl, rfl, SqL.of hl, at_of (j := j) (v := V.int ns[j]) rfl (by rw [List.getElem?_map, List.getElem?_eq_getElem hj]; rfl), _, rfl, ?_⟩
        exact part _
      · exact part _
    · -- the cell stands
      exact tail H c k none none hs hl hk (Keep.refl s H)
theorem ok_l_is_integer (T : Txt K mg) : FnOk P w K mg base CX0 1 T.f_l_is_integer T.fd_l_is_integer ["actual"] (spWhole K) := by
  refine T.D_l_is_integer.F.ok sc_l_is_integer (fun vs H Q E h => ?_) (fun cdv A outer s H vs Q E hr h => ?_)
  · obtain ⟨x, t, rfl, _⟩ := h
    rfl
  · obtain ⟨x, t, rfl, ty, mem, k⟩ := h
    refine ⟨_, (pss_one (ps_ret (pe_and (pe_callB call_isi (by rfl) T.isinstance PyProof.Rows.boot_isinstance (pa_cons (pv 0) (pa_cons (pe_bltn (v := .ty "int") (by rfl) T.int PyProof.Rows.boot_int rfl) pa_nil))) (pe_one (pe_not (pe_callB call_isi (by rfl) T.isinstance PyProof.Rows.boot_isinstance (pa_cons (pv 0) (pa_cons (pe_bltn (v := .ty "bool") (by rfl) T.bool PyProof.Rows.boot_bool rfl) pa_nil)))))))), ?_⟩
    simp only [tys, List.mem_cons, List.not_mem_nil, or_false] at mem
    rcases mem with rfl | rfl | rfl | rfl | rfl | rfl
    · exact ⟨_, rfl, _, _, _, _, true, rfl, .ty "int", ty, kit_ty (by decide +kernel), true, rfl, iteT ⟨_, rfl, _, _, _, _, false, rfl, .ty "bool", ty, kit_ty (by decide +kernel), false, rfl, k⟩⟩
    · exact ⟨_, rfl, _, _, _, _, true, rfl, .ty "int", ty, kit_ty (by decide +kernel), true, rfl, iteT ⟨_, rfl, _, _, _, _, true, rfl, .ty "bool", ty, kit_ty (by decide +kernel), true, rfl, k⟩⟩
    all_goals exact ⟨_, rfl, _, _, _, _, false, rfl, .ty "int", ty, kit_ty (by decide +kernel), false, rfl, iteF k⟩
/-! ### the law's own fractions -/
def spGcd : Sp := fun vs H Q _ => ∃ a b : Int, vs = [.int a, .int b] ∧ a.natAbs < 2 ^ 19000 ∧ b.natAbs < 2 ^ 19000 ∧ Q (.int ((Nat.gcd a.natAbs b.natAbs : Nat) : Int)) H
theorem ok_l_gcd (T : Txt K mg) : FnOk P w K mg base CX0 1 T.f_l_gcd T.fd_l_gcd ["a", "b"] spGcd := by
  refine T.D_l_gcd.F.ok sc_l_gcd (fun vs H Q E h => ?_) (fun cdv A outer s H vs Q E hr h => ?_)
  · obtain ⟨a, b, rfl, _⟩ := h
    rfl
  · obtain ⟨a, b, rfl, ha, hb, k⟩ := h
    refine ⟨_, (pss_cons (ps_set (i := 0) sc_l_gcd.nd rfl (Or.inl rfl) (pe_callB call_abs (by rfl) T.abs PyProof.Rows.boot_abs (pa_cons (pv 0) pa_nil)))
    (pss_cons (ps_set (i := 1) sc_l_gcd.nd rfl (Or.inl rfl) (pe_callB call_abs (by rfl) T.abs PyProof.Rows.boot_abs (pa_cons (pv 1) pa_nil)))
    (pss_cons (ps_for PassesOwn.never rfl (pi_range1 rfl T.range (pa_cons pe_int pa_nil)) (pg_name (i := 2) sc_l_gcd.nd rfl (Or.inl rfl)) (pss_cons (ps_if (pt_cmpR op_eq (pv 1) pe_int (nomark _)) (pss_one ps_break) pss_nil)
    (pss_one (ps_par (i := 0) (j := 1) (by rfl) sc_l_gcd.nd rfl rfl (by decide) rfl rfl (pa_cons (pv 1) (pa_cons (pe_op op_mod (pe_callTy call_int1 (by rfl) T.int PyProof.Rows.boot_int (pa_cons (pv 0) pa_nil)) (pv 1)) pa_nil)) (by rfl)))))
    (pss_one (ps_ret (pv 0)))))), ?_⟩
    refine ⟨_, rfl, _, rfl, ?_⟩
    refine ⟨_, rfl, _, rfl, ?_⟩
    refine ⟨40000, rfl, by decide, by decide, for_range (lo := 0) (n := 40000) (fun i σ H' => H' = H ∧ ∃ (x y : Nat) (v : Option V), σ = [some (.int (x : Int)), some (.int (y : Int)), v] ∧ GcdI 19000 (Nat.gcd a.natAbs b.natAbs) i x y)
      ⟨rfl, a.natAbs, b.natAbs, none, by rw [abs_eq, abs_eq]; rfl, rfl, .inl ⟨rfl, ha, hb⟩⟩ ?_ ?_⟩
    · rintro i σ H' hi ⟨rfl, x, y, v, rfl, g⟩
      refine ⟨_, rfl, rfl, _, rfl, ite2 (fun hz => ?_) (fun hz => ?_)⟩
      · have hy : y = 0 := by
          have h1 := of_decide_eq_true hz
          injection h1 with h2
          omega
        subst hy
        have e : x = Nat.gcd a.natAbs b.natAbs := by
          have := g.1
          rw [Nat.gcd_zero_right] at this
          exact this
        refine ⟨_, rfl, ?_⟩
        rw [e]
        exact k
      · have hy : y ≠ 0 := fun q => hz (by subst q; exact decide_eq_true rfl)
        refine ⟨_, rfl, _, rfl, .inl ⟨_, rfl, _, rfl, _, _, rfl, rfl, (by show (0 : Int) < (y : Int); omega), ?_⟩⟩
        exact ⟨_, _, rfl, rfl, y, x % y, _, rfl, gcdI_step g hy⟩
    · rintro σ H' ⟨rfl, x, y, v, rfl, g⟩
      refine ⟨_, rfl, ?_⟩
      rw [gcdI_end g (by decide)]
      exact k
theorem ok_l_low (T : Txt K mg) : FnOk P w K mg base CX0 2 T.f_l_low T.fd_l_low ["n", "d"] (spPair fun n d => (lo1 n d, lo2 n d)) := by
  refine T.D_l_low.F.ok sc_l_low (fun vs H Q E h => ?_) (fun cdv A outer s H vs Q E hr h => ?_)
  · obtain ⟨n, d, rfl, _⟩ := h
    rfl
  · obtain ⟨n, d, rfl, hd, hn, hb, k⟩ := h
    have low : ∀ g : Int, g = sg n d → (tRet (tTup (tCons (tOp (rI CDivZ fun i j => .int (i.fdiv j)) (tVar 0) (tVar 2)) (tCons (tOp (rI CDivZ fun i j => .int (i.fdiv j)) (tVar 1) (tVar 2)) tNil)))) { nx := fun _ H' => Q .non H', rt := Q } [some (.int n), some (.int d), some (.int g)] H := by
      rintro g rfl
      have c : ∀ x, CDivZ x (sg n d) := fun x => cdivz (sg_ne hd) (sg_size hd hb) (Nat.le_refl _)
      refine ⟨_, rfl, _, rfl, _, _, rfl, rfl, c _, _, rfl, _, rfl, _, _, rfl, rfl, c _, (by show 2 ≤ sizeLine; decide), fun p hp => ?_⟩
      exact k p _ (same_new hp) hp upd_same
    refine ⟨_, (pss_cons (ps_set (i := 2) sc_l_low.nd rfl (Or.inl rfl) (pe_call (ok_l_gcd T) (hr.mono (by omega)) rfl T.D_l_gcd.g T.D_l_gcd.F.kp T.D_l_gcd.b .nil pass0 (pa_cons (pv 0) (pa_cons (pv 1) pa_nil))))
    (pss_cons (ps_if (pt_cmpR op_lt (pv 1) pe_int (nomark _)) (pss_one (ps_set (i := 2) sc_l_low.nd rfl (Or.inl rfl) (pe_op op_sub pe_int (pv 2)))) pss_nil)
    (pss_one (ps_ret (pe_tup (pa_cons (pe_op op_fdivZ (pv 0) (pv 2)) (pa_cons (pe_op op_fdivZ (pv 1) (pv 2)) pa_nil))))))), ?_⟩
    refine ⟨_, rfl, _, rfl, n, d, rfl, Nat.lt_of_lt_of_le hn (Nat.pow_le_pow_right (by decide) (by decide)), Nat.lt_of_lt_of_le hb (Nat.pow_le_pow_right (by decide) (by decide)), ?_⟩
    refine ⟨_, rfl, _, _, rfl, rfl, _, rfl, iteD (fun hneg => ?_) (fun hneg => ?_)⟩
    · refine ⟨_, rfl, _, _, rfl, rfl, ?_⟩
      exact low _ (by unfold sg; rw [if_pos hneg]; omega)
    · exact low _ (by unfold sg; rw [if_neg hneg])
end
section
variable {P : Program} {w : World} {K : PySem.W.Frag} {mg : Str → Option Value} {base : Heap}
theorem ok_is_whole (T : Txt K mg) : FnOk P w K mg base CX0 1 T.f_is_whole T.fd_is_whole ["value"] (spWhole K) := by
  refine T.D_is_whole.F.ok sc_is_whole (fun vs H Q E h => ?_) (fun cdv A outer s H vs Q E hr h => ?_)
  · obtain ⟨x, t, rfl, _⟩ := h
    rfl
  · obtain ⟨x, t, rfl, ty, mem, k⟩ := h
    refine ⟨_, (pss_one (ps_ret (pe_and (pe_callB call_isi (by rfl) T.isinstance PyProof.Rows.boot_isinstance (pa_cons (pv 0) (pa_cons (pe_bltn (v := .ty "int") (by rfl) T.int PyProof.Rows.boot_int rfl) pa_nil))) (pe_one (pe_not (pe_callB call_isi (by rfl) T.isinstance PyProof.Rows.boot_isinstance (pa_cons (pv 0) (pa_cons (pe_bltn (v := .ty "bool") (by rfl) T.bool PyProof.Rows.boot_bool rfl) pa_nil)))))))), ?_⟩
    simp only [tys, List.mem_cons, List.not_mem_nil, or_false] at mem
    rcases mem with rfl | rfl | rfl | rfl | rfl | rfl
    · exact ⟨_, rfl, _, _, _, _, true, rfl, .ty "int", ty, kit_ty (by decide +kernel), true, rfl, iteT ⟨_, rfl, _, _, _, _, false, rfl, .ty "bool", ty, kit_ty (by decide +kernel), false, rfl, k⟩⟩
    · exact ⟨_, rfl, _, _, _, _, true, rfl, .ty "int", ty, kit_ty (by decide +kernel), true, rfl, iteT ⟨_, rfl, _, _, _, _, true, rfl, .ty "bool", ty, kit_ty (by decide +kernel), true, rfl, k⟩⟩
    all_goals exact ⟨_, rfl, _, _, _, _, false, rfl, .ty "int", ty, kit_ty (by decide +kernel), false, rfl, iteF k⟩
/-- is_rational, by what stands in x -/
inductive RatV (K : PySem.W.Frag) (H : Hp) : V → Bool → Prop where
  | other {x : V} {t : String} (ty : TyX K H x (.type t)) (m : t ∈ tys) (n : t ≠ "tuple") : RatV K H x false
  | size {a : Addr} {xs : List V} (h : H a = some (.tup xs)) (n : (xs.length : Int) ≠ 2) : RatV K H (.ref a) false
  | left {a : Addr} {x y : V} {t : String} (h : H a = some (.tup [x, y])) (ty : TyX K H x (.type t)) (m : t ∈ tys) (n : t ≠ "int") : RatV K H (.ref a) false
  | right {a : Addr} {x : Int} {y : V} {t : String} (h : H a = some (.tup [.int x, y])) (ty : TyX K H y (.type t)) (m : t ∈ tys) (n : t ≠ "int") : RatV K H (.ref a) false
  | pair {a : Addr} {n d : Int} (h : H a = some (.tup [.int n, .int d])) : RatV K H (.ref a) (decide (1 ≤ d) && decide (Nat.gcd n.natAbs d.natAbs = 1))
def spIsRat (K : PySem.W.Frag) : Sp := fun vs H Q _ => ∃ (x : V) (b : Bool), vs = [x] ∧ RatV K H x b ∧ Q (.bl b) H
theorem ok_is_rational (T : Txt K mg) : FnOk P w K mg base CX0 2 T.f_is_rational T.fd_is_rational ["x"] (spIsRat K) := by
  refine T.D_is_rational.F.ok sc_is_rational (fun vs H Q E h => ?_) (fun cdv A outer s H vs Q E hr h => ?_)
  · obtain ⟨x, b, rfl, _⟩ := h
    rfl
  · obtain ⟨x, b, rfl, hR, k⟩ := h
    refine ⟨_, (pss_cons (ps_if (PW.pt (pw_or (pt_not (pt_val (pe_callB call_isi (by rfl) T.isinstance PyProof.Rows.boot_isinstance (pa_cons (pv 0) (pa_cons (pe_bltn (v := .ty "tuple") (by rfl) T.tuple PyProof.Rows.boot_tuple rfl) pa_nil))))) (pw_or1 (pt_cmpR op_ne (pe_callB call_len_seq (by rfl) T.len PySem.boot_len (pa_cons (pv 0) pa_nil)) pe_int (nomark _))))) (pss_one (ps_ret pe_bl)) pss_nil)
    (pss_cons (ps_asg (pv 0) (pg_tup (by rfl) (pgs_cons (pg_name (i := 1) sc_is_rational.nd rfl (Or.inl rfl)) (pgs_cons (pg_name (i := 2) sc_is_rational.nd rfl (Or.inl rfl)) pgs_nil))))
    (pss_one (ps_ret (pe_and (pe_call (ok_is_whole T) (hr.mono (by omega)) rfl T.D_is_whole.g T.D_is_whole.F.kp T.D_is_whole.b .nil pass0 (pa_cons (pv 1) pa_nil)) (pe_and (pe_call (ok_is_whole T) (hr.mono (by omega)) rfl T.D_is_whole.g T.D_is_whole.F.kp T.D_is_whole.b .nil pass0 (pa_cons (pv 2) pa_nil)) (pe_and (pe_cmpR op_ge (pv 2) pe_int (nomark _)) (pe_one (pe_cmpR op_eq (pe_callBfun cr_gcd (by rfl) T.gcd (pa_cons (pv 1) (pa_cons (pv 2) pa_nil))) pe_int (nomark _)))))))))), ?_⟩
    have mi : "int" ∈ tys := by decide
    cases hR with
    | other ty m n =>
      rename_i t
      refine ⟨_, rfl, _, _, _, _, false, rfl, .ty "tuple", ty, kit_ty ?_, false, rfl, iteT (iteT k)⟩
      simp only [tys, List.mem_cons, List.not_mem_nil, or_false] at m
      rcases m with rfl | rfl | rfl | rfl | rfl | rfl
      all_goals first | exact absurd rfl n | decide +kernel
    | size h n =>
      refine ⟨_, rfl, _, _, _, _, true, rfl, .ty "tuple", ty_tup h, kit_ty (by decide +kernel), true, rfl, iteF ⟨_, rfl, _, _, rfl, .inr (SqT.of h), rfl, _, rfl, iteN1 (fun e => n ?_) k⟩⟩
      injection e
    | left h ty m n =>
      refine ⟨_, rfl, _, _, _, _, true, rfl, .ty "tuple", ty_tup h, kit_ty (by decide +kernel), true, rfl, iteF ⟨_, rfl, _, _, rfl, .inr (SqT.of h), rfl, _, rfl, iteNS rfl ?_⟩⟩
      refine ⟨_, rfl, _, _, rfl, SqT.of h, rfl, _, _, rfl, _, _, rfl, rfl, ?_⟩
      refine ⟨_, rfl, _, _, rfl, ty, m, _, rfl, iteD0 n k⟩
    | right h ty m n =>
      refine ⟨_, rfl, _, _, _, _, true, rfl, .ty "tuple", ty_tup h, kit_ty (by decide +kernel), true, rfl, iteF ⟨_, rfl, _, _, rfl, .inr (SqT.of h), rfl, _, rfl, iteNS rfl ?_⟩⟩
      refine ⟨_, rfl, _, _, rfl, SqT.of h, rfl, _, _, rfl, _, _, rfl, rfl, ?_⟩
      refine ⟨_, rfl, _, _, rfl, ty_int _, mi, _, rfl, iteD1 rfl ⟨_, rfl, _, _, rfl, ty, m, _, rfl, iteD0 n k⟩⟩
    | pair h =>
      rename_i a n d
      refine ⟨_, rfl, _, _, _, _, true, rfl, .ty "tuple", ty_tup h, kit_ty (by decide +kernel), true, rfl, iteF ⟨_, rfl, _, _, rfl, .inr (SqT.of h), rfl, _, rfl, iteNS rfl ?_⟩⟩
      refine ⟨_, rfl, _, _, rfl, SqT.of h, rfl, _, _, rfl, _, _, rfl, rfl, ?_⟩
      refine ⟨_, rfl, _, _, rfl, ty_int _, mi, _, rfl, iteD1 rfl ⟨_, rfl, _, _, rfl, ty_int _, mi, _, rfl, iteD1 rfl ⟨_, rfl, _, _, rfl, rfl, _, rfl, iteD (fun h1 => ?_) (fun h1 => ?_)⟩⟩⟩
      · refine ⟨_, rfl, _, rfl, n, d, rfl, rfl, ?_⟩
        have e : decide (V.int ((Nat.gcd n.natAbs d.natAbs : Nat) : Int) = V.int 1) = (decide (1 ≤ d) && decide (Nat.gcd n.natAbs d.natAbs = 1)) := by
          rw [decide_eq_true h1, Bool.true_and]
          refine decide_eq_decide.mpr ⟨fun q => ?_, fun q => by rw [q]; rfl⟩
          injection q with q'
          omega
        rw [e]
        exact k
      · rw [decide_eq_false h1, Bool.false_and] at k
        exact k
end
section
variable {P : Program} {w : World} {K : PySem.W.Frag} {mg : Str → Option Value} {base : Heap}
/-! ### errors, rationals -/
theorem ok_init {C Od fI : Addr} {fdI : FuncData} (B : BadT K mg C Od fI fdI s_init) : FnOk P w K mg base CX0 1 fI fdI ["self", "name"] (spInit C) := by
  refine B.FI.ok sc_init (fun vs H Q E h => ?_) (fun cdv A outer s H vs Q E hr h => ?_)
  · obtain ⟨a, z, rfl, _⟩ := h
    rfl
  · obtain ⟨a, z, rfl, ha, k⟩ := h
    refine ⟨_, pss_one (ps_ost (pv 0) (pv 1)), ?_⟩
    exact ⟨_, rfl, _, rfl, a, C, rfl, B.O, B.no, .inl ⟨ha, fun dx h1 h2 => k dx h1 h2⟩⟩
/-- ratio: a new pair in lowest terms; BadValue("d") -/
def spRatio (C : Addr) : Sp := fun vs H Q E => ∃ n d : Int, vs = [.int n, .int d] ∧ d.natAbs < 2 ^ 9000 ∧
  (d ≠ 0 → ∀ (p : Addr) (H' : Hp), Same H H' → H p = none → H' p = some (.tup [.int (lo1 n d), .int (lo2 n d)]) → Q (.ref p) H') ∧
  (d = 0 → ∀ dx, H dx = none → E (.ref C) (some dx) (upd H dx (.xd [(("name" : Str), .str "d")])))
theorem ok_ratio (T : Txt K mg) : FnOk P w K mg base (L2.CX P w) 3 T.f_ratio T.fd_ratio ["n", "d"] (spRatio T.c_BadValue) := by
  refine T.D_ratio.F.okX sc_ratio (fun vs H Q E h => ?_) (fun cdv A outer s H vs Q E hr h => ?_)
  · obtain ⟨n, d, rfl, _⟩ := h
    rfl
  · obtain ⟨n, d, rfl, hb, kQ, kE⟩ := h
    have low : d ≠ 0 → ∀ g : Int, g = sg n d → (tRet (tTup (tCons (tOp (rI CDivZ fun i j => .int (i.fdiv j)) (tVar 0) (tVar 2)) (tCons (tOp (rI CDivZ fun i j => .int (i.fdiv j)) (tVar 1) (tVar 2)) tNil)))) { nx := fun _ H' => Q .non H', rt := Q } [some (.int n), some (.int d), some (.int g)] H := by
      rintro hd g rfl
      have c : ∀ x, CDivZ x (sg n d) := fun x => cdivz (sg_ne hd) (sg_size hd hb) (Nat.le_refl _)
      refine ⟨_, rfl, _, rfl, _, _, rfl, rfl, c _, _, rfl, _, rfl, _, _, rfl, rfl, c _, (by show 2 ≤ sizeLine; decide), fun p hp => ?_⟩
      exact kQ hd p _ (same_new hp) hp upd_same
    refine ⟨_, (pss_cons (ps_if (pt_cmpR op_eq (pv 1) pe_int (nomark _)) (pss_one (ps_raise rfl (takes_of rfl rfl rfl rfl) (pmk_oex T.B.O T.B.iC T.B.tI (ok_init T.B) (hr.mono (by omega)) T.B.bI .nil pass0 rfl T.B.gC (pa_cons pe_str pa_nil)))) pss_nil)
    (pss_cons (ps_set (i := 2) sc_ratio.nd rfl (Or.inl rfl) (pe_callBfun cr_gcd (by rfl) T.gcd (pa_cons (pv 0) (pa_cons (pv 1) pa_nil))))
    (pss_cons (ps_if (pt_cmpR op_lt (pv 1) pe_int (nomark _)) (pss_one (ps_set (i := 2) sc_ratio.nd rfl (Or.inl rfl) (pe_un un_neg (pv 2)))) pss_nil)
    (pss_one (ps_ret (pe_tup (pa_cons (pe_op op_fdivZ (pv 0) (pv 2)) (pa_cons (pe_op op_fdivZ (pv 1) (pv 2)) pa_nil)))))))), ?_⟩
    refine ⟨_, rfl, rfl, _, rfl, ite2 (fun hz => ?_) (fun hz => ?_)⟩
    · have hd : d = 0 := by
        have h1 := of_decide_eq_true hz
        injection h1
      refine ⟨by decide, fun a ha => ⟨a, _, rfl, upd_same, fun dx h1 h2 => ⟨rfl, dx, _, upd_same, by rw [upd_ne h2, upd_same], ?_, ?_⟩⟩⟩
      · rw [upd_ne h2] at h1
        exact h1
      · rw [upd_ne h2] at h1
        have := kE hd dx h1
        rw [made_eq ha h2]
        exact this
    · have hd : d ≠ 0 := fun q => hz (by subst q; exact decide_eq_true rfl)
      refine ⟨_, rfl, _, rfl, n, d, rfl, ?_⟩
      refine ⟨_, rfl, _, _, rfl, rfl, _, rfl, iteD (fun hneg => ?_) (fun hneg => ?_)⟩
      · refine ⟨_, rfl, _, rfl, ?_⟩
        exact low hd _ (by unfold sg; rw [if_pos hneg])
      · exact low hd _ (by unfold sg; rw [if_neg hneg])
end
/-! ### rationals -/
/-- two pairs of ints in, one new pair in lowest terms out -/
def spBin (N D : Int → Int → Int → Int → Int) : Sp := fun vs H Q _ => ∃ (p q : Addr) (a b c d : Int), vs = [.ref p, .ref q] ∧ H p = some (.tup [.int a, .int b]) ∧ H q = some (.tup [.int c, .int d]) ∧
  D a b c d ≠ 0 ∧ a.natAbs < 2 ^ 4000 ∧ b.natAbs < 2 ^ 4000 ∧ c.natAbs < 2 ^ 4000 ∧ d.natAbs < 2 ^ 4000 ∧
  ∀ (r : Addr) (H' : Hp), Same H H' → H r = none → H' r = some (.tup [.int (lo1 (N a b c d) (D a b c d)), .int (lo2 (N a b c d) (D a b c d))]) → Q (.ref r) H'
def nPlus (a b c d : Int) : Int := a * d + c * b
def nMinus (a b c d : Int) : Int := a * d - c * b
def nTimes (a _ c _ : Int) : Int := a * c
def dBoth (_ b _ d : Int) : Int := b * d
theorem add_up {i j : Int} (a : Nat) {c : Nat} (ha : i.natAbs < 2 ^ a) (hb : j.natAbs < 2 ^ a) (hc : a + 1 ≤ c := by decide) : (i + j).natAbs < 2 ^ c := by
  have h := Int.natAbs_add_le i j
  have e : 2 ^ (a + 1) = 2 ^ a + 2 ^ a := by rw [Nat.pow_succ]; omega
  exact Nat.lt_of_lt_of_le (by omega : (i + j).natAbs < 2 ^ (a + 1)) (Nat.pow_le_pow_right (by decide) hc)
theorem sub_up {i j : Int} (a : Nat) {c : Nat} (ha : i.natAbs < 2 ^ a) (hb : j.natAbs < 2 ^ a) (hc : a + 1 ≤ c := by decide) : (i - j).natAbs < 2 ^ c := by
  rw [Int.sub_eq_add_neg]
  exact add_up a ha (by rw [Int.natAbs_neg]; exact hb) hc
/-- a draw of a rational with a part below top, the other one to most -/
def spDraw : Sp := fun vs H Q _ => ∃ (s : Addr) (t m : Int), vs = [.ref s, .int t, .int m] ∧ Strm H s ∧ 0 < t ∧ 0 < m ∧ t.natAbs < 2 ^ 1000 ∧ m.natAbs < 2 ^ 1000 ∧
  ∀ (p : Addr) (H' : Hp) (n d : Int), 1 ≤ d → Nat.gcd n.natAbs d.natAbs = 1 → n.natAbs ≤ t.natAbs → d ≤ m → Strm H' s → Keep s H H' → H p = none → p ≠ s → H' p = some (.tup [.int n, .int d]) → Q (.ref p) H'
section
variable {P : Program} {w : World} {K : PySem.W.Frag} {mg : Str → Option Value} {base : Heap}
theorem ok_l_plus (T : Txt K mg) : FnOk P w K mg base CX0 3 T.f_l_plus T.fd_l_plus ["a", "b"] (spBin nPlus dBoth) := by
  refine T.D_l_plus.F.ok sc_l_plus (fun vs H Q E h => ?_) (fun cdv A outer s H vs Q E hr h => ?_)
  · obtain ⟨p, q, a, b, c, d, rfl, _⟩ := h
    rfl
  · obtain ⟨p, q, a, b, c, d, rfl, hp, hq, hD, ha, hb, hc, hd, k⟩ := h
    refine ⟨_, (pss_one (ps_ret (pe_call (ok_l_low T) (hr.mono (by omega)) rfl T.D_l_low.g T.D_l_low.F.kp T.D_l_low.b .nil pass0 (pa_cons (pe_op op_add (pe_op op_mulW (pe_ix (r := rIxT K) ix_tup (pv 0) pe_int (fun _ _ => rfl)) (pe_ix (r := rIxT K) ix_tup (pv 1) pe_int (fun _ _ => rfl))) (pe_op op_mulW (pe_ix (r := rIxT K) ix_tup (pv 1) pe_int (fun _ _ => rfl)) (pe_ix (r := rIxT K) ix_tup (pv 0) pe_int (fun _ _ => rfl)))) (pa_cons (pe_op op_mulW (pe_ix (r := rIxT K) ix_tup (pv 0) pe_int (fun _ _ => rfl)) (pe_ix (r := rIxT K) ix_tup (pv 1) pe_int (fun _ _ => rfl))) pa_nil))))), ?_⟩
    refine ⟨_, rfl, _, _, _, _, rfl, rfl, SqT.of hp, rfl, _, rfl, _, _, _, _, rfl, rfl, SqT.of hq, rfl, _, _, rfl, rfl, cmulw ha hd (by decide), ?_⟩
    refine ⟨_, rfl, _, _, _, _, rfl, rfl, SqT.of hq, rfl, _, rfl, _, _, _, _, rfl, rfl, SqT.of hp, rfl, _, _, rfl, rfl, cmulw hc hb (by decide), _, _, rfl, rfl, ?_⟩
    refine ⟨_, rfl, _, _, _, _, rfl, rfl, SqT.of hp, rfl, _, rfl, _, _, _, _, rfl, rfl, SqT.of hq, rfl, _, _, rfl, rfl, cmulw hb hd (by decide), ?_⟩
    exact ⟨nPlus a b c d, dBoth a b c d, rfl, hD, add_up 8000 (mul_up 4000 4000 ha hd) (mul_up 4000 4000 hc hb), mul_up 4000 4000 hb hd, k⟩
theorem ok_l_times (T : Txt K mg) : FnOk P w K mg base CX0 3 T.f_l_times T.fd_l_times ["a", "b"] (spBin nTimes dBoth) := by
  refine T.D_l_times.F.ok sc_l_times (fun vs H Q E h => ?_) (fun cdv A outer s H vs Q E hr h => ?_)
  · obtain ⟨p, q, a, b, c, d, rfl, _⟩ := h
    rfl
  · obtain ⟨p, q, a, b, c, d, rfl, hp, hq, hD, ha, hb, hc, hd, k⟩ := h
    refine ⟨_, (pss_one (ps_ret (pe_call (ok_l_low T) (hr.mono (by omega)) rfl T.D_l_low.g T.D_l_low.F.kp T.D_l_low.b .nil pass0 (pa_cons (pe_op op_mulW (pe_ix (r := rIxT K) ix_tup (pv 0) pe_int (fun _ _ => rfl)) (pe_ix (r := rIxT K) ix_tup (pv 1) pe_int (fun _ _ => rfl))) (pa_cons (pe_op op_mulW (pe_ix (r := rIxT K) ix_tup (pv 0) pe_int (fun _ _ => rfl)) (pe_ix (r := rIxT K) ix_tup (pv 1) pe_int (fun _ _ => rfl))) pa_nil))))), ?_⟩
    refine ⟨_, rfl, _, _, _, _, rfl, rfl, SqT.of hp, rfl, _, rfl, _, _, _, _, rfl, rfl, SqT.of hq, rfl, _, _, rfl, rfl, cmulw ha hc (by decide), ?_⟩
    refine ⟨_, rfl, _, _, _, _, rfl, rfl, SqT.of hp, rfl, _, rfl, _, _, _, _, rfl, rfl, SqT.of hq, rfl, _, _, rfl, rfl, cmulw hb hd (by decide), ?_⟩
    exact ⟨nTimes a b c d, dBoth a b c d, rfl, hD, mul_up 4000 4000 ha hc, mul_up 4000 4000 hb hd, k⟩
theorem ok_l_ratio (T : Txt K mg) : FnOk P w K mg base CX0 3 T.f_l_ratio T.fd_l_ratio ["stream", "top", "most"] spDraw := by
  refine T.D_l_ratio.F.ok sc_l_ratio (fun vs H Q E h => ?_) (fun cdv A outer s H vs Q E hr h => ?_)
  · obtain ⟨s, t, m, rfl, _⟩ := h
    rfl
  · obtain ⟨s, t, m, rfl, hs, ht, hm, bt, bm, k⟩ := h
    have b2 : (2 * t + 1).natAbs < 2 ^ 1003 := add_up 1002 (mul_up 2 1000 (show (2 : Int).natAbs < 2 ^ 2 by decide) bt) (up 1 (by decide))
    refine ⟨_, (pss_cons (ps_set (i := 3) sc_l_ratio.nd rfl (Or.inl rfl) (pe_op op_sub (pe_call (ok_l_next T) (hr.mono (by omega)) rfl T.D_l_next.g T.D_l_next.F.kp T.D_l_next.b .nil pass0 (pa_cons (pv 0) (pa_cons (pe_op op_add (pe_op op_mul pe_int (pv 1)) pe_int) pa_nil))) (pv 1)))
    (pss_one (ps_ret (pe_call (ok_l_low T) (hr.mono (by omega)) rfl T.D_l_low.g T.D_l_low.F.kp T.D_l_low.b .nil pass0 (pa_cons (pv 3) (pa_cons (pe_op op_add pe_int (pe_call (ok_l_next T) (hr.mono (by omega)) rfl T.D_l_next.g T.D_l_next.F.kp T.D_l_next.b .nil pass0 (pa_cons (pv 0) (pa_cons (pv 2) pa_nil)))) pa_nil)))))), ?_⟩
    refine ⟨_, rfl, _, rfl, _, _, rfl, rfl, .inl ⟨by decide, by decide⟩, _, _, rfl, rfl, s, 2 * t + 1, rfl, hs, by omega, up 1003 b2, fun d0 H1 a0 b0 hs1 k1 => ?_⟩
    refine ⟨_, rfl, _, _, rfl, rfl, ?_⟩
    refine ⟨_, rfl, _, rfl, _, rfl, s, m, rfl, hs1, hm, up 1000 bm, fun d1 H2 a1 b1 hs2 k2 => ⟨_, _, rfl, rfl, ?_⟩⟩
    have nz : (1 + d1 : Int) ≠ 0 := by omega
    have bn : (d0 - t).natAbs ≤ t.natAbs := by omega
    have bd : (1 + d1).natAbs ≤ m.natAbs := by omega
    refine ⟨d0 - t, 1 + d1, rfl, nz, up 1000 (Nat.lt_of_le_of_lt bn bt), up 1000 (Nat.lt_of_le_of_lt bd bm), fun p H3 e3 hn hp => ?_⟩
    have hk := k1.trans k2
    have f : ∀ {b : Addr} {o : HO}, H b = some o → b ≠ s → H3 b = some o := fun h n => e3 _ _ (hk _ _ h n)
    have ps : p ≠ s := by
      obtain ⟨_, _, _, _, h, _⟩ := hs2
      exact (ne_of_none h hn).symm
    refine k p H3 _ _ (lo2_pos nz) (lo_gcd nz) (Nat.le_trans (lo1_size nz) bn) ?_ (hs2.same e3) (fun b o h n => f h n) ?_ ps hp
    · have h1 := lo2_size (n := d0 - t) nz
      have h2 := lo2_pos (n := d0 - t) nz
      omega
    · cases z : H p with
      | none => rfl
      | some o =>
        rw [hk _ _ z ps] at hn
        cases hn
theorem ok_minus (T : Txt K mg) : FnOk P w K mg base CX0 4 T.f_minus T.fd_minus ["a", "b"] (spBin nMinus dBoth) := by
  refine T.D_minus.F.ok sc_minus (fun vs H Q E h => ?_) (fun cdv A outer s H vs Q E hr h => ?_)
  · obtain ⟨p, q, a, b, c, d, rfl, _⟩ := h
    rfl
  · obtain ⟨p, q, a, b, c, d, rfl, hp, hq, hD, ha, hb, hc, hd, k⟩ := h
    refine ⟨_, (pss_one (ps_ret (pe_call (ok_ratio T) (hr.mono (by omega)) rfl T.D_ratio.g T.D_ratio.F.kp T.D_ratio.b .nil passL (pa_cons (pe_op op_sub (pe_op op_mulW (pe_ix (r := rIxT K) ix_tup (pv 0) pe_int (fun _ _ => rfl)) (pe_ix (r := rIxT K) ix_tup (pv 1) pe_int (fun _ _ => rfl))) (pe_op op_mulW (pe_ix (r := rIxT K) ix_tup (pv 1) pe_int (fun _ _ => rfl)) (pe_ix (r := rIxT K) ix_tup (pv 0) pe_int (fun _ _ => rfl)))) (pa_cons (pe_op op_mulW (pe_ix (r := rIxT K) ix_tup (pv 0) pe_int (fun _ _ => rfl)) (pe_ix (r := rIxT K) ix_tup (pv 1) pe_int (fun _ _ => rfl))) pa_nil))))), ?_⟩
    refine ⟨_, rfl, _, _, _, _, rfl, rfl, SqT.of hp, rfl, _, rfl, _, _, _, _, rfl, rfl, SqT.of hq, rfl, _, _, rfl, rfl, cmulw ha hd (by decide), ?_⟩
    refine ⟨_, rfl, _, _, _, _, rfl, rfl, SqT.of hq, rfl, _, rfl, _, _, _, _, rfl, rfl, SqT.of hp, rfl, _, _, rfl, rfl, cmulw hc hb (by decide), _, _, rfl, rfl, ?_⟩
    refine ⟨_, rfl, _, _, _, _, rfl, rfl, SqT.of hp, rfl, _, rfl, _, _, _, _, rfl, rfl, SqT.of hq, rfl, _, _, rfl, rfl, cmulw hb hd (by decide), ?_⟩
    exact ⟨nMinus a b c d, dBoth a b c d, rfl, up 8000 (mul_up 4000 4000 hb hd), fun _ => k, fun z => absurd z hD⟩
theorem ok_times (T : Txt K mg) : FnOk P w K mg base CX0 4 T.f_times T.fd_times ["a", "b"] (spBin nTimes dBoth) := by
  refine T.D_times.F.ok sc_times (fun vs H Q E h => ?_) (fun cdv A outer s H vs Q E hr h => ?_)
  · obtain ⟨p, q, a, b, c, d, rfl, _⟩ := h
    rfl
  · obtain ⟨p, q, a, b, c, d, rfl, hp, hq, hD, ha, hb, hc, hd, k⟩ := h
    refine ⟨_, (pss_one (ps_ret (pe_call (ok_ratio T) (hr.mono (by omega)) rfl T.D_ratio.g T.D_ratio.F.kp T.D_ratio.b .nil passL (pa_cons (pe_op op_mulW (pe_ix (r := rIxT K) ix_tup (pv 0) pe_int (fun _ _ => rfl)) (pe_ix (r := rIxT K) ix_tup (pv 1) pe_int (fun _ _ => rfl))) (pa_cons (pe_op op_mulW (pe_ix (r := rIxT K) ix_tup (pv 0) pe_int (fun _ _ => rfl)) (pe_ix (r := rIxT K) ix_tup (pv 1) pe_int (fun _ _ => rfl))) pa_nil))))), ?_⟩
    refine ⟨_, rfl, _, _, _, _, rfl, rfl, SqT.of hp, rfl, _, rfl, _, _, _, _, rfl, rfl, SqT.of hq, rfl, _, _, rfl, rfl, cmulw ha hc (by decide), ?_⟩
    refine ⟨_, rfl, _, _, _, _, rfl, rfl, SqT.of hp, rfl, _, rfl, _, _, _, _, rfl, rfl, SqT.of hq, rfl, _, _, rfl, rfl, cmulw hb hd (by decide), ?_⟩
    exact ⟨nTimes a b c d, dBoth a b c d, rfl, up 8000 (mul_up 4000 4000 hb hd), fun _ => k, fun z => absurd z hD⟩
end
/-! ### equal data -/
/-- x and y are the same data, n levels of tuples and lists deep at most -/
def Eqv0 (x y : V) : Prop := (x = .non ∧ y = .non) ∨ (∃ b, x = .bl b ∧ y = .bl b) ∨ (∃ i, x = .int i ∧ y = .int i) ∨ (∃ s, x = .str s ∧ y = .str s)
def Eqv : Nat → Hp → V → V → Prop
  | 0, _, x, y => Eqv0 x y
  | n + 1, H, x, y => Eqv0 x y ∨ ∃ (a b : Addr) (xs ys : List V), x = .ref a ∧ y = .ref b ∧ ((H a = some (.tup xs) ∧ H b = some (.tup ys)) ∨ (H a = some (.lst xs) ∧ H b = some (.lst ys))) ∧
      xs.length = ys.length ∧ xs.length < 1000 ∧ ∀ (i : Nat) (u v : V), xs[i]? = some u → ys[i]? = some v → Eqv n H u v
theorem Eqv.same {n : Nat} {H H' : Hp} {x y : V} (e : Same H H') (h : Eqv n H x y) : Eqv n H' x y := by
  induction n generalizing x y with
  | zero => exact h
  | succ n ih =>
    rcases h with h | ⟨a, b, xs, ys, hx, hy, hab, hl, hz, hi⟩
    · exact Or.inl h
    · exact Or.inr ⟨a, b, xs, ys, hx, hy, hab.elim (fun z => Or.inl ⟨e _ _ z.1, e _ _ z.2⟩) (fun z => Or.inr ⟨e _ _ z.1, e _ _ z.2⟩), hl, hz, fun i u v h1 h2 => ih (hi i u v h1 h2)⟩
theorem Eqv.up {n : Nat} {H : Hp} {x y : V} (h : Eqv0 x y) : Eqv n H x y := by
  cases n with
  | zero => exact h
  | succ n => exact Or.inl h
theorem eqv_int {n : Nat} {H : Hp} {i : Int} : Eqv n H (.int i) (.int i) := .up (Or.inr (Or.inr (Or.inl ⟨i, rfl, rfl⟩)))
theorem eqv_bl {n : Nat} {H : Hp} {b : Bool} : Eqv n H (.bl b) (.bl b) := .up (Or.inr (Or.inl ⟨b, rfl, rfl⟩))
theorem eqv_str {n : Nat} {H : Hp} {s : Str} : Eqv n H (.str s) (.str s) := .up (Or.inr (Or.inr (Or.inr ⟨s, rfl, rfl⟩)))
theorem eqv_non {n : Nat} {H : Hp} : Eqv n H .non .non := .up (Or.inl ⟨rfl, rfl⟩)
/-- two pairs with equal parts -/
theorem eqv_pair {n : Nat} {H : Hp} {a b : Addr} {x0 x1 y0 y1 : V} (ha : H a = some (.tup [x0, x1])) (hb : H b = some (.tup [y0, y1])) (h0 : Eqv n H x0 y0) (h1 : Eqv n H x1 y1) : Eqv (n + 1) H (.ref a) (.ref b) :=
  Or.inr ⟨a, b, _, _, rfl, rfl, Or.inl ⟨ha, hb⟩, rfl, by show 2 < 1000; decide, fun i u v hu hv => by
    match i, hu, hv with
    | 0, hu, hv => cases hu; cases hv; exact h0
    | 1, hu, hv => cases hu; cases hv; exact h1
    | j + 2, hu, hv => simp at hu⟩
def spEq (n : Nat) : Sp := fun vs H Q _ => ∃ x y : V, vs = [x, y] ∧ Eqv n H x y ∧ ∀ H', Same H H' → Q (.bl true) H'
section
variable {P : Program} {w : World} {K : PySem.W.Frag} {mg : Str → Option Value} {base : Heap}
theorem ok_l_equal (T : Txt K mg) : ∀ n : Nat, FnOk P w K mg base CX0 (n + 2) T.f_l_equal T.fd_l_equal ["actual", "due"] (spEq n) := by
  intro n
  induction n with
  | zero =>
    refine T.D_l_equal.F.ok sc_l_equal (fun vs H Q E h => ?_) (fun cdv A outer s H vs Q E hr h => ?_)
    · obtain ⟨x, y, rfl, _⟩ := h
      rfl
    · obtain ⟨x, y, rfl, hE, k⟩ := h
      have k0 := k H (Same.refl H)
      have ih : FnOk P w K mg base CX0 0 T.f_l_equal T.fd_l_equal ["actual", "due"] (fun _ _ _ _ => False) := ⟨fun _ _ _ _ z => z.elim, fun _ _ _ _ _ _ _ _ _ _ _ _ _ z => z.elim⟩
      refine ⟨_, (pss_cons (ps_if (pt_cmpR op_isN (pv 1) pe_non (nomark _)) (pss_one (ps_ret (pe_cmpR op_isN (pv 0) pe_non (nomark _)))) pss_nil)
    (pss_cons (ps_if (pt_val (pe_callB call_isi (by rfl) T.isinstance PyProof.Rows.boot_isinstance (pa_cons (pv 1) (pa_cons (pe_bltn (v := .ty "bool") (by rfl) T.bool PyProof.Rows.boot_bool rfl) pa_nil)))) (pss_one (ps_ret (pe_and (pe_callB call_isi (by rfl) T.isinstance PyProof.Rows.boot_isinstance (pa_cons (pv 0) (pa_cons (pe_bltn (v := .ty "bool") (by rfl) T.bool PyProof.Rows.boot_bool rfl) pa_nil))) (pe_one (pe_cmpR op_eq (pv 0) (pv 1) (nomark _)))))) pss_nil)
    (pss_cons (ps_if (pt_val (pe_callB call_isi (by rfl) T.isinstance PyProof.Rows.boot_isinstance (pa_cons (pv 1) (pa_cons (pe_bltn (v := .ty "int") (by rfl) T.int PyProof.Rows.boot_int rfl) pa_nil)))) (pss_one (ps_ret (pe_and (pe_call (ok_l_is_integer T) (hr.mono (by omega)) rfl T.D_l_is_integer.g T.D_l_is_integer.F.kp T.D_l_is_integer.b .nil pass0 (pa_cons (pv 0) pa_nil)) (pe_one (pe_cmpR op_eq (pv 0) (pv 1) (nomark _)))))) pss_nil)
    (pss_cons (ps_if (pt_val (pe_callB call_isi (by rfl) T.isinstance PyProof.Rows.boot_isinstance (pa_cons (pv 1) (pa_cons (pe_bltn (v := .ty "str") (by rfl) T.str PyProof.Rows.boot_str rfl) pa_nil)))) (pss_one (ps_ret (pe_and (pe_callB call_isi (by rfl) T.isinstance PyProof.Rows.boot_isinstance (pa_cons (pv 0) (pa_cons (pe_bltn (v := .ty "str") (by rfl) T.str PyProof.Rows.boot_str rfl) pa_nil))) (pe_one (pe_cmpR op_eq (pv 0) (pv 1) (nomark _)))))) pss_nil)
    (pss_cons (ps_if (PW.pt (pw_and (pt_val (pe_callB call_isi (by rfl) T.isinstance PyProof.Rows.boot_isinstance (pa_cons (pv 1) (pa_cons (pe_bltn (v := .ty "tuple") (by rfl) T.tuple PyProof.Rows.boot_tuple rfl) pa_nil)))) (pw_and1 (pt_not (pt_val (pe_callB call_isi (by rfl) T.isinstance PyProof.Rows.boot_isinstance (pa_cons (pv 0) (pa_cons (pe_bltn (v := .ty "tuple") (by rfl) T.tuple PyProof.Rows.boot_tuple rfl) pa_nil)))))))) (pss_one (ps_ret pe_bl)) pss_nil)
    (pss_cons (ps_if (PW.pt (pw_and (pt_val (pe_callB call_isi (by rfl) T.isinstance PyProof.Rows.boot_isinstance (pa_cons (pv 1) (pa_cons (pe_bltn (v := .ty "list") (by rfl) T.list PyProof.Rows.boot_list rfl) pa_nil)))) (pw_and1 (pt_not (pt_val (pe_callB call_isi (by rfl) T.isinstance PyProof.Rows.boot_isinstance (pa_cons (pv 0) (pa_cons (pe_bltn (v := .ty "list") (by rfl) T.list PyProof.Rows.boot_list rfl) pa_nil)))))))) (pss_one (ps_ret pe_bl)) pss_nil)
    (pss_cons (ps_if (pt_cmpR op_ne (pe_callB call_len_seq (by rfl) T.len PySem.boot_len (pa_cons (pv 0) pa_nil)) (pe_callB call_len_seq (by rfl) T.len PySem.boot_len (pa_cons (pv 1) pa_nil)) (nomark _)) (pss_one (ps_ret pe_bl)) pss_nil)
    (pss_one (ps_ret (pe_callB (cr_all rfl) (by rfl) T.all (by decide +kernel) (pa_cons (pe_lc (own := [("at", 2)]) (g := gName 2) rfl sc_l_equal.nd (pi_range1 rfl T.range (pa_cons (pe_callB call_len_seq (by rfl) T.len PySem.boot_len (pa_cons (pv 1) pa_nil)) pa_nil)) (blkOk_by (own := [("at", 2)]) (N := ["actual", "due", "at"]) (sc := defScope s_l_equal) (by decide +kernel)) (fun _ _ _ _ _ => pg_name (i := 2) sc_l_equal.nd rfl (Or.inl rfl)) (fun _ _ _ _ _ => pts_nil) (fun _ _ _ _ _ => (pe_call ih (hr.mono (by omega)) rfl T.D_l_equal.g T.D_l_equal.F.kp T.D_l_equal.b .nil pass0 (pa_cons (pe_ix (r := rIx K) ix_seq (pv 0) (pv 2) (fun _ _ => rfl)) (pa_cons (pe_ix (r := rIx K) ix_seq (pv 1) (pv 2) (fun _ _ => rfl)) pa_nil))))) pa_nil))))))))))), ?_⟩
      rcases hE with ⟨rfl, rfl⟩ | ⟨b, rfl, rfl⟩ | ⟨i, rfl, rfl⟩ | ⟨z, rfl, rfl⟩
      · exact ⟨_, rfl, rfl, _, rfl, iteD1 rfl ⟨_, rfl, rfl, k0⟩⟩
      · refine ⟨_, rfl, rfl, _, rfl, iteD0 (by intro e; cases e) ?_⟩
        refine ⟨_, rfl, _, _, _, _, true, rfl, .ty "bool", ty_bl _, kit_ty (by decide +kernel), true, rfl, iteT ?_⟩
        refine ⟨_, rfl, _, _, _, _, true, rfl, .ty "bool", ty_bl _, kit_ty (by decide +kernel), true, rfl, iteT ⟨_, rfl, _, rfl, rfl, ?_⟩⟩
        rw [decide_eq_true rfl]
        exact k0
      · refine ⟨_, rfl, rfl, _, rfl, iteD0 (by intro e; cases e) ?_⟩
        refine ⟨_, rfl, _, _, _, _, false, rfl, .ty "bool", ty_int _, kit_ty (by decide +kernel), false, rfl, iteF ?_⟩
        refine ⟨_, rfl, _, _, _, _, true, rfl, .ty "int", ty_int _, kit_ty (by decide +kernel), true, rfl, iteT ?_⟩
        refine ⟨_, rfl, _, _, rfl, ty_int _, (by decide), _, rfl, iteD1 rfl ⟨_, rfl, _, rfl, rfl, ?_⟩⟩
        rw [decide_eq_true rfl]
        exact k0
      · refine ⟨_, rfl, rfl, _, rfl, iteD0 (by intro e; cases e) ?_⟩
        refine ⟨_, rfl, _, _, _, _, false, rfl, .ty "bool", ty_str _, kit_ty (by decide +kernel), false, rfl, iteF ?_⟩
        refine ⟨_, rfl, _, _, _, _, false, rfl, .ty "int", ty_str _, kit_ty (by decide +kernel), false, rfl, iteF ?_⟩
        refine ⟨_, rfl, _, _, _, _, true, rfl, .ty "str", ty_str _, kit_ty (by decide +kernel), true, rfl, iteT ?_⟩
        refine ⟨_, rfl, _, _, _, _, true, rfl, .ty "str", ty_str _, kit_ty (by decide +kernel), true, rfl, iteT ⟨_, rfl, _, rfl, rfl, ?_⟩⟩
        rw [decide_eq_true rfl]
        exact k0
  | succ n ih =>
    refine T.D_l_equal.F.ok sc_l_equal (fun vs H Q E h => ?_) (fun cdv A outer s H vs Q E hr h => ?_)
    · obtain ⟨x, y, rfl, _⟩ := h
      rfl
    · obtain ⟨x, y, rfl, hE, k⟩ := h
      have k0 := k H (Same.refl H)
      refine ⟨_, (pss_cons (ps_if (pt_cmpR op_isN (pv 1) pe_non (nomark _)) (pss_one (ps_ret (pe_cmpR op_isN (pv 0) pe_non (nomark _)))) pss_nil)
    (pss_cons (ps_if (pt_val (pe_callB call_isi (by rfl) T.isinstance PyProof.Rows.boot_isinstance (pa_cons (pv 1) (pa_cons (pe_bltn (v := .ty "bool") (by rfl) T.bool PyProof.Rows.boot_bool rfl) pa_nil)))) (pss_one (ps_ret (pe_and (pe_callB call_isi (by rfl) T.isinstance PyProof.Rows.boot_isinstance (pa_cons (pv 0) (pa_cons (pe_bltn (v := .ty "bool") (by rfl) T.bool PyProof.Rows.boot_bool rfl) pa_nil))) (pe_one (pe_cmpR op_eq (pv 0) (pv 1) (nomark _)))))) pss_nil)
    (pss_cons (ps_if (pt_val (pe_callB call_isi (by rfl) T.isinstance PyProof.Rows.boot_isinstance (pa_cons (pv 1) (pa_cons (pe_bltn (v := .ty "int") (by rfl) T.int PyProof.Rows.boot_int rfl) pa_nil)))) (pss_one (ps_ret (pe_and (pe_call (ok_l_is_integer T) (hr.mono (by omega)) rfl T.D_l_is_integer.g T.D_l_is_integer.F.kp T.D_l_is_integer.b .nil pass0 (pa_cons (pv 0) pa_nil)) (pe_one (pe_cmpR op_eq (pv 0) (pv 1) (nomark _)))))) pss_nil)
    (pss_cons (ps_if (pt_val (pe_callB call_isi (by rfl) T.isinstance PyProof.Rows.boot_isinstance (pa_cons (pv 1) (pa_cons (pe_bltn (v := .ty "str") (by rfl) T.str PyProof.Rows.boot_str rfl) pa_nil)))) (pss_one (ps_ret (pe_and (pe_callB call_isi (by rfl) T.isinstance PyProof.Rows.boot_isinstance (pa_cons (pv 0) (pa_cons (pe_bltn (v := .ty "str") (by rfl) T.str PyProof.Rows.boot_str rfl) pa_nil))) (pe_one (pe_cmpR op_eq (pv 0) (pv 1) (nomark _)))))) pss_nil)
    (pss_cons (ps_if (PW.pt (pw_and (pt_val (pe_callB call_isi (by rfl) T.isinstance PyProof.Rows.boot_isinstance (pa_cons (pv 1) (pa_cons (pe_bltn (v := .ty "tuple") (by rfl) T.tuple PyProof.Rows.boot_tuple rfl) pa_nil)))) (pw_and1 (pt_not (pt_val (pe_callB call_isi (by rfl) T.isinstance PyProof.Rows.boot_isinstance (pa_cons (pv 0) (pa_cons (pe_bltn (v := .ty "tuple") (by rfl) T.tuple PyProof.Rows.boot_tuple rfl) pa_nil)))))))) (pss_one (ps_ret pe_bl)) pss_nil)
    (pss_cons (ps_if (PW.pt (pw_and (pt_val (pe_callB call_isi (by rfl) T.isinstance PyProof.Rows.boot_isinstance (pa_cons (pv 1) (pa_cons (pe_bltn (v := .ty "list") (by rfl) T.list PyProof.Rows.boot_list rfl) pa_nil)))) (pw_and1 (pt_not (pt_val (pe_callB call_isi (by rfl) T.isinstance PyProof.Rows.boot_isinstance (pa_cons (pv 0) (pa_cons (pe_bltn (v := .ty "list") (by rfl) T.list PyProof.Rows.boot_list rfl) pa_nil)))))))) (pss_one (ps_ret pe_bl)) pss_nil)
    (pss_cons (ps_if (pt_cmpR op_ne (pe_callB call_len_seq (by rfl) T.len PySem.boot_len (pa_cons (pv 0) pa_nil)) (pe_callB call_len_seq (by rfl) T.len PySem.boot_len (pa_cons (pv 1) pa_nil)) (nomark _)) (pss_one (ps_ret pe_bl)) pss_nil)
    (pss_one (ps_ret (pe_callB (cr_all rfl) (by rfl) T.all (by decide +kernel) (pa_cons (pe_lc (own := [("at", 2)]) (g := gName 2) rfl sc_l_equal.nd (pi_range1 rfl T.range (pa_cons (pe_callB call_len_seq (by rfl) T.len PySem.boot_len (pa_cons (pv 1) pa_nil)) pa_nil)) (blkOk_by (own := [("at", 2)]) (N := ["actual", "due", "at"]) (sc := defScope s_l_equal) (by decide +kernel)) (fun _ _ _ _ _ => pg_name (i := 2) sc_l_equal.nd rfl (Or.inl rfl)) (fun _ _ _ _ _ => pts_nil) (fun _ _ _ _ _ => (pe_call ih (hr.mono (by omega)) rfl T.D_l_equal.g T.D_l_equal.F.kp T.D_l_equal.b .nil pass0 (pa_cons (pe_ix (r := rIx K) ix_seq (pv 0) (pv 2) (fun _ _ => rfl)) (pa_cons (pe_ix (r := rIx K) ix_seq (pv 1) (pv 2) (fun _ _ => rfl)) pa_nil))))) pa_nil))))))))))), ?_⟩
      rcases hE with (⟨rfl, rfl⟩ | ⟨b, rfl, rfl⟩ | ⟨i, rfl, rfl⟩ | ⟨z, rfl, rfl⟩) | ⟨a, b, xs, ys, rfl, rfl, hab, hl, hz, hi⟩
      · exact ⟨_, rfl, rfl, _, rfl, iteD1 rfl ⟨_, rfl, rfl, k0⟩⟩
      · refine ⟨_, rfl, rfl, _, rfl, iteD0 (by intro e; cases e) ?_⟩
        refine ⟨_, rfl, _, _, _, _, true, rfl, .ty "bool", ty_bl _, kit_ty (by decide +kernel), true, rfl, iteT ?_⟩
        refine ⟨_, rfl, _, _, _, _, true, rfl, .ty "bool", ty_bl _, kit_ty (by decide +kernel), true, rfl, iteT ⟨_, rfl, _, rfl, rfl, ?_⟩⟩
        rw [decide_eq_true rfl]
        exact k0
      · refine ⟨_, rfl, rfl, _, rfl, iteD0 (by intro e; cases e) ?_⟩
        refine ⟨_, rfl, _, _, _, _, false, rfl, .ty "bool", ty_int _, kit_ty (by decide +kernel), false, rfl, iteF ?_⟩
        refine ⟨_, rfl, _, _, _, _, true, rfl, .ty "int", ty_int _, kit_ty (by decide +kernel), true, rfl, iteT ?_⟩
        refine ⟨_, rfl, _, _, rfl, ty_int _, (by decide), _, rfl, iteD1 rfl ⟨_, rfl, _, rfl, rfl, ?_⟩⟩
        rw [decide_eq_true rfl]
        exact k0
      · refine ⟨_, rfl, rfl, _, rfl, iteD0 (by intro e; cases e) ?_⟩
        refine ⟨_, rfl, _, _, _, _, false, rfl, .ty "bool", ty_str _, kit_ty (by decide +kernel), false, rfl, iteF ?_⟩
        refine ⟨_, rfl, _, _, _, _, false, rfl, .ty "int", ty_str _, kit_ty (by decide +kernel), false, rfl, iteF ?_⟩
        refine ⟨_, rfl, _, _, _, _, true, rfl, .ty "str", ty_str _, kit_ty (by decide +kernel), true, rfl, iteT ?_⟩
        refine ⟨_, rfl, _, _, _, _, true, rfl, .ty "str", ty_str _, kit_ty (by decide +kernel), true, rfl, iteT ⟨_, rfl, _, rfl, rfl, ?_⟩⟩
        rw [decide_eq_true rfl]
        exact k0
      · have sa : SqL K H a xs ∨ SqT K H a xs := hab.elim (fun z => .inr (SqT.of z.1)) (fun z => .inl (SqL.of z.1))
        have sb : SqL K H b ys ∨ SqT K H b ys := hab.elim (fun z => .inr (SqT.of z.2)) (fun z => .inl (SqL.of z.2))
        have up_ : ∀ {H' : Hp}, Same H H' → ∀ {c : Addr} {zs : List V}, (SqL K H c zs ∨ SqT K H c zs) → SqL K H' c zs ∨ SqT K H' c zs := by
          intro H' e c zs z
          rcases z with q | q
          · exact .inl (e.seq q)
          · refine .inr ?_
            rcases q with (q | ⟨o, q⟩) | q
            · exact .inl (.inl (e _ _ q))
            · exact .inl (.inr ⟨o, e _ _ q⟩)
            · exact .inr q
        have hys : ys.length < 1000 := by omega
        refine ⟨_, rfl, rfl, _, rfl, iteD0 (by intro e; cases e) ?_⟩
        rcases hab with ⟨ha, hb⟩ | ⟨ha, hb⟩
        case' inl =>
          refine ⟨_, rfl, _, _, _, _, false, rfl, .ty "bool", ty_tup hb, kit_ty (by decide +kernel), false, rfl, iteF ?_⟩
          refine ⟨_, rfl, _, _, _, _, false, rfl, .ty "int", ty_tup hb, kit_ty (by decide +kernel), false, rfl, iteF ?_⟩
          refine ⟨_, rfl, _, _, _, _, false, rfl, .ty "str", ty_tup hb, kit_ty (by decide +kernel), false, rfl, iteF ?_⟩
          refine ⟨_, rfl, _, _, _, _, true, rfl, .ty "tuple", ty_tup hb, kit_ty (by decide +kernel), true, rfl, iteT ⟨_, rfl, _, _, _, _, true, rfl, .ty "tuple", ty_tup ha, kit_ty (by decide +kernel), true, rfl, iteF ?_⟩⟩
          refine ⟨_, rfl, _, _, _, _, false, rfl, .ty "list", ty_tup hb, kit_ty (by decide +kernel), false, rfl, iteF (iteF ?_)⟩
        case' inr =>
          refine ⟨_, rfl, _, _, _, _, false, rfl, .ty "bool", ty_lst hb, kit_ty (by decide +kernel), false, rfl, iteF ?_⟩
          refine ⟨_, rfl, _, _, _, _, false, rfl, .ty "int", ty_lst hb, kit_ty (by decide +kernel), false, rfl, iteF ?_⟩
          refine ⟨_, rfl, _, _, _, _, false, rfl, .ty "str", ty_lst hb, kit_ty (by decide +kernel), false, rfl, iteF ?_⟩
          refine ⟨_, rfl, _, _, _, _, false, rfl, .ty "tuple", ty_lst hb, kit_ty (by decide +kernel), false, rfl, iteF (iteF ?_)⟩
          refine ⟨_, rfl, _, _, _, _, true, rfl, .ty "list", ty_lst hb, kit_ty (by decide +kernel), true, rfl, iteT ⟨_, rfl, _, _, _, _, true, rfl, .ty "list", ty_lst ha, kit_ty (by decide +kernel), true, rfl, iteF ?_⟩⟩
        all_goals
          refine ⟨_, rfl, a, xs, rfl, sa, _, rfl, b, ys, rfl, sb, rfl, _, rfl, iteNS (by rw [hl]) ?_⟩
          refine ⟨_, rfl, b, ys, rfl, sb, _, rfl, (by omega), (by omega), fun D hD => ?_⟩
          refine lc_range (lo := 0) (n := (ys.length : Int).toNat) (fun i H' => H' D = some (.lst ((List.replicate i true).map V.bl)) ∧ Same H H') ⟨upd_same, same_new hD⟩ ?_ ?_
          · rintro i H' hlt ⟨hd, e⟩
            have hi1 : i < ys.length := by omega
            have hi2 : i < xs.length := by omega
            have gx : xs[i]? = some xs[i] := List.getElem?_eq_getElem hi2
            have gy : ys[i]? = some ys[i] := List.getElem?_eq_getElem hi1
            have e0 : (0 : Int) + (i : Int) = (i : Int) := Int.zero_add _
            refine ⟨rfl, lc_yes ?_⟩
            refine ⟨_, rfl, _, rfl, ?_⟩
            have fin : ∀ H4, Same H' H4 → ∃ acc, H4 D = some (.lst acc) ∧ acc.length < sizeLine ∧ (upd H4 D (.lst (acc ++ [.bl true]))) D = some (.lst ((List.replicate (i + 1) true).map V.bl)) ∧ Same H (upd H4 D (.lst (acc ++ [.bl true]))) := fun H4 e4 => by
              refine ⟨_, e4 _ _ hd, ?_, ?_, fun c o hc => ?_⟩
              · rw [List.length_map, List.length_replicate]
                exact Nat.lt_of_lt_of_le (show i < 1000 by omega) (by decide)
              · rw [upd_same, List.replicate_succ', List.map_append]
                rfl
              · rw [upd_ne (ne_of_none hc hD)]
                exact e4 _ _ (e _ _ hc)
            rcases up_ e sa with sa' | sa'
            case' inl => refine .inl ⟨a, xs, _, xs[i], rfl, rfl, sa', at_of e0 gx, _, rfl, _, rfl, ?_⟩
            case' inr => refine .inr (.inl ⟨a, xs, _, xs[i], rfl, rfl, sa', at_of e0 gx, _, rfl, _, rfl, ?_⟩)
            all_goals
              rcases up_ e sb with sb' | sb'
              case' inl => refine .inl ⟨b, ys, _, ys[i], rfl, rfl, sb', at_of e0 gy, ?_⟩
              case' inr => refine .inr (.inl ⟨b, ys, _, ys[i], rfl, rfl, sb', at_of e0 gy, ?_⟩)
              all_goals exact ⟨xs[i], ys[i], rfl, (hi i _ _ gx gy).same e, fin⟩
          · rintro H' ⟨hd, e⟩
            refine ⟨D, _, rfl, SqL.of hd, ?_⟩
            have z : (List.replicate (ys.length : Int).toNat true).all id = true := by simp
            rw [z]
            exact k H' e
end
/-! ### squares -/
def isSq (n : Int) : Prop := ∃ r : Int, 0 ≤ r ∧ r * r = n
theorem sq_mono {a b : Int} (h0 : 0 ≤ a) (h : a ≤ b) : a * a ≤ b * b := Int.mul_self_le_mul_self h0 h
theorem root_uniq {n r q : Int} (r0 : 0 ≤ r) (q0 : 0 ≤ q) (r1 : r * r ≤ n) (r2 : n < (r + 1) * (r + 1)) (q1 : q * q ≤ n) (q2 : n < (q + 1) * (q + 1)) : r = q := by
  rcases (show r < q ∨ r = q ∨ q < r by omega) with h | h | h
  · have := sq_mono (show 0 ≤ r + 1 by omega) (show r + 1 ≤ q by omega)
    omega
  · exact h
  · have := sq_mono (show 0 ≤ q + 1 by omega) (show q + 1 ≤ r by omega)
    omega
theorem root_size {n r : Int} {a : Nat} (r0 : 0 ≤ r) (r1 : r * r ≤ n) (hn : n.natAbs < 2 ^ (a + a)) : r.natAbs < 2 ^ a := by
  rcases (show r.natAbs < 2 ^ a ∨ 2 ^ a ≤ r.natAbs by omega) with h | h
  · exact h
  · exfalso
    have h1 : 2 ^ a * 2 ^ a ≤ r.natAbs * r.natAbs := Nat.mul_le_mul h h
    rw [← Nat.pow_add, ← Int.natAbs_mul] at h1
    have h2 : 0 ≤ r * r := Int.mul_nonneg r0 r0
    omega
theorem two_sq : ∀ (r s : Nat), r * r = 2 * (s * s) → s = 0 := by
  intro r
  induction r using Nat.strongRecOn with
  | _ r ih =>
    intro s h
    have he : r % 2 = 0 := by
      have h1 : (r * r) % 2 = 0 := by rw [h]; exact Nat.mul_mod_right 2 _
      rw [Nat.mul_mod] at h1
      rcases (show r % 2 = 0 ∨ r % 2 = 1 by omega) with z | z
      · exact z
      · rw [z] at h1; cases h1
    obtain ⟨t, ht⟩ : ∃ t, r = 2 * t := ⟨r / 2, by omega⟩
    subst ht
    have h2 : s * s = 2 * (t * t) := by
      have e : 2 * t * (2 * t) = 2 * (2 * (t * t)) := by
        rw [Nat.mul_assoc, Nat.mul_left_comm t 2 t]
      rw [e] at h
      omega
    by_cases z : s = 0
    · exact z
    · exfalso
      have hlt : s < 2 * t := by
        rcases (show s < 2 * t ∨ 2 * t ≤ s by omega) with q | q
        · exact q
        · exfalso
          have h3 := Nat.mul_le_mul q q
          rw [h] at h3
          have : 0 < s * s := Nat.mul_pos (by omega) (by omega)
          omega
      have ht0 := ih s hlt t h2
      rw [ht0] at hlt
      omega
theorem two_not_sq {f : Int} (h0 : 0 < f) (h : isSq f) : ¬ isSq (f * 2) := by
  rintro ⟨r, hr, er⟩
  obtain ⟨s, hs, es⟩ := h
  have h1 : r.natAbs * r.natAbs = 2 * (s.natAbs * s.natAbs) := by
    rw [← Int.natAbs_mul, ← Int.natAbs_mul, er, es]
    omega
  have h2 := two_sq _ _ h1
  have h3 : s = 0 := by omega
  rw [h3] at es
  omega
/-! ### pairs in lowest terms -/
abbrev Q2 := Int × Int
def RatAt (H : Hp) (p : Addr) (q : Q2) : Prop := H p = some (.tup [.int q.1, .int q.2])
def EltAt (H : Hp) (e : Addr) (x y : Q2) : Prop := ∃ px py, H e = some (.tup [.ref px, .ref py]) ∧ RatAt H px x ∧ RatAt H py y
theorem EltAt.same {H H' : Hp} {e : Addr} {x y : Q2} (s : Same H H') (h : EltAt H e x y) : EltAt H' e x y := by
  obtain ⟨px, py, h1, h2, h3⟩ := h
  exact ⟨px, py, s _ _ h1, s _ _ h2, s _ _ h3⟩
def Sm (n : Nat) (q : Q2) : Prop := 1 ≤ q.2 ∧ q.1.natAbs < 2 ^ n ∧ q.2.natAbs < 2 ^ n
theorem Sm.up {n : Nat} (m : Nat) {q : Q2} (h : Sm n q) (hm : n ≤ m := by decide) : Sm m q := ⟨h.1, Odds.up n h.2.1 hm, Odds.up n h.2.2 hm⟩
def qPlus (x y : Q2) : Q2 := (lo1 (nPlus x.1 x.2 y.1 y.2) (dBoth x.1 x.2 y.1 y.2), lo2 (nPlus x.1 x.2 y.1 y.2) (dBoth x.1 x.2 y.1 y.2))
def qMinus (x y : Q2) : Q2 := (lo1 (nMinus x.1 x.2 y.1 y.2) (dBoth x.1 x.2 y.1 y.2), lo2 (nMinus x.1 x.2 y.1 y.2) (dBoth x.1 x.2 y.1 y.2))
def qTimes (x y : Q2) : Q2 := (lo1 (nTimes x.1 x.2 y.1 y.2) (dBoth x.1 x.2 y.1 y.2), lo2 (nTimes x.1 x.2 y.1 y.2) (dBoth x.1 x.2 y.1 y.2))
theorem Sm.den {n m : Nat} {x y : Q2} (hx : Sm n x) (hy : Sm m y) : dBoth x.1 x.2 y.1 y.2 ≠ 0 := Int.mul_ne_zero (by have := hx.1; omega) (by have := hy.1; omega)
theorem sm_lo {n : Nat} {N D : Int} (h : D ≠ 0) (hN : N.natAbs < 2 ^ n) (hD : D.natAbs < 2 ^ n) : Sm n (lo1 N D, lo2 N D) :=
  ⟨lo2_pos h, Nat.lt_of_le_of_lt (lo1_size h) hN, Nat.lt_of_le_of_lt (lo2_size h) hD⟩
theorem Sm.plus {n : Nat} {x y : Q2} (hx : Sm n x) (hy : Sm n y) : Sm (n + n + 1) (qPlus x y) :=
  sm_lo (hx.den hy) (add_up (n + n) (mul_up n n hx.2.1 hy.2.2 (Nat.le_refl _)) (mul_up n n hy.2.1 hx.2.2 (Nat.le_refl _)) (Nat.le_refl _)) (mul_up n n hx.2.2 hy.2.2 (Nat.le_succ _))
theorem Sm.minus {n : Nat} {x y : Q2} (hx : Sm n x) (hy : Sm n y) : Sm (n + n + 1) (qMinus x y) :=
  sm_lo (hx.den hy) (sub_up (n + n) (mul_up n n hx.2.1 hy.2.2 (Nat.le_refl _)) (mul_up n n hy.2.1 hx.2.2 (Nat.le_refl _)) (Nat.le_refl _)) (mul_up n n hx.2.2 hy.2.2 (Nat.le_succ _))
theorem Sm.times {n m : Nat} {x y : Q2} (hx : Sm n x) (hy : Sm m y) : Sm (n + m) (qTimes x y) :=
  sm_lo (hx.den hy) (mul_up n m hx.2.1 hy.2.1 (Nat.le_refl _)) (mul_up n m hx.2.2 hy.2.2 (Nat.le_refl _))
theorem qPlus_comm (x y : Q2) : qPlus x y = qPlus y x := by
  have e1 : nPlus x.1 x.2 y.1 y.2 = nPlus y.1 y.2 x.1 x.2 := by unfold nPlus; rw [Int.add_comm]
  have e2 : dBoth x.1 x.2 y.1 y.2 = dBoth y.1 y.2 x.1 x.2 := by unfold dBoth; rw [Int.mul_comm]
  unfold qPlus
  rw [e1, e2]
theorem qTimes_comm (x y : Q2) : qTimes x y = qTimes y x := by
  have e1 : nTimes x.1 x.2 y.1 y.2 = nTimes y.1 y.2 x.1 x.2 := by unfold nTimes; rw [Int.mul_comm]
  have e2 : dBoth x.1 x.2 y.1 y.2 = dBoth y.1 y.2 x.1 x.2 := by unfold dBoth; rw [Int.mul_comm]
  unfold qTimes
  rw [e1, e2]
theorem qMinus_neg (x y : Q2) : qMinus x y = qPlus x (0 - y.1, y.2) := by
  have e1 : nMinus x.1 x.2 y.1 y.2 = nPlus x.1 x.2 (0 - y.1) y.2 := by
    unfold nMinus nPlus
    rw [Int.sub_mul, Int.zero_mul, Int.zero_sub, Int.sub_eq_add_neg]
  have e2 : dBoth x.1 x.2 y.1 y.2 = dBoth x.1 x.2 (0 - y.1) y.2 := rfl
  unfold qMinus qPlus
  rw [e1, e2]
/-- two rationals in, a new one out, by pairs -/
@[irreducible] def spQ (F : Q2 → Q2 → Q2) : Sp := fun vs H Q _ => ∃ (p q : Addr) (x y : Q2), vs = [.ref p, .ref q] ∧ RatAt H p x ∧ RatAt H q y ∧ Sm 4000 x ∧ Sm 4000 y ∧
  ∀ (r : Addr) (H' : Hp), Same H H' → H r = none → RatAt H' r (F x y) → Q (.ref r) H'
theorem b_q {F : Q2 → Q2 → Q2} {H : Hp} {Q : VK} {E : XK} {p q : Addr} {x y : Q2} (hp : RatAt H p x) (hq : RatAt H q y) (hx : Sm 4000 x) (hy : Sm 4000 y) (k : ∀ (r : Addr) (H' : Hp), Same H H' → H r = none → RatAt H' r (F x y) → Q (.ref r) H') :
    spQ F [.ref p, .ref q] H Q E := by
  unfold spQ
  exact ⟨p, q, x, y, rfl, hp, hq, hx, hy, k⟩
theorem q_bin {N : Int → Int → Int → Int → Int} {F : Q2 → Q2 → Q2} (hF : ∀ x y : Q2, F x y = (lo1 (N x.1 x.2 y.1 y.2) (dBoth x.1 x.2 y.1 y.2), lo2 (N x.1 x.2 y.1 y.2) (dBoth x.1 x.2 y.1 y.2)))
    (vs : List V) (H : Hp) (Q : VK) (E : XK) (h : spQ F vs H Q E) : spBin N dBoth vs H Q E := by
  unfold spQ at h
  obtain ⟨p, q, x, y, rfl, hp, hq, hx, hy, k⟩ := h
  exact ⟨p, q, x.1, x.2, y.1, y.2, rfl, hp, hq, hx.den hy, hx.2.1, hx.2.2, hy.2.1, hy.2.2, fun r H' e n h => k r H' e n (by unfold RatAt; rw [hF]; exact h)⟩
/-- two elements in, a new element out -/
def spElt2 (m : Nat) (F : Int → Q2 → Q2 → Q2 → Q2 → Q2 × Q2) : Sp := fun vs H Q _ => ∃ (f : Int) (a b : Addr) (x y z w : Q2), vs = [.int f, .ref a, .ref b] ∧ EltAt H a x y ∧ EltAt H b z w ∧ Sm m x ∧ Sm m y ∧ Sm m z ∧ Sm m w ∧ f.natAbs < 2 ^ 100 ∧
  ∀ (r : Addr) (H' : Hp), Same H H' → EltAt H' r (F f x y z w).1 (F f x y z w).2 → Q (.ref r) H'
def fMul (f : Int) (x y z w : Q2) : Q2 × Q2 := (qPlus (qTimes x z) (qTimes (f, 1) (qTimes y w)), qPlus (qTimes x w) (qTimes y z))
theorem sm_int {f : Int} {n : Nat} (h : f.natAbs < 2 ^ n) (hn : n ≠ 0 := by decide) : Sm n (f, 1) := ⟨Int.le_refl 1, h, Nat.one_lt_two_pow hn⟩
def spRoot : Sp := fun vs H Q _ => ∃ n : Int, vs = [.int n] ∧ 0 ≤ n ∧ n.natAbs < 2 ^ 7900 ∧ ∀ r : Int, 0 ≤ r → r * r ≤ n → n < (r + 1) * (r + 1) → Q (.int r) H
def spSq : Sp := fun vs H Q _ => ∃ n : Int, vs = [.int n] ∧ 0 ≤ n ∧ n.natAbs < 2 ^ 7900 ∧ ∀ b : Bool, (b = true ↔ isSq n) → Q (.bl b) H
def spField : Sp := fun vs H Q _ => ∃ s : Addr, vs = [.ref s] ∧ Strm H s ∧ ∀ (f : Int) (H' : Hp), (f = 0 ∨ (0 < f ∧ ¬ isSq f)) → f.natAbs < 2 ^ 60 → Strm H' s → Keep s H H' → Q (.int f) H'
/-- a drawn element -/
def spElem : Sp := fun vs H Q _ => ∃ (s : Addr) (f t m : Int), vs = [.ref s, .int f, .int t, .int m] ∧ Strm H s ∧ 0 < t ∧ 0 < m ∧ t.natAbs < 2 ^ 100 ∧ m.natAbs < 2 ^ 100 ∧
  ∀ (e px py : Addr) (H' : Hp) (x y : Q2), Sm 100 x → Sm 100 y → Nat.gcd x.1.natAbs x.2.natAbs = 1 → Nat.gcd y.1.natAbs y.2.natAbs = 1 → (f = 0 → y = (0, 1)) → x.1.natAbs ≤ t.natAbs → y.1.natAbs ≤ t.natAbs → x.2 ≤ m → y.2 ≤ m →
    Strm H' s → Keep s H H' → e ≠ s → px ≠ s → py ≠ s → H' e = some (.tup [.ref px, .ref py]) → RatAt H' px x → RatAt H' py y → Q (.ref e) H'
theorem Strm.ne {H : Hp} {s b : Addr} (h : Strm H s) (n : H b = none) : b ≠ s := by
  obtain ⟨_, _, _, _, h1, _⟩ := h
  exact (ne_of_none h1 n).symm
section
variable {P : Program} {w : World} {K : PySem.W.Frag} {mg : Str → Option Value} {base : Heap}
theorem ok_l_plusQ (T : Txt K mg) : FnOk P w K mg base CX0 3 T.f_l_plus T.fd_l_plus ["a", "b"] (spQ qPlus) := (ok_l_plus T).imp (q_bin fun _ _ => rfl)
theorem ok_l_timesQ (T : Txt K mg) : FnOk P w K mg base CX0 3 T.f_l_times T.fd_l_times ["a", "b"] (spQ qTimes) := (ok_l_times T).imp (q_bin fun _ _ => rfl)
theorem ok_minusQ (T : Txt K mg) : FnOk P w K mg base CX0 4 T.f_minus T.fd_minus ["a", "b"] (spQ qMinus) := (ok_minus T).imp (q_bin fun _ _ => rfl)
theorem ok_timesQ (T : Txt K mg) : FnOk P w K mg base CX0 4 T.f_times T.fd_times ["a", "b"] (spQ qTimes) := (ok_times T).imp (q_bin fun _ _ => rfl)
end
section
variable {P : Program} {w : World} {K : PySem.W.Frag} {mg : Str → Option Value} {base : Heap}
theorem ok_l_root (T : Txt K mg) : FnOk P w K mg base CX0 1 T.f_l_root T.fd_l_root ["n"] spRoot := by
  refine T.D_l_root.F.ok sc_l_root (fun vs H Q E h => ?_) (fun cdv A outer s H vs Q E hr h => ?_)
  · obtain ⟨n, rfl, _⟩ := h
    rfl
  · obtain ⟨n, rfl, h0, hb, k⟩ := h
    have pw : ∀ i : Nat, i ≤ 4000 → ((2 ^ i : Nat) : Int).natAbs < 2 ^ 4001 := fun i hi => by
      rw [Int.natAbs_natCast]
      exact Nat.pow_lt_pow_right (by decide) (by omega)
    have nlt : n < ((2 ^ 4000 : Nat) : Int) * ((2 ^ 4000 : Nat) : Int) := by
      rw [← Int.natCast_mul, ← Nat.pow_add]
      have : 2 ^ 7900 ≤ 2 ^ (4000 + 4000) := Nat.pow_le_pow_right (by decide) (by decide)
      omega
    refine ⟨_, (pss_cons (ps_set (i := 1) sc_l_root.nd rfl (Or.inl rfl) pe_int)
    (pss_cons (ps_set (i := 2) sc_l_root.nd rfl (Or.inl rfl) pe_int)
    (C8.pss_cut (ps_for PassesOwn.never rfl (pi_range1 rfl T.range (pa_cons pe_int pa_nil)) (pg_name (i := 3) sc_l_root.nd rfl (Or.inl rfl)) (pss_cons (ps_if (pt_cmpR op_gt (pe_op op_mulW (pv 2) (pv 2)) (pv 0) (nomark _)) (pss_one ps_break) pss_nil)
    (pss_one (ps_set (i := 2) sc_l_root.nd rfl (Or.inl rfl) (pe_op op_mul (pv 2) pe_int)))))
    (C8.pss_cut (ps_for PassesOwn.never rfl (pi_range1 rfl T.range (pa_cons pe_int pa_nil)) (pg_name (i := 3) sc_l_root.nd rfl (Or.inl rfl)) (pss_cons (ps_if (pt_cmpR op_lt (pe_op op_sub (pv 2) (pv 1)) pe_int (nomark _)) (pss_one ps_break) pss_nil)
    (pss_cons (ps_set (i := 4) sc_l_root.nd rfl (Or.inl rfl) (pe_op op_fdiv (pe_op op_add (pv 1) (pv 2)) pe_int))
    (pss_one (ps_if (pt_cmpR op_gt (pe_op op_mulW (pv 4) (pv 4)) (pv 0) (nomark _)) (pss_one (ps_set (i := 2) sc_l_root.nd rfl (Or.inl rfl) (pv 4))) (pss_one (ps_set (i := 1) sc_l_root.nd rfl (Or.inl rfl) (pv 4))))))))
    (pss_one (ps_ret (pv 1))))))), ?_⟩
    refine ⟨fun σ H' => H' = H ∧ ∃ (i : Nat) (v : Option V), σ = [some (.int n), some (.int 0), some (.int ((2 ^ i : Nat) : Int)), v, none] ∧ i ≤ 4000 ∧ n < ((2 ^ i : Nat) : Int) * ((2 ^ i : Nat) : Int), ?_, ?_⟩
    · refine ⟨4000, rfl, by decide, by decide, for_range (lo := 0) (n := 4000) (fun i σ H' => H' = H ∧ i ≤ 4000 ∧ ∃ v : Option V, σ = [some (.int n), some (.int 0), some (.int ((2 ^ i : Nat) : Int)), v, none]) ⟨rfl, by omega, none, rfl⟩ ?_ ?_⟩
      · rintro i σ H' hi ⟨rfl, _, v, rfl⟩
        refine ⟨_, rfl, _, rfl, _, _, rfl, rfl, cmulw (pw i (by omega)) (pw i (by omega)) (by decide), _, rfl, _, _, rfl, rfl, _, rfl, iteD (fun hgt => ?_) (fun hgt => ?_)⟩
        · exact ⟨rfl, i, _, rfl, by omega, hgt⟩
        · refine ⟨_, rfl, _, _, rfl, rfl, .inr ⟨by decide, by decide⟩, rfl, by omega, some (.int (0 + (i : Int))), ?_⟩
          have e : ((2 ^ i : Nat) : Int) * 2 = ((2 ^ (i + 1) : Nat) : Int) := by
            rw [Nat.pow_succ, Int.natCast_mul]
            rfl
          rw [← e]
          rfl
      · rintro σ H' ⟨rfl, _, v, rfl⟩
        exact ⟨rfl, 4000, v, rfl, by omega, nlt⟩
    rintro σ H' ⟨rfl, i0, v0, rfl, hi0, hn0⟩
    refine ⟨fun σ H'' => H'' = H' ∧ ∃ (lo hi : Int) (v v4 : Option V), σ = [some (.int n), some (.int lo), some (.int hi), v, v4] ∧ 0 ≤ lo ∧ lo * lo ≤ n ∧ n < (lo + 1) * (lo + 1), ?_, ?_⟩
    · refine ⟨4000, rfl, by decide, by decide, for_range (lo := 0) (n := 4000) (fun i σ H'' => H'' = H' ∧ ∃ (lo hi : Int) (v v4 : Option V), σ = [some (.int n), some (.int lo), some (.int hi), v, v4] ∧ 0 ≤ lo ∧ lo < hi ∧ lo * lo ≤ n ∧ n < hi * hi ∧
        hi - lo ≤ ((2 ^ (4000 - i) : Nat) : Int) ∧ hi.natAbs < 2 ^ 4001) ⟨rfl, 0, _, v0, none, rfl, Int.le_refl _, ?_, h0, hn0, ?_, pw i0 hi0⟩ ?_ ?_⟩
      · have := Nat.two_pow_pos i0
        omega
      · have : 2 ^ i0 ≤ 2 ^ (4000 - 0) := Nat.pow_le_pow_right (by decide) (by omega)
        omega
      · rintro i σ H'' hi ⟨rfl, lo, hg, v, v4, rfl, l0, lh, l1, l2, l3, l4⟩
        refine ⟨_, rfl, _, rfl, _, _, rfl, rfl, _, _, rfl, rfl, _, rfl, iteD (fun hlt => ?_) (fun hlt => ?_)⟩
        · have e : hg = lo + 1 := by
            have : hg - lo < 2 := hlt
            omega
          subst e
          exact ⟨rfl, lo, _, _, _, rfl, l0, l1, l2⟩
        · have hge : 2 ≤ hg - lo := by
            have : ¬ hg - lo < 2 := hlt
            omega
          have e2 : 2 ^ (4000 - i) = 2 * 2 ^ (4000 - (i + 1)) := by
            rw [show 4000 - i = (4000 - (i + 1)) + 1 by omega, Nat.pow_succ, Nat.mul_comm]
          have mb : ((lo + hg) / 2).natAbs < 2 ^ 4001 := by omega
          refine ⟨_, rfl, _, rfl, _, _, rfl, rfl, _, _, rfl, rfl, ⟨by decide, by decide⟩, ?_⟩
          refine ⟨_, rfl, _, rfl, _, _, rfl, rfl, cmulw mb mb (by decide), _, rfl, _, _, rfl, rfl, _, rfl, iteD (fun hgt => ?_) (fun hgt => ?_)⟩
          · exact ⟨_, rfl, rfl, lo, _, _, _, rfl, l0, by omega, l1, hgt, by omega, mb⟩
          · exact ⟨_, rfl, rfl, _, hg, _, _, rfl, by omega, by omega, Int.not_lt.mp hgt, l2, by omega, l4⟩
      · rintro σ H'' ⟨rfl, lo, hg, v, v4, rfl, l0, lh, l1, l2, l3, l4⟩
        have e : hg = lo + 1 := by
          have : (2 : Nat) ^ (4000 - 4000) = 1 := rfl
          rw [this] at l3
          omega
        subst e
        exact ⟨rfl, lo, _, _, _, rfl, l0, l1, l2⟩
    rintro σ H'' ⟨rfl, lo, hg, v, v4, rfl, l0, l1, l2⟩
    exact ⟨_, rfl, k lo l0 l1 l2⟩
theorem ok_l_is_square (T : Txt K mg) : FnOk P w K mg base CX0 2 T.f_l_is_square T.fd_l_is_square ["n"] spSq := by
  refine T.D_l_is_square.F.ok sc_l_is_square (fun vs H Q E h => ?_) (fun cdv A outer s H vs Q E hr h => ?_)
  · obtain ⟨n, rfl, _⟩ := h
    rfl
  · obtain ⟨n, rfl, h0, hb, k⟩ := h
    refine ⟨_, (pss_one (ps_ret (pe_cmpR op_eq (pe_op op_mulW (pe_call (ok_l_root T) (hr.mono (by omega)) rfl T.D_l_root.g T.D_l_root.F.kp T.D_l_root.b .nil pass0 (pa_cons (pv 0) pa_nil)) (pe_call (ok_l_root T) (hr.mono (by omega)) rfl T.D_l_root.g T.D_l_root.F.kp T.D_l_root.b .nil pass0 (pa_cons (pv 0) pa_nil))) (pv 0) (nomark _)))), ?_⟩
    refine ⟨_, rfl, n, rfl, h0, hb, fun r r0 r1 r2 => ⟨_, rfl, n, rfl, h0, hb, fun q q0 q1 q2 => ?_⟩⟩
    have e := root_uniq q0 r0 q1 q2 r1 r2
    subst e
    have rb : q.natAbs < 2 ^ 3950 := root_size q0 q1 hb
    refine ⟨_, _, rfl, rfl, cmulw rb rb (by decide), _, rfl, rfl, ?_⟩
    refine k _ ⟨fun z => ?_, fun z => ?_⟩
    · have h1 := of_decide_eq_true z
      injection h1 with h2
      exact ⟨q, q0, h2⟩
    · obtain ⟨u, u0, hu⟩ := z
      have e : (u + 1) * (u + 1) = u * u + u + u + 1 := by
        rw [Int.add_mul, Int.mul_add]
        omega
      have : q = u := root_uniq q0 u0 q1 q2 (by omega) (by omega)
      subst this
      exact decide_eq_true (congrArg V.int hu)
theorem ok_l_field (T : Txt K mg) : FnOk P w K mg base CX0 3 T.f_l_field T.fd_l_field ["stream"] spField := by
  refine T.D_l_field.F.ok sc_l_field (fun vs H Q E h => ?_) (fun cdv A outer st H vs Q E hr h => ?_)
  · obtain ⟨s, rfl, _⟩ := h
    rfl
  · obtain ⟨s, rfl, hs, k⟩ := h
    refine ⟨_, (pss_cons (ps_set (i := 1) sc_l_field.nd rfl (Or.inl rfl) (pe_call (ok_l_next T) (hr.mono (by omega)) rfl T.D_l_next.g T.D_l_next.F.kp T.D_l_next.b .nil pass0 (pa_cons (pv 0) (pa_cons pe_int pa_nil))))
    (pss_cons (ps_if (pt_cmpR op_eq (pv 1) pe_int (nomark _)) (pss_one (ps_ret pe_int)) pss_nil)
    (pss_cons (ps_set (i := 2) sc_l_field.nd rfl (Or.inl rfl) (pe_ix (r := rIxL K) ix_list (pe_lst (pa_cons pe_int (pa_cons pe_int (pa_cons pe_int (pa_cons pe_int (pa_cons pe_int (pa_cons pe_int (pa_cons (pe_op op_add pe_int (pe_call (ok_l_next T) (hr.mono (by omega)) rfl T.D_l_next.g T.D_l_next.F.kp T.D_l_next.b .nil pass0 (pa_cons (pv 0) (pa_cons pe_int pa_nil)))) (pa_cons (pe_op op_add pe_int (pe_call (ok_l_next T) (hr.mono (by omega)) rfl T.D_l_next.g T.D_l_next.F.kp T.D_l_next.b .nil pass0 (pa_cons (pv 0) (pa_cons pe_int pa_nil)))) pa_nil))))))))) (pe_call (ok_l_next T) (hr.mono (by omega)) rfl T.D_l_next.g T.D_l_next.F.kp T.D_l_next.b .nil pass0 (pa_cons (pv 0) (pa_cons pe_int pa_nil))) (fun _ _ => rfl)))
    (C8.pss_cut (ps_if (pt_cmpR op_eq (pv 1) pe_int (nomark _)) (pss_one (ps_set (i := 2) sc_l_field.nd rfl (Or.inl rfl) (pe_op op_add pe_int (pe_call (ok_l_next T) (hr.mono (by omega)) rfl T.D_l_next.g T.D_l_next.F.kp T.D_l_next.b .nil pass0 (pa_cons (pv 0) (pa_cons (pe_op op_pow pe_int pe_int) pa_nil)))))) pss_nil)
    (C8.pss_cut (ps_if (pt_val (pe_call (ok_l_is_square T) (hr.mono (by omega)) rfl T.D_l_is_square.g T.D_l_is_square.F.kp T.D_l_is_square.b .nil pass0 (pa_cons (pv 2) pa_nil))) (pss_one (ps_set (i := 2) sc_l_field.nd rfl (Or.inl rfl) (pe_op op_mul (pv 2) pe_int))) pss_nil)
    (pss_one (ps_ret (pv 2)))))))), ?_⟩
    refine ⟨_, rfl, s, 6, rfl, hs, by decide, up 3 (by decide), fun d0 H1 a0 b0 hs1 k1 => ?_⟩
    refine ⟨_, rfl, rfl, _, rfl, ite2 (fun _ => ?_) (fun _ => ?_)⟩
    · exact k 0 H1 (.inl rfl) (by decide) hs1 k1
    · refine ⟨_, rfl, s, 200, rfl, hs1, by decide, up 8 (by decide), fun d1 H2 a1 b1 hs2 k2 => ⟨_, _, rfl, rfl, ?_⟩⟩
      refine ⟨_, rfl, s, 200, rfl, hs2, by decide, up 8 (by decide), fun d2 H3 a2 b2 hs3 k3 => ⟨_, _, rfl, rfl, ?_⟩⟩
      refine ⟨(by show 8 ≤ sizeLine; decide), fun l ql => ?_⟩
      have e3 := same_new (o := .lst [.int 2, .int 3, .int 5, .int 8, .int 12, .int 18, .int (1 + d1), .int (1 + d2)]) ql
      refine ⟨_, rfl, s, 8, rfl, hs3.same e3, by decide, up 4 (by decide), fun d3 H4 a3 b3 hs4 k4 => ?_⟩
      have kk : Keep s H H4 := ((k1.trans k2).trans (k3.trans (Same.keep e3))).trans k4
      obtain ⟨f, hat, f0, f1⟩ : ∃ f : Int, atI [V.int 2, .int 3, .int 5, .int 8, .int 12, .int 18, .int (1 + d1), .int (1 + d2)] d3 = some (V.int f) ∧ 0 < f ∧ f ≤ 200 := by
        obtain rfl | rfl | rfl | rfl | rfl | rfl | rfl | rfl : d3 = 0 ∨ d3 = 1 ∨ d3 = 2 ∨ d3 = 3 ∨ d3 = 4 ∨ d3 = 5 ∨ d3 = 6 ∨ d3 = 7 := by omega
        · exact ⟨_, rfl, by decide, by decide⟩
        · exact ⟨_, rfl, by decide, by decide⟩
        · exact ⟨_, rfl, by decide, by decide⟩
        · exact ⟨_, rfl, by decide, by decide⟩
        · exact ⟨_, rfl, by decide, by decide⟩
        · exact ⟨_, rfl, by decide, by decide⟩
        · exact ⟨_, rfl, by omega, by omega⟩
        · exact ⟨_, rfl, by omega, by omega⟩
      refine ⟨l, _, _, _, rfl, rfl, SqL.of (k4 l _ upd_same (hs3.ne ql)), hat, ?_⟩
      refine ⟨fun σ H' => ∃ f : Int, σ = [some (.ref s), some (.int d0), some (.int f)] ∧ 0 < f ∧ f.natAbs < 2 ^ 50 ∧ Strm H' s ∧ Keep s H H', ?_, ?_⟩
      · refine ⟨_, rfl, rfl, _, rfl, ite2 (fun _ => ?_) (fun _ => ?_)⟩
        · refine ⟨_, rfl, _, _, rfl, rfl, ⟨by decide, by decide, by decide⟩, s, 10 ^ 12, rfl, hs4, by decide, up 50 (by decide), fun d4 H5 a4 b4 hs5 k5 => ⟨_, _, rfl, rfl, ?_⟩⟩
          exact ⟨_, rfl, by omega, by omega, hs5, kk.trans k5⟩
        · exact ⟨f, rfl, f0, by omega, hs4, kk⟩
      rintro σ H5 ⟨f, rfl, f0, fb, hs5, k5⟩
      refine ⟨fun σ H' => ∃ f : Int, σ = [some (.ref s), some (.int d0), some (.int f)] ∧ 0 < f ∧ ¬ isSq f ∧ f.natAbs < 2 ^ 60 ∧ Strm H' s ∧ Keep s H H', ?_, ?_⟩
      · refine ⟨_, rfl, f, rfl, by omega, up 50 fb, fun b hbq => ⟨b, rfl, ?_⟩⟩
        cases b with
        | true =>
          refine iteT ⟨_, rfl, _, _, rfl, rfl, .inr ⟨by decide, by decide⟩, ?_⟩
          exact ⟨_, rfl, by omega, two_not_sq f0 (hbq.mp rfl), by omega, hs5, k5⟩
        | false => exact iteF ⟨f, rfl, f0, fun z => Bool.noConfusion (hbq.mpr z), by omega, hs5, k5⟩
      rintro σ H6 ⟨f, rfl, f0, fq, fb, hs6, k6⟩
      exact ⟨_, rfl, k f H6 (.inr ⟨f0, fq⟩) fb hs6 k6⟩
theorem ok_l_element (T : Txt K mg) : FnOk P w K mg base CX0 4 T.f_l_element T.fd_l_element ["stream", "field", "top", "most"] spElem := by
  refine T.D_l_element.F.ok sc_l_element (fun vs H Q E h => ?_) (fun cdv A outer st H vs Q E hr h => ?_)
  · obtain ⟨s, f, t, m, rfl, _⟩ := h
    rfl
  · obtain ⟨s, f, t, m, rfl, hs, ht, hm, bt, bm, k⟩ := h
    refine ⟨_, (pss_cons (ps_set (i := 4) sc_l_element.nd rfl (Or.inl rfl) (pe_call (ok_l_ratio T) (hr.mono (by omega)) rfl T.D_l_ratio.g T.D_l_ratio.F.kp T.D_l_ratio.b .nil pass0 (pa_cons (pv 0) (pa_cons (pv 2) (pa_cons (pv 3) pa_nil)))))
    (pss_cons (ps_set (i := 5) sc_l_element.nd rfl (Or.inl rfl) (pe_call (ok_l_ratio T) (hr.mono (by omega)) rfl T.D_l_ratio.g T.D_l_ratio.F.kp T.D_l_ratio.b .nil pass0 (pa_cons (pv 0) (pa_cons (pv 2) (pa_cons (pv 3) pa_nil)))))
    (C8.pss_cut (ps_if (PW.pt (pw_or (pt_cmpR op_eq (pv 1) pe_int (nomark _)) (pw_or1 (pt_cmpR op_eq (pe_call (ok_l_next T) (hr.mono (by omega)) rfl T.D_l_next.g T.D_l_next.F.kp T.D_l_next.b .nil pass0 (pa_cons (pv 0) (pa_cons pe_int pa_nil))) pe_int (nomark _))))) (pss_one (ps_set (i := 5) sc_l_element.nd rfl (Or.inl rfl) (pe_tup (pa_cons pe_int (pa_cons pe_int pa_nil))))) pss_nil)
    (C8.pss_cut (ps_if (pt_cmpR op_eq (pe_call (ok_l_next T) (hr.mono (by omega)) rfl T.D_l_next.g T.D_l_next.F.kp T.D_l_next.b .nil pass0 (pa_cons (pv 0) (pa_cons pe_int pa_nil))) pe_int (nomark _)) (pss_one (ps_set (i := 4) sc_l_element.nd rfl (Or.inl rfl) (pe_tup (pa_cons pe_int (pa_cons pe_int pa_nil))))) pss_nil)
    (pss_one (ps_ret (pe_tup (pa_cons (pv 4) (pa_cons (pv 5) pa_nil))))))))), ?_⟩
    refine ⟨_, rfl, _, rfl, _, rfl, s, t, m, rfl, hs, ht, hm, up 100 bt, up 100 bm, fun px H1 xn xd x1 x2 x3 x4 hs1 k1 _ nx hx => ?_⟩
    refine ⟨_, rfl, _, rfl, _, rfl, s, t, m, rfl, hs1, ht, hm, up 100 bt, up 100 bm, fun py H2 yn yd y1 y2 y3 y4 hs2 k2 _ ny hy => ?_⟩
    have hx2 := k2 _ _ hx nx
    refine ⟨fun σ H' => ∃ (py : Addr) (y : Q2), σ = [some (.ref s), some (.int f), some (.int t), some (.int m), some (.ref px), some (.ref py)] ∧ Sm 100 y ∧ Nat.gcd y.1.natAbs y.2.natAbs = 1 ∧ (f = 0 → y = (0, 1)) ∧ y.1.natAbs ≤ t.natAbs ∧ y.2 ≤ m ∧
      py ≠ s ∧ RatAt H' py y ∧ H' px = some (.tup [.int xn, .int xd]) ∧ Strm H' s ∧ Keep s H H', ?_, ?_⟩
    · have zero : ∀ (H' : Hp), Strm H' s → Keep s H H' → H' px = some (.tup [.int xn, .int xd]) → ∀ p, H' p = none → ∃ (py : Addr) (y : Q2), [some (V.ref s), some (.int f), some (.int t), some (.int m), some (.ref px), some (.ref p)] = [some (V.ref s), some (.int f), some (.int t), some (.int m), some (.ref px), some (.ref py)] ∧ Sm 100 y ∧ Nat.gcd y.1.natAbs y.2.natAbs = 1 ∧ (f = 0 → y = (0, 1)) ∧ y.1.natAbs ≤ t.natAbs ∧ y.2 ≤ m ∧
          py ≠ s ∧ RatAt (upd H' p (.tup [.int 0, .int 1])) py y ∧ (upd H' p (.tup [.int 0, .int 1])) px = some (.tup [.int xn, .int xd]) ∧ Strm (upd H' p (.tup [.int 0, .int 1])) s ∧ Keep s H (upd H' p (.tup [.int 0, .int 1])) := fun H' z1 z2 z3 p hp =>
        ⟨p, (0, 1), rfl, sm_int (by decide), rfl, fun _ => rfl, Nat.zero_le _, by show (1 : Int) ≤ m; omega, z1.ne hp, upd_same, same_new hp _ _ z3, z1.same (same_new hp), z2.trans (Same.keep (same_new hp))⟩
      refine ⟨_, rfl, rfl, _, rfl, ?_⟩
      by_cases hf : f = 0
      · refine iteD1 (by rw [hf]) (iteT ⟨(by show 2 ≤ sizeLine; decide), fun p hp => ?_⟩)
        exact zero H2 hs2 (k1.trans k2) hx2 p hp
      · refine iteD0 (fun q => hf (by injection q)) ?_
        refine ⟨_, rfl, s, 6, rfl, hs2, by decide, up 3 (by decide), fun d H3 _ _ hs3 k3 => ⟨rfl, _, rfl, ite2 (fun _ => ?_) (fun _ => ?_)⟩⟩
        · refine ⟨(by show 2 ≤ sizeLine; decide), fun p hp => ?_⟩
          exact zero H3 hs3 ((k1.trans k2).trans k3) (k3 _ _ hx2 nx) p hp
        · exact ⟨py, (yn, yd), rfl, ⟨y1, by show yn.natAbs < 2 ^ 100; omega, by show yd.natAbs < 2 ^ 100; omega⟩, y2, fun z => absurd z hf, y3, y4, ny, k3 _ _ hy ny, k3 _ _ hx2 nx, hs3, (k1.trans k2).trans k3⟩
    rintro σ H3 ⟨py, y, rfl, sy, gy, zy, ty, my, ny, hy, hx3, hs3, k3⟩
    refine ⟨fun σ H' => ∃ (px : Addr) (x : Q2), σ = [some (.ref s), some (.int f), some (.int t), some (.int m), some (.ref px), some (.ref py)] ∧ Sm 100 x ∧ Nat.gcd x.1.natAbs x.2.natAbs = 1 ∧ x.1.natAbs ≤ t.natAbs ∧ x.2 ≤ m ∧ px ≠ s ∧ RatAt H' px x ∧ RatAt H' py y ∧ Strm H' s ∧ Keep s H H', ?_, ?_⟩
    · refine ⟨_, rfl, s, 8, rfl, hs3, by decide, up 4 (by decide), fun d H4 _ _ hs4 k4 => ⟨rfl, _, rfl, ite2 (fun _ => ?_) (fun _ => ?_)⟩⟩
      · refine ⟨(by show 2 ≤ sizeLine; decide), fun p hp => ?_⟩
        exact ⟨p, (0, 1), rfl, sm_int (by decide), rfl, Nat.zero_le _, by show (1 : Int) ≤ m; omega, hs4.ne hp, upd_same, same_new hp _ _ (k4 _ _ hy ny), hs4.same (same_new hp), (k3.trans k4).trans (Same.keep (same_new hp))⟩
      · exact ⟨px, (xn, xd), rfl, ⟨x1, by show xn.natAbs < 2 ^ 100; omega, by show xd.natAbs < 2 ^ 100; omega⟩, x2, x3, x4, nx, k4 _ _ hx3 nx, k4 _ _ hy ny, hs4, k3.trans k4⟩
    rintro σ H4 ⟨px, x, rfl, sx, gx, tx, mx, nx, hx, hy, hs4, k4⟩
    refine ⟨_, rfl, _, rfl, (by show 2 ≤ sizeLine; decide), fun e he => ?_⟩
    have e4 := same_new (o := .tup [.ref px, .ref py]) he
    exact k e px py _ x y sx sy gx gy zy tx ty mx my (hs4.same e4) (k4.trans (Same.keep e4)) (hs4.ne he) nx ny upd_same (e4 _ _ hx) (e4 _ _ hy)
theorem ok_l_multiply (T : Txt K mg) (mm : Nat) (hmm : mm ≤ 1850) : FnOk P w K mg base CX0 4 T.f_l_multiply T.fd_l_multiply ["field", "a", "b"] (spElt2 mm fMul) := by
  refine T.D_l_multiply.F.ok sc_l_multiply (fun vs H Q E h => ?_) (fun cdv A outer st H vs Q E hr h => ?_)
  · obtain ⟨f, a, b, x, y, z, w, rfl, _⟩ := h
    rfl
  · obtain ⟨f, a, b, x, y, z, w, rfl, ⟨ax, ay, ha, hax, hay⟩, ⟨bz, bw, hb, hbz, hbw⟩, sx, sy, sz, sw, bf, k⟩ := h
    have sf : Sm 100 (f, 1) := sm_int bf
    refine ⟨_, (pss_cons (ps_set (i := 3) sc_l_multiply.nd rfl (Or.inl rfl) (pe_call (ok_l_plusQ T) (hr.mono (by omega)) rfl T.D_l_plus.g T.D_l_plus.F.kp T.D_l_plus.b .nil pass0 (pa_cons (pe_call (ok_l_timesQ T) (hr.mono (by omega)) rfl T.D_l_times.g T.D_l_times.F.kp T.D_l_times.b .nil pass0 (pa_cons (pe_ix (r := rIxT K) ix_tup (pv 1) pe_int (fun _ _ => rfl)) (pa_cons (pe_ix (r := rIxT K) ix_tup (pv 2) pe_int (fun _ _ => rfl)) pa_nil))) (pa_cons (pe_call (ok_l_timesQ T) (hr.mono (by omega)) rfl T.D_l_times.g T.D_l_times.F.kp T.D_l_times.b .nil pass0 (pa_cons (pe_tup (pa_cons (pv 0) (pa_cons pe_int pa_nil))) (pa_cons (pe_call (ok_l_timesQ T) (hr.mono (by omega)) rfl T.D_l_times.g T.D_l_times.F.kp T.D_l_times.b .nil pass0 (pa_cons (pe_ix (r := rIxT K) ix_tup (pv 1) pe_int (fun _ _ => rfl)) (pa_cons (pe_ix (r := rIxT K) ix_tup (pv 2) pe_int (fun _ _ => rfl)) pa_nil))) pa_nil))) pa_nil))))
    (pss_one (ps_ret (pe_tup (pa_cons (pv 3) (pa_cons (pe_call (ok_l_plusQ T) (hr.mono (by omega)) rfl T.D_l_plus.g T.D_l_plus.F.kp T.D_l_plus.b .nil pass0 (pa_cons (pe_call (ok_l_timesQ T) (hr.mono (by omega)) rfl T.D_l_times.g T.D_l_times.F.kp T.D_l_times.b .nil pass0 (pa_cons (pe_ix (r := rIxT K) ix_tup (pv 1) pe_int (fun _ _ => rfl)) (pa_cons (pe_ix (r := rIxT K) ix_tup (pv 2) pe_int (fun _ _ => rfl)) pa_nil))) (pa_cons (pe_call (ok_l_timesQ T) (hr.mono (by omega)) rfl T.D_l_times.g T.D_l_times.F.kp T.D_l_times.b .nil pass0 (pa_cons (pe_ix (r := rIxT K) ix_tup (pv 1) pe_int (fun _ _ => rfl)) (pa_cons (pe_ix (r := rIxT K) ix_tup (pv 2) pe_int (fun _ _ => rfl)) pa_nil))) pa_nil))) pa_nil)))))), ?_⟩
    refine ⟨_, rfl, _, _, _, _, rfl, rfl, SqT.of ha, rfl, _, rfl, _, _, _, _, rfl, rfl, SqT.of hb, rfl, b_q hax hbz (sx.up 4000 (by omega)) (sz.up 4000 (by omega)) fun r1 H1 e1 _ h1 => ?_⟩
    refine ⟨_, rfl, (by show 2 ≤ sizeLine; decide), fun p hp => ?_⟩
    have e2 := e1.trans (same_new (o := .tup [.int f, .int 1]) hp)
    refine ⟨_, rfl, _, _, _, _, rfl, rfl, SqT.of (e2 _ _ ha), rfl, _, rfl, _, _, _, _, rfl, rfl, SqT.of (e2 _ _ hb), rfl, b_q (e2 _ _ hay) (e2 _ _ hbw) (sy.up 4000 (by omega)) (sw.up 4000 (by omega)) fun r3 H3 e3 _ h3 => ?_⟩
    refine b_q (x := (f, 1)) (e3 _ _ upd_same) h3 (sf.up 4000 (by omega)) ((sy.times sw).up 4000 (by omega)) fun r4 H4 e4 _ h4 => ?_
    refine b_q (e4 _ _ (e3 _ _ (same_new hp _ _ h1))) h4 ((sx.times sz).up 4000 (by omega)) ((sf.times (sy.times sw)).up 4000 (by omega)) fun r5 H5 e5 _ h5 => ?_
    have g5 := ((e2.trans e3).trans e4).trans e5
    refine ⟨_, rfl, ?_⟩
    refine ⟨_, rfl, _, _, _, _, rfl, rfl, SqT.of (g5 _ _ ha), rfl, _, rfl, _, _, _, _, rfl, rfl, SqT.of (g5 _ _ hb), rfl, b_q (g5 _ _ hax) (g5 _ _ hbw) (sx.up 4000 (by omega)) (sw.up 4000 (by omega)) fun r6 H6 e6 _ h6 => ?_⟩
    have g6 := g5.trans e6
    refine ⟨_, rfl, _, _, _, _, rfl, rfl, SqT.of (g6 _ _ ha), rfl, _, rfl, _, _, _, _, rfl, rfl, SqT.of (g6 _ _ hb), rfl, b_q (g6 _ _ hay) (g6 _ _ hbz) (sy.up 4000 (by omega)) (sz.up 4000 (by omega)) fun r7 H7 e7 _ h7 => ?_⟩
    refine b_q (e7 _ _ h6) h7 ((sx.times sw).up 4000 (by omega)) ((sy.times sz).up 4000 (by omega)) fun r8 H8 e8 _ h8 => ?_
    refine ⟨(by show 2 ≤ sizeLine; decide), fun r hr' => ?_⟩
    have e9 := same_new (o := .tup [.ref r5, .ref r8]) hr'
    exact k r _ (((g6.trans e7).trans e8).trans e9) ⟨r5, r8, upd_same, e9 _ _ (e8 _ _ (e7 _ _ (e6 _ _ h5))), e9 _ _ h8⟩
end
/-! ### signs -/
def nrm (f : Int) (x y : Q2) : Q2 := qMinus (qTimes x x) (qTimes (f, 1) (qTimes y y))
def sgF (f : Int) (x y : Q2) : Int := if y.1.sign = 0 ∨ x.1.sign = y.1.sign then x.1.sign else if x.1.sign = 0 then y.1.sign else x.1.sign * (nrm f x y).1.sign
def lsF (f : Int) (x y : Q2) : Int :=
  if 0 ≤ x.1 * y.2 ∧ 0 ≤ y.1 * x.2 * f then (if 0 < x.1 * y.2 ∨ 0 < y.1 * x.2 * f then 1 else 0)
  else if x.1 * y.2 ≤ 0 ∧ y.1 * x.2 * f ≤ 0 then -1
  else if y.1 * x.2 * (y.1 * x.2) * f < x.1 * y.2 * (x.1 * y.2) then (x.1 * y.2).sign else (y.1 * x.2).sign
theorem sign_size (i : Int) : i.sign.natAbs < 2 ^ 2 := by
  rcases Int.lt_trichotomy i 0 with h | h | h
  · rw [Int.sign_eq_neg_one_of_neg h]; decide
  · rw [h]; decide
  · rw [Int.sign_eq_one_of_pos h]; decide
theorem sign_pos_mul {a b : Int} (h : 0 < b) : (a * b).sign = a.sign := by
  rw [Int.sign_mul, Int.sign_eq_one_of_pos h, Int.mul_one]
theorem sign_pos_mul' {a b : Int} (h : 0 < b) : (b * a).sign = a.sign := by
  rw [Int.sign_mul, Int.sign_eq_one_of_pos h, Int.one_mul]
theorem sign_lo {N D : Int} (h : 0 < D) : (lo1 N D).sign = N.sign := by
  have e := lo_cross N D (by omega)
  have p := lo2_pos (n := N) (show D ≠ 0 by omega)
  rw [← sign_pos_mul (a := lo1 N D) h, e, sign_pos_mul' (by omega)]
theorem sq_of {f l r : Int} (hr : r ≠ 0) (h : l * l = r * r * f) : isSq f := by
  have h1 : r.natAbs ^ 2 ∣ l.natAbs ^ 2 := by
    rw [Nat.pow_two, Nat.pow_two, ← Int.natAbs_mul, ← Int.natAbs_mul, h, Int.natAbs_mul (r * r) f]
    exact Nat.dvd_mul_right _ _
  have h2 := (Nat.pow_dvd_pow_iff (by decide)).mp h1
  obtain ⟨t, ht⟩ := Int.natAbs_dvd_natAbs.mp h2
  subst ht
  refine ⟨t.natAbs, by omega, ?_⟩
  have h3 : (r * r) * (t * t) = (r * r) * f := by grind
  have h4 : t * t = f := Int.eq_of_mul_eq_mul_left (Int.mul_ne_zero hr hr) h3
  rw [← h4]
  have := Int.natAbs_mul_self (a := t)
  omega
theorem nrm_sign {f : Int} {x y : Q2} (hx : 1 ≤ x.2) (hy : 1 ≤ y.2) : (nrm f x y).1.sign = (x.1 * y.2 * (x.1 * y.2) - y.1 * x.2 * (y.1 * x.2) * f).sign := by
  have px : 0 < x.2 * x.2 := Int.mul_pos (by omega) (by omega)
  have py : 0 < y.2 * y.2 := Int.mul_pos (by omega) (by omega)
  have cu := lo_cross (x.1 * x.1) (x.2 * x.2) (by omega)
  have pu := lo2_pos (n := x.1 * x.1) (show x.2 * x.2 ≠ 0 by omega)
  have cw := lo_cross (y.1 * y.1) (y.2 * y.2) (by omega)
  have pw := lo2_pos (n := y.1 * y.1) (show y.2 * y.2 ≠ 0 by omega)
  show (lo1 (nMinus (lo1 (x.1 * x.1) (x.2 * x.2)) (lo2 (x.1 * x.1) (x.2 * x.2)) (lo1 (f * (lo1 (y.1 * y.1) (y.2 * y.2))) (1 * (lo2 (y.1 * y.1) (y.2 * y.2)))) (lo2 (f * (lo1 (y.1 * y.1) (y.2 * y.2))) (1 * (lo2 (y.1 * y.1) (y.2 * y.2)))))
    (lo2 (x.1 * x.1) (x.2 * x.2) * (lo2 (f * (lo1 (y.1 * y.1) (y.2 * y.2))) (1 * (lo2 (y.1 * y.1) (y.2 * y.2)))))).sign = _
  generalize lo1 (x.1 * x.1) (x.2 * x.2) = u1 at *
  generalize lo2 (x.1 * x.1) (x.2 * x.2) = u2 at *
  generalize lo1 (y.1 * y.1) (y.2 * y.2) = w1 at *
  generalize lo2 (y.1 * y.1) (y.2 * y.2) = w2 at *
  have nw : (1 * w2 : Int) ≠ 0 := by omega
  have cv := lo_cross (f * w1) (1 * w2) nw
  have pv := lo2_pos (n := f * w1) nw
  generalize lo1 (f * w1) (1 * w2) = v1 at *
  generalize lo2 (f * w1) (1 * w2) = v2 at *
  rw [sign_lo (Int.mul_pos (by omega) (by omega))]
  unfold nMinus
  have key : (u1 * v2 - v1 * u2) * ((x.2 * x.2) * (y.2 * y.2) * w2) = (u2 * v2 * w2) * (x.1 * y.2 * (x.1 * y.2) - y.1 * x.2 * (y.1 * x.2) * f) := by
    obtain ⟨n, d⟩ := x
    obtain ⟨m, e⟩ := y
    dsimp only at *
    grind
  rw [← sign_pos_mul (a := u1 * v2 - v1 * u2) (Int.mul_pos (Int.mul_pos px py) (show 0 < w2 by omega)), key, sign_pos_mul' (Int.mul_pos (Int.mul_pos (by omega) (by omega)) (by omega))]
theorem sg_same {f : Int} {x y : Q2} (hx : 1 ≤ x.2) (hy : 1 ≤ y.2) (hf : f = 0 ∨ (0 < f ∧ ¬ isSq f)) (hz : f = 0 → y.1 = 0) : sgF f x y = lsF f x y := by
  have e1 : (x.1 * y.2).sign = x.1.sign := sign_pos_mul (by omega)
  have e2 : (y.1 * x.2).sign = y.1.sign := sign_pos_mul (by omega)
  have e3 := nrm_sign (f := f) hx hy
  unfold sgF lsF
  rw [e3, ← e1, ← e2]
  generalize x.1 * y.2 = L
  rcases hf with rfl | ⟨f0, fq⟩
  · rw [hz rfl, Int.zero_mul]
    rcases Int.lt_trichotomy L 0 with h | h | h
    · rw [Int.sign_eq_neg_one_of_neg h]
      simp only [Int.sign_zero, true_or, if_true, Int.zero_mul, Int.le_refl, and_true]
      rw [if_neg (by omega), if_pos (by omega)]
    · subst h
      simp
    · rw [Int.sign_eq_one_of_pos h]
      simp only [Int.sign_zero, true_or, if_true, Int.zero_mul, Int.le_refl, and_true]
      rw [if_pos (by omega), if_pos (.inl h)]
  · generalize hR : y.1 * x.2 = R
    have sR : ∀ z : Int, (0 < z ↔ 0 < z * f) ∧ (z < 0 ↔ z * f < 0) := fun z => by
      refine ⟨⟨fun h => Int.mul_pos h f0, fun h => ?_⟩, ⟨fun h => Int.mul_neg_of_neg_of_pos h f0, fun h => ?_⟩⟩
      · rcases Int.lt_trichotomy z 0 with q | q | q
        · have := Int.mul_neg_of_neg_of_pos q f0; omega
        · rw [q, Int.zero_mul] at h; omega
        · exact q
      · rcases Int.lt_trichotomy z 0 with q | q | q
        · exact q
        · rw [q, Int.zero_mul] at h; omega
        · have := Int.mul_pos q f0; omega
    obtain ⟨r1, r2⟩ := sR R
    have ne : R ≠ 0 → L * L ≠ R * R * f := fun hr h => fq (sq_of hr h)
    rcases Int.lt_trichotomy L 0 with hl | hl | hl <;> rcases Int.lt_trichotomy R 0 with hr | hr | hr
    · rw [Int.sign_eq_neg_one_of_neg hl, Int.sign_eq_neg_one_of_neg hr, if_pos (.inr rfl), if_neg (by omega), if_pos (by omega)]
    · rw [Int.sign_eq_neg_one_of_neg hl, hr, Int.zero_mul, if_pos (.inl rfl), if_neg (by omega), if_pos (by omega)]
    · rw [Int.sign_eq_neg_one_of_neg hl, Int.sign_eq_one_of_pos hr, if_neg (by decide), if_neg (by decide), if_neg (by omega), if_neg (by omega)]
      have := ne (by omega)
      rcases (show R * R * f < L * L ∨ L * L < R * R * f by omega) with h | h
      · rw [if_pos h, Int.sign_eq_one_of_pos (by omega)]; rfl
      · rw [if_neg (by omega), Int.sign_eq_neg_one_of_neg (by omega)]; rfl
    · subst hl
      rw [Int.sign_zero, Int.sign_eq_neg_one_of_neg hr, if_neg (by decide), if_pos rfl, if_neg (by omega), if_pos (by omega)]
    · subst hl hr
      rw [Int.sign_zero, Int.zero_mul]
      simp
    · subst hl
      rw [Int.sign_zero, Int.sign_eq_one_of_pos hr, if_neg (by decide), if_pos rfl, if_pos (by omega), if_pos (by omega)]
    · rw [Int.sign_eq_one_of_pos hl, Int.sign_eq_neg_one_of_neg hr, if_neg (by decide), if_neg (by decide), if_neg (by omega), if_neg (by omega)]
      have := ne (by omega)
      rcases (show R * R * f < L * L ∨ L * L < R * R * f by omega) with h | h
      · rw [if_pos h, Int.sign_eq_one_of_pos (by omega)]; rfl
      · rw [if_neg (by omega), Int.sign_eq_neg_one_of_neg (by omega)]; rfl
    · rw [Int.sign_eq_one_of_pos hl, hr, Int.zero_mul, if_pos (.inl rfl), if_pos (by omega), if_pos (by omega)]
    · rw [Int.sign_eq_one_of_pos hl, Int.sign_eq_one_of_pos hr, if_pos (.inr rfl), if_pos (by omega), if_pos (by omega)]
theorem sg_neg {f : Int} {x y : Q2} (hx : 1 ≤ x.2) (hy : 1 ≤ y.2) : sgF f (0 - x.1, x.2) (0 - y.1, y.2) = 0 - sgF f x y := by
  have s1 : ∀ i : Int, (0 - i).sign = - i.sign := fun i => by rw [Int.zero_sub, Int.sign_neg]
  have e3 := nrm_sign (f := f) hx hy
  have e4 := nrm_sign (f := f) (x := (0 - x.1, x.2)) (y := (0 - y.1, y.2)) hx hy
  have e5 : (0 - x.1) * y.2 * ((0 - x.1) * y.2) - (0 - y.1) * x.2 * ((0 - y.1) * x.2) * f = x.1 * y.2 * (x.1 * y.2) - y.1 * x.2 * (y.1 * x.2) * f := by grind
  unfold sgF
  rw [e4, e3]
  dsimp only
  rw [e5, s1, s1]
  by_cases h1 : y.1.sign = 0 ∨ x.1.sign = y.1.sign
  · rw [if_pos h1, if_pos (by omega)]; omega
  · rw [if_neg h1, if_neg (by omega)]
    by_cases h2 : x.1.sign = 0
    · rw [if_pos h2, if_pos (by omega)]; omega
    · rw [if_neg h2, if_neg (by omega), Int.neg_mul]; omega
def spRSign : Sp := fun vs H Q _ => ∃ (p : Addr) (q : Q2), vs = [.ref p] ∧ RatAt H p q ∧ Q (.int q.1.sign) H
def spSign : Sp := fun vs H Q _ => ∃ n : Int, vs = [.int n] ∧ Q (.int n.sign) H
/-- of an element: the norm, a sign -/
def spNorm : Sp := fun vs H Q _ => ∃ (f : Int) (a : Addr) (x y : Q2), vs = [.int f, .ref a] ∧ EltAt H a x y ∧ Sm 200 x ∧ Sm 200 y ∧ f.natAbs < 2 ^ 100 ∧ ∀ (r : Addr) (H' : Hp), Same H H' → H r = none → RatAt H' r (nrm f x y) → Q (.ref r) H'
def spSgn : Sp := fun vs H Q _ => ∃ (f : Int) (a : Addr) (x y : Q2), vs = [.int f, .ref a] ∧ EltAt H a x y ∧ Sm 200 x ∧ Sm 200 y ∧ f.natAbs < 2 ^ 100 ∧ ∀ H', Same H H' → Q (.int (sgF f x y)) H'
def spLSgn : Sp := fun vs H Q _ => ∃ (f : Int) (a : Addr) (x y : Q2), vs = [.int f, .ref a] ∧ EltAt H a x y ∧ Sm 200 x ∧ Sm 200 y ∧ f.natAbs < 2 ^ 100 ∧ Q (.int (lsF f x y)) H
section
variable {P : Program} {w : World} {K : PySem.W.Frag} {mg : Str → Option Value} {base : Heap}
theorem ok_norm (T : Txt K mg) : FnOk P w K mg base CX0 5 T.f_norm T.fd_norm ["field", "a"] spNorm := by
  refine T.D_norm.F.ok sc_norm (fun vs H Q E h => ?_) (fun cdv A outer st H vs Q E hr h => ?_)
  · obtain ⟨f, a, x, y, rfl, _⟩ := h
    rfl
  · obtain ⟨f, a, x, y, rfl, ⟨ax, ay, ha, hax, hay⟩, sx, sy, bf, k⟩ := h
    have sf : Sm 100 (f, 1) := sm_int bf
    refine ⟨_, (pss_one (ps_ret (pe_call (ok_minusQ T) (hr.mono (by omega)) rfl T.D_minus.g T.D_minus.F.kp T.D_minus.b .nil pass0 (pa_cons (pe_call (ok_timesQ T) (hr.mono (by omega)) rfl T.D_times.g T.D_times.F.kp T.D_times.b .nil pass0 (pa_cons (pe_ix (r := rIxT K) ix_tup (pv 1) pe_int (fun _ _ => rfl)) (pa_cons (pe_ix (r := rIxT K) ix_tup (pv 1) pe_int (fun _ _ => rfl)) pa_nil))) (pa_cons (pe_call (ok_timesQ T) (hr.mono (by omega)) rfl T.D_times.g T.D_times.F.kp T.D_times.b .nil pass0 (pa_cons (pe_tup (pa_cons (pv 0) (pa_cons pe_int pa_nil))) (pa_cons (pe_call (ok_timesQ T) (hr.mono (by omega)) rfl T.D_times.g T.D_times.F.kp T.D_times.b .nil pass0 (pa_cons (pe_ix (r := rIxT K) ix_tup (pv 1) pe_int (fun _ _ => rfl)) (pa_cons (pe_ix (r := rIxT K) ix_tup (pv 1) pe_int (fun _ _ => rfl)) pa_nil))) pa_nil))) pa_nil))))), ?_⟩
    refine ⟨_, rfl, _, _, _, _, rfl, rfl, SqT.of ha, rfl, _, rfl, _, _, _, _, rfl, rfl, SqT.of ha, rfl, b_q hax hax (sx.up 4000) (sx.up 4000) fun r1 H1 e1 n1 h1 => ?_⟩
    refine ⟨_, rfl, (by show 2 ≤ sizeLine; decide), fun p hp => ?_⟩
    have e2 := e1.trans (same_new (o := .tup [.int f, .int 1]) hp)
    refine ⟨_, rfl, _, _, _, _, rfl, rfl, SqT.of (e2 _ _ ha), rfl, _, rfl, _, _, _, _, rfl, rfl, SqT.of (e2 _ _ ha), rfl, b_q (e2 _ _ hay) (e2 _ _ hay) (sy.up 4000) (sy.up 4000) fun r3 H3 e3 _ h3 => ?_⟩
    refine b_q (x := (f, 1)) (e3 _ _ upd_same) h3 (sf.up 4000) ((sy.times sy).up 4000) fun r4 H4 e4 _ h4 => ?_
    refine b_q (e4 _ _ (e3 _ _ (same_new hp _ _ h1))) h4 ((sx.times sx).up 4000) ((sf.times (sy.times sy)).up 4000) fun r5 H5 e5 n5 h5 => ?_
    have g5 := ((e2.trans e3).trans e4).trans e5
    exact k r5 _ g5 (((e2.trans e3).trans e4).free n5) h5
end
/-! ### what a pair is worth -/
def Nrm (q : Q2) : Prop := 1 ≤ q.2 ∧ Nat.gcd q.1.natAbs q.2.natAbs = 1
def val (q : Q2) : Rat := (q.1 : Rat) / (q.2 : Rat)
theorem ratne {d : Int} (h : d ≠ 0) : (d : Rat) ≠ 0 := fun e => h (Rat.intCast_inj.mp (by rw [e]; rfl))
theorem lo_nrm {N D : Int} (h : D ≠ 0) : Nrm (lo1 N D, lo2 N D) := ⟨lo2_pos h, lo_gcd h⟩
theorem val_lo {N D : Int} (h : D ≠ 0) : val (lo1 N D, lo2 N D) = (N : Rat) / (D : Rat) := by
  have e : ((lo1 N D * D : Int) : Rat) = ((lo2 N D * N : Int) : Rat) := by rw [lo_cross N D h]
  rw [Rat.intCast_mul, Rat.intCast_mul] at e
  have h1 := ratne h
  have h2 : ((lo2 N D : Int) : Rat) ≠ 0 := ratne (by have := lo2_pos (n := N) h; omega)
  unfold val
  dsimp only
  grind
theorem val_plus {x y : Q2} (hx : 1 ≤ x.2) (hy : 1 ≤ y.2) : val (qPlus x y) = val x + val y := by
  have h1 : (x.2 : Rat) ≠ 0 := ratne (by omega)
  have h2 : (y.2 : Rat) ≠ 0 := ratne (by omega)
  have e := val_lo (N := nPlus x.1 x.2 y.1 y.2) (D := dBoth x.1 x.2 y.1 y.2) (Int.mul_ne_zero (by omega) (by omega))
  show val (lo1 (nPlus x.1 x.2 y.1 y.2) (dBoth x.1 x.2 y.1 y.2), lo2 (nPlus x.1 x.2 y.1 y.2) (dBoth x.1 x.2 y.1 y.2)) = _
  rw [e]
  unfold nPlus dBoth val
  rw [Rat.intCast_add, Rat.intCast_mul, Rat.intCast_mul, Rat.intCast_mul]
  grind
theorem val_minus {x y : Q2} (hx : 1 ≤ x.2) (hy : 1 ≤ y.2) : val (qMinus x y) = val x - val y := by
  have h1 : (x.2 : Rat) ≠ 0 := ratne (by omega)
  have h2 : (y.2 : Rat) ≠ 0 := ratne (by omega)
  have e := val_lo (N := nMinus x.1 x.2 y.1 y.2) (D := dBoth x.1 x.2 y.1 y.2) (Int.mul_ne_zero (by omega) (by omega))
  show val (lo1 (nMinus x.1 x.2 y.1 y.2) (dBoth x.1 x.2 y.1 y.2), lo2 (nMinus x.1 x.2 y.1 y.2) (dBoth x.1 x.2 y.1 y.2)) = _
  rw [e]
  unfold nMinus dBoth val
  rw [Rat.intCast_sub, Rat.intCast_mul, Rat.intCast_mul, Rat.intCast_mul]
  grind
theorem val_times {x y : Q2} (hx : 1 ≤ x.2) (hy : 1 ≤ y.2) : val (qTimes x y) = val x * val y := by
  have h1 : (x.2 : Rat) ≠ 0 := ratne (by omega)
  have h2 : (y.2 : Rat) ≠ 0 := ratne (by omega)
  have e := val_lo (N := nTimes x.1 x.2 y.1 y.2) (D := dBoth x.1 x.2 y.1 y.2) (Int.mul_ne_zero (by omega) (by omega))
  show val (lo1 (nTimes x.1 x.2 y.1 y.2) (dBoth x.1 x.2 y.1 y.2), lo2 (nTimes x.1 x.2 y.1 y.2) (dBoth x.1 x.2 y.1 y.2)) = _
  rw [e]
  unfold nTimes dBoth val
  rw [Rat.intCast_mul, Rat.intCast_mul]
  grind
theorem val_inj {x y : Q2} (hx : Nrm x) (hy : Nrm y) (h : val x = val y) : x = y := by
  obtain ⟨a, b⟩ := x
  obtain ⟨c, d⟩ := y
  obtain ⟨b1, g1⟩ := hx
  obtain ⟨d1, g2⟩ := hy
  dsimp only at *
  have hb : (b : Rat) ≠ 0 := ratne (by omega)
  have hd : (d : Rat) ≠ 0 := ratne (by omega)
  have e : (a : Rat) * (d : Rat) = (c : Rat) * (b : Rat) := by
    unfold val at h
    dsimp only at h
    grind
  rw [← Rat.intCast_mul, ← Rat.intCast_mul, Rat.intCast_inj] at e
  have en : a.natAbs * d.natAbs = c.natAbs * b.natAbs := by rw [← Int.natAbs_mul, ← Int.natAbs_mul, e]
  have k1 : b.natAbs ∣ d.natAbs := by
    have : Nat.Coprime b.natAbs a.natAbs := by rw [Nat.Coprime, Nat.gcd_comm]; exact g1
    exact this.dvd_of_dvd_mul_left (by rw [en]; exact Nat.dvd_mul_left _ _)
  have k2 : d.natAbs ∣ b.natAbs := by
    have : Nat.Coprime d.natAbs c.natAbs := by rw [Nat.Coprime, Nat.gcd_comm]; exact g2
    exact this.dvd_of_dvd_mul_left (by rw [← en]; exact Nat.dvd_mul_left _ _)
  have k3 := Nat.dvd_antisymm k1 k2
  have k4 : b = d := by omega
  subst k4
  have k5 : a = c := Int.eq_of_mul_eq_mul_right (show b ≠ 0 by omega) e
  rw [k5]
theorem qPlus_nrm {x y : Q2} (hx : 1 ≤ x.2) (hy : 1 ≤ y.2) : Nrm (qPlus x y) := lo_nrm (Int.mul_ne_zero (by omega) (by omega))
theorem qMinus_nrm {x y : Q2} (hx : 1 ≤ x.2) (hy : 1 ≤ y.2) : Nrm (qMinus x y) := lo_nrm (Int.mul_ne_zero (by omega) (by omega))
theorem qTimes_nrm {x y : Q2} (hx : 1 ≤ x.2) (hy : 1 ≤ y.2) : Nrm (qTimes x y) := lo_nrm (Int.mul_ne_zero (by omega) (by omega))
theorem val_int (f : Int) : val (f, 1) = (f : Rat) := by
  unfold val
  have : ((1 : Int) : Rat) = 1 := rfl
  rw [this]
  grind
/-- the quotient of two rationals -/
def qOver (x y : Q2) : Q2 := (lo1 (x.1 * y.2) (x.2 * y.1), lo2 (x.1 * y.2) (x.2 * y.1))
theorem val_over {x y : Q2} (hx : 1 ≤ x.2) (hy : 1 ≤ y.2) (h : y.1 ≠ 0) : val (qOver x y) * val y = val x := by
  have h1 : (x.2 : Rat) ≠ 0 := ratne (by omega)
  have h2 : (y.2 : Rat) ≠ 0 := ratne (by omega)
  have h3 : (y.1 : Rat) ≠ 0 := ratne h
  unfold qOver
  rw [val_lo (Int.mul_ne_zero (by omega) h)]
  unfold val
  rw [Rat.intCast_mul, Rat.intCast_mul]
  grind
theorem qOver_nrm {x y : Q2} (hx : 1 ≤ x.2) (h : y.1 ≠ 0) : Nrm (qOver x y) := lo_nrm (Int.mul_ne_zero (by omega) h)
theorem Sm.over {n m : Nat} {x y : Q2} (hx : Sm n x) (hy : Sm m y) (h : y.1 ≠ 0) : Sm (n + m) (qOver x y) :=
  sm_lo (Int.mul_ne_zero (by have := hx.1; omega) h) (mul_up n m hx.2.1 hy.2.2 (Nat.le_refl _)) (mul_up n m hx.2.2 hy.2.1 (Nat.le_refl _))
theorem val_nrm {f : Int} {x y : Q2} (hx : 1 ≤ x.2) (hy : 1 ≤ y.2) : val (nrm f x y) = val x * val x - (f : Rat) * (val y * val y) := by
  unfold nrm
  rw [val_minus (qTimes_nrm hx hx).1 (qTimes_nrm (x := (f, 1)) (Int.le_refl 1) (qTimes_nrm hy hy).1).1, val_times hx hx, val_times (x := (f, 1)) (Int.le_refl 1) (qTimes_nrm hy hy).1, val_times hy hy, val_int]
theorem Sm.nrm {f : Int} {n : Nat} {x y : Q2} (hx : Sm n x) (hy : Sm n y) (hf : f.natAbs < 2 ^ 100) : Sm (100 + (n + n) + (100 + (n + n)) + 1) (nrm f x y) :=
  Sm.minus ((hx.times hx).up _ (by omega)) ((sm_int (n := 100) hf).times (hy.times hy))
/-- the norm of what is not zero is not zero -/
theorem nrm_ne {f : Int} {x y : Q2} (hx : Nrm x) (hy : Nrm y) (hf : f = 0 ∨ (0 < f ∧ ¬ isSq f)) (hz : f = 0 → y = (0, 1)) (ne : ¬ (x = (0, 1) ∧ y = (0, 1))) : (nrm f x y).1 ≠ 0 := by
  intro e
  have s := nrm_sign (f := f) hx.1 hy.1
  rw [e, Int.sign_zero] at s
  have s0 : x.1 * y.2 * (x.1 * y.2) - y.1 * x.2 * (y.1 * x.2) * f = 0 := Int.sign_eq_zero_iff_zero.mp s.symm
  have zero : ∀ q : Q2, Nrm q → q.1 = 0 → q = (0, 1) := fun q hq h => by
    obtain ⟨n, d⟩ := q
    dsimp only at h
    subst h
    have h2 := hq.2
    have h1 := hq.1
    rw [show (0 : Int).natAbs = 0 from rfl, Nat.gcd_zero_left] at h2
    dsimp only at h1 h2
    rw [show d = 1 by omega]
  by_cases hw : y.1 * x.2 = 0
  · rw [hw, Int.zero_mul, Int.zero_mul, Int.sub_zero] at s0
    have h1 : x.1 * y.2 = 0 := by rcases Int.mul_eq_zero.mp s0 with h | h <;> exact h
    have h2 : x.1 = 0 := by
      rcases Int.mul_eq_zero.mp h1 with h | h
      · exact h
      · have := hy.1; omega
    have h3 : y.1 = 0 := by
      rcases Int.mul_eq_zero.mp hw with h | h
      · exact h
      · have := hx.1; omega
    exact ne ⟨zero x hx h2, zero y hy h3⟩
  · rcases hf with h0 | ⟨h0, hq⟩
    · rw [hz h0] at hw
      exact hw (Int.zero_mul _)
    · exact hq (sq_of (l := x.1 * y.2) hw (by omega))
/-! ### numbers of elements -/
/-- math.lcm -/
def rLcm : List V → Hp → VK → Prop := fun vs H Q => ∃ a b : Int, vs = [.int a, .int b] ∧ a.natAbs < 2 ^ 6000 ∧ b.natAbs < 2 ^ 6000 ∧ Q (.int ((Nat.lcm a.natAbs b.natAbs : Nat) : Int)) H
theorem log_lt {n b : Nat} (h : n < 2 ^ b) (hb : 0 < b) : n.log2 < b := by
  by_cases z : n = 0
  · rw [z]; exact hb
  · exact (Nat.log2_lt z).mpr h
theorem lcm_size {a b m n : Nat} (ha : a < 2 ^ m) (hb : b < 2 ^ n) : Nat.lcm a b < 2 ^ (m + n) := by
  rw [Nat.pow_add]
  by_cases h : a = 0 ∨ b = 0
  · rcases h with rfl | rfl
    · rw [Nat.lcm_zero_left]; exact Nat.mul_pos (Nat.two_pow_pos _) (Nat.two_pow_pos _)
    · rw [Nat.lcm_zero_right]; exact Nat.mul_pos (Nat.two_pow_pos _) (Nat.two_pow_pos _)
  · exact Nat.lt_of_le_of_lt (Nat.le_of_dvd (Nat.mul_pos (by omega) (by omega)) (Nat.lcm_dvd (Nat.dvd_mul_right _ _) (Nat.dvd_mul_left _ _))) (Nat.mul_lt_mul'' ha hb)
theorem cr_lcm {X : Cx} : CallR X (.builtin "math.lcm") rLcm := by
  intro pins s σ H vs us Q I r h
  obtain ⟨a, b, rfl, ha, hb, q⟩ := h
  obtain ⟨t, u, rfl⟩ := Vals.int2 r
  have l1 : (max 1 a.natAbs).log2 < 6000 := log_lt (by have := Nat.one_lt_two_pow (show 6000 ≠ 0 by decide); omega) (by decide)
  have l2 : (max a.natAbs b.natAbs).log2 < 6000 := log_lt (by omega) (by decide)
  have e1 : (Nat.lcm 1 a.natAbs).lcm b.natAbs = Nat.lcm a.natAbs b.natAbs := by rw [Nat.lcm_one_left]
  have sz : ((((Nat.lcm 1 a.natAbs).lcm b.natAbs : Nat) : Int)).natAbs.log2 < bitsLine := by
    rw [e1, Int.natAbs_natCast]
    exact Nat.lt_of_lt_of_le (log_lt (lcm_size ha hb) (by decide)) (by decide)
  refine PySem.call_function_meets PySem.W.MGF.kind_lcm PySem.W.MGF.plain_lcm PySem.W.MGF.entry_lcm (PySem.W.MGF.args_lcm _ _) (PySem.W.mg_run_lcm a t b u (by omega) (by omega) sz).meets ?_
  rw [e1]
  exact ⟨.int _, H, I.tok _, ⟨_, rfl⟩, q⟩
/-- the equation of an element: c + b t + a t t -/
def eqA (f : Int) (x y : Q2) : Int := ((Nat.lcm (qTimes (-2, 1) x).2.natAbs (nrm f x y).2.natAbs : Nat) : Int)
def eqB (f : Int) (x y : Q2) : Int := (qTimes (-2, 1) x).1 * (eqA f x y / (qTimes (-2, 1) x).2)
def eqC (f : Int) (x y : Q2) : Int := (nrm f x y).1 * (eqA f x y / (nrm f x y).2)
theorem nrm_nrm {f : Int} {x y : Q2} (hx : 1 ≤ x.2) (hy : 1 ≤ y.2) : Nrm (nrm f x y) := qMinus_nrm (qTimes_nrm hx hx).1 (qTimes_nrm (x := (f, 1)) (Int.le_refl 1) (qTimes_nrm hy hy).1).1
/-- a least common denominator leaves no divisor -/
theorem lcm_coprime {l m n k : Int} (h1 : Nrm (l, m)) (h2 : Nrm (n, k)) {A : Int} (hA : A = ((Nat.lcm m.natAbs k.natAbs : Nat) : Int)) :
    1 ≤ A ∧ (A / m) * m = A ∧ (A / k) * k = A ∧ Nat.gcd (Nat.gcd A.natAbs (l * (A / m)).natAbs) (n * (A / k)).natAbs = 1 := by
  have m1 : 1 ≤ m := h1.1
  have k1 : 1 ≤ k := h2.1
  obtain ⟨M, rfl⟩ : ∃ M : Nat, m = (M : Int) := ⟨m.toNat, by omega⟩
  obtain ⟨K', rfl⟩ : ∃ K' : Nat, k = (K' : Int) := ⟨k.toNat, by omega⟩
  rw [Int.natAbs_natCast, Int.natAbs_natCast] at hA
  subst hA
  have dM : M ∣ Nat.lcm M K' := Nat.dvd_lcm_left M K'
  have dK : K' ∣ Nat.lcm M K' := Nat.dvd_lcm_right M K'
  have pos : 0 < Nat.lcm M K' := Nat.lcm_pos (by omega) (by omega)
  have eM : ((Nat.lcm M K' : Nat) : Int) / (M : Int) = ((Nat.lcm M K' / M : Nat) : Int) := by rw [Int.natCast_ediv]
  have eK : ((Nat.lcm M K' : Nat) : Int) / (K' : Int) = ((Nat.lcm M K' / K' : Nat) : Int) := by rw [Int.natCast_ediv]
  have cM : Nat.lcm M K' / M * M = Nat.lcm M K' := Nat.div_mul_cancel dM
  have cK : Nat.lcm M K' / K' * K' = Nat.lcm M K' := Nat.div_mul_cancel dK
  refine ⟨by omega, ?_, ?_, ?_⟩
  · rw [eM, ← Int.natCast_mul, cM]
  · rw [eK, ← Int.natCast_mul, cK]
  · rw [eM, eK, Int.natAbs_mul, Int.natAbs_mul, Int.natAbs_natCast, Int.natAbs_natCast, Int.natAbs_natCast]
    have g1 : Nat.gcd l.natAbs M = 1 := h1.2
    have g2 : Nat.gcd n.natAbs K' = 1 := h2.2
    have co : Nat.gcd (Nat.lcm M K' / M) (Nat.lcm M K' / K') = 1 := by
      have hg : 0 < Nat.gcd M K' := Nat.gcd_pos_of_pos_left _ (by omega)
      have q1 : Nat.lcm M K' / M = K' / Nat.gcd M K' := by
        refine Nat.div_eq_of_eq_mul_left (by omega) ?_
        rw [Nat.lcm, Nat.mul_comm M K', Nat.mul_div_assoc K' (Nat.gcd_dvd_left M K'), ← Nat.mul_div_assoc K' (Nat.gcd_dvd_left M K'), Nat.mul_comm K' M, Nat.mul_div_assoc M (Nat.gcd_dvd_right M K'), Nat.mul_comm]
      have q2 : Nat.lcm M K' / K' = M / Nat.gcd M K' := by
        refine Nat.div_eq_of_eq_mul_left (by omega) ?_
        rw [Nat.lcm, Nat.mul_comm M K', Nat.mul_div_assoc K' (Nat.gcd_dvd_left M K'), Nat.mul_comm]
      rw [q1, q2, Nat.gcd_comm]
      exact Nat.gcd_div_gcd_div_gcd_of_pos_left (by omega)
    generalize Nat.lcm M K' / M = u at *
    generalize Nat.lcm M K' / K' = v at *
    generalize hG : Nat.gcd (Nat.gcd (Nat.lcm M K') (l.natAbs * u)) (n.natAbs * v) = G
    have d1 : G ∣ Nat.lcm M K' := by rw [← hG]; exact Nat.dvd_trans (Nat.gcd_dvd_left _ _) (Nat.gcd_dvd_left _ _)
    have d2 : G ∣ l.natAbs * u := by rw [← hG]; exact Nat.dvd_trans (Nat.gcd_dvd_left _ _) (Nat.gcd_dvd_right _ _)
    have d3 : G ∣ n.natAbs * v := by rw [← hG]; exact Nat.gcd_dvd_right _ _
    have e1 : G ∣ u := by
      have : G ∣ Nat.gcd (u * l.natAbs) (u * M) := Nat.dvd_gcd (by rw [Nat.mul_comm]; exact d2) (by rw [cM]; exact d1)
      rw [Nat.gcd_mul_left, g1, Nat.mul_one] at this
      exact this
    have e2 : G ∣ v := by
      have : G ∣ Nat.gcd (v * n.natAbs) (v * K') := Nat.dvd_gcd (by rw [Nat.mul_comm]; exact d3) (by rw [cK]; exact d1)
      rw [Nat.gcd_mul_left, g2, Nat.mul_one] at this
      exact this
    have e3 : G ∣ 1 := by rw [← co]; exact Nat.dvd_gcd e1 e2
    exact Nat.dvd_one.mp e3
theorem RatV.no {K : PySem.W.Frag} {H : Hp} {a : Addr} {n d : Int} (h : H a = some (.tup [.int n, .int d])) (e : ¬ (1 ≤ d ∧ Nat.gcd n.natAbs d.natAbs = 1)) : RatV K H (.ref a) false := by
  have r := RatV.pair (K := K) h
  have z : (decide (1 ≤ d) && decide (Nat.gcd n.natAbs d.natAbs = 1)) = false := by
    rw [Bool.and_eq_false_iff]
    by_cases h1 : 1 ≤ d
    · exact .inr (decide_eq_false fun h2 => e ⟨h1, h2⟩)
    · exact .inl (decide_eq_false h1)
  rw [z] at r
  exact r
theorem RatV.yes {K : PySem.W.Frag} {H : Hp} {a : Addr} {n d : Int} (h : H a = some (.tup [.int n, .int d])) (h1 : 1 ≤ d) (h2 : Nat.gcd n.natAbs d.natAbs = 1) : RatV K H (.ref a) true := by
  have r := RatV.pair (K := K) h
  rw [decide_eq_true h1, decide_eq_true h2] at r
  exact r
theorem isSq_nonneg {n : Int} (h : isSq n) : 0 ≤ n := by
  obtain ⟨r, r0, rfl⟩ := h
  exact Int.mul_nonneg r0 r0
def spSqrt : Sp := fun vs H Q _ => ∃ n : Int, vs = [.int n] ∧ n.natAbs < 2 ^ 12000 ∧ (∀ r : Int, 0 ≤ r → r * r = n → Q (.int r) H) ∧ (¬ isSq n → Q .non H)
def spIsField (K : PySem.W.Frag) : Sp := fun vs H Q _ => ∃ x : V, vs = [x] ∧ ((∃ n : Int, x = .int n ∧ n.natAbs < 2 ^ 12000 ∧ ∀ b : Bool, (b = true ↔ (n = 0 ∨ (0 < n ∧ ¬ isSq n))) → Q (.bl b) H) ∨
  (∃ t : String, TyX K H x (.type t) ∧ t ∈ tys ∧ t ≠ "int" ∧ Q (.bl false) H))
/-- what is no element of any field -/
inductive ElNo (K : PySem.W.Frag) (H : Hp) : V → Prop where
  | other {x : V} {t : String} (ty : TyX K H x (.type t)) (m : t ∈ tys) (n : t ≠ "tuple") : ElNo K H x
  | size {a : Addr} {xs : List V} (h : H a = some (.tup xs)) (n : (xs.length : Int) ≠ 2) : ElNo K H (.ref a)
  | left {a : Addr} {u v : V} (h : H a = some (.tup [u, v])) (r : RatV K H u false) : ElNo K H (.ref a)
  | right {a : Addr} {u v : V} (h : H a = some (.tup [u, v])) (r : RatV K H u true) (r2 : RatV K H v false) : ElNo K H (.ref a)
def spIsEl (K : PySem.W.Frag) : Sp := fun vs H Q _ => ∃ (f : Int) (x : V), vs = [.int f, x] ∧ ((ElNo K H x ∧ Q (.bl false) H) ∨
  (∃ (a p : Addr) (u : V) (m e : Int), x = .ref a ∧ H a = some (.tup [u, .ref p]) ∧ RatV K H u true ∧ RatV K H (.ref p) true ∧ H p = some (.tup [.int m, .int e]) ∧ Q (.bl (decide (f ≠ 0 ∨ (m = 0 ∧ e = 1)))) H))
section
variable {P : Program} {w : World} {K : PySem.W.Frag} {mg : Str → Option Value} {base : Heap}
theorem ok_square_root (T : Txt K mg) : FnOk P w K mg base CX0 1 T.f_square_root T.fd_square_root ["n"] spSqrt := by
  refine T.D_square_root.F.ok sc_square_root (fun vs H Q E h => ?_) (fun cdv A outer s H vs Q E hr h => ?_)
  · obtain ⟨n, rfl, _⟩ := h
    rfl
  · obtain ⟨n, rfl, hb, kY, kN⟩ := h
    refine ⟨_, (pss_cons (ps_if (pt_cmpR op_lt (pv 0) pe_int (nomark _)) (pss_one (ps_ret pe_non)) pss_nil)
    (pss_cons (ps_set (i := 1) sc_square_root.nd rfl (Or.inl rfl) (pe_callBfun cr_isqrt (by rfl) T.isqrt (pa_cons (pv 0) pa_nil)))
    (pss_one (ps_ret (pe_ifExp (pt_cmpR op_eq (pe_op op_mulW (pv 1) (pv 1)) (pv 0) (nomark _)) (pv 1) pe_non))))), ?_⟩
    refine ⟨_, rfl, _, _, rfl, rfl, _, rfl, iteD (fun h0 => ?_) (fun h0 => ?_)⟩
    · exact kN fun z => by have := isSq_nonneg z; omega
    · refine ⟨_, rfl, n, rfl, by omega, up 12000 hb, fun r r0 r1 r2 => ?_⟩
      have rb : r.natAbs < 2 ^ 6000 := root_size r0 r1 hb
      refine ⟨_, rfl, _, rfl, _, _, rfl, rfl, cmulw rb rb (by decide), _, rfl, rfl, _, rfl, ite2 (fun hz => ?_) (fun hz => ?_)⟩
      · have h1 := of_decide_eq_true hz
        injection h1 with h2
        exact ⟨_, rfl, kY r r0 h2⟩
      · refine kN fun z => ?_
        obtain ⟨u, u0, hu⟩ := z
        have e : (u + 1) * (u + 1) = u * u + u + u + 1 := by
          rw [Int.add_mul, Int.mul_add]
          omega
        have : r = u := root_uniq r0 u0 r1 r2 (by omega) (by omega)
        subst this
        exact hz (decide_eq_true (congrArg V.int hu))
theorem ok_is_field (T : Txt K mg) : FnOk P w K mg base CX0 2 T.f_is_field T.fd_is_field ["x"] (spIsField K) := by
  refine T.D_is_field.F.ok sc_is_field (fun vs H Q E h => ?_) (fun cdv A outer s H vs Q E hr h => ?_)
  · obtain ⟨x, rfl, _⟩ := h
    rfl
  · obtain ⟨x, rfl, h⟩ := h
    refine ⟨_, (pss_cons (ps_if (pt_not (pt_val (pe_call (ok_is_whole T) (hr.mono (by omega)) rfl T.D_is_whole.g T.D_is_whole.F.kp T.D_is_whole.b .nil pass0 (pa_cons (pv 0) pa_nil)))) (pss_one (ps_ret pe_bl)) pss_nil)
    (pss_one (ps_ret (pe_or (pe_cmpR op_eq (pv 0) pe_int (nomark _)) (pe_one (pe_and (pe_cmpR op_gt (pv 0) pe_int (nomark _)) (pe_one (pe_cmpR op_isN (pe_call (ok_square_root T) (hr.mono (by omega)) rfl T.D_square_root.g T.D_square_root.F.kp T.D_square_root.b .nil pass0 (pa_cons (pv 0) pa_nil)) pe_non (nomark _))))))))), ?_⟩
    rcases h with ⟨n, rfl, hb, k⟩ | ⟨t, ty, mem, ne, k⟩
    · refine ⟨_, rfl, _, _, rfl, ty_int _, (by decide), _, rfl, iteNS rfl ?_⟩
      refine ⟨_, rfl, rfl, _, rfl, ite2 (fun hz => ?_) (fun hz => ?_)⟩
      · have h1 := of_decide_eq_true hz
        injection h1 with h2
        exact k true ⟨fun _ => .inl h2, fun _ => rfl⟩
      · have h2 : n ≠ 0 := fun z => hz (by rw [z]; exact decide_eq_true rfl)
        refine ⟨_, rfl, _, _, rfl, rfl, _, rfl, iteD (fun h0 => ?_) (fun h0 => ?_)⟩
        · refine ⟨_, rfl, n, rfl, hb, fun r r0 hr' => ?_, fun hs => ?_⟩
          · refine ⟨rfl, k _ ⟨fun z => ?_, fun z => ?_⟩⟩
            · have := of_decide_eq_true z
              cases this
            · rcases z with z | z
              · exact absurd z h2
              · exact absurd ⟨r, r0, hr'⟩ z.2
          · exact ⟨rfl, k _ ⟨fun _ => .inr ⟨h0, hs⟩, fun _ => decide_eq_true rfl⟩⟩
        · exact k _ ⟨fun z => Bool.noConfusion z, fun z => z.elim (fun q => absurd q h2) (fun q => absurd q.1 h0)⟩
    · refine ⟨_, rfl, _, _, rfl, ty, mem, _, rfl, iteN1 ne k⟩
theorem ok_is_element (T : Txt K mg) : FnOk P w K mg base CX0 3 T.f_is_element T.fd_is_element ["field", "x"] (spIsEl K) := by
  refine T.D_is_element.F.ok sc_is_element (fun vs H Q E h => ?_) (fun cdv A outer s H vs Q E hr h => ?_)
  · obtain ⟨f, x, rfl, _⟩ := h
    rfl
  · obtain ⟨f, x, rfl, h⟩ := h
    refine ⟨_, (pss_cons (ps_if (PW.pt (pw_or (pt_not (pt_val (pe_callB call_isi (by rfl) T.isinstance PyProof.Rows.boot_isinstance (pa_cons (pv 1) (pa_cons (pe_bltn (v := .ty "tuple") (by rfl) T.tuple PyProof.Rows.boot_tuple rfl) pa_nil))))) (pw_or1 (pt_cmpR op_ne (pe_callB call_len_seq (by rfl) T.len PySem.boot_len (pa_cons (pv 1) pa_nil)) pe_int (nomark _))))) (pss_one (ps_ret pe_bl)) pss_nil)
    (pss_cons (ps_if (PW.pt (pw_or (pt_not (pt_val (pe_call (ok_is_rational T) (hr.mono (by omega)) rfl T.D_is_rational.g T.D_is_rational.F.kp T.D_is_rational.b .nil pass0 (pa_cons (pe_ix (r := rIxT K) ix_tup (pv 1) pe_int (fun _ _ => rfl)) pa_nil)))) (pw_or1 (pt_not (pt_val (pe_call (ok_is_rational T) (hr.mono (by omega)) rfl T.D_is_rational.g T.D_is_rational.F.kp T.D_is_rational.b .nil pass0 (pa_cons (pe_ix (r := rIxT K) ix_tup (pv 1) pe_int (fun _ _ => rfl)) pa_nil))))))) (pss_one (ps_ret pe_bl)) pss_nil)
    (pss_one (ps_ret (pe_or (pe_cmpR op_ne (pv 0) pe_int (nomark _)) (pe_one (pe_cmpR (op_eqD hr.units) (pe_ix (r := rIxT K) ix_tup (pv 1) pe_int (fun _ _ => rfl)) (pe_glob (v := .ref T.c_ZERO) rfl T.g_ZERO rfl) (nomark _)))))))), ?_⟩
    rcases h with ⟨hno, k⟩ | ⟨a, p, u, m, e, rfl, ha, ru, rp, hp, k⟩
    · cases hno with
      | other ty m n =>
        rename_i t
        refine ⟨_, rfl, _, _, _, _, false, rfl, .ty "tuple", ty, kit_ty ?_, false, rfl, iteT (iteT k)⟩
        simp only [tys, List.mem_cons, List.not_mem_nil, or_false] at m
        rcases m with rfl | rfl | rfl | rfl | rfl | rfl
        all_goals first | exact absurd rfl n | decide +kernel
      | size h n =>
        refine ⟨_, rfl, _, _, _, _, true, rfl, .ty "tuple", ty_tup h, kit_ty (by decide +kernel), true, rfl, iteF ⟨_, rfl, _, _, rfl, .inr (SqT.of h), rfl, _, rfl, iteN1 (fun e => n ?_) k⟩⟩
        injection e
      | left h r =>
        refine ⟨_, rfl, _, _, _, _, true, rfl, .ty "tuple", ty_tup h, kit_ty (by decide +kernel), true, rfl, iteF ⟨_, rfl, _, _, rfl, .inr (SqT.of h), rfl, _, rfl, iteNS rfl ?_⟩⟩
        exact ⟨_, rfl, _, _, _, _, rfl, rfl, SqT.of h, rfl, _, _, rfl, r, _, rfl, iteT (iteT k)⟩
      | right h r r2 =>
        refine ⟨_, rfl, _, _, _, _, true, rfl, .ty "tuple", ty_tup h, kit_ty (by decide +kernel), true, rfl, iteF ⟨_, rfl, _, _, rfl, .inr (SqT.of h), rfl, _, rfl, iteNS rfl ?_⟩⟩
        exact ⟨_, rfl, _, _, _, _, rfl, rfl, SqT.of h, rfl, _, _, rfl, r, _, rfl, iteF ⟨_, rfl, _, _, _, _, rfl, rfl, SqT.of h, rfl, _, _, rfl, r2, _, rfl, iteT k⟩⟩
    · refine ⟨_, rfl, _, _, _, _, true, rfl, .ty "tuple", ty_tup ha, kit_ty (by decide +kernel), true, rfl, iteF ⟨_, rfl, _, _, rfl, .inr (SqT.of ha), rfl, _, rfl, iteNS rfl ?_⟩⟩
      refine ⟨_, rfl, _, _, _, _, rfl, rfl, SqT.of ha, rfl, _, _, rfl, ru, _, rfl, iteF ⟨_, rfl, _, _, _, _, rfl, rfl, SqT.of ha, rfl, _, _, rfl, rp, _, rfl, iteF ?_⟩⟩
      refine ⟨_, rfl, rfl, _, rfl, ?_⟩
      by_cases hf : f = 0
      · refine iteNS (congrArg V.int hf) ?_
        refine ⟨_, rfl, _, _, _, _, rfl, rfl, SqT.of ha, rfl, _, _, dp_pair (SqT.of hp), dp_pair T.k_ZERO.sq, rfl, rfl, ?_⟩
        rw [eqv_ints]
        have e1 : decide (m = 0 ∧ e = 1) = decide (f ≠ 0 ∨ (m = 0 ∧ e = 1)) := decide_eq_decide.mpr ⟨.inr, fun z => z.elim (fun q => absurd hf q) id⟩
        rw [e1]
        exact k
      · refine iteN1 (fun q => hf (by injection q)) ?_
        rw [decide_eq_true (.inl hf)] at k
        exact k
end
theorem rd_raise {C : Addr} {z : Str} {W : WX} {σ : L2.St} {H : Hp} (k : ∀ dx, H dx = none → W (.ref C) (some dx) σ (upd H dx (.xd [(("name" : Str), .str z)]))) :
    tMkO C (spInit C) [] (tCons (tC (.str z)) tNil) σ H fun cls d H' => W cls d σ H' := by
  refine ⟨by show 1 ≤ 1000; decide, fun a' ha' => ⟨a', _, rfl, upd_same, fun dx h1 h2 => ⟨rfl, dx, _, upd_same, by rw [upd_ne h2, upd_same], ?_, ?_⟩⟩⟩
  · rw [upd_ne h2] at h1
    exact h1
  · rw [upd_ne h2] at h1
    have := k dx h1
    rw [made_eq ha' h2]
    exact this
/-- no field: a value of another kind, an int below 0 or a square above 0 -/
def FdNo (K : PySem.W.Frag) (H : Hp) (v : V) : Prop := (∃ n : Int, v = .int n ∧ n.natAbs < 2 ^ 12000 ∧ ¬ (n = 0 ∨ (0 < n ∧ ¬ isSq n))) ∨ (∃ t : String, TyX K H v (.type t) ∧ t ∈ tys ∧ t ≠ "int")
def NumCases (K : PySem.W.Frag) (H : Hp) (u v : V) (kF kE : Prop) (kR : Int → Addr → Q2 → Q2 → Prop) : Prop :=
  (FdNo K H u ∧ kF) ∨
   (∃ f : Int, u = .int f ∧ (f = 0 ∨ (0 < f ∧ ¬ isSq f)) ∧ f.natAbs < 2 ^ 60 ∧
     ((ElNo K H v ∧ kE) ∨
      (∃ (a p : Addr) (w : V) (y : Q2), v = .ref a ∧ H a = some (.tup [w, .ref p]) ∧ RatV K H w true ∧ RatAt H p y ∧ Nrm y ∧ f = 0 ∧ y ≠ (0, 1) ∧ kE) ∨
      (∃ (a px py : Addr) (x y : Q2), v = .ref a ∧ H a = some (.tup [.ref px, .ref py]) ∧ RatAt H px x ∧ RatAt H py y ∧ Nrm x ∧ Nrm y ∧ Sm 100 x ∧ Sm 100 y ∧ (f = 0 → y = (0, 1)) ∧ kR f px x y)))
theorem NumCases.imp {K : PySem.W.Frag} {H : Hp} {u v : V} {kF kE kF' kE' : Prop} {kR kR' : Int → Addr → Q2 → Q2 → Prop} (h : NumCases K H u v kF kE kR) (hF : kF → kF') (hE : kE → kE') (hR : ∀ f p x y, kR f p x y → kR' f p x y) : NumCases K H u v kF' kE' kR' := by
  rcases h with ⟨h, k⟩ | ⟨f, h1, h2, h3, ⟨h4, k⟩ | ⟨a, p, w, y, q1, q2, q3, q4, q5, q6, q7, k⟩ | ⟨a, px, py, x, y, q1, q2, q3, q4, q5, q6, q7, q8, q9, k⟩⟩
  · exact .inl ⟨h, hF k⟩
  · exact .inr ⟨f, h1, h2, h3, .inl ⟨h4, hE k⟩⟩
  · exact .inr ⟨f, h1, h2, h3, .inr (.inl ⟨a, p, w, y, q1, q2, q3, q4, q5, q6, q7, hE k⟩)⟩
  · exact .inr ⟨f, h1, h2, h3, .inr (.inr ⟨a, px, py, x, y, q1, q2, q3, q4, q5, q6, q7, q8, q9, hR _ _ _ _ k⟩)⟩
/-- what the number is -/
def NumRes (H : Hp) (Q : VK) (f : Int) (px : Addr) (x y : Q2) : Prop :=
  (y = (0, 1) → ∀ (r : Addr) (H' : Hp), Same H H' → H' r = some (.tup [.str "rational", .ref px]) → Q (.ref r) H') ∧
  (y ≠ (0, 1) → ∀ (r q : Addr) (H' : Hp), Same H H' → H' q = some (.tup [.int (eqC f x y), .int (eqB f x y), .int (eqA f x y)]) → H' r = some (.tup [.str "root", .ref q, .int (if 0 < y.1 then 1 else 0)]) → Q (.ref r) H')
/-- number_of: a number; BadValue("field") ahead of BadValue("element") -/
def spNumOf (K : PySem.W.Frag) (C : Addr) : Sp := fun vs H Q E => ∃ u v : V, vs = [u, v] ∧
  NumCases K H u v (∀ dx, H dx = none → E (.ref C) (some dx) (upd H dx (.xd [(("name" : Str), .str "field")]))) (∀ dx, H dx = none → E (.ref C) (some dx) (upd H dx (.xd [(("name" : Str), .str "element")]))) (NumRes H Q)
section
variable {P : Program} {w : World} {K : PySem.W.Frag} {mg : Str → Option Value} {base : Heap}
theorem ok_number_of (T : Txt K mg) : FnOk P w K mg base (L2.CX P w) 6 T.f_number_of T.fd_number_of ["field", "element"] (spNumOf K T.c_BadValue) := by
  refine T.D_number_of.F.okX sc_number_of (fun vs H Q E h => ?_) (fun cdv A outer st H vs Q E hr h => ?_)
  · obtain ⟨u, v, rfl, _⟩ := h
    rfl
  · obtain ⟨u, v, rfl, h⟩ := h
    refine ⟨_, (pss_cons (ps_if (pt_not (pt_val (pe_call (ok_is_field T) (hr.mono (by omega)) rfl T.D_is_field.g T.D_is_field.F.kp T.D_is_field.b .nil pass0 (pa_cons (pv 0) pa_nil)))) (pss_one (ps_raise rfl (takes_of rfl rfl rfl rfl) (pmk_oex T.B.O T.B.iC T.B.tI (ok_init T.B) (hr.mono (by omega)) T.B.bI .nil pass0 rfl T.B.gC (pa_cons pe_str pa_nil)))) pss_nil)
    (pss_cons (ps_if (pt_not (pt_val (pe_call (ok_is_element T) (hr.mono (by omega)) rfl T.D_is_element.g T.D_is_element.F.kp T.D_is_element.b .nil pass0 (pa_cons (pv 0) (pa_cons (pv 1) pa_nil))))) (pss_one (ps_raise rfl (takes_of rfl rfl rfl rfl) (pmk_oex T.B.O T.B.iC T.B.tI (ok_init T.B) (hr.mono (by omega)) T.B.bI .nil pass0 rfl T.B.gC (pa_cons pe_str pa_nil)))) pss_nil)
    (pss_cons (ps_asg (pv 1) (pg_tup (by rfl) (pgs_cons (pg_name (i := 2) sc_number_of.nd rfl (Or.inl rfl)) (pgs_cons (pg_name (i := 3) sc_number_of.nd rfl (Or.inl rfl)) pgs_nil))))
    (pss_cons (ps_if (pt_cmpR (op_eqD hr.units) (pv 3) (pe_glob (v := .ref T.c_ZERO) rfl T.g_ZERO rfl) (nomark _)) (pss_one (ps_ret (pe_tup (pa_cons pe_str (pa_cons (pv 2) pa_nil))))) pss_nil)
    (pss_cons (ps_set (i := 4) sc_number_of.nd rfl (Or.inl rfl) (pe_call (ok_timesQ T) (hr.mono (by omega)) rfl T.D_times.g T.D_times.F.kp T.D_times.b .nil pass0 (pa_cons (pe_tup (pa_cons (pe_un un_neg pe_int) (pa_cons pe_int pa_nil))) (pa_cons (pv 2) pa_nil))))
    (pss_cons (ps_set (i := 5) sc_number_of.nd rfl (Or.inl rfl) (pe_call (ok_norm T) (hr.mono (by omega)) rfl T.D_norm.g T.D_norm.F.kp T.D_norm.b .nil pass0 (pa_cons (pv 0) (pa_cons (pv 1) pa_nil))))
    (pss_cons (ps_set (i := 6) sc_number_of.nd rfl (Or.inl rfl) (pe_callBfun cr_lcm (by rfl) T.lcm (pa_cons (pe_ix (r := rIxT K) ix_tup (pv 4) pe_int (fun _ _ => rfl)) (pa_cons (pe_ix (r := rIxT K) ix_tup (pv 5) pe_int (fun _ _ => rfl)) pa_nil))))
    (pss_cons (ps_set (i := 7) sc_number_of.nd rfl (Or.inl rfl) (pe_op op_mulW (pe_ix (r := rIxT K) ix_tup (pv 4) pe_int (fun _ _ => rfl)) (pe_op op_fdivW (pv 6) (pe_ix (r := rIxT K) ix_tup (pv 4) pe_int (fun _ _ => rfl)))))
    (pss_cons (ps_set (i := 8) sc_number_of.nd rfl (Or.inl rfl) (pe_op op_mulW (pe_ix (r := rIxT K) ix_tup (pv 5) pe_int (fun _ _ => rfl)) (pe_op op_fdivW (pv 6) (pe_ix (r := rIxT K) ix_tup (pv 5) pe_int (fun _ _ => rfl)))))
    (pss_one (ps_ret (pe_tup (pa_cons pe_str (pa_cons (pe_tup (pa_cons (pv 8) (pa_cons (pv 7) (pa_cons (pv 6) pa_nil)))) (pa_cons (pe_ifExp (pt_cmpR op_gt (pe_ix (r := rIxT K) ix_tup (pv 3) pe_int (fun _ _ => rfl)) pe_int (nomark _)) pe_int pe_int) pa_nil))))))))))))))), ?_⟩
    rcases h with ⟨hno, kE⟩ | ⟨f, rfl, hf, bf, h⟩
    · rcases hno with ⟨n, rfl, hb, hn⟩ | ⟨t, ty, mem, nt⟩
      · refine ⟨_, rfl, _, rfl, .inl ⟨n, rfl, hb, fun b hbb => ?_⟩⟩
        have e : b = false := by
          cases b with
          | false => rfl
          | true => exact absurd (hbb.mp rfl) hn
        subst e
        exact ⟨false, rfl, iteT (rd_raise (W := fun cls d _ H => E cls d H) kE)⟩
      · exact ⟨_, rfl, _, rfl, .inr ⟨t, ty, mem, nt, false, rfl, iteT (rd_raise (W := fun cls d _ H => E cls d H) kE)⟩⟩
    · refine ⟨_, rfl, _, rfl, .inl ⟨f, rfl, up 60 bf, fun b hbb => ?_⟩⟩
      have e : b = true := hbb.mpr hf
      subst e
      refine ⟨true, rfl, iteF ?_⟩
      rcases h with ⟨hno, kE⟩ | ⟨a, p, wv, y, rfl, ha, hw, hp, ny, f0, yn, kE⟩ | ⟨a, px, py, x, y, rfl, ha, hx, hy, nx, ny, sx, sy, fy, k0, kR⟩
      · exact ⟨_, rfl, _, rfl, f, v, rfl, .inl ⟨hno, false, rfl, iteT (rd_raise (W := fun cls d _ H => E cls d H) kE)⟩⟩
      · refine ⟨_, rfl, _, rfl, f, _, rfl, .inr ⟨a, p, wv, y.1, y.2, rfl, ha, hw, .yes hp ny.1 ny.2, hp, ?_⟩⟩
        rw [decide_eq_false (fun z => z.elim (fun q => q f0) (fun q => yn (Prod.ext q.1 q.2)))]
        exact ⟨false, rfl, iteT (rd_raise (W := fun cls d _ H => E cls d H) kE)⟩
      · refine ⟨_, rfl, _, rfl, f, _, rfl, .inr ⟨a, py, _, y.1, y.2, rfl, ha, .yes hx nx.1 nx.2, .yes hy ny.1 ny.2, hy, ?_⟩⟩
        have dt : f ≠ 0 ∨ (y.1 = 0 ∧ y.2 = 1) := by
          by_cases h : f = 0
          · exact .inr (by rw [fy h]; exact ⟨rfl, rfl⟩)
          · exact .inl h
        rw [decide_eq_true dt]
        refine ⟨true, rfl, iteF ?_⟩
        refine ⟨_, rfl, _, _, rfl, SqT.of ha, rfl, _, _, rfl, _, _, rfl, rfl, ?_⟩
        refine ⟨_, rfl, _, _, dp_pair (SqT.of hy), dp_pair T.k_ZERO.sq, rfl, rfl, _, rfl, ?_⟩
        rw [eqv_ints]
        refine iteD (fun hz => ?_) (fun hz => ?_)
        · refine ⟨_, rfl, (by show 2 ≤ sizeLine; decide), fun r hr' => ?_⟩
          exact k0 (Prod.ext hz.1 hz.2) r _ (same_new hr') upd_same
        · have yn : y ≠ (0, 1) := fun q => hz (by rw [q]; exact ⟨rfl, rfl⟩)
          have kR := kR yn
          have s2 : Sm 2 ((-2, 1) : Q2) := ⟨by decide, by decide, by decide⟩
          have sl : Sm 102 (qTimes (-2, 1) x) := s2.times sx
          have sn : Sm 601 (nrm f x y) := (sx.nrm sy (up 60 bf)).up 601
          have fb' : f.natAbs < 2 ^ 100 := up 60 bf
          have la := lcm_coprime (A := eqA f x y) (qTimes_nrm (x := (-2, 1)) (by decide) sx.1) (nrm_nrm (f := f) sx.1 sy.1) rfl
          have bA : (eqA f x y).natAbs < 2 ^ 703 := by
            unfold eqA
            rw [Int.natAbs_natCast]
            exact lcm_size sl.2.2 sn.2.2
          have dv : ∀ d : Int, 1 ≤ d → (eqA f x y / d).natAbs < 2 ^ 703 := fun d hd => by
            have h1 : 0 ≤ eqA f x y / d := Int.ediv_nonneg (by have := la.1; omega) (by omega)
            have h2 : eqA f x y / d ≤ eqA f x y := Int.ediv_le_self _ (by have := la.1; omega)
            omega
          refine ⟨_, rfl, (by show 2 ≤ sizeLine; decide), fun p hp => ?_⟩
          have e1 := same_new (o := .tup [.int (-2), .int 1]) hp
          refine ⟨_, rfl, b_q (x := (-2, 1)) upd_same (e1 _ _ hx) (s2.up 4000) (sx.up 4000) fun rl H2 e2 _ hl => ?_⟩
          have g2 := e1.trans e2
          refine ⟨_, rfl, _, rfl, f, a, x, y, rfl, ⟨px, py, g2 _ _ ha, g2 _ _ hx, g2 _ _ hy⟩, sx.up 200, sy.up 200, fb', fun rn H3 e3 _ hn => ?_⟩
          have hl3 := e3 _ _ hl
          have g3 := g2.trans e3
          refine ⟨_, rfl, _, _, _, _, rfl, rfl, SqT.of hl3, rfl, _, rfl, _, _, _, _, rfl, rfl, SqT.of hn, rfl, _, _, rfl, up 102 sl.2.2, up 601 sn.2.2, ?_⟩
          refine ⟨_, rfl, _, _, _, _, rfl, rfl, SqT.of hl3, rfl, _, rfl, _, rfl, _, _, _, _, rfl, rfl, SqT.of hl3, rfl, _, _, rfl, rfl, wide_div (by have := sl.1; omega) sl.2.2 (by decide) (by decide), _, _, rfl, rfl, cmulw sl.2.1 (dv _ sl.1) (by decide), ?_⟩
          refine ⟨_, rfl, _, _, _, _, rfl, rfl, SqT.of hn, rfl, _, rfl, _, rfl, _, _, _, _, rfl, rfl, SqT.of hn, rfl, _, _, rfl, rfl, wide_div (by have := sn.1; omega) sn.2.2 (by decide) (by decide), _, _, rfl, rfl, cmulw sn.2.1 (dv _ sn.1) (by decide), ?_⟩
          refine ⟨_, rfl, _, rfl, _, rfl, (by show 3 ≤ sizeLine; decide), fun q hq => ?_⟩
          have e4 := same_new (o := .tup [.int (eqC f x y), .int (eqB f x y), .int (eqA f x y)]) hq
          refine ⟨_, rfl, _, _, _, _, rfl, rfl, SqT.of (e4 _ _ (g3 _ _ hy)), rfl, _, _, rfl, rfl, _, rfl, iteD (fun hg => ?_) (fun hg => ?_)⟩
          · refine ⟨(by show 3 ≤ sizeLine; decide), fun r hr' => ?_⟩
            have e5 := same_new (o := .tup [.str "root", .ref q, .int 1]) hr'
            refine kR r q _ ((g3.trans e4).trans e5) (e5 _ _ upd_same) ?_
            rw [if_pos hg]
            exact upd_same
          · refine ⟨(by show 3 ≤ sizeLine; decide), fun r hr' => ?_⟩
            have e5 := same_new (o := .tup [.str "root", .ref q, .int 0]) hr'
            refine kR r q _ ((g3.trans e4).trans e5) (e5 _ _ upd_same) ?_
            rw [if_neg hg]
            exact upd_same
end
theorem eq_zero {f : Int} {x y : Q2} (hx : Nrm x) (hy : Nrm y) :
    qPlus (eqC f x y, 1) (qPlus (qTimes (eqB f x y, 1) x) (qTimes (eqA f x y, 1) (fMul f x y x y).1)) = (0, 1) ∧
    qPlus (qTimes (eqB f x y, 1) y) (qTimes (eqA f x y, 1) (fMul f x y x y).2) = (0, 1) := by
  have nl := qTimes_nrm (x := (-2, 1)) (by decide) hx.1
  have nn := nrm_nrm (f := f) hx.1 hy.1
  have la := lcm_coprime (A := eqA f x y) nl nn rfl
  have i1 : ∀ z : Int, (1 : Int) ≤ ((z, 1) : Q2).2 := fun _ => Int.le_refl 1
  have w1 : Nrm (fMul f x y x y).1 := qPlus_nrm (qTimes_nrm hx.1 hx.1).1 (qTimes_nrm (i1 f) (qTimes_nrm hy.1 hy.1).1).1
  have w2 : Nrm (fMul f x y x y).2 := qPlus_nrm (qTimes_nrm hx.1 hy.1).1 (qTimes_nrm hy.1 hx.1).1
  have e1 : val (fMul f x y x y).1 = val x * val x + (f : Rat) * (val y * val y) := by
    show val (qPlus _ _) = _
    rw [val_plus (qTimes_nrm hx.1 hx.1).1 (qTimes_nrm (i1 f) (qTimes_nrm hy.1 hy.1).1).1, val_times hx.1 hx.1, val_times (i1 f) (qTimes_nrm hy.1 hy.1).1, val_times hy.1 hy.1, val_int]
  have e2 : val (fMul f x y x y).2 = val x * val y + val y * val x := by
    show val (qPlus _ _) = _
    rw [val_plus (qTimes_nrm hx.1 hy.1).1 (qTimes_nrm hy.1 hx.1).1, val_times hx.1 hy.1, val_times hy.1 hx.1]
  have vl : val (qTimes (-2, 1) x) = (-2 : Rat) * val x := by
    rw [val_times (x := (-2, 1)) (by decide) hx.1, val_int]
    rfl
  have vn := val_nrm (f := f) hx.1 hy.1
  have z0 : val (0, 1) = 0 := by rw [val_int]; rfl
  have m1 : ((eqA f x y / (qTimes (-2, 1) x).2 : Int) : Rat) * ((qTimes (-2, 1) x).2 : Rat) = (eqA f x y : Rat) := by rw [← Rat.intCast_mul]; exact congrArg (fun z : Int => (z : Rat)) la.2.1
  have m2 : ((eqA f x y / (nrm f x y).2 : Int) : Rat) * ((nrm f x y).2 : Rat) = (eqA f x y : Rat) := by rw [← Rat.intCast_mul]; exact congrArg (fun z : Int => (z : Rat)) la.2.2.1
  have d1 : ((qTimes (-2, 1) x).2 : Rat) ≠ 0 := ratne (by have := nl.1; omega)
  have d2 : ((nrm f x y).2 : Rat) ≠ 0 := ratne (by have := nn.1; omega)
  have eB : (eqB f x y : Rat) = val (qTimes (-2, 1) x) * (eqA f x y : Rat) := by
    unfold eqB val
    rw [Rat.intCast_mul]
    grind
  have eC : (eqC f x y : Rat) = val (nrm f x y) * (eqA f x y : Rat) := by
    unfold eqC val
    rw [Rat.intCast_mul]
    grind
  refine ⟨val_inj (qPlus_nrm (i1 _) (qPlus_nrm (qTimes_nrm (i1 _) hx.1).1 (qTimes_nrm (i1 _) w1.1).1).1) ⟨by decide, rfl⟩ ?_, val_inj (qPlus_nrm (qTimes_nrm (i1 _) hy.1).1 (qTimes_nrm (i1 _) w2.1).1) ⟨by decide, rfl⟩ ?_⟩
  · rw [val_plus (i1 _) (qPlus_nrm (qTimes_nrm (i1 _) hx.1).1 (qTimes_nrm (i1 _) w1.1).1).1, val_plus (qTimes_nrm (i1 _) hx.1).1 (qTimes_nrm (i1 _) w1.1).1, val_times (i1 _) hx.1, val_times (i1 _) w1.1, val_int, val_int, val_int, e1, z0, eC, eB, vl, vn]
    grind
  · rw [val_plus (qTimes_nrm (i1 _) hy.1).1 (qTimes_nrm (i1 _) w2.1).1, val_times (i1 _) hy.1, val_times (i1 _) w2.1, val_int, val_int, e2, z0, eB, vl]
    grind
def spTold (K : PySem.W.Frag) : Sp := fun vs H Q _ => ∃ u v : V, vs = [u, v] ∧ NumCases K H u v (∀ H', Same H H' → Q (.str "field") H') (∀ H', Same H H' → Q (.str "element") H') (NumRes H Q)
/-- the law's own look at a root -/
def spFits (K : PySem.W.Frag) : Sp := fun vs H Q _ => ∃ (f : Int) (e r q : Addr) (x y : Q2), vs = [.int f, .ref e, .ref r] ∧ EltAt H e x y ∧ Nrm x ∧ Nrm y ∧ Sm 100 x ∧ Sm 100 y ∧ f.natAbs < 2 ^ 60 ∧
  H q = some (.tup [.int (eqC f x y), .int (eqB f x y), .int (eqA f x y)]) ∧ H r = some (.tup [.str "root", .ref q, .int (if 0 < y.1 then 1 else 0)]) ∧ ∀ H', Same H H' → Q (.bl true) H'
def spLaw (K : PySem.W.Frag) : Sp := fun vs H Q _ => ∃ (a : Addr) (ns : List Int), vs = [.ref a] ∧ SqL K H a (ns.map V.int) ∧ ns.length ≤ 63 ∧ ∀ H', Q (.bl true) H'
section
variable {P : Program} {w : World} {K : PySem.W.Frag} {mg : Str → Option Value} {base : Heap}
theorem ok_l_told (T : Txt K mg) : FnOk P w K mg base CX0 7 T.f_l_told T.fd_l_told ["field", "element"] (spTold K) := by
  refine T.D_l_told.F.ok sc_l_told (fun vs H Q E h => ?_) (fun cdv A outer s H vs Q E hr h => ?_)
  · obtain ⟨u, v, rfl, _⟩ := h
    rfl
  · obtain ⟨u, v, rfl, h⟩ := h
    refine ⟨_, (pss_one (ps_try_as (i := 2) (Wout := fun _ _ _ _ => False) rfl rfl sc_l_told.nd rfl rfl ⟨rfl, by decide, Or.inl T.B.gC⟩ takes0 (fun W pn xe tk _ => (pss_one (ps_ret (pe_callS (ok_number_of T) (hr.mono (by omega)) rfl T.D_number_of.g T.D_number_of.F.kp T.D_number_of.b (fun σ => passAt tk σ) (pa_cons (pv 0) (pa_cons (pv 1) pa_nil)))))) (fun a oe cls d pn hz hf => (pss_one (ps_ret (pe_xf T.B.X T.B.no hz hf (pv 2))))))), ?_⟩
    refine ⟨_, rfl, _, rfl, u, v, rfl, h.imp (fun k dx hdx => ?_) (fun k dx hdx => ?_) (fun f p x y k => k)⟩
    · refine ⟨true, T.B.te, fun _ a ha => ?_, fun q => Bool.noConfusion q⟩
      exact ⟨_, rfl, rfl, rfl, dx, _, _, rfl, upd_same, rfl, k _ (same_new hdx)⟩
    · refine ⟨true, T.B.te, fun _ a ha => ?_, fun q => Bool.noConfusion q⟩
      exact ⟨_, rfl, rfl, rfl, dx, _, _, rfl, upd_same, rfl, k _ (same_new hdx)⟩
theorem ok_l_fits (T : Txt K mg) : FnOk P w K mg base CX0 5 T.f_l_fits T.fd_l_fits ["field", "element", "actual"] (spFits K) := by
  refine T.D_l_fits.F.ok sc_l_fits (fun vs H Q E h => ?_) (fun cdv A outer s H vs Q E hr h => ?_)
  · obtain ⟨f, e, r, q, x, y, rfl, _⟩ := h
    rfl
  · obtain ⟨f, e, r, q, x, y, rfl, hE, nx, ny, sx, sy, bf, hq, hr0, k⟩ := h
    refine ⟨_, (pss_cons (ps_if (PW.pt (pw_or (pt_not (pt_val (pe_callB call_isi (by rfl) T.isinstance PyProof.Rows.boot_isinstance (pa_cons (pv 2) (pa_cons (pe_bltn (v := .ty "tuple") (by rfl) T.tuple PyProof.Rows.boot_tuple rfl) pa_nil))))) (pw_or (pt_cmpR op_ne (pe_callB call_len_seq (by rfl) T.len PySem.boot_len (pa_cons (pv 2) pa_nil)) pe_int (nomark _)) (pw_or (pt_cmpR op_ne (pe_ix (r := rIxT K) ix_tup (pv 2) pe_int (fun _ _ => rfl)) pe_str (nomark _)) (pw_or1 (pt_not (pt_val (pe_callB call_isi (by rfl) T.isinstance PyProof.Rows.boot_isinstance (pa_cons (pe_ix (r := rIxT K) ix_tup (pv 2) pe_int (fun _ _ => rfl)) (pa_cons (pe_bltn (v := .ty "tuple") (by rfl) T.tuple PyProof.Rows.boot_tuple rfl) pa_nil)))))))))) (pss_one (ps_ret pe_bl)) pss_nil)
    (pss_cons (ps_if (PW.pt (pw_or (pt_cmpR op_ne (pe_callB call_len_seq (by rfl) T.len PySem.boot_len (pa_cons (pe_ix (r := rIxT K) ix_tup (pv 2) pe_int (fun _ _ => rfl)) pa_nil)) pe_int (nomark _)) (pw_or (pt_not (pt_val (pe_callB (cr_all rfl) (by rfl) T.all (by decide +kernel) (pa_cons (pe_lc (own := [("one", 3)]) (g := gName 3) rfl sc_l_fits.nd (pi_tup (pe_ix (r := rIxT K) ix_tup (pv 2) pe_int (fun _ _ => rfl))) (blkOk_by (own := [("one", 3)]) (N := ["field", "element", "actual", "one", "c", "b", "a", "square", "first", "second"]) (sc := defScope s_l_fits) (by decide +kernel)) (fun _ _ _ _ _ => pg_name (i := 3) sc_l_fits.nd rfl (Or.inl rfl)) (fun _ _ _ _ _ => pts_nil) (fun _ _ _ _ _ => (pe_call (ok_l_is_integer T) (hr.mono (by omega)) rfl T.D_l_is_integer.g T.D_l_is_integer.F.kp T.D_l_is_integer.b .nil pass0 (pa_cons (pv 3) pa_nil)))) pa_nil)))) (pw_or1 (pt_not (pt_val (pe_call (ok_l_is_integer T) (hr.mono (by omega)) rfl T.D_l_is_integer.g T.D_l_is_integer.F.kp T.D_l_is_integer.b .nil pass0 (pa_cons (pe_ix (r := rIxT K) ix_tup (pv 2) pe_int (fun _ _ => rfl)) pa_nil)))))))) (pss_one (ps_ret pe_bl)) pss_nil)
    (pss_cons (ps_asg (pe_ix (r := rIxT K) ix_tup (pv 2) pe_int (fun _ _ => rfl)) (pg_tup (by rfl) (pgs_cons (pg_name (i := 4) sc_l_fits.nd rfl (Or.inl rfl)) (pgs_cons (pg_name (i := 5) sc_l_fits.nd rfl (Or.inl rfl)) (pgs_cons (pg_name (i := 6) sc_l_fits.nd rfl (Or.inl rfl)) pgs_nil)))))
    (pss_cons (ps_if (PW.pt (pw_or (pt_cmpR op_lt (pv 6) pe_int (nomark _)) (pw_or (pt_cmpR op_ne (pe_call (ok_l_gcd T) (hr.mono (by omega)) rfl T.D_l_gcd.g T.D_l_gcd.F.kp T.D_l_gcd.b .nil pass0 (pa_cons (pe_call (ok_l_gcd T) (hr.mono (by omega)) rfl T.D_l_gcd.g T.D_l_gcd.F.kp T.D_l_gcd.b .nil pass0 (pa_cons (pv 6) (pa_cons (pv 5) pa_nil))) (pa_cons (pv 4) pa_nil))) pe_int (nomark _)) (pw_or1 (pt_cmpR op_ne (pe_ix (r := rIxT K) ix_tup (pv 2) pe_int (fun _ _ => rfl)) (pe_callTy call_int1 (by rfl) T.int PyProof.Rows.boot_int (pa_cons (pe_cmpR op_gt (pe_ix (r := rIxT K) ix_tup (pe_ix (r := rIxT K) ix_tup (pv 1) pe_int (fun _ _ => rfl)) pe_int (fun _ _ => rfl)) pe_int (nomark _)) pa_nil)) (nomark _)))))) (pss_one (ps_ret pe_bl)) pss_nil)
    (pss_cons (ps_set (i := 7) sc_l_fits.nd rfl (Or.inl rfl) (pe_call (ok_l_multiply T 300 (by decide)) (hr.mono (by omega)) rfl T.D_l_multiply.g T.D_l_multiply.F.kp T.D_l_multiply.b .nil pass0 (pa_cons (pv 0) (pa_cons (pv 1) (pa_cons (pv 1) pa_nil)))))
    (pss_cons (ps_set (i := 8) sc_l_fits.nd rfl (Or.inl rfl) (pe_call (ok_l_plusQ T) (hr.mono (by omega)) rfl T.D_l_plus.g T.D_l_plus.F.kp T.D_l_plus.b .nil pass0 (pa_cons (pe_tup (pa_cons (pv 4) (pa_cons pe_int pa_nil))) (pa_cons (pe_call (ok_l_plusQ T) (hr.mono (by omega)) rfl T.D_l_plus.g T.D_l_plus.F.kp T.D_l_plus.b .nil pass0 (pa_cons (pe_call (ok_l_timesQ T) (hr.mono (by omega)) rfl T.D_l_times.g T.D_l_times.F.kp T.D_l_times.b .nil pass0 (pa_cons (pe_tup (pa_cons (pv 5) (pa_cons pe_int pa_nil))) (pa_cons (pe_ix (r := rIxT K) ix_tup (pv 1) pe_int (fun _ _ => rfl)) pa_nil))) (pa_cons (pe_call (ok_l_timesQ T) (hr.mono (by omega)) rfl T.D_l_times.g T.D_l_times.F.kp T.D_l_times.b .nil pass0 (pa_cons (pe_tup (pa_cons (pv 6) (pa_cons pe_int pa_nil))) (pa_cons (pe_ix (r := rIxT K) ix_tup (pv 7) pe_int (fun _ _ => rfl)) pa_nil))) pa_nil))) pa_nil))))
    (pss_cons (ps_set (i := 9) sc_l_fits.nd rfl (Or.inl rfl) (pe_call (ok_l_plusQ T) (hr.mono (by omega)) rfl T.D_l_plus.g T.D_l_plus.F.kp T.D_l_plus.b .nil pass0 (pa_cons (pe_call (ok_l_timesQ T) (hr.mono (by omega)) rfl T.D_l_times.g T.D_l_times.F.kp T.D_l_times.b .nil pass0 (pa_cons (pe_tup (pa_cons (pv 5) (pa_cons pe_int pa_nil))) (pa_cons (pe_ix (r := rIxT K) ix_tup (pv 1) pe_int (fun _ _ => rfl)) pa_nil))) (pa_cons (pe_call (ok_l_timesQ T) (hr.mono (by omega)) rfl T.D_l_times.g T.D_l_times.F.kp T.D_l_times.b .nil pass0 (pa_cons (pe_tup (pa_cons (pv 6) (pa_cons pe_int pa_nil))) (pa_cons (pe_ix (r := rIxT K) ix_tup (pv 7) pe_int (fun _ _ => rfl)) pa_nil))) pa_nil))))
    (pss_one (ps_ret (pe_and (pe_cmpR (op_eqD hr.units) (pv 8) (pe_tup (pa_cons pe_int (pa_cons pe_int pa_nil))) (nomark _)) (pe_one (pe_cmpR (op_eqD hr.units) (pv 9) (pe_tup (pa_cons pe_int (pa_cons pe_int pa_nil))) (nomark _))))))))))))), ?_⟩
    have mi : "int" ∈ tys := by decide
    have sn : Sm 601 (nrm f x y) := (sx.nrm sy (up 60 bf)).up 601
    have s2 : Sm 2 ((-2, 1) : Q2) := ⟨by decide, by decide, by decide⟩
    have sl : Sm 102 (qTimes (-2, 1) x) := s2.times sx
    have la := lcm_coprime (A := eqA f x y) (qTimes_nrm (x := (-2, 1)) (by decide) sx.1) (nrm_nrm (f := f) sx.1 sy.1) rfl
    have bA : (eqA f x y).natAbs < 2 ^ 703 := by
      unfold eqA
      rw [Int.natAbs_natCast]
      exact lcm_size sl.2.2 sn.2.2
    have dv : ∀ d : Int, 1 ≤ d → (eqA f x y / d).natAbs < 2 ^ 703 := fun d hd => by
      have h1 : 0 ≤ eqA f x y / d := Int.ediv_nonneg (by have := la.1; omega) (by omega)
      have h2 : eqA f x y / d ≤ eqA f x y := Int.ediv_le_self _ (by have := la.1; omega)
      omega
    have bB : (eqB f x y).natAbs < 2 ^ 1400 := mul_up 102 703 sl.2.1 (dv _ sl.1)
    have bC : (eqC f x y).natAbs < 2 ^ 1400 := mul_up 601 703 sn.2.1 (dv _ sn.1)
    have co : Nat.gcd (Nat.gcd (eqA f x y).natAbs (eqB f x y).natAbs) (eqC f x y).natAbs = 1 := la.2.2.2
    have zz := eq_zero (f := f) nx ny
    obtain ⟨px, py, he, hx, hy⟩ := id hE
    refine ⟨_, rfl, _, _, _, _, true, rfl, .ty "tuple", ty_tup hr0, kit_ty (by decide +kernel), true, rfl, iteF ⟨_, rfl, _, _, rfl, .inr (SqT.of hr0), rfl, _, rfl, iteNS rfl ?_⟩⟩
    refine ⟨_, rfl, _, _, _, _, rfl, rfl, SqT.of hr0, rfl, rfl, _, rfl, iteNS rfl ?_⟩
    refine ⟨_, rfl, _, _, _, _, rfl, rfl, SqT.of hr0, rfl, _, _, _, _, true, rfl, .ty "tuple", ty_tup hq, kit_ty (by decide +kernel), true, rfl, iteF ?_⟩
    refine ⟨_, rfl, _, _, _, _, rfl, rfl, SqT.of hr0, rfl, q, _, rfl, .inr (SqT.of hq), rfl, _, rfl, iteNS rfl ?_⟩
    refine ⟨_, rfl, _, _, _, _, rfl, rfl, SqT.of hr0, rfl, q, rfl, ⟨_, SqT.of hq⟩, fun D hD => ?_⟩
    refine lc_tup (K := K) (a := q) (xs := [.int (eqC f x y), .int (eqB f x y), .int (eqA f x y)]) (fun i H' => H' D = some (.lst ((List.replicate i true).map V.bl)) ∧ Same H H') ⟨upd_same, same_new hD⟩ (fun i H' _ z => SqT.of (z.2 _ _ hq)) ?_ ?_
    · rintro i u H' hu ⟨hd, e⟩
      have hi : ∃ n : Int, u = .int n := by
        match i, hu with
        | 0, hu => cases hu; exact ⟨_, rfl⟩
        | 1, hu => cases hu; exact ⟨_, rfl⟩
        | 2, hu => cases hu; exact ⟨_, rfl⟩
        | j + 3, hu => simp at hu
      have hlt : i < 3 := by
        rcases (show i < 3 ∨ 3 ≤ i by omega) with z | z
        · exact z
        · rw [List.getElem?_eq_none (by simpa using z)] at hu
          cases hu
      obtain ⟨n, rfl⟩ := hi
      refine ⟨rfl, lc_yes ?_⟩
      refine ⟨_, rfl, _, _, rfl, ty_int _, mi, _, hd, ?_, ?_, fun c o hc => ?_⟩
      · rw [List.length_map, List.length_replicate]
        exact Nat.lt_of_lt_of_le (show i < 1000 by omega) (by decide)
      · rw [upd_same, List.replicate_succ', List.map_append]
        rfl
      · rw [upd_ne (ne_of_none hc hD)]
        exact e _ _ hc
    · rintro H' ⟨hd, e⟩
      refine ⟨D, _, rfl, SqL.of hd, true, rfl, iteF ?_⟩
      have hr1 := e _ _ hr0
      have hq1 := e _ _ hq
      refine ⟨_, rfl, _, _, _, _, rfl, rfl, SqT.of hr1, rfl, _, _, rfl, ty_int _, mi, _, rfl, iteNS rfl ?_⟩
      refine ⟨_, rfl, _, _, _, _, rfl, rfl, SqT.of hr1, rfl, _, _, rfl, SqT.of hq1, rfl, _, _, rfl, _, _, rfl, _, _, rfl, rfl, ?_⟩
      refine ⟨_, rfl, _, _, rfl, rfl, _, rfl, iteD0 (by have := la.1; omega) ?_⟩
      refine ⟨_, rfl, _, rfl, _, _, rfl, up 703 bA, up 1400 bB, _, rfl, _, _, rfl, ?_, up 1400 bC, ?_⟩
      · rw [Int.natAbs_natCast]
        have h1 := Nat.gcd_le_left (eqB f x y).natAbs (show 0 < (eqA f x y).natAbs by have := la.1; omega)
        exact up 703 (Nat.lt_of_le_of_lt h1 bA)
      · rw [Int.natAbs_natCast, co]
        refine ⟨rfl, _, rfl, iteNS rfl ?_⟩
        refine ⟨_, rfl, _, _, _, _, rfl, rfl, SqT.of hr1, rfl, _, rfl, _, _, _, _, rfl, rfl, SqT.of (e _ _ he), rfl, _, _, _, _, rfl, rfl, SqT.of (e _ _ hy), rfl, _, _, rfl, rfl, .inr ⟨_, rfl, rfl, _, rfl, iteNS ?_ ?_⟩⟩
        · by_cases h : 0 < y.1
          · rw [if_pos h, decide_eq_true h]; rfl
          · rw [if_neg h, decide_eq_false h]; rfl
        · have fb' : f.natAbs < 2 ^ 100 := up 60 bf
          refine ⟨_, rfl, _, rfl, _, rfl, f, _, _, x, y, x, y, rfl, hE.same e, hE.same e, sx.up 300, sy.up 300, sx.up 300, sy.up 300, fb', fun rs H2 e2 hS => ?_⟩
          obtain ⟨p1, p2, hs0, hs1, hs2⟩ := hS
          have g2 := e.trans e2
          have sA : Sm 703 (eqA f x y, 1) := sm_int bA
          have sB : Sm 1400 (eqB f x y, 1) := sm_int bB
          have sC : Sm 1400 (eqC f x y, 1) := sm_int bC
          have sf : Sm 100 (f, 1) := sm_int fb'
          have S1 : Sm 700 (fMul f x y x y).1 := (((sx.times sx).up 300).plus (sf.times (sy.times sy))).up 700
          have S2 : Sm 700 (fMul f x y x y).2 := ((sx.times sy).plus (sy.times sx)).up 700
          refine ⟨_, rfl, (by show 2 ≤ sizeLine; decide), fun c1 hc1 => ?_⟩
          have j1 := same_new (o := .tup [.int (eqC f x y), .int 1]) hc1
          refine ⟨_, rfl, (by show 2 ≤ sizeLine; decide), fun c2 hc2 => ?_⟩
          have j2 := same_new (o := .tup [.int (eqB f x y), .int 1]) hc2
          have g4 := (g2.trans j1).trans j2
          refine ⟨_, rfl, _, _, _, _, rfl, rfl, SqT.of (g4 _ _ he), rfl, b_q (x := (eqB f x y, 1)) upd_same (g4 _ _ hx) (sB.up 4000) (sx.up 4000) fun r1 H3 e3 _ h1 => ?_⟩
          refine ⟨_, rfl, (by show 2 ≤ sizeLine; decide), fun c3 hc3 => ?_⟩
          have j3 := same_new (o := .tup [.int (eqA f x y), .int 1]) hc3
          have t3 := ((j1.trans j2).trans e3).trans j3
          refine ⟨_, rfl, _, _, _, _, rfl, rfl, SqT.of (t3 _ _ hs0), rfl, b_q (x := (eqA f x y, 1)) upd_same (t3 _ _ hs1) (sA.up 4000) (S1.up 4000) fun r2 H4 e4 _ h2 => ?_⟩
          refine b_q (e4 _ _ (j3 _ _ h1)) h2 ((sB.times sx).up 4000) ((sA.times S1).up 4000) fun r3 H5 e5 _ h3 => ?_
          refine b_q (x := (eqC f x y, 1)) (e5 _ _ (e4 _ _ (j3 _ _ (e3 _ _ (j2 _ _ upd_same))))) h3 (sC.up 4000) ((((sB.times sx).up 1500).plus ((sA.times S1).up 1500)).up 4000) fun r4 H6 e6 _ h4 => ?_
          have t6 := ((t3.trans e4).trans e5).trans e6
          have g6 := g2.trans t6
          refine ⟨_, rfl, (by show 2 ≤ sizeLine; decide), fun c4 hc4 => ?_⟩
          have j4 := same_new (o := .tup [.int (eqB f x y), .int 1]) hc4
          refine ⟨_, rfl, _, _, _, _, rfl, rfl, SqT.of (j4 _ _ (g6 _ _ he)), rfl, b_q (x := (eqB f x y, 1)) upd_same (j4 _ _ (g6 _ _ hy)) (sB.up 4000) (sy.up 4000) fun r5 H7 e7 _ h5 => ?_⟩
          refine ⟨_, rfl, (by show 2 ≤ sizeLine; decide), fun c5 hc5 => ?_⟩
          have j5 := same_new (o := .tup [.int (eqA f x y), .int 1]) hc5
          have t7 := (j4.trans e7).trans j5
          refine ⟨_, rfl, _, _, _, _, rfl, rfl, SqT.of (t7 _ _ (t6 _ _ hs0)), rfl, b_q (x := (eqA f x y, 1)) upd_same (t7 _ _ (t6 _ _ hs2)) (sA.up 4000) (S2.up 4000) fun r6 H8 e8 _ h6 => ?_⟩
          refine b_q (e8 _ _ (j5 _ _ h5)) h6 ((sB.times sy).up 4000) ((sA.times S2).up 4000) fun r7 H9 e9 _ h7 => ?_
          have t9 := (t7.trans e8).trans e9
          rw [zz.1] at h4
          rw [zz.2] at h7
          refine ⟨_, rfl, (by show 2 ≤ sizeLine; decide), fun c6 hc6 => ?_⟩
          have j6 := same_new (o := .tup [.int 0, .int 1]) hc6
          refine ⟨_, _, dp_pair (SqT.of (j6 _ _ (t9 _ _ h4))), dp_pair (SqT.of upd_same), rfl, rfl, _, rfl, ?_⟩
          rw [eqv_ints]
          refine iteD1 ⟨rfl, rfl⟩ ?_
          refine ⟨_, rfl, (by show 2 ≤ sizeLine; decide), fun c7 hc7 => ?_⟩
          have j7 := same_new (o := .tup [.int 0, .int 1]) hc7
          refine ⟨_, _, dp_pair (SqT.of ((j6.trans j7) _ _ h7)), dp_pair (SqT.of upd_same), rfl, rfl, ?_⟩
          rw [eqv_ints, decide_eq_true ⟨rfl, rfl⟩]
          exact k _ (((g6.trans t9).trans j6).trans j7)
theorem ok_law (T : Txt K mg) : FnOk P w K mg base CX0 8 T.f_law T.fd_law ["script"] (spLaw K) := by
  refine T.D_law.F.ok sc_law (fun vs H Q E h => ?_) (fun cdv A outer st H vs Q E hr h => ?_)
  · obtain ⟨a, ns, rfl, _⟩ := h
    rfl
  · obtain ⟨a, ns, rfl, hS, hlen, k⟩ := h
    refine ⟨_, (pss_cons (ps_set (i := 1) sc_law.nd rfl (Or.inl rfl) (pe_call (ok_l_stream T) (hr.mono (by omega)) rfl T.D_l_stream.g T.D_l_stream.F.kp T.D_l_stream.b .nil pass0 (pa_cons (pv 0) pa_nil)))
    (pss_cons (ps_set (i := 2) sc_law.nd rfl (Or.inl rfl) (pe_call (ok_l_field T) (hr.mono (by omega)) rfl T.D_l_field.g T.D_l_field.F.kp T.D_l_field.b .nil pass0 (pa_cons (pv 1) pa_nil)))
    (pss_cons (ps_asg (pe_ix (r := rIxL K) ix_list (pe_lst (pa_cons (pe_tup (pa_cons pe_int (pa_cons pe_int pa_nil))) (pa_cons (pe_tup (pa_cons pe_int (pa_cons pe_int pa_nil))) (pa_cons (pe_tup (pa_cons pe_int (pa_cons pe_int pa_nil))) (pa_cons (pe_tup (pa_cons pe_int (pa_cons pe_int pa_nil))) (pa_cons (pe_tup (pa_cons (pe_op op_pow pe_int pe_int) (pa_cons pe_int pa_nil))) pa_nil)))))) (pe_call (ok_l_next T) (hr.mono (by omega)) rfl T.D_l_next.g T.D_l_next.F.kp T.D_l_next.b .nil pass0 (pa_cons (pv 1) (pa_cons pe_int pa_nil))) (fun _ _ => rfl)) (pg_tup (by rfl) (pgs_cons (pg_name (i := 3) sc_law.nd rfl (Or.inl rfl)) (pgs_cons (pg_name (i := 4) sc_law.nd rfl (Or.inl rfl)) pgs_nil))))
    (pss_cons (ps_set (i := 5) sc_law.nd rfl (Or.inl rfl) (pe_call (ok_l_element T) (hr.mono (by omega)) rfl T.D_l_element.g T.D_l_element.F.kp T.D_l_element.b .nil pass0 (pa_cons (pv 1) (pa_cons (pv 2) (pa_cons (pv 3) (pa_cons (pv 4) pa_nil))))))
    (C8.pss_cut (ps_set (i := 6) sc_law.nd rfl (Or.inl rfl) (pe_call (ok_l_told T) (hr.mono (by omega)) rfl T.D_l_told.g T.D_l_told.F.kp T.D_l_told.b .nil pass0 (pa_cons (pv 2) (pa_cons (pv 5) pa_nil))))
    (C8.pss_cut (ps_if (pt_cmpR (op_eqD hr.units) (pe_ix (r := rIxT K) ix_tup (pv 5) pe_int (fun _ _ => rfl)) (pe_tup (pa_cons pe_int (pa_cons pe_int pa_nil))) (nomark _)) (pss_one (ps_if (pt_not (pt_val (pe_call (ok_l_equal T 2) (hr.mono (by omega)) rfl T.D_l_equal.g T.D_l_equal.F.kp T.D_l_equal.b .nil pass0 (pa_cons (pv 6) (pa_cons (pe_tup (pa_cons pe_str (pa_cons (pe_ix (r := rIxT K) ix_tup (pv 5) pe_int (fun _ _ => rfl)) pa_nil))) pa_nil))))) (pss_one (ps_ret pe_bl)) pss_nil)) (pss_one (ps_if (pt_not (pt_val (pe_call (ok_l_fits T) (hr.mono (by omega)) rfl T.D_l_fits.g T.D_l_fits.F.kp T.D_l_fits.b .nil pass0 (pa_cons (pv 2) (pa_cons (pv 5) (pa_cons (pv 6) pa_nil)))))) (pss_one (ps_ret pe_bl)) pss_nil)))
    (pss_cons (ps_set (i := 7) sc_law.nd rfl (Or.inl rfl) (pe_ix (r := rIxL K) ix_list (pe_lst (pa_cons (pe_callTy call_list_of (by rfl) T.list PyProof.Rows.boot_list (pa_cons (pv 5) pa_nil)) (pa_cons (pe_tup (pa_cons (pe_ix (r := rIxT K) ix_tup (pv 5) pe_int (fun _ _ => rfl)) pa_nil)) (pa_cons pe_non (pa_cons (pe_tup (pa_cons (pe_ix (r := rIxT K) ix_tup (pv 5) pe_int (fun _ _ => rfl)) (pa_cons (pe_tup (pa_cons pe_int (pa_cons pe_int pa_nil))) pa_nil))) pa_nil))))) (pe_call (ok_l_next T) (hr.mono (by omega)) rfl T.D_l_next.g T.D_l_next.F.kp T.D_l_next.b .nil pass0 (pa_cons (pv 1) (pa_cons pe_int pa_nil))) (fun _ _ => rfl)))
    (pss_cons (ps_if (pt_cmpR op_ne (pe_call (ok_l_told T) (hr.mono (by omega)) rfl T.D_l_told.g T.D_l_told.F.kp T.D_l_told.b .nil pass0 (pa_cons (pe_ix (r := rIxL K) ix_list (pe_lst (pa_cons pe_int (pa_cons (pe_un un_neg pe_int) (pa_cons pe_int (pa_cons pe_bl (pa_cons pe_non pa_nil)))))) (pe_call (ok_l_next T) (hr.mono (by omega)) rfl T.D_l_next.g T.D_l_next.F.kp T.D_l_next.b .nil pass0 (pa_cons (pv 1) (pa_cons pe_int pa_nil))) (fun _ _ => rfl)) (pa_cons (pv 7) pa_nil))) pe_str (nomark _)) (pss_one (ps_ret pe_bl)) pss_nil)
    (pss_one (ps_ret (pe_and (pe_cmpR op_eq (pe_call (ok_l_told T) (hr.mono (by omega)) rfl T.D_l_told.g T.D_l_told.F.kp T.D_l_told.b .nil pass0 (pa_cons (pv 2) (pa_cons (pv 7) pa_nil))) pe_str (nomark _)) (pe_one (pe_cmpR op_eq (pe_call (ok_l_told T) (hr.mono (by omega)) rfl T.D_l_told.g T.D_l_told.F.kp T.D_l_told.b .nil pass0 (pa_cons pe_int (pa_cons (pe_tup (pa_cons (pe_ix (r := rIxT K) ix_tup (pv 5) pe_int (fun _ _ => rfl)) (pa_cons (pe_tup (pa_cons pe_int (pa_cons pe_int pa_nil))) pa_nil))) pa_nil))) pe_str (nomark _)))))))))))))), ?_⟩
    refine ⟨_, rfl, a, ns, rfl, hS, fun s H1 hs1 e1 n1 => ?_⟩
    refine ⟨_, rfl, s, rfl, hs1, fun f H2 hf fb hs2 k2 => ?_⟩
    refine ⟨(by show 2 ≤ sizeLine; decide), fun p0 q0 => ⟨(by show 2 ≤ sizeLine; decide), fun p1 q1 => ⟨(by show 2 ≤ sizeLine; decide), fun p2 q2 => ⟨(by show 2 ≤ sizeLine; decide), fun p3 q3 => ?_⟩⟩⟩⟩
    refine ⟨_, _, rfl, rfl, ⟨by decide, by decide, by decide⟩, (by show 2 ≤ sizeLine; decide), fun p4 q4 => ⟨(by show 5 ≤ sizeLine; decide), fun l ql => ?_⟩⟩
    have i0 := same_new (o := .tup [.int 30, .int 12]) q0
    have i1 := same_new (o := .tup [.int 30, .int 12]) q1
    have i2 := same_new (o := .tup [.int 30, .int 12]) q2
    have i3 := same_new (o := .tup [.int 30, .int 1]) q3
    have i4 := same_new (o := .tup [.int (10 ^ 20), .int 999]) q4
    have i5 := same_new (o := .lst [.ref p0, .ref p1, .ref p2, .ref p3, .ref p4]) ql
    have t1 := i0.trans i1
    have t2 := t1.trans i2
    have t3 := t2.trans i3
    have t4 := t3.trans i4
    have j4 := i4.trans i5
    have j3 := i3.trans j4
    have j2 := i2.trans j3
    have j1 := i1.trans j2
    have f0 := j1 _ _ (upd_same (H := H2) (a := p0) (o := .tup [.int 30, .int 12]))
    have f1 := j2 _ _ (upd_same (a := p1) (o := .tup [.int 30, .int 12]))
    have f2 := j3 _ _ (upd_same (a := p2) (o := .tup [.int 30, .int 12]))
    have f3 := j4 _ _ (upd_same (a := p3) (o := .tup [.int 30, .int 1]))
    have f4 := i5 _ _ (upd_same (a := p4) (o := .tup [.int (10 ^ 20), .int 999]))
    have m0 := hs2.ne q0
    have m1 := hs2.ne (i0.free q1)
    have m2 := hs2.ne (t1.free q2)
    have m3 := hs2.ne (t2.free q3)
    have m4 := hs2.ne (t3.free q4)
    have ml := hs2.ne (t4.free ql)
    refine ⟨_, rfl, s, 5, rfl, hs2.same (t4.trans i5), by decide, up 3 (by decide), fun d0 H3 a0 b0 hs3 k3 => ?_⟩
    obtain ⟨pi, t, m, hat, hpi, ht, hm, bt, bm⟩ : ∃ (pi : Addr) (t m : Int), atI [V.ref p0, .ref p1, .ref p2, .ref p3, .ref p4] d0 = some (V.ref pi) ∧ H3 pi = some (.tup [.int t, .int m]) ∧ 0 < t ∧ 0 < m ∧ t.natAbs < 2 ^ 100 ∧ m.natAbs < 2 ^ 100 := by
      obtain rfl | rfl | rfl | rfl | rfl : d0 = 0 ∨ d0 = 1 ∨ d0 = 2 ∨ d0 = 3 ∨ d0 = 4 := by omega
      · exact ⟨p0, _, _, rfl, k3 _ _ f0 m0, by decide, by decide, by decide, by decide⟩
      · exact ⟨p1, _, _, rfl, k3 _ _ f1 m1, by decide, by decide, by decide, by decide⟩
      · exact ⟨p2, _, _, rfl, k3 _ _ f2 m2, by decide, by decide, by decide, by decide⟩
      · exact ⟨p3, _, _, rfl, k3 _ _ f3 m3, by decide, by decide, by decide, by decide⟩
      · exact ⟨p4, _, _, rfl, k3 _ _ f4 m4, by decide, by decide, by decide, by decide⟩
    refine ⟨l, _, _, _, rfl, rfl, SqL.of (k3 l _ upd_same ml), hat, ?_⟩
    refine ⟨_, _, rfl, SqT.of hpi, rfl, _, _, rfl, _, _, rfl, rfl, ?_⟩
    refine ⟨_, rfl, _, rfl, _, rfl, _, rfl, s, f, t, m, rfl, hs3, ht, hm, bt, bm, fun ea px py H4 x y sx sy gx gy zy _ _ _ _ hs4 k4 na nx ny ha hx hy => ?_⟩
    have Nx : Nrm x := ⟨sx.1, gx⟩
    have Ny : Nrm y := ⟨sy.1, gy⟩
    refine ⟨fun σ H' => ∃ r : Addr, σ = [some (.ref a), some (.ref s), some (.int f), some (.int t), some (.int m), some (.ref ea), some (.ref r), none] ∧ Same H4 H' ∧ (y = (0, 1) → H' r = some (.tup [.str "rational", .ref px])) ∧
      (y ≠ (0, 1) → ∃ q : Addr, H' q = some (.tup [.int (eqC f x y), .int (eqB f x y), .int (eqA f x y)]) ∧ H' r = some (.tup [.str "root", .ref q, .int (if 0 < y.1 then 1 else 0)])), ?_, ?_⟩
    · refine ⟨_, rfl, _, rfl, _, _, rfl, .inr ⟨f, rfl, hf, fb, .inr (.inr ⟨ea, px, py, x, y, rfl, ha, hx, hy, Nx, Ny, sx, sy, zy, fun h0 r H' e h => ?_, fun h0 r q H' e hq h => ?_⟩)⟩⟩
      · exact ⟨r, rfl, e, fun _ => h, fun z => absurd h0 z⟩
      · exact ⟨r, rfl, e, fun z => absurd z h0, fun _ => ⟨q, hq, h⟩⟩
    rintro σ H5 ⟨r, rfl, e5, hr0, hrn⟩
    have ha5 := e5 _ _ ha
    have hx5 := e5 _ _ hx
    have hy5 := e5 _ _ hy
    refine ⟨fun σ H' => σ = [some (.ref a), some (.ref s), some (.int f), some (.int t), some (.int m), some (.ref ea), some (.ref r), none] ∧ Same H5 H', ?_, ?_⟩
    · refine ⟨_, rfl, _, _, _, _, rfl, rfl, SqT.of ha5, rfl, (by show 2 ≤ sizeLine; decide), fun p1 q1 => ?_⟩
      have i1 := same_new (o := .tup [.int 0, .int 1]) q1
      refine ⟨_, _, dp_pair (SqT.of (i1 _ _ hy5)), dp_pair (SqT.of upd_same), rfl, rfl, _, rfl, ?_⟩
      rw [eqv_ints]
      refine iteD (fun hz => ?_) (fun hz => ?_)
      · have y0 : y = (0, 1) := Prod.ext hz.1 hz.2
        refine ⟨_, rfl, _, rfl, _, _, _, _, rfl, rfl, SqT.of (i1 _ _ ha5), rfl, (by show 2 ≤ sizeLine; decide), fun p2 q2 => ?_⟩
        have i2 := same_new (o := .tup [.str "rational", .ref px]) q2
        have i := i1.trans i2
        refine ⟨.ref r, .ref p2, rfl, eqv_pair (i _ _ (hr0 y0)) upd_same eqv_str (eqv_pair (i _ _ hx5) (i _ _ hx5) eqv_int eqv_int), fun H' e => ⟨true, rfl, iteF ?_⟩⟩
        exact ⟨rfl, i.trans e⟩
      · have yn : y ≠ (0, 1) := fun q => hz (by rw [q]; exact ⟨rfl, rfl⟩)
        obtain ⟨q, hq, hr⟩ := hrn yn
        refine ⟨_, rfl, _, rfl, _, rfl, f, ea, r, q, x, y, rfl, ⟨px, py, i1 _ _ ha5, i1 _ _ hx5, i1 _ _ hy5⟩, Nx, Ny, sx, sy, fb, i1 _ _ hq, i1 _ _ hr, fun H' e => ⟨true, rfl, iteF ?_⟩⟩
        exact ⟨rfl, i1.trans e⟩
    rintro σ H6 ⟨rfl, e6⟩
    have ha6 := e6 _ _ ha5
    have hx6 := e6 _ _ hx5
    have hy6 := e6 _ _ hy5
    have hs6 := hs4.same (e5.trans e6)
    refine ⟨_, rfl, ea, _, rfl, .inr (SqT.of ha6), fun l1 ql1 => ?_⟩
    have j1 := same_new (o := .lst [.ref px, .ref py]) ql1
    refine ⟨_, rfl, _, _, _, _, rfl, rfl, SqT.of (j1 _ _ ha6), rfl, (by show 1 ≤ sizeLine; decide), fun p1 q1 => ?_⟩
    have j2 := same_new (o := .tup [.ref px]) q1
    refine ⟨_, rfl, _, _, _, _, rfl, rfl, SqT.of ((j1.trans j2) _ _ ha6), rfl, (by show 2 ≤ sizeLine; decide), fun p2 q2 => ⟨(by show 2 ≤ sizeLine; decide), fun p3 q3 => ⟨(by show 4 ≤ sizeLine; decide), fun pl ql => ?_⟩⟩⟩
    have j3 := same_new (o := .tup [.int 2, .int 2]) q2
    have j4 := same_new (o := .tup [.ref px, .ref p2]) q3
    have j5 := same_new (o := .lst [.ref l1, .ref p1, .non, .ref p3]) ql
    have s2 := j1.trans j2
    have s3 := s2.trans j3
    have s4 := s3.trans j4
    have sw := s4.trans j5
    have c4 := j4.trans j5
    have c3 := j3.trans c4
    have c2 := j2.trans c3
    have f1 := c2 _ _ (upd_same (a := l1) (o := .lst [.ref px, .ref py]))
    have f2 := c3 _ _ (upd_same (a := p1) (o := .tup [.ref px]))
    have f3 := c4 _ _ (upd_same (a := p2) (o := .tup [.int 2, .int 2]))
    have f4 := j5 _ _ (upd_same (a := p3) (o := .tup [.ref px, .ref p2]))
    have hxw := sw _ _ hx6
    have haw := sw _ _ ha6
    have rx : ∀ {H' : Hp}, RatAt H' px x → RatV K H' (.ref px) true := fun h => .yes h Nx.1 Nx.2
    refine ⟨_, rfl, s, 4, rfl, hs6.same sw, by decide, up 3 (by decide), fun d1 H7 a1 b1 hs7 k7 => ?_⟩
    obtain ⟨v, hv, hno⟩ : ∃ v, atI [V.ref l1, .ref p1, .non, .ref p3] d1 = some v ∧ ∀ H', Keep s H7 H' → ElNo K H' v := by
      obtain rfl | rfl | rfl | rfl : d1 = 0 ∨ d1 = 1 ∨ d1 = 2 ∨ d1 = 3 := by omega
      · exact ⟨_, rfl, fun H' kk => .other (ty_lst (kk _ _ (k7 _ _ f1 (hs6.ne ql1)) (hs6.ne ql1))) (by decide) (by decide)⟩
      · exact ⟨_, rfl, fun H' kk => .size (kk _ _ (k7 _ _ f2 (hs6.ne (j1.free q1))) (hs6.ne (j1.free q1))) (by show (1 : Int) ≠ 2; decide)⟩
      · exact ⟨_, rfl, fun H' kk => .other ty_non (by decide) (by decide)⟩
      · exact ⟨_, rfl, fun H' kk => .right (kk _ _ (k7 _ _ f4 (hs6.ne (s3.free q3))) (hs6.ne (s3.free q3))) (rx (kk _ _ (k7 _ _ hxw nx) nx)) (.no (kk _ _ (k7 _ _ f3 (hs6.ne (s2.free q2))) (hs6.ne (s2.free q2))) (by decide))⟩
    refine ⟨pl, _, _, _, rfl, rfl, SqL.of (k7 _ _ upd_same (hs6.ne (s4.free ql))), hv, ?_⟩
    refine ⟨_, rfl, (by show 5 ≤ sizeLine; decide), fun pf qf => ?_⟩
    have z1 := same_new (o := .lst [.int 4, .int (-1), .int 1, .bl true, .non]) qf
    refine ⟨_, rfl, s, 5, rfl, hs7.same z1, by decide, up 3 (by decide), fun d2 H8 a2 b2 hs8 k8 => ?_⟩
    obtain ⟨u, hu, hfn⟩ : ∃ u, atI [V.int 4, .int (-1), .int 1, .bl true, .non] d2 = some u ∧ FdNo K H8 u := by
      obtain rfl | rfl | rfl | rfl | rfl : d2 = 0 ∨ d2 = 1 ∨ d2 = 2 ∨ d2 = 3 ∨ d2 = 4 := by omega
      · exact ⟨_, rfl, .inl ⟨4, rfl, up 3 (by decide), fun z => z.elim (fun q => by cases q) (fun q => q.2 ⟨2, by decide, rfl⟩)⟩⟩
      · exact ⟨_, rfl, .inl ⟨-1, rfl, up 3 (by decide), fun z => z.elim (fun q => by cases q) (fun q => by omega)⟩⟩
      · exact ⟨_, rfl, .inl ⟨1, rfl, up 3 (by decide), fun z => z.elim (fun q => by cases q) (fun q => q.2 ⟨1, by decide, rfl⟩)⟩⟩
      · exact ⟨_, rfl, .inr ⟨_, ty_bl _, by decide, by decide⟩⟩
      · exact ⟨_, rfl, .inr ⟨_, ty_non, by decide, by decide⟩⟩
    have k78 : Keep s H7 H8 := Keep.trans (Same.keep z1) k8
    refine ⟨pf, _, _, _, rfl, rfl, SqL.of (k8 _ _ upd_same (hs7.ne qf)), hu, _, rfl, u, v, rfl, .inl ⟨hfn, fun H9 e9 => ?_⟩⟩
    refine ⟨rfl, _, rfl, iteNS rfl ?_⟩
    have k79 : Keep s H7 H9 := Keep.trans k78 (Same.keep e9)
    refine ⟨_, rfl, _, rfl, .int f, v, rfl, .inr ⟨f, rfl, hf, fb, .inl ⟨hno H9 k79, fun H10 e10 => ?_⟩⟩⟩
    refine ⟨rfl, _, rfl, iteD1 rfl ?_⟩
    have k710 : Keep s H7 H10 := Keep.trans k79 (Same.keep e10)
    have ha10 := k710 _ _ (k7 _ _ haw na) na
    have hx10 := k710 _ _ (k7 _ _ hxw nx) nx
    refine ⟨_, rfl, _, _, _, _, rfl, rfl, SqT.of ha10, rfl, (by show 2 ≤ sizeLine; decide), fun w1 y1 => ⟨(by show 2 ≤ sizeLine; decide), fun w2 y2 => ?_⟩⟩
    have g1 := same_new (o := .tup [.int 1, .int 2]) y1
    have g2 := same_new (o := .tup [.ref px, .ref w1]) y2
    refine ⟨.int 0, .ref w2, rfl, .inr ⟨0, rfl, .inl rfl, by decide, .inr (.inl ⟨w2, w1, .ref px, (1, 2), rfl, upd_same, rx ((g1.trans g2) _ _ hx10), g2 _ _ upd_same, ⟨by decide, rfl⟩, rfl, fun q => absurd (congrArg Prod.fst q) (by decide), fun H11 e11 => ?_⟩)⟩⟩
    refine ⟨rfl, ?_⟩
    rw [decide_eq_true rfl]
    exact k H11
end
theorem all_mk {l : PySem.W.OpenLaw} {w : World} {K : PySem.W.Frag} {h : Heap} {mg : Str → Option Value} {fa : Addr} (X : K.In h) (G : h.Ns mainGlobals mg) (hfa : mg "law" = some (.ref fa))
    {f0 : Addr} {oc0 kV0 dc0 pm0 cd0 ct0 : Value} {od0 an0 : Option Addr} {sl0 : Array (Option Value)}
    (a0 : PySem.W.nsIn K mainGlobals "_law_stream" = some (some (.ref f0))) (l0 : K.lookup f0 = some ⟨oc0, od0, .func (PySem.W.fnOf "_law_stream" "_law_stream" (defArgs s_l_stream) (defBody s_l_stream) (defScope s_l_stream) .none kV0 dc0 pm0 an0 cd0 ct0), sl0⟩) (c0 : PySem.W.codeIn K cd0 "_law_stream" = true) (k0 : PySem.W.keepIn K (.ref f0) = true)
    {f1 : Addr} {oc1 kV1 dc1 pm1 cd1 ct1 : Value} {od1 an1 : Option Addr} {sl1 : Array (Option Value)}
    (a1 : PySem.W.nsIn K mainGlobals "_law_next" = some (some (.ref f1))) (l1 : K.lookup f1 = some ⟨oc1, od1, .func (PySem.W.fnOf "_law_next" "_law_next" (defArgs s_l_next) (defBody s_l_next) (defScope s_l_next) .none kV1 dc1 pm1 an1 cd1 ct1), sl1⟩) (c1 : PySem.W.codeIn K cd1 "_law_next" = true) (k1 : PySem.W.keepIn K (.ref f1) = true)
    {f2 : Addr} {oc2 kV2 dc2 pm2 cd2 ct2 : Value} {od2 an2 : Option Addr} {sl2 : Array (Option Value)}
    (a2 : PySem.W.nsIn K mainGlobals "_law_is_integer" = some (some (.ref f2))) (l2 : K.lookup f2 = some ⟨oc2, od2, .func (PySem.W.fnOf "_law_is_integer" "_law_is_integer" (defArgs s_l_is_integer) (defBody s_l_is_integer) (defScope s_l_is_integer) .none kV2 dc2 pm2 an2 cd2 ct2), sl2⟩) (c2 : PySem.W.codeIn K cd2 "_law_is_integer" = true) (k2 : PySem.W.keepIn K (.ref f2) = true)
    {f3 : Addr} {oc3 kV3 dc3 pm3 cd3 ct3 : Value} {od3 an3 : Option Addr} {sl3 : Array (Option Value)}
    (a3 : PySem.W.nsIn K mainGlobals "_law_gcd" = some (some (.ref f3))) (l3 : K.lookup f3 = some ⟨oc3, od3, .func (PySem.W.fnOf "_law_gcd" "_law_gcd" (defArgs s_l_gcd) (defBody s_l_gcd) (defScope s_l_gcd) .none kV3 dc3 pm3 an3 cd3 ct3), sl3⟩) (c3 : PySem.W.codeIn K cd3 "_law_gcd" = true) (k3 : PySem.W.keepIn K (.ref f3) = true)
    {f4 : Addr} {oc4 kV4 dc4 pm4 cd4 ct4 : Value} {od4 an4 : Option Addr} {sl4 : Array (Option Value)}
    (a4 : PySem.W.nsIn K mainGlobals "_law_low" = some (some (.ref f4))) (l4 : K.lookup f4 = some ⟨oc4, od4, .func (PySem.W.fnOf "_law_low" "_law_low" (defArgs s_l_low) (defBody s_l_low) (defScope s_l_low) .none kV4 dc4 pm4 an4 cd4 ct4), sl4⟩) (c4 : PySem.W.codeIn K cd4 "_law_low" = true) (k4 : PySem.W.keepIn K (.ref f4) = true)
    {f5 : Addr} {oc5 kV5 dc5 pm5 cd5 ct5 : Value} {od5 an5 : Option Addr} {sl5 : Array (Option Value)}
    (a5 : PySem.W.nsIn K mainGlobals "is_whole" = some (some (.ref f5))) (l5 : K.lookup f5 = some ⟨oc5, od5, .func (PySem.W.fnOf "is_whole" "is_whole" (defArgs s_is_whole) (defBody s_is_whole) (defScope s_is_whole) .none kV5 dc5 pm5 an5 cd5 ct5), sl5⟩) (c5 : PySem.W.codeIn K cd5 "is_whole" = true) (k5 : PySem.W.keepIn K (.ref f5) = true)
    {f6 : Addr} {oc6 kV6 dc6 pm6 cd6 ct6 : Value} {od6 an6 : Option Addr} {sl6 : Array (Option Value)}
    (a6 : PySem.W.nsIn K mainGlobals "is_rational" = some (some (.ref f6))) (l6 : K.lookup f6 = some ⟨oc6, od6, .func (PySem.W.fnOf "is_rational" "is_rational" (defArgs s_is_rational) (defBody s_is_rational) (defScope s_is_rational) .none kV6 dc6 pm6 an6 cd6 ct6), sl6⟩) (c6 : PySem.W.codeIn K cd6 "is_rational" = true) (k6 : PySem.W.keepIn K (.ref f6) = true)
    {f7 : Addr} {oc7 kV7 dc7 pm7 cd7 ct7 : Value} {od7 an7 : Option Addr} {sl7 : Array (Option Value)}
    (a7 : PySem.W.nsIn K mainGlobals "ratio" = some (some (.ref f7))) (l7 : K.lookup f7 = some ⟨oc7, od7, .func (PySem.W.fnOf "ratio" "ratio" (defArgs s_ratio) (defBody s_ratio) (defScope s_ratio) .none kV7 dc7 pm7 an7 cd7 ct7), sl7⟩) (c7 : PySem.W.codeIn K cd7 "ratio" = true) (k7 : PySem.W.keepIn K (.ref f7) = true)
    {f8 : Addr} {oc8 kV8 dc8 pm8 cd8 ct8 : Value} {od8 an8 : Option Addr} {sl8 : Array (Option Value)}
    (a8 : PySem.W.nsIn K mainGlobals "_law_plus" = some (some (.ref f8))) (l8 : K.lookup f8 = some ⟨oc8, od8, .func (PySem.W.fnOf "_law_plus" "_law_plus" (defArgs s_l_plus) (defBody s_l_plus) (defScope s_l_plus) .none kV8 dc8 pm8 an8 cd8 ct8), sl8⟩) (c8 : PySem.W.codeIn K cd8 "_law_plus" = true) (k8 : PySem.W.keepIn K (.ref f8) = true)
    {f9 : Addr} {oc9 kV9 dc9 pm9 cd9 ct9 : Value} {od9 an9 : Option Addr} {sl9 : Array (Option Value)}
    (a9 : PySem.W.nsIn K mainGlobals "_law_times" = some (some (.ref f9))) (l9 : K.lookup f9 = some ⟨oc9, od9, .func (PySem.W.fnOf "_law_times" "_law_times" (defArgs s_l_times) (defBody s_l_times) (defScope s_l_times) .none kV9 dc9 pm9 an9 cd9 ct9), sl9⟩) (c9 : PySem.W.codeIn K cd9 "_law_times" = true) (k9 : PySem.W.keepIn K (.ref f9) = true)
    {f10 : Addr} {oc10 kV10 dc10 pm10 cd10 ct10 : Value} {od10 an10 : Option Addr} {sl10 : Array (Option Value)}
    (a10 : PySem.W.nsIn K mainGlobals "_law_ratio" = some (some (.ref f10))) (l10 : K.lookup f10 = some ⟨oc10, od10, .func (PySem.W.fnOf "_law_ratio" "_law_ratio" (defArgs s_l_ratio) (defBody s_l_ratio) (defScope s_l_ratio) .none kV10 dc10 pm10 an10 cd10 ct10), sl10⟩) (c10 : PySem.W.codeIn K cd10 "_law_ratio" = true) (k10 : PySem.W.keepIn K (.ref f10) = true)
    {f11 : Addr} {oc11 kV11 dc11 pm11 cd11 ct11 : Value} {od11 an11 : Option Addr} {sl11 : Array (Option Value)}
    (a11 : PySem.W.nsIn K mainGlobals "minus" = some (some (.ref f11))) (l11 : K.lookup f11 = some ⟨oc11, od11, .func (PySem.W.fnOf "minus" "minus" (defArgs s_minus) (defBody s_minus) (defScope s_minus) .none kV11 dc11 pm11 an11 cd11 ct11), sl11⟩) (c11 : PySem.W.codeIn K cd11 "minus" = true) (k11 : PySem.W.keepIn K (.ref f11) = true)
    {f12 : Addr} {oc12 kV12 dc12 pm12 cd12 ct12 : Value} {od12 an12 : Option Addr} {sl12 : Array (Option Value)}
    (a12 : PySem.W.nsIn K mainGlobals "times" = some (some (.ref f12))) (l12 : K.lookup f12 = some ⟨oc12, od12, .func (PySem.W.fnOf "times" "times" (defArgs s_times) (defBody s_times) (defScope s_times) .none kV12 dc12 pm12 an12 cd12 ct12), sl12⟩) (c12 : PySem.W.codeIn K cd12 "times" = true) (k12 : PySem.W.keepIn K (.ref f12) = true)
    {f13 : Addr} {oc13 kV13 dc13 pm13 cd13 ct13 : Value} {od13 an13 : Option Addr} {sl13 : Array (Option Value)}
    (a13 : PySem.W.nsIn K mainGlobals "_law_equal" = some (some (.ref f13))) (l13 : K.lookup f13 = some ⟨oc13, od13, .func (PySem.W.fnOf "_law_equal" "_law_equal" (defArgs s_l_equal) (defBody s_l_equal) (defScope s_l_equal) .none kV13 dc13 pm13 an13 cd13 ct13), sl13⟩) (c13 : PySem.W.codeIn K cd13 "_law_equal" = true) (k13 : PySem.W.keepIn K (.ref f13) = true)
    {f14 : Addr} {oc14 kV14 dc14 pm14 cd14 ct14 : Value} {od14 an14 : Option Addr} {sl14 : Array (Option Value)}
    (a14 : PySem.W.nsIn K mainGlobals "_law_root" = some (some (.ref f14))) (l14 : K.lookup f14 = some ⟨oc14, od14, .func (PySem.W.fnOf "_law_root" "_law_root" (defArgs s_l_root) (defBody s_l_root) (defScope s_l_root) .none kV14 dc14 pm14 an14 cd14 ct14), sl14⟩) (c14 : PySem.W.codeIn K cd14 "_law_root" = true) (k14 : PySem.W.keepIn K (.ref f14) = true)
    {f15 : Addr} {oc15 kV15 dc15 pm15 cd15 ct15 : Value} {od15 an15 : Option Addr} {sl15 : Array (Option Value)}
    (a15 : PySem.W.nsIn K mainGlobals "_law_is_square" = some (some (.ref f15))) (l15 : K.lookup f15 = some ⟨oc15, od15, .func (PySem.W.fnOf "_law_is_square" "_law_is_square" (defArgs s_l_is_square) (defBody s_l_is_square) (defScope s_l_is_square) .none kV15 dc15 pm15 an15 cd15 ct15), sl15⟩) (c15 : PySem.W.codeIn K cd15 "_law_is_square" = true) (k15 : PySem.W.keepIn K (.ref f15) = true)
    {f16 : Addr} {oc16 kV16 dc16 pm16 cd16 ct16 : Value} {od16 an16 : Option Addr} {sl16 : Array (Option Value)}
    (a16 : PySem.W.nsIn K mainGlobals "_law_field" = some (some (.ref f16))) (l16 : K.lookup f16 = some ⟨oc16, od16, .func (PySem.W.fnOf "_law_field" "_law_field" (defArgs s_l_field) (defBody s_l_field) (defScope s_l_field) .none kV16 dc16 pm16 an16 cd16 ct16), sl16⟩) (c16 : PySem.W.codeIn K cd16 "_law_field" = true) (k16 : PySem.W.keepIn K (.ref f16) = true)
    {f17 : Addr} {oc17 kV17 dc17 pm17 cd17 ct17 : Value} {od17 an17 : Option Addr} {sl17 : Array (Option Value)}
    (a17 : PySem.W.nsIn K mainGlobals "_law_element" = some (some (.ref f17))) (l17 : K.lookup f17 = some ⟨oc17, od17, .func (PySem.W.fnOf "_law_element" "_law_element" (defArgs s_l_element) (defBody s_l_element) (defScope s_l_element) .none kV17 dc17 pm17 an17 cd17 ct17), sl17⟩) (c17 : PySem.W.codeIn K cd17 "_law_element" = true) (k17 : PySem.W.keepIn K (.ref f17) = true)
    {f18 : Addr} {oc18 kV18 dc18 pm18 cd18 ct18 : Value} {od18 an18 : Option Addr} {sl18 : Array (Option Value)}
    (a18 : PySem.W.nsIn K mainGlobals "_law_multiply" = some (some (.ref f18))) (l18 : K.lookup f18 = some ⟨oc18, od18, .func (PySem.W.fnOf "_law_multiply" "_law_multiply" (defArgs s_l_multiply) (defBody s_l_multiply) (defScope s_l_multiply) .none kV18 dc18 pm18 an18 cd18 ct18), sl18⟩) (c18 : PySem.W.codeIn K cd18 "_law_multiply" = true) (k18 : PySem.W.keepIn K (.ref f18) = true)
    {f19 : Addr} {oc19 kV19 dc19 pm19 cd19 ct19 : Value} {od19 an19 : Option Addr} {sl19 : Array (Option Value)}
    (a19 : PySem.W.nsIn K mainGlobals "norm" = some (some (.ref f19))) (l19 : K.lookup f19 = some ⟨oc19, od19, .func (PySem.W.fnOf "norm" "norm" (defArgs s_norm) (defBody s_norm) (defScope s_norm) .none kV19 dc19 pm19 an19 cd19 ct19), sl19⟩) (c19 : PySem.W.codeIn K cd19 "norm" = true) (k19 : PySem.W.keepIn K (.ref f19) = true)
    {f20 : Addr} {oc20 kV20 dc20 pm20 cd20 ct20 : Value} {od20 an20 : Option Addr} {sl20 : Array (Option Value)}
    (a20 : PySem.W.nsIn K mainGlobals "square_root" = some (some (.ref f20))) (l20 : K.lookup f20 = some ⟨oc20, od20, .func (PySem.W.fnOf "square_root" "square_root" (defArgs s_square_root) (defBody s_square_root) (defScope s_square_root) .none kV20 dc20 pm20 an20 cd20 ct20), sl20⟩) (c20 : PySem.W.codeIn K cd20 "square_root" = true) (k20 : PySem.W.keepIn K (.ref f20) = true)
    {f21 : Addr} {oc21 kV21 dc21 pm21 cd21 ct21 : Value} {od21 an21 : Option Addr} {sl21 : Array (Option Value)}
    (a21 : PySem.W.nsIn K mainGlobals "is_field" = some (some (.ref f21))) (l21 : K.lookup f21 = some ⟨oc21, od21, .func (PySem.W.fnOf "is_field" "is_field" (defArgs s_is_field) (defBody s_is_field) (defScope s_is_field) .none kV21 dc21 pm21 an21 cd21 ct21), sl21⟩) (c21 : PySem.W.codeIn K cd21 "is_field" = true) (k21 : PySem.W.keepIn K (.ref f21) = true)
    {f22 : Addr} {oc22 kV22 dc22 pm22 cd22 ct22 : Value} {od22 an22 : Option Addr} {sl22 : Array (Option Value)}
    (a22 : PySem.W.nsIn K mainGlobals "is_element" = some (some (.ref f22))) (l22 : K.lookup f22 = some ⟨oc22, od22, .func (PySem.W.fnOf "is_element" "is_element" (defArgs s_is_element) (defBody s_is_element) (defScope s_is_element) .none kV22 dc22 pm22 an22 cd22 ct22), sl22⟩) (c22 : PySem.W.codeIn K cd22 "is_element" = true) (k22 : PySem.W.keepIn K (.ref f22) = true)
    {f23 : Addr} {oc23 kV23 dc23 pm23 cd23 ct23 : Value} {od23 an23 : Option Addr} {sl23 : Array (Option Value)}
    (a23 : PySem.W.nsIn K mainGlobals "number_of" = some (some (.ref f23))) (l23 : K.lookup f23 = some ⟨oc23, od23, .func (PySem.W.fnOf "number_of" "number_of" (defArgs s_number_of) (defBody s_number_of) (defScope s_number_of) .none kV23 dc23 pm23 an23 cd23 ct23), sl23⟩) (c23 : PySem.W.codeIn K cd23 "number_of" = true) (k23 : PySem.W.keepIn K (.ref f23) = true)
    {f24 : Addr} {oc24 kV24 dc24 pm24 cd24 ct24 : Value} {od24 an24 : Option Addr} {sl24 : Array (Option Value)}
    (a24 : PySem.W.nsIn K mainGlobals "_law_told" = some (some (.ref f24))) (l24 : K.lookup f24 = some ⟨oc24, od24, .func (PySem.W.fnOf "_law_told" "_law_told" (defArgs s_l_told) (defBody s_l_told) (defScope s_l_told) .none kV24 dc24 pm24 an24 cd24 ct24), sl24⟩) (c24 : PySem.W.codeIn K cd24 "_law_told" = true) (k24 : PySem.W.keepIn K (.ref f24) = true)
    {f25 : Addr} {oc25 kV25 dc25 pm25 cd25 ct25 : Value} {od25 an25 : Option Addr} {sl25 : Array (Option Value)}
    (a25 : PySem.W.nsIn K mainGlobals "_law_fits" = some (some (.ref f25))) (l25 : K.lookup f25 = some ⟨oc25, od25, .func (PySem.W.fnOf "_law_fits" "_law_fits" (defArgs s_l_fits) (defBody s_l_fits) (defScope s_l_fits) .none kV25 dc25 pm25 an25 cd25 ct25), sl25⟩) (c25 : PySem.W.codeIn K cd25 "_law_fits" = true) (k25 : PySem.W.keepIn K (.ref f25) = true)
    {f26 : Addr} {oc26 kV26 dc26 pm26 cd26 ct26 : Value} {od26 an26 : Option Addr} {sl26 : Array (Option Value)}
    (a26 : PySem.W.nsIn K mainGlobals "law" = some (some (.ref f26))) (l26 : K.lookup f26 = some ⟨oc26, od26, .func (PySem.W.fnOf "law" "law" (defArgs s_law) (defBody s_law) (defScope s_law) .none kV26 dc26 pm26 an26 cd26 ct26), sl26⟩) (c26 : PySem.W.codeIn K cd26 "law" = true) (k26 : PySem.W.keepIn K (.ref f26) = true)
    (z_abs : PySem.W.nsIn K mainGlobals "abs" = some none)
    (z_all : PySem.W.nsIn K mainGlobals "all" = some none)
    (z_bool : PySem.W.nsIn K mainGlobals "bool" = some none)
    (z_int : PySem.W.nsIn K mainGlobals "int" = some none)
    (z_isinstance : PySem.W.nsIn K mainGlobals "isinstance" = some none)
    (z_len : PySem.W.nsIn K mainGlobals "len" = some none)
    (z_list : PySem.W.nsIn K mainGlobals "list" = some none)
    (z_range : PySem.W.nsIn K mainGlobals "range" = some none)
    (z_str : PySem.W.nsIn K mainGlobals "str" = some none)
    (z_tuple : PySem.W.nsIn K mainGlobals "tuple" = some none)
    (z_gcd : PySem.W.nsIn K mainGlobals "gcd" = some (some (.builtin "math.gcd")))
    (z_isqrt : PySem.W.nsIn K mainGlobals "isqrt" = some (some (.builtin "math.isqrt")))
    (z_lcm : PySem.W.nsIn K mainGlobals "lcm" = some (some (.builtin "math.lcm")))
    {cc_ZERO : Addr} (z_ZERO : PySem.W.nsIn K mainGlobals "ZERO" = some (some (.ref cc_ZERO)))
    {kk_ZERO_d : Option Addr} {kk_ZERO_n : Nat} {kk_ZERO_s : Array (Option Value)} {kk_ZERO_t0 : Tok} {kk_ZERO_t1 : Tok} (kk_ZERO : K.lookup cc_ZERO = some ⟨.type "tuple", kk_ZERO_d, .seq #[.int 0 kk_ZERO_t0, .int 1 kk_ZERO_t1] kk_ZERO_n, kk_ZERO_s⟩)
    {C O fI : Addr} {ocI kVI dcI pmI cdI ctI : Value} {odI anI : Option Addr} {slI : Array (Option Value)} {nm q : Str} {N : Addr} {bs : List Value} {sn : List Str} {sub : List Value} {ab : Bool} {col : Option Bool} {dd : Option Addr} {m0 m1 m2 m3 m5 : Option Value}
    (xC : PySem.W.nsIn K mainGlobals "BadValue" = some (some (.ref C))) (xO : PySem.W.nsIn K mainGlobals "OddsError" = some (some (.ref O)))
    (xL : K.lookup C = some (excClassObj nm q C N bs [.ref O, .type "ValueError", .type "Exception", .type "BaseException", .type "object"] true sn sub ab col dd m0 m1 m2 m3 m5 "ValueError.__new__"))
    (x1 : PySem.W.findIn K (.ref C) "__init__" = some (some (.ref fI))) (x2 : PySem.W.typeIn K (.ref fI) = some (.type "function"))
    (x3 : K.lookup fI = some ⟨ocI, odI, .func (PySem.W.fnOf "__init__" "BadValue.__init__" (defArgs s_init) (defBody s_init) (defScope s_init) .none kVI dcI pmI anI cdI ctI), slI⟩) (x4 : PySem.W.codeIn K cdI "BadValue.__init__" = true) (x5 : PySem.W.keepIn K (.ref fI) = true)
    (x6 : PySem.W.findIn K (.ref C) "__setattr__" = some (some (.builtin "object.__setattr__"))) (x7 : PySem.W.subIn K (.ref C) (.type "BaseException") = some true) (x8 : PySem.W.typeIn K (.ref C) = some (.type "type")) (x9 : PySem.W.keepIn K (.ref C) = true)
    (y1 : PySem.W.findIn K (.ref C) "__getattribute__" = some (some (.builtin "BaseException.__getattribute__"))) (y2 : PySem.W.findIn K (.ref C) "__getattr__" = some none) (y3 : PySem.W.hasDictIn K C = true) (y4 : PySem.W.findIn K (.ref C) "name" = some none)
    (y5 : PySem.W.isClsIn K C = true) (y6 : PySem.W.findIn K (.ref C) "__class__" = some (some (.builtin "object.__class__"))) (y7 : PySem.W.specialIn K (.builtin "object.__class__") "__get__" = some (some (.builtin "getset_descriptor.__get__"))) (y8 : PySem.W.takesIn K (.builtin "object.__class__") = some true)
    (y9 : PySem.W.mroIn K C (.type "object") = some true) (w1 : PySem.W.subIn K (.ref C) (.ref C) = some true) (w2 : PySem.W.subIn K (.ref C) (.ref O) = some true) (w3 : PySem.W.subIn K (.ref C) (.type "ValueError") = some true) (w4 : PySem.W.isClsIn K O = true) (w5 : PySem.W.typeIn K (.ref O) = some (.type "type"))
    : ∃ fd : FuncData, (∀ (s : Shared) (v : Value), BindsTo s fd ⟨[v], []⟩ [("script", v)]) ∧ ∀ base : Heap, K.In base → base.Ns mainGlobals mg → FnOk l.prog w K mg base CX0 8 fa fd ["script"] (spLaw K) := by
  have e := hfa.symm.trans (PySem.W.mg_of X G a26)
  cases e
  have F0 := fun_mk (st := s_l_stream) l0 c0 k0
  have b0 := F0.binds (ps := ["script"]) fun _ _ _ _ _ _ us hl => match us, hl with | [_], _ => rfl
  have F1 := fun_mk (st := s_l_next) l1 c1 k1
  have b1 := F1.binds (ps := ["stream", "many"]) fun _ _ _ _ _ _ us hl => match us, hl with | [_, _], _ => rfl
  have F2 := fun_mk (st := s_l_is_integer) l2 c2 k2
  have b2 := F2.binds (ps := ["actual"]) fun _ _ _ _ _ _ us hl => match us, hl with | [_], _ => rfl
  have F3 := fun_mk (st := s_l_gcd) l3 c3 k3
  have b3 := F3.binds (ps := ["a", "b"]) fun _ _ _ _ _ _ us hl => match us, hl with | [_, _], _ => rfl
  have F4 := fun_mk (st := s_l_low) l4 c4 k4
  have b4 := F4.binds (ps := ["n", "d"]) fun _ _ _ _ _ _ us hl => match us, hl with | [_, _], _ => rfl
  have F5 := fun_mk (st := s_is_whole) l5 c5 k5
  have b5 := F5.binds (ps := ["value"]) fun _ _ _ _ _ _ us hl => match us, hl with | [_], _ => rfl
  have F6 := fun_mk (st := s_is_rational) l6 c6 k6
  have b6 := F6.binds (ps := ["x"]) fun _ _ _ _ _ _ us hl => match us, hl with | [_], _ => rfl
  have F7 := fun_mk (st := s_ratio) l7 c7 k7
  have b7 := F7.binds (ps := ["n", "d"]) fun _ _ _ _ _ _ us hl => match us, hl with | [_, _], _ => rfl
  have F8 := fun_mk (st := s_l_plus) l8 c8 k8
  have b8 := F8.binds (ps := ["a", "b"]) fun _ _ _ _ _ _ us hl => match us, hl with | [_, _], _ => rfl
  have F9 := fun_mk (st := s_l_times) l9 c9 k9
  have b9 := F9.binds (ps := ["a", "b"]) fun _ _ _ _ _ _ us hl => match us, hl with | [_, _], _ => rfl
  have F10 := fun_mk (st := s_l_ratio) l10 c10 k10
  have b10 := F10.binds (ps := ["stream", "top", "most"]) fun _ _ _ _ _ _ us hl => match us, hl with | [_, _, _], _ => rfl
  have F11 := fun_mk (st := s_minus) l11 c11 k11
  have b11 := F11.binds (ps := ["a", "b"]) fun _ _ _ _ _ _ us hl => match us, hl with | [_, _], _ => rfl
  have F12 := fun_mk (st := s_times) l12 c12 k12
  have b12 := F12.binds (ps := ["a", "b"]) fun _ _ _ _ _ _ us hl => match us, hl with | [_, _], _ => rfl
  have F13 := fun_mk (st := s_l_equal) l13 c13 k13
  have b13 := F13.binds (ps := ["actual", "due"]) fun _ _ _ _ _ _ us hl => match us, hl with | [_, _], _ => rfl
  have F14 := fun_mk (st := s_l_root) l14 c14 k14
  have b14 := F14.binds (ps := ["n"]) fun _ _ _ _ _ _ us hl => match us, hl with | [_], _ => rfl
  have F15 := fun_mk (st := s_l_is_square) l15 c15 k15
  have b15 := F15.binds (ps := ["n"]) fun _ _ _ _ _ _ us hl => match us, hl with | [_], _ => rfl
  have F16 := fun_mk (st := s_l_field) l16 c16 k16
  have b16 := F16.binds (ps := ["stream"]) fun _ _ _ _ _ _ us hl => match us, hl with | [_], _ => rfl
  have F17 := fun_mk (st := s_l_element) l17 c17 k17
  have b17 := F17.binds (ps := ["stream", "field", "top", "most"]) fun _ _ _ _ _ _ us hl => match us, hl with | [_, _, _, _], _ => rfl
  have F18 := fun_mk (st := s_l_multiply) l18 c18 k18
  have b18 := F18.binds (ps := ["field", "a", "b"]) fun _ _ _ _ _ _ us hl => match us, hl with | [_, _, _], _ => rfl
  have F19 := fun_mk (st := s_norm) l19 c19 k19
  have b19 := F19.binds (ps := ["field", "a"]) fun _ _ _ _ _ _ us hl => match us, hl with | [_, _], _ => rfl
  have F20 := fun_mk (st := s_square_root) l20 c20 k20
  have b20 := F20.binds (ps := ["n"]) fun _ _ _ _ _ _ us hl => match us, hl with | [_], _ => rfl
  have F21 := fun_mk (st := s_is_field) l21 c21 k21
  have b21 := F21.binds (ps := ["x"]) fun _ _ _ _ _ _ us hl => match us, hl with | [_], _ => rfl
  have F22 := fun_mk (st := s_is_element) l22 c22 k22
  have b22 := F22.binds (ps := ["field", "x"]) fun _ _ _ _ _ _ us hl => match us, hl with | [_, _], _ => rfl
  have F23 := fun_mk (st := s_number_of) l23 c23 k23
  have b23 := F23.binds (ps := ["field", "element"]) fun _ _ _ _ _ _ us hl => match us, hl with | [_, _], _ => rfl
  have F24 := fun_mk (st := s_l_told) l24 c24 k24
  have b24 := F24.binds (ps := ["field", "element"]) fun _ _ _ _ _ _ us hl => match us, hl with | [_, _], _ => rfl
  have F25 := fun_mk (st := s_l_fits) l25 c25 k25
  have b25 := F25.binds (ps := ["field", "element", "actual"]) fun _ _ _ _ _ _ us hl => match us, hl with | [_, _, _], _ => rfl
  have F26 := fun_mk (st := s_law) l26 c26 k26
  have b26 := F26.binds (ps := ["script"]) fun _ _ _ _ _ _ us hl => match us, hl with | [_], _ => rfl
  have FI := fun_mk (st := s_init) x3 x4 x5
  have bI := FI.binds (ps := ["self", "name"]) fun _ _ _ _ _ _ us hl => match us, hl with | [_, _], _ => rfl
  let T : Txt K mg := {
    f_l_stream := f0, fd_l_stream := _, D_l_stream := ⟨F0, PySem.W.mg_of X G a0, b0⟩
    f_l_next := f1, fd_l_next := _, D_l_next := ⟨F1, PySem.W.mg_of X G a1, b1⟩
    f_l_is_integer := f2, fd_l_is_integer := _, D_l_is_integer := ⟨F2, PySem.W.mg_of X G a2, b2⟩
    f_l_gcd := f3, fd_l_gcd := _, D_l_gcd := ⟨F3, PySem.W.mg_of X G a3, b3⟩
    f_l_low := f4, fd_l_low := _, D_l_low := ⟨F4, PySem.W.mg_of X G a4, b4⟩
    f_is_whole := f5, fd_is_whole := _, D_is_whole := ⟨F5, PySem.W.mg_of X G a5, b5⟩
    f_is_rational := f6, fd_is_rational := _, D_is_rational := ⟨F6, PySem.W.mg_of X G a6, b6⟩
    f_ratio := f7, fd_ratio := _, D_ratio := ⟨F7, PySem.W.mg_of X G a7, b7⟩
    f_l_plus := f8, fd_l_plus := _, D_l_plus := ⟨F8, PySem.W.mg_of X G a8, b8⟩
    f_l_times := f9, fd_l_times := _, D_l_times := ⟨F9, PySem.W.mg_of X G a9, b9⟩
    f_l_ratio := f10, fd_l_ratio := _, D_l_ratio := ⟨F10, PySem.W.mg_of X G a10, b10⟩
    f_minus := f11, fd_minus := _, D_minus := ⟨F11, PySem.W.mg_of X G a11, b11⟩
    f_times := f12, fd_times := _, D_times := ⟨F12, PySem.W.mg_of X G a12, b12⟩
    f_l_equal := f13, fd_l_equal := _, D_l_equal := ⟨F13, PySem.W.mg_of X G a13, b13⟩
    f_l_root := f14, fd_l_root := _, D_l_root := ⟨F14, PySem.W.mg_of X G a14, b14⟩
    f_l_is_square := f15, fd_l_is_square := _, D_l_is_square := ⟨F15, PySem.W.mg_of X G a15, b15⟩
    f_l_field := f16, fd_l_field := _, D_l_field := ⟨F16, PySem.W.mg_of X G a16, b16⟩
    f_l_element := f17, fd_l_element := _, D_l_element := ⟨F17, PySem.W.mg_of X G a17, b17⟩
    f_l_multiply := f18, fd_l_multiply := _, D_l_multiply := ⟨F18, PySem.W.mg_of X G a18, b18⟩
    f_norm := f19, fd_norm := _, D_norm := ⟨F19, PySem.W.mg_of X G a19, b19⟩
    f_square_root := f20, fd_square_root := _, D_square_root := ⟨F20, PySem.W.mg_of X G a20, b20⟩
    f_is_field := f21, fd_is_field := _, D_is_field := ⟨F21, PySem.W.mg_of X G a21, b21⟩
    f_is_element := f22, fd_is_element := _, D_is_element := ⟨F22, PySem.W.mg_of X G a22, b22⟩
    f_number_of := f23, fd_number_of := _, D_number_of := ⟨F23, PySem.W.mg_of X G a23, b23⟩
    f_l_told := f24, fd_l_told := _, D_l_told := ⟨F24, PySem.W.mg_of X G a24, b24⟩
    f_l_fits := f25, fd_l_fits := _, D_l_fits := ⟨F25, PySem.W.mg_of X G a25, b25⟩
    f_law := fa, fd_law := _, D_law := ⟨F26, PySem.W.mg_of X G a26, b26⟩
    abs := PySem.W.mg_none_of X G z_abs
    all := PySem.W.mg_none_of X G z_all
    bool := PySem.W.mg_none_of X G z_bool
    int := PySem.W.mg_none_of X G z_int
    isinstance := PySem.W.mg_none_of X G z_isinstance
    len := PySem.W.mg_none_of X G z_len
    list := PySem.W.mg_none_of X G z_list
    range := PySem.W.mg_none_of X G z_range
    str := PySem.W.mg_none_of X G z_str
    tuple := PySem.W.mg_none_of X G z_tuple
    gcd := PySem.W.mg_of X G z_gcd
    isqrt := PySem.W.mg_of X G z_isqrt
    lcm := PySem.W.mg_of X G z_lcm
    c_ZERO := cc_ZERO, g_ZERO := PySem.W.mg_of X G z_ZERO, k_ZERO := ⟨_, _, _, kk_ZERO, rfl, rfl, by show 2 ≤ sizeLine; decide, .cons ⟨_, rfl⟩ (.cons ⟨_, rfl⟩ .nil)⟩
    c_BadValue := C, c_OddsError := O, f_init := fI, fd_init := _
    B := { gC := PySem.W.mg_of X G xC, gO := PySem.W.mg_of X G xO, iC := x1, tI := x2, FI := FI, bI := bI, O := ⟨⟨nm, q, N, bs, _, sn, sub, ab, col, dd, m0, m1, m2, m3, m5, xL, by rfl⟩, x6, x7, x8, x9⟩, X := ⟨y1, y2, x7, y3⟩, no := y4, I := ⟨y1, y2, x7, y5, y6, y7, y8, y9⟩, te := PySem.W.exm_ref x7 y3 x8 w1, kO := kit_own w4 w5 w2, kV := kit_VE w3 } }
  refine ⟨PySem.W.fnOf "law" "law" (defArgs s_law) (defBody s_law) (defScope s_law) .none kV26 dc26 pm26 an26 cd26 ct26, fun s v => .of_eq rfl, fun base _ _ => ?_⟩
  exact ok_law T
theorem walk {l : PySem.W.OpenLaw} {q : Program} {loose : List Str} {XP : (Str → Option Value) → Heap → Prop} {YP : World → Heap → Prop} {d : DefRec} {K : Params → PySem.W.Frag} (hn : l.most = some 63) (hdf : d.params.defaults = [])
    (hY : ∀ (w : World) (h : Heap), YP w h → (K w.params).In h)
    (F : ∀ (w : World) (mg : Str → Option Value) (fa : Addr) (h : Heap), (K w.params).In h → h.Ns mainGlobals mg → mg d.name = some (.ref fa) →
      ∃ fd : FuncData, (∀ (s : Shared) (u : Value), BindsTo s fd ⟨[u], []⟩ [("script", u)]) ∧ ∀ base : Heap, (K w.params).In base → base.Ns mainGlobals mg → FnOk l.prog w (K w.params) mg base CX0 8 fa fd ["script"] (spLaw (K w.params))) :
    PySem.W.WalkO q loose XP YP l.row.toRowW d [] (fun f vs => PySem.call f vs) :=
  L2.walk_of (n := 63) (k := 8) (x := "script") (CX := fun _ => CX0) (sp := fun w => spLaw (K w.params)) hn (by decide) hdf ⟨rfl, by decide, by decide⟩ hY F (fun _ _ a ns hl _ hS => ⟨a, ns, rfl, hS, hl, fun _ => rfl⟩) fun _ _ _ _ _ z => z
end Odds
open PySem PySem.W PyProof.Rows
set_option maxRecDepth 100000 in
set_option maxHeartbeats 0 in
theorem PySem.Challenge.cw_oddscall_k09_numbers_of_elements_holds : PySem.Challenge.rw_oddscall_k09_numbers_of_elements.Holds := by
  w_on; o_law; k_head; (case hw => w_witness2)
  k_fill
  refine Odds.walk (l := PySem.Challenge.rw_oddscall_k09_numbers_of_elements) rfl rfl (fun w h Y => PySem.W.kIn_of Y) ?F
  case F =>
    intro w mg fa h KX G hmg
    refine' Odds.all_mk KX G hmg ?a0 ?l0 ?c0 ?k0 ?a1 ?l1 ?c1 ?k1 ?a2 ?l2 ?c2 ?k2 ?a3 ?l3 ?c3 ?k3 ?a4 ?l4 ?c4 ?k4 ?a5 ?l5 ?c5 ?k5 ?a6 ?l6 ?c6 ?k6 ?a7 ?l7 ?c7 ?k7 ?a8 ?l8 ?c8 ?k8 ?a9 ?l9 ?c9 ?k9 ?a10 ?l10 ?c10 ?k10 ?a11 ?l11 ?c11 ?k11 ?a12 ?l12 ?c12 ?k12 ?a13 ?l13 ?c13 ?k13 ?a14 ?l14 ?c14 ?k14 ?a15 ?l15 ?c15 ?k15 ?a16 ?l16 ?c16 ?k16 ?a17 ?l17 ?c17 ?k17 ?a18 ?l18 ?c18 ?k18 ?a19 ?l19 ?c19 ?k19 ?a20 ?l20 ?c20 ?k20 ?a21 ?l21 ?c21 ?k21 ?a22 ?l22 ?c22 ?k22 ?a23 ?l23 ?c23 ?k23 ?a24 ?l24 ?c24 ?k24 ?a25 ?l25 ?c25 ?k25 ?a26 ?l26 ?c26 ?k26 ?z_abs ?z_all ?z_bool ?z_int ?z_isinstance ?z_len ?z_list ?z_range ?z_str ?z_tuple ?z_gcd ?z_isqrt ?z_lcm ?z_ZERO ?kk_ZERO ?xC ?xO ?xL ?x1 ?x2 ?x3 ?x4 ?x5 ?x6 ?x7 ?x8 ?x9 ?y1 ?y2 ?y3 ?y4 ?y5 ?y6 ?y7 ?y8 ?y9 ?w1 ?w2 ?w3 ?w4 ?w5
    (case a0 => k_is)
    (case l0 => k_is)
    (case c0 => k_is)
    (case k0 => k_is)
    (case a1 => k_is)
    (case l1 => k_is)
    (case c1 => k_is)
    (case k1 => k_is)
    (case a2 => k_is)
    (case l2 => k_is)
    (case c2 => k_is)
    (case k2 => k_is)
    (case a3 => k_is)
    (case l3 => k_is)
    (case c3 => k_is)
    (case k3 => k_is)
    (case a4 => k_is)
    (case l4 => k_is)
    (case c4 => k_is)
    (case k4 => k_is)
    (case a5 => k_is)
    (case l5 => k_is)
    (case c5 => k_is)
    (case k5 => k_is)
    (case a6 => k_is)
    (case l6 => k_is)
    (case c6 => k_is)
    (case k6 => k_is)
    (case a7 => k_is)
    (case l7 => k_is)
    (case c7 => k_is)
    (case k7 => k_is)
    (case a8 => k_is)
    (case l8 => k_is)
    (case c8 => k_is)
    (case k8 => k_is)
    (case a9 => k_is)
    (case l9 => k_is)
    (case c9 => k_is)
    (case k9 => k_is)
    (case a10 => k_is)
    (case l10 => k_is)
    (case c10 => k_is)
    (case k10 => k_is)
    (case a11 => k_is)
    (case l11 => k_is)
    (case c11 => k_is)
    (case k11 => k_is)
    (case a12 => k_is)
    (case l12 => k_is)
    (case c12 => k_is)
    (case k12 => k_is)
    (case a13 => k_is)
    (case l13 => k_is)
    (case c13 => k_is)
    (case k13 => k_is)
    (case a14 => k_is)
    (case l14 => k_is)
    (case c14 => k_is)
    (case k14 => k_is)
    (case a15 => k_is)
    (case l15 => k_is)
    (case c15 => k_is)
    (case k15 => k_is)
    (case a16 => k_is)
    (case l16 => k_is)
    (case c16 => k_is)
    (case k16 => k_is)
    (case a17 => k_is)
    (case l17 => k_is)
    (case c17 => k_is)
    (case k17 => k_is)
    (case a18 => k_is)
    (case l18 => k_is)
    (case c18 => k_is)
    (case k18 => k_is)
    (case a19 => k_is)
    (case l19 => k_is)
    (case c19 => k_is)
    (case k19 => k_is)
    (case a20 => k_is)
    (case l20 => k_is)
    (case c20 => k_is)
    (case k20 => k_is)
    (case a21 => k_is)
    (case l21 => k_is)
    (case c21 => k_is)
    (case k21 => k_is)
    (case a22 => k_is)
    (case l22 => k_is)
    (case c22 => k_is)
    (case k22 => k_is)
    (case a23 => k_is)
    (case l23 => k_is)
    (case c23 => k_is)
    (case k23 => k_is)
    (case a24 => k_is)
    (case l24 => k_is)
    (case c24 => k_is)
    (case k24 => k_is)
    (case a25 => k_is)
    (case l25 => k_is)
    (case c25 => k_is)
    (case k25 => k_is)
    (case a26 => k_is)
    (case l26 => k_is)
    (case c26 => k_is)
    (case k26 => k_is)
    (case z_abs => k_is)
    (case z_all => k_is)
    (case z_bool => k_is)
    (case z_int => k_is)
    (case z_isinstance => k_is)
    (case z_len => k_is)
    (case z_list => k_is)
    (case z_range => k_is)
    (case z_str => k_is)
    (case z_tuple => k_is)
    (case z_gcd => k_is)
    (case z_isqrt => k_is)
    (case z_lcm => k_is)
    (case z_ZERO => k_is)
    (case kk_ZERO => k_is)
    (case xC => k_is)
    (case xO => k_is)
    (case xL => k_is)
    (case x1 => k_is)
    (case x2 => k_is)
    (case x3 => k_is)
    (case x4 => k_is)
    (case x5 => k_is)
    (case x6 => k_is)
    (case x7 => k_is)
    (case x8 => k_is)
    (case x9 => k_is)
    (case y1 => k_is)
    (case y2 => k_is)
    (case y3 => k_is)
    (case y4 => k_is)
    (case y5 => k_is)
    (case y6 => k_is)
    (case y7 => k_is)
    (case y8 => k_is)
    (case y9 => k_is)
    (case w1 => first | rfl | k_is)
    (case w2 => k_is)
    (case w3 => k_is)
    (case w4 => k_is)
    (case w5 => k_is)
