import PyProof.Rows.All
import Wide.All
import OpenK.AllK
import Wide.FinOn
import HandS.ForExc
import HandS.IsInst
import HandS.Gcd
import HandS.Wide
import HandS.Style
import HandS.ExcInit
import HandS.ExcField
import HandS.ExcIs
import HandS.TupAny
import KE.KExcIs
import HandS.Codes
import HandS.Comp
import KE.KMathG
import Flt.RightSqrt
import PySem.Challenge.RW_oddscall_k07_roots_within_a_field
set_option Elab.async false
set_option linter.all false
set_option maxRecDepth 100000
set_option maxHeartbeats 4000000
/-! ## Odds: what all proofs of this program share -/
namespace Odds
open PySem L2

/-! ### floor division by any wide divisor but 0 -/
def CDivZ (_ j : Int) : Prop := j ≠ 0 ∧ j.natAbs.log2 < 9000
theorem op_fdivZ {X : Cx} : OpR X (binaryOp .FloorDiv) (rI CDivZ fun i j => .int (i.fdiv j)) := opI fun i j _ _ _ _ _ hc q =>
  PyProof.Rows.floordiv_int hc.1 q (.inl (PyProof.noPylong_of_log2 hc.2))
theorem cdivz {i j : Int} {b : Nat} (h : j ≠ 0) (hb : j.natAbs < 2 ^ b) (h9 : b ≤ 9000) : CDivZ i j := by
  refine ⟨h, ?_⟩
  have h1 : j.natAbs ≠ 0 := by omega
  have := (Nat.log2_lt h1).mpr (Nat.lt_of_lt_of_le hb (Nat.pow_le_pow_right (by decide) h9))
  exact this
theorem cmulw {i j : Int} {a b : Nat} (ha : i.natAbs < 2 ^ a) (hb : j.natAbs < 2 ^ b) (h : a + b ≤ 900000) : CMulW i j := by
  have e : ∀ (x : Int) (n : Nat), x.natAbs < 2 ^ n → x.natAbs.log2 < n + 1 := fun x n hx => by
    by_cases h0 : x.natAbs = 0
    · rw [h0]; exact Nat.lt_of_lt_of_le (by decide) (Nat.succ_le_succ (Nat.zero_le n))
    · exact Nat.lt_succ_of_lt ((Nat.log2_lt h0).mpr hx)
  have h1 := e i a ha
  have h2 := e j b hb
  unfold CMulW
  omega

/-! ### heaps -/
/-- all but s is as it was -/
def Keep (s : Addr) (H H' : Hp) : Prop := ∀ b o, H b = some o → b ≠ s → H' b = some o
theorem Keep.refl (s : Addr) (H : Hp) : Keep s H H := fun _ _ h _ => h
theorem Keep.trans {s : Addr} {H H1 H2 : Hp} (a : Keep s H H1) (b : Keep s H1 H2) : Keep s H H2 := fun c o h n => b c o (a c o h n) n
theorem Same.keep {s : Addr} {H H' : Hp} (a : Same H H') : Keep s H H' := fun b o h _ => a b o h
theorem same_new {H : Hp} {p : Addr} {o : HO} (h : H p = none) : Same H (upd H p o) := fun b u e => by
  rw [upd_ne (ne_of_none e h)]
  exact e
theorem Same.t {H H' : Hp} {a : Addr} {o : HO} (e : Same H H') (h : H a = some o) : H' a = some o := e a o h

/-! ### the stream of draws -/
/-- a list of a list of ints, an int, an int from 0 -/
def Strm (H : Hp) (s : Addr) : Prop := ∃ (l : Addr) (ns : List Int) (c k : Int), H s = some (.lst [.ref l, .int c, .int k]) ∧ H l = some (.lst (ns.map V.int)) ∧ 0 ≤ k
theorem Strm.same {H H' : Hp} {s : Addr} (e : Same H H') (h : Strm H s) : Strm H' s := by
  obtain ⟨l, ns, c, k, h1, h2, h3⟩ := h
  exact ⟨l, ns, c, k, e _ _ h1, e _ _ h2, h3⟩
theorem lst_ne {l : Addr} {c k : Int} {ns : List Int} : HO.lst [.ref l, .int c, .int k] ≠ HO.lst (ns.map V.int) := by
  intro e
  have e' : [V.ref l, V.int c, V.int k] = ns.map V.int := by injection e
  cases ns with
  | nil => simp at e'
  | cons n r => simp at e'
/-- a draw: the stream goes on, all else stands -/
def spNext : Sp := fun vs H Q _ => ∃ (s : Addr) (m : Int), vs = [.ref s, .int m] ∧ Strm H s ∧ 0 < m ∧ m.natAbs < 2 ^ 9000 ∧
  ∀ (d : Int) (H' : Hp), 0 ≤ d → d < m → Strm H' s → Keep s H H' → Q (.int d) H'
def spStream (K : PySem.W.Frag) : Sp := fun vs H Q _ => ∃ (a : Addr) (ns : List Int), vs = [.ref a] ∧ SqL K H a (ns.map V.int) ∧
  ∀ (s : Addr) (H' : Hp), Strm H' s → Same H H' → H s = none → Q (.ref s) H'

/-! ### isinstance of the exception that a suite holds, one with its own dict -/
structure ExcD (K : PySem.W.Frag) (D : Addr) : Prop where
  hg : PySem.W.findIn K (.ref D) "__getattribute__" = some (some (.builtin "BaseException.__getattribute__"))
  hk : PySem.W.findIn K (.ref D) "__getattr__" = some none
  hs : PySem.W.subIn K (.ref D) (.type "BaseException") = some true
  hd : PySem.W.isClsIn K D = true
  ha : PySem.W.findIn K (.ref D) "__class__" = some (some (.builtin "object.__class__"))
  hn : PySem.W.specialIn K (.builtin "object.__class__") "__get__" = some (some (.builtin "getset_descriptor.__get__"))
  ht : PySem.W.takesIn K (.builtin "object.__class__") = some true
  hm : PySem.W.mroIn K D (.type "object") = some true
def rIsX (K : PySem.W.Frag) (D a : Addr) (cls : Value) (d : Option Addr) : List V → Hp → VK → Prop := fun xs H Q => ∃ (dd : Addr) (fs : List (Str × V)) (c : V) (cv : Value) (b : Bool), cls = .ref D ∧ d = some dd ∧ H dd = some (.xd fs) ∧
  xs = [.ref a, c] ∧ (∀ u, RelV c u → u = cv) ∧ PySem.W.kitOne K (.ref D) cv = some b ∧ Q (.bl b) H
theorem call_isX {X : Cx} {a D : Addr} {d : Option Addr} {cls : Value} {oe : Obj} {pn : List (Addr × Obj)} (C : ExcD X.K D) (hz : Zc cls d oe) (hf : ∃ vs, oe.data = .fields vs) :
    CallR (X.suite a ((a, oe) :: pn)) (.builtin "isinstance") (rIsX X.K D a cls d) := by
  intro pins s σ H xs us Q I r h
  obtain ⟨dd, fs, c, cv, b, rfl, rfl, ea, rfl, hcv, e, q⟩ := h
  cases r with
  | cons rx rr =>
    cases rr with
    | cons rt rr =>
      cases rr
      cases rx
      have ec := hcv _ rt
      subst ec
      obtain ⟨hget, _⟩ := I.pin (a, oe) (List.mem_append.mpr (.inl List.mem_cons_self))
      obtain ⟨vs, hv⟩ := hf
      have hx : ObjOk X.prog X.w H s.heap dd (.xd fs) := I.hok dd _ ea
      obtain ⟨mA, hns, hr⟩ := hx
      obtain ⟨od, ho, hl⟩ := lookIn_ns hns
      have J : PySem.W.InstAt s.heap a oe D (some od) := ⟨hget, hz.1, by unfold PySem.W.notCls; rw [hv] <;> rfl, by rw [hz.2]; exact ho⟩
      exact PySem.W.kia_one (PySem.W.kitx_exc C.hd C.hg C.hk C.hs C.ha C.hn C.ht C.hm) I.kIn J e (fun z => nomatch z) fun tk => ⟨.bl b, H, I.kept (t' := tk) fun _ _ z => z, rfl, q⟩
theorem boot_VE : bootBuiltins "ValueError" = some (.type "ValueError") := by decide +kernel

/-! ### a def of the text, an error class -/
structure Dn (K : PySem.W.Frag) (mg : Str → Option Value) (x : Str) (st : Stmt) (ps : List Str) (f : Addr) (fd : FuncData) : Prop where
  F : Fun K x x st f fd
  g : mg x = some (.ref f)
  b : Binds K fd ps []
structure BadT (K : PySem.W.Frag) (mg : Str → Option Value) (C Od fI : Addr) (fdI : FuncData) (st : Stmt) : Prop where
  gC : mg "BadValue" = some (.ref C)
  gO : mg "OddsError" = some (.ref Od)
  iC : PySem.W.findIn K (.ref C) "__init__" = some (some (.ref fI))
  tI : PySem.W.typeIn K (.ref fI) = some (.type "function")
  FI : Fun K "__init__" "BadValue.__init__" st fI fdI
  bI : Binds K fdI ["self", "name"] []
  O : OexC K C
  X : XfC K C
  no : PySem.W.findIn K (.ref C) "name" = some none
  I : ExcD K C
  te : PySem.W.exmOne K (.ref C) (.ref C) = some true
  kO : PySem.W.kitOne K (.ref C) (.ref Od) = some true
  kV : PySem.W.kitOne K (.ref C) (.type "ValueError") = some true
theorem kit_own {K : PySem.W.Frag} {C O : Addr} (h1 : PySem.W.isClsIn K O = true) (h2 : PySem.W.typeIn K (.ref O) = some (.type "type")) (h3 : PySem.W.subIn K (.ref C) (.ref O) = some true) : PySem.W.kitOne K (.ref C) (.ref O) = some true := by
  unfold PySem.W.kitOne
  split
  · rfl
  · have e2 : ((PySem.W.clsIn K O).isSome && PySem.W.typeIn K (.ref O) == some (.type "type")) = true := by
      have h1' : (PySem.W.clsIn K O).isSome = true := h1
      rw [h1', h2] <;> rfl
    show (if ((PySem.W.clsIn K O).isSome && PySem.W.typeIn K (.ref O) == some (.type "type")) = true then PySem.W.subIn K (.ref C) (.ref O) else none) = some true
    rw [if_pos e2]
    exact h3
theorem kit_VE {K : PySem.W.Frag} {C : Addr} (h3 : PySem.W.subIn K (.ref C) (.type "ValueError") = some true) : PySem.W.kitOne K (.ref C) (.type "ValueError") = some true := by
  unfold PySem.W.kitOne
  split
  · rfl
  · show (if PySem.W.kitMeta "ValueError" = true then PySem.W.subIn K (.ref C) (.type "ValueError") else none) = some true
    rw [if_pos (by decide +kernel)]
    exact h3
/-- BadValue.__init__ -/
def spInit (C : Addr) : Sp := fun vs H Q _ => ∃ (a : Addr) (z : V), vs = [.ref a, z] ∧ H a = some (exo a C none) ∧
  ∀ dx, H dx = none → dx ≠ a → Q .non (upd (upd H dx (exd dx [(("name" : Str), z)])) a (exo a C (some dx)))
/-- what is left behind raise BadValue(z) -/
theorem made_eq {H : Hp} {a dx : Addr} {o1 o2 o3 o4 : HO} (ha : H a = none) (hd : dx ≠ a) : upd (del (upd (upd (upd H a o1) dx o2) a o3) a) dx o4 = upd H dx o4 := by
  funext b
  unfold upd del
  by_cases h1 : b = dx
  · rw [if_pos h1, if_pos h1]
  · rw [if_neg h1, if_neg h1]
    by_cases h2 : b = a
    · rw [if_pos h2, h2, ha]
    · rw [if_neg h2]
      show (if b = a then some o3 else if b = dx then some o2 else if b = a then some o1 else H b) = H b
      rw [if_neg h2, if_neg h1, if_neg h2]

/-! ### tests whose answer is known -/
theorem iteN1 {c A B : Prop} [Decidable c] (hc : ¬ c) (h : A) : if (!decide c) = true then A else B := by
  rw [decide_eq_false hc]
  exact iteT h
theorem iteD1 {c A B : Prop} [Decidable c] (hc : c) (h : A) : if decide c = true then A else B := by
  rw [decide_eq_true hc]
  exact iteT h
theorem iteD0 {c A B : Prop} [Decidable c] (hc : ¬ c) (h : B) : if decide c = true then A else B := by
  rw [decide_eq_false hc]
  exact iteF h
theorem iteD {c A B : Prop} [Decidable c] (h1 : c → A) (h2 : ¬ c → B) : if decide c = true then A else B := by
  by_cases h : c
  · exact iteD1 h (h1 h)
  · exact iteD0 h (h2 h)
theorem lc_yes {te : TE} {σ : L2.St} {H : Hp} {K1 : V → Hp → Prop} {K2 : Hp → Prop} (h : te σ H K1) : tYes σ H (fun b H3 => if b = true then te σ H3 K1 else K2 H3) := by
  show (if true = true then te σ H K1 else K2 H)
  rw [if_pos rfl]
  exact h
theorem abs_eq (i : Int) : (if i < 0 then -i else i) = ((i.natAbs : Nat) : Int) := by
  split <;> omega

/-- a tuple that the text has written -/
def WT (K : PySem.W.Frag) (c : Addr) (xs : List V) : Prop := ∃ (o : Obj) (its : Array Value) (n : Nat), K.lookup c = some o ∧ o.cls = .type "tuple" ∧ o.data = .seq its n ∧ its.size ≤ sizeLine ∧ Vals xs its.toList
theorem WT.sq {K : PySem.W.Frag} {H : Hp} {c : Addr} {xs : List V} (h : WT K c xs) : SqT K H c xs := Or.inr h
/-- a pair of ints as data -/
theorem dp_pair {K : PySem.W.Frag} {H : Hp} {c : Addr} {n d : Int} (h : SqT K H c [.int n, .int d]) : Dp K H (.ref c) (.tuple [.int n, .int d]) := .tup h (.cons (.int n) (.cons (.int d) .nil))
theorem eqv_ints (n d m e : Int) : PyData.eqv (.tuple [.int n, .int d]) (.tuple [.int m, .int e]) = decide (n = m ∧ d = e) := by
  simp only [PyData.eqv, PyData.eqvAll, Bool.and_true]
  by_cases h1 : n = m <;> by_cases h2 : d = e <;> simp [h1, h2]
/-- math.isqrt -/
def rIsqrt : List V → Hp → VK → Prop := fun vs H Q => ∃ n : Int, vs = [.int n] ∧ 0 ≤ n ∧ n.natAbs < 2 ^ 13000 ∧ ∀ r : Int, 0 ≤ r → r * r ≤ n → n < (r + 1) * (r + 1) → Q (.int r) H
theorem cr_isqrt {X : Cx} : CallR X (.builtin "math.isqrt") rIsqrt := by
  intro pins s σ H vs us Q I r h
  obtain ⟨n, rfl, h0, hb, q⟩ := h
  cases r with
  | cons r1 rn =>
    cases rn
    obtain ⟨t, rfl⟩ := r1
    have e : n.toNat = n.natAbs := by omega
    have hl : n.toNat.log2 < 13000 := by
      rw [e]
      by_cases z : n.natAbs = 0
      · rw [z]; decide
      · exact (Nat.log2_lt z).mpr hb
    have sp := PySem.Float64.isqrt_spec n.toNat
    refine PySem.call_function_meets PySem.W.MGF.kind_isqrt PySem.W.MGF.plain_isqrt PySem.W.MGF.entry_isqrt (PySem.W.MGF.args_isqrt _) (PySem.W.mg_run_isqrt n t (by omega) (by omega) (by omega)).meets ?_
    refine ⟨.int _, H, I.tok _, ⟨_, rfl⟩, q _ (by omega) ?_ ?_⟩
    · have := sp.1
      rw [← Int.natCast_mul]
      omega
    · have h2 := sp.2
      have e2 : (((PySem.Float64.isqrt n.toNat : Nat) : Int) + 1) * (((PySem.Float64.isqrt n.toNat : Nat) : Int) + 1) = (((PySem.Float64.isqrt n.toNat + 1) * (PySem.Float64.isqrt n.toNat + 1) : Nat) : Int) := by
        rw [Int.natCast_mul]
        rfl
      rw [e2]
      omega

/-! ### the kinds of values -/
def tys : List String := ["int", "bool", "NoneType", "str", "tuple", "list"]
/-- is_whole -/
def spWhole (K : PySem.W.Frag) : Sp := fun vs H Q _ => ∃ (x : V) (t : String), vs = [x] ∧ TyX K H x (.type t) ∧ t ∈ tys ∧ Q (.bl (decide (t = "int"))) H
theorem ty_int {K : PySem.W.Frag} {H : Hp} (i : Int) : TyX K H (.int i) (.type "int") := .base (.int i)
theorem ty_bl {K : PySem.W.Frag} {H : Hp} (b : Bool) : TyX K H (.bl b) (.type "bool") := .base (.bl b)
theorem ty_non {K : PySem.W.Frag} {H : Hp} : TyX K H .non (.type "NoneType") := .base .non
theorem ty_str {K : PySem.W.Frag} {H : Hp} (x : Str) : TyX K H (.str x) (.type "str") := .base (.str x)
theorem ty_tup {K : PySem.W.Frag} {H : Hp} {a : Addr} {xs : List V} (h : H a = some (.tup xs)) : TyX K H (.ref a) (.type "tuple") := .base (.tup h)
theorem ty_lst {K : PySem.W.Frag} {H : Hp} {a : Addr} {xs : List V} (h : H a = some (.lst xs)) : TyX K H (.ref a) (.type "list") := .base (.lst h)

/-! ### Euclid -/
def GcdI (B g i a b : Nat) : Prop := Nat.gcd a b = g ∧ ((i = 0 ∧ a < 2 ^ B ∧ b < 2 ^ B) ∨ (0 < i ∧ (b = 0 ∨ (b < a ∧ a * b * 2 ^ (i - 1) < 2 ^ (B + B)))))
theorem gcdI_step {B g i a b : Nat} (h : GcdI B g i a b) (hb : b ≠ 0) : GcdI B g (i + 1) b (a % b) := by
  obtain ⟨hg, h⟩ := h
  refine ⟨by rw [← hg, Nat.gcd_comm b (a % b), ← Nat.gcd_rec, Nat.gcd_comm], .inr ⟨Nat.succ_pos _, ?_⟩⟩
  have hlt : a % b < b := Nat.mod_lt _ (Nat.pos_of_ne_zero hb)
  refine .inr ⟨hlt, ?_⟩
  rcases h with ⟨rfl, ha, hb2⟩ | ⟨hi, h0 | ⟨hba, hp⟩⟩
  · show b * (a % b) * 2 ^ 0 < 2 ^ (B + B)
    rw [Nat.pow_zero, Nat.mul_one, Nat.pow_add]
    exact Nat.mul_lt_mul'' hb2 (Nat.lt_trans hlt hb2)
  · exact absurd h0 hb
  · have e : i + 1 - 1 = (i - 1) + 1 := by omega
    rw [e, Nat.pow_succ]
    have h2 : 2 * (a % b) ≤ a := by
      have h3 := Nat.mod_add_div a b
      have h4 : 1 ≤ a / b := (Nat.one_le_div_iff (Nat.pos_of_ne_zero hb)).mpr (Nat.le_of_lt hba)
      have h5 : b * 1 ≤ b * (a / b) := Nat.mul_le_mul_left b h4
      omega
    calc b * (a % b) * (2 ^ (i - 1) * 2) = (2 * (a % b)) * b * 2 ^ (i - 1) := by
            rw [Nat.mul_comm (2 ^ (i - 1)) 2, ← Nat.mul_assoc, Nat.mul_comm b (a % b), Nat.mul_comm (a % b * b) 2, ← Nat.mul_assoc]
      _ ≤ a * b * 2 ^ (i - 1) := Nat.mul_le_mul_right _ (Nat.mul_le_mul_right _ h2)
      _ < 2 ^ (B + B) := hp
theorem gcdI_end {B g a b : Nat} (h : GcdI B g 40000 a b) (hB : B ≤ 19000) : a = g := by
  obtain ⟨hg, h⟩ := h
  rcases h with ⟨h, _⟩ | ⟨_, h0 | ⟨hba, hp⟩⟩
  · cases h
  · rw [h0, Nat.gcd_zero_right] at hg
    exact hg
  · by_cases hb : b = 0
    · rw [hb, Nat.gcd_zero_right] at hg
      exact hg
    · exfalso
      have h1 : 1 ≤ a * b := Nat.mul_pos (by omega) (Nat.pos_of_ne_zero hb)
      have h2 : 2 ^ (40000 - 1) < 2 ^ (B + B) := Nat.lt_of_le_of_lt (Nat.le_trans (Nat.le_of_eq (Nat.one_mul _).symm) (Nat.mul_le_mul_right _ h1)) hp
      have h3 := (Nat.pow_lt_pow_iff_right (by decide : 1 < 2)).mp h2
      omega

/-! ### lowest terms -/
def sg (n d : Int) : Int := if d < 0 then -((Nat.gcd n.natAbs d.natAbs : Nat) : Int) else ((Nat.gcd n.natAbs d.natAbs : Nat) : Int)
def lo1 (n d : Int) : Int := n.fdiv (sg n d)
def lo2 (n d : Int) : Int := d.fdiv (sg n d)
theorem sg_abs (n d : Int) : (sg n d).natAbs = Nat.gcd n.natAbs d.natAbs := by
  unfold sg
  split <;> omega
theorem sg_ne {n d : Int} (h : d ≠ 0) : sg n d ≠ 0 := by
  intro e
  have := sg_abs n d
  rw [e] at this
  have h2 := Nat.gcd_pos_of_pos_right n.natAbs (show 0 < d.natAbs by omega)
  simp at this
  omega
theorem sg_dvd1 (n d : Int) : sg n d ∣ n := by
  rw [← Int.natAbs_dvd_natAbs, sg_abs]
  exact Nat.gcd_dvd_left _ _
theorem sg_dvd2 (n d : Int) : sg n d ∣ d := by
  rw [← Int.natAbs_dvd_natAbs, sg_abs]
  exact Nat.gcd_dvd_right _ _
theorem fdiv_cancel {a b : Int} (h : b ∣ a) : b * a.fdiv b = a := Int.mul_fdiv_cancel' h
theorem lo1_mul (n d : Int) : sg n d * lo1 n d = n := fdiv_cancel (sg_dvd1 n d)
theorem lo2_mul (n d : Int) : sg n d * lo2 n d = d := fdiv_cancel (sg_dvd2 n d)
theorem sg_size {n d : Int} {b : Nat} (h : d ≠ 0) (hb : d.natAbs < 2 ^ b) : (sg n d).natAbs < 2 ^ b := by
  rw [sg_abs]
  exact Nat.lt_of_le_of_lt (Nat.gcd_le_right _ (by omega)) hb
theorem lo2_pos {n d : Int} (h : d ≠ 0) : 1 ≤ lo2 n d := by
  have e := lo2_mul n d
  have hs := sg_ne (n := n) h
  have hp : 0 < sg n d * sg n d := by
    rcases Int.lt_or_gt_of_ne hs with h1 | h1
    · exact Int.mul_pos_of_neg_of_neg h1 h1
    · exact Int.mul_pos h1 h1
  have hsd : 0 < sg n d * d := by
    unfold sg
    have hg : 0 < Nat.gcd n.natAbs d.natAbs := Nat.gcd_pos_of_pos_right _ (by omega)
    split
    · exact Int.mul_pos_of_neg_of_neg (by omega) (by omega)
    · exact Int.mul_pos (by omega) (by omega)
  rcases (show lo2 n d < 1 ∨ 1 ≤ lo2 n d by omega) with hl | hl
  · exfalso
    have h2 : lo2 n d ≤ 0 := by omega
    have h3 : sg n d * (sg n d * lo2 n d) ≤ 0 := by
      rw [← Int.mul_assoc]
      exact Int.mul_nonpos_of_nonneg_of_nonpos (Int.le_of_lt hp) h2
    rw [e] at h3
    omega
  · exact hl
theorem lo_gcd {n d : Int} (h : d ≠ 0) : Nat.gcd (lo1 n d).natAbs (lo2 n d).natAbs = 1 := by
  have e1 : (sg n d).natAbs * (lo1 n d).natAbs = n.natAbs := by rw [← Int.natAbs_mul, lo1_mul]
  have e2 : (sg n d).natAbs * (lo2 n d).natAbs = d.natAbs := by rw [← Int.natAbs_mul, lo2_mul]
  have hg : 0 < Nat.gcd n.natAbs d.natAbs := Nat.gcd_pos_of_pos_right _ (by omega)
  have h1 := Nat.gcd_mul_left (sg n d).natAbs (lo1 n d).natAbs (lo2 n d).natAbs
  rw [e1, e2, sg_abs] at h1
  exact Nat.eq_of_mul_eq_mul_left hg (by omega)
theorem lo_cross (n d : Int) (h : d ≠ 0) : lo1 n d * d = lo2 n d * n := by
  have e1 := lo1_mul n d
  have e2 := lo2_mul n d
  calc lo1 n d * d = lo1 n d * (sg n d * lo2 n d) := by rw [e2]
    _ = lo2 n d * (sg n d * lo1 n d) := by rw [Int.mul_comm (lo1 n d), Int.mul_assoc, Int.mul_comm (lo2 n d) (lo1 n d), ← Int.mul_assoc, Int.mul_comm (sg n d * lo1 n d)]
    _ = lo2 n d * n := by rw [e1]
theorem lo1_size {n d : Int} (h : d ≠ 0) : (lo1 n d).natAbs ≤ n.natAbs := by
  have e1 : (sg n d).natAbs * (lo1 n d).natAbs = n.natAbs := by rw [← Int.natAbs_mul, lo1_mul]
  have hs : 1 ≤ (sg n d).natAbs := by have := sg_ne (n := n) h; omega
  calc (lo1 n d).natAbs = 1 * (lo1 n d).natAbs := (Nat.one_mul _).symm
    _ ≤ (sg n d).natAbs * (lo1 n d).natAbs := Nat.mul_le_mul_right _ hs
    _ = n.natAbs := e1
theorem lo2_size {n d : Int} (h : d ≠ 0) : (lo2 n d).natAbs ≤ d.natAbs := by
  have e1 : (sg n d).natAbs * (lo2 n d).natAbs = d.natAbs := by rw [← Int.natAbs_mul, lo2_mul]
  have hs : 1 ≤ (sg n d).natAbs := by have := sg_ne (n := n) h; omega
  calc (lo2 n d).natAbs = 1 * (lo2 n d).natAbs := (Nat.one_mul _).symm
    _ ≤ (sg n d).natAbs * (lo2 n d).natAbs := Nat.mul_le_mul_right _ hs
    _ = d.natAbs := e1
/-- a pair in lowest terms is its own -/
theorem sg_one {n d : Int} (hd : 1 ≤ d) (hg : Nat.gcd n.natAbs d.natAbs = 1) : sg n d = 1 := by
  unfold sg
  rw [if_neg (by omega), hg]
  rfl
theorem up (a : Nat) {b x : Nat} (h : x < 2 ^ a) (hab : a ≤ b := by decide) : x < 2 ^ b := Nat.lt_of_lt_of_le h (Nat.pow_le_pow_right (by decide) hab)
theorem mul_up {i j : Int} (a b : Nat) {c : Nat} (ha : i.natAbs < 2 ^ a) (hb : j.natAbs < 2 ^ b) (hc : a + b ≤ c := by decide) : (i * j).natAbs < 2 ^ c := by
  rw [Int.natAbs_mul]
  exact up (a + b) (by rw [Nat.pow_add]; exact Nat.mul_lt_mul'' ha hb) hc
/-- a new pair of ints -/
def spPair (f : Int → Int → Int × Int) : Sp := fun vs H Q _ => ∃ n d : Int, vs = [.int n, .int d] ∧ d ≠ 0 ∧ n.natAbs < 2 ^ 9000 ∧ d.natAbs < 2 ^ 9000 ∧
  ∀ (p : Addr) (H' : Hp), Same H H' → H p = none → H' p = some (.tup [.int (f n d).1, .int (f n d).2]) → Q (.ref p) H'
end Odds

namespace Odds
open PySem L2
def topS (i : Nat) : Stmt := PySem.Challenge.pw_oddscall_k07_roots_within_a_field.main.body.getD i (.Pass ⟨0, 0, 0, 0⟩)
abbrev s_l_stream : Stmt := topS 24
theorem sc_l_stream : FnScope ["script"] ["script"] (defScope s_l_stream) := ⟨rfl, rfl, rfl, by decide +kernel, rfl, by decide +kernel, by decide +kernel⟩
abbrev s_l_next : Stmt := topS 25
theorem sc_l_next : FnScope ["stream", "many", "k", "cell", "digit"] ["stream", "many"] (defScope s_l_next) := ⟨rfl, rfl, rfl, by decide +kernel, rfl, by decide +kernel, by decide +kernel⟩
abbrev s_l_is_integer : Stmt := topS 26
theorem sc_l_is_integer : FnScope ["actual"] ["actual"] (defScope s_l_is_integer) := ⟨rfl, rfl, rfl, by decide +kernel, rfl, by decide +kernel, by decide +kernel⟩
abbrev s_l_gcd : Stmt := topS 27
theorem sc_l_gcd : FnScope ["a", "b", "k"] ["a", "b"] (defScope s_l_gcd) := ⟨rfl, rfl, rfl, by decide +kernel, rfl, by decide +kernel, by decide +kernel⟩
abbrev s_l_low : Stmt := topS 28
theorem sc_l_low : FnScope ["n", "d", "shared"] ["n", "d"] (defScope s_l_low) := ⟨rfl, rfl, rfl, by decide +kernel, rfl, by decide +kernel, by decide +kernel⟩
abbrev s_ratio : Stmt := topS 8
theorem sc_ratio : FnScope ["n", "d", "shared"] ["n", "d"] (defScope s_ratio) := ⟨rfl, rfl, rfl, by decide +kernel, rfl, by decide +kernel, by decide +kernel⟩
abbrev s_l_plus : Stmt := topS 29
theorem sc_l_plus : FnScope ["a", "b"] ["a", "b"] (defScope s_l_plus) := ⟨rfl, rfl, rfl, by decide +kernel, rfl, by decide +kernel, by decide +kernel⟩
abbrev s_l_times : Stmt := topS 30
theorem sc_l_times : FnScope ["a", "b"] ["a", "b"] (defScope s_l_times) := ⟨rfl, rfl, rfl, by decide +kernel, rfl, by decide +kernel, by decide +kernel⟩
abbrev s_l_ratio : Stmt := topS 32
theorem sc_l_ratio : FnScope ["stream", "top", "most", "n"] ["stream", "top", "most"] (defScope s_l_ratio) := ⟨rfl, rfl, rfl, by decide +kernel, rfl, by decide +kernel, by decide +kernel⟩
abbrev s_plus : Stmt := topS 9
theorem sc_plus : FnScope ["a", "b"] ["a", "b"] (defScope s_plus) := ⟨rfl, rfl, rfl, by decide +kernel, rfl, by decide +kernel, by decide +kernel⟩
abbrev s_minus : Stmt := topS 10
theorem sc_minus : FnScope ["a", "b"] ["a", "b"] (defScope s_minus) := ⟨rfl, rfl, rfl, by decide +kernel, rfl, by decide +kernel, by decide +kernel⟩
abbrev s_times : Stmt := topS 11
theorem sc_times : FnScope ["a", "b"] ["a", "b"] (defScope s_times) := ⟨rfl, rfl, rfl, by decide +kernel, rfl, by decide +kernel, by decide +kernel⟩
abbrev s_over : Stmt := topS 12
theorem sc_over : FnScope ["a", "b"] ["a", "b"] (defScope s_over) := ⟨rfl, rfl, rfl, by decide +kernel, rfl, by decide +kernel, by decide +kernel⟩
abbrev s_l_equal : Stmt := topS 33
theorem sc_l_equal : FnScope ["actual", "due", "at"] ["actual", "due"] (defScope s_l_equal) := ⟨rfl, rfl, rfl, by decide +kernel, rfl, by decide +kernel, by decide +kernel⟩
abbrev s_l_root : Stmt := topS 34
theorem sc_l_root : FnScope ["n", "low", "high", "k", "middle"] ["n"] (defScope s_l_root) := ⟨rfl, rfl, rfl, by decide +kernel, rfl, by decide +kernel, by decide +kernel⟩
abbrev s_l_is_square : Stmt := topS 35
theorem sc_l_is_square : FnScope ["n"] ["n"] (defScope s_l_is_square) := ⟨rfl, rfl, rfl, by decide +kernel, rfl, by decide +kernel, by decide +kernel⟩
abbrev s_l_field : Stmt := topS 36
theorem sc_l_field : FnScope ["stream", "pick", "field"] ["stream"] (defScope s_l_field) := ⟨rfl, rfl, rfl, by decide +kernel, rfl, by decide +kernel, by decide +kernel⟩
abbrev s_l_element : Stmt := topS 37
theorem sc_l_element : FnScope ["stream", "field", "top", "most", "x", "y"] ["stream", "field", "top", "most"] (defScope s_l_element) := ⟨rfl, rfl, rfl, by decide +kernel, rfl, by decide +kernel, by decide +kernel⟩
abbrev s_l_multiply : Stmt := topS 38
theorem sc_l_multiply : FnScope ["field", "a", "b", "first"] ["field", "a", "b"] (defScope s_l_multiply) := ⟨rfl, rfl, rfl, by decide +kernel, rfl, by decide +kernel, by decide +kernel⟩
abbrev s_rational_sign : Stmt := topS 14
theorem sc_rational_sign : FnScope ["a"] ["a"] (defScope s_rational_sign) := ⟨rfl, rfl, rfl, by decide +kernel, rfl, by decide +kernel, by decide +kernel⟩
abbrev s_norm : Stmt := topS 17
theorem sc_norm : FnScope ["field", "a"] ["field", "a"] (defScope s_norm) := ⟨rfl, rfl, rfl, by decide +kernel, rfl, by decide +kernel, by decide +kernel⟩
abbrev s_sign_of : Stmt := topS 18
theorem sc_sign_of : FnScope ["field", "a", "plain", "rooted"] ["field", "a"] (defScope s_sign_of) := ⟨rfl, rfl, rfl, by decide +kernel, rfl, by decide +kernel, by decide +kernel⟩
abbrev s_l_sign : Stmt := topS 39
theorem sc_l_sign : FnScope ["n"] ["n"] (defScope s_l_sign) := ⟨rfl, rfl, rfl, by decide +kernel, rfl, by decide +kernel, by decide +kernel⟩
abbrev s_l_sign_of : Stmt := topS 40
theorem sc_l_sign_of : FnScope ["field", "a", "n", "d", "m", "e", "left", "right"] ["field", "a"] (defScope s_l_sign_of) := ⟨rfl, rfl, rfl, by decide +kernel, rfl, by decide +kernel, by decide +kernel⟩
abbrev s_square_root : Stmt := topS 5
theorem sc_square_root : FnScope ["n", "root"] ["n"] (defScope s_square_root) := ⟨rfl, rfl, rfl, by decide +kernel, rfl, by decide +kernel, by decide +kernel⟩
abbrev s_opposite : Stmt := topS 13
theorem sc_opposite : FnScope ["a"] ["a"] (defScope s_opposite) := ⟨rfl, rfl, rfl, by decide +kernel, rfl, by decide +kernel, by decide +kernel⟩
abbrev s_rational_root : Stmt := topS 21
theorem sc_rational_root : FnScope ["r", "n", "d"] ["r"] (defScope s_rational_root) := ⟨rfl, rfl, rfl, by decide +kernel, rfl, by decide +kernel, by decide +kernel⟩
abbrev s_not_negative : Stmt := topS 22
theorem sc_not_negative : FnScope ["field", "a"] ["field", "a"] (defScope s_not_negative) := ⟨rfl, rfl, rfl, by decide +kernel, rfl, by decide +kernel, by decide +kernel⟩
abbrev s_root_of_rational : Stmt := topS 20
theorem sc_root_of_rational : FnScope ["field", "r", "root"] ["field", "r"] (defScope s_root_of_rational) := ⟨rfl, rfl, rfl, by decide +kernel, rfl, by decide +kernel, by decide +kernel⟩
abbrev s_root_of : Stmt := topS 19
theorem sc_root_of : FnScope ["field", "a", "middle", "doubled", "p"] ["field", "a"] (defScope s_root_of) := ⟨rfl, rfl, rfl, by decide +kernel, rfl, by decide +kernel, by decide +kernel⟩
abbrev s_l_is_rational_square : Stmt := topS 41
theorem sc_l_is_rational_square : FnScope ["a"] ["a"] (defScope s_l_is_rational_square) := ⟨rfl, rfl, rfl, by decide +kernel, rfl, by decide +kernel, by decide +kernel⟩
abbrev s_l_not_negative : Stmt := topS 43
theorem sc_l_not_negative : FnScope ["field", "a"] ["field", "a"] (defScope s_l_not_negative) := ⟨rfl, rfl, rfl, by decide +kernel, rfl, by decide +kernel, by decide +kernel⟩
abbrev s_l_has_root : Stmt := topS 42
theorem sc_l_has_root : FnScope ["field", "a", "x", "y", "norm_v", "size", "one"] ["field", "a"] (defScope s_l_has_root) := ⟨rfl, rfl, rfl, by decide +kernel, rfl, by decide +kernel, by decide +kernel⟩
abbrev s_law : Stmt := topS 44
theorem sc_law : FnScope ["script", "stream", "field", "a", "pick", "actual"] ["script"] (defScope s_law) := ⟨rfl, rfl, rfl, by decide +kernel, rfl, by decide +kernel, by decide +kernel⟩
abbrev s_init : Stmt := inClass (topS 3) 0
theorem sc_init : FnScope ["self", "name"] ["self", "name"] (defScope s_init) := ⟨rfl, rfl, rfl, by decide +kernel, rfl, by decide +kernel, by decide +kernel⟩
structure Txt (K : PySem.W.Frag) (mg : Str → Option Value) where
  f_l_stream : Addr
  fd_l_stream : FuncData
  D_l_stream : Dn K mg "_law_stream" s_l_stream ["script"] f_l_stream fd_l_stream
  f_l_next : Addr
  fd_l_next : FuncData
  D_l_next : Dn K mg "_law_next" s_l_next ["stream", "many"] f_l_next fd_l_next
  f_l_is_integer : Addr
  fd_l_is_integer : FuncData
  D_l_is_integer : Dn K mg "_law_is_integer" s_l_is_integer ["actual"] f_l_is_integer fd_l_is_integer
  f_l_gcd : Addr
  fd_l_gcd : FuncData
  D_l_gcd : Dn K mg "_law_gcd" s_l_gcd ["a", "b"] f_l_gcd fd_l_gcd
  f_l_low : Addr
  fd_l_low : FuncData
  D_l_low : Dn K mg "_law_low" s_l_low ["n", "d"] f_l_low fd_l_low
  f_ratio : Addr
  fd_ratio : FuncData
  D_ratio : Dn K mg "ratio" s_ratio ["n", "d"] f_ratio fd_ratio
  f_l_plus : Addr
  fd_l_plus : FuncData
  D_l_plus : Dn K mg "_law_plus" s_l_plus ["a", "b"] f_l_plus fd_l_plus
  f_l_times : Addr
  fd_l_times : FuncData
  D_l_times : Dn K mg "_law_times" s_l_times ["a", "b"] f_l_times fd_l_times
  f_l_ratio : Addr
  fd_l_ratio : FuncData
  D_l_ratio : Dn K mg "_law_ratio" s_l_ratio ["stream", "top", "most"] f_l_ratio fd_l_ratio
  f_plus : Addr
  fd_plus : FuncData
  D_plus : Dn K mg "plus" s_plus ["a", "b"] f_plus fd_plus
  f_minus : Addr
  fd_minus : FuncData
  D_minus : Dn K mg "minus" s_minus ["a", "b"] f_minus fd_minus
  f_times : Addr
  fd_times : FuncData
  D_times : Dn K mg "times" s_times ["a", "b"] f_times fd_times
  f_over : Addr
  fd_over : FuncData
  D_over : Dn K mg "over" s_over ["a", "b"] f_over fd_over
  f_l_equal : Addr
  fd_l_equal : FuncData
  D_l_equal : Dn K mg "_law_equal" s_l_equal ["actual", "due"] f_l_equal fd_l_equal
  f_l_root : Addr
  fd_l_root : FuncData
  D_l_root : Dn K mg "_law_root" s_l_root ["n"] f_l_root fd_l_root
  f_l_is_square : Addr
  fd_l_is_square : FuncData
  D_l_is_square : Dn K mg "_law_is_square" s_l_is_square ["n"] f_l_is_square fd_l_is_square
  f_l_field : Addr
  fd_l_field : FuncData
  D_l_field : Dn K mg "_law_field" s_l_field ["stream"] f_l_field fd_l_field
  f_l_element : Addr
  fd_l_element : FuncData
  D_l_element : Dn K mg "_law_element" s_l_element ["stream", "field", "top", "most"] f_l_element fd_l_element
  f_l_multiply : Addr
  fd_l_multiply : FuncData
  D_l_multiply : Dn K mg "_law_multiply" s_l_multiply ["field", "a", "b"] f_l_multiply fd_l_multiply
  f_rational_sign : Addr
  fd_rational_sign : FuncData
  D_rational_sign : Dn K mg "rational_sign" s_rational_sign ["a"] f_rational_sign fd_rational_sign
  f_norm : Addr
  fd_norm : FuncData
  D_norm : Dn K mg "norm" s_norm ["field", "a"] f_norm fd_norm
  f_sign_of : Addr
  fd_sign_of : FuncData
  D_sign_of : Dn K mg "sign_of" s_sign_of ["field", "a"] f_sign_of fd_sign_of
  f_l_sign : Addr
  fd_l_sign : FuncData
  D_l_sign : Dn K mg "_law_sign" s_l_sign ["n"] f_l_sign fd_l_sign
  f_l_sign_of : Addr
  fd_l_sign_of : FuncData
  D_l_sign_of : Dn K mg "_law_sign_of" s_l_sign_of ["field", "a"] f_l_sign_of fd_l_sign_of
  f_square_root : Addr
  fd_square_root : FuncData
  D_square_root : Dn K mg "square_root" s_square_root ["n"] f_square_root fd_square_root
  f_opposite : Addr
  fd_opposite : FuncData
  D_opposite : Dn K mg "opposite" s_opposite ["a"] f_opposite fd_opposite
  f_rational_root : Addr
  fd_rational_root : FuncData
  D_rational_root : Dn K mg "rational_root" s_rational_root ["r"] f_rational_root fd_rational_root
  f_not_negative : Addr
  fd_not_negative : FuncData
  D_not_negative : Dn K mg "not_negative" s_not_negative ["field", "a"] f_not_negative fd_not_negative
  f_root_of_rational : Addr
  fd_root_of_rational : FuncData
  D_root_of_rational : Dn K mg "root_of_rational" s_root_of_rational ["field", "r"] f_root_of_rational fd_root_of_rational
  f_root_of : Addr
  fd_root_of : FuncData
  D_root_of : Dn K mg "root_of" s_root_of ["field", "a"] f_root_of fd_root_of
  f_l_is_rational_square : Addr
  fd_l_is_rational_square : FuncData
  D_l_is_rational_square : Dn K mg "_law_is_rational_square" s_l_is_rational_square ["a"] f_l_is_rational_square fd_l_is_rational_square
  f_l_not_negative : Addr
  fd_l_not_negative : FuncData
  D_l_not_negative : Dn K mg "_law_not_negative" s_l_not_negative ["field", "a"] f_l_not_negative fd_l_not_negative
  f_l_has_root : Addr
  fd_l_has_root : FuncData
  D_l_has_root : Dn K mg "_law_has_root" s_l_has_root ["field", "a"] f_l_has_root fd_l_has_root
  f_law : Addr
  fd_law : FuncData
  D_law : Dn K mg "law" s_law ["script"] f_law fd_law
  abs : mg "abs" = none
  all : mg "all" = none
  bool : mg "bool" = none
  int : mg "int" = none
  isinstance : mg "isinstance" = none
  len : mg "len" = none
  list : mg "list" = none
  range : mg "range" = none
  str : mg "str" = none
  tuple : mg "tuple" = none
  gcd : mg "gcd" = some (.builtin "math.gcd")
  isqrt : mg "isqrt" = some (.builtin "math.isqrt")
  c_HALF : Addr
  g_HALF : mg "HALF" = some (.ref c_HALF)
  k_HALF : WT K c_HALF [.int 1, .int 2]
  c_ZERO : Addr
  g_ZERO : mg "ZERO" = some (.ref c_ZERO)
  k_ZERO : WT K c_ZERO [.int 0, .int 1]
  c_BadValue : Addr
  c_OddsError : Addr
  f_init : Addr
  fd_init : FuncData
  B : BadT K mg c_BadValue c_OddsError f_init fd_init s_init
section
variable {P : Program} {w : World} {K : PySem.W.Frag} {mg : Str → Option Value} {base : Heap}
/-! ### the draws -/
theorem ok_l_stream (T : Txt K mg) : FnOk P w K mg base CX0 1 T.f_l_stream T.fd_l_stream ["script"] (spStream K) := by
  refine T.D_l_stream.F.ok sc_l_stream (fun vs H Q E h => ?_) (fun cdv A outer s H vs Q E hr h => ?_)
  · obtain ⟨a, ns, rfl, _⟩ := h
    rfl
  · obtain ⟨a, ns, rfl, hS, k⟩ := h
    refine ⟨_, (pss_one (ps_ret (pe_lst (pa_cons (pe_callTy call_list_of (by rfl) T.list PyProof.Rows.boot_list (pa_cons (pv 0) pa_nil)) (pa_cons pe_int (pa_cons pe_int pa_nil)))))), ?_⟩
    refine ⟨_, rfl, a, _, rfl, .inl hS, fun l hl => ?_⟩
    refine ⟨(by show 3 ≤ sizeLine; decide), fun s hs => ?_⟩
    have e1 := same_new (o := .lst (ns.map V.int)) hl
    have e2 := same_new (o := .lst [.ref l, .int 0, .int 0]) hs
    exact k s _ ⟨l, ns, 0, 0, upd_same, e2 _ _ upd_same, Int.le_refl _⟩ (e1.trans e2) (e1.free hs)
theorem ok_l_next (T : Txt K mg) : FnOk P w K mg base CX0 1 T.f_l_next T.fd_l_next ["stream", "many"] spNext := by
  refine T.D_l_next.F.ok sc_l_next (fun vs H Q E h => ?_) (fun cdv A outer s H vs Q E hr h => ?_)
  · obtain ⟨s, m, rfl, _⟩ := h
    rfl
  · obtain ⟨s, m, rfl, ⟨l, ns, c, k, hs, hl, hk⟩, hm, hmb, kk⟩ := h
    have nsl : s ≠ l := ne_of hs hl lst_ne
    have tail : ∀ (H1 : Hp) (c1 k1 : Int) (v2 v3 : Option V), H1 s = some (.lst [.ref l, .int c1, .int k1]) → H1 l = some (.lst (ns.map V.int)) → 0 ≤ k1 → Keep s H H1 →
        (tSeq (tAsg (tOp (rI (fun _ j => 0 < j) fun i j => .int (i % j)) (tCB (fun xs H Q => (∃ i, xs = [.int i] ∧ Q (.int i) H) ∨ ∃ k, xs = [.bl k] ∧ Q (.int (if k then 1 else 0)) H) (tCons (tOp (rIxL K) (tVar 0) (tC (.int 1))) tNil)) (tVar 1)) (gName 4))
          (tSeq (tAsg (tOp (rI CDivW fun i j => .int (i / j)) (tOp (rIxL K) (tVar 0) (tC (.int 1))) (tVar 1)) (gSub (tVar 0) (tC (.int 1)) rSetL)) (tRet (tVar 4)))) { nx := fun _ H' => Q .non H', rt := Q } [some (.ref s), some (.int m), v2, v3, none] H1 := by
      intro H1 c1 k1 v2 v3 h1 h2 h3 h4
      refine ⟨_, rfl, s, _, _, _, rfl, rfl, SqL.of h1, rfl, .inl ⟨_, rfl, _, rfl, _, _, rfl, rfl, hm, ?_⟩⟩
      refine ⟨_, rfl, s, _, _, _, rfl, rfl, SqL.of h1, rfl, _, rfl, _, _, rfl, rfl, wide_div hm hmb (by decide) (by decide), ?_⟩
      refine ⟨_, rfl, s, _, _, 1, rfl, rfl, h1, rfl, ?_⟩
      refine ⟨_, rfl, ?_⟩
      refine kk _ _ (Int.emod_nonneg _ (by omega)) (Int.emod_lt_of_pos _ hm) ⟨l, ns, _, k1, upd_same, by rw [upd_ne nsl.symm]; exact h2, h3⟩ fun b o e hb => ?_
      rw [upd_ne hb]
      exact h4 b o e hb
    refine ⟨_, (pss_cons (ps_if (pt_cmpR op_eq (pe_ix (r := rIxL K) ix_list (pv 0) pe_int (fun _ _ => rfl)) pe_int (nomark _)) (pss_cons (ps_set (i := 2) sc_l_next.nd rfl (Or.inl rfl) (pe_ix (r := rIxL K) ix_list (pv 0) pe_int (fun _ _ => rfl)))
    (pss_cons (ps_set (i := 3) sc_l_next.nd rfl (Or.inl rfl) (pe_op op_add pe_int (pv 2)))
    (pss_cons (ps_if (pt_cmpR op_lt (pv 2) (pe_callB call_len_seq (by rfl) T.len PySem.boot_len (pa_cons (pe_ix (r := rIxL K) ix_list (pv 0) pe_int (fun _ _ => rfl)) pa_nil)) (nomark _)) (pss_one (ps_set (i := 3) sc_l_next.nd rfl (Or.inl rfl) (pe_callB call_abs (by rfl) T.abs PyProof.Rows.boot_abs (pa_cons (pe_ix (r := rIxL K) ix_list (pe_ix (r := rIxL K) ix_list (pv 0) pe_int (fun _ _ => rfl)) (pv 2) (fun _ _ => rfl)) pa_nil)))) pss_nil)
    (pss_cons (ps_if (pt_cmpR op_lt (pv 3) (pe_op op_pow pe_int pe_int) (nomark _)) (pss_cons (ps_set (i := 3) sc_l_next.nd rfl (Or.inl rfl) (pe_op op_mod (pe_callTy call_int1 (by rfl) T.int PyProof.Rows.boot_int (pa_cons (pe_op op_add (pe_op op_add (pe_op op_mul (pv 3) pe_int) (pe_op op_mul (pv 2) pe_int)) pe_int) pa_nil)) pe_int))
    (pss_one (ps_set (i := 3) sc_l_next.nd rfl (Or.inl rfl) (pe_op op_add (pe_op op_mul (pe_op op_mod (pe_callTy call_int1 (by rfl) T.int PyProof.Rows.boot_int (pa_cons (pe_op op_add (pe_op op_mul (pv 3) pe_int) pe_int) pa_nil)) pe_int) pe_int) (pv 3))))) pss_nil)
    (pss_cons (ps_asg (pv 3) (pg_sub (pv 0) pe_int set_list))
    (pss_one (ps_asg (pe_op op_add (pv 2) pe_int) (pg_sub (pv 0) pe_int set_list)))))))) pss_nil)
    (pss_cons (ps_set (i := 4) sc_l_next.nd rfl (Or.inl rfl) (pe_op op_mod (pe_callTy call_int1 (by rfl) T.int PyProof.Rows.boot_int (pa_cons (pe_ix (r := rIxL K) ix_list (pv 0) pe_int (fun _ _ => rfl)) pa_nil)) (pv 1)))
    (pss_cons (ps_asg (pe_op op_fdivW (pe_ix (r := rIxL K) ix_list (pv 0) pe_int (fun _ _ => rfl)) (pv 1)) (pg_sub (pv 0) pe_int set_list))
    (pss_one (ps_ret (pv 4)))))), ?_⟩
    refine ⟨_, rfl, s, _, _, _, rfl, rfl, SqL.of hs, rfl, rfl, _, rfl, ite2 (fun _ => ?_) (fun _ => ?_)⟩
    · -- a new cell
      refine ⟨_, rfl, s, _, _, _, rfl, rfl, SqL.of hs, rfl, ?_⟩
      refine ⟨_, rfl, _, _, rfl, rfl, ?_⟩
      have part : ∀ c2 : Int, (tSeq (tIfS (tTest (tOp (rI0 fun i j => .bl (decide (i < j))) (tVar 3) (tOp (rI CPow fun i j => .int (i ^ j.toNat)) (tC (.int 10)) (tC (.int 18)))))
          (tSeq (tAsg (tOp (rI (fun _ j => 0 < j) fun i j => .int (i % j)) (tCB (fun xs H Q => (∃ i, xs = [.int i] ∧ Q (.int i) H) ∨ ∃ k, xs = [.bl k] ∧ Q (.int (if k then 1 else 0)) H) (tCons (tOp (rI0 fun i j => .int (i + j)) (tOp (rI0 fun i j => .int (i + j)) (tOp (rI CMul fun i j => .int (i * j)) (tVar 3) (tC (.int 48271))) (tOp (rI CMul fun i j => .int (i * j)) (tVar 2) (tC (.int 69621)))) (tC (.int 11))) tNil)) (tC (.int 2147483647))) (gName 3))
            (tAsg (tOp (rI0 fun i j => .int (i + j)) (tOp (rI CMul fun i j => .int (i * j)) (tOp (rI (fun _ j => 0 < j) fun i j => .int (i % j)) (tCB (fun xs H Q => (∃ i, xs = [.int i] ∧ Q (.int i) H) ∨ ∃ k, xs = [.bl k] ∧ Q (.int (if k then 1 else 0)) H) (tCons (tOp (rI0 fun i j => .int (i + j)) (tOp (rI CMul fun i j => .int (i * j)) (tVar 3) (tC (.int 16807))) (tC (.int 13))) tNil)) (tC (.int 2147483647))) (tC (.int 65537))) (tVar 3)) (gName 3)))
          tNext)
          (tSeq (tAsg (tVar 3) (gSub (tVar 0) (tC (.int 1)) rSetL)) (tAsg (tOp (rI0 fun i j => .int (i + j)) (tVar 2) (tC (.int 1))) (gSub (tVar 0) (tC (.int 2)) rSetL))))
          { nx := fun σ' H' => (tSeq (tAsg (tOp (rI (fun _ j => 0 < j) fun i j => .int (i % j)) (tCB (fun xs H Q => (∃ i, xs = [.int i] ∧ Q (.int i) H) ∨ ∃ k, xs = [.bl k] ∧ Q (.int (if k then 1 else 0)) H) (tCons (tOp (rIxL K) (tVar 0) (tC (.int 1))) tNil)) (tVar 1)) (gName 4))
          (tSeq (tAsg (tOp (rI CDivW fun i j => .int (i / j)) (tOp (rIxL K) (tVar 0) (tC (.int 1))) (tVar 1)) (gSub (tVar 0) (tC (.int 1)) rSetL)) (tRet (tVar 4)))) { nx := fun _ H' => Q .non H', rt := Q } σ' H', rt := Q } [some (.ref s), some (.int m), some (.int k), some (.int c2), none] H := by
        intro c2
        have store : ∀ c3 : Int, (tSeq (tAsg (tVar 3) (gSub (tVar 0) (tC (.int 1)) rSetL)) (tAsg (tOp (rI0 fun i j => .int (i + j)) (tVar 2) (tC (.int 1))) (gSub (tVar 0) (tC (.int 2)) rSetL)))
          { nx := fun σ' H' => (tSeq (tAsg (tOp (rI (fun _ j => 0 < j) fun i j => .int (i % j)) (tCB (fun xs H Q => (∃ i, xs = [.int i] ∧ Q (.int i) H) ∨ ∃ k, xs = [.bl k] ∧ Q (.int (if k then 1 else 0)) H) (tCons (tOp (rIxL K) (tVar 0) (tC (.int 1))) tNil)) (tVar 1)) (gName 4))
          (tSeq (tAsg (tOp (rI CDivW fun i j => .int (i / j)) (tOp (rIxL K) (tVar 0) (tC (.int 1))) (tVar 1)) (gSub (tVar 0) (tC (.int 1)) rSetL)) (tRet (tVar 4)))) { nx := fun _ H' => Q .non H', rt := Q } σ' H', rt := Q } [some (.ref s), some (.int m), some (.int k), some (.int c3), none] H := by
          intro c3
          refine ⟨_, rfl, _, rfl, s, _, _, 1, rfl, rfl, hs, rfl, ?_⟩
          refine ⟨_, rfl, _, _, rfl, rfl, _, rfl, s, _, _, 2, rfl, rfl, upd_same, rfl, ?_⟩
          refine tail _ c3 (k + 1) _ _ upd_same ?_ (by omega) fun b o e hb => ?_
          · rw [upd_ne nsl.symm, upd_ne nsl.symm]
            exact hl
          · rw [upd_ne hb, upd_ne hb]
            exact e
        refine ⟨_, rfl, _, _, rfl, rfl, ⟨by decide, by decide, by decide⟩, _, _, rfl, rfl, _, rfl, ite2 (fun _ => ?_) (fun _ => ?_)⟩
        · refine ⟨_, rfl, _, _, rfl, rfl, .inr ⟨by decide, by decide⟩, _, rfl, _, _, rfl, rfl, .inr ⟨by decide, by decide⟩, _, _, rfl, rfl, _, _, rfl, rfl, .inl ⟨_, rfl, _, _, rfl, rfl, (by show (0 : Int) < 2147483647; decide), ?_⟩⟩
          refine ⟨_, rfl, _, _, rfl, rfl, .inr ⟨by decide, by decide⟩, _, _, rfl, rfl, .inl ⟨_, rfl, _, _, rfl, rfl, (by show (0 : Int) < 2147483647; decide), _, _, rfl, rfl, .inr ⟨by decide, by decide⟩, _, rfl, _, _, rfl, rfl, ?_⟩⟩
          exact store _
        · exact store _
      refine ⟨_, rfl, _, rfl, s, _, _, _, rfl, rfl, SqL.of hs, rfl, l, _, rfl, .inl (SqL.of hl), _, _, rfl, rfl, _, rfl, iteD (fun hlt => ?_) (fun _ => ?_)⟩
      · have hlt' : k < ((ns.map V.int).length : Int) := hlt
        obtain ⟨j, rfl⟩ : ∃ j : Nat, k = (j : Int) := ⟨k.toNat, by omega⟩
        have hj : j < ns.length := by rw [List.length_map] at hlt'; omega
        refine ⟨_, rfl, s, _, _, _, rfl, rfl, SqL.of hs, rfl, _, rfl, l, _, _, _, rfl, rfl, SqL.of hl, at_of (j := j) (v := V.int ns[j]) rfl (by rw [List.getElem?_map, List.getElem?_eq_getElem hj]; rfl), _, rfl, ?_⟩
        exact part _
      · exact part _
    · -- the cell stands
      exact tail H c k none none hs hl hk (Keep.refl s H)
theorem ok_l_is_integer (T : Txt K mg) : FnOk P w K mg base CX0 1 T.f_l_is_integer T.fd_l_is_integer ["actual"] (spWhole K) := by
  refine T.D_l_is_integer.F.ok sc_l_is_integer (fun vs H Q E h => ?_) (fun cdv A outer s H vs Q E hr h => ?_)
  · obtain ⟨x, t, rfl, _⟩ := h
    rfl
  · obtain ⟨x, t, rfl, ty, mem, k⟩ := h
    refine ⟨_, (pss_one (ps_ret (pe_and (pe_callB call_isi (by rfl) T.isinstance PyProof.Rows.boot_isinstance (pa_cons (pv 0) (pa_cons (pe_bltn (v := .ty "int") (by rfl) T.int PyProof.Rows.boot_int rfl) pa_nil))) (pe_one (pe_not (pe_callB call_isi (by rfl) T.isinstance PyProof.Rows.boot_isinstance (pa_cons (pv 0) (pa_cons (pe_bltn (v := .ty "bool") (by rfl) T.bool PyProof.Rows.boot_bool rfl) pa_nil)))))))), ?_⟩
    simp only [tys, List.mem_cons, List.not_mem_nil, or_false] at mem
    rcases mem with rfl | rfl | rfl | rfl | rfl | rfl
    · exact ⟨_, rfl, _, _, _, _, true, rfl, .ty "int", ty, kit_ty (by decide +kernel), true, rfl, iteT ⟨_, rfl, _, _, _, _, false, rfl, .ty "bool", ty, kit_ty (by decide +kernel), false, rfl, k⟩⟩
    · exact ⟨_, rfl, _, _, _, _, true, rfl, .ty "int", ty, kit_ty (by decide +kernel), true, rfl, iteT ⟨_, rfl, _, _, _, _, true, rfl, .ty "bool", ty, kit_ty (by decide +kernel), true, rfl, k⟩⟩
    all_goals exact ⟨_, rfl, _, _, _, _, false, rfl, .ty "int", ty, kit_ty (by decide +kernel), false, rfl, iteF k⟩
/-! ### the law's own fractions -/
def spGcd : Sp := fun vs H Q _ => ∃ a b : Int, vs = [.int a, .int b] ∧ a.natAbs < 2 ^ 19000 ∧ b.natAbs < 2 ^ 19000 ∧ Q (.int ((Nat.gcd a.natAbs b.natAbs : Nat) : Int)) H
theorem ok_l_gcd (T : Txt K mg) : FnOk P w K mg base CX0 1 T.f_l_gcd T.fd_l_gcd ["a", "b"] spGcd := by
  refine T.D_l_gcd.F.ok sc_l_gcd (fun vs H Q E h => ?_) (fun cdv A outer s H vs Q E hr h => ?_)
  · obtain ⟨a, b, rfl, _⟩ := h
    rfl
  · obtain ⟨a, b, rfl, ha, hb, k⟩ := h
    refine ⟨_, (pss_cons (ps_set (i := 0) sc_l_gcd.nd rfl (Or.inl rfl) (pe_callB call_abs (by rfl) T.abs PyProof.Rows.boot_abs (pa_cons (pv 0) pa_nil)))
    (pss_cons (ps_set (i := 1) sc_l_gcd.nd rfl (Or.inl rfl) (pe_callB call_abs (by rfl) T.abs PyProof.Rows.boot_abs (pa_cons (pv 1) pa_nil)))
    (pss_cons (ps_for PassesOwn.never rfl (pi_range1 rfl T.range (pa_cons pe_int pa_nil)) (pg_name (i := 2) sc_l_gcd.nd rfl (Or.inl rfl)) (pss_cons (ps_if (pt_cmpR op_eq (pv 1) pe_int (nomark _)) (pss_one ps_break) pss_nil)
    (pss_one (ps_par (i := 0) (j := 1) (by rfl) sc_l_gcd.nd rfl rfl (by decide) rfl rfl (pa_cons (pv 1) (pa_cons (pe_op op_mod (pe_callTy call_int1 (by rfl) T.int PyProof.Rows.boot_int (pa_cons (pv 0) pa_nil)) (pv 1)) pa_nil)) (by rfl)))))
    (pss_one (ps_ret (pv 0)))))), ?_⟩
    refine ⟨_, rfl, _, rfl, ?_⟩
    refine ⟨_, rfl, _, rfl, ?_⟩
    refine ⟨40000, rfl, by decide, by decide, for_range (lo := 0) (n := 40000) (fun i σ H' => H' = H ∧ ∃ (x y : Nat) (v : Option V), σ = [some (.int (x : Int)), some (.int (y : Int)), v] ∧ GcdI 19000 (Nat.gcd a.natAbs b.natAbs) i x y)
      ⟨rfl, a.natAbs, b.natAbs, none, by rw [abs_eq, abs_eq]; rfl, rfl, .inl ⟨rfl, ha, hb⟩⟩ ?_ ?_⟩
    · rintro i σ H' hi ⟨rfl, x, y, v, rfl, g⟩
      refine ⟨_, rfl, rfl, _, rfl, ite2 (fun hz => ?_) (fun hz => ?_)⟩
      · have hy : y = 0 := by
          have h1 := of_decide_eq_true hz
          injection h1 with h2
          omega
        subst hy
        have e : x = Nat.gcd a.natAbs b.natAbs := by
          have := g.1
          rw [Nat.gcd_zero_right] at this
          exact this
        refine ⟨_, rfl, ?_⟩
        rw [e]
        exact k
      · have hy : y ≠ 0 := fun q => hz (by subst q; exact decide_eq_true rfl)
        refine ⟨_, rfl, _, rfl, .inl ⟨_, rfl, _, rfl, _, _, rfl, rfl, (by show (0 : Int) < (y : Int); omega), ?_⟩⟩
        exact ⟨_, _, rfl, rfl, y, x % y, _, rfl, gcdI_step g hy⟩
    · rintro σ H' ⟨rfl, x, y, v, rfl, g⟩
      refine ⟨_, rfl, ?_⟩
      rw [gcdI_end g (by decide)]
      exact k
theorem ok_l_low (T : Txt K mg) : FnOk P w K mg base CX0 2 T.f_l_low T.fd_l_low ["n", "d"] (spPair fun n d => (lo1 n d, lo2 n d)) := by
  refine T.D_l_low.F.ok sc_l_low (fun vs H Q E h => ?_) (fun cdv A outer s H vs Q E hr h => ?_)
  · obtain ⟨n, d, rfl, _⟩ := h
    rfl
  · obtain ⟨n, d, rfl, hd, hn, hb, k⟩ := h
    have low : ∀ g : Int, g = sg n d → (tRet (tTup (tCons (tOp (rI CDivZ fun i j => .int (i.fdiv j)) (tVar 0) (tVar 2)) (tCons (tOp (rI CDivZ fun i j => .int (i.fdiv j)) (tVar 1) (tVar 2)) tNil)))) { nx := fun _ H' => Q .non H', rt := Q } [some (.int n), some (.int d), some (.int g)] H := by
      rintro g rfl
      have c : ∀ x, CDivZ x (sg n d) := fun x => cdivz (sg_ne hd) (sg_size hd hb) (Nat.le_refl _)
      refine ⟨_, rfl, _, rfl, _, _, rfl, rfl, c _, _, rfl, _, rfl, _, _, rfl, rfl, c _, (by show 2 ≤ sizeLine; decide), fun p hp => ?_⟩
      exact k p _ (same_new hp) hp upd_same
    refine ⟨_, (pss_cons (ps_set (i := 2) sc_l_low.nd rfl (Or.inl rfl) (pe_call (ok_l_gcd T) (hr.mono (by omega)) rfl T.D_l_gcd.g T.D_l_gcd.F.kp T.D_l_gcd.b .nil pass0 (pa_cons (pv 0) (pa_cons (pv 1) pa_nil))))
    (pss_cons (ps_if (pt_cmpR op_lt (pv 1) pe_int (nomark _)) (pss_one (ps_set (i := 2) sc_l_low.nd rfl (Or.inl rfl) (pe_op op_sub pe_int (pv 2)))) pss_nil)
    (pss_one (ps_ret (pe_tup (pa_cons (pe_op op_fdivZ (pv 0) (pv 2)) (pa_cons (pe_op op_fdivZ (pv 1) (pv 2)) pa_nil))))))), ?_⟩
    refine ⟨_, rfl, _, rfl, n, d, rfl, Nat.lt_of_lt_of_le hn (Nat.pow_le_pow_right (by decide) (by decide)), Nat.lt_of_lt_of_le hb (Nat.pow_le_pow_right (by decide) (by decide)), ?_⟩
    refine ⟨_, rfl, _, _, rfl, rfl, _, rfl, iteD (fun hneg => ?_) (fun hneg => ?_)⟩
    · refine ⟨_, rfl, _, _, rfl, rfl, ?_⟩
      exact low _ (by unfold sg; rw [if_pos hneg]; omega)
    · exact low _ (by unfold sg; rw [if_neg hneg])
end
section
variable {P : Program} {w : World} {K : PySem.W.Frag} {mg : Str → Option Value} {base : Heap}
/-! ### errors, rationals -/
theorem ok_init {C Od fI : Addr} {fdI : FuncData} (B : BadT K mg C Od fI fdI s_init) : FnOk P w K mg base CX0 1 fI fdI ["self", "name"] (spInit C) := by
  refine B.FI.ok sc_init (fun vs H Q E h => ?_) (fun cdv A outer s H vs Q E hr h => ?_)
  · obtain ⟨a, z, rfl, _⟩ := h
    rfl
  · obtain ⟨a, z, rfl, ha, k⟩ := h
    refine ⟨_, pss_one (ps_ost (pv 0) (pv 1)), ?_⟩
    exact ⟨_, rfl, _, rfl, a, C, rfl, B.O, B.no, .inl ⟨ha, fun dx h1 h2 => k dx h1 h2⟩⟩
/-- ratio: a new pair in lowest terms; BadValue("d") -/
def spRatio (C : Addr) : Sp := fun vs H Q E => ∃ n d : Int, vs = [.int n, .int d] ∧ d.natAbs < 2 ^ 9000 ∧
  (d ≠ 0 → ∀ (p : Addr) (H' : Hp), Same H H' → H p = none → H' p = some (.tup [.int (lo1 n d), .int (lo2 n d)]) → Q (.ref p) H') ∧
  (d = 0 → ∀ dx, H dx = none → E (.ref C) (some dx) (upd H dx (.xd [(("name" : Str), .str "d")])))
theorem ok_ratio (T : Txt K mg) : FnOk P w K mg base (L2.CX P w) 3 T.f_ratio T.fd_ratio ["n", "d"] (spRatio T.c_BadValue) := by
  refine T.D_ratio.F.okX sc_ratio (fun vs H Q E h => ?_) (fun cdv A outer s H vs Q E hr h => ?_)
  · obtain ⟨n, d, rfl, _⟩ := h
    rfl
  · obtain ⟨n, d, rfl, hb, kQ, kE⟩ := h
    have low : d ≠ 0 → ∀ g : Int, g = sg n d → (tRet (tTup (tCons (tOp (rI CDivZ fun i j => .int (i.fdiv j)) (tVar 0) (tVar 2)) (tCons (tOp (rI CDivZ fun i j => .int (i.fdiv j)) (tVar 1) (tVar 2)) tNil)))) { nx := fun _ H' => Q .non H', rt := Q } [some (.int n), some (.int d), some (.int g)] H := by
      rintro hd g rfl
      have c : ∀ x, CDivZ x (sg n d) := fun x => cdivz (sg_ne hd) (sg_size hd hb) (Nat.le_refl _)
      refine ⟨_, rfl, _, rfl, _, _, rfl, rfl, c _, _, rfl, _, rfl, _, _, rfl, rfl, c _, (by show 2 ≤ sizeLine; decide), fun p hp => ?_⟩
      exact kQ hd p _ (same_new hp) hp upd_same
    refine ⟨_, (pss_cons (ps_if (pt_cmpR op_eq (pv 1) pe_int (nomark _)) (pss_one (ps_raise rfl (takes_of rfl rfl rfl rfl) (pmk_oex T.B.O T.B.iC T.B.tI (ok_init T.B) (hr.mono (by omega)) T.B.bI .nil pass0 rfl T.B.gC (pa_cons pe_str pa_nil)))) pss_nil)
    (pss_cons (ps_set (i := 2) sc_ratio.nd rfl (Or.inl rfl) (pe_callBfun cr_gcd (by rfl) T.gcd (pa_cons (pv 0) (pa_cons (pv 1) pa_nil))))
    (pss_cons (ps_if (pt_cmpR op_lt (pv 1) pe_int (nomark _)) (pss_one (ps_set (i := 2) sc_ratio.nd rfl (Or.inl rfl) (pe_un un_neg (pv 2)))) pss_nil)
    (pss_one (ps_ret (pe_tup (pa_cons (pe_op op_fdivZ (pv 0) (pv 2)) (pa_cons (pe_op op_fdivZ (pv 1) (pv 2)) pa_nil)))))))), ?_⟩
    refine ⟨_, rfl, rfl, _, rfl, ite2 (fun hz => ?_) (fun hz => ?_)⟩
    · have hd : d = 0 := by
        have h1 := of_decide_eq_true hz
        injection h1
      refine ⟨by decide, fun a ha => ⟨a, _, rfl, upd_same, fun dx h1 h2 => ⟨rfl, dx, _, upd_same, by rw [upd_ne h2, upd_same], ?_, ?_⟩⟩⟩
      · rw [upd_ne h2] at h1
        exact h1
      · rw [upd_ne h2] at h1
        have := kE hd dx h1
        rw [made_eq ha h2]
        exact this
    · have hd : d ≠ 0 := fun q => hz (by subst q; exact decide_eq_true rfl)
      refine ⟨_, rfl, _, rfl, n, d, rfl, ?_⟩
      refine ⟨_, rfl, _, _, rfl, rfl, _, rfl, iteD (fun hneg => ?_) (fun hneg => ?_)⟩
      · refine ⟨_, rfl, _, rfl, ?_⟩
        exact low hd _ (by unfold sg; rw [if_pos hneg])
      · exact low hd _ (by unfold sg; rw [if_neg hneg])
end
/-! ### rationals -/
/-- two pairs of ints in, one new pair in lowest terms out -/
def spBin (N D : Int → Int → Int → Int → Int) : Sp := fun vs H Q _ => ∃ (p q : Addr) (a b c d : Int), vs = [.ref p, .ref q] ∧ H p = some (.tup [.int a, .int b]) ∧ H q = some (.tup [.int c, .int d]) ∧
  D a b c d ≠ 0 ∧ a.natAbs < 2 ^ 4000 ∧ b.natAbs < 2 ^ 4000 ∧ c.natAbs < 2 ^ 4000 ∧ d.natAbs < 2 ^ 4000 ∧
  ∀ (r : Addr) (H' : Hp), Same H H' → H r = none → H' r = some (.tup [.int (lo1 (N a b c d) (D a b c d)), .int (lo2 (N a b c d) (D a b c d))]) → Q (.ref r) H'
def nPlus (a b c d : Int) : Int := a * d + c * b
def nMinus (a b c d : Int) : Int := a * d - c * b
def nTimes (a _ c _ : Int) : Int := a * c
def dBoth (_ b _ d : Int) : Int := b * d
theorem add_up {i j : Int} (a : Nat) {c : Nat} (ha : i.natAbs < 2 ^ a) (hb : j.natAbs < 2 ^ a) (hc : a + 1 ≤ c := by decide) : (i + j).natAbs < 2 ^ c := by
  have h := Int.natAbs_add_le i j
  have e : 2 ^ (a + 1) = 2 ^ a + 2 ^ a := by rw [Nat.pow_succ]; omega
  exact Nat.lt_of_lt_of_le (by omega : (i + j).natAbs < 2 ^ (a + 1)) (Nat.pow_le_pow_right (by decide) hc)
theorem sub_up {i j : Int} (a : Nat) {c : Nat} (ha : i.natAbs < 2 ^ a) (hb : j.natAbs < 2 ^ a) (hc : a + 1 ≤ c := by decide) : (i - j).natAbs < 2 ^ c := by
  rw [Int.sub_eq_add_neg]
  exact add_up a ha (by rw [Int.natAbs_neg]; exact hb) hc
/-- a draw of a rational with a part below top, the other one to most -/
def spDraw : Sp := fun vs H Q _ => ∃ (s : Addr) (t m : Int), vs = [.ref s, .int t, .int m] ∧ Strm H s ∧ 0 < t ∧ 0 < m ∧ t.natAbs < 2 ^ 1000 ∧ m.natAbs < 2 ^ 1000 ∧
  ∀ (p : Addr) (H' : Hp) (n d : Int), 1 ≤ d → Nat.gcd n.natAbs d.natAbs = 1 → n.natAbs ≤ t.natAbs → d ≤ m → Strm H' s → Keep s H H' → H p = none → p ≠ s → H' p = some (.tup [.int n, .int d]) → Q (.ref p) H'
section
variable {P : Program} {w : World} {K : PySem.W.Frag} {mg : Str → Option Value} {base : Heap}
theorem ok_l_plus (T : Txt K mg) : FnOk P w K mg base CX0 3 T.f_l_plus T.fd_l_plus ["a", "b"] (spBin nPlus dBoth) := by
  refine T.D_l_plus.F.ok sc_l_plus (fun vs H Q E h => ?_) (fun cdv A outer s H vs Q E hr h => ?_)
  · obtain ⟨p, q, a, b, c, d, rfl, _⟩ := h
    rfl
  · obtain ⟨p, q, a, b, c, d, rfl, hp, hq, hD, ha, hb, hc, hd, k⟩ := h
    refine ⟨_, (pss_one (ps_ret (pe_call (ok_l_low T) (hr.mono (by omega)) rfl T.D_l_low.g T.D_l_low.F.kp T.D_l_low.b .nil pass0 (pa_cons (pe_op op_add (pe_op op_mulW (pe_ix (r := rIxT K) ix_tup (pv 0) pe_int (fun _ _ => rfl)) (pe_ix (r := rIxT K) ix_tup (pv 1) pe_int (fun _ _ => rfl))) (pe_op op_mulW (pe_ix (r := rIxT K) ix_tup (pv 1) pe_int (fun _ _ => rfl)) (pe_ix (r := rIxT K) ix_tup (pv 0) pe_int (fun _ _ => rfl)))) (pa_cons (pe_op op_mulW (pe_ix (r := rIxT K) ix_tup (pv 0) pe_int (fun _ _ => rfl)) (pe_ix (r := rIxT K) ix_tup (pv 1) pe_int (fun _ _ => rfl))) pa_nil))))), ?_⟩
    refine ⟨_, rfl, _, _, _, _, rfl, rfl, SqT.of hp, rfl, _, rfl, _, _, _, _, rfl, rfl, SqT.of hq, rfl, _, _, rfl, rfl, cmulw ha hd (by decide), ?_⟩
    refine ⟨_, rfl, _, _, _, _, rfl, rfl, SqT.of hq, rfl, _, rfl, _, _, _, _, rfl, rfl, SqT.of hp, rfl, _, _, rfl, rfl, cmulw hc hb (by decide), _, _, rfl, rfl, ?_⟩
    refine ⟨_, rfl, _, _, _, _, rfl, rfl, SqT.of hp, rfl, _, rfl, _, _, _, _, rfl, rfl, SqT.of hq, rfl, _, _, rfl, rfl, cmulw hb hd (by decide), ?_⟩
    exact ⟨nPlus a b c d, dBoth a b c d, rfl, hD, add_up 8000 (mul_up 4000 4000 ha hd) (mul_up 4000 4000 hc hb), mul_up 4000 4000 hb hd, k⟩
theorem ok_l_times (T : Txt K mg) : FnOk P w K mg base CX0 3 T.f_l_times T.fd_l_times ["a", "b"] (spBin nTimes dBoth) := by
  refine T.D_l_times.F.ok sc_l_times (fun vs H Q E h => ?_) (fun cdv A outer s H vs Q E hr h => ?_)
  · obtain ⟨p, q, a, b, c, d, rfl, _⟩ := h
    rfl
  · obtain ⟨p, q, a, b, c, d, rfl, hp, hq, hD, ha, hb, hc, hd, k⟩ := h
    refine ⟨_, (pss_one (ps_ret (pe_call (ok_l_low T) (hr.mono (by omega)) rfl T.D_l_low.g T.D_l_low.F.kp T.D_l_low.b .nil pass0 (pa_cons (pe_op op_mulW (pe_ix (r := rIxT K) ix_tup (pv 0) pe_int (fun _ _ => rfl)) (pe_ix (r := rIxT K) ix_tup (pv 1) pe_int (fun _ _ => rfl))) (pa_cons (pe_op op_mulW (pe_ix (r := rIxT K) ix_tup (pv 0) pe_int (fun _ _ => rfl)) (pe_ix (r := rIxT K) ix_tup (pv 1) pe_int (fun _ _ => rfl))) pa_nil))))), ?_⟩
    refine ⟨_, rfl, _, _, _, _, rfl, rfl, SqT.of hp, rfl, _, rfl, _, _, _, _, rfl, rfl, SqT.of hq, rfl, _, _, rfl, rfl, cmulw ha hc (by decide), ?_⟩
    refine ⟨_, rfl, _, _, _, _, rfl, rfl, SqT.of hp, rfl, _, rfl, _, _, _, _, rfl, rfl, SqT.of hq, rfl, _, _, rfl, rfl, cmulw hb hd (by decide), ?_⟩
    exact ⟨nTimes a b c d, dBoth a b c d, rfl, hD, mul_up 4000 4000 ha hc, mul_up 4000 4000 hb hd, k⟩
theorem ok_l_ratio (T : Txt K mg) : FnOk P w K mg base CX0 3 T.f_l_ratio T.fd_l_ratio ["stream", "top", "most"] spDraw := by
  refine T.D_l_ratio.F.ok sc_l_ratio (fun vs H Q E h => ?_) (fun cdv A outer s H vs Q E hr h => ?_)
  · obtain ⟨s, t, m, rfl, _⟩ := h
    rfl
  · obtain ⟨s, t, m, rfl, hs, ht, hm, bt, bm, k⟩ := h
    have b2 : (2 * t + 1).natAbs < 2 ^ 1003 := add_up 1002 (mul_up 2 1000 (show (2 : Int).natAbs < 2 ^ 2 by decide) bt) (up 1 (by decide))
    refine ⟨_, (pss_cons (ps_set (i := 3) sc_l_ratio.nd rfl (Or.inl rfl) (pe_op op_sub (pe_call (ok_l_next T) (hr.mono (by omega)) rfl T.D_l_next.g T.D_l_next.F.kp T.D_l_next.b .nil pass0 (pa_cons (pv 0) (pa_cons (pe_op op_add (pe_op op_mul pe_int (pv 1)) pe_int) pa_nil))) (pv 1)))
    (pss_one (ps_ret (pe_call (ok_l_low T) (hr.mono (by omega)) rfl T.D_l_low.g T.D_l_low.F.kp T.D_l_low.b .nil pass0 (pa_cons (pv 3) (pa_cons (pe_op op_add pe_int (pe_call (ok_l_next T) (hr.mono (by omega)) rfl T.D_l_next.g T.D_l_next.F.kp T.D_l_next.b .nil pass0 (pa_cons (pv 0) (pa_cons (pv 2) pa_nil)))) pa_nil)))))), ?_⟩
    refine ⟨_, rfl, _, rfl, _, _, rfl, rfl, .inl ⟨by decide, by decide⟩, _, _, rfl, rfl, s, 2 * t + 1, rfl, hs, by omega, up 1003 b2, fun d0 H1 a0 b0 hs1 k1 => ?_⟩
    refine ⟨_, rfl, _, _, rfl, rfl, ?_⟩
    refine ⟨_, rfl, _, rfl, _, rfl, s, m, rfl, hs1, hm, up 1000 bm, fun d1 H2 a1 b1 hs2 k2 => ⟨_, _, rfl, rfl, ?_⟩⟩
    have nz : (1 + d1 : Int) ≠ 0 := by omega
    have bn : (d0 - t).natAbs ≤ t.natAbs := by omega
    have bd : (1 + d1).natAbs ≤ m.natAbs := by omega
    refine ⟨d0 - t, 1 + d1, rfl, nz, up 1000 (Nat.lt_of_le_of_lt bn bt), up 1000 (Nat.lt_of_le_of_lt bd bm), fun p H3 e3 hn hp => ?_⟩
    have hk := k1.trans k2
    have f : ∀ {b : Addr} {o : HO}, H b = some o → b ≠ s → H3 b = some o := fun h n => e3 _ _ (hk _ _ h n)
    have ps : p ≠ s := by
      obtain ⟨_, _, _, _, h, _⟩ := hs2
      exact (ne_of_none h hn).symm
    refine k p H3 _ _ (lo2_pos nz) (lo_gcd nz) (Nat.le_trans (lo1_size nz) bn) ?_ (hs2.same e3) (fun b o h n => f h n) ?_ ps hp
    · have h1 := lo2_size (n := d0 - t) nz
      have h2 := lo2_pos (n := d0 - t) nz
      omega
    · cases z : H p with
      | none => rfl
      | some o =>
        rw [hk _ _ z ps] at hn
        cases hn
theorem ok_plus (T : Txt K mg) : FnOk P w K mg base CX0 4 T.f_plus T.fd_plus ["a", "b"] (spBin nPlus dBoth) := by
  refine T.D_plus.F.ok sc_plus (fun vs H Q E h => ?_) (fun cdv A outer s H vs Q E hr h => ?_)
  · obtain ⟨p, q, a, b, c, d, rfl, _⟩ := h
    rfl
  · obtain ⟨p, q, a, b, c, d, rfl, hp, hq, hD, ha, hb, hc, hd, k⟩ := h
    refine ⟨_, (pss_one (ps_ret (pe_call (ok_ratio T) (hr.mono (by omega)) rfl T.D_ratio.g T.D_ratio.F.kp T.D_ratio.b .nil passL (pa_cons (pe_op op_add (pe_op op_mulW (pe_ix (r := rIxT K) ix_tup (pv 0) pe_int (fun _ _ => rfl)) (pe_ix (r := rIxT K) ix_tup (pv 1) pe_int (fun _ _ => rfl))) (pe_op op_mulW (pe_ix (r := rIxT K) ix_tup (pv 1) pe_int (fun _ _ => rfl)) (pe_ix (r := rIxT K) ix_tup (pv 0) pe_int (fun _ _ => rfl)))) (pa_cons (pe_op op_mulW (pe_ix (r := rIxT K) ix_tup (pv 0) pe_int (fun _ _ => rfl)) (pe_ix (r := rIxT K) ix_tup (pv 1) pe_int (fun _ _ => rfl))) pa_nil))))), ?_⟩
    refine ⟨_, rfl, _, _, _, _, rfl, rfl, SqT.of hp, rfl, _, rfl, _, _, _, _, rfl, rfl, SqT.of hq, rfl, _, _, rfl, rfl, cmulw ha hd (by decide), ?_⟩
    refine ⟨_, rfl, _, _, _, _, rfl, rfl, SqT.of hq, rfl, _, rfl, _, _, _, _, rfl, rfl, SqT.of hp, rfl, _, _, rfl, rfl, cmulw hc hb (by decide), _, _, rfl, rfl, ?_⟩
    refine ⟨_, rfl, _, _, _, _, rfl, rfl, SqT.of hp, rfl, _, rfl, _, _, _, _, rfl, rfl, SqT.of hq, rfl, _, _, rfl, rfl, cmulw hb hd (by decide), ?_⟩
    exact ⟨nPlus a b c d, dBoth a b c d, rfl, up 8000 (mul_up 4000 4000 hb hd), fun _ => k, fun z => absurd z hD⟩
theorem ok_minus (T : Txt K mg) : FnOk P w K mg base CX0 4 T.f_minus T.fd_minus ["a", "b"] (spBin nMinus dBoth) := by
  refine T.D_minus.F.ok sc_minus (fun vs H Q E h => ?_) (fun cdv A outer s H vs Q E hr h => ?_)
  · obtain ⟨p, q, a, b, c, d, rfl, _⟩ := h
    rfl
  · obtain ⟨p, q, a, b, c, d, rfl, hp, hq, hD, ha, hb, hc, hd, k⟩ := h
    refine ⟨_, (pss_one (ps_ret (pe_call (ok_ratio T) (hr.mono (by omega)) rfl T.D_ratio.g T.D_ratio.F.kp T.D_ratio.b .nil passL (pa_cons (pe_op op_sub (pe_op op_mulW (pe_ix (r := rIxT K) ix_tup (pv 0) pe_int (fun _ _ => rfl)) (pe_ix (r := rIxT K) ix_tup (pv 1) pe_int (fun _ _ => rfl))) (pe_op op_mulW (pe_ix (r := rIxT K) ix_tup (pv 1) pe_int (fun _ _ => rfl)) (pe_ix (r := rIxT K) ix_tup (pv 0) pe_int (fun _ _ => rfl)))) (pa_cons (pe_op op_mulW (pe_ix (r := rIxT K) ix_tup (pv 0) pe_int (fun _ _ => rfl)) (pe_ix (r := rIxT K) ix_tup (pv 1) pe_int (fun _ _ => rfl))) pa_nil))))), ?_⟩
    refine ⟨_, rfl, _, _, _, _, rfl, rfl, SqT.of hp, rfl, _, rfl, _, _, _, _, rfl, rfl, SqT.of hq, rfl, _, _, rfl, rfl, cmulw ha hd (by decide), ?_⟩
    refine ⟨_, rfl, _, _, _, _, rfl, rfl, SqT.of hq, rfl, _, rfl, _, _, _, _, rfl, rfl, SqT.of hp, rfl, _, _, rfl, rfl, cmulw hc hb (by decide), _, _, rfl, rfl, ?_⟩
    refine ⟨_, rfl, _, _, _, _, rfl, rfl, SqT.of hp, rfl, _, rfl, _, _, _, _, rfl, rfl, SqT.of hq, rfl, _, _, rfl, rfl, cmulw hb hd (by decide), ?_⟩
    exact ⟨nMinus a b c d, dBoth a b c d, rfl, up 8000 (mul_up 4000 4000 hb hd), fun _ => k, fun z => absurd z hD⟩
theorem ok_times (T : Txt K mg) : FnOk P w K mg base CX0 4 T.f_times T.fd_times ["a", "b"] (spBin nTimes dBoth) := by
  refine T.D_times.F.ok sc_times (fun vs H Q E h => ?_) (fun cdv A outer s H vs Q E hr h => ?_)
  · obtain ⟨p, q, a, b, c, d, rfl, _⟩ := h
    rfl
  · obtain ⟨p, q, a, b, c, d, rfl, hp, hq, hD, ha, hb, hc, hd, k⟩ := h
    refine ⟨_, (pss_one (ps_ret (pe_call (ok_ratio T) (hr.mono (by omega)) rfl T.D_ratio.g T.D_ratio.F.kp T.D_ratio.b .nil passL (pa_cons (pe_op op_mulW (pe_ix (r := rIxT K) ix_tup (pv 0) pe_int (fun _ _ => rfl)) (pe_ix (r := rIxT K) ix_tup (pv 1) pe_int (fun _ _ => rfl))) (pa_cons (pe_op op_mulW (pe_ix (r := rIxT K) ix_tup (pv 0) pe_int (fun _ _ => rfl)) (pe_ix (r := rIxT K) ix_tup (pv 1) pe_int (fun _ _ => rfl))) pa_nil))))), ?_⟩
    refine ⟨_, rfl, _, _, _, _, rfl, rfl, SqT.of hp, rfl, _, rfl, _, _, _, _, rfl, rfl, SqT.of hq, rfl, _, _, rfl, rfl, cmulw ha hc (by decide), ?_⟩
    refine ⟨_, rfl, _, _, _, _, rfl, rfl, SqT.of hp, rfl, _, rfl, _, _, _, _, rfl, rfl, SqT.of hq, rfl, _, _, rfl, rfl, cmulw hb hd (by decide), ?_⟩
    exact ⟨nTimes a b c d, dBoth a b c d, rfl, up 8000 (mul_up 4000 4000 hb hd), fun _ => k, fun z => absurd z hD⟩
/-- over: the quotient; BadValue("b") -/
def spOver (C : Addr) : Sp := fun vs H Q E => ∃ (p q : Addr) (a b c d : Int), vs = [.ref p, .ref q] ∧ H p = some (.tup [.int a, .int b]) ∧ H q = some (.tup [.int c, .int d]) ∧ b ≠ 0 ∧
  a.natAbs < 2 ^ 4000 ∧ b.natAbs < 2 ^ 4000 ∧ c.natAbs < 2 ^ 4000 ∧ d.natAbs < 2 ^ 4000 ∧
  (c ≠ 0 → ∀ (r : Addr) (H' : Hp), Same H H' → H r = none → H' r = some (.tup [.int (lo1 (a * d) (b * c)), .int (lo2 (a * d) (b * c))]) → Q (.ref r) H') ∧
  (c = 0 → ∀ dx, H dx = none → E (.ref C) (some dx) (upd H dx (.xd [(("name" : Str), .str "b")])))
theorem ok_over (T : Txt K mg) : FnOk P w K mg base (L2.CX P w) 4 T.f_over T.fd_over ["a", "b"] (spOver T.c_BadValue) := by
  refine T.D_over.F.okX sc_over (fun vs H Q E h => ?_) (fun cdv A outer s H vs Q E hr h => ?_)
  · obtain ⟨p, q, a, b, c, d, rfl, _⟩ := h
    rfl
  · obtain ⟨p, q, a, b, c, d, rfl, hp, hq, hb0, ha, hb, hc, hd, kQ, kE⟩ := h
    refine ⟨_, (pss_cons (ps_if (pt_cmpR op_eq (pe_ix (r := rIxT K) ix_tup (pv 1) pe_int (fun _ _ => rfl)) pe_int (nomark _)) (pss_one (ps_raise rfl (takes_of rfl rfl rfl rfl) (pmk_oex T.B.O T.B.iC T.B.tI (ok_init T.B) (hr.mono (by omega)) T.B.bI .nil pass0 rfl T.B.gC (pa_cons pe_str pa_nil)))) pss_nil)
    (pss_one (ps_ret (pe_call (ok_ratio T) (hr.mono (by omega)) rfl T.D_ratio.g T.D_ratio.F.kp T.D_ratio.b .nil passL (pa_cons (pe_op op_mulW (pe_ix (r := rIxT K) ix_tup (pv 0) pe_int (fun _ _ => rfl)) (pe_ix (r := rIxT K) ix_tup (pv 1) pe_int (fun _ _ => rfl))) (pa_cons (pe_op op_mulW (pe_ix (r := rIxT K) ix_tup (pv 0) pe_int (fun _ _ => rfl)) (pe_ix (r := rIxT K) ix_tup (pv 1) pe_int (fun _ _ => rfl))) pa_nil)))))), ?_⟩
    refine ⟨_, rfl, _, _, _, _, rfl, rfl, SqT.of hq, rfl, rfl, _, rfl, ite2 (fun hz => ?_) (fun hz => ?_)⟩
    · have hc0 : c = 0 := by
        have h1 := of_decide_eq_true hz
        injection h1
      refine ⟨by decide, fun a ha => ⟨a, _, rfl, upd_same, fun dx h1 h2 => ⟨rfl, dx, _, upd_same, by rw [upd_ne h2, upd_same], ?_, ?_⟩⟩⟩
      · rw [upd_ne h2] at h1
        exact h1
      · rw [upd_ne h2] at h1
        have := kE hc0 dx h1
        rw [made_eq ha h2]
        exact this
    · have hc0 : c ≠ 0 := fun q => hz (by subst q; exact decide_eq_true rfl)
      refine ⟨_, rfl, _, _, _, _, rfl, rfl, SqT.of hp, rfl, _, rfl, _, _, _, _, rfl, rfl, SqT.of hq, rfl, _, _, rfl, rfl, cmulw ha hd (by decide), ?_⟩
      refine ⟨_, rfl, _, _, _, _, rfl, rfl, SqT.of hp, rfl, _, rfl, _, _, _, _, rfl, rfl, SqT.of hq, rfl, _, _, rfl, rfl, cmulw hb hc (by decide), ?_⟩
      exact ⟨a * d, b * c, rfl, up 8000 (mul_up 4000 4000 hb hc), fun _ => kQ hc0, fun z => absurd z (Int.mul_ne_zero hb0 hc0)⟩
end
theorem sqT_same {K : PySem.W.Frag} {H H' : Hp} {a : Addr} {xs : List V} (e : Same H H') (h : SqT K H a xs) : SqT K H' a xs := by
  rcases h with (q | ⟨o, q⟩) | q
  · exact .inl (.inl (e _ _ q))
  · exact .inl (.inr ⟨o, e _ _ q⟩)
  · exact .inr q
theorem ty_sqT {K : PySem.W.Frag} {H : Hp} {a : Addr} {xs : List V} (h : SqT K H a xs) : TyX K H (.ref a) (.type "tuple") := by
  rcases h with (q | ⟨o, q⟩) | ⟨o, its, n, h1, h2, _⟩
  · exact ty_tup q
  · exact .fTuple q
  · exact .kTuple h1 h2
/-! ### equal data -/
/-- x and y are the same data, n levels of tuples and lists deep at most -/
def Eqv0 (x y : V) : Prop := (x = .non ∧ y = .non) ∨ (∃ b, x = .bl b ∧ y = .bl b) ∨ (∃ i, x = .int i ∧ y = .int i) ∨ (∃ s, x = .str s ∧ y = .str s)
def Eqv (K : PySem.W.Frag) : Nat → Hp → V → V → Prop
  | 0, _, x, y => Eqv0 x y
  | n + 1, H, x, y => Eqv0 x y ∨ ∃ (a b : Addr) (xs ys : List V), x = .ref a ∧ y = .ref b ∧ ((SqT K H a xs ∧ SqT K H b ys) ∨ (H a = some (.lst xs) ∧ H b = some (.lst ys))) ∧
      xs.length = ys.length ∧ xs.length < 1000 ∧ ∀ (i : Nat) (u v : V), xs[i]? = some u → ys[i]? = some v → Eqv K n H u v
theorem Eqv.same {K : PySem.W.Frag} {n : Nat} {H H' : Hp} {x y : V} (e : Same H H') (h : Eqv K n H x y) : Eqv K n H' x y := by
  induction n generalizing x y with
  | zero => exact h
  | succ n ih =>
    rcases h with h | ⟨a, b, xs, ys, hx, hy, hab, hl, hz, hi⟩
    · exact Or.inl h
    · exact Or.inr ⟨a, b, xs, ys, hx, hy, hab.elim (fun z => Or.inl ⟨sqT_same e z.1, sqT_same e z.2⟩) (fun z => Or.inr ⟨e _ _ z.1, e _ _ z.2⟩), hl, hz, fun i u v h1 h2 => ih (hi i u v h1 h2)⟩
theorem Eqv.up {K : PySem.W.Frag} {n : Nat} {H : Hp} {x y : V} (h : Eqv0 x y) : Eqv K n H x y := by
  cases n with
  | zero => exact h
  | succ n => exact Or.inl h
theorem eqv_int {K : PySem.W.Frag} {n : Nat} {H : Hp} {i : Int} : Eqv K n H (.int i) (.int i) := .up (Or.inr (Or.inr (Or.inl ⟨i, rfl, rfl⟩)))
theorem eqv_bl {K : PySem.W.Frag} {n : Nat} {H : Hp} {b : Bool} : Eqv K n H (.bl b) (.bl b) := .up (Or.inr (Or.inl ⟨b, rfl, rfl⟩))
theorem eqv_str {K : PySem.W.Frag} {n : Nat} {H : Hp} {s : Str} : Eqv K n H (.str s) (.str s) := .up (Or.inr (Or.inr (Or.inr ⟨s, rfl, rfl⟩)))
theorem eqv_non {K : PySem.W.Frag} {n : Nat} {H : Hp} : Eqv K n H .non .non := .up (Or.inl ⟨rfl, rfl⟩)
/-- two pairs with equal parts -/
theorem eqv_pair {K : PySem.W.Frag} {n : Nat} {H : Hp} {a b : Addr} {x0 x1 y0 y1 : V} (ha : SqT K H a [x0, x1]) (hb : SqT K H b [y0, y1]) (h0 : Eqv K n H x0 y0) (h1 : Eqv K n H x1 y1) : Eqv K (n + 1) H (.ref a) (.ref b) :=
  Or.inr ⟨a, b, _, _, rfl, rfl, Or.inl ⟨ha, hb⟩, rfl, by show 2 < 1000; decide, fun i u v hu hv => by
    match i, hu, hv with
    | 0, hu, hv => cases hu; cases hv; exact h0
    | 1, hu, hv => cases hu; cases hv; exact h1
    | j + 2, hu, hv => simp at hu⟩
def spEq (K : PySem.W.Frag) (n : Nat) : Sp := fun vs H Q _ => ∃ x y : V, vs = [x, y] ∧ Eqv K n H x y ∧ ∀ H', Same H H' → Q (.bl true) H'
section
variable {P : Program} {w : World} {K : PySem.W.Frag} {mg : Str → Option Value} {base : Heap}
theorem ok_l_equal (T : Txt K mg) : ∀ n : Nat, FnOk P w K mg base CX0 (n + 2) T.f_l_equal T.fd_l_equal ["actual", "due"] (spEq K n) := by
  intro n
  induction n with
  | zero =>
    refine T.D_l_equal.F.ok sc_l_equal (fun vs H Q E h => ?_) (fun cdv A outer s H vs Q E hr h => ?_)
    · obtain ⟨x, y, rfl, _⟩ := h
      rfl
    · obtain ⟨x, y, rfl, hE, k⟩ := h
      have k0 := k H (Same.refl H)
      have ih : FnOk P w K mg base CX0 0 T.f_l_equal T.fd_l_equal ["actual", "due"] (fun _ _ _ _ => False) := ⟨fun _ _ _ _ z => z.elim, fun _ _ _ _ _ _ _ _ _ _ _ _ _ z => z.elim⟩
      refine ⟨_, (pss_cons (ps_if (pt_cmpR op_isN (pv 1) pe_non (nomark _)) (pss_one (ps_ret (pe_cmpR op_isN (pv 0) pe_non (nomark _)))) pss_nil)
    (pss_cons (ps_if (pt_val (pe_callB call_isi (by rfl) T.isinstance PyProof.Rows.boot_isinstance (pa_cons (pv 1) (pa_cons (pe_bltn (v := .ty "bool") (by rfl) T.bool PyProof.Rows.boot_bool rfl) pa_nil)))) (pss_one (ps_ret (pe_and (pe_callB call_isi (by rfl) T.isinstance PyProof.Rows.boot_isinstance (pa_cons (pv 0) (pa_cons (pe_bltn (v := .ty "bool") (by rfl) T.bool PyProof.Rows.boot_bool rfl) pa_nil))) (pe_one (pe_cmpR op_eq (pv 0) (pv 1) (nomark _)))))) pss_nil)
    (pss_cons (ps_if (pt_val (pe_callB call_isi (by rfl) T.isinstance PyProof.Rows.boot_isinstance (pa_cons (pv 1) (pa_cons (pe_bltn (v := .ty "int") (by rfl) T.int PyProof.Rows.boot_int rfl) pa_nil)))) (pss_one (ps_ret (pe_and (pe_call (ok_l_is_integer T) (hr.mono (by omega)) rfl T.D_l_is_integer.g T.D_l_is_integer.F.kp T.D_l_is_integer.b .nil pass0 (pa_cons (pv 0) pa_nil)) (pe_one (pe_cmpR op_eq (pv 0) (pv 1) (nomark _)))))) pss_nil)
    (pss_cons (ps_if (pt_val (pe_callB call_isi (by rfl) T.isinstance PyProof.Rows.boot_isinstance (pa_cons (pv 1) (pa_cons (pe_bltn (v := .ty "str") (by rfl) T.str PyProof.Rows.boot_str rfl) pa_nil)))) (pss_one (ps_ret (pe_and (pe_callB call_isi (by rfl) T.isinstance PyProof.Rows.boot_isinstance (pa_cons (pv 0) (pa_cons (pe_bltn (v := .ty "str") (by rfl) T.str PyProof.Rows.boot_str rfl) pa_nil))) (pe_one (pe_cmpR op_eq (pv 0) (pv 1) (nomark _)))))) pss_nil)
    (pss_cons (ps_if (PW.pt (pw_and (pt_val (pe_callB call_isi (by rfl) T.isinstance PyProof.Rows.boot_isinstance (pa_cons (pv 1) (pa_cons (pe_bltn (v := .ty "tuple") (by rfl) T.tuple PyProof.Rows.boot_tuple rfl) pa_nil)))) (pw_and1 (pt_not (pt_val (pe_callB call_isi (by rfl) T.isinstance PyProof.Rows.boot_isinstance (pa_cons (pv 0) (pa_cons (pe_bltn (v := .ty "tuple") (by rfl) T.tuple PyProof.Rows.boot_tuple rfl) pa_nil)))))))) (pss_one (ps_ret pe_bl)) pss_nil)
    (pss_cons (ps_if (PW.pt (pw_and (pt_val (pe_callB call_isi (by rfl) T.isinstance PyProof.Rows.boot_isinstance (pa_cons (pv 1) (pa_cons (pe_bltn (v := .ty "list") (by rfl) T.list PyProof.Rows.boot_list rfl) pa_nil)))) (pw_and1 (pt_not (pt_val (pe_callB call_isi (by rfl) T.isinstance PyProof.Rows.boot_isinstance (pa_cons (pv 0) (pa_cons (pe_bltn (v := .ty "list") (by rfl) T.list PyProof.Rows.boot_list rfl) pa_nil)))))))) (pss_one (ps_ret pe_bl)) pss_nil)
    (pss_cons (ps_if (pt_cmpR op_ne (pe_callB call_len_seq (by rfl) T.len PySem.boot_len (pa_cons (pv 0) pa_nil)) (pe_callB call_len_seq (by rfl) T.len PySem.boot_len (pa_cons (pv 1) pa_nil)) (nomark _)) (pss_one (ps_ret pe_bl)) pss_nil)
    (pss_one (ps_ret (pe_callB (cr_all rfl) (by rfl) T.all (by decide +kernel) (pa_cons (pe_lc (own := [("at", 2)]) (g := gName 2) rfl sc_l_equal.nd (pi_range1 rfl T.range (pa_cons (pe_callB call_len_seq (by rfl) T.len PySem.boot_len (pa_cons (pv 1) pa_nil)) pa_nil)) (blkOk_by (own := [("at", 2)]) (N := ["actual", "due", "at"]) (sc := defScope s_l_equal) (by decide +kernel)) (fun _ _ _ _ _ => pg_name (i := 2) sc_l_equal.nd rfl (Or.inl rfl)) (fun _ _ _ _ _ => pts_nil) (fun _ _ _ _ _ => (pe_call ih (hr.mono (by omega)) rfl T.D_l_equal.g T.D_l_equal.F.kp T.D_l_equal.b .nil pass0 (pa_cons (pe_ix (r := rIx K) ix_seq (pv 0) (pv 2) (fun _ _ => rfl)) (pa_cons (pe_ix (r := rIx K) ix_seq (pv 1) (pv 2) (fun _ _ => rfl)) pa_nil))))) pa_nil))))))))))), ?_⟩
      rcases hE with ⟨rfl, rfl⟩ | ⟨b, rfl, rfl⟩ | ⟨i, rfl, rfl⟩ | ⟨z, rfl, rfl⟩
      · exact ⟨_, rfl, rfl, _, rfl, iteD1 rfl ⟨_, rfl, rfl, k0⟩⟩
      · refine ⟨_, rfl, rfl, _, rfl, iteD0 (by intro e; cases e) ?_⟩
        refine ⟨_, rfl, _, _, _, _, true, rfl, .ty "bool", ty_bl _, kit_ty (by decide +kernel), true, rfl, iteT ?_⟩
        refine ⟨_, rfl, _, _, _, _, true, rfl, .ty "bool", ty_bl _, kit_ty (by decide +kernel), true, rfl, iteT ⟨_, rfl, _, rfl, rfl, ?_⟩⟩
        rw [decide_eq_true rfl]
        exact k0
      · refine ⟨_, rfl, rfl, _, rfl, iteD0 (by intro e; cases e) ?_⟩
        refine ⟨_, rfl, _, _, _, _, false, rfl, .ty "bool", ty_int _, kit_ty (by decide +kernel), false, rfl, iteF ?_⟩
        refine ⟨_, rfl, _, _, _, _, true, rfl, .ty "int", ty_int _, kit_ty (by decide +kernel), true, rfl, iteT ?_⟩
        refine ⟨_, rfl, _, _, rfl, ty_int _, (by decide), _, rfl, iteD1 rfl ⟨_, rfl, _, rfl, rfl, ?_⟩⟩
        rw [decide_eq_true rfl]
        exact k0
      · refine ⟨_, rfl, rfl, _, rfl, iteD0 (by intro e; cases e) ?_⟩
        refine ⟨_, rfl, _, _, _, _, false, rfl, .ty "bool", ty_str _, kit_ty (by decide +kernel), false, rfl, iteF ?_⟩
        refine ⟨_, rfl, _, _, _, _, false, rfl, .ty "int", ty_str _, kit_ty (by decide +kernel), false, rfl, iteF ?_⟩
        refine ⟨_, rfl, _, _, _, _, true, rfl, .ty "str", ty_str _, kit_ty (by decide +kernel), true, rfl, iteT ?_⟩
        refine ⟨_, rfl, _, _, _, _, true, rfl, .ty "str", ty_str _, kit_ty (by decide +kernel), true, rfl, iteT ⟨_, rfl, _, rfl, rfl, ?_⟩⟩
        rw [decide_eq_true rfl]
        exact k0
  | succ n ih =>
    refine T.D_l_equal.F.ok sc_l_equal (fun vs H Q E h => ?_) (fun cdv A outer s H vs Q E hr h => ?_)
    · obtain ⟨x, y, rfl, _⟩ := h
      rfl
    · obtain ⟨x, y, rfl, hE, k⟩ := h
      have k0 := k H (Same.refl H)
      refine ⟨_, (pss_cons (ps_if (pt_cmpR op_isN (pv 1) pe_non (nomark _)) (pss_one (ps_ret (pe_cmpR op_isN (pv 0) pe_non (nomark _)))) pss_nil)
    (pss_cons (ps_if (pt_val (pe_callB call_isi (by rfl) T.isinstance PyProof.Rows.boot_isinstance (pa_cons (pv 1) (pa_cons (pe_bltn (v := .ty "bool") (by rfl) T.bool PyProof.Rows.boot_bool rfl) pa_nil)))) (pss_one (ps_ret (pe_and (pe_callB call_isi (by rfl) T.isinstance PyProof.Rows.boot_isinstance (pa_cons (pv 0) (pa_cons (pe_bltn (v := .ty "bool") (by rfl) T.bool PyProof.Rows.boot_bool rfl) pa_nil))) (pe_one (pe_cmpR op_eq (pv 0) (pv 1) (nomark _)))))) pss_nil)
    (pss_cons (ps_if (pt_val (pe_callB call_isi (by rfl) T.isinstance PyProof.Rows.boot_isinstance (pa_cons (pv 1) (pa_cons (pe_bltn (v := .ty "int") (by rfl) T.int PyProof.Rows.boot_int rfl) pa_nil)))) (pss_one (ps_ret (pe_and (pe_call (ok_l_is_integer T) (hr.mono (by omega)) rfl T.D_l_is_integer.g T.D_l_is_integer.F.kp T.D_l_is_integer.b .nil pass0 (pa_cons (pv 0) pa_nil)) (pe_one (pe_cmpR op_eq (pv 0) (pv 1) (nomark _)))))) pss_nil)
    (pss_cons (ps_if (pt_val (pe_callB call_isi (by rfl) T.isinstance PyProof.Rows.boot_isinstance (pa_cons (pv 1) (pa_cons (pe_bltn (v := .ty "str") (by rfl) T.str PyProof.Rows.boot_str rfl) pa_nil)))) (pss_one (ps_ret (pe_and (pe_callB call_isi (by rfl) T.isinstance PyProof.Rows.boot_isinstance (pa_cons (pv 0) (pa_cons (pe_bltn (v := .ty "str") (by rfl) T.str PyProof.Rows.boot_str rfl) pa_nil))) (pe_one (pe_cmpR op_eq (pv 0) (pv 1) (nomark _)))))) pss_nil)
    (pss_cons (ps_if (PW.pt (pw_and (pt_val (pe_callB call_isi (by rfl) T.isinstance PyProof.Rows.boot_isinstance (pa_cons (pv 1) (pa_cons (pe_bltn (v := .ty "tuple") (by rfl) T.tuple PyProof.Rows.boot_tuple rfl) pa_nil)))) (pw_and1 (pt_not (pt_val (pe_callB call_isi (by rfl) T.isinstance PyProof.Rows.boot_isinstance (pa_cons (pv 0) (pa_cons (pe_bltn (v := .ty "tuple") (by rfl) T.tuple PyProof.Rows.boot_tuple rfl) pa_nil)))))))) (pss_one (ps_ret pe_bl)) pss_nil)
    (pss_cons (ps_if (PW.pt (pw_and (pt_val (pe_callB call_isi (by rfl) T.isinstance PyProof.Rows.boot_isinstance (pa_cons (pv 1) (pa_cons (pe_bltn (v := .ty "list") (by rfl) T.list PyProof.Rows.boot_list rfl) pa_nil)))) (pw_and1 (pt_not (pt_val (pe_callB call_isi (by rfl) T.isinstance PyProof.Rows.boot_isinstance (pa_cons (pv 0) (pa_cons (pe_bltn (v := .ty "list") (by rfl) T.list PyProof.Rows.boot_list rfl) pa_nil)))))))) (pss_one (ps_ret pe_bl)) pss_nil)
    (pss_cons (ps_if (pt_cmpR op_ne (pe_callB call_len_seq (by rfl) T.len PySem.boot_len (pa_cons (pv 0) pa_nil)) (pe_callB call_len_seq (by rfl) T.len PySem.boot_len (pa_cons (pv 1) pa_nil)) (nomark _)) (pss_one (ps_ret pe_bl)) pss_nil)
    (pss_one (ps_ret (pe_callB (cr_all rfl) (by rfl) T.all (by decide +kernel) (pa_cons (pe_lc (own := [("at", 2)]) (g := gName 2) rfl sc_l_equal.nd (pi_range1 rfl T.range (pa_cons (pe_callB call_len_seq (by rfl) T.len PySem.boot_len (pa_cons (pv 1) pa_nil)) pa_nil)) (blkOk_by (own := [("at", 2)]) (N := ["actual", "due", "at"]) (sc := defScope s_l_equal) (by decide +kernel)) (fun _ _ _ _ _ => pg_name (i := 2) sc_l_equal.nd rfl (Or.inl rfl)) (fun _ _ _ _ _ => pts_nil) (fun _ _ _ _ _ => (pe_call ih (hr.mono (by omega)) rfl T.D_l_equal.g T.D_l_equal.F.kp T.D_l_equal.b .nil pass0 (pa_cons (pe_ix (r := rIx K) ix_seq (pv 0) (pv 2) (fun _ _ => rfl)) (pa_cons (pe_ix (r := rIx K) ix_seq (pv 1) (pv 2) (fun _ _ => rfl)) pa_nil))))) pa_nil))))))))))), ?_⟩
      rcases hE with (⟨rfl, rfl⟩ | ⟨b, rfl, rfl⟩ | ⟨i, rfl, rfl⟩ | ⟨z, rfl, rfl⟩) | ⟨a, b, xs, ys, rfl, rfl, hab, hl, hz, hi⟩
      · exact ⟨_, rfl, rfl, _, rfl, iteD1 rfl ⟨_, rfl, rfl, k0⟩⟩
      · refine ⟨_, rfl, rfl, _, rfl, iteD0 (by intro e; cases e) ?_⟩
        refine ⟨_, rfl, _, _, _, _, true, rfl, .ty "bool", ty_bl _, kit_ty (by decide +kernel), true, rfl, iteT ?_⟩
        refine ⟨_, rfl, _, _, _, _, true, rfl, .ty "bool", ty_bl _, kit_ty (by decide +kernel), true, rfl, iteT ⟨_, rfl, _, rfl, rfl, ?_⟩⟩
        rw [decide_eq_true rfl]
        exact k0
      · refine ⟨_, rfl, rfl, _, rfl, iteD0 (by intro e; cases e) ?_⟩
        refine ⟨_, rfl, _, _, _, _, false, rfl, .ty "bool", ty_int _, kit_ty (by decide +kernel), false, rfl, iteF ?_⟩
        refine ⟨_, rfl, _, _, _, _, true, rfl, .ty "int", ty_int _, kit_ty (by decide +kernel), true, rfl, iteT ?_⟩
        refine ⟨_, rfl, _, _, rfl, ty_int _, (by decide), _, rfl, iteD1 rfl ⟨_, rfl, _, rfl, rfl, ?_⟩⟩
        rw [decide_eq_true rfl]
        exact k0
      · refine ⟨_, rfl, rfl, _, rfl, iteD0 (by intro e; cases e) ?_⟩
        refine ⟨_, rfl, _, _, _, _, false, rfl, .ty "bool", ty_str _, kit_ty (by decide +kernel), false, rfl, iteF ?_⟩
        refine ⟨_, rfl, _, _, _, _, false, rfl, .ty "int", ty_str _, kit_ty (by decide +kernel), false, rfl, iteF ?_⟩
        refine ⟨_, rfl, _, _, _, _, true, rfl, .ty "str", ty_str _, kit_ty (by decide +kernel), true, rfl, iteT ?_⟩
        refine ⟨_, rfl, _, _, _, _, true, rfl, .ty "str", ty_str _, kit_ty (by decide +kernel), true, rfl, iteT ⟨_, rfl, _, rfl, rfl, ?_⟩⟩
        rw [decide_eq_true rfl]
        exact k0
      · have sa : SqL K H a xs ∨ SqT K H a xs := hab.elim (fun z => .inr z.1) (fun z => .inl (SqL.of z.1))
        have sb : SqL K H b ys ∨ SqT K H b ys := hab.elim (fun z => .inr z.2) (fun z => .inl (SqL.of z.2))
        have up_ : ∀ {H' : Hp}, Same H H' → ∀ {c : Addr} {zs : List V}, (SqL K H c zs ∨ SqT K H c zs) → SqL K H' c zs ∨ SqT K H' c zs := by
          intro H' e c zs z
          rcases z with q | q
          · exact .inl (e.seq q)
          · refine .inr ?_
            rcases q with (q | ⟨o, q⟩) | q
            · exact .inl (.inl (e _ _ q))
            · exact .inl (.inr ⟨o, e _ _ q⟩)
            · exact .inr q
        have hys : ys.length < 1000 := by omega
        refine ⟨_, rfl, rfl, _, rfl, iteD0 (by intro e; cases e) ?_⟩
        rcases hab with ⟨ha, hb⟩ | ⟨ha, hb⟩
        case' inl =>
          refine ⟨_, rfl, _, _, _, _, false, rfl, .ty "bool", ty_sqT hb, kit_ty (by decide +kernel), false, rfl, iteF ?_⟩
          refine ⟨_, rfl, _, _, _, _, false, rfl, .ty "int", ty_sqT hb, kit_ty (by decide +kernel), false, rfl, iteF ?_⟩
          refine ⟨_, rfl, _, _, _, _, false, rfl, .ty "str", ty_sqT hb, kit_ty (by decide +kernel), false, rfl, iteF ?_⟩
          refine ⟨_, rfl, _, _, _, _, true, rfl, .ty "tuple", ty_sqT hb, kit_ty (by decide +kernel), true, rfl, iteT ⟨_, rfl, _, _, _, _, true, rfl, .ty "tuple", ty_sqT ha, kit_ty (by decide +kernel), true, rfl, iteF ?_⟩⟩
          refine ⟨_, rfl, _, _, _, _, false, rfl, .ty "list", ty_sqT hb, kit_ty (by decide +kernel), false, rfl, iteF (iteF ?_)⟩
        case' inr =>
          refine ⟨_, rfl, _, _, _, _, false, rfl, .ty "bool", ty_lst hb, kit_ty (by decide +kernel), false, rfl, iteF ?_⟩
          refine ⟨_, rfl, _, _, _, _, false, rfl, .ty "int", ty_lst hb, kit_ty (by decide +kernel), false, rfl, iteF ?_⟩
          refine ⟨_, rfl, _, _, _, _, false, rfl, .ty "str", ty_lst hb, kit_ty (by decide +kernel), false, rfl, iteF ?_⟩
          refine ⟨_, rfl, _, _, _, _, false, rfl, .ty "tuple", ty_lst hb, kit_ty (by decide +kernel), false, rfl, iteF (iteF ?_)⟩
          refine ⟨_, rfl, _, _, _, _, true, rfl, .ty "list", ty_lst hb, kit_ty (by decide +kernel), true, rfl, iteT ⟨_, rfl, _, _, _, _, true, rfl, .ty "list", ty_lst ha, kit_ty (by decide +kernel), true, rfl, iteF ?_⟩⟩
        all_goals
          refine ⟨_, rfl, a, xs, rfl, sa, _, rfl, b, ys, rfl, sb, rfl, _, rfl, iteNS (by rw [hl]) ?_⟩
          refine ⟨_, rfl, b, ys, rfl, sb, _, rfl, (by omega), (by omega), fun D hD => ?_⟩
          refine lc_range (lo := 0) (n := (ys.length : Int).toNat) (fun i H' => H' D = some (.lst ((List.replicate i true).map V.bl)) ∧ Same H H') ⟨upd_same, same_new hD⟩ ?_ ?_
          · rintro i H' hlt ⟨hd, e⟩
            have hi1 : i < ys.length := by omega
            have hi2 : i < xs.length := by omega
            have gx : xs[i]? = some xs[i] := List.getElem?_eq_getElem hi2
            have gy : ys[i]? = some ys[i] := List.getElem?_eq_getElem hi1
            have e0 : (0 : Int) + (i : Int) = (i : Int) := Int.zero_add _
            refine ⟨rfl, lc_yes ?_⟩
            refine ⟨_, rfl, _, rfl, ?_⟩
            have fin : ∀ H4, Same H' H4 → ∃ acc, H4 D = some (.lst acc) ∧ acc.length < sizeLine ∧ (upd H4 D (.lst (acc ++ [.bl true]))) D = some (.lst ((List.replicate (i + 1) true).map V.bl)) ∧ Same H (upd H4 D (.lst (acc ++ [.bl true]))) := fun H4 e4 => by
              refine ⟨_, e4 _ _ hd, ?_, ?_, fun c o hc => ?_⟩
              · rw [List.length_map, List.length_replicate]
                exact Nat.lt_of_lt_of_le (show i < 1000 by omega) (by decide)
              · rw [upd_same, List.replicate_succ', List.map_append]
                rfl
              · rw [upd_ne (ne_of_none hc hD)]
                exact e4 _ _ (e _ _ hc)
            rcases up_ e sa with sa' | sa'
            case' inl => refine .inl ⟨a, xs, _, xs[i], rfl, rfl, sa', at_of e0 gx, _, rfl, _, rfl, ?_⟩
            case' inr => refine .inr (.inl ⟨a, xs, _, xs[i], rfl, rfl, sa', at_of e0 gx, _, rfl, _, rfl, ?_⟩)
            all_goals
              rcases up_ e sb with sb' | sb'
              case' inl => refine .inl ⟨b, ys, _, ys[i], rfl, rfl, sb', at_of e0 gy, ?_⟩
              case' inr => refine .inr (.inl ⟨b, ys, _, ys[i], rfl, rfl, sb', at_of e0 gy, ?_⟩)
              all_goals exact ⟨xs[i], ys[i], rfl, (hi i _ _ gx gy).same e, fin⟩
          · rintro H' ⟨hd, e⟩
            refine ⟨D, _, rfl, SqL.of hd, ?_⟩
            have z : (List.replicate (ys.length : Int).toNat true).all id = true := by simp
            rw [z]
            exact k H' e
end
/-! ### squares -/
def isSq (n : Int) : Prop := ∃ r : Int, 0 ≤ r ∧ r * r = n
theorem sq_mono {a b : Int} (h0 : 0 ≤ a) (h : a ≤ b) : a * a ≤ b * b := Int.mul_self_le_mul_self h0 h
theorem root_uniq {n r q : Int} (r0 : 0 ≤ r) (q0 : 0 ≤ q) (r1 : r * r ≤ n) (r2 : n < (r + 1) * (r + 1)) (q1 : q * q ≤ n) (q2 : n < (q + 1) * (q + 1)) : r = q := by
  rcases (show r < q ∨ r = q ∨ q < r by omega) with h | h | h
  · have := sq_mono (show 0 ≤ r + 1 by omega) (show r + 1 ≤ q by omega)
    omega
  · exact h
  · have := sq_mono (show 0 ≤ q + 1 by omega) (show q + 1 ≤ r by omega)
    omega
theorem root_size {n r : Int} {a : Nat} (r0 : 0 ≤ r) (r1 : r * r ≤ n) (hn : n.natAbs < 2 ^ (a + a)) : r.natAbs < 2 ^ a := by
  rcases (show r.natAbs < 2 ^ a ∨ 2 ^ a ≤ r.natAbs by omega) with h | h
  · exact h
  · exfalso
    have h1 : 2 ^ a * 2 ^ a ≤ r.natAbs * r.natAbs := Nat.mul_le_mul h h
    rw [← Nat.pow_add, ← Int.natAbs_mul] at h1
    have h2 : 0 ≤ r * r := Int.mul_nonneg r0 r0
    omega
theorem two_sq : ∀ (r s : Nat), r * r = 2 * (s * s) → s = 0 := by
  intro r
  induction r using Nat.strongRecOn with
  | _ r ih =>
    intro s h
    have he : r % 2 = 0 := by
      have h1 : (r * r) % 2 = 0 := by rw [h]; exact Nat.mul_mod_right 2 _
      rw [Nat.mul_mod] at h1
      rcases (show r % 2 = 0 ∨ r % 2 = 1 by omega) with z | z
      · exact z
      · rw [z] at h1; cases h1
    obtain ⟨t, ht⟩ : ∃ t, r = 2 * t := ⟨r / 2, by omega⟩
    subst ht
    have h2 : s * s = 2 * (t * t) := by
      have e : 2 * t * (2 * t) = 2 * (2 * (t * t)) := by
        rw [Nat.mul_assoc, Nat.mul_left_comm t 2 t]
      rw [e] at h
      omega
    by_cases z : s = 0
    · exact z
    · exfalso
      have hlt : s < 2 * t := by
        rcases (show s < 2 * t ∨ 2 * t ≤ s by omega) with q | q
        · exact q
        · exfalso
          have h3 := Nat.mul_le_mul q q
          rw [h] at h3
          have : 0 < s * s := Nat.mul_pos (by omega) (by omega)
          omega
      have ht0 := ih s hlt t h2
      rw [ht0] at hlt
      omega
theorem two_not_sq {f : Int} (h0 : 0 < f) (h : isSq f) : ¬ isSq (f * 2) := by
  rintro ⟨r, hr, er⟩
  obtain ⟨s, hs, es⟩ := h
  have h1 : r.natAbs * r.natAbs = 2 * (s.natAbs * s.natAbs) := by
    rw [← Int.natAbs_mul, ← Int.natAbs_mul, er, es]
    omega
  have h2 := two_sq _ _ h1
  have h3 : s = 0 := by omega
  rw [h3] at es
  omega
/-! ### pairs in lowest terms -/
abbrev Q2 := Int × Int
def RatAt (H : Hp) (p : Addr) (q : Q2) : Prop := H p = some (.tup [.int q.1, .int q.2])
def EltAt (H : Hp) (e : Addr) (x y : Q2) : Prop := ∃ px py, H e = some (.tup [.ref px, .ref py]) ∧ RatAt H px x ∧ RatAt H py y
theorem EltAt.same {H H' : Hp} {e : Addr} {x y : Q2} (s : Same H H') (h : EltAt H e x y) : EltAt H' e x y := by
  obtain ⟨px, py, h1, h2, h3⟩ := h
  exact ⟨px, py, s _ _ h1, s _ _ h2, s _ _ h3⟩
def Sm (n : Nat) (q : Q2) : Prop := 1 ≤ q.2 ∧ q.1.natAbs < 2 ^ n ∧ q.2.natAbs < 2 ^ n
theorem Sm.up {n : Nat} (m : Nat) {q : Q2} (h : Sm n q) (hm : n ≤ m := by decide) : Sm m q := ⟨h.1, Odds.up n h.2.1 hm, Odds.up n h.2.2 hm⟩
def qPlus (x y : Q2) : Q2 := (lo1 (nPlus x.1 x.2 y.1 y.2) (dBoth x.1 x.2 y.1 y.2), lo2 (nPlus x.1 x.2 y.1 y.2) (dBoth x.1 x.2 y.1 y.2))
def qMinus (x y : Q2) : Q2 := (lo1 (nMinus x.1 x.2 y.1 y.2) (dBoth x.1 x.2 y.1 y.2), lo2 (nMinus x.1 x.2 y.1 y.2) (dBoth x.1 x.2 y.1 y.2))
def qTimes (x y : Q2) : Q2 := (lo1 (nTimes x.1 x.2 y.1 y.2) (dBoth x.1 x.2 y.1 y.2), lo2 (nTimes x.1 x.2 y.1 y.2) (dBoth x.1 x.2 y.1 y.2))
theorem Sm.den {n m : Nat} {x y : Q2} (hx : Sm n x) (hy : Sm m y) : dBoth x.1 x.2 y.1 y.2 ≠ 0 := Int.mul_ne_zero (by have := hx.1; omega) (by have := hy.1; omega)
theorem sm_lo {n : Nat} {N D : Int} (h : D ≠ 0) (hN : N.natAbs < 2 ^ n) (hD : D.natAbs < 2 ^ n) : Sm n (lo1 N D, lo2 N D) :=
  ⟨lo2_pos h, Nat.lt_of_le_of_lt (lo1_size h) hN, Nat.lt_of_le_of_lt (lo2_size h) hD⟩
theorem Sm.plus {n : Nat} {x y : Q2} (hx : Sm n x) (hy : Sm n y) : Sm (n + n + 1) (qPlus x y) :=
  sm_lo (hx.den hy) (add_up (n + n) (mul_up n n hx.2.1 hy.2.2 (Nat.le_refl _)) (mul_up n n hy.2.1 hx.2.2 (Nat.le_refl _)) (Nat.le_refl _)) (mul_up n n hx.2.2 hy.2.2 (Nat.le_succ _))
theorem Sm.minus {n : Nat} {x y : Q2} (hx : Sm n x) (hy : Sm n y) : Sm (n + n + 1) (qMinus x y) :=
  sm_lo (hx.den hy) (sub_up (n + n) (mul_up n n hx.2.1 hy.2.2 (Nat.le_refl _)) (mul_up n n hy.2.1 hx.2.2 (Nat.le_refl _)) (Nat.le_refl _)) (mul_up n n hx.2.2 hy.2.2 (Nat.le_succ _))
theorem Sm.times {n m : Nat} {x y : Q2} (hx : Sm n x) (hy : Sm m y) : Sm (n + m) (qTimes x y) :=
  sm_lo (hx.den hy) (mul_up n m hx.2.1 hy.2.1 (Nat.le_refl _)) (mul_up n m hx.2.2 hy.2.2 (Nat.le_refl _))
theorem qPlus_comm (x y : Q2) : qPlus x y = qPlus y x := by
  have e1 : nPlus x.1 x.2 y.1 y.2 = nPlus y.1 y.2 x.1 x.2 := by unfold nPlus; rw [Int.add_comm]
  have e2 : dBoth x.1 x.2 y.1 y.2 = dBoth y.1 y.2 x.1 x.2 := by unfold dBoth; rw [Int.mul_comm]
  unfold qPlus
  rw [e1, e2]
theorem qTimes_comm (x y : Q2) : qTimes x y = qTimes y x := by
  have e1 : nTimes x.1 x.2 y.1 y.2 = nTimes y.1 y.2 x.1 x.2 := by unfold nTimes; rw [Int.mul_comm]
  have e2 : dBoth x.1 x.2 y.1 y.2 = dBoth y.1 y.2 x.1 x.2 := by unfold dBoth; rw [Int.mul_comm]
  unfold qTimes
  rw [e1, e2]
theorem qMinus_neg (x y : Q2) : qMinus x y = qPlus x (0 - y.1, y.2) := by
  have e1 : nMinus x.1 x.2 y.1 y.2 = nPlus x.1 x.2 (0 - y.1) y.2 := by
    unfold nMinus nPlus
    rw [Int.sub_mul, Int.zero_mul, Int.zero_sub, Int.sub_eq_add_neg]
  have e2 : dBoth x.1 x.2 y.1 y.2 = dBoth x.1 x.2 (0 - y.1) y.2 := rfl
  unfold qMinus qPlus
  rw [e1, e2]
/-- two rationals in, a new one out, by pairs -/
@[irreducible] def spQ (F : Q2 → Q2 → Q2) : Sp := fun vs H Q _ => ∃ (p q : Addr) (x y : Q2), vs = [.ref p, .ref q] ∧ RatAt H p x ∧ RatAt H q y ∧ Sm 4000 x ∧ Sm 4000 y ∧
  ∀ (r : Addr) (H' : Hp), Same H H' → H r = none → RatAt H' r (F x y) → Q (.ref r) H'
theorem b_q {F : Q2 → Q2 → Q2} {H : Hp} {Q : VK} {E : XK} {p q : Addr} {x y : Q2} (hp : RatAt H p x) (hq : RatAt H q y) (hx : Sm 4000 x) (hy : Sm 4000 y) (k : ∀ (r : Addr) (H' : Hp), Same H H' → H r = none → RatAt H' r (F x y) → Q (.ref r) H') :
    spQ F [.ref p, .ref q] H Q E := by
  unfold spQ
  exact ⟨p, q, x, y, rfl, hp, hq, hx, hy, k⟩
theorem q_bin {N : Int → Int → Int → Int → Int} {F : Q2 → Q2 → Q2} (hF : ∀ x y : Q2, F x y = (lo1 (N x.1 x.2 y.1 y.2) (dBoth x.1 x.2 y.1 y.2), lo2 (N x.1 x.2 y.1 y.2) (dBoth x.1 x.2 y.1 y.2)))
    (vs : List V) (H : Hp) (Q : VK) (E : XK) (h : spQ F vs H Q E) : spBin N dBoth vs H Q E := by
  unfold spQ at h
  obtain ⟨p, q, x, y, rfl, hp, hq, hx, hy, k⟩ := h
  exact ⟨p, q, x.1, x.2, y.1, y.2, rfl, hp, hq, hx.den hy, hx.2.1, hx.2.2, hy.2.1, hy.2.2, fun r H' e n h => k r H' e n (by unfold RatAt; rw [hF]; exact h)⟩
/-- two elements in, a new element out -/
def spElt2 (m : Nat) (F : Int → Q2 → Q2 → Q2 → Q2 → Q2 × Q2) : Sp := fun vs H Q _ => ∃ (f : Int) (a b : Addr) (x y z w : Q2), vs = [.int f, .ref a, .ref b] ∧ EltAt H a x y ∧ EltAt H b z w ∧ Sm m x ∧ Sm m y ∧ Sm m z ∧ Sm m w ∧ f.natAbs < 2 ^ 100 ∧
  ∀ (r : Addr) (H' : Hp), Same H H' → EltAt H' r (F f x y z w).1 (F f x y z w).2 → Q (.ref r) H'
def fMul (f : Int) (x y z w : Q2) : Q2 × Q2 := (qPlus (qTimes x z) (qTimes (f, 1) (qTimes y w)), qPlus (qTimes x w) (qTimes y z))
theorem sm_int {f : Int} {n : Nat} (h : f.natAbs < 2 ^ n) (hn : n ≠ 0 := by decide) : Sm n (f, 1) := ⟨Int.le_refl 1, h, Nat.one_lt_two_pow hn⟩
def spRoot : Sp := fun vs H Q _ => ∃ n : Int, vs = [.int n] ∧ 0 ≤ n ∧ n.natAbs < 2 ^ 7900 ∧ ∀ r : Int, 0 ≤ r → r * r ≤ n → n < (r + 1) * (r + 1) → Q (.int r) H
def spSq : Sp := fun vs H Q _ => ∃ n : Int, vs = [.int n] ∧ 0 ≤ n ∧ n.natAbs < 2 ^ 7900 ∧ ∀ b : Bool, (b = true ↔ isSq n) → Q (.bl b) H
def spField : Sp := fun vs H Q _ => ∃ s : Addr, vs = [.ref s] ∧ Strm H s ∧ ∀ (f : Int) (H' : Hp), (f = 0 ∨ (0 < f ∧ ¬ isSq f)) → f.natAbs < 2 ^ 60 → Strm H' s → Keep s H H' → Q (.int f) H'
/-- a drawn element -/
def spElem : Sp := fun vs H Q _ => ∃ (s : Addr) (f t m : Int), vs = [.ref s, .int f, .int t, .int m] ∧ Strm H s ∧ 0 < t ∧ 0 < m ∧ t.natAbs < 2 ^ 100 ∧ m.natAbs < 2 ^ 100 ∧
  ∀ (e px py : Addr) (H' : Hp) (x y : Q2), Sm 100 x → Sm 100 y → Nat.gcd x.1.natAbs x.2.natAbs = 1 → Nat.gcd y.1.natAbs y.2.natAbs = 1 → (f = 0 → y = (0, 1)) → x.1.natAbs ≤ t.natAbs → y.1.natAbs ≤ t.natAbs → x.2 ≤ m → y.2 ≤ m →
    Strm H' s → Keep s H H' → e ≠ s → px ≠ s → py ≠ s → H' e = some (.tup [.ref px, .ref py]) → RatAt H' px x → RatAt H' py y → Q (.ref e) H'
theorem Strm.ne {H : Hp} {s b : Addr} (h : Strm H s) (n : H b = none) : b ≠ s := by
  obtain ⟨_, _, _, _, h1, _⟩ := h
  exact (ne_of_none h1 n).symm
section
variable {P : Program} {w : World} {K : PySem.W.Frag} {mg : Str → Option Value} {base : Heap}
theorem ok_l_plusQ (T : Txt K mg) : FnOk P w K mg base CX0 3 T.f_l_plus T.fd_l_plus ["a", "b"] (spQ qPlus) := (ok_l_plus T).imp (q_bin fun _ _ => rfl)
theorem ok_l_timesQ (T : Txt K mg) : FnOk P w K mg base CX0 3 T.f_l_times T.fd_l_times ["a", "b"] (spQ qTimes) := (ok_l_times T).imp (q_bin fun _ _ => rfl)
theorem ok_plusQ (T : Txt K mg) : FnOk P w K mg base CX0 4 T.f_plus T.fd_plus ["a", "b"] (spQ qPlus) := (ok_plus T).imp (q_bin fun _ _ => rfl)
theorem ok_minusQ (T : Txt K mg) : FnOk P w K mg base CX0 4 T.f_minus T.fd_minus ["a", "b"] (spQ qMinus) := (ok_minus T).imp (q_bin fun _ _ => rfl)
theorem ok_timesQ (T : Txt K mg) : FnOk P w K mg base CX0 4 T.f_times T.fd_times ["a", "b"] (spQ qTimes) := (ok_times T).imp (q_bin fun _ _ => rfl)
end
section
variable {P : Program} {w : World} {K : PySem.W.Frag} {mg : Str → Option Value} {base : Heap}
theorem ok_l_root (T : Txt K mg) : FnOk P w K mg base CX0 1 T.f_l_root T.fd_l_root ["n"] spRoot := by
  refine T.D_l_root.F.ok sc_l_root (fun vs H Q E h => ?_) (fun cdv A outer s H vs Q E hr h => ?_)
  · obtain ⟨n, rfl, _⟩ := h
    rfl
  · obtain ⟨n, rfl, h0, hb, k⟩ := h
    have pw : ∀ i : Nat, i ≤ 4000 → ((2 ^ i : Nat) : Int).natAbs < 2 ^ 4001 := fun i hi => by
      rw [Int.natAbs_natCast]
      exact Nat.pow_lt_pow_right (by decide) (by omega)
    have nlt : n < ((2 ^ 4000 : Nat) : Int) * ((2 ^ 4000 : Nat) : Int) := by
      rw [← Int.natCast_mul, ← Nat.pow_add]
      have : 2 ^ 7900 ≤ 2 ^ (4000 + 4000) := Nat.pow_le_pow_right (by decide) (by decide)
      omega
    refine ⟨_, (pss_cons (ps_set (i := 1) sc_l_root.nd rfl (Or.inl rfl) pe_int)
    (pss_cons (ps_set (i := 2) sc_l_root.nd rfl (Or.inl rfl) pe_int)
    (C8.pss_cut (ps_for PassesOwn.never rfl (pi_range1 rfl T.range (pa_cons pe_int pa_nil)) (pg_name (i := 3) sc_l_root.nd rfl (Or.inl rfl)) (pss_cons (ps_if (pt_cmpR op_gt (pe_op op_mulW (pv 2) (pv 2)) (pv 0) (nomark _)) (pss_one ps_break) pss_nil)
    (pss_one (ps_set (i := 2) sc_l_root.nd rfl (Or.inl rfl) (pe_op op_mul (pv 2) pe_int)))))
    (C8.pss_cut (ps_for PassesOwn.never rfl (pi_range1 rfl T.range (pa_cons pe_int pa_nil)) (pg_name (i := 3) sc_l_root.nd rfl (Or.inl rfl)) (pss_cons (ps_if (pt_cmpR op_lt (pe_op op_sub (pv 2) (pv 1)) pe_int (nomark _)) (pss_one ps_break) pss_nil)
    (pss_cons (ps_set (i := 4) sc_l_root.nd rfl (Or.inl rfl) (pe_op op_fdiv (pe_op op_add (pv 1) (pv 2)) pe_int))
    (pss_one (ps_if (pt_cmpR op_gt (pe_op op_mulW (pv 4) (pv 4)) (pv 0) (nomark _)) (pss_one (ps_set (i := 2) sc_l_root.nd rfl (Or.inl rfl) (pv 4))) (pss_one (ps_set (i := 1) sc_l_root.nd rfl (Or.inl rfl) (pv 4))))))))
    (pss_one (ps_ret (pv 1))))))), ?_⟩
    refine ⟨fun σ H' => H' = H ∧ ∃ (i : Nat) (v : Option V), σ = [some (.int n), some (.int 0), some (.int ((2 ^ i : Nat) : Int)), v, none] ∧ i ≤ 4000 ∧ n < ((2 ^ i : Nat) : Int) * ((2 ^ i : Nat) : Int), ?_, ?_⟩
    · refine ⟨4000, rfl, by decide, by decide, for_range (lo := 0) (n := 4000) (fun i σ H' => H' = H ∧ i ≤ 4000 ∧ ∃ v : Option V, σ = [some (.int n), some (.int 0), some (.int ((2 ^ i : Nat) : Int)), v, none]) ⟨rfl, by omega, none, rfl⟩ ?_ ?_⟩
      · rintro i σ H' hi ⟨rfl, _, v, rfl⟩
        refine ⟨_, rfl, _, rfl, _, _, rfl, rfl, cmulw (pw i (by omega)) (pw i (by omega)) (by decide), _, rfl, _, _, rfl, rfl, _, rfl, iteD (fun hgt => ?_) (fun hgt => ?_)⟩
        · exact ⟨rfl, i, _, rfl, by omega, hgt⟩
        · refine ⟨_, rfl, _, _, rfl, rfl, .inr ⟨by decide, by decide⟩, rfl, by omega, some (.int (0 + (i : Int))), ?_⟩
          have e : ((2 ^ i : Nat) : Int) * 2 = ((2 ^ (i + 1) : Nat) : Int) := by
            rw [Nat.pow_succ, Int.natCast_mul]
            rfl
          rw [← e]
          rfl
      · rintro σ H' ⟨rfl, _, v, rfl⟩
        exact ⟨rfl, 4000, v, rfl, by omega, nlt⟩
    rintro σ H' ⟨rfl, i0, v0, rfl, hi0, hn0⟩
    refine ⟨fun σ H'' => H'' = H' ∧ ∃ (lo hi : Int) (v v4 : Option V), σ = [some (.int n), some (.int lo), some (.int hi), v, v4] ∧ 0 ≤ lo ∧ lo * lo ≤ n ∧ n < (lo + 1) * (lo + 1), ?_, ?_⟩
    · refine ⟨4000, rfl, by decide, by decide, for_range (lo := 0) (n := 4000) (fun i σ H'' => H'' = H' ∧ ∃ (lo hi : Int) (v v4 : Option V), σ = [some (.int n), some (.int lo), some (.int hi), v, v4] ∧ 0 ≤ lo ∧ lo < hi ∧ lo * lo ≤ n ∧ n < hi * hi ∧
        hi - lo ≤ ((2 ^ (4000 - i) : Nat) : Int) ∧ hi.natAbs < 2 ^ 4001) ⟨rfl, 0, _, v0, none, rfl, Int.le_refl _, ?_, h0, hn0, ?_, pw i0 hi0⟩ ?_ ?_⟩
      · have := Nat.two_pow_pos i0
        omega
      · have : 2 ^ i0 ≤ 2 ^ (4000 - 0) := Nat.pow_le_pow_right (by decide) (by omega)
        omega
      · rintro i σ H'' hi ⟨rfl, lo, hg, v, v4, rfl, l0, lh, l1, l2, l3, l4⟩
        refine ⟨_, rfl, _, rfl, _, _, rfl, rfl, _, _, rfl, rfl, _, rfl, iteD (fun hlt => ?_) (fun hlt => ?_)⟩
        · have e : hg = lo + 1 := by
            have : hg - lo < 2 := hlt
            omega
          subst e
          exact ⟨rfl, lo, _, _, _, rfl, l0, l1, l2⟩
        · have hge : 2 ≤ hg - lo := by
            have : ¬ hg - lo < 2 := hlt
            omega
          have e2 : 2 ^ (4000 - i) = 2 * 2 ^ (4000 - (i + 1)) := by
            rw [show 4000 - i = (4000 - (i + 1)) + 1 by omega, Nat.pow_succ, Nat.mul_comm]
          have mb : ((lo + hg) / 2).natAbs < 2 ^ 4001 := by omega
          refine ⟨_, rfl, _, rfl, _, _, rfl, rfl, _, _, rfl, rfl, ⟨by decide, by decide⟩, ?_⟩
          refine ⟨_, rfl, _, rfl, _, _, rfl, rfl, cmulw mb mb (by decide), _, rfl, _, _, rfl, rfl, _, rfl, iteD (fun hgt => ?_) (fun hgt => ?_)⟩
          · exact ⟨_, rfl, rfl, lo, _, _, _, rfl, l0, by omega, l1, hgt, by omega, mb⟩
          · exact ⟨_, rfl, rfl, _, hg, _, _, rfl, by omega, by omega, Int.not_lt.mp hgt, l2, by omega, l4⟩
      · rintro σ H'' ⟨rfl, lo, hg, v, v4, rfl, l0, lh, l1, l2, l3, l4⟩
        have e : hg = lo + 1 := by
          have : (2 : Nat) ^ (4000 - 4000) = 1 := rfl
          rw [this] at l3
          omega
        subst e
        exact ⟨rfl, lo, _, _, _, rfl, l0, l1, l2⟩
    rintro σ H'' ⟨rfl, lo, hg, v, v4, rfl, l0, l1, l2⟩
    exact ⟨_, rfl, k lo l0 l1 l2⟩
theorem ok_l_is_square (T : Txt K mg) : FnOk P w K mg base CX0 2 T.f_l_is_square T.fd_l_is_square ["n"] spSq := by
  refine T.D_l_is_square.F.ok sc_l_is_square (fun vs H Q E h => ?_) (fun cdv A outer s H vs Q E hr h => ?_)
  · obtain ⟨n, rfl, _⟩ := h
    rfl
  · obtain ⟨n, rfl, h0, hb, k⟩ := h
    refine ⟨_, (pss_one (ps_ret (pe_cmpR op_eq (pe_op op_mulW (pe_call (ok_l_root T) (hr.mono (by omega)) rfl T.D_l_root.g T.D_l_root.F.kp T.D_l_root.b .nil pass0 (pa_cons (pv 0) pa_nil)) (pe_call (ok_l_root T) (hr.mono (by omega)) rfl T.D_l_root.g T.D_l_root.F.kp T.D_l_root.b .nil pass0 (pa_cons (pv 0) pa_nil))) (pv 0) (nomark _)))), ?_⟩
    refine ⟨_, rfl, n, rfl, h0, hb, fun r r0 r1 r2 => ⟨_, rfl, n, rfl, h0, hb, fun q q0 q1 q2 => ?_⟩⟩
    have e := root_uniq q0 r0 q1 q2 r1 r2
    subst e
    have rb : q.natAbs < 2 ^ 3950 := root_size q0 q1 hb
    refine ⟨_, _, rfl, rfl, cmulw rb rb (by decide), _, rfl, rfl, ?_⟩
    refine k _ ⟨fun z => ?_, fun z => ?_⟩
    · have h1 := of_decide_eq_true z
      injection h1 with h2
      exact ⟨q, q0, h2⟩
    · obtain ⟨u, u0, hu⟩ := z
      have e : (u + 1) * (u + 1) = u * u + u + u + 1 := by
        rw [Int.add_mul, Int.mul_add]
        omega
      have : q = u := root_uniq q0 u0 q1 q2 (by omega) (by omega)
      subst this
      exact decide_eq_true (congrArg V.int hu)
theorem ok_l_field (T : Txt K mg) : FnOk P w K mg base CX0 3 T.f_l_field T.fd_l_field ["stream"] spField := by
  refine T.D_l_field.F.ok sc_l_field (fun vs H Q E h => ?_) (fun cdv A outer st H vs Q E hr h => ?_)
  · obtain ⟨s, rfl, _⟩ := h
    rfl
  · obtain ⟨s, rfl, hs, k⟩ := h
    refine ⟨_, (pss_cons (ps_set (i := 1) sc_l_field.nd rfl (Or.inl rfl) (pe_call (ok_l_next T) (hr.mono (by omega)) rfl T.D_l_next.g T.D_l_next.F.kp T.D_l_next.b .nil pass0 (pa_cons (pv 0) (pa_cons pe_int pa_nil))))
    (pss_cons (ps_if (pt_cmpR op_eq (pv 1) pe_int (nomark _)) (pss_one (ps_ret pe_int)) pss_nil)
    (pss_cons (ps_set (i := 2) sc_l_field.nd rfl (Or.inl rfl) (pe_ix (r := rIxL K) ix_list (pe_lst (pa_cons pe_int (pa_cons pe_int (pa_cons pe_int (pa_cons pe_int (pa_cons pe_int (pa_cons pe_int (pa_cons (pe_op op_add pe_int (pe_call (ok_l_next T) (hr.mono (by omega)) rfl T.D_l_next.g T.D_l_next.F.kp T.D_l_next.b .nil pass0 (pa_cons (pv 0) (pa_cons pe_int pa_nil)))) (pa_cons (pe_op op_add pe_int (pe_call (ok_l_next T) (hr.mono (by omega)) rfl T.D_l_next.g T.D_l_next.F.kp T.D_l_next.b .nil pass0 (pa_cons (pv 0) (pa_cons pe_int pa_nil)))) pa_nil))))))))) (pe_call (ok_l_next T) (hr.mono (by omega)) rfl T.D_l_next.g T.D_l_next.F.kp T.D_l_next.b .nil pass0 (pa_cons (pv 0) (pa_cons pe_int pa_nil))) (fun _ _ => rfl)))
    (C8.pss_cut (ps_if (pt_cmpR op_eq (pv 1) pe_int (nomark _)) (pss_one (ps_set (i := 2) sc_l_field.nd rfl (Or.inl rfl) (pe_op op_add pe_int (pe_call (ok_l_next T) (hr.mono (by omega)) rfl T.D_l_next.g T.D_l_next.F.kp T.D_l_next.b .nil pass0 (pa_cons (pv 0) (pa_cons (pe_op op_pow pe_int pe_int) pa_nil)))))) pss_nil)
    (C8.pss_cut (ps_if (pt_val (pe_call (ok_l_is_square T) (hr.mono (by omega)) rfl T.D_l_is_square.g T.D_l_is_square.F.kp T.D_l_is_square.b .nil pass0 (pa_cons (pv 2) pa_nil))) (pss_one (ps_set (i := 2) sc_l_field.nd rfl (Or.inl rfl) (pe_op op_mul (pv 2) pe_int))) pss_nil)
    (pss_one (ps_ret (pv 2)))))))), ?_⟩
    refine ⟨_, rfl, s, 6, rfl, hs, by decide, up 3 (by decide), fun d0 H1 a0 b0 hs1 k1 => ?_⟩
    refine ⟨_, rfl, rfl, _, rfl, ite2 (fun _ => ?_) (fun _ => ?_)⟩
    · exact k 0 H1 (.inl rfl) (by decide) hs1 k1
    · refine ⟨_, rfl, s, 200, rfl, hs1, by decide, up 8 (by decide), fun d1 H2 a1 b1 hs2 k2 => ⟨_, _, rfl, rfl, ?_⟩⟩
      refine ⟨_, rfl, s, 200, rfl, hs2, by decide, up 8 (by decide), fun d2 H3 a2 b2 hs3 k3 => ⟨_, _, rfl, rfl, ?_⟩⟩
      refine ⟨(by show 8 ≤ sizeLine; decide), fun l ql => ?_⟩
      have e3 := same_new (o := .lst [.int 2, .int 3, .int 5, .int 8, .int 12, .int 18, .int (1 + d1), .int (1 + d2)]) ql
      refine ⟨_, rfl, s, 8, rfl, hs3.same e3, by decide, up 4 (by decide), fun d3 H4 a3 b3 hs4 k4 => ?_⟩
      have kk : Keep s H H4 := ((k1.trans k2).trans (k3.trans (Same.keep e3))).trans k4
      obtain ⟨f, hat, f0, f1⟩ : ∃ f : Int, atI [V.int 2, .int 3, .int 5, .int 8, .int 12, .int 18, .int (1 + d1), .int (1 + d2)] d3 = some (V.int f) ∧ 0 < f ∧ f ≤ 200 := by
        obtain rfl | rfl | rfl | rfl | rfl | rfl | rfl | rfl : d3 = 0 ∨ d3 = 1 ∨ d3 = 2 ∨ d3 = 3 ∨ d3 = 4 ∨ d3 = 5 ∨ d3 = 6 ∨ d3 = 7 := by omega
        · exact ⟨_, rfl, by decide, by decide⟩
        · exact ⟨_, rfl, by decide, by decide⟩
        · exact ⟨_, rfl, by decide, by decide⟩
        · exact ⟨_, rfl, by decide, by decide⟩
        · exact ⟨_, rfl, by decide, by decide⟩
        · exact ⟨_, rfl, by decide, by decide⟩
        · exact ⟨_, rfl, by omega, by omega⟩
        · exact ⟨_, rfl, by omega, by omega⟩
      refine ⟨l, _, _, _, rfl, rfl, SqL.of (k4 l _ upd_same (hs3.ne ql)), hat, ?_⟩
      refine ⟨fun σ H' => ∃ f : Int, σ = [some (.ref s), some (.int d0), some (.int f)] ∧ 0 < f ∧ f.natAbs < 2 ^ 50 ∧ Strm H' s ∧ Keep s H H', ?_, ?_⟩
      · refine ⟨_, rfl, rfl, _, rfl, ite2 (fun _ => ?_) (fun _ => ?_)⟩
        · refine ⟨_, rfl, _, _, rfl, rfl, ⟨by decide, by decide, by decide⟩, s, 10 ^ 12, rfl, hs4, by decide, up 50 (by decide), fun d4 H5 a4 b4 hs5 k5 => ⟨_, _, rfl, rfl, ?_⟩⟩
          exact ⟨_, rfl, by omega, by omega, hs5, kk.trans k5⟩
        · exact ⟨f, rfl, f0, by omega, hs4, kk⟩
      rintro σ H5 ⟨f, rfl, f0, fb, hs5, k5⟩
      refine ⟨fun σ H' => ∃ f : Int, σ = [some (.ref s), some (.int d0), some (.int f)] ∧ 0 < f ∧ ¬ isSq f ∧ f.natAbs < 2 ^ 60 ∧ Strm H' s ∧ Keep s H H', ?_, ?_⟩
      · refine ⟨_, rfl, f, rfl, by omega, up 50 fb, fun b hbq => ⟨b, rfl, ?_⟩⟩
        cases b with
        | true =>
          refine iteT ⟨_, rfl, _, _, rfl, rfl, .inr ⟨by decide, by decide⟩, ?_⟩
          exact ⟨_, rfl, by omega, two_not_sq f0 (hbq.mp rfl), by omega, hs5, k5⟩
        | false => exact iteF ⟨f, rfl, f0, fun z => Bool.noConfusion (hbq.mpr z), by omega, hs5, k5⟩
      rintro σ H6 ⟨f, rfl, f0, fq, fb, hs6, k6⟩
      exact ⟨_, rfl, k f H6 (.inr ⟨f0, fq⟩) fb hs6 k6⟩
theorem ok_l_element (T : Txt K mg) : FnOk P w K mg base CX0 4 T.f_l_element T.fd_l_element ["stream", "field", "top", "most"] spElem := by
  refine T.D_l_element.F.ok sc_l_element (fun vs H Q E h => ?_) (fun cdv A outer st H vs Q E hr h => ?_)
  · obtain ⟨s, f, t, m, rfl, _⟩ := h
    rfl
  · obtain ⟨s, f, t, m, rfl, hs, ht, hm, bt, bm, k⟩ := h
    refine ⟨_, (pss_cons (ps_set (i := 4) sc_l_element.nd rfl (Or.inl rfl) (pe_call (ok_l_ratio T) (hr.mono (by omega)) rfl T.D_l_ratio.g T.D_l_ratio.F.kp T.D_l_ratio.b .nil pass0 (pa_cons (pv 0) (pa_cons (pv 2) (pa_cons (pv 3) pa_nil)))))
    (pss_cons (ps_set (i := 5) sc_l_element.nd rfl (Or.inl rfl) (pe_call (ok_l_ratio T) (hr.mono (by omega)) rfl T.D_l_ratio.g T.D_l_ratio.F.kp T.D_l_ratio.b .nil pass0 (pa_cons (pv 0) (pa_cons (pv 2) (pa_cons (pv 3) pa_nil)))))
    (C8.pss_cut (ps_if (PW.pt (pw_or (pt_cmpR op_eq (pv 1) pe_int (nomark _)) (pw_or1 (pt_cmpR op_eq (pe_call (ok_l_next T) (hr.mono (by omega)) rfl T.D_l_next.g T.D_l_next.F.kp T.D_l_next.b .nil pass0 (pa_cons (pv 0) (pa_cons pe_int pa_nil))) pe_int (nomark _))))) (pss_one (ps_set (i := 5) sc_l_element.nd rfl (Or.inl rfl) (pe_tup (pa_cons pe_int (pa_cons pe_int pa_nil))))) pss_nil)
    (C8.pss_cut (ps_if (pt_cmpR op_eq (pe_call (ok_l_next T) (hr.mono (by omega)) rfl T.D_l_next.g T.D_l_next.F.kp T.D_l_next.b .nil pass0 (pa_cons (pv 0) (pa_cons pe_int pa_nil))) pe_int (nomark _)) (pss_one (ps_set (i := 4) sc_l_element.nd rfl (Or.inl rfl) (pe_tup (pa_cons pe_int (pa_cons pe_int pa_nil))))) pss_nil)
    (pss_one (ps_ret (pe_tup (pa_cons (pv 4) (pa_cons (pv 5) pa_nil))))))))), ?_⟩
    refine ⟨_, rfl, _, rfl, _, rfl, s, t, m, rfl, hs, ht, hm, up 100 bt, up 100 bm, fun px H1 xn xd x1 x2 x3 x4 hs1 k1 _ nx hx => ?_⟩
    refine ⟨_, rfl, _, rfl, _, rfl, s, t, m, rfl, hs1, ht, hm, up 100 bt, up 100 bm, fun py H2 yn yd y1 y2 y3 y4 hs2 k2 _ ny hy => ?_⟩
    have hx2 := k2 _ _ hx nx
    refine ⟨fun σ H' => ∃ (py : Addr) (y : Q2), σ = [some (.ref s), some (.int f), some (.int t), some (.int m), some (.ref px), some (.ref py)] ∧ Sm 100 y ∧ Nat.gcd y.1.natAbs y.2.natAbs = 1 ∧ (f = 0 → y = (0, 1)) ∧ y.1.natAbs ≤ t.natAbs ∧ y.2 ≤ m ∧
      py ≠ s ∧ RatAt H' py y ∧ H' px = some (.tup [.int xn, .int xd]) ∧ Strm H' s ∧ Keep s H H', ?_, ?_⟩
    · have zero : ∀ (H' : Hp), Strm H' s → Keep s H H' → H' px = some (.tup [.int xn, .int xd]) → ∀ p, H' p = none → ∃ (py : Addr) (y : Q2), [some (V.ref s), some (.int f), some (.int t), some (.int m), some (.ref px), some (.ref p)] = [some (V.ref s), some (.int f), some (.int t), some (.int m), some (.ref px), some (.ref py)] ∧ Sm 100 y ∧ Nat.gcd y.1.natAbs y.2.natAbs = 1 ∧ (f = 0 → y = (0, 1)) ∧ y.1.natAbs ≤ t.natAbs ∧ y.2 ≤ m ∧
          py ≠ s ∧ RatAt (upd H' p (.tup [.int 0, .int 1])) py y ∧ (upd H' p (.tup [.int 0, .int 1])) px = some (.tup [.int xn, .int xd]) ∧ Strm (upd H' p (.tup [.int 0, .int 1])) s ∧ Keep s H (upd H' p (.tup [.int 0, .int 1])) := fun H' z1 z2 z3 p hp =>
        ⟨p, (0, 1), rfl, sm_int (by decide), rfl, fun _ => rfl, Nat.zero_le _, by show (1 : Int) ≤ m; omega, z1.ne hp, upd_same, same_new hp _ _ z3, z1.same (same_new hp), z2.trans (Same.keep (same_new hp))⟩
      refine ⟨_, rfl, rfl, _, rfl, ?_⟩
      by_cases hf : f = 0
      · refine iteD1 (by rw [hf]) (iteT ⟨(by show 2 ≤ sizeLine; decide), fun p hp => ?_⟩)
        exact zero H2 hs2 (k1.trans k2) hx2 p hp
      · refine iteD0 (fun q => hf (by injection q)) ?_
        refine ⟨_, rfl, s, 6, rfl, hs2, by decide, up 3 (by decide), fun d H3 _ _ hs3 k3 => ⟨rfl, _, rfl, ite2 (fun _ => ?_) (fun _ => ?_)⟩⟩
        · refine ⟨(by show 2 ≤ sizeLine; decide), fun p hp => ?_⟩
          exact zero H3 hs3 ((k1.trans k2).trans k3) (k3 _ _ hx2 nx) p hp
        · exact ⟨py, (yn, yd), rfl, ⟨y1, by show yn.natAbs < 2 ^ 100; omega, by show yd.natAbs < 2 ^ 100; omega⟩, y2, fun z => absurd z hf, y3, y4, ny, k3 _ _ hy ny, k3 _ _ hx2 nx, hs3, (k1.trans k2).trans k3⟩
    rintro σ H3 ⟨py, y, rfl, sy, gy, zy, ty, my, ny, hy, hx3, hs3, k3⟩
    refine ⟨fun σ H' => ∃ (px : Addr) (x : Q2), σ = [some (.ref s), some (.int f), some (.int t), some (.int m), some (.ref px), some (.ref py)] ∧ Sm 100 x ∧ Nat.gcd x.1.natAbs x.2.natAbs = 1 ∧ x.1.natAbs ≤ t.natAbs ∧ x.2 ≤ m ∧ px ≠ s ∧ RatAt H' px x ∧ RatAt H' py y ∧ Strm H' s ∧ Keep s H H', ?_, ?_⟩
    · refine ⟨_, rfl, s, 8, rfl, hs3, by decide, up 4 (by decide), fun d H4 _ _ hs4 k4 => ⟨rfl, _, rfl, ite2 (fun _ => ?_) (fun _ => ?_)⟩⟩
      · refine ⟨(by show 2 ≤ sizeLine; decide), fun p hp => ?_⟩
        exact ⟨p, (0, 1), rfl, sm_int (by decide), rfl, Nat.zero_le _, by show (1 : Int) ≤ m; omega, hs4.ne hp, upd_same, same_new hp _ _ (k4 _ _ hy ny), hs4.same (same_new hp), (k3.trans k4).trans (Same.keep (same_new hp))⟩
      · exact ⟨px, (xn, xd), rfl, ⟨x1, by show xn.natAbs < 2 ^ 100; omega, by show xd.natAbs < 2 ^ 100; omega⟩, x2, x3, x4, nx, k4 _ _ hx3 nx, k4 _ _ hy ny, hs4, k3.trans k4⟩
    rintro σ H4 ⟨px, x, rfl, sx, gx, tx, mx, nx, hx, hy, hs4, k4⟩
    refine ⟨_, rfl, _, rfl, (by show 2 ≤ sizeLine; decide), fun e he => ?_⟩
    have e4 := same_new (o := .tup [.ref px, .ref py]) he
    exact k e px py _ x y sx sy gx gy zy tx ty mx my (hs4.same e4) (k4.trans (Same.keep e4)) (hs4.ne he) nx ny upd_same (e4 _ _ hx) (e4 _ _ hy)
end
/-! ### signs -/
def nrm (f : Int) (x y : Q2) : Q2 := qMinus (qTimes x x) (qTimes (f, 1) (qTimes y y))
def sgF (f : Int) (x y : Q2) : Int := if y.1.sign = 0 ∨ x.1.sign = y.1.sign then x.1.sign else if x.1.sign = 0 then y.1.sign else x.1.sign * (nrm f x y).1.sign
def lsF (f : Int) (x y : Q2) : Int :=
  if 0 ≤ x.1 * y.2 ∧ 0 ≤ y.1 * x.2 * f then (if 0 < x.1 * y.2 ∨ 0 < y.1 * x.2 * f then 1 else 0)
  else if x.1 * y.2 ≤ 0 ∧ y.1 * x.2 * f ≤ 0 then -1
  else if y.1 * x.2 * (y.1 * x.2) * f < x.1 * y.2 * (x.1 * y.2) then (x.1 * y.2).sign else (y.1 * x.2).sign
theorem sign_size (i : Int) : i.sign.natAbs < 2 ^ 2 := by
  rcases Int.lt_trichotomy i 0 with h | h | h
  · rw [Int.sign_eq_neg_one_of_neg h]; decide
  · rw [h]; decide
  · rw [Int.sign_eq_one_of_pos h]; decide
theorem sign_pos_mul {a b : Int} (h : 0 < b) : (a * b).sign = a.sign := by
  rw [Int.sign_mul, Int.sign_eq_one_of_pos h, Int.mul_one]
theorem sign_pos_mul' {a b : Int} (h : 0 < b) : (b * a).sign = a.sign := by
  rw [Int.sign_mul, Int.sign_eq_one_of_pos h, Int.one_mul]
theorem sign_lo {N D : Int} (h : 0 < D) : (lo1 N D).sign = N.sign := by
  have e := lo_cross N D (by omega)
  have p := lo2_pos (n := N) (show D ≠ 0 by omega)
  rw [← sign_pos_mul (a := lo1 N D) h, e, sign_pos_mul' (by omega)]
theorem sq_of {f l r : Int} (hr : r ≠ 0) (h : l * l = r * r * f) : isSq f := by
  have h1 : r.natAbs ^ 2 ∣ l.natAbs ^ 2 := by
    rw [Nat.pow_two, Nat.pow_two, ← Int.natAbs_mul, ← Int.natAbs_mul, h, Int.natAbs_mul (r * r) f]
    exact Nat.dvd_mul_right _ _
  have h2 := (Nat.pow_dvd_pow_iff (by decide)).mp h1
  obtain ⟨t, ht⟩ := Int.natAbs_dvd_natAbs.mp h2
  subst ht
  refine ⟨t.natAbs, by omega, ?_⟩
  have h3 : (r * r) * (t * t) = (r * r) * f := by grind
  have h4 : t * t = f := Int.eq_of_mul_eq_mul_left (Int.mul_ne_zero hr hr) h3
  rw [← h4]
  have := Int.natAbs_mul_self (a := t)
  omega
theorem nrm_sign {f : Int} {x y : Q2} (hx : 1 ≤ x.2) (hy : 1 ≤ y.2) : (nrm f x y).1.sign = (x.1 * y.2 * (x.1 * y.2) - y.1 * x.2 * (y.1 * x.2) * f).sign := by
  have px : 0 < x.2 * x.2 := Int.mul_pos (by omega) (by omega)
  have py : 0 < y.2 * y.2 := Int.mul_pos (by omega) (by omega)
  have cu := lo_cross (x.1 * x.1) (x.2 * x.2) (by omega)
  have pu := lo2_pos (n := x.1 * x.1) (show x.2 * x.2 ≠ 0 by omega)
  have cw := lo_cross (y.1 * y.1) (y.2 * y.2) (by omega)
  have pw := lo2_pos (n := y.1 * y.1) (show y.2 * y.2 ≠ 0 by omega)
  show (lo1 (nMinus (lo1 (x.1 * x.1) (x.2 * x.2)) (lo2 (x.1 * x.1) (x.2 * x.2)) (lo1 (f * (lo1 (y.1 * y.1) (y.2 * y.2))) (1 * (lo2 (y.1 * y.1) (y.2 * y.2)))) (lo2 (f * (lo1 (y.1 * y.1) (y.2 * y.2))) (1 * (lo2 (y.1 * y.1) (y.2 * y.2)))))
    (lo2 (x.1 * x.1) (x.2 * x.2) * (lo2 (f * (lo1 (y.1 * y.1) (y.2 * y.2))) (1 * (lo2 (y.1 * y.1) (y.2 * y.2)))))).sign = _
  generalize lo1 (x.1 * x.1) (x.2 * x.2) = u1 at *
  generalize lo2 (x.1 * x.1) (x.2 * x.2) = u2 at *
  generalize lo1 (y.1 * y.1) (y.2 * y.2) = w1 at *
  generalize lo2 (y.1 * y.1) (y.2 * y.2) = w2 at *
  have nw : (1 * w2 : Int) ≠ 0 := by omega
  have cv := lo_cross (f * w1) (1 * w2) nw
  have pv := lo2_pos (n := f * w1) nw
  generalize lo1 (f * w1) (1 * w2) = v1 at *
  generalize lo2 (f * w1) (1 * w2) = v2 at *
  rw [sign_lo (Int.mul_pos (by omega) (by omega))]
  unfold nMinus
  have key : (u1 * v2 - v1 * u2) * ((x.2 * x.2) * (y.2 * y.2) * w2) = (u2 * v2 * w2) * (x.1 * y.2 * (x.1 * y.2) - y.1 * x.2 * (y.1 * x.2) * f) := by
    obtain ⟨n, d⟩ := x
    obtain ⟨m, e⟩ := y
    dsimp only at *
    grind
  rw [← sign_pos_mul (a := u1 * v2 - v1 * u2) (Int.mul_pos (Int.mul_pos px py) (show 0 < w2 by omega)), key, sign_pos_mul' (Int.mul_pos (Int.mul_pos (by omega) (by omega)) (by omega))]
theorem sg_same {f : Int} {x y : Q2} (hx : 1 ≤ x.2) (hy : 1 ≤ y.2) (hf : f = 0 ∨ (0 < f ∧ ¬ isSq f)) (hz : f = 0 → y.1 = 0) : sgF f x y = lsF f x y := by
  have e1 : (x.1 * y.2).sign = x.1.sign := sign_pos_mul (by omega)
  have e2 : (y.1 * x.2).sign = y.1.sign := sign_pos_mul (by omega)
  have e3 := nrm_sign (f := f) hx hy
  unfold sgF lsF
  rw [e3, ← e1, ← e2]
  generalize x.1 * y.2 = L
  rcases hf with rfl | ⟨f0, fq⟩
  · rw [hz rfl, Int.zero_mul]
    rcases Int.lt_trichotomy L 0 with h | h | h
    · rw [Int.sign_eq_neg_one_of_neg h]
      simp only [Int.sign_zero, true_or, if_true, Int.zero_mul, Int.le_refl, and_true]
      rw [if_neg (by omega), if_pos (by omega)]
    · subst h
      simp
    · rw [Int.sign_eq_one_of_pos h]
      simp only [Int.sign_zero, true_or, if_true, Int.zero_mul, Int.le_refl, and_true]
      rw [if_pos (by omega), if_pos (.inl h)]
  · generalize hR : y.1 * x.2 = R
    have sR : ∀ z : Int, (0 < z ↔ 0 < z * f) ∧ (z < 0 ↔ z * f < 0) := fun z => by
      refine ⟨⟨fun h => Int.mul_pos h f0, fun h => ?_⟩, ⟨fun h => Int.mul_neg_of_neg_of_pos h f0, fun h => ?_⟩⟩
      · rcases Int.lt_trichotomy z 0 with q | q | q
        · have := Int.mul_neg_of_neg_of_pos q f0; omega
        · rw [q, Int.zero_mul] at h; omega
        · exact q
      · rcases Int.lt_trichotomy z 0 with q | q | q
        · exact q
        · rw [q, Int.zero_mul] at h; omega
        · have := Int.mul_pos q f0; omega
    obtain ⟨r1, r2⟩ := sR R
    have ne : R ≠ 0 → L * L ≠ R * R * f := fun hr h => fq (sq_of hr h)
    rcases Int.lt_trichotomy L 0 with hl | hl | hl <;> rcases Int.lt_trichotomy R 0 with hr | hr | hr
    · rw [Int.sign_eq_neg_one_of_neg hl, Int.sign_eq_neg_one_of_neg hr, if_pos (.inr rfl), if_neg (by omega), if_pos (by omega)]
    · rw [Int.sign_eq_neg_one_of_neg hl, hr, Int.zero_mul, if_pos (.inl rfl), if_neg (by omega), if_pos (by omega)]
    · rw [Int.sign_eq_neg_one_of_neg hl, Int.sign_eq_one_of_pos hr, if_neg (by decide), if_neg (by decide), if_neg (by omega), if_neg (by omega)]
      have := ne (by omega)
      rcases (show R * R * f < L * L ∨ L * L < R * R * f by omega) with h | h
      · rw [if_pos h, Int.sign_eq_one_of_pos (by omega)]; rfl
      · rw [if_neg (by omega), Int.sign_eq_neg_one_of_neg (by omega)]; rfl
    · subst hl
      rw [Int.sign_zero, Int.sign_eq_neg_one_of_neg hr, if_neg (by decide), if_pos rfl, if_neg (by omega), if_pos (by omega)]
    · subst hl hr
      rw [Int.sign_zero, Int.zero_mul]
      simp
    · subst hl
      rw [Int.sign_zero, Int.sign_eq_one_of_pos hr, if_neg (by decide), if_pos rfl, if_pos (by omega), if_pos (by omega)]
    · rw [Int.sign_eq_one_of_pos hl, Int.sign_eq_neg_one_of_neg hr, if_neg (by decide), if_neg (by decide), if_neg (by omega), if_neg (by omega)]
      have := ne (by omega)
      rcases (show R * R * f < L * L ∨ L * L < R * R * f by omega) with h | h
      · rw [if_pos h, Int.sign_eq_one_of_pos (by omega)]; rfl
      · rw [if_neg (by omega), Int.sign_eq_neg_one_of_neg (by omega)]; rfl
    · rw [Int.sign_eq_one_of_pos hl, hr, Int.zero_mul, if_pos (.inl rfl), if_pos (by omega), if_pos (by omega)]
    · rw [Int.sign_eq_one_of_pos hl, Int.sign_eq_one_of_pos hr, if_pos (.inr rfl), if_pos (by omega), if_pos (by omega)]
theorem sg_neg {f : Int} {x y : Q2} (hx : 1 ≤ x.2) (hy : 1 ≤ y.2) : sgF f (0 - x.1, x.2) (0 - y.1, y.2) = 0 - sgF f x y := by
  have s1 : ∀ i : Int, (0 - i).sign = - i.sign := fun i => by rw [Int.zero_sub, Int.sign_neg]
  have e3 := nrm_sign (f := f) hx hy
  have e4 := nrm_sign (f := f) (x := (0 - x.1, x.2)) (y := (0 - y.1, y.2)) hx hy
  have e5 : (0 - x.1) * y.2 * ((0 - x.1) * y.2) - (0 - y.1) * x.2 * ((0 - y.1) * x.2) * f = x.1 * y.2 * (x.1 * y.2) - y.1 * x.2 * (y.1 * x.2) * f := by grind
  unfold sgF
  rw [e4, e3]
  dsimp only
  rw [e5, s1, s1]
  by_cases h1 : y.1.sign = 0 ∨ x.1.sign = y.1.sign
  · rw [if_pos h1, if_pos (by omega)]; omega
  · rw [if_neg h1, if_neg (by omega)]
    by_cases h2 : x.1.sign = 0
    · rw [if_pos h2, if_pos (by omega)]; omega
    · rw [if_neg h2, if_neg (by omega), Int.neg_mul]; omega
/-! ### elements with written parts -/
def RatK (K : PySem.W.Frag) (H : Hp) (p : Addr) (q : Q2) : Prop := SqT K H p [.int q.1, .int q.2]
def EltK (K : PySem.W.Frag) (H : Hp) (e : Addr) (x y : Q2) : Prop := ∃ px py, SqT K H e [.ref px, .ref py] ∧ RatK K H px x ∧ RatK K H py y
theorem RatAt.k {K : PySem.W.Frag} {H : Hp} {p : Addr} {q : Q2} (h : RatAt H p q) : RatK K H p q := SqT.of h
theorem RatK.same {K : PySem.W.Frag} {H H' : Hp} {p : Addr} {q : Q2} (s : Same H H') (h : RatK K H p q) : RatK K H' p q := sqT_same s h
theorem EltAt.k {K : PySem.W.Frag} {H : Hp} {p : Addr} {x y : Q2} (h : EltAt H p x y) : EltK K H p x y := by
  obtain ⟨px, py, h1, h2, h3⟩ := h
  exact ⟨px, py, SqT.of h1, h2.k, h3.k⟩
theorem EltK.same {K : PySem.W.Frag} {H H' : Hp} {e : Addr} {x y : Q2} (s : Same H H') (h : EltK K H e x y) : EltK K H' e x y := by
  obtain ⟨px, py, h1, h2, h3⟩ := h
  exact ⟨px, py, sqT_same s h1, h2.same s, h3.same s⟩
@[irreducible] def spQK (K : PySem.W.Frag) (F : Q2 → Q2 → Q2) : Sp := fun vs H Q _ => ∃ (p q : Addr) (x y : Q2), vs = [.ref p, .ref q] ∧ RatK K H p x ∧ RatK K H q y ∧ Sm 4000 x ∧ Sm 4000 y ∧
  ∀ (r : Addr) (H' : Hp), Same H H' → H r = none → RatAt H' r (F x y) → Q (.ref r) H'
theorem b_k {K : PySem.W.Frag} {F : Q2 → Q2 → Q2} {H : Hp} {Q : VK} {E : XK} {p q : Addr} {x y : Q2} (hp : RatK K H p x) (hq : RatK K H q y) (hx : Sm 4000 x) (hy : Sm 4000 y) (k : ∀ (r : Addr) (H' : Hp), Same H H' → H r = none → RatAt H' r (F x y) → Q (.ref r) H') :
    spQK K F [.ref p, .ref q] H Q E := by
  unfold spQK
  exact ⟨p, q, x, y, rfl, hp, hq, hx, hy, k⟩
def spElt2K (K : PySem.W.Frag) (m : Nat) (F : Int → Q2 → Q2 → Q2 → Q2 → Q2 × Q2) : Sp := fun vs H Q _ => ∃ (f : Int) (a b : Addr) (x y z w : Q2), vs = [.int f, .ref a, .ref b] ∧ EltK K H a x y ∧ EltK K H b z w ∧ Sm m x ∧ Sm m y ∧ Sm m z ∧ Sm m w ∧ f.natAbs < 2 ^ 100 ∧
  ∀ (r : Addr) (H' : Hp), Same H H' → EltAt H' r (F f x y z w).1 (F f x y z w).2 → Q (.ref r) H'
section
variable {P : Program} {w : World} {K : PySem.W.Frag} {mg : Str → Option Value} {base : Heap}
theorem ok_l_timesK (T : Txt K mg) : FnOk P w K mg base CX0 3 T.f_l_times T.fd_l_times ["a", "b"] (spQK K qTimes) := by
  refine T.D_l_times.F.ok sc_l_times (fun vs H Q E h => ?_) (fun cdv A outer s H vs Q E hr h => ?_)
  · unfold spQK at h
    obtain ⟨p, q, x, y, rfl, _⟩ := h
    rfl
  · unfold spQK at h
    obtain ⟨p, q, ⟨a, b⟩, ⟨c, d⟩, rfl, hp, hq, hx, hy, k⟩ := h
    have hD := hx.den hy
    have ha := hx.2.1
    have hb := hx.2.2
    have hc := hy.2.1
    have hd := hy.2.2
    dsimp only at hD ha hb hc hd
    refine ⟨_, (pss_one (ps_ret (pe_call (ok_l_low T) (hr.mono (by omega)) rfl T.D_l_low.g T.D_l_low.F.kp T.D_l_low.b .nil pass0 (pa_cons (pe_op op_mulW (pe_ix (r := rIxT K) ix_tup (pv 0) pe_int (fun _ _ => rfl)) (pe_ix (r := rIxT K) ix_tup (pv 1) pe_int (fun _ _ => rfl))) (pa_cons (pe_op op_mulW (pe_ix (r := rIxT K) ix_tup (pv 0) pe_int (fun _ _ => rfl)) (pe_ix (r := rIxT K) ix_tup (pv 1) pe_int (fun _ _ => rfl))) pa_nil))))), ?_⟩
    refine ⟨_, rfl, _, _, _, _, rfl, rfl, hp, rfl, _, rfl, _, _, _, _, rfl, rfl, hq, rfl, _, _, rfl, rfl, cmulw ha hc (by decide), ?_⟩
    refine ⟨_, rfl, _, _, _, _, rfl, rfl, hp, rfl, _, rfl, _, _, _, _, rfl, rfl, hq, rfl, _, _, rfl, rfl, cmulw hb hd (by decide), ?_⟩
    exact ⟨nTimes a b c d, dBoth a b c d, rfl, hD, mul_up 4000 4000 ha hc, mul_up 4000 4000 hb hd, k⟩
theorem ok_timesK (T : Txt K mg) : FnOk P w K mg base CX0 4 T.f_times T.fd_times ["a", "b"] (spQK K qTimes) := by
  refine T.D_times.F.ok sc_times (fun vs H Q E h => ?_) (fun cdv A outer s H vs Q E hr h => ?_)
  · unfold spQK at h
    obtain ⟨p, q, x, y, rfl, _⟩ := h
    rfl
  · unfold spQK at h
    obtain ⟨p, q, ⟨a, b⟩, ⟨c, d⟩, rfl, hp, hq, hx, hy, k⟩ := h
    have hD := hx.den hy
    have ha := hx.2.1
    have hb := hx.2.2
    have hc := hy.2.1
    have hd := hy.2.2
    dsimp only at hD ha hb hc hd
    refine ⟨_, (pss_one (ps_ret (pe_call (ok_ratio T) (hr.mono (by omega)) rfl T.D_ratio.g T.D_ratio.F.kp T.D_ratio.b .nil passL (pa_cons (pe_op op_mulW (pe_ix (r := rIxT K) ix_tup (pv 0) pe_int (fun _ _ => rfl)) (pe_ix (r := rIxT K) ix_tup (pv 1) pe_int (fun _ _ => rfl))) (pa_cons (pe_op op_mulW (pe_ix (r := rIxT K) ix_tup (pv 0) pe_int (fun _ _ => rfl)) (pe_ix (r := rIxT K) ix_tup (pv 1) pe_int (fun _ _ => rfl))) pa_nil))))), ?_⟩
    refine ⟨_, rfl, _, _, _, _, rfl, rfl, hp, rfl, _, rfl, _, _, _, _, rfl, rfl, hq, rfl, _, _, rfl, rfl, cmulw ha hc (by decide), ?_⟩
    refine ⟨_, rfl, _, _, _, _, rfl, rfl, hp, rfl, _, rfl, _, _, _, _, rfl, rfl, hq, rfl, _, _, rfl, rfl, cmulw hb hd (by decide), ?_⟩
    exact ⟨nTimes a b c d, dBoth a b c d, rfl, up 8000 (mul_up 4000 4000 hb hd), fun _ => k, fun z => absurd z hD⟩
theorem ok_l_multiply (T : Txt K mg) (mm : Nat) (hmm : mm ≤ 1850) : FnOk P w K mg base CX0 4 T.f_l_multiply T.fd_l_multiply ["field", "a", "b"] (spElt2K K mm fMul) := by
  refine T.D_l_multiply.F.ok sc_l_multiply (fun vs H Q E h => ?_) (fun cdv A outer st H vs Q E hr h => ?_)
  · obtain ⟨f, a, b, x, y, z, w, rfl, _⟩ := h
    rfl
  · obtain ⟨f, a, b, x, y, z, w, rfl, ⟨ax, ay, ha, hax, hay⟩, ⟨bz, bw, hb, hbz, hbw⟩, sx, sy, sz, sw, bf, k⟩ := h
    have sf : Sm 100 (f, 1) := sm_int bf
    refine ⟨_, (pss_cons (ps_set (i := 3) sc_l_multiply.nd rfl (Or.inl rfl) (pe_call (ok_l_plusQ T) (hr.mono (by omega)) rfl T.D_l_plus.g T.D_l_plus.F.kp T.D_l_plus.b .nil pass0 (pa_cons (pe_call (ok_l_timesK T) (hr.mono (by omega)) rfl T.D_l_times.g T.D_l_times.F.kp T.D_l_times.b .nil pass0 (pa_cons (pe_ix (r := rIxT K) ix_tup (pv 1) pe_int (fun _ _ => rfl)) (pa_cons (pe_ix (r := rIxT K) ix_tup (pv 2) pe_int (fun _ _ => rfl)) pa_nil))) (pa_cons (pe_call (ok_l_timesK T) (hr.mono (by omega)) rfl T.D_l_times.g T.D_l_times.F.kp T.D_l_times.b .nil pass0 (pa_cons (pe_tup (pa_cons (pv 0) (pa_cons pe_int pa_nil))) (pa_cons (pe_call (ok_l_timesK T) (hr.mono (by omega)) rfl T.D_l_times.g T.D_l_times.F.kp T.D_l_times.b .nil pass0 (pa_cons (pe_ix (r := rIxT K) ix_tup (pv 1) pe_int (fun _ _ => rfl)) (pa_cons (pe_ix (r := rIxT K) ix_tup (pv 2) pe_int (fun _ _ => rfl)) pa_nil))) pa_nil))) pa_nil))))
    (pss_one (ps_ret (pe_tup (pa_cons (pv 3) (pa_cons (pe_call (ok_l_plusQ T) (hr.mono (by omega)) rfl T.D_l_plus.g T.D_l_plus.F.kp T.D_l_plus.b .nil pass0 (pa_cons (pe_call (ok_l_timesK T) (hr.mono (by omega)) rfl T.D_l_times.g T.D_l_times.F.kp T.D_l_times.b .nil pass0 (pa_cons (pe_ix (r := rIxT K) ix_tup (pv 1) pe_int (fun _ _ => rfl)) (pa_cons (pe_ix (r := rIxT K) ix_tup (pv 2) pe_int (fun _ _ => rfl)) pa_nil))) (pa_cons (pe_call (ok_l_timesK T) (hr.mono (by omega)) rfl T.D_l_times.g T.D_l_times.F.kp T.D_l_times.b .nil pass0 (pa_cons (pe_ix (r := rIxT K) ix_tup (pv 1) pe_int (fun _ _ => rfl)) (pa_cons (pe_ix (r := rIxT K) ix_tup (pv 2) pe_int (fun _ _ => rfl)) pa_nil))) pa_nil))) pa_nil)))))), ?_⟩
    refine ⟨_, rfl, _, _, _, _, rfl, rfl, ha, rfl, _, rfl, _, _, _, _, rfl, rfl, hb, rfl, b_k hax hbz (sx.up 4000 (by omega)) (sz.up 4000 (by omega)) fun r1 H1 e1 _ h1 => ?_⟩
    refine ⟨_, rfl, (by show 2 ≤ sizeLine; decide), fun p hp => ?_⟩
    have e2 := e1.trans (same_new (o := .tup [.int f, .int 1]) hp)
    refine ⟨_, rfl, _, _, _, _, rfl, rfl, sqT_same e2 ha, rfl, _, rfl, _, _, _, _, rfl, rfl, sqT_same e2 hb, rfl, b_k (hay.same e2) (hbw.same e2) (sy.up 4000 (by omega)) (sw.up 4000 (by omega)) fun r3 H3 e3 _ h3 => ?_⟩
    refine b_k (x := (f, 1)) (RatAt.k (q := (f, 1)) (e3 _ _ upd_same)) h3.k (sf.up 4000 (by omega)) ((sy.times sw).up 4000 (by omega)) fun r4 H4 e4 _ h4 => ?_
    refine b_q (e4 _ _ (e3 _ _ (same_new hp _ _ h1))) h4 ((sx.times sz).up 4000 (by omega)) ((sf.times (sy.times sw)).up 4000 (by omega)) fun r5 H5 e5 _ h5 => ?_
    have g5 := ((e2.trans e3).trans e4).trans e5
    refine ⟨_, rfl, ?_⟩
    refine ⟨_, rfl, _, _, _, _, rfl, rfl, sqT_same g5 ha, rfl, _, rfl, _, _, _, _, rfl, rfl, sqT_same g5 hb, rfl, b_k (hax.same g5) (hbw.same g5) (sx.up 4000 (by omega)) (sw.up 4000 (by omega)) fun r6 H6 e6 _ h6 => ?_⟩
    have g6 := g5.trans e6
    refine ⟨_, rfl, _, _, _, _, rfl, rfl, sqT_same g6 ha, rfl, _, rfl, _, _, _, _, rfl, rfl, sqT_same g6 hb, rfl, b_k (hay.same g6) (hbz.same g6) (sy.up 4000 (by omega)) (sz.up 4000 (by omega)) fun r7 H7 e7 _ h7 => ?_⟩
    refine b_q (e7 _ _ h6) h7 ((sx.times sw).up 4000 (by omega)) ((sy.times sz).up 4000 (by omega)) fun r8 H8 e8 _ h8 => ?_
    refine ⟨(by show 2 ≤ sizeLine; decide), fun r hr' => ?_⟩
    have e9 := same_new (o := .tup [.ref r5, .ref r8]) hr'
    exact k r _ (((g6.trans e7).trans e8).trans e9) ⟨r5, r8, upd_same, e9 _ _ (e8 _ _ (e7 _ _ (e6 _ _ h5))), e9 _ _ h8⟩
end
def spRSign : Sp := fun vs H Q _ => ∃ (p : Addr) (q : Q2), vs = [.ref p] ∧ RatAt H p q ∧ Q (.int q.1.sign) H
def spSign : Sp := fun vs H Q _ => ∃ n : Int, vs = [.int n] ∧ Q (.int n.sign) H
/-- of an element: the norm, a sign -/
def spNorm : Sp := fun vs H Q _ => ∃ (f : Int) (a : Addr) (x y : Q2), vs = [.int f, .ref a] ∧ EltAt H a x y ∧ Sm 850 x ∧ Sm 850 y ∧ f.natAbs < 2 ^ 100 ∧ ∀ (r : Addr) (H' : Hp), Same H H' → H r = none → RatAt H' r (nrm f x y) → Q (.ref r) H'
def spSgn : Sp := fun vs H Q _ => ∃ (f : Int) (a : Addr) (x y : Q2), vs = [.int f, .ref a] ∧ EltAt H a x y ∧ Sm 850 x ∧ Sm 850 y ∧ f.natAbs < 2 ^ 100 ∧ ∀ H', Same H H' → Q (.int (sgF f x y)) H'
def spLSgn (K : PySem.W.Frag) : Sp := fun vs H Q _ => ∃ (f : Int) (a : Addr) (x y : Q2), vs = [.int f, .ref a] ∧ EltK K H a x y ∧ Sm 850 x ∧ Sm 850 y ∧ f.natAbs < 2 ^ 100 ∧ Q (.int (lsF f x y)) H
section
variable {P : Program} {w : World} {K : PySem.W.Frag} {mg : Str → Option Value} {base : Heap}
theorem ok_rational_sign (T : Txt K mg) : FnOk P w K mg base CX0 1 T.f_rational_sign T.fd_rational_sign ["a"] spRSign := by
  refine T.D_rational_sign.F.ok sc_rational_sign (fun vs H Q E h => ?_) (fun cdv A outer s H vs Q E hr h => ?_)
  · obtain ⟨p, q, rfl, _⟩ := h
    rfl
  · obtain ⟨p, q, rfl, hp, k⟩ := h
    refine ⟨_, (pss_cons (ps_if (pt_cmpR op_eq (pe_ix (r := rIxT K) ix_tup (pv 0) pe_int (fun _ _ => rfl)) pe_int (nomark _)) (pss_one (ps_ret pe_int)) pss_nil)
    (pss_one (ps_ret (pe_ifExp (pt_cmpR op_gt (pe_ix (r := rIxT K) ix_tup (pv 0) pe_int (fun _ _ => rfl)) pe_int (nomark _)) pe_int (pe_un un_neg pe_int))))), ?_⟩
    refine ⟨_, rfl, _, _, _, _, rfl, rfl, SqT.of hp, rfl, rfl, _, rfl, ite2 (fun hz => ?_) (fun hz => ?_)⟩
    · have h1 := of_decide_eq_true hz
      injection h1 with h2
      rw [h2] at k
      exact k
    · have h2 : q.1 ≠ 0 := fun z => hz (by rw [z]; exact decide_eq_true rfl)
      refine ⟨_, rfl, _, _, _, _, rfl, rfl, SqT.of hp, rfl, _, _, rfl, rfl, _, rfl, iteD (fun hg => ?_) (fun hg => ?_)⟩
      · rw [Int.sign_eq_one_of_pos hg] at k
        exact k
      · rw [Int.sign_eq_neg_one_of_neg (by omega)] at k
        exact ⟨_, rfl, k⟩
theorem ok_norm (T : Txt K mg) : FnOk P w K mg base CX0 5 T.f_norm T.fd_norm ["field", "a"] spNorm := by
  refine T.D_norm.F.ok sc_norm (fun vs H Q E h => ?_) (fun cdv A outer st H vs Q E hr h => ?_)
  · obtain ⟨f, a, x, y, rfl, _⟩ := h
    rfl
  · obtain ⟨f, a, x, y, rfl, ⟨ax, ay, ha, hax, hay⟩, sx, sy, bf, k⟩ := h
    have sf : Sm 100 (f, 1) := sm_int bf
    refine ⟨_, (pss_one (ps_ret (pe_call (ok_minusQ T) (hr.mono (by omega)) rfl T.D_minus.g T.D_minus.F.kp T.D_minus.b .nil pass0 (pa_cons (pe_call (ok_timesQ T) (hr.mono (by omega)) rfl T.D_times.g T.D_times.F.kp T.D_times.b .nil pass0 (pa_cons (pe_ix (r := rIxT K) ix_tup (pv 1) pe_int (fun _ _ => rfl)) (pa_cons (pe_ix (r := rIxT K) ix_tup (pv 1) pe_int (fun _ _ => rfl)) pa_nil))) (pa_cons (pe_call (ok_timesQ T) (hr.mono (by omega)) rfl T.D_times.g T.D_times.F.kp T.D_times.b .nil pass0 (pa_cons (pe_tup (pa_cons (pv 0) (pa_cons pe_int pa_nil))) (pa_cons (pe_call (ok_timesQ T) (hr.mono (by omega)) rfl T.D_times.g T.D_times.F.kp T.D_times.b .nil pass0 (pa_cons (pe_ix (r := rIxT K) ix_tup (pv 1) pe_int (fun _ _ => rfl)) (pa_cons (pe_ix (r := rIxT K) ix_tup (pv 1) pe_int (fun _ _ => rfl)) pa_nil))) pa_nil))) pa_nil))))), ?_⟩
    refine ⟨_, rfl, _, _, _, _, rfl, rfl, SqT.of ha, rfl, _, rfl, _, _, _, _, rfl, rfl, SqT.of ha, rfl, b_q hax hax (sx.up 4000) (sx.up 4000) fun r1 H1 e1 n1 h1 => ?_⟩
    refine ⟨_, rfl, (by show 2 ≤ sizeLine; decide), fun p hp => ?_⟩
    have e2 := e1.trans (same_new (o := .tup [.int f, .int 1]) hp)
    refine ⟨_, rfl, _, _, _, _, rfl, rfl, SqT.of (e2 _ _ ha), rfl, _, rfl, _, _, _, _, rfl, rfl, SqT.of (e2 _ _ ha), rfl, b_q (e2 _ _ hay) (e2 _ _ hay) (sy.up 4000) (sy.up 4000) fun r3 H3 e3 _ h3 => ?_⟩
    refine b_q (x := (f, 1)) (e3 _ _ upd_same) h3 (sf.up 4000) ((sy.times sy).up 4000) fun r4 H4 e4 _ h4 => ?_
    refine b_q (e4 _ _ (e3 _ _ (same_new hp _ _ h1))) h4 ((sx.times sx).up 4000) ((sf.times (sy.times sy)).up 4000) fun r5 H5 e5 n5 h5 => ?_
    have g5 := ((e2.trans e3).trans e4).trans e5
    exact k r5 _ g5 (((e2.trans e3).trans e4).free n5) h5
theorem ok_sign_of (T : Txt K mg) : FnOk P w K mg base CX0 6 T.f_sign_of T.fd_sign_of ["field", "a"] spSgn := by
  refine T.D_sign_of.F.ok sc_sign_of (fun vs H Q E h => ?_) (fun cdv A outer st H vs Q E hr h => ?_)
  · obtain ⟨f, a, x, y, rfl, _⟩ := h
    rfl
  · obtain ⟨f, a, x, y, rfl, hE, sx, sy, bf, k⟩ := h
    obtain ⟨ax, ay, ha, hax, hay⟩ := id hE
    have k0 := k H (Same.refl H)
    unfold sgF at k0 k
    refine ⟨_, (pss_cons (ps_set (i := 2) sc_sign_of.nd rfl (Or.inl rfl) (pe_call (ok_rational_sign T) (hr.mono (by omega)) rfl T.D_rational_sign.g T.D_rational_sign.F.kp T.D_rational_sign.b .nil pass0 (pa_cons (pe_ix (r := rIxT K) ix_tup (pv 1) pe_int (fun _ _ => rfl)) pa_nil)))
    (pss_cons (ps_set (i := 3) sc_sign_of.nd rfl (Or.inl rfl) (pe_call (ok_rational_sign T) (hr.mono (by omega)) rfl T.D_rational_sign.g T.D_rational_sign.F.kp T.D_rational_sign.b .nil pass0 (pa_cons (pe_ix (r := rIxT K) ix_tup (pv 1) pe_int (fun _ _ => rfl)) pa_nil)))
    (pss_cons (ps_if (PW.pt (pw_or (pt_cmpR op_eq (pv 3) pe_int (nomark _)) (pw_or1 (pt_cmpR op_eq (pv 2) (pv 3) (nomark _))))) (pss_one (ps_ret (pv 2))) pss_nil)
    (pss_cons (ps_if (pt_cmpR op_eq (pv 2) pe_int (nomark _)) (pss_one (ps_ret (pv 3))) pss_nil)
    (pss_one (ps_ret (pe_op op_mulW (pv 2) (pe_call (ok_rational_sign T) (hr.mono (by omega)) rfl T.D_rational_sign.g T.D_rational_sign.F.kp T.D_rational_sign.b .nil pass0 (pa_cons (pe_call (ok_norm T) (hr.mono (by omega)) rfl T.D_norm.g T.D_norm.F.kp T.D_norm.b .nil pass0 (pa_cons (pv 0) (pa_cons (pv 1) pa_nil))) pa_nil))))))))), ?_⟩
    refine ⟨_, rfl, _, _, _, _, rfl, rfl, SqT.of ha, rfl, _, _, rfl, hax, ?_⟩
    refine ⟨_, rfl, _, _, _, _, rfl, rfl, SqT.of ha, rfl, _, _, rfl, hay, ?_⟩
    refine ⟨_, rfl, rfl, _, rfl, ite2 (fun hz => ?_) (fun hz => ?_)⟩
    · have h1 := of_decide_eq_true hz
      injection h1 with h2
      rw [if_pos (.inl h2)] at k0
      exact iteT ⟨_, rfl, k0⟩
    · have h1 : y.1.sign ≠ 0 := fun z => hz (decide_eq_true (congrArg V.int z))
      refine ⟨_, rfl, _, rfl, rfl, _, rfl, ite2 (fun hz => ?_) (fun hz => ?_)⟩
      · have h2 := of_decide_eq_true hz
        injection h2 with h3
        rw [if_pos (.inr h3)] at k0
        exact ⟨_, rfl, k0⟩
      · have h2 : x.1.sign ≠ y.1.sign := fun z => hz (decide_eq_true (congrArg V.int z))
        rw [if_neg (fun z => z.elim h1 h2)] at k0 k
        refine ⟨_, rfl, rfl, _, rfl, ite2 (fun hz => ?_) (fun hz => ?_)⟩
        · have h3 := of_decide_eq_true hz
          injection h3 with h4
          rw [if_pos h4] at k0
          exact ⟨_, rfl, k0⟩
        · have h3 : x.1.sign ≠ 0 := fun z => hz (decide_eq_true (congrArg V.int z))
          rw [if_neg h3] at k
          refine ⟨_, rfl, _, rfl, _, rfl, f, a, x, y, rfl, hE, sx, sy, bf, fun r H1 e1 _ hR => ?_⟩
          exact ⟨r, _, rfl, hR, _, _, rfl, rfl, cmulw (sign_size _) (sign_size _) (by decide), k H1 e1⟩
theorem ok_l_sign (T : Txt K mg) : FnOk P w K mg base CX0 1 T.f_l_sign T.fd_l_sign ["n"] spSign := by
  refine T.D_l_sign.F.ok sc_l_sign (fun vs H Q E h => ?_) (fun cdv A outer s H vs Q E hr h => ?_)
  · obtain ⟨n, rfl, _⟩ := h
    rfl
  · obtain ⟨n, rfl, k⟩ := h
    refine ⟨_, (pss_one (ps_ret (pe_op op_sub (pe_callTy call_int1 (by rfl) T.int PyProof.Rows.boot_int (pa_cons (pe_cmpR op_gt (pv 0) pe_int (nomark _)) pa_nil)) (pe_callTy call_int1 (by rfl) T.int PyProof.Rows.boot_int (pa_cons (pe_cmpR op_lt (pv 0) pe_int (nomark _)) pa_nil))))), ?_⟩
    refine ⟨_, rfl, _, _, rfl, rfl, .inr ⟨_, rfl, _, rfl, _, _, rfl, rfl, .inr ⟨_, rfl, _, _, rfl, rfl, ?_⟩⟩⟩
    have e : (if decide (0 < n) = true then (1 : Int) else 0) - (if decide (n < 0) = true then (1 : Int) else 0) = n.sign := by
      rcases Int.lt_trichotomy n 0 with h | h | h
      · rw [Int.sign_eq_neg_one_of_neg h, decide_eq_true h, decide_eq_false (by omega)]; rfl
      · subst h; rfl
      · rw [Int.sign_eq_one_of_pos h, decide_eq_true h, decide_eq_false (by omega)]; rfl
    rw [← e] at k
    exact k
theorem ok_l_sign_of (T : Txt K mg) : FnOk P w K mg base CX0 2 T.f_l_sign_of T.fd_l_sign_of ["field", "a"] (spLSgn K) := by
  refine T.D_l_sign_of.F.ok sc_l_sign_of (fun vs H Q E h => ?_) (fun cdv A outer st H vs Q E hr h => ?_)
  · obtain ⟨f, a, x, y, rfl, _⟩ := h
    rfl
  · obtain ⟨f, a, x, y, rfl, hE, sx, sy, bf, k⟩ := h
    obtain ⟨ax, ay, ha, hax, hay⟩ := id hE
    unfold lsF at k
    have bL : (x.1 * y.2).natAbs < 2 ^ 1700 := mul_up 850 850 sx.2.1 sy.2.2
    have bR : (y.1 * x.2).natAbs < 2 ^ 1700 := mul_up 850 850 sy.2.1 sx.2.2
    refine ⟨_, (pss_cons (ps_asg (pv 1) (pg_tup (by rfl) (pgs_cons (pg_tup (by rfl) (pgs_cons (pg_name (i := 2) sc_l_sign_of.nd rfl (Or.inl rfl)) (pgs_cons (pg_name (i := 3) sc_l_sign_of.nd rfl (Or.inl rfl)) pgs_nil))) (pgs_cons (pg_tup (by rfl) (pgs_cons (pg_name (i := 4) sc_l_sign_of.nd rfl (Or.inl rfl)) (pgs_cons (pg_name (i := 5) sc_l_sign_of.nd rfl (Or.inl rfl)) pgs_nil))) pgs_nil))))
    (pss_cons (ps_set (i := 6) sc_l_sign_of.nd rfl (Or.inl rfl) (pe_op op_mulW (pv 2) (pv 5)))
    (pss_cons (ps_set (i := 7) sc_l_sign_of.nd rfl (Or.inl rfl) (pe_op op_mulW (pv 4) (pv 3)))
    (pss_cons (ps_if (PW.pt (pw_and (pt_cmpR op_ge (pv 6) pe_int (nomark _)) (pw_and1 (pt_cmpR op_ge (pe_op op_mulW (pv 7) (pv 0)) pe_int (nomark _))))) (pss_one (ps_ret (pe_callTy call_int1 (by rfl) T.int PyProof.Rows.boot_int (pa_cons (pe_or (pe_cmpR op_gt (pv 6) pe_int (nomark _)) (pe_one (pe_cmpR op_gt (pe_op op_mulW (pv 7) (pv 0)) pe_int (nomark _)))) pa_nil)))) pss_nil)
    (pss_cons (ps_if (PW.pt (pw_and (pt_cmpR op_le (pv 6) pe_int (nomark _)) (pw_and1 (pt_cmpR op_le (pe_op op_mulW (pv 7) (pv 0)) pe_int (nomark _))))) (pss_one (ps_ret (pe_un un_neg pe_int))) pss_nil)
    (pss_cons (ps_if (pt_cmpR op_gt (pe_op op_mulW (pv 6) (pv 6)) (pe_op op_mulW (pe_op op_mulW (pv 7) (pv 7)) (pv 0)) (nomark _)) (pss_one (ps_ret (pe_call (ok_l_sign T) (hr.mono (by omega)) rfl T.D_l_sign.g T.D_l_sign.F.kp T.D_l_sign.b .nil pass0 (pa_cons (pv 6) pa_nil)))) pss_nil)
    (pss_one (ps_ret (pe_call (ok_l_sign T) (hr.mono (by omega)) rfl T.D_l_sign.g T.D_l_sign.F.kp T.D_l_sign.b .nil pass0 (pa_cons (pv 7) pa_nil)))))))))), ?_⟩
    refine ⟨_, rfl, _, _, rfl, ha, rfl, _, _, rfl, _, _, rfl, hax, rfl, _, _, rfl, _, _, rfl, rfl, _, _, rfl, _, _, rfl, hay, rfl, _, _, rfl, _, _, rfl, rfl, rfl, ?_⟩
    refine ⟨_, rfl, _, rfl, _, _, rfl, rfl, cmulw sx.2.1 sy.2.2 (by decide), ?_⟩
    refine ⟨_, rfl, _, rfl, _, _, rfl, rfl, cmulw sy.2.1 sx.2.2 (by decide), ?_⟩
    dsimp only
    generalize x.1 * y.2 = L at *
    generalize y.1 * x.2 = R at *
    have rest : ¬ (0 ≤ L ∧ 0 ≤ R * f) → (tSeq (tIfS (tAnd (tTest (tOp (rI0 fun i j => .bl (decide (i ≤ j))) (tVar 6) (tC (.int 0)))) (tTest (tOp (rI0 fun i j => .bl (decide (i ≤ j))) (tOp (rI CMulW fun i j => .int (i * j)) (tVar 7) (tVar 0)) (tC (.int 0))))) (tRet (tUn (rU fun i => .int (-i)) (tC (.int 1)))) tNext)
        (tSeq (tIfS (tTest (tOp (rI0 fun i j => .bl (decide (j < i))) (tOp (rI CMulW fun i j => .int (i * j)) (tVar 6) (tVar 6)) (tOp (rI CMulW fun i j => .int (i * j)) (tOp (rI CMulW fun i j => .int (i * j)) (tVar 7) (tVar 7)) (tVar 0)))) (tRet (tCall spSign [] E0 (tCons (tVar 6) tNil))) tNext)
          (tRet (tCall spSign [] E0 (tCons (tVar 7) tNil))))) { nx := fun _ H' => Q .non H', rt := Q }
        [some (.int f), some (.ref a), some (.int x.1), some (.int x.2), some (.int y.1), some (.int y.2), some (.int L), some (.int R)] H := by
      intro hn
      rw [if_neg hn] at k
      have last : ¬ (L ≤ 0 ∧ R * f ≤ 0) → (tSeq (tIfS (tTest (tOp (rI0 fun i j => .bl (decide (j < i))) (tOp (rI CMulW fun i j => .int (i * j)) (tVar 6) (tVar 6)) (tOp (rI CMulW fun i j => .int (i * j)) (tOp (rI CMulW fun i j => .int (i * j)) (tVar 7) (tVar 7)) (tVar 0)))) (tRet (tCall spSign [] E0 (tCons (tVar 6) tNil))) tNext)
          (tRet (tCall spSign [] E0 (tCons (tVar 7) tNil)))) { nx := fun _ H' => Q .non H', rt := Q }
          [some (.int f), some (.ref a), some (.int x.1), some (.int x.2), some (.int y.1), some (.int y.2), some (.int L), some (.int R)] H := by
        intro hn2
        rw [if_neg hn2] at k
        refine ⟨_, rfl, _, rfl, _, _, rfl, rfl, cmulw bL bL (by decide), _, rfl, _, rfl, _, _, rfl, rfl, cmulw bR bR (by decide), _, rfl, _, _, rfl, rfl, cmulw (mul_up 1700 1700 (c := 3400) bR bR) bf (by decide), _, _, rfl, rfl, _, rfl, iteD (fun h => ?_) (fun h => ?_)⟩
        · rw [if_pos h] at k
          exact ⟨_, rfl, _, rfl, k⟩
        · rw [if_neg h] at k
          exact ⟨_, rfl, _, rfl, k⟩
      refine ⟨_, rfl, _, _, rfl, rfl, _, rfl, iteD (fun h1 => ?_) (fun h1 => ?_)⟩
      · refine ⟨_, rfl, _, rfl, _, _, rfl, rfl, cmulw bR bf (by decide), _, _, rfl, rfl, _, rfl, iteD (fun h2 => ?_) (fun h2 => ?_)⟩
        · rw [if_pos ⟨h1, h2⟩] at k
          exact ⟨_, rfl, k⟩
        · exact last fun z => h2 z.2
      · exact iteF (last fun z => h1 z.1)
    refine ⟨_, rfl, _, _, rfl, rfl, _, rfl, iteD (fun h1 => ?_) (fun h1 => ?_)⟩
    · refine ⟨_, rfl, _, rfl, _, _, rfl, rfl, cmulw bR bf (by decide), _, _, rfl, rfl, _, rfl, iteD (fun h2 => ?_) (fun h2 => ?_)⟩
      · rw [if_pos ⟨h1, h2⟩] at k
        refine ⟨_, rfl, _, _, rfl, rfl, _, rfl, iteD (fun h3 => ?_) (fun h3 => ?_)⟩
        · rw [if_pos (.inl h3)] at k
          exact .inr ⟨true, rfl, k⟩
        · refine ⟨_, rfl, _, rfl, _, _, rfl, rfl, cmulw bR bf (by decide), _, _, rfl, rfl, .inr ⟨_, rfl, ?_⟩⟩
          by_cases h4 : 0 < R * f
          · rw [if_pos (.inr h4)] at k
            rw [decide_eq_true h4]
            exact k
          · rw [if_neg (fun z => z.elim h3 h4)] at k
            rw [decide_eq_false h4]
            exact k
      · exact rest fun z => h2 z.2
    · exact iteF (rest fun z => h1 z.1)
end
/-! ### what a pair is worth -/
def Nrm (q : Q2) : Prop := 1 ≤ q.2 ∧ Nat.gcd q.1.natAbs q.2.natAbs = 1
def val (q : Q2) : Rat := (q.1 : Rat) / (q.2 : Rat)
theorem ratne {d : Int} (h : d ≠ 0) : (d : Rat) ≠ 0 := fun e => h (Rat.intCast_inj.mp (by rw [e]; rfl))
theorem lo_nrm {N D : Int} (h : D ≠ 0) : Nrm (lo1 N D, lo2 N D) := ⟨lo2_pos h, lo_gcd h⟩
theorem val_lo {N D : Int} (h : D ≠ 0) : val (lo1 N D, lo2 N D) = (N : Rat) / (D : Rat) := by
  have e : ((lo1 N D * D : Int) : Rat) = ((lo2 N D * N : Int) : Rat) := by rw [lo_cross N D h]
  rw [Rat.intCast_mul, Rat.intCast_mul] at e
  have h1 := ratne h
  have h2 : ((lo2 N D : Int) : Rat) ≠ 0 := ratne (by have := lo2_pos (n := N) h; omega)
  unfold val
  dsimp only
  grind
theorem val_plus {x y : Q2} (hx : 1 ≤ x.2) (hy : 1 ≤ y.2) : val (qPlus x y) = val x + val y := by
  have h1 : (x.2 : Rat) ≠ 0 := ratne (by omega)
  have h2 : (y.2 : Rat) ≠ 0 := ratne (by omega)
  have e := val_lo (N := nPlus x.1 x.2 y.1 y.2) (D := dBoth x.1 x.2 y.1 y.2) (Int.mul_ne_zero (by omega) (by omega))
  show val (lo1 (nPlus x.1 x.2 y.1 y.2) (dBoth x.1 x.2 y.1 y.2), lo2 (nPlus x.1 x.2 y.1 y.2) (dBoth x.1 x.2 y.1 y.2)) = _
  rw [e]
  unfold nPlus dBoth val
  rw [Rat.intCast_add, Rat.intCast_mul, Rat.intCast_mul, Rat.intCast_mul]
  grind
theorem val_minus {x y : Q2} (hx : 1 ≤ x.2) (hy : 1 ≤ y.2) : val (qMinus x y) = val x - val y := by
  have h1 : (x.2 : Rat) ≠ 0 := ratne (by omega)
  have h2 : (y.2 : Rat) ≠ 0 := ratne (by omega)
  have e := val_lo (N := nMinus x.1 x.2 y.1 y.2) (D := dBoth x.1 x.2 y.1 y.2) (Int.mul_ne_zero (by omega) (by omega))
  show val (lo1 (nMinus x.1 x.2 y.1 y.2) (dBoth x.1 x.2 y.1 y.2), lo2 (nMinus x.1 x.2 y.1 y.2) (dBoth x.1 x.2 y.1 y.2)) = _
  rw [e]
  unfold nMinus dBoth val
  rw [Rat.intCast_sub, Rat.intCast_mul, Rat.intCast_mul, Rat.intCast_mul]
  grind
theorem val_times {x y : Q2} (hx : 1 ≤ x.2) (hy : 1 ≤ y.2) : val (qTimes x y) = val x * val y := by
  have h1 : (x.2 : Rat) ≠ 0 := ratne (by omega)
  have h2 : (y.2 : Rat) ≠ 0 := ratne (by omega)
  have e := val_lo (N := nTimes x.1 x.2 y.1 y.2) (D := dBoth x.1 x.2 y.1 y.2) (Int.mul_ne_zero (by omega) (by omega))
  show val (lo1 (nTimes x.1 x.2 y.1 y.2) (dBoth x.1 x.2 y.1 y.2), lo2 (nTimes x.1 x.2 y.1 y.2) (dBoth x.1 x.2 y.1 y.2)) = _
  rw [e]
  unfold nTimes dBoth val
  rw [Rat.intCast_mul, Rat.intCast_mul]
  grind
theorem val_inj {x y : Q2} (hx : Nrm x) (hy : Nrm y) (h : val x = val y) : x = y := by
  obtain ⟨a, b⟩ := x
  obtain ⟨c, d⟩ := y
  obtain ⟨b1, g1⟩ := hx
  obtain ⟨d1, g2⟩ := hy
  dsimp only at *
  have hb : (b : Rat) ≠ 0 := ratne (by omega)
  have hd : (d : Rat) ≠ 0 := ratne (by omega)
  have e : (a : Rat) * (d : Rat) = (c : Rat) * (b : Rat) := by
    unfold val at h
    dsimp only at h
    grind
  rw [← Rat.intCast_mul, ← Rat.intCast_mul, Rat.intCast_inj] at e
  have en : a.natAbs * d.natAbs = c.natAbs * b.natAbs := by rw [← Int.natAbs_mul, ← Int.natAbs_mul, e]
  have k1 : b.natAbs ∣ d.natAbs := by
    have : Nat.Coprime b.natAbs a.natAbs := by rw [Nat.Coprime, Nat.gcd_comm]; exact g1
    exact this.dvd_of_dvd_mul_left (by rw [en]; exact Nat.dvd_mul_left _ _)
  have k2 : d.natAbs ∣ b.natAbs := by
    have : Nat.Coprime d.natAbs c.natAbs := by rw [Nat.Coprime, Nat.gcd_comm]; exact g2
    exact this.dvd_of_dvd_mul_left (by rw [← en]; exact Nat.dvd_mul_left _ _)
  have k3 := Nat.dvd_antisymm k1 k2
  have k4 : b = d := by omega
  subst k4
  have k5 : a = c := Int.eq_of_mul_eq_mul_right (show b ≠ 0 by omega) e
  rw [k5]
theorem qPlus_nrm {x y : Q2} (hx : 1 ≤ x.2) (hy : 1 ≤ y.2) : Nrm (qPlus x y) := lo_nrm (Int.mul_ne_zero (by omega) (by omega))
theorem qMinus_nrm {x y : Q2} (hx : 1 ≤ x.2) (hy : 1 ≤ y.2) : Nrm (qMinus x y) := lo_nrm (Int.mul_ne_zero (by omega) (by omega))
theorem qTimes_nrm {x y : Q2} (hx : 1 ≤ x.2) (hy : 1 ≤ y.2) : Nrm (qTimes x y) := lo_nrm (Int.mul_ne_zero (by omega) (by omega))
theorem val_int (f : Int) : val (f, 1) = (f : Rat) := by
  unfold val
  have : ((1 : Int) : Rat) = 1 := rfl
  rw [this]
  grind
/-- the quotient of two rationals -/
def qOver (x y : Q2) : Q2 := (lo1 (x.1 * y.2) (x.2 * y.1), lo2 (x.1 * y.2) (x.2 * y.1))
theorem val_over {x y : Q2} (hx : 1 ≤ x.2) (hy : 1 ≤ y.2) (h : y.1 ≠ 0) : val (qOver x y) * val y = val x := by
  have h1 : (x.2 : Rat) ≠ 0 := ratne (by omega)
  have h2 : (y.2 : Rat) ≠ 0 := ratne (by omega)
  have h3 : (y.1 : Rat) ≠ 0 := ratne h
  unfold qOver
  rw [val_lo (Int.mul_ne_zero (by omega) h)]
  unfold val
  rw [Rat.intCast_mul, Rat.intCast_mul]
  grind
theorem qOver_nrm {x y : Q2} (hx : 1 ≤ x.2) (h : y.1 ≠ 0) : Nrm (qOver x y) := lo_nrm (Int.mul_ne_zero (by omega) h)
theorem Sm.over {n m : Nat} {x y : Q2} (hx : Sm n x) (hy : Sm m y) (h : y.1 ≠ 0) : Sm (n + m) (qOver x y) :=
  sm_lo (Int.mul_ne_zero (by have := hx.1; omega) h) (mul_up n m hx.2.1 hy.2.2 (Nat.le_refl _)) (mul_up n m hx.2.2 hy.2.1 (Nat.le_refl _))
theorem val_nrm {f : Int} {x y : Q2} (hx : 1 ≤ x.2) (hy : 1 ≤ y.2) : val (nrm f x y) = val x * val x - (f : Rat) * (val y * val y) := by
  unfold nrm
  rw [val_minus (qTimes_nrm hx hx).1 (qTimes_nrm (x := (f, 1)) (Int.le_refl 1) (qTimes_nrm hy hy).1).1, val_times hx hx, val_times (x := (f, 1)) (Int.le_refl 1) (qTimes_nrm hy hy).1, val_times hy hy, val_int]
theorem Sm.nrm {f : Int} {n : Nat} {x y : Q2} (hx : Sm n x) (hy : Sm n y) (hf : f.natAbs < 2 ^ 100) : Sm (100 + (n + n) + (100 + (n + n)) + 1) (nrm f x y) :=
  Sm.minus ((hx.times hx).up _ (by omega)) ((sm_int (n := 100) hf).times (hy.times hy))
/-- the norm of what is not zero is not zero -/
theorem nrm_ne {f : Int} {x y : Q2} (hx : Nrm x) (hy : Nrm y) (hf : f = 0 ∨ (0 < f ∧ ¬ isSq f)) (hz : f = 0 → y = (0, 1)) (ne : ¬ (x = (0, 1) ∧ y = (0, 1))) : (nrm f x y).1 ≠ 0 := by
  intro e
  have s := nrm_sign (f := f) hx.1 hy.1
  rw [e, Int.sign_zero] at s
  have s0 : x.1 * y.2 * (x.1 * y.2) - y.1 * x.2 * (y.1 * x.2) * f = 0 := Int.sign_eq_zero_iff_zero.mp s.symm
  have zero : ∀ q : Q2, Nrm q → q.1 = 0 → q = (0, 1) := fun q hq h => by
    obtain ⟨n, d⟩ := q
    dsimp only at h
    subst h
    have h2 := hq.2
    have h1 := hq.1
    rw [show (0 : Int).natAbs = 0 from rfl, Nat.gcd_zero_left] at h2
    dsimp only at h1 h2
    rw [show d = 1 by omega]
  by_cases hw : y.1 * x.2 = 0
  · rw [hw, Int.zero_mul, Int.zero_mul, Int.sub_zero] at s0
    have h1 : x.1 * y.2 = 0 := by rcases Int.mul_eq_zero.mp s0 with h | h <;> exact h
    have h2 : x.1 = 0 := by
      rcases Int.mul_eq_zero.mp h1 with h | h
      · exact h
      · have := hy.1; omega
    have h3 : y.1 = 0 := by
      rcases Int.mul_eq_zero.mp hw with h | h
      · exact h
      · have := hx.1; omega
    exact ne ⟨zero x hx h2, zero y hy h3⟩
  · rcases hf with h0 | ⟨h0, hq⟩
    · rw [hz h0] at hw
      exact hw (Int.zero_mul _)
    · exact hq (sq_of (l := x.1 * y.2) hw (by omega))
/-! ### numbers of elements -/
/-- math.lcm -/
def rLcm : List V → Hp → VK → Prop := fun vs H Q => ∃ a b : Int, vs = [.int a, .int b] ∧ a.natAbs < 2 ^ 6000 ∧ b.natAbs < 2 ^ 6000 ∧ Q (.int ((Nat.lcm a.natAbs b.natAbs : Nat) : Int)) H
theorem log_lt {n b : Nat} (h : n < 2 ^ b) (hb : 0 < b) : n.log2 < b := by
  by_cases z : n = 0
  · rw [z]; exact hb
  · exact (Nat.log2_lt z).mpr h
theorem lcm_size {a b m n : Nat} (ha : a < 2 ^ m) (hb : b < 2 ^ n) : Nat.lcm a b < 2 ^ (m + n) := by
  rw [Nat.pow_add]
  by_cases h : a = 0 ∨ b = 0
  · rcases h with rfl | rfl
    · rw [Nat.lcm_zero_left]; exact Nat.mul_pos (Nat.two_pow_pos _) (Nat.two_pow_pos _)
    · rw [Nat.lcm_zero_right]; exact Nat.mul_pos (Nat.two_pow_pos _) (Nat.two_pow_pos _)
  · exact Nat.lt_of_le_of_lt (Nat.le_of_dvd (Nat.mul_pos (by omega) (by omega)) (Nat.lcm_dvd (Nat.dvd_mul_right _ _) (Nat.dvd_mul_left _ _))) (Nat.mul_lt_mul'' ha hb)
theorem cr_lcm {X : Cx} : CallR X (.builtin "math.lcm") rLcm := by
  intro pins s σ H vs us Q I r h
  obtain ⟨a, b, rfl, ha, hb, q⟩ := h
  obtain ⟨t, u, rfl⟩ := Vals.int2 r
  have l1 : (max 1 a.natAbs).log2 < 6000 := log_lt (by have := Nat.one_lt_two_pow (show 6000 ≠ 0 by decide); omega) (by decide)
  have l2 : (max a.natAbs b.natAbs).log2 < 6000 := log_lt (by omega) (by decide)
  have e1 : (Nat.lcm 1 a.natAbs).lcm b.natAbs = Nat.lcm a.natAbs b.natAbs := by rw [Nat.lcm_one_left]
  have sz : ((((Nat.lcm 1 a.natAbs).lcm b.natAbs : Nat) : Int)).natAbs.log2 < bitsLine := by
    rw [e1, Int.natAbs_natCast]
    exact Nat.lt_of_lt_of_le (log_lt (lcm_size ha hb) (by decide)) (by decide)
  refine PySem.call_function_meets PySem.W.MGF.kind_lcm PySem.W.MGF.plain_lcm PySem.W.MGF.entry_lcm (PySem.W.MGF.args_lcm _ _) (PySem.W.mg_run_lcm a t b u (by omega) (by omega) sz).meets ?_
  rw [e1]
  exact ⟨.int _, H, I.tok _, ⟨_, rfl⟩, q⟩
/-- the equation of an element: c + b t + a t t -/
def eqA (f : Int) (x y : Q2) : Int := ((Nat.lcm (qTimes (-2, 1) x).2.natAbs (nrm f x y).2.natAbs : Nat) : Int)
def eqB (f : Int) (x y : Q2) : Int := (qTimes (-2, 1) x).1 * (eqA f x y / (qTimes (-2, 1) x).2)
def eqC (f : Int) (x y : Q2) : Int := (nrm f x y).1 * (eqA f x y / (nrm f x y).2)
theorem nrm_nrm {f : Int} {x y : Q2} (hx : 1 ≤ x.2) (hy : 1 ≤ y.2) : Nrm (nrm f x y) := qMinus_nrm (qTimes_nrm hx hx).1 (qTimes_nrm (x := (f, 1)) (Int.le_refl 1) (qTimes_nrm hy hy).1).1
/-- a least common denominator leaves no divisor -/
theorem lcm_coprime {l m n k : Int} (h1 : Nrm (l, m)) (h2 : Nrm (n, k)) {A : Int} (hA : A = ((Nat.lcm m.natAbs k.natAbs : Nat) : Int)) :
    1 ≤ A ∧ (A / m) * m = A ∧ (A / k) * k = A ∧ Nat.gcd (Nat.gcd A.natAbs (l * (A / m)).natAbs) (n * (A / k)).natAbs = 1 := by
  have m1 : 1 ≤ m := h1.1
  have k1 : 1 ≤ k := h2.1
  obtain ⟨M, rfl⟩ : ∃ M : Nat, m = (M : Int) := ⟨m.toNat, by omega⟩
  obtain ⟨K', rfl⟩ : ∃ K' : Nat, k = (K' : Int) := ⟨k.toNat, by omega⟩
  rw [Int.natAbs_natCast, Int.natAbs_natCast] at hA
  subst hA
  have dM : M ∣ Nat.lcm M K' := Nat.dvd_lcm_left M K'
  have dK : K' ∣ Nat.lcm M K' := Nat.dvd_lcm_right M K'
  have pos : 0 < Nat.lcm M K' := Nat.lcm_pos (by omega) (by omega)
  have eM : ((Nat.lcm M K' : Nat) : Int) / (M : Int) = ((Nat.lcm M K' / M : Nat) : Int) := by rw [Int.natCast_ediv]
  have eK : ((Nat.lcm M K' : Nat) : Int) / (K' : Int) = ((Nat.lcm M K' / K' : Nat) : Int) := by rw [Int.natCast_ediv]
  have cM : Nat.lcm M K' / M * M = Nat.lcm M K' := Nat.div_mul_cancel dM
  have cK : Nat.lcm M K' / K' * K' = Nat.lcm M K' := Nat.div_mul_cancel dK
  refine ⟨by omega, ?_, ?_, ?_⟩
  · rw [eM, ← Int.natCast_mul, cM]
  · rw [eK, ← Int.natCast_mul, cK]
  · rw [eM, eK, Int.natAbs_mul, Int.natAbs_mul, Int.natAbs_natCast, Int.natAbs_natCast, Int.natAbs_natCast]
    have g1 : Nat.gcd l.natAbs M = 1 := h1.2
    have g2 : Nat.gcd n.natAbs K' = 1 := h2.2
    have co : Nat.gcd (Nat.lcm M K' / M) (Nat.lcm M K' / K') = 1 := by
      have hg : 0 < Nat.gcd M K' := Nat.gcd_pos_of_pos_left _ (by omega)
      have q1 : Nat.lcm M K' / M = K' / Nat.gcd M K' := by
        refine Nat.div_eq_of_eq_mul_left (by omega) ?_
        rw [Nat.lcm, Nat.mul_comm M K', Nat.mul_div_assoc K' (Nat.gcd_dvd_left M K'), ← Nat.mul_div_assoc K' (Nat.gcd_dvd_left M K'), Nat.mul_comm K' M, Nat.mul_div_assoc M (Nat.gcd_dvd_right M K'), Nat.mul_comm]
      have q2 : Nat.lcm M K' / K' = M / Nat.gcd M K' := by
        refine Nat.div_eq_of_eq_mul_left (by omega) ?_
        rw [Nat.lcm, Nat.mul_comm M K', Nat.mul_div_assoc K' (Nat.gcd_dvd_left M K'), Nat.mul_comm]
      rw [q1, q2, Nat.gcd_comm]
      exact Nat.gcd_div_gcd_div_gcd_of_pos_left (by omega)
    generalize Nat.lcm M K' / M = u at *
    generalize Nat.lcm M K' / K' = v at *
    generalize hG : Nat.gcd (Nat.gcd (Nat.lcm M K') (l.natAbs * u)) (n.natAbs * v) = G
    have d1 : G ∣ Nat.lcm M K' := by rw [← hG]; exact Nat.dvd_trans (Nat.gcd_dvd_left _ _) (Nat.gcd_dvd_left _ _)
    have d2 : G ∣ l.natAbs * u := by rw [← hG]; exact Nat.dvd_trans (Nat.gcd_dvd_left _ _) (Nat.gcd_dvd_right _ _)
    have d3 : G ∣ n.natAbs * v := by rw [← hG]; exact Nat.gcd_dvd_right _ _
    have e1 : G ∣ u := by
      have : G ∣ Nat.gcd (u * l.natAbs) (u * M) := Nat.dvd_gcd (by rw [Nat.mul_comm]; exact d2) (by rw [cM]; exact d1)
      rw [Nat.gcd_mul_left, g1, Nat.mul_one] at this
      exact this
    have e2 : G ∣ v := by
      have : G ∣ Nat.gcd (v * n.natAbs) (v * K') := Nat.dvd_gcd (by rw [Nat.mul_comm]; exact d3) (by rw [cK]; exact d1)
      rw [Nat.gcd_mul_left, g2, Nat.mul_one] at this
      exact this
    have e3 : G ∣ 1 := by rw [← co]; exact Nat.dvd_gcd e1 e2
    exact Nat.dvd_one.mp e3
theorem isSq_nonneg {n : Int} (h : isSq n) : 0 ≤ n := by
  obtain ⟨r, r0, rfl⟩ := h
  exact Int.mul_nonneg r0 r0
def spSqrt : Sp := fun vs H Q _ => ∃ n : Int, vs = [.int n] ∧ n.natAbs < 2 ^ 12000 ∧ (∀ r : Int, 0 ≤ r → r * r = n → Q (.int r) H) ∧ (¬ isSq n → Q .non H)
section
variable {P : Program} {w : World} {K : PySem.W.Frag} {mg : Str → Option Value} {base : Heap}
theorem ok_square_root (T : Txt K mg) : FnOk P w K mg base CX0 1 T.f_square_root T.fd_square_root ["n"] spSqrt := by
  refine T.D_square_root.F.ok sc_square_root (fun vs H Q E h => ?_) (fun cdv A outer s H vs Q E hr h => ?_)
  · obtain ⟨n, rfl, _⟩ := h
    rfl
  · obtain ⟨n, rfl, hb, kY, kN⟩ := h
    refine ⟨_, (pss_cons (ps_if (pt_cmpR op_lt (pv 0) pe_int (nomark _)) (pss_one (ps_ret pe_non)) pss_nil)
    (pss_cons (ps_set (i := 1) sc_square_root.nd rfl (Or.inl rfl) (pe_callBfun cr_isqrt (by rfl) T.isqrt (pa_cons (pv 0) pa_nil)))
    (pss_one (ps_ret (pe_ifExp (pt_cmpR op_eq (pe_op op_mulW (pv 1) (pv 1)) (pv 0) (nomark _)) (pv 1) pe_non))))), ?_⟩
    refine ⟨_, rfl, _, _, rfl, rfl, _, rfl, iteD (fun h0 => ?_) (fun h0 => ?_)⟩
    · exact kN fun z => by have := isSq_nonneg z; omega
    · refine ⟨_, rfl, n, rfl, by omega, up 12000 hb, fun r r0 r1 r2 => ?_⟩
      have rb : r.natAbs < 2 ^ 6000 := root_size r0 r1 hb
      refine ⟨_, rfl, _, rfl, _, _, rfl, rfl, cmulw rb rb (by decide), _, rfl, rfl, _, rfl, ite2 (fun hz => ?_) (fun hz => ?_)⟩
      · have h1 := of_decide_eq_true hz
        injection h1 with h2
        exact ⟨_, rfl, kY r r0 h2⟩
      · refine kN fun z => ?_
        obtain ⟨u, u0, hu⟩ := z
        have e : (u + 1) * (u + 1) = u * u + u + u + 1 := by
          rw [Int.add_mul, Int.mul_add]
          omega
        have : r = u := root_uniq r0 u0 r1 r2 (by omega) (by omega)
        subst this
        exact hz (decide_eq_true (congrArg V.int hu))
end
theorem dp_elt {K : PySem.W.Frag} {H : Hp} {c p q : Addr} {n d m e : Int} (h : SqT K H c [.ref p, .ref q]) (hp : SqT K H p [.int n, .int d]) (hq : SqT K H q [.int m, .int e]) : Dp K H (.ref c) (.tuple [.tuple [.int n, .int d], .tuple [.int m, .int e]]) :=
  .tup h (.cons (dp_pair hp) (.cons (dp_pair hq) .nil))
theorem EltAt.dp {K : PySem.W.Frag} {H : Hp} {a : Addr} {x y : Q2} (h : EltAt H a x y) : Dp K H (.ref a) (.tuple [.tuple [.int x.1, .int x.2], .tuple [.int y.1, .int y.2]]) := by
  obtain ⟨p, q, h1, h2, h3⟩ := h
  exact dp_elt (SqT.of h1) (SqT.of h2) (SqT.of h3)
theorem eqv_elts (x y z w : Q2) : PyData.eqv (.tuple [.tuple [.int x.1, .int x.2], .tuple [.int y.1, .int y.2]]) (.tuple [.tuple [.int z.1, .int z.2], .tuple [.int w.1, .int w.2]]) = decide (x = z ∧ y = w) := by
  have e1 := eqv_ints x.1 x.2 z.1 z.2
  have e2 := eqv_ints y.1 y.2 w.1 w.2
  have e : PyData.eqv (.tuple [.tuple [.int x.1, .int x.2], .tuple [.int y.1, .int y.2]]) (.tuple [.tuple [.int z.1, .int z.2], .tuple [.int w.1, .int w.2]]) =
      (PyData.eqv (.tuple [.int x.1, .int x.2]) (.tuple [.int z.1, .int z.2]) && PyData.eqv (.tuple [.int y.1, .int y.2]) (.tuple [.int w.1, .int w.2])) := by
    simp [PyData.eqv, PyData.eqvAll]
  rw [e, e1, e2, ← Bool.decide_and]
  exact decide_eq_decide.mpr ⟨fun h => ⟨Prod.ext h.1.1 h.1.2, Prod.ext h.2.1 h.2.2⟩, fun h => by rw [h.1, h.2]; exact ⟨⟨rfl, rfl⟩, rfl, rfl⟩⟩
/-- over, by pairs -/
@[irreducible] def spQOver (C : Addr) : Sp := fun vs H Q _ => ∃ (p q : Addr) (x y : Q2), vs = [.ref p, .ref q] ∧ RatAt H p x ∧ RatAt H q y ∧ Sm 4000 x ∧ Sm 4000 y ∧ y.1 ≠ 0 ∧
  ∀ (r : Addr) (H' : Hp), Same H H' → H r = none → RatAt H' r (qOver x y) → Q (.ref r) H'
theorem b_over {C : Addr} {H : Hp} {Q : VK} {E : XK} {p q : Addr} {x y : Q2} (hp : RatAt H p x) (hq : RatAt H q y) (hx : Sm 4000 x) (hy : Sm 4000 y) (h : y.1 ≠ 0) (k : ∀ (r : Addr) (H' : Hp), Same H H' → H r = none → RatAt H' r (qOver x y) → Q (.ref r) H') :
    spQOver C [.ref p, .ref q] H Q E := by
  unfold spQOver
  exact ⟨p, q, x, y, rfl, hp, hq, hx, hy, h, k⟩
def spOpp : Sp := fun vs H Q _ => ∃ (p : Addr) (x : Q2), vs = [.ref p] ∧ RatAt H p x ∧ ∀ (r : Addr) (H' : Hp), Same H H' → H r = none → RatAt H' r (-x.1, x.2) → Q (.ref r) H'
/-- c1 and c2 of the quotient's second factor -/
def qInv (f : Int) (z w : Q2) : Q2 × Q2 := (qOver z (nrm f z w), qOver (-w.1, w.2) (nrm f z w))
def qDiv (f : Int) (x y z w : Q2) : Q2 × Q2 := fMul f x y (qInv f z w).1 (qInv f z w).2
section
variable {P : Program} {w : World} {K : PySem.W.Frag} {mg : Str → Option Value} {base : Heap}
theorem ok_overQ (T : Txt K mg) : FnOk P w K mg base (L2.CX P w) 4 T.f_over T.fd_over ["a", "b"] (spQOver T.c_BadValue) := (ok_over T).imp fun vs H Q E h => by
  unfold spQOver at h
  obtain ⟨p, q, x, y, rfl, hp, hq, hx, hy, hn, k⟩ := h
  exact ⟨p, q, x.1, x.2, y.1, y.2, rfl, hp, hq, by have := hx.1; omega, hx.2.1, hx.2.2, hy.2.1, hy.2.2, fun _ => k, fun z => absurd z hn⟩
theorem ok_opposite (T : Txt K mg) : FnOk P w K mg base CX0 1 T.f_opposite T.fd_opposite ["a"] spOpp := by
  refine T.D_opposite.F.ok sc_opposite (fun vs H Q E h => ?_) (fun cdv A outer s H vs Q E hr h => ?_)
  · obtain ⟨p, x, rfl, _⟩ := h
    rfl
  · obtain ⟨p, x, rfl, hp, k⟩ := h
    refine ⟨_, (pss_one (ps_ret (pe_tup (pa_cons (pe_un un_neg (pe_ix (r := rIxT K) ix_tup (pv 0) pe_int (fun _ _ => rfl))) (pa_cons (pe_ix (r := rIxT K) ix_tup (pv 0) pe_int (fun _ _ => rfl)) pa_nil))))), ?_⟩
    exact ⟨_, rfl, _, _, _, _, rfl, rfl, SqT.of hp, rfl, _, rfl, _, rfl, _, _, _, _, rfl, rfl, SqT.of hp, rfl, (by show 2 ≤ sizeLine; decide), fun r hr' => k r _ (same_new hr') hr' upd_same⟩
end
/-! ### roots within a field -/
def IsRt (u q : Q2) : Prop := 0 ≤ u.1 ∧ 0 ≤ u.2 ∧ u.1 * u.1 = q.1 ∧ u.2 * u.2 = q.2
theorem sq_inj {a b : Int} (ha : 0 ≤ a) (hb : 0 ≤ b) (h : a * a = b * b) : a = b := by
  rcases (show a < b ∨ a = b ∨ b < a by omega) with q | q | q
  · have h1 := Int.mul_self_le_mul_self (show 0 ≤ a + 1 by omega) (show a + 1 ≤ b by omega)
    have h2 : (a + 1) * (a + 1) = a * a + a + a + 1 := by grind
    omega
  · exact q
  · have h1 := Int.mul_self_le_mul_self (show 0 ≤ b + 1 by omega) (show b + 1 ≤ a by omega)
    have h2 : (b + 1) * (b + 1) = b * b + b + b + 1 := by grind
    omega
theorem IsRt.uniq {u v q : Q2} (h : IsRt u q) (k : IsRt v q) : u = v :=
  Prod.ext (sq_inj h.1 k.1 (by rw [h.2.2.1, k.2.2.1])) (sq_inj h.2.1 k.2.1 (by rw [h.2.2.2, k.2.2.2]))
theorem sq_val {u : Q2} : val (u.1 * u.1, u.2 * u.2) = val u * val u := by
  unfold val
  dsimp only
  rw [Rat.intCast_mul, Rat.intCast_mul]
  by_cases h : (u.2 : Rat) = 0
  · rw [h]
    grind
  · grind
theorem IsRt.val {u q : Q2} (h : IsRt u q) : Odds.val u * Odds.val u = Odds.val q := by
  rw [← sq_val, h.2.2.1, h.2.2.2]
theorem sq_nrm {u : Q2} (h : Nrm u) : Nrm (u.1 * u.1, u.2 * u.2) := by
  refine ⟨?_, ?_⟩
  · have := Int.mul_pos (show 0 < u.2 by have := h.1; omega) (show 0 < u.2 by have := h.1; omega)
    show 1 ≤ u.2 * u.2
    omega
  · show Nat.gcd (u.1 * u.1).natAbs (u.2 * u.2).natAbs = 1
    rw [Int.natAbs_mul, Int.natAbs_mul]
    have c : Nat.Coprime u.1.natAbs u.2.natAbs := h.2
    exact (c.mul_left c).mul_right (c.mul_left c)
theorem IsRt.nrm {u q : Q2} (h : IsRt u q) (hq : Nrm q) : Nrm u := by
  have h2 : u.2 ≠ 0 := by
    intro z
    have := h.2.2.2
    rw [z] at this
    have := hq.1
    omega
  refine ⟨by have := h.2.1; omega, ?_⟩
  have g := hq.2
  rw [← h.2.2.1, ← h.2.2.2, Int.natAbs_mul, Int.natAbs_mul] at g
  have d : Nat.gcd u.1.natAbs u.2.natAbs ∣ Nat.gcd (u.1.natAbs * u.1.natAbs) (u.2.natAbs * u.2.natAbs) :=
    Nat.dvd_gcd (Nat.dvd_trans (Nat.gcd_dvd_left _ _) (Nat.dvd_mul_right _ _)) (Nat.dvd_trans (Nat.gcd_dvd_right _ _) (Nat.dvd_mul_right _ _))
  rw [g] at d
  exact Nat.dvd_one.mp d
theorem IsRt.sm {u q : Q2} {a : Nat} (h : IsRt u q) (hq : Nrm q) (hs : Sm (a + a) q) : Sm a u :=
  ⟨(h.nrm hq).1, root_size h.1 (Int.le_of_eq h.2.2.1) hs.2.1, root_size h.2.1 (Int.le_of_eq h.2.2.2) hs.2.2⟩
/-- the opposite -/
def qNeg (x : Q2) : Q2 := (-x.1, x.2)
theorem qNeg_nrm {x : Q2} (h : Nrm x) : Nrm (qNeg x) := ⟨h.1, by show Nat.gcd (-x.1).natAbs x.2.natAbs = 1; rw [Int.natAbs_neg]; exact h.2⟩
theorem val_neg (x : Q2) : val (qNeg x) = - val x := by
  unfold val qNeg
  dsimp only
  rw [Rat.intCast_neg]
  grind
/-- a rational that is a square of a rational has a root -/
theorem rt_of_val {q c : Q2} (hq : Nrm q) (hc : Nrm c) (h : val q = val c * val c) : ∃ u, IsRt u q := by
  have e : (c.1 * c.1, c.2 * c.2) = q := val_inj (sq_nrm hc) hq (by rw [sq_val, h])
  refine ⟨((c.1.natAbs : Int), c.2), by show (0 : Int) ≤ (c.1.natAbs : Int); omega, by show 0 ≤ c.2; have := hc.1; omega, ?_, ?_⟩
  · show (c.1.natAbs : Int) * (c.1.natAbs : Int) = q.1
    rw [← e]
    exact Int.natAbs_mul_self
  · show c.2 * c.2 = q.2
    rw [← e]
def nn (f : Int) (p q : Q2) : Q2 × Q2 := if sgF f p q < 0 then (qNeg p, qNeg q) else (p, q)
open Classical in
noncomputable def rt (q : Q2) : Option Q2 := if h : ∃ u, IsRt u q then some (Classical.choose h) else none
theorem rt_some {q u : Q2} (h : IsRt u q) : rt q = some u := by
  unfold rt
  have e : ∃ u, IsRt u q := ⟨u, h⟩
  rw [dif_pos e, (Classical.choose_spec e).uniq h]
theorem rt_none {q : Q2} (h : ¬ ∃ u, IsRt u q) : rt q = none := by
  unfold rt
  rw [dif_neg h]
theorem rt_is {q u : Q2} (h : rt q = some u) : IsRt u q := by
  by_cases e : ∃ u, IsRt u q
  · obtain ⟨v, hv⟩ := e
    rw [rt_some hv] at h
    rw [← Option.some.inj h]
    exact hv
  · rw [rt_none e] at h
    cases h
def half : Q2 := (1, 2)
noncomputable def rootF (f : Int) (x y : Q2) : Option (Q2 × Q2) :=
  if y = (0, 1) then
    match rt x with
    | some u => some (u, (0, 1))
    | none => if f = 0 then none else
      match rt (qOver x (f, 1)) with
      | some u => some ((0, 1), u)
      | none => none
  else
    match rt (nrm f x y) with
    | none => none
    | some m =>
      match rt (qTimes (qPlus x m) half) with
      | some p => some (nn f p (qOver y (qPlus p p)))
      | none =>
        match rt (qTimes (qMinus x m) half) with
        | some p => some (nn f p (qOver y (qPlus p p)))
        | none => none
theorem half_val : val half = (1 : Rat) / 2 := rfl
theorem half_nrm : Nrm half := ⟨by decide, rfl⟩
theorem zero_nrm : Nrm ((0, 1) : Q2) := ⟨by decide, rfl⟩
theorem val_zero : val ((0, 1) : Q2) = 0 := by rw [val_int]; rfl
theorem val_eq_zero {q : Q2} (h : Nrm q) (z : val q = 0) : q = (0, 1) := val_inj h zero_nrm (by rw [z, val_zero])
theorem sq_ok {f : Int} {p q : Q2} (hp : Nrm p) (hq : Nrm q) : Nrm (fMul f p q p q).1 ∧ Nrm (fMul f p q p q).2 ∧ val (fMul f p q p q).1 = val p * val p + (f : Rat) * (val q * val q) ∧ val (fMul f p q p q).2 = val p * val q + val q * val p := by
  have i1 : (1 : Int) ≤ ((f, 1) : Q2).2 := Int.le_refl 1
  refine ⟨qPlus_nrm (qTimes_nrm hp.1 hp.1).1 (qTimes_nrm i1 (qTimes_nrm hq.1 hq.1).1).1, qPlus_nrm (qTimes_nrm hp.1 hq.1).1 (qTimes_nrm hq.1 hp.1).1, ?_, ?_⟩
  · show val (qPlus _ _) = _
    rw [val_plus (qTimes_nrm hp.1 hp.1).1 (qTimes_nrm i1 (qTimes_nrm hq.1 hq.1).1).1, val_times hp.1 hp.1, val_times i1 (qTimes_nrm hq.1 hq.1).1, val_times hq.1 hq.1, val_int]
  · show val (qPlus _ _) = _
    rw [val_plus (qTimes_nrm hp.1 hq.1).1 (qTimes_nrm hq.1 hp.1).1, val_times hp.1 hq.1, val_times hq.1 hp.1]
theorem sq_is {f : Int} {p q x y : Q2} (hp : Nrm p) (hq : Nrm q) (hx : Nrm x) (hy : Nrm y) (h1 : val p * val p + (f : Rat) * (val q * val q) = val x) (h2 : val p * val q + val q * val p = val y) : fMul f p q p q = (x, y) := by
  obtain ⟨n1, n2, v1, v2⟩ := sq_ok (f := f) hp hq
  exact Prod.ext (val_inj n1 hx (by rw [v1, h1])) (val_inj n2 hy (by rw [v2, h2]))
theorem sgF_neg {f : Int} {p q : Q2} (hp : 1 ≤ p.2) (hq : 1 ≤ q.2) : sgF f (qNeg p) (qNeg q) = 0 - sgF f p q := by
  have h := sg_neg (f := f) hp hq
  unfold qNeg
  rw [Int.zero_sub, Int.zero_sub] at h
  rw [h]
theorem nn_ok {f : Int} {p q : Q2} (hp : Nrm p) (hq : Nrm q) : Nrm (nn f p q).1 ∧ Nrm (nn f p q).2 ∧ 0 ≤ sgF f (nn f p q).1 (nn f p q).2 ∧ fMul f (nn f p q).1 (nn f p q).2 (nn f p q).1 (nn f p q).2 = fMul f p q p q := by
  unfold nn
  by_cases h : sgF f p q < 0
  · rw [if_pos h]
    refine ⟨qNeg_nrm hp, qNeg_nrm hq, by show 0 ≤ sgF f (qNeg p) (qNeg q); rw [sgF_neg hp.1 hq.1]; omega, ?_⟩
    obtain ⟨n1, n2, v1, v2⟩ := sq_ok (f := f) hp hq
    refine sq_is (qNeg_nrm hp) (qNeg_nrm hq) n1 n2 ?_ ?_
    · show val (qNeg p) * val (qNeg p) + (f : Rat) * (val (qNeg q) * val (qNeg q)) = val (fMul f p q p q).1
      rw [v1, val_neg, val_neg]; grind
    · show val (qNeg p) * val (qNeg q) + val (qNeg q) * val (qNeg p) = val (fMul f p q p q).2
      rw [v2, val_neg, val_neg]; grind
  · rw [if_neg h]
    exact ⟨hp, hq, by show 0 ≤ sgF f p q; omega, rfl⟩
theorem Sm.neg {n : Nat} {q : Q2} (h : Sm n q) : Sm n (qNeg q) := ⟨h.1, by show (-q.1).natAbs < 2 ^ n; rw [Int.natAbs_neg]; exact h.2.1, h.2.2⟩
theorem nn_sm {f : Int} {n : Nat} {p q : Q2} (hp : Sm n p) (hq : Sm n q) : Sm n (nn f p q).1 ∧ Sm n (nn f p q).2 := by
  unfold nn
  split
  · exact ⟨hp.neg, hq.neg⟩
  · exact ⟨hp, hq⟩
/-- the second part of a root by its first -/
theorem half_root {f : Int} {x y m p : Q2} (e : Rat) (he : e * e = 1) (hx : Nrm x) (hy : Nrm y) (yn : y ≠ (0, 1)) (hf : f ≠ 0) (hp : Nrm p) (hm : val m * val m = val x * val x - (f : Rat) * (val y * val y))
    (h : val p * val p = (val x + e * val m) * ((1 : Rat) / 2)) : (qPlus p p).1 ≠ 0 ∧ fMul f p (qOver y (qPlus p p)) p (qOver y (qPlus p p)) = (x, y) := by
  have pp := qPlus_nrm hp.1 hp.1
  have vp := val_plus hp.1 hp.1
  have fr : (f : Rat) ≠ 0 := ratne hf
  have vy : val y ≠ 0 := fun z => yn (val_eq_zero hy z)
  have p0 : val p ≠ 0 := by
    intro z
    rw [z] at h
    have h1 : val x = - (e * val m) := by grind
    have h2 : (f : Rat) * (val y * val y) = 0 := by grind
    grind
  have n0 : (qPlus p p).1 ≠ 0 := by
    intro z
    have h1 : val (qPlus p p) = 0 := by
      unfold val
      rw [z]
      show ((0 : Int) : Rat) / _ = 0
      have : ((0 : Int) : Rat) = 0 := rfl
      rw [this]
      grind
    rw [vp] at h1
    grind
  refine ⟨n0, ?_⟩
  have vo := val_over (x := y) hy.1 pp.1 n0
  have on := qOver_nrm (x := y) hy.1 n0
  rw [vp] at vo
  refine sq_is hp on hx hy ?_ ?_
  · grind
  · grind
theorem rootF_ok {f : Int} {x y : Q2} {ρ : Q2 × Q2} (hx : Nrm x) (hy : Nrm y) (sx : Sm 140 x) (sy : Sm 140 y) (bf : f.natAbs < 2 ^ 60) (hz : f = 0 → y = (0, 1)) (h : rootF f x y = some ρ) :
    Nrm ρ.1 ∧ Nrm ρ.2 ∧ 0 ≤ sgF f ρ.1 ρ.2 ∧ fMul f ρ.1 ρ.2 ρ.1 ρ.2 = (x, y) ∧ Sm 850 ρ.1 ∧ Sm 850 ρ.2 ∧ (f = 0 → ρ.2 = (0, 1)) := by
  unfold rootF at h
  have nonneg : ∀ u : Q2, 0 ≤ u.1 → 0 ≤ u.1.sign := fun u hu => by
    rcases (show u.1 = 0 ∨ 0 < u.1 by omega) with q | q
    · rw [q]; decide
    · rw [Int.sign_eq_one_of_pos q]; decide
  split at h
  · rename_i y0
    subst y0
    split at h
    · rename_i u hu
      have r := rt_is hu
      cases h
      have nu := r.nrm hx
      refine ⟨nu, zero_nrm, ?_, sq_is nu zero_nrm hx zero_nrm ?_ ?_, (r.sm (a := 70) hx sx).up 850, sm_int (by decide), fun _ => rfl⟩
      · show 0 ≤ sgF f u (0, 1)
        unfold sgF
        rw [if_pos (.inl rfl)]
        exact nonneg u r.1
      · rw [val_zero, r.val]; grind
      · rw [val_zero]; grind
    · split at h
      · cases h
      · rename_i f0
        split at h
        · rename_i u hu
          have r := rt_is hu
          cases h
          have nf : (1 : Int) ≤ ((f, 1) : Q2).2 := Int.le_refl 1
          have no := qOver_nrm (x := x) (y := (f, 1)) hx.1 f0
          have vo := val_over (x := x) (y := (f, 1)) hx.1 nf f0
          rw [val_int] at vo
          have nu := r.nrm no
          have so : Sm 200 (qOver x (f, 1)) := sx.over (sm_int (n := 60) bf) f0
          refine ⟨zero_nrm, nu, ?_, sq_is zero_nrm nu hx zero_nrm ?_ ?_, sm_int (by decide), (r.sm (a := 100) no so).up 850, fun z => absurd z f0⟩
          · show 0 ≤ sgF f (0, 1) u
            unfold sgF
            have := nonneg u r.1
            by_cases h1 : u.1.sign = 0 ∨ (0 : Int).sign = u.1.sign
            · rw [if_pos h1]; decide
            · rw [if_neg h1, if_pos (show ((0, 1) : Q2).1.sign = 0 from rfl)]; exact this
          · rw [val_zero, r.val]; grind
          · rw [val_zero]; grind
        · cases h
  · rename_i yn
    have f0 : f ≠ 0 := fun z => yn (hz z)
    split at h
    · cases h
    · rename_i m hm
      have rm := rt_is hm
      have nN := nrm_nrm (f := f) hx.1 hy.1
      have nm := rm.nrm nN
      have vm : val m * val m = val x * val x - (f : Rat) * (val y * val y) := by rw [rm.val, val_nrm hx.1 hy.1]
      have sN : Sm (350 + 350) (nrm f x y) := (Sm.minus ((sx.times sx).up 340) ((sm_int (n := 60) bf).times (sy.times sy))).up 700
      have sm := rm.sm nN sN
      have fin : ∀ (p : Q2) (e : Rat) (q : Q2), e * e = 1 → Nrm q → Sm (352 + 352) q → IsRt p q → val q = (val x + e * val m) * ((1 : Rat) / 2) → ρ = nn f p (qOver y (qPlus p p)) →
          Nrm ρ.1 ∧ Nrm ρ.2 ∧ 0 ≤ sgF f ρ.1 ρ.2 ∧ fMul f ρ.1 ρ.2 ρ.1 ρ.2 = (x, y) ∧ Sm 850 ρ.1 ∧ Sm 850 ρ.2 ∧ (f = 0 → ρ.2 = (0, 1)) := by
        intro p e q he nq sq rp vq eρ
        subst eρ
        have np := rp.nrm nq
        have sp := rp.sm nq sq
        obtain ⟨n0, hsq⟩ := half_root e he hx hy yn f0 np vm (by rw [rp.val, vq])
        have no := qOver_nrm (x := y) hy.1 n0
        obtain ⟨k1, k2, k3, k4⟩ := nn_ok (f := f) np no
        obtain ⟨k5, k6⟩ := nn_sm (f := f) (sp.up 850) ((sy.over (sp.plus sp) n0).up 850)
        exact ⟨k1, k2, k3, by rw [k4, hsq], k5, k6, fun z => absurd z f0⟩
      split at h
      · rename_i p hp
        cases h
        exact fin p 1 _ (by grind) (qTimes_nrm (qPlus_nrm hx.1 nm.1).1 half_nrm.1) ((((sx.up 350).plus sm).times (show Sm 2 half from ⟨by decide, by decide, by decide⟩)).up 704) (rt_is hp)
          (by rw [val_times (qPlus_nrm hx.1 nm.1).1 half_nrm.1, val_plus hx.1 nm.1, half_val]; grind) rfl
      · split at h
        · rename_i p hp
          cases h
          exact fin p (-1) _ (by grind) (qTimes_nrm (qMinus_nrm hx.1 nm.1).1 half_nrm.1) ((((sx.up 350).minus sm).times (show Sm 2 half from ⟨by decide, by decide, by decide⟩)).up 704) (rt_is hp)
            (by rw [val_times (qMinus_nrm hx.1 nm.1).1 half_nrm.1, val_minus hx.1 nm.1, half_val]; grind) rfl
        · cases h
/-- a square has a root -/
theorem rootF_sq {f : Int} {c d : Q2} (hc : Nrm c) (hd : Nrm d) (hz : f = 0 → d = (0, 1)) : rootF f (fMul f c d c d).1 (fMul f c d c d).2 ≠ none := by
  obtain ⟨nx, ny, vx, vy⟩ := sq_ok (f := f) hc hd
  generalize (fMul f c d c d).1 = x at *
  generalize (fMul f c d c d).2 = y at *
  unfold rootF
  split
  · rename_i y0
    rw [y0, val_zero] at vy
    by_cases d0 : val d = 0
    · obtain ⟨u, hu⟩ := rt_of_val nx hc (by rw [vx, d0]; grind)
      rw [rt_some hu]
      simp
    · have c0 : val c = 0 := by grind
      cases hr : rt x with
      | some u => simp
      | none =>
        have f0 : f ≠ 0 := fun z => d0 (by rw [hz z, val_zero])
        have nf : (1 : Int) ≤ ((f, 1) : Q2).2 := Int.le_refl 1
        have no := qOver_nrm (x := x) (y := (f, 1)) nx.1 f0
        have vo := val_over (x := x) (y := (f, 1)) nx.1 nf f0
        rw [val_int, vx, c0] at vo
        have fr : (f : Rat) ≠ 0 := ratne f0
        obtain ⟨u, hu⟩ := rt_of_val no hd (by grind)
        simp [f0, rt_some hu]
  · have nN := nrm_nrm (f := f) nx.1 ny.1
    have vN := val_nrm (f := f) nx.1 ny.1
    have nw := nrm_nrm (f := f) hc.1 hd.1
    have vw := val_nrm (f := f) hc.1 hd.1
    obtain ⟨m, hm⟩ := rt_of_val nN nw (by rw [vN, vw, vx, vy]; grind)
    have nm := hm.nrm nN
    have vm := hm.val
    rw [rt_some hm]
    have key : val m = val (nrm f c d) ∨ val m = - val (nrm f c d) := by
      have h1 : (val m - val (nrm f c d)) * (val m + val (nrm f c d)) = 0 := by
        rw [vN, vx, vy] at vm
        rw [vw]
        grind
      rcases Rat.mul_eq_zero.mp h1 with h | h
      · left; grind
      · right; grind
    cases h1 : rt (qTimes (qPlus x m) half) with
    | some p => simp [h1]
    | none =>
      rcases key with k | k
      · exfalso
        obtain ⟨u, hu⟩ := rt_of_val (qTimes_nrm (qPlus_nrm nx.1 nm.1).1 half_nrm.1) hc (by rw [val_times (qPlus_nrm nx.1 nm.1).1 half_nrm.1, val_plus nx.1 nm.1, half_val, k, vw, vx]; grind)
        rw [rt_some hu] at h1
        cases h1
      · obtain ⟨u, hu⟩ := rt_of_val (qTimes_nrm (qMinus_nrm nx.1 nm.1).1 half_nrm.1) hc (by rw [val_times (qMinus_nrm nx.1 nm.1).1 half_nrm.1, val_minus nx.1 nm.1, half_val, k, vw, vx]; grind)
        simp [h1, rt_some hu]
theorem no_rat_root {f : Int} {r d : Q2} (hr : Nrm r) (hd : Nrm d) (fq : ¬ isSq f) (h : val r * val r = (f : Rat) * (val d * val d)) : val d = 0 := by
  rcases (show val d = 0 ∨ val d ≠ 0 from Classical.em _) with z | z
  · exact z
  · exfalso
    have h1 : (r.2 : Rat) ≠ 0 := ratne (by have := hr.1; omega)
    have h2 : (d.2 : Rat) ≠ 0 := ratne (by have := hd.1; omega)
    have d1 : d.1 ≠ 0 := by
      intro q
      apply z
      unfold val
      rw [q]
      have : ((0 : Int) : Rat) = 0 := rfl
      rw [this]
      grind
    have e : ((r.1 * d.2 * (r.1 * d.2) : Int) : Rat) = ((d.1 * r.2 * (d.1 * r.2) * f : Int) : Rat) := by
      rw [Rat.intCast_mul, Rat.intCast_mul, Rat.intCast_mul, Rat.intCast_mul, Rat.intCast_mul]
      unfold val at h
      grind
    exact fq (sq_of (l := r.1 * d.2) (r := d.1 * r.2) (Int.mul_ne_zero d1 (by have := hr.1; omega)) (Rat.intCast_inj.mp e))
theorem sg_zero {f : Int} {c d : Q2} (hc : Nrm c) (hd : Nrm d) (hf : f = 0 ∨ (0 < f ∧ ¬ isSq f)) (hz : f = 0 → d = (0, 1)) (h : sgF f c d = 0) : c = (0, 1) ∧ d = (0, 1) := by
  by_cases ne : c = (0, 1) ∧ d = (0, 1)
  · exact ne
  · exfalso
    have nz := nrm_ne hc hd hf hz ne
    have zero : ∀ q : Q2, Nrm q → q.1.sign = 0 → q = (0, 1) := fun q hq hs => by
      have h1 := Int.sign_eq_zero_iff_zero.mp hs
      refine val_eq_zero hq ?_
      unfold val
      rw [h1]
      have : ((0 : Int) : Rat) = 0 := rfl
      rw [this]
      grind
    unfold sgF at h
    split at h
    · rename_i q
      have h1 := zero c hc h
      rcases q with q | q
      · exact ne ⟨h1, zero d hd q⟩
      · exact ne ⟨h1, zero d hd (by rw [← q]; exact h)⟩
    · rename_i q
      split at h
      · exact q (.inl h)
      · rename_i q2
        rcases Int.mul_eq_zero.mp h with z | z
        · exact q2 z
        · exact nz (Int.sign_eq_zero_iff_zero.mp z)
/-- roots of one element are one another's or the opposite -/
theorem root_is {f : Int} {r s c d : Q2} (hr : Nrm r) (hs : Nrm s) (hc : Nrm c) (hd : Nrm d) (hf : f = 0 ∨ (0 < f ∧ ¬ isSq f)) (zs : f = 0 → s = (0, 1)) (zd : f = 0 → d = (0, 1))
    (h : fMul f r s r s = fMul f c d c d) (hp : 0 ≤ sgF f r s) : nn f c d = (r, s) := by
  obtain ⟨_, _, v1, v2⟩ := sq_ok (f := f) hr hs
  obtain ⟨_, _, v3, v4⟩ := sq_ok (f := f) hc hd
  rw [h] at v1 v2
  have e1 : val r * val r + (f : Rat) * (val s * val s) = val c * val c + (f : Rat) * (val d * val d) := by rw [← v1, ← v3]
  have e2 : val r * val s = val c * val d := by grind
  have same : (val r = val c ∧ val s = val d) ∨ (val r = - val c ∧ val s = - val d) := by
    rcases hf with f0 | ⟨f0, fq⟩
    · have s0 : val s = 0 := by rw [zs f0, val_zero]
      have d0 : val d = 0 := by rw [zd f0, val_zero]
      have h1 : (val r - val c) * (val r + val c) = 0 := by rw [s0, d0] at e1; grind
      rcases Rat.mul_eq_zero.mp h1 with q | q
      · left; exact ⟨by grind, by rw [s0, d0]⟩
      · right; exact ⟨by grind, by rw [s0, d0]; grind⟩
    · have fr : (f : Rat) ≠ 0 := ratne (by omega)
      have h1 : (val r * val r - val c * val c) * (val r * val r - (f : Rat) * (val d * val d)) = 0 := by grind
      rcases Rat.mul_eq_zero.mp h1 with q | q
      · have h2 : (val s - val d) * (val s + val d) = 0 := by grind
        have h3 : (val r - val c) * (val r + val c) = 0 := by grind
        rcases Rat.mul_eq_zero.mp h3 with k | k
        · have k1 : val r = val c := by grind
          have h4 : val c * (val s - val d) = 0 := by rw [k1] at e2; grind
          rcases Rat.mul_eq_zero.mp h4 with l | l
          · rcases Rat.mul_eq_zero.mp h2 with o | o
            · left; exact ⟨k1, by grind⟩
            · right; exact ⟨by grind, by grind⟩
          · left; exact ⟨k1, by grind⟩
        · have k1 : val r = - val c := by grind
          have h4 : val c * (val s + val d) = 0 := by rw [k1] at e2; grind
          rcases Rat.mul_eq_zero.mp h4 with l | l
          · rcases Rat.mul_eq_zero.mp h2 with o | o
            · left; exact ⟨by grind, by grind⟩
            · right; exact ⟨k1, by grind⟩
          · right; exact ⟨k1, by grind⟩
      · have d0 := no_rat_root hr hd fq (by grind)
        have r0 : val r = 0 := by
          have : val r * val r = 0 := by grind
          rcases Rat.mul_eq_zero.mp this with k | k <;> exact k
        have s0 := no_rat_root hc hs fq (by grind)
        have c0 : val c = 0 := by
          have : val c * val c = 0 := by grind
          rcases Rat.mul_eq_zero.mp this with k | k <;> exact k
        left; exact ⟨by rw [r0, c0], by rw [s0, d0]⟩
  rcases same with ⟨k1, k2⟩ | ⟨k1, k2⟩
  · have q1 := val_inj hr hc k1
    have q2 := val_inj hs hd k2
    subst q1 q2
    unfold nn
    rw [if_neg (by omega)]
  · have q1 : r = qNeg c := val_inj hr (qNeg_nrm hc) (by rw [k1, val_neg])
    have q2 : s = qNeg d := val_inj hs (qNeg_nrm hd) (by rw [k2, val_neg])
    subst q1 q2
    rw [sgF_neg hc.1 hd.1] at hp
    unfold nn
    by_cases h0 : sgF f c d < 0
    · rw [if_pos h0]
    · rw [if_neg h0]
      obtain ⟨c0, d0⟩ := sg_zero hc hd hf zd (by omega)
      subst c0 d0
      rfl
/-! ### the program's roots -/
def spRR : Sp := fun vs H Q _ => ∃ (p : Addr) (q : Q2), vs = [.ref p] ∧ RatAt H p q ∧ q.1.natAbs < 2 ^ 12000 ∧ q.2.natAbs < 2 ^ 12000 ∧
  (∀ u, rt q = some u → ∀ (r : Addr) (H' : Hp), Same H H' → H r = none → RatAt H' r u → Q (.ref r) H') ∧ (rt q = none → Q .non H)
def spNN : Sp := fun vs H Q _ => ∃ (f : Int) (a : Addr) (x y : Q2), vs = [.int f, .ref a] ∧ EltAt H a x y ∧ Sm 850 x ∧ Sm 850 y ∧ f.natAbs < 2 ^ 100 ∧
  ∀ (r : Addr) (H' : Hp), Same H H' → EltAt H' r (nn f x y).1 (nn f x y).2 → Q (.ref r) H'
def spRoR (K : PySem.W.Frag) : Sp := fun vs H Q _ => ∃ (f : Int) (p : Addr) (q : Q2), vs = [.int f, .ref p] ∧ RatAt H p q ∧ Sm 140 q ∧ f.natAbs < 2 ^ 60 ∧
  (∀ ρ, rootF f q (0, 1) = some ρ → ∀ (r : Addr) (H' : Hp), Same H H' → EltK K H' r ρ.1 ρ.2 → Q (.ref r) H') ∧ (rootF f q (0, 1) = none → ∀ H', Same H H' → Q .non H')
@[irreducible] def spRootOf (K : PySem.W.Frag) : Sp := fun vs H Q _ => ∃ (f : Int) (a : Addr) (x y : Q2), vs = [.int f, .ref a] ∧ EltAt H a x y ∧ Nrm x ∧ Nrm y ∧ Sm 140 x ∧ Sm 140 y ∧ f.natAbs < 2 ^ 60 ∧ (f = 0 → y = (0, 1)) ∧
  (∀ ρ, rootF f x y = some ρ → ∀ (r : Addr) (H' : Hp), Same H H' → EltK K H' r ρ.1 ρ.2 → Q (.ref r) H') ∧ (rootF f x y = none → ∀ H', Same H H' → Q .non H')
theorem b_root {K : PySem.W.Frag} {H : Hp} {Q : VK} {E : XK} {f : Int} {a : Addr} {x y : Q2} (hA : EltAt H a x y) (nx : Nrm x) (ny : Nrm y) (sx : Sm 140 x) (sy : Sm 140 y) (bf : f.natAbs < 2 ^ 60) (hz : f = 0 → y = (0, 1))
    (k : ∀ ρ, rootF f x y = some ρ → ∀ (r : Addr) (H' : Hp), Same H H' → EltK K H' r ρ.1 ρ.2 → Q (.ref r) H') (kN : rootF f x y = none → ∀ H', Same H H' → Q .non H') : spRootOf K [.int f, .ref a] H Q E := by
  unfold spRootOf
  exact ⟨f, a, x, y, rfl, hA, nx, ny, sx, sy, bf, hz, k, kN⟩
theorem half_sm : Sm 2 half := ⟨by decide, by decide, by decide⟩
section
variable {P : Program} {w : World} {K : PySem.W.Frag} {mg : Str → Option Value} {base : Heap}
theorem ok_rational_root (T : Txt K mg) : FnOk P w K mg base CX0 2 T.f_rational_root T.fd_rational_root ["r"] spRR := by
  refine T.D_rational_root.F.ok sc_rational_root (fun vs H Q E h => ?_) (fun cdv A outer s H vs Q E hr h => ?_)
  · obtain ⟨p, q, rfl, _⟩ := h
    rfl
  · obtain ⟨p, q, rfl, hp, b1, b2, kY, kN⟩ := h
    refine ⟨_, (pss_cons (ps_set (i := 1) sc_rational_root.nd rfl (Or.inl rfl) (pe_call (ok_square_root T) (hr.mono (by omega)) rfl T.D_square_root.g T.D_square_root.F.kp T.D_square_root.b .nil pass0 (pa_cons (pe_ix (r := rIxT K) ix_tup (pv 0) pe_int (fun _ _ => rfl)) pa_nil)))
    (pss_cons (ps_set (i := 2) sc_rational_root.nd rfl (Or.inl rfl) (pe_call (ok_square_root T) (hr.mono (by omega)) rfl T.D_square_root.g T.D_square_root.F.kp T.D_square_root.b .nil pass0 (pa_cons (pe_ix (r := rIxT K) ix_tup (pv 0) pe_int (fun _ _ => rfl)) pa_nil)))
    (pss_one (ps_ret (pe_ifExp (PW.pt (pw_or (pt_cmpR op_isN (pv 1) pe_non (nomark _)) (pw_or1 (pt_cmpR op_isN (pv 2) pe_non (nomark _))))) pe_non (pe_tup (pa_cons (pv 1) (pa_cons (pv 2) pa_nil)))))))), ?_⟩
    refine ⟨_, rfl, _, _, _, _, rfl, rfl, SqT.of hp, rfl, _, rfl, b1, fun u u0 hu => ?_, fun n1 => ?_⟩
    · refine ⟨_, rfl, _, _, _, _, rfl, rfl, SqT.of hp, rfl, _, rfl, b2, fun v v0 hv => ?_, fun n2 => ?_⟩
      · refine ⟨_, rfl, rfl, _, rfl, iteD0 (by intro e; cases e) ⟨_, rfl, rfl, _, rfl, iteD0 (by intro e; cases e) ?_⟩⟩
        refine ⟨_, rfl, _, rfl, (by show 2 ≤ sizeLine; decide), fun r hr' => ?_⟩
        exact kY (u, v) (rt_some ⟨u0, v0, hu, hv⟩) r _ (same_new hr') hr' upd_same
      · refine ⟨_, rfl, rfl, _, rfl, iteD0 (by intro e; cases e) ⟨_, rfl, rfl, _, rfl, iteD1 rfl ?_⟩⟩
        exact kN (rt_none fun ⟨w, h⟩ => n2 ⟨w.2, h.2.1, h.2.2.2⟩)
    · have z := kN (rt_none fun ⟨w, h⟩ => n1 ⟨w.1, h.1, h.2.2.1⟩)
      refine ⟨_, rfl, _, _, _, _, rfl, rfl, SqT.of hp, rfl, _, rfl, b2, fun v v0 hv => ?_, fun n2 => ?_⟩
      · exact ⟨_, rfl, rfl, _, rfl, iteD1 rfl z⟩
      · exact ⟨_, rfl, rfl, _, rfl, iteD1 rfl z⟩
theorem ok_not_negative (T : Txt K mg) : FnOk P w K mg base CX0 7 T.f_not_negative T.fd_not_negative ["field", "a"] spNN := by
  refine T.D_not_negative.F.ok sc_not_negative (fun vs H Q E h => ?_) (fun cdv A outer st H vs Q E hr h => ?_)
  · obtain ⟨f, a, x, y, rfl, _⟩ := h
    rfl
  · obtain ⟨f, a, x, y, rfl, hA, sx, sy, bf, k⟩ := h
    refine ⟨_, (pss_cons (ps_if (pt_cmpR op_lt (pe_call (ok_sign_of T) (hr.mono (by omega)) rfl T.D_sign_of.g T.D_sign_of.F.kp T.D_sign_of.b .nil pass0 (pa_cons (pv 0) (pa_cons (pv 1) pa_nil))) pe_int (nomark _)) (pss_one (ps_ret (pe_tup (pa_cons (pe_call (ok_opposite T) (hr.mono (by omega)) rfl T.D_opposite.g T.D_opposite.F.kp T.D_opposite.b .nil pass0 (pa_cons (pe_ix (r := rIxT K) ix_tup (pv 1) pe_int (fun _ _ => rfl)) pa_nil)) (pa_cons (pe_call (ok_opposite T) (hr.mono (by omega)) rfl T.D_opposite.g T.D_opposite.F.kp T.D_opposite.b .nil pass0 (pa_cons (pe_ix (r := rIxT K) ix_tup (pv 1) pe_int (fun _ _ => rfl)) pa_nil)) pa_nil))))) pss_nil)
    (pss_one (ps_ret (pv 1)))), ?_⟩
    unfold nn at k
    refine ⟨_, rfl, _, rfl, f, a, x, y, rfl, hA, sx, sy, bf, fun H1 e1 => ⟨_, _, rfl, rfl, _, rfl, iteD (fun h => ?_) (fun h => ?_)⟩⟩
    · rw [if_pos h] at k
      obtain ⟨px, py, ha, hx, hy⟩ := hA.same e1
      refine ⟨_, rfl, _, _, _, _, rfl, rfl, SqT.of ha, rfl, px, x, rfl, hx, fun r1 H2 e2 _ h1 => ?_⟩
      refine ⟨_, rfl, _, _, _, _, rfl, rfl, SqT.of (e2 _ _ ha), rfl, py, y, rfl, e2 _ _ hy, fun r2 H3 e3 _ h2 => ?_⟩
      refine ⟨(by show 2 ≤ sizeLine; decide), fun r hr' => ?_⟩
      have e4 := same_new (o := .tup [.ref r1, .ref r2]) hr'
      exact k r _ (((e1.trans e2).trans e3).trans e4) ⟨r1, r2, upd_same, e4 _ _ (e3 _ _ h1), e4 _ _ h2⟩
    · rw [if_neg h] at k
      exact ⟨_, rfl, k a H1 e1 (hA.same e1)⟩
theorem ok_root_of_rational (T : Txt K mg) : FnOk P w K mg base CX0 5 T.f_root_of_rational T.fd_root_of_rational ["field", "r"] (spRoR K) := by
  refine T.D_root_of_rational.F.ok sc_root_of_rational (fun vs H Q E h => ?_) (fun cdv A outer st H vs Q E hr h => ?_)
  · obtain ⟨f, p, q, rfl, _⟩ := h
    rfl
  · obtain ⟨f, p, q, rfl, hp, sq, bf, kY, kN⟩ := h
    refine ⟨_, (pss_cons (ps_set (i := 2) sc_root_of_rational.nd rfl (Or.inl rfl) (pe_call (ok_rational_root T) (hr.mono (by omega)) rfl T.D_rational_root.g T.D_rational_root.F.kp T.D_rational_root.b .nil pass0 (pa_cons (pv 1) pa_nil)))
    (pss_cons (ps_if (pt_cmpR op_notN (pv 2) pe_non (nomark _)) (pss_one (ps_ret (pe_tup (pa_cons (pv 2) (pa_cons (pe_glob (v := .ref T.c_ZERO) rfl T.g_ZERO rfl) pa_nil))))) pss_nil)
    (pss_cons (ps_if (pt_cmpR op_eq (pv 0) pe_int (nomark _)) (pss_one (ps_ret pe_non)) pss_nil)
    (pss_cons (ps_set (i := 2) sc_root_of_rational.nd rfl (Or.inl rfl) (pe_call (ok_rational_root T) (hr.mono (by omega)) rfl T.D_rational_root.g T.D_rational_root.F.kp T.D_rational_root.b .nil pass0 (pa_cons (pe_call (ok_overQ T) (hr.mono (by omega)) rfl T.D_over.g T.D_over.F.kp T.D_over.b .nil passL (pa_cons (pv 1) (pa_cons (pe_tup (pa_cons (pv 0) (pa_cons pe_int pa_nil))) pa_nil))) pa_nil)))
    (pss_one (ps_ret (pe_ifExp (pt_cmpR op_isN (pv 2) pe_non (nomark _)) pe_non (pe_tup (pa_cons (pe_glob (v := .ref T.c_ZERO) rfl T.g_ZERO rfl) (pa_cons (pv 2) pa_nil)))))))))), ?_⟩
    unfold rootF at kY kN
    rw [if_pos rfl] at kY kN
    refine ⟨_, rfl, p, q, rfl, hp, up 140 sq.2.1, up 140 sq.2.2, fun u hu r H1 e1 n1 h1 => ?_, fun hn => ?_⟩
    · rw [hu] at kY
      refine ⟨_, rfl, rfl, _, rfl, iteN1 (by intro e; cases e) ?_⟩
      refine ⟨_, rfl, (by show 2 ≤ sizeLine; decide), fun r2 hr2 => ?_⟩
      have e2 := same_new (o := .tup [.ref r, .ref T.c_ZERO]) hr2
      exact kY _ rfl r2 _ (e1.trans e2) ⟨r, T.c_ZERO, SqT.of upd_same, (RatAt.k h1).same e2, T.k_ZERO.sq⟩
    · rw [hn] at kY kN
      refine ⟨_, rfl, rfl, _, rfl, iteNS rfl ?_⟩
      refine ⟨_, rfl, rfl, _, rfl, ite2 (fun hz => ?_) (fun hz => ?_)⟩
      · have h1 := of_decide_eq_true hz
        injection h1 with h2
        subst h2
        exact kN rfl H (Same.refl H)
      · have f0 : f ≠ 0 := fun z => hz (by rw [z]; exact decide_eq_true rfl)
        dsimp only at kY kN
        rw [if_neg f0] at kY kN
        refine ⟨_, rfl, _, rfl, (by show 2 ≤ sizeLine; decide), fun pt ht => ?_⟩
        have e1 := same_new (o := .tup [.int f, .int 1]) ht
        have so : Sm 200 (qOver q (f, 1)) := sq.over (sm_int (n := 60) bf) f0
        refine b_over (y := (f, 1)) (e1 _ _ hp) upd_same (sq.up 4000) (sm_int (up 60 bf)) f0 fun r1 H2 e2 n2 h2 => ?_
        refine ⟨r1, _, rfl, h2, up 200 so.2.1, up 200 so.2.2, fun u hu r3 H3 e3 n3 h3 => ?_, fun hn2 => ?_⟩
        · rw [hu] at kY
          refine ⟨_, rfl, rfl, _, rfl, iteD0 (by intro e; cases e) ?_⟩
          refine ⟨_, rfl, (by show 2 ≤ sizeLine; decide), fun r4 hr4 => ?_⟩
          have e4 := same_new (o := .tup [.ref T.c_ZERO, .ref r3]) hr4
          exact kY _ rfl r4 _ (((e1.trans e2).trans e3).trans e4) ⟨T.c_ZERO, r3, SqT.of upd_same, T.k_ZERO.sq, (RatAt.k h3).same e4⟩
        · rw [hn2] at kN
          exact ⟨_, rfl, rfl, _, rfl, iteD1 rfl (kN rfl _ (e1.trans e2))⟩
theorem ok_root_of (T : Txt K mg) : FnOk P w K mg base CX0 8 T.f_root_of T.fd_root_of ["field", "a"] (spRootOf K) := by
  refine T.D_root_of.F.ok sc_root_of (fun vs H Q E h => ?_) (fun cdv A outer st H vs Q E hr h => ?_)
  · unfold spRootOf at h
    obtain ⟨f, a, x, y, rfl, _⟩ := h
    rfl
  · unfold spRootOf at h
    obtain ⟨f, a, x, y, rfl, hE, nx, ny, sx, sy, bf, hz, kY, kN⟩ := h
    obtain ⟨px, py, ha, hx, hy⟩ := id hE
    refine ⟨_, (pss_cons (ps_if (pt_cmpR (op_eqD hr.units) (pe_ix (r := rIxT K) ix_tup (pv 1) pe_int (fun _ _ => rfl)) (pe_glob (v := .ref T.c_ZERO) rfl T.g_ZERO rfl) (nomark _)) (pss_one (ps_ret (pe_call (ok_root_of_rational T) (hr.mono (by omega)) rfl T.D_root_of_rational.g T.D_root_of_rational.F.kp T.D_root_of_rational.b .nil pass0 (pa_cons (pv 0) (pa_cons (pe_ix (r := rIxT K) ix_tup (pv 1) pe_int (fun _ _ => rfl)) pa_nil))))) pss_nil)
    (pss_cons (ps_set (i := 2) sc_root_of.nd rfl (Or.inl rfl) (pe_call (ok_rational_root T) (hr.mono (by omega)) rfl T.D_rational_root.g T.D_rational_root.F.kp T.D_rational_root.b .nil pass0 (pa_cons (pe_call (ok_norm T) (hr.mono (by omega)) rfl T.D_norm.g T.D_norm.F.kp T.D_norm.b .nil pass0 (pa_cons (pv 0) (pa_cons (pv 1) pa_nil))) pa_nil)))
    (pss_cons (ps_if (pt_cmpR op_isN (pv 2) pe_non (nomark _)) (pss_one (ps_ret pe_non)) pss_nil)
    (pss_cons (ps_for PassesOwn.never rfl (pi_tup (pe_tup (pa_cons (pe_call (ok_plusQ T) (hr.mono (by omega)) rfl T.D_plus.g T.D_plus.F.kp T.D_plus.b .nil pass0 (pa_cons (pe_ix (r := rIxT K) ix_tup (pv 1) pe_int (fun _ _ => rfl)) (pa_cons (pv 2) pa_nil))) (pa_cons (pe_call (ok_minusQ T) (hr.mono (by omega)) rfl T.D_minus.g T.D_minus.F.kp T.D_minus.b .nil pass0 (pa_cons (pe_ix (r := rIxT K) ix_tup (pv 1) pe_int (fun _ _ => rfl)) (pa_cons (pv 2) pa_nil))) pa_nil)))) (pg_name (i := 3) sc_root_of.nd rfl (Or.inl rfl)) (pss_cons (ps_set (i := 4) sc_root_of.nd rfl (Or.inl rfl) (pe_call (ok_rational_root T) (hr.mono (by omega)) rfl T.D_rational_root.g T.D_rational_root.F.kp T.D_rational_root.b .nil pass0 (pa_cons (pe_call (ok_timesK T) (hr.mono (by omega)) rfl T.D_times.g T.D_times.F.kp T.D_times.b .nil pass0 (pa_cons (pv 3) (pa_cons (pe_glob (v := .ref T.c_HALF) rfl T.g_HALF rfl) pa_nil))) pa_nil)))
    (pss_one (ps_if (pt_cmpR op_notN (pv 4) pe_non (nomark _)) (pss_one (ps_ret (pe_call (ok_not_negative T) (hr.mono (by omega)) rfl T.D_not_negative.g T.D_not_negative.F.kp T.D_not_negative.b .nil pass0 (pa_cons (pv 0) (pa_cons (pe_tup (pa_cons (pv 4) (pa_cons (pe_call (ok_overQ T) (hr.mono (by omega)) rfl T.D_over.g T.D_over.F.kp T.D_over.b .nil passL (pa_cons (pe_ix (r := rIxT K) ix_tup (pv 1) pe_int (fun _ _ => rfl)) (pa_cons (pe_call (ok_plusQ T) (hr.mono (by omega)) rfl T.D_plus.g T.D_plus.F.kp T.D_plus.b .nil pass0 (pa_cons (pv 4) (pa_cons (pv 4) pa_nil))) pa_nil))) pa_nil))) pa_nil))))) pss_nil))))
    (pss_one (ps_ret pe_non)))))), ?_⟩
    refine ⟨_, rfl, _, _, _, _, rfl, rfl, SqT.of ha, rfl, _, _, dp_pair (SqT.of hy), dp_pair T.k_ZERO.sq, rfl, rfl, _, rfl, ?_⟩
    rw [eqv_ints]
    refine iteD (fun h0 => ?_) (fun h0 => ?_)
    · have y0 : y = (0, 1) := Prod.ext h0.1 h0.2
      subst y0
      exact ⟨_, rfl, _, rfl, _, _, _, _, rfl, rfl, SqT.of ha, rfl, f, px, x, rfl, hx, sx, bf, kY, kN⟩
    · have yn : y ≠ (0, 1) := fun q => h0 (by rw [q]; exact ⟨rfl, rfl⟩)
      have f0 : f ≠ 0 := fun z => yn (hz z)
      unfold rootF at kY kN
      rw [if_neg yn] at kY kN
      have nN := nrm_nrm (f := f) nx.1 ny.1
      have sN : Sm (350 + 350) (nrm f x y) := (Sm.minus ((sx.times sx).up 340) ((sm_int (n := 60) bf).times (sy.times sy))).up 700
      refine ⟨_, rfl, _, rfl, f, a, x, y, rfl, hE, sx.up 850, sy.up 850, up 60 bf, fun rn H1 e1 _ hn => ?_⟩
      refine ⟨rn, _, rfl, hn, up 700 sN.2.1, up 700 sN.2.2, fun m hm rm H2 e2 n2 hm2 => ?_, fun hnone => ?_⟩
      case' refine_2 =>
        rw [hnone] at kN
        exact ⟨_, rfl, rfl, _, rfl, iteD1 rfl (kN rfl _ e1)⟩
      rw [hm] at kY kN
      dsimp only at kY kN
      refine ⟨_, rfl, rfl, _, rfl, iteD0 (by intro e; cases e) ?_⟩
      have im := rt_is hm
      have nm := im.nrm nN
      have sm := im.sm nN sN
      have g2 := e1.trans e2
      have bfw : f.natAbs < 2 ^ 100 := up 60 bf
      refine ⟨_, rfl, _, _, _, _, rfl, rfl, SqT.of (g2 _ _ ha), rfl, _, rfl, b_q (g2 _ _ hx) hm2 (sx.up 4000) (sm.up 4000) fun r1 H3 e3 _ h1 => ?_⟩
      have g3 := g2.trans e3
      refine ⟨_, rfl, _, _, _, _, rfl, rfl, SqT.of (g3 _ _ ha), rfl, _, rfl, b_q (g3 _ _ hx) (e3 _ _ hm2) (sx.up 4000) (sm.up 4000) fun r2 H4 e4 _ h2 => ?_⟩
      refine ⟨(by show 2 ≤ sizeLine; decide), fun pt ht => ?_⟩
      have e5 := same_new (o := .tup [.ref r1, .ref r2]) ht
      have g5 := (g3.trans e4).trans e5
      have h1' := e5 _ _ (e4 _ _ h1)
      have h2' := e5 _ _ h2
      have hpt : (upd H4 pt (.tup [.ref r1, .ref r2])) pt = some (.tup [.ref r1, .ref r2]) := upd_same
      generalize upd H4 pt (.tup [.ref r1, .ref r2]) = H5 at *
      have s1 : Sm 702 (qPlus x m) := (Sm.plus (sx.up 350) sm).up 702
      have s2 : Sm 702 (qMinus x m) := (Sm.minus (sx.up 350) sm).up 702
      refine ⟨pt, rfl, ⟨_, SqT.of hpt⟩, ?_⟩
      refine for_tup (xs := [V.ref r1, .ref r2]) (fun i σ H' => Same H5 H' ∧ ∃ v3 v4 : Option V, σ = [some (.int f), some (.ref a), some (.ref rm), v3, v4] ∧ (1 ≤ i → rt (qTimes (qPlus x m) half) = none) ∧ (2 ≤ i → rt (qTimes (qMinus x m) half) = none)) ⟨Same.refl _, none, none, rfl, fun z => absurd z (by omega), fun z => absurd z (by omega)⟩ (fun i σ H' _ hP => SqT.of (hP.1 _ _ hpt)) ?_ ?_
      · rintro i z σ H' hz' ⟨gd, v3, v4, rfl, c1, c2⟩
        obtain ⟨d, e, rd, rfl, he, nd, sd, vd, hd, k1, k2⟩ : ∃ (d : Q2) (e : Rat) (rd : Addr), z = V.ref rd ∧ e * e = 1 ∧ Nrm d ∧ Sm 702 d ∧ val d = val x + e * val m ∧ RatAt H' rd d ∧
            (∀ p, rt (qTimes d half) = some p → ∀ (r : Addr) (H'' : Hp), Same H H'' → EltAt H'' r (nn f p (qOver y (qPlus p p))).1 (nn f p (qOver y (qPlus p p))).2 → Q (.ref r) H'') ∧
            (rt (qTimes d half) = none → (1 ≤ i + 1 → rt (qTimes (qPlus x m) half) = none) ∧ (2 ≤ i + 1 → rt (qTimes (qMinus x m) half) = none)) := by
          match i, hz', c1, c2 with
          | 0, hz', c1, c2 =>
            cases hz'
            refine ⟨_, 1, r1, rfl, by grind, qPlus_nrm nx.1 nm.1, s1, by rw [val_plus nx.1 nm.1]; grind, gd _ _ h1', fun p hp r Hr er hr' => ?_, fun hn => ⟨fun _ => hn, fun z => absurd z (by omega)⟩⟩
            rw [hp] at kY
            exact kY _ rfl r Hr er hr'.k
          | 1, hz', c1, c2 =>
            cases hz'
            have c1 := c1 (Nat.le_refl 1)
            refine ⟨_, -1, r2, rfl, by grind, qMinus_nrm nx.1 nm.1, s2, by rw [val_minus nx.1 nm.1]; grind, gd _ _ h2', fun p hp r Hr er hr' => ?_, fun hn => ⟨fun _ => c1, fun _ => hn⟩⟩
            rw [c1, hp] at kY
            exact kY _ rfl r Hr er hr'.k
          | j + 2, hz', _, _ => simp at hz'
        have nt := qTimes_nrm nd.1 half_nrm.1
        have st : Sm (352 + 352) (qTimes d half) := (sd.times half_sm).up 704
        refine ⟨_, rfl, b_k (y := half) (RatAt.k hd) T.k_HALF.sq (sd.up 4000) (half_sm.up 4000) fun r6 H6 e6 _ h6 => ?_⟩
        refine ⟨r6, _, rfl, h6, up 704 st.2.1, up 704 st.2.2, fun p hp rp H7 e7 n7 h7 => ?_, fun hnone => ?_⟩
        · have ip := rt_is hp
          have np := ip.nrm nt
          have sp := ip.sm nt st
          obtain ⟨n0, _⟩ := half_root e he nx ny yn f0 np (by rw [im.val, val_nrm nx.1 ny.1]) (by rw [ip.val, val_times nd.1 half_nrm.1, half_val, vd])
          have g7 := g5.trans (gd.trans (e6.trans e7))
          refine ⟨_, rfl, rfl, _, rfl, iteN1 (by intro e; cases e) ?_⟩
          refine ⟨_, rfl, _, rfl, _, rfl, _, _, _, _, rfl, rfl, SqT.of (g7 _ _ ha), rfl, _, rfl, _, rfl, b_q h7 h7 (sp.up 4000) (sp.up 4000) fun r8 H8 e8 _ h8 => ?_⟩
          refine b_over (e8 _ _ (g7 _ _ hy)) h8 (sy.up 4000) ((sp.plus sp).up 4000) n0 fun r9 H9 e9 _ h9 => ?_
          refine ⟨(by show 2 ≤ sizeLine; decide), fun q hq => ?_⟩
          have e10 := same_new (o := .tup [.ref rp, .ref r9]) hq
          refine ⟨f, q, p, _, rfl, ⟨rp, r9, upd_same, e10 _ _ (e9 _ _ (e8 _ _ h7)), e10 _ _ h9⟩, sp.up 850, (sy.over (sp.plus sp) n0).up 850, bfw, fun r Hr er hr' => ?_⟩
          exact k1 p hp r Hr ((((g7.trans e8).trans e9).trans e10).trans er) hr'
        · exact ⟨_, rfl, rfl, _, rfl, iteNS rfl ⟨gd.trans e6, _, _, rfl, k2 hnone⟩⟩
      · rintro σ H' ⟨gd, v3, v4, rfl, c1, c2⟩
        rw [c1 (Nat.le_succ 1), c2 (Nat.le_refl 2)] at kN
        exact kN rfl H' (g5.trans gd)
end
def spRatSq : Sp := fun vs H Q _ => ∃ (p : Addr) (q : Q2), vs = [.ref p] ∧ RatAt H p q ∧ 1 ≤ q.2 ∧ q.1.natAbs < 2 ^ 7900 ∧ q.2.natAbs < 2 ^ 7900 ∧ ∀ b : Bool, (b = true ↔ ∃ u, IsRt u q) → Q (.bl b) H
def spHasRoot : Sp := fun vs H Q _ => ∃ (f : Int) (a : Addr) (x y : Q2), vs = [.int f, .ref a] ∧ EltAt H a x y ∧ Nrm x ∧ Nrm y ∧ Sm 140 x ∧ Sm 140 y ∧ 0 ≤ f ∧ f.natAbs < 2 ^ 60 ∧ (f = 0 → y = (0, 1)) ∧
  ∀ (b : Bool) (H' : Hp), (b = true ↔ rootF f x y ≠ none) → Same H H' → Q (.bl b) H'
def spLNN : Sp := fun vs H Q _ => ∃ (f : Int) (a : Addr) (x y : Q2), vs = [.int f, .ref a] ∧ EltAt H a x y ∧ Sm 850 x ∧ Sm 850 y ∧ f.natAbs < 2 ^ 100 ∧ (f = 0 ∨ (0 < f ∧ ¬ isSq f)) ∧ (f = 0 → y = (0, 1)) ∧
  ∀ (r : Addr) (H' : Hp), Same H H' → EltAt H' r (nn f x y).1 (nn f x y).2 → Q (.ref r) H'
def spLaw (K : PySem.W.Frag) : Sp := fun vs H Q _ => ∃ (a : Addr) (ns : List Int), vs = [.ref a] ∧ SqL K H a (ns.map V.int) ∧ ns.length ≤ 63 ∧ ∀ H', Q (.bl true) H'
theorem zero_sub_eq (x : Q2) : ((0 - x.1, x.2) : Q2) = qNeg x := by
  unfold qNeg
  rw [Int.zero_sub]
section
variable {P : Program} {w : World} {K : PySem.W.Frag} {mg : Str → Option Value} {base : Heap}
theorem ok_l_is_rational_square (T : Txt K mg) : FnOk P w K mg base CX0 3 T.f_l_is_rational_square T.fd_l_is_rational_square ["a"] spRatSq := by
  refine T.D_l_is_rational_square.F.ok sc_l_is_rational_square (fun vs H Q E h => ?_) (fun cdv A outer s H vs Q E hr h => ?_)
  · obtain ⟨p, q, rfl, _⟩ := h
    rfl
  · obtain ⟨p, q, rfl, hp, d1, b1, b2, k⟩ := h
    refine ⟨_, (pss_one (ps_ret (pe_and (pe_cmpR op_ge (pe_ix (r := rIxT K) ix_tup (pv 0) pe_int (fun _ _ => rfl)) pe_int (nomark _)) (pe_and (pe_call (ok_l_is_square T) (hr.mono (by omega)) rfl T.D_l_is_square.g T.D_l_is_square.F.kp T.D_l_is_square.b .nil pass0 (pa_cons (pe_ix (r := rIxT K) ix_tup (pv 0) pe_int (fun _ _ => rfl)) pa_nil)) (pe_one (pe_call (ok_l_is_square T) (hr.mono (by omega)) rfl T.D_l_is_square.g T.D_l_is_square.F.kp T.D_l_is_square.b .nil pass0 (pa_cons (pe_ix (r := rIxT K) ix_tup (pv 0) pe_int (fun _ _ => rfl)) pa_nil))))))), ?_⟩
    refine ⟨_, rfl, _, _, _, _, rfl, rfl, SqT.of hp, rfl, _, _, rfl, rfl, _, rfl, iteD (fun h0 => ?_) (fun h0 => ?_)⟩
    · refine ⟨_, rfl, _, _, _, _, rfl, rfl, SqT.of hp, rfl, _, rfl, h0, b1, fun b hb => ⟨b, rfl, ?_⟩⟩
      cases b with
      | false => exact iteF (k false ⟨fun z => Bool.noConfusion z, fun ⟨u, h⟩ => Bool.noConfusion (hb.mpr ⟨u.1, h.1, h.2.2.1⟩)⟩)
      | true =>
        refine iteT ⟨_, rfl, _, _, _, _, rfl, rfl, SqT.of hp, rfl, _, rfl, (by omega), b2, fun c hc => ?_⟩
        obtain ⟨u, u0, hu⟩ := hb.mp rfl
        exact k c ⟨fun z => by obtain ⟨v, v0, hv⟩ := hc.mp z; exact ⟨(u, v), u0, v0, hu, hv⟩, fun ⟨v, h⟩ => hc.mpr ⟨v.2, h.2.1, h.2.2.2⟩⟩
    · exact k false ⟨fun z => Bool.noConfusion z, fun ⟨u, h⟩ => absurd (by rw [← h.2.2.1]; exact Int.mul_nonneg h.1 h.1) h0⟩
theorem ok_l_not_negative (T : Txt K mg) : FnOk P w K mg base CX0 3 T.f_l_not_negative T.fd_l_not_negative ["field", "a"] spLNN := by
  refine T.D_l_not_negative.F.ok sc_l_not_negative (fun vs H Q E h => ?_) (fun cdv A outer s H vs Q E hr h => ?_)
  · obtain ⟨f, a, x, y, rfl, _⟩ := h
    rfl
  · obtain ⟨f, a, x, y, rfl, hA, sx, sy, bf, hf, hz, k⟩ := h
    obtain ⟨px, py, ha, hx, hy⟩ := id hA
    refine ⟨_, (pss_cons (ps_if (pt_cmpR op_lt (pe_call (ok_l_sign_of T) (hr.mono (by omega)) rfl T.D_l_sign_of.g T.D_l_sign_of.F.kp T.D_l_sign_of.b .nil pass0 (pa_cons (pv 0) (pa_cons (pv 1) pa_nil))) pe_int (nomark _)) (pss_one (ps_ret (pe_tup (pa_cons (pe_tup (pa_cons (pe_op op_sub pe_int (pe_ix (r := rIxT K) ix_tup (pe_ix (r := rIxT K) ix_tup (pv 1) pe_int (fun _ _ => rfl)) pe_int (fun _ _ => rfl))) (pa_cons (pe_ix (r := rIxT K) ix_tup (pe_ix (r := rIxT K) ix_tup (pv 1) pe_int (fun _ _ => rfl)) pe_int (fun _ _ => rfl)) pa_nil))) (pa_cons (pe_tup (pa_cons (pe_op op_sub pe_int (pe_ix (r := rIxT K) ix_tup (pe_ix (r := rIxT K) ix_tup (pv 1) pe_int (fun _ _ => rfl)) pe_int (fun _ _ => rfl))) (pa_cons (pe_ix (r := rIxT K) ix_tup (pe_ix (r := rIxT K) ix_tup (pv 1) pe_int (fun _ _ => rfl)) pe_int (fun _ _ => rfl)) pa_nil))) pa_nil))))) pss_nil)
    (pss_one (ps_ret (pv 1)))), ?_⟩
    unfold nn at k
    rw [sg_same sx.1 sy.1 hf (fun z => by rw [hz z])] at k
    refine ⟨_, rfl, _, rfl, f, a, x, y, rfl, hA.k, sx, sy, bf, _, _, rfl, rfl, _, rfl, iteD (fun h => ?_) (fun h => ?_)⟩
    · rw [if_pos h] at k
      refine ⟨_, rfl, _, _, _, _, rfl, rfl, SqT.of ha, rfl, _, _, _, _, rfl, rfl, SqT.of hx, rfl, _, _, rfl, rfl, ?_⟩
      refine ⟨_, rfl, _, _, _, _, rfl, rfl, SqT.of ha, rfl, _, _, _, _, rfl, rfl, SqT.of hx, rfl, (by show 2 ≤ sizeLine; decide), fun o1 ho1 => ?_⟩
      have g1 := same_new (o := .tup [.int (0 - x.1), .int x.2]) ho1
      have ha7 := g1 _ _ ha
      have hy7 := g1 _ _ hy
      refine ⟨_, rfl, _, _, _, _, rfl, rfl, SqT.of ha7, rfl, _, _, _, _, rfl, rfl, SqT.of hy7, rfl, _, _, rfl, rfl, ?_⟩
      refine ⟨_, rfl, _, _, _, _, rfl, rfl, SqT.of ha7, rfl, _, _, _, _, rfl, rfl, SqT.of hy7, rfl, (by show 2 ≤ sizeLine; decide), fun o2 ho2 => ⟨(by show 2 ≤ sizeLine; decide), fun oo hoo => ?_⟩⟩
      have g2 := same_new (o := .tup [.int (0 - y.1), .int y.2]) ho2
      have g3 := same_new (o := .tup [.ref o1, .ref o2]) hoo
      have z1 := zero_sub_eq x
      have z2 := zero_sub_eq y
      refine k oo _ ((g1.trans g2).trans g3) ⟨o1, o2, upd_same, ?_, ?_⟩
      · show RatAt _ o1 (qNeg x)
        rw [← z1]; exact (g2.trans g3) _ _ upd_same
      · show RatAt _ o2 (qNeg y)
        rw [← z2]; exact g3 _ _ upd_same
    · rw [if_neg h] at k
      exact ⟨_, rfl, k a H (Same.refl H) hA⟩
theorem ok_l_has_root (T : Txt K mg) : FnOk P w K mg base CX0 4 T.f_l_has_root T.fd_l_has_root ["field", "a"] spHasRoot := by
  refine T.D_l_has_root.F.ok sc_l_has_root (fun vs H Q E h => ?_) (fun cdv A outer s H vs Q E hr h => ?_)
  · obtain ⟨f, a, x, y, rfl, _⟩ := h
    rfl
  · obtain ⟨f, a, x, y, rfl, hA, nx, ny, sx, sy, fp, bf, hz, k⟩ := h
    obtain ⟨px, py, ha, hx, hy⟩ := id hA
    refine ⟨_, (pss_cons (ps_asg (pv 1) (pg_tup (by rfl) (pgs_cons (pg_name (i := 2) sc_l_has_root.nd rfl (Or.inl rfl)) (pgs_cons (pg_name (i := 3) sc_l_has_root.nd rfl (Or.inl rfl)) pgs_nil))))
    (pss_cons (ps_if (pt_cmpR (op_eqD hr.units) (pv 3) (pe_tup (pa_cons pe_int (pa_cons pe_int pa_nil))) (nomark _)) (pss_cons (ps_if (pt_val (pe_call (ok_l_is_rational_square T) (hr.mono (by omega)) rfl T.D_l_is_rational_square.g T.D_l_is_rational_square.F.kp T.D_l_is_rational_square.b .nil pass0 (pa_cons (pv 2) pa_nil))) (pss_one (ps_ret pe_bl)) pss_nil)
    (pss_one (ps_ret (pe_and (pe_cmpR op_gt (pv 0) pe_int (nomark _)) (pe_one (pe_call (ok_l_is_rational_square T) (hr.mono (by omega)) rfl T.D_l_is_rational_square.g T.D_l_is_rational_square.F.kp T.D_l_is_rational_square.b .nil pass0 (pa_cons (pe_call (ok_l_low T) (hr.mono (by omega)) rfl T.D_l_low.g T.D_l_low.F.kp T.D_l_low.b .nil pass0 (pa_cons (pe_ix (r := rIxT K) ix_tup (pv 2) pe_int (fun _ _ => rfl)) (pa_cons (pe_op op_mulW (pe_ix (r := rIxT K) ix_tup (pv 2) pe_int (fun _ _ => rfl)) (pv 0)) pa_nil))) pa_nil))))))) pss_nil)
    (pss_cons (ps_set (i := 4) sc_l_has_root.nd rfl (Or.inl rfl) (pe_call (ok_l_plusQ T) (hr.mono (by omega)) rfl T.D_l_plus.g T.D_l_plus.F.kp T.D_l_plus.b .nil pass0 (pa_cons (pe_call (ok_l_timesQ T) (hr.mono (by omega)) rfl T.D_l_times.g T.D_l_times.F.kp T.D_l_times.b .nil pass0 (pa_cons (pv 2) (pa_cons (pv 2) pa_nil))) (pa_cons (pe_call (ok_l_timesQ T) (hr.mono (by omega)) rfl T.D_l_times.g T.D_l_times.F.kp T.D_l_times.b .nil pass0 (pa_cons (pe_tup (pa_cons (pe_op op_sub pe_int (pv 0)) (pa_cons pe_int pa_nil))) (pa_cons (pe_call (ok_l_timesQ T) (hr.mono (by omega)) rfl T.D_l_times.g T.D_l_times.F.kp T.D_l_times.b .nil pass0 (pa_cons (pv 3) (pa_cons (pv 3) pa_nil))) pa_nil))) pa_nil))))
    (pss_cons (ps_if (pt_not (pt_val (pe_call (ok_l_is_rational_square T) (hr.mono (by omega)) rfl T.D_l_is_rational_square.g T.D_l_is_rational_square.F.kp T.D_l_is_rational_square.b .nil pass0 (pa_cons (pv 4) pa_nil)))) (pss_one (ps_ret pe_bl)) pss_nil)
    (pss_cons (ps_set (i := 5) sc_l_has_root.nd rfl (Or.inl rfl) (pe_tup (pa_cons (pe_call (ok_l_root T) (hr.mono (by omega)) rfl T.D_l_root.g T.D_l_root.F.kp T.D_l_root.b .nil pass0 (pa_cons (pe_ix (r := rIxT K) ix_tup (pv 4) pe_int (fun _ _ => rfl)) pa_nil)) (pa_cons (pe_call (ok_l_root T) (hr.mono (by omega)) rfl T.D_l_root.g T.D_l_root.F.kp T.D_l_root.b .nil pass0 (pa_cons (pe_ix (r := rIxT K) ix_tup (pv 4) pe_int (fun _ _ => rfl)) pa_nil)) pa_nil))))
    (pss_cons (ps_for PassesOwn.never rfl (pi_list (pe_lst (pa_cons (pv 5) (pa_cons (pe_tup (pa_cons (pe_op op_sub pe_int (pe_ix (r := rIxT K) ix_tup (pv 5) pe_int (fun _ _ => rfl))) (pa_cons (pe_ix (r := rIxT K) ix_tup (pv 5) pe_int (fun _ _ => rfl)) pa_nil))) pa_nil)))) (pg_name (i := 6) sc_l_has_root.nd rfl (Or.inl rfl)) (pss_one (ps_if (pt_val (pe_call (ok_l_is_rational_square T) (hr.mono (by omega)) rfl T.D_l_is_rational_square.g T.D_l_is_rational_square.F.kp T.D_l_is_rational_square.b .nil pass0 (pa_cons (pe_call (ok_l_timesQ T) (hr.mono (by omega)) rfl T.D_l_times.g T.D_l_times.F.kp T.D_l_times.b .nil pass0 (pa_cons (pe_tup (pa_cons pe_int (pa_cons pe_int pa_nil))) (pa_cons (pe_call (ok_l_plusQ T) (hr.mono (by omega)) rfl T.D_l_plus.g T.D_l_plus.F.kp T.D_l_plus.b .nil pass0 (pa_cons (pv 2) (pa_cons (pv 6) pa_nil))) pa_nil))) pa_nil))) (pss_one (ps_ret pe_bl)) pss_nil)))
    (pss_one (ps_ret pe_bl)))))))), ?_⟩
    refine ⟨_, rfl, _, _, rfl, SqT.of ha, rfl, _, _, rfl, _, _, rfl, rfl, ?_⟩
    refine ⟨_, rfl, (by show 2 ≤ sizeLine; decide), fun pz hpz => ?_⟩
    have e1 := same_new (o := .tup [.int 0, .int 1]) hpz
    have hx1 := e1 _ _ hx
    have hy1 := e1 _ _ hy
    refine ⟨_, _, dp_pair (SqT.of hy1), dp_pair (SqT.of upd_same), rfl, rfl, _, rfl, ?_⟩
    generalize upd H pz (.tup [.int 0, .int 1]) = H1 at *
    rw [eqv_ints]
    unfold rootF at k
    refine iteD (fun h0 => ?_) (fun h0 => ?_)
    · have y0 : y = (0, 1) := Prod.ext h0.1 h0.2
      rw [if_pos y0] at k
      refine ⟨_, rfl, px, x, rfl, hx1, sx.1, up 140 sx.2.1, up 140 sx.2.2, fun b hb => ⟨b, rfl, ?_⟩⟩
      cases b with
      | true =>
        obtain ⟨u, hu⟩ := hb.mp rfl
        rw [rt_some hu] at k
        exact iteT (k true H1 ⟨fun _ => by simp, fun _ => rfl⟩ e1)
      | false =>
        rw [rt_none fun h => Bool.noConfusion (hb.mpr h)] at k
        dsimp only at k
        refine iteF ?_
        refine ⟨_, rfl, _, _, rfl, rfl, _, rfl, iteD (fun f1 => ?_) (fun f1 => ?_)⟩
        · rw [if_neg (show ¬ f = 0 by omega)] at k
          refine ⟨_, rfl, _, _, _, _, rfl, rfl, SqT.of hx1, rfl, _, rfl, _, _, _, _, rfl, rfl, SqT.of hx1, rfl, _, rfl, _, _, rfl, rfl, cmulw sx.2.2 bf (by decide), ?_⟩
          have nz : x.2 * f ≠ 0 := Int.mul_ne_zero (by have := nx.1; omega) (by omega)
          have bd : (x.2 * f).natAbs < 2 ^ 200 := mul_up 140 60 sx.2.2 bf
          refine ⟨x.1, x.2 * f, rfl, nz, up 140 sx.2.1, up 200 bd, fun p H2 e2 n2 h2 => ?_⟩
          have eo : qOver x (f, 1) = (lo1 x.1 (x.2 * f), lo2 x.1 (x.2 * f)) := by
            unfold qOver
            rw [Int.mul_one]
          have bn200 : x.1.natAbs < 2 ^ 200 := up 140 sx.2.1
          have so := sm_lo nz bn200 bd
          refine ⟨p, (lo1 x.1 (x.2 * f), lo2 x.1 (x.2 * f)), rfl, h2, so.1, up 200 so.2.1, up 200 so.2.2, fun c hc => ?_⟩
          rw [eo] at k
          cases c with
          | true =>
            obtain ⟨u, hu⟩ := hc.mp rfl
            rw [rt_some hu] at k
            exact k true H2 ⟨fun _ => by simp, fun _ => rfl⟩ (e1.trans e2)
          | false =>
            rw [rt_none fun h => Bool.noConfusion (hc.mpr h)] at k
            exact k false H2 ⟨fun z => Bool.noConfusion z, fun z => absurd rfl z⟩ (e1.trans e2)
        · rw [if_pos (show f = 0 by omega)] at k
          exact k false H1 ⟨fun z => Bool.noConfusion z, fun z => absurd rfl z⟩ e1
    · have yn : y ≠ (0, 1) := fun q => h0 (by rw [q]; exact ⟨rfl, rfl⟩)
      have f0 : f ≠ 0 := fun z => yn (hz z)
      rw [if_neg yn] at k
      have nN := nrm_nrm (f := f) nx.1 ny.1
      have sN : Sm (350 + 350) (nrm f x y) := (Sm.minus ((sx.times sx).up 340) ((sm_int (n := 60) bf).times (sy.times sy))).up 700
      have b0 : (0 - f).natAbs < 2 ^ 60 := by omega
      have eN : qPlus (qTimes x x) (qTimes (0 - f, 1) (qTimes y y)) = nrm f x y := by
        have t1 := qTimes_nrm nx.1 nx.1
        have t2 := qTimes_nrm ny.1 ny.1
        have i1 : (1 : Int) ≤ ((0 - f, 1) : Q2).2 := Int.le_refl 1
        have t3 := qTimes_nrm i1 t2.1
        refine val_inj (qPlus_nrm t1.1 t3.1) nN ?_
        rw [val_plus t1.1 t3.1, val_times nx.1 nx.1, val_times i1 t2.1, val_times ny.1 ny.1, val_int, val_nrm nx.1 ny.1, Int.zero_sub, Rat.intCast_neg]
        grind
      refine ⟨_, rfl, _, rfl, b_q hx1 hx1 (sx.up 4000) (sx.up 4000) fun r1 H2 e2 _ h1 => ?_⟩
      refine ⟨_, rfl, _, _, rfl, rfl, ?_⟩
      refine ⟨(by show 2 ≤ sizeLine; decide), fun p hp => ?_⟩
      have e3 := same_new (o := .tup [.int (0 - f), .int 1]) hp
      have g3 := e2.trans e3
      refine ⟨_, rfl, _, rfl, b_q (g3 _ _ hy1) (g3 _ _ hy1) (sy.up 4000) (sy.up 4000) fun r4 H4 e4 _ h4 => ?_⟩
      refine b_q (x := (0 - f, 1)) (e4 _ _ upd_same) h4 (sm_int (up 60 b0)) ((sy.times sy).up 4000) fun r5 H5 e5 _ h5 => ?_
      refine b_q (e5 _ _ (e4 _ _ (e3 _ _ h1))) h5 ((sx.times sx).up 4000) (((sm_int (n := 60) b0).times (sy.times sy)).up 4000) fun rn H6 e6 _ hn => ?_
      rw [eN] at hn
      have g6 := ((g3.trans e4).trans e5).trans e6
      refine ⟨_, rfl, rn, _, rfl, hn, sN.1, up 700 sN.2.1, up 700 sN.2.2, fun b hb => ⟨b, rfl, ?_⟩⟩
      cases b with
      | false =>
        rw [rt_none fun h => Bool.noConfusion (hb.mpr h)] at k
        exact iteT (k false H6 ⟨fun z => Bool.noConfusion z, fun z => absurd rfl z⟩ (e1.trans g6))
      | true =>
        obtain ⟨m, im⟩ := hb.mp rfl
        rw [rt_some im] at k
        dsimp only at k
        have nm := im.nrm nN
        have sm := im.sm nN sN
        have e_sq : ∀ z : Int, 0 ≤ z → z * z < (z + 1) * (z + 1) := fun z hz => by
          have : (z + 1) * (z + 1) = z * z + z + z + 1 := by grind
          omega
        refine iteF ?_
        refine ⟨_, rfl, _, _, _, _, rfl, rfl, SqT.of hn, rfl, _, rfl, (by rw [← im.2.2.1]; exact Int.mul_nonneg im.1 im.1), up 700 sN.2.1, fun s1 s10 s11 s12 => ?_⟩
        refine ⟨_, rfl, _, _, _, _, rfl, rfl, SqT.of hn, rfl, _, rfl, (by have := nN.1; omega), up 700 sN.2.2, fun s2 s20 s21 s22 => ?_⟩
        have es1 : s1 = m.1 := root_uniq s10 im.1 s11 s12 (Int.le_of_eq im.2.2.1) (by rw [← im.2.2.1]; exact e_sq _ im.1)
        have es2 : s2 = m.2 := root_uniq s20 im.2.1 s21 s22 (Int.le_of_eq im.2.2.2) (by rw [← im.2.2.2]; exact e_sq _ im.2.1)
        subst es1 es2
        refine ⟨(by show 2 ≤ sizeLine; decide), fun ps hps => ?_⟩
        have e7 := same_new (o := .tup [.int m.1, .int m.2]) hps
        have hm7 : (upd H6 ps (.tup [.int m.1, .int m.2])) ps = some (.tup [.int m.1, .int m.2]) := upd_same
        generalize upd H6 ps (.tup [.int m.1, .int m.2]) = H7 at *
        refine ⟨_, rfl, _, rfl, _, _, _, _, rfl, rfl, SqT.of hm7, rfl, _, _, rfl, rfl, ?_⟩
        refine ⟨_, rfl, _, _, _, _, rfl, rfl, SqT.of hm7, rfl, (by show 2 ≤ sizeLine; decide), fun pn hpn => ⟨(by show 2 ≤ sizeLine; decide), fun pl hpl => ?_⟩⟩
        have e8 := same_new (o := .tup [.int (0 - m.1), .int m.2]) hpn
        have e9 := same_new (o := .lst [.ref ps, .ref pn]) hpl
        have hm9 := e9 _ _ (e8 _ _ hm7)
        have hn9 := e9 _ _ (upd_same (H := H7) (a := pn) (o := .tup [.int (0 - m.1), .int m.2]))
        have hl9 : (upd (upd H7 pn (.tup [.int (0 - m.1), .int m.2])) pl (.lst [.ref ps, .ref pn])) pl = some (.lst [.ref ps, .ref pn]) := upd_same
        have g9 := ((g6.trans e7).trans e8).trans e9
        generalize upd (upd H7 pn (.tup [.int (0 - m.1), .int m.2])) pl (.lst [.ref ps, .ref pn]) = H9 at *
        refine ⟨pl, rfl, ⟨_, SqL.of hl9⟩, ?_⟩
        refine for_list (xs := [V.ref ps, V.ref pn]) (fun i σ H' => Same H9 H' ∧ ∃ v7 : Option V, σ = [some (.int f), some (.ref a), some (.ref px), some (.ref py), some (.ref rn), some (.ref ps), v7] ∧ (1 ≤ i → rt (qTimes (qPlus x m) half) = none) ∧ (2 ≤ i → rt (qTimes (qMinus x m) half) = none)) ⟨Same.refl _, none, rfl, fun z => absurd z (by omega), fun z => absurd z (by omega)⟩ (fun i σ H' _ hP => SqL.of (hP.1 _ _ hl9)) ?_ ?_
        · rintro i z σ H' hz' ⟨gd, v7, rfl, c1, c2⟩
          obtain ⟨d, rd, rfl, sd, hd, nd, k1, k2⟩ : ∃ (d : Q2) (rd : Addr), z = V.ref rd ∧ Sm 350 d ∧ RatAt H' rd d ∧ Nrm d ∧
              (∀ p, rt (qTimes (qPlus x d) half) = some p → ∀ H'', Same H H'' → Q (.bl true) H'') ∧
              (rt (qTimes (qPlus x d) half) = none → (1 ≤ i + 1 → rt (qTimes (qPlus x m) half) = none) ∧ (2 ≤ i + 1 → rt (qTimes (qMinus x m) half) = none)) := by
            match i, hz', c1, c2 with
            | 0, hz', c1, c2 =>
              cases hz'
              refine ⟨m, ps, rfl, sm, gd _ _ hm9, nm, fun p hp H'' g => ?_, fun hn => ⟨fun _ => hn, fun z => absurd z (by omega)⟩⟩
              rw [hp] at k
              exact k true H'' ⟨fun _ => by simp, fun _ => rfl⟩ g
            | 1, hz', c1, c2 =>
              cases hz'
              have c1 := c1 (Nat.le_refl 1)
              refine ⟨(0 - m.1, m.2), pn, rfl, ⟨sm.1, by show (0 - m.1).natAbs < 2 ^ 350; have := sm.2.1; omega, sm.2.2⟩, gd _ _ hn9, by rw [zero_sub_eq]; exact qNeg_nrm nm, fun p hp H'' g => ?_, fun hn => ⟨fun _ => c1, fun _ => ?_⟩⟩
              · rw [← qMinus_neg] at hp
                rw [c1, hp] at k
                exact k true H'' ⟨fun _ => by simp, fun _ => rfl⟩ g
              · rw [← qMinus_neg] at hn
                exact hn
            | j + 2, hz', _, _ => simp at hz'
          have gx := gd _ _ (g9 _ _ hx1)
          have sp : Sm 701 (qPlus x d) := (sx.up 350).plus sd
          have sh : Sm 703 (qTimes half (qPlus x d)) := half_sm.times sp
          refine ⟨(by show 2 ≤ sizeLine; decide), fun ph hph => ?_⟩
          have i1 := same_new (o := .tup [.int 1, .int 2]) hph
          refine ⟨_, rfl, _, rfl, b_q (i1 _ _ gx) (i1 _ _ hd) (sx.up 4000) (sd.up 4000) fun r7 I2 i2 _ h7 => ?_⟩
          refine b_q (x := half) (i2 _ _ upd_same) h7 (half_sm.up 4000) (sp.up 4000) fun r8 I3 i3 _ h8 => ?_
          rw [qTimes_comm] at h8 sh
          have gI := (i1.trans i2).trans i3
          refine ⟨r8, _, rfl, h8, sh.1, up 703 sh.2.1, up 703 sh.2.2, fun c hc => ⟨c, rfl, ?_⟩⟩
          cases c with
          | true =>
            obtain ⟨u, hu⟩ := hc.mp rfl
            exact iteT (k1 u (rt_some hu) I3 (((e1.trans g9).trans gd).trans gI))
          | false => exact iteF ⟨gd.trans gI, _, rfl, k2 (rt_none fun h => Bool.noConfusion (hc.mpr h))⟩
        · rintro σ H' ⟨gd, v7, rfl, c1, c2⟩
          rw [c1 (Nat.le_succ 1), c2 (Nat.le_refl 2)] at k
          exact k false H' ⟨fun z => Bool.noConfusion z, fun z => absurd rfl z⟩ ((e1.trans g9).trans gd)
theorem eqv_eltK {H : Hp} {a b : Addr} {x y : Q2} (ha : EltK K H a x y) (hb : EltK K H b x y) : Eqv K 2 H (.ref a) (.ref b) := by
  obtain ⟨px, py, h1, h2, h3⟩ := ha
  obtain ⟨qx, qy, k1, k2, k3⟩ := hb
  exact eqv_pair h1 k1 (eqv_pair h2 k2 eqv_int eqv_int) (eqv_pair h3 k3 eqv_int eqv_int)
theorem ok_law (T : Txt K mg) : FnOk P w K mg base CX0 9 T.f_law T.fd_law ["script"] (spLaw K) := by
  refine T.D_law.F.ok sc_law (fun vs H Q E h => ?_) (fun cdv A outer st H vs Q E hr h => ?_)
  · obtain ⟨a, ns, rfl, _⟩ := h
    rfl
  · obtain ⟨a, ns, rfl, hS, hlen, k⟩ := h
    refine ⟨_, (pss_cons (ps_set (i := 1) sc_law.nd rfl (Or.inl rfl) (pe_call (ok_l_stream T) (hr.mono (by omega)) rfl T.D_l_stream.g T.D_l_stream.F.kp T.D_l_stream.b .nil pass0 (pa_cons (pv 0) pa_nil)))
    (pss_cons (ps_set (i := 2) sc_law.nd rfl (Or.inl rfl) (pe_call (ok_l_field T) (hr.mono (by omega)) rfl T.D_l_field.g T.D_l_field.F.kp T.D_l_field.b .nil pass0 (pa_cons (pv 1) pa_nil)))
    (pss_cons (ps_set (i := 3) sc_law.nd rfl (Or.inl rfl) (pe_call (ok_l_element T) (hr.mono (by omega)) rfl T.D_l_element.g T.D_l_element.F.kp T.D_l_element.b .nil pass0 (pa_cons (pv 1) (pa_cons (pv 2) (pa_cons pe_int (pa_cons pe_int pa_nil))))))
    (pss_cons (ps_set (i := 4) sc_law.nd rfl (Or.inl rfl) (pe_call (ok_l_next T) (hr.mono (by omega)) rfl T.D_l_next.g T.D_l_next.F.kp T.D_l_next.b .nil pass0 (pa_cons (pv 1) (pa_cons pe_int pa_nil))))
    (pss_cons (ps_if (pt_cmpR op_lt (pv 4) pe_int (nomark _)) (pss_one (ps_ret (pe_call (ok_l_equal T 2) (hr.mono (by omega)) rfl T.D_l_equal.g T.D_l_equal.F.kp T.D_l_equal.b .nil pass0 (pa_cons (pe_call (ok_root_of T) (hr.mono (by omega)) rfl T.D_root_of.g T.D_root_of.F.kp T.D_root_of.b .nil pass0 (pa_cons (pv 2) (pa_cons (pe_call (ok_l_multiply T 850 (by decide)) (hr.mono (by omega)) rfl T.D_l_multiply.g T.D_l_multiply.F.kp T.D_l_multiply.b .nil pass0 (pa_cons (pv 2) (pa_cons (pv 3) (pa_cons (pv 3) pa_nil)))) pa_nil))) (pa_cons (pe_call (ok_l_not_negative T) (hr.mono (by omega)) rfl T.D_l_not_negative.g T.D_l_not_negative.F.kp T.D_l_not_negative.b .nil pass0 (pa_cons (pv 2) (pa_cons (pv 3) pa_nil))) pa_nil))))) pss_nil)
    (C8.pss_cut (ps_if (pt_cmpR op_eq (pv 4) pe_int (nomark _)) (pss_one (ps_set (i := 3) sc_law.nd rfl (Or.inl rfl) (pe_tup (pa_cons (pe_call (ok_l_timesQ T) (hr.mono (by omega)) rfl T.D_l_times.g T.D_l_times.F.kp T.D_l_times.b .nil pass0 (pa_cons (pe_ix (r := rIxT K) ix_tup (pv 3) pe_int (fun _ _ => rfl)) (pa_cons (pe_ix (r := rIxT K) ix_tup (pv 3) pe_int (fun _ _ => rfl)) pa_nil))) (pa_cons (pe_tup (pa_cons pe_int (pa_cons pe_int pa_nil))) pa_nil))))) pss_nil)
    (C8.pss_cut (ps_if (pt_cmpR op_eq (pv 4) pe_int (nomark _)) (pss_one (ps_set (i := 3) sc_law.nd rfl (Or.inl rfl) (pe_tup (pa_cons (pe_call (ok_l_timesQ T) (hr.mono (by omega)) rfl T.D_l_times.g T.D_l_times.F.kp T.D_l_times.b .nil pass0 (pa_cons (pe_tup (pa_cons (pv 2) (pa_cons pe_int pa_nil))) (pa_cons (pe_call (ok_l_timesQ T) (hr.mono (by omega)) rfl T.D_l_times.g T.D_l_times.F.kp T.D_l_times.b .nil pass0 (pa_cons (pe_ix (r := rIxT K) ix_tup (pv 3) pe_int (fun _ _ => rfl)) (pa_cons (pe_ix (r := rIxT K) ix_tup (pv 3) pe_int (fun _ _ => rfl)) pa_nil))) pa_nil))) (pa_cons (pe_tup (pa_cons pe_int (pa_cons pe_int pa_nil))) pa_nil))))) pss_nil)
    (pss_cons (ps_set (i := 5) sc_law.nd rfl (Or.inl rfl) (pe_call (ok_root_of T) (hr.mono (by omega)) rfl T.D_root_of.g T.D_root_of.F.kp T.D_root_of.b .nil pass0 (pa_cons (pv 2) (pa_cons (pv 3) pa_nil))))
    (pss_cons (ps_if (pt_cmpR op_isN (pv 5) pe_non (nomark _)) (pss_one (ps_ret (pe_not (pe_call (ok_l_has_root T) (hr.mono (by omega)) rfl T.D_l_has_root.g T.D_l_has_root.F.kp T.D_l_has_root.b .nil pass0 (pa_cons (pv 2) (pa_cons (pv 3) pa_nil)))))) pss_nil)
    (pss_cons (ps_if (PW.pt (pw_or (pt_not (pt_val (pe_call (ok_l_has_root T) (hr.mono (by omega)) rfl T.D_l_has_root.g T.D_l_has_root.F.kp T.D_l_has_root.b .nil pass0 (pa_cons (pv 2) (pa_cons (pv 3) pa_nil))))) (pw_or1 (pt_cmpR op_lt (pe_call (ok_l_sign_of T) (hr.mono (by omega)) rfl T.D_l_sign_of.g T.D_l_sign_of.F.kp T.D_l_sign_of.b .nil pass0 (pa_cons (pv 2) (pa_cons (pv 5) pa_nil))) pe_int (nomark _))))) (pss_one (ps_ret pe_bl)) pss_nil)
    (pss_one (ps_ret (pe_and (pe_call (ok_l_equal T 2) (hr.mono (by omega)) rfl T.D_l_equal.g T.D_l_equal.F.kp T.D_l_equal.b .nil pass0 (pa_cons (pe_call (ok_l_multiply T 850 (by decide)) (hr.mono (by omega)) rfl T.D_l_multiply.g T.D_l_multiply.F.kp T.D_l_multiply.b .nil pass0 (pa_cons (pv 2) (pa_cons (pv 5) (pa_cons (pv 5) pa_nil)))) (pa_cons (pv 3) pa_nil))) (pe_one (pe_call (ok_l_equal T 2) (hr.mono (by omega)) rfl T.D_l_equal.g T.D_l_equal.F.kp T.D_l_equal.b .nil pass0 (pa_cons (pe_call (ok_root_of T) (hr.mono (by omega)) rfl T.D_root_of.g T.D_root_of.F.kp T.D_root_of.b .nil pass0 (pa_cons (pv 2) (pa_cons (pv 3) pa_nil))) (pa_cons (pv 5) pa_nil))))))))))))))))), ?_⟩
    refine ⟨_, rfl, a, ns, rfl, hS, fun s H1 hs1 e1 n1 => ?_⟩
    refine ⟨_, rfl, s, rfl, hs1, fun f H2 hf fb hs2 k2 => ?_⟩
    refine ⟨_, rfl, _, rfl, s, f, 12, 6, rfl, hs2, by decide, by decide, by decide, by decide, fun ea px py H4 x y sx sy gx gy zy tx ty mx my hs4 k4 na nx ny ha hx hy => ?_⟩
    have f0 : 0 ≤ f := by rcases hf with h | h <;> omega
    have fb' : f.natAbs < 2 ^ 100 := up 60 fb
    have nx' : Nrm x := ⟨sx.1, gx⟩
    have ny' : Nrm y := ⟨sy.1, gy⟩
    have tx' : x.1.natAbs ≤ 12 := tx
    have ty' : y.1.natAbs ≤ 12 := ty
    have sx4 : Sm 4 x := ⟨sx.1, by omega, by have := sx.1; omega⟩
    have sy4 : Sm 4 y := ⟨sy.1, by omega, by have := sy.1; omega⟩
    refine ⟨_, rfl, s, 6, rfl, hs4, by decide, up 3 (by decide), fun d H5 a5 b5 hs5 k5 => ?_⟩
    have ha5 := k5 _ _ ha na
    have hx5 := k5 _ _ hx nx
    have hy5 := k5 _ _ hy ny
    have hA5 : EltAt H5 ea x y := ⟨px, py, ha5, hx5, hy5⟩
    refine ⟨_, rfl, _, _, rfl, rfl, _, rfl, iteD (fun h3 => ?_) (fun h3 => ?_)⟩
    · obtain ⟨n1, n2, _, _⟩ := sq_ok (f := f) nx' ny'
      have q1 : Sm 140 (fMul f x y x y).1 := (Sm.plus ((sx4.times sx4).up 68) ((sm_int (n := 60) fb).times (sy4.times sy4))).up 140
      have q2 : Sm 140 (fMul f x y x y).2 := (Sm.plus (sx4.times sy4) (sy4.times sx4)).up 140
      have qz : f = 0 → (fMul f x y x y).2 = (0, 1) := fun z => by
        refine val_eq_zero n2 ?_
        rw [(sq_ok (f := f) nx' ny').2.2.2, zy z, val_zero]
        grind
      refine ⟨_, rfl, _, rfl, _, rfl, _, rfl, f, ea, ea, x, y, x, y, rfl, hA5.k, hA5.k, sx4.up 850, sy4.up 850, sx4.up 850, sy4.up 850, fb', fun r1 H6 e6 h6 => ?_⟩
      refine b_root h6 n1 n2 q1 q2 fb qz (fun ρ hρ r2 H7 e7 h7 => ?_) (fun hn => absurd hn (rootF_sq nx' ny' zy))
      obtain ⟨m1, m2, m3, m4, _, _, m7⟩ := rootF_ok n1 n2 q1 q2 fb qz hρ
      have e := root_is m1 m2 nx' ny' hf m7 zy m4 m3
      refine ⟨_, rfl, _, rfl, f, ea, x, y, rfl, hA5.same (e6.trans e7), sx4.up 850, sy4.up 850, fb', hf, zy, fun r3 H8 e8 h8 => ?_⟩
      rw [e] at h8
      exact ⟨.ref r2, .ref r3, rfl, eqv_eltK (h7.same e8) h8.k, fun H' _ => k H'⟩
    · refine ⟨fun σ H' => ∃ (ea : Addr) (x y : Q2), σ = [some (.ref a), some (.ref s), some (.int f), some (.ref ea), some (.int d), none] ∧ EltAt H' ea x y ∧ Nrm x ∧ Nrm y ∧ Sm 30 x ∧ Sm 30 y ∧ (f = 0 → y = (0, 1)), ?_, ?_⟩
      · refine ⟨_, rfl, rfl, _, rfl, ite2 (fun _ => ?_) (fun _ => ?_)⟩
        · refine ⟨_, rfl, _, _, _, _, rfl, rfl, SqT.of ha5, rfl, _, rfl, _, _, _, _, rfl, rfl, SqT.of ha5, rfl, b_q hx5 hx5 (sx.up 4000) (sx.up 4000) fun r1 H6 e6 _ h6 => ?_⟩
          refine ⟨(by show 2 ≤ sizeLine; decide), fun p hp => ⟨(by show 2 ≤ sizeLine; decide), fun q hq => ?_⟩⟩
          have e7 := same_new (o := .tup [.int 0, .int 1]) hp
          have e8 := same_new (o := .tup [.ref r1, .ref p]) hq
          exact ⟨q, qTimes x x, (0, 1), rfl, ⟨r1, p, upd_same, e8 _ _ (e7 _ _ h6), e8 _ _ upd_same⟩, qTimes_nrm sx.1 sx.1, zero_nrm, (sx4.times sx4).up 30, sm_int (by decide), fun _ => rfl⟩
        · exact ⟨ea, x, y, rfl, hA5, nx', ny', sx4.up 30, sy4.up 30, zy⟩
      rintro σ H6 ⟨ea, x, y, rfl, hA6, nx', ny', sx, sy, zy⟩
      obtain ⟨px, py, ha6, hx6, hy6⟩ := id hA6
      refine ⟨fun σ H' => ∃ (ea : Addr) (x y : Q2), σ = [some (.ref a), some (.ref s), some (.int f), some (.ref ea), some (.int d), none] ∧ EltAt H' ea x y ∧ Nrm x ∧ Nrm y ∧ Sm 140 x ∧ Sm 140 y ∧ (f = 0 → y = (0, 1)), ?_, ?_⟩
      · refine ⟨_, rfl, rfl, _, rfl, ite2 (fun _ => ?_) (fun _ => ?_)⟩
        · refine ⟨_, rfl, (by show 2 ≤ sizeLine; decide), fun pf hpf => ?_⟩
          have e6 := same_new (o := .tup [.int f, .int 1]) hpf
          have ha7 := e6 _ _ ha6
          have hx7 := e6 _ _ hx6
          have hf7 : RatAt (upd H6 pf (.tup [.int f, .int 1])) pf (f, 1) := upd_same
          refine ⟨_, rfl, _, _, _, _, rfl, rfl, SqT.of ha7, rfl, _, rfl, _, _, _, _, rfl, rfl, SqT.of ha7, rfl, b_q hx7 hx7 (sx.up 4000) (sx.up 4000) fun r1 H8 e8 _ h8 => ?_⟩
          refine b_q (x := (f, 1)) (e8 _ _ hf7) h8 (sm_int (up 60 fb)) ((sx.times sx).up 4000) fun r2 H9 e9 _ h9 => ?_
          refine ⟨(by show 2 ≤ sizeLine; decide), fun p hp => ⟨(by show 2 ≤ sizeLine; decide), fun q hq => ?_⟩⟩
          have e7 := same_new (o := .tup [.int 0, .int 1]) hp
          have e8 := same_new (o := .tup [.ref r2, .ref p]) hq
          exact ⟨q, qTimes (f, 1) (qTimes x x), (0, 1), rfl, ⟨r2, p, upd_same, e8 _ _ (e7 _ _ h9), e8 _ _ upd_same⟩, qTimes_nrm (x := (f, 1)) (Int.le_refl 1) (qTimes_nrm sx.1 sx.1).1, zero_nrm, ((sm_int (n := 60) fb).times (sx.times sx)).up 140, sm_int (by decide), fun _ => rfl⟩
        · exact ⟨ea, x, y, rfl, hA6, nx', ny', sx.up 140, sy.up 140, zy⟩
      rintro σ H7 ⟨ea, x, y, rfl, hA, nx, ny, sx, sy, zy⟩
      refine ⟨_, rfl, _, rfl, b_root hA nx ny sx sy fb zy (fun ρ hρ r H8 e8 h8 => ?_) (fun hn H8 e8 => ?_)⟩
      · obtain ⟨m1, m2, m3, m4, m5, m6, m7⟩ := rootF_ok nx ny sx sy fb zy hρ
        refine ⟨_, rfl, rfl, _, rfl, iteD0 (by intro e; cases e) ?_⟩
        refine ⟨_, rfl, _, rfl, f, ea, x, y, rfl, hA.same e8, nx, ny, sx, sy, f0, fb, zy, fun b H9 hb e9 => ?_⟩
        have b1 : b = true := hb.mpr (by rw [hρ]; simp)
        subst b1
        refine ⟨true, rfl, ?_⟩
        refine iteF ?_
        refine ⟨_, rfl, _, rfl, f, r, ρ.1, ρ.2, rfl, h8.same e9, m5, m6, fb', _, _, rfl, rfl, _, rfl, iteD0 ?_ ?_⟩
        · rw [← sg_same m1.1 m2.1 hf (fun z => by rw [m7 z])]
          omega
        refine ⟨_, rfl, _, rfl, _, rfl, f, r, r, ρ.1, ρ.2, ρ.1, ρ.2, rfl, h8.same e9, h8.same e9, m5, m6, m5, m6, fb', fun r2 H10 e10 h10 => ?_⟩
        rw [m4] at h10
        have g10 := (e8.trans e9).trans e10
        refine ⟨_, rfl, .ref r2, .ref ea, rfl, eqv_eltK h10.k (hA.same g10).k, fun H11 e11 => ⟨true, rfl, iteT ?_⟩⟩
        have h11 := h8.same ((e9.trans e10).trans e11)
        refine ⟨_, rfl, _, rfl, b_root (hA.same (g10.trans e11)) nx ny sx sy fb zy (fun ρ' hρ' r3 H12 e12 h12 => ?_) (fun hn => by rw [hρ] at hn; cases hn)⟩
        rw [hρ] at hρ'
        cases hρ'
        exact ⟨_, rfl, .ref r3, .ref r, rfl, eqv_eltK h12 (h11.same e12), fun H' _ => k H'⟩
      · refine ⟨_, rfl, rfl, _, rfl, iteD1 rfl ?_⟩
        refine ⟨_, rfl, _, rfl, f, ea, x, y, rfl, hA.same e8, nx, ny, sx, sy, f0, fb, zy, fun b H9 hb e9 => ?_⟩
        have b1 : b = false := by
          cases b with
          | false => rfl
          | true => exact absurd hn (hb.mp rfl)
        subst b1
        exact ⟨false, rfl, k H9⟩
end
theorem all_mk {l : PySem.W.OpenLaw} {w : World} {K : PySem.W.Frag} {h : Heap} {mg : Str → Option Value} {fa : Addr} (X : K.In h) (G : h.Ns mainGlobals mg) (hfa : mg "law" = some (.ref fa))
    {f0 : Addr} {oc0 kV0 dc0 pm0 cd0 ct0 : Value} {od0 an0 : Option Addr} {sl0 : Array (Option Value)}
    (a0 : PySem.W.nsIn K mainGlobals "_law_stream" = some (some (.ref f0))) (l0 : K.lookup f0 = some ⟨oc0, od0, .func (PySem.W.fnOf "_law_stream" "_law_stream" (defArgs s_l_stream) (defBody s_l_stream) (defScope s_l_stream) .none kV0 dc0 pm0 an0 cd0 ct0), sl0⟩) (c0 : PySem.W.codeIn K cd0 "_law_stream" = true) (k0 : PySem.W.keepIn K (.ref f0) = true)
    {f1 : Addr} {oc1 kV1 dc1 pm1 cd1 ct1 : Value} {od1 an1 : Option Addr} {sl1 : Array (Option Value)}
    (a1 : PySem.W.nsIn K mainGlobals "_law_next" = some (some (.ref f1))) (l1 : K.lookup f1 = some ⟨oc1, od1, .func (PySem.W.fnOf "_law_next" "_law_next" (defArgs s_l_next) (defBody s_l_next) (defScope s_l_next) .none kV1 dc1 pm1 an1 cd1 ct1), sl1⟩) (c1 : PySem.W.codeIn K cd1 "_law_next" = true) (k1 : PySem.W.keepIn K (.ref f1) = true)
    {f2 : Addr} {oc2 kV2 dc2 pm2 cd2 ct2 : Value} {od2 an2 : Option Addr} {sl2 : Array (Option Value)}
    (a2 : PySem.W.nsIn K mainGlobals "_law_is_integer" = some (some (.ref f2))) (l2 : K.lookup f2 = some ⟨oc2, od2, .func (PySem.W.fnOf "_law_is_integer" "_law_is_integer" (defArgs s_l_is_integer) (defBody s_l_is_integer) (defScope s_l_is_integer) .none kV2 dc2 pm2 an2 cd2 ct2), sl2⟩) (c2 : PySem.W.codeIn K cd2 "_law_is_integer" = true) (k2 : PySem.W.keepIn K (.ref f2) = true)
    {f3 : Addr} {oc3 kV3 dc3 pm3 cd3 ct3 : Value} {od3 an3 : Option Addr} {sl3 : Array (Option Value)}
    (a3 : PySem.W.nsIn K mainGlobals "_law_gcd" = some (some (.ref f3))) (l3 : K.lookup f3 = some ⟨oc3, od3, .func (PySem.W.fnOf "_law_gcd" "_law_gcd" (defArgs s_l_gcd) (defBody s_l_gcd) (defScope s_l_gcd) .none kV3 dc3 pm3 an3 cd3 ct3), sl3⟩) (c3 : PySem.W.codeIn K cd3 "_law_gcd" = true) (k3 : PySem.W.keepIn K (.ref f3) = true)
    {f4 : Addr} {oc4 kV4 dc4 pm4 cd4 ct4 : Value} {od4 an4 : Option Addr} {sl4 : Array (Option Value)}
    (a4 : PySem.W.nsIn K mainGlobals "_law_low" = some (some (.ref f4))) (l4 : K.lookup f4 = some ⟨oc4, od4, .func (PySem.W.fnOf "_law_low" "_law_low" (defArgs s_l_low) (defBody s_l_low) (defScope s_l_low) .none kV4 dc4 pm4 an4 cd4 ct4), sl4⟩) (c4 : PySem.W.codeIn K cd4 "_law_low" = true) (k4 : PySem.W.keepIn K (.ref f4) = true)
    {f5 : Addr} {oc5 kV5 dc5 pm5 cd5 ct5 : Value} {od5 an5 : Option Addr} {sl5 : Array (Option Value)}
    (a5 : PySem.W.nsIn K mainGlobals "ratio" = some (some (.ref f5))) (l5 : K.lookup f5 = some ⟨oc5, od5, .func (PySem.W.fnOf "ratio" "ratio" (defArgs s_ratio) (defBody s_ratio) (defScope s_ratio) .none kV5 dc5 pm5 an5 cd5 ct5), sl5⟩) (c5 : PySem.W.codeIn K cd5 "ratio" = true) (k5 : PySem.W.keepIn K (.ref f5) = true)
    {f6 : Addr} {oc6 kV6 dc6 pm6 cd6 ct6 : Value} {od6 an6 : Option Addr} {sl6 : Array (Option Value)}
    (a6 : PySem.W.nsIn K mainGlobals "_law_plus" = some (some (.ref f6))) (l6 : K.lookup f6 = some ⟨oc6, od6, .func (PySem.W.fnOf "_law_plus" "_law_plus" (defArgs s_l_plus) (defBody s_l_plus) (defScope s_l_plus) .none kV6 dc6 pm6 an6 cd6 ct6), sl6⟩) (c6 : PySem.W.codeIn K cd6 "_law_plus" = true) (k6 : PySem.W.keepIn K (.ref f6) = true)
    {f7 : Addr} {oc7 kV7 dc7 pm7 cd7 ct7 : Value} {od7 an7 : Option Addr} {sl7 : Array (Option Value)}
    (a7 : PySem.W.nsIn K mainGlobals "_law_times" = some (some (.ref f7))) (l7 : K.lookup f7 = some ⟨oc7, od7, .func (PySem.W.fnOf "_law_times" "_law_times" (defArgs s_l_times) (defBody s_l_times) (defScope s_l_times) .none kV7 dc7 pm7 an7 cd7 ct7), sl7⟩) (c7 : PySem.W.codeIn K cd7 "_law_times" = true) (k7 : PySem.W.keepIn K (.ref f7) = true)
    {f8 : Addr} {oc8 kV8 dc8 pm8 cd8 ct8 : Value} {od8 an8 : Option Addr} {sl8 : Array (Option Value)}
    (a8 : PySem.W.nsIn K mainGlobals "_law_ratio" = some (some (.ref f8))) (l8 : K.lookup f8 = some ⟨oc8, od8, .func (PySem.W.fnOf "_law_ratio" "_law_ratio" (defArgs s_l_ratio) (defBody s_l_ratio) (defScope s_l_ratio) .none kV8 dc8 pm8 an8 cd8 ct8), sl8⟩) (c8 : PySem.W.codeIn K cd8 "_law_ratio" = true) (k8 : PySem.W.keepIn K (.ref f8) = true)
    {f9 : Addr} {oc9 kV9 dc9 pm9 cd9 ct9 : Value} {od9 an9 : Option Addr} {sl9 : Array (Option Value)}
    (a9 : PySem.W.nsIn K mainGlobals "plus" = some (some (.ref f9))) (l9 : K.lookup f9 = some ⟨oc9, od9, .func (PySem.W.fnOf "plus" "plus" (defArgs s_plus) (defBody s_plus) (defScope s_plus) .none kV9 dc9 pm9 an9 cd9 ct9), sl9⟩) (c9 : PySem.W.codeIn K cd9 "plus" = true) (k9 : PySem.W.keepIn K (.ref f9) = true)
    {f10 : Addr} {oc10 kV10 dc10 pm10 cd10 ct10 : Value} {od10 an10 : Option Addr} {sl10 : Array (Option Value)}
    (a10 : PySem.W.nsIn K mainGlobals "minus" = some (some (.ref f10))) (l10 : K.lookup f10 = some ⟨oc10, od10, .func (PySem.W.fnOf "minus" "minus" (defArgs s_minus) (defBody s_minus) (defScope s_minus) .none kV10 dc10 pm10 an10 cd10 ct10), sl10⟩) (c10 : PySem.W.codeIn K cd10 "minus" = true) (k10 : PySem.W.keepIn K (.ref f10) = true)
    {f11 : Addr} {oc11 kV11 dc11 pm11 cd11 ct11 : Value} {od11 an11 : Option Addr} {sl11 : Array (Option Value)}
    (a11 : PySem.W.nsIn K mainGlobals "times" = some (some (.ref f11))) (l11 : K.lookup f11 = some ⟨oc11, od11, .func (PySem.W.fnOf "times" "times" (defArgs s_times) (defBody s_times) (defScope s_times) .none kV11 dc11 pm11 an11 cd11 ct11), sl11⟩) (c11 : PySem.W.codeIn K cd11 "times" = true) (k11 : PySem.W.keepIn K (.ref f11) = true)
    {f12 : Addr} {oc12 kV12 dc12 pm12 cd12 ct12 : Value} {od12 an12 : Option Addr} {sl12 : Array (Option Value)}
    (a12 : PySem.W.nsIn K mainGlobals "over" = some (some (.ref f12))) (l12 : K.lookup f12 = some ⟨oc12, od12, .func (PySem.W.fnOf "over" "over" (defArgs s_over) (defBody s_over) (defScope s_over) .none kV12 dc12 pm12 an12 cd12 ct12), sl12⟩) (c12 : PySem.W.codeIn K cd12 "over" = true) (k12 : PySem.W.keepIn K (.ref f12) = true)
    {f13 : Addr} {oc13 kV13 dc13 pm13 cd13 ct13 : Value} {od13 an13 : Option Addr} {sl13 : Array (Option Value)}
    (a13 : PySem.W.nsIn K mainGlobals "_law_equal" = some (some (.ref f13))) (l13 : K.lookup f13 = some ⟨oc13, od13, .func (PySem.W.fnOf "_law_equal" "_law_equal" (defArgs s_l_equal) (defBody s_l_equal) (defScope s_l_equal) .none kV13 dc13 pm13 an13 cd13 ct13), sl13⟩) (c13 : PySem.W.codeIn K cd13 "_law_equal" = true) (k13 : PySem.W.keepIn K (.ref f13) = true)
    {f14 : Addr} {oc14 kV14 dc14 pm14 cd14 ct14 : Value} {od14 an14 : Option Addr} {sl14 : Array (Option Value)}
    (a14 : PySem.W.nsIn K mainGlobals "_law_root" = some (some (.ref f14))) (l14 : K.lookup f14 = some ⟨oc14, od14, .func (PySem.W.fnOf "_law_root" "_law_root" (defArgs s_l_root) (defBody s_l_root) (defScope s_l_root) .none kV14 dc14 pm14 an14 cd14 ct14), sl14⟩) (c14 : PySem.W.codeIn K cd14 "_law_root" = true) (k14 : PySem.W.keepIn K (.ref f14) = true)
    {f15 : Addr} {oc15 kV15 dc15 pm15 cd15 ct15 : Value} {od15 an15 : Option Addr} {sl15 : Array (Option Value)}
    (a15 : PySem.W.nsIn K mainGlobals "_law_is_square" = some (some (.ref f15))) (l15 : K.lookup f15 = some ⟨oc15, od15, .func (PySem.W.fnOf "_law_is_square" "_law_is_square" (defArgs s_l_is_square) (defBody s_l_is_square) (defScope s_l_is_square) .none kV15 dc15 pm15 an15 cd15 ct15), sl15⟩) (c15 : PySem.W.codeIn K cd15 "_law_is_square" = true) (k15 : PySem.W.keepIn K (.ref f15) = true)
    {f16 : Addr} {oc16 kV16 dc16 pm16 cd16 ct16 : Value} {od16 an16 : Option Addr} {sl16 : Array (Option Value)}
    (a16 : PySem.W.nsIn K mainGlobals "_law_field" = some (some (.ref f16))) (l16 : K.lookup f16 = some ⟨oc16, od16, .func (PySem.W.fnOf "_law_field" "_law_field" (defArgs s_l_field) (defBody s_l_field) (defScope s_l_field) .none kV16 dc16 pm16 an16 cd16 ct16), sl16⟩) (c16 : PySem.W.codeIn K cd16 "_law_field" = true) (k16 : PySem.W.keepIn K (.ref f16) = true)
    {f17 : Addr} {oc17 kV17 dc17 pm17 cd17 ct17 : Value} {od17 an17 : Option Addr} {sl17 : Array (Option Value)}
    (a17 : PySem.W.nsIn K mainGlobals "_law_element" = some (some (.ref f17))) (l17 : K.lookup f17 = some ⟨oc17, od17, .func (PySem.W.fnOf "_law_element" "_law_element" (defArgs s_l_element) (defBody s_l_element) (defScope s_l_element) .none kV17 dc17 pm17 an17 cd17 ct17), sl17⟩) (c17 : PySem.W.codeIn K cd17 "_law_element" = true) (k17 : PySem.W.keepIn K (.ref f17) = true)
    {f18 : Addr} {oc18 kV18 dc18 pm18 cd18 ct18 : Value} {od18 an18 : Option Addr} {sl18 : Array (Option Value)}
    (a18 : PySem.W.nsIn K mainGlobals "_law_multiply" = some (some (.ref f18))) (l18 : K.lookup f18 = some ⟨oc18, od18, .func (PySem.W.fnOf "_law_multiply" "_law_multiply" (defArgs s_l_multiply) (defBody s_l_multiply) (defScope s_l_multiply) .none kV18 dc18 pm18 an18 cd18 ct18), sl18⟩) (c18 : PySem.W.codeIn K cd18 "_law_multiply" = true) (k18 : PySem.W.keepIn K (.ref f18) = true)
    {f19 : Addr} {oc19 kV19 dc19 pm19 cd19 ct19 : Value} {od19 an19 : Option Addr} {sl19 : Array (Option Value)}
    (a19 : PySem.W.nsIn K mainGlobals "rational_sign" = some (some (.ref f19))) (l19 : K.lookup f19 = some ⟨oc19, od19, .func (PySem.W.fnOf "rational_sign" "rational_sign" (defArgs s_rational_sign) (defBody s_rational_sign) (defScope s_rational_sign) .none kV19 dc19 pm19 an19 cd19 ct19), sl19⟩) (c19 : PySem.W.codeIn K cd19 "rational_sign" = true) (k19 : PySem.W.keepIn K (.ref f19) = true)
    {f20 : Addr} {oc20 kV20 dc20 pm20 cd20 ct20 : Value} {od20 an20 : Option Addr} {sl20 : Array (Option Value)}
    (a20 : PySem.W.nsIn K mainGlobals "norm" = some (some (.ref f20))) (l20 : K.lookup f20 = some ⟨oc20, od20, .func (PySem.W.fnOf "norm" "norm" (defArgs s_norm) (defBody s_norm) (defScope s_norm) .none kV20 dc20 pm20 an20 cd20 ct20), sl20⟩) (c20 : PySem.W.codeIn K cd20 "norm" = true) (k20 : PySem.W.keepIn K (.ref f20) = true)
    {f21 : Addr} {oc21 kV21 dc21 pm21 cd21 ct21 : Value} {od21 an21 : Option Addr} {sl21 : Array (Option Value)}
    (a21 : PySem.W.nsIn K mainGlobals "sign_of" = some (some (.ref f21))) (l21 : K.lookup f21 = some ⟨oc21, od21, .func (PySem.W.fnOf "sign_of" "sign_of" (defArgs s_sign_of) (defBody s_sign_of) (defScope s_sign_of) .none kV21 dc21 pm21 an21 cd21 ct21), sl21⟩) (c21 : PySem.W.codeIn K cd21 "sign_of" = true) (k21 : PySem.W.keepIn K (.ref f21) = true)
    {f22 : Addr} {oc22 kV22 dc22 pm22 cd22 ct22 : Value} {od22 an22 : Option Addr} {sl22 : Array (Option Value)}
    (a22 : PySem.W.nsIn K mainGlobals "_law_sign" = some (some (.ref f22))) (l22 : K.lookup f22 = some ⟨oc22, od22, .func (PySem.W.fnOf "_law_sign" "_law_sign" (defArgs s_l_sign) (defBody s_l_sign) (defScope s_l_sign) .none kV22 dc22 pm22 an22 cd22 ct22), sl22⟩) (c22 : PySem.W.codeIn K cd22 "_law_sign" = true) (k22 : PySem.W.keepIn K (.ref f22) = true)
    {f23 : Addr} {oc23 kV23 dc23 pm23 cd23 ct23 : Value} {od23 an23 : Option Addr} {sl23 : Array (Option Value)}
    (a23 : PySem.W.nsIn K mainGlobals "_law_sign_of" = some (some (.ref f23))) (l23 : K.lookup f23 = some ⟨oc23, od23, .func (PySem.W.fnOf "_law_sign_of" "_law_sign_of" (defArgs s_l_sign_of) (defBody s_l_sign_of) (defScope s_l_sign_of) .none kV23 dc23 pm23 an23 cd23 ct23), sl23⟩) (c23 : PySem.W.codeIn K cd23 "_law_sign_of" = true) (k23 : PySem.W.keepIn K (.ref f23) = true)
    {f24 : Addr} {oc24 kV24 dc24 pm24 cd24 ct24 : Value} {od24 an24 : Option Addr} {sl24 : Array (Option Value)}
    (a24 : PySem.W.nsIn K mainGlobals "square_root" = some (some (.ref f24))) (l24 : K.lookup f24 = some ⟨oc24, od24, .func (PySem.W.fnOf "square_root" "square_root" (defArgs s_square_root) (defBody s_square_root) (defScope s_square_root) .none kV24 dc24 pm24 an24 cd24 ct24), sl24⟩) (c24 : PySem.W.codeIn K cd24 "square_root" = true) (k24 : PySem.W.keepIn K (.ref f24) = true)
    {f25 : Addr} {oc25 kV25 dc25 pm25 cd25 ct25 : Value} {od25 an25 : Option Addr} {sl25 : Array (Option Value)}
    (a25 : PySem.W.nsIn K mainGlobals "opposite" = some (some (.ref f25))) (l25 : K.lookup f25 = some ⟨oc25, od25, .func (PySem.W.fnOf "opposite" "opposite" (defArgs s_opposite) (defBody s_opposite) (defScope s_opposite) .none kV25 dc25 pm25 an25 cd25 ct25), sl25⟩) (c25 : PySem.W.codeIn K cd25 "opposite" = true) (k25 : PySem.W.keepIn K (.ref f25) = true)
    {f26 : Addr} {oc26 kV26 dc26 pm26 cd26 ct26 : Value} {od26 an26 : Option Addr} {sl26 : Array (Option Value)}
    (a26 : PySem.W.nsIn K mainGlobals "rational_root" = some (some (.ref f26))) (l26 : K.lookup f26 = some ⟨oc26, od26, .func (PySem.W.fnOf "rational_root" "rational_root" (defArgs s_rational_root) (defBody s_rational_root) (defScope s_rational_root) .none kV26 dc26 pm26 an26 cd26 ct26), sl26⟩) (c26 : PySem.W.codeIn K cd26 "rational_root" = true) (k26 : PySem.W.keepIn K (.ref f26) = true)
    {f27 : Addr} {oc27 kV27 dc27 pm27 cd27 ct27 : Value} {od27 an27 : Option Addr} {sl27 : Array (Option Value)}
    (a27 : PySem.W.nsIn K mainGlobals "not_negative" = some (some (.ref f27))) (l27 : K.lookup f27 = some ⟨oc27, od27, .func (PySem.W.fnOf "not_negative" "not_negative" (defArgs s_not_negative) (defBody s_not_negative) (defScope s_not_negative) .none kV27 dc27 pm27 an27 cd27 ct27), sl27⟩) (c27 : PySem.W.codeIn K cd27 "not_negative" = true) (k27 : PySem.W.keepIn K (.ref f27) = true)
    {f28 : Addr} {oc28 kV28 dc28 pm28 cd28 ct28 : Value} {od28 an28 : Option Addr} {sl28 : Array (Option Value)}
    (a28 : PySem.W.nsIn K mainGlobals "root_of_rational" = some (some (.ref f28))) (l28 : K.lookup f28 = some ⟨oc28, od28, .func (PySem.W.fnOf "root_of_rational" "root_of_rational" (defArgs s_root_of_rational) (defBody s_root_of_rational) (defScope s_root_of_rational) .none kV28 dc28 pm28 an28 cd28 ct28), sl28⟩) (c28 : PySem.W.codeIn K cd28 "root_of_rational" = true) (k28 : PySem.W.keepIn K (.ref f28) = true)
    {f29 : Addr} {oc29 kV29 dc29 pm29 cd29 ct29 : Value} {od29 an29 : Option Addr} {sl29 : Array (Option Value)}
    (a29 : PySem.W.nsIn K mainGlobals "root_of" = some (some (.ref f29))) (l29 : K.lookup f29 = some ⟨oc29, od29, .func (PySem.W.fnOf "root_of" "root_of" (defArgs s_root_of) (defBody s_root_of) (defScope s_root_of) .none kV29 dc29 pm29 an29 cd29 ct29), sl29⟩) (c29 : PySem.W.codeIn K cd29 "root_of" = true) (k29 : PySem.W.keepIn K (.ref f29) = true)
    {f30 : Addr} {oc30 kV30 dc30 pm30 cd30 ct30 : Value} {od30 an30 : Option Addr} {sl30 : Array (Option Value)}
    (a30 : PySem.W.nsIn K mainGlobals "_law_is_rational_square" = some (some (.ref f30))) (l30 : K.lookup f30 = some ⟨oc30, od30, .func (PySem.W.fnOf "_law_is_rational_square" "_law_is_rational_square" (defArgs s_l_is_rational_square) (defBody s_l_is_rational_square) (defScope s_l_is_rational_square) .none kV30 dc30 pm30 an30 cd30 ct30), sl30⟩) (c30 : PySem.W.codeIn K cd30 "_law_is_rational_square" = true) (k30 : PySem.W.keepIn K (.ref f30) = true)
    {f31 : Addr} {oc31 kV31 dc31 pm31 cd31 ct31 : Value} {od31 an31 : Option Addr} {sl31 : Array (Option Value)}
    (a31 : PySem.W.nsIn K mainGlobals "_law_not_negative" = some (some (.ref f31))) (l31 : K.lookup f31 = some ⟨oc31, od31, .func (PySem.W.fnOf "_law_not_negative" "_law_not_negative" (defArgs s_l_not_negative) (defBody s_l_not_negative) (defScope s_l_not_negative) .none kV31 dc31 pm31 an31 cd31 ct31), sl31⟩) (c31 : PySem.W.codeIn K cd31 "_law_not_negative" = true) (k31 : PySem.W.keepIn K (.ref f31) = true)
    {f32 : Addr} {oc32 kV32 dc32 pm32 cd32 ct32 : Value} {od32 an32 : Option Addr} {sl32 : Array (Option Value)}
    (a32 : PySem.W.nsIn K mainGlobals "_law_has_root" = some (some (.ref f32))) (l32 : K.lookup f32 = some ⟨oc32, od32, .func (PySem.W.fnOf "_law_has_root" "_law_has_root" (defArgs s_l_has_root) (defBody s_l_has_root) (defScope s_l_has_root) .none kV32 dc32 pm32 an32 cd32 ct32), sl32⟩) (c32 : PySem.W.codeIn K cd32 "_law_has_root" = true) (k32 : PySem.W.keepIn K (.ref f32) = true)
    {f33 : Addr} {oc33 kV33 dc33 pm33 cd33 ct33 : Value} {od33 an33 : Option Addr} {sl33 : Array (Option Value)}
    (a33 : PySem.W.nsIn K mainGlobals "law" = some (some (.ref f33))) (l33 : K.lookup f33 = some ⟨oc33, od33, .func (PySem.W.fnOf "law" "law" (defArgs s_law) (defBody s_law) (defScope s_law) .none kV33 dc33 pm33 an33 cd33 ct33), sl33⟩) (c33 : PySem.W.codeIn K cd33 "law" = true) (k33 : PySem.W.keepIn K (.ref f33) = true)
    (z_abs : PySem.W.nsIn K mainGlobals "abs" = some none)
    (z_all : PySem.W.nsIn K mainGlobals "all" = some none)
    (z_bool : PySem.W.nsIn K mainGlobals "bool" = some none)
    (z_int : PySem.W.nsIn K mainGlobals "int" = some none)
    (z_isinstance : PySem.W.nsIn K mainGlobals "isinstance" = some none)
    (z_len : PySem.W.nsIn K mainGlobals "len" = some none)
    (z_list : PySem.W.nsIn K mainGlobals "list" = some none)
    (z_range : PySem.W.nsIn K mainGlobals "range" = some none)
    (z_str : PySem.W.nsIn K mainGlobals "str" = some none)
    (z_tuple : PySem.W.nsIn K mainGlobals "tuple" = some none)
    (z_gcd : PySem.W.nsIn K mainGlobals "gcd" = some (some (.builtin "math.gcd")))
    (z_isqrt : PySem.W.nsIn K mainGlobals "isqrt" = some (some (.builtin "math.isqrt")))
    {cc_HALF : Addr} (z_HALF : PySem.W.nsIn K mainGlobals "HALF" = some (some (.ref cc_HALF)))
    {kk_HALF_d : Option Addr} {kk_HALF_n : Nat} {kk_HALF_s : Array (Option Value)} {kk_HALF_t0 : Tok} {kk_HALF_t1 : Tok} (kk_HALF : K.lookup cc_HALF = some ⟨.type "tuple", kk_HALF_d, .seq #[.int 1 kk_HALF_t0, .int 2 kk_HALF_t1] kk_HALF_n, kk_HALF_s⟩)
    {cc_ZERO : Addr} (z_ZERO : PySem.W.nsIn K mainGlobals "ZERO" = some (some (.ref cc_ZERO)))
    {kk_ZERO_d : Option Addr} {kk_ZERO_n : Nat} {kk_ZERO_s : Array (Option Value)} {kk_ZERO_t0 : Tok} {kk_ZERO_t1 : Tok} (kk_ZERO : K.lookup cc_ZERO = some ⟨.type "tuple", kk_ZERO_d, .seq #[.int 0 kk_ZERO_t0, .int 1 kk_ZERO_t1] kk_ZERO_n, kk_ZERO_s⟩)
    {C O fI : Addr} {ocI kVI dcI pmI cdI ctI : Value} {odI anI : Option Addr} {slI : Array (Option Value)} {nm q : Str} {N : Addr} {bs : List Value} {sn : List Str} {sub : List Value} {ab : Bool} {col : Option Bool} {dd : Option Addr} {m0 m1 m2 m3 m5 : Option Value}
    (xC : PySem.W.nsIn K mainGlobals "BadValue" = some (some (.ref C))) (xO : PySem.W.nsIn K mainGlobals "OddsError" = some (some (.ref O)))
    (xL : K.lookup C = some (excClassObj nm q C N bs [.ref O, .type "ValueError", .type "Exception", .type "BaseException", .type "object"] true sn sub ab col dd m0 m1 m2 m3 m5 "ValueError.__new__"))
    (x1 : PySem.W.findIn K (.ref C) "__init__" = some (some (.ref fI))) (x2 : PySem.W.typeIn K (.ref fI) = some (.type "function"))
    (x3 : K.lookup fI = some ⟨ocI, odI, .func (PySem.W.fnOf "__init__" "BadValue.__init__" (defArgs s_init) (defBody s_init) (defScope s_init) .none kVI dcI pmI anI cdI ctI), slI⟩) (x4 : PySem.W.codeIn K cdI "BadValue.__init__" = true) (x5 : PySem.W.keepIn K (.ref fI) = true)
    (x6 : PySem.W.findIn K (.ref C) "__setattr__" = some (some (.builtin "object.__setattr__"))) (x7 : PySem.W.subIn K (.ref C) (.type "BaseException") = some true) (x8 : PySem.W.typeIn K (.ref C) = some (.type "type")) (x9 : PySem.W.keepIn K (.ref C) = true)
    (y1 : PySem.W.findIn K (.ref C) "__getattribute__" = some (some (.builtin "BaseException.__getattribute__"))) (y2 : PySem.W.findIn K (.ref C) "__getattr__" = some none) (y3 : PySem.W.hasDictIn K C = true) (y4 : PySem.W.findIn K (.ref C) "name" = some none)
    (y5 : PySem.W.isClsIn K C = true) (y6 : PySem.W.findIn K (.ref C) "__class__" = some (some (.builtin "object.__class__"))) (y7 : PySem.W.specialIn K (.builtin "object.__class__") "__get__" = some (some (.builtin "getset_descriptor.__get__"))) (y8 : PySem.W.takesIn K (.builtin "object.__class__") = some true)
    (y9 : PySem.W.mroIn K C (.type "object") = some true) (w1 : PySem.W.subIn K (.ref C) (.ref C) = some true) (w2 : PySem.W.subIn K (.ref C) (.ref O) = some true) (w3 : PySem.W.subIn K (.ref C) (.type "ValueError") = some true) (w4 : PySem.W.isClsIn K O = true) (w5 : PySem.W.typeIn K (.ref O) = some (.type "type"))
    : ∃ fd : FuncData, (∀ (s : Shared) (v : Value), BindsTo s fd ⟨[v], []⟩ [("script", v)]) ∧ ∀ base : Heap, K.In base → base.Ns mainGlobals mg → FnOk l.prog w K mg base CX0 9 fa fd ["script"] (spLaw K) := by
  have e := hfa.symm.trans (PySem.W.mg_of X G a33)
  cases e
  have F0 := fun_mk (st := s_l_stream) l0 c0 k0
  have b0 := F0.binds (ps := ["script"]) fun _ _ _ _ _ _ us hl => match us, hl with | [_], _ => rfl
  have F1 := fun_mk (st := s_l_next) l1 c1 k1
  have b1 := F1.binds (ps := ["stream", "many"]) fun _ _ _ _ _ _ us hl => match us, hl with | [_, _], _ => rfl
  have F2 := fun_mk (st := s_l_is_integer) l2 c2 k2
  have b2 := F2.binds (ps := ["actual"]) fun _ _ _ _ _ _ us hl => match us, hl with | [_], _ => rfl
  have F3 := fun_mk (st := s_l_gcd) l3 c3 k3
  have b3 := F3.binds (ps := ["a", "b"]) fun _ _ _ _ _ _ us hl => match us, hl with | [_, _], _ => rfl
  have F4 := fun_mk (st := s_l_low) l4 c4 k4
  have b4 := F4.binds (ps := ["n", "d"]) fun _ _ _ _ _ _ us hl => match us, hl with | [_, _], _ => rfl
  have F5 := fun_mk (st := s_ratio) l5 c5 k5
  have b5 := F5.binds (ps := ["n", "d"]) fun _ _ _ _ _ _ us hl => match us, hl with | [_, _], _ => rfl
  have F6 := fun_mk (st := s_l_plus) l6 c6 k6
  have b6 := F6.binds (ps := ["a", "b"]) fun _ _ _ _ _ _ us hl => match us, hl with | [_, _], _ => rfl
  have F7 := fun_mk (st := s_l_times) l7 c7 k7
  have b7 := F7.binds (ps := ["a", "b"]) fun _ _ _ _ _ _ us hl => match us, hl with | [_, _], _ => rfl
  have F8 := fun_mk (st := s_l_ratio) l8 c8 k8
  have b8 := F8.binds (ps := ["stream", "top", "most"]) fun _ _ _ _ _ _ us hl => match us, hl with | [_, _, _], _ => rfl
  have F9 := fun_mk (st := s_plus) l9 c9 k9
  have b9 := F9.binds (ps := ["a", "b"]) fun _ _ _ _ _ _ us hl => match us, hl with | [_, _], _ => rfl
  have F10 := fun_mk (st := s_minus) l10 c10 k10
  have b10 := F10.binds (ps := ["a", "b"]) fun _ _ _ _ _ _ us hl => match us, hl with | [_, _], _ => rfl
  have F11 := fun_mk (st := s_times) l11 c11 k11
  have b11 := F11.binds (ps := ["a", "b"]) fun _ _ _ _ _ _ us hl => match us, hl with | [_, _], _ => rfl
  have F12 := fun_mk (st := s_over) l12 c12 k12
  have b12 := F12.binds (ps := ["a", "b"]) fun _ _ _ _ _ _ us hl => match us, hl with | [_, _], _ => rfl
  have F13 := fun_mk (st := s_l_equal) l13 c13 k13
  have b13 := F13.binds (ps := ["actual", "due"]) fun _ _ _ _ _ _ us hl => match us, hl with | [_, _], _ => rfl
  have F14 := fun_mk (st := s_l_root) l14 c14 k14
  have b14 := F14.binds (ps := ["n"]) fun _ _ _ _ _ _ us hl => match us, hl with | [_], _ => rfl
  have F15 := fun_mk (st := s_l_is_square) l15 c15 k15
  have b15 := F15.binds (ps := ["n"]) fun _ _ _ _ _ _ us hl => match us, hl with | [_], _ => rfl
  have F16 := fun_mk (st := s_l_field) l16 c16 k16
  have b16 := F16.binds (ps := ["stream"]) fun _ _ _ _ _ _ us hl => match us, hl with | [_], _ => rfl
  have F17 := fun_mk (st := s_l_element) l17 c17 k17
  have b17 := F17.binds (ps := ["stream", "field", "top", "most"]) fun _ _ _ _ _ _ us hl => match us, hl with | [_, _, _, _], _ => rfl
  have F18 := fun_mk (st := s_l_multiply) l18 c18 k18
  have b18 := F18.binds (ps := ["field", "a", "b"]) fun _ _ _ _ _ _ us hl => match us, hl with | [_, _, _], _ => rfl
  have F19 := fun_mk (st := s_rational_sign) l19 c19 k19
  have b19 := F19.binds (ps := ["a"]) fun _ _ _ _ _ _ us hl => match us, hl with | [_], _ => rfl
  have F20 := fun_mk (st := s_norm) l20 c20 k20
  have b20 := F20.binds (ps := ["field", "a"]) fun _ _ _ _ _ _ us hl => match us, hl with | [_, _], _ => rfl
  have F21 := fun_mk (st := s_sign_of) l21 c21 k21
  have b21 := F21.binds (ps := ["field", "a"]) fun _ _ _ _ _ _ us hl => match us, hl with | [_, _], _ => rfl
  have F22 := fun_mk (st := s_l_sign) l22 c22 k22
  have b22 := F22.binds (ps := ["n"]) fun _ _ _ _ _ _ us hl => match us, hl with | [_], _ => rfl
  have F23 := fun_mk (st := s_l_sign_of) l23 c23 k23
  have b23 := F23.binds (ps := ["field", "a"]) fun _ _ _ _ _ _ us hl => match us, hl with | [_, _], _ => rfl
  have F24 := fun_mk (st := s_square_root) l24 c24 k24
  have b24 := F24.binds (ps := ["n"]) fun _ _ _ _ _ _ us hl => match us, hl with | [_], _ => rfl
  have F25 := fun_mk (st := s_opposite) l25 c25 k25
  have b25 := F25.binds (ps := ["a"]) fun _ _ _ _ _ _ us hl => match us, hl with | [_], _ => rfl
  have F26 := fun_mk (st := s_rational_root) l26 c26 k26
  have b26 := F26.binds (ps := ["r"]) fun _ _ _ _ _ _ us hl => match us, hl with | [_], _ => rfl
  have F27 := fun_mk (st := s_not_negative) l27 c27 k27
  have b27 := F27.binds (ps := ["field", "a"]) fun _ _ _ _ _ _ us hl => match us, hl with | [_, _], _ => rfl
  have F28 := fun_mk (st := s_root_of_rational) l28 c28 k28
  have b28 := F28.binds (ps := ["field", "r"]) fun _ _ _ _ _ _ us hl => match us, hl with | [_, _], _ => rfl
  have F29 := fun_mk (st := s_root_of) l29 c29 k29
  have b29 := F29.binds (ps := ["field", "a"]) fun _ _ _ _ _ _ us hl => match us, hl with | [_, _], _ => rfl
  have F30 := fun_mk (st := s_l_is_rational_square) l30 c30 k30
  have b30 := F30.binds (ps := ["a"]) fun _ _ _ _ _ _ us hl => match us, hl with | [_], _ => rfl
  have F31 := fun_mk (st := s_l_not_negative) l31 c31 k31
  have b31 := F31.binds (ps := ["field", "a"]) fun _ _ _ _ _ _ us hl => match us, hl with | [_, _], _ => rfl
  have F32 := fun_mk (st := s_l_has_root) l32 c32 k32
  have b32 := F32.binds (ps := ["field", "a"]) fun _ _ _ _ _ _ us hl => match us, hl with | [_, _], _ => rfl
  have F33 := fun_mk (st := s_law) l33 c33 k33
  have b33 := F33.binds (ps := ["script"]) fun _ _ _ _ _ _ us hl => match us, hl with | [_], _ => rfl
  have FI := fun_mk (st := s_init) x3 x4 x5
  have bI := FI.binds (ps := ["self", "name"]) fun _ _ _ _ _ _ us hl => match us, hl with | [_, _], _ => rfl
  let T : Txt K mg := {
    f_l_stream := f0, fd_l_stream := _, D_l_stream := ⟨F0, PySem.W.mg_of X G a0, b0⟩
    f_l_next := f1, fd_l_next := _, D_l_next := ⟨F1, PySem.W.mg_of X G a1, b1⟩
    f_l_is_integer := f2, fd_l_is_integer := _, D_l_is_integer := ⟨F2, PySem.W.mg_of X G a2, b2⟩
    f_l_gcd := f3, fd_l_gcd := _, D_l_gcd := ⟨F3, PySem.W.mg_of X G a3, b3⟩
    f_l_low := f4, fd_l_low := _, D_l_low := ⟨F4, PySem.W.mg_of X G a4, b4⟩
    f_ratio := f5, fd_ratio := _, D_ratio := ⟨F5, PySem.W.mg_of X G a5, b5⟩
    f_l_plus := f6, fd_l_plus := _, D_l_plus := ⟨F6, PySem.W.mg_of X G a6, b6⟩
    f_l_times := f7, fd_l_times := _, D_l_times := ⟨F7, PySem.W.mg_of X G a7, b7⟩
    f_l_ratio := f8, fd_l_ratio := _, D_l_ratio := ⟨F8, PySem.W.mg_of X G a8, b8⟩
    f_plus := f9, fd_plus := _, D_plus := ⟨F9, PySem.W.mg_of X G a9, b9⟩
    f_minus := f10, fd_minus := _, D_minus := ⟨F10, PySem.W.mg_of X G a10, b10⟩
    f_times := f11, fd_times := _, D_times := ⟨F11, PySem.W.mg_of X G a11, b11⟩
    f_over := f12, fd_over := _, D_over := ⟨F12, PySem.W.mg_of X G a12, b12⟩
    f_l_equal := f13, fd_l_equal := _, D_l_equal := ⟨F13, PySem.W.mg_of X G a13, b13⟩
    f_l_root := f14, fd_l_root := _, D_l_root := ⟨F14, PySem.W.mg_of X G a14, b14⟩
    f_l_is_square := f15, fd_l_is_square := _, D_l_is_square := ⟨F15, PySem.W.mg_of X G a15, b15⟩
    f_l_field := f16, fd_l_field := _, D_l_field := ⟨F16, PySem.W.mg_of X G a16, b16⟩
    f_l_element := f17, fd_l_element := _, D_l_element := ⟨F17, PySem.W.mg_of X G a17, b17⟩
    f_l_multiply := f18, fd_l_multiply := _, D_l_multiply := ⟨F18, PySem.W.mg_of X G a18, b18⟩
    f_rational_sign := f19, fd_rational_sign := _, D_rational_sign := ⟨F19, PySem.W.mg_of X G a19, b19⟩
    f_norm := f20, fd_norm := _, D_norm := ⟨F20, PySem.W.mg_of X G a20, b20⟩
    f_sign_of := f21, fd_sign_of := _, D_sign_of := ⟨F21, PySem.W.mg_of X G a21, b21⟩
    f_l_sign := f22, fd_l_sign := _, D_l_sign := ⟨F22, PySem.W.mg_of X G a22, b22⟩
    f_l_sign_of := f23, fd_l_sign_of := _, D_l_sign_of := ⟨F23, PySem.W.mg_of X G a23, b23⟩
    f_square_root := f24, fd_square_root := _, D_square_root := ⟨F24, PySem.W.mg_of X G a24, b24⟩
    f_opposite := f25, fd_opposite := _, D_opposite := ⟨F25, PySem.W.mg_of X G a25, b25⟩
    f_rational_root := f26, fd_rational_root := _, D_rational_root := ⟨F26, PySem.W.mg_of X G a26, b26⟩
    f_not_negative := f27, fd_not_negative := _, D_not_negative := ⟨F27, PySem.W.mg_of X G a27, b27⟩
    f_root_of_rational := f28, fd_root_of_rational := _, D_root_of_rational := ⟨F28, PySem.W.mg_of X G a28, b28⟩
    f_root_of := f29, fd_root_of := _, D_root_of := ⟨F29, PySem.W.mg_of X G a29, b29⟩
    f_l_is_rational_square := f30, fd_l_is_rational_square := _, D_l_is_rational_square := ⟨F30, PySem.W.mg_of X G a30, b30⟩
    f_l_not_negative := f31, fd_l_not_negative := _, D_l_not_negative := ⟨F31, PySem.W.mg_of X G a31, b31⟩
    f_l_has_root := f32, fd_l_has_root := _, D_l_has_root := ⟨F32, PySem.W.mg_of X G a32, b32⟩
    f_law := fa, fd_law := _, D_law := ⟨F33, PySem.W.mg_of X G a33, b33⟩
    abs := PySem.W.mg_none_of X G z_abs
    all := PySem.W.mg_none_of X G z_all
    bool := PySem.W.mg_none_of X G z_bool
    int := PySem.W.mg_none_of X G z_int
    isinstance := PySem.W.mg_none_of X G z_isinstance
    len := PySem.W.mg_none_of X G z_len
    list := PySem.W.mg_none_of X G z_list
    range := PySem.W.mg_none_of X G z_range
    str := PySem.W.mg_none_of X G z_str
    tuple := PySem.W.mg_none_of X G z_tuple
    gcd := PySem.W.mg_of X G z_gcd
    isqrt := PySem.W.mg_of X G z_isqrt
    c_HALF := cc_HALF, g_HALF := PySem.W.mg_of X G z_HALF, k_HALF := ⟨_, _, _, kk_HALF, rfl, rfl, by show 2 ≤ sizeLine; decide, .cons ⟨_, rfl⟩ (.cons ⟨_, rfl⟩ .nil)⟩
    c_ZERO := cc_ZERO, g_ZERO := PySem.W.mg_of X G z_ZERO, k_ZERO := ⟨_, _, _, kk_ZERO, rfl, rfl, by show 2 ≤ sizeLine; decide, .cons ⟨_, rfl⟩ (.cons ⟨_, rfl⟩ .nil)⟩
    c_BadValue := C, c_OddsError := O, f_init := fI, fd_init := _
    B := { gC := PySem.W.mg_of X G xC, gO := PySem.W.mg_of X G xO, iC := x1, tI := x2, FI := FI, bI := bI, O := ⟨⟨nm, q, N, bs, _, sn, sub, ab, col, dd, m0, m1, m2, m3, m5, xL, by rfl⟩, x6, x7, x8, x9⟩, X := ⟨y1, y2, x7, y3⟩, no := y4, I := ⟨y1, y2, x7, y5, y6, y7, y8, y9⟩, te := PySem.W.exm_ref x7 y3 x8 w1, kO := kit_own w4 w5 w2, kV := kit_VE w3 } }
  refine ⟨PySem.W.fnOf "law" "law" (defArgs s_law) (defBody s_law) (defScope s_law) .none kV33 dc33 pm33 an33 cd33 ct33, fun s v => .of_eq rfl, fun base _ _ => ?_⟩
  exact ok_law T
theorem walk {l : PySem.W.OpenLaw} {q : Program} {loose : List Str} {XP : (Str → Option Value) → Heap → Prop} {YP : World → Heap → Prop} {d : DefRec} {K : Params → PySem.W.Frag} (hn : l.most = some 63) (hdf : d.params.defaults = [])
    (hY : ∀ (w : World) (h : Heap), YP w h → (K w.params).In h)
    (F : ∀ (w : World) (mg : Str → Option Value) (fa : Addr) (h : Heap), (K w.params).In h → h.Ns mainGlobals mg → mg d.name = some (.ref fa) →
      ∃ fd : FuncData, (∀ (s : Shared) (u : Value), BindsTo s fd ⟨[u], []⟩ [("script", u)]) ∧ ∀ base : Heap, (K w.params).In base → base.Ns mainGlobals mg → FnOk l.prog w (K w.params) mg base CX0 9 fa fd ["script"] (spLaw (K w.params))) :
    PySem.W.WalkO q loose XP YP l.row.toRowW d [] (fun f vs => PySem.call f vs) :=
  L2.walk_of (n := 63) (k := 9) (x := "script") (CX := fun _ => CX0) (sp := fun w => spLaw (K w.params)) hn (by decide) hdf ⟨rfl, by decide, by decide⟩ hY F (fun _ _ a ns hl _ hS => ⟨a, ns, rfl, hS, hl, fun _ => rfl⟩) fun _ _ _ _ _ z => z
end Odds
open PySem PySem.W PyProof.Rows
set_option maxRecDepth 100000 in
set_option maxHeartbeats 0 in
theorem PySem.Challenge.cw_oddscall_k07_roots_within_a_field_holds : PySem.Challenge.rw_oddscall_k07_roots_within_a_field.Holds := by
  w_on; o_law; k_head; (case hw => w_witness2)
  k_fill
  refine Odds.walk (l := PySem.Challenge.rw_oddscall_k07_roots_within_a_field) rfl rfl (fun w h Y => PySem.W.kIn_of Y) ?F
  case F =>
    intro w mg fa h KX G hmg
    refine' Odds.all_mk KX G hmg ?a0 ?l0 ?c0 ?k0 ?a1 ?l1 ?c1 ?k1 ?a2 ?l2 ?c2 ?k2 ?a3 ?l3 ?c3 ?k3 ?a4 ?l4 ?c4 ?k4 ?a5 ?l5 ?c5 ?k5 ?a6 ?l6 ?c6 ?k6 ?a7 ?l7 ?c7 ?k7 ?a8 ?l8 ?c8 ?k8 ?a9 ?l9 ?c9 ?k9 ?a10 ?l10 ?c10 ?k10 ?a11 ?l11 ?c11 ?k11 ?a12 ?l12 ?c12 ?k12 ?a13 ?l13 ?c13 ?k13 ?a14 ?l14 ?c14 ?k14 ?a15 ?l15 ?c15 ?k15 ?a16 ?l16 ?c16 ?k16 ?a17 ?l17 ?c17 ?k17 ?a18 ?l18 ?c18 ?k18 ?a19 ?l19 ?c19 ?k19 ?a20 ?l20 ?c20 ?k20 ?a21 ?l21 ?c21 ?k21 ?a22 ?l22 ?c22 ?k22 ?a23 ?l23 ?c23 ?k23 ?a24 ?l24 ?c24 ?k24 ?a25 ?l25 ?c25 ?k25 ?a26 ?l26 ?c26 ?k26 ?a27 ?l27 ?c27 ?k27 ?a28 ?l28 ?c28 ?k28 ?a29 ?l29 ?c29 ?k29 ?a30 ?l30 ?c30 ?k30 ?a31 ?l31 ?c31 ?k31 ?a32 ?l32 ?c32 ?k32 ?a33 ?l33 ?c33 ?k33 ?z_abs ?z_all ?z_bool ?z_int ?z_isinstance ?z_len ?z_list ?z_range ?z_str ?z_tuple ?z_gcd ?z_isqrt ?z_HALF ?kk_HALF ?z_ZERO ?kk_ZERO ?xC ?xO ?xL ?x1 ?x2 ?x3 ?x4 ?x5 ?x6 ?x7 ?x8 ?x9 ?y1 ?y2 ?y3 ?y4 ?y5 ?y6 ?y7 ?y8 ?y9 ?w1 ?w2 ?w3 ?w4 ?w5
    (case a0 => k_is)
    (case l0 => k_is)
    (case c0 => k_is)
    (case k0 => k_is)
    (case a1 => k_is)
    (case l1 => k_is)
    (case c1 => k_is)
    (case k1 => k_is)
    (case a2 => k_is)
    (case l2 => k_is)
    (case c2 => k_is)
    (case k2 => k_is)
    (case a3 => k_is)
    (case l3 => k_is)
    (case c3 => k_is)
    (case k3 => k_is)
    (case a4 => k_is)
    (case l4 => k_is)
    (case c4 => k_is)
    (case k4 => k_is)
    (case a5 => k_is)
    (case l5 => k_is)
    (case c5 => k_is)
    (case k5 => k_is)
    (case a6 => k_is)
    (case l6 => k_is)
    (case c6 => k_is)
    (case k6 => k_is)
    (case a7 => k_is)
    (case l7 => k_is)
    (case c7 => k_is)
    (case k7 => k_is)
    (case a8 => k_is)
    (case l8 => k_is)
    (case c8 => k_is)
    (case k8 => k_is)
    (case a9 => k_is)
    (case l9 => k_is)
    (case c9 => k_is)
    (case k9 => k_is)
    (case a10 => k_is)
    (case l10 => k_is)
    (case c10 => k_is)
    (case k10 => k_is)
    (case a11 => k_is)
    (case l11 => k_is)
    (case c11 => k_is)
    (case k11 => k_is)
    (case a12 => k_is)
    (case l12 => k_is)
    (case c12 => k_is)
    (case k12 => k_is)
    (case a13 => k_is)
    (case l13 => k_is)
    (case c13 => k_is)
    (case k13 => k_is)
    (case a14 => k_is)
    (case l14 => k_is)
    (case c14 => k_is)
    (case k14 => k_is)
    (case a15 => k_is)
    (case l15 => k_is)
    (case c15 => k_is)
    (case k15 => k_is)
    (case a16 => k_is)
    (case l16 => k_is)
    (case c16 => k_is)
    (case k16 => k_is)
    (case a17 => k_is)
    (case l17 => k_is)
    (case c17 => k_is)
    (case k17 => k_is)
    (case a18 => k_is)
    (case l18 => k_is)
    (case c18 => k_is)
    (case k18 => k_is)
    (case a19 => k_is)
    (case l19 => k_is)
    (case c19 => k_is)
    (case k19 => k_is)
    (case a20 => k_is)
    (case l20 => k_is)
    (case c20 => k_is)
    (case k20 => k_is)
    (case a21 => k_is)
    (case l21 => k_is)
    (case c21 => k_is)
    (case k21 => k_is)
    (case a22 => k_is)
    (case l22 => k_is)
    (case c22 => k_is)
    (case k22 => k_is)
    (case a23 => k_is)
    (case l23 => k_is)
    (case c23 => k_is)
    (case k23 => k_is)
    (case a24 => k_is)
    (case l24 => k_is)
    (case c24 => k_is)
    (case k24 => k_is)
    (case a25 => k_is)
    (case l25 => k_is)
    (case c25 => k_is)
    (case k25 => k_is)
    (case a26 => k_is)
    (case l26 => k_is)
    (case c26 => k_is)
    (case k26 => k_is)
    (case a27 => k_is)
    (case l27 => k_is)
    (case c27 => k_is)
    (case k27 => k_is)
    (case a28 => k_is)
    (case l28 => k_is)
    (case c28 => k_is)
    (case k28 => k_is)
    (case a29 => k_is)
    (case l29 => k_is)
    (case c29 => k_is)
    (case k29 => k_is)
    (case a30 => k_is)
    (case l30 => k_is)
    (case c30 => k_is)
    (case k30 => k_is)
    (case a31 => k_is)
    (case l31 => k_is)
    (case c31 => k_is)
    (case k31 => k_is)
    (case a32 => k_is)
    (case l32 => k_is)
    (case c32 => k_is)
    (case k32 => k_is)
    (case a33 => k_is)
    (case l33 => k_is)
    (case c33 => k_is)
    (case k33 => k_is)
    (case z_abs => k_is)
    (case z_all => k_is)
    (case z_bool => k_is)
    (case z_int => k_is)
    (case z_isinstance => k_is)
    (case z_len => k_is)
    (case z_list => k_is)
    (case z_range => k_is)
    (case z_str => k_is)
    (case z_tuple => k_is)
    (case z_gcd => k_is)
    (case z_isqrt => k_is)
    (case z_HALF => k_is)
    (case kk_HALF => k_is)
    (case z_ZERO => k_is)
    (case kk_ZERO => k_is)
    (case xC => k_is)
    (case xO => k_is)
    (case xL => k_is)
    (case x1 => k_is)
    (case x2 => k_is)
    (case x3 => k_is)
    (case x4 => k_is)
    (case x5 => k_is)
    (case x6 => k_is)
    (case x7 => k_is)
    (case x8 => k_is)
    (case x9 => k_is)
    (case y1 => k_is)
    (case y2 => k_is)
    (case y3 => k_is)
    (case y4 => k_is)
    (case y5 => k_is)
    (case y6 => k_is)
    (case y7 => k_is)
    (case y8 => k_is)
    (case y9 => k_is)
    (case w1 => first | rfl | k_is)
    (case w2 => k_is)
    (case w3 => k_is)
    (case w4 => k_is)
    (case w5 => k_is)
