import PyProof.Rows.All
import Wide.All
import OpenK.AllK
import Wide.FinOn
import HandS.ForExc
import HandS.ForMost
import HandS.IsInst
import HandS.Gcd
import HandS.Wide
import HandS.Style
import HandS.ExcInit
import HandS.ExcField
import HandS.ExcIs
import HandS.TupAny
import KE.KExcIs
import HandS.Codes
import HandS.Comp
import KE.KMathG
import Flt.RightSqrt
import HandS.Zip
import HandS.Rev
import HandS.AnyAll
import HandS.JoinGen
import HandS.EndTab
import PyProof.GenCompD
import HandS.GenList
import HandS.More
import PyProof.SumAny
import HandS.TupMul
import PyProof.Draws
import PyProof.EnumMake
import HandS.TupLe
import HandS.TupSets
import HandS.DictTup
import HandS.Deep
import HandS.SetKeys
import PySem.Challenge.RW_oddscall_k60_rejecting
set_option Elab.async false
set_option linter.all false
set_option maxRecDepth 100000
set_option maxHeartbeats 4000000
/-! ## Pm: pure values, pure runs, and what ties them to the hand layer -/
namespace Pm
open PySem L2

/-- a value as data; a mutable object is a number -/
inductive PV where
  | non | bl (b : Bool) | int (i : Int) | str (x : Str) | tup (xs : List PV) | rol (xs : List PV) | cell (n : Nat)
/-- a mutable object: a list, a dict, an instance -/
inductive MO where
  | lst (xs : List PV) | dk (kvs : List (Key × PV)) | dt (kvs : List (List Key × PV)) | ins (c : Str) (fs : List (Str × PV))
abbrev Sto := List MO
/-- a run's end: a value; an exception of the program's own; no word -/
inductive Rs (α : Type) where
  | ok (v : α) (S : Sto) | er (c : Str) (fs : List (Str × PV)) (S : Sto) | bad
def Rs.bind {α β : Type} (r : Rs α) (f : α → Sto → Rs β) : Rs β :=
  match r with
  | .ok v S => f v S
  | .er c fs S => .er c fs S
  | .bad => .bad
@[simp] theorem bind_ok {α β : Type} {v : α} {S : Sto} {f : α → Sto → Rs β} : (Rs.ok v S).bind f = f v S := rfl
@[simp] theorem bind_er {α β : Type} {c : Str} {fs : List (Str × PV)} {S : Sto} {f : α → Sto → Rs β} : (Rs.er c fs S : Rs α).bind f = .er c fs S := rfl
@[simp] theorem bind_bad {α β : Type} {f : α → Sto → Rs β} : (Rs.bad : Rs α).bind f = .bad := rfl
abbrev PSt := List (Option PV)
/-- a statement's end -/
inductive Ot where
  | nx (ρ : PSt) (S : Sto) | rt (v : PV) (S : Sto) | bk (ρ : PSt) (S : Sto) | ct (ρ : PSt) (S : Sto) | er (c : Str) (fs : List (Str × PV)) (ρ : PSt) (S : Sto) | bad
abbrev ME := PSt → Sto → Rs PV
abbrev MA := PSt → Sto → Rs (List PV)
abbrev MT := PSt → Sto → Rs Bool
abbrev MS := PSt → Sto → Ot
/-- a def: arguments, objects -/
abbrev MF := List PV → Sto → Rs PV

/-! ### what ties them -/
section
variable (K : PySem.W.Frag)
/-- a list that nobody writes -/
def RoL (H : Hp) (a : Addr) (vs : List V) : Prop := (∃ o, H a = some (.frz o (.lst vs))) ∨
  ∃ (o : Obj) (its : Array Value) (n : Nat), K.lookup a = some o ∧ o.cls = .type "list" ∧ o.dict = none ∧ o.data = .seq its n ∧ its.size ≤ sizeLine ∧ Vals vs its.toList
theorem RoL.sq {K : PySem.W.Frag} {H : Hp} {a : Addr} {vs : List V} (h : RoL K H a vs) : SqL K H a vs := by
  rcases h with h | h
  · exact .inl (.inr h)
  · exact .inr h
mutual
inductive Den (α : List Addr) (H : Hp) : PV → V → Prop where
  | non : Den α H .non .non
  | bl (b : Bool) : Den α H (.bl b) (.bl b)
  | int (i : Int) : Den α H (.int i) (.int i)
  | str (x : Str) : Den α H (.str x) (.str x)
  | tup {xs : List PV} {vs : List V} {a : Addr} : SqT K H a vs → Dens α H xs vs → Den α H (.tup xs) (.ref a)
  | rol {xs : List PV} {vs : List V} {a : Addr} : RoL K H a vs → Dens α H xs vs → Den α H (.rol xs) (.ref a)
  | cell {n : Nat} {a : Addr} : α[n]? = some a → Den α H (.cell n) (.ref a)
inductive Dens (α : List Addr) (H : Hp) : List PV → List V → Prop where
  | nil : Dens α H [] []
  | cons {x : PV} {v : V} {xs : List PV} {vs : List V} : Den α H x v → Dens α H xs vs → Dens α H (x :: xs) (v :: vs)
end
end
/-- what never changes -/
def Stay : HO → Prop
  | .tup _ => True
  | .frz _ _ => True
  | .xd _ => True
  | _ => False
def Kp (H H' : Hp) : Prop := ∀ a o, H a = some o → Stay o → H' a = some o
section
variable {K : PySem.W.Frag} {α α' α'' : List Addr} {H H' H'' : Hp}
theorem Kp.refl : Kp H H := fun _ _ h _ => h
theorem Kp.trans (a : Kp H H') (b : Kp H' H'') : Kp H H'' := fun _ _ h s => b _ _ (a _ _ h s) s
theorem Kp.tup (k : Kp H H') {a : Addr} {vs : List V} (h : SqT K H a vs) : SqT K H' a vs := by
  rcases h with (h | ⟨o, h⟩) | h
  · exact .inl (.inl (k _ _ h trivial))
  · exact .inl (.inr ⟨o, k _ _ h trivial⟩)
  · exact .inr h
theorem Kp.rol (k : Kp H H') {a : Addr} {vs : List V} (h : RoL K H a vs) : RoL K H' a vs := by
  rcases h with ⟨o, h⟩ | h
  · exact .inl ⟨o, k _ _ h trivial⟩
  · exact .inr h
theorem Kp.new {p : Addr} {o : HO} (h : H p = none) : Kp H (upd H p o) := fun a u r _ => by
  rw [upd_ne (ne_of_none r h)]
  exact r
/-- an object that may change is written -/
theorem Kp.set {p : Addr} {o u : HO} (h : H p = some o) (n : ¬ Stay o) : Kp H (upd H p u) := fun a w r s => by
  rw [upd_ne (fun e => by subst e; rw [h] at r; exact n (Option.some.inj r ▸ s))]
  exact r
mutual
theorem Den.mono (pre : α <+: α') (kp : Kp H H') : ∀ {x : PV} {v : V}, Den K α H x v → Den K α' H' x v
  | _, _, .non => .non
  | _, _, .bl b => .bl b
  | _, _, .int i => .int i
  | _, _, .str x => .str x
  | _, _, .tup h d => .tup (kp.tup h) (Dens.mono pre kp d)
  | _, _, .rol h d => .rol (kp.rol h) (Dens.mono pre kp d)
  | _, _, .cell h => .cell (by
      obtain ⟨t, rfl⟩ := pre
      rw [List.getElem?_append_left (List.getElem?_eq_some_iff.mp h).1]
      exact h)
theorem Dens.mono (pre : α <+: α') (kp : Kp H H') : ∀ {xs : List PV} {vs : List V}, Dens K α H xs vs → Dens K α' H' xs vs
  | _, _, .nil => .nil
  | _, _, .cons d ds => .cons (Den.mono pre kp d) (Dens.mono pre kp ds)
end
theorem Dens.length : ∀ {xs : List PV} {vs : List V}, Dens K α H xs vs → xs.length = vs.length
  | _, _, .nil => rfl
  | _, _, .cons _ ds => by simp [Dens.length ds]
theorem Dens.get : ∀ {xs : List PV} {vs : List V} {i : Nat} {x : PV}, Dens K α H xs vs → xs[i]? = some x → ∃ v, vs[i]? = some v ∧ Den K α H x v
  | _, _, _, _, .nil, e => by simp at e
  | _, _, 0, _, .cons d _, e => by simp at e; subst e; exact ⟨_, rfl, d⟩
  | _, _, i + 1, x, .cons _ ds, e => by
    obtain ⟨v, h1, h2⟩ := Dens.get (i := i) (x := x) ds (by simpa using e)
    exact ⟨v, by simpa using h1, h2⟩
theorem Dens.append : ∀ {xs ys : List PV} {vs us : List V}, Dens K α H xs vs → Dens K α H ys us → Dens K α H (xs ++ ys) (vs ++ us)
  | _, _, _, _, .nil, d => d
  | _, _, _, _, .cons a b, d => .cons a (Dens.append b d)
theorem Dens.set {y : PV} {u : V} (d : Den K α H y u) : ∀ {xs : List PV} {vs : List V} (i : Nat), Dens K α H xs vs → Dens K α H (xs.set i y) (vs.set i u)
  | _, _, _, .nil => .nil
  | _, _, 0, .cons _ b => .cons d b
  | _, _, i + 1, .cons a b => .cons a (Dens.set d i b)
theorem Dens.take : ∀ {xs : List PV} {vs : List V} (n : Nat), Dens K α H xs vs → Dens K α H (xs.take n) (vs.take n)
  | _, _, 0, _ => .nil
  | _, _, _ + 1, .nil => .nil
  | _, _, n + 1, .cons a b => .cons a (Dens.take n b)
theorem Dens.drop : ∀ {xs : List PV} {vs : List V} (n : Nat), Dens K α H xs vs → Dens K α H (xs.drop n) (vs.drop n)
  | _, _, 0, d => d
  | _, _, _ + 1, .nil => .nil
  | _, _, n + 1, .cons _ b => Dens.drop n b
theorem Dens.reverse {xs : List PV} {vs : List V} (d : Dens K α H xs vs) : Dens K α H xs.reverse vs.reverse := by
  induction xs generalizing vs with
  | nil => cases d; exact .nil
  | cons x xs ih =>
    cases d with
    | cons a b =>
      rw [List.reverse_cons, List.reverse_cons]
      exact (ih b).append (.cons a .nil)
theorem Dens.ints : ∀ {ns : List Int} {vs : List V}, Dens K α H (ns.map PV.int) vs → vs = ns.map V.int
  | [], _, .nil => rfl
  | _ :: _, _, .cons (.int _) b => by rw [List.map_cons, Dens.ints b]
theorem Dens.of_ints : ∀ (ns : List Int), Dens K α H (ns.map PV.int) (ns.map V.int)
  | [] => .nil
  | n :: ns => .cons (.int n) (Dens.of_ints ns)
theorem Dens.bls : ∀ {bs : List Bool} {vs : List V}, Dens K α H (bs.map PV.bl) vs → vs = bs.map V.bl
  | [], _, .nil => rfl
  | _ :: _, _, .cons (.bl _) b => by rw [List.map_cons, Dens.bls b]
end

/-- an exception that a suite holds: its slot, where it lies, its class, its dict, what they mean -/
structure Sut where
  i : Nat
  a : Addr
  cls : Value
  d : Option Addr
  c : Str
  fs : List (Str × PV)
/-- the signature: classes of instances, classes of exceptions, code tables; the suite's exception -/
structure Sg where
  cls : Str → Option Addr
  exc : Str → Option Addr
  tabs : List Addr
  sut : Option Sut
/-- an exception's own dict -/
def XF (K : PySem.W.Frag) (α : List Addr) (H : Hp) (d : Addr) (fs : List (Str × PV)) : Prop :=
  ∃ vfs : List (Str × V), H d = some (.xd vfs) ∧ fs.map (·.1) = vfs.map (·.1) ∧ Dens K α H (fs.map (·.2)) (vfs.map (·.2))
theorem XF.mono {K : PySem.W.Frag} {α α' : List Addr} {H H' : Hp} {d : Addr} {fs : List (Str × PV)} (pre : α <+: α') (kp : Kp H H') (x : XF K α H d fs) : XF K α' H' d fs := by
  obtain ⟨vfs, h1, h2, h3⟩ := x
  exact ⟨vfs, kp _ _ h1 trivial, h2, h3.mono pre kp⟩
/-- the exception stands as it was caught -/
def SutOk (K : PySem.W.Frag) (g : Sg) (α : List Addr) (σ : St) (H : Hp) (z : Sut) : Prop :=
  σ[z.i]? = some (some (.ref z.a)) ∧ ∃ C d, z.cls = .ref C ∧ g.exc z.c = some C ∧ z.d = some d ∧ XF K α H d z.fs
/-- a mutable object lies at a -/
def Mob (K : PySem.W.Frag) (g : Sg) (α : List Addr) (H : Hp) (a : Addr) : MO → Prop
  | .lst xs => ∃ vs, H a = some (.lst vs) ∧ Dens K α H xs vs
  | .dk kvs => ∃ ks : List (Key × V), H a = some (.dK ks) ∧ kvs.map (·.1) = ks.map (·.1) ∧ Dens K α H (kvs.map (·.2)) (ks.map (·.2))
  | .dt kvs => ∃ ks : List (List Key × V), H a = some (.dT ks) ∧ kvs.map (·.1) = ks.map (·.1) ∧ Dens K α H (kvs.map (·.2)) (ks.map (·.2))
  | .ins c fs => ∃ C dx vfs, g.cls c = some C ∧ H a = some (.ins C dx vfs) ∧ fs.map (·.1) = vfs.map (·.1) ∧ Dens K α H (fs.map (·.2)) (vfs.map (·.2))
/-- the objects -/
structure RlC (K : PySem.W.Frag) (g : Sg) (α : List Addr) (H : Hp) (S : Sto) : Prop where
  len : α.length = S.length
  nd : α.Nodup
  cel : ∀ (n : Nat) a o, α[n]? = some a → S[n]? = some o → Mob K g α H a o
  tab : ∀ P ∈ g.tabs, GxR.TabG H P
/-- .. and the names -/
structure Rl (K : PySem.W.Frag) (g : Sg) (α : List Addr) (σ : St) (H : Hp) (ρ : PSt) (S : Sto) : Prop where
  obj : RlC K g α H S
  len : ρ.length = σ.length
  loc : ∀ (i : Nat) x, ρ[i]? = some (some x) → ∃ v, σ[i]? = some (some v) ∧ Den K α H x v
  sut : ∀ z, g.sut = some z → ρ[z.i]? = some none → SutOk K g α σ H z
end Pm
namespace Pm
open PySem L2
/-- what a run asks of its caller: P of the value and the state behind -/
def Post {β : Type} (K : PySem.W.Frag) (g : Sg) (W : WX) (α : List Addr) (σ : St) (H : Hp) (ρ : PSt) (P : List Addr → Hp → β → Sto → Prop) : Rs β → Prop
  | .ok x S' => ∀ α' H', α <+: α' → Kp H H' → Rl K g α' σ H' ρ S' → P α' H' x S'
  | .er c fs S' => ∀ α' H' C d, α <+: α' → Kp H H' → Rl K g α' σ H' ρ S' → g.exc c = some C → XF K α' H' d fs → W (.ref C) (some d) σ H'
  | .bad => False
section
variable {K : PySem.W.Frag} {g : Sg} {W : WX} {α α1 : List Addr} {σ : St} {H H1 : Hp} {ρ : PSt} {β γ : Type} {S : Sto}
theorem Post.mono {P : List Addr → Hp → β → Sto → Prop} (pre : α <+: α1) (kp : Kp H H1) : ∀ {r : Rs β}, Post K g W α σ H ρ P r → Post K g W α1 σ H1 ρ P r
  | .ok _ _, h => fun α' H' p k r => h α' H' (pre.trans p) (kp.trans k) r
  | .er _ _ _, h => fun α' H' C d p k r e x => h α' H' C d (pre.trans p) (kp.trans k) r e x
  | .bad, h => h
theorem Post.imp {P P' : List Addr → Hp → β → Sto → Prop} : ∀ {r : Rs β}, Post K g W α σ H ρ P r → (∀ α' H' x S', α <+: α' → Kp H H' → Rl K g α' σ H' ρ S' → P α' H' x S' → P' α' H' x S') → Post K g W α σ H ρ P' r
  | .ok _ _, h, f => fun α' H' p k r => f _ _ _ _ p k r (h α' H' p k r)
  | .er _ _ _, h, _ => h
  | .bad, h, _ => h
theorem Post.of_bind {P : List Addr → Hp → γ → Sto → Prop} {f : β → Sto → Rs γ} : ∀ {r : Rs β}, Post K g W α σ H ρ P (r.bind f) → Post K g W α σ H ρ (fun α' H' x S' => Rl K g α' σ H' ρ S' → Post K g W α' σ H' ρ P (f x S')) r
  | .ok _ _, h => fun _ _ p k _ _ => Post.mono p k h
  | .er _ _ _, h => h
  | .bad, h => h
/-- at the end of the reading -/
theorem Post.here {P : List Addr → Hp → β → Sto → Prop} {x : β} (h : Post K g W α σ H ρ P (.ok x S)) (r : Rl K g α σ H ρ S) : P α H x S := h α H (List.prefix_refl _) Kp.refl r
end

/-! ### the judgements -/
/-- the expression's reading by m -/
def tM (K : PySem.W.Frag) (g : Sg) (W : WX) (m : ME) : TE := fun σ H Q => ∃ α ρ S, Rl K g α σ H ρ S ∧ Post K g W α σ H ρ (fun α' H' x _ => ∀ v, Den K α' H' x v → Q v H') (m ρ S)
def tMT (K : PySem.W.Frag) (g : Sg) (W : WX) (m : MT) : TT := fun σ H Q => ∃ α ρ S, Rl K g α σ H ρ S ∧ Post K g W α σ H ρ (fun _ H' b _ => Q b H') (m ρ S)
def tMA (K : PySem.W.Frag) (g : Sg) (W : WX) (m : MA) : TA := fun σ H Q => ∃ α ρ S, Rl K g α σ H ρ S ∧ Post K g W α σ H ρ (fun α' H' xs _ => ∀ vs, Dens K α' H' xs vs → Q vs H') (m ρ S)
def SPost (K : PySem.W.Frag) (g : Sg) (W : WX) (α : List Addr) (H : Hp) (D : Ends) : Ot → Prop
  | .nx ρ' S' => ∀ α' σ' H', α <+: α' → Kp H H' → Rl K g α' σ' H' ρ' S' → D.nx σ' H'
  | .rt x S' => ∀ α' H' v, α <+: α' → Kp H H' → RlC K g α' H' S' → Den K α' H' x v → D.rt v H'
  | .bk ρ' S' => ∀ α' σ' H', α <+: α' → Kp H H' → Rl K g α' σ' H' ρ' S' → D.bk σ' H'
  | .ct ρ' S' => ∀ α' σ' H', α <+: α' → Kp H H' → Rl K g α' σ' H' ρ' S' → D.ct σ' H'
  | .er c fs ρ' S' => ∀ α' σ' H' C d, α <+: α' → Kp H H' → Rl K g α' σ' H' ρ' S' → g.exc c = some C → XF K α' H' d fs → W (.ref C) (some d) σ' H'
  | .bad => False
def tMS (K : PySem.W.Frag) (g : Sg) (W : WX) (m : MS) : TS := fun D σ H => ∃ α ρ S, Rl K g α σ H ρ S ∧ SPost K g W α H D (m ρ S)
def RE (X : Cx) (g : Sg) (W : WX) (e : Expr) (m : ME) : Prop := PE X e (tM X.K g W m)
def RT (X : Cx) (g : Sg) (W : WX) (e : Expr) (m : MT) : Prop := PT X e (tMT X.K g W m)
def RW (X : Cx) (g : Sg) (W : WX) (e : Expr) (m : MT) : Prop := PW X e (tMT X.K g W m)
def RA (X : Cx) (g : Sg) (W : WX) (es : List Expr) (m : MA) : Prop := PA X es (tMA X.K g W m)
def RS (X : Cx) (g : Sg) (W : WX) (st : Stmt) (m : MS) : Prop := PS X st (tMS X.K g W m)
def RSs (X : Cx) (g : Sg) (W : WX) (st : List Stmt) (m : MS) : Prop := PSs X st (tMS X.K g W m)
theorem pe_le {X : Cx} {e : Expr} {t t' : TE} (h : PE X e t) (i : ∀ σ H Q, t' σ H Q → t σ H Q) : PE X e t' := ⟨fun pins s σ H Q I q => h.run pins s σ H Q I (i _ _ _ q)⟩
theorem pt_le {X : Cx} {e : Expr} {t t' : TT} (h : PT X e t) (i : ∀ σ H Q, t' σ H Q → t σ H Q) : PT X e t' := ⟨fun pins s σ H Q I q => h.run pins s σ H Q I (i _ _ _ q)⟩
theorem pw_le {X : Cx} {e : Expr} {t t' : TT} (h : PW X e t) (i : ∀ σ H Q, t' σ H Q → t σ H Q) : PW X e t' := ⟨fun w pins s σ H Q I q => h.run w pins s σ H Q I (i _ _ _ q)⟩
theorem pa_le {X : Cx} {es : List Expr} {t t' : TA} (h : PA X es t) (i : ∀ σ H Q, t' σ H Q → t σ H Q) : PA X es t' := ⟨fun p pins s σ H Q I q => h.run p pins s σ H Q I (i _ _ _ q)⟩
theorem ps_le {X : Cx} {st : Stmt} {t t' : TS} (h : PS X st t) (i : ∀ D σ H, t' D σ H → t D σ H) : PS X st t' := ⟨fun pins s σ H D I q => h.run pins s σ H D I (i _ _ _ q)⟩
theorem pss_le {X : Cx} {st : List Stmt} {t t' : TS} (h : PSs X st t) (i : ∀ D σ H, t' D σ H → t D σ H) : PSs X st t' := ⟨fun pins s σ H D I q => h.run pins s σ H D I (i _ _ _ q)⟩
section
variable {K : PySem.W.Frag} {g : Sg} {W : WX} {α : List Addr} {σ : St} {H : Hp} {ρ : PSt} {S : Sto}
theorem tM.mk {m : ME} {Q : VK} (r : Rl K g α σ H ρ S) (h : Post K g W α σ H ρ (fun α' H' x _ => ∀ v, Den K α' H' x v → Q v H') (m ρ S)) : tM K g W m σ H Q := ⟨α, ρ, S, r, h⟩
/-- the state's objects alone -/
theorem Rl.keep (r : Rl K g α σ H ρ S) {α' : List Addr} {H' : Hp} {S' : Sto} (pre : α <+: α') (kp : Kp H H') (o : RlC K g α' H' S') : Rl K g α' σ H' ρ S' :=
  ⟨o, r.len, fun i x e => by
    obtain ⟨v, h1, h2⟩ := r.loc i x e
    exact ⟨v, h1, h2.mono pre kp⟩, fun z e1 e2 => by
    obtain ⟨h1, C, d, h2, h3, h4, h5⟩ := r.sut z e1 e2
    exact ⟨h1, C, d, h2, h3, h4, h5.mono pre kp⟩⟩
end

/-! ### names and constants -/
def mC (x : PV) : ME := fun _ S => .ok x S
def mVar (i : Nat) : ME := fun ρ S => match ρ[i]? with
  | some (some x) => .ok x S
  | _ => .bad
section
variable {X : Cx} {g : Sg} {W : WX} {a b c e : Expr} {ma mb mc : ME} {pos p : Pos}
theorem re_var {i : Nat} {x : Str} (h : PE X (.Name x p) (tVar i)) : RE X g W (.Name x p) (mVar i) := by
  refine pe_le h fun σ H Q ⟨α, ρ, S, r, q⟩ => ?_
  cases e : ρ[i]? with
  | none => simp only [mVar, e] at q; exact q.elim
  | some o => cases o with
    | none => simp only [mVar, e] at q; exact q.elim
    | some x =>
      simp only [mVar, e] at q
      obtain ⟨v, h1, h2⟩ := r.loc i x e
      exact ⟨v, h1, q.here r v h2⟩
theorem re_c {x : PV} {v : V} (h : PE X e (tC v)) (d : ∀ α H, Den X.K α H x v) : RE X g W e (mC x) := by
  refine pe_le h fun σ H Q ⟨α, ρ, S, r, q⟩ => ?_
  exact (Post.here q r) v (d α H)
theorem re_int {i j} : RE X g W (.Constant (.int i) j p) (mC (.int i)) := re_c pe_int fun _ _ => .int i
theorem re_bl {b j} : RE X g W (.Constant (.bool b) j p) (mC (.bl b)) := re_c pe_bl fun _ _ => .bl b
theorem re_non {j} : RE X g W (.Constant .none j p) (mC .non) := re_c pe_non fun _ _ => .non
theorem re_str {x j} : RE X g W (.Constant (.str x) j p) (mC (.str x)) := re_c pe_str fun _ _ => .str x

/-! ### two operands -/
/-- an operation on values, told by f -/
def OpM (X : Cx) (g : Sg) (W : WX) (r : R2) (f : PV → PV → Sto → Rs PV) : Prop :=
  ∀ α σ H ρ S x y v u Q, Rl X.K g α σ H ρ S → Den X.K α H x v → Den X.K α H y u → Post X.K g W α σ H ρ (fun α' H' z _ => ∀ w, Den X.K α' H' z w → Q w H') (f x y S) → r v u H Q
def m2 (f : PV → PV → Sto → Rs PV) (ma mb : ME) : ME := fun ρ S => (ma ρ S).bind fun x S1 => (mb ρ S1).bind fun y S2 => f x y S2
theorem m2_le {ta tb : TE} {r : R2} {f : PV → PV → Sto → Rs PV} (ha : ∀ σ H Q, tM X.K g W ma σ H Q → ta σ H Q) (hb : ∀ σ H Q, tM X.K g W mb σ H Q → tb σ H Q) (ho : OpM X g W r f) :
    ∀ σ H Q, tM X.K g W (m2 f ma mb) σ H Q → tOp r ta tb σ H Q := by
  intro σ H Q ⟨α, ρ, S, rl, q⟩
  refine ha _ _ _ ⟨α, ρ, S, rl, q.of_bind.imp fun α1 H1 x S1 p1 k1 r1 q1 v dv => ?_⟩
  refine hb _ _ _ ⟨α1, ρ, S1, r1, (q1 r1).of_bind.imp fun α2 H2 y S2 p2 k2 r2 q2 u du => ?_⟩
  exact ho _ _ _ _ _ _ _ _ _ _ r2 (dv.mono p2 k2) du (q2 r2)
theorem re_op {op : Operator} {r : R2} {f : PV → PV → Sto → Rs PV} (o : OpR X (binaryOp op) r) (h : OpM X g W r f) (ha : RE X g W a ma) (hb : RE X g W b mb) : RE X g W (.BinOp a op b pos) (m2 f ma mb) :=
  pe_le (pe_op o ha hb) (m2_le (fun _ _ _ h => h) (fun _ _ _ h => h) h)
theorem OpR.or {f : Value → Value → Sem Value} {r r' : R2} (h : OpR X f r) (h' : OpR X f r') : OpR X f (fun x y H Q => r x y H Q ∨ r' x y H Q) := by
  intro pins s σ H x y v u Q I rx ry q
  rcases q with q | q
  · exact h pins s σ H x y v u Q I rx ry q
  · exact h' pins s σ H x y v u Q I rx ry q
end
end Pm
namespace Pm
open PySem L2
section
variable {K : PySem.W.Frag} {g : Sg} {W : WX} {α α' : List Addr} {σ : St} {H H' : Hp} {ρ : PSt} {S : Sto}
theorem Mob.mono {a : Addr} (pre : α <+: α') (kp : Kp H H') (st : ∀ u, H a = some u → H' a = some u) : ∀ {o : MO}, Mob K g α H a o → Mob K g α' H' a o
  | .lst _, ⟨vs, h, d⟩ => ⟨vs, st _ h, d.mono pre kp⟩
  | .dk _, ⟨ks, h, e, d⟩ => ⟨ks, st _ h, e, d.mono pre kp⟩
  | .dt _, ⟨ks, h, e, d⟩ => ⟨ks, st _ h, e, d.mono pre kp⟩
  | .ins _ _, ⟨C, dx, vfs, c, h, e, d⟩ => ⟨C, dx, vfs, c, st _ h, e, d.mono pre kp⟩
theorem Mob.some {a : Addr} : ∀ {o : MO}, Mob K g α H a o → ∃ u, H a = some u ∧ ¬ Stay u ∧ ∀ ps, u ≠ .tbl ps
  | .lst _, ⟨_, h, _⟩ => ⟨_, h, fun z => z, fun _ z => nomatch z⟩
  | .dk _, ⟨_, h, _⟩ => ⟨_, h, fun z => z, fun _ z => nomatch z⟩
  | .dt _, ⟨_, h, _⟩ => ⟨_, h, fun z => z, fun _ z => nomatch z⟩
  | .ins _ _, ⟨_, _, _, _, h, _⟩ => ⟨_, h, fun z => z, fun _ z => nomatch z⟩
theorem tab_st {P : Addr} (st : ∀ u, H P = some u → H' P = some u) (h : GxR.TabG H P) : GxR.TabG H' P := by
  obtain ⟨ps, h1, h2⟩ := h
  exact ⟨ps, st _ h1, h2⟩
theorem new_st {p b : Addr} {o u : HO} (hp : H p = none) (e : H b = some u) : upd H p o b = some u := by
  rw [upd_ne (ne_of_none e hp)]
  exact e
/-- what is there stays as it is -/
theorem RlC.same (r : RlC K g α H S) (st : ∀ b u, H b = some u → H' b = some u) : RlC K g α H' S :=
  ⟨r.len, r.nd, fun n a o h1 h2 => (r.cel n a o h1 h2).mono (List.prefix_refl _) (fun b u e _ => st b u e) (fun u e => st a u e), fun P h => tab_st (fun u e => st P u e) (r.tab P h)⟩
theorem RlC.obj (r : RlC K g α H S) {n : Nat} {o : MO} (h : S[n]? = some o) : ∃ a, α[n]? = some a ∧ Mob K g α H a o := by
  have hn : n < α.length := by rw [r.len]; exact (List.getElem?_eq_some_iff.mp h).1
  exact ⟨_, List.getElem?_eq_getElem hn, r.cel n _ o (List.getElem?_eq_getElem hn) h⟩
theorem RlC.at (r : RlC K g α H S) {n : Nat} {a : Addr} (h : α[n]? = some a) {o : MO} (h2 : S[n]? = some o) : Mob K g α H a o := r.cel n a o h h2
/-- a new object -/
theorem RlC.new {p : Addr} {u : HO} {o : MO} (r : RlC K g α H S) (hp : H p = none) (m : Mob K g (α ++ [p]) (upd H p u) p o) : RlC K g (α ++ [p]) (upd H p u) (S ++ [o]) := by
  have np : p ∉ α := fun h => by
    obtain ⟨n, hn, e⟩ := List.getElem_of_mem h
    have hS : n < S.length := by rw [← r.len]; exact hn
    obtain ⟨v, hv, _⟩ := (r.cel n p _ (by rw [List.getElem?_eq_getElem hn, e]) (List.getElem?_eq_getElem hS)).some
    rw [hp] at hv
    cases hv
  refine ⟨by simp [r.len], List.nodup_append.mpr ⟨r.nd, by simp, fun a h b hb => ?_⟩, fun n a o' h1 h2 => ?_, fun P h => tab_st (fun v e => new_st hp e) (r.tab P h)⟩
  · rw [List.mem_singleton] at hb
    rintro rfl
    subst hb
    exact np h
  · by_cases hn : n < α.length
    · rw [List.getElem?_append_left hn] at h1
      rw [List.getElem?_append_left (by rw [← r.len]; exact hn)] at h2
      exact (r.cel n a o' h1 h2).mono (List.prefix_append _ _) (Kp.new hp) fun v e => new_st hp e
    · have e : n = α.length := by
        have := (List.getElem?_eq_some_iff.mp h1).1
        simp at this
        omega
      subst e
      rw [List.getElem?_append_right (Nat.le_refl _)] at h1
      rw [r.len, List.getElem?_append_right (Nat.le_refl _)] at h2
      simp at h1 h2
      subst h1 h2
      exact m
/-- an object is written -/
theorem RlC.set {n : Nat} {a : Addr} {u : HO} {o o' : MO} (r : RlC K g α H S) (h1 : α[n]? = some a) (h2 : S[n]? = some o) (m : Mob K g α (upd H a u) a o') : RlC K g α (upd H a u) (S.set n o') := by
  obtain ⟨v, hv, ns, nt⟩ := (r.cel n a o h1 h2).some
  refine ⟨by simp [r.len], r.nd, fun k b q e1 e2 => ?_, fun P h => ?_⟩
  · by_cases hk : n = k
    · subst hk
      rw [h1] at e1
      cases e1
      rw [List.getElem?_set_self (List.getElem?_eq_some_iff.mp h2).1] at e2
      cases e2
      exact m
    · rw [List.getElem?_set_ne hk] at e2
      have nb : b ≠ a := by
        rintro rfl
        obtain ⟨l1, e1⟩ := List.getElem?_eq_some_iff.mp e1
        obtain ⟨l2, e2⟩ := List.getElem?_eq_some_iff.mp h1
        exact hk ((List.getElem_inj r.nd).mp (e2.trans e1.symm))
      exact (r.cel k b q e1 e2).mono (List.prefix_refl _) (Kp.set hv ns) fun w e => by rw [upd_ne nb]; exact e
  · obtain ⟨ps, p1, p2⟩ := r.tab P h
    refine ⟨ps, ?_, p2⟩
    rw [upd_ne (fun e => by subst e; rw [hv] at p1; exact nt _ (Option.some.inj p1))]
    exact p1
theorem RlC.kset {n : Nat} {a : Addr} {u : HO} {o : MO} (r : RlC K g α H S) (h1 : α[n]? = some a) (h2 : S[n]? = some o) : Kp H (upd H a u) := by
  obtain ⟨v, hv, ns, nt⟩ := (r.cel n a o h1 h2).some
  exact Kp.set hv ns
/-- the reading's end: a value that is here -/
theorem fin {P : List Addr → Hp → PV → Sto → Prop} {x : PV} (r : Rl K g α σ H ρ S) (q : Post K g W α σ H ρ P (.ok x S)) : P α H x S := q.here r
/-- .. with a new tuple -/
theorem fin_tup {Q : VK} {xs : List PV} {vs : List V} {p : Addr} (r : Rl K g α σ H ρ S) (hp : H p = none) (d : Dens K α H xs vs)
    (q : Post K g W α σ H ρ (fun α' H' x _ => ∀ v, Den K α' H' x v → Q v H') (.ok (.tup xs) S)) : Q (.ref p) (upd H p (.tup vs)) := by
  have kp : Kp H (upd H p (.tup vs)) := Kp.new hp
  exact q α _ (List.prefix_refl _) kp (r.keep (List.prefix_refl _) kp (r.obj.same fun b u e => new_st hp e)) _ (.tup (SqT.of upd_same) (d.mono (List.prefix_refl _) kp))
/-- .. with a new list -/
theorem fin_lst {Q : VK} {xs : List PV} {vs : List V} {p : Addr} (r : Rl K g α σ H ρ S) (hp : H p = none) (d : Dens K α H xs vs)
    (q : Post K g W α σ H ρ (fun α' H' x _ => ∀ v, Den K α' H' x v → Q v H') (.ok (.cell S.length) (S ++ [.lst xs]))) : Q (.ref p) (upd H p (.lst vs)) := by
  have kp : Kp H (upd H p (.lst vs)) := Kp.new hp
  have pre : α <+: α ++ [p] := List.prefix_append _ _
  refine q (α ++ [p]) _ pre kp (r.keep pre kp (r.obj.new hp ⟨vs, upd_same, d.mono pre kp⟩)) _ (.cell ?_)
  rw [← r.obj.len]
  simp
/-- .. with an object changed -/
theorem fin_set {Q : VK} {n : Nat} {a : Addr} {x : PV} {v : V} {u : HO} {o o' : MO} (r : Rl K g α σ H ρ S) (h1 : α[n]? = some a) (h2 : S[n]? = some o) (m : Mob K g α (upd H a u) a o') (d : Den K α (upd H a u) x v)
    (q : Post K g W α σ H ρ (fun α' H' x _ => ∀ v, Den K α' H' x v → Q v H') (.ok x (S.set n o'))) : Q v (upd H a u) := by
  have kp : Kp H (upd H a u) := r.obj.kset h1 h2
  exact q α _ (List.prefix_refl _) kp (r.keep (List.prefix_refl _) kp (r.obj.set h1 h2 m)) _ d
end

/-! ### operations on values -/
def addM : PV → PV → Sto → Rs PV
  | .int i, .int j, S => .ok (.int (i + j)) S
  | .str a, .str b, S => if a.length + b.length ≤ sizeLine then .ok (.str (a ++ b)) S else .bad
  | .tup xs, .tup ys, S => if xs.length + ys.length ≤ sizeLine then .ok (.tup (xs ++ ys)) S else .bad
  | .cell a, .cell b, S => match S[a]?, S[b]? with
    | some (.lst xs), some (.lst ys) => if xs.length + ys.length ≤ sizeLine then .ok (.cell S.length) (S ++ [.lst (xs ++ ys)]) else .bad
    | _, _ => .bad
  | _, _, _ => .bad
def subM : PV → PV → Sto → Rs PV
  | .int i, .int j, S => .ok (.int (i - j)) S
  | _, _, _ => .bad
/-- a product that is not too long -/
def mulOk (i j : Int) : Bool := decide (i.natAbs < 2 ^ 63) || (decide (j.natAbs < 2 ^ 63) || decide (i.natAbs.log2 + j.natAbs.log2 < 1000000))
def mulM : PV → PV → Sto → Rs PV
  | .int i, .int j, S => if mulOk i j = true then .ok (.int (i * j)) S else .bad
  | .cell a, .int k, S => match S[a]? with
    | some (.lst xs) => if -(2 ^ 63) ≤ k ∧ k < 2 ^ 63 ∧ xs.length * k.toNat ≤ sizeLine then .ok (.cell S.length) (S ++ [.lst (List.replicate k.toNat xs).flatten]) else .bad
    | _ => .bad
  | _, _, _ => .bad
def fdivM : PV → PV → Sto → Rs PV
  | .int i, .int j, S => if 0 < j then (if j.natAbs.log2 < 9000 then .ok (.int (i / j)) S else .bad) else if j ≠ 0 ∧ j.natAbs.log2 < 9000 then .ok (.int (i.fdiv j)) S else .bad
  | _, _, _ => .bad
def modM : PV → PV → Sto → Rs PV
  | .int i, .int j, S => if 0 < j then .ok (.int (i % j)) S else if j ≠ 0 then .ok (.int (i.fmod j)) S else .bad
  | _, _, _ => .bad
def powM : PV → PV → Sto → Rs PV
  | .int i, .int j, S => if 0 ≤ j ∧ j ≤ 1000000 ∧ i.natAbs < 2 ^ 64 then .ok (.int (i ^ j.toNat)) S else .bad
  | _, _, _ => .bad
def bandM : PV → PV → Sto → Rs PV
  | .int i, .int j, S => .ok (.int (Builtin.bitAnd i j)) S
  | _, _, _ => .bad
section
variable {X : Cx} {g : Sg} {W : WX}
def rAdd (K : PySem.W.Frag) : R2 := fun x y H Q => rI0 (fun i j => .int (i + j)) x y H Q ∨ rCatA K x y H Q ∨ rCat x y H Q ∨ ∃ i j, x = V.str i ∧ y = V.str j ∧ i.length + j.length ≤ sizeLine ∧ Q (V.str (i ++ j)) H
theorem opr_add : OpR X (binaryOp .Add) (rAdd X.K) := op_add.or (op_catA.or (op_cat.or op_add_str))
theorem opm_add : OpM X g W (rAdd X.K) addM := by
  intro α σ H ρ S x y v u Q r dx dy q
  cases dx <;> cases dy <;> first | exact False.elim q | skip
  case int.int i j => exact .inl ⟨i, j, rfl, rfl, q.here r _ (.int _)⟩
  case str.str a b =>
    simp only [addM] at q
    split at q
    · rename_i h
      exact .inr (.inr (.inr ⟨a, b, rfl, rfl, h, q.here r _ (.str _)⟩))
    · exact q.elim
  case tup.tup xs vs a s1 d1 ys us b s2 d2 =>
    simp only [addM] at q
    split at q
    · rename_i h
      have l1 := d1.length
      have l2 := d2.length
      refine .inr (.inl ⟨a, b, vs, us, rfl, rfl, s1, s2, by omega, fun e => ?_, fun _ e => ?_, fun _ _ p hp => fin_tup r hp (d1.append d2) q⟩)
      · subst e
        cases d1
        exact q.here r _ (.tup s2 d2)
      · subst e
        cases d2
        rw [List.append_nil] at q
        exact q.here r _ (.tup s1 d1)
    · exact q.elim
  case cell.cell n a h1 m b h2 =>
    simp only [addM] at q
    split at q
    · rename_i xs ys e1 e2
      split at q
      · rename_i h
        obtain ⟨vs, hv, d1⟩ := r.obj.at h1 e1
        obtain ⟨us, hu, d2⟩ := r.obj.at h2 e2
        have l1 := d1.length
        have l2 := d2.length
        exact .inr (.inr (.inl ⟨a, b, vs, us, rfl, rfl, hv, hu, by omega, fun p hp => fin_lst r hp (d1.append d2) q⟩))
      · exact q.elim
    · exact q.elim
theorem opm_sub : OpM X g W (rI0 fun i j => .int (i - j)) subM := by
  intro α σ H ρ S x y v u Q r dx dy q
  cases dx <;> cases dy <;> first | exact False.elim q | skip
  case int.int i j => exact ⟨i, j, rfl, rfl, q.here r _ (.int _)⟩
def rMul : R2 := fun x y H Q => (rI CMulW (fun i j => .int (i * j)) x y H Q ∨ rI CMul (fun i j => .int (i * j)) x y H Q) ∨ rRep x y H Q
theorem opr_mul : OpR X (binaryOp .Mult) rMul := (op_mulW.or op_mul).or op_rep
theorem Dens.rep {K : PySem.W.Frag} {α : List Addr} {H : Hp} {xs : List PV} {vs : List V} (d : Dens K α H xs vs) : ∀ n : Nat, Dens K α H (List.replicate n xs).flatten (List.replicate n vs).flatten
  | 0 => .nil
  | n + 1 => by
    rw [List.replicate_succ, List.replicate_succ, List.flatten_cons, List.flatten_cons]
    exact d.append (Dens.rep d n)
theorem opm_mul : OpM X g W rMul mulM := by
  intro α σ H ρ S x y v u Q r dx dy q
  cases dx <;> cases dy <;> first | exact False.elim q | skip
  case int.int i j =>
    simp only [mulM] at q
    split at q
    · rename_i h
      have q' := q.here r _ (.int (i * j))
      unfold mulOk at h
      rcases Bool.or_eq_true _ _ |>.mp h with h | h
      · have h := of_decide_eq_true h
        exact .inl (.inr ⟨i, j, rfl, rfl, .inl ⟨by omega, by omega⟩, q'⟩)
      · rcases Bool.or_eq_true _ _ |>.mp h with h | h
        · have h := of_decide_eq_true h
          exact .inl (.inr ⟨i, j, rfl, rfl, .inr ⟨by omega, by omega⟩, q'⟩)
        · have h := of_decide_eq_true h
          exact .inl (.inl ⟨i, j, rfl, rfl, h, q'⟩)
    · exact q.elim
  case cell.int n a h1 k =>
    simp only [mulM] at q
    split at q
    · rename_i xs e1
      split at q
      · rename_i h
        obtain ⟨vs, hv, d1⟩ := r.obj.at h1 e1
        have l1 := d1.length
        exact .inr ⟨a, k, vs, rfl, rfl, hv, h.1, h.2.1, by rw [← l1]; exact h.2.2, fun p hp => fin_lst r hp (d1.rep _) q⟩
      · exact q.elim
    · exact q.elim
def CDvM (i j : Int) : Prop := j ≠ 0 ∧ j.natAbs.log2 < 9000
theorem opr_fdiv : OpR X (binaryOp .FloorDiv) (rI CDvM fun i j => .int (i.fdiv j)) := opI fun i j _ _ _ _ _ hc q =>
  PyProof.Rows.floordiv_int hc.1 q (.inl (PyProof.noPylong_of_log2 hc.2))
theorem opm_fdiv : OpM X g W (rI CDvM fun i j => .int (i.fdiv j)) fdivM := by
  intro α σ H ρ S x y v u Q r dx dy q
  cases dx <;> cases dy <;> first | exact False.elim q | skip
  case int.int i j =>
    simp only [fdivM] at q
    split at q
    · rename_i h
      split at q
      · rename_i h2
        refine ⟨i, j, rfl, rfl, ⟨by omega, h2⟩, ?_⟩
        show Q (.int (i.fdiv j)) H
        rw [Int.fdiv_eq_ediv_of_nonneg i (show (0 : Int) ≤ j by omega)]
        exact q.here r _ (.int _)
      · exact q.elim
    · split at q
      · rename_i h
        exact ⟨i, j, rfl, rfl, h, q.here r _ (.int _)⟩
      · exact q.elim
theorem opm_mod : OpM X g W (rI (fun _ j => j ≠ 0) fun i j => .int (i.fmod j)) modM := by
  intro α σ H ρ S x y v u Q r dx dy q
  cases dx <;> cases dy <;> first | exact False.elim q | skip
  case int.int i j =>
    simp only [modM] at q
    split at q
    · rename_i h
      refine ⟨i, j, rfl, rfl, by omega, ?_⟩
      show Q (.int (i.fmod j)) H
      rw [Int.fmod_eq_emod_of_nonneg i (show (0 : Int) ≤ j by omega)]
      exact q.here r _ (.int _)
    · split at q
      · rename_i h
        exact ⟨i, j, rfl, rfl, h, q.here r _ (.int _)⟩
      · exact q.elim
theorem opm_pow : OpM X g W (rI CPow fun i j => .int (i ^ j.toNat)) powM := by
  intro α σ H ρ S x y v u Q r dx dy q
  cases dx <;> cases dy <;> first | exact False.elim q | skip
  case int.int i j =>
    simp only [powM] at q
    split at q
    · rename_i h
      exact ⟨i, j, rfl, rfl, h, q.here r _ (.int _)⟩
    · exact q.elim
theorem opm_band : OpM X g W (rI0 fun i j => .int (Builtin.bitAnd i j)) bandM := by
  intro α σ H ρ S x y v u Q r dx dy q
  cases dx <;> cases dy <;> first | exact False.elim q | skip
  case int.int i j => exact ⟨i, j, rfl, rfl, q.here r _ (.int _)⟩
end
end Pm
namespace Pm
open PySem L2
/-! ### comparisons -/
def ltM : PV → PV → Sto → Rs PV
  | .int i, .int j, S => .ok (.bl (decide (i < j))) S
  | _, _, _ => .bad
def leM : PV → PV → Sto → Rs PV
  | .int i, .int j, S => .ok (.bl (decide (i ≤ j))) S
  | _, _, _ => .bad
def gtM : PV → PV → Sto → Rs PV
  | .int i, .int j, S => .ok (.bl (decide (j < i))) S
  | _, _, _ => .bad
def geM : PV → PV → Sto → Rs PV
  | .int i, .int j, S => .ok (.bl (decide (j ≤ i))) S
  | _, _, _ => .bad
mutual
/-- a value as data -/
def pd (S : Sto) : Nat → PV → Option PyData
  | 0, _ => none
  | _ + 1, .non => some .none
  | _ + 1, .bl b => some (.bool b)
  | _ + 1, .int i => some (.int i)
  | _ + 1, .str x => some (.str x)
  | n + 1, .tup xs => (pds S n xs).map .tuple
  | n + 1, .rol xs => (pds S n xs).map .list
  | n + 1, .cell c => match S[c]? with
    | some (.lst xs) => (pds S n xs).map .list
    | _ => none
def pds (S : Sto) : Nat → List PV → Option (List PyData)
  | 0, [] => some []
  | 0, _ :: _ => none
  | _ + 1, [] => some []
  | n + 1, x :: xs => match pd S n x, pds S n xs with
    | some d, some ds => some (d :: ds)
    | _, _ => none
end
def eqvM (neg : Bool) (x y : PV) (S : Sto) : Rs PV :=
  match pd S 200 x, pd S 200 y with
  | some d, some e => if SeqAt.shaped d = true ∧ SeqAt.shaped e = true then .ok (.bl (if neg then !PyData.eqv d e else PyData.eqv d e)) S else .bad
  | _, _ => .bad
def eqM : PV → PV → Sto → Rs PV
  | .int i, .int j, S => .ok (.bl (decide (i = j))) S
  | .str a, .str b, S => .ok (.bl (decide (a = b))) S
  | .bl a, .bl b, S => .ok (.bl (decide (a = b))) S
  | .non, .non, S => .ok (.bl true) S
  | .non, .int _, S => .ok (.bl false) S
  | .int _, .non, S => .ok (.bl false) S
  | .non, .str _, S => .ok (.bl false) S
  | .str _, .non, S => .ok (.bl false) S
  | x, y, S => eqvM false x y S
def neM : PV → PV → Sto → Rs PV
  | .int i, .int j, S => .ok (.bl (!decide (i = j))) S
  | .str a, .str b, S => .ok (.bl (!decide (a = b))) S
  | .bl a, .bl b, S => .ok (.bl (!decide (a = b))) S
  | .non, .non, S => .ok (.bl false) S
  | .non, .int _, S => .ok (.bl true) S
  | .int _, .non, S => .ok (.bl true) S
  | .non, .str _, S => .ok (.bl true) S
  | .str _, .non, S => .ok (.bl true) S
  | x, y, S => eqvM true x y S
/-- x is None -/
def isNM : PV → Bool
  | .non => true
  | _ => false
section
variable {K : PySem.W.Frag} {g : Sg} {α : List Addr} {H : Hp} {S : Sto}
mutual
theorem dp_of (r : RlC K g α H S) : ∀ {n : Nat} {x : PV} {v : V} {d : PyData}, Den K α H x v → pd S n x = some d → Dp K H v d
  | 0, _, _, _, _, e => by simp [pd] at e
  | n + 1, _, _, _, .non, e => by simp [pd] at e; subst e; exact .non
  | n + 1, _, _, _, .bl b, e => by simp [pd] at e; subst e; exact .bl b
  | n + 1, _, _, _, .int b, e => by simp [pd] at e; subst e; exact .int b
  | n + 1, _, _, _, .str b, e => by simp [pd] at e; subst e; exact .str b
  | n + 1, _, _, _, .tup h d, e => by
    simp only [pd, Option.map_eq_some_iff] at e
    obtain ⟨ds, e1, rfl⟩ := e
    exact .tup h (dps_of r d e1)
  | n + 1, _, _, _, .rol h d, e => by
    simp only [pd, Option.map_eq_some_iff] at e
    obtain ⟨ds, e1, rfl⟩ := e
    exact .lst h.sq (dps_of r d e1)
  | n + 1, _, _, _, .cell h, e => by
    simp only [pd] at e
    split at e
    · rename_i xs e0
      simp only [Option.map_eq_some_iff] at e
      obtain ⟨ds, e1, rfl⟩ := e
      obtain ⟨vs, hv, d⟩ := r.at h e0
      exact .lst (SqL.of hv) (dps_of r d e1)
    · cases e
theorem dps_of (r : RlC K g α H S) : ∀ {n : Nat} {xs : List PV} {vs : List V} {ds : List PyData}, Dens K α H xs vs → pds S n xs = some ds → DpAll K H vs ds
  | 0, _, _, _, .nil, e => by simp [pds] at e; subst e; exact .nil
  | 0, _, _, _, .cons _ _, e => by simp [pds] at e
  | n + 1, _, _, _, .nil, e => by simp [pds] at e; subst e; exact .nil
  | n + 1, _, _, _, .cons a b, e => by
    simp only [pds] at e
    split at e
    · rename_i d ds e1 e2
      cases e
      exact .cons (dp_of r a e1) (dps_of r b e2)
    · cases e
end
end
section
variable {X : Cx} {g : Sg} {W : WX} {a b c e : Expr} {ma mb mc : ME} {pos p : Pos}
theorem opm_lt : OpM X g W (rI0 fun i j => .bl (decide (i < j))) ltM := by
  intro α σ H ρ S x y v u Q r dx dy q
  cases dx <;> cases dy <;> first | exact False.elim q | skip
  case int.int i j => exact ⟨i, j, rfl, rfl, q.here r _ (.bl _)⟩
theorem opm_le : OpM X g W (rI0 fun i j => .bl (decide (i ≤ j))) leM := by
  intro α σ H ρ S x y v u Q r dx dy q
  cases dx <;> cases dy <;> first | exact False.elim q | skip
  case int.int i j => exact ⟨i, j, rfl, rfl, q.here r _ (.bl _)⟩
theorem opm_gt : OpM X g W (rI0 fun i j => .bl (decide (j < i))) gtM := by
  intro α σ H ρ S x y v u Q r dx dy q
  cases dx <;> cases dy <;> first | exact False.elim q | skip
  case int.int i j => exact ⟨i, j, rfl, rfl, q.here r _ (.bl _)⟩
theorem opm_ge : OpM X g W (rI0 fun i j => .bl (decide (j ≤ i))) geM := by
  intro α σ H ρ S x y v u Q r dx dy q
  cases dx <;> cases dy <;> first | exact False.elim q | skip
  case int.int i j => exact ⟨i, j, rfl, rfl, q.here r _ (.bl _)⟩
def rEqX (K : PySem.W.Frag) : R2 := fun x y H Q => rEq x y H Q ∨ rEqD K x y H Q
def rNeX (K : PySem.W.Frag) : R2 := fun x y H Q => rNe x y H Q ∨ rNeD K x y H Q
theorem opr_eq (hu : X.A.units + 64 < cLine) : OpR X (compareOp .Eq) (rEqX X.K) := op_eq.or (op_eqD hu)
theorem opr_ne (hu : X.A.units + 64 < cLine) : OpR X (compareOp .NotEq) (rNeX X.K) := op_ne.or (op_neD hu)
theorem opm_eqv {α σ H ρ S x y v u Q} (r : Rl X.K g α σ H ρ S) (dx : Den X.K α H x v) (dy : Den X.K α H y u)
    (q : Post X.K g W α σ H ρ (fun α' H' z _ => ∀ w, Den X.K α' H' z w → Q w H') (eqvM false x y S)) : rEqX X.K v u H Q := by
  unfold eqvM at q
  split at q
  · rename_i d e h1 h2
    split at q
    · rename_i h
      exact .inr ⟨d, e, dp_of r.obj dx h1, dp_of r.obj dy h2, h.1, h.2, q.here r _ (.bl _)⟩
    · exact q.elim
  · exact q.elim
theorem opm_nev {α σ H ρ S x y v u Q} (r : Rl X.K g α σ H ρ S) (dx : Den X.K α H x v) (dy : Den X.K α H y u)
    (q : Post X.K g W α σ H ρ (fun α' H' z _ => ∀ w, Den X.K α' H' z w → Q w H') (eqvM true x y S)) : rNeX X.K v u H Q := by
  unfold eqvM at q
  split at q
  · rename_i d e h1 h2
    split at q
    · rename_i h
      exact .inr ⟨d, e, dp_of r.obj dx h1, dp_of r.obj dy h2, h.1, h.2, q.here r _ (.bl _)⟩
    · exact q.elim
  · exact q.elim
theorem opm_eq : OpM X g W (rEqX X.K) eqM := by
  intro α σ H ρ S x y v u Q r dx dy q
  cases dx <;> cases dy <;> first
    | exact opm_eqv r (by first | exact .non | exact .bl _ | exact .int _ | exact .str _ | exact .tup ‹_› ‹_› | exact .rol ‹_› ‹_› | exact .cell ‹_›) (by first | exact .non | exact .bl _ | exact .int _ | exact .str _ | exact .tup ‹_› ‹_› | exact .rol ‹_› ‹_› | exact .cell ‹_›) q
    | skip
  all_goals first
    | exact .inl ⟨rfl, q.here r _ (.bl _)⟩
    | exact .inl ⟨rfl, q.here r _ (by rw [show ∀ i j : Str, decide (V.str i = V.str j) = decide (i = j) from fun _ _ => by simp]; exact .bl _)⟩
    | exact .inl ⟨rfl, q.here r _ (by rw [show ∀ i j : Int, decide (V.int i = V.int j) = decide (i = j) from fun _ _ => by simp]; exact .bl _)⟩
    | exact .inl ⟨rfl, q.here r _ (by rw [show ∀ i j : Bool, decide (V.bl i = V.bl j) = decide (i = j) from fun _ _ => by simp]; exact .bl _)⟩
theorem opm_ne : OpM X g W (rNeX X.K) neM := by
  intro α σ H ρ S x y v u Q r dx dy q
  cases dx <;> cases dy <;> first
    | exact opm_nev r (by first | exact .non | exact .bl _ | exact .int _ | exact .str _ | exact .tup ‹_› ‹_› | exact .rol ‹_› ‹_› | exact .cell ‹_›) (by first | exact .non | exact .bl _ | exact .int _ | exact .str _ | exact .tup ‹_› ‹_› | exact .rol ‹_› ‹_› | exact .cell ‹_›) q
    | skip
  all_goals first
    | exact .inl ⟨rfl, q.here r _ (.bl _)⟩
    | exact .inl ⟨rfl, q.here r _ (by rw [show ∀ i j : Str, decide (V.str i = V.str j) = decide (i = j) from fun _ _ => by simp]; exact .bl _)⟩
    | exact .inl ⟨rfl, q.here r _ (by rw [show ∀ i j : Int, decide (V.int i = V.int j) = decide (i = j) from fun _ _ => by simp]; exact .bl _)⟩
    | exact .inl ⟨rfl, q.here r _ (by rw [show ∀ i j : Bool, decide (V.bl i = V.bl j) = decide (i = j) from fun _ _ => by simp]; exact .bl _)⟩
/-- a comparison as a value -/
theorem re_cmp {op : CmpOp} {r : R2} {f : PV → PV → Sto → Rs PV} (o : OpR X (compareOp op) r) (h : OpM X g W r f) (hm : behindInMarks op b = false) (ha : RE X g W a ma) (hb : RE X g W b mb) : RE X g W (.Compare a [op] [b] pos) (m2 f ma mb) :=
  pe_le (pe_cmpR o ha hb hm) (m2_le (fun _ _ _ h => h) (fun _ _ _ h => h) h)
/-- a value's bool as a test's answer -/
def mTst (m : ME) : MT := fun ρ S => (m ρ S).bind fun x S1 => match x with
  | .bl b => .ok b S1
  | _ => .bad
theorem tst_le {t : TE} (h : ∀ σ H Q, tM X.K g W ma σ H Q → t σ H Q) : ∀ σ H Q, tMT X.K g W (mTst ma) σ H Q → tTest t σ H Q := by
  intro σ H Q ⟨α, ρ, S, r, q⟩
  refine h _ _ _ ⟨α, ρ, S, r, q.of_bind.imp fun α1 H1 x S1 p1 k1 r1 q1 v dv => ?_⟩
  cases dv <;> first | exact (q1 r1).elim | skip
  case bl b => exact ⟨b, rfl, (q1 r1).here r1⟩
theorem rt_cmp {op : CmpOp} {r : R2} {f : PV → PV → Sto → Rs PV} (o : OpR X (compareOp op) r) (h : OpM X g W r f) (hm : behindInMarks op b = false) (ha : RE X g W a ma) (hb : RE X g W b mb) : RT X g W (.Compare a [op] [b] pos) (mTst (m2 f ma mb)) :=
  pt_le (pt_cmpR o ha hb hm) (tst_le (m2_le (fun _ _ _ h => h) (fun _ _ _ h => h) h))
/-- a < b < c -/
def mCh (f f' : PV → PV → Sto → Rs PV) (ma mb mc : ME) : ME := fun ρ S => (ma ρ S).bind fun x S1 => (mb ρ S1).bind fun y S2 => (f x y S2).bind fun z S3 => match z with
  | .bl true => (mc ρ S3).bind fun w S4 => f' y w S4
  | .bl false => .ok (.bl false) S3
  | _ => .bad
theorem ch_le {r r' : R2} {f f' : PV → PV → Sto → Rs PV} {ta tb tc : TE} (h : OpM X g W r f) (h' : OpM X g W r' f') (ha : ∀ σ H Q, tM X.K g W ma σ H Q → ta σ H Q) (hb : ∀ σ H Q, tM X.K g W mb σ H Q → tb σ H Q) (hc : ∀ σ H Q, tM X.K g W mc σ H Q → tc σ H Q) :
    ∀ σ H Q, tM X.K g W (mCh f f' ma mb mc) σ H Q → tChain r r' ta tb tc σ H Q := by
  intro σ H Q ⟨α, ρ, S, rl, q⟩
  refine ha _ _ _ ⟨α, ρ, S, rl, q.of_bind.imp fun α1 H1 x S1 p1 k1 r1 q1 v dv => ?_⟩
  refine hb _ _ _ ⟨α1, ρ, S1, r1, (q1 r1).of_bind.imp fun α2 H2 y S2 p2 k2 r2 q2 u du => ?_⟩
  refine h _ _ _ _ _ _ _ _ _ _ r2 (dv.mono p2 k2) du ((q2 r2).of_bind.imp fun α3 H3 z S3 p3 k3 r3 q3 w dw => ?_)
  cases dw <;> first | exact (q3 r3).elim | skip
  case bl b =>
    refine ⟨b, rfl, ?_⟩
    cases b with
    | false =>
      rw [if_neg Bool.false_ne_true]
      exact (q3 r3).here r3 _ (.bl _)
    | true =>
      rw [if_pos rfl]
      refine hc _ _ _ ⟨α3, ρ, S3, r3, (q3 r3).of_bind.imp fun α4 H4 w S4 p4 k4 r4 q4 s ds => ?_⟩
      exact h' _ _ _ _ _ _ _ _ _ _ r4 ((du.mono p3 k3).mono p4 k4) ds (q4 r4)
theorem re_ch {op op' : CmpOp} {r r' : R2} {f f' : PV → PV → Sto → Rs PV} (o : OpR X (compareOp op) r) (o' : OpR X (compareOp op') r') (h : OpM X g W r f) (h' : OpM X g W r' f') (ha : RE X g W a ma) (hb : RE X g W b mb) (hc : RE X g W c mc)
    (hm : lastMarks [op, op'] [b, c] = false) : RE X g W (.Compare a [op, op'] [b, c] pos) (mCh f f' ma mb mc) :=
  pe_le (pe_chain o o' ha hb hc hm) (ch_le h h' (fun _ _ _ h => h) (fun _ _ _ h => h) (fun _ _ _ h => h))
theorem rt_ch {op op' : CmpOp} {r r' : R2} {f f' : PV → PV → Sto → Rs PV} (o : OpR X (compareOp op) r) (o' : OpR X (compareOp op') r') (h : OpM X g W r f) (h' : OpM X g W r' f') (ha : RE X g W a ma) (hb : RE X g W b mb) (hc : RE X g W c mc)
    (hm : lastMarks [op, op'] [b, c] = false) : RT X g W (.Compare a [op, op'] [b, c] pos) (mTst (mCh f f' ma mb mc)) :=
  pt_le (pt_chain o o' ha hb hc hm) (tst_le (ch_le h h' (fun _ _ _ h => h) (fun _ _ _ h => h) (fun _ _ _ h => h)))

/-! ### is None; is True, is False -/
def mIsN (neg : Bool) (ma : ME) : ME := fun ρ S => (ma ρ S).bind fun x S1 => .ok (.bl (if neg then !isNM x else isNM x)) S1
theorem isN_eq {K : PySem.W.Frag} {α : List Addr} {H : Hp} {x : PV} {v : V} (d : Den K α H x v) : decide (v = .non) = isNM x := by
  cases d <;> rfl
theorem re_isN {j} (ha : RE X g W a ma) : RE X g W (.Compare a [.Is] [.Constant .none j p] pos) (mIsN false ma) := by
  refine pe_le (pe_cmp (pc_isN ha)) fun σ H Q ⟨α, ρ, S, r, q⟩ => ?_
  refine ⟨α, ρ, S, r, q.of_bind.imp fun α1 H1 x S1 p1 k1 r1 q1 v dv => ?_⟩
  show Q (.bl (decide (v = .non))) H1
  rw [isN_eq dv]
  exact (q1 r1).here r1 _ (.bl _)
theorem re_notN {j} (ha : RE X g W a ma) : RE X g W (.Compare a [.IsNot] [.Constant .none j p] pos) (mIsN true ma) := by
  refine pe_le (pe_cmp (pc_notN ha)) fun σ H Q ⟨α, ρ, S, r, q⟩ => ?_
  refine ⟨α, ρ, S, r, q.of_bind.imp fun α1 H1 x S1 p1 k1 r1 q1 v dv => ?_⟩
  show Q (.bl (!decide (v = .non))) H1
  rw [isN_eq dv]
  exact (q1 r1).here r1 _ (.bl _)
theorem tb_le {t : TE} (h : ∀ σ H Q, tM X.K g W ma σ H Q → t σ H Q) : ∀ σ H Q, tMT X.K g W (mTst ma) σ H Q → tB t σ H Q := tst_le h
theorem rt_isN {j} (ha : RE X g W a ma) : RT X g W (.Compare a [.Is] [.Constant .none j p] pos) (mTst (mIsN false ma)) := by
  refine pt_le (pt_cmp (pc_isN ha)) (tst_le (ma := mIsN false ma) fun σ H Q ⟨α, ρ, S, r, q⟩ => ?_)
  refine ⟨α, ρ, S, r, q.of_bind.imp fun α1 H1 x S1 p1 k1 r1 q1 v dv => ?_⟩
  show Q (.bl (decide (v = .non))) H1
  rw [isN_eq dv]
  exact (q1 r1).here r1 _ (.bl _)
theorem rt_notN {j} (ha : RE X g W a ma) : RT X g W (.Compare a [.IsNot] [.Constant .none j p] pos) (mTst (mIsN true ma)) := by
  refine pt_le (pt_cmp (pc_notN ha)) (tst_le (ma := mIsN true ma) fun σ H Q ⟨α, ρ, S, r, q⟩ => ?_)
  refine ⟨α, ρ, S, r, q.of_bind.imp fun α1 H1 x S1 p1 k1 r1 q1 v dv => ?_⟩
  show Q (.bl (!decide (v = .non))) H1
  rw [isN_eq dv]
  exact (q1 r1).here r1 _ (.bl _)

/-! ### truth -/
def truthM : PV → Sto → Option Bool
  | .non, _ => some false
  | .bl b, _ => some b
  | .int i, _ => some (i != 0)
  | .str x, _ => if x.length ≤ sizeLine then some ((x.length : Int) != 0) else none
  | .tup xs, _ => some (!xs.isEmpty)
  | .rol xs, _ => some (!xs.isEmpty)
  | .cell n, S => match S[n]? with
    | some (.lst xs) => some (!xs.isEmpty)
    | some (.dk kvs) => some (!kvs.isEmpty)
    | _ => none
def mTru (m : ME) : MT := fun ρ S => (m ρ S).bind fun x S1 => match truthM x S1 with
  | some b => .ok b S1
  | none => .bad
theorem Dens.isEmpty {K : PySem.W.Frag} {α : List Addr} {H : Hp} {xs : List PV} {vs : List V} (d : Dens K α H xs vs) : xs.isEmpty = vs.isEmpty := by
  cases d <;> rfl
theorem tru_of {K : PySem.W.Frag} {α : List Addr} {H : Hp} {S : Sto} (r : RlC K g α H S) {x : PV} {v : V} {b : Bool} (d : Den K α H x v) (e : truthM x S = some b) : TruV K v H b := by
  cases d with
  | non => simp [truthM] at e; exact e
  | bl c => simp [truthM] at e; exact e.symm
  | int c => simp [truthM] at e; exact e.symm
  | str c =>
    simp only [truthM] at e
    split at e
    · cases e; exact ⟨‹_›, rfl⟩
    · cases e
  | tup h d => simp only [truthM, Option.some.injEq] at e; exact .inr (.inl ⟨_, h, by rw [← d.isEmpty]; exact e.symm⟩)
  | rol h d => simp only [truthM, Option.some.injEq] at e; exact .inl ⟨_, h.sq, by rw [← d.isEmpty]; exact e.symm⟩
  | cell h =>
    simp only [truthM] at e
    split at e
    · rename_i xs e0
      obtain ⟨vs, hv, d⟩ := r.at h e0
      cases e
      exact .inl ⟨vs, SqL.of hv, by rw [d.isEmpty]⟩
    · rename_i kvs e0
      obtain ⟨ks, hv, ek, d⟩ := r.at h e0
      cases e
      refine .inr (.inr ⟨ks, hv, ?_⟩)
      have := congrArg List.isEmpty ek
      simp at this
      rw [this]
    · cases e
theorem rt_val (ha : RE X g W a ma) (he : ∀ whole, isTrue a X.env whole = (do let v ← whole; standAt a.pos; holding [v] (truthy v))) : RT X g W a (mTru ma) := by
  refine pt_le (pt_truth ha he) fun σ H Q ⟨α, ρ, S, r, q⟩ => ?_
  refine ⟨α, ρ, S, r, q.of_bind.imp fun α1 H1 x S1 p1 k1 r1 q1 v dv => ?_⟩
  replace q1 := q1 r1
  split at q1
  · rename_i b e
    exact ⟨b, tru_of r1.obj dv e, q1.here r1⟩
  · exact q1.elim

/-! ### and, or, not, if-else -/
def mAndT (a b : MT) : MT := fun ρ S => (a ρ S).bind fun x S1 => if x = true then b ρ S1 else .ok false S1
def mOrT (a b : MT) : MT := fun ρ S => (a ρ S).bind fun x S1 => if x = true then .ok true S1 else b ρ S1
def mNotT (a : MT) : MT := fun ρ S => (a ρ S).bind fun x S1 => .ok (!x) S1
variable {ta tb : MT} {rest : List Expr}
theorem rw_and1 (h : RT X g W a ta) : RW X g W (.BoolOp .And [a] pos) ta := pw_and1 h
theorem rw_or1 (h : RT X g W a ta) : RW X g W (.BoolOp .Or [a] pos) ta := pw_or1 h
theorem rw_and (ha : RT X g W a ta) (hb : RW X g W (.BoolOp .And (b :: rest) pos) tb) : RW X g W (.BoolOp .And (a :: b :: rest) pos) (mAndT ta tb) := by
  refine pw_le (pw_and ha hb) fun σ H Q ⟨α, ρ, S, r, q⟩ => ?_
  refine ⟨α, ρ, S, r, q.of_bind.imp fun α1 H1 x S1 p1 k1 r1 q1 => ?_⟩
  replace q1 := q1 r1
  cases x with
  | true => rw [if_pos rfl] at q1; show ite _ _ _; rw [if_pos rfl]; exact ⟨α1, ρ, S1, r1, q1⟩
  | false => rw [if_neg Bool.false_ne_true] at q1; show ite _ _ _; rw [if_neg Bool.false_ne_true]; exact q1.here r1
theorem rw_or (ha : RT X g W a ta) (hb : RW X g W (.BoolOp .Or (b :: rest) pos) tb) : RW X g W (.BoolOp .Or (a :: b :: rest) pos) (mOrT ta tb) := by
  refine pw_le (pw_or ha hb) fun σ H Q ⟨α, ρ, S, r, q⟩ => ?_
  refine ⟨α, ρ, S, r, q.of_bind.imp fun α1 H1 x S1 p1 k1 r1 q1 => ?_⟩
  replace q1 := q1 r1
  cases x with
  | true => rw [if_pos rfl] at q1; show ite _ _ _; rw [if_pos rfl]; exact q1.here r1
  | false => rw [if_neg Bool.false_ne_true] at q1; show ite _ _ _; rw [if_neg Bool.false_ne_true]; exact ⟨α1, ρ, S1, r1, q1⟩
theorem rt_not (h : RT X g W a ta) : RT X g W (.UnaryOp .Not a pos) (mNotT ta) := by
  refine pt_le (pt_not h) fun σ H Q ⟨α, ρ, S, r, q⟩ => ?_
  exact ⟨α, ρ, S, r, q.of_bind.imp fun α1 H1 x S1 p1 k1 r1 q1 => (q1 r1).here r1⟩
theorem rt_of (h : RW X g W a ta) : RT X g W a ta := PW.pt h
/-- as values; the left ones are bools -/
def mAndV (a b : ME) : ME := fun ρ S => (a ρ S).bind fun x S1 => match x with
  | .bl true => b ρ S1
  | .bl false => .ok (.bl false) S1
  | _ => .bad
def mOrV (a b : ME) : ME := fun ρ S => (a ρ S).bind fun x S1 => match x with
  | .bl true => .ok (.bl true) S1
  | .bl false => b ρ S1
  | _ => .bad
def mNotV (a : ME) : ME := fun ρ S => (a ρ S).bind fun x S1 => match x with
  | .bl b => .ok (.bl (!b)) S1
  | _ => .bad
theorem re_one {op} (h : RE X g W a ma) : RE X g W (.BoolOp op [a] pos) ma := pe_one h
theorem re_and (ha : RE X g W a ma) (hb : RE X g W (.BoolOp .And (b :: rest) pos) mb) : RE X g W (.BoolOp .And (a :: b :: rest) pos) (mAndV ma mb) := by
  refine pe_le (pe_and ha hb) fun σ H Q ⟨α, ρ, S, r, q⟩ => ?_
  refine ⟨α, ρ, S, r, q.of_bind.imp fun α1 H1 x S1 p1 k1 r1 q1 v dv => ?_⟩
  replace q1 := q1 r1
  cases dv <;> first | exact q1.elim | skip
  case bl c =>
    refine ⟨c, rfl, ?_⟩
    cases c with
    | true => rw [if_pos rfl]; exact ⟨α1, ρ, S1, r1, q1⟩
    | false => rw [if_neg Bool.false_ne_true]; exact q1.here r1 _ (.bl _)
theorem re_or (ha : RE X g W a ma) (hb : RE X g W (.BoolOp .Or (b :: rest) pos) mb) : RE X g W (.BoolOp .Or (a :: b :: rest) pos) (mOrV ma mb) := by
  refine pe_le (pe_or ha hb) fun σ H Q ⟨α, ρ, S, r, q⟩ => ?_
  refine ⟨α, ρ, S, r, q.of_bind.imp fun α1 H1 x S1 p1 k1 r1 q1 v dv => ?_⟩
  replace q1 := q1 r1
  cases dv <;> first | exact q1.elim | skip
  case bl c =>
    refine ⟨c, rfl, ?_⟩
    cases c with
    | true => rw [if_pos rfl]; exact q1.here r1 _ (.bl _)
    | false => rw [if_neg Bool.false_ne_true]; exact ⟨α1, ρ, S1, r1, q1⟩
theorem re_not (ha : RE X g W a ma) : RE X g W (.UnaryOp .Not a pos) (mNotV ma) := by
  refine pe_le (pe_not ha) fun σ H Q ⟨α, ρ, S, r, q⟩ => ?_
  refine ⟨α, ρ, S, r, q.of_bind.imp fun α1 H1 x S1 p1 k1 r1 q1 v dv => ?_⟩
  replace q1 := q1 r1
  cases dv <;> first | exact q1.elim | skip
  case bl c => exact ⟨c, rfl, q1.here r1 _ (.bl _)⟩
def mIfE (t : MT) (a b : ME) : ME := fun ρ S => (t ρ S).bind fun x S1 => if x = true then a ρ S1 else b ρ S1
theorem re_if (hc : RT X g W c ta) (ha : RE X g W a ma) (hb : RE X g W b mb) : RE X g W (.IfExp c a b pos) (mIfE ta ma mb) := by
  refine pe_le (pe_ifExp hc ha hb) fun σ H Q ⟨α, ρ, S, r, q⟩ => ?_
  refine ⟨α, ρ, S, r, q.of_bind.imp fun α1 H1 x S1 p1 k1 r1 q1 => ?_⟩
  replace q1 := q1 r1
  cases x with
  | true => rw [if_pos rfl] at q1; show ite _ _ _; rw [if_pos rfl]; exact ⟨α1, ρ, S1, r1, q1⟩
  | false => rw [if_neg Bool.false_ne_true] at q1; show ite _ _ _; rw [if_neg Bool.false_ne_true]; exact ⟨α1, ρ, S1, r1, q1⟩
def negM : PV → Rs Int
  | .int i => .ok i []
  | _ => .bad
def mNeg (a : ME) : ME := fun ρ S => (a ρ S).bind fun x S1 => match x with
  | .int i => .ok (.int (-i)) S1
  | _ => .bad
theorem re_neg (ha : RE X g W a ma) : RE X g W (.UnaryOp .USub a pos) (mNeg ma) := by
  refine pe_le (pe_un un_neg ha) fun σ H Q ⟨α, ρ, S, r, q⟩ => ?_
  refine ⟨α, ρ, S, r, q.of_bind.imp fun α1 H1 x S1 p1 k1 r1 q1 v dv => ?_⟩
  replace q1 := q1 r1
  cases dv <;> first | exact q1.elim | skip
  case int c => exact ⟨c, rfl, q1.here r1 _ (.int _)⟩
end
end Pm
namespace Pm
open PySem L2
/-! ### argument lists, displays -/
def mNil : MA := fun _ S => .ok [] S
def mCons (e : ME) (es : MA) : MA := fun ρ S => (e ρ S).bind fun x S1 => (es ρ S1).bind fun xs S2 => .ok (x :: xs) S2
def mTup (es : MA) : ME := fun ρ S => (es ρ S).bind fun xs S1 => .ok (.tup xs) S1
def mLst (es : MA) : ME := fun ρ S => (es ρ S).bind fun xs S1 => .ok (.cell S1.length) (S1 ++ [.lst xs])
section
variable {X : Cx} {g : Sg} {W : WX} {a b c e : Expr} {es : List Expr} {m ma mb mc : ME} {ms : MA} {pos p : Pos}
theorem ra_nil : RA X g W [] mNil := pa_le pa_nil fun σ H Q ⟨α, ρ, S, r, q⟩ => (Post.here q r) [] .nil
theorem ra_cons (ha : RE X g W e m) (hr : RA X g W es ms) (hs : starEach (e :: es) X.env = (false, eval e X.env) :: starEach es X.env := by rfl) : RA X g W (e :: es) (mCons m ms) := by
  refine pa_le (pa_cons ha hr hs) fun σ H Q ⟨α, ρ, S, r, q⟩ => ?_
  refine ⟨α, ρ, S, r, q.of_bind.imp fun α1 H1 x S1 p1 k1 r1 q1 v dv => ?_⟩
  refine ⟨α1, ρ, S1, r1, (q1 r1).of_bind.imp fun α2 H2 xs S2 p2 k2 r2 q2 vs dvs => ?_⟩
  exact (q2 r2).here r2 _ (.cons (dv.mono p2 k2) dvs)
theorem re_tup {x1} (h : RA X g W es ms) (hz : es.length ≤ 1000) (hl : ∀ ρ S xs S', ms ρ S = .ok xs S' → xs.length = es.length) : RE X g W (.Tuple es x1 pos) (mTup ms) := by
  refine pe_le (pe_tup h) fun σ H Q ⟨α, ρ, S, r, q⟩ => ?_
  refine ⟨α, ρ, S, r, ?_⟩
  have hl := hl ρ S
  unfold mTup at q
  revert q hl
  cases ms ρ S with
  | ok xs S1 =>
    intro q hl α1 H1 p1 k1 r1 vs dvs
    refine ⟨?_, fun p hp => ?_⟩
    · rw [← dvs.length, hl xs S1 rfl]
      exact Nat.le_trans hz (by decide)
    · exact fin_tup r1 hp dvs (Post.mono p1 k1 q)
  | er c fs S1 => intro q _; exact q
  | bad => intro q _; exact q
theorem re_lst (h : RA X g W es ms) (hz : es.length ≤ 1000) (hl : ∀ ρ S xs S', ms ρ S = .ok xs S' → xs.length = es.length) : RE X g W (.List es pos) (mLst ms) := by
  refine pe_le (pe_lst h) fun σ H Q ⟨α, ρ, S, r, q⟩ => ?_
  refine ⟨α, ρ, S, r, ?_⟩
  have hl := hl ρ S
  unfold mLst at q
  revert q hl
  cases ms ρ S with
  | ok xs S1 =>
    intro q hl α1 H1 p1 k1 r1 vs dvs
    refine ⟨?_, fun p hp => ?_⟩
    · rw [← dvs.length, hl xs S1 rfl]
      exact Nat.le_trans hz (by decide)
    · exact fin_lst r1 hp dvs (Post.mono p1 k1 q)
  | er c fs S1 => intro q _; exact q
  | bad => intro q _; exact q
theorem len_nil : ∀ ρ S xs S', mNil ρ S = .ok xs S' → xs.length = 0 := fun ρ S xs S' e => by cases e; rfl
theorem len_cons {m : ME} {ms : MA} {n : Nat} (h : ∀ ρ S xs S', ms ρ S = .ok xs S' → xs.length = n) : ∀ ρ S xs S', mCons m ms ρ S = .ok xs S' → xs.length = n + 1 := fun ρ S xs S' e => by
  unfold mCons at e
  cases e1 : m ρ S with
  | ok x S1 =>
    rw [e1] at e
    cases e2 : ms ρ S1 with
    | ok ys S2 =>
      simp only [bind_ok, e2] at e
      cases e
      simp [h _ _ _ _ e2]
    | er c fs S2 => simp only [bind_ok, e2, bind_er] at e; cases e
    | bad => simp only [bind_ok, e2, bind_bad] at e; cases e
  | er c fs S1 => rw [e1] at e; cases e
  | bad => rw [e1] at e; cases e

/-! ### places -/
/-- the place an index means -/
def atP (xs : List PV) (i : Int) : Option PV := (ixN xs.length i).bind fun j => xs[j]?
def ixM : PV → PV → Sto → Rs PV
  | .tup xs, .int i, S => match atP xs i with
    | some x => .ok x S
    | none => .bad
  | .rol xs, .int i, S => match atP xs i with
    | some x => .ok x S
    | none => .bad
  | .cell n, .int i, S => match S[n]? with
    | some (.lst xs) => match atP xs i with
      | some x => .ok x S
      | none => .bad
    | _ => .bad
  | .str z, .int i, S => if z.length ≤ sizeLine then match (ixN z.cps.toList.length i).bind fun j => z.cps.toList[j]? with
    | some c => .ok (.str ⟨#[c]⟩) S
    | none => .bad
    else .bad
  | _, _, _ => .bad
theorem atP_of {K : PySem.W.Frag} {α : List Addr} {H : Hp} {xs : List PV} {vs : List V} {i : Int} {x : PV} (d : Dens K α H xs vs) (e : atP xs i = some x) : ∃ v, atI vs i = some v ∧ Den K α H x v := by
  unfold atP at e
  rw [d.length] at e
  obtain ⟨j, h1, h2⟩ := Option.bind_eq_some_iff.mp e
  obtain ⟨v, hv, dv⟩ := d.get h2
  exact ⟨v, Option.bind_eq_some_iff.mpr ⟨j, h1, hv⟩, dv⟩
theorem opm_ix : OpM X g W (rIx X.K) ixM := by
  intro α σ H ρ S x y v u Q r dx dy q
  cases dx <;> cases dy <;> first | exact False.elim q | skip
  case str.int z i =>
    simp only [ixM] at q
    split at q
    · rename_i hz
      split at q
      · rename_i c e
        exact .inr (.inr ⟨z, i, c, rfl, rfl, hz, e, q.here r _ (.str _)⟩)
      · exact q.elim
    · exact q.elim
  case tup.int xs vs a h d i =>
    simp only [ixM] at q
    split at q
    · rename_i w e
      obtain ⟨t, h1, h2⟩ := atP_of d e
      exact .inr (.inl ⟨a, vs, i, t, rfl, rfl, h, h1, q.here r _ h2⟩)
    · exact q.elim
  case rol.int xs vs a h d i =>
    simp only [ixM] at q
    split at q
    · rename_i w e
      obtain ⟨t, h1, h2⟩ := atP_of d e
      exact .inl ⟨a, vs, i, t, rfl, rfl, h.sq, h1, q.here r _ h2⟩
    · exact q.elim
  case cell.int n a h i =>
    simp only [ixM] at q
    split at q
    · rename_i xs e0
      split at q
      · rename_i w e
        obtain ⟨vs, hv, d⟩ := r.obj.at h e0
        obtain ⟨t, h1, h2⟩ := atP_of d e
        exact .inl ⟨a, vs, i, t, rfl, rfl, SqL.of hv, h1, q.here r _ h2⟩
      · exact q.elim
    · exact q.elim
theorem re_ix (ha : RE X g W a ma) (hb : RE X g W b mb) (hs : PlainIx b) : RE X g W (.Subscript a b pos) (m2 ixM ma mb) :=
  pe_le (pe_ix ix_seq ha hb hs) (m2_le (fun _ _ _ h => h) (fun _ _ _ h => h) opm_ix)

/-! ### slices -/
def tMO (K : PySem.W.Frag) (g : Sg) (W : WX) (m : PSt → Sto → Rs (Option Int)) : TO := fun σ H Q => ∃ α ρ S, Rl K g α σ H ρ S ∧ Post K g W α σ H ρ (fun _ H' o _ => Q o H') (m ρ S)
def RO (X : Cx) (g : Sg) (W : WX) (e : Option Expr) (m : PSt → Sto → Rs (Option Int)) : Prop := PO X e (tMO X.K g W m)
theorem po_le {X : Cx} {e : Option Expr} {t t' : TO} (h : PO X e t) (i : ∀ σ H Q, t' σ H Q → t σ H Q) : PO X e t' := ⟨fun pins s σ H Q I q => h.run pins s σ H Q I (i _ _ _ q)⟩
def mNoP : PSt → Sto → Rs (Option Int) := fun _ S => .ok none S
def mPart (e : ME) : PSt → Sto → Rs (Option Int) := fun ρ S => (e ρ S).bind fun x S1 => match x with
  | .int i => .ok (some i) S1
  | _ => .bad
theorem ro_none : RO X g W none mNoP := po_le po_none fun σ H Q ⟨α, ρ, S, r, q⟩ => Post.here q r
theorem ro_some (h : RE X g W e m) : RO X g W (some e) (mPart m) := by
  refine po_le (po_some h) fun σ H Q ⟨α, ρ, S, r, q⟩ => ?_
  refine ⟨α, ρ, S, r, q.of_bind.imp fun α1 H1 x S1 p1 k1 r1 q1 v dv => ?_⟩
  replace q1 := q1 r1
  cases dv <;> first | exact q1.elim | skip
  case int i => exact ⟨i, rfl, q1.here r1⟩
def cutP (xs : List PV) (lo hi : Option Int) : List PV := (xs.drop (HT.sIx xs.length 0 lo)).take (HT.sIx xs.length xs.length hi - HT.sIx xs.length 0 lo)
theorem cutP_den {K : PySem.W.Frag} {α : List Addr} {H : Hp} {xs : List PV} {vs : List V} (d : Dens K α H xs vs) (lo hi : Option Int) : Dens K α H (cutP xs lo hi) (cutV vs lo hi) := by
  unfold cutP cutV
  rw [d.length]
  exact (d.drop _).take _
theorem cut_all (xs : List PV) (lo hi : Option Int) (h : HT.sIx xs.length 0 lo = 0 ∧ HT.sIx xs.length xs.length hi = xs.length) : cutP xs lo hi = xs := by
  unfold cutP
  rw [h.1, h.2]
  simp
def slM (x : PV) (lo hi : Option Int) (S : Sto) : Rs PV :=
  match x with
  | .tup xs => .ok (.tup (cutP xs lo hi)) S
  | .rol xs => .ok (.cell S.length) (S ++ [.lst (cutP xs lo hi)])
  | .cell n => match S[n]? with
    | some (.lst xs) => .ok (.cell S.length) (S ++ [.lst (cutP xs lo hi)])
    | _ => .bad
  | .str z => if z.length ≤ sizeLine then .ok (.str (Txt.slice z lo hi)) S else .bad
  | _ => .bad
def mSl (m : ME) (lo hi : PSt → Sto → Rs (Option Int)) : ME := fun ρ S => (m ρ S).bind fun x S1 => (lo ρ S1).bind fun l S2 => (hi ρ S2).bind fun h S3 => slM x l h S3
theorem re_sl {lo hi : Option Expr} {tl th : PSt → Sto → Rs (Option Int)} {p2 : Pos} (he : RE X g W e m) (hl : RO X g W lo tl) (hu : RO X g W hi th) : RE X g W (.Subscript e (.Slice lo hi none p2) pos) (mSl m tl th) := by
  refine pe_le (pe_slice (sl_tupA.or (sl_list.or C8.sl_txt)) he hl hu) fun σ H Q ⟨α, ρ, S, r, q⟩ => ?_
  refine ⟨α, ρ, S, r, q.of_bind.imp fun α1 H1 x S1 p1 k1 r1 q1 v dv => ?_⟩
  refine ⟨α1, ρ, S1, r1, (q1 r1).of_bind.imp fun α2 H2 l S2 p2 k2 r2 q2 => ?_⟩
  refine ⟨α2, ρ, S2, r2, (q2 r2).of_bind.imp fun α3 H3 h S3 p3 k3 r3 q3 => ?_⟩
  replace q3 := q3 r3
  have dv3 := dv.mono (p2.trans p3) (k2.trans k3)
  cases dv3 <;> first | exact q3.elim | skip
  case str z =>
    simp only [slM] at q3
    split at q3
    · rename_i hz
      exact .inr (.inr ⟨z, rfl, hz, q3.here r3 _ (.str _)⟩)
    · exact q3.elim
  case tup xs vs a h0 d =>
    refine .inl ⟨a, vs, rfl, h0, fun hw => ?_, fun _ p hp => fin_tup r3 hp (cutP_den d l h) q3⟩
    rw [← d.length] at hw
    simp only [slM] at q3
    rw [cut_all xs l h hw] at q3
    exact q3.here r3 _ (.tup h0 d)
  case rol xs vs a h0 d => exact .inr (.inl ⟨a, vs, rfl, h0.sq, fun p hp => fin_lst r3 hp (cutP_den d l h) q3⟩)
  case cell n a h0 =>
    simp only [slM] at q3
    split at q3
    · rename_i xs e0
      obtain ⟨vs, hv, d⟩ := r3.obj.at h0 e0
      exact .inr (.inl ⟨a, vs, rfl, SqL.of hv, fun p hp => fin_lst r3 hp (cutP_den d l h) q3⟩)
    · exact q3.elim

/-! ### calls of what is built in -/
/-- a call by values, told by f -/
def CaM (X : Cx) (g : Sg) (W : WX) (r : List V → Hp → VK → Prop) (f : MF) : Prop :=
  ∀ α σ H ρ S xs vs Q, Rl X.K g α σ H ρ S → Dens X.K α H xs vs → Post X.K g W α σ H ρ (fun α' H' z _ => ∀ w, Den X.K α' H' z w → Q w H') (f xs S) → r vs H Q
def mCall (f : MF) (es : MA) : ME := fun ρ S => (es ρ S).bind f
theorem re_cb {r : List V → Hp → VK → Prop} {f : MF} {ca : Expr} (h : ∀ {t : TA}, PA X es t → PE X ca (tCB r t)) (cm : CaM X g W r f) (ha : RA X g W es ms) : RE X g W ca (mCall f ms) := by
  refine pe_le (h ha) fun σ H Q ⟨α, ρ, S, r, q⟩ => ?_
  exact ⟨α, ρ, S, r, q.of_bind.imp fun α1 H1 xs S1 p1 k1 r1 q1 vs dvs => cm _ _ _ _ _ _ _ _ r1 dvs (q1 r1)⟩
def lenM : MF
  | [.tup xs], S => .ok (.int xs.length) S
  | [.rol xs], S => .ok (.int xs.length) S
  | [.str z], S => if z.length ≤ sizeLine then .ok (.int z.length) S else .bad
  | [.cell n], S => match S[n]? with
    | some (.lst xs) => .ok (.int xs.length) S
    | some (.dk kvs) => .ok (.int kvs.length) S
    | _ => .bad
  | _, _ => .bad
def rLen (K : PySem.W.Frag) : List V → Hp → VK → Prop := fun xs H Q => (∃ p ys, xs = [.ref p] ∧ (SqL K H p ys ∨ SqT K H p ys) ∧ Q (.int ys.length) H) ∨ (∃ z, xs = [.str z] ∧ z.length ≤ sizeLine ∧ Q (.int z.length) H) ∨ ∃ a kvs, xs = [.ref a] ∧ H a = some (.dK kvs) ∧ Q (.int kvs.length) H
theorem call_len : CallR X (.builtin "len") (rLen X.K) := call_len_seq.or (call_len_str.or call_lenD)
theorem Dens.one {K : PySem.W.Frag} {α : List Addr} {H : Hp} {x : PV} {vs : List V} (d : Dens K α H [x] vs) : ∃ v, vs = [v] ∧ Den K α H x v := by
  cases d with
  | cons a b => cases b; exact ⟨_, rfl, a⟩
theorem Dens.two {K : PySem.W.Frag} {α : List Addr} {H : Hp} {x y : PV} {vs : List V} (d : Dens K α H [x, y] vs) : ∃ v u, vs = [v, u] ∧ Den K α H x v ∧ Den K α H y u := by
  cases d with
  | cons a b => obtain ⟨u, rfl, hu⟩ := b.one; exact ⟨_, u, rfl, a, hu⟩
theorem cam_len : CaM X g W (rLen X.K) lenM := by
  intro α σ H ρ S xs vs Q r d q
  rcases xs with _ | ⟨x, _ | ⟨y, tl⟩⟩ <;> first | exact False.elim q | (cases x <;> first | exact False.elim q | (cases y <;> exact False.elim q)) | skip
  · obtain ⟨v, rfl, dv⟩ := d.one
    clear d
    cases dv <;> first | exact False.elim q | skip
    case str z =>
      simp only [lenM] at q
      split at q
      · rename_i hz
        exact .inr (.inl ⟨z, rfl, hz, q.here r _ (.int _)⟩)
      · exact q.elim
    case tup ys us a h d => exact .inl ⟨a, us, rfl, .inr h, by rw [← d.length]; exact q.here r _ (.int _)⟩
    case rol ys us a h d => exact .inl ⟨a, us, rfl, .inl h.sq, by rw [← d.length]; exact q.here r _ (.int _)⟩
    case cell n a h =>
      simp only [lenM] at q
      split at q
      · rename_i ys e0
        obtain ⟨us, hu, d⟩ := r.obj.at h e0
        exact .inl ⟨a, us, rfl, .inl (SqL.of hu), by rw [← d.length]; exact q.here r _ (.int _)⟩
      · rename_i ys e0
        obtain ⟨us, hu, ek, d⟩ := r.obj.at h e0
        refine .inr (.inr ⟨a, us, rfl, hu, ?_⟩)
        have := congrArg List.length ek
        simp at this
        rw [← this]
        exact q.here r _ (.int _)
      · exact q.elim
def absM : MF
  | [.int i], S => .ok (.int (if i < 0 then -i else i)) S
  | _, _ => .bad
theorem cam_abs : CaM X g W (fun xs H Q => ∃ i, xs = [.int i] ∧ Q (.int (if i < 0 then -i else i)) H) absM := by
  intro α σ H ρ S xs vs Q r d q
  rcases xs with _ | ⟨x, _ | ⟨y, tl⟩⟩ <;> first | exact False.elim q | (cases x <;> first | exact False.elim q | (cases y <;> exact False.elim q)) | skip
  · obtain ⟨v, rfl, dv⟩ := d.one
    clear d
    cases dv <;> first | exact False.elim q | skip
    case int i => exact ⟨i, rfl, q.here r _ (.int _)⟩
def intM : MF
  | [.int i], S => .ok (.int i) S
  | [.bl b], S => .ok (.int (if b then 1 else 0)) S
  | _, _ => .bad
theorem cam_int : CaM X g W (fun xs H Q => (∃ i, xs = [.int i] ∧ Q (.int i) H) ∨ ∃ k, xs = [.bl k] ∧ Q (.int (if k then 1 else 0)) H) intM := by
  intro α σ H ρ S xs vs Q r d q
  rcases xs with _ | ⟨x, _ | ⟨y, tl⟩⟩ <;> first | exact False.elim q | (cases x <;> first | exact False.elim q | (cases y <;> exact False.elim q)) | skip
  · obtain ⟨v, rfl, dv⟩ := d.one
    clear d
    cases dv <;> first | exact False.elim q | skip
    case int i => exact .inl ⟨i, rfl, q.here r _ (.int _)⟩
    case bl b => exact .inr ⟨b, rfl, q.here r _ (.int _)⟩
def listM : MF
  | [.tup xs], S => .ok (.cell S.length) (S ++ [.lst xs])
  | [.rol xs], S => .ok (.cell S.length) (S ++ [.lst xs])
  | [.cell n], S => match S[n]? with
    | some (.lst xs) => .ok (.cell S.length) (S ++ [.lst xs])
    | _ => .bad
  | _, _ => .bad
theorem cam_list : CaM X g W (fun xs H Q => ∃ p ys, xs = [.ref p] ∧ (SqL X.K H p ys ∨ SqT X.K H p ys) ∧ ∀ l, H l = none → Q (.ref l) (upd H l (.lst ys))) listM := by
  intro α σ H ρ S xs vs Q r d q
  rcases xs with _ | ⟨x, _ | ⟨y, tl⟩⟩ <;> first | exact False.elim q | (cases x <;> first | exact False.elim q | (cases y <;> exact False.elim q)) | skip
  · obtain ⟨v, rfl, dv⟩ := d.one
    clear d
    cases dv <;> first | exact False.elim q | skip
    case tup ys us a h d => exact ⟨a, us, rfl, .inr h, fun p hp => fin_lst r hp d q⟩
    case rol ys us a h d => exact ⟨a, us, rfl, .inl h.sq, fun p hp => fin_lst r hp d q⟩
    case cell n a h =>
      simp only [listM] at q
      split at q
      · rename_i ys e0
        obtain ⟨us, hu, d⟩ := r.obj.at h e0
        exact ⟨a, us, rfl, .inl (SqL.of hu), fun p hp => fin_lst r hp d q⟩
      · exact q.elim
def tupleM : MF
  | [.tup xs], S => .ok (.tup xs) S
  | [.rol xs], S => .ok (.tup xs) S
  | [.cell n], S => match S[n]? with
    | some (.lst xs) => .ok (.tup xs) S
    | _ => .bad
  | _, _ => .bad
theorem cam_tuple : CaM X g W (fun xs H Q => ∃ p ys, xs = [.ref p] ∧ ((SqL X.K H p ys ∧ ∀ l, H l = none → Q (.ref l) (upd H l (.tup ys))) ∨ (SqT X.K H p ys ∧ Q (.ref p) H))) tupleM := by
  intro α σ H ρ S xs vs Q r d q
  rcases xs with _ | ⟨x, _ | ⟨y, tl⟩⟩ <;> first | exact False.elim q | (cases x <;> first | exact False.elim q | (cases y <;> exact False.elim q)) | skip
  · obtain ⟨v, rfl, dv⟩ := d.one
    clear d
    cases dv <;> first | exact False.elim q | skip
    case tup ys us a h d => exact ⟨a, us, rfl, .inr ⟨h, q.here r _ (.tup h d)⟩⟩
    case rol ys us a h d => exact ⟨a, us, rfl, .inl ⟨h.sq, fun p hp => fin_tup r hp d q⟩⟩
    case cell n a h =>
      simp only [tupleM] at q
      split at q
      · rename_i ys e0
        obtain ⟨us, hu, d⟩ := r.obj.at h e0
        exact ⟨a, us, rfl, .inl ⟨SqL.of hu, fun p hp => fin_tup r hp d q⟩⟩
      · exact q.elim
/-- a list of ints, of bools -/
def intsOf : List PV → Option (List Int)
  | [] => some []
  | .int i :: xs => (intsOf xs).map (i :: ·)
  | _ => none
def blsOf : List PV → Option (List Bool)
  | [] => some []
  | .bl i :: xs => (blsOf xs).map (i :: ·)
  | _ => none
theorem intsOf_eq : ∀ {xs : List PV} {ns : List Int}, intsOf xs = some ns → xs = ns.map PV.int
  | [], _, e => by simp [intsOf] at e; subst e; rfl
  | .int i :: xs, _, e => by
    simp only [intsOf, Option.map_eq_some_iff] at e
    obtain ⟨ms, h, rfl⟩ := e
    rw [intsOf_eq h]; rfl
theorem blsOf_eq : ∀ {xs : List PV} {ns : List Bool}, blsOf xs = some ns → xs = ns.map PV.bl
  | [], _, e => by simp [blsOf] at e; subst e; rfl
  | .bl i :: xs, _, e => by
    simp only [blsOf, Option.map_eq_some_iff] at e
    obtain ⟨ms, h, rfl⟩ := e
    rw [blsOf_eq h]; rfl
/-- what stands in a list -/
def lsOf : PV → Sto → Option (List PV)
  | .rol xs, _ => some xs
  | .cell n, S => match S[n]? with
    | some (.lst xs) => some xs
    | _ => none
  | _, _ => none
theorem lsOf_den {K : PySem.W.Frag} {g : Sg} {α : List Addr} {H : Hp} {S : Sto} (r : RlC K g α H S) {x : PV} {v : V} {xs : List PV} (d : Den K α H x v) (e : lsOf x S = some xs) : ∃ a vs, v = .ref a ∧ SqL K H a vs ∧ Dens K α H xs vs := by
  cases d with
  | rol h d => simp [lsOf] at e; subst e; exact ⟨_, _, rfl, h.sq, d⟩
  | cell h =>
    simp only [lsOf] at e
    split at e
    · cases e
      rename_i e0
      obtain ⟨us, hu, d⟩ := r.at h e0
      exact ⟨_, us, rfl, SqL.of hu, d⟩
    · cases e
  | _ => simp [lsOf] at e
def sumM : MF
  | [x], S => match (lsOf x S).bind intsOf with
    | some ns => .ok (.int ns.sum) S
    | none => .bad
  | _, _ => .bad
def allM : MF
  | [x], S => match (lsOf x S).bind blsOf with
    | some ns => .ok (.bl (ns.all id)) S
    | none => .bad
  | _, _ => .bad
def anyM : MF
  | [x], S => match (lsOf x S).bind blsOf with
    | some ns => .ok (.bl (ns.any id)) S
    | none => .bad
  | _, _ => .bad
theorem cam_sum : CaM X g W (rSum X.K) sumM := by
  intro α σ H ρ S xs vs Q r d q
  rcases xs with _ | ⟨x, _ | ⟨y, tl⟩⟩ <;> first | exact False.elim q | (cases x <;> first | exact False.elim q | (cases y <;> exact False.elim q)) | skip
  · obtain ⟨v, rfl, dv⟩ := d.one
    clear d
    simp only [sumM] at q
    split at q
    · rename_i ns e
      obtain ⟨ys, e1, e2⟩ := Option.bind_eq_some_iff.mp e
      obtain ⟨a, us, rfl, hs, du⟩ := lsOf_den r.obj dv e1
      have ey := intsOf_eq e2
      subst ey
      have := du.ints
      subst this
      exact ⟨a, ns, rfl, hs, q.here r _ (.int _)⟩
    · exact q.elim
theorem cam_all : CaM X g W (rAll X.K) allM := by
  intro α σ H ρ S xs vs Q r d q
  rcases xs with _ | ⟨x, _ | ⟨y, tl⟩⟩ <;> first | exact False.elim q | (cases x <;> first | exact False.elim q | (cases y <;> exact False.elim q)) | skip
  · obtain ⟨v, rfl, dv⟩ := d.one
    clear d
    simp only [allM] at q
    split at q
    · rename_i ns e
      obtain ⟨ys, e1, e2⟩ := Option.bind_eq_some_iff.mp e
      obtain ⟨a, us, rfl, hs, du⟩ := lsOf_den r.obj dv e1
      have ey := blsOf_eq e2
      subst ey
      have := du.bls
      subst this
      exact ⟨a, ns, rfl, hs, q.here r _ (.bl _)⟩
    · exact q.elim
theorem cam_any : CaM X g W (rAny X.K) anyM := by
  intro α σ H ρ S xs vs Q r d q
  rcases xs with _ | ⟨x, _ | ⟨y, tl⟩⟩ <;> first | exact False.elim q | (cases x <;> first | exact False.elim q | (cases y <;> exact False.elim q)) | skip
  · obtain ⟨v, rfl, dv⟩ := d.one
    clear d
    simp only [anyM] at q
    split at q
    · rename_i ns e
      obtain ⟨ys, e1, e2⟩ := Option.bind_eq_some_iff.mp e
      obtain ⟨a, us, rfl, hs, du⟩ := lsOf_den r.obj dv e1
      have ey := blsOf_eq e2
      subst ey
      have := du.bls
      subst this
      exact ⟨a, ns, rfl, hs, q.here r _ (.bl _)⟩
    · exact q.elim
def gcdM : MF
  | [.int a, .int b], S => .ok (.int (Nat.gcd a.natAbs b.natAbs : Nat)) S
  | _, _ => .bad
theorem cam_gcd : CaM X g W rGcd gcdM := by
  intro α σ H ρ S xs vs Q r d q
  rcases xs with _ | ⟨x, _ | ⟨y, _ | ⟨z, tl⟩⟩⟩ <;> first | exact False.elim q | (cases x <;> first | exact False.elim q | (cases y <;> exact False.elim q)) | skip
  · obtain ⟨v, u, rfl, dv, du⟩ := d.two
    clear d
    cases dv <;> cases du <;> first | exact False.elim q | skip
    case int.int i j => exact ⟨i, j, rfl, q.here r _ (.int _)⟩
end

/-! ### isinstance -/
def tyP : PV → Sto → Option String
  | .non, _ => some "NoneType"
  | .bl _, _ => some "bool"
  | .int _, _ => some "int"
  | .str _, _ => some "str"
  | .tup _, _ => some "tuple"
  | .rol _, _ => some "list"
  | .cell n, S => match S[n]? with
    | some (.lst _) => some "list"
    | some (.dk _) => some "dict"
    | some (.dt _) => some "dict"
    | _ => none
def tysP : List String := ["NoneType", "bool", "int", "str", "tuple", "list", "dict"]
theorem tyP_mem {x : PV} {S : Sto} {t : String} (e : tyP x S = some t) : t ∈ tysP := by
  cases x <;> simp only [tyP] at e
  case cell n => split at e <;> first | (cases e; decide) | cases e
  all_goals (cases e; decide)
theorem tyP_of {K : PySem.W.Frag} {g : Sg} {α : List Addr} {H : Hp} {S : Sto} (r : RlC K g α H S) {x : PV} {v : V} {t : String} (d : Den K α H x v) (e : tyP x S = some t) : TyX K H v (.type t) := by
  cases d with
  | non => cases e; exact .base .non
  | bl b => cases e; exact .base (.bl b)
  | int b => cases e; exact .base (.int b)
  | str b => cases e; exact .base (.str b)
  | tup h d =>
    cases e
    rcases h with (h | ⟨o, h⟩) | ⟨o, its, n, h1, h2, _⟩
    · exact .base (.tup h)
    · exact .fTuple h
    · exact .kTuple h1 h2
  | rol h d =>
    cases e
    rcases h with ⟨o, h⟩ | ⟨o, its, n, h1, h2, _⟩
    · exact .base (.frz h)
    · exact .kList h1 h2
  | cell h =>
    simp only [tyP] at e
    split at e
    · rename_i e0
      cases e
      obtain ⟨us, hu, d⟩ := r.at h e0
      exact .base (.lst hu)
    · rename_i e0
      cases e
      obtain ⟨us, hu, d⟩ := r.at h e0
      exact .base (.dK hu)
    · rename_i e0
      cases e
      obtain ⟨us, hu, d⟩ := r.at h e0
      exact .base (.dT hu)
    · cases e
/-- isinstance(x, T), T built in -/
def isiM (T : String) (x : PV) (S : Sto) : Rs PV := match tyP x S with
  | some t => .ok (.bl (t == T || (t == "bool" && T == "int"))) S
  | none => .bad
def clsP : List String := ["int", "bool", "str", "tuple", "list", "dict"]
theorem kit_all : ∀ t ∈ tysP, ∀ T ∈ clsP, kitB t T = some (t == T || (t == "bool" && T == "int")) := by decide +kernel
def mIsi (T : String) (m : ME) : ME := fun ρ S => (m ρ S).bind fun x S1 => isiM T x S1
section
variable {X : Cx} {g : Sg} {W : WX} {e : Expr} {m : ME} {pos p p2 : Pos}
theorem re_isi {T : String} {x : Str} (hT : T ∈ clsP) (h : RE X g W e m) (hc : PE X (.Name x p2) (tC (.ty T))) (hi : ∀ {t : TA}, PA X [e, .Name x p2] t → PE X (.Call (.Name "isinstance" p) [e, .Name x p2] [] pos) (tCB (rIsi X.K) t)) (hs : starEach [e, .Name x p2] X.env = (false, eval e X.env) :: starEach [.Name x p2] X.env := by rfl) (hs2 : starEach [.Name x p2] X.env = (false, eval (.Name x p2) X.env) :: starEach [] X.env := by rfl) :
    RE X g W (.Call (.Name "isinstance" p) [e, .Name x p2] [] pos) (mIsi T m) := by
  refine pe_le (hi (pa_cons h (pa_cons hc pa_nil hs2) hs)) fun σ H Q ⟨α, ρ, S, r, q⟩ => ?_
  refine ⟨α, ρ, S, r, q.of_bind.imp fun α1 H1 x S1 p1 k1 r1 q1 v dv => ?_⟩
  replace q1 := q1 r1
  simp only [isiM] at q1
  split at q1
  · rename_i t et
    exact ⟨v, .ty T, .type t, .type T, _, rfl, .ty T, tyP_of r1.obj dv et, kit_ty (kit_all t (tyP_mem et) T hT), q1.here r1 _ (.bl _)⟩
  · exact q1.elim
end
end Pm
namespace Pm
open PySem L2
/-! ### targets -/
/-- slots are set, one after another -/
def setl {β : Type} : List (Option β) → List (Nat × β) → List (Option β)
  | ρ, [] => ρ
  | ρ, p :: r => setl (ρ.set p.1 (some p.2)) r
/-- what a target stores of a value -/
abbrev MG := PV → Sto → Option (List (Nat × PV))
abbrev MGs := List PV → Sto → Option (List (Nat × PV))
def mgName (i : Nat) : MG := fun x _ => some [(i, x)]
def mgNil : MGs := fun xs _ => match xs with
  | [] => some []
  | _ => none
def mgCons (a : MG) (b : MGs) : MGs := fun xs S => match xs with
  | x :: r => match a x S, b r S with
    | some l, some m => some (l ++ m)
    | _, _ => none
  | [] => none
def mgTup (n : Nat) (b : MGs) : MG := fun x S => match x with
  | .tup xs => if xs.length = n then b xs S else none
  | .rol xs => if xs.length = n then b xs S else none
  | .cell c => match S[c]? with
    | some (.lst xs) => if xs.length = n then b xs S else none
    | _ => none
  | _ => none
section
variable {K : PySem.W.Frag} {g : Sg} {W : WX} {α : List Addr} {σ : St} {H : Hp} {ρ : PSt} {S : Sto}
theorem setl_length {β : Type} : ∀ {l : List (Nat × β)} {ρ : List (Option β)}, (setl ρ l).length = ρ.length
  | [], _ => rfl
  | p :: r, ρ => by rw [setl, setl_length]; simp
theorem setl_append {β : Type} : ∀ {l m : List (Nat × β)} {ρ : List (Option β)}, setl ρ (l ++ m) = setl (setl ρ l) m
  | [], _, _ => rfl
  | p :: r, m, ρ => by rw [List.cons_append, setl, setl_append, setl]
/-- pairs of slots and values -/
def Sls (K : PySem.W.Frag) (α : List Addr) (H : Hp) (l : List (Nat × PV)) (m : List (Nat × V)) : Prop := l.map (·.1) = m.map (·.1) ∧ Dens K α H (l.map (·.2)) (m.map (·.2))
theorem Rl.set1 (r : Rl K g α σ H ρ S) {i : Nat} {x : PV} {v : V} (d : Den K α H x v) : Rl K g α (σ.set i (some v)) H (ρ.set i (some x)) S := by
  refine ⟨r.obj, by simp [r.len], fun j y e => ?_, ?_⟩
  by_cases h : i = j
  · subst h
    by_cases hl : i < ρ.length
    · rw [List.getElem?_set_self hl] at e
      cases e
      exact ⟨v, List.getElem?_set_self (by rw [← r.len]; exact hl), d⟩
    · rw [List.getElem?_eq_none (by simp; omega)] at e
      cases e
  · rw [List.getElem?_set_ne h] at e ⊢
    exact r.loc j y e
  · intro z e1 e2
    by_cases h : i = z.i
    · subst h
      rw [List.getElem?_set] at e2
      simp only [if_true] at e2
      split at e2 <;> cases e2
    · rw [List.getElem?_set_ne h] at e2
      obtain ⟨h1, h2⟩ := r.sut z e1 e2
      exact ⟨by rw [List.getElem?_set_ne h]; exact h1, h2⟩
theorem Rl.setl : ∀ {l : List (Nat × PV)} {m : List (Nat × V)} {σ : St} {ρ : PSt}, Rl K g α σ H ρ S → Sls K α H l m → Rl K g α (Pm.setl σ m) H (Pm.setl ρ l) S
  | [], [], _, _, r, _ => r
  | [], _ :: _, _, _, _, h => by cases h.1
  | _ :: _, [], _, _, _, h => by cases h.1
  | (i, x) :: l, (j, v) :: m, _, _, r, ⟨h1, h2⟩ => by
    simp only [List.map_cons, List.cons.injEq] at h1
    obtain ⟨rfl, h1⟩ := h1
    cases h2 with
    | cons d ds => exact Rl.setl (l := l) (m := m) (r.set1 d) ⟨h1, ds⟩
theorem Sls.append {l l' : List (Nat × PV)} {m m' : List (Nat × V)} (a : Sls K α H l m) (b : Sls K α H l' m') : Sls K α H (l ++ l') (m ++ m') := by
  refine ⟨by simp [a.1, b.1], ?_⟩
  rw [List.map_append, List.map_append]
  exact a.2.append b.2
end
def tMG (K : PySem.W.Frag) (g : Sg) (m : MG) : TG := fun v σ H Q => ∃ α S x l, RlC K g α H S ∧ Den K α H x v ∧ m x S = some l ∧ ∀ us, Sls K α H l us → Q (setl σ us) H
def tMGs (K : PySem.W.Frag) (g : Sg) (m : MGs) : TGs := fun vs σ H Q => ∃ α S xs l, RlC K g α H S ∧ Dens K α H xs vs ∧ m xs S = some l ∧ ∀ us, Sls K α H l us → Q (setl σ us) H
def RG (X : Cx) (g : Sg) (tg : Expr) (m : MG) : Prop := PG X tg (tMG X.K g m)
def RGs (X : Cx) (g : Sg) (tgs : List Expr) (m : MGs) : Prop := PGs X tgs (tMGs X.K g m)
theorem pg_le {X : Cx} {e : Expr} {t t' : TG} (h : PG X e t) (i : ∀ v σ H Q, t' v σ H Q → t v σ H Q) : PG X e t' := ⟨fun pins s σ H v u Q I r q => h.run pins s σ H v u Q I r (i _ _ _ _ q)⟩
theorem pgs_le {X : Cx} {e : List Expr} {t t' : TGs} (h : PGs X e t) (i : ∀ v σ H Q, t' v σ H Q → t v σ H Q) : PGs X e t' := ⟨fun pins s σ H v u Q I r q => h.run pins s σ H v u Q I r (i _ _ _ _ q)⟩
theorem pg_or {X : Cx} {e : Expr} {t t' : TG} (h : PG X e t) (h' : PG X e t') : PG X e (fun v σ H Q => t v σ H Q ∨ t' v σ H Q) := ⟨fun pins s σ H v u Q I r q => q.elim (h.run pins s σ H v u Q I r) (h'.run pins s σ H v u Q I r)⟩
section
variable {X : Cx} {g : Sg} {W : WX} {a b c e tg : Expr} {es : List Expr} {m ma mb mc : ME} {ms : MA} {pos p : Pos} {st : Stmt} {rest : List Stmt}
theorem rg_name {i : Nat} {x : Str} (h : PG X (.Name x p) (gName i)) : RG X g (.Name x p) (mgName i) := by
  refine pg_le h fun v σ H Q hyp => ?_
  obtain ⟨α, S, x, l, r, d, e, q⟩ := hyp
  cases e
  exact q [(i, v)] ⟨rfl, .cons d .nil⟩
theorem rgs_nil : RGs X g [] mgNil := by
  refine pgs_le pgs_nil fun vs σ H Q hyp => ?_
  obtain ⟨α, S, xs, l, r, d, e, q⟩ := hyp
  cases xs with
  | nil => cases d; cases e; exact ⟨rfl, q [] ⟨rfl, .nil⟩⟩
  | cons x xs => cases e
theorem rgs_cons {ga : MG} {gb : MGs} (ha : RG X g e ga) (hb : RGs X g es gb) (hs : (assignEach (e :: es) X.env).map (·.2) = assign e X.env :: (assignEach es X.env).map (·.2) := by rfl) : RGs X g (e :: es) (mgCons ga gb) := by
  refine pgs_le (pgs_cons ha hb hs) fun vs σ H Q hyp => ?_
  obtain ⟨α, S, xs, l, r, d, e, q⟩ := hyp
  cases d with
  | nil => cases e
  | cons d ds =>
    simp only [mgCons] at e
    split at e
    · rename_i la lb e1 e2
      cases e
      refine ⟨_, _, rfl, α, S, _, la, r, d, e1, fun us hu => ?_⟩
      refine ⟨α, S, _, lb, r, ds, e2, fun ws hw => ?_⟩
      rw [← setl_append]
      exact q _ (hu.append hw)
    · cases e
theorem rg_tup {k n : Nat} {gb : MGs} (hc : X.calm = true) (h : RGs X g es gb) (hn : (assignEach es X.env).length = n := by rfl) (hst : (assignEach es X.env).findIdx? (·.1) = none := by rfl) : RG X g (.Tuple es k pos) (mgTup n gb) := by
  refine pg_le (pg_or (pg_tup hc h hn hst) (pg_lst hc h hn hst)) fun v σ H Q hyp => ?_
  obtain ⟨α, S, x, l, r, d, e, q⟩ := hyp
  cases d <;> simp only [mgTup] at e <;> first | (cases e; done) | skip
  case tup xs vs a h0 d =>
    split at e
    · rename_i hl
      exact .inl ⟨a, vs, rfl, h0, by rw [← d.length]; exact hl, α, S, xs, l, r, d, e, q⟩
    · cases e
  case rol xs vs a h0 d =>
    split at e
    · rename_i hl
      exact .inr ⟨a, vs, rfl, h0.sq, by rw [← d.length]; exact hl, α, S, xs, l, r, d, e, q⟩
    · cases e
  case cell c a h0 =>
    split at e
    · rename_i xs e0
      obtain ⟨vs, hv, d⟩ := r.at h0 e0
      split at e
      · rename_i hl
        exact .inr ⟨a, vs, rfl, SqL.of hv, by rw [← d.length]; exact hl, α, S, xs, l, r, d, e, q⟩
      · cases e
    · cases e

/-! ### statements -/
def mSeq (a b : MS) : MS := fun ρ S => match a ρ S with
  | .nx ρ' S' => b ρ' S'
  | o => o
def mNx : MS := fun ρ S => .nx ρ S
theorem SPost.mono {K : PySem.W.Frag} {α α1 : List Addr} {H H1 : Hp} {D : Ends} (pre : α <+: α1) (kp : Kp H H1) : ∀ {o : Ot}, SPost K g W α H D o → SPost K g W α1 H1 D o
  | .nx _ _, h => fun α' σ' H' p k r => h α' σ' H' (pre.trans p) (kp.trans k) r
  | .rt _ _, h => fun α' H' v p k r d => h α' H' v (pre.trans p) (kp.trans k) r d
  | .bk _ _, h => fun α' σ' H' p k r => h α' σ' H' (pre.trans p) (kp.trans k) r
  | .ct _ _, h => fun α' σ' H' p k r => h α' σ' H' (pre.trans p) (kp.trans k) r
  | .er _ _ _ _, h => fun α' σ' H' C d p k r => h α' σ' H' C d (pre.trans p) (kp.trans k) r
  | .bad, h => h
/-- an expression ahead of what follows -/
def Rs.ot {β : Type} (r : Rs β) (ρ : PSt) (f : β → Sto → Ot) : Ot := match r with
  | .ok x S1 => f x S1
  | .er c fs S1 => .er c fs ρ S1
  | .bad => .bad
@[simp] theorem ot_ok {β : Type} {x : β} {S : Sto} {ρ : PSt} {f : β → Sto → Ot} : (Rs.ok x S).ot ρ f = f x S := rfl
@[simp] theorem ot_er {β : Type} {c : Str} {fs : List (Str × PV)} {S : Sto} {ρ : PSt} {f : β → Sto → Ot} : (Rs.er c fs S : Rs β).ot ρ f = .er c fs ρ S := rfl
@[simp] theorem ot_bad {β : Type} {ρ : PSt} {f : β → Sto → Ot} : (Rs.bad : Rs β).ot ρ f = .bad := rfl
theorem then_post {K : PySem.W.Frag} {β : Type} {α : List Addr} {σ : St} {H : Hp} {ρ : PSt} {D : Ends} {r : Rs β} {f : β → Sto → Ot} (q : SPost K g W α H D (r.ot ρ f)) :
    Post K g W α σ H ρ (fun α' H' x S' => Rl K g α' σ H' ρ S' → SPost K g W α' H' D (f x S')) r := by
  cases r with
  | ok x S1 => exact fun α' H' p k _ _ => SPost.mono p k q
  | er c fs S1 => exact fun α' H' C d p k r e x => q α' σ H' C d p k r e x
  | bad => exact q
theorem rss_nil : RSs X g W [] mNx := pss_le pss_nil fun D σ H ⟨α, ρ, S, r, q⟩ => q α σ H (List.prefix_refl _) Kp.refl r
theorem rss_cons {ma mb : MS} (ha : RS X g W st ma) (hb : RSs X g W rest mb) : RSs X g W (st :: rest) (mSeq ma mb) := by
  refine pss_le (pss_cons ha hb) fun D σ H ⟨α, ρ, S, r, q⟩ => ?_
  refine ⟨α, ρ, S, r, ?_⟩
  unfold mSeq at q
  cases e : ma ρ S with
  | nx ρ' S' => rw [e] at q; exact fun α' σ' H' p k r' => ⟨α', ρ', S', r', SPost.mono p k q⟩
  | rt x S' => rw [e] at q; exact q
  | bk ρ' S' => rw [e] at q; exact q
  | ct ρ' S' => rw [e] at q; exact q
  | er c fs ρ' S' => rw [e] at q; exact q
  | bad => rw [e] at q; exact q
theorem rss_one {ma : MS} (ha : RS X g W st ma) : RSs X g W [st] ma := pss_one ha
def mBk : MS := fun ρ S => .bk ρ S
def mCt : MS := fun ρ S => .ct ρ S
theorem rs_pass : RS X g W (.Pass pos) mNx := ps_le ps_pass fun D σ H ⟨α, ρ, S, r, q⟩ => q α σ H (List.prefix_refl _) Kp.refl r
theorem rs_break : RS X g W (.Break pos) mBk := ps_le ps_break fun D σ H ⟨α, ρ, S, r, q⟩ => q α σ H (List.prefix_refl _) Kp.refl r
theorem rs_continue : RS X g W (.Continue pos) mCt := ps_le ps_continue fun D σ H ⟨α, ρ, S, r, q⟩ => q α σ H (List.prefix_refl _) Kp.refl r
def mExp (m : ME) : MS := fun ρ S => (m ρ S).ot ρ fun _ S1 => .nx ρ S1
theorem rs_expr (h : RE X g W e m) (hs : swapsWith e none pos.line X.env = pure false := by rfl) : RS X g W (.Expr e pos) (mExp m) := by
  refine ps_le (ps_expr h hs) fun D σ H ⟨α, ρ, S, r, q⟩ => ?_
  refine ⟨α, ρ, S, r, (then_post q).imp fun α1 H1 x S1 p1 k1 r1 q1 v dv => ?_⟩
  exact q1 r1 α1 σ H1 (List.prefix_refl _) Kp.refl r1
def mRet (m : ME) : MS := fun ρ S => (m ρ S).ot ρ fun x S1 => .rt x S1
theorem rs_ret (h : RE X g W e m) : RS X g W (.Return (some e) pos) (mRet m) := by
  refine ps_le (ps_ret h) fun D σ H ⟨α, ρ, S, r, q⟩ => ?_
  refine ⟨α, ρ, S, r, (then_post q).imp fun α1 H1 x S1 p1 k1 r1 q1 v dv => ?_⟩
  exact q1 r1 α1 H1 v (List.prefix_refl _) Kp.refl r1.obj dv
def mRetN : MS := fun _ S => .rt .non S
theorem rs_retN : RS X g W (.Return none pos) mRetN := ps_le ps_retN fun D σ H ⟨α, ρ, S, r, q⟩ => q α H .non (List.prefix_refl _) Kp.refl r.obj .non
def mIf (t : MT) (a b : MS) : MS := fun ρ S => (t ρ S).ot ρ fun x S1 => if x = true then a ρ S1 else b ρ S1
theorem rs_if {t : MT} {sa sb : List Stmt} {ma mb : MS} (hc : RT X g W c t) (ha : RSs X g W sa ma) (hb : RSs X g W sb mb) : RS X g W (.If c sa sb pos) (mIf t ma mb) := by
  refine ps_le (ps_if hc ha hb) fun D σ H ⟨α, ρ, S, r, q⟩ => ?_
  refine ⟨α, ρ, S, r, (then_post q).imp fun α1 H1 x S1 p1 k1 r1 q1 => ?_⟩
  replace q1 := q1 r1
  cases x with
  | true => rw [if_pos rfl] at q1; show ite _ _ _; rw [if_pos rfl]; exact ⟨α1, ρ, S1, r1, q1⟩
  | false => rw [if_neg Bool.false_ne_true] at q1; show ite _ _ _; rw [if_neg Bool.false_ne_true]; exact ⟨α1, ρ, S1, r1, q1⟩
def bindG (t : MG) (x : PV) (ρ : PSt) (S : Sto) (f : PSt → Ot) : Ot := match t x S with
  | some l => f (setl ρ l)
  | none => .bad
def mAsg (m : ME) (t : MG) : MS := fun ρ S => (m ρ S).ot ρ fun x S1 => bindG t x ρ S1 fun ρ' => .nx ρ' S1
theorem rs_set {i : Nat} {x : Str} {pos' : Pos} (h : RE X g W e m) (hp : ∀ {te : TE}, PE X e te → PS X (.Assign [.Name x pos'] e pos) (tAsg te (gName i))) : RS X g W (.Assign [.Name x pos'] e pos) (mAsg m (mgName i)) := by
  refine ps_le (hp h) fun D σ H ⟨α, ρ, S, r, q⟩ => ?_
  refine ⟨α, ρ, S, r, (then_post q).imp fun α1 H1 x S1 p1 k1 r1 q1 v dv => ?_⟩
  exact q1 r1 α1 (σ.set i (some v)) H1 (List.prefix_refl _) Kp.refl (r1.set1 dv)
theorem rs_asg {t : MG} (h : RE X g W e m) (hg : RG X g tg t) (hs : swapsWithSole [tg] e pos.line X.env = pure false := by rfl) (hw : swappedStores [tg] e X.env = pure none := by rfl)
    (h1 : (assignEach [tg] X.env).map (·.2) = [assign tg X.env] := by rfl) : RS X g W (.Assign [tg] e pos) (mAsg m t) := by
  refine ps_le (ps_asg h hg hs hw h1) fun D σ H ⟨α, ρ, S, r, q⟩ => ?_
  refine ⟨α, ρ, S, r, (then_post q).imp fun α1 H1 x S1 p1 k1 r1 q1 v dv => ?_⟩
  replace q1 := q1 r1
  unfold bindG at q1
  split at q1
  · rename_i l e1
    exact ⟨α1, S1, x, l, r1.obj, dv, e1, fun us hu => q1 α1 _ H1 (List.prefix_refl _) Kp.refl (r1.setl hu)⟩
  · exact q1.elim
/-- a, b = x, y -/
def mPar (i j : Nat) (ms : MA) : MS := fun ρ S => (ms ρ S).ot ρ fun xs S1 => match xs with
  | [x, y] => .nx ((ρ.set i (some x)).set j (some y)) S1
  | _ => .bad
theorem rs_par {i j : Nat} {es : List Expr} (h : RA X g W es ms) (hp : ∀ {ta : TA}, PA X es ta → PS X st (tPar i j ta)) : RS X g W st (mPar i j ms) := by
  refine ps_le (hp h) fun D σ H ⟨α, ρ, S, r, q⟩ => ?_
  refine ⟨α, ρ, S, r, (then_post q).imp fun α1 H1 xs S1 p1 k1 r1 q1 vs dvs => ?_⟩
  replace q1 := q1 r1
  rcases xs with _ | ⟨x, _ | ⟨y, _ | ⟨z, tl⟩⟩⟩ <;> first | exact False.elim q1 | skip
  obtain ⟨v, u, rfl, dv, du⟩ := dvs.two
  exact ⟨v, u, rfl, q1 α1 _ H1 (List.prefix_refl _) Kp.refl ((r1.set1 dv).set1 du)⟩
/-- name op= e -/
def mAug (i : Nat) (f : PV → PV → Sto → Rs PV) (m : ME) : MS := fun ρ S => match ρ[i]? with
  | some (some x) => ((m ρ S).bind fun y S1 => f x y S1).ot ρ fun z S2 => .nx (ρ.set i (some z)) S2
  | _ => .bad
theorem rs_aug {i : Nat} {r : R2} {f : PV → PV → Sto → Rs PV} (h : RE X g W e m) (o : OpM X g W r f) (hp : ∀ {te : TE}, PE X e te → PS X st (tAug i te r)) : RS X g W st (mAug i f m) := by
  refine ps_le (hp h) fun D σ H ⟨α, ρ, S, rl, q⟩ => ?_
  unfold mAug at q
  split at q
  · rename_i x e1
    obtain ⟨v, hv, dv⟩ := rl.loc i x e1
    refine ⟨v, hv, α, ρ, S, rl, ?_⟩
    refine ((then_post (σ := σ) q).of_bind).imp fun α1 H1 y S1 p1 k1 r1 q1 u du => ?_
    refine o _ _ _ _ _ _ _ _ _ _ r1 (dv.mono p1 k1) du ((q1 r1).imp fun α2 H2 z S2 p2 k2 r2 q2 w dw => ?_)
    exact q2 r2 α2 (σ.set i (some w)) H2 (List.prefix_refl _) Kp.refl (r2.set1 dw)
  · exact q.elim
/-- o[i] = v, a list -/
def setLO (ρ : PSt) (v o i : PV) (S : Sto) : Ot := match o, i with
  | .cell n, .int k => match S[n]? with
    | some (.lst xs) => match ixN xs.length k with
      | some j => .nx ρ (S.set n (.lst (xs.set j v)))
      | none => .bad
    | _ => .bad
  | _, _ => .bad
def mSetL (mo mi mv : ME) : MS := fun ρ S => ((mv ρ S).bind fun v S1 => (mo ρ S1).bind fun o S2 => (mi ρ S2).bind fun i S3 => .ok (v, o, i) S3).ot ρ fun t S3 => setLO ρ t.1 t.2.1 t.2.2 S3
theorem rs_setL {mo mi : ME} (hv : RE X g W e m) (ho : RE X g W a mo) (hi : RE X g W b mi) (ha : ∀ v, assign (.Subscript a b p) X.env v = (do
      let ov ← holding [v] (eval a X.env)
      let iv ← holding [v, ov] (eval b X.env)
      standAt p
      holding [v, ov, iv] (setItem ov iv v)
      release [v, ov, iv] []) := by intro _; rfl) (hs : swapsWithSole [.Subscript a b p] e pos.line X.env = pure false := by rfl) (hw : swappedStores [.Subscript a b p] e X.env = pure none := by rfl)
    (h1 : (assignEach [.Subscript a b p] X.env).map (·.2) = [assign (.Subscript a b p) X.env] := by rfl) : RS X g W (.Assign [.Subscript a b p] e pos) (mSetL mo mi m) := by
  refine ps_le (ps_asg hv (pg_sub ho hi set_list ha) hs hw h1) fun D σ H ⟨α, ρ, S, r, q⟩ => ?_
  refine ⟨α, ρ, S, r, (then_post (σ := σ) q).of_bind.imp fun α1 H1 x S1 p1 k1 r1 q1 v dv => ?_⟩
  refine ⟨α1, ρ, S1, r1, (q1 r1).of_bind.imp fun α2 H2 o S2 p2 k2 r2 q2 ov dov => ?_⟩
  refine ⟨α2, ρ, S2, r2, (q2 r2).of_bind.imp fun α3 H3 i S3 p3 k3 r3 q3 iv div => ?_⟩
  have q4 := (q3 r3).here r3 r3
  have dov3 := dov.mono p3 k3
  cases dov3 <;> first | exact q4.elim | skip
  case cell n ad h0 =>
    cases div <;> first | exact q4.elim | skip
    case int k =>
      unfold setLO at q4
      dsimp only at q4
      split at q4
      · rename_i xs e0
        split at q4
        · rename_i j ej
          obtain ⟨vs, hvs, d⟩ := r3.obj.at h0 e0
          refine ⟨ad, vs, k, j, rfl, rfl, hvs, by rw [← d.length]; exact ej, ?_⟩
          have kp := r3.obj.kset (u := .lst (vs.set j v)) h0 e0
          exact q4 α3 σ _ (List.prefix_refl _) kp (r3.keep (List.prefix_refl _) kp (r3.obj.set h0 e0 ⟨_, upd_same, Dens.set ((dv.mono (p2.trans p3) (k2.trans k3)).mono (List.prefix_refl _) kp) j (d.mono (List.prefix_refl _) kp)⟩))
        · exact q4.elim
      · exact q4.elim
end
theorem Dens.set' {K : PySem.W.Frag} {α : List Addr} {H : Hp} {xs : List PV} {vs : List V} {y : PV} {u : V} (d : Den K α H y u) (i : Nat) (ds : Dens K α H xs vs) : Dens K α H (xs.set i y) (vs.set i u) := Dens.set d i ds
end Pm
namespace Pm
open PySem L2
/-! ### what a loop walks -/
/-- the items, and the objects that must stay as they are meanwhile -/
structure Itm where
  items : List PV
  raw : List (Nat × MO)
def Chk (raw : List (Nat × MO)) (S : Sto) : Prop := ∀ p ∈ raw, S[p.1]? = some p.2
@[simp] theorem chk_nil {S : Sto} : Chk [] S := fun _ h => nomatch h
theorem chk_one {n : Nat} {o : MO} {S : Sto} : Chk [(n, o)] S ↔ S[n]? = some o := by
  unfold Chk
  simp
/-- the iterator J walks it, from the heap H0 on -/
def Iok (K : PySem.W.Frag) (g : Sg) (α0 : List Addr) (H0 : Hp) (it : Itm) (J : It) : Prop :=
  ∀ α H S, α0 <+: α → Kp H0 H → RlC K g α H S → Chk it.raw S → ∀ i,
    (∀ x, it.items[i]? = some x → J.go i H ∧ ∀ v H', J.yld i H v H' → Den K α H' x v ∧ Kp H H' ∧ RlC K g α H' S) ∧ (it.items.length ≤ i → J.stop i H)
abbrev MI := PSt → Sto → Rs Itm
def tMI (K : PySem.W.Frag) (g : Sg) (W : WX) (m : MI) : TI := fun σ H R => ∃ α ρ S, Rl K g α σ H ρ S ∧ Post K g W α σ H ρ (fun α' H' it _ => ∀ J, Iok K g α' H' it J → R J H') (m ρ S)
def RI (X : Cx) (g : Sg) (W : WX) (tg iter : Expr) (m : MI) : Prop := PI X tg iter (tMI X.K g W m)
theorem pi_le {X : Cx} {tg e : Expr} {t t' : TI} (h : PI X tg e t) (i : ∀ σ H R, t' σ H R → t σ H R) : PI X tg e t' := ⟨fun pins s σ H R I q => h.run pins s σ H R I (i _ _ _ q)⟩
theorem pi_or {X : Cx} {tg e : Expr} {t t' : TI} (h : PI X tg e t) (h' : PI X tg e t') : PI X tg e (fun σ H R => t σ H R ∨ t' σ H R) := ⟨fun pins s σ H R I q => q.elim (h.run pins s σ H R I) (h'.run pins s σ H R I)⟩
def itOf (x : PV) (S : Sto) : Option Itm := match x with
  | .tup xs => some ⟨xs, []⟩
  | .rol xs => some ⟨xs, []⟩
  | .cell n => match S[n]? with
    | some (.lst xs) => some ⟨xs, [(n, .lst xs)]⟩
    | _ => none
  | _ => none
def mItE (m : ME) : MI := fun ρ S => (m ρ S).bind fun x S1 => match itOf x S1 with
  | some it => .ok it S1
  | none => .bad
section
variable {K : PySem.W.Frag} {g : Sg} {α0 : List Addr} {H0 : Hp}
theorem iok_tup {a : Addr} {vs : List V} {xs : List PV} (h : SqT K H0 a vs) (d : Dens K α0 H0 xs vs) : Iok K g α0 H0 ⟨xs, []⟩ (Itt K a) := by
  intro α H S pre kp r _ i
  have h' := kp.tup h
  have d' := d.mono pre kp
  refine ⟨fun x e => ?_, fun hl => ⟨vs, h', by rw [← d.length]; exact hl⟩⟩
  obtain ⟨v, hv, dv⟩ := d'.get e
  refine ⟨⟨vs, v, h', hv⟩, ?_⟩
  rintro w H' ⟨rfl, hw⟩
  have := hw vs h'
  rw [hv] at this
  cases this
  exact ⟨dv, Kp.refl, r⟩
theorem iok_rol {a : Addr} {vs : List V} {xs : List PV} (h : RoL K H0 a vs) (d : Dens K α0 H0 xs vs) : Iok K g α0 H0 ⟨xs, []⟩ (Itl K a) := by
  intro α H S pre kp r _ i
  have h' := (kp.rol h).sq
  have d' := d.mono pre kp
  refine ⟨fun x e => ?_, fun hl => ⟨vs, h', by rw [← d.length]; exact hl⟩⟩
  obtain ⟨v, hv, dv⟩ := d'.get e
  refine ⟨⟨vs, v, h', hv⟩, ?_⟩
  rintro w H' ⟨rfl, hw⟩
  have := hw vs h'
  rw [hv] at this
  cases this
  exact ⟨dv, Kp.refl, r⟩
theorem iok_lst {n : Nat} {a : Addr} {xs : List PV} (h : α0[n]? = some a) : Iok K g α0 H0 ⟨xs, [(n, .lst xs)]⟩ (Itl K a) := by
  intro α H S pre kp r ck i
  have h1 : α[n]? = some a := by
    obtain ⟨t, rfl⟩ := pre
    rw [List.getElem?_append_left (List.getElem?_eq_some_iff.mp h).1]
    exact h
  obtain ⟨vs, hv, d⟩ := r.at h1 (ck (n, .lst xs) List.mem_cons_self)
  refine ⟨fun x e => ?_, fun hl => ⟨vs, SqL.of hv, by rw [← d.length]; exact hl⟩⟩
  obtain ⟨v, hw, dv⟩ := d.get e
  refine ⟨⟨vs, v, SqL.of hv, hw⟩, ?_⟩
  rintro w H' ⟨rfl, hx⟩
  have := hx vs (SqL.of hv)
  rw [hw] at this
  cases this
  exact ⟨dv, Kp.refl, r⟩
end
section
variable {X : Cx} {g : Sg} {W : WX} {a b c e tg iter : Expr} {es : List Expr} {m ma mb mc : ME} {ms : MA} {mi : MI} {pos p : Pos}
theorem ri_val (h : RE X g W e m) : RI X g W tg e (mItE m) := by
  refine pi_le (pi_or (pi_tup h) (pi_list h)) fun σ H R ⟨α, ρ, S, r, q⟩ => ?_
  unfold mItE at q
  cases e0 : m ρ S with
  | er c fs S1 =>
    rw [e0] at q
    exact .inl ⟨α, ρ, S, r, by rw [e0]; exact q⟩
  | bad => rw [e0] at q; exact q.elim
  | ok x S1 =>
    rw [e0] at q
    by_cases ht : ∃ xs, x = .tup xs
    · obtain ⟨xs, rfl⟩ := ht
      refine .inl ⟨α, ρ, S, r, ?_⟩
      rw [e0]
      intro α1 H1 p1 k1 r1 v dv
      cases dv with
      | tup h0 d => exact ⟨_, rfl, ⟨_, h0⟩, q α1 H1 p1 k1 r1 _ (iok_tup h0 d)⟩
    · refine .inr ⟨α, ρ, S, r, ?_⟩
      rw [e0]
      intro α1 H1 p1 k1 r1 v dv
      cases dv <;> first | exact False.elim (Post.mono p1 k1 q) | skip
      case tup => exact absurd ⟨_, rfl⟩ ht
      case rol h0 d => exact ⟨_, rfl, ⟨_, h0.sq⟩, q α1 H1 p1 k1 r1 _ (iok_rol h0 d)⟩
      case cell n a h0 =>
        simp only [bind_ok, itOf] at q
        cases e1 : S1[n]? with
        | none => simp only [e1] at q; exact q.elim
        | some o =>
          simp only [e1] at q
          cases o <;> first | exact q.elim | skip
          case lst xs =>
            obtain ⟨vs, hv, d⟩ := r1.obj.at h0 e1
            exact ⟨_, rfl, ⟨_, SqL.of hv⟩, q α1 H1 p1 k1 r1 _ (iok_lst h0)⟩
/-- lo, lo + 1, .. -/
def rngP (lo : Int) (n : Nat) : List PV := (List.range n).map fun k => .int (lo + (k : Nat))
theorem iok_rng {K : PySem.W.Frag} {α0 : List Addr} {H0 : Hp} (lo : Int) (n : Nat) : Iok K g α0 H0 ⟨rngP lo n, []⟩ (Itr lo n) := by
  intro α H S pre kp r _ i
  have hlen : (rngP lo n).length = n := by simp [rngP]
  refine ⟨fun x e => ?_, fun hl => ?_⟩
  · have hi : i < n := by
      have h1 := (List.getElem?_eq_some_iff.mp e).1
      have h2 : i < (rngP lo n).length := h1
      rw [hlen] at h2
      exact h2
    have e2 : (rngP lo n)[i]? = some (.int (lo + (i : Nat))) := by simp [rngP, List.getElem?_map, List.getElem?_range, hi]
    have e3 : (rngP lo n)[i]? = some x := e
    rw [e2] at e3
    cases e3
    refine ⟨hi, ?_⟩
    rintro w H' ⟨rfl, rfl⟩
    exact ⟨.int _, Kp.refl, r⟩
  · show n ≤ i
    have h2 : (rngP lo n).length ≤ i := hl
    rw [hlen] at h2
    exact h2
def rng1 (xs : List PV) (S : Sto) : Rs Itm := match xs with
  | [.int j] => if -(2 ^ 62) ≤ j ∧ j < 2 ^ 62 then .ok ⟨rngP 0 j.toNat, []⟩ S else .bad
  | _ => .bad
def rng2 (xs : List PV) (S : Sto) : Rs Itm := match xs with
  | [.int i, .int j] => if -(2 ^ 62) ≤ i ∧ i < 2 ^ 62 ∧ -(2 ^ 62) ≤ j ∧ j < 2 ^ 62 then .ok ⟨rngP i (j - i).toNat, []⟩ S else .bad
  | _ => .bad
def mItA (f : List PV → Sto → Rs Itm) (ms : MA) : MI := fun ρ S => (ms ρ S).bind f
theorem ri_rng1 (hg : Gl X "range") (hm : X.mg "range" = none) (ha : RA X g W [a] ms) (hs : starEach [a] X.env = [(false, eval a X.env)] := by rfl) : RI X g W tg (.Call (.Name "range" p) [a] [] pos) (mItA rng1 ms) := by
  refine pi_le (pi_range1 hg hm ha hs) fun σ H R ⟨α, ρ, S, r, q⟩ => ?_
  refine ⟨α, ρ, S, r, q.of_bind.imp fun α1 H1 xs S1 p1 k1 r1 q1 vs dvs => ?_⟩
  replace q1 := q1 r1
  rcases xs with _ | ⟨x, _ | ⟨y, tl⟩⟩ <;> first | exact False.elim q1 | (cases x <;> exact False.elim q1) | skip
  obtain ⟨v, rfl, dv⟩ := dvs.one
  clear dvs
  cases dv <;> first | exact q1.elim | skip
  case int j =>
    simp only [rng1] at q1
    split at q1
    · rename_i h
      exact ⟨j, rfl, h.1, h.2, q1.here r1 _ (iok_rng 0 j.toNat)⟩
    · exact q1.elim
theorem ri_rng2 (hg : Gl X "range") (hm : X.mg "range" = none) (ha : RA X g W [a, b] ms) (hs : starEach [a, b] X.env = [(false, eval a X.env), (false, eval b X.env)] := by rfl) (hs2 : starEach [b] X.env = [(false, eval b X.env)] := by rfl) : RI X g W tg (.Call (.Name "range" p) [a, b] [] pos) (mItA rng2 ms) := by
  refine pi_le (pi_range2 hg hm ha hs hs2) fun σ H R ⟨α, ρ, S, r, q⟩ => ?_
  refine ⟨α, ρ, S, r, q.of_bind.imp fun α1 H1 xs S1 p1 k1 r1 q1 vs dvs => ?_⟩
  replace q1 := q1 r1
  rcases xs with _ | ⟨x, _ | ⟨y, _ | ⟨z, tl⟩⟩⟩ <;> first | exact False.elim q1 | (cases x <;> first | exact False.elim q1 | (cases y <;> exact False.elim q1)) | skip
  obtain ⟨v, u, rfl, dv, du⟩ := dvs.two
  clear dvs
  cases dv <;> cases du <;> first | exact q1.elim | skip
  case int.int i j =>
    simp only [rng2] at q1
    split at q1
    · rename_i h
      exact ⟨i, j, rfl, h, q1.here r1 _ (iok_rng i (j - i).toNat)⟩
    · exact q1.elim
/-- with their numbers -/
def enumP : Nat → List PV → List PV
  | _, [] => []
  | k, x :: xs => .tup [.int (k : Nat), x] :: enumP (k + 1) xs
theorem enumP_get : ∀ {xs : List PV} {k i : Nat} {y : PV}, (enumP k xs)[i]? = some y → ∃ x, xs[i]? = some x ∧ y = .tup [.int ((k + i : Nat) : Int), x]
  | [], _, _, _, e => by simp [enumP] at e
  | x :: xs, k, 0, y, e => by simp [enumP] at e; exact ⟨x, rfl, by rw [← e]; simp⟩
  | x :: xs, k, i + 1, y, e => by
    obtain ⟨z, h1, h2⟩ := enumP_get (xs := xs) (k := k + 1) (i := i) (y := y) (by simpa [enumP] using e)
    exact ⟨z, by simpa using h1, by rw [h2]; congr 3; omega⟩
theorem enumP_len : ∀ {xs : List PV} {k : Nat}, (enumP k xs).length = xs.length
  | [], _ => rfl
  | _ :: xs, k => by simp [enumP, enumP_len]
def enumM (xs : List PV) (S : Sto) : Rs Itm := match xs with
  | [.cell n] => match S[n]? with
    | some (.lst ys) => .ok ⟨enumP 0 ys, [(n, .lst ys)]⟩ S
    | _ => .bad
  | [.rol ys] => .ok ⟨enumP 0 ys, []⟩ S
  | _ => .bad
theorem iok_pair {K : PySem.W.Frag} {α : List Addr} {H : Hp} {S : Sto} {T : Addr} {x y : PV} {v u : V} (r : RlC K g α H S) (hT : H T = none) (dx : Den K α H x v) (dy : Den K α H y u) :
    Den K α (upd H T (.tup [v, u])) (.tup [x, y]) (.ref T) ∧ Kp H (upd H T (.tup [v, u])) ∧ RlC K g α (upd H T (.tup [v, u])) S := by
  have kp : Kp H (upd H T (.tup [v, u])) := Kp.new hT
  exact ⟨.tup (SqT.of upd_same) (.cons (dx.mono (List.prefix_refl _) kp) (.cons (dy.mono (List.prefix_refl _) kp) .nil)), kp, r.same fun b w e => new_st hT e⟩
theorem iok_enum {K : PySem.W.Frag} {α0 : List Addr} {H0 : Hp} {a : Addr} {raw : List (Nat × MO)} {ys : List PV}
    (h : ∀ α H S, α0 <+: α → Kp H0 H → RlC K g α H S → Chk raw S → ∃ vs, SqL K H a vs ∧ Dens K α H ys vs) : Iok K g α0 H0 ⟨enumP 0 ys, raw⟩ (Ite K a) := by
  intro α H S pre kp r ck i
  obtain ⟨vs, hs, d⟩ := h α H S pre kp r ck
  refine ⟨fun x e => ?_, fun hl => ⟨vs, hs, ?_⟩⟩
  · obtain ⟨y, h1, rfl⟩ := enumP_get e
    obtain ⟨v, hv, dv⟩ := d.get h1
    refine ⟨⟨vs, v, hs, hv⟩, ?_⟩
    rintro w H' ⟨T, z, rfl, hT, rfl, hz⟩
    have := hz vs hs
    rw [hv] at this
    cases this
    rw [Nat.zero_add]
    exact iok_pair r hT (.int _) dv
  · have : (enumP 0 ys).length ≤ i := hl
    rw [enumP_len] at this
    rw [← d.length]
    exact this
theorem lst_at {K : PySem.W.Frag} {α0 α : List Addr} {H : Hp} {S : Sto} {n : Nat} {a : Addr} {ys : List PV} (h0 : α0[n]? = some a) (pre : α0 <+: α) (r : RlC K g α H S) (e : S[n]? = some (.lst ys)) : ∃ vs, H a = some (.lst vs) ∧ Dens K α H ys vs := by
  refine r.at (o := .lst ys) ?_ e
  obtain ⟨t, rfl⟩ := pre
  rw [List.getElem?_append_left (List.getElem?_eq_some_iff.mp h0).1]
  exact h0
theorem ri_enum {tpos : Pos} {elts : List Expr} {kk : Nat} (hg : Gl X "enumerate") (hm : X.mg "enumerate" = none) (ha : RA X g W [e] ms) (hs : starEach [e] X.env = [(false, eval e X.env)] := by rfl) :
    RI X g W (.Tuple elts kk tpos) (.Call (.Name "enumerate" p) [e] [] pos) (mItA enumM ms) := by
  refine pi_le (pi_enum hg hm ha hs) fun σ H R ⟨α, ρ, S, r, q⟩ => ?_
  refine ⟨α, ρ, S, r, q.of_bind.imp fun α1 H1 xs S1 p1 k1 r1 q1 vs dvs => ?_⟩
  replace q1 := q1 r1
  rcases xs with _ | ⟨x, _ | ⟨y, tl⟩⟩ <;> first | exact False.elim q1 | (cases x <;> exact False.elim q1) | skip
  obtain ⟨v, rfl, dv⟩ := dvs.one
  clear dvs
  cases dv <;> first | exact q1.elim | skip
  case rol ys us a h0 d => exact ⟨a, us, rfl, h0.sq, q1.here r1 _ (iok_enum fun α H S pre kp _ _ => ⟨us, (kp.rol h0).sq, d.mono pre kp⟩)⟩
  case cell n a h0 =>
    simp only [enumM] at q1
    split at q1
    · rename_i ys e0
      obtain ⟨us, hu, d⟩ := r1.obj.at h0 e0
      refine ⟨a, us, rfl, SqL.of hu, q1.here r1 _ (iok_enum fun α H S pre kp r ck => ?_)⟩
      obtain ⟨ws, hw, dw⟩ := lst_at h0 pre r (ck _ List.mem_cons_self)
      exact ⟨ws, SqL.of hw, dw⟩
    · exact q1.elim
/-- side by side -/
def zipP : List PV → List PV → List PV
  | x :: xs, y :: ys => .tup [x, y] :: zipP xs ys
  | _, _ => []
theorem zipP_get : ∀ {xs ys : List PV} {i : Nat} {z : PV}, (zipP xs ys)[i]? = some z → ∃ x y, xs[i]? = some x ∧ ys[i]? = some y ∧ z = .tup [x, y]
  | [], _, _, _, e => by simp [zipP] at e
  | _ :: _, [], _, _, e => by simp [zipP] at e
  | x :: xs, y :: ys, 0, z, e => by simp [zipP] at e; exact ⟨x, y, rfl, rfl, e.symm⟩
  | x :: xs, y :: ys, i + 1, z, e => by
    obtain ⟨u, w, h1, h2, h3⟩ := zipP_get (xs := xs) (ys := ys) (i := i) (z := z) (by simpa [zipP] using e)
    exact ⟨u, w, by simpa using h1, by simpa using h2, h3⟩
theorem zipP_len : ∀ {xs ys : List PV}, (zipP xs ys).length = min xs.length ys.length
  | [], _ => by simp [zipP]
  | _ :: _, [] => by simp [zipP]
  | _ :: xs, _ :: ys => by simp [zipP, zipP_len]
def seqOf (x : PV) (S : Sto) : Option (Bool × List PV × List (Nat × MO)) := match x with
  | .tup xs => some (true, xs, [])
  | .rol xs => some (false, xs, [])
  | .cell n => match S[n]? with
    | some (.lst xs) => some (false, xs, [(n, .lst xs)])
    | _ => none
  | _ => none
def zipM (xs : List PV) (S : Sto) : Rs Itm := match xs with
  | [x, y] => match seqOf x S, seqOf y S with
    | some (t, as, ra), some (u, bs, rb) => if t = u then .ok ⟨zipP as bs, ra ++ rb⟩ S else .bad
    | _, _ => .bad
  | _ => .bad
theorem seqOf_den {K : PySem.W.Frag} {α : List Addr} {H : Hp} {S : Sto} (r : RlC K g α H S) {x : PV} {v : V} {t : Bool} {xs : List PV} {raw : List (Nat × MO)} (d : Den K α H x v) (e : seqOf x S = some (t, xs, raw)) :
    ∃ a, v = .ref a ∧ ∀ α' H' S', α <+: α' → Kp H H' → RlC K g α' H' S' → Chk raw S' → ∃ vs, (if t = true then SqT K H' a vs else SqL K H' a vs) ∧ Dens K α' H' xs vs := by
  cases d with
  | tup h d =>
    simp [seqOf] at e
    obtain ⟨rfl, rfl, rfl⟩ := e
    exact ⟨_, rfl, fun α' H' S' pre kp _ _ => ⟨_, by rw [if_pos rfl]; exact kp.tup h, d.mono pre kp⟩⟩
  | rol h d =>
    simp [seqOf] at e
    obtain ⟨rfl, rfl, rfl⟩ := e
    exact ⟨_, rfl, fun α' H' S' pre kp _ _ => ⟨_, by rw [if_neg Bool.false_ne_true]; exact (kp.rol h).sq, d.mono pre kp⟩⟩
  | cell h =>
    simp only [seqOf] at e
    split at e
    · cases e
      refine ⟨_, rfl, fun α' H' S' pre kp r' ck => ?_⟩
      obtain ⟨ws, hw, dw⟩ := lst_at h pre r' (ck _ List.mem_cons_self)
      exact ⟨ws, by rw [if_neg Bool.false_ne_true]; exact SqL.of hw, dw⟩
    · cases e
  | _ => simp [seqOf] at e
theorem ri_zip {tpos : Pos} {elts : List Expr} {kk : Nat} (hg : Gl X "zip") (hm : X.mg "zip" = none) (ha : RA X g W [a, b] ms) (hz : ∀ {ta : TA}, PA X [a, b] ta → PI X (.Tuple elts kk tpos) (.Call (.Name "zip" p) [a, b] [] pos) (fun σ H R => ta σ H fun vs H1 => ∃ a b xs ys, vs = [.ref a, .ref b] ∧ ((SqL X.K H1 a xs ∧ SqL X.K H1 b ys ∧ R (Itz X.K a b) H1) ∨ (SqT X.K H1 a xs ∧ SqT X.K H1 b ys ∧ R (RZ.ItzT X.K a b) H1)))) :
    RI X g W (.Tuple elts kk tpos) (.Call (.Name "zip" p) [a, b] [] pos) (mItA zipM ms) := by
  refine pi_le (hz ha) fun σ H R ⟨α, ρ, S, r, q⟩ => ?_
  refine ⟨α, ρ, S, r, q.of_bind.imp fun α1 H1 xs S1 p1 k1 r1 q1 vs dvs => ?_⟩
  replace q1 := q1 r1
  rcases xs with _ | ⟨x, _ | ⟨y, _ | ⟨z, tl⟩⟩⟩ <;> first | exact False.elim q1 | skip
  obtain ⟨v, u, rfl, dv, du⟩ := dvs.two
  simp only [zipM] at q1
  split at q1
  · rename_i t as ra w bs rb e1 e2
    split at q1
    · rename_i htw
      subst htw
      obtain ⟨a, rfl, ha⟩ := seqOf_den r1.obj dv e1
      obtain ⟨b, rfl, hb⟩ := seqOf_den r1.obj du e2
      have ck0 : Chk ra S1 ∧ Chk rb S1 := by
        constructor
        · intro p hp
          cases x <;> simp only [seqOf] at e1 <;> first | (cases e1; done) | skip
          all_goals first | (simp at e1; obtain ⟨_, _, rfl⟩ := e1; cases hp) | skip
          split at e1
          · cases e1; simp at hp; subst hp; assumption
          · cases e1
        · intro p hp
          cases y <;> simp only [seqOf] at e2 <;> first | (cases e2; done) | skip
          all_goals first | (simp at e2; obtain ⟨_, _, rfl⟩ := e2; cases hp) | skip
          split at e2
          · cases e2; simp at hp; subst hp; assumption
          · cases e2
      obtain ⟨xs1, hx1, dx1⟩ := ha α1 H1 S1 (List.prefix_refl _) Kp.refl r1.obj ck0.1
      obtain ⟨ys1, hy1, dy1⟩ := hb α1 H1 S1 (List.prefix_refl _) Kp.refl r1.obj ck0.2
      refine ⟨a, b, xs1, ys1, rfl, ?_⟩
      cases t with
      | true =>
        rw [if_pos rfl] at hx1 hy1
        refine .inr ⟨hx1, hy1, q1.here r1 _ fun α H S pre kp r ck i => ?_⟩
        obtain ⟨xs2, hx2, dx2⟩ := ha α H S pre kp r fun p hp => ck p (List.mem_append_left _ hp)
        obtain ⟨ys2, hy2, dy2⟩ := hb α H S pre kp r fun p hp => ck p (List.mem_append_right _ hp)
        rw [if_pos rfl] at hx2 hy2
        refine ⟨fun z e => ?_, fun hl => ⟨xs2, ys2, hx2, hy2, ?_⟩⟩
        · obtain ⟨x', y', h1, h2, rfl⟩ := zipP_get e
          obtain ⟨v', hv, dv'⟩ := dx2.get h1
          obtain ⟨u', hu, du'⟩ := dy2.get h2
          refine ⟨⟨xs2, ys2, v', u', hx2, hy2, hv, hu⟩, ?_⟩
          rintro w H' ⟨T, v2, u2, rfl, hT, rfl, hh1, hh2⟩
          have q1 := hh1 xs2 hx2
          have q2 := hh2 ys2 hy2
          rw [hv] at q1
          rw [hu] at q2
          cases q1
          cases q2
          exact iok_pair r hT dv' du'
        · have : (zipP as bs).length ≤ i := hl
          rw [zipP_len, dx2.length, dy2.length] at this
          omega
      | false =>
        rw [if_neg Bool.false_ne_true] at hx1 hy1
        refine .inl ⟨hx1, hy1, q1.here r1 _ fun α H S pre kp r ck i => ?_⟩
        obtain ⟨xs2, hx2, dx2⟩ := ha α H S pre kp r fun p hp => ck p (List.mem_append_left _ hp)
        obtain ⟨ys2, hy2, dy2⟩ := hb α H S pre kp r fun p hp => ck p (List.mem_append_right _ hp)
        rw [if_neg Bool.false_ne_true] at hx2 hy2
        refine ⟨fun z e => ?_, fun hl => ⟨xs2, ys2, hx2, hy2, ?_⟩⟩
        · obtain ⟨x', y', h1, h2, rfl⟩ := zipP_get e
          obtain ⟨v', hv, dv'⟩ := dx2.get h1
          obtain ⟨u', hu, du'⟩ := dy2.get h2
          refine ⟨⟨xs2, ys2, v', u', hx2, hy2, hv, hu⟩, ?_⟩
          rintro w H' ⟨T, v2, u2, rfl, hT, rfl, hh1, hh2⟩
          have q1 := hh1 xs2 hx2
          have q2 := hh2 ys2 hy2
          rw [hv] at q1
          rw [hu] at q2
          cases q1
          cases q2
          exact iok_pair r hT dv' du'
        · have : (zipP as bs).length ≤ i := hl
          rw [zipP_len, dx2.length, dy2.length] at this
          omega
    · exact q1.elim
  · exact q1.elim

/-! ### for, while -/
/-- how a turn goes on -/
def loopE (o : Ot) (f : PSt → Sto → Ot) : Ot := match o with
  | .nx ρ S => f ρ S
  | .ct ρ S => f ρ S
  | .bk ρ S => .nx ρ S
  | .rt x S => .rt x S
  | .er c fs ρ S => .er c fs ρ S
  | .bad => .bad
theorem loop_post {K : PySem.W.Frag} {α : List Addr} {H : Hp} {D : Ends} {N : St → Hp → Prop} {f : PSt → Sto → Ot} (hN : ∀ ρ2 S2 α3 σ3 H3, α <+: α3 → Kp H H3 → Rl K g α3 σ3 H3 ρ2 S2 → SPost K g W α3 H3 D (f ρ2 S2) → N σ3 H3) :
    ∀ {o : Ot}, SPost K g W α H D (loopE o f) → SPost K g W α H { D with nx := N, ct := N, bk := D.nx } o
  | .nx ρ2 S2, q => fun α3 σ3 H3 p3 k3 r3 => hN ρ2 S2 α3 σ3 H3 p3 k3 r3 (SPost.mono p3 k3 q)
  | .ct ρ2 S2, q => fun α3 σ3 H3 p3 k3 r3 => hN ρ2 S2 α3 σ3 H3 p3 k3 r3 (SPost.mono p3 k3 q)
  | .bk _ _, q => q
  | .rt _ _, q => q
  | .er _ _ _ _, q => q
  | .bad, q => q
open Classical in
noncomputable def forGo (raw : List (Nat × MO)) (t : MG) (body : MS) : List PV → PSt → Sto → Ot
  | [], ρ, S => if Chk raw S then .nx ρ S else .bad
  | x :: xs, ρ, S => if Chk raw S then bindG t x ρ S fun ρ1 => loopE (body ρ1 S) fun ρ2 S2 => forGo raw t body xs ρ2 S2
    else .bad
noncomputable def mFor (mi : MI) (t : MG) (body : MS) : MS := fun ρ S => (mi ρ S).ot ρ fun it S1 => forGo it.raw t body it.items ρ S1
theorem rs_for {t : MG} {mb : MS} {body : List Stmt} (hp : PassesOwn (model X.prog X.w) X.A X.env X.xe) (hc : X.calm = true) (hi : RI X g W tg iter mi) (hg : RG X g tg t) (hb : RSs X g W body mb)
    (hs : ∀ x, foldedSetIterable iter X.env x = pure x := by intro _; rfl) : RS X g W (.For tg iter body [] pos) (mFor mi t mb) := by
  refine ps_le (ps_for hp hc hi hg hb hs) fun D σ H ⟨α, ρ, S, r, q⟩ => ?_
  refine ⟨α, ρ, S, r, (then_post q).imp fun α1 H1 it S1 p1 k1 r1 q1 J ok => ?_⟩
  replace q1 := q1 r1
  refine ⟨fun i m σ' H' => ∃ α' ρ' S', α1 <+: α' ∧ Kp H1 H' ∧ Rl X.K g α' σ' H' ρ' S' ∧ m = it.items.length - i ∧ SPost X.K g W α' H' D (forGo it.raw t mb (it.items.drop i) ρ' S'), ⟨_, α1, ρ, S1, List.prefix_refl _, Kp.refl, r1, rfl, by rw [List.drop_zero]; exact q1⟩, ?_⟩
  rintro i m σ' H' ⟨α', ρ', S', pre, kp, r', rfl, q'⟩
  cases e : it.items[i]? with
  | none =>
    have hl : it.items.length ≤ i := List.getElem?_eq_none_iff.mp e
    rw [List.drop_of_length_le hl] at q'
    unfold forGo at q'
    split at q'
    · rename_i ck
      exact .inl ⟨(ok α' H' S' pre kp r'.obj ck i).2 hl, q' α' σ' H' (List.prefix_refl _) Kp.refl r'⟩
    · exact q'.elim
  | some x =>
    obtain ⟨hi, e'⟩ := List.getElem?_eq_some_iff.mp e
    rw [List.drop_eq_getElem_cons hi, e'] at q'
    unfold forGo at q'
    split at q'
    · rename_i ck
      obtain ⟨go, yl⟩ := (ok α' H' S' pre kp r'.obj ck i).1 x e
      refine .inr ⟨go, _, fun _ _ w => ⟨it.items.length - (i + 1), by omega, w⟩, fun v H2 hy => ?_⟩
      obtain ⟨dx, k2, r2⟩ := yl v H2 hy
      unfold bindG at q'
      split at q'
      · rename_i l el
        refine ⟨α', S', x, l, r2, dx, el, fun us hu => ⟨α', setl ρ' l, S', (r'.keep (List.prefix_refl _) k2 r2).setl hu, ?_⟩⟩
        exact loop_post (fun ρ2 S2 α3 σ3 H3 p3 k3 r3 q3 => ⟨α3, ρ2, S2, pre.trans p3, (kp.trans k2).trans k3, r3, rfl, q3⟩) (SPost.mono (List.prefix_refl α') k2 q')
      · exact q'.elim
    · exact q'.elim
/-- so many turns at most -/
def whGo (t : MT) (body : MS) : Nat → PSt → Sto → Ot
  | 0, _, _ => .bad
  | n + 1, ρ, S => (t ρ S).ot ρ fun b S1 => if b = true then (loopE (body ρ S1) fun ρ2 S2 => whGo t body n ρ2 S2) else .nx ρ S1
open Classical in
/-- the number of turns is whatever it takes -/
noncomputable def mWhile (t : MT) (body : MS) : MS := fun ρ S => if h : ∃ n, whGo t body n ρ S ≠ .bad then whGo t body h.choose ρ S else .bad
theorem wh_mono {t : MT} {body : MS} : ∀ {n k : Nat} {ρ : PSt} {S : Sto}, whGo t body n ρ S ≠ .bad → whGo t body (n + k) ρ S = whGo t body n ρ S
  | 0, _, _, _, h => absurd rfl h
  | n + 1, k, ρ, S, h => by
    have e : n + 1 + k = (n + k) + 1 := by omega
    rw [e]
    unfold whGo at h ⊢
    revert h
    cases t ρ S with
    | ok b S1 =>
      cases b with
      | false => exact fun _ => rfl
      | true =>
        simp only [ot_ok, if_true]
        cases body ρ S1 with
        | nx ρ2 S2 => exact fun h => wh_mono h
        | ct ρ2 S2 => exact fun h => wh_mono h
        | bk ρ2 S2 => exact fun _ => rfl
        | rt x S2 => exact fun _ => rfl
        | er c fs ρ2 S2 => exact fun _ => rfl
        | bad => exact fun _ => rfl
    | er c fs S1 => exact fun _ => rfl
    | bad => exact fun _ => rfl
theorem while_eq {t : MT} {body : MS} {n : Nat} {ρ : PSt} {S : Sto} (h : whGo t body n ρ S ≠ .bad) : mWhile t body ρ S = whGo t body n ρ S := by
  have hex : ∃ n, whGo t body n ρ S ≠ .bad := ⟨n, h⟩
  unfold mWhile
  rw [dif_pos hex]
  have h1 := wh_mono (k := n) hex.choose_spec
  have h2 := wh_mono (k := hex.choose) h
  rw [Nat.add_comm] at h2
  exact h1.symm.trans h2
theorem rs_while {t : MT} {mb : MS} {body : List Stmt} (hp : PassesOwn (model X.prog X.w) X.A X.env X.xe) (hc : RT X g W c t) (hb : RSs X g W body mb) : RS X g W (.While c body [] pos) (mWhile t mb) := by
  refine ps_le (ps_while hp hc hb) fun D σ H ⟨α, ρ, S, r, q⟩ => ?_
  unfold mWhile at q
  split at q
  · rename_i hex
    generalize hex.choose = n at q
    refine ⟨fun m σ' H' => ∃ α' ρ' S', Rl X.K g α' σ' H' ρ' S' ∧ SPost X.K g W α' H' D (whGo t mb m ρ' S'), ⟨n, α, ρ, S, r, q⟩, ?_⟩
    rintro m σ' H' ⟨α', ρ', S', r', q'⟩
    cases m with
    | zero => exact q'.elim
    | succ m =>
      unfold whGo at q'
      refine ⟨α', ρ', S', r', (then_post q').imp fun α1 H1 b S1 p1 k1 r1 q1 => ?_⟩
      replace q1 := q1 r1
      cases b with
      | false => rw [if_neg Bool.false_ne_true] at q1; show ite _ _ _; rw [if_neg Bool.false_ne_true]; exact q1 α1 σ' H1 (List.prefix_refl _) Kp.refl r1
      | true =>
        rw [if_pos rfl] at q1
        show ite _ _ _
        rw [if_pos rfl]
        exact ⟨_, fun _ _ w => ⟨m, Nat.lt_succ_self m, w⟩, α1, ρ', S1, r1, loop_post (fun ρ2 S2 α3 σ3 H3 p3 k3 r3 q3 => ⟨α3, ρ2, S2, r3, q3⟩) q1⟩
  · exact q.elim
end
end Pm
namespace Pm
open PySem L2
/-! ### comprehensions -/
def wipeP (ρ : PSt) : List Nat → PSt
  | [] => ρ
  | v :: vs => (wipeP ρ vs).set v none
abbrev W0 : WX := fun _ _ _ _ => False
/-- nothing is raised within -/
def Rs.sb {β γ : Type} (r : Rs β) (f : β → Sto → Rs γ) : Rs γ := match r with
  | .ok x S => f x S
  | _ => .bad
@[simp] theorem sb_ok {β γ : Type} {x : β} {S : Sto} {f : β → Sto → Rs γ} : (Rs.ok x S).sb f = f x S := rfl
section
variable {K : PySem.W.Frag} {g : Sg} {W : WX} {α : List Addr} {σ : St} {H : Hp} {ρ : PSt} {S : Sto}
theorem wipeP_length (ρ : PSt) : ∀ vs : List Nat, (wipeP ρ vs).length = ρ.length
  | [] => rfl
  | v :: vs => by unfold wipeP; rw [List.length_set, wipeP_length ρ vs]
theorem Rl.wipe (hz : g.sut = none) (r : Rl K g α σ H ρ S) : ∀ vs : List Nat, Rl K g α (L2.wipe σ vs) H (wipeP ρ vs) S
  | [] => r
  | v :: vs => by
    have r' := Rl.wipe hz r vs
    refine ⟨r'.obj, ?_, fun i x e => ?_, fun z e => by rw [hz] at e; cases e⟩
    · unfold wipeP L2.wipe
      rw [List.length_set, List.length_set]
      exact r'.len
    · unfold wipeP at e
      unfold L2.wipe
      by_cases h : v = i
      · subst h
        by_cases hl : v < (wipeP ρ vs).length
        · rw [List.getElem?_set_self hl] at e; cases e
        · rw [List.getElem?_eq_none (by simpa using hl)] at e; cases e
      · rw [List.getElem?_set_ne h] at e ⊢
        exact r'.loc i x e
theorem wipe_set {σ : St} {i : Nat} {o : Option V} : ∀ {vs : List Nat}, i ∈ vs → L2.wipe (σ.set i o) vs = L2.wipe σ vs
  | v :: vs, h => by
    unfold L2.wipe
    by_cases hv : i ∈ vs
    · rw [wipe_set hv]
    · have e : i = v := by
        rcases List.mem_cons.mp h with e | e
        · exact e
        · exact absurd e hv
      subst e
      have gen : ∀ (σ : St) (ws : List Nat), L2.wipe (σ.set i o) ws = if i ∈ ws then L2.wipe σ ws else (L2.wipe σ ws).set i o := by
        intro σ ws
        induction ws with
        | nil => simp [L2.wipe]
        | cons w ws ih =>
          unfold L2.wipe
          rw [ih]
          by_cases h1 : i ∈ ws
          · simp [h1]
          · by_cases h2 : i = w
            · subst h2; simp [h1]
            · simp [h1, h2]
              rw [List.set_comm _ _ h2]
      rw [gen, if_neg hv]
      simp
theorem wipe_setl {vs : List Nat} : ∀ {l : List (Nat × V)} {σ : St}, (∀ p ∈ l, p.1 ∈ vs) → L2.wipe (Pm.setl σ l) vs = L2.wipe σ vs
  | [], _, _ => rfl
  | p :: l, σ, h => by
    unfold Pm.setl
    rw [wipe_setl fun q hq => h q (List.mem_cons_of_mem _ hq), wipe_set (h p List.mem_cons_self)]
theorem wipe_wipe {σ : St} {vs : List Nat} : L2.wipe (L2.wipe σ vs) vs = L2.wipe σ vs := by
  have gen : ∀ (ws : List Nat) (σ : St), (∀ w ∈ ws, w ∈ vs) → L2.wipe (L2.wipe σ ws) vs = L2.wipe σ vs := by
    intro ws
    induction ws with
    | nil => intro σ _; rfl
    | cons w ws ih =>
      intro σ h
      show L2.wipe ((L2.wipe σ ws).set w none) vs = _
      rw [wipe_set (h w List.mem_cons_self), ih σ fun x hx => h x (List.mem_cons_of_mem _ hx)]
  exact gen vs σ fun _ h => h
/-- of what raises nothing -/
theorem Post.of_sb {β γ : Type} {P : List Addr → Hp → γ → Sto → Prop} {f : β → Sto → Rs γ} : ∀ {r : Rs β}, Post K g W α σ H ρ P (r.sb f) → Post K g W0 α σ H ρ (fun α' H' x S' => Rl K g α' σ H' ρ S' → Post K g W α' σ H' ρ P (f x S')) r
  | .ok _ _, h => fun _ _ p k _ _ => Post.mono p k h
  | .er _ _ _, h => h.elim
  | .bad, h => h
end
open Classical in
/-- the items of one generator, into the list at D -/
noncomputable def lcGo (raw : List (Nat × MO)) (t : MG) (tt : MT) (te : ME) (vs : List Nat) (D : Nat) (ρ : PSt) : List PV → Sto → Rs PV
  | [], S => if Chk raw S then .ok (.cell D) S else .bad
  | x :: xs, S => if Chk raw S then match t x S with
    | some l => if (∀ p ∈ l, p.1 ∈ vs) then
        (tt (setl (wipeP ρ vs) l) S).sb fun b S1 => if b = true then (te (setl (wipeP ρ vs) l) S1).sb fun y S2 => match S2[D]? with
          | some (.lst acc) => if acc.length < sizeLine then lcGo raw t tt te vs D ρ xs (S2.set D (.lst (acc ++ [y]))) else .bad
          | _ => .bad
        else lcGo raw t tt te vs D ρ xs S1
      else .bad
    | none => .bad
    else .bad
noncomputable def mLc (mi : MI) (t : MG) (tt : MT) (te : ME) (vs : List Nat) : ME := fun ρ S => (mi ρ S).bind fun it S1 => lcGo it.raw t tt te vs S1.length ρ it.items (S1 ++ [.lst []])
def mYes : MT := fun _ S => .ok true S
section
variable {X : Cx} {g : Sg} {W : WX} {a b c e tg iter elt : Expr} {es : List Expr} {m ma mb mc : ME} {mi : MI} {t : MG} {mt : MT} {pos p : Pos}
theorem pts_yes {g : Sg} : PTs X [] (tMT X.K g W0 mYes) := ⟨fun pins s σ H Q I ⟨α, ρ, S, r, q⟩ => pts_nil.run pins s σ H Q I (q.here r)⟩
theorem pts_if {g : Sg} (h : RT X g W0 c mt) : PTs X [c] (tMT X.K g W0 mt) := pts_one h
theorem lc_le {wi : TI} {own : List Nat} (hz : g.sut = none) (hi : ∀ σ H R, tMI X.K g W mi σ H R → wi σ H R) : ∀ σ H Q, tM X.K g W (mLc mi t mt m own) σ H Q → tLc wi (tMG X.K g t) (tMT X.K g W0 mt) (tM X.K g W0 m) own σ H Q := by
  intro σ H Q ⟨α, ρ, S, r, q⟩
  refine hi _ _ _ ⟨α, ρ, S, r, q.of_bind.imp fun α1 H1 it S1 p1 k1 r1 q1 J ok D hD => ?_⟩
  replace q1 := q1 r1
  have kp0 : Kp H1 (upd H1 D (.lst [])) := Kp.new hD
  have r0 : RlC X.K g (α1 ++ [D]) (upd H1 D (.lst [])) (S1 ++ [.lst []]) := r1.obj.new hD ⟨[], upd_same, .nil⟩
  have hD1 : (α1 ++ [D])[S1.length]? = some D := by rw [← r1.obj.len]; simp
  refine ⟨fun i n H' => ∃ α' S', α1 ++ [D] <+: α' ∧ Kp H1 H' ∧ RlC X.K g α' H' S' ∧ n = it.items.length - i ∧
    Post X.K g W α' σ H' ρ (fun α' H' x _ => ∀ v, Den X.K α' H' x v → Q v H') (lcGo it.raw t mt m own S1.length ρ (it.items.drop i) S'),
    ⟨_, α1 ++ [D], S1 ++ [.lst []], List.prefix_refl _, kp0, r0, rfl, ?_⟩, ?_⟩
  · rw [List.drop_zero]
    exact Post.mono (List.prefix_append _ _) kp0 q1
  · rintro i n H' ⟨α', S', pre, kp, r', rfl, q'⟩
    have preA : α1 <+: α' := (List.prefix_append _ _).trans pre
    have hD' : α'[S1.length]? = some D := by
      obtain ⟨u, rfl⟩ := pre
      rw [List.getElem?_append_left (List.getElem?_eq_some_iff.mp hD1).1]
      exact hD1
    have rl' : Rl X.K g α' σ H' ρ S' := r1.keep preA kp r'
    cases e : it.items[i]? with
    | none =>
      have hl : it.items.length ≤ i := List.getElem?_eq_none_iff.mp e
      rw [List.drop_of_length_le hl] at q'
      unfold lcGo at q'
      split at q'
      · rename_i ck
        exact .inl ⟨(ok α' H' S' preA kp r' ck i).2 hl, q'.here rl' _ (.cell hD')⟩
      · exact q'.elim
    | some x =>
      obtain ⟨hi', e'⟩ := List.getElem?_eq_some_iff.mp e
      rw [List.drop_eq_getElem_cons hi', e'] at q'
      unfold lcGo at q'
      split at q'
      · rename_i ck
        obtain ⟨go, yl⟩ := (ok α' H' S' preA kp r' ck i).1 x e
        split at q'
        · rename_i l el
          split at q'
          · rename_i hl
            refine .inr ⟨go, _, fun _ w => ⟨it.items.length - (i + 1), by omega, w⟩, fun v H2 hy => ?_⟩
            obtain ⟨dx, k2, r2⟩ := yl v H2 hy
            refine ⟨α', S', x, l, r2, dx, el, fun us hu => ?_⟩
            have hus : ∀ p ∈ us, p.1 ∈ own := fun p hp => by
              have h1 : p.1 ∈ us.map (·.1) := List.mem_map_of_mem hp
              rw [← hu.1] at h1
              obtain ⟨q, hq, e1⟩ := List.mem_map.mp h1
              rw [← e1]
              exact hl q hq
            refine ⟨by rw [wipe_setl hus, wipe_wipe], ?_⟩
            have rw2 : Rl X.K g α' (Pm.setl (L2.wipe σ own) us) H2 (setl (wipeP ρ own) l) S' := (Rl.wipe hz (rl'.keep (List.prefix_refl _) k2 r2) own).setl hu
            have q2 := Post.mono (List.prefix_refl α') k2 q'
            refine ⟨α', _, S', rw2, ?_⟩
            revert q2
            cases mt (setl (wipeP ρ own) l) S' with
            | er c fs S2 => exact fun q2 => q2.elim
            | bad => exact fun q2 => q2
            | ok b S2 =>
              intro q2 α3 H3 p3 k3 r3
              have q3 := Post.mono p3 k3 q2
              rw [sb_ok] at q3
              cases b with
              | false =>
                rw [if_neg Bool.false_ne_true] at q3
                show ite _ _ _
                rw [if_neg Bool.false_ne_true]
                exact ⟨α3, S2, pre.trans p3, (kp.trans k2).trans k3, r3.obj, rfl, q3⟩
              | true =>
                rw [if_pos rfl] at q3
                show ite _ _ _
                rw [if_pos rfl]
                refine ⟨α3, _, S2, r3, ?_⟩
                revert q3
                cases m (setl (wipeP ρ own) l) S2 with
                | er c fs S4 => exact fun q3 => q3.elim
                | bad => exact fun q3 => q3
                | ok y S4 =>
                  intro q3 α4 H4 p4 k4 r4 w dw
                  have q4 := Post.mono p4 k4 q3
                  rw [sb_ok] at q4
                  split at q4
                  · rename_i acc e4
                    split at q4
                    · rename_i hacc
                      have hD4 : α4[S1.length]? = some D := by
                        obtain ⟨u, hu4⟩ := (p3.trans p4)
                        rw [← hu4, List.getElem?_append_left (List.getElem?_eq_some_iff.mp hD').1]
                        exact hD'
                      obtain ⟨ws, hws, dws⟩ := r4.obj.at hD4 e4
                      have kp4 : Kp H4 (upd H4 D (.lst (ws ++ [w]))) := r4.obj.kset hD4 e4
                      refine ⟨ws, hws, by rw [← dws.length]; exact hacc, α4, _, pre.trans (p3.trans p4), (((kp.trans k2).trans k3).trans k4).trans kp4, r4.obj.set (o' := .lst (acc ++ [y])) hD4 e4 ⟨_, upd_same, ?_⟩, rfl, Post.mono (List.prefix_refl _) kp4 q4⟩
                      exact (dws.mono (List.prefix_refl _) kp4).append (.cons (dw.mono (List.prefix_refl _) kp4) .nil)
                    · exact q4.elim
                  · exact q4.elim
          · exact q'.elim
        · exact q'.elim
      · exact q'.elim
theorem re_lc {ifs : List Expr} {scope : Scope} {own : List (Str × Nat)} (hz : g.sut = none) (hc : X.calm = true) (hN : X.N.Nodup) (hi : RI X g W tg iter mi) (ok : BlkOk X.N X.env.scope scope own)
    (hg : ∀ (s : Shared) (H : Hp) (C : Addr) (cl : List (Str × Addr)) (fp : List Addr), RG (X.blk s H scope (compEnvC scope cl C X.env) fp) g tg t) (ht : ∀ (s : Shared) (H : Hp) (C : Addr) (cl : List (Str × Addr)) (fp : List Addr), PTs (X.blk s H scope (compEnvC scope cl C X.env) fp) ifs (tMT X.K g W0 mt))
    (he : ∀ (s : Shared) (H : Hp) (C : Addr) (cl : List (Str × Addr)) (fp : List Addr), RE (X.blk s H scope (compEnvC scope cl C X.env) fp) g W0 elt m) (hs : ∀ x, foldedSetIterable iter X.env x = pure x := by intro _; rfl) :
    RE X g W (.ListComp elt [⟨tg, iter, ifs, 0⟩] scope pos) (mLc mi t mt m (own.map (·.2))) :=
  pe_le (pe_lc (g := tMG X.K g t) (tt := tMT X.K g W0 mt) (te := tM X.K g W0 m) hc hN hi ok (fun s H C cl fp => hg s H C cl fp) (fun s H C cl fp => ht s H C cl fp) (fun s H C cl fp => he s H C cl fp) hs) (lc_le hz fun _ _ _ h => h)
theorem rs_setLc {i : Nat} {y : Str} {py spos : Pos} {ifs : List Expr} {scope : Scope} {own : List (Str × Nat)} (hz : g.sut = none) (hc : X.calm = true) (hN : X.N.Nodup) (hy : X.N[i]? = some y) (hyl : X.env.scope.names.lookup y = some .local)
    (hsw : swapsWith (.ListComp elt [⟨tg, iter, ifs, 0⟩] scope pos) (some (.Name y py)) spos.line X.env = pure true) (hi : RI X g W tg iter mi) (ok : BlkOk X.N X.env.scope scope own)
    (hg : ∀ (s : Shared) (H : Hp) (C : Addr) (cl : List (Str × Addr)) (fp : List Addr), RG (X.blk s H scope (compEnvC scope cl C X.env) fp) g tg t) (ht : ∀ (s : Shared) (H : Hp) (C : Addr) (cl : List (Str × Addr)) (fp : List Addr), PTs (X.blk s H scope (compEnvC scope cl C X.env) fp) ifs (tMT X.K g W0 mt))
    (he : ∀ (s : Shared) (H : Hp) (C : Addr) (cl : List (Str × Addr)) (fp : List Addr), RE (X.blk s H scope (compEnvC scope cl C X.env) fp) g W0 elt m) (hs : ∀ x, foldedSetIterable iter X.env x = pure x := by intro _; rfl) :
    RS X g W (.Assign [.Name y py] (.ListComp elt [⟨tg, iter, ifs, 0⟩] scope pos) spos) (mAsg (mLc mi t mt m (own.map (·.2))) (mgName i)) := by
  refine ps_le (ps_setLc (g := tMG X.K g t) (tt := tMT X.K g W0 mt) (te := tM X.K g W0 m) hc hN hy hyl hsw hi ok (fun s H C cl fp => hg s H C cl fp) (fun s H C cl fp => ht s H C cl fp) (fun s H C cl fp => he s H C cl fp) hs) fun D σ H ⟨α, ρ, S, r, q⟩ => ?_
  refine lc_le hz (fun _ _ _ h => h) _ _ _ ⟨α, ρ, S, r, (then_post q).imp fun α1 H1 x S1 p1 k1 r1 q1 v dv => ?_⟩
  exact q1 r1 α1 (σ.set i (some v)) H1 (List.prefix_refl _) Kp.refl (r1.set1 dv)
end
end Pm
namespace Pm
open PySem L2
/-! ### what nobody can reach any more is dropped -/
mutual
def clo (n : Nat) : PV → Bool
  | .tup xs => clos n xs
  | .rol xs => clos n xs
  | .cell c => decide (c < n)
  | _ => true
def clos (n : Nat) : List PV → Bool
  | [] => true
  | x :: xs => clo n x && clos n xs
end
def cloO (n : Nat) : MO → Bool
  | .lst xs => clos n xs
  | .dk kvs => clos n (kvs.map (·.2))
  | .dt kvs => clos n (kvs.map (·.2))
  | .ins _ fs => clos n (fs.map (·.2))
/-- the first n objects, where the values and these objects reach no others -/
def gcS (n : Nat) (vs : List PV) (S : Sto) : Sto := if clos n vs = true ∧ (S.take n).all (cloO n) = true then S.take n else S
section
variable {K : PySem.W.Frag} {g : Sg} {W : WX} {α α' : List Addr} {σ : St} {H : Hp} {ρ : PSt} {S : Sto} {n : Nat}
mutual
theorem Den.low : ∀ {x : PV} {v : V}, Den K α H x v → clo n x = true → Den K (α.take n) H x v
  | _, _, .non, _ => .non
  | _, _, .bl b, _ => .bl b
  | _, _, .int b, _ => .int b
  | _, _, .str b, _ => .str b
  | _, _, .tup h d, e => .tup h (Dens.low d (by simpa [clo] using e))
  | _, _, .rol h d, e => .rol h (Dens.low d (by simpa [clo] using e))
  | _, _, .cell h, e => .cell (by
      have hc := of_decide_eq_true (show decide _ = true from e)
      rw [List.getElem?_take_of_lt hc]
      exact h)
theorem Dens.low : ∀ {xs : List PV} {vs : List V}, Dens K α H xs vs → clos n xs = true → Dens K (α.take n) H xs vs
  | _, _, .nil, _ => .nil
  | _, _, .cons a b, e => by
    have e' := Bool.and_eq_true_iff.mp (show (clo n _ && clos n _) = true from e)
    exact .cons (Den.low a e'.1) (Dens.low b e'.2)
end
theorem Mob.low {a : Addr} : ∀ {o : MO}, Mob K g α H a o → cloO n o = true → Mob K g (α.take n) H a o
  | .lst _, ⟨vs, h, d⟩, e => ⟨vs, h, d.low e⟩
  | .dk _, ⟨ks, h, e1, d⟩, e => ⟨ks, h, e1, d.low e⟩
  | .dt _, ⟨ks, h, e1, d⟩, e => ⟨ks, h, e1, d.low e⟩
  | .ins _ _, ⟨C, dx, vfs, c, h, e1, d⟩, e => ⟨C, dx, vfs, c, h, e1, d.low e⟩
theorem RlC.low (r : RlC K g α H S) (h : (S.take n).all (cloO n) = true) : RlC K g (α.take n) H (S.take n) := by
  refine ⟨by simp [r.len], r.nd.sublist (List.take_sublist _ _), fun k a o h1 h2 => ?_, r.tab⟩
  have hk : k < n := by
    have := (List.getElem?_eq_some_iff.mp h1).1
    simp at this
    omega
  rw [List.getElem?_take_of_lt hk] at h1
  have ho := List.all_eq_true.mp h o (List.mem_of_getElem? h2)
  rw [List.getElem?_take_of_lt hk] at h2
  exact (r.cel k a o h1 h2).low ho
theorem gc_ok {α0 : List Addr} {vs : List PV} (pre : α0 <+: α) (hn : α0.length = n) (r : RlC K g α H S) : ∃ α', α0 <+: α' ∧ RlC K g α' H (gcS n vs S) ∧ ∀ us, Dens K α H vs us → Dens K α' H vs us := by
  unfold gcS
  split
  · rename_i h
    refine ⟨α.take n, ?_, r.low h.2, fun us d => d.low h.1⟩
    obtain ⟨t, rfl⟩ := pre
    rw [← hn]
    simp
  · exact ⟨α, pre, r, fun us d => d⟩
end

/-! ### defs -/
def FPost (K : PySem.W.Frag) (g : Sg) (α : List Addr) (H : Hp) (Q : VK) (E : XK) : Rs PV → Prop
  | .ok x S' => ∀ α' H' v, α <+: α' → Kp H H' → RlC K g α' H' S' → Den K α' H' x v → Q v H'
  | .er c fs S' => ∀ α' H' C d, α <+: α' → Kp H H' → RlC K g α' H' S' → g.exc c = some C → XF K α' H' d fs → E (.ref C) (some d) H'
  | .bad => False
/-- the promise of a def that m tells -/
def spM (K : PySem.W.Frag) (g : Sg) (np : Nat) (m : MF) : Sp := fun vs H Q E => ∃ α ps S, RlC K g α H S ∧ Dens K α H ps vs ∧ ps.length = np ∧ FPost K g α H Q E (m ps S)
/-- a def of np parameters and n names -/
def callD (np n : Nat) (b : MS) : MF := fun ps S => if ps.length = np then
    match b (ps.map some ++ List.replicate (n - ps.length) none) S with
    | .rt x S' => .ok x (gcS S.length [x] S')
    | .nx _ S' => .ok .non (gcS S.length [] S')
    | .er c fs _ S' => .er c fs (gcS S.length (fs.map (·.2)) S')
    | _ => .bad
  else .bad
theorem Dens.single {K : PySem.W.Frag} {α : List Addr} {H : Hp} {x : PV} {v : V} (d : Den K α H x v) : Dens K α H [x] [v] := .cons d .nil
theorem body_ok {X : Cx} {g : Sg} {E : XK} {body : List Stmt} {b : MS} {ps : List PV} {vs : List V} {α : List Addr} {H : Hp} {S : Sto} {Q : VK} {n : Nat}
    (hz : g.sut = none) (r : RlC X.K g α H S) (d : Dens X.K α H ps vs) (q : FPost X.K g α H Q E (callD ps.length n b ps S)) :
    tMS X.K g (fun cls d _ H' => E cls d H') b { nx := fun _ H' => Q .non H', rt := Q } (vs.map some ++ List.replicate (n - vs.length) none) H := by
  refine ⟨α, ps.map some ++ List.replicate (n - ps.length) none, S, ⟨r, by simp [d.length], fun i x e => ?_, fun z e => by rw [hz] at e; cases e⟩, ?_⟩
  · by_cases hi : i < ps.length
    · rw [List.getElem?_append_left (by simpa using hi), List.getElem?_map] at e
      obtain ⟨y, hy, e1⟩ := Option.map_eq_some_iff.mp e
      cases e1
      obtain ⟨v, hv, dv⟩ := d.get hy
      exact ⟨v, by rw [List.getElem?_append_left (by simpa [← d.length] using hi), List.getElem?_map, hv]; rfl, dv⟩
    · rw [List.getElem?_append_right (by simpa using hi), List.getElem?_replicate] at e
      split at e <;> cases e
  · unfold callD at q
    rw [if_pos rfl] at q
    revert q
    cases b (ps.map some ++ List.replicate (n - ps.length) none) S with
    | rt x S' =>
      intro q α' H' v p k r' dv
      obtain ⟨α2, p2, r2, f⟩ := gc_ok (vs := [x]) p r.len r'
      cases f _ (Dens.single dv) with
      | cons dv2 _ => exact q α2 H' v p2 k r2 dv2
    | nx ρ' S' =>
      intro q α' σ' H' p k r'
      obtain ⟨α2, p2, r2, f⟩ := gc_ok (vs := []) p r.len r'.obj
      exact q α2 H' .non p2 k r2 .non
    | er c fs ρ' S' =>
      intro q α' σ' H' C dd p k r' e ⟨vfs, x1, x2, x3⟩
      obtain ⟨α2, p2, r2, f⟩ := gc_ok (vs := fs.map (·.2)) p r.len r'.obj
      exact q α2 H' C dd p2 k r2 e ⟨vfs, x1, x2, f _ x3⟩
    | bk ρ' S' => exact fun q => q.elim
    | ct ρ' S' => exact fun q => q.elim
    | bad => exact fun q => q.elim
theorem takes_no {X : Cx} : Takes X W0 := fun u s' ⟨_, _, _, _, _, _, _, _, _, _, _, _, _, _, _, _, w⟩ => w.elim
section
variable {P : Program} {w : World} {K : PySem.W.Frag} {mg : Str → Option Value} {base : Heap} {g : Sg}
theorem fn_m {x qual : Str} {st : Stmt} {f : Addr} {fd : FuncData} {N ps : List Str} {k np : Nat} {b : MS} (hz : g.sut = none) (F : Fun K x qual st f fd) (S : FnScope N ps (defScope st)) (hnp : ps.length = np)
    (hb : ∀ (cdv : Value) (A : Around) (outer : List Env) (s : Shared) (H : Hp) (E : XK), Room k (A.deeper (PyProof.Rows.envOfC qual (defScope st) s.heap.objs.size f cdv)) →
      RSs (cxOf (L2.CX P w) P w K mg base N qual (defScope st) f cdv A outer s H E) g (fun cls d _ H' => E cls d H') (defBody st) b) :
    FnOk P w K mg base (L2.CX P w) (k + 1) f fd ps (spM K g np (callD np N.length b)) := by
  obtain ⟨oc, od, kV, doc, pm, an, cdv, ct, osl, rfl, lk, hcd⟩ := F.ex
  refine L2.fn_of lk hcd S (fun vs H Q E h => ?_) fun A outer s H vs Q E hr h => ⟨_, hb cdv A outer s H E hr, ?_⟩
  · obtain ⟨α, qs, S', r, d, hl, q⟩ := h
    rw [← d.length, hl, hnp]
  · obtain ⟨α, qs, S', r, d, hl, q⟩ := h
    subst hl
    exact body_ok (X := cxOf (L2.CX P w) P w K mg base N qual (defScope st) f cdv A outer s H E) (body := defBody st) hz r d q
theorem fn_mC {x qual : Str} {st : Stmt} {f : Addr} {fd : FuncData} {N ps : List Str} {k np : Nat} {b : MS} {c : Addr} (hz : g.sut = none) (F : Fun K x qual st f fd) (hc : fd.code = .ref c) (S : FnScope N ps (defScope st)) (hnp : ps.length = np)
    (hb : ∀ (A : Around) (outer : List Env) (s : Shared) (H : Hp) (E : XK), Room k (A.deeper (PyProof.Rows.envOfC qual (defScope st) s.heap.objs.size f (.ref c))) →
      RSs (cxOf (L2.CX P w) P w K mg base N qual (defScope st) f (.ref c) A outer s H E) g (fun cls d _ H' => E cls d H') (defBody st) b) :
    FnOk P w K mg base (L2.CX P w) (k + 1) f fd ps (spM K g np (callD np N.length b)) := by
  obtain ⟨oc, od, kV, doc, pm, an, cdv, ct, osl, rfl, lk, hcd⟩ := F.ex
  have e : cdv = .ref c := hc
  subst e
  refine L2.fn_of lk hcd S (fun vs H Q E h => ?_) fun A outer s H vs Q E hr h => ⟨_, hb A outer s H E hr, ?_⟩
  · obtain ⟨α, qs, S', r, d, hl, q⟩ := h
    rw [← d.length, hl, hnp]
  · obtain ⟨α, qs, S', r, d, hl, q⟩ := h
    subst hl
    exact body_ok (X := cxOf (L2.CX P w) P w K mg base N qual (defScope st) f (.ref c) A outer s H E) (body := defBody st) hz r d q
end

/-! ### calls of defs -/
section
variable {X : Cx} {g : Sg} {W : WX} {a b c e o : Expr} {es : List Expr} {m ma mb mo : ME} {ms : MA} {pos p apos : Pos} {np k : Nat} {f : Addr} {fd : FuncData} {ps : List Str} {mf : MF} {x : Str}
theorem call_post {α : List Addr} {σ : St} {H : Hp} {ρ : PSt} {S : Sto} {Q : VK} {r : Rs PV} (rl : Rl X.K g α σ H ρ S)
    (q : Post X.K g W α σ H ρ (fun α' H' x _ => ∀ v, Den X.K α' H' x v → Q v H') r) : FPost X.K g α H Q (WE W σ) r := by
  cases r with
  | ok x S' => exact fun α' H' v p k r' d => q α' H' p k (rl.keep p k r') v d
  | er c fs S' => exact fun α' H' C d p k r' e x => q α' H' C d p k (rl.keep p k r') e x
  | bad => exact q
/-- a call with the right number of arguments -/
def mApp (np : Nat) (mf : MF) (ms : MA) : ME := fun ρ S => (ms ρ S).bind fun xs S1 => if xs.length = np then mf xs S1 else .bad
theorem re_call (F : FnOk X.prog X.w X.K X.mg X.base (L2.CX X.prog X.w) k f fd ps (spM X.K g np mf)) (hr : Room k X.A) (hg : Gl X x) (hm : X.mg x = some (.ref f)) (hk : PySem.W.keepIn X.K (.ref f) = true) (hb : Binds X.K fd ps []) (tk : Takes X W)
    (ha : RA X g W (e :: es) ms) (hdb : (x == ("__debug__" : Str)) = false := by decide) (he : starEach (e :: es) X.env = (false, eval e X.env) :: starEach es X.env := by rfl) (hpl : (backTo pos (starEach es X.env)).any (·.1) = false := by rfl) :
    RE X g W (.Call (.Name x p) (e :: es) [] pos) (mApp np mf ms) := by
  refine pe_le (pe_callS F hr hg hm hk hb (fun σ => passAt tk σ) ha hdb he hpl) fun σ H Q ⟨α, ρ, S, r, q⟩ => ?_
  refine ⟨α, ρ, S, r, q.of_bind.imp fun α1 H1 xs S1 p1 k1 r1 q1 vs dvs => ?_⟩
  replace q1 := q1 r1
  split at q1
  · rename_i hl
    exact ⟨α1, xs, S1, r1.obj, dvs, hl, call_post r1 q1⟩
  · exact q1.elim
end
end Pm
namespace Odds
open PySem L2
/-! ### isinstance of the exception that a suite holds, one with its own dict -/
structure ExcD (K : PySem.W.Frag) (D : Addr) : Prop where
  hg : PySem.W.findIn K (.ref D) "__getattribute__" = some (some (.builtin "BaseException.__getattribute__"))
  hk : PySem.W.findIn K (.ref D) "__getattr__" = some none
  hs : PySem.W.subIn K (.ref D) (.type "BaseException") = some true
  hd : PySem.W.isClsIn K D = true
  ha : PySem.W.findIn K (.ref D) "__class__" = some (some (.builtin "object.__class__"))
  hn : PySem.W.specialIn K (.builtin "object.__class__") "__get__" = some (some (.builtin "getset_descriptor.__get__"))
  ht : PySem.W.takesIn K (.builtin "object.__class__") = some true
  hm : PySem.W.mroIn K D (.type "object") = some true
def rIsX (K : PySem.W.Frag) (D a : Addr) (cls : Value) (d : Option Addr) : List V → Hp → VK → Prop := fun xs H Q => ∃ (dd : Addr) (fs : List (Str × V)) (c : V) (cv : Value) (b : Bool), cls = .ref D ∧ d = some dd ∧ H dd = some (.xd fs) ∧
  xs = [.ref a, c] ∧ (∀ u, RelV c u → u = cv) ∧ PySem.W.kitOne K (.ref D) cv = some b ∧ Q (.bl b) H
theorem call_isX {X : Cx} {a D : Addr} {d : Option Addr} {cls : Value} {oe : Obj} {pn : List (Addr × Obj)} (C : ExcD X.K D) (hz : Zc cls d oe) (hf : ∃ vs, oe.data = .fields vs) :
    CallR (X.suite a ((a, oe) :: pn)) (.builtin "isinstance") (rIsX X.K D a cls d) := by
  intro pins s σ H xs us Q I r h
  obtain ⟨dd, fs, c, cv, b, rfl, rfl, ea, rfl, hcv, e, q⟩ := h
  cases r with
  | cons rx rr =>
    cases rr with
    | cons rt rr =>
      cases rr
      cases rx
      have ec := hcv _ rt
      subst ec
      obtain ⟨hget, _⟩ := I.pin (a, oe) (List.mem_append.mpr (.inl List.mem_cons_self))
      obtain ⟨vs, hv⟩ := hf
      have hx : ObjOk X.prog X.w H s.heap dd (.xd fs) := I.hok dd _ ea
      obtain ⟨mA, hns, hr⟩ := hx
      obtain ⟨od, ho, hl⟩ := lookIn_ns hns
      have J : PySem.W.InstAt s.heap a oe D (some od) := ⟨hget, hz.1, by unfold PySem.W.notCls; rw [hv] <;> rfl, by rw [hz.2]; exact ho⟩
      exact PySem.W.kia_one (PySem.W.kitx_exc C.hd C.hg C.hk C.hs C.ha C.hn C.ht C.hm) I.kIn J e (fun z => nomatch z) fun tk => ⟨.bl b, H, I.kept (t' := tk) fun _ _ z => z, rfl, q⟩
theorem boot_VE : bootBuiltins "ValueError" = some (.type "ValueError") := by decide +kernel
theorem kit_own {K : PySem.W.Frag} {C O : Addr} (h1 : PySem.W.isClsIn K O = true) (h2 : PySem.W.typeIn K (.ref O) = some (.type "type")) (h3 : PySem.W.subIn K (.ref C) (.ref O) = some true) : PySem.W.kitOne K (.ref C) (.ref O) = some true := by
  unfold PySem.W.kitOne
  split
  · rfl
  · have e2 : ((PySem.W.clsIn K O).isSome && PySem.W.typeIn K (.ref O) == some (.type "type")) = true := by
      have h1' : (PySem.W.clsIn K O).isSome = true := h1
      rw [h1', h2] <;> rfl
    show (if ((PySem.W.clsIn K O).isSome && PySem.W.typeIn K (.ref O) == some (.type "type")) = true then PySem.W.subIn K (.ref C) (.ref O) else none) = some true
    rw [if_pos e2]
    exact h3
theorem kit_VE {K : PySem.W.Frag} {C : Addr} (h3 : PySem.W.subIn K (.ref C) (.type "ValueError") = some true) : PySem.W.kitOne K (.ref C) (.type "ValueError") = some true := by
  unfold PySem.W.kitOne
  split
  · rfl
  · show (if PySem.W.kitMeta "ValueError" = true then PySem.W.subIn K (.ref C) (.type "ValueError") else none) = some true
    rw [if_pos (by decide +kernel)]
    exact h3
/-- math.isqrt -/
def rIsqrt : List V → Hp → VK → Prop := fun vs H Q => ∃ n : Int, vs = [.int n] ∧ 0 ≤ n ∧ n.natAbs < 2 ^ 13000 ∧ ∀ r : Int, 0 ≤ r → r * r ≤ n → n < (r + 1) * (r + 1) → Q (.int r) H
theorem cr_isqrt {X : Cx} : CallR X (.builtin "math.isqrt") rIsqrt := by
  intro pins s σ H vs us Q I r h
  obtain ⟨n, rfl, h0, hb, q⟩ := h
  cases r with
  | cons r1 rn =>
    cases rn
    obtain ⟨t, rfl⟩ := r1
    have e : n.toNat = n.natAbs := by omega
    have hl : n.toNat.log2 < 13000 := by
      rw [e]
      by_cases z : n.natAbs = 0
      · rw [z]; decide
      · exact (Nat.log2_lt z).mpr hb
    have sp := PySem.Float64.isqrt_spec n.toNat
    refine PySem.call_function_meets PySem.W.MGF.kind_isqrt PySem.W.MGF.plain_isqrt PySem.W.MGF.entry_isqrt (PySem.W.MGF.args_isqrt _) (PySem.W.mg_run_isqrt n t (by omega) (by omega) (by omega)).meets ?_
    refine ⟨.int _, H, I.tok _, ⟨_, rfl⟩, q _ (by omega) ?_ ?_⟩
    · have := sp.1
      rw [← Int.natCast_mul]
      omega
    · have h2 := sp.2
      have e2 : (((PySem.Float64.isqrt n.toNat : Nat) : Int) + 1) * (((PySem.Float64.isqrt n.toNat : Nat) : Int) + 1) = (((PySem.Float64.isqrt n.toNat + 1) * (PySem.Float64.isqrt n.toNat + 1) : Nat) : Int) := by
        rw [Int.natCast_mul]
        rfl
      rw [e2]
      omega

end Odds
namespace Odds
open PySem
theorem mg_run_gcd3 (a : Int) (t : Tok) (b : Int) (u : Tok) (c : Int) (v : Tok) : Gives (Builtin.«math.gcd» { pos := [.int a t, .int b u, .int c v] }) (Made.int ↑(((Nat.gcd 0 a.natAbs).gcd b.natAbs).gcd c.natAbs)) := by
  refine Gives.of_wp ?_
  intro M A E s Q h
  simp only [Made.post] at h
  unfold Builtin.«math.gcd»
  wp_walk
  exact ⟨_, rfl, h⟩
/-- math.gcd of three -/
def rGcd3 : List L2.V → L2.Hp → L2.VK → Prop := fun vs H Q => ∃ a b c : Int, vs = [.int a, .int b, .int c] ∧ Q (.int ((Nat.gcd (Nat.gcd a.natAbs b.natAbs) c.natAbs : Nat) : Int)) H
theorem cr_gcd3 {X : L2.Cx} : L2.CallR X (.builtin "math.gcd") rGcd3 := by
  intro pins s σ H vs us Q I r h
  obtain ⟨a, b, c, rfl, q⟩ := h
  cases r with
  | cons r1 rn =>
    cases rn with
    | cons r2 rn =>
      cases rn with
      | cons r3 rn =>
        cases rn
        obtain ⟨t, rfl⟩ := r1
        obtain ⟨u, rfl⟩ := r2
        obtain ⟨v, rfl⟩ := r3
        refine PySem.call_function_meets PySem.W.MGF.kind_gcd PySem.W.MGF.plain_gcd PySem.W.MGF.entry_gcd (show argsOk "math.gcd" _ from rfl) (mg_run_gcd3 a t b u c v).meets ?_
        rw [Nat.gcd_zero_left]
        exact ⟨.int _, H, I.tok _, ⟨_, rfl⟩, q⟩
end Odds
namespace Pm
open PySem L2
/-! ### raise -/
/-- __init__ stores its arguments under these names, the last one first -/
def spIni (C : Addr) (ns : List Str) : Sp := fun vs H Q _ => ∃ (a : Addr) (zs : List V), vs = .ref a :: zs ∧ zs.length = ns.length ∧ H a = some (exo a C none) ∧
  ∀ dx H', H dx = none → dx ≠ a → H' a = some (exo a C (some dx)) → H' dx = some (exd dx (ns.zip zs).reverse) → (∀ b, b ≠ a → b ≠ dx → H' b = H b) → Q .non H'
def mRaise (c : Str) (ns : List Str) (ms : MA) : MS := fun ρ S => (ms ρ S).ot ρ fun xs S1 => if xs.length = ns.length then .er c (ns.zip xs).reverse ρ S1 else .bad
section
variable {X : Cx} {g : Sg} {W : WX} {a b c e : Expr} {es : List Expr} {m ma mb mc : ME} {ms : MA} {pos p : Pos}
theorem zip_fst {β : Type} : ∀ {ns : List Str} {xs : List β}, xs.length = ns.length → (ns.zip xs).map (·.1) = ns
  | [], [], _ => rfl
  | n :: ns, x :: xs, h => by simp [zip_fst (ns := ns) (xs := xs) (by simpa using h)]
  | [], _ :: _, h => by simp at h
  | _ :: _, [], h => by simp at h
theorem zip_snd {β : Type} : ∀ {ns : List Str} {xs : List β}, xs.length = ns.length → (ns.zip xs).map (·.2) = xs
  | [], [], _ => rfl
  | n :: ns, x :: xs, h => by simp [zip_snd (ns := ns) (xs := xs) (by simpa using h)]
  | [], _ :: _, h => by simp at h
  | _ :: _, [], h => by simp at h
theorem rs_raise {C : Addr} {cn : Str} {ns : List Str} (hc : X.calm = true) (tk : Takes X W) (hC : g.exc cn = some C) (hn : ns.length ≤ 9) (mk : ∀ {ta : TA}, PA X es ta → PMk X e (tMkO C (spIni C ns) [] ta)) (ha : RA X g W es ms) : RS X g W (.Raise (some e) none pos) (mRaise cn ns ms) := by
  refine ps_le (ps_raise hc tk (mk ha)) fun D σ H ⟨α, ρ, S, r, q⟩ => ?_
  refine ⟨α, ρ, S, r, (then_post q).imp fun α1 H1 xs S1 p1 k1 r1 q1 vs dvs => ?_⟩
  replace q1 := q1 r1
  split at q1
  · rename_i hl
    refine ⟨by rw [← dvs.length, hl]; omega, fun a0 ha0 => ⟨a0, vs, by simp, by rw [← dvs.length, hl], upd_same, fun dx H2 h1 h2 h3 h4 h5 => ⟨rfl, dx, _, h3, h4, ?_, ?_⟩⟩⟩
    · rw [upd_ne h2] at h1
      exact h1
    · rw [upd_ne h2] at h1
      have st : ∀ b u, H1 b = some u → upd (del H2 a0) dx (.xd (ns.zip vs).reverse) b = some u := fun b u e => by
        have b1 : b ≠ dx := ne_of_none e h1
        have b2 : b ≠ a0 := ne_of_none e ha0
        rw [upd_ne b1, del_ne b2, h5 b b2 b1, upd_ne b2]
        exact e
      have kp : Kp H1 (upd (del H2 a0) dx (.xd (ns.zip vs).reverse)) := fun b u e _ => st b u e
      refine q1 α1 σ _ C dx (List.prefix_refl _) kp (r1.keep (List.prefix_refl _) kp (r1.obj.same st)) hC ⟨_, upd_same, ?_, ?_⟩
      · rw [List.map_reverse, List.map_reverse, zip_fst hl, zip_fst (by rw [← dvs.length, hl])]
      · rw [List.map_reverse, List.map_reverse, zip_snd hl, zip_snd (by rw [← dvs.length, hl])]
        exact (dvs.mono (List.prefix_refl _) kp).reverse
  · exact q1.elim
end
section
variable {P : Program} {w : World} {K : PySem.W.Frag} {mg : Str → Option Value} {base : Heap}
/-- __init__ of one, two, three fields -/
theorem ini1 {C fI : Addr} {fdI : FuncData} {qual : Str} {st : Stmt} {n1 : Str} {p1 : Str} (O : OexC K C) (no1 : PySem.W.findIn K (.ref C) n1 = some none) (F : Fun K "__init__" qual st fI fdI) (S : FnScope ["self", p1] ["self", p1] (defScope st))
    (hb : ∀ (cdv : Value) (A : Around) (outer : List Env) (s : Shared) (H : Hp) (E : XK), PSs (cxOf CX0 P w K mg base ["self", p1] qual (defScope st) fI cdv A outer s H E).nox (defBody st) (tOst K n1 (tVar 0) (tVar 1))) :
    FnOk P w K mg base CX0 1 fI fdI ["self", p1] (spIni C [n1]) := by
  refine F.ok S (fun vs H Q E h => ?_) (fun cdv A outer s H vs Q E hr h => ?_)
  · obtain ⟨a, zs, rfl, hl, _⟩ := h
    simp [hl]
  · obtain ⟨a, zs, rfl, hl, ha, k⟩ := h
    rcases zs with _ | ⟨z1, _ | ⟨z2, zs⟩⟩ <;> first | (cases hl; done) | skip
    refine ⟨_, hb cdv A outer s H E, ?_⟩
    refine ⟨_, rfl, _, rfl, a, C, rfl, O, no1, .inl ⟨ha, fun dx h1 h2 => ?_⟩⟩
    exact k dx _ h1 h2 upd_same (by rw [upd_ne h2, upd_same]; rfl) fun b b1 b2 => by rw [upd_ne b1, upd_ne b2]
theorem ini2 {C fI : Addr} {fdI : FuncData} {qual : Str} {st : Stmt} {n1 n2 : Str} {p1 p2 : Str} (O : OexC K C) (no1 : PySem.W.findIn K (.ref C) n1 = some none) (no2 : PySem.W.findIn K (.ref C) n2 = some none) (F : Fun K "__init__" qual st fI fdI) (S : FnScope ["self", p1, p2] ["self", p1, p2] (defScope st))
    (hb : ∀ (cdv : Value) (A : Around) (outer : List Env) (s : Shared) (H : Hp) (E : XK), PSs (cxOf CX0 P w K mg base ["self", p1, p2] qual (defScope st) fI cdv A outer s H E).nox (defBody st) (tSeq (tOst K n1 (tVar 0) (tVar 1)) (tOst K n2 (tVar 0) (tVar 2)))) :
    FnOk P w K mg base CX0 1 fI fdI ["self", p1, p2] (spIni C [n1, n2]) := by
  refine F.ok S (fun vs H Q E h => ?_) (fun cdv A outer s H vs Q E hr h => ?_)
  · obtain ⟨a, zs, rfl, hl, _⟩ := h
    simp [hl]
  · obtain ⟨a, zs, rfl, hl, ha, k⟩ := h
    rcases zs with _ | ⟨z1, _ | ⟨z2, _ | ⟨z3, zs⟩⟩⟩ <;> first | (cases hl; done) | skip
    refine ⟨_, hb cdv A outer s H E, ?_⟩
    refine ⟨_, rfl, _, rfl, a, C, rfl, O, no1, .inl ⟨ha, fun dx h1 h2 => ?_⟩⟩
    refine ⟨_, rfl, _, rfl, a, C, rfl, O, no2, .inr ⟨dx, _, upd_same, by rw [upd_ne h2, upd_same], by show 1 ≤ 900; decide, ?_⟩⟩
    exact k dx _ h1 h2 (by rw [upd_ne (Ne.symm h2), upd_same]) (by rw [upd_same]; rfl) fun b b1 b2 => by rw [upd_ne b2, upd_ne b1, upd_ne b2]
end

/-! ### a suite's exception -/
def mXf (c0 : Str) (fs : List (Str × PV)) (i : Nat) (c n : Str) : ME := fun ρ S => match ρ[i]? with
  | some none => if c0 = c then match fs.lookup n with
    | some x => .ok x S
    | none => .bad
    else .bad
  | _ => .bad
def mIsX (c0 : Str) (i : Nat) (t : Str → Bool) : ME := fun ρ S => match ρ[i]? with
  | some none => .ok (.bl (t c0)) S
  | _ => .bad
theorem lookup_den {K : PySem.W.Frag} {α : List Addr} {H : Hp} {n : Str} {x : PV} : ∀ {fs : List (Str × PV)} {vfs : List (Str × V)}, fs.map (·.1) = vfs.map (·.1) → Dens K α H (fs.map (·.2)) (vfs.map (·.2)) → fs.lookup n = some x → ∃ v, vfs.lookup n = some v ∧ Den K α H x v
  | [], _, _, _, e => by cases e
  | _ :: _, [], h, _, _ => by cases h
  | (a, y) :: fs, (b, v) :: vfs, h, d, e => by
    simp only [List.map_cons, List.cons.injEq] at h
    obtain ⟨rfl, h⟩ := h
    cases d with
    | cons d ds =>
      unfold List.lookup at e ⊢
      split at e
      · cases e
        exact ⟨v, rfl, d⟩
      · exact lookup_den h ds e
section
variable {X : Cx} {g : Sg} {W : WX} {e e1 e2 ca : Expr} {pos p : Pos} {a C : Addr} {oe : Obj} {cls : Value} {d : Option Addr} {pn : List (Addr × Obj)} {i : Nat} {c0 cn n : Str} {fs : List (Str × PV)}
/-- the signature within the suite -/
def Sg.inS (g : Sg) (z : Sut) : Sg := { g with sut := some z }
theorem RlC.inS {K : PySem.W.Frag} {z : Sut} {α : List Addr} {H : Hp} {S : Sto} (r : RlC K g α H S) : RlC K (g.inS z) α H S :=
  ⟨r.len, r.nd, fun n a o h1 h2 => by cases o <;> exact r.cel n a _ h1 h2, r.tab⟩
theorem RlC.outS {K : PySem.W.Frag} {z : Sut} {α : List Addr} {H : Hp} {S : Sto} (r : RlC K (g.inS z) α H S) : RlC K g α H S :=
  ⟨r.len, r.nd, fun n a o h1 h2 => by have := r.cel n a o h1 h2; cases o <;> exact this, r.tab⟩
theorem re_xf (T : XfC X.K C) (hC : g.exc cn = some C) (hno : PySem.W.findIn X.K (.ref C) n = some none) (hz : Zc cls d oe) (hf : ∃ vs, oe.data = .fields vs)
    (he : PE (X.suite a ((a, oe) :: pn)) e (tVar i)) (hb : attributeBase e n X.env (eval e X.env) = eval e X.env := by rfl) : RE (X.suite a ((a, oe) :: pn)) (g.inS ⟨i, a, cls, d, c0, fs⟩) W (.Attribute e n pos) (mXf c0 fs i cn n) := by
  refine pe_le (pe_xf T hno hz hf he hb) fun σ H Q ⟨α, ρ, S, r, q⟩ => ?_
  simp only [mXf] at q
  split at q
  · rename_i hi
    split at q
    · rename_i ec
      split at q
      · rename_i x ex
        subst ec
        obtain ⟨h1, C', dd, h2, h3, h4, vfs, h5, h6, h7⟩ := r.sut _ rfl hi
        have h3' : g.exc c0 = some C' := h3
        rw [hC] at h3'
        cases h3'
        obtain ⟨v, hv, dv⟩ := lookup_den h6 h7 ex
        exact ⟨_, h1, rfl, h2, dd, vfs, v, h4, h5, hv, q.here r v dv⟩
      · exact q.elim
    · exact q.elim
  · exact q.elim
def rIsXs (K : PySem.W.Frag) (a : Addr) (cls : Value) (d : Option Addr) : List V → Hp → VK → Prop := fun xs H Q => ∃ D, Odds.ExcD K D ∧ Odds.rIsX K D a cls d xs H Q
theorem call_isXs (hz : Zc cls d oe) (hf : ∃ vs, oe.data = .fields vs) : CallR (X.suite a ((a, oe) :: pn)) (.builtin "isinstance") (rIsXs X.K a cls d) := by
  intro pins s σ H xs us Q I r ⟨D, h1, h2⟩
  exact Odds.call_isX h1 hz hf pins s σ H xs us Q I r h2
theorem re_isX {vc : V} {cv : Value} {t : Str → Bool} (hz : Zc cls d oe) (hf : ∃ vs, oe.data = .fields vs) (hE : ∀ c C, g.exc c = some C → Odds.ExcD X.K C ∧ PySem.W.kitOne X.K (.ref C) cv = some (t c)) (hvc : ∀ u, RelV vc u → u = cv)
    (call : ∀ {r : List V → Hp → VK → Prop} {ta : TA}, CallR (X.suite a ((a, oe) :: pn)) (.builtin "isinstance") r → PA (X.suite a ((a, oe) :: pn)) [e1, e2] ta → PE (X.suite a ((a, oe) :: pn)) ca (tCB r ta))
    (h1 : PE (X.suite a ((a, oe) :: pn)) e1 (tVar i)) (h2 : PE (X.suite a ((a, oe) :: pn)) e2 (tC vc))
    (hs1 : starEach [e1, e2] X.env = (false, eval e1 X.env) :: starEach [e2] X.env := by rfl) (hs2 : starEach [e2] X.env = (false, eval e2 X.env) :: starEach [] X.env := by rfl) :
    RE (X.suite a ((a, oe) :: pn)) (g.inS ⟨i, a, cls, d, c0, fs⟩) W ca (mIsX c0 i t) := by
  refine pe_le (call (call_isXs hz hf) (pa_cons h1 (pa_cons h2 pa_nil hs2) hs1)) fun σ H Q ⟨α, ρ, S, r, q⟩ => ?_
  simp only [mIsX] at q
  split at q
  · rename_i hi
    obtain ⟨h1, C', dd, h2, h3, h4, vfs, h5, h6, h7⟩ := r.sut _ rfl hi
    obtain ⟨k1, k2⟩ := hE c0 C' h3
    exact ⟨_, h1, C', k1, dd, vfs, vc, cv, t c0, h2, h4, h5, rfl, hvc, k2, q.here r _ (.bl _)⟩
  · exact q.elim
def mTryAs (i : Nat) (hit : Str → Bool) (b : MS) (su : Str → List (Str × PV) → MS) : MS := fun ρ S => match b ρ S with
  | .er c fs ρ' S' => if hit c = true then match su c fs (ρ'.set i none) S' with
    | .rt x S2 => .rt x S2
    | _ => .bad
    else .er c fs ρ' S'
  | o => o
theorem rs_tryAs {x n : Str} {cv : Value} {body suite : List Stmt} {b₀ : Stmt} {np pos' : Pos} {mb : MS} {su : Str → List (Str × PV) → MS} {hit : Str → Bool}
    (hgz : g.sut = none) (hs : X.stack = X.env :: X.outer) (hf : X.env.frame = some X.env.locals) (hN : X.N.Nodup) (hi : X.N[i]? = some n) (hln : X.env.kindOf n = some .local) (hc : Names X x cv) (tk : Takes X W)
    (hex : ∀ c C, g.exc c = some C → PySem.W.exmOne X.K (.ref C) cv = some (hit c))
    (hb : ∀ (W : WX) (pn : List (Addr × Obj)) (xe : Value → Shared → Prop), Takes (X.tr pn xe) W → PassesOwn (model X.prog X.w) X.A X.env xe → RSs (X.tr pn xe) g W body mb)
    (hsu : ∀ (a : Addr) (oe : Obj) (cls : Value) (d : Option Addr) (pn : List (Addr × Obj)) (c : Str) (fs : List (Str × PV)), Zc cls d oe → (∃ vs, oe.data = .fields vs) → RSs (X.suite a ((a, oe) :: pn)) (g.inS ⟨i, a, cls, d, c, fs⟩) W0 (b₀ :: suite) (su c fs)) :
    RS X g W (.Try body [.ExceptHandler (some (.Name x np)) (some n) (b₀ :: suite) pos'] [] [] pos) (mTryAs i hit mb su) := by
  refine ps_le (ps_try_as (tb := fun W => tMS X.K g W mb) (ts := fun a cls d D σ H => ∃ c fs, tMS X.K (g.inS ⟨i, a, cls, d, c, fs⟩) W0 (su c fs) D σ H) hs hf hN hi hln hc tk hb
    (fun a oe cls d pn z1 z2 => ⟨fun pins s σ H D I ⟨c, fs, q⟩ => (hsu a oe cls d pn c fs z1 z2).run pins s σ H D I q⟩)) fun D σ H ⟨α, ρ, S, r, q⟩ => ?_
  refine ⟨α, ρ, S, r, ?_⟩
  unfold mTryAs at q
  revert q
  cases mb ρ S with
  | nx ρ' S' => exact fun q => q
  | rt x S' => exact fun q => q
  | bk ρ' S' => exact fun q => q
  | ct ρ' S' => exact fun q => q
  | bad => exact fun q => q
  | er c fs ρ' S' =>
    intro q α1 σ1 H1 C d p1 k1 r1 hC xf
    refine ⟨hit c, hex c C hC, fun hy a0 ha0 => ?_, fun hn => ?_⟩
    · simp only [hy, if_true] at q
      refine ⟨c, fs, α1, ρ'.set i none, S', ⟨r1.obj.inS, by simp [r1.len], fun j y e => ?_, fun z e1 e2 => ?_⟩, ?_⟩
      · by_cases h : i = j
        · subst h
          rw [List.getElem?_set] at e
          simp only [if_true] at e
          split at e <;> cases e
        · rw [List.getElem?_set_ne h] at e ⊢
          exact r1.loc j y e
      · cases e1
        have hlt : i < σ1.length := by
          rw [← r1.len]
          have := (List.getElem?_eq_some_iff.mp e2).1
          simpa using this
        exact ⟨List.getElem?_set_self hlt, C, d, rfl, hC, rfl, xf⟩
      · revert q
        cases su c fs (ρ'.set i none) S' with
        | rt x S2 => exact fun q α2 H2 v p2 k2 r2 dv => q α2 H2 v (p1.trans p2) (k1.trans k2) r2.outS dv
        | nx ρ2 S2 => exact fun q => q.elim
        | bk ρ2 S2 => exact fun q => q.elim
        | ct ρ2 S2 => exact fun q => q.elim
        | er c fs ρ2 S2 => exact fun q => q.elim
        | bad => exact fun q => q.elim
    · simp only [hn, Bool.false_eq_true, if_false] at q
      exact q α1 σ1 H1 C d p1 k1 r1 hC xf
end
end Pm
namespace Odds
open PySem L2
/-! ### a def of the text, an error class -/
structure Dn (K : PySem.W.Frag) (mg : Str → Option Value) (x : Str) (st : Stmt) (ps : List Str) (f : Addr) (fd : FuncData) : Prop where
  F : Fun K x x st f fd
  g : mg x = some (.ref f)
  b : Binds K fd ps []
/-- math.lcm -/
def rLcm : List V → Hp → VK → Prop := fun vs H Q => ∃ a b : Int, vs = [.int a, .int b] ∧ a.natAbs < 2 ^ 6000 ∧ b.natAbs < 2 ^ 6000 ∧ Q (.int ((Nat.lcm a.natAbs b.natAbs : Nat) : Int)) H
theorem log_lt {n b : Nat} (h : n < 2 ^ b) (hb : 0 < b) : n.log2 < b := by
  by_cases z : n = 0
  · rw [z]; exact hb
  · exact (Nat.log2_lt z).mpr h
theorem lcm_size {a b m n : Nat} (ha : a < 2 ^ m) (hb : b < 2 ^ n) : Nat.lcm a b < 2 ^ (m + n) := by
  rw [Nat.pow_add]
  by_cases h : a = 0 ∨ b = 0
  · rcases h with rfl | rfl
    · rw [Nat.lcm_zero_left]; exact Nat.mul_pos (Nat.two_pow_pos _) (Nat.two_pow_pos _)
    · rw [Nat.lcm_zero_right]; exact Nat.mul_pos (Nat.two_pow_pos _) (Nat.two_pow_pos _)
  · exact Nat.lt_of_le_of_lt (Nat.le_of_dvd (Nat.mul_pos (by omega) (by omega)) (Nat.lcm_dvd (Nat.dvd_mul_right _ _) (Nat.dvd_mul_left _ _))) (Nat.mul_lt_mul'' ha hb)
theorem cr_lcm {X : Cx} : CallR X (.builtin "math.lcm") rLcm := by
  intro pins s σ H vs us Q I r h
  obtain ⟨a, b, rfl, ha, hb, q⟩ := h
  obtain ⟨t, u, rfl⟩ := Vals.int2 r
  have l1 : (max 1 a.natAbs).log2 < 6000 := log_lt (by have := Nat.one_lt_two_pow (show 6000 ≠ 0 by decide); omega) (by decide)
  have l2 : (max a.natAbs b.natAbs).log2 < 6000 := log_lt (by omega) (by decide)
  have e1 : (Nat.lcm 1 a.natAbs).lcm b.natAbs = Nat.lcm a.natAbs b.natAbs := by rw [Nat.lcm_one_left]
  have sz : ((((Nat.lcm 1 a.natAbs).lcm b.natAbs : Nat) : Int)).natAbs.log2 < bitsLine := by
    rw [e1, Int.natAbs_natCast]
    exact Nat.lt_of_lt_of_le (log_lt (lcm_size ha hb) (by decide)) (by decide)
  refine PySem.call_function_meets PySem.W.MGF.kind_lcm PySem.W.MGF.plain_lcm PySem.W.MGF.entry_lcm (PySem.W.MGF.args_lcm _ _) (PySem.W.mg_run_lcm a t b u (by omega) (by omega) sz).meets ?_
  rw [e1]
  exact ⟨.int _, H, I.tok _, ⟨_, rfl⟩, q⟩
end Odds
namespace Odds
open PySem
/-! ### generator expressions over tuples, whose element asks is_whole -/
/-- what is_whole says of a value that needs no heap -/
inductive Wh : Value → Bool → Prop where
  | int (i : Int) (t : Tok) : Wh (.int i t) true
  | bl (b : Bool) : Wh (.bool b) false
  | str (z : Str) (t : Tok) : Wh (.str z t) false
theorem Wh.kit {K : W.Frag} {u : Value} {b : Bool} (h : Wh u b) : ∃ t : String, W.KitX K u (.type t) (fun _ => True) ∧ L2.kitB t "int" = some (b || t == "bool") ∧ L2.kitB t "bool" = some (t == "bool") ∧ b = (t == "int") ∧ u ≠ .builtin "__main__.__loader__#opaque" := by
  cases h with
  | int i t => exact ⟨"int", W.kitx_int, by decide +kernel, by decide +kernel, by decide, fun z => nomatch z⟩
  | bl c => exact ⟨"bool", W.kitx_bool, by decide +kernel, by decide +kernel, by decide, fun z => nomatch z⟩
  | str z t => exact ⟨"str", W.kitx_str, by decide +kernel, by decide +kernel, by decide, fun z => nomatch z⟩
/-- isinstance(value, T) in any frame of a def -/
theorem ev_isi {prog : Program} {w : World} {A : Around} {E : Value → Shared → Prop} {s : Shared} {env : Env} {K : W.Frag} {mg : Str → Option Value} {base : Heap} {u : Value} {t cn : String} {r : Bool} {m : Str → Option Value} {Q : Value → Shared → Prop} {p1 p2 p3 p4 : Pos}
    (M : L2.Mod K mg base) (hb : ∀ b o, base.get? b = some o → s.heap.get? b = some o) (hk : env.scope.kind = .function) (hg : env.globals = mainGlobals) (hbl : env.builtins = builtinsNs)
    (k1 : env.kindOf "isinstance" = some .globalImplicit) (k2 : env.kindOf "value" = some .local) (k3 : env.kindOf cn = some .globalImplicit)
    (g1 : mg "isinstance" = none) (g3 : mg cn = none) (n3 : (cn : Str) ≠ "__name__") (d3 : ((cn : Str) == "__debug__") = false) (b3 : bootBuiltins cn = some (.type cn))
    (hns : s.heap.Ns env.locals m) (hm : m "value" = some u) (X : W.KitX K u (.type t) (fun _ => True)) (hu : u ≠ .builtin "__main__.__loader__#opaque") (e : L2.kitB t cn = some r)
    (q : ∀ tk : Nat, Q (.bool r) { s with toks := tk }) :
    wpAny (model prog w) A (eval (.Call (.Name "isinstance" p1) [.Name "value" p2, .Name cn p3] [] p4) env) Q E s := by
  obtain ⟨mb, hmb, hbb⟩ := M.blt
  have G : s.heap.Ns env.globals mg := by rw [hg]; exact M.glob.keeps hb
  have B : s.heap.Ns env.builtins mb := by rw [hbl]; exact hmb.keeps hb
  refine wpAny_Call_Name_kw ?_
  refine Calls.Name_function_global hk k1 ?_
  refine Calls.loadGlobal_builtin G g1 B ((hbb _ (by decide)).trans PyProof.Rows.boot_isinstance) ?_
  refine PyProof.Rows.callWith_builtin1 ?_
  refine Calls.spliced_cons ?_
  refine wpAny_Name ?_
  refine wpAny_loadName_local hk k2 hns hm ?_
  refine Calls.spliced_cons ?_
  refine Calls.Name_function_global hk k3 ?_ d3
  refine Calls.loadGlobal_builtin G g3 B ((hbb _ n3).trans b3) ?_
  refine Calls.spliced_nil ?_
  exact W.kia_one X (M.kin.keeps hb) trivial (L2.kit_ty e) hu q
/-- the body of is_whole -/
theorem run_whole {prog : Program} {w : World} {A : Around} {E : Value → Shared → Prop} {s : Shared} {env : Env} {K : W.Frag} {mg : Str → Option Value} {base : Heap} {u : Value} {b : Bool} {m : Str → Option Value} {Q : Flow → Shared → Prop} {p1 p2 p3 p4 p5 p6 p7 p8 p9 p10 p11 : Pos}
    (M : L2.Mod K mg base) (hb : ∀ b o, base.get? b = some o → s.heap.get? b = some o) (hk : env.scope.kind = .function) (hg : env.globals = mainGlobals) (hbl : env.builtins = builtinsNs)
    (k1 : env.kindOf "isinstance" = some .globalImplicit) (k2 : env.kindOf "value" = some .local) (k3 : env.kindOf "int" = some .globalImplicit) (k4 : env.kindOf "bool" = some .globalImplicit)
    (g1 : mg "isinstance" = none) (g3 : mg "int" = none) (g4 : mg "bool" = none)
    (hns : s.heap.Ns env.locals m) (hm : m "value" = some u) (h : Wh u b) (q : ∀ tk : Nat, Q (.ret (.bool b)) { s with toks := tk }) :
    wpAny (model prog w) A (execs [.Return (some (.BoolOp .And [.Call (.Name "isinstance" p1) [.Name "value" p2, .Name "int" p3] [] p4, .UnaryOp .Not (.Call (.Name "isinstance" p5) [.Name "value" p6, .Name "bool" p7] [] p8) p9] p10)) p11] env) Q E s := by
  obtain ⟨t, X, e1, e2, eb, hu⟩ := h.kit (K := K)
  refine wpAny_execs_cons ?_
  refine wpAny_Return_some ?_
  refine PyProof.Rows.BoolOp_and ?_
  refine ev_isi M hb hk hg hbl k1 k2 k3 g1 g3 (by decide) (by decide) PyProof.Rows.boot_int hns hm X hu e1 fun tk => ?_
  refine wpAny_truthy_bool ?_
  by_cases hc : (b || t == "bool") = true
  · rw [if_pos hc]
    refine PyProof.Rows.BoolOp_one ?_
    refine PyProof.Rows.UnaryOp_ ?_
    refine ev_isi (s := { s with toks := tk }) M hb hk hg hbl k1 k2 k4 g1 g4 (by decide) (by decide) PyProof.Rows.boot_bool hns hm X hu e2 fun tk2 => ?_
    refine PyProof.Rows.not_of ?_
    refine wpAny_truthy_bool ?_
    have e : (!(t == "bool")) = b := by
      subst eb
      by_cases h1 : t = "int"
      · subst h1; decide
      · by_cases h2 : t = "bool"
        · subst h2; decide
        · simp [h1, h2] at hc
    rw [e]
    exact q tk2
  · rw [if_neg hc]
    have e : (b || t == "bool") = b := by
      cases b
      · simpa using hc
      · rfl
    rw [e]
    exact q tk
/-- what the text must say of is_whole -/
structure WhT (K : W.Frag) (mg : Str → Option Value) (f : Addr) (fd : FuncData) : Prop where
  ex : ∃ (st : Stmt) (p1 p2 p3 p4 p5 p6 p7 p8 p9 p10 p11 : Pos), Dn K mg "is_whole" st ["value"] f fd ∧
    L2.defBody st = [.Return (some (.BoolOp .And [.Call (.Name "isinstance" p1) [.Name "value" p2, .Name "int" p3] [] p4, .UnaryOp .Not (.Call (.Name "isinstance" p5) [.Name "value" p6, .Name "bool" p7] [] p8) p9] p10)) p11] ∧
    (L2.defScope st).kind = .function ∧ (L2.defScope st).isCoroutine = false ∧ (L2.defScope st).isGenerator = false ∧ (L2.defScope st).names.lookup ("value" : Str) = some NameKind.local ∧
    (L2.defScope st).names.lookup ("isinstance" : Str) = some NameKind.globalImplicit ∧ (L2.defScope st).names.lookup ("int" : Str) = some NameKind.globalImplicit ∧ (L2.defScope st).names.lookup ("bool" : Str) = some NameKind.globalImplicit
  isinstance : mg "isinstance" = none
  int : mg "int" = none
  bool : mg "bool" = none
theorem call_whole {prog : Program} {w : World} {A : Around} {E : Value → Shared → Prop} {s : Shared} {K : W.Frag} {mg : Str → Option Value} {base : Heap} {u : Value} {b : Bool} {f : Addr} {fd : FuncData} {Q : Value → Shared → Prop}
    (T : WhT K mg f fd) (M : L2.Mod K mg base) (hb : ∀ b o, base.get? b = some o → s.heap.get? b = some o) (hd : A.depth < recursionLimit) (h : Wh u b)
    (q : ∀ (h' : Heap) (tk : Nat), (∀ (b : Addr) (o : Obj), s.heap.get? b = some o → h'.get? b = some o) → Q (.bool b) { heap := h', gens := s.gens, drawn := s.drawn, toks := tk, os := s.os }) :
    wpAny (model prog w) A (call (.ref f) [u]) Q E s := by
  obtain ⟨st, p1, p2, p3, p4, p5, p6, p7, p8, p9, p10, p11, D, hbody, hk, hco, hge, n1, n2, n3, n4⟩ := T.ex
  obtain ⟨oc, od, kV, doc, pm, an, cdv, ct, osl, efd, lk, hcd⟩ := D.F.ex
  have kin := M.kin.keeps hb
  have bt := D.b s [u] kin rfl
  subst efd
  refine wpAny_call ?_
  refine Att.call_fn (binds := [("value", u)]) kin (M.nolimit.keeps hb) lk hcd hd bt (by simp [n1]) (fun s₁ ic => ?_) hco hge hk
  have ic' := ic.toInCall
  obtain ⟨h1, tk1, rfl⟩ := ic'.same
  rw [hbody]
  refine run_whole M (fun b o e => ic'.keep _ _ (hb b o e)) hk rfl rfl n2 n1 n3 n4 T.isinstance T.int T.bool ic'.ns ?_ h fun tk => ?_
  · show bindL _ [("value", u)] _ "value" = some u
    simp [bindL, Env.kindOf, PyProof.Rows.envOfC, n1]
  · exact q h1 tk fun b o e => ic'.keep _ _ e
/-- what the element says of a value, in a state that keeps the base -/
def EltT (prog : Program) (w : World) (base : Heap) (scope : Scope) (x : Str) (elt : Expr) (D : Nat) (Wv : Value → Bool → Prop) : Prop :=
  ∀ (cenv : Env) (A' : Around) (E' : Value → Shared → Prop) (u : Value) (b : Bool) (s₂ : Shared) (m₂ : Str → Option Value), cenv.scope = scope → cenv.globals = mainGlobals → cenv.builtins = builtinsNs → s₂.heap.Ns cenv.locals m₂ → m₂ x = some u →
    A'.handled = none → A'.depth ≤ D → (∀ b o, base.get? b = some o → s₂.heap.get? b = some o) → Wv u b → wpAny (model prog w) A' (eval elt cenv) (fun y s₃ => y = .bool b ∧ Keeps s₂ s₃) E' s₂
def Els (Wv : Value → Bool → Prop) (xs : List L2.V) (bs : List Bool) : Prop := xs.length = bs.length ∧ ∀ (i : Nat) (x : L2.V) (b : Bool) (u : Value), xs[i]? = some x → bs[i]? = some b → L2.RelV x u → Wv u b
def ReadyT (X : L2.Cx) (pins : List (Addr × Obj)) (σ : L2.St) (H1 : L2.Hp) (P : Addr) (bs : List Bool) (g : Addr) (s5 : Shared) : Prop :=
  ∃ fp wr G F St, WalksS X.prog X.w X.A.in1 g fp wr G bs.length F St ∧ St 0 s5 ∧ TruthOf X.prog X.w X.A.in1 F (fun i => bs.getD i false) ∧ ∀ s', Moved wr G s5 s' → ∃ H2, GxR.Tabbed P H1 H2 ∧ L2.Inv X pins σ H2 s'
theorem gen_tup {X : L2.Cx} {pins : List (Addr × Obj)} {σ : L2.St} {H : L2.Hp} {s : Shared} {c P : Addr} {elt iter : Expr} {x : Str} {px gpos : Pos} {scope : Scope} {Wv : Value → Bool → Prop} {te : L2.TE} {k : Nat} {Q' : Value → Shared → Prop} {R : List Bool → L2.Hp → Prop}
    (hr : L2.Room k X.A) (TB : GxR.TabB X.base X.mg c P) (hc : X.env.code = .ref c) (S : GxR.GenS X.env scope x) (it : L2.PE X iter te) (el : EltT X.prog X.w X.base scope x elt (X.A.depth + 1) Wv) (hs : ∀ v, genFold iter X.env v = pure v)
    (I : L2.Inv X pins σ H s) (h : te σ H fun v H1 => ∃ (a : Addr) (xs : List L2.V) (bs : List Bool), v = .ref a ∧ L2.SqT X.K H1 a xs ∧ Els Wv xs bs ∧ GxR.TabG H1 P ∧ R bs H1)
    (kk : ∀ (bs : List Bool) (H1 : L2.Hp) (g : Addr) (s5 : Shared), R bs H1 → ReadyT X pins σ H1 P bs g s5 → Q' (.ref g) s5) :
    wpAny (model X.prog X.w) X.A (eval (.GeneratorExp elt [⟨.Name x px, iter, [], 0⟩] scope gpos) X.env) Q' X.xe s := by
  refine wpAny_GeneratorExp_walksQD hr.hd S.co (L2.closure_ok S.free) S.cell S.dot S.loc S.kind (by have := hr.dp; omega) ?_ hs
  refine L2.thn (it.run pins s σ H _ I h) ?_
  rintro u s1 ⟨v, H1, I1, rv, a, xs, bs, rfl, hS, ⟨hl, hel⟩, ⟨ps, hP, hT⟩, hR⟩
  have eu : u = .ref a := rv
  subst eu
  obtain ⟨its, hv, htup, hlen⟩ := I1.tuple hS
  have hPo : s1.heap.get? P = some (W.tabObj ps) := by
    have := I1.hok P _ hP
    simpa only [L2.ObjOk] using this
  obtain ⟨ot, t1, t2, nt, t3⟩ := id htup
  have aP : a ≠ P := by
    intro e
    subst e
    rw [hPo] at t1
    cases t1
    cases t2
  refine wpAny_pyIter_tuple htup ?_
  generalize hI : s1.heap.objs.size = J
  have ltP : P < J := by rw [← hI]; exact Heap.lt_size hPo
  have lta : a < J := by rw [← hI]; exact Heap.lt_size t1
  have keep2 : ∀ b o, s1.heap.get? b = some o → (s1.heap.push { cls := Value.type "tuple_iterator", data := Data.fields #[Value.ref a, Value.int 0 0] }).get? b = some o := fun b o e => Heap.get?_push_of_some _ e
  have getJ : (s1.heap.push { cls := Value.type "tuple_iterator", data := Data.fields #[Value.ref a, Value.int 0 0] }).get? J = some { cls := Value.type "tuple_iterator", data := Data.fields #[Value.ref a, Value.int 0 0] } := by
    rw [← hI]
    exact Heap.get?_push_size _ rfl
  have nl2 := (I1.nolimit).push { cls := Value.type "tuple_iterator", data := Data.fields #[Value.ref a, Value.int 0 0] }
  have sz2 : (s1.heap.push { cls := Value.type "tuple_iterator", data := Data.fields #[Value.ref a, Value.int 0 0] }).objs.size = J + 1 := by
    rw [Heap.size_push, hI]
  generalize s1.heap.push { cls := Value.type "tuple_iterator", data := Data.fields #[Value.ref a, Value.int 0 0] } = h2 at *
  refine ⟨nl2, ?_⟩
  have bk := I1.bk
  have cs1 : cStatics < J := by
    obtain ⟨mc, n1, _⟩ := I1.nolimit
    rw [← hI]
    exact n1.lt
  have csP : cStatics ≠ P := by
    obtain ⟨mc, n1, _⟩ := I1.nolimit
    obtain ⟨o, es, ep, n2, n3, _⟩ := n1
    intro e
    rw [e, hPo] at n2
    cases n2
    cases n3
  have getP2 := keep2 _ _ hPo
  have hd2 : W.CodeHd h2 c P := TB.code.keeps fun b o e => keep2 _ _ (bk b o e)
  have fin : ∀ (code : Value) (h3 : Heap) (tk : Nat) (more : Array Value), Heap.ExtBut P h2 h3 → h3.get? P = some (W.tabObj (ps ++ more)) → TriplesOk (ps ++ more).toList → h2.objs.size ≤ h3.objs.size →
      wpAny (model X.prog X.w) X.A (builtinsFor X.env.globals X.env.builtins) (fun bi s₄ =>
        ∃ I fp wr n₀ P St₀ pz F, Value.ref J = Value.ref I ∧ (∀ (A' : Around), A'.handled = none → Walks X.prog X.w A' I fp wr n₀ P St₀) ∧ St₀ 0 s₄.heap ∧ (∀ (b : Addr), b ∈ fp → b < s₄.heap.objs.size) ∧ s₄.heap.NoLimit ∧ ¬cStatics ∈ wr ∧
          (∀ (href : Heap), (∀ (b : Addr) (o : Obj), s₄.heap.get? b = some o → href.get? b = some o) → QuietGenD X.prog X.w (genEnv scope (L2.cloFrom X.env.cells scope.names []) s₄.heap.objs.size code bi X.env) x [] elt (List.range s₄.heap.objs.size) wr P pz F href (X.A.depth + 1) (X.A.units + 8)) ∧
          ∀ (a : Nat) (h₅ : Heap) (tk : Nat) (gs : GenState), gs.bare = true → s₄.heap.objs.size < a → h₅.objs.size = a + 1 → (∀ (b : Addr) (o : Obj), s₄.heap.get? b = some o → h₅.get? b = some o) →
            WalksS X.prog X.w X.A.in4 a (a :: s₄.heap.objs.size :: List.range s₄.heap.objs.size) (s₄.heap.objs.size :: wr) (GenOnlyQ s₄.gens.size) (passing pz n₀ 0).length (fun j y => ∃ i, (passing pz n₀ 0)[j]? = some i ∧ F i y)
              (GenAt X.prog X.w X.A.in4 a s₄.gens.size s₄.heap.objs.size (List.range s₄.heap.objs.size) wr pz n₀ F) →
            GenAt X.prog X.w X.A.in4 a s₄.gens.size s₄.heap.objs.size (List.range s₄.heap.objs.size) wr pz n₀ F 0 { heap := h₅, gens := s₄.gens.push gs, drawn := s₄.drawn, toks := tk, os := s₄.os } →
              Q' (Value.ref a) { heap := h₅, gens := s₄.gens.push gs, drawn := s₄.drawn, toks := tk, os := s₄.os }) X.xe { heap := h3, gens := s1.gens, drawn := s1.drawn, toks := tk, os := s1.os } := by
    intro code h3 tk more ext getP3 hT3 szz
    have keep3 : ∀ b o, b ≠ P → s1.heap.get? b = some o → h3.get? b = some o := fun b o n e => ext b o n (keep2 b o e)
    obtain ⟨bm, obm, b1, b2, b3, b4, b5, b6, b7, b8⟩ := TB.bm
    have gns : h3.Ns X.env.globals X.mg := by
      rw [I1.ok.glob]
      exact ((I1.mod.glob.keeps bk).keeps keep2).extBut ext TB.gP
    refine wpAny_builtinsFor gns b1 b2 (keep3 _ _ b4 (bk _ _ b5)) b6 b7 b8 ?_
    have J3 : J < h3.objs.size := by omega
    have lt3 : ∀ b, b < J → b < h3.objs.size := fun b hb => Nat.lt_trans hb J3
    have nJP : J ≠ P := fun e => absurd e.symm (Nat.ne_of_lt ltP)
    have nl3 : h3.NoLimit := nl2.extBut ext csP
    refine ⟨J, [J, a], [J], its.toArray.size, _, _, fun _ => true, fun i y => ∃ b, bs[i]? = some b ∧ y = .bool b, rfl, fun A' hA' => Walks.tuple hA' J a (Nat.ne_of_lt lta) its.toArray, ⟨⟨_, ext _ _ nJP getJ, rfl, rfl⟩, ⟨ot, keep3 _ _ aP t1, t2, nt, t3⟩⟩, ?_, nl3, ?_, ?_, ?_⟩
    · intro b hb
      rcases List.mem_cons.mp hb with rfl | hb
      · exact J3
      · rcases List.mem_cons.mp hb with rfl | hb
        · exact lt3 _ lta
        · cases hb
    · intro hb
      rcases List.mem_cons.mp hb with e | hb
      · exact absurd e (Nat.ne_of_lt cs1)
      · cases hb
    · intro href hext
      refine ⟨fun A' E' i v s₂ m₂ _ _ _ _ _ _ _ => ?_, fun A' E' i v s₂ m₂ hA hdp hun hPi _ hns hmx hkeep => ?_⟩
      · show wpAny _ A' (pure true) _ E' s₂
        exact wpAny_pure ⟨rfl, GxR.keeps_refl s₂⟩
      · have hi : i < its.length := by
          have := (Array.getElem?_eq_some_iff.mp hPi).1
          simpa using this
        have hxl := hv.length
        have hx : xs[i]? = some (xs[i]'(by omega)) := List.getElem?_eq_getElem _
        have hbb : bs[i]? = some (bs[i]'(by omega)) := List.getElem?_eq_getElem _
        obtain ⟨u, hu, hrel⟩ := hv.get hx
        have euv : u = v := by
          rw [List.getElem?_toArray] at hPi
          rw [hu] at hPi
          exact Option.some.inj hPi
        subst euv
        refine L2.thn (el _ A' E' u _ s₂ m₂ rfl I1.ok.glob rfl hns hmx hA hdp (fun b o e => ?_) (hel i _ _ u hx hbb hrel)) fun y s₃ ⟨e1, e2⟩ => ⟨⟨_, hbb, e1⟩, e2⟩
        have e1 := bk _ _ e
        have ltb : b < J := by rw [← hI]; exact Heap.lt_size e1
        have bP : b ≠ P := by
          intro q
          subst q
          have hbs := I1.ok.bs _ _ e
          have z := I1.base.free _ _ hbs.1 hbs.2 (I1.ok.noex _ _ e)
          rw [hP] at z
          cases z
        refine hkeep b (List.mem_range.mpr (lt3 _ ltb)) ?_ o (hext _ _ (keep3 _ _ bP e1))
        intro hb
        rcases List.mem_cons.mp hb with q | hb
        · exact absurd q (Nat.ne_of_lt ltb)
        · cases hb
    · intro g h5 tk5 gs hbare hlt hsz hext5 W G
      have en : (passing (fun _ => true) its.toArray.size 0).length = bs.length := by
        rw [GxR.passing_true, List.length_range, List.size_toArray, ← hv.length, hl]
      refine kk bs H1 g _ hR ⟨_, _, _, _, _, en ▸ (WalksS.in4_2 W).of_in1, G, ?_, fun s' mv => ?_⟩
      · rintro i v s0 Q0 E0 ⟨j, hj, b, hb, rfl⟩ q
        rw [GxR.passing_true] at hj
        have hij : i = j := by
          have h1 := List.getElem?_eq_some_iff.mp hj
          obtain ⟨h2, h3⟩ := h1
          rw [List.getElem_range] at h3
          exact h3
        subst hij
        refine wpAny_truthy_bool ?_
        have : bs.getD i false = b := by rw [List.getD_eq_getElem?_getD, hb]; rfl
        show Q0 b s0
        rw [← this]
        exact q
      · have hnin : ∀ b, b < J → ¬ b ∈ [h3.objs.size, J] := fun b hb hm => by
          rcases List.mem_cons.mp hm with q | hm
          · exact absurd q (Nat.ne_of_lt (Nat.lt_trans hb J3))
          · rcases List.mem_cons.mp hm with q | hm
            · exact absurd q (Nat.ne_of_lt hb)
            · cases hm
        have i2 := GxR.inv_tab (P := P) (ps := ps) (more := more) (h' := s'.heap) (g' := s'.gens) (d' := s'.drawn) (t' := s'.toks) I1 hP
          (fun b o n e => mv.heap b o (hnin b (by rw [← hI]; exact Heap.lt_size e)) (hext5 _ _ (keep3 _ _ n e)))
          (mv.heap P _ (hnin P ltP) (hext5 _ _ getP3)) ((I1.bare.push hbare).movedS mv)
        rw [GxR.sh_eta s1 s' mv.os] at i2
        exact ⟨_, ⟨⟨_, L2.upd_same, hT3⟩, fun b n => L2.upd_ne n⟩, i2⟩
  cases hcm : codeAmong gpos ps.toList with
  | some cv =>
    refine wpAny_genexprCode_hit hc (hd2.code getP2 hT) hcm ?_
    exact fin cv h2 _ #[] (Heap.ExtBut.refl P h2) (by simpa using getP2) (by simpa using hT) (Nat.le_refl _)
  | none =>
    refine wpAny_genexprCodeX hc (hd2.code getP2 hT) (hd2.tab getP2) hcm ?_
    intro c' h' tk ext hle hlt hcode _ htab _
    obtain ⟨o, vs, file, tf, flags, tg, inF, text, tt, op, _, _, _, _, _, _, _, _, _, tr, _⟩ := id hcode
    exact fin (.ref c') h' tk _ ext htab.2 tr (Nat.le_trans hle (Nat.le_of_lt hlt))
theorem elt_whole {prog : Program} {w : World} {K : W.Frag} {mg : Str → Option Value} {base : Heap} {scope : Scope} {x : Str} {f : Addr} {fd : FuncData} {D : Nat} {p1 p2 p3 : Pos} (T : WhT K mg f fd) (M : L2.Mod K mg base)
    (hk : scope.kind = .function) (h1 : scope.names.lookup ("is_whole" : Str) = some NameKind.globalImplicit) (h2 : scope.names.lookup x = some NameKind.local) (hD : D < recursionLimit) (hx : (x == ("__debug__" : Str)) = false := by decide) :
    EltT prog w base scope x (.Call (.Name "is_whole" p1) [.Name x p2] [] p3) D Wh := by
  intro cenv A' E' u b s₂ m₂ hsc hg hbl hns hmx hA hdp hb hw
  subst hsc
  obtain ⟨st, _, _, _, _, _, _, _, _, _, _, _, Dw, _⟩ := id T.ex
  have G : s₂.heap.Ns cenv.globals mg := by rw [hg]; exact M.glob.keeps hb
  refine wpAny_Call_Name_kw ?_
  refine Calls.Name_function_global hk h1 ?_
  refine Calls.loadGlobal_global G Dw.g ?_
  refine W.callWith_K (M.kin.keeps hb) Dw.F.kp ?_
  refine Calls.spliced_cons ?_
  refine wpAny_Name ?_ hx
  refine wpAny_loadName_local hk h2 hns hmx ?_
  refine Calls.spliced_nil ⟨M.kin.keeps hb, ?_⟩
  refine call_whole T M hb (by omega) hw fun h' tk hk' => ⟨rfl, h', tk, rfl, hk'⟩
def tAllT (K : W.Frag) (P : Addr) (Wv : Value → Bool → Prop) (te : L2.TE) : L2.TE := fun σ H Q => te σ H fun v H1 => ∃ (a : Addr) (xs : List L2.V) (bs : List Bool), v = .ref a ∧ L2.SqT K H1 a xs ∧ Els Wv xs bs ∧ GxR.TabG H1 P ∧ ∀ H2, GxR.Tabbed P H1 H2 → Q (.bl (bs.all id)) H2
theorem all_bs (bs : List Bool) : (List.range bs.length).all (fun i => bs.getD i false) = bs.all id := by
  rw [Bool.eq_iff_iff, List.all_eq_true, List.all_eq_true]
  constructor
  · intro h b hb
    obtain ⟨i, hi, e⟩ := List.getElem_of_mem hb
    have := h i (List.mem_range.mpr hi)
    rw [List.getD_eq_getElem?_getD, List.getElem?_eq_getElem hi, e] at this
    exact this
  · intro h i hi
    have hi := List.mem_range.mp hi
    rw [List.getD_eq_getElem?_getD, List.getElem?_eq_getElem hi]
    exact h _ (List.getElem_mem hi)
theorem pe_allT {X : L2.Cx} {c P : Addr} {elt iter : Expr} {x : Str} {px p pos gpos : Pos} {scope : Scope} {Wv : Value → Bool → Prop} {te : L2.TE} {k : Nat}
    (hr : L2.Room k X.A) (hg : L2.Gl X "all") (hm : X.mg "all" = none) (TB : GxR.TabB X.base X.mg c P) (hc : X.env.code = .ref c) (S : GxR.GenS X.env scope x) (it : L2.PE X iter te) (el : L2.Mod X.K X.mg X.base → EltT X.prog X.w X.base scope x elt (X.A.depth + 1) Wv) (hs : ∀ v, genFold iter X.env v = pure v)
    (st : starEach [Expr.GeneratorExp elt [⟨.Name x px, iter, [], 0⟩] scope gpos] X.env = (false, eval (Expr.GeneratorExp elt [⟨.Name x px, iter, [], 0⟩] scope gpos) X.env) :: starEach [] X.env := by rfl) :
    L2.PE X (.Call (.Name "all" p) [.GeneratorExp elt [⟨.Name x px, iter, [], 0⟩] scope gpos] [] pos) (tAllT X.K P Wv te) := by
  refine ⟨fun pins s σ H Q I h => ?_⟩
  refine wpAny_Call_Name_kw ?_
  refine L2.ld_blt I hg hm (u := .builtin "all") (by decide +kernel) ?_
  refine PyProof.Rows.callWith_builtin1 ?_ st
  refine Calls.spliced_cons ?_
  refine gen_tup (R := fun bs H1 => ∀ H2, GxR.Tabbed P H1 H2 → Q (.bl (bs.all id)) H2) hr TB hc S it (el I.mod) hs I h ?_
  rintro bs H1 g s5 hR ⟨fp, wr, G, F, St, W, h0, tr, mv⟩
  refine Calls.spliced_nil ?_
  refine call_all_walkS ?_
  refine W.self 0 s5 _ _ h0 ?_
  refine ⟨g, fp, wr, G, _, F, St, _, rfl, W, h0, tr, fun s' m => ?_⟩
  obtain ⟨H2, t2, i2⟩ := mv s' m
  rw [all_bs]
  exact ⟨.bl (bs.all id), H2, i2, rfl, hR H2 t2⟩
theorem gen_free {env : Env} {scope : Scope} (h : ∀ y ∈ scope.names, y.2 ≠ NameKind.free) : ∀ (y : Str × NameKind), y ∈ scope.names → y.2 = NameKind.free → ∃ c, List.lookup y.1 env.cells = some c := fun y hy e => absurd e (h y hy)
theorem fun_okC {CX : L2.CXT} {P : Program} {w : World} {K : W.Frag} {mg : Str → Option Value} {base : Heap} {k : Nat} {f : Addr} {x qual : Str} {st : Stmt} {fd : FuncData} {N ps : List Str} {sp : L2.Sp} {c : Addr} (F : L2.Fun K x qual st f fd) (hc : fd.code = .ref c)
    (S : L2.FnScope N ps (L2.defScope st)) (len : ∀ (vs : List L2.V) (H : L2.Hp) (Q : L2.VK) (E : L2.XK), sp vs H Q E → vs.length = ps.length)
    (hb : ∀ (A : Around) (outer : List Env) (s : Shared) (H : L2.Hp) (vs : List L2.V) (Q : L2.VK) (E : L2.XK), L2.Room k (A.deeper (PyProof.Rows.envOfC qual (L2.defScope st) s.heap.objs.size f (.ref c))) → sp vs H Q E →
      ∃ t, L2.PSs (L2.cxOf CX P w K mg base N qual (L2.defScope st) f (.ref c) A outer s H E) (L2.defBody st) t ∧ t { nx := fun _ H' => Q .non H', rt := Q } (L2.start N vs) H) : L2.FnOk P w K mg base CX (k + 1) f fd ps sp := by
  obtain ⟨oc, od, kV, doc, pm, an, cdv, ct, osl, e, lk, hcd⟩ := F.ex
  subst e
  have e : cdv = .ref c := hc
  subst e
  exact L2.fn_of lk hcd S len hb
theorem room_lim {k : Nat} {A : Around} (h : L2.Room k A) : A.depth + 1 < recursionLimit := by have := h.dp; omega
theorem walk_tab {l : W.OpenLaw} {n k : Nat} {q : Program} {loose : List Str} {XP : (Str → Option Value) → Heap → Prop} {YP : World → Heap → Prop} {d : DefRec} {K : Params → W.Frag} {CX : World → L2.CXT} {x : Str} (hn : l.most = some n) (hn2 : n ≤ sizeLine) (hdf : d.params.defaults = []) (hr : L2.Room k callerA)
    (hY : ∀ (w : World) (h : Heap), YP w h → (K w.params).In h)
    (F : ∀ (w : World) (mg : Str → Option Value) (fa : Addr) (h : Heap), (K w.params).In h → h.Ns mainGlobals mg → mg d.name = some (.ref fa) →
      (∀ (y : Str) (c P : Addr), ((PyProof.Rows.recsOf q).find? (fun e => e.name == y)).isSome = true → W.tabIn (K w.params) y = some (c, P) → W.CodeHd h c P ∧ h.get? P = some (W.tabObj #[])) → LamX.LawAtS l w (K w.params) (CX w) k n x mg fa h)
    (hCX : ∀ (w : World) (H : L2.Hp) (s : Shared) (e : Value) (s' : Shared), CX w [] H s (fun _ _ _ => False) e s' → False) :
    W.WalkO q loose XP YP l.row.toRowW d [] fun f vs => call f vs := by
  refine Att.attach_callB hn hdf fun w s₀ s₁ mg mb fa o pm cd doc a vs ns G Y ho hd hcd hmg hobj hints hlen hbits hg => ?_
  have KX := hY w s₁.heap Y
  obtain ⟨fd, cs, sp, hT, nT, C, hb, hsp, hF⟩ := F w mg fa s₁.heap KX G.T.g hmg fun y c P h1 h2 => by
    obtain ⟨d', hd'⟩ := Option.isSome_iff_exists.mp h1
    exact W.tab_of G.T KX hd' h2
  exact LamX.law_callTs KX G.T.g G.T.b G.T.builtins G.T.nolimit hg hT nT C G.T.bmain hobj hints (Nat.le_trans hlen hn2) hr hF hb (fun H hH hS => hsp H a ns hlen hbits hH hS) fun H e s' => hCX w H s₁ e s'
end Odds
namespace Pm
open PySem L2
/-! ### math -/
section
variable {X : Cx} {g : Sg} {W : WX}
def isqrtM : MF
  | [.int n], S => if 0 ≤ n ∧ n.natAbs < 2 ^ 13000 then .ok (.int (PySem.Float64.isqrt n.toNat : Nat)) S else .bad
  | _, _ => .bad
theorem sq_uniq {n r s : Int} (hr : 0 ≤ r) (hs : 0 ≤ s) (h1 : r * r ≤ n) (h2 : n < (r + 1) * (r + 1)) (h3 : s * s ≤ n) (h4 : n < (s + 1) * (s + 1)) : r = s := by
  have key : ∀ {x y : Int}, 0 ≤ x → 0 ≤ y → x * x ≤ n → n < (y + 1) * (y + 1) → x ≤ y := fun {x y} hx hy a b => by
    apply Int.not_lt.mp
    intro h
    have h' : y + 1 ≤ x := h
    have := Int.mul_le_mul h' h' (by omega) hx
    omega
  exact Int.le_antisymm (key hr hs h1 h4) (key hs hr h3 h2)
theorem isq_lo {n : Int} (h : 0 ≤ n) : ((PySem.Float64.isqrt n.toNat : Nat) : Int) * ((PySem.Float64.isqrt n.toNat : Nat) : Int) ≤ n := by
  have sp := (PySem.Float64.isqrt_spec n.toNat).1
  rw [← Int.natCast_mul]
  omega
theorem isq_hi {n : Int} (h : 0 ≤ n) : n < (((PySem.Float64.isqrt n.toNat : Nat) : Int) + 1) * (((PySem.Float64.isqrt n.toNat : Nat) : Int) + 1) := by
  have h2 := (PySem.Float64.isqrt_spec n.toNat).2
  have e2 : (((PySem.Float64.isqrt n.toNat : Nat) : Int) + 1) * (((PySem.Float64.isqrt n.toNat : Nat) : Int) + 1) = (((PySem.Float64.isqrt n.toNat + 1) * (PySem.Float64.isqrt n.toNat + 1) : Nat) : Int) := by
    rw [Int.natCast_mul]
    rfl
  rw [e2]
  omega
theorem cam_isqrt : CaM X g W Odds.rIsqrt isqrtM := by
  intro α σ H ρ S xs vs Q r d q
  rcases xs with _ | ⟨x, _ | ⟨y, tl⟩⟩ <;> first | exact False.elim q | (cases x <;> first | exact False.elim q | (cases y <;> exact False.elim q)) | skip
  · obtain ⟨v, rfl, dv⟩ := d.one
    clear d
    cases dv <;> first | exact False.elim q | skip
    case int n =>
      simp only [isqrtM] at q
      split at q
      · rename_i hn
        refine ⟨n, rfl, hn.1, hn.2, fun s h0 h1 h2 => ?_⟩
        have e : s = ((PySem.Float64.isqrt n.toNat : Nat) : Int) := sq_uniq h0 (by omega) h1 h2 (isq_lo hn.1) (isq_hi hn.1)
        rw [e]
        exact q.here r _ (.int _)
      · exact q.elim
def lcmM : MF
  | [.int a, .int b], S => if a.natAbs < 2 ^ 6000 ∧ b.natAbs < 2 ^ 6000 then .ok (.int (Nat.lcm a.natAbs b.natAbs : Nat)) S else .bad
  | _, _ => .bad
theorem cam_lcm : CaM X g W Odds.rLcm lcmM := by
  intro α σ H ρ S xs vs Q r d q
  rcases xs with _ | ⟨x, _ | ⟨y, _ | ⟨z, tl⟩⟩⟩ <;> first | exact False.elim q | (cases x <;> first | exact False.elim q | (cases y <;> exact False.elim q)) | skip
  · obtain ⟨v, u, rfl, dv, du⟩ := d.two
    clear d
    cases dv <;> cases du <;> first | exact False.elim q | skip
    case int.int i j =>
      simp only [lcmM] at q
      split at q
      · rename_i h
        exact ⟨i, j, rfl, h.1, h.2, q.here r _ (.int _)⟩
      · exact q.elim
def gcd3M : MF
  | [.int a, .int b, .int c], S => .ok (.int (Nat.gcd (Nat.gcd a.natAbs b.natAbs) c.natAbs : Nat)) S
  | _, _ => .bad
theorem cam_gcd3 : CaM X g W Odds.rGcd3 gcd3M := by
  intro α σ H ρ S xs vs Q r d q
  rcases xs with _ | ⟨x, _ | ⟨y, _ | ⟨z, _ | ⟨t, tl⟩⟩⟩⟩ <;> first | exact False.elim q | (cases x <;> first | exact False.elim q | (cases y <;> first | exact False.elim q | (cases z <;> exact False.elim q))) | skip
  · cases d with
    | cons dx d =>
      obtain ⟨u, w, rfl, dy, dz⟩ := d.two
      clear d
      cases dx <;> first | exact False.elim q | skip
      cases dy <;> first | exact False.elim q | skip
      cases dz <;> first | exact False.elim q | skip
      exact ⟨_, _, _, rfl, q.here r _ (.int _)⟩
end

/-! ### all(is_whole(x) for x in a tuple) -/
def whP : PV → Option Bool
  | .int _ => some true
  | .bl _ => some false
  | .str _ => some false
  | _ => none
def whsP : List PV → Option (List Bool)
  | [] => some []
  | x :: xs => match whP x, whsP xs with
    | some b, some bs => some (b :: bs)
    | _, _ => none
def mAllWh (m : ME) : ME := fun ρ S => (m ρ S).bind fun x S1 => match x with
  | .tup xs => match whsP xs with
    | some bs => .ok (.bl (bs.all id)) S1
    | none => .bad
  | _ => .bad
section
variable {X : Cx} {g : Sg} {W : WX} {K : PySem.W.Frag} {α : List Addr} {σ : St} {H H' : Hp} {ρ : PSt} {S : Sto} {P : Addr}
theorem Kp.tabbed (r : GxR.TabG H P) (t : GxR.Tabbed P H H') : Kp H H' := fun a o h s => by
  have hne : a ≠ P := by
    rintro rfl
    obtain ⟨ps, hp, _⟩ := r
    rw [hp] at h
    cases h
    exact s.elim
  rw [t.2 a hne]
  exact h
theorem RlC.tabbed (r : RlC K g α H S) (hP : P ∈ g.tabs) (t : GxR.Tabbed P H H') : RlC K g α H' S := by
  have kp := Kp.tabbed (r.tab P hP) t
  refine ⟨r.len, r.nd, fun n a o h1 h2 => ?_, fun P' h => ?_⟩
  · have m := r.cel n a o h1 h2
    obtain ⟨u, hu, _, nt⟩ := m.some
    refine m.mono (List.prefix_refl _) kp fun v hv => ?_
    have hne : a ≠ P := by
      rintro rfl
      obtain ⟨ps, hp, _⟩ := r.tab _ hP
      rw [hp] at hu
      exact nt ps (Option.some.inj hu).symm
    rw [t.2 a hne]
    exact hv
  · by_cases e : P' = P
    · rw [e]; exact t.1
    · obtain ⟨ps, h1, h2⟩ := r.tab P' h
      exact ⟨ps, by rw [t.2 P' e]; exact h1, h2⟩
theorem whs_els : ∀ {xs : List PV} {vs : List V} {bs : List Bool}, Dens K α H xs vs → whsP xs = some bs → Odds.Els Odds.Wh vs bs
  | [], _, _, .nil, e => by
    cases e
    exact ⟨rfl, fun i x b u h => by cases h⟩
  | x :: xs, _, _, .cons (v := v) (vs := vs) d ds, e => by
    simp only [whsP] at e
    split at e
    · rename_i b bs e1 e2
      cases e
      obtain ⟨h1, h2⟩ := whs_els ds e2
      refine ⟨by simp [h1], fun i y c u hy hc hu => ?_⟩
      cases i with
      | succ i => exact h2 i y c u (by simpa using hy) (by simpa using hc) hu
      | zero =>
        simp at hy hc
        subst hy hc
        cases d <;> simp only [whP] at e1 <;> cases e1
        · cases hu; exact .bl _
        · obtain ⟨t, rfl⟩ := hu; exact .int _ t
        · obtain ⟨t, rfl⟩ := hu; exact .str _ t
    · cases e
theorem re_allW {e ca : Expr} {m : ME} (hP : P ∈ g.tabs) (h : RE X g W e m) (hc : ∀ {te : TE}, PE X e te → PE X ca (Odds.tAllT X.K P Odds.Wh te)) : RE X g W ca (mAllWh m) := by
  refine pe_le (hc h) fun σ H Q ⟨α, ρ, S, r, q⟩ => ?_
  refine ⟨α, ρ, S, r, q.of_bind.imp fun α1 H1 x S1 p1 k1 r1 q1 v dv => ?_⟩
  replace q1 := q1 r1
  cases dv <;> first | exact q1.elim | skip
  case tup xs vs a h0 d =>
    dsimp only at q1
    split at q1
    · rename_i bs eb
      refine ⟨a, vs, bs, rfl, h0, whs_els d eb, r1.obj.tab P hP, fun H2 t => ?_⟩
      have kp := Kp.tabbed (r1.obj.tab P hP) t
      exact q1 α1 H2 (List.prefix_refl _) kp (r1.keep (List.prefix_refl _) kp (r1.obj.tabbed hP t)) _ (.bl _)
    · exact q1.elim
end
end Pm
namespace Pm
open PySem L2
section
variable {X : Cx} {g : Sg} {W : WX} {es : List Expr} {ms : MA} {st : Stmt} {body : List Stmt}
/-- a, b, c = x, y, z -/
def mPar3 (i j l : Nat) (ms : MA) : MS := fun ρ S => (ms ρ S).ot ρ fun xs S1 => match xs with
  | [x, y, z] => .nx (((ρ.set i (some x)).set j (some y)).set l (some z)) S1
  | _ => .bad
theorem Dens.three {K : PySem.W.Frag} {α : List Addr} {H : Hp} {x y z : PV} {vs : List V} (d : Dens K α H [x, y, z] vs) : ∃ v u w, vs = [v, u, w] ∧ Den K α H x v ∧ Den K α H y u ∧ Den K α H z w := by
  cases d with
  | cons a b => obtain ⟨u, w, rfl, hu, hw⟩ := b.two; exact ⟨_, u, w, rfl, a, hu, hw⟩
theorem rs_par3 {i j l : Nat} (h : RA X g W es ms) (hp : ∀ {ta : TA}, PA X es ta → PS X st (tPar3 i j l ta)) : RS X g W st (mPar3 i j l ms) := by
  refine ps_le (hp h) fun D σ H ⟨α, ρ, S, r, q⟩ => ?_
  refine ⟨α, ρ, S, r, (then_post q).imp fun α1 H1 xs S1 p1 k1 r1 q1 vs dvs => ?_⟩
  replace q1 := q1 r1
  rcases xs with _ | ⟨x, _ | ⟨y, _ | ⟨z, _ | ⟨t, tl⟩⟩⟩⟩ <;> first | exact False.elim q1 | skip
  obtain ⟨v, u, w, rfl, dv, du, dw⟩ := dvs.three
  exact ⟨v, u, w, rfl, q1 α1 _ H1 (List.prefix_refl _) Kp.refl (((r1.set1 dv).set1 du).set1 dw)⟩
theorem rss_bad : RSs X g W body (fun _ _ => .bad) := ⟨fun _ _ _ _ _ _ ⟨_, _, _, _, q⟩ => False.elim q⟩
end
end Pm
namespace Pm
open PySem L2
/-! ### how mirrors are computed: one thing after another, nothing under a binder -/
theorem bind_cong {α β : Type} {r r' : Rs α} {f : α → Sto → Rs β} (h : r = r') : r.bind f = r'.bind f := by rw [h]
theorem ot_cong {β : Type} {r r' : Rs β} {ρ : PSt} {f : β → Sto → Ot} (h : r = r') : r.ot ρ f = r'.ot ρ f := by rw [h]
theorem sb_cong {α β : Type} {r r' : Rs α} {f : α → Sto → Rs β} (h : r = r') : r.sb f = r'.sb f := by rw [h]
/-- what follows a statement -/
def Ot.sq (o : Ot) (b : MS) : Ot := match o with
  | .nx ρ S => b ρ S
  | o => o
theorem sq_cong {o o' : Ot} {b : MS} (h : o = o') : o.sq b = o'.sq b := by rw [h]
@[simp] theorem sq_nx {ρ S} {b : MS} : (Ot.nx ρ S).sq b = b ρ S := rfl
@[simp] theorem sq_rt {x S} {b : MS} : (Ot.rt x S).sq b = .rt x S := rfl
@[simp] theorem sq_bk {x S} {b : MS} : (Ot.bk x S).sq b = .bk x S := rfl
@[simp] theorem sq_ct {x S} {b : MS} : (Ot.ct x S).sq b = .ct x S := rfl
@[simp] theorem sq_er {c fs ρ S} {b : MS} : (Ot.er c fs ρ S).sq b = .er c fs ρ S := rfl
@[simp] theorem sq_bad {b : MS} : Ot.bad.sq b = .bad := rfl
/-- the end of a def -/
def Ot.fin (o : Ot) (n : Nat) : Rs PV := match o with
  | .rt x S' => .ok x (gcS n [x] S')
  | .nx _ S' => .ok .non (gcS n [] S')
  | .er c fs _ S' => .er c fs (gcS n (fs.map (·.2)) S')
  | _ => .bad
theorem fin_cong {o o' : Ot} {n : Nat} (h : o = o') : o.fin n = o'.fin n := by rw [h]
@[simp] theorem fin_rt {x S n} : (Ot.rt x S).fin n = .ok x (gcS n [x] S) := rfl
@[simp] theorem fin_nx {x S n} : (Ot.nx x S).fin n = .ok .non (gcS n [] S) := rfl
@[simp] theorem fin_er {c fs ρ S n} : (Ot.er c fs ρ S).fin n = .er c fs (gcS n (fs.map (·.2)) S) := rfl
theorem gcS_le {n : Nat} {vs : List PV} {S : Sto} (h : S.length ≤ n) : gcS n vs S = S := by
  unfold gcS
  rw [List.take_of_length_le h]
  split <;> rfl
@[simp] theorem gcS_self {vs : List PV} {S : Sto} : gcS S.length vs S = S := gcS_le (Nat.le_refl _)
@[simp] theorem gcS_set {vs : List PV} {S : Sto} {i : Nat} {o : MO} : gcS S.length vs (S.set i o) = S.set i o := gcS_le (by simp)
section
variable {a b : MS} {t ta tb : MT} {m ma mb mc : ME} {ms : MA} {ρ : PSt} {S : Sto} {f f' : PV → PV → Sto → Rs PV}
theorem callD_ev {np n : Nat} {ps : List PV} (h : ps.length = np := by rfl) : callD np n a ps S = (a (ps.map some ++ List.replicate (n - ps.length) none) S).fin S.length := by
  unfold callD
  rw [if_pos h]
  cases a (ps.map some ++ List.replicate (n - ps.length) none) S <;> rfl
theorem mSeq_ev : mSeq a b ρ S = (a ρ S).sq b := by
  unfold mSeq Ot.sq
  cases a ρ S <;> rfl
theorem mIf_ev : mIf t a b ρ S = (t ρ S).ot ρ fun x S1 => if x = true then a ρ S1 else b ρ S1 := rfl
theorem mRet_ev : mRet m ρ S = (m ρ S).ot ρ fun x S1 => .rt x S1 := rfl
theorem mExp_ev : mExp m ρ S = (m ρ S).ot ρ fun _ S1 => .nx ρ S1 := rfl
theorem mAsg_ev {g : MG} : mAsg m g ρ S = (m ρ S).ot ρ fun x S1 => bindG g x ρ S1 fun ρ' => .nx ρ' S1 := rfl
theorem mAsgN_ev {i : Nat} : mAsg m (mgName i) ρ S = (m ρ S).ot ρ fun x S1 => .nx (ρ.set i (some x)) S1 := rfl
theorem bindGN_ev {i : Nat} {x : PV} {k : PSt → Ot} : bindG (mgName i) x ρ S k = k (ρ.set i (some x)) := rfl
theorem bindG_ev {g : MG} {x : PV} {k : PSt → Ot} {l : List (Nat × PV)} (h : g x S = some l) : bindG g x ρ S k = k (setl ρ l) := by unfold bindG; rw [h]
theorem mPar_ev {i j : Nat} : mPar i j ms ρ S = (ms ρ S).ot ρ fun xs S1 => match xs with
  | [x, y] => .nx ((ρ.set i (some x)).set j (some y)) S1
  | _ => .bad := rfl
theorem mPar3_ev {i j l : Nat} : mPar3 i j l ms ρ S = (ms ρ S).ot ρ fun xs S1 => match xs with
  | [x, y, z] => .nx (((ρ.set i (some x)).set j (some y)).set l (some z)) S1
  | _ => .bad := rfl
theorem mSetL_ev {mo mi mv : ME} : mSetL mo mi mv ρ S = (mv ρ S).ot ρ fun v S1 => (mo ρ S1).ot ρ fun o S2 => (mi ρ S2).ot ρ fun i S3 => setLO ρ v o i S3 := by
  unfold mSetL
  cases mv ρ S with
  | ok v S1 =>
    simp only [bind_ok, ot_ok]
    cases mo ρ S1 with
    | ok o S2 =>
      simp only [bind_ok, ot_ok]
      cases mi ρ S2 <;> rfl
    | er => rfl
    | bad => rfl
  | er => rfl
  | bad => rfl
theorem mNx_ev : mNx ρ S = .nx ρ S := rfl
theorem mBk_ev : mBk ρ S = .bk ρ S := rfl
theorem mCt_ev : mCt ρ S = .ct ρ S := rfl
theorem mRetN_ev : mRetN ρ S = .rt .non S := rfl
theorem mRaise_ev {c : Str} {ns : List Str} : mRaise c ns ms ρ S = (ms ρ S).ot ρ fun xs S1 => if xs.length = ns.length then .er c (ns.zip xs).reverse ρ S1 else .bad := rfl
theorem m2_ev : m2 f ma mb ρ S = (ma ρ S).bind fun x S1 => (mb ρ S1).bind fun y S2 => f x y S2 := rfl
theorem mC_ev {x : PV} : mC x ρ S = .ok x S := rfl
theorem mVar_ev {i : Nat} {x : PV} (h : ρ[i]? = some (some x)) : mVar i ρ S = .ok x S := by unfold mVar; rw [h]
theorem mTst_ev : mTst m ρ S = (m ρ S).bind fun x S1 => match x with
  | .bl b => .ok b S1
  | _ => .bad := rfl
theorem mTru_ev : mTru m ρ S = (m ρ S).bind fun x S1 => match truthM x S1 with
  | some b => .ok b S1
  | none => .bad := rfl
theorem mCh_ev : mCh f f' ma mb mc ρ S = (ma ρ S).bind fun x S1 => (mb ρ S1).bind fun y S2 => (f x y S2).bind fun z S3 => match z with
  | .bl true => (mc ρ S3).bind fun w S4 => f' y w S4
  | .bl false => .ok (.bl false) S3
  | _ => .bad := rfl
theorem mIsN_ev {n : Bool} : mIsN n m ρ S = (m ρ S).bind fun x S1 => .ok (.bl (if n then !isNM x else isNM x)) S1 := rfl
theorem mAndT_ev : mAndT ta tb ρ S = (ta ρ S).bind fun x S1 => if x = true then tb ρ S1 else .ok false S1 := rfl
theorem mOrT_ev : mOrT ta tb ρ S = (ta ρ S).bind fun x S1 => if x = true then .ok true S1 else tb ρ S1 := rfl
theorem mNotT_ev : mNotT t ρ S = (t ρ S).bind fun x S1 => .ok (!x) S1 := rfl
theorem mAndV_ev : mAndV ma mb ρ S = (ma ρ S).bind fun x S1 => match x with
  | .bl true => mb ρ S1
  | .bl false => .ok (.bl false) S1
  | _ => .bad := rfl
theorem mOrV_ev : mOrV ma mb ρ S = (ma ρ S).bind fun x S1 => match x with
  | .bl true => .ok (.bl true) S1
  | .bl false => mb ρ S1
  | _ => .bad := rfl
theorem mNotV_ev : mNotV m ρ S = (m ρ S).bind fun x S1 => match x with
  | .bl b => .ok (.bl (!b)) S1
  | _ => .bad := rfl
theorem mIfE_ev : mIfE t ma mb ρ S = (t ρ S).bind fun x S1 => if x = true then ma ρ S1 else mb ρ S1 := rfl
theorem mNeg_ev : mNeg m ρ S = (m ρ S).bind fun x S1 => match x with
  | .int i => .ok (.int (-i)) S1
  | _ => .bad := rfl
theorem mNil_ev : mNil ρ S = .ok [] S := rfl
theorem mCons_ev : mCons m ms ρ S = (m ρ S).bind fun x S1 => (ms ρ S1).bind fun xs S2 => .ok (x :: xs) S2 := rfl
theorem mTup_ev : mTup ms ρ S = (ms ρ S).bind fun xs S1 => .ok (.tup xs) S1 := rfl
theorem mLst_ev : mLst ms ρ S = (ms ρ S).bind fun xs S1 => .ok (.cell S1.length) (S1 ++ [.lst xs]) := rfl
theorem mCall_ev {g : MF} : mCall g ms ρ S = (ms ρ S).bind g := rfl
theorem mIsi_ev {T : String} : mIsi T m ρ S = (m ρ S).bind fun x S1 => isiM T x S1 := rfl
theorem mApp_ev {np : Nat} {g : MF} : mApp np g ms ρ S = (ms ρ S).bind fun xs S1 => if xs.length = np then g xs S1 else .bad := rfl
theorem mAllWh_ev : mAllWh m ρ S = (m ρ S).bind fun x S1 => match x with
  | .tup xs => match whsP xs with
    | some bs => .ok (.bl (bs.all id)) S1
    | none => .bad
  | _ => .bad := rfl
theorem mSl_ev {lo hi : PSt → Sto → Rs (Option Int)} : mSl m lo hi ρ S = (m ρ S).bind fun x S1 => (lo ρ S1).bind fun l S2 => (hi ρ S2).bind fun h S3 => slM x l h S3 := rfl
theorem mNoP_ev : mNoP ρ S = .ok none S := rfl
theorem mPart_ev : mPart m ρ S = (m ρ S).bind fun x S1 => match x with
  | .int i => .ok (some i) S1
  | _ => .bad := rfl
theorem mFor_ev {mi : MI} {g : MG} : mFor mi g b ρ S = (mi ρ S).ot ρ fun it S1 => forGo it.raw g b it.items ρ S1 := rfl
theorem mItA_ev {h : List PV → Sto → Rs Itm} : mItA h ms ρ S = (ms ρ S).bind h := rfl
theorem mItE_ev : mItE m ρ S = (m ρ S).bind fun x S1 => match itOf x S1 with
  | some it => .ok it S1
  | none => .bad := rfl
theorem mLc_ev {mi : MI} {g : MG} {te : ME} {vs : List Nat} : mLc mi g t te vs ρ S = (mi ρ S).bind fun it S1 => lcGo it.raw g t te vs S1.length ρ it.items (S1 ++ [.lst []]) := rfl
theorem mYes_ev : mYes ρ S = .ok true S := rfl
/-! on values -/
theorem add_ev {i j : Int} : addM (.int i) (.int j) S = .ok (.int (i + j)) S := rfl
theorem sub_ev {i j : Int} : subM (.int i) (.int j) S = .ok (.int (i - j)) S := rfl
theorem mul_ev {i j : Int} (h : mulOk i j = true) : mulM (.int i) (.int j) S = .ok (.int (i * j)) S := by simp [mulM, h]
theorem mod_ev {i j : Int} (h : 0 < j) : modM (.int i) (.int j) S = .ok (.int (i % j)) S := by simp [modM, h]
theorem div_ev {i j : Int} (h : 0 < j) (h2 : j.natAbs.log2 < 9000) : fdivM (.int i) (.int j) S = .ok (.int (i / j)) S := by simp [fdivM, h, h2]
theorem fdiv_ev {i j : Int} (h : j ≠ 0) (h2 : j.natAbs.log2 < 9000) : fdivM (.int i) (.int j) S = .ok (.int (i.fdiv j)) S := by
  simp only [fdivM]
  by_cases h0 : 0 < j
  · rw [if_pos h0, if_pos h2, Int.fdiv_eq_ediv_of_nonneg _ (Int.le_of_lt h0)]
  · rw [if_neg h0, if_pos ⟨h, h2⟩]
theorem pow_ev {i j : Int} (h : 0 ≤ j ∧ j ≤ 1000000 ∧ i.natAbs < 2 ^ 64) : powM (.int i) (.int j) S = .ok (.int (i ^ j.toNat)) S := by simp [powM, h]
theorem lt_ev {i j : Int} : ltM (.int i) (.int j) S = .ok (.bl (decide (i < j))) S := rfl
theorem le_ev {i j : Int} : leM (.int i) (.int j) S = .ok (.bl (decide (i ≤ j))) S := rfl
theorem gt_ev {i j : Int} : gtM (.int i) (.int j) S = .ok (.bl (decide (j < i))) S := rfl
theorem ge_ev {i j : Int} : geM (.int i) (.int j) S = .ok (.bl (decide (j ≤ i))) S := rfl
theorem eqi_ev {i j : Int} : eqM (.int i) (.int j) S = .ok (.bl (decide (i = j))) S := rfl
theorem eqs_ev {i j : Str} : eqM (.str i) (.str j) S = .ok (.bl (decide (i = j))) S := rfl
theorem eqb_ev {i j : Bool} : eqM (.bl i) (.bl j) S = .ok (.bl (decide (i = j))) S := rfl
theorem eqn_ev {i : Int} : eqM .non (.int i) S = .ok (.bl false) S := rfl
theorem nei_ev {i j : Int} : neM (.int i) (.int j) S = .ok (.bl (!decide (i = j))) S := rfl
theorem nes_ev {i j : Str} : neM (.str i) (.str j) S = .ok (.bl (!decide (i = j))) S := rfl
theorem atP_nat {xs : List PV} {j : Nat} {x : PV} (h : xs[j]? = some x) : atP xs (j : Int) = some x := by
  have hl := (List.getElem?_eq_some_iff.mp h).1
  unfold atP
  have : ixN xs.length (j : Int) = some j := by
    unfold ixN
    rw [if_pos (by omega), if_pos (by omega)]
    rfl
  rw [this]
  exact h
theorem ixT_ev {xs : List PV} {i : Int} {x : PV} (h : atP xs i = some x) : ixM (.tup xs) (.int i) S = .ok x S := by simp [ixM, h]
theorem ixR_ev {xs : List PV} {i : Int} {x : PV} (h : atP xs i = some x) : ixM (.rol xs) (.int i) S = .ok x S := by simp [ixM, h]
theorem ixC_ev {n : Nat} {xs : List PV} {i : Int} {x : PV} (h : S[n]? = some (.lst xs)) (h2 : atP xs i = some x) : ixM (.cell n) (.int i) S = .ok x S := by simp [ixM, h, h2]
theorem lenT_ev {xs : List PV} : lenM [.tup xs] S = .ok (.int xs.length) S := rfl
theorem lenC_ev {n : Nat} {xs : List PV} (h : S[n]? = some (.lst xs)) : lenM [.cell n] S = .ok (.int xs.length) S := by simp [lenM, h]
theorem abs_ev {i : Int} : absM [.int i] S = .ok (.int (i.natAbs : Nat)) S := by
  simp only [absM]
  split
  · congr 2; omega
  · congr 2; omega
theorem int_ev {i : Int} : intM [.int i] S = .ok (.int i) S := rfl
theorem intb_ev {b : Bool} : intM [.bl b] S = .ok (.int (if b then 1 else 0)) S := rfl
end
/-! loops -/
section
variable {t : MG} {body : MS} {x : PV} {xs : List PV} {ρ : PSt} {S : Sto} {i : Nat}
theorem loopE_cong {o o' : Ot} {f : PSt → Sto → Ot} (h : o = o') : loopE o f = loopE o' f := by rw [h]
@[simp] theorem loopE_nx {f : PSt → Sto → Ot} : loopE (.nx ρ S) f = f ρ S := rfl
@[simp] theorem loopE_ct {f : PSt → Sto → Ot} : loopE (.ct ρ S) f = f ρ S := rfl
@[simp] theorem loopE_bk {f : PSt → Sto → Ot} : loopE (.bk ρ S) f = .nx ρ S := rfl
@[simp] theorem loopE_rt {f : PSt → Sto → Ot} : loopE (.rt x S) f = .rt x S := rfl
@[simp] theorem loopE_er {c fs} {f : PSt → Sto → Ot} : loopE (.er c fs ρ S) f = .er c fs ρ S := rfl
theorem go_nil : forGo [] t body [] ρ S = .nx ρ S := by
  unfold forGo
  rw [if_pos chk_nil]
theorem go_cons : forGo [] t body (x :: xs) ρ S = bindG t x ρ S fun ρ1 => loopE (body ρ1 S) fun ρ2 S2 => forGo [] t body xs ρ2 S2 := by
  conv => lhs; unfold forGo
  rw [if_pos chk_nil]
theorem go_consN : forGo [] (mgName i) body (x :: xs) ρ S = loopE (body (ρ.set i (some x)) S) fun ρ2 S2 => forGo [] (mgName i) body xs ρ2 S2 := go_cons
@[simp] theorem rngP_len {lo : Int} {n : Nat} : (rngP lo n).length = n := by simp [rngP]
theorem rng1_ev {j : Int} (h : -(2 ^ 62) ≤ j ∧ j < 2 ^ 62) : rng1 [.int j] S = .ok ⟨rngP 0 j.toNat, []⟩ S := if_pos h
theorem rng2_ev {i j : Int} (h : -(2 ^ 62) ≤ i ∧ i < 2 ^ 62 ∧ -(2 ^ 62) ≤ j ∧ j < 2 ^ 62) : rng2 [.int i, .int j] S = .ok ⟨rngP i (j - i).toNat, []⟩ S := if_pos h
theorem mulOk_r {i j : Int} (h : j.natAbs < 2 ^ 63) : mulOk i j = true := by simp [mulOk, h]
theorem mulOk_l {i j : Int} (h : i.natAbs < 2 ^ 63) : mulOk i j = true := by simp [mulOk, h]
theorem mulOk_b {i j : Int} {a b : Nat} (ha : i.natAbs < 2 ^ a) (hb : j.natAbs < 2 ^ b) (h : a + b ≤ 900000 := by decide) : mulOk i j = true := by
  have e : ∀ (x : Int) (n : Nat), x.natAbs < 2 ^ n → x.natAbs.log2 < n + 1 := fun x n hx => by
    by_cases h0 : x.natAbs = 0
    · rw [h0]; exact Nat.lt_of_lt_of_le (by decide) (Nat.succ_le_succ (Nat.zero_le n))
    · exact Nat.lt_succ_of_lt ((Nat.log2_lt h0).mpr hx)
  have h1 := e i a ha
  have h2 := e j b hb
  have : i.natAbs.log2 + j.natAbs.log2 < 1000000 := by omega
  simp [mulOk, this]
theorem log_b {j : Int} {b : Nat} (hb : j.natAbs < 2 ^ b) (h : b ≤ 8999 := by decide) : j.natAbs.log2 < 9000 := by
  by_cases h0 : j.natAbs = 0
  · rw [h0]; decide
  · exact Nat.lt_of_lt_of_le ((Nat.log2_lt h0).mpr hb) (by omega)
end
/-! what is dropped at a def's end; comprehensions -/
def Clo (S : Sto) : Prop := S.all (cloO S.length) = true
mutual
theorem clo_up {n m : Nat} (h : n ≤ m) : ∀ {x : PV}, clo n x = true → clo m x = true
  | .non, _ => rfl
  | .bl _, _ => rfl
  | .int _, _ => rfl
  | .str _, _ => rfl
  | .tup xs, e => clos_up h (xs := xs) e
  | .rol xs, e => clos_up h (xs := xs) e
  | .cell c, e => decide_eq_true (Nat.lt_of_lt_of_le (of_decide_eq_true (show decide _ = true from e)) h)
theorem clos_up {n m : Nat} (h : n ≤ m) : ∀ {xs : List PV}, clos n xs = true → clos m xs = true
  | [], _ => rfl
  | x :: xs, e => by
    have e' := Bool.and_eq_true_iff.mp (show (clo n x && clos n xs) = true from e)
    show (clo m x && clos m xs) = true
    rw [clo_up h e'.1, clos_up h e'.2]
    rfl
end
theorem cloO_up {n m : Nat} (h : n ≤ m) : ∀ {o : MO}, cloO n o = true → cloO m o = true
  | .lst _, e => clos_up h e
  | .dk _, e => clos_up h e
  | .dt _, e => clos_up h e
  | .ins _ _, e => clos_up h e
theorem Clo.app {S : Sto} {o : MO} (h : Clo S) (ho : cloO (S.length + 1) o = true) : Clo (S ++ [o]) := by
  unfold Clo at *
  rw [List.all_append, List.length_append]
  refine Bool.and_eq_true_iff.mpr ⟨List.all_eq_true.mpr fun x hx => cloO_up (by simp) (List.all_eq_true.mp h x hx), ?_⟩
  simp [ho]
theorem Clo.set {S : Sto} {i : Nat} {o : MO} (h : Clo S) (ho : cloO S.length o = true) : Clo (S.set i o) := by
  unfold Clo at *
  rw [List.length_set]
  refine List.all_eq_true.mpr fun x hx => ?_
  rcases List.mem_or_eq_of_mem_set hx with hx | rfl
  · exact List.all_eq_true.mp h x hx
  · exact ho
theorem gcS_app {S E : Sto} {vs : List PV} (h : Clo S) (hv : clos S.length vs = true) : gcS S.length vs (S ++ E) = S := by
  unfold gcS
  rw [List.take_left']
  · exact if_pos ⟨hv, h⟩
  · rfl
theorem lcGo_map {t : MG} {te : ME} {vs : List Nat} {ρ : PSt} {S : Sto} {f : PV → PV} {P : List PV → Prop} : ∀ (items : List PV) (acc : List PV), acc.length + items.length ≤ sizeLine → P acc →
    (∀ x ∈ items, ∀ acc, P acc → P (acc ++ [f x]) ∧ ∃ l, t x (S ++ [.lst acc]) = some l ∧ (∀ p ∈ l, p.1 ∈ vs) ∧ te (Pm.setl (wipeP ρ vs) l) (S ++ [.lst acc]) = .ok (f x) (S ++ [.lst acc])) →
    lcGo [] t mYes te vs S.length ρ items (S ++ [.lst acc]) = .ok (.cell S.length) (S ++ [.lst (acc ++ items.map f)])
  | [], acc, _, _, _ => by
    unfold lcGo
    rw [if_pos chk_nil]
    simp
  | x :: xs, acc, hl, hp, h => by
    obtain ⟨hp', l, h1, h2, h3⟩ := h x List.mem_cons_self acc hp
    unfold lcGo
    rw [if_pos chk_nil, h1]
    simp only [if_pos h2, mYes_ev, sb_ok, if_true, h3]
    have e1 : (S ++ [MO.lst acc])[S.length]? = some (.lst acc) := by simp
    rw [e1]
    simp only
    have hs : acc.length < sizeLine := by simp at hl; omega
    rw [if_pos hs]
    have e2 : (S ++ [MO.lst acc]).set S.length (.lst (acc ++ [f x])) = S ++ [.lst (acc ++ [f x])] := by simp
    rw [e2, lcGo_map xs (acc ++ [f x]) (by simp at hl ⊢; omega) hp' fun y hy => h y (List.mem_cons_of_mem _ hy)]
    simp
theorem j0 (x : PV) (xs : List PV) : atP (x :: xs) 0 = some x := atP_nat (j := 0) rfl
theorem j1 (x y : PV) (xs : List PV) : atP (x :: y :: xs) 1 = some y := atP_nat (j := 1) rfl
theorem j2 (x y z : PV) (xs : List PV) : atP (x :: y :: z :: xs) 2 = some z := atP_nat (j := 2) rfl
theorem ixT0 {x : PV} {xs : List PV} {S : Sto} : ixM (.tup (x :: xs)) (.int 0) S = .ok x S := ixT_ev (j0 x xs)
theorem ixT1 {x y : PV} {xs : List PV} {S : Sto} : ixM (.tup (x :: y :: xs)) (.int 1) S = .ok y S := ixT_ev (j1 x y xs)
theorem ixT2 {x y z : PV} {xs : List PV} {S : Sto} : ixM (.tup (x :: y :: z :: xs)) (.int 2) S = .ok z S := ixT_ev (j2 x y z xs)
end Pm
namespace Odds
open PySem L2
/-! ### Euclid -/
def GcdI (B g i a b : Nat) : Prop := Nat.gcd a b = g ∧ ((i = 0 ∧ a < 2 ^ B ∧ b < 2 ^ B) ∨ (0 < i ∧ (b = 0 ∨ (b < a ∧ a * b * 2 ^ (i - 1) < 2 ^ (B + B)))))
theorem gcdI_step {B g i a b : Nat} (h : GcdI B g i a b) (hb : b ≠ 0) : GcdI B g (i + 1) b (a % b) := by
  obtain ⟨hg, h⟩ := h
  refine ⟨by rw [← hg, Nat.gcd_comm b (a % b), ← Nat.gcd_rec, Nat.gcd_comm], .inr ⟨Nat.succ_pos _, ?_⟩⟩
  have hlt : a % b < b := Nat.mod_lt _ (Nat.pos_of_ne_zero hb)
  refine .inr ⟨hlt, ?_⟩
  rcases h with ⟨rfl, ha, hb2⟩ | ⟨hi, h0 | ⟨hba, hp⟩⟩
  · show b * (a % b) * 2 ^ 0 < 2 ^ (B + B)
    rw [Nat.pow_zero, Nat.mul_one, Nat.pow_add]
    exact Nat.mul_lt_mul'' hb2 (Nat.lt_trans hlt hb2)
  · exact absurd h0 hb
  · have e : i + 1 - 1 = (i - 1) + 1 := by omega
    rw [e, Nat.pow_succ]
    have h2 : 2 * (a % b) ≤ a := by
      have h3 := Nat.mod_add_div a b
      have h4 : 1 ≤ a / b := (Nat.one_le_div_iff (Nat.pos_of_ne_zero hb)).mpr (Nat.le_of_lt hba)
      have h5 : b * 1 ≤ b * (a / b) := Nat.mul_le_mul_left b h4
      omega
    calc b * (a % b) * (2 ^ (i - 1) * 2) = (2 * (a % b)) * b * 2 ^ (i - 1) := by
            rw [Nat.mul_comm (2 ^ (i - 1)) 2, ← Nat.mul_assoc, Nat.mul_comm b (a % b), Nat.mul_comm (a % b * b) 2, ← Nat.mul_assoc]
      _ ≤ a * b * 2 ^ (i - 1) := Nat.mul_le_mul_right _ (Nat.mul_le_mul_right _ h2)
      _ < 2 ^ (B + B) := hp
theorem gcdI_end {B g a b : Nat} (h : GcdI B g 40000 a b) (hB : B ≤ 19000) : a = g := by
  obtain ⟨hg, h⟩ := h
  rcases h with ⟨h, _⟩ | ⟨_, h0 | ⟨hba, hp⟩⟩
  · cases h
  · rw [h0, Nat.gcd_zero_right] at hg
    exact hg
  · by_cases hb : b = 0
    · rw [hb, Nat.gcd_zero_right] at hg
      exact hg
    · exfalso
      have h1 : 1 ≤ a * b := Nat.mul_pos (by omega) (Nat.pos_of_ne_zero hb)
      have h2 : 2 ^ (40000 - 1) < 2 ^ (B + B) := Nat.lt_of_le_of_lt (Nat.le_trans (Nat.le_of_eq (Nat.one_mul _).symm) (Nat.mul_le_mul_right _ h1)) hp
      have h3 := (Nat.pow_lt_pow_iff_right (by decide : 1 < 2)).mp h2
      omega

/-! ### lowest terms -/
def sg (n d : Int) : Int := if d < 0 then -((Nat.gcd n.natAbs d.natAbs : Nat) : Int) else ((Nat.gcd n.natAbs d.natAbs : Nat) : Int)
def lo1 (n d : Int) : Int := n.fdiv (sg n d)
def lo2 (n d : Int) : Int := d.fdiv (sg n d)
theorem sg_abs (n d : Int) : (sg n d).natAbs = Nat.gcd n.natAbs d.natAbs := by
  unfold sg
  split <;> omega
theorem sg_ne {n d : Int} (h : d ≠ 0) : sg n d ≠ 0 := by
  intro e
  have := sg_abs n d
  rw [e] at this
  have h2 := Nat.gcd_pos_of_pos_right n.natAbs (show 0 < d.natAbs by omega)
  simp at this
  omega
theorem sg_dvd1 (n d : Int) : sg n d ∣ n := by
  rw [← Int.natAbs_dvd_natAbs, sg_abs]
  exact Nat.gcd_dvd_left _ _
theorem sg_dvd2 (n d : Int) : sg n d ∣ d := by
  rw [← Int.natAbs_dvd_natAbs, sg_abs]
  exact Nat.gcd_dvd_right _ _
theorem fdiv_cancel {a b : Int} (h : b ∣ a) : b * a.fdiv b = a := Int.mul_fdiv_cancel' h
theorem lo1_mul (n d : Int) : sg n d * lo1 n d = n := fdiv_cancel (sg_dvd1 n d)
theorem lo2_mul (n d : Int) : sg n d * lo2 n d = d := fdiv_cancel (sg_dvd2 n d)
theorem sg_size {n d : Int} {b : Nat} (h : d ≠ 0) (hb : d.natAbs < 2 ^ b) : (sg n d).natAbs < 2 ^ b := by
  rw [sg_abs]
  exact Nat.lt_of_le_of_lt (Nat.gcd_le_right _ (by omega)) hb
theorem lo2_pos {n d : Int} (h : d ≠ 0) : 1 ≤ lo2 n d := by
  have e := lo2_mul n d
  have hs := sg_ne (n := n) h
  have hp : 0 < sg n d * sg n d := by
    rcases Int.lt_or_gt_of_ne hs with h1 | h1
    · exact Int.mul_pos_of_neg_of_neg h1 h1
    · exact Int.mul_pos h1 h1
  have hsd : 0 < sg n d * d := by
    unfold sg
    have hg : 0 < Nat.gcd n.natAbs d.natAbs := Nat.gcd_pos_of_pos_right _ (by omega)
    split
    · exact Int.mul_pos_of_neg_of_neg (by omega) (by omega)
    · exact Int.mul_pos (by omega) (by omega)
  rcases (show lo2 n d < 1 ∨ 1 ≤ lo2 n d by omega) with hl | hl
  · exfalso
    have h2 : lo2 n d ≤ 0 := by omega
    have h3 : sg n d * (sg n d * lo2 n d) ≤ 0 := by
      rw [← Int.mul_assoc]
      exact Int.mul_nonpos_of_nonneg_of_nonpos (Int.le_of_lt hp) h2
    rw [e] at h3
    omega
  · exact hl
theorem lo_gcd {n d : Int} (h : d ≠ 0) : Nat.gcd (lo1 n d).natAbs (lo2 n d).natAbs = 1 := by
  have e1 : (sg n d).natAbs * (lo1 n d).natAbs = n.natAbs := by rw [← Int.natAbs_mul, lo1_mul]
  have e2 : (sg n d).natAbs * (lo2 n d).natAbs = d.natAbs := by rw [← Int.natAbs_mul, lo2_mul]
  have hg : 0 < Nat.gcd n.natAbs d.natAbs := Nat.gcd_pos_of_pos_right _ (by omega)
  have h1 := Nat.gcd_mul_left (sg n d).natAbs (lo1 n d).natAbs (lo2 n d).natAbs
  rw [e1, e2, sg_abs] at h1
  exact Nat.eq_of_mul_eq_mul_left hg (by omega)
theorem lo_cross (n d : Int) (h : d ≠ 0) : lo1 n d * d = lo2 n d * n := by
  have e1 := lo1_mul n d
  have e2 := lo2_mul n d
  calc lo1 n d * d = lo1 n d * (sg n d * lo2 n d) := by rw [e2]
    _ = lo2 n d * (sg n d * lo1 n d) := by rw [Int.mul_comm (lo1 n d), Int.mul_assoc, Int.mul_comm (lo2 n d) (lo1 n d), ← Int.mul_assoc, Int.mul_comm (sg n d * lo1 n d)]
    _ = lo2 n d * n := by rw [e1]
theorem lo1_size {n d : Int} (h : d ≠ 0) : (lo1 n d).natAbs ≤ n.natAbs := by
  have e1 : (sg n d).natAbs * (lo1 n d).natAbs = n.natAbs := by rw [← Int.natAbs_mul, lo1_mul]
  have hs : 1 ≤ (sg n d).natAbs := by have := sg_ne (n := n) h; omega
  calc (lo1 n d).natAbs = 1 * (lo1 n d).natAbs := (Nat.one_mul _).symm
    _ ≤ (sg n d).natAbs * (lo1 n d).natAbs := Nat.mul_le_mul_right _ hs
    _ = n.natAbs := e1
theorem lo2_size {n d : Int} (h : d ≠ 0) : (lo2 n d).natAbs ≤ d.natAbs := by
  have e1 : (sg n d).natAbs * (lo2 n d).natAbs = d.natAbs := by rw [← Int.natAbs_mul, lo2_mul]
  have hs : 1 ≤ (sg n d).natAbs := by have := sg_ne (n := n) h; omega
  calc (lo2 n d).natAbs = 1 * (lo2 n d).natAbs := (Nat.one_mul _).symm
    _ ≤ (sg n d).natAbs * (lo2 n d).natAbs := Nat.mul_le_mul_right _ hs
    _ = d.natAbs := e1
/-- a pair in lowest terms is its own -/
theorem sg_one {n d : Int} (hd : 1 ≤ d) (hg : Nat.gcd n.natAbs d.natAbs = 1) : sg n d = 1 := by
  unfold sg
  rw [if_neg (by omega), hg]
  rfl
theorem up (a : Nat) {b x : Nat} (h : x < 2 ^ a) (hab : a ≤ b := by decide) : x < 2 ^ b := Nat.lt_of_lt_of_le h (Nat.pow_le_pow_right (by decide) hab)
theorem mul_up {i j : Int} (a b : Nat) {c : Nat} (ha : i.natAbs < 2 ^ a) (hb : j.natAbs < 2 ^ b) (hc : a + b ≤ c := by decide) : (i * j).natAbs < 2 ^ c := by
  rw [Int.natAbs_mul]
  exact up (a + b) (by rw [Nat.pow_add]; exact Nat.mul_lt_mul'' ha hb) hc
end Odds
namespace Odds
open PySem
def nPlus (a b c d : Int) : Int := a * d + c * b
def nMinus (a b c d : Int) : Int := a * d - c * b
def nTimes (a _ c _ : Int) : Int := a * c
def dBoth (_ b _ d : Int) : Int := b * d
theorem add_up {i j : Int} (a : Nat) {c : Nat} (ha : i.natAbs < 2 ^ a) (hb : j.natAbs < 2 ^ a) (hc : a + 1 ≤ c := by decide) : (i + j).natAbs < 2 ^ c := by
  have h := Int.natAbs_add_le i j
  have e : 2 ^ (a + 1) = 2 ^ a + 2 ^ a := by rw [Nat.pow_succ]; omega
  exact Nat.lt_of_lt_of_le (by omega : (i + j).natAbs < 2 ^ (a + 1)) (Nat.pow_le_pow_right (by decide) hc)
theorem sub_up {i j : Int} (a : Nat) {c : Nat} (ha : i.natAbs < 2 ^ a) (hb : j.natAbs < 2 ^ a) (hc : a + 1 ≤ c := by decide) : (i - j).natAbs < 2 ^ c := by
  rw [Int.sub_eq_add_neg]
  exact add_up a ha (by rw [Int.natAbs_neg]; exact hb) hc
def isSq (n : Int) : Prop := ∃ r : Int, 0 ≤ r ∧ r * r = n
theorem sq_mono {a b : Int} (h0 : 0 ≤ a) (h : a ≤ b) : a * a ≤ b * b := Int.mul_self_le_mul_self h0 h
theorem root_uniq {n r q : Int} (r0 : 0 ≤ r) (q0 : 0 ≤ q) (r1 : r * r ≤ n) (r2 : n < (r + 1) * (r + 1)) (q1 : q * q ≤ n) (q2 : n < (q + 1) * (q + 1)) : r = q := by
  rcases (show r < q ∨ r = q ∨ q < r by omega) with h | h | h
  · have := sq_mono (show 0 ≤ r + 1 by omega) (show r + 1 ≤ q by omega)
    omega
  · exact h
  · have := sq_mono (show 0 ≤ q + 1 by omega) (show q + 1 ≤ r by omega)
    omega
theorem root_size {n r : Int} {a : Nat} (r0 : 0 ≤ r) (r1 : r * r ≤ n) (hn : n.natAbs < 2 ^ (a + a)) : r.natAbs < 2 ^ a := by
  rcases (show r.natAbs < 2 ^ a ∨ 2 ^ a ≤ r.natAbs by omega) with h | h
  · exact h
  · exfalso
    have h1 : 2 ^ a * 2 ^ a ≤ r.natAbs * r.natAbs := Nat.mul_le_mul h h
    rw [← Nat.pow_add, ← Int.natAbs_mul] at h1
    have h2 : 0 ≤ r * r := Int.mul_nonneg r0 r0
    omega
theorem two_sq : ∀ (r s : Nat), r * r = 2 * (s * s) → s = 0 := by
  intro r
  induction r using Nat.strongRecOn with
  | _ r ih =>
    intro s h
    have he : r % 2 = 0 := by
      have h1 : (r * r) % 2 = 0 := by rw [h]; exact Nat.mul_mod_right 2 _
      rw [Nat.mul_mod] at h1
      rcases (show r % 2 = 0 ∨ r % 2 = 1 by omega) with z | z
      · exact z
      · rw [z] at h1; cases h1
    obtain ⟨t, ht⟩ : ∃ t, r = 2 * t := ⟨r / 2, by omega⟩
    subst ht
    have h2 : s * s = 2 * (t * t) := by
      have e : 2 * t * (2 * t) = 2 * (2 * (t * t)) := by
        rw [Nat.mul_assoc, Nat.mul_left_comm t 2 t]
      rw [e] at h
      omega
    by_cases z : s = 0
    · exact z
    · exfalso
      have hlt : s < 2 * t := by
        rcases (show s < 2 * t ∨ 2 * t ≤ s by omega) with q | q
        · exact q
        · exfalso
          have h3 := Nat.mul_le_mul q q
          rw [h] at h3
          have : 0 < s * s := Nat.mul_pos (by omega) (by omega)
          omega
      have ht0 := ih s hlt t h2
      rw [ht0] at hlt
      omega
theorem two_not_sq {f : Int} (h0 : 0 < f) (h : isSq f) : ¬ isSq (f * 2) := by
  rintro ⟨r, hr, er⟩
  obtain ⟨s, hs, es⟩ := h
  have h1 : r.natAbs * r.natAbs = 2 * (s.natAbs * s.natAbs) := by
    rw [← Int.natAbs_mul, ← Int.natAbs_mul, er, es]
    omega
  have h2 := two_sq _ _ h1
  have h3 : s = 0 := by omega
  rw [h3] at es
  omega
abbrev Q2 := Int × Int
def Sm (n : Nat) (q : Q2) : Prop := 1 ≤ q.2 ∧ q.1.natAbs < 2 ^ n ∧ q.2.natAbs < 2 ^ n
theorem Sm.up {n : Nat} (m : Nat) {q : Q2} (h : Sm n q) (hm : n ≤ m := by decide) : Sm m q := ⟨h.1, Odds.up n h.2.1 hm, Odds.up n h.2.2 hm⟩
def qPlus (x y : Q2) : Q2 := (lo1 (nPlus x.1 x.2 y.1 y.2) (dBoth x.1 x.2 y.1 y.2), lo2 (nPlus x.1 x.2 y.1 y.2) (dBoth x.1 x.2 y.1 y.2))
def qMinus (x y : Q2) : Q2 := (lo1 (nMinus x.1 x.2 y.1 y.2) (dBoth x.1 x.2 y.1 y.2), lo2 (nMinus x.1 x.2 y.1 y.2) (dBoth x.1 x.2 y.1 y.2))
def qTimes (x y : Q2) : Q2 := (lo1 (nTimes x.1 x.2 y.1 y.2) (dBoth x.1 x.2 y.1 y.2), lo2 (nTimes x.1 x.2 y.1 y.2) (dBoth x.1 x.2 y.1 y.2))
theorem Sm.den {n m : Nat} {x y : Q2} (hx : Sm n x) (hy : Sm m y) : dBoth x.1 x.2 y.1 y.2 ≠ 0 := Int.mul_ne_zero (by have := hx.1; omega) (by have := hy.1; omega)
theorem sm_lo {n : Nat} {N D : Int} (h : D ≠ 0) (hN : N.natAbs < 2 ^ n) (hD : D.natAbs < 2 ^ n) : Sm n (lo1 N D, lo2 N D) :=
  ⟨lo2_pos h, Nat.lt_of_le_of_lt (lo1_size h) hN, Nat.lt_of_le_of_lt (lo2_size h) hD⟩
theorem Sm.plus {n : Nat} {x y : Q2} (hx : Sm n x) (hy : Sm n y) : Sm (n + n + 1) (qPlus x y) :=
  sm_lo (hx.den hy) (add_up (n + n) (mul_up n n hx.2.1 hy.2.2 (Nat.le_refl _)) (mul_up n n hy.2.1 hx.2.2 (Nat.le_refl _)) (Nat.le_refl _)) (mul_up n n hx.2.2 hy.2.2 (Nat.le_succ _))
theorem Sm.minus {n : Nat} {x y : Q2} (hx : Sm n x) (hy : Sm n y) : Sm (n + n + 1) (qMinus x y) :=
  sm_lo (hx.den hy) (sub_up (n + n) (mul_up n n hx.2.1 hy.2.2 (Nat.le_refl _)) (mul_up n n hy.2.1 hx.2.2 (Nat.le_refl _)) (Nat.le_refl _)) (mul_up n n hx.2.2 hy.2.2 (Nat.le_succ _))
theorem Sm.times {n m : Nat} {x y : Q2} (hx : Sm n x) (hy : Sm m y) : Sm (n + m) (qTimes x y) :=
  sm_lo (hx.den hy) (mul_up n m hx.2.1 hy.2.1 (Nat.le_refl _)) (mul_up n m hx.2.2 hy.2.2 (Nat.le_refl _))
theorem qPlus_comm (x y : Q2) : qPlus x y = qPlus y x := by
  have e1 : nPlus x.1 x.2 y.1 y.2 = nPlus y.1 y.2 x.1 x.2 := by unfold nPlus; rw [Int.add_comm]
  have e2 : dBoth x.1 x.2 y.1 y.2 = dBoth y.1 y.2 x.1 x.2 := by unfold dBoth; rw [Int.mul_comm]
  unfold qPlus
  rw [e1, e2]
theorem qTimes_comm (x y : Q2) : qTimes x y = qTimes y x := by
  have e1 : nTimes x.1 x.2 y.1 y.2 = nTimes y.1 y.2 x.1 x.2 := by unfold nTimes; rw [Int.mul_comm]
  have e2 : dBoth x.1 x.2 y.1 y.2 = dBoth y.1 y.2 x.1 x.2 := by unfold dBoth; rw [Int.mul_comm]
  unfold qTimes
  rw [e1, e2]
theorem qMinus_neg (x y : Q2) : qMinus x y = qPlus x (0 - y.1, y.2) := by
  have e1 : nMinus x.1 x.2 y.1 y.2 = nPlus x.1 x.2 (0 - y.1) y.2 := by
    unfold nMinus nPlus
    rw [Int.sub_mul, Int.zero_mul, Int.zero_sub, Int.sub_eq_add_neg]
  have e2 : dBoth x.1 x.2 y.1 y.2 = dBoth x.1 x.2 (0 - y.1) y.2 := rfl
  unfold qMinus qPlus
  rw [e1, e2]
def fMul (f : Int) (x y z w : Q2) : Q2 × Q2 := (qPlus (qTimes x z) (qTimes (f, 1) (qTimes y w)), qPlus (qTimes x w) (qTimes y z))
theorem sm_int {f : Int} {n : Nat} (h : f.natAbs < 2 ^ n) (hn : n ≠ 0 := by decide) : Sm n (f, 1) := ⟨Int.le_refl 1, h, Nat.one_lt_two_pow hn⟩
def nrm (f : Int) (x y : Q2) : Q2 := qMinus (qTimes x x) (qTimes (f, 1) (qTimes y y))
def sgF (f : Int) (x y : Q2) : Int := if y.1.sign = 0 ∨ x.1.sign = y.1.sign then x.1.sign else if x.1.sign = 0 then y.1.sign else x.1.sign * (nrm f x y).1.sign
def lsF (f : Int) (x y : Q2) : Int :=
  if 0 ≤ x.1 * y.2 ∧ 0 ≤ y.1 * x.2 * f then (if 0 < x.1 * y.2 ∨ 0 < y.1 * x.2 * f then 1 else 0)
  else if x.1 * y.2 ≤ 0 ∧ y.1 * x.2 * f ≤ 0 then -1
  else if y.1 * x.2 * (y.1 * x.2) * f < x.1 * y.2 * (x.1 * y.2) then (x.1 * y.2).sign else (y.1 * x.2).sign
theorem sign_size (i : Int) : i.sign.natAbs < 2 ^ 2 := by
  rcases Int.lt_trichotomy i 0 with h | h | h
  · rw [Int.sign_eq_neg_one_of_neg h]; decide
  · rw [h]; decide
  · rw [Int.sign_eq_one_of_pos h]; decide
theorem sign_pos_mul {a b : Int} (h : 0 < b) : (a * b).sign = a.sign := by
  rw [Int.sign_mul, Int.sign_eq_one_of_pos h, Int.mul_one]
theorem sign_pos_mul' {a b : Int} (h : 0 < b) : (b * a).sign = a.sign := by
  rw [Int.sign_mul, Int.sign_eq_one_of_pos h, Int.one_mul]
theorem sign_lo {N D : Int} (h : 0 < D) : (lo1 N D).sign = N.sign := by
  have e := lo_cross N D (by omega)
  have p := lo2_pos (n := N) (show D ≠ 0 by omega)
  rw [← sign_pos_mul (a := lo1 N D) h, e, sign_pos_mul' (by omega)]
theorem sq_of {f l r : Int} (hr : r ≠ 0) (h : l * l = r * r * f) : isSq f := by
  have h1 : r.natAbs ^ 2 ∣ l.natAbs ^ 2 := by
    rw [Nat.pow_two, Nat.pow_two, ← Int.natAbs_mul, ← Int.natAbs_mul, h, Int.natAbs_mul (r * r) f]
    exact Nat.dvd_mul_right _ _
  have h2 := (Nat.pow_dvd_pow_iff (by decide)).mp h1
  obtain ⟨t, ht⟩ := Int.natAbs_dvd_natAbs.mp h2
  subst ht
  refine ⟨t.natAbs, by omega, ?_⟩
  have h3 : (r * r) * (t * t) = (r * r) * f := by grind
  have h4 : t * t = f := Int.eq_of_mul_eq_mul_left (Int.mul_ne_zero hr hr) h3
  rw [← h4]
  have := Int.natAbs_mul_self (a := t)
  omega
theorem nrm_sign {f : Int} {x y : Q2} (hx : 1 ≤ x.2) (hy : 1 ≤ y.2) : (nrm f x y).1.sign = (x.1 * y.2 * (x.1 * y.2) - y.1 * x.2 * (y.1 * x.2) * f).sign := by
  have px : 0 < x.2 * x.2 := Int.mul_pos (by omega) (by omega)
  have py : 0 < y.2 * y.2 := Int.mul_pos (by omega) (by omega)
  have cu := lo_cross (x.1 * x.1) (x.2 * x.2) (by omega)
  have pu := lo2_pos (n := x.1 * x.1) (show x.2 * x.2 ≠ 0 by omega)
  have cw := lo_cross (y.1 * y.1) (y.2 * y.2) (by omega)
  have pw := lo2_pos (n := y.1 * y.1) (show y.2 * y.2 ≠ 0 by omega)
  show (lo1 (nMinus (lo1 (x.1 * x.1) (x.2 * x.2)) (lo2 (x.1 * x.1) (x.2 * x.2)) (lo1 (f * (lo1 (y.1 * y.1) (y.2 * y.2))) (1 * (lo2 (y.1 * y.1) (y.2 * y.2)))) (lo2 (f * (lo1 (y.1 * y.1) (y.2 * y.2))) (1 * (lo2 (y.1 * y.1) (y.2 * y.2)))))
    (lo2 (x.1 * x.1) (x.2 * x.2) * (lo2 (f * (lo1 (y.1 * y.1) (y.2 * y.2))) (1 * (lo2 (y.1 * y.1) (y.2 * y.2)))))).sign = _
  generalize lo1 (x.1 * x.1) (x.2 * x.2) = u1 at *
  generalize lo2 (x.1 * x.1) (x.2 * x.2) = u2 at *
  generalize lo1 (y.1 * y.1) (y.2 * y.2) = w1 at *
  generalize lo2 (y.1 * y.1) (y.2 * y.2) = w2 at *
  have nw : (1 * w2 : Int) ≠ 0 := by omega
  have cv := lo_cross (f * w1) (1 * w2) nw
  have pv := lo2_pos (n := f * w1) nw
  generalize lo1 (f * w1) (1 * w2) = v1 at *
  generalize lo2 (f * w1) (1 * w2) = v2 at *
  rw [sign_lo (Int.mul_pos (by omega) (by omega))]
  unfold nMinus
  have key : (u1 * v2 - v1 * u2) * ((x.2 * x.2) * (y.2 * y.2) * w2) = (u2 * v2 * w2) * (x.1 * y.2 * (x.1 * y.2) - y.1 * x.2 * (y.1 * x.2) * f) := by
    obtain ⟨n, d⟩ := x
    obtain ⟨m, e⟩ := y
    dsimp only at *
    grind
  rw [← sign_pos_mul (a := u1 * v2 - v1 * u2) (Int.mul_pos (Int.mul_pos px py) (show 0 < w2 by omega)), key, sign_pos_mul' (Int.mul_pos (Int.mul_pos (by omega) (by omega)) (by omega))]
theorem sg_same {f : Int} {x y : Q2} (hx : 1 ≤ x.2) (hy : 1 ≤ y.2) (hf : f = 0 ∨ (0 < f ∧ ¬ isSq f)) (hz : f = 0 → y.1 = 0) : sgF f x y = lsF f x y := by
  have e1 : (x.1 * y.2).sign = x.1.sign := sign_pos_mul (by omega)
  have e2 : (y.1 * x.2).sign = y.1.sign := sign_pos_mul (by omega)
  have e3 := nrm_sign (f := f) hx hy
  unfold sgF lsF
  rw [e3, ← e1, ← e2]
  generalize x.1 * y.2 = L
  rcases hf with rfl | ⟨f0, fq⟩
  · rw [hz rfl, Int.zero_mul]
    rcases Int.lt_trichotomy L 0 with h | h | h
    · rw [Int.sign_eq_neg_one_of_neg h]
      simp only [Int.sign_zero, true_or, if_true, Int.zero_mul, Int.le_refl, and_true]
      rw [if_neg (by omega), if_pos (by omega)]
    · subst h
      simp
    · rw [Int.sign_eq_one_of_pos h]
      simp only [Int.sign_zero, true_or, if_true, Int.zero_mul, Int.le_refl, and_true]
      rw [if_pos (by omega), if_pos (.inl h)]
  · generalize hR : y.1 * x.2 = R
    have sR : ∀ z : Int, (0 < z ↔ 0 < z * f) ∧ (z < 0 ↔ z * f < 0) := fun z => by
      refine ⟨⟨fun h => Int.mul_pos h f0, fun h => ?_⟩, ⟨fun h => Int.mul_neg_of_neg_of_pos h f0, fun h => ?_⟩⟩
      · rcases Int.lt_trichotomy z 0 with q | q | q
        · have := Int.mul_neg_of_neg_of_pos q f0; omega
        · rw [q, Int.zero_mul] at h; omega
        · exact q
      · rcases Int.lt_trichotomy z 0 with q | q | q
        · exact q
        · rw [q, Int.zero_mul] at h; omega
        · have := Int.mul_pos q f0; omega
    obtain ⟨r1, r2⟩ := sR R
    have ne : R ≠ 0 → L * L ≠ R * R * f := fun hr h => fq (sq_of hr h)
    rcases Int.lt_trichotomy L 0 with hl | hl | hl <;> rcases Int.lt_trichotomy R 0 with hr | hr | hr
    · rw [Int.sign_eq_neg_one_of_neg hl, Int.sign_eq_neg_one_of_neg hr, if_pos (.inr rfl), if_neg (by omega), if_pos (by omega)]
    · rw [Int.sign_eq_neg_one_of_neg hl, hr, Int.zero_mul, if_pos (.inl rfl), if_neg (by omega), if_pos (by omega)]
    · rw [Int.sign_eq_neg_one_of_neg hl, Int.sign_eq_one_of_pos hr, if_neg (by decide), if_neg (by decide), if_neg (by omega), if_neg (by omega)]
      have := ne (by omega)
      rcases (show R * R * f < L * L ∨ L * L < R * R * f by omega) with h | h
      · rw [if_pos h, Int.sign_eq_one_of_pos (by omega)]; rfl
      · rw [if_neg (by omega), Int.sign_eq_neg_one_of_neg (by omega)]; rfl
    · subst hl
      rw [Int.sign_zero, Int.sign_eq_neg_one_of_neg hr, if_neg (by decide), if_pos rfl, if_neg (by omega), if_pos (by omega)]
    · subst hl hr
      rw [Int.sign_zero, Int.zero_mul]
      simp
    · subst hl
      rw [Int.sign_zero, Int.sign_eq_one_of_pos hr, if_neg (by decide), if_pos rfl, if_pos (by omega), if_pos (by omega)]
    · rw [Int.sign_eq_one_of_pos hl, Int.sign_eq_neg_one_of_neg hr, if_neg (by decide), if_neg (by decide), if_neg (by omega), if_neg (by omega)]
      have := ne (by omega)
      rcases (show R * R * f < L * L ∨ L * L < R * R * f by omega) with h | h
      · rw [if_pos h, Int.sign_eq_one_of_pos (by omega)]; rfl
      · rw [if_neg (by omega), Int.sign_eq_neg_one_of_neg (by omega)]; rfl
    · rw [Int.sign_eq_one_of_pos hl, hr, Int.zero_mul, if_pos (.inl rfl), if_pos (by omega), if_pos (by omega)]
    · rw [Int.sign_eq_one_of_pos hl, Int.sign_eq_one_of_pos hr, if_pos (.inr rfl), if_pos (by omega), if_pos (by omega)]
theorem sg_neg {f : Int} {x y : Q2} (hx : 1 ≤ x.2) (hy : 1 ≤ y.2) : sgF f (0 - x.1, x.2) (0 - y.1, y.2) = 0 - sgF f x y := by
  have s1 : ∀ i : Int, (0 - i).sign = - i.sign := fun i => by rw [Int.zero_sub, Int.sign_neg]
  have e3 := nrm_sign (f := f) hx hy
  have e4 := nrm_sign (f := f) (x := (0 - x.1, x.2)) (y := (0 - y.1, y.2)) hx hy
  have e5 : (0 - x.1) * y.2 * ((0 - x.1) * y.2) - (0 - y.1) * x.2 * ((0 - y.1) * x.2) * f = x.1 * y.2 * (x.1 * y.2) - y.1 * x.2 * (y.1 * x.2) * f := by grind
  unfold sgF
  rw [e4, e3]
  dsimp only
  rw [e5, s1, s1]
  by_cases h1 : y.1.sign = 0 ∨ x.1.sign = y.1.sign
  · rw [if_pos h1, if_pos (by omega)]; omega
  · rw [if_neg h1, if_neg (by omega)]
    by_cases h2 : x.1.sign = 0
    · rw [if_pos h2, if_pos (by omega)]; omega
    · rw [if_neg h2, if_neg (by omega), Int.neg_mul]; omega
def Nrm (q : Q2) : Prop := 1 ≤ q.2 ∧ Nat.gcd q.1.natAbs q.2.natAbs = 1
def val (q : Q2) : Rat := (q.1 : Rat) / (q.2 : Rat)
theorem ratne {d : Int} (h : d ≠ 0) : (d : Rat) ≠ 0 := fun e => h (Rat.intCast_inj.mp (by rw [e]; rfl))
theorem lo_nrm {N D : Int} (h : D ≠ 0) : Nrm (lo1 N D, lo2 N D) := ⟨lo2_pos h, lo_gcd h⟩
theorem val_lo {N D : Int} (h : D ≠ 0) : val (lo1 N D, lo2 N D) = (N : Rat) / (D : Rat) := by
  have e : ((lo1 N D * D : Int) : Rat) = ((lo2 N D * N : Int) : Rat) := by rw [lo_cross N D h]
  rw [Rat.intCast_mul, Rat.intCast_mul] at e
  have h1 := ratne h
  have h2 : ((lo2 N D : Int) : Rat) ≠ 0 := ratne (by have := lo2_pos (n := N) h; omega)
  unfold val
  dsimp only
  grind
theorem val_plus {x y : Q2} (hx : 1 ≤ x.2) (hy : 1 ≤ y.2) : val (qPlus x y) = val x + val y := by
  have h1 : (x.2 : Rat) ≠ 0 := ratne (by omega)
  have h2 : (y.2 : Rat) ≠ 0 := ratne (by omega)
  have e := val_lo (N := nPlus x.1 x.2 y.1 y.2) (D := dBoth x.1 x.2 y.1 y.2) (Int.mul_ne_zero (by omega) (by omega))
  show val (lo1 (nPlus x.1 x.2 y.1 y.2) (dBoth x.1 x.2 y.1 y.2), lo2 (nPlus x.1 x.2 y.1 y.2) (dBoth x.1 x.2 y.1 y.2)) = _
  rw [e]
  unfold nPlus dBoth val
  rw [Rat.intCast_add, Rat.intCast_mul, Rat.intCast_mul, Rat.intCast_mul]
  grind
theorem val_minus {x y : Q2} (hx : 1 ≤ x.2) (hy : 1 ≤ y.2) : val (qMinus x y) = val x - val y := by
  have h1 : (x.2 : Rat) ≠ 0 := ratne (by omega)
  have h2 : (y.2 : Rat) ≠ 0 := ratne (by omega)
  have e := val_lo (N := nMinus x.1 x.2 y.1 y.2) (D := dBoth x.1 x.2 y.1 y.2) (Int.mul_ne_zero (by omega) (by omega))
  show val (lo1 (nMinus x.1 x.2 y.1 y.2) (dBoth x.1 x.2 y.1 y.2), lo2 (nMinus x.1 x.2 y.1 y.2) (dBoth x.1 x.2 y.1 y.2)) = _
  rw [e]
  unfold nMinus dBoth val
  rw [Rat.intCast_sub, Rat.intCast_mul, Rat.intCast_mul, Rat.intCast_mul]
  grind
theorem val_times {x y : Q2} (hx : 1 ≤ x.2) (hy : 1 ≤ y.2) : val (qTimes x y) = val x * val y := by
  have h1 : (x.2 : Rat) ≠ 0 := ratne (by omega)
  have h2 : (y.2 : Rat) ≠ 0 := ratne (by omega)
  have e := val_lo (N := nTimes x.1 x.2 y.1 y.2) (D := dBoth x.1 x.2 y.1 y.2) (Int.mul_ne_zero (by omega) (by omega))
  show val (lo1 (nTimes x.1 x.2 y.1 y.2) (dBoth x.1 x.2 y.1 y.2), lo2 (nTimes x.1 x.2 y.1 y.2) (dBoth x.1 x.2 y.1 y.2)) = _
  rw [e]
  unfold nTimes dBoth val
  rw [Rat.intCast_mul, Rat.intCast_mul]
  grind
theorem val_inj {x y : Q2} (hx : Nrm x) (hy : Nrm y) (h : val x = val y) : x = y := by
  obtain ⟨a, b⟩ := x
  obtain ⟨c, d⟩ := y
  obtain ⟨b1, g1⟩ := hx
  obtain ⟨d1, g2⟩ := hy
  dsimp only at *
  have hb : (b : Rat) ≠ 0 := ratne (by omega)
  have hd : (d : Rat) ≠ 0 := ratne (by omega)
  have e : (a : Rat) * (d : Rat) = (c : Rat) * (b : Rat) := by
    unfold val at h
    dsimp only at h
    grind
  rw [← Rat.intCast_mul, ← Rat.intCast_mul, Rat.intCast_inj] at e
  have en : a.natAbs * d.natAbs = c.natAbs * b.natAbs := by rw [← Int.natAbs_mul, ← Int.natAbs_mul, e]
  have k1 : b.natAbs ∣ d.natAbs := by
    have : Nat.Coprime b.natAbs a.natAbs := by rw [Nat.Coprime, Nat.gcd_comm]; exact g1
    exact this.dvd_of_dvd_mul_left (by rw [en]; exact Nat.dvd_mul_left _ _)
  have k2 : d.natAbs ∣ b.natAbs := by
    have : Nat.Coprime d.natAbs c.natAbs := by rw [Nat.Coprime, Nat.gcd_comm]; exact g2
    exact this.dvd_of_dvd_mul_left (by rw [← en]; exact Nat.dvd_mul_left _ _)
  have k3 := Nat.dvd_antisymm k1 k2
  have k4 : b = d := by omega
  subst k4
  have k5 : a = c := Int.eq_of_mul_eq_mul_right (show b ≠ 0 by omega) e
  rw [k5]
theorem qPlus_nrm {x y : Q2} (hx : 1 ≤ x.2) (hy : 1 ≤ y.2) : Nrm (qPlus x y) := lo_nrm (Int.mul_ne_zero (by omega) (by omega))
theorem qMinus_nrm {x y : Q2} (hx : 1 ≤ x.2) (hy : 1 ≤ y.2) : Nrm (qMinus x y) := lo_nrm (Int.mul_ne_zero (by omega) (by omega))
theorem qTimes_nrm {x y : Q2} (hx : 1 ≤ x.2) (hy : 1 ≤ y.2) : Nrm (qTimes x y) := lo_nrm (Int.mul_ne_zero (by omega) (by omega))
theorem val_int (f : Int) : val (f, 1) = (f : Rat) := by
  unfold val
  have : ((1 : Int) : Rat) = 1 := rfl
  rw [this]
  grind
def qOver (x y : Q2) : Q2 := (lo1 (x.1 * y.2) (x.2 * y.1), lo2 (x.1 * y.2) (x.2 * y.1))
theorem val_over {x y : Q2} (hx : 1 ≤ x.2) (hy : 1 ≤ y.2) (h : y.1 ≠ 0) : val (qOver x y) * val y = val x := by
  have h1 : (x.2 : Rat) ≠ 0 := ratne (by omega)
  have h2 : (y.2 : Rat) ≠ 0 := ratne (by omega)
  have h3 : (y.1 : Rat) ≠ 0 := ratne h
  unfold qOver
  rw [val_lo (Int.mul_ne_zero (by omega) h)]
  unfold val
  rw [Rat.intCast_mul, Rat.intCast_mul]
  grind
theorem qOver_nrm {x y : Q2} (hx : 1 ≤ x.2) (h : y.1 ≠ 0) : Nrm (qOver x y) := lo_nrm (Int.mul_ne_zero (by omega) h)
theorem Sm.over {n m : Nat} {x y : Q2} (hx : Sm n x) (hy : Sm m y) (h : y.1 ≠ 0) : Sm (n + m) (qOver x y) :=
  sm_lo (Int.mul_ne_zero (by have := hx.1; omega) h) (mul_up n m hx.2.1 hy.2.2 (Nat.le_refl _)) (mul_up n m hx.2.2 hy.2.1 (Nat.le_refl _))
theorem val_nrm {f : Int} {x y : Q2} (hx : 1 ≤ x.2) (hy : 1 ≤ y.2) : val (nrm f x y) = val x * val x - (f : Rat) * (val y * val y) := by
  unfold nrm
  rw [val_minus (qTimes_nrm hx hx).1 (qTimes_nrm (x := (f, 1)) (Int.le_refl 1) (qTimes_nrm hy hy).1).1, val_times hx hx, val_times (x := (f, 1)) (Int.le_refl 1) (qTimes_nrm hy hy).1, val_times hy hy, val_int]
theorem Sm.nrm {f : Int} {n : Nat} {x y : Q2} (hx : Sm n x) (hy : Sm n y) (hf : f.natAbs < 2 ^ 100) : Sm (100 + (n + n) + (100 + (n + n)) + 1) (nrm f x y) :=
  Sm.minus ((hx.times hx).up _ (by omega)) ((sm_int (n := 100) hf).times (hy.times hy))
theorem nrm_ne {f : Int} {x y : Q2} (hx : Nrm x) (hy : Nrm y) (hf : f = 0 ∨ (0 < f ∧ ¬ isSq f)) (hz : f = 0 → y = (0, 1)) (ne : ¬ (x = (0, 1) ∧ y = (0, 1))) : (nrm f x y).1 ≠ 0 := by
  intro e
  have s := nrm_sign (f := f) hx.1 hy.1
  rw [e, Int.sign_zero] at s
  have s0 : x.1 * y.2 * (x.1 * y.2) - y.1 * x.2 * (y.1 * x.2) * f = 0 := Int.sign_eq_zero_iff_zero.mp s.symm
  have zero : ∀ q : Q2, Nrm q → q.1 = 0 → q = (0, 1) := fun q hq h => by
    obtain ⟨n, d⟩ := q
    dsimp only at h
    subst h
    have h2 := hq.2
    have h1 := hq.1
    rw [show (0 : Int).natAbs = 0 from rfl, Nat.gcd_zero_left] at h2
    dsimp only at h1 h2
    rw [show d = 1 by omega]
  by_cases hw : y.1 * x.2 = 0
  · rw [hw, Int.zero_mul, Int.zero_mul, Int.sub_zero] at s0
    have h1 : x.1 * y.2 = 0 := by rcases Int.mul_eq_zero.mp s0 with h | h <;> exact h
    have h2 : x.1 = 0 := by
      rcases Int.mul_eq_zero.mp h1 with h | h
      · exact h
      · have := hy.1; omega
    have h3 : y.1 = 0 := by
      rcases Int.mul_eq_zero.mp hw with h | h
      · exact h
      · have := hx.1; omega
    exact ne ⟨zero x hx h2, zero y hy h3⟩
  · rcases hf with h0 | ⟨h0, hq⟩
    · rw [hz h0] at hw
      exact hw (Int.zero_mul _)
    · exact hq (sq_of (l := x.1 * y.2) hw (by omega))
def eqA (f : Int) (x y : Q2) : Int := ((Nat.lcm (qTimes (-2, 1) x).2.natAbs (nrm f x y).2.natAbs : Nat) : Int)
def eqB (f : Int) (x y : Q2) : Int := (qTimes (-2, 1) x).1 * (eqA f x y / (qTimes (-2, 1) x).2)
def eqC (f : Int) (x y : Q2) : Int := (nrm f x y).1 * (eqA f x y / (nrm f x y).2)
theorem nrm_nrm {f : Int} {x y : Q2} (hx : 1 ≤ x.2) (hy : 1 ≤ y.2) : Nrm (nrm f x y) := qMinus_nrm (qTimes_nrm hx hx).1 (qTimes_nrm (x := (f, 1)) (Int.le_refl 1) (qTimes_nrm hy hy).1).1
theorem lcm_coprime {l m n k : Int} (h1 : Nrm (l, m)) (h2 : Nrm (n, k)) {A : Int} (hA : A = ((Nat.lcm m.natAbs k.natAbs : Nat) : Int)) :
    1 ≤ A ∧ (A / m) * m = A ∧ (A / k) * k = A ∧ Nat.gcd (Nat.gcd A.natAbs (l * (A / m)).natAbs) (n * (A / k)).natAbs = 1 := by
  have m1 : 1 ≤ m := h1.1
  have k1 : 1 ≤ k := h2.1
  obtain ⟨M, rfl⟩ : ∃ M : Nat, m = (M : Int) := ⟨m.toNat, by omega⟩
  obtain ⟨K', rfl⟩ : ∃ K' : Nat, k = (K' : Int) := ⟨k.toNat, by omega⟩
  rw [Int.natAbs_natCast, Int.natAbs_natCast] at hA
  subst hA
  have dM : M ∣ Nat.lcm M K' := Nat.dvd_lcm_left M K'
  have dK : K' ∣ Nat.lcm M K' := Nat.dvd_lcm_right M K'
  have pos : 0 < Nat.lcm M K' := Nat.lcm_pos (by omega) (by omega)
  have eM : ((Nat.lcm M K' : Nat) : Int) / (M : Int) = ((Nat.lcm M K' / M : Nat) : Int) := by rw [Int.natCast_ediv]
  have eK : ((Nat.lcm M K' : Nat) : Int) / (K' : Int) = ((Nat.lcm M K' / K' : Nat) : Int) := by rw [Int.natCast_ediv]
  have cM : Nat.lcm M K' / M * M = Nat.lcm M K' := Nat.div_mul_cancel dM
  have cK : Nat.lcm M K' / K' * K' = Nat.lcm M K' := Nat.div_mul_cancel dK
  refine ⟨by omega, ?_, ?_, ?_⟩
  · rw [eM, ← Int.natCast_mul, cM]
  · rw [eK, ← Int.natCast_mul, cK]
  · rw [eM, eK, Int.natAbs_mul, Int.natAbs_mul, Int.natAbs_natCast, Int.natAbs_natCast, Int.natAbs_natCast]
    have g1 : Nat.gcd l.natAbs M = 1 := h1.2
    have g2 : Nat.gcd n.natAbs K' = 1 := h2.2
    have co : Nat.gcd (Nat.lcm M K' / M) (Nat.lcm M K' / K') = 1 := by
      have hg : 0 < Nat.gcd M K' := Nat.gcd_pos_of_pos_left _ (by omega)
      have q1 : Nat.lcm M K' / M = K' / Nat.gcd M K' := by
        refine Nat.div_eq_of_eq_mul_left (by omega) ?_
        rw [Nat.lcm, Nat.mul_comm M K', Nat.mul_div_assoc K' (Nat.gcd_dvd_left M K'), ← Nat.mul_div_assoc K' (Nat.gcd_dvd_left M K'), Nat.mul_comm K' M, Nat.mul_div_assoc M (Nat.gcd_dvd_right M K'), Nat.mul_comm]
      have q2 : Nat.lcm M K' / K' = M / Nat.gcd M K' := by
        refine Nat.div_eq_of_eq_mul_left (by omega) ?_
        rw [Nat.lcm, Nat.mul_comm M K', Nat.mul_div_assoc K' (Nat.gcd_dvd_left M K'), Nat.mul_comm]
      rw [q1, q2, Nat.gcd_comm]
      exact Nat.gcd_div_gcd_div_gcd_of_pos_left (by omega)
    generalize Nat.lcm M K' / M = u at *
    generalize Nat.lcm M K' / K' = v at *
    generalize hG : Nat.gcd (Nat.gcd (Nat.lcm M K') (l.natAbs * u)) (n.natAbs * v) = G
    have d1 : G ∣ Nat.lcm M K' := by rw [← hG]; exact Nat.dvd_trans (Nat.gcd_dvd_left _ _) (Nat.gcd_dvd_left _ _)
    have d2 : G ∣ l.natAbs * u := by rw [← hG]; exact Nat.dvd_trans (Nat.gcd_dvd_left _ _) (Nat.gcd_dvd_right _ _)
    have d3 : G ∣ n.natAbs * v := by rw [← hG]; exact Nat.gcd_dvd_right _ _
    have e1 : G ∣ u := by
      have : G ∣ Nat.gcd (u * l.natAbs) (u * M) := Nat.dvd_gcd (by rw [Nat.mul_comm]; exact d2) (by rw [cM]; exact d1)
      rw [Nat.gcd_mul_left, g1, Nat.mul_one] at this
      exact this
    have e2 : G ∣ v := by
      have : G ∣ Nat.gcd (v * n.natAbs) (v * K') := Nat.dvd_gcd (by rw [Nat.mul_comm]; exact d3) (by rw [cK]; exact d1)
      rw [Nat.gcd_mul_left, g2, Nat.mul_one] at this
      exact this
    have e3 : G ∣ 1 := by rw [← co]; exact Nat.dvd_gcd e1 e2
    exact Nat.dvd_one.mp e3
def qInv (f : Int) (z w : Q2) : Q2 × Q2 := (qOver z (nrm f z w), qOver (-w.1, w.2) (nrm f z w))
def qDiv (f : Int) (x y z w : Q2) : Q2 × Q2 := fMul f x y (qInv f z w).1 (qInv f z w).2
theorem isSq_nonneg {n : Int} (h : isSq n) : 0 ≤ n := by
  obtain ⟨r, r0, rfl⟩ := h
  exact Int.mul_nonneg r0 r0
def EqOk (c b a : Int) : Prop := 1 ≤ a ∧ Nat.gcd (Nat.gcd c.natAbs b.natAbs) a.natAbs = 1 ∧ 0 < b * b - 4 * a * c ∧ ¬ isSq (b * b - 4 * a * c)
theorem disc_size {c b a : Int} {n : Nat} (hc : c.natAbs < 2 ^ n) (hb : b.natAbs < 2 ^ n) (ha : a.natAbs < 2 ^ n) : (b * b - 4 * a * c).natAbs < 2 ^ (n + n + 4) :=
  sub_up (n + n + 3) (mul_up n n hb hb (by omega)) (mul_up (n + 3) n (mul_up 3 n (show (4 : Int).natAbs < 2 ^ 3 by decide) ha (by omega)) hc (by omega)) (by omega)
theorem not_sq_eight : ¬ isSq 8 := by
  rintro ⟨r, r0, h⟩
  rcases (show r ≤ 2 ∨ 3 ≤ r by omega) with q | q
  · have := Int.mul_self_le_mul_self r0 q
    omega
  · have := Int.mul_self_le_mul_self (show (0 : Int) ≤ 3 by decide) q
    omega
theorem good_ok : EqOk (0 - 2) 0 1 := ⟨by decide, by decide, by decide, by
  have : (0 * 0 - 4 * 1 * (0 - 2) : Int) = 8 := by decide
  rw [this]
  exact not_sq_eight⟩
def IsRt (u q : Q2) : Prop := 0 ≤ u.1 ∧ 0 ≤ u.2 ∧ u.1 * u.1 = q.1 ∧ u.2 * u.2 = q.2
theorem sq_inj {a b : Int} (ha : 0 ≤ a) (hb : 0 ≤ b) (h : a * a = b * b) : a = b := by
  rcases (show a < b ∨ a = b ∨ b < a by omega) with q | q | q
  · have h1 := Int.mul_self_le_mul_self (show 0 ≤ a + 1 by omega) (show a + 1 ≤ b by omega)
    have h2 : (a + 1) * (a + 1) = a * a + a + a + 1 := by grind
    omega
  · exact q
  · have h1 := Int.mul_self_le_mul_self (show 0 ≤ b + 1 by omega) (show b + 1 ≤ a by omega)
    have h2 : (b + 1) * (b + 1) = b * b + b + b + 1 := by grind
    omega
theorem IsRt.uniq {u v q : Q2} (h : IsRt u q) (k : IsRt v q) : u = v :=
  Prod.ext (sq_inj h.1 k.1 (by rw [h.2.2.1, k.2.2.1])) (sq_inj h.2.1 k.2.1 (by rw [h.2.2.2, k.2.2.2]))
theorem sq_val {u : Q2} : val (u.1 * u.1, u.2 * u.2) = val u * val u := by
  unfold val
  dsimp only
  rw [Rat.intCast_mul, Rat.intCast_mul]
  by_cases h : (u.2 : Rat) = 0
  · rw [h]
    grind
  · grind
theorem IsRt.val {u q : Q2} (h : IsRt u q) : Odds.val u * Odds.val u = Odds.val q := by
  rw [← sq_val, h.2.2.1, h.2.2.2]
theorem sq_nrm {u : Q2} (h : Nrm u) : Nrm (u.1 * u.1, u.2 * u.2) := by
  refine ⟨?_, ?_⟩
  · have := Int.mul_pos (show 0 < u.2 by have := h.1; omega) (show 0 < u.2 by have := h.1; omega)
    show 1 ≤ u.2 * u.2
    omega
  · show Nat.gcd (u.1 * u.1).natAbs (u.2 * u.2).natAbs = 1
    rw [Int.natAbs_mul, Int.natAbs_mul]
    have c : Nat.Coprime u.1.natAbs u.2.natAbs := h.2
    exact (c.mul_left c).mul_right (c.mul_left c)
theorem IsRt.nrm {u q : Q2} (h : IsRt u q) (hq : Nrm q) : Nrm u := by
  have h2 : u.2 ≠ 0 := by
    intro z
    have := h.2.2.2
    rw [z] at this
    have := hq.1
    omega
  refine ⟨by have := h.2.1; omega, ?_⟩
  have g := hq.2
  rw [← h.2.2.1, ← h.2.2.2, Int.natAbs_mul, Int.natAbs_mul] at g
  have d : Nat.gcd u.1.natAbs u.2.natAbs ∣ Nat.gcd (u.1.natAbs * u.1.natAbs) (u.2.natAbs * u.2.natAbs) :=
    Nat.dvd_gcd (Nat.dvd_trans (Nat.gcd_dvd_left _ _) (Nat.dvd_mul_right _ _)) (Nat.dvd_trans (Nat.gcd_dvd_right _ _) (Nat.dvd_mul_right _ _))
  rw [g] at d
  exact Nat.dvd_one.mp d
theorem IsRt.sm {u q : Q2} {a : Nat} (h : IsRt u q) (hq : Nrm q) (hs : Sm (a + a) q) : Sm a u :=
  ⟨(h.nrm hq).1, root_size h.1 (Int.le_of_eq h.2.2.1) hs.2.1, root_size h.2.1 (Int.le_of_eq h.2.2.2) hs.2.2⟩
def qNeg (x : Q2) : Q2 := (-x.1, x.2)
theorem qNeg_nrm {x : Q2} (h : Nrm x) : Nrm (qNeg x) := ⟨h.1, by show Nat.gcd (-x.1).natAbs x.2.natAbs = 1; rw [Int.natAbs_neg]; exact h.2⟩
theorem val_neg (x : Q2) : val (qNeg x) = - val x := by
  unfold val qNeg
  dsimp only
  rw [Rat.intCast_neg]
  grind
theorem rt_of_val {q c : Q2} (hq : Nrm q) (hc : Nrm c) (h : val q = val c * val c) : ∃ u, IsRt u q := by
  have e : (c.1 * c.1, c.2 * c.2) = q := val_inj (sq_nrm hc) hq (by rw [sq_val, h])
  refine ⟨((c.1.natAbs : Int), c.2), by show (0 : Int) ≤ (c.1.natAbs : Int); omega, by show 0 ≤ c.2; have := hc.1; omega, ?_, ?_⟩
  · show (c.1.natAbs : Int) * (c.1.natAbs : Int) = q.1
    rw [← e]
    exact Int.natAbs_mul_self
  · show c.2 * c.2 = q.2
    rw [← e]
def nn (f : Int) (p q : Q2) : Q2 × Q2 := if sgF f p q < 0 then (qNeg p, qNeg q) else (p, q)
open Classical in
noncomputable def rt (q : Q2) : Option Q2 := if h : ∃ u, IsRt u q then some (Classical.choose h) else none
theorem rt_some {q u : Q2} (h : IsRt u q) : rt q = some u := by
  unfold rt
  have e : ∃ u, IsRt u q := ⟨u, h⟩
  rw [dif_pos e, (Classical.choose_spec e).uniq h]
theorem rt_none {q : Q2} (h : ¬ ∃ u, IsRt u q) : rt q = none := by
  unfold rt
  rw [dif_neg h]
theorem rt_is {q u : Q2} (h : rt q = some u) : IsRt u q := by
  by_cases e : ∃ u, IsRt u q
  · obtain ⟨v, hv⟩ := e
    rw [rt_some hv] at h
    rw [← Option.some.inj h]
    exact hv
  · rw [rt_none e] at h
    cases h
def half : Q2 := (1, 2)
noncomputable def rootF (f : Int) (x y : Q2) : Option (Q2 × Q2) :=
  if y = (0, 1) then
    match rt x with
    | some u => some (u, (0, 1))
    | none => if f = 0 then none else
      match rt (qOver x (f, 1)) with
      | some u => some ((0, 1), u)
      | none => none
  else
    match rt (nrm f x y) with
    | none => none
    | some m =>
      match rt (qTimes (qPlus x m) half) with
      | some p => some (nn f p (qOver y (qPlus p p)))
      | none =>
        match rt (qTimes (qMinus x m) half) with
        | some p => some (nn f p (qOver y (qPlus p p)))
        | none => none
theorem half_val : val half = (1 : Rat) / 2 := rfl
theorem half_nrm : Nrm half := ⟨by decide, rfl⟩
theorem zero_nrm : Nrm ((0, 1) : Q2) := ⟨by decide, rfl⟩
theorem val_zero : val ((0, 1) : Q2) = 0 := by rw [val_int]; rfl
theorem val_eq_zero {q : Q2} (h : Nrm q) (z : val q = 0) : q = (0, 1) := val_inj h zero_nrm (by rw [z, val_zero])
theorem sq_ok {f : Int} {p q : Q2} (hp : Nrm p) (hq : Nrm q) : Nrm (fMul f p q p q).1 ∧ Nrm (fMul f p q p q).2 ∧ val (fMul f p q p q).1 = val p * val p + (f : Rat) * (val q * val q) ∧ val (fMul f p q p q).2 = val p * val q + val q * val p := by
  have i1 : (1 : Int) ≤ ((f, 1) : Q2).2 := Int.le_refl 1
  refine ⟨qPlus_nrm (qTimes_nrm hp.1 hp.1).1 (qTimes_nrm i1 (qTimes_nrm hq.1 hq.1).1).1, qPlus_nrm (qTimes_nrm hp.1 hq.1).1 (qTimes_nrm hq.1 hp.1).1, ?_, ?_⟩
  · show val (qPlus _ _) = _
    rw [val_plus (qTimes_nrm hp.1 hp.1).1 (qTimes_nrm i1 (qTimes_nrm hq.1 hq.1).1).1, val_times hp.1 hp.1, val_times i1 (qTimes_nrm hq.1 hq.1).1, val_times hq.1 hq.1, val_int]
  · show val (qPlus _ _) = _
    rw [val_plus (qTimes_nrm hp.1 hq.1).1 (qTimes_nrm hq.1 hp.1).1, val_times hp.1 hq.1, val_times hq.1 hp.1]
theorem sq_is {f : Int} {p q x y : Q2} (hp : Nrm p) (hq : Nrm q) (hx : Nrm x) (hy : Nrm y) (h1 : val p * val p + (f : Rat) * (val q * val q) = val x) (h2 : val p * val q + val q * val p = val y) : fMul f p q p q = (x, y) := by
  obtain ⟨n1, n2, v1, v2⟩ := sq_ok (f := f) hp hq
  exact Prod.ext (val_inj n1 hx (by rw [v1, h1])) (val_inj n2 hy (by rw [v2, h2]))
theorem sgF_neg {f : Int} {p q : Q2} (hp : 1 ≤ p.2) (hq : 1 ≤ q.2) : sgF f (qNeg p) (qNeg q) = 0 - sgF f p q := by
  have h := sg_neg (f := f) hp hq
  unfold qNeg
  rw [Int.zero_sub, Int.zero_sub] at h
  rw [h]
theorem nn_ok {f : Int} {p q : Q2} (hp : Nrm p) (hq : Nrm q) : Nrm (nn f p q).1 ∧ Nrm (nn f p q).2 ∧ 0 ≤ sgF f (nn f p q).1 (nn f p q).2 ∧ fMul f (nn f p q).1 (nn f p q).2 (nn f p q).1 (nn f p q).2 = fMul f p q p q := by
  unfold nn
  by_cases h : sgF f p q < 0
  · rw [if_pos h]
    refine ⟨qNeg_nrm hp, qNeg_nrm hq, by show 0 ≤ sgF f (qNeg p) (qNeg q); rw [sgF_neg hp.1 hq.1]; omega, ?_⟩
    obtain ⟨n1, n2, v1, v2⟩ := sq_ok (f := f) hp hq
    refine sq_is (qNeg_nrm hp) (qNeg_nrm hq) n1 n2 ?_ ?_
    · show val (qNeg p) * val (qNeg p) + (f : Rat) * (val (qNeg q) * val (qNeg q)) = val (fMul f p q p q).1
      rw [v1, val_neg, val_neg]; grind
    · show val (qNeg p) * val (qNeg q) + val (qNeg q) * val (qNeg p) = val (fMul f p q p q).2
      rw [v2, val_neg, val_neg]; grind
  · rw [if_neg h]
    exact ⟨hp, hq, by show 0 ≤ sgF f p q; omega, rfl⟩
theorem Sm.neg {n : Nat} {q : Q2} (h : Sm n q) : Sm n (qNeg q) := ⟨h.1, by show (-q.1).natAbs < 2 ^ n; rw [Int.natAbs_neg]; exact h.2.1, h.2.2⟩
theorem nn_sm {f : Int} {n : Nat} {p q : Q2} (hp : Sm n p) (hq : Sm n q) : Sm n (nn f p q).1 ∧ Sm n (nn f p q).2 := by
  unfold nn
  split
  · exact ⟨hp.neg, hq.neg⟩
  · exact ⟨hp, hq⟩
theorem half_root {f : Int} {x y m p : Q2} (e : Rat) (he : e * e = 1) (hx : Nrm x) (hy : Nrm y) (yn : y ≠ (0, 1)) (hf : f ≠ 0) (hp : Nrm p) (hm : val m * val m = val x * val x - (f : Rat) * (val y * val y))
    (h : val p * val p = (val x + e * val m) * ((1 : Rat) / 2)) : (qPlus p p).1 ≠ 0 ∧ fMul f p (qOver y (qPlus p p)) p (qOver y (qPlus p p)) = (x, y) := by
  have pp := qPlus_nrm hp.1 hp.1
  have vp := val_plus hp.1 hp.1
  have fr : (f : Rat) ≠ 0 := ratne hf
  have vy : val y ≠ 0 := fun z => yn (val_eq_zero hy z)
  have p0 : val p ≠ 0 := by
    intro z
    rw [z] at h
    have h1 : val x = - (e * val m) := by grind
    have h2 : (f : Rat) * (val y * val y) = 0 := by grind
    grind
  have n0 : (qPlus p p).1 ≠ 0 := by
    intro z
    have h1 : val (qPlus p p) = 0 := by
      unfold val
      rw [z]
      show ((0 : Int) : Rat) / _ = 0
      have : ((0 : Int) : Rat) = 0 := rfl
      rw [this]
      grind
    rw [vp] at h1
    grind
  refine ⟨n0, ?_⟩
  have vo := val_over (x := y) hy.1 pp.1 n0
  have on := qOver_nrm (x := y) hy.1 n0
  rw [vp] at vo
  refine sq_is hp on hx hy ?_ ?_
  · grind
  · grind
theorem rootF_ok {f : Int} {x y : Q2} {ρ : Q2 × Q2} (hx : Nrm x) (hy : Nrm y) (sx : Sm 140 x) (sy : Sm 140 y) (bf : f.natAbs < 2 ^ 60) (hz : f = 0 → y = (0, 1)) (h : rootF f x y = some ρ) :
    Nrm ρ.1 ∧ Nrm ρ.2 ∧ 0 ≤ sgF f ρ.1 ρ.2 ∧ fMul f ρ.1 ρ.2 ρ.1 ρ.2 = (x, y) ∧ Sm 850 ρ.1 ∧ Sm 850 ρ.2 ∧ (f = 0 → ρ.2 = (0, 1)) := by
  unfold rootF at h
  have nonneg : ∀ u : Q2, 0 ≤ u.1 → 0 ≤ u.1.sign := fun u hu => by
    rcases (show u.1 = 0 ∨ 0 < u.1 by omega) with q | q
    · rw [q]; decide
    · rw [Int.sign_eq_one_of_pos q]; decide
  split at h
  · rename_i y0
    subst y0
    split at h
    · rename_i u hu
      have r := rt_is hu
      cases h
      have nu := r.nrm hx
      refine ⟨nu, zero_nrm, ?_, sq_is nu zero_nrm hx zero_nrm ?_ ?_, (r.sm (a := 70) hx sx).up 850, sm_int (by decide), fun _ => rfl⟩
      · show 0 ≤ sgF f u (0, 1)
        unfold sgF
        rw [if_pos (.inl rfl)]
        exact nonneg u r.1
      · rw [val_zero, r.val]; grind
      · rw [val_zero]; grind
    · split at h
      · cases h
      · rename_i f0
        split at h
        · rename_i u hu
          have r := rt_is hu
          cases h
          have nf : (1 : Int) ≤ ((f, 1) : Q2).2 := Int.le_refl 1
          have no := qOver_nrm (x := x) (y := (f, 1)) hx.1 f0
          have vo := val_over (x := x) (y := (f, 1)) hx.1 nf f0
          rw [val_int] at vo
          have nu := r.nrm no
          have so : Sm 200 (qOver x (f, 1)) := sx.over (sm_int (n := 60) bf) f0
          refine ⟨zero_nrm, nu, ?_, sq_is zero_nrm nu hx zero_nrm ?_ ?_, sm_int (by decide), (r.sm (a := 100) no so).up 850, fun z => absurd z f0⟩
          · show 0 ≤ sgF f (0, 1) u
            unfold sgF
            have := nonneg u r.1
            by_cases h1 : u.1.sign = 0 ∨ (0 : Int).sign = u.1.sign
            · rw [if_pos h1]; decide
            · rw [if_neg h1, if_pos (show ((0, 1) : Q2).1.sign = 0 from rfl)]; exact this
          · rw [val_zero, r.val]; grind
          · rw [val_zero]; grind
        · cases h
  · rename_i yn
    have f0 : f ≠ 0 := fun z => yn (hz z)
    split at h
    · cases h
    · rename_i m hm
      have rm := rt_is hm
      have nN := nrm_nrm (f := f) hx.1 hy.1
      have nm := rm.nrm nN
      have vm : val m * val m = val x * val x - (f : Rat) * (val y * val y) := by rw [rm.val, val_nrm hx.1 hy.1]
      have sN : Sm (350 + 350) (nrm f x y) := (Sm.minus ((sx.times sx).up 340) ((sm_int (n := 60) bf).times (sy.times sy))).up 700
      have sm := rm.sm nN sN
      have fin : ∀ (p : Q2) (e : Rat) (q : Q2), e * e = 1 → Nrm q → Sm (352 + 352) q → IsRt p q → val q = (val x + e * val m) * ((1 : Rat) / 2) → ρ = nn f p (qOver y (qPlus p p)) →
          Nrm ρ.1 ∧ Nrm ρ.2 ∧ 0 ≤ sgF f ρ.1 ρ.2 ∧ fMul f ρ.1 ρ.2 ρ.1 ρ.2 = (x, y) ∧ Sm 850 ρ.1 ∧ Sm 850 ρ.2 ∧ (f = 0 → ρ.2 = (0, 1)) := by
        intro p e q he nq sq rp vq eρ
        subst eρ
        have np := rp.nrm nq
        have sp := rp.sm nq sq
        obtain ⟨n0, hsq⟩ := half_root e he hx hy yn f0 np vm (by rw [rp.val, vq])
        have no := qOver_nrm (x := y) hy.1 n0
        obtain ⟨k1, k2, k3, k4⟩ := nn_ok (f := f) np no
        obtain ⟨k5, k6⟩ := nn_sm (f := f) (sp.up 850) ((sy.over (sp.plus sp) n0).up 850)
        exact ⟨k1, k2, k3, by rw [k4, hsq], k5, k6, fun z => absurd z f0⟩
      split at h
      · rename_i p hp
        cases h
        exact fin p 1 _ (by grind) (qTimes_nrm (qPlus_nrm hx.1 nm.1).1 half_nrm.1) ((((sx.up 350).plus sm).times (show Sm 2 half from ⟨by decide, by decide, by decide⟩)).up 704) (rt_is hp)
          (by rw [val_times (qPlus_nrm hx.1 nm.1).1 half_nrm.1, val_plus hx.1 nm.1, half_val]; grind) rfl
      · split at h
        · rename_i p hp
          cases h
          exact fin p (-1) _ (by grind) (qTimes_nrm (qMinus_nrm hx.1 nm.1).1 half_nrm.1) ((((sx.up 350).minus sm).times (show Sm 2 half from ⟨by decide, by decide, by decide⟩)).up 704) (rt_is hp)
            (by rw [val_times (qMinus_nrm hx.1 nm.1).1 half_nrm.1, val_minus hx.1 nm.1, half_val]; grind) rfl
        · cases h
theorem rootF_sq {f : Int} {c d : Q2} (hc : Nrm c) (hd : Nrm d) (hz : f = 0 → d = (0, 1)) : rootF f (fMul f c d c d).1 (fMul f c d c d).2 ≠ none := by
  obtain ⟨nx, ny, vx, vy⟩ := sq_ok (f := f) hc hd
  generalize (fMul f c d c d).1 = x at *
  generalize (fMul f c d c d).2 = y at *
  unfold rootF
  split
  · rename_i y0
    rw [y0, val_zero] at vy
    by_cases d0 : val d = 0
    · obtain ⟨u, hu⟩ := rt_of_val nx hc (by rw [vx, d0]; grind)
      rw [rt_some hu]
      simp
    · have c0 : val c = 0 := by grind
      cases hr : rt x with
      | some u => simp
      | none =>
        have f0 : f ≠ 0 := fun z => d0 (by rw [hz z, val_zero])
        have nf : (1 : Int) ≤ ((f, 1) : Q2).2 := Int.le_refl 1
        have no := qOver_nrm (x := x) (y := (f, 1)) nx.1 f0
        have vo := val_over (x := x) (y := (f, 1)) nx.1 nf f0
        rw [val_int, vx, c0] at vo
        have fr : (f : Rat) ≠ 0 := ratne f0
        obtain ⟨u, hu⟩ := rt_of_val no hd (by grind)
        simp [f0, rt_some hu]
  · have nN := nrm_nrm (f := f) nx.1 ny.1
    have vN := val_nrm (f := f) nx.1 ny.1
    have nw := nrm_nrm (f := f) hc.1 hd.1
    have vw := val_nrm (f := f) hc.1 hd.1
    obtain ⟨m, hm⟩ := rt_of_val nN nw (by rw [vN, vw, vx, vy]; grind)
    have nm := hm.nrm nN
    have vm := hm.val
    rw [rt_some hm]
    have key : val m = val (nrm f c d) ∨ val m = - val (nrm f c d) := by
      have h1 : (val m - val (nrm f c d)) * (val m + val (nrm f c d)) = 0 := by
        rw [vN, vx, vy] at vm
        rw [vw]
        grind
      rcases Rat.mul_eq_zero.mp h1 with h | h
      · left; grind
      · right; grind
    cases h1 : rt (qTimes (qPlus x m) half) with
    | some p => simp [h1]
    | none =>
      rcases key with k | k
      · exfalso
        obtain ⟨u, hu⟩ := rt_of_val (qTimes_nrm (qPlus_nrm nx.1 nm.1).1 half_nrm.1) hc (by rw [val_times (qPlus_nrm nx.1 nm.1).1 half_nrm.1, val_plus nx.1 nm.1, half_val, k, vw, vx]; grind)
        rw [rt_some hu] at h1
        cases h1
      · obtain ⟨u, hu⟩ := rt_of_val (qTimes_nrm (qMinus_nrm nx.1 nm.1).1 half_nrm.1) hc (by rw [val_times (qMinus_nrm nx.1 nm.1).1 half_nrm.1, val_minus nx.1 nm.1, half_val, k, vw, vx]; grind)
        simp [h1, rt_some hu]
theorem no_rat_root {f : Int} {r d : Q2} (hr : Nrm r) (hd : Nrm d) (fq : ¬ isSq f) (h : val r * val r = (f : Rat) * (val d * val d)) : val d = 0 := by
  rcases (show val d = 0 ∨ val d ≠ 0 from Classical.em _) with z | z
  · exact z
  · exfalso
    have h1 : (r.2 : Rat) ≠ 0 := ratne (by have := hr.1; omega)
    have h2 : (d.2 : Rat) ≠ 0 := ratne (by have := hd.1; omega)
    have d1 : d.1 ≠ 0 := by
      intro q
      apply z
      unfold val
      rw [q]
      have : ((0 : Int) : Rat) = 0 := rfl
      rw [this]
      grind
    have e : ((r.1 * d.2 * (r.1 * d.2) : Int) : Rat) = ((d.1 * r.2 * (d.1 * r.2) * f : Int) : Rat) := by
      rw [Rat.intCast_mul, Rat.intCast_mul, Rat.intCast_mul, Rat.intCast_mul, Rat.intCast_mul]
      unfold val at h
      grind
    exact fq (sq_of (l := r.1 * d.2) (r := d.1 * r.2) (Int.mul_ne_zero d1 (by have := hr.1; omega)) (Rat.intCast_inj.mp e))
theorem sg_zero {f : Int} {c d : Q2} (hc : Nrm c) (hd : Nrm d) (hf : f = 0 ∨ (0 < f ∧ ¬ isSq f)) (hz : f = 0 → d = (0, 1)) (h : sgF f c d = 0) : c = (0, 1) ∧ d = (0, 1) := by
  by_cases ne : c = (0, 1) ∧ d = (0, 1)
  · exact ne
  · exfalso
    have nz := nrm_ne hc hd hf hz ne
    have zero : ∀ q : Q2, Nrm q → q.1.sign = 0 → q = (0, 1) := fun q hq hs => by
      have h1 := Int.sign_eq_zero_iff_zero.mp hs
      refine val_eq_zero hq ?_
      unfold val
      rw [h1]
      have : ((0 : Int) : Rat) = 0 := rfl
      rw [this]
      grind
    unfold sgF at h
    split at h
    · rename_i q
      have h1 := zero c hc h
      rcases q with q | q
      · exact ne ⟨h1, zero d hd q⟩
      · exact ne ⟨h1, zero d hd (by rw [← q]; exact h)⟩
    · rename_i q
      split at h
      · exact q (.inl h)
      · rename_i q2
        rcases Int.mul_eq_zero.mp h with z | z
        · exact q2 z
        · exact nz (Int.sign_eq_zero_iff_zero.mp z)
theorem root_is {f : Int} {r s c d : Q2} (hr : Nrm r) (hs : Nrm s) (hc : Nrm c) (hd : Nrm d) (hf : f = 0 ∨ (0 < f ∧ ¬ isSq f)) (zs : f = 0 → s = (0, 1)) (zd : f = 0 → d = (0, 1))
    (h : fMul f r s r s = fMul f c d c d) (hp : 0 ≤ sgF f r s) : nn f c d = (r, s) := by
  obtain ⟨_, _, v1, v2⟩ := sq_ok (f := f) hr hs
  obtain ⟨_, _, v3, v4⟩ := sq_ok (f := f) hc hd
  rw [h] at v1 v2
  have e1 : val r * val r + (f : Rat) * (val s * val s) = val c * val c + (f : Rat) * (val d * val d) := by rw [← v1, ← v3]
  have e2 : val r * val s = val c * val d := by grind
  have same : (val r = val c ∧ val s = val d) ∨ (val r = - val c ∧ val s = - val d) := by
    rcases hf with f0 | ⟨f0, fq⟩
    · have s0 : val s = 0 := by rw [zs f0, val_zero]
      have d0 : val d = 0 := by rw [zd f0, val_zero]
      have h1 : (val r - val c) * (val r + val c) = 0 := by rw [s0, d0] at e1; grind
      rcases Rat.mul_eq_zero.mp h1 with q | q
      · left; exact ⟨by grind, by rw [s0, d0]⟩
      · right; exact ⟨by grind, by rw [s0, d0]; grind⟩
    · have fr : (f : Rat) ≠ 0 := ratne (by omega)
      have h1 : (val r * val r - val c * val c) * (val r * val r - (f : Rat) * (val d * val d)) = 0 := by grind
      rcases Rat.mul_eq_zero.mp h1 with q | q
      · have h2 : (val s - val d) * (val s + val d) = 0 := by grind
        have h3 : (val r - val c) * (val r + val c) = 0 := by grind
        rcases Rat.mul_eq_zero.mp h3 with k | k
        · have k1 : val r = val c := by grind
          have h4 : val c * (val s - val d) = 0 := by rw [k1] at e2; grind
          rcases Rat.mul_eq_zero.mp h4 with l | l
          · rcases Rat.mul_eq_zero.mp h2 with o | o
            · left; exact ⟨k1, by grind⟩
            · right; exact ⟨by grind, by grind⟩
          · left; exact ⟨k1, by grind⟩
        · have k1 : val r = - val c := by grind
          have h4 : val c * (val s + val d) = 0 := by rw [k1] at e2; grind
          rcases Rat.mul_eq_zero.mp h4 with l | l
          · rcases Rat.mul_eq_zero.mp h2 with o | o
            · left; exact ⟨by grind, by grind⟩
            · right; exact ⟨k1, by grind⟩
          · right; exact ⟨k1, by grind⟩
      · have d0 := no_rat_root hr hd fq (by grind)
        have r0 : val r = 0 := by
          have : val r * val r = 0 := by grind
          rcases Rat.mul_eq_zero.mp this with k | k <;> exact k
        have s0 := no_rat_root hc hs fq (by grind)
        have c0 : val c = 0 := by
          have : val c * val c = 0 := by grind
          rcases Rat.mul_eq_zero.mp this with k | k <;> exact k
        left; exact ⟨by rw [r0, c0], by rw [s0, d0]⟩
  rcases same with ⟨k1, k2⟩ | ⟨k1, k2⟩
  · have q1 := val_inj hr hc k1
    have q2 := val_inj hs hd k2
    subst q1 q2
    unfold nn
    rw [if_neg (by omega)]
  · have q1 : r = qNeg c := val_inj hr (qNeg_nrm hc) (by rw [k1, val_neg])
    have q2 : s = qNeg d := val_inj hs (qNeg_nrm hd) (by rw [k2, val_neg])
    subst q1 q2
    rw [sgF_neg hc.1 hd.1] at hp
    unfold nn
    by_cases h0 : sgF f c d < 0
    · rw [if_pos h0]
    · rw [if_neg h0]
      obtain ⟨c0, d0⟩ := sg_zero hc hd hf zd (by omega)
      subst c0 d0
      rfl
end Odds
namespace Odds
open PySem
/-! ### fractions that are put in lowest terms by parts -/
theorem low_uniq {p q N D : Int} (h : Nrm (p, q)) (hD : D ≠ 0) (e : p * D = q * N) : (p, q) = (lo1 N D, lo2 N D) := by
  refine val_inj h (lo_nrm hD) ?_
  rw [val_lo hD]
  have e' : ((p * D : Int) : Rat) = ((q * N : Int) : Rat) := by rw [e]
  rw [Rat.intCast_mul, Rat.intCast_mul] at e'
  have h1 := ratne hD
  have h2 : ((q : Int) : Rat) ≠ 0 := ratne (by have h3 : 1 ≤ q := h.1; omega)
  unfold val
  dsimp only
  grind
theorem gcd_parts (m n : Int) (h : n ≠ 0) : ∃ x y : Int, m = ((Nat.gcd m.natAbs n.natAbs : Nat) : Int) * x ∧ n = ((Nat.gcd m.natAbs n.natAbs : Nat) : Int) * y ∧ Nat.Coprime x.natAbs y.natAbs ∧ (0 : Int) < ((Nat.gcd m.natAbs n.natAbs : Nat) : Int) := by
  have hg : 0 < Nat.gcd m.natAbs n.natAbs := Nat.gcd_pos_of_pos_right _ (by omega)
  obtain ⟨x, hx⟩ := Int.ofNat_dvd_left.mpr (Nat.gcd_dvd_left m.natAbs n.natAbs)
  obtain ⟨y, hy⟩ := Int.ofNat_dvd_left.mpr (Nat.gcd_dvd_right m.natAbs n.natAbs)
  refine ⟨x, y, hx, hy, ?_, by omega⟩
  have e1 : m.natAbs = Nat.gcd m.natAbs n.natAbs * x.natAbs := by
    conv => lhs; rw [hx]
    rw [Int.natAbs_mul, Int.natAbs_natCast]
  have e2 : n.natAbs = Nat.gcd m.natAbs n.natAbs * y.natAbs := by
    conv => lhs; rw [hy]
    rw [Int.natAbs_mul, Int.natAbs_natCast]
  have h1 := Nat.gcd_mul_left (Nat.gcd m.natAbs n.natAbs) x.natAbs y.natAbs
  rw [← e1, ← e2] at h1
  exact Nat.eq_of_mul_eq_mul_left hg (by omega)
theorem cop_left {a b c : Int} (h : Nat.Coprime (a * b).natAbs c.natAbs) : Nat.Coprime a.natAbs c.natAbs := by
  rw [Int.natAbs_mul] at h
  exact Nat.Coprime.coprime_mul_right h
theorem cop_right {a b c : Int} (h : Nat.Coprime (a * b).natAbs c.natAbs) : Nat.Coprime b.natAbs c.natAbs := by
  rw [Int.natAbs_mul] at h
  exact Nat.Coprime.coprime_mul_left h
theorem cop_mul {a b c : Int} (h : Nat.Coprime a.natAbs c.natAbs) (h2 : Nat.Coprime b.natAbs c.natAbs) : Nat.Coprime (a * b).natAbs c.natAbs := by
  rw [Int.natAbs_mul]
  exact Nat.Coprime.mul_left h h2
theorem cop_symm {a c : Int} (h : Nat.Coprime a.natAbs c.natAbs) : Nat.Coprime c.natAbs a.natAbs := Nat.Coprime.symm h
theorem times_low {a b : Q2} (ha : Nrm a) (hb : Nrm b) : ∃ x y z w : Int, a.1 = ((Nat.gcd a.1.natAbs b.2.natAbs : Nat) : Int) * x ∧ b.2 = ((Nat.gcd a.1.natAbs b.2.natAbs : Nat) : Int) * y ∧ b.1 = ((Nat.gcd b.1.natAbs a.2.natAbs : Nat) : Int) * z ∧ a.2 = ((Nat.gcd b.1.natAbs a.2.natAbs : Nat) : Int) * w ∧
    (0 : Int) < ((Nat.gcd a.1.natAbs b.2.natAbs : Nat) : Int) ∧ (0 : Int) < ((Nat.gcd b.1.natAbs a.2.natAbs : Nat) : Int) ∧ qTimes a b = (x * z, w * y) := by
  obtain ⟨a0, a1⟩ := a
  obtain ⟨b0, b1⟩ := b
  obtain ⟨ha1, hac⟩ := ha
  obtain ⟨hb1, hbc⟩ := hb
  dsimp only at *
  obtain ⟨x, y, e1, e2, c1, p1⟩ := gcd_parts a0 b1 (by omega)
  obtain ⟨z, w, e3, e4, c2, p2⟩ := gcd_parts b0 a1 (by omega)
  refine ⟨x, y, z, w, e1, e2, e3, e4, p1, p2, ?_⟩
  generalize ((Nat.gcd a0.natAbs b1.natAbs : Nat) : Int) = f at *
  generalize ((Nat.gcd b0.natAbs a1.natAbs : Nat) : Int) = s at *
  subst e1 e2 e3 e4
  have hw : 0 < w := by
    rcases Int.lt_or_le 0 w with h | h
    · exact h
    · have := Int.mul_nonpos_of_nonneg_of_nonpos (Int.le_of_lt p2) h; omega
  have hy : 0 < y := by
    rcases Int.lt_or_le 0 y with h | h
    · exact h
    · have := Int.mul_nonpos_of_nonneg_of_nonpos (Int.le_of_lt p1) h; omega
  have cxw : Nat.Coprime x.natAbs w.natAbs := cop_symm (cop_right (cop_symm (cop_right hac)))
  have czy : Nat.Coprime z.natAbs y.natAbs := cop_symm (cop_right (cop_symm (cop_right hbc)))
  have n : Nrm (x * z, w * y) := by
    refine ⟨?_, ?_⟩
    · have := Int.mul_pos hw hy
      show 1 ≤ w * y
      omega
    · show Nat.Coprime (x * z).natAbs (w * y).natAbs
      exact cop_symm (cop_mul (cop_symm (cop_mul cxw c2)) (cop_symm (cop_mul c1 czy)))
  have := low_uniq (N := nTimes (f * x) (s * w) (s * z) (f * y)) (D := dBoth (f * x) (s * w) (s * z) (f * y)) n (by unfold dBoth; exact Int.mul_ne_zero (by omega) (by omega)) (by unfold dBoth nTimes; grind)
  rw [this]
  rfl
theorem plus_low {a b : Q2} (ha : Nrm a) (hb : Nrm b) : ∃ u v T G : Int, a.2 = ((Nat.gcd a.2.natAbs b.2.natAbs : Nat) : Int) * u ∧ b.2 = ((Nat.gcd a.2.natAbs b.2.natAbs : Nat) : Int) * v ∧ (0 : Int) < ((Nat.gcd a.2.natAbs b.2.natAbs : Nat) : Int) ∧
    a.1 * v + b.1 * u = ((Nat.gcd (a.1 * v + b.1 * u).natAbs ((Nat.gcd a.2.natAbs b.2.natAbs : Nat) : Int).natAbs : Nat) : Int) * T ∧ ((Nat.gcd a.2.natAbs b.2.natAbs : Nat) : Int) = ((Nat.gcd (a.1 * v + b.1 * u).natAbs ((Nat.gcd a.2.natAbs b.2.natAbs : Nat) : Int).natAbs : Nat) : Int) * G ∧
    (0 : Int) < ((Nat.gcd (a.1 * v + b.1 * u).natAbs ((Nat.gcd a.2.natAbs b.2.natAbs : Nat) : Int).natAbs : Nat) : Int) ∧ qPlus a b = (T, u * (G * v)) := by
  obtain ⟨a0, a1⟩ := a
  obtain ⟨b0, b1⟩ := b
  obtain ⟨ha1, hac⟩ := ha
  obtain ⟨hb1, hbc⟩ := hb
  dsimp only at *
  obtain ⟨u, v, e1, e2, c1, p1⟩ := gcd_parts a1 b1 (by omega)
  generalize ((Nat.gcd a1.natAbs b1.natAbs : Nat) : Int) = g at *
  obtain ⟨T, G, e3, e4, c2, p2⟩ := gcd_parts (a0 * v + b0 * u) g (by omega)
  refine ⟨u, v, T, G, e1, e2, p1, e3, e4, p2, ?_⟩
  generalize ht : ((Nat.gcd (a0 * v + b0 * u).natAbs g.natAbs : Nat) : Int) = t at *
  have pos : ∀ {i j : Int}, 0 < i → 0 < i * j → 0 < j := fun {i j} h1 h2 => by
    rcases Int.lt_or_le 0 j with h | h
    · exact h
    · have := Int.mul_nonpos_of_nonneg_of_nonpos (Int.le_of_lt h1) h; omega
  have hu : 0 < u := pos p1 (by omega)
  have hv : 0 < v := pos p1 (by omega)
  have hG : 0 < G := pos p2 (by omega)
  have key : ∀ {x0 x1 y0 : Int} {m k : Int}, Nat.Coprime x0.natAbs x1.natAbs → m ∣ x1 → Nat.Coprime m.natAbs k.natAbs → Nat.Coprime (x0 * k + y0 * m).natAbs m.natAbs := fun {x0 x1 y0 m k} h1 h2 h3 => by
    have d1 : ((Nat.gcd (x0 * k + y0 * m).natAbs m.natAbs : Nat) : Int) ∣ x0 * k + y0 * m := Int.ofNat_dvd_left.mpr (Nat.gcd_dvd_left _ _)
    have d2 : ((Nat.gcd (x0 * k + y0 * m).natAbs m.natAbs : Nat) : Int) ∣ m := Int.ofNat_dvd_left.mpr (Nat.gcd_dvd_right _ _)
    unfold Nat.Coprime
    generalize hd : Nat.gcd (x0 * k + y0 * m).natAbs m.natAbs = d at *
    have d3 : (d : Int) ∣ x0 * k := by
      have := Int.dvd_sub d1 (Int.dvd_trans d2 (Int.dvd_mul_left y0 m))
      have e : x0 * k + y0 * m - y0 * m = x0 * k := by omega
      rwa [e] at this
    have d4 : d ∣ x0.natAbs * k.natAbs := by
      have := Int.ofNat_dvd_left.mp d3
      rwa [Int.natAbs_mul] at this
    have d5 : d ∣ m.natAbs := Int.ofNat_dvd_left.mp d2
    have d6 : Nat.Coprime d k.natAbs := Nat.Coprime.coprime_dvd_left d5 h3
    have d7 : d ∣ x0.natAbs := Nat.Coprime.dvd_of_dvd_mul_right d6 d4
    have d8 : d ∣ x1.natAbs := Nat.dvd_trans d5 (Int.natAbs_dvd_natAbs.mpr h2)
    have d9 := Nat.dvd_gcd d7 d8
    rw [show Nat.gcd x0.natAbs x1.natAbs = 1 from h1] at d9
    exact Nat.dvd_one.mp d9
  have k1 : Nat.Coprime (a0 * v + b0 * u).natAbs u.natAbs := key hac ⟨g, by rw [e1]; exact Int.mul_comm _ _⟩ c1
  have k2 : Nat.Coprime (a0 * v + b0 * u).natAbs v.natAbs := by
    rw [Int.add_comm]
    exact key hbc ⟨g, by rw [e2]; exact Int.mul_comm _ _⟩ (cop_symm c1)
  have n : Nrm (T, u * (G * v)) := by
    refine ⟨?_, ?_⟩
    · have := Int.mul_pos hu (Int.mul_pos hG hv)
      show 1 ≤ u * (G * v)
      omega
    · show Nat.Coprime T.natAbs (u * (G * v)).natAbs
      have t1 : Nat.Coprime T.natAbs u.natAbs := cop_right (e3 ▸ k1)
      have t2 : Nat.Coprime T.natAbs v.natAbs := cop_right (e3 ▸ k2)
      exact cop_symm (cop_mul (cop_symm t1) (cop_mul (cop_symm c2) (cop_symm t2)))
  have e5 : a0 * b1 + b0 * a1 = g * (t * T) := by rw [← e3, e1, e2]; grind
  have := low_uniq (N := nPlus a0 a1 b0 b1) (D := dBoth a0 a1 b0 b1) n (by unfold dBoth; exact Int.mul_ne_zero (by omega) (by omega)) (by
    unfold dBoth nPlus
    rw [e5, e1, e2, e4]
    grind)
  rw [this]
  rfl
end Odds
namespace Odds
open PySem
theorem eqv_ints (n d m e : Int) : PyData.eqv (.tuple [.int n, .int d]) (.tuple [.int m, .int e]) = decide (n = m ∧ d = e) := by
  simp only [PyData.eqv, PyData.eqvAll, Bool.and_true]
  by_cases h1 : n = m <;> by_cases h2 : d = e <;> simp [h1, h2]
/-- proportional triples without a common divisor -/
theorem prim_dvd {a b c A B C : Int} (h : Nat.gcd (Nat.gcd c.natAbs b.natAbs) a.natAbs = 1) (e1 : B * a = A * b) (e2 : C * a = A * c) : a.natAbs ∣ A.natAbs := by
  have d1 : a.natAbs ∣ A.natAbs * b.natAbs := by
    rw [← Int.natAbs_mul, ← e1, Int.natAbs_mul]
    exact Nat.dvd_mul_left _ _
  have d2 : a.natAbs ∣ A.natAbs * c.natAbs := by
    rw [← Int.natAbs_mul, ← e2, Int.natAbs_mul]
    exact Nat.dvd_mul_left _ _
  have d3 : a.natAbs ∣ A.natAbs * a.natAbs := Nat.dvd_mul_left _ _
  have d4 := Nat.dvd_gcd (Nat.dvd_gcd d2 d1) d3
  rw [Nat.gcd_mul_left, Nat.gcd_mul_left, h, Nat.mul_one] at d4
  exact d4
theorem prim_uniq {a b c A B C : Int} (ha : 0 < a) (hA : 0 < A) (h : Nat.gcd (Nat.gcd c.natAbs b.natAbs) a.natAbs = 1) (H : Nat.gcd (Nat.gcd C.natAbs B.natAbs) A.natAbs = 1) (e1 : B * a = A * b) (e2 : C * a = A * c) : A = a ∧ B = b ∧ C = c := by
  have d1 := prim_dvd h e1 e2
  have d2 := prim_dvd (a := A) (b := B) (c := C) (A := a) (B := b) (C := c) H (by rw [Int.mul_comm, ← e1, Int.mul_comm]) (by rw [Int.mul_comm, ← e2, Int.mul_comm])
  have e : A = a := by
    have := Nat.dvd_antisymm d1 d2
    omega
  subst e
  refine ⟨rfl, ?_, ?_⟩
  · rw [Int.mul_comm] at e1
    exact Int.eq_of_mul_eq_mul_left (by omega) e1
  · rw [Int.mul_comm] at e2
    exact Int.eq_of_mul_eq_mul_left (by omega) e2
/-- a fraction in lowest terms that is N / D -/
theorem cross_of {q : Q2} {N D : Int} (h1 : q.2 ≠ 0) (h2 : D ≠ 0) (e : val q = (N : Rat) / (D : Rat)) : q.1 * D = q.2 * N := by
  have k1 := ratne h1
  have k2 := ratne h2
  unfold val at e
  have e2 : (q.1 : Rat) * (D : Rat) = (q.2 : Rat) * (N : Rat) := by grind
  rw [← Rat.intCast_mul, ← Rat.intCast_mul] at e2
  exact Rat.intCast_inj.mp e2
theorem gcd_rot {p q r : Nat} (h : Nat.gcd (Nat.gcd p q) r = 1) : Nat.gcd (Nat.gcd r q) p = 1 := by
  rw [Nat.gcd_comm, Nat.gcd_comm r q, ← Nat.gcd_assoc]
  exact h
/-- the equation of a root's element is the root's -/
theorem eq_back {c b a s : Int} (ha : 0 < a) (h : Nat.gcd (Nat.gcd c.natAbs b.natAbs) a.natAbs = 1) (hs : s = 1 ∨ s = -1) :
    eqA (b * b - 4 * a * c) (lo1 (-b) (2 * a), lo2 (-b) (2 * a)) (s, 2 * a) = a ∧ eqB (b * b - 4 * a * c) (lo1 (-b) (2 * a), lo2 (-b) (2 * a)) (s, 2 * a) = b ∧ eqC (b * b - 4 * a * c) (lo1 (-b) (2 * a), lo2 (-b) (2 * a)) (s, 2 * a) = c := by
  have h0 : 2 * a ≠ 0 := by omega
  have hx : Nrm (lo1 (-b) (2 * a), lo2 (-b) (2 * a)) := lo_nrm h0
  have hy : (1 : Int) ≤ ((s, 2 * a) : Q2).2 := by show 1 ≤ 2 * a; omega
  generalize hX : ((lo1 (-b) (2 * a), lo2 (-b) (2 * a)) : Q2) = x at *
  have vx : val x = ((-b : Int) : Rat) / ((2 * a : Int) : Rat) := by rw [← hX]; exact val_lo h0
  have n1 : Nrm (qTimes (-2, 1) x) := qTimes_nrm (x := (-2, 1)) (Int.le_refl 1) hx.1
  have n2 : Nrm (nrm (b * b - 4 * a * c) x (s, 2 * a)) := nrm_nrm hx.1 hy
  have ra := ratne (show a ≠ 0 by omega)
  have v1 : val (qTimes (-2, 1) x) = (b : Rat) / (a : Rat) := by
    rw [val_times (x := (-2, 1)) (Int.le_refl 1) hx.1, val_int, vx, Rat.intCast_mul, Rat.intCast_neg]
    have : ((-2 : Int) : Rat) = -2 := rfl
    have : ((2 : Int) : Rat) = 2 := rfl
    grind
  have v2 : val (nrm (b * b - 4 * a * c) x (s, 2 * a)) = (c : Rat) / (a : Rat) := by
    rw [val_nrm hx.1 hy, vx]
    have vy : val (s, 2 * a) = (s : Rat) / ((2 * a : Int) : Rat) := rfl
    rw [vy, Rat.intCast_mul, Rat.intCast_neg, Rat.intCast_sub, Rat.intCast_mul, Rat.intCast_mul, Rat.intCast_mul]
    have e2 : ((2 : Int) : Rat) = 2 := rfl
    have e4 : ((4 : Int) : Rat) = 4 := rfl
    have es : (s : Rat) * (s : Rat) = 1 := by
      rw [← Rat.intCast_mul, show s * s = 1 by rcases hs with rfl | rfl <;> rfl]
      rfl
    rw [e2, e4]
    grind
  have c1 := cross_of (q := qTimes (-2, 1) x) (N := b) (D := a) (by have := n1.1; omega) (by omega) v1
  have c2 := cross_of (q := nrm (b * b - 4 * a * c) x (s, 2 * a)) (N := c) (D := a) (by have := n2.1; omega) (by omega) v2
  have L := lcm_coprime (A := eqA (b * b - 4 * a * c) x (s, 2 * a)) (l := (qTimes (-2, 1) x).1) (m := (qTimes (-2, 1) x).2) (n := (nrm (b * b - 4 * a * c) x (s, 2 * a)).1) (k := (nrm (b * b - 4 * a * c) x (s, 2 * a)).2) n1 n2 rfl
  obtain ⟨l1, l2, l3, l4⟩ := L
  show eqA _ _ _ = a ∧ eqB _ _ _ = b ∧ eqC _ _ _ = c
  refine prim_uniq ha (by omega) h ?_ ?_ ?_
  · exact gcd_rot l4
  · unfold eqB
    generalize eqA (b * b - 4 * a * c) x (s, 2 * a) = A at *
    calc (qTimes (-2, 1) x).1 * (A / (qTimes (-2, 1) x).2) * a = (qTimes (-2, 1) x).1 * a * (A / (qTimes (-2, 1) x).2) := by grind
      _ = (qTimes (-2, 1) x).2 * b * (A / (qTimes (-2, 1) x).2) := by rw [c1]
      _ = (A / (qTimes (-2, 1) x).2) * (qTimes (-2, 1) x).2 * b := by grind
      _ = A * b := by rw [l2]
  · unfold eqC
    generalize eqA (b * b - 4 * a * c) x (s, 2 * a) = A at *
    generalize nrm (b * b - 4 * a * c) x (s, 2 * a) = N at *
    calc N.1 * (A / N.2) * a = N.1 * a * (A / N.2) := by grind
      _ = N.2 * c * (A / N.2) := by rw [c2]
      _ = (A / N.2) * N.2 * c := by grind
      _ = A * c := by rw [l3]
end Odds
namespace Pm
open PySem L2
section
variable {X : Cx} {g : Sg} {W : WX} {a b c e o : Expr} {es : List Expr} {m ma mb mo : ME} {ms : MA} {pos p : Pos}
/-! ### is True, is False; str of an int -/
def isbM (neg : Bool) : PV → PV → Sto → Rs PV
  | .bl a, .bl b, S => .ok (.bl (if neg then !decide (a = b) else decide (a = b))) S
  | _, _, _ => .bad
theorem opm_isB : OpM X g W rIsB (isbM false) := by
  intro α σ H ρ S x y v u Q r dx dy q
  cases dx <;> cases dy <;> first | exact False.elim q | skip
  case bl.bl i j => exact ⟨i, j, rfl, rfl, q.here r _ (.bl _)⟩
theorem opm_notB : OpM X g W rNotB (isbM true) := by
  intro α σ H ρ S x y v u Q r dx dy q
  cases dx <;> cases dy <;> first | exact False.elim q | skip
  case bl.bl i j => exact ⟨i, j, rfl, rfl, q.here r _ (.bl _)⟩
def strM : MF
  | [.int i], S => if i.natAbs.log2 < 1920 then .ok (.str (toString i)) S else .bad
  | _, _ => .bad
theorem cam_str : CaM X g W (fun xs H Q => ∃ i : Int, xs = [.int i] ∧ i.natAbs.log2 < 1920 ∧ Q (.str (toString i)) H) strM := by
  intro α σ H ρ S xs vs Q r d q
  rcases xs with _ | ⟨x, _ | ⟨y, tl⟩⟩ <;> first | exact False.elim q | (cases x <;> first | exact False.elim q | (cases y <;> exact False.elim q)) | skip
  · obtain ⟨v, rfl, dv⟩ := d.one
    clear d
    cases dv <;> first | exact False.elim q | skip
    case int i =>
      simp only [strM] at q
      split at q
      · rename_i h
        exact ⟨i, rfl, h, q.here r _ (.str _)⟩
      · exact q.elim

/-! ### methods of lists -/
def lstQ : PV → Sto → Bool
  | .rol _, _ => true
  | .cell n, S => match S[n]? with
    | some (.lst _) => true
    | _ => false
  | _, _ => false
/-- a method of a built-in type, told by f; q: the value is of the type -/
def mBM (q : PV → Sto → Bool) (f : PV → List PV → Sto → Rs PV) (mo : ME) (ms : MA) : ME := fun ρ S => (mo ρ S).bind fun x S1 => if q x S1 = true then (ms ρ S1).bind fun xs S2 => f x xs S2 else .bad
def MetM (X : Cx) (g : Sg) (W : WX) (r : V → List V → Hp → VK → Prop) (f : PV → List PV → Sto → Rs PV) : Prop :=
  ∀ α σ H ρ S x v xs vs Q, Rl X.K g α σ H ρ S → Den X.K α H x v → Dens X.K α H xs vs → Post X.K g W α σ H ρ (fun α' H' z _ => ∀ w, Den X.K α' H' z w → Q w H') (f x xs S) → r v vs H Q
theorem lst_ty {K : PySem.W.Frag} {α : List Addr} {H : Hp} {S : Sto} (r : RlC K g α H S) {x : PV} {v : V} (d : Den K α H x v) (h : lstQ x S = true) : tyV K "list" v H := by
  cases d <;> simp only [lstQ] at h <;> first | (cases h; done) | skip
  case rol h0 d => exact .inl ⟨rfl, _, h0.sq⟩
  case cell h0 =>
    split at h
    · rename_i e0
      obtain ⟨us, hu, _⟩ := r.at h0 e0
      exact .inl ⟨rfl, _, SqL.of hu⟩
    · cases h
theorem re_bm {r : V → List V → Hp → VK → Prop} {f : PV → List PV → Sto → Rs PV} {T : String} {qt : PV → Sto → Bool} {ca : Expr} (ht : ∀ {α H S x v}, RlC X.K g α H S → Den X.K α H x v → qt x S = true → tyV X.K T v H) (hf : MetM X g W r f) (ho : RE X g W o mo) (ha : RA X g W es ms)
    (h : ∀ {to : TE} {t : TA}, PE X o to → PA X es t → PE X ca (tBM X.K T r to t)) : RE X g W ca (mBM qt f mo ms) := by
  refine pe_le (h ho ha) fun σ H Q ⟨α, ρ, S, rl, q⟩ => ?_
  refine ⟨α, ρ, S, rl, q.of_bind.imp fun α1 H1 x S1 p1 k1 r1 q1 v dv => ?_⟩
  replace q1 := q1 r1
  split at q1
  · rename_i hq
    refine ⟨ht r1.obj dv hq, α1, ρ, S1, r1, q1.of_bind.imp fun α2 H2 xs S2 p2 k2 r2 q2 vs dvs => ?_⟩
    exact hf _ _ _ _ _ _ _ _ _ _ r2 (dv.mono p2 k2) dvs (q2 r2)
  · exact q1.elim
def appendM (x : PV) (xs : List PV) (S : Sto) : Rs PV := match x, xs with
  | .cell n, [y] => match S[n]? with
    | some (.lst ys) => if ys.length < sizeLine then .ok .non (S.set n (.lst (ys ++ [y]))) else .bad
    | _ => .bad
  | _, _ => .bad
theorem met_append : MetM X g W rAppend appendM := by
  intro α σ H ρ S x v xs vs Q r dx ds q
  rcases xs with _ | ⟨y, _ | ⟨z, tl⟩⟩ <;> cases dx <;> first | exact False.elim q | skip
  case cons.nil.cell n a h =>
    obtain ⟨u, rfl, du⟩ := ds.one
    simp only [appendM] at q
    split at q
    · rename_i ys e0
      split at q
      · rename_i hz
        obtain ⟨us, hu, d⟩ := r.obj.at h e0
        have kp := r.obj.kset (u := .lst (us ++ [u])) h e0
        exact ⟨a, us, u, rfl, rfl, hu, by rw [← d.length]; exact hz, fin_set (o' := .lst (ys ++ [y])) r h e0 ⟨_, upd_same, (d.mono (List.prefix_refl _) kp).append (.cons (du.mono (List.prefix_refl _) kp) .nil)⟩ .non q⟩
      · exact q.elim
    · exact q.elim
def extendM (x : PV) (xs : List PV) (S : Sto) : Rs PV := match x, xs with
  | .cell n, [.cell k] => match S[n]?, S[k]? with
    | some (.lst ys), some (.lst zs) => if ys.length + zs.length ≤ sizeLine then .ok .non (S.set n (.lst (ys ++ zs))) else .bad
    | _, _ => .bad
  | _, _ => .bad
theorem met_extend : MetM X g W rExtend extendM := by
  intro α σ H ρ S x v xs vs Q r dx ds q
  rcases xs with _ | ⟨y, _ | ⟨z, tl⟩⟩ <;> cases dx <;> first | exact False.elim q | (cases y <;> exact False.elim q) | skip
  case cons.nil.cell n a h =>
    obtain ⟨u, rfl, du⟩ := ds.one
    cases du <;> first | exact False.elim q | skip
    case cell k b h2 =>
      simp only [extendM] at q
      split at q
      · rename_i ys zs e0 e1
        split at q
        · rename_i hz
          obtain ⟨us, hu, d⟩ := r.obj.at h e0
          obtain ⟨ws, hw, dw⟩ := r.obj.at h2 e1
          have kp := r.obj.kset (u := .lst (us ++ ws)) h e0
          exact ⟨a, b, us, ws, rfl, rfl, hu, hw, by rw [← d.length, ← dw.length]; exact hz, fin_set (o' := .lst (ys ++ zs)) r h e0 ⟨_, upd_same, (d.mono (List.prefix_refl _) kp).append (dw.mono (List.prefix_refl _) kp)⟩ .non q⟩
        · exact q.elim
      · exact q.elim
end
/-! how these are computed -/
section
variable {mo : ME} {ms : MA} {ρ : PSt} {S : Sto} {q : PV → Sto → Bool} {f : PV → List PV → Sto → Rs PV}
theorem mBM_ev : mBM q f mo ms ρ S = (mo ρ S).bind fun x S1 => if q x S1 = true then (ms ρ S1).bind fun xs S2 => f x xs S2 else .bad := rfl
theorem lstQ_ev {n : Nat} {ys : List PV} (h : S[n]? = some (.lst ys)) : lstQ (.cell n) S = true := by simp [lstQ, h]
theorem append_ev {n : Nat} {ys : List PV} {y : PV} (h : S[n]? = some (.lst ys)) (hl : ys.length < sizeLine) : appendM (.cell n) [y] S = .ok .non (S.set n (.lst (ys ++ [y]))) := by simp [appendM, h, hl]
theorem isB_ev {a b : Bool} : isbM false (.bl a) (.bl b) S = .ok (.bl (decide (a = b))) S := rfl
theorem notB_ev {a b : Bool} : isbM true (.bl a) (.bl b) S = .ok (.bl (!decide (a = b))) S := rfl
end
end Pm
namespace Pm
open PySem L2
/-! ### instances -/
def putP (f : Str) (x : PV) : List (Str × PV) → List (Str × PV)
  | [] => [(f, x)]
  | (h, y) :: r => if h = f then (h, x) :: r else (h, y) :: putP f x r
theorem putP_fst {f : Str} {x : PV} {v : V} : ∀ {fs : List (Str × PV)} {vfs : List (Str × V)}, fs.map (·.1) = vfs.map (·.1) → (putP f x fs).map (·.1) = (putF f v vfs).map (·.1)
  | [], [], _ => rfl
  | [], _ :: _, h => by cases h
  | _ :: _, [], h => by cases h
  | (a, y) :: fs, (b, u) :: vfs, h => by
    simp only [List.map_cons, List.cons.injEq] at h
    obtain ⟨rfl, h⟩ := h
    unfold putP putF
    split
    · simp [h]
    · simp [putP_fst (x := x) (v := v) h]
theorem putP_den {K : PySem.W.Frag} {α : List Addr} {H : Hp} {f : Str} {x : PV} {v : V} (dx : Den K α H x v) : ∀ {fs : List (Str × PV)} {vfs : List (Str × V)}, fs.map (·.1) = vfs.map (·.1) → Dens K α H (fs.map (·.2)) (vfs.map (·.2)) →
    Dens K α H ((putP f x fs).map (·.2)) ((putF f v vfs).map (·.2))
  | [], [], _, _ => .cons dx .nil
  | [], _ :: _, h, _ => by cases h
  | _ :: _, [], h, _ => by cases h
  | (a, y) :: fs, (b, u) :: vfs, h, d => by
    simp only [List.map_cons, List.cons.injEq] at h
    obtain ⟨rfl, h⟩ := h
    cases d with
    | cons d ds =>
      unfold putP putF
      split
      · exact .cons dx ds
      · exact .cons d (putP_den dx h ds)
/-- the instance that a cell is, of one of these classes -/
def insOf (cs : List Str) : PV → Sto → Option (Nat × Str × List (Str × PV))
  | .cell n, S => match S[n]? with
    | some (.ins c fs) => if cs.contains c = true then some (n, c, fs) else none
    | _ => none
  | _, _ => none
theorem insOf_eq {cs : List Str} {x : PV} {S : Sto} {n : Nat} {c : Str} {fs : List (Str × PV)} (e : insOf cs x S = some (n, c, fs)) : x = .cell n ∧ S[n]? = some (.ins c fs) ∧ c ∈ cs := by
  unfold insOf at e
  split at e
  · split at e
    · rename_i h
      split at e
      · rename_i hc
        cases e
        exact ⟨rfl, h, by simpa using hc⟩
      · cases e
    · cases e
  · cases e
theorem insOf_den {K : PySem.W.Frag} {g : Sg} {α : List Addr} {H : Hp} {S : Sto} (r : RlC K g α H S) {cs : List Str} {x : PV} {v : V} {n : Nat} {c : Str} {fs : List (Str × PV)} (d : Den K α H x v) (e : insOf cs x S = some (n, c, fs)) :
    c ∈ cs ∧ S[n]? = some (.ins c fs) ∧ ∃ a C dx vfs, v = .ref a ∧ α[n]? = some a ∧ g.cls c = some C ∧ H a = some (.ins C dx vfs) ∧ fs.map (·.1) = vfs.map (·.1) ∧ Dens K α H (fs.map (·.2)) (vfs.map (·.2)) := by
  obtain ⟨rfl, h1, h2⟩ := insOf_eq e
  cases d with
  | cell h =>
    obtain ⟨C, dx, vfs, m1, m2, m3, m4⟩ := r.at h h1
    exact ⟨h2, h1, _, C, dx, vfs, rfl, h, m1, m2, m3, m4⟩
theorem lookup_no {α β : Type} {n : Str} : ∀ {fs : List (Str × α)} {vfs : List (Str × β)}, fs.map (·.1) = vfs.map (·.1) → fs.lookup n = none → vfs.lookup n = none
  | [], [], _, _ => rfl
  | [], _ :: _, h, _ => by cases h
  | _ :: _, [], h, _ => by cases h
  | (a, y) :: fs, (b, v) :: vfs, h, e => by
    simp only [List.map_cons, List.cons.injEq] at h
    obtain ⟨rfl, h⟩ := h
    unfold List.lookup at e ⊢
    split at e
    · cases e
    · exact lookup_no h e
/-- o.f -/
def fldM (cs : List Str) (f : Str) (x : PV) (S : Sto) : Rs PV := match insOf cs x S with
  | some t => match t.2.2.lookup f with
    | some y => .ok y S
    | none => .bad
  | none => .bad
def mFld (cs : List Str) (f : Str) (m : ME) : ME := fun ρ S => (m ρ S).bind (fldM cs f)
/-- what these classes have for their attribute f -/
def FldOk (K : PySem.W.Frag) (g : Sg) (cs : List Str) (f : Str) : Prop := ∀ c ∈ cs, ∀ C, g.cls c = some C → Cls K C ∧ NoAttr K C f
section
variable {X : Cx} {g : Sg} {W : WX} {e o value : Expr} {m mo mv : ME} {pos pos' : Pos} {cs : List Str} {f : Str}
theorem re_fld (hc : FldOk X.K g cs f) (h : RE X g W e m) (hb : attributeBase e f X.env (eval e X.env) = eval e X.env := by rfl) : RE X g W (.Attribute e f pos) (mFld cs f m) := by
  refine pe_le (pe_fld h hb) fun σ H Q ⟨α, ρ, S, r, q⟩ => ?_
  refine ⟨α, ρ, S, r, q.of_bind.imp fun α1 H1 x S1 p1 k1 r1 q1 v dv => ?_⟩
  replace q1 := q1 r1
  unfold fldM at q1
  split at q1
  · rename_i t e1
    obtain ⟨n, c, fs⟩ := t
    split at q1
    · rename_i y e2
      obtain ⟨h1, h2, a, C, dx, vfs, rfl, h3, h4, h5, h6, h7⟩ := insOf_den r1.obj dv e1
      obtain ⟨k1, k2⟩ := hc c h1 C h4
      obtain ⟨u, hu, du⟩ := lookup_den h6 h7 e2
      exact ⟨a, C, dx, vfs, u, rfl, h5, k1, k2, hu, q1.here r1 u du⟩
    · exact q1.elim
  · exact q1.elim
/-- o.f = value -/
def setFO (cs : List Str) (f : Str) (ρ : PSt) (y x : PV) (S : Sto) : Ot := match insOf cs x S with
  | some t => if t.2.2.length < 1000 then .nx ρ (S.set t.1 (.ins t.2.1 (putP f y t.2.2))) else .bad
  | none => .bad
def mSetF (cs : List Str) (f : Str) (mo mv : ME) : MS := fun ρ S => ((mv ρ S).bind fun y S1 => (mo ρ S1).bind fun x S2 => .ok (y, x) S2).ot ρ fun t S2 => setFO cs f ρ t.1 t.2 S2
theorem rs_setF (hc : FldOk X.K g cs f) (ho : RE X g W o mo) (hv : RE X g W value mv) (hs : swapsWith value (some (.Attribute o f pos')) pos.line X.env = pure false := by rfl) : RS X g W (.Assign [.Attribute o f pos'] value pos) (mSetF cs f mo mv) := by
  refine ps_le (ps_fld ho hv hs) fun D σ H ⟨α, ρ, S, r, q⟩ => ?_
  refine ⟨α, ρ, S, r, (then_post (σ := σ) q).of_bind.imp fun α1 H1 y S1 p1 k1 r1 q1 v dv => ?_⟩
  refine ⟨α1, ρ, S1, r1, (q1 r1).of_bind.imp fun α2 H2 x S2 p2 k2 r2 q2 u du => ?_⟩
  have q4 := (q2 r2).here r2 r2
  unfold setFO at q4
  split at q4
  · rename_i t e1
    obtain ⟨n, c, fs⟩ := t
    dsimp only at q4
    split at q4
    · rename_i hl
      obtain ⟨h1, h2, a, C, dx, vfs, rfl, h3, h4, h5, h6, h7⟩ := insOf_den r2.obj du e1
      obtain ⟨k3, k4⟩ := hc c h1 C h4
      have lv : vfs.length = fs.length := by
        have := congrArg List.length h6
        simpa using this.symm
      refine ⟨a, C, dx, vfs, rfl, h5, k3, k4, by rw [lv]; exact hl, ?_⟩
      have kp := r2.obj.kset (u := .ins C dx (putF f v vfs)) h3 h2
      exact q4 α2 σ _ (List.prefix_refl _) kp (r2.keep (List.prefix_refl _) kp (r2.obj.set h3 h2 ⟨C, dx, _, h4, upd_same, putP_fst h6, putP_den ((dv.mono p2 k2).mono (List.prefix_refl _) kp) h6 (h7.mono (List.prefix_refl _) kp)⟩))
    · exact q4.elim
  · exact q4.elim
end
end Pm
namespace Pm
open PySem L2 PySem.Spec PyProof.Rows
/-! ### calls of methods, instances made; what they raise is wished for at the slots as they stand -/
def tMt (C : Addr) (m : Str) (sp : Sp) (E : L2.St → XK) (ta : TE) (t : TA) : TE := fun σ H Q => ta σ H fun x H1 => ∃ a dx fs, x = .ref a ∧ H1 a = some (.ins C dx fs) ∧ fs.lookup m = none ∧ t σ H1 fun vs H2 => sp (x :: vs) H2 Q (E σ)
def tMk (C : Addr) (sp : Sp) (E : L2.St → XK) (t : TA) : TE := fun σ H Q => t σ H fun vs H1 => ∀ x dx, H1 x = none → H1 dx = none → dx ≠ x → sp (.ref x :: vs) (upd (upd H1 dx (.own x)) x (.ins C dx [])) (fun v H2 => v = .non ∧ Q (.ref x) H2) (E σ)
section
variable {X : Cx} {CX : CXT} {k : Nat} {f C : Addr} {fd : FuncData} {ps ks : List Str} {sp : Sp} {E : L2.St → XK} {x m : Str} {p pos apos : Pos} {e o : Expr} {es : List Expr} {kws : List Keyword} {ta : TE} {t tk : TA}
theorem pe_mt {pl : Sem Bool} (he : PE X o ta) (c : Cls X.K C) (hm : Meth X.K C m f) (F : FnOk X.prog X.w X.K X.mg X.base CX k f fd ps sp) (hr : Room k X.A) (hb : Binds X.K fd ps []) (hx : ∀ σ, PassesAt CX X σ (E σ)) (ha : PA X (e :: es) t)
    (hst : starEach (e :: es) X.env = (false, eval e X.env) :: starEach es X.env := by rfl) (hpl : (backTo pos (starEach es X.env)).any (·.1) = false := by rfl)
    (ht : eval (.Call (.Attribute o m apos) (e :: es) [] pos) X.env = (do
      let ov ← eval o X.env
      standAt apos.atName
      let (f, first) ← holding [ov] (getMethod ov m pl)
      callWith pos f first (backTo pos (starEach (e :: es) X.env)) (backToKw pos (keywordEach [] X.env))) := by rfl) :
    PE X (.Call (.Attribute o m apos) (e :: es) [] pos) (tMt C m sp E ta t) := by
  refine ⟨fun pins s σ H Q I h => PySem.W.methodCall_KW (pl := pl) (thn (he.run pins s σ H _ I h) fun u s1 ⟨y, H1, I1, ry, a, dx, fs, ey, ea, l, q⟩ => ?_) ht⟩
  subst ey
  have eu : u = Value.ref a := ry
  rw [eu]
  exact getmeth_ok I1 ea c hm l (PySem.W.callWith_K (first := [.ref a]) (h₀ := X.base) I.ok.mod.kin hm.kp (thn (ha.run pos pins s1 σ H1 _ I1 q) fun us s2 ⟨vs, H2, I2, r, q2⟩ =>
    ⟨I2.kIn, run_fnS (us := .ref a :: us) (vs := .ref a :: vs) F hr hb (hx σ) I2 (.cons rfl r) q2⟩) hst hpl)
theorem pe_mt0 {pl : Sem Bool} (he : PE X o ta) (c : Cls X.K C) (hm : Meth X.K C m f) (F : FnOk X.prog X.w X.K X.mg X.base CX k f fd ps sp) (hr : Room k X.A) (hb : Binds X.K fd ps []) (hx : ∀ σ, PassesAt CX X σ (E σ))
    (ht : eval (.Call (.Attribute o m apos) [] [] pos) X.env = (do
      let ov ← eval o X.env
      standAt apos.atName
      let (f, first) ← holding [ov] (getMethod ov m pl)
      callWith pos f first (backTo pos (starEach [] X.env)) (backToKw pos (keywordEach [] X.env))) := by rfl) :
    PE X (.Call (.Attribute o m apos) [] [] pos) (tMt C m sp E ta tNil) := by
  refine ⟨fun pins s σ H Q I h => PySem.W.methodCall_KW (pl := pl) (thn (he.run pins s σ H _ I h) fun u s1 ⟨y, H1, I1, ry, a, dx, fs, ey, ea, l, q⟩ => ?_) ht⟩
  subst ey
  have eu : u = Value.ref a := ry
  rw [eu]
  exact getmeth_ok I1 ea c hm l (PySem.W.callWith_K0 (first := [.ref a]) I1.kIn hm.kp (run_fnS (us := [.ref a]) (vs := [.ref a]) F hr hb (hx σ) I1 (.cons rfl .nil) q))
/-- the keywords' values in the parameters' order -/
def KBo (K : PySem.W.Frag) (fd : FuncData) (ps ks : List Str) (n : Nat) : Prop := ∀ (s : Shared) (us ws : List Value), K.In s.heap → us.length = n → ws.length = ks.length → BindsTo s fd ⟨us, ks.zip ws⟩ (ps.zip (us ++ ws))
theorem KBo.of {K : PySem.W.Frag} (h : Binds K fd ps []) (hl : ps.length = 1) : KBo K fd ps [] 1 := fun s us ws i l1 l2 => by
  cases ws with
  | nil =>
    have := h s us i (by simp [l1, hl])
    simpa using this
  | cons _ _ => simp at l2
theorem kbo_mk {K : PySem.W.Frag} {y qual : Str} {st : Stmt} (F : Fun K y qual st f fd) {n : Nat}
    (h : ∀ (kV doc pm : Value) (an : Option Addr) (cdv ct : Value) (us ws : List Value), us.length = n → ws.length = ks.length → bindArgs (PySem.W.fnOf y qual (defArgs st) (defBody st) (defScope st) .none kV doc pm an cdv ct) ⟨us, ks.zip ws⟩ = pure (ps.zip (us ++ ws))) : KBo K fd ps ks n := by
  obtain ⟨oc, od, kV, doc, pm, an, cdv, ct, osl, rfl, lk, hcd⟩ := F.ex
  intro s us ws i l1 l2 M A Q E q
  rw [h kV doc pm an cdv ct us ws l1 l2]
  exact wpAny_pure q
theorem run_mk {pins : List (Addr × Obj)} {σ : L2.St} {H : Hp} {s : Shared} {Q : VK} {us ws : List Value} {vs zs : List V} {n : Nat} (M : Mk X.K C f) (F : FnOk X.prog X.w X.K X.mg X.base CX k f fd ps sp) (hr : Room (k + 1) X.A) (hb : KBo X.K fd ps ks (n + 1)) (hx : PassesAt CX X σ (E σ))
    (I : Inv X pins σ H s) (r : Vals vs us) (rz : Vals zs ws) (l1 : us.length = n) (l2 : ws.length = ks.length)
    (h : ∀ x dx, H x = none → H dx = none → dx ≠ x → sp (.ref x :: (vs ++ zs)) (upd (upd H dx (.own x)) x (.ins C dx [])) (fun v H2 => v = .non ∧ Q (.ref x) H2) (E σ)) :
    wpAny (model X.prog X.w) X.A (call (.ref C) us (ks.zip ws)) (EP X pins σ Q) X.xe s := by
  have hq := h (s.heap.objs.size + 1) s.heap.objs.size (I.hok.fresh (Nat.le_succ _)) (I.hok.fresh (Nat.le_refl _)) (Nat.ne_of_lt (Nat.lt_succ_self _))
  have I2 := Inv.made (C := C) I
  have r2 : Vals (V.ref (s.heap.objs.size + 1) :: (vs ++ zs)) (Value.ref (s.heap.objs.size + 1) :: us ++ ws) := .cons rfl (r.append rz)
  refine wpAny_call (make_map (f := f) I.kIn M.makes M.init (beq_iff_eq.mp M.fn) (codeAny_mono (F.run _ X.stack _ _ ⟨Value.ref (s.heap.objs.size + 1) :: us, ks.zip ws⟩ _ _ _ _ (hr.make C us (ks.zip ws)) (I2.env0.make C us (ks.zip ws)) (hb _ (Value.ref (s.heap.objs.size + 1) :: us) ws I2.kIn (by simp [l1]) l2) r2 hq) ?_))
  intro rr s' hq'
  rcases rr with e | fl
  · exact hx _ _ _ e s' I2 hq'
  · cases fl with
    | ret u =>
      obtain ⟨v, H', I3, rv, rfl, q3⟩ := I2.after hq'
      exact ⟨rv, V.ref (s.heap.objs.size + 1), H', I3, rfl, q3⟩
    | next => exact hq'.elim
    | brk => exact hq'.elim
    | cont => exact hq'.elim
/-- C(e, ..) -/
theorem pe_mk (M : Mk X.K C f) (F : FnOk X.prog X.w X.K X.mg X.base CX k f fd ps sp) (hr : Room (k + 1) X.A) (hg : Gl X x) (hm : X.mg x = some (.ref C)) (hb : Binds X.K fd ps []) (hx : ∀ σ, PassesAt CX X σ (E σ)) (ha : PA X (e :: es) t)
    (hdb : (x == ("__debug__" : Str)) = false := by decide) (he : starEach (e :: es) X.env = (false, eval e X.env) :: starEach es X.env := by rfl) (hpl : (backTo pos (starEach es X.env)).any (·.1) = false := by rfl) :
    PE X (.Call (.Name x p) (e :: es) [] pos) (tMk C sp E t) := by
  refine ⟨fun pins s σ H Q I h => wpAny_Call_Name_kw (ld_glob I hg hm (PySem.W.callWith_K (h₀ := X.base) I.ok.mod.kin M.kp (thn (ha.run pos pins s σ H _ I h) fun us s1 ⟨vs, H1, I1, r, q⟩ => ⟨I1.kIn, ?_⟩) he hpl) hdb)⟩
  have hp : vs.length + 1 = ps.length := F.len _ _ _ _ (q (s1.heap.objs.size + 1) s1.heap.objs.size (I1.hok.fresh (Nat.le_succ _)) (I1.hok.fresh (Nat.le_refl _)) (Nat.ne_of_lt (Nat.lt_succ_self _)))
  have hb' : KBo X.K fd ps [] (us.length + 1) := fun s us' ws i l1 l2 => by
    have ew : ws = [] := List.eq_nil_of_length_eq_zero l2
    subst ew
    have := hb s us' i (by simp [l1, ← hp, r.length])
    simpa using this
  exact run_mk (ks := []) (ws := []) (zs := []) M F hr hb' (hx σ) I1 r .nil rfl rfl (by simpa using q)
/-- C() -/
theorem pe_mk0 (M : Mk X.K C f) (F : FnOk X.prog X.w X.K X.mg X.base CX k f fd ps sp) (hr : Room (k + 1) X.A) (hg : Gl X x) (hm : X.mg x = some (.ref C)) (hb : Binds X.K fd ps []) (hx : ∀ σ, PassesAt CX X σ (E σ))
    (hdb : (x == ("__debug__" : Str)) = false := by decide) : PE X (.Call (.Name x p) [] [] pos) (tMk C sp E tNil) := by
  refine ⟨fun pins s σ H Q I h => wpAny_Call_Name_kw (ld_glob I hg hm (PySem.W.callWith_K0 I.kIn M.kp ?_) hdb)⟩
  have hp : 1 = ps.length := F.len _ _ _ _ (h (s.heap.objs.size + 1) s.heap.objs.size (I.hok.fresh (Nat.le_succ _)) (I.hok.fresh (Nat.le_refl _)) (Nat.ne_of_lt (Nat.lt_succ_self _)))
  exact run_mk (ks := []) (us := []) (ws := []) (zs := []) (vs := []) M F hr (KBo.of hb hp.symm) (hx σ) I .nil .nil rfl rfl h
/-- C(k = e, ..) -/
theorem pe_mkK (M : Mk X.K C f) (F : FnOk X.prog X.w X.K X.mg X.base CX k f fd ps sp) (hr : Room (k + 1) X.A) (hg : Gl X x) (hm : X.mg x = some (.ref C)) (hb : KBo X.K fd ps ks 1) (hx : ∀ σ, PassesAt CX X σ (E σ)) (hkw : PK X kws tk)
    (hall : (backToKw pos (keywordEach kws X.env)).all (·.1.isSome) = true := by rfl) (hks : (backToKw pos (keywordEach kws X.env)).filterMap (·.1) = ks := by rfl) (hdb : (x == ("__debug__" : Str)) = false := by decide)
    (hpl : ((backTo pos (starEach [] X.env)).any (·.1) || (backToKw pos (keywordEach kws X.env)).any (·.1.isNone)) = false := by rfl) (hl : ps.length = ks.length + 1 := by rfl) :
    PE X (.Call (.Name x p) [] kws pos) (tMk C sp E tk) := by
  refine ⟨fun pins s σ H Q I h => wpAny_Call_Name_kw (ld_glob I hg hm (PySem.W.callWith_KW0 (h₀ := X.base) I.ok.mod.kin M.kp hall (thn (hkw.run pos pins s σ H _ I h) fun ws s2 ⟨zs, H2, I2, rz, q2⟩ => ⟨I2.kIn, ?_⟩) hpl) hdb)⟩
  have hp : zs.length + 1 = ps.length := F.len _ _ _ _ (q2 (s2.heap.objs.size + 1) s2.heap.objs.size (I2.hok.fresh (Nat.le_succ _)) (I2.hok.fresh (Nat.le_refl _)) (Nat.ne_of_lt (Nat.lt_succ_self _)))
  rw [hks]
  exact run_mk (us := []) (vs := []) M F hr hb (hx σ) I2 .nil rz rfl (by rw [← rz.length]; omega) q2
end
end Pm
namespace Pm
open PySem L2 PySem.Spec PyProof.Rows
def mMeth (c m : Str) (np : Nat) (mf : MF) (mo : ME) (ms : MA) : ME := fun ρ S => (mo ρ S).bind fun x S1 => match insOf [c] x S1 with
  | some t => if (t.2.2.lookup m).isNone = true then (ms ρ S1).bind fun xs S2 => if xs.length + 1 = np then mf (x :: xs) S2 else .bad else .bad
  | none => .bad
def mMake (c : Str) (np : Nat) (mf : MF) (ms : MA) : ME := fun ρ S => (ms ρ S).bind fun xs S1 => if xs.length + 1 = np then (mf (.cell S1.length :: xs) (S1 ++ [.ins c []])).bind fun v S2 => match v with
  | .non => .ok (.cell S1.length) S2
  | _ => .bad
  else .bad
section
variable {X : Cx} {g : Sg} {W : WX} {e o ca : Expr} {es : List Expr} {kws : List Keyword} {m mo mv : ME} {ms : MA} {p pos apos kpos : Pos} {c n : Str} {C f : Addr} {k np : Nat} {fd : FuncData} {ps ks : List Str} {mf : MF} {x : Str} {nm : Option Str}
theorem meth_le {t : TA} {to : TE} (hC : g.cls c = some C) (ho : ∀ σ H Q, tM X.K g W mo σ H Q → to σ H Q) (ht : ∀ σ H Q, tMA X.K g W ms σ H Q → t σ H Q) :
    ∀ σ H Q, tM X.K g W (mMeth c n np mf mo ms) σ H Q → tMt C n (spM X.K g np mf) (WE W) to t σ H Q := by
  intro σ H Q ⟨α, ρ, S, r, q⟩
  refine ho _ _ _ ⟨α, ρ, S, r, q.of_bind.imp fun α1 H1 x S1 p1 k1 r1 q1 v dv => ?_⟩
  replace q1 := q1 r1
  split at q1
  · rename_i t e1
    obtain ⟨i, c', fs⟩ := t
    split at q1
    · rename_i e2
      obtain ⟨h1, h2, a, C', dx, vfs, rfl, h3, h4, h5, h6, h7⟩ := insOf_den r1.obj dv e1
      have ec : c' = c := by simpa using h1
      subst ec
      have eC : C' = C := Option.some.inj (h4.symm.trans hC)
      subst eC
      refine ⟨a, dx, vfs, rfl, h5, lookup_no h6 (Option.isNone_iff_eq_none.mp e2), ht _ _ _ ⟨α1, ρ, S1, r1, q1.of_bind.imp fun α2 H2 xs S2 p2 k2 r2 q2 vs dvs => ?_⟩⟩
      replace q2 := q2 r2
      split at q2
      · rename_i hl
        exact ⟨α2, x :: xs, S2, r2.obj, .cons (dv.mono p2 k2) dvs, hl, call_post r2 q2⟩
      · exact q2.elim
    · exact q1.elim
  · exact q1.elim
theorem re_meth {pl : Sem Bool} (hC : g.cls c = some C) (cl : Cls X.K C) (hm : Meth X.K C n f) (F : FnOk X.prog X.w X.K X.mg X.base (L2.CX X.prog X.w) k f fd ps (spM X.K g np mf)) (hr : Room k X.A) (hb : Binds X.K fd ps []) (tk : Takes X W)
    (ho : RE X g W o mo) (ha : RA X g W (e :: es) ms)
    (hst : starEach (e :: es) X.env = (false, eval e X.env) :: starEach es X.env := by rfl) (hpl : (backTo pos (starEach es X.env)).any (·.1) = false := by rfl)
    (ht : eval (.Call (.Attribute o n apos) (e :: es) [] pos) X.env = (do
      let ov ← eval o X.env
      standAt apos.atName
      let (f, first) ← holding [ov] (getMethod ov n pl)
      callWith pos f first (backTo pos (starEach (e :: es) X.env)) (backToKw pos (keywordEach [] X.env))) := by rfl) :
    RE X g W (.Call (.Attribute o n apos) (e :: es) [] pos) (mMeth c n np mf mo ms) :=
  pe_le (pe_mt ho cl hm F hr hb (fun σ => passAt tk σ) ha hst hpl ht) (meth_le hC (fun _ _ _ h => h) (fun _ _ _ h => h))
theorem re_meth0 {pl : Sem Bool} (hC : g.cls c = some C) (cl : Cls X.K C) (hm : Meth X.K C n f) (F : FnOk X.prog X.w X.K X.mg X.base (L2.CX X.prog X.w) k f fd ps (spM X.K g np mf)) (hr : Room k X.A) (hb : Binds X.K fd ps []) (tk : Takes X W)
    (ho : RE X g W o mo)
    (ht : eval (.Call (.Attribute o n apos) [] [] pos) X.env = (do
      let ov ← eval o X.env
      standAt apos.atName
      let (f, first) ← holding [ov] (getMethod ov n pl)
      callWith pos f first (backTo pos (starEach [] X.env)) (backToKw pos (keywordEach [] X.env))) := by rfl) :
    RE X g W (.Call (.Attribute o n apos) [] [] pos) (mMeth c n np mf mo mNil) :=
  pe_le (pe_mt0 ho cl hm F hr hb (fun σ => passAt tk σ) ht) (meth_le hC (fun _ _ _ h => h) fun σ H Q ⟨α, ρ, S, r, q⟩ => (Post.here q r) [] .nil)
theorem make_le {t : TA} (hC : g.cls c = some C) (ht : ∀ σ H Q, tMA X.K g W ms σ H Q → t σ H Q) :
    ∀ σ H Q, tM X.K g W (mMake c np mf ms) σ H Q → tMk C (spM X.K g np mf) (WE W) t σ H Q := by
  intro σ H Q ⟨α, ρ, S, r, q⟩
  refine ht _ _ _ ⟨α, ρ, S, r, q.of_bind.imp fun α1 H1 xs S1 p1 k1 r1 q1 vs dvs x dx hx hdx hne => ?_⟩
  replace q1 := q1 r1
  split at q1
  · rename_i hl
    have hx' : upd H1 dx (.own x) x = none := by rw [upd_ne (fun e => hne e.symm)]; exact hx
    have kp : Kp H1 (upd (upd H1 dx (.own x)) x (.ins C dx [])) := (Kp.new hdx).trans (Kp.new hx')
    have r2 : RlC X.K g (α1 ++ [x]) (upd (upd H1 dx (.own x)) x (.ins C dx [])) (S1 ++ [.ins c []]) :=
      (r1.obj.same (H' := upd H1 dx (.own x)) fun b u e => new_st hdx e).new hx' ⟨C, dx, [], hC, upd_same, rfl, .nil⟩
    have pre : α1 <+: α1 ++ [x] := List.prefix_append _ _
    have hd : (α1 ++ [x])[S1.length]? = some x := by rw [← r1.obj.len]; simp
    refine ⟨α1 ++ [x], .cell S1.length :: xs, S1 ++ [.ins c []], r2, .cons (.cell hd) (dvs.mono pre kp), hl, ?_⟩
    revert q1
    cases mf (.cell S1.length :: xs) (S1 ++ [.ins c []]) with
    | ok v S' =>
      intro q1 α' H' u p' k' r' d
      cases v <;> first | exact False.elim q1 | skip
      cases d
      refine ⟨rfl, q1 α' H' (pre.trans p') (kp.trans k') (r1.keep (pre.trans p') (kp.trans k') r') _ (.cell ?_)⟩
      obtain ⟨t, rfl⟩ := p'
      rw [List.getElem?_append_left (List.getElem?_eq_some_iff.mp hd).1]
      exact hd
    | er c fs S' => exact fun q1 α' H' C d p' k' r' e xf => q1 α' H' C d (pre.trans p') (kp.trans k') (r1.keep (pre.trans p') (kp.trans k') r') e xf
    | bad => exact fun q1 => q1
  · exact q1.elim
theorem re_make (hC : g.cls c = some C) (M : Mk X.K C f) (F : FnOk X.prog X.w X.K X.mg X.base (L2.CX X.prog X.w) k f fd ps (spM X.K g np mf)) (hr : Room (k + 1) X.A) (hg : Gl X x) (hm : X.mg x = some (.ref C)) (hb : Binds X.K fd ps []) (tk : Takes X W)
    (ha : RA X g W (e :: es) ms) (hdb : (x == ("__debug__" : Str)) = false := by decide) (he : starEach (e :: es) X.env = (false, eval e X.env) :: starEach es X.env := by rfl) (hpl : (backTo pos (starEach es X.env)).any (·.1) = false := by rfl) :
    RE X g W (.Call (.Name x p) (e :: es) [] pos) (mMake c np mf ms) :=
  pe_le (pe_mk M F hr hg hm hb (fun σ => passAt tk σ) ha hdb he hpl) (make_le hC fun _ _ _ h => h)
theorem re_make0 (hC : g.cls c = some C) (M : Mk X.K C f) (F : FnOk X.prog X.w X.K X.mg X.base (L2.CX X.prog X.w) k f fd ps (spM X.K g np mf)) (hr : Room (k + 1) X.A) (hg : Gl X x) (hm : X.mg x = some (.ref C)) (hb : Binds X.K fd ps []) (tk : Takes X W)
    (hdb : (x == ("__debug__" : Str)) = false := by decide) :
    RE X g W (.Call (.Name x p) [] [] pos) (mMake c np mf mNil) :=
  pe_le (pe_mk0 M F hr hg hm hb (fun σ => passAt tk σ) hdb) (make_le hC fun σ H Q ⟨α, ρ, S, r, q⟩ => (Post.here q r) [] .nil)
def RK (X : Cx) (g : Sg) (W : WX) (kws : List Keyword) (ms : MA) : Prop := PK X kws (tMA X.K g W ms)
theorem pk_le {t t' : TA} (h : PK X kws t) (i : ∀ σ H Q, t' σ H Q → t σ H Q) : PK X kws t' := ⟨fun p pins s σ H Q I q => h.run p pins s σ H Q I (i _ _ _ q)⟩
theorem rk_nil : RK X g W [] mNil := pk_le pk_nil fun σ H Q ⟨α, ρ, S, r, q⟩ => (Post.here q r) [] .nil
theorem rk_cons (ha : RE X g W e m) (hr : RK X g W kws ms) : RK X g W (⟨nm, e, kpos⟩ :: kws) (mCons m ms) := by
  refine pk_le (pk_cons ha hr) fun σ H Q ⟨α, ρ, S, r, q⟩ => ?_
  refine ⟨α, ρ, S, r, q.of_bind.imp fun α1 H1 x S1 p1 k1 r1 q1 v dv => ?_⟩
  refine ⟨α1, ρ, S1, r1, (q1 r1).of_bind.imp fun α2 H2 xs S2 p2 k2 r2 q2 vs dvs => ?_⟩
  exact (q2 r2).here r2 _ (.cons (dv.mono p2 k2) dvs)
theorem re_makeK (hC : g.cls c = some C) (M : Mk X.K C f) (F : FnOk X.prog X.w X.K X.mg X.base (L2.CX X.prog X.w) k f fd ps (spM X.K g np mf)) (hr : Room (k + 1) X.A) (hg : Gl X x) (hm : X.mg x = some (.ref C)) (hb : KBo X.K fd ps ks 1) (tk : Takes X W)
    (ha : RK X g W kws ms)
    (hall : (backToKw pos (keywordEach kws X.env)).all (·.1.isSome) = true := by rfl) (hks : (backToKw pos (keywordEach kws X.env)).filterMap (·.1) = ks := by rfl) (hdb : (x == ("__debug__" : Str)) = false := by decide)
    (hpl : ((backTo pos (starEach [] X.env)).any (·.1) || (backToKw pos (keywordEach kws X.env)).any (·.1.isNone)) = false := by rfl) (hl : ps.length = ks.length + 1 := by rfl) :
    RE X g W (.Call (.Name x p) [] kws pos) (mMake c np mf ms) :=
  pe_le (pe_mkK M F hr hg hm hb (fun σ => passAt tk σ) ha hall hks hdb hpl hl) (make_le hC fun _ _ _ h => h)
end
end Pm
namespace Gx
open PySem PySem.Spec PyProof.Rows L2 GenW
/-! ### a generator expression whose element is anything that raises nothing -/
/-- the context of its frame -/
abbrev gcx (X : Cx) (s : Shared) (H : Hp) (ge : Env) (fp : List Addr) (A : Around) (pn : List (Addr × Obj)) : Cx :=
  { X with A := A, s_0 := s, H_0 := H, env := ge, outer := X.stack, stack := ge :: X.stack, ex := fp, fn := fun _ => false, pn := pn, xe := fun _ _ => False }
/-- its frame's environment -/
abbrev gen (X : Cx) (scope : Scope) (C : Addr) (code : Value) : Env := genEnv scope (cloFrom X.env.cells scope.names []) C code builtinsNs X.env
theorem over_cl {A : Around} {elt : Expr} {gs : List Comprehension} {scope : Scope} {pos : Pos} {it acc : Value} {env : Env} : A.over (.compLoop (.GeneratorExp elt gs scope pos) 0 it acc env) [] = A.deeper env := by
  first
    | rfl
    | (obtain ⟨hd, d, fr, g, u⟩ := A; simp [Around.over, Around.deeper, marksOver, frameCount, unitsOf, envsOf, guardsOf, pushEnvs, pushGuards, Code.envs, Code.env?, Code.isFrame, Code.guards, Code.isGuard, Code.weight, Code.frames, Code.isCreation, Code.isCaller, Code.cUnits])
theorem over_cs {A : Around} {elt : Expr} {gs : List Comprehension} {scope : Scope} {pos : Pos} {it acc : Value} {env : Env} : A.over (.compStart (.GeneratorExp elt gs scope pos) 0 it acc env) [] = A.deeper env := by
  first
    | rfl
    | (obtain ⟨hd, d, fr, g, u⟩ := A; simp [Around.over, Around.deeper, marksOver, frameCount, unitsOf, envsOf, guardsOf, pushEnvs, pushGuards, Code.envs, Code.env?, Code.isFrame, Code.guards, Code.isGuard, Code.weight, Code.frames, Code.isCreation, Code.isCaller, Code.cUnits])
section
variable {X : Cx} {pins : List (Addr × Obj)} {σ : L2.St} {H : Hp} {s s' : Shared} {scope : Scope} {own : List (Str × Nat)} {fp : List Addr} {code : Value} {A : Around} {pn : List (Addr × Obj)} {m : Str → Option Value}
theorem gen_start (I : Inv X pins σ H s) (ok : BlkOk X.N X.env.scope scope own) (hN : X.N.Nodup) (hcell : ∀ y ∈ scope.names, y.2 ≠ .cell) (hfp : ∀ b ∈ fp, FpOk X pins H b ∧ b < s.heap.objs.size)
    (hfr : A.frames = some (gen X scope s.heap.objs.size code :: X.stack)) (hhd : A.handled = none) (hos : s'.os = s.os) (kp : ∀ b o, s.heap.get? b = some o → s'.heap.get? b = some o) (hb : AllBare s'.gens)
    (hns : s'.heap.Ns s.heap.objs.size m) (hpn : ∀ p ∈ pn, s'.heap.get? p.1 = some p.2 ∧ s.heap.objs.size < p.1 ∧ ∀ v, p.2.data ≠ .cell v) :
    Inv (gcx X s H (gen X scope s.heap.objs.size code) fp A pn) [] (wipe σ (own.map (·.2))) H s' := by
  have hfree : ∀ y ∈ scope.names, y.2 = .free → ∃ c, X.env.cells.lookup y.1 = some c := fun y hy e => by
    rcases ok.free y hy e with k | k
    · exact I.ok.has _ (.inl k)
    · exact I.ok.has _ (.inr k)
  generalize hge : gen X scope s.heap.objs.size code = ge at *
  have hL : ge.locals = s.heap.objs.size := by rw [← hge]; rfl
  have hcl : ge.cells = cloFrom X.env.cells scope.names [] := by rw [← hge]; rfl
  have hsc : ge.scope = scope := by rw [← hge]; rfl
  have hF : ge.frame = some ge.locals := by rw [← hge]; rfl
  have cm : ∀ {y c}, (y, c) ∈ cloFrom X.env.cells scope.names [] → X.env.cells.lookup y = some c ∧ c < s.heap.objs.size := fun {y c} hm => by
    rcases cloFrom_mem hm with hm | ⟨h1, rfl⟩
    · cases hm
    · obtain ⟨c, hc⟩ := hfree _ h1 rfl
      rw [hc]
      obtain ⟨w, z⟩ := I.cell _ _ hc
      exact ⟨rfl, z.lt⟩
  have mem : ∀ {y c}, ge.cells.lookup y = some c → X.env.cells.lookup y = some c ∧ c < s.heap.objs.size := fun {y c} e => by
    rw [hcl] at e
    exact cm (PySem.mem_of_lookup e)
  have look : ∀ {y}, scope.names.lookup y = some .free → ∃ c, ge.cells.lookup y = some c ∧ X.env.cells.lookup y = some c := fun {y} hl => by
    have hy : (y, NameKind.free) ∈ scope.names := PySem.mem_of_lookup hl
    obtain ⟨c', e'⟩ := L2.mem_lookup (cloFrom_has (cells := X.env.cells) (acc := []) hy)
    rw [← hcl] at e'
    exact ⟨c', e', (mem e').1⟩
  have kind : ∀ {y k}, ge.kindOf y = some k → scope.names.lookup y = some k := fun {y k} h => by
    unfold Env.kindOf at h
    rw [hsc] at h
    exact h
  have okG : (gcx X s H ge fp A pn).Ok := by
    refine ⟨I.ok.mod, by show ge.scope.kind = _; rw [hsc]; exact ok.kind, by show ge.globals = _; rw [← hge]; exact I.ok.glob, by show ge.builtins = _; rw [← hge]; rfl, by show s.heap.objs.size ≤ ge.locals; rw [hL]; exact Nat.le_refl _,
      fun y z c e1 e2 => ?_, fun y hy => ?_, fun y c z e => ?_, fun _ => hhd, hfr, .inr ⟨rfl, hF⟩, fun b hb => ⟨?_, fun y c e z => ?_⟩, I.bs, Nat.le_trans I.ok.bsz I.sz, fun b o e hb => ?_, fun b hb z => ?_, I.stack, I.stkFree⟩
    · exact I.ok.inj y z c (mem e1).1 (mem e2).1
    · show ∃ c, ge.cells.lookup y = some c
      rcases hy with hy | hy
      · exact absurd rfl (hcell _ (PySem.mem_of_lookup (kind hy)))
      · obtain ⟨c, h1, _⟩ := look (kind hy)
        exact ⟨c, h1⟩
    · cases z
    · show b ≠ ge.locals
      rw [hL]; exact Nat.ne_of_lt (hfp b hb).2
    · exact (hfp b hb).1.2.2.2.2.1 y c (mem e).1 z
    · rcases (hfp b hb).1.2.2.2.1 with z | z
      · exact I.ok.noex b o e z
      · exact absurd (Nat.lt_of_lt_of_le (Heap.lt_size e) (Nat.le_trans I.ok.bsz z)) (Nat.lt_irrefl _)
    · rcases List.mem_cons.mp (I.stkSub b z) with z | z
      · exact (hfp b hb).1.2.1 z
      · exact (hfp b hb).1.2.2.1 z
  refine ⟨okG, hos, hb, Un.kept kp, ⟨m, ?_, fun i y av e1 e2 e3 => ?_⟩, fun y c e => ?_, ?_, fun y c e => ?_, fun p hp => ?_, I.hok.kept kp, by rw [wipe_length]; exact I.len⟩
  · show Heap.Ns _ ge.locals _
    rw [hL]
    exact hns
  · obtain ⟨e2, hne⟩ := wipe_some e2
    have hfr : scope.names.lookup y = some .free := by
      have no : ∀ k, scope.names.lookup y = some k → ¬ (k = .local ∨ k = .cell) := fun k e hh => by
        rcases ok.own _ (PySem.mem_of_lookup e) hh with e' | e'
        · obtain ⟨p, hp, hpy⟩ := List.mem_map.mp e'
          have e3 := ok.ix p hp
          have : p.1 = y := hpy
          rw [this] at e3
          exact hne (List.mem_map.mpr ⟨p, hp, nodup_ix hN e3 e1⟩)
        · exact e' (List.mem_of_getElem? e1)
      have e3 : Vis ge.scope y := e3
      rw [hsc] at e3
      rcases e3 with e3 | e3 | e3
      · exact absurd (.inl rfl) (no _ e3)
      · exact absurd (.inr rfl) (no _ e3)
      · exact e3
    obtain ⟨m', hn, hl⟩ := I.loc
    have hvis : Vis X.env.scope y := (ok.free _ (PySem.mem_of_lookup hfr) rfl).elim (fun k => .inr (.inl k)) (fun k => .inr (.inr k))
    obtain ⟨w, r, q⟩ := hl i y av e1 e2 hvis
    refine ⟨w, r, .inr ⟨.inr ?_, ?_⟩⟩
    · show ge.kindOf y = _
      unfold Env.kindOf
      rw [hsc]
      exact hfr
    · obtain ⟨c, h1, h2⟩ := look hfr
      rcases q with ⟨k, _⟩ | ⟨_, c', e', z⟩
      · have k : X.env.scope.names.lookup y = some .local := k
        rcases ok.free _ (PySem.mem_of_lookup hfr) rfl with k' | k' <;> rw [show X.env.scope.names.lookup y = _ from k'] at k <;> cases k
      · rw [h2] at e'; cases e'
        exact ⟨c, h1, z.keeps kp⟩
  · obtain ⟨w, z⟩ := I.cell y c (mem e).1
    exact ⟨w, z.keeps kp⟩
  · show H ge.locals = none
    rw [hL]; exact I.hok.fresh (Nat.le_refl _)
  · exact I.freeC y c (mem e).1
  · have hp : p ∈ pn := by simpa using hp
    obtain ⟨h1, h2, h3⟩ := hpn p hp
    refine ⟨h1, I.hok.fresh (Nat.le_of_lt h2), by show p.1 ≠ ge.locals; rw [hL]; exact Nat.ne_of_gt h2, fun z => ?_, h3⟩
    have z : p.1 ∈ frs X.stack := z
    rcases List.mem_cons.mp (I.stkSub p.1 z) with z | z
    · have q := I.lt
      rw [← z] at q
      exact absurd q (Nat.not_lt.mpr (Nat.le_of_lt h2))
    · exact I.nofs (Nat.le_of_lt h2) z
end
/-- meanwhile nothing that stood has changed, but for sc -/
structure Still (sc : List Addr) (s s' : Shared) : Prop where
  os : s'.os = s.os
  bare : AllBare s'.gens
  keep : ∀ b o, b ∉ sc → s.heap.get? b = some o → s'.heap.get? b = some o
  thr : ∀ b ∈ sc, ∃ o, s'.heap.get? b = some o ∧ ∀ v, o.data ≠ .cell v
/-- the consumer's own objects: younger than the frame's beginning, none of its frame's -/
def ScOk (X : Cx) (fp sc : List Addr) : Prop := ∀ b ∈ sc, X.s_0.heap.objs.size ≤ b ∧ b ≠ X.env.locals ∧ (∀ x c, X.env.cells.lookup x = some c → c ≠ b) ∧ (∀ p ∈ X.pn, p.1 ≠ b) ∧ b ∉ fp
theorem Inv.still {X : Cx} {fp sc : List Addr} {σ : L2.St} {H : Hp} {s₀ s s' : Shared} (hs : ScOk X fp sc) (hex : ∀ b ∈ sc, ∃ o, s₀.heap.get? b = some o) (I : Inv X (pinsAt sc s₀.heap) σ H s) (z : Still sc s s') : Inv X (pinsAt sc s'.heap) σ H s' := by
  have pinS : ∀ b ∈ sc, H b = none ∧ b ≠ X.env.locals ∧ b ∉ X.fs := fun b hb => by
    obtain ⟨o, e⟩ := hex b hb
    obtain ⟨_, h2, h3, h4, _⟩ := I.pin (b, o) (List.mem_append_right _ (mem_pinsAt hb e))
    exact ⟨h2, h3, h4⟩
  have I0 : Inv X [] σ H s := I.pins_of fun p hp => absurd hp (by simp)
  have nt : ∀ b u, H b = some u → b ∉ sc := fun b u q hb => by rw [(pinS b hb).1] at q; cases q
  obtain ⟨z1, z2, z3, z4⟩ := z
  obtain ⟨hh, g, d, t, o⟩ := s'
  have ho : o = s.os := z1
  subst ho
  have J : Inv X [] σ H { s with heap := hh, gens := g, drawn := d, toks := t } := by
    refine I0.step (g' := g) (t' := t) (d' := d) (ch := sc) (fun b hb => ?_)
      (fun b ob _ _ hc q _ => z3 b ob hc q) (fun b ob _ _ hc q _ => ⟨ob.slots, z3 b ob hc q⟩) (fun _ _ _ _ n => n) (fun b ob hc q => ⟨ob, z3 b ob hc q⟩)
      (fun _ _ q => q) (fun _ _ _ q => q) (fun b ps q => ⟨#[], by rw [q]; simp⟩) (fun m hm => ?_) (fun b u q => ?_) z2
    · obtain ⟨a1, a2, a3, a4, _⟩ := hs b hb
      exact ⟨.inr a1, a2, a3, fun p hp => a4 p (by simpa using hp)⟩
    · obtain ⟨ob, es, ep, ho, r⟩ := hm
      exact ⟨ob, es, ep, z3 _ ob (fun hb => (pinS _ hb).2.1 rfl) ho, r⟩
    · refine (I0.hok b u q).stay (fun c v hc y => z3 c v ?_ y) (fun _ y => y) fun _ _ y => y
      rcases hc with y | y
      · rw [y]; exact nt b u q
      · exact nt c _ y
  refine J.pins_of fun p hp => ?_
  obtain ⟨hb, e⟩ := of_pinsAt hp
  obtain ⟨h2, h3, h4⟩ := pinS p.1 hb
  obtain ⟨ob, e', hd⟩ := z4 p.1 hb
  have e'' : some p.2 = some ob := e.symm.trans e'
  cases e''
  exact ⟨e, h2, h3, h4, hd⟩
/-- what the walk says: n: how many items may still come, i: the turn, m: a measure -/
def Walk (J : It) (g : TG) (tt : TT) (te : TE) (vs : List Nat) (σ : L2.St) (C : Nat → V → Prop → Hp → Prop) (Qe : Nat → Hp → Prop) (W : Nat → Nat → Nat → Hp → Prop) : Prop := ∀ n i m H, W n i m H →
  (J.stop i H ∧ Qe n H) ∨ (J.go i H ∧ ∃ Nx : Nat → Hp → Prop, (∀ n' H', Nx n' H' → ∃ m', m' < m ∧ W n' (i + 1) m' H') ∧ ∀ x H', J.yld i H x H' → g x (wipe σ vs) H' fun σ2 H2 => wipe σ2 vs = wipe σ vs ∧ tt σ2 H2 fun b H3 =>
    if b = true then te σ2 H3 fun y H4 => ∃ n', n = n' + 1 ∧ C n' y (Nx n' H4) H4 else Nx n H3)
/-- the run's end -/
def GE (X : Cx) (sc : List Addr) (σ : L2.St) (Qe : Nat → Hp → Prop) : GenEnd := fun n s₀ r s1 => ((r = .ok (.ret .none) ∨ r = .ok .next) ∧ ∃ H', Inv X (pinsAt sc s₀.heap) σ H' s1 ∧ Qe n H') ∨ ∃ e, r = .error e ∧ False
/-- an item -/
def GYl (X : Cx) (sc : List Addr) (σ : L2.St) (C : Nat → V → Prop → Hp → Prop) : Protocol := fun n s₀ v s1 kap => ∃ (y : V) (H4 : Hp) (p : Prop), RelV y v ∧ Inv X (pinsAt sc s₀.heap) σ H4 s1 ∧ C n y p H4 ∧ (p → ∀ s', Still sc s1 s' → kap (.send .none) s')
section
variable {X : Cx} {pins : List (Addr × Obj)} {σ : L2.St} {H : Hp} {s : Shared} {scope : Scope} {fp : List Addr} {code : Value} {A : Around} {pn : List (Addr × Obj)}
theorem seg_walk {sc : List Addr} {elt tg iter : Expr} {ifs : List Expr} {pos : Pos} {it : Addr} {tn : Nat → Heap → Prop} {J : It} {g : TG} {tt : TT} {te : TE} {vs : List Nat} {C : Nat → V → Prop → Hp → Prop} {Qe : Nat → Hp → Prop} {W : Nat → Nat → Nat → Hp → Prop} {ge : Env}
    (hc : X.calm = true) (T : Turn X.prog X.w X.K tg J fp it tn) (hpf : ∀ p ∈ pn, p.1 ∉ fp) (hsc : ScOk (gcx X s H ge fp (A.deeper ge) pn) fp sc) (hco : ge.scope.isCoroutine = false)
    (hg : PG (gcx X s H ge fp (A.deeper ge) pn) tg g) (ht : PTs (gcx X s H ge fp (A.deeper ge) pn) ifs tt) (he : PE (gcx X s H ge fp (A.deeper ge) pn) elt te)
    (w : Walk J g tt te vs σ C Qe W) : ∀ (m n i : Nat) (H' : Hp) (s₀ s' : Shared), (∀ b ∈ sc, ∃ o, s₀.heap.get? b = some o) → Inv (gcx X s H ge fp (A.deeper ge) pn) (pinsAt sc s₀.heap) (wipe σ vs) H' s' → tn i s'.heap → (∀ b ∈ fp, H' b = none) → W n i m H' →
      Seg (model X.prog X.w) A (GE (gcx X s H ge fp (A.deeper ge) pn) sc (wipe σ vs) Qe) (GYl (gcx X s H ge fp (A.deeper ge) pn) sc (wipe σ vs) C) n s₀
        (.compLoop (.GeneratorExp elt [⟨tg, iter, ifs, 0⟩] scope pos) 0 (.ref it) .none ge) ((model X.prog X.w).den (.compLoop (.GeneratorExp elt [⟨tg, iter, ifs, 0⟩] scope pos) 0 (.ref it) .none ge)) [] s' := by
  have stat : ∀ {σ' : L2.St} {H' : Hp} {s₀ s' : Shared}, Inv (gcx X s H ge fp (A.deeper ge) pn) (pinsAt sc s₀.heap) σ' H' s' → (∀ b ∈ fp, H' b = none) → ∀ b ∈ fp, FpOk (gcx X s H ge fp (A.deeper ge) pn) (pinsAt sc s₀.heap) H' b := fun {σ' H' s₀ s'} I' hn b hb =>
    ⟨hn b hb, (I'.ok.exf b hb).1, I'.ok.exfs b hb, .inl hb, fun x c e => (I'.ok.exf b hb).2 x c e, fun p hp => by
      rcases List.mem_append.mp hp with hp | hp
      · exact fun e => hpf p hp (by rw [e]; exact hb)
      · exact fun e => (hsc _ (of_pinsAt hp).1).2.2.2.2 (by rw [e]; exact hb)⟩
  have no : ∀ {α : Type} {t : Sem α} {Q Q' : α → Shared → Prop} {E' : Value → Shared → Prop} {s5 : Shared}, wpAny (model X.prog X.w) (A.deeper ge) t Q (fun _ _ => False) s5 → (∀ a s6, Q a s6 → Q' a s6) →
      wpAny (model X.prog X.w) (A.over (.compLoop (.GeneratorExp elt [⟨tg, iter, ifs, 0⟩] scope pos) 0 (.ref it) .none ge) []) t Q' E' s5 := fun {α t Q Q' E' s5} h hQ => by
    rw [over_cl]
    exact wpAny_mono h hQ fun _ _ z => False.elim z
  intro m
  induction m using Nat.strongRecOn with
  | _ m ih =>
    intro n i H' s₀ s' hex I5 st5 n5 w5
    show Seg _ A _ _ _ s₀ _ ((compTurn (.GeneratorExp elt [⟨tg, iter, ifs, 0⟩] scope pos) 0 (.ref it) .none ge).onRaise (leaving ge)) [] s'
    rw [compTurn_gen, Sem.onRaise_eq_wrap]
    refine seg_bind_wrap (wpAny_standAt ?_)
    rcases w n i m H' w5 with ⟨stop, qq⟩ | ⟨go, Nx, hNx, step⟩
    · refine seg_bind_wrap (no (T.done (gcx X s H ge fp (A.deeper ge) pn) rfl rfl rfl hc i _ s' _ H' (fun _ _ => False) I5 (stat I5 n5) st5 stop) fun r s6 ⟨hr, I6⟩ => ?_)
      subst hr
      exact seg_end (.ok .next) (.inl ⟨.inr rfl, H', I6, qq⟩)
    · refine seg_bind_wrap (no (T.item (gcx X s H ge fp (A.deeper ge) pn) rfl rfl rfl hc i _ s' _ H' (fun _ _ => False) I5 (stat I5 n5) st5 go) fun r s6 ⟨u, hr, h6⟩ => ?_)
      subst hr
      refine seg_bind_wrap (no h6 fun _ s7 ⟨x, H7, I7, r7, y7, st7, n7⟩ => ?_)
      have I7' := I7.pinned (stat I7 n7) (T.obj _ _ st7)
      refine seg_bind_wrap (no (hg.run _ s7 _ H7 x u _ I7' r7 (step x H7 y7)) fun _ s8 ⟨σ8, H8, I8, hw8, q8⟩ => ?_)
      refine seg_bind_wrap (no (ht.run _ s8 σ8 H8 _ I8 q8) fun b s9 ⟨H9, I9, q9⟩ => ?_)
      have hl : (wipe σ vs).length = σ8.length := by rw [← hw8, wipe_length]
      have fin : ∀ {s' : Shared} {H' : Hp}, Inv (gcx X s H ge fp (A.deeper ge) pn) (pinsAt sc s₀.heap ++ pinsAt fp s7.heap) σ8 H' s' → Inv (gcx X s H ge fp (A.deeper ge) pn) (pinsAt sc s₀.heap) (wipe σ vs) H' s' ∧ tn (i + 1) s'.heap ∧ (∀ b ∈ fp, H' b = none) := fun {s' H'} I' => by
        have pin' : ∀ b ∈ fp, ∀ o, s7.heap.get? b = some o → s'.heap.get? b = some o ∧ H' b = none := fun b hb o e =>
          let z := I'.pin (b, o) (List.mem_append_right _ (List.mem_append_right _ (mem_pinsAt hb e)))
          ⟨z.1, z.2.1⟩
        refine ⟨(I'.unpinned (pins := pinsAt sc s₀.heap)).weak hl (fun j v e => ?_), T.keep _ _ _ st7 fun b hb o e => (pin' b hb o e).1, fun b hb => ?_⟩
        · rw [← hw8] at e
          exact (wipe_some e).1
        · obtain ⟨o, e, _⟩ := T.obj _ _ st7 b hb
          exact (pin' b hb o e).2
      cases b with
      | false =>
        simp only [Bool.false_eq_true, if_false] at q9 ⊢
        obtain ⟨m', hm, w'⟩ := hNx _ _ q9
        obtain ⟨j1, j2, j3⟩ := fin I9
        exact seg_again rfl (ih m' hm n (i + 1) H9 s₀ s9 hex j1 j2 j3 w')
      | true =>
        simp only [if_true] at q9 ⊢
        have hy : ∀ v, yieldOut ge v = yieldValue v := fun v => by simp only [yieldOut, hco, Bool.false_eq_true, if_false]
        simp only [hy]
        rw [Sem.bind_eq_wrap', Sem.bind_eq_wrap', Sem.wrap_wrap, Sem.wrap_wrap]
        refine seg_wrap (no (he.run _ s9 σ8 H9 _ I9 q9) fun v s10 ⟨y, H10, I10, r10, n', hn, hC⟩ => ?_)
        subst hn
        obtain ⟨j1, j2, j3⟩ := fin I10
        refine seg_at (seg_yield rfl rfl rfl ⟨y, H10, _, r10, j1, hC, fun nx s'' hs => ?_⟩)
        obtain ⟨m', hm, w'⟩ := hNx _ _ nx
        exact seg_again rfl (ih m' hm n' (i + 1) H10 s'' s'' (fun b hb => let ⟨o, e, _⟩ := hs.thr b hb; ⟨o, e⟩) (Gx.Inv.still hsc hex j1 hs) (T.keep _ _ _ j2 fun b hb o e => hs.keep b o (fun hb' => (hsc b hb').2.2.2.2 hb) e) j3 w')
theorem seg_start {sc : List Addr} {elt tg iter : Expr} {ifs : List Expr} {pos : Pos} {it : Addr} {tn : Nat → Heap → Prop} {J : It} {g : TG} {tt : TT} {te : TE} {vs : List Nat} {C : Nat → V → Prop → Hp → Prop} {Qe : Nat → Hp → Prop} {W : Nat → Nat → Nat → Hp → Prop} {ge : Env}
    (hc : X.calm = true) (T : Turn X.prog X.w X.K tg J fp it tn) (hpf : ∀ p ∈ pn, p.1 ∉ fp) (hsc : ScOk (gcx X s H ge fp (A.deeper ge) pn) fp sc) (hco : ge.scope.isCoroutine = false)
    (hg : PG (gcx X s H ge fp (A.deeper ge) pn) tg g) (ht : PTs (gcx X s H ge fp (A.deeper ge) pn) ifs tt) (he : PE (gcx X s H ge fp (A.deeper ge) pn) elt te)
    (w : Walk J g tt te vs σ C Qe W) (m n i : Nat) (H' : Hp) (s₀ s' : Shared) (hex : ∀ b ∈ sc, ∃ o, s₀.heap.get? b = some o) (I : Inv (gcx X s H ge fp (A.deeper ge) pn) (pinsAt sc s₀.heap) (wipe σ vs) H' s') (st : tn i s'.heap) (hn : ∀ b ∈ fp, H' b = none) (w0 : W n i m H') :
      Seg (model X.prog X.w) A (GE (gcx X s H ge fp (A.deeper ge) pn) sc (wipe σ vs) Qe) (GYl (gcx X s H ge fp (A.deeper ge) pn) sc (wipe σ vs) C) n s₀
        (.compStart (.GeneratorExp elt [⟨tg, iter, ifs, 0⟩] scope pos) 0 (.ref it) .none ge) ((model X.prog X.w).den (.compStart (.GeneratorExp elt [⟨tg, iter, ifs, 0⟩] scope pos) 0 (.ref it) .none ge)) [] s' := by
  have loop := seg_walk (elt := elt) (iter := iter) (scope := scope) (pos := pos) hc T hpf hsc hco hg ht he w m n i H' s₀ s' hex I st hn w0
  show Seg _ A _ _ _ s₀ _ ((compStart (.GeneratorExp elt [⟨tg, iter, ifs, 0⟩] scope pos) 0 (.ref it) .none ge).onRaise (leaving ge)) [] s'
  unfold compStart
  rw [Sem.onRaise_eq_wrap]
  show Seg _ A _ _ _ s₀ _ ((ask >>= _).wrap _ _ _ _) [] s'
  refine seg_bind_wrap (wpAny_askSetting ?_)
  split
  · exact seg_again rfl loop
  · first
      | exact seg_bind_wrap (wpAny_rule (seg_bind_wrap (wpAny_standAt (seg_bind_wrap (T.self _ i s' _ _ st (seg_again rfl loop))))))
      | (refine seg_bind_wrap (wpAny_rule ?_); show Seg _ A _ _ _ s₀ _ ((standAt iter.pos >>= _).wrap _ _ _ _) [] s'; exact seg_bind_wrap (wpAny_standAt (seg_bind_wrap (T.self _ i s' _ _ st (seg_again rfl loop)))))
end
/-! ### all and any -/
/-- the consumer: b: at this answer it stops -/
def Cb (stop : Bool) (Qs : Hp → Prop) : Nat → V → Prop → Hp → Prop := fun _ y p H => ∃ b, y = .bl b ∧ if b = stop then Qs H else p
section
variable {X : Cx} {σ : L2.St} {A : Around} {R : Result → Shared → Prop} {a : Addr} {g : Nat} {Qs : Hp → Prop} {Qe : Nat → Hp → Prop}
/-- the generator at a, with this state, sleeps -/
def Slp (X : Cx) (sc : List Addr) (σ : L2.St) (B : Around) (a : Addr) (g : Nat) (C : Nat → V → Prop → Hp → Prop) (Qe : Nat → Hp → Prop) (n : Nat) (s : Shared) : Prop :=
  s.heap.IsGen a g ∧ s.heap.NoLimit ∧ (∀ b ∈ sc, ∃ o, s.heap.get? b = some o) ∧ ∃ gs, s.gens[g]? = some gs ∧ gs.Goes (model X.prog X.w) B (GE X sc σ Qe) (GYl X sc σ C) n (.send .none) (s.setGen g .running)
/-- the next item -/
theorem next_walk {fp sc : List Addr} {C : Nat → V → Prop → Hp → Prop} {n : Nat} {s : Shared} {Q : Option Value → Shared → Prop} {E : Value → Shared → Prop} (hsc : ScOk X fp sc) (hh : A.handled = none) (hroom : A.depth < recursionLimit) (z : Slp X sc σ A.in1 a g C Qe n s)
    (hpn : ∀ h : Heap, (∀ p ∈ X.pn, h.get? p.1 = some p.2) → h.IsGen a g)
    (hY : ∀ (v : Value) (y : V) (H4 : Hp) (p : Prop) (s1 : Shared), RelV y v → Inv X (pinsAt sc s.heap) σ H4 s1 → C (n - 1) y p H4 → (p → ∃ n', n = n' + 1 ∧ ∀ s2, Still sc s1 s2 → s2.gens = s1.gens → Slp X sc σ A.in1 a g C Qe n' s2) → Q (some v) s1)
    (hP : ∀ (H' : Hp) (s1 : Shared), Inv X (pinsAt sc s.heap) σ H' s1 → Qe n H' → Q none s1) : wpAny (model X.prog X.w) A (pyNext (.ref a)) Q E s := by
  obtain ⟨hg, hl, hex, gs, hgs, hgo⟩ := z
  have hgl : g < s.gens.size := (Array.getElem?_eq_some_iff.mp hgs).1
  refine wpAny_gsz (n := g + 1) hgl (next_genG (F := fun n s₀ s1 => ∃ H', Inv X (pinsAt sc s₀.heap) σ H' s1 ∧ Qe n H') (Er := fun _ _ => False) hh hl hroom hg hgs hgo (fun v s₁ gs' hbare hv => ?_) (fun s₁ hp h' hk => ?_) fun e s₁ he => he.elim)
  · intro hsz
    obtain ⟨y, H4, p, ry, I, hC, hk⟩ := hv
    have I : Inv X (pinsAt sc s.heap) σ H4 s₁ := I
    have hsz1 : g < s₁.gens.size := by
      have q : (s₁.setGen g gs').gens.size = s₁.gens.size := setGen_size _ _ _
      have hsz' : g + 1 ≤ (s₁.setGen g gs').gens.size := hsz
      omega
    have I2 : Inv X (pinsAt sc s.heap) σ H4 (s₁.setGen g gs') := I.call' (ch := []) (s' := s₁.setGen g gs') rfl (Un.kept fun b o e => e) (I.hok.kept fun b o e => e) (allBare_setGen I.bare hbare) fun b h => absurd h (by simp)
    refine hY v y H4 p _ ry I2 hC fun hp => ?_
    have go := hk hp
    cases n with
    | zero =>
      exact (go s₁ ⟨rfl, I.bare, fun b o _ e => e, fun b hb => by
        obtain ⟨o, e⟩ := hex b hb
        obtain ⟨h1, _, _, _, h5⟩ := I.pin (b, o) (List.mem_append_right _ (mem_pinsAt hb e))
        exact ⟨o, h1, h5⟩⟩).elim
    | succ n =>
      refine ⟨n, rfl, fun s2 st hg2 => ?_⟩
      have I3 : Inv X (pinsAt sc s2.heap) σ H4 s2 := Gx.Inv.still hsc hex I2 st
      refine ⟨hpn _ fun q hq => (I3.pin q (List.mem_append_left _ hq)).1, I3.nolimit, fun b hb => let ⟨o, e, _⟩ := st.thr b hb; ⟨o, e⟩, gs', by rw [hg2]; exact setGen_at hsz1, ?_⟩
      exact go (s2.setGen g .running) ⟨st.os, allBare_setGen st.bare rfl, st.keep, st.thr⟩
  · intro _
    obtain ⟨H', I, hQ⟩ := hp
    exact hP H' _ (I.call' (ch := []) (s' := { s₁.setGen g .finished with heap := h' }) rfl (Un.kept hk) (I.hok.kept hk) (allBare_setGen I.bare rfl) fun b h => absurd h (by simp)) hQ
theorem all_walk (hh : A.handled = none) (hd : A.depth < recursionLimit) (hpn : ∀ h : Heap, (∀ p ∈ X.pn, h.get? p.1 = some p.2) → h.IsGen a g)
    (hstop : ∀ (H' : Hp) (s1 : Shared), Inv X [] σ H' s1 → Qs H' → R (.ok (.ret (.bool false))) s1) (hend : ∀ (n : Nat) (H' : Hp) (s1 : Shared), Inv X [] σ H' s1 → Qe n H' → R (.ok (.ret (.bool true))) s1) :
    ∀ (n : Nat) (s : Shared), Slp X [] σ A.in1.in1 a g (Cb false Qs) Qe n s → codeAny (model X.prog X.w) A (.builtin "all.loop" ⟨[.ref a], []⟩) R s := by
  intro n
  induction n using Nat.strongRecOn with
  | _ n ih =>
    intro s z
    refine codeAny_builtin F.entry_all_loop ?_
    rw [Around.under_plainId F.plain_all_loop _]
    show wpAny _ A.in1 (pyNext (.ref a) >>= _) _ _ s
    refine wpAny_bind (next_walk (A := A.in1) (fp := []) (sc := []) (fun b hb => absurd hb (by simp)) hh hd z hpn (fun v y H4 p s1 ry I hC hp => ?_) fun H' s1 I hQ => ?_)
    · obtain ⟨b, rfl, hb⟩ := hC
      cases (show v = .bool b from ry)
      refine wpAny_bind (wpAny_holding (wpAny_truthy_bool ?_))
      refine wpAny_bind (wpAny_letGo ?_)
      cases b with
      | true =>
        obtain ⟨n', e, z'⟩ := hp hb
        simp only [if_true]
        exact wpAny_pure ⟨plainId_quiet F.plain_all_loop _, ih n' (by omega) s1 (z' s1 ⟨rfl, I.bare, fun b o _ e => e, fun b hb => absurd hb (by simp)⟩ rfl)⟩
      | false =>
        simp only [Bool.false_eq_true, if_false]
        exact wpAny_bind (wpAny_rule (wpAny_pure (hstop H4 s1 I hb)))
    · exact wpAny_bind (wpAny_rule (wpAny_pure (hend _ H' s1 I hQ)))
theorem any_walk (hh : A.handled = none) (hd : A.depth < recursionLimit) (hpn : ∀ h : Heap, (∀ p ∈ X.pn, h.get? p.1 = some p.2) → h.IsGen a g)
    (hstop : ∀ (H' : Hp) (s1 : Shared), Inv X [] σ H' s1 → Qs H' → R (.ok (.ret (.bool true))) s1) (hend : ∀ (n : Nat) (H' : Hp) (s1 : Shared), Inv X [] σ H' s1 → Qe n H' → R (.ok (.ret (.bool false))) s1) :
    ∀ (n : Nat) (s : Shared), Slp X [] σ A.in1.in1 a g (Cb true Qs) Qe n s → codeAny (model X.prog X.w) A (.builtin "any.loop" ⟨[.ref a], []⟩) R s := by
  intro n
  induction n using Nat.strongRecOn with
  | _ n ih =>
    intro s z
    refine codeAny_builtin F.entry_any_loop ?_
    rw [Around.under_plainId F.plain_any_loop _]
    show wpAny _ A.in1 (pyNext (.ref a) >>= _) _ _ s
    refine wpAny_bind (next_walk (A := A.in1) (fp := []) (sc := []) (fun b hb => absurd hb (by simp)) hh hd z hpn (fun v y H4 p s1 ry I hC hp => ?_) fun H' s1 I hQ => ?_)
    · obtain ⟨b, rfl, hb⟩ := hC
      cases (show v = .bool b from ry)
      refine wpAny_bind (wpAny_holding (wpAny_truthy_bool ?_))
      refine wpAny_bind (wpAny_letGo ?_)
      cases b with
      | false =>
        obtain ⟨n', e, z'⟩ := hp hb
        simp only [Bool.false_eq_true, if_false]
        exact wpAny_pure ⟨plainId_quiet F.plain_any_loop _, ih n' (by omega) s1 (z' s1 ⟨rfl, I.bare, fun b o _ e => e, fun b hb => absurd hb (by simp)⟩ rfl)⟩
      | true =>
        simp only [if_true]
        exact wpAny_bind (wpAny_rule (wpAny_pure (hstop H4 s1 I hb)))
    · exact wpAny_bind (wpAny_rule (wpAny_pure (hend _ H' s1 I hQ)))
end
/-! ### it is made -/
section
variable {X : Cx} {pins : List (Addr × Obj)} {σ : L2.St} {H : Hp} {s : Shared}
theorem gen_mk {c P : Addr} {elt tg iter : Expr} {ifs : List Expr} {gpos : Pos} {scope : Scope} {own : List (Str × Nat)} {wi : TI} {k : Nat} {Q' : Value → Shared → Prop} {R : It → Hp → Prop}
    (hr : Room k X.A) (TB : GxR.TabB X.base X.mg c P) (hc : X.env.code = .ref c) (ok : BlkOk X.N X.env.scope scope own) (hco : scope.isCoroutine = false) (hcell : ∀ y ∈ scope.names, y.2 ≠ .cell) (hdot : scope.names.lookup (".0" : Str) = some NameKind.local)
    (hi : PI X tg iter wi) (hs : ∀ v, genFold iter X.env v = pure v) (I : Inv X pins σ H s) (h : wi σ H fun J H1 => GxR.TabG H1 P ∧ R J H1)
    (kk : ∀ (J : It) (H1 H2 : Hp) (it : Addr) (fp : List Addr) (tn : Nat → Heap → Prop) (code : Value) (s4 s5 : Shared) (a gn : Nat) (go : Obj) (m : Str → Option Value), R J H1 → GxR.Tabbed P H1 H2 → Inv X pins σ H2 s4 → Turn X.prog X.w X.K tg J fp it tn → tn 0 s4.heap →
      (∀ b ∈ fp, FpOk X pins H2 b ∧ b < s4.heap.objs.size) → s5.os = s4.os → (∀ b o, s4.heap.get? b = some o → s5.heap.get? b = some o) → AllBare s5.gens → s5.heap.Ns s4.heap.objs.size m → s5.heap.get? a = some go → s4.heap.objs.size < a →
      (∀ v, go.data ≠ .cell v) → (∀ h : Heap, h.get? a = some go → h.IsGen a gn) → s5.gens[gn]? = some (.fresh (.compStart (.GeneratorExp elt [⟨tg, iter, ifs, 0⟩] scope gpos) 0 (.ref it) .none (gen X scope s4.heap.objs.size code))) → Q' (.ref a) s5) :
    wpAny (model X.prog X.w) X.A (eval (.GeneratorExp elt [⟨tg, iter, ifs, 0⟩] scope gpos) X.env) Q' X.xe s := by
  have hfree : ∀ y ∈ scope.names, y.2 = .free → ∃ c, X.env.cells.lookup y.1 = some c := fun y hy e => by
    rcases ok.free y hy e with k | k
    · exact I.ok.has _ (.inl k)
    · exact I.ok.has _ (.inr k)
  refine wpAny_GeneratorExp_make hco (closure_ok hfree) hcell hdot ok.kind (by have := hr.dp; omega) ?_ hs
  refine thn (hi.run pins s σ H _ I h) fun xv s1 hx => thn hx fun itv s2 h2 => ?_
  obtain ⟨it, fp, tn, J, H1, e, I1, T, st1, f1, ⟨ps, hP, hT⟩, hR⟩ := h2
  subst e
  refine ⟨I1.nolimit, ?_⟩
  have hPo : s2.heap.get? P = some (W.tabObj ps) := by
    have := I1.hok P _ hP
    simpa only [L2.ObjOk] using this
  have bk := I1.bk
  have hd2 : W.CodeHd s2.heap c P := TB.code.keeps fun b o e => bk b o e
  have sz : ∀ b ∈ fp, b < s2.heap.objs.size := fun b hb => by
    obtain ⟨o, e, _⟩ := T.obj _ _ st1 b hb
    exact Heap.lt_size e
  have nP : ∀ b ∈ fp, b ≠ P := fun b hb e => by
    have := (f1 b hb).1
    rw [e, hP] at this
    cases this
  have fin : ∀ (code : Value) (h3 : Heap) (tk : Nat) (more : Array Value), Heap.ExtBut P s2.heap h3 → h3.get? P = some (W.tabObj (ps ++ more)) → TriplesOk (ps ++ more).toList → s2.heap.objs.size ≤ h3.objs.size →
      wpAny (model X.prog X.w) X.A (builtinsFor X.env.globals X.env.builtins) (fun bi s₄ =>
        ∀ h', h'.Ns s₄.heap.objs.size (fun y => if y = ".0" then some (Value.ref it) else none) → Heap.SameBut s₄.heap.objs.size (s₄.heap.push { cls := .type "frame", data := .dict #[] }) h' →
          Q' (.ref h'.objs.size) { s₄ with
            gens := s₄.gens.push (.fresh (.compStart (.GeneratorExp elt [⟨tg, iter, ifs, 0⟩] scope gpos) 0 (.ref it) .none (genEnv scope (cloFrom X.env.cells scope.names []) s₄.heap.objs.size code bi X.env))),
            toks := s₄.toks + 1 + 1 + 1,
            heap := h'.push { cls := .type "generator", data := .fields #[.int s₄.gens.size 0, .str "<genexpr>" (s₄.toks + 1), .str (X.env.qual ++ "<genexpr>") (s₄.toks + 1 + 1)] } }) X.xe { heap := h3, gens := s2.gens, drawn := s2.drawn, toks := tk, os := s2.os } := by
    intro code h3 tk more ext getP3 hT3 szz
    have keep3 : ∀ b o, b ≠ P → s2.heap.get? b = some o → h3.get? b = some o := fun b o n e => ext b o n e
    obtain ⟨bm, obm, b1, b2, b3, b4, b5, b6, b7, b8⟩ := TB.bm
    have gns : h3.Ns X.env.globals X.mg := by
      rw [I1.ok.glob]
      exact (I1.mod.glob.keeps bk).extBut ext TB.gP
    refine wpAny_builtinsFor gns b1 b2 (keep3 _ _ b4 (bk _ _ b5)) b6 b7 b8 ?_
    intro h' hn' hs'
    have i3 := GxR.inv_tab (P := P) (ps := ps) (more := more) (h' := h3) (g' := s2.gens) (d' := s2.drawn) (t' := tk) I1 hP (fun b o n e => keep3 b o n e) getP3 I1.bare
    have hsz' : h'.objs.size = h3.objs.size + 1 := by
      rw [hs'.1, Heap.size_push]
    have keep' : ∀ b o, h3.get? b = some o → h'.get? b = some o := fun b o e => hs'.extBut b o (Nat.ne_of_lt (Heap.lt_size e)) (Heap.get?_push_of_some _ e)
    refine kk J H1 _ it fp tn code { heap := h3, gens := s2.gens, drawn := s2.drawn, toks := tk, os := s2.os } _ h'.objs.size s2.gens.size _ _ hR ⟨⟨_, L2.upd_same, hT3⟩, fun b n => L2.upd_ne n⟩ i3 T
      (T.keep _ _ _ st1 fun b hb o e => keep3 b o (nP b hb) e) (fun b hb => ⟨⟨by rw [L2.upd_ne (nP b hb)]; exact (f1 b hb).1, (f1 b hb).2⟩, Nat.lt_of_lt_of_le (sz b hb) szz⟩) rfl
      (fun b o e => Heap.get?_push_of_some _ (keep' b o e)) (I1.bare.push rfl) (hn'.keeps fun b o e => Heap.get?_push_of_some _ e) (Heap.get?_push_size _ rfl) (by rw [hsz']; exact Nat.lt_succ_self _) (fun v q => by cases q)
      (fun h e => ⟨_, _, _, e, rfl, rfl, rfl⟩) (Array.getElem?_push_size ..)
  cases hcm : codeAmong gpos ps.toList with
  | some cv =>
    refine wpAny_genexprCode_hit hc (hd2.code hPo hT) hcm ?_
    exact fin cv s2.heap _ #[] (Heap.ExtBut.refl P s2.heap) (by simpa using hPo) (by simpa using hT) (Nat.le_refl _)
  | none =>
    refine wpAny_genexprCodeX hc (hd2.code hPo hT) (hd2.tab hPo) hcm ?_
    intro c' h' tk ext hle hlt hcode _ htab _
    obtain ⟨o, vs, file, tf, flags, tg, inF, text, tt, op, _, _, _, _, _, _, _, _, _, tr, _⟩ := id hcode
    exact fin (.ref c') h' tk _ ext htab.2 tr (Nat.le_trans hle (Nat.le_of_lt hlt))
end
/-! ### the expressions all(..), any(..) -/
def tAA (P : Addr) (wi : TI) (g : TG) (tt : TT) (te : TE) (vs : List Nat) (stop : Bool) : TE := fun σ H Q => wi σ H fun J H1 => GxR.TabG H1 P ∧ ∀ H2, GxR.Tabbed P H1 H2 →
  ∃ (W : Nat → Nat → Nat → Hp → Prop) (Qe : Nat → Hp → Prop) (n m : Nat), Walk J g tt te vs σ (Cb stop (Q (.bl stop))) Qe W ∧ W n 0 m H2 ∧ ∀ n H', Qe n H' → Q (.bl (!stop)) H'
section
variable {X : Cx}
theorem pe_allG {c P : Addr} {elt tg iter : Expr} {ifs : List Expr} {p pos gpos : Pos} {scope : Scope} {own : List (Str × Nat)} {k : Nat} {wi : TI} {g : TG} {tt : TT} {te : TE}
    (hcalm : X.calm = true) (hN : X.N.Nodup) (hr : Room (k + 1) X.A) (hg : Gl X "all") (hm : X.mg "all" = none) (TB : GxR.TabB X.base X.mg c P) (hc : X.env.code = .ref c) (ok : BlkOk X.N X.env.scope scope own) (hco : scope.isCoroutine = false) (hcell : ∀ y ∈ scope.names, y.2 ≠ .cell)
    (hdot : scope.names.lookup (".0" : Str) = some NameKind.local) (hi : PI X tg iter wi)
    (hG : ∀ (s : Shared) (H : Hp) (C : Addr) (code : Value) (fp : List Addr) (A : Around) (pn : List (Addr × Obj)), Room k A → PG (gcx X s H (gen X scope C code) fp A pn) tg g)
    (hT : ∀ (s : Shared) (H : Hp) (C : Addr) (code : Value) (fp : List Addr) (A : Around) (pn : List (Addr × Obj)), Room k A → PTs (gcx X s H (gen X scope C code) fp A pn) ifs tt)
    (hE : ∀ (s : Shared) (H : Hp) (C : Addr) (code : Value) (fp : List Addr) (A : Around) (pn : List (Addr × Obj)), Room k A → PE (gcx X s H (gen X scope C code) fp A pn) elt te)
    (hs : ∀ v, genFold iter X.env v = pure v := by intro _; rfl)
    (st : starEach [Expr.GeneratorExp elt [⟨tg, iter, ifs, 0⟩] scope gpos] X.env = (false, eval (Expr.GeneratorExp elt [⟨tg, iter, ifs, 0⟩] scope gpos) X.env) :: starEach [] X.env := by rfl) :
    PE X (.Call (.Name "all" p) [.GeneratorExp elt [⟨tg, iter, ifs, 0⟩] scope gpos] [] pos) (tAA P wi g tt te (own.map (·.2)) false) := by
  refine ⟨fun pins s σ H Q I h => ?_⟩
  refine wpAny_Call_Name_kw ?_
  refine L2.ld_blt I hg hm (u := .builtin "all") (by decide +kernel) ?_
  refine PyProof.Rows.callWith_builtin1 ?_ st
  refine Calls.spliced_cons ?_
  refine gen_mk (R := fun J H1 => ∀ H2, GxR.Tabbed P H1 H2 → ∃ (W : Nat → Nat → Nat → Hp → Prop) (Qe : Nat → Hp → Prop) (n m : Nat), Walk J g tt te (own.map (fun q : Str × Nat => q.2)) σ (Cb false (Q (.bl false))) Qe W ∧ W n 0 m H2 ∧ ∀ n H', Qe n H' → Q (.bl (!false)) H') hr TB hc ok hco hcell hdot hi hs I h ?_
  intro J H1 H2 it fp tn code s4 s5 a gn go m hR tb I4 T st4 f4 os5 kp5 b5 ns5 ga5 la5 cell5 gen5 gs5
  refine Calls.spliced_nil ?_
  obtain ⟨W, Qe, n, m0, w, w0, hend⟩ := hR H2 tb
  have hrA : Room k ((X.A.in1.in1).deeper (gen X scope s4.heap.objs.size code)) := ⟨hr.hd, by have := hr.dp; show X.A.depth + 1 + 3 * k + 5 < _; omega, by have := hr.un; show X.A.units + 1 + 1 + 3 + 16 * k + 200 < _; omega⟩
  have nfp : a ∉ fp := fun hb => absurd (f4 a hb).2 (Nat.lt_asymm la5)
  have out : ∀ (H' : Hp) (s1 : Shared), Inv (gcx X s4 H2 (gen X scope s4.heap.objs.size code) fp ((X.A.in1.in1).deeper (gen X scope s4.heap.objs.size code)) [(a, go)]) [] (wipe σ (own.map (·.2))) H' s1 → Inv X pins σ H' s1 := fun H' s1 Ii =>
    I4.call' (ch := fp) Ii.os Ii.base Ii.hok Ii.bare fun b hb => ⟨(f4 b hb).1.2.2.2.1, (f4 b hb).1.2.1, (f4 b hb).1.2.2.2.2.1, (f4 b hb).1.2.2.2.2.2⟩
  have I5 : Inv (gcx X s4 H2 (gen X scope s4.heap.objs.size code) fp ((X.A.in1.in1).deeper (gen X scope s4.heap.objs.size code)) [(a, go)]) [] (wipe σ (own.map (·.2))) H2 (s5.setGen gn .running) :=
    gen_start I4 ok hN hcell f4 (Around.frames_deeper I4.ok.frames) hr.hd os5 kp5 (allBare_setGen b5 rfl) ns5 fun q hq => by
      rw [List.mem_singleton.mp hq]
      exact ⟨ga5, la5, cell5⟩
  refine call_function_tree F.kind_all F.plain_all F.entry_all (F.args_all1 _) ?_
  unfold Builtin.«all»
  refine wpAny_bind (m := oneArg "all" _) (wpAny_pure ?_)
  refine wpAny_bind (wpAny_pyIter_gen (gen5 _ ga5) ?_)
  refine wpAny_pure ⟨plainId_quiet F.plain_all_loop _, all_walk (X := gcx X s4 H2 (gen X scope s4.heap.objs.size code) fp ((X.A.in1.in1).deeper (gen X scope s4.heap.objs.size code)) [(a, go)]) (σ := wipe σ (own.map (·.2))) (g := gn) (Qs := Q (.bl false)) (Qe := Qe) hr.hd
    (by have := hr.dp; omega) (fun h hp => gen5 h (hp (a, go) (List.mem_singleton.mpr rfl))) (fun H' s1 Ii q => ⟨.bl false, H', out H' s1 Ii, rfl, q⟩) (fun n H' s1 Ii q => ⟨.bl (!false), H', out H' s1 Ii, rfl, hend n H' q⟩) n s5 ⟨gen5 _ ga5, I5.nolimit, (fun b hb => absurd hb (by simp)), _, gs5, rfl, ?_⟩⟩
  exact seg_start (X := X) (sc := []) hcalm T (fun q hq => by rw [List.mem_singleton.mp hq]; exact nfp) (fun b hb => absurd hb (by simp)) hco (hG _ _ _ _ _ _ _ hrA) (hT _ _ _ _ _ _ _ hrA) (hE _ _ _ _ _ _ _ hrA) w m0 n 0 H2 _ _ (fun b hb => absurd hb (by simp)) I5 (T.keep _ _ _ st4 fun b _ o e => kp5 b o e) (fun b hb => (f4 b hb).1.1) w0
theorem pe_anyG {c P : Addr} {elt tg iter : Expr} {ifs : List Expr} {p pos gpos : Pos} {scope : Scope} {own : List (Str × Nat)} {k : Nat} {wi : TI} {g : TG} {tt : TT} {te : TE}
    (hcalm : X.calm = true) (hN : X.N.Nodup) (hr : Room (k + 1) X.A) (hg : Gl X "any") (hm : X.mg "any" = none) (TB : GxR.TabB X.base X.mg c P) (hc : X.env.code = .ref c) (ok : BlkOk X.N X.env.scope scope own) (hco : scope.isCoroutine = false) (hcell : ∀ y ∈ scope.names, y.2 ≠ .cell)
    (hdot : scope.names.lookup (".0" : Str) = some NameKind.local) (hi : PI X tg iter wi)
    (hG : ∀ (s : Shared) (H : Hp) (C : Addr) (code : Value) (fp : List Addr) (A : Around) (pn : List (Addr × Obj)), Room k A → PG (gcx X s H (gen X scope C code) fp A pn) tg g)
    (hT : ∀ (s : Shared) (H : Hp) (C : Addr) (code : Value) (fp : List Addr) (A : Around) (pn : List (Addr × Obj)), Room k A → PTs (gcx X s H (gen X scope C code) fp A pn) ifs tt)
    (hE : ∀ (s : Shared) (H : Hp) (C : Addr) (code : Value) (fp : List Addr) (A : Around) (pn : List (Addr × Obj)), Room k A → PE (gcx X s H (gen X scope C code) fp A pn) elt te)
    (hs : ∀ v, genFold iter X.env v = pure v := by intro _; rfl)
    (st : starEach [Expr.GeneratorExp elt [⟨tg, iter, ifs, 0⟩] scope gpos] X.env = (false, eval (Expr.GeneratorExp elt [⟨tg, iter, ifs, 0⟩] scope gpos) X.env) :: starEach [] X.env := by rfl) :
    PE X (.Call (.Name "any" p) [.GeneratorExp elt [⟨tg, iter, ifs, 0⟩] scope gpos] [] pos) (tAA P wi g tt te (own.map (·.2)) true) := by
  refine ⟨fun pins s σ H Q I h => ?_⟩
  refine wpAny_Call_Name_kw ?_
  refine L2.ld_blt I hg hm (u := .builtin "any") (by decide +kernel) ?_
  refine PyProof.Rows.callWith_builtin1 ?_ st
  refine Calls.spliced_cons ?_
  refine gen_mk (R := fun J H1 => ∀ H2, GxR.Tabbed P H1 H2 → ∃ (W : Nat → Nat → Nat → Hp → Prop) (Qe : Nat → Hp → Prop) (n m : Nat), Walk J g tt te (own.map (fun q : Str × Nat => q.2)) σ (Cb true (Q (.bl true))) Qe W ∧ W n 0 m H2 ∧ ∀ n H', Qe n H' → Q (.bl (!true)) H') hr TB hc ok hco hcell hdot hi hs I h ?_
  intro J H1 H2 it fp tn code s4 s5 a gn go m hR tb I4 T st4 f4 os5 kp5 b5 ns5 ga5 la5 cell5 gen5 gs5
  refine Calls.spliced_nil ?_
  obtain ⟨W, Qe, n, m0, w, w0, hend⟩ := hR H2 tb
  have hrA : Room k ((X.A.in1.in1).deeper (gen X scope s4.heap.objs.size code)) := ⟨hr.hd, by have := hr.dp; show X.A.depth + 1 + 3 * k + 5 < _; omega, by have := hr.un; show X.A.units + 1 + 1 + 3 + 16 * k + 200 < _; omega⟩
  have nfp : a ∉ fp := fun hb => absurd (f4 a hb).2 (Nat.lt_asymm la5)
  have out : ∀ (H' : Hp) (s1 : Shared), Inv (gcx X s4 H2 (gen X scope s4.heap.objs.size code) fp ((X.A.in1.in1).deeper (gen X scope s4.heap.objs.size code)) [(a, go)]) [] (wipe σ (own.map (·.2))) H' s1 → Inv X pins σ H' s1 := fun H' s1 Ii =>
    I4.call' (ch := fp) Ii.os Ii.base Ii.hok Ii.bare fun b hb => ⟨(f4 b hb).1.2.2.2.1, (f4 b hb).1.2.1, (f4 b hb).1.2.2.2.2.1, (f4 b hb).1.2.2.2.2.2⟩
  have I5 : Inv (gcx X s4 H2 (gen X scope s4.heap.objs.size code) fp ((X.A.in1.in1).deeper (gen X scope s4.heap.objs.size code)) [(a, go)]) [] (wipe σ (own.map (·.2))) H2 (s5.setGen gn .running) :=
    gen_start I4 ok hN hcell f4 (Around.frames_deeper I4.ok.frames) hr.hd os5 kp5 (allBare_setGen b5 rfl) ns5 fun q hq => by
      rw [List.mem_singleton.mp hq]
      exact ⟨ga5, la5, cell5⟩
  refine call_function_tree F.kind_any F.plain_any F.entry_any (F.args_any1 _) ?_
  unfold Builtin.«any»
  refine wpAny_bind (m := oneArg "any" _) (wpAny_pure ?_)
  refine wpAny_bind (wpAny_pyIter_gen (gen5 _ ga5) ?_)
  refine wpAny_pure ⟨plainId_quiet F.plain_any_loop _, any_walk (X := gcx X s4 H2 (gen X scope s4.heap.objs.size code) fp ((X.A.in1.in1).deeper (gen X scope s4.heap.objs.size code)) [(a, go)]) (σ := wipe σ (own.map (·.2))) (g := gn) (Qs := Q (.bl true)) (Qe := Qe) hr.hd
    (by have := hr.dp; omega) (fun h hp => gen5 h (hp (a, go) (List.mem_singleton.mpr rfl))) (fun H' s1 Ii q => ⟨.bl true, H', out H' s1 Ii, rfl, q⟩) (fun n H' s1 Ii q => ⟨.bl (!true), H', out H' s1 Ii, rfl, hend n H' q⟩) n s5 ⟨gen5 _ ga5, I5.nolimit, (fun b hb => absurd hb (by simp)), _, gs5, rfl, ?_⟩⟩
  exact seg_start (X := X) (sc := []) hcalm T (fun q hq => by rw [List.mem_singleton.mp hq]; exact nfp) (fun b hb => absurd hb (by simp)) hco (hG _ _ _ _ _ _ _ hrA) (hT _ _ _ _ _ _ _ hrA) (hE _ _ _ _ _ _ _ hrA) w m0 n 0 H2 _ _ (fun b hb => absurd hb (by simp)) I5 (T.keep _ _ _ st4 fun b _ o e => kp5 b o e) (fun b hb => (f4 b hb).1.1) w0
end
end Gx
namespace Pm
open PySem L2
/-! ### all(..), any(..) of a generator expression -/
open Classical in
/-- stop: at this answer it ends -/
noncomputable def gaGo (stop : Bool) (raw : List (Nat × MO)) (t : MG) (tt : MT) (te : ME) (vs : List Nat) (ρ : PSt) : List PV → Sto → Rs PV
  | [], S => if Chk raw S then .ok (.bl (!stop)) S else .bad
  | x :: xs, S => if Chk raw S then match t x S with
    | some l => if (∀ p ∈ l, p.1 ∈ vs) then
        (tt (setl (wipeP ρ vs) l) S).sb fun b S1 => if b = true then (te (setl (wipeP ρ vs) l) S1).sb fun y S2 => match y with
          | .bl c => if c = stop then .ok (.bl stop) S2 else gaGo stop raw t tt te vs ρ xs S2
          | _ => .bad
        else gaGo stop raw t tt te vs ρ xs S1
      else .bad
    | none => .bad
    else .bad
noncomputable def mGA (stop : Bool) (mi : MI) (t : MG) (tt : MT) (te : ME) (vs : List Nat) : ME := fun ρ S => (mi ρ S).bind fun it S1 => gaGo stop it.raw t tt te vs ρ it.items S1
section
variable {X : Cx} {g : Sg} {W : WX} {a b c e tg iter elt : Expr} {es : List Expr} {m ma mb mc : ME} {mi : MI} {t : MG} {mt : MT} {pos p : Pos}
theorem ga_le {wi : TI} {own : List Nat} {P : Addr} {stop : Bool} (hP : P ∈ g.tabs) (hz : g.sut = none) (hi : ∀ σ H R, tMI X.K g W mi σ H R → wi σ H R) :
    ∀ σ H Q, tM X.K g W (mGA stop mi t mt m own) σ H Q → Gx.tAA P wi (tMG X.K g t) (tMT X.K g W0 mt) (tM X.K g W0 m) own stop σ H Q := by
  intro σ H Q ⟨α, ρ, S, r, q⟩
  refine hi _ _ _ ⟨α, ρ, S, r, q.of_bind.imp fun α1 H1 it S1 p1 k1 r1 q1 J ok => ⟨r1.obj.tab P hP, fun H2 tb => ?_⟩⟩
  replace q1 := q1 r1
  have kp0 : Kp H1 H2 := Kp.tabbed (r1.obj.tab P hP) tb
  have r0 : RlC X.K g α1 H2 S1 := r1.obj.tabbed hP tb
  refine ⟨fun n i k H' => ∃ α' S', α1 <+: α' ∧ Kp H1 H' ∧ RlC X.K g α' H' S' ∧ k = it.items.length - i ∧ k ≤ n ∧
    Post X.K g W α' σ H' ρ (fun α' H' x _ => ∀ v, Den X.K α' H' x v → Q v H') (gaGo stop it.raw t mt m own ρ (it.items.drop i) S'),
    fun _ H' => Q (.bl (!stop)) H', it.items.length, it.items.length, ?_, ⟨α1, S1, List.prefix_refl _, kp0, r0, rfl, Nat.le_refl _, by rw [List.drop_zero]; exact Post.mono (List.prefix_refl _) kp0 q1⟩, fun _ _ h => h⟩
  rintro n i k H' ⟨α', S', pre, kp, r', rfl, hn, q'⟩
  have rl' : Rl X.K g α' σ H' ρ S' := r1.keep pre kp r'
  cases e : it.items[i]? with
  | none =>
    have hl : it.items.length ≤ i := List.getElem?_eq_none_iff.mp e
    rw [List.drop_of_length_le hl] at q'
    unfold gaGo at q'
    split at q'
    · rename_i ck
      exact .inl ⟨(ok α' H' S' pre kp r' ck i).2 hl, q'.here rl' _ (.bl _)⟩
    · exact q'.elim
  | some x =>
    obtain ⟨hi', e'⟩ := List.getElem?_eq_some_iff.mp e
    rw [List.drop_eq_getElem_cons hi', e'] at q'
    unfold gaGo at q'
    split at q'
    · rename_i ck
      obtain ⟨go, yl⟩ := (ok α' H' S' pre kp r' ck i).1 x e
      split at q'
      · rename_i l el
        split at q'
        · rename_i hl
          refine .inr ⟨go, fun n' H'' => it.items.length - (i + 1) ≤ n' ∧ ∃ α' S', α1 <+: α' ∧ Kp H1 H'' ∧ RlC X.K g α' H'' S' ∧
              Post X.K g W α' σ H'' ρ (fun α' H' x _ => ∀ v, Den X.K α' H' x v → Q v H') (gaGo stop it.raw t mt m own ρ (it.items.drop (i + 1)) S'),
            fun n' _ ⟨h1, α2, S2, h2, h3, h4, h5⟩ => ⟨it.items.length - (i + 1), by omega, α2, S2, h2, h3, h4, rfl, h1, h5⟩, fun v H2 hy => ?_⟩
          obtain ⟨dx, k2, r2⟩ := yl v H2 hy
          refine ⟨α', S', x, l, r2, dx, el, fun us hu => ?_⟩
          have hus : ∀ p ∈ us, p.1 ∈ own := fun p hp => by
            have h1 : p.1 ∈ us.map (·.1) := List.mem_map_of_mem hp
            rw [← hu.1] at h1
            obtain ⟨q, hq, e1⟩ := List.mem_map.mp h1
            rw [← e1]
            exact hl q hq
          refine ⟨by rw [wipe_setl hus, wipe_wipe], ?_⟩
          have rw2 : Rl X.K g α' (Pm.setl (L2.wipe σ own) us) H2 (setl (wipeP ρ own) l) S' := (Rl.wipe hz (rl'.keep (List.prefix_refl _) k2 r2) own).setl hu
          have q2 := Post.mono (List.prefix_refl α') k2 q'
          refine ⟨α', _, S', rw2, ?_⟩
          revert q2
          cases mt (setl (wipeP ρ own) l) S' with
          | er c fs S2 => exact fun q2 => q2.elim
          | bad => exact fun q2 => q2
          | ok b S2 =>
            intro q2 α3 H3 p3 k3 r3
            have q3 := Post.mono p3 k3 q2
            rw [sb_ok] at q3
            cases b with
            | false =>
              rw [if_neg Bool.false_ne_true] at q3
              show ite _ _ _
              rw [if_neg Bool.false_ne_true]
              exact ⟨by omega, α3, S2, pre.trans p3, (kp.trans k2).trans k3, r3.obj, q3⟩
            | true =>
              rw [if_pos rfl] at q3
              show ite _ _ _
              rw [if_pos rfl]
              refine ⟨α3, _, S2, r3, ?_⟩
              revert q3
              cases m (setl (wipeP ρ own) l) S2 with
              | er c fs S4 => exact fun q3 => q3.elim
              | bad => exact fun q3 => q3
              | ok y S4 =>
                intro q3 α4 H4 p4 k4 r4 w dw
                have q4 := Post.mono p4 k4 q3
                rw [sb_ok] at q4
                cases dw <;> first | exact q4.elim | skip
                case bl c =>
                  dsimp only at q4
                  refine ⟨n - 1, by omega, c, rfl, ?_⟩
                  by_cases hc : c = stop
                  · rw [if_pos hc] at q4
                    rw [if_pos hc]
                    have rl4 : Rl X.K g α4 σ H4 ρ S4 := rl'.keep (p3.trans p4) ((k2.trans k3).trans k4) r4.obj
                    exact q4.here rl4 _ (.bl _)
                  · rw [if_neg hc] at q4
                    rw [if_neg hc]
                    exact ⟨by omega, α4, S4, pre.trans (p3.trans p4), ((kp.trans k2).trans k3).trans k4, r4.obj, q4⟩
        · exact q'.elim
      · exact q'.elim
    · exact q'.elim
end
end Pm
namespace Gx
open PySem PySem.Spec PyProof.Rows L2 GenW
/-! ### sum of a generator expression -/
/-- tot n: the total while n items may still come -/
def Cs (tot : Nat → Int) : Nat → V → Prop → Hp → Prop := fun n y p _ => ∃ j : Int, y = .int j ∧ tot (n + 1) + j = tot n ∧ p
abbrev sumObj (i : Int) (t : Tok) (c : Nat) : Obj := { cls := .type "list", dict := none, data := .seq #[.int i t] c, slots := #[] }
section
variable {X : Cx} {σ : L2.St} {A : Around} {R : Result → Shared → Prop} {a S : Addr} {g : Nat} {Qe : Nat → Hp → Prop} {fp : List Addr}
theorem sum_walk (hsc : ScOk X fp [S]) (hh : A.handled = none) (hd : A.depth < recursionLimit) (hpn : ∀ h : Heap, (∀ p ∈ X.pn, h.get? p.1 = some p.2) → h.IsGen a g) (tot : Nat → Int)
    (hend : ∀ (n : Nat) (H' : Hp) (h0 : Heap) (s1 : Shared) (t : Tok), Inv X (pinsAt [S] h0) σ H' s1 → Qe n H' → R (.ok (.ret (.int (tot n) t))) s1) :
    ∀ (n : Nat) (s : Shared) (tA : Tok) (c : Nat) (st : Int), (st = 0 ∨ st = 2) → Slp X [S] σ A.in1.in1 a g (Cs tot) Qe n s → s.heap.get? S = some (sumObj (tot n) tA c) →
      codeAny (model X.prog X.w) A (.builtin "sum.loop" ⟨[.ref a, .ref S, rawInt st, rawInt 0], []⟩) R s := by
  intro n
  induction n using Nat.strongRecOn with
  | _ n ih =>
    intro s tA c st hst2 z hS
    refine codeAny_builtin F.entry_sum_loop ?_
    rw [Around.under_plainId F.plain_sum_loop _]
    show wpAny _ A.in1 (seqItems? (.ref S) >>= _) _ _ s
    refine wpAny_bind (wpAny_seqItems hS rfl ?_)
    show wpAny _ A.in1 (tryCatch (pyNext (.ref a)) _ >>= _) _ _ s
    refine wpAny_bind (wpAny_tryCatch (next_walk (A := A.in1) hsc hh hd z hpn (fun v y H4 p s1 ry I hC hp => ?_) fun H' s1 I hQ => ?_))
    · obtain ⟨j, rfl, ht, hb⟩ := hC
      obtain ⟨t, rfl⟩ := (show ∃ t, v = .int j t from ry)
      obtain ⟨n', e, z'⟩ := hp hb
      subst e
      have ht : tot (n' + 1) + j = tot n' := ht
      have hS' : s1.heap.get? S = some (sumObj (tot (n' + 1)) tA c) := (I.pin (S, sumObj (tot (n' + 1)) tA c) (List.mem_append_right _ (mem_pinsAt List.mem_cons_self hS))).1
      have oth : ∀ (h : Heap) (f : Obj → Obj) (b : Addr) (o : Obj), b ∉ [S] → h.get? b = some o → (h.update S f).get? b = some o := fun h f b o hb e => (Heap.get?_update_other _ _ (fun h : S = b => hb (by rw [h]; exact List.mem_cons_self))).trans e
      rcases hst2 with rfl | rfl
      · show wpAny _ A.in1 (if (_ : Bool) = true then (mkInt (tot (n' + 1) + j) >>= _) else _) _ _ _
        split
        · refine wpAny_bind (wpAny_mkInt ?_)
          show wpAny _ A.in1 (updateSeq S (fun _ => #[.int (tot (n' + 1) + j) s1.toks]) >>= _) _ _ _
          rw [ht]
          refine wpAny_bind ?_
          refine wpAny_updateSeq hS' rfl (wpAny_pure ⟨plainId_quiet F.plain_sum_loop _, ih n' (by omega) _ s1.toks _ 0 (.inl rfl) (z' _ ⟨rfl, I.bare, fun b o hb e => oth _ _ b o hb e, fun b hb => ?_⟩ rfl) (Heap.get?_update_self _ hS' rfl)⟩)
          rw [List.mem_singleton.mp hb]
          exact ⟨_, Heap.get?_update_self _ hS' rfl, fun v q => by cases q⟩
        · refine wpAny_bind (wpAny_rule ?_)
          refine wpAny_bind (wpAny_attempt (wpAny_holding (wpAny_add_int ?_)))
          show wpAny _ A.in1 (updateSeq S (fun _ => #[.int (tot (n' + 1) + j) s1.toks]) >>= _) _ _ _
          rw [ht]
          refine wpAny_bind (wpAny_updateSeq hS' rfl ?_)
          have hS₂ := Heap.get?_update_self (Obj.mapSeq fun _ => #[Value.int (tot n') s1.toks]) hS' rfl
          refine wpAny_bind (wpAny_letGo ?_)
          refine wpAny_bind (wpAny_updateSeq hS₂ rfl (wpAny_pure ⟨plainId_quiet F.plain_sum_loop _, ih n' (by omega) _ s1.toks _ 2 (.inr rfl) (z' _ ⟨rfl, I.bare, fun b o hb e => oth _ _ b o hb (oth _ _ b o hb e), fun b hb => ?_⟩ rfl) (Heap.get?_update_self _ hS₂ rfl)⟩))
          rw [List.mem_singleton.mp hb]
          exact ⟨_, Heap.get?_update_self _ hS₂ rfl, fun v q => by cases q⟩
      · show wpAny _ A.in1 ((holding [Value.int j t] (binaryOp .Add (.int (tot (n' + 1)) tA) (.int j t))).attempt >>= _) _ _ _
        · refine wpAny_bind (wpAny_attempt (wpAny_holding (wpAny_add_int ?_)))
          show wpAny _ A.in1 (updateSeq S (fun _ => #[.int (tot (n' + 1) + j) s1.toks]) >>= _) _ _ _
          rw [ht]
          refine wpAny_bind (wpAny_updateSeq hS' rfl ?_)
          have hS₂ := Heap.get?_update_self (Obj.mapSeq fun _ => #[Value.int (tot n') s1.toks]) hS' rfl
          refine wpAny_bind (wpAny_letGo ?_)
          refine wpAny_bind (wpAny_updateSeq hS₂ rfl (wpAny_pure ⟨plainId_quiet F.plain_sum_loop _, ih n' (by omega) _ s1.toks _ 2 (.inr rfl) (z' _ ⟨rfl, I.bare, fun b o hb e => oth _ _ b o hb (oth _ _ b o hb e), fun b hb => ?_⟩ rfl) (Heap.get?_update_self _ hS₂ rfl)⟩))
          rw [List.mem_singleton.mp hb]
          exact ⟨_, Heap.get?_update_self _ hS₂ rfl, fun v q => by cases q⟩
    · exact wpAny_pure (hend n H' _ s1 tA I hQ)
end
def tSm (P : Addr) (wi : TI) (g : TG) (tt : TT) (te : TE) (vs : List Nat) : TE := fun σ H Q => wi σ H fun J H1 => GxR.TabG H1 P ∧ ∀ H2, GxR.Tabbed P H1 H2 →
  ∃ (W : Nat → Nat → Nat → Hp → Prop) (Qe : Nat → Hp → Prop) (tot : Nat → Int) (n m : Nat), Walk J g tt te vs σ (Cs tot) Qe W ∧ tot n = 0 ∧ W n 0 m H2 ∧ ∀ n H', Qe n H' → Q (.int (tot n)) H'
section
variable {X : Cx}
theorem pe_sumG {c P : Addr} {elt tg iter : Expr} {ifs : List Expr} {p pos gpos : Pos} {scope : Scope} {own : List (Str × Nat)} {k : Nat} {wi : TI} {g : TG} {tt : TT} {te : TE}
    (hcalm : X.calm = true) (hN : X.N.Nodup) (hr : Room (k + 1) X.A) (hg : Gl X "sum") (hm : X.mg "sum" = none) (TB : GxR.TabB X.base X.mg c P) (hc : X.env.code = .ref c) (ok : BlkOk X.N X.env.scope scope own) (hco : scope.isCoroutine = false) (hcell : ∀ y ∈ scope.names, y.2 ≠ .cell)
    (hdot : scope.names.lookup (".0" : Str) = some NameKind.local) (hi : PI X tg iter wi)
    (hG : ∀ (s : Shared) (H : Hp) (C : Addr) (code : Value) (fp : List Addr) (A : Around) (pn : List (Addr × Obj)), Room k A → PG (gcx X s H (gen X scope C code) fp A pn) tg g)
    (hT : ∀ (s : Shared) (H : Hp) (C : Addr) (code : Value) (fp : List Addr) (A : Around) (pn : List (Addr × Obj)), Room k A → PTs (gcx X s H (gen X scope C code) fp A pn) ifs tt)
    (hE : ∀ (s : Shared) (H : Hp) (C : Addr) (code : Value) (fp : List Addr) (A : Around) (pn : List (Addr × Obj)), Room k A → PE (gcx X s H (gen X scope C code) fp A pn) elt te)
    (hs : ∀ v, genFold iter X.env v = pure v := by intro _; rfl)
    (st : starEach [Expr.GeneratorExp elt [⟨tg, iter, ifs, 0⟩] scope gpos] X.env = (false, eval (Expr.GeneratorExp elt [⟨tg, iter, ifs, 0⟩] scope gpos) X.env) :: starEach [] X.env := by rfl) :
    PE X (.Call (.Name "sum" p) [.GeneratorExp elt [⟨tg, iter, ifs, 0⟩] scope gpos] [] pos) (tSm P wi g tt te (own.map (·.2))) := by
  refine ⟨fun pins s σ H Q I h => ?_⟩
  refine wpAny_Call_Name_kw ?_
  refine L2.ld_blt I hg hm (u := .builtin "sum") (by decide +kernel) ?_
  refine PyProof.Rows.callWith_builtin1 ?_ st
  refine Calls.spliced_cons ?_
  refine gen_mk (R := fun J H1 => ∀ H2, GxR.Tabbed P H1 H2 → ∃ (W : Nat → Nat → Nat → Hp → Prop) (Qe : Nat → Hp → Prop) (tot : Nat → Int) (n m : Nat), Walk J g tt te (own.map (fun q : Str × Nat => q.2)) σ (Cs tot) Qe W ∧ tot n = 0 ∧ W n 0 m H2 ∧ ∀ n H', Qe n H' → Q (.int (tot n)) H') hr TB hc ok hco hcell hdot hi hs I h ?_
  intro J H1 H2 it fp tn code s4 s5 a gn go m hR tb I4 T st4 f4 os5 kp5 b5 ns5 ga5 la5 cell5 gen5 gs5
  refine Calls.spliced_nil ?_
  obtain ⟨W, Qe, tot, n, m0, w, t0, w0, hend⟩ := hR H2 tb
  have hrA : Room k ((X.A.in1.in1).deeper (gen X scope s4.heap.objs.size code)) := ⟨hr.hd, by have := hr.dp; show X.A.depth + 1 + 3 * k + 5 < _; omega, by have := hr.un; show X.A.units + 1 + 1 + 3 + 16 * k + 200 < _; omega⟩
  have nfp : a ∉ fp := fun hb => absurd (f4 a hb).2 (Nat.lt_asymm la5)
  have out : ∀ (ip : List (Addr × Obj)) (H' : Hp) (s1 : Shared), Inv (gcx X s4 H2 (gen X scope s4.heap.objs.size code) fp ((X.A.in1.in1).deeper (gen X scope s4.heap.objs.size code)) [(a, go)]) ip (wipe σ (own.map (·.2))) H' s1 → Inv X pins σ H' s1 := fun ip H' s1 Ii =>
    I4.call' (ch := fp) Ii.os Ii.base Ii.hok Ii.bare fun b hb => ⟨(f4 b hb).1.2.2.2.1, (f4 b hb).1.2.1, (f4 b hb).1.2.2.2.2.1, (f4 b hb).1.2.2.2.2.2⟩
  refine call_function_tree F.kind_sum F.plain_sum F.entry_sum (F.args_sum1 _) ?_
  unfold Builtin.«sum»
  simp only [List.length_cons, List.length_nil]
  rw [if_neg (by decide)]
  refine wpAny_bind (wpAny_of_eq (show Builtin.Builtins.bindParams "sum" ["start"] 0 { } = pure [none] from rfl) ?_)
  refine wpAny_bind (wpAny_pyIter_gen (gen5 _ ga5) ?_)
  refine wpAny_bind (wpAny_mkInt ?_)
  refine wpAny_bind (wpAny_pure ?_)
  simp only [List.forIn_cons, List.forIn_nil]
  refine wpAny_bind (wpAny_bind (wpAny_bind (wpAny_isInstance (T := "int") (b := false) (typeIs_int _ _ _) PySem.sub_int_str ?_)))
  simp only [Bool.false_eq_true, if_false]
  refine wpAny_pure (wpAny_bind (wpAny_bind (wpAny_isInstance (T := "int") (b := false) (typeIs_int _ _ _) PySem.sub_int_bytes ?_)))
  simp only [Bool.false_eq_true, if_false]
  refine wpAny_pure (wpAny_bind (wpAny_bind (wpAny_isInstance (T := "int") (b := false) (typeIs_int _ _ _) PySem.sub_int_bytearray ?_)))
  simp only [Bool.false_eq_true, if_false]
  refine wpAny_pure (wpAny_pure ?_)
  refine wpAny_bind (wpAny_newObj_type ?_)
  have lta : a < s5.heap.objs.size := Heap.lt_size ga5
  have ltS : s4.heap.objs.size < s5.heap.objs.size := Nat.lt_trans la5 lta
  have mkI : ∀ (s6 : Shared), s6.os = s5.os → AllBare s6.gens → (∀ b o, s5.heap.get? b = some o → s6.heap.get? b = some o) →
      Inv (gcx X s4 H2 (gen X scope s4.heap.objs.size code) fp ((X.A.in1.in1).deeper (gen X scope s4.heap.objs.size code)) [(a, go)]) [] (wipe σ (own.map (·.2))) H2 s6 := fun s6 h1 h2 h3 =>
    gen_start I4 ok hN hcell f4 (Around.frames_deeper I4.ok.frames) hr.hd (h1.trans os5) (fun b o e => h3 b o (kp5 b o e)) h2 (ns5.keeps h3) fun q hq => by
      rw [List.mem_singleton.mp hq]
      exact ⟨h3 _ _ ga5, la5, cell5⟩
  have I5 := mkI s5 rfl b5 fun b o e => e
  have fS : FpOk (gcx X s4 H2 (gen X scope s4.heap.objs.size code) fp ((X.A.in1.in1).deeper (gen X scope s4.heap.objs.size code)) [(a, go)]) [] H2 s5.heap.objs.size := I5.fpOk (Nat.le_refl _) (I5.hok.fresh (Nat.le_refl _))
  have hsc : ScOk (gcx X s4 H2 (gen X scope s4.heap.objs.size code) fp ((X.A.in1.in1).deeper (gen X scope s4.heap.objs.size code)) [(a, go)]) fp [s5.heap.objs.size] := fun b hb => by
    rw [List.mem_singleton.mp hb]
    exact ⟨Nat.le_of_lt ltS, fS.2.1, fS.2.2.2.2.1, fun q hq => fS.2.2.2.2.2 q (List.mem_append_left _ hq), fun hm => absurd (f4 _ hm).2 (Nat.lt_asymm ltS)⟩
  have I6 := fun (s6 : Shared) (h1 : s6.os = s5.os) (h2 : AllBare s6.gens) (h3 : ∀ b o, s5.heap.get? b = some o → s6.heap.get? b = some o) (h4 : ∃ o, s6.heap.get? s5.heap.objs.size = some o ∧ ∀ v, o.data ≠ .cell v) =>
    (mkI s6 h1 h2 h3).pinned (fp := [s5.heap.objs.size]) (fun b hb => by rw [List.mem_singleton.mp hb]; exact fS) (fun b hb => by rw [List.mem_singleton.mp hb]; exact h4)
  refine wpAny_pure ⟨plainId_quiet F.plain_sum_loop _, sum_walk (X := gcx X s4 H2 (gen X scope s4.heap.objs.size code) fp ((X.A.in1.in1).deeper (gen X scope s4.heap.objs.size code)) [(a, go)]) (σ := wipe σ (own.map (·.2))) (g := gn) (Qe := Qe) hsc hr.hd
    (by have := hr.dp; omega) (fun h hp => gen5 h (hp (a, go) (List.mem_singleton.mpr rfl))) tot (fun n H' h0 s1 t Ii q => ⟨.int (tot n), H', out _ H' s1 Ii, ⟨t, rfl⟩, hend n H' q⟩) n _ s5.toks 0 0 (.inl rfl) ?_ (by rw [t0]; exact Heap.get?_push_size _ rfl)⟩
  have kp6 : ∀ b o, s5.heap.get? b = some o → (s5.heap.push (sumObj 0 s5.toks 0)).get? b = some o := fun b o e => Heap.get?_push_of_some _ e
  have hS : (s5.heap.push (sumObj 0 s5.toks 0)).get? s5.heap.objs.size = some (sumObj 0 s5.toks 0) := Heap.get?_push_size _ rfl
  have I7 := I6 (({ s5 with heap := s5.heap.push (sumObj 0 s5.toks 0), toks := s5.toks + 1 } : Shared).setGen gn .running) rfl (allBare_setGen b5 rfl) kp6 ⟨_, hS, fun v q => by cases q⟩
  have hex : ∀ b ∈ [s5.heap.objs.size], ∃ o, (s5.heap.push (sumObj 0 s5.toks 0)).get? b = some o := fun b hb => by rw [List.mem_singleton.mp hb]; exact ⟨_, hS⟩
  refine ⟨gen5 _ (kp6 _ _ ga5), I7.nolimit, hex, _, gs5, rfl, ?_⟩
  exact seg_start (X := X) (sc := [s5.heap.objs.size]) hcalm T (fun q hq => by rw [List.mem_singleton.mp hq]; exact nfp) hsc hco (hG _ _ _ _ _ _ _ hrA) (hT _ _ _ _ _ _ _ hrA) (hE _ _ _ _ _ _ _ hrA) w m0 n 0 H2 _ _ hex I7 (T.keep _ _ _ st4 fun b _ o e => kp6 b o (kp5 b o e)) (fun b hb => (f4 b hb).1.1) w0
end
end Gx
namespace Pm
open PySem L2
/-! ### sum(..) of a generator expression -/
def isum : List Int → Int
  | [] => 0
  | x :: xs => x + isum xs
open Classical in
noncomputable def gsGo (raw : List (Nat × MO)) (t : MG) (tt : MT) (te : ME) (vs : List Nat) (ρ : PSt) : List PV → Sto → Rs (List Int)
  | [], S => if Chk raw S then .ok [] S else .bad
  | x :: xs, S => if Chk raw S then match t x S with
    | some l => if (∀ p ∈ l, p.1 ∈ vs) then
        (tt (setl (wipeP ρ vs) l) S).sb fun b S1 => if b = true then (te (setl (wipeP ρ vs) l) S1).sb fun y S2 => match y with
          | .int j => (gsGo raw t tt te vs ρ xs S2).sb fun ws S3 => .ok (j :: ws) S3
          | _ => .bad
        else gsGo raw t tt te vs ρ xs S1
      else .bad
    | none => .bad
    else .bad
noncomputable def mGS (mi : MI) (t : MG) (tt : MT) (te : ME) (vs : List Nat) : ME := fun ρ S => (mi ρ S).bind fun it S1 => (gsGo it.raw t tt te vs ρ it.items S1).sb fun ws S2 => .ok (.int (isum ws)) S2
theorem sb_eq {β γ : Type} {r : Rs β} {f : β → Sto → Rs γ} {x : γ} {S : Sto} (h : r.sb f = .ok x S) : ∃ y S1, r = .ok y S1 ∧ f y S1 = .ok x S := by
  cases r with
  | ok y S1 => exact ⟨y, S1, rfl, h⟩
  | er c fs S1 => cases h
  | bad => cases h
section
variable {X : Cx} {g : Sg} {W : WX} {a b c e tg iter elt : Expr} {es : List Expr} {m ma mb mc : ME} {mi : MI} {t : MG} {mt : MT} {pos p : Pos}
theorem gs_le {wi : TI} {own : List Nat} {P : Addr} (hP : P ∈ g.tabs) (hz : g.sut = none) (hi : ∀ σ H R, tMI X.K g W mi σ H R → wi σ H R) :
    ∀ σ H Q, tM X.K g W (mGS mi t mt m own) σ H Q → Gx.tSm P wi (tMG X.K g t) (tMT X.K g W0 mt) (tM X.K g W0 m) own σ H Q := by
  intro σ H Q ⟨α, ρ, S, r, q⟩
  refine hi _ _ _ ⟨α, ρ, S, r, q.of_bind.imp fun α1 H1 it S1 p1 k1 r1 q1 J ok => ⟨r1.obj.tab P hP, fun H2 tb => ?_⟩⟩
  replace q1 := q1 r1
  have kp0 : Kp H1 H2 := Kp.tabbed (r1.obj.tab P hP) tb
  have r0 : RlC X.K g α1 H2 S1 := r1.obj.tabbed hP tb
  cases e0 : gsGo it.raw t mt m own ρ it.items S1 with
  | er c fs S2 => rw [e0] at q1; exact q1.elim
  | bad => rw [e0] at q1; exact q1.elim
  | ok ws0 Sf =>
    rw [e0, sb_ok] at q1
    refine ⟨fun n i k H' => ∃ α' S' ws, α1 <+: α' ∧ Kp H1 H' ∧ RlC X.K g α' H' S' ∧ k = it.items.length - i ∧ n = ws.length ∧ ws = ws0.drop (ws0.length - n) ∧ gsGo it.raw t mt m own ρ (it.items.drop i) S' = .ok ws Sf,
      fun n H' => Q (.int (isum ws0 - isum (ws0.drop (ws0.length - n)))) H', fun n => isum ws0 - isum (ws0.drop (ws0.length - n)), ws0.length, it.items.length, ?_, by simp, ⟨α1, S1, ws0, List.prefix_refl _, kp0, r0, rfl, rfl, by simp, by rw [List.drop_zero]; exact e0⟩, fun _ _ h => h⟩
    rintro n i k H' ⟨α', S', ws, pre, kp, r', rfl, hn, hw, q'⟩
    have rl' : Rl X.K g α' σ H' ρ S' := r1.keep pre kp r'
    cases e : it.items[i]? with
    | none =>
      have hl : it.items.length ≤ i := List.getElem?_eq_none_iff.mp e
      rw [List.drop_of_length_le hl] at q'
      unfold gsGo at q'
      split at q'
      · rename_i ck
        cases q'
        refine .inl ⟨(ok α' H' Sf pre kp r' ck i).2 hl, ?_⟩
        have h0 : isum ws0 - isum (ws0.drop (ws0.length - n)) = isum ws0 := by rw [← hw]; simp [isum]
        show Q (.int (isum ws0 - isum (ws0.drop (ws0.length - n)))) H'
        rw [h0]
        exact q1 α' H' pre kp (r1.keep pre kp r') _ (.int _)
      · cases q'
    | some x =>
      obtain ⟨hi', e'⟩ := List.getElem?_eq_some_iff.mp e
      rw [List.drop_eq_getElem_cons hi', e'] at q'
      unfold gsGo at q'
      split at q'
      · rename_i ck
        obtain ⟨go, yl⟩ := (ok α' H' S' pre kp r' ck i).1 x e
        split at q'
        · rename_i l el
          split at q'
          · rename_i hl
            refine .inr ⟨go, fun n' H'' => ∃ α' S' ws, α1 <+: α' ∧ Kp H1 H'' ∧ RlC X.K g α' H'' S' ∧ n' = ws.length ∧ ws = ws0.drop (ws0.length - n') ∧ gsGo it.raw t mt m own ρ (it.items.drop (i + 1)) S' = .ok ws Sf,
              fun n' _ ⟨α2, S2, ws2, h2, h3, h4, h5, h6, h7⟩ => ⟨it.items.length - (i + 1), by omega, α2, S2, ws2, h2, h3, h4, rfl, h5, h6, h7⟩, fun v H2 hy => ?_⟩
            obtain ⟨dx, k2, r2⟩ := yl v H2 hy
            refine ⟨α', S', x, l, r2, dx, el, fun us hu => ?_⟩
            have hus : ∀ p ∈ us, p.1 ∈ own := fun p hp => by
              have h1 : p.1 ∈ us.map (·.1) := List.mem_map_of_mem hp
              rw [← hu.1] at h1
              obtain ⟨q, hq, e1⟩ := List.mem_map.mp h1
              rw [← e1]
              exact hl q hq
            refine ⟨by rw [wipe_setl hus, wipe_wipe], ?_⟩
            have rw2 : Rl X.K g α' (Pm.setl (L2.wipe σ own) us) H2 (setl (wipeP ρ own) l) S' := (Rl.wipe hz (rl'.keep (List.prefix_refl _) k2 r2) own).setl hu
            obtain ⟨b, S2, e2, q2⟩ := sb_eq q'
            refine ⟨α', _, S', rw2, ?_⟩
            rw [e2]
            intro α3 H3 p3 k3 r3
            cases b with
            | false =>
              rw [if_neg Bool.false_ne_true] at q2
              show ite _ _ _
              rw [if_neg Bool.false_ne_true]
              exact ⟨α3, S2, ws, pre.trans p3, (kp.trans k2).trans k3, r3.obj, hn, hw, q2⟩
            | true =>
              rw [if_pos rfl] at q2
              show ite _ _ _
              rw [if_pos rfl]
              obtain ⟨y, S4, e4, q4⟩ := sb_eq q2
              refine ⟨α3, _, S2, r3, ?_⟩
              rw [e4]
              intro α4 H4 p4 k4 r4 w dw
              cases dw <;> first | (cases q4; done) | skip
              case int j =>
                obtain ⟨ws', S5, e5, q5⟩ := sb_eq q4
                cases q5
                subst hn
                have hw' : ws' = ws0.drop (ws0.length - ws'.length) := by
                  have hlen := congrArg List.length hw
                  simp only [List.length_cons, List.length_drop] at hlen hw
                  have hlt : ws0.length - (ws'.length + 1) < ws0.length := by omega
                  rw [List.drop_eq_getElem_cons hlt] at hw
                  have h2 := (List.cons.inj hw).2
                  have h3 : ws0.length - (ws'.length + 1) + 1 = ws0.length - ws'.length := by omega
                  rw [h3] at h2
                  exact h2
                refine ⟨ws'.length, rfl, j, rfl, ?_, ⟨α4, S4, ws', pre.trans (p3.trans p4), ((kp.trans k2).trans k3).trans k4, r4.obj, rfl, hw', e5⟩⟩
                have h1 : isum (ws0.drop (ws0.length - (ws'.length + 1))) = j + isum ws' := by
                  have := congrArg isum hw
                  simp only [List.length_cons] at this
                  rw [← this]
                  rfl
                show isum ws0 - isum (ws0.drop (ws0.length - (ws'.length + 1))) + j = isum ws0 - isum (ws0.drop (ws0.length - ws'.length))
                rw [h1, ← hw']
                omega
          · cases q'
        · cases q'
      · cases q'
/-! ### the rules -/
theorem re_allG {P c : Addr} {ifs : List Expr} {scope : Scope} {gpos : Pos} {own : List (Str × Nat)} {k : Nat} (hP : P ∈ g.tabs) (hz : g.sut = none) (hcalm : X.calm = true) (hN : X.N.Nodup) (hr : Room (k + 1) X.A) (hg : Gl X "all") (hm : X.mg "all" = none) (TB : GxR.TabB X.base X.mg c P)
    (hc : X.env.code = .ref c) (ok : BlkOk X.N X.env.scope scope own) (hco : scope.isCoroutine = false) (hcell : ∀ y ∈ scope.names, y.2 ≠ .cell) (hdot : scope.names.lookup (".0" : Str) = some NameKind.local) (hi : RI X g W tg iter mi)
    (hG : ∀ (s : Shared) (H : Hp) (C : Addr) (code : Value) (fp : List Addr) (A : Around) (pn : List (Addr × Obj)), Room k A → RG (Gx.gcx X s H (Gx.gen X scope C code) fp A pn) g tg t)
    (hT : ∀ (s : Shared) (H : Hp) (C : Addr) (code : Value) (fp : List Addr) (A : Around) (pn : List (Addr × Obj)), Room k A → PTs (Gx.gcx X s H (Gx.gen X scope C code) fp A pn) ifs (tMT X.K g W0 mt))
    (hE : ∀ (s : Shared) (H : Hp) (C : Addr) (code : Value) (fp : List Addr) (A : Around) (pn : List (Addr × Obj)), Room k A → RE (Gx.gcx X s H (Gx.gen X scope C code) fp A pn) g W0 elt m)
    (hs : ∀ v, genFold iter X.env v = pure v := by intro _; rfl)
    (st : starEach [Expr.GeneratorExp elt [⟨tg, iter, ifs, 0⟩] scope gpos] X.env = (false, eval (Expr.GeneratorExp elt [⟨tg, iter, ifs, 0⟩] scope gpos) X.env) :: starEach [] X.env := by rfl) :
    RE X g W (.Call (.Name "all" p) [.GeneratorExp elt [⟨tg, iter, ifs, 0⟩] scope gpos] [] pos) (mGA false mi t mt m (own.map (·.2))) :=
  pe_le (Gx.pe_allG (g := tMG X.K g t) (tt := tMT X.K g W0 mt) (te := tM X.K g W0 m) hcalm hN hr hg hm TB hc ok hco hcell hdot hi hG hT hE hs st) (ga_le hP hz fun _ _ _ h => h)
theorem re_anyG {P c : Addr} {ifs : List Expr} {scope : Scope} {gpos : Pos} {own : List (Str × Nat)} {k : Nat} (hP : P ∈ g.tabs) (hz : g.sut = none) (hcalm : X.calm = true) (hN : X.N.Nodup) (hr : Room (k + 1) X.A) (hg : Gl X "any") (hm : X.mg "any" = none) (TB : GxR.TabB X.base X.mg c P)
    (hc : X.env.code = .ref c) (ok : BlkOk X.N X.env.scope scope own) (hco : scope.isCoroutine = false) (hcell : ∀ y ∈ scope.names, y.2 ≠ .cell) (hdot : scope.names.lookup (".0" : Str) = some NameKind.local) (hi : RI X g W tg iter mi)
    (hG : ∀ (s : Shared) (H : Hp) (C : Addr) (code : Value) (fp : List Addr) (A : Around) (pn : List (Addr × Obj)), Room k A → RG (Gx.gcx X s H (Gx.gen X scope C code) fp A pn) g tg t)
    (hT : ∀ (s : Shared) (H : Hp) (C : Addr) (code : Value) (fp : List Addr) (A : Around) (pn : List (Addr × Obj)), Room k A → PTs (Gx.gcx X s H (Gx.gen X scope C code) fp A pn) ifs (tMT X.K g W0 mt))
    (hE : ∀ (s : Shared) (H : Hp) (C : Addr) (code : Value) (fp : List Addr) (A : Around) (pn : List (Addr × Obj)), Room k A → RE (Gx.gcx X s H (Gx.gen X scope C code) fp A pn) g W0 elt m)
    (hs : ∀ v, genFold iter X.env v = pure v := by intro _; rfl)
    (st : starEach [Expr.GeneratorExp elt [⟨tg, iter, ifs, 0⟩] scope gpos] X.env = (false, eval (Expr.GeneratorExp elt [⟨tg, iter, ifs, 0⟩] scope gpos) X.env) :: starEach [] X.env := by rfl) :
    RE X g W (.Call (.Name "any" p) [.GeneratorExp elt [⟨tg, iter, ifs, 0⟩] scope gpos] [] pos) (mGA true mi t mt m (own.map (·.2))) :=
  pe_le (Gx.pe_anyG (g := tMG X.K g t) (tt := tMT X.K g W0 mt) (te := tM X.K g W0 m) hcalm hN hr hg hm TB hc ok hco hcell hdot hi hG hT hE hs st) (ga_le hP hz fun _ _ _ h => h)
theorem re_sumG {P c : Addr} {ifs : List Expr} {scope : Scope} {gpos : Pos} {own : List (Str × Nat)} {k : Nat} (hP : P ∈ g.tabs) (hz : g.sut = none) (hcalm : X.calm = true) (hN : X.N.Nodup) (hr : Room (k + 1) X.A) (hg : Gl X "sum") (hm : X.mg "sum" = none) (TB : GxR.TabB X.base X.mg c P)
    (hc : X.env.code = .ref c) (ok : BlkOk X.N X.env.scope scope own) (hco : scope.isCoroutine = false) (hcell : ∀ y ∈ scope.names, y.2 ≠ .cell) (hdot : scope.names.lookup (".0" : Str) = some NameKind.local) (hi : RI X g W tg iter mi)
    (hG : ∀ (s : Shared) (H : Hp) (C : Addr) (code : Value) (fp : List Addr) (A : Around) (pn : List (Addr × Obj)), Room k A → RG (Gx.gcx X s H (Gx.gen X scope C code) fp A pn) g tg t)
    (hT : ∀ (s : Shared) (H : Hp) (C : Addr) (code : Value) (fp : List Addr) (A : Around) (pn : List (Addr × Obj)), Room k A → PTs (Gx.gcx X s H (Gx.gen X scope C code) fp A pn) ifs (tMT X.K g W0 mt))
    (hE : ∀ (s : Shared) (H : Hp) (C : Addr) (code : Value) (fp : List Addr) (A : Around) (pn : List (Addr × Obj)), Room k A → RE (Gx.gcx X s H (Gx.gen X scope C code) fp A pn) g W0 elt m)
    (hs : ∀ v, genFold iter X.env v = pure v := by intro _; rfl)
    (st : starEach [Expr.GeneratorExp elt [⟨tg, iter, ifs, 0⟩] scope gpos] X.env = (false, eval (Expr.GeneratorExp elt [⟨tg, iter, ifs, 0⟩] scope gpos) X.env) :: starEach [] X.env := by rfl) :
    RE X g W (.Call (.Name "sum" p) [.GeneratorExp elt [⟨tg, iter, ifs, 0⟩] scope gpos] [] pos) (mGS mi t mt m (own.map (·.2))) :=
  pe_le (Gx.pe_sumG (g := tMG X.K g t) (tt := tMT X.K g W0 mt) (te := tM X.K g W0 m) hcalm hN hr hg hm TB hc ok hco hcell hdot hi hG hT hE hs st) (gs_le hP hz fun _ _ _ h => h)
end
end Pm
namespace Pm
open PySem L2 PySem.Spec PyProof.Rows
/-! ### a written dict -/
/-- it is one -/
structure KDic (K : PySem.W.Frag) (w : World) (a : Addr) : Prop where
  ex : ∃ es n, K.lookup a = some ⟨.type "dict", none, .dict es n, #[]⟩ ∧ PySem.W.KeysLit w.params es.toList
  low : (a == sysModules) = false
/-- d.get(k, x) -/
def tKGet (K : PySem.W.Frag) (w : World) (td ty tx : TE) : TE := fun σ H Q => td σ H fun x H1 => ∃ a, x = .ref a ∧ KDic K w a ∧ ty σ H1 fun y H2 => tx σ H2 fun z H3 => ∃ k, y = .str k ∧ ((∃ v, KDct K w a k v ∧ Q v H3) ∨ (PySem.W.nsIn K a k = some none ∧ Q z H3))
section
variable {X : Cx} {g : Sg} {W : WX} {o e f : Expr} {apos cpos : Pos} {td ty tx : TE} {ma mb : ME} {a : Addr} {kd : List (Str × PV)} {ms : List Str}
theorem pe_kget (ho : PE X o td) (he : PE X e ty) (hf : PE X f tx) (m : M2 X o "get" apos e f cpos) : PE X (.Call (.Attribute o "get" apos) [e, f] [] cpos) (tKGet X.K X.w td ty tx) := by
  refine ⟨fun pins s σ H Q I h => ?_⟩
  refine wpAny_Call_method m.base m.few m.line PySem.F.plainAttrs_dict PySem.F.slot_dict_get PySem.F.type_dict_get (thn (ho.run pins s σ H _ I h) fun u s1 ⟨x, H1, I1, rx, a, ex, d, q1⟩ => ?_)
  subst ex
  obtain rfl : u = Value.ref a := rx
  obtain ⟨⟨es, n, lk, kl⟩, low⟩ := d
  have h1 := I1.kIn _ _ lk
  refine ⟨⟨_, h1, rfl⟩, fun b q => by cases q; exact ⟨_, h1, rfl⟩, ?_⟩
  rw [m.trees]
  refine Calls.callWith_builtin rfl (Calls.evalArgs_plain (Calls.spliced_cons (thn (he.run pins s1 σ H1 _ I1 q1) fun iv s2 ⟨y, H2, I2, ry, q2⟩ =>
    Calls.spliced_cons (thn (hf.run pins s2 σ H2 _ I2 q2) fun fv s3 ⟨z, H3, I3, rz, k, ey, q3⟩ => Calls.spliced_nil ?_))))
  subst ey
  obtain ⟨t, rfl⟩ := (show ∃ t, iv = Value.str k t from ry)
  have hm := PySem.W.mapOf_K (prog := X.prog) (w := X.w) I3.kIn lk kl
  refine call_meetsIn PySem.F.slot_dict_get hm.typeIs PySem.F.entry_dict_get (PySem.F.args_dict_get_3 _ _ _) (meets_dict_get_default (strKind X.prog X.w) a (strKind_is X.prog X.w k t) low fv) ⟨_, hm, ?_⟩
  rcases q3 with ⟨v, ⟨es', n', u0, lk', kl', e0, ru⟩, q3⟩ | ⟨e0, q3⟩
  · rw [PySem.W.find_K lk e0]
    exact ⟨v, H3, I3.tok _, ru, q3⟩
  · rw [PySem.W.find_K lk e0]
    exact ⟨z, H3, I3.tok _, rz, q3⟩
def mKGet (kd : List (Str × PV)) (ms : List Str) (ma mb : ME) : ME := fun ρ S => (ma ρ S).bind fun x S1 => (mb ρ S1).bind fun y S2 => match x with
  | .str k => match kd.lookup k with
    | some v => .ok v S2
    | none => if k ∈ ms then .ok y S2 else .bad
  | _ => .bad
/-- the written dict at a, as data; texts that are no keys -/
structure KdOk (K : PySem.W.Frag) (w : World) (a : Addr) (kd : List (Str × PV)) (ms : List Str) : Prop where
  dic : KDic K w a
  get : ∀ k x, kd.lookup k = some x → ∃ v, KDct K w a k v ∧ ∀ α H, Den K α H x v
  mis : ∀ k ∈ ms, PySem.W.nsIn K a k = some none
theorem re_kget (hd : KdOk X.K X.w a kd ms) (ho : PE X o (tC (.ref a))) (ha : RE X g W e ma) (hb : RE X g W f mb) (m : M2 X o "get" apos e f cpos := by exact ⟨rfl, rfl, rfl, rfl⟩) : RE X g W (.Call (.Attribute o "get" apos) [e, f] [] cpos) (mKGet kd ms ma mb) := by
  refine pe_le (pe_kget ho ha hb m) fun σ H Q ⟨α, ρ, S, r, q⟩ => ?_
  refine ⟨a, rfl, hd.dic, α, ρ, S, r, q.of_bind.imp fun α1 H1 x S1 p1 k1 r1 q1 u du => ?_⟩
  refine ⟨α1, ρ, S1, r1, (q1 r1).of_bind.imp fun α2 H2 y S2 p2 k2 r2 q2 w dw => ?_⟩
  replace q2 := q2 r2
  cases du <;> first | exact q2.elim | skip
  case str k =>
    dsimp only at q2
    split at q2
    · rename_i v e1
      obtain ⟨v', h1, h2⟩ := hd.get k v e1
      exact ⟨k, rfl, .inl ⟨v', h1, q2.here r2 v' (h2 _ _)⟩⟩
    · split at q2
      · rename_i hm
        exact ⟨k, rfl, .inr ⟨hd.mis k hm, q2.here r2 w dw⟩⟩
      · exact q2.elim
end
/-! ### methods and makings: what the text says of them -/
structure Mn (K : PySem.W.Frag) (x qual : Str) (st : Stmt) (ps : List Str) (f : Addr) (fd : FuncData) : Prop where
  F : Fun K x qual st f fd
  b : Binds K fd ps []
structure Mk1 (K : PySem.W.Frag) (x qual : Str) (st : Stmt) (ps ks : List Str) (f : Addr) (fd : FuncData) : Prop where
  F : Fun K x qual st f fd
  b : KBo K fd ps ks 1
end Pm
namespace Pm
open PySem L2
/-! ### how the mirrors of instances, generator expressions and written dicts are computed -/
section
variable {ρ : PSt} {S : Sto} {m mo mv ma mb te : ME} {ms : MA} {mi : MI} {t : MG} {tt : MT} {vs : List Nat} {x y : PV} {xs : List PV} {i n : Nat} {c f : Str} {cs : List Str} {fs : List (Str × PV)} {stop : Bool}
theorem mGA_ev : mGA stop mi t tt te vs ρ S = (mi ρ S).bind fun it S1 => gaGo stop it.raw t tt te vs ρ it.items S1 := rfl
theorem mGS_ev : mGS mi t tt te vs ρ S = (mi ρ S).bind fun it S1 => (gsGo it.raw t tt te vs ρ it.items S1).sb fun ws S2 => .ok (.int (isum ws)) S2 := rfl
theorem setl_one : setl (wipeP ρ [i]) [(i, x)] = ρ.set i (some x) := by
  show ((ρ.set i none).set i (some x)) = _
  rw [List.set_set]
theorem ga_nil : gaGo stop [] t tt te vs ρ [] S = .ok (.bl (!stop)) S := by
  unfold gaGo
  rw [if_pos chk_nil]
theorem ga_cons : gaGo stop [] (mgName i) mYes te [i] ρ (x :: xs) S = (te (ρ.set i (some x)) S).sb fun y S2 => match y with
    | .bl c => if c = stop then .ok (.bl stop) S2 else gaGo stop [] (mgName i) mYes te [i] ρ xs S2
    | _ => .bad := by
  conv => lhs; unfold gaGo
  rw [if_pos chk_nil]
  show (if (∀ p ∈ [(i, x)], p.1 ∈ [i]) then _ else _) = _
  rw [if_pos (by simp), setl_one]
  rfl
theorem gs_nil : gsGo [] t tt te vs ρ [] S = .ok [] S := by
  unfold gsGo
  rw [if_pos chk_nil]
theorem gs_cons : gsGo [] (mgName i) mYes te [i] ρ (x :: xs) S = (te (ρ.set i (some x)) S).sb fun y S2 => match y with
    | .int j => (gsGo [] (mgName i) mYes te [i] ρ xs S2).sb fun ws S3 => .ok (j :: ws) S3
    | _ => .bad := by
  conv => lhs; unfold gsGo
  rw [if_pos chk_nil]
  show (if (∀ p ∈ [(i, x)], p.1 ∈ [i]) then _ else _) = _
  rw [if_pos (by simp), setl_one]
  rfl
theorem mKGet_ev {kd : List (Str × PV)} {ks : List Str} : mKGet kd ks ma mb ρ S = (ma ρ S).bind fun x S1 => (mb ρ S1).bind fun y S2 => match x with
    | .str k => match kd.lookup k with
      | some v => .ok v S2
      | none => if k ∈ ks then .ok y S2 else .bad
    | _ => .bad := rfl
theorem mFld_ev : mFld cs f m ρ S = (m ρ S).bind (fldM cs f) := rfl
theorem insOf_ev (h : S[n]? = some (.ins c fs)) (hc : cs.contains c = true) : insOf cs (.cell n) S = some (n, c, fs) := by
  simp only [insOf, h, hc, if_true]
theorem fld_ev (h : S[n]? = some (.ins c fs)) (hc : cs.contains c = true) (hl : fs.lookup f = some y) : fldM cs f (.cell n) S = .ok y S := by
  unfold fldM
  rw [insOf_ev h hc]
  simp only [hl]
theorem mMeth_ev {g : MF} {k : Nat} {nm : Str} : mMeth c nm k g mo ms ρ S = (mo ρ S).bind fun x S1 => match insOf [c] x S1 with
    | some t => if (t.2.2.lookup nm).isNone = true then (ms ρ S1).bind fun xs S2 => if xs.length + 1 = k then g (x :: xs) S2 else .bad else .bad
    | none => .bad := rfl
theorem mMake_ev {g : MF} {k : Nat} : mMake c k g ms ρ S = (ms ρ S).bind fun xs S1 => if xs.length + 1 = k then (g (.cell S1.length :: xs) (S1 ++ [.ins c []])).bind fun v S2 => match v with
    | .non => .ok (.cell S1.length) S2
    | _ => .bad
    else .bad := rfl
theorem mSetF_ev : mSetF cs f mo mv ρ S = (mv ρ S).ot ρ fun y S1 => (mo ρ S1).ot ρ fun x S2 => setFO cs f ρ y x S2 := by
  unfold mSetF
  cases mv ρ S with
  | ok v S1 =>
    simp only [bind_ok, ot_ok]
    cases mo ρ S1 <;> rfl
  | er c fs S1 => rfl
  | bad => rfl
theorem setFO_ev (h : S[n]? = some (.ins c fs)) (hc : cs.contains c = true) (hl : fs.length < 1000) : setFO cs f ρ y (.cell n) S = .nx ρ (S.set n (.ins c (putP f y fs))) := by
  unfold setFO
  rw [insOf_ev h hc]
  simp only [hl, if_true]
theorem last_at {o : MO} : (S ++ [o])[S.length]? = some o := by simp
theorem last_set {o o' : MO} : (S ++ [o]).set S.length o' = S ++ [o'] := by simp
end
end Pm
namespace Gx
open PySem PySem.Spec PyProof.Rows L2
open AutoSeq1 (wpAny_loadPart')
/-! ### enumerate of a tuple -/
theorem draws_tup {prog : Program} {w : World} {A : Around} (hh : A.handled = none) (it l : Addr) (hne : l ≠ it) (items : Array Value) :
    Draws prog w A it [it, l] items.size (fun i v => items[i]? = some v) (fun i h => h.IsTupleIter it l i ∧ h.IsTuple l items) where
  live := fun _ _ st => let ⟨o, ho, _⟩ := st.1; ⟨o, ho⟩
  frame := fun _ _ _ st hk => ⟨st.1.at fun o e => hk it (by simp) o e, let ⟨o, e, r⟩ := st.2; ⟨o, hk l (by simp) o e, r⟩⟩
  item := fun i s Q E hi st hQ => by
    refine RZ.nextOf_tuple_item st.1 st.2 (x := items[i]) (by simp [hi]) fun h' hit' hs' => ?_
    exact hQ _ h' s.toks (by simp [hi]) ⟨hit', let ⟨o, e, r⟩ := st.2; ⟨o, hs'.extBut l o hne e, r⟩⟩ hs'
  done := fun s Q E st hE => RZ.nextOf_tuple_end hh st.1 st.2 (by simp) hE
set_option maxHeartbeats 1000000 in
theorem meets_enumerate_newT (l : Addr) (items : Array Value) (ol : Obj) :
    Meets (Builtin.«enumerate.__new__» ⟨[.type "enumerate", .ref l], []⟩) (fun _ R s => (s.heap.get? l = some ol ∧ s.heap.IsTuple l items) ∧
      R (.ok (.ret (.ref (s.heap.push { cls := .type "tuple_iterator", data := .fields #[.ref l, .int 0 0] }).objs.size)))
        { s with heap := (s.heap.push { cls := .type "tuple_iterator", data := .fields #[.ref l, .int 0 0] }).push { cls := .type "enumerate", data := .fields #[.none, .bool false, .ref s.heap.objs.size, rawInt 0, .none, .none] } }) :=
  .of_wp fun prog w A R s h => by
    obtain ⟨hp, g, d, tk, os⟩ := s; obtain ⟨⟨hl, hL⟩, h⟩ := h
    have hsub := sub_enumerate
    wp_walk using wpAny_loadPart' hl
    refine wpAny_stack_any fun st => wpAny_pure ?_
    split
    · rename_i c _ _ _ _ _
      cases (c == Value.type "enumerate")
      · wp_walk using wpAny_loadPart' hl, wpAny_pyIter_tuple hL
        exact ⟨_, rfl, h⟩
      · wp_walk using wpAny_loadPart' hl, wpAny_pyIter_tuple hL
        exact ⟨_, rfl, h⟩
    · wp_walk using wpAny_loadPart' hl, wpAny_pyIter_tuple hL
      exact ⟨_, rfl, h⟩
section
variable {prog : Program} {w : World} {A : Around} {E : Value → Shared → Prop} {s : Shared}
theorem call_enumerate_tup {l : Addr} {items : Array Value} {Q : Value → Shared → Prop} (hL : s.heap.IsTuple l items)
    (h : ∀ h', IsEnum h' (s.heap.objs.size + 1) s.heap.objs.size 0 .none → h'.IsTupleIter s.heap.objs.size l 0 → h'.objs.size = s.heap.objs.size + 2 →
      (∀ b o, s.heap.get? b = some o → h'.get? b = some o) → Q (.ref (s.heap.objs.size + 1)) { s with heap := h' }) :
    wpAny (model prog w) A (call (.type "enumerate") [.ref l]) Q E s := by
  obtain ⟨ol, hl, _⟩ := id hL
  refine callType_new F.called_enumerate (by decide) (F.typeCall_enumerate_1 _) (F.newCall_enumerate_1 _) (fun obj => F.args_object_init_2 obj _) F.entry_enumerate_new
    (meets_enumerate_newT l items ol) ⟨⟨hl, hL⟩, ?_⟩
  have hz : (s.heap.push { cls := .type "tuple_iterator", data := .fields #[.ref l, .int 0 0] }).objs.size = s.heap.objs.size + 1 := Heap.size_push ..
  show _ ∧ _
  rw [hz]
  have he : IsEnum ((s.heap.push { cls := .type "tuple_iterator", data := .fields #[.ref l, .int 0 0] }).push
      { cls := .type "enumerate", data := .fields #[.none, .bool false, .ref s.heap.objs.size, rawInt 0, .none, .none] }) (s.heap.objs.size + 1) s.heap.objs.size 0 .none := by
    have := Heap.get?_push_size (s.heap.push { cls := .type "tuple_iterator", data := .fields #[.ref l, .int 0 0] })
      (o := { cls := .type "enumerate", data := .fields #[.none, .bool false, .ref s.heap.objs.size, rawInt 0, .none, .none] }) rfl
    rw [hz] at this; exact this
  refine ⟨⟨_, he, rfl⟩, h _ he ⟨_, Heap.get?_push_of_some _ (Heap.get?_push_size _ rfl), rfl, rfl⟩ (by rw [Heap.size_push, hz]) fun b o x => Heap.get?_push_of_some _ (Heap.get?_push_of_some _ x)⟩
end
theorem wpAny_pyNext_enum_endT {prog : Program} {w : World} {A : Around} {E : Value → Shared → Prop} {s : Shared} {e it l : Addr} {i : Nat} {items : Array Value} {old : Value} {Q : Option Value → Shared → Prop} (hh : A.handled = none)
    (he : IsEnum s.heap e it i old) (hit : s.heap.IsTupleIter it l i) (hl : s.heap.IsTuple l items) (hx : items[i]? = none)
    (hQ : ∀ h', Heap.ExtBut it s.heap h' → Q none { s with heap := h' }) : wpAny (model prog w) A (pyNext (.ref e)) Q E s := by
  have hT : s.TypeIs (.ref e) "enumerate" := ⟨_, he, rfl⟩
  unfold pyNext
  refine wpAny_bind (wpAny_attempt (wpAny_callSpecial?_slot (name := Str.ofString "__next__") hT F.slot_enumerate_next
    (wpAny_call_entry F.slot_enumerate_next hT F.entry_enumerate_next ?_ (F.args_enumerate_next_1 _))))
  show wpAny _ _ (field (.ref e) 2 >>= _) _ _ _
  refine wpAny_bind (wpAny_field he rfl (x := .ref it) rfl ?_)
  refine wpAny_bind (RZ.nextOf_tuple_end hh hit hl hx fun h' x he' hx' => ?_)
  obtain ⟨o, ho, hc⟩ := hx'
  refine wpAny_bind (wpAny_isInstance (T := "StopIteration") (b := true) ⟨o, ho, hc⟩ isSubtype_stop ?_)
  exact wpAny_pure (hQ _ he')
/-- the tuple at a, each item in a new pair -/
def IteT (K : PySem.W.Frag) (a : Addr) : It :=
  ⟨fun i H => ∃ (xs : List V) (x : V), SqT K H a xs ∧ xs[i]? = some x, fun i H v H' => ∃ T x, v = .ref T ∧ H T = none ∧ H' = upd H T (.tup [.int (i : Nat), x]) ∧ ∀ xs, SqT K H a xs → xs[i]? = some x, fun i H => ∃ xs : List V, SqT K H a xs ∧ xs.length ≤ i⟩
theorem turn_enumT {P : Program} {w : World} {K : PySem.W.Frag} {elts : List Expr} {kk : Nat} {tpos : Pos} (a e it : Addr) :
    Turn P w K (.Tuple elts kk tpos) (IteT K a) [e, it] e (fun i h => (∃ old, IsEnum h e it ((i : Nat) : Int) old) ∧ h.IsTupleIter it a i ∧ e ≠ it ∧ a ≠ it ∧ a ≠ e) where
  mem := by simp
  obj := fun i h st b hb => by
    obtain ⟨⟨old, he⟩, ⟨o, ho, hc, hd⟩, _⟩ := st
    have e' : b = e ∨ b = it := by simpa using hb
    rcases e' with z | z
    · rw [z]; exact ⟨_, he, fun v q => nomatch q⟩
    · rw [z]; exact ⟨o, ho, fun v q => by rw [hd] at q; cases q⟩
  keep := fun i h h' st k => let ⟨⟨old, he⟩, hi, hne⟩ := st; ⟨⟨old, k e (by simp) _ he⟩, hi.at fun o q => k it (by simp) o q, hne⟩
  item := by
    intro X hP hw hK hc i pins s σ H E I hf st hg
    subst hP hw hK
    obtain ⟨⟨old, he⟩, hit, hne, hai, hae⟩ := st
    obtain ⟨xs, x, hq, hx⟩ := hg
    obtain ⟨its, rv, p, hz⟩ := I.tuple hq
    obtain ⟨u, hu, ru⟩ := rv.get hx
    have hel : e < s.heap.objs.size := Heap.lt_size he
    have hil : it < s.heap.objs.size := by obtain ⟨_, q, _⟩ := hit; exact Heap.lt_size q
    have hT : s.heap.IsTuple a its.toArray := p
    have hlt : i < its.toArray.size := by
      have := (List.getElem?_eq_some_iff.mp hu).1
      simpa using this
    refine wpAny_pyNext_enum_itemD (draws_tup (prog := X.prog) (w := X.w) (A := X.A.in1) (I.ok.hd hc) it a hai its.toArray) he ⟨hit, hT⟩ hlt hne (by simp [hne, Ne.symm hae]) fun x' h' tk hx' ho hst' hTu hsz hk => ?_
    have ex : x' = u := by
      have h1 : its[i]? = some x' := by simpa using hx'
      rw [hu] at h1
      exact (Option.some.inj h1).symm
    subst ex
    refine ⟨_, rfl, wpAny_letOwnedTupleGo_enum (s := { s with heap := h', toks := tk + 1 }) ho fun h'' he' sb => ?_⟩
    have hT2 : h''.get? s.heap.objs.size = some { cls := .type "tuple", data := .seq #[.int i tk, x'] } := (sb.2 _ (Nat.ne_of_gt hel)).trans hTu
    have new : ObjOk X.prog X.w (upd H s.heap.objs.size (.tup [.int (i : Nat), x])) h'' s.heap.objs.size (.tup [.int (i : Nat), x]) :=
      ⟨by show 2 ≤ sizeLine; decide, [.int i tk, x'], .cons ⟨_, rfl⟩ (.cons ru .nil), ⟨_, hT2, rfl, _, rfl⟩⟩
    have I1 : Inv X pins σ (upd H s.heap.objs.size (.tup [.int (i : Nat), x])) { s with heap := h'', toks := tk + 1 } :=
      I.turnedNew (ch := [e, it]) (fun b ob hb q => (sb.2 b (fun z => hb (by simp [z]))).trans (hk b ob (fun z => hb (by simp [z])) (fun z => hb (by simp [z])) q)) hf (Nat.le_refl _) new
    refine ⟨.ref s.heap.objs.size, _, I1, rfl, ⟨_, x, rfl, I.hok.fresh (Nat.le_refl _), rfl, fun ys hy => by rw [I.tuple_inj hy hq]; exact hx⟩, ⟨⟨x', ?_⟩, hst'.1.at fun o q => (sb.2 it (Ne.symm hne)).trans q, hne, hai, hae⟩, fun b hb => ?_⟩
    · have e1 : ((i + 1 : Nat) : Int) = (i : Int) + 1 := by omega
      rw [e1]; exact he'
    · have hb' : b < s.heap.objs.size := by
        have e' : b = e ∨ b = it := by simpa using hb
        rcases e' with z | z
        · rw [z]; exact hel
        · rw [z]; exact hil
      rw [upd_ne (Nat.ne_of_lt hb')]
      exact (hf b hb).1
  done := by
    intro X hP hw hK hc i pins s σ H E I hf st hg
    subst hP hw hK
    obtain ⟨⟨old, he⟩, hit, hne, hai, hae⟩ := st
    obtain ⟨xs, hq, hx⟩ := hg
    obtain ⟨its, rv, p, hz⟩ := I.tuple hq
    obtain ⟨f0, f1, f2, f3, f4, f5⟩ := hf it (by simp)
    have hl := rv.length
    have hT : s.heap.IsTuple a its.toArray := p
    exact wpAny_pyNext_enum_endT (I.ok.hd hc) he hit hT (by simp; omega) fun h' eb => ⟨rfl, I.turned (t' := s.toks) (fun b o hb q => eb b o hb q) f0 f1 f3 f4 f5⟩
  self := fun A i s Q E st h => let ⟨⟨_, he⟩, _⟩ := st; wpAny_pyIter_enum he h
def iEnumT (K : PySem.W.Frag) (ta : TA) : TI := fun σ H R => ta σ H fun vs H1 => ∃ a xs, vs = [.ref a] ∧ SqT K H1 a xs ∧ R (IteT K a) H1
theorem pi_enumT {X : Cx} {e : Expr} {ta : TA} {p pos tpos : Pos} {elts : List Expr} {kk : Nat} (hg : Gl X "enumerate") (hm : X.mg "enumerate" = none) (ha : PA X [e] ta) (hs : starEach [e] X.env = [(false, eval e X.env)] := by rfl) :
    PI X (.Tuple elts kk tpos) (.Call (.Name "enumerate" p) [e] [] pos) (iEnumT X.K ta) := by
  refine ⟨fun pins s σ H R I h => ?_⟩
  refine Call_ (ld_blt I hg hm boot_enumerate (PyProof.Rows.callWith_type1 (thn (ha.run pos pins s σ H _ I h) fun us s1 ⟨vs, H1, I1, r1, q1⟩ => ?_) hs rfl))
  obtain ⟨a, xs, ex, hq, q⟩ := q1
  subst ex
  cases r1 with
  | cons r rr =>
    cases rr
    cases r
    obtain ⟨its, rv, p', hz⟩ := I1.tuple hq
    have hT : s1.heap.IsTuple a its.toArray := p'
    have hal : a < s1.heap.objs.size := by obtain ⟨o, q, _⟩ := hT; exact Heap.lt_size q
    refine call_enumerate_tup hT fun h' he hit hsz hk => wpAny_pyIter_enum he ?_
    have I2 : Inv X pins σ H1 { s1 with heap := h' } := I1.kept (t' := s1.toks) hk
    refine ⟨s1.heap.objs.size + 1, [s1.heap.objs.size + 1, s1.heap.objs.size], _, _, H1, rfl, I2, turn_enumT a (s1.heap.objs.size + 1) s1.heap.objs.size, ⟨⟨.none, he⟩, hit, Nat.succ_ne_self _, Nat.ne_of_lt hal, Nat.ne_of_lt (Nat.lt_succ_of_lt hal)⟩, fun b hb => ?_, q⟩
    have e' : b = s1.heap.objs.size + 1 ∨ b = s1.heap.objs.size := by simpa using hb
    have hle : s1.heap.objs.size ≤ b := by
      rcases e' with z | z
      · rw [z]; exact Nat.le_add_right _ _
      · rw [z]; exact Nat.le_refl _
    exact I1.fpOk hle (I1.hok.fresh hle)
end Gx
namespace Pm
open PySem L2
/-! ### enumerate of a list or a tuple -/
def enumAM (xs : List PV) (S : Sto) : Rs Itm := match xs with
  | [.tup ys] => .ok ⟨enumP 0 ys, []⟩ S
  | _ => enumM xs S
theorem iok_enumT {K : PySem.W.Frag} {g : Sg} {α0 : List Addr} {H0 : Hp} {a : Addr} {vs : List V} {ys : List PV} (h0 : SqT K H0 a vs) (d0 : Dens K α0 H0 ys vs) : Iok K g α0 H0 ⟨enumP 0 ys, []⟩ (Gx.IteT K a) := by
  intro α H S pre kp r ck i
  have hs := kp.tup h0
  have d := d0.mono pre kp
  refine ⟨fun x e => ?_, fun hl => ⟨vs, hs, ?_⟩⟩
  · obtain ⟨y, h1, rfl⟩ := enumP_get e
    obtain ⟨v, hv, dv⟩ := d.get h1
    refine ⟨⟨vs, v, hs, hv⟩, ?_⟩
    rintro w H' ⟨T, z, rfl, hT, rfl, hz⟩
    have := hz vs hs
    rw [hv] at this
    cases this
    rw [Nat.zero_add]
    exact iok_pair r hT (.int _) dv
  · have : (enumP 0 ys).length ≤ i := hl
    rw [enumP_len] at this
    rw [← d.length]
    exact this
section
variable {X : Cx} {g : Sg} {W : WX} {e : Expr} {ms : MA} {pos p : Pos}
theorem ri_enumA {tpos : Pos} {elts : List Expr} {kk : Nat} (hg : Gl X "enumerate") (hm : X.mg "enumerate" = none) (ha : RA X g W [e] ms) (hs : starEach [e] X.env = [(false, eval e X.env)] := by rfl) :
    RI X g W (.Tuple elts kk tpos) (.Call (.Name "enumerate" p) [e] [] pos) (mItA enumAM ms) := by
  have hl := ri_enum (W := W) (g := g) (tpos := tpos) (elts := elts) (kk := kk) (p := p) (pos := pos) hg hm ha hs
  refine pi_le (pi_or (Gx.pi_enumT hg hm ha hs) hl) fun σ H R ⟨α, ρ, S, r, q⟩ => ?_
  unfold mItA at q
  cases e0 : ms ρ S with
  | er c fs S1 =>
    rw [e0] at q
    exact .inl ⟨α, ρ, S, r, by rw [e0]; exact q⟩
  | bad => rw [e0] at q; exact q.elim
  | ok xs S1 =>
    rw [e0] at q
    by_cases ht : ∃ ys, xs = [.tup ys]
    · obtain ⟨ys, rfl⟩ := ht
      refine .inl ⟨α, ρ, S, r, ?_⟩
      rw [e0]
      intro α1 H1 p1 k1 r1 vs dvs
      obtain ⟨v, rfl, dv⟩ := dvs.one
      cases dv with
      | tup h0 d => exact ⟨_, _, rfl, h0, q α1 H1 p1 k1 r1 _ (iok_enumT h0 d)⟩
    · refine .inr ⟨α, ρ, S, r, ?_⟩
      unfold mItA
      rw [e0]
      have e1 : enumAM xs S1 = enumM xs S1 := by
        unfold enumAM
        split
        · exact absurd ⟨_, rfl⟩ ht
        · rfl
      rw [bind_ok, e1] at q
      rw [bind_ok]
      exact q
end
theorem enumA_ev {ys : List PV} {S : Sto} : enumAM [.tup ys] S = .ok ⟨enumP 0 ys, []⟩ S := rfl
end Pm
namespace Pm
open PySem L2
/-! ### a tuple times an int -/
def mulTM : PV → PV → Sto → Rs PV
  | .tup xs, .int k, S => if xs ≠ [] ∧ 2 ≤ k ∧ k ≤ 1000 ∧ xs.length ≤ 1000 then .ok (.tup (List.replicate k.toNat xs).flatten) S else .bad
  | x, y, S => mulM x y S
def rMulT (K : PySem.W.Frag) : R2 := fun x y H Q => rRepT K x y H Q ∨ rMul x y H Q
section
variable {X : Cx} {g : Sg} {W : WX}
theorem opr_mulT : OpR X (binaryOp .Mult) (rMulT X.K) := op_repT.or opr_mul
theorem opm_mulT : OpM X g W (rMulT X.K) mulTM := by
  intro α σ H ρ S x y v u Q r dx dy q
  by_cases ht : ∃ xs k, x = .tup xs ∧ y = .int k
  · obtain ⟨xs, k, rfl, rfl⟩ := ht
    cases dy
    cases dx with
    | tup h d =>
      simp only [mulTM] at q
      split at q
      · rename_i hk
        refine .inl ⟨_, k, _, rfl, rfl, h, ?_, hk.2.1, hk.2.2.1, by rw [← d.length]; exact hk.2.2.2, fun p hp => fin_tup r hp (d.rep k.toNat) q⟩
        intro e
        rw [e] at d
        cases d
        exact hk.1 rfl
      · exact q.elim
  · have e : mulTM x y S = mulM x y S := by
      unfold mulTM
      split
      · exact absurd ⟨_, _, rfl, rfl⟩ ht
      · rfl
    rw [e] at q
    exact .inr (opm_mul _ _ _ _ _ _ _ _ _ _ r dx dy q)
end
theorem mulT_ev {xs : List PV} {k : Int} {S : Sto} (h : xs ≠ [] ∧ 2 ≤ k ∧ k ≤ 1000 ∧ xs.length ≤ 1000) : mulTM (.tup xs) (.int k) S = .ok (.tup (List.replicate k.toNat xs).flatten) S := if_pos h
theorem mulTi_ev {i j : Int} {S : Sto} (h : mulOk i j = true) : mulTM (.int i) (.int j) S = .ok (.int (i * j)) S := by
  simp [mulTM, mulM, h]
end Pm
namespace Pm
open PySem L2 PySem.Spec PyProof.Rows
/-! ### x in l, x not in l, for data of any depth -/
def rInX (K : PySem.W.Frag) (neg : Bool) : R2 := fun x y H Q => ∃ d ds, Dp K H x d ∧ (Dp K H y (.list ds) ∨ Dp K H y (.tuple ds)) ∧ SeqAt.shaped d = true ∧ SeqAt.shaped (.list ds) = true ∧ Q (.bl (neg ^^ ds.any fun z => PyData.eqv z d)) H
def inM (neg : Bool) (x y : PV) (S : Sto) : Rs PV := match pd S 200 x, pd S 200 y with
  | some d, some (.list ds) => if SeqAt.shaped d = true ∧ SeqAt.shaped (.list ds) = true then .ok (.bl (neg ^^ ds.any fun z => PyData.eqv z d)) S else .bad
  | some d, some (.tuple ds) => if SeqAt.shaped d = true ∧ SeqAt.shaped (.list ds) = true then .ok (.bl (neg ^^ ds.any fun z => PyData.eqv z d)) S else .bad
  | _, _ => .bad
section
variable {X : Cx} {g : Sg} {W : WX}
theorem opr_in (hu : X.A.units + 65 < cLine) : OpR X (compareOp .In) (rInX X.K false) := by
  intro pins s σ H x y v u Q I rx ry ⟨d, ds, hd, he, sd, se, q⟩
  obtain ⟨as, r1⟩ := Dp.reads I d x v hd rx
  have q' : Q (.bl (ds.any fun z => PyData.eqv z d)) H := by simpa using q
  rcases he with he | he
  · obtain ⟨bs, r2⟩ := Dp.reads I (.list ds) y u he ry; exact SeqAt.in_list_reads r2 r1 (SeqAt.canLay_of_shaped se) (SeqAt.canLay_of_shaped sd) (PyProof.Rows.room_in_shaped sd hu) ⟨.bl _, H, I, rfl, q'⟩
  · obtain ⟨bs, r2⟩ := Dp.reads I (.tuple ds) y u he ry; exact SeqAt.in_tuple_reads r2 r1 (SeqAt.canLay_of_shaped se) (SeqAt.canLay_of_shaped sd) (PyProof.Rows.room_in_shaped sd hu) ⟨.bl _, H, I, rfl, q'⟩
theorem opr_nin (hu : X.A.units + 65 < cLine) : OpR X (compareOp .NotIn) (rInX X.K true) := by
  intro pins s σ H x y v u Q I rx ry ⟨d, ds, hd, he, sd, se, q⟩
  obtain ⟨as, r1⟩ := Dp.reads I d x v hd rx
  have q' : Q (.bl (!ds.any fun z => PyData.eqv z d)) H := by simpa using q
  rcases he with he | he
  · obtain ⟨bs, r2⟩ := Dp.reads I (.list ds) y u he ry; exact SeqAt.notIn_list_reads r2 r1 (SeqAt.canLay_of_shaped se) (SeqAt.canLay_of_shaped sd) (PyProof.Rows.room_in_shaped sd hu) ⟨.bl _, H, I, rfl, q'⟩
  · obtain ⟨bs, r2⟩ := Dp.reads I (.tuple ds) y u he ry; exact SeqAt.notIn_tuple_reads r2 r1 (SeqAt.canLay_of_shaped se) (SeqAt.canLay_of_shaped sd) (PyProof.Rows.room_in_shaped sd hu) ⟨.bl _, H, I, rfl, q'⟩
theorem opm_in {neg : Bool} : OpM X g W (rInX X.K neg) (inM neg) := by
  intro α σ H ρ S x y v u Q r dx dy q
  unfold inM at q
  split at q
  · rename_i d ds h1 h2
    split at q
    · rename_i h; exact ⟨d, ds, dp_of r.obj dx h1, .inl (dp_of r.obj dy h2), h.1, h.2, q.here r _ (.bl _)⟩
    · exact q.elim
  · rename_i d ds h1 h2
    split at q
    · rename_i h; exact ⟨d, ds, dp_of r.obj dx h1, .inr (dp_of r.obj dy h2), h.1, h.2, q.here r _ (.bl _)⟩
    · exact q.elim
  · exact q.elim
end
/-! ### the order of data: ints, texts, tuples of these -/
mutual
def ltD : PyData → PyData → Option Bool
  | .int i, .int j => some (decide (i < j))
  | .str a, .str b => some (decide (a.cps.toList < b.cps.toList))
  | .tuple xs, .tuple ys => ltDs xs ys
  | _, _ => none
def ltDs : List PyData → List PyData → Option Bool
  | [], [] => some false
  | [], _ :: _ => some true
  | _ :: _, [] => some false
  | x :: xs, y :: ys => if PyData.eqv x y = true then ltDs xs ys else match ltD x y, ltDs xs ys with
    | some b, some _ => some b
    | _, _ => none
end
theorem lexAt_shift {e r : Nat → Bool} {z : Bool} : ∀ (k i : Nat), Ob.lexAt e r z (i + 1) k = Ob.lexAt (fun j => e (j + 1)) (fun j => r (j + 1)) z i k
  | 0, _ => rfl
  | k + 1, i => by rw [Ob.lexAt_succ, Ob.lexAt_succ, lexAt_shift k (i + 1)]
theorem lt_str_rc {A : Around} {s : Shared} (a b : Str) (t u : Tok) : Ob.RcOp .Lt A s (.str a t) (.str b u) (decide (a.cps.toList < b.cps.toList)) := fun _ _ _ _ h => PyProof.Rows.lt_str h
theorem reads_tup {h : Heap} {v : Value} {xs : List PyData} {as : List Addr} (r : Reads h v (.tuple xs) as) : ∃ (a : Addr) (vs : Array Value), v = .ref a ∧ h.IsTuple a vs ∧ ReadsAll h vs.toList xs as := by
  cases r with
  | tuple h1 h2 h3 h4 => exact ⟨_, _, rfl, ⟨_, h1, h2, _, h3⟩, h4⟩
theorem reads_cons {h : Heap} {us : List Value} {x : PyData} {xs : List PyData} {as : List Addr} (r : ReadsAll h us (x :: xs) as) : ∃ (v : Value) (vs : List Value) (bs cs : List Addr), us = v :: vs ∧ Reads h v x bs ∧ ReadsAll h vs xs cs := by
  cases r with
  | cons h1 h2 => exact ⟨_, _, _, _, rfl, h1, h2⟩
theorem reads_nil {h : Heap} {us : List Value} {as : List Addr} (r : ReadsAll h us [] as) : us = [] := by
  cases r; rfl
theorem pair_zero {x y : PyData} {xs ys : List PyData} : SeqAt.pairEq (x :: xs) (y :: ys) 0 = PyData.eqv x y := by simp [SeqAt.pairEq]
theorem pair_succ {x y : PyData} {xs ys : List PyData} : (fun j => SeqAt.pairEq (x :: xs) (y :: ys) (j + 1)) = SeqAt.pairEq xs ys := by
  funext j; simp [SeqAt.pairEq]
def LtOk (s : Shared) (A : Around) (a b : Value) (z : Bool) : Prop := Ob.RcOp .Lt A s a b z
def LtAll (s : Shared) (A : Around) (xs ys : List PyData) (vs ws : List Value) (z : Bool) : Prop := ∃ rf : Nat → Bool, (∀ j (h1 : j < vs.length) (h2 : j < ws.length), SeqAt.pairEq xs ys j = false → LtOk s A vs[j] ws[j] (rf j)) ∧
  Ob.lexAt (SeqAt.pairEq xs ys) rf (decide (xs.length < ys.length)) 0 (min xs.length ys.length) = z
theorem lt_cons_eq {s : Shared} {A : Around} {x y : PyData} {xs ys : List PyData} {v w : Value} {vs ws : List Value} {z : Bool} (he : PyData.eqv x y = true) (h : LtAll s A xs ys vs ws z) : LtAll s A (x :: xs) (y :: ys) (v :: vs) (w :: ws) z := by
  obtain ⟨rf, g1, g2⟩ := h
  refine ⟨fun | 0 => false | j + 1 => rf j, fun j h1 h2 e => ?_, ?_⟩
  · cases j with
    | zero => rw [pair_zero, he] at e; cases e
    | succ j => exact g1 j (Nat.lt_of_succ_lt_succ h1) (Nat.lt_of_succ_lt_succ h2) (by rw [← pair_succ (x := x) (y := y)]; exact e)
  · have el : min (x :: xs).length (y :: ys).length = min xs.length ys.length + 1 := by simp only [List.length_cons]; omega
    have ez : decide ((x :: xs).length < (y :: ys).length) = decide (xs.length < ys.length) := by simp
    rw [el, ez, Ob.lexAt_succ, pair_zero, if_pos he, lexAt_shift, pair_succ]
    exact g2
theorem lt_cons_ne {s : Shared} {A : Around} {x y : PyData} {xs ys : List PyData} {v w : Value} {vs ws : List Value} {z z' : Bool} (he : ¬ PyData.eqv x y = true) (c : LtOk s A v w z) (h : LtAll s A xs ys vs ws z') : LtAll s A (x :: xs) (y :: ys) (v :: vs) (w :: ws) z := by
  obtain ⟨rf, g1, g2⟩ := h
  refine ⟨fun | 0 => z | j + 1 => rf j, fun j h1 h2 e => ?_, ?_⟩
  · cases j with
    | zero => exact c
    | succ j => exact g1 j (Nat.lt_of_succ_lt_succ h1) (Nat.lt_of_succ_lt_succ h2) (by rw [← pair_succ (x := x) (y := y)]; exact e)
  · have el : min (x :: xs).length (y :: ys).length = min xs.length ys.length + 1 := by simp only [List.length_cons]; omega
    rw [el, Ob.lexAt_succ, pair_zero, if_neg he]
theorem lt_tuples {s : Shared} {A : Around} {xs ys : List PyData} {l m : Addr} {vs ws : Array Value} {as bs : List Addr} {z : Bool} (h1 : s.heap.IsTuple l vs) (h2 : s.heap.IsTuple m ws) (r1 : ReadsAll s.heap vs.toList xs as) (r2 : ReadsAll s.heap ws.toList ys bs)
    (ha : PyData.canLayAll0 xs = true) (hb : PyData.canLayAll0 ys = true) (hu : A.units + min (PyData.depthAll xs + 1) (PyData.depthAll ys + 1) < cLine) (h : LtAll s A.in1 xs ys vs.toList ws.toList z) : LtOk s A (.ref l) (.ref m) z := by
  obtain ⟨rf, g1, g2⟩ := h
  have e1 := SeqAt.ReadsAll.length _ _ _ r1
  have e2 := SeqAt.ReadsAll.length _ _ _ r2
  simp only [Array.length_toList] at e1 e2
  rw [← e1, ← e2] at g2
  rw [← g2]
  refine Ob.RcOp.tuples_lt h1 h2 (SeqAt.room_here hu) (fun j j1 j2 => ?_) (fun j j1 j2 z => ?_)
  · have := SeqAt.eqAt_readsAll xs ys A.in1 s vs.toList ws.toList _ _ r1 r2 ha hb (SeqAt.room_in hu) j (by simpa using j1) (by simpa using j2); simpa using this
  · have := g1 j (by simpa using j1) (by simpa using j2) z; simpa [LtOk] using this
mutual
theorem lt_reads {s : Shared} : ∀ (d e : PyData) (A : Around) (a b : Value) (as bs : List Addr) (z : Bool), Reads s.heap a d as → Reads s.heap b e bs → d.canLay0 = true → e.canLay0 = true →
    A.units + min d.depth e.depth < cLine → ltD d e = some z → LtOk s A a b z
  | .int i, e, A, a, b, as, bs, z, ra, rb, ha, hb, hu, q => by
    cases e with
    | int j => cases ra; cases rb; simp only [ltD, Option.some.injEq] at q; subst q; exact Ob.RcOp.lt_int _ _ _ _
    | _ => simp [ltD] at q
  | .str i, e, A, a, b, as, bs, z, ra, rb, ha, hb, hu, q => by
    cases e with
    | str j => cases ra; cases rb; simp only [ltD, Option.some.injEq] at q; subst q; exact lt_str_rc _ _ _ _
    | _ => simp [ltD] at q
  | .tuple xs, e, A, a, b, as, bs, z, ra, rb, ha, hb, hu, q => by
    cases e with
    | tuple ys =>
      obtain ⟨l, vs, rfl, h1, r1⟩ := reads_tup ra
      obtain ⟨m, ws, rfl, h2, r2⟩ := reads_tup rb
      simp only [ltD] at q
      exact lt_tuples h1 h2 r1 r2 ha hb hu (lt_readsAll xs ys A.in1 _ _ _ _ z r1 r2 ha hb (SeqAt.room_in hu) q)
    | _ => simp [ltD] at q
  | .none, e, A, a, b, as, bs, z, ra, rb, ha, hb, hu, q => by simp [ltD] at q
  | .bool _, e, A, a, b, as, bs, z, ra, rb, ha, hb, hu, q => by simp [ltD] at q
  | .list _, e, A, a, b, as, bs, z, ra, rb, ha, hb, hu, q => by simp [ltD] at q
  | .dict _, e, A, a, b, as, bs, z, ra, rb, ha, hb, hu, q => by simp [ltD] at q
theorem lt_readsAll {s : Shared} : ∀ (xs ys : List PyData) (A : Around) (vs ws : List Value) (as bs : List Addr) (z : Bool), ReadsAll s.heap vs xs as → ReadsAll s.heap ws ys bs → PyData.canLayAll0 xs = true → PyData.canLayAll0 ys = true →
    A.units + min (PyData.depthAll xs) (PyData.depthAll ys) < cLine → ltDs xs ys = some z → LtAll s A xs ys vs ws z
  | [], ys, A, vs, ws, as, bs, z, r1, r2, ha, hb, hu, q => by
    have := reads_nil r1
    subst this
    refine ⟨fun _ => false, fun _ h1 _ _ => absurd h1 (Nat.not_lt_zero _), ?_⟩
    cases ys with
    | nil => simpa [ltDs, Ob.lexAt] using q
    | cons y ys => simpa [ltDs, Ob.lexAt] using q
  | x :: xs, ys, A, vs, ws, as, bs, z, r1, r2, ha, hb, hu, q => by
    cases ys with
    | nil =>
      have := reads_nil r2
      subst this
      refine ⟨fun _ => false, fun _ _ h2 _ => absurd h2 (Nat.not_lt_zero _), ?_⟩
      simpa [ltDs, Ob.lexAt] using q
    | cons y ys =>
      obtain ⟨v, vs, as1, as2, rfl, c1, c2⟩ := reads_cons r1
      obtain ⟨w, ws, bs1, bs2, rfl, d1, d2⟩ := reads_cons r2
      obtain ⟨a1, a2⟩ := (by simpa [PyData.canLayAll0] using ha : x.canLay0 = true ∧ PyData.canLayAll0 xs = true)
      obtain ⟨b1, b2⟩ := (by simpa [PyData.canLayAll0] using hb : y.canLay0 = true ∧ PyData.canLayAll0 ys = true)
      simp only [ltDs] at q
      by_cases he : PyData.eqv x y = true
      · rw [if_pos he] at q
        exact lt_cons_eq he (lt_readsAll xs ys A _ _ _ _ z c2 d2 a2 b2 (SeqAt.room_tail hu) q)
      · rw [if_neg he] at q
        cases e1 : ltD x y with
        | none => simp [e1] at q
        | some z1 =>
          cases e2 : ltDs xs ys with
          | none => simp [e1, e2] at q
          | some z2 =>
            simp only [e1, e2, Option.some.injEq] at q
            subst q
            exact lt_cons_ne he (lt_reads x y A _ _ _ _ z1 c1 d1 a1 b1 (SeqAt.room_head hu) e1) (lt_readsAll xs ys A _ _ _ _ z2 c2 d2 a2 b2 (SeqAt.room_tail hu) e2)
end
/-! ### min of a list of data -/
section
variable {prog : Program} {w : World} {A : Around} {R : Result → Shared → Prop}
def Old (h0 : Heap) (s : Shared) : Prop := ∀ b o, h0.get? b = some o → s.heap.get? b = some o
/-- the least one, as the walk finds it -/
theorem min_turns {h0 : Heap} {vs : Array Value} {bt : Nat → Nat → Bool} {I l S : Addr} (hh : A.handled = none) (nI : l ≠ I) (nS : S ∉ [I, l]) (fI : h0.objs.size ≤ I) (fS : h0.objs.size ≤ S)
    (cmp : ∀ (s : Shared) (i j : Nat) (hi : i < vs.size) (hj : j < vs.size) (Q : Value → Shared → Prop) (E : Value → Shared → Prop), Old h0 s → Q (.bool (bt i j)) s → wpAny (model prog w) A.in1 (richCompare .Lt vs[i] vs[j]) Q E s) :
    ∀ (k j : Nat) (s : Shared) (b : Value) (c : Nat), vs.size - (j + 1) = k → j + 1 ≤ vs.size → s.heap.IsListIter I l (j + 1) ∧ s.heap.IsList l vs → argBest bt j < vs.size → vs[argBest bt j]? = some b →
    s.heap.get? S = some { cls := .type "list", dict := none, data := .seq #[b, b] c, slots := #[] } → Old h0 s →
    (∀ v h' tk, vs[argBest bt (vs.size - 1)]? = some v → Old h0 { s with heap := h', toks := tk } → R (.ok (.ret v)) { s with heap := h', toks := tk }) → codeAny (model prog w) A (.builtin "min.loop" ⟨[.ref I, .none, .ref S], []⟩) R s := by
  have Wk := Walks.list (prog := prog) (w := w) (A := A.in1) hh I l nI vs
  have nS1 : S ∉ [I] := fun h => nS (by simp at h; simp [h])
  have hname : (toString "min" ++ toString ".loop" : String) = "min.loop" := by decide
  have neS : ∀ {b : Addr} {o : Obj}, h0.get? b = some o → S ≠ b := fun e q => absurd (q ▸ Heap.lt_size e) (Nat.not_lt.mpr fS)
  have neI : ∀ {b : Addr} {o : Obj}, h0.get? b = some o → b ∉ [I] := fun e q => absurd (List.mem_singleton.mp q ▸ Heap.lt_size e) (Nat.not_lt.mpr fI)
  intro k
  induction k with
  | zero =>
    intro j s b c hk hj st ha hb hS old hR
    have en : vs.size = j + 1 := by omega
    refine codeAny_builtin F.entry_min_loop ?_; rw [Around.under_plainId F.plain_min_loop _]; show wpAny _ A.in1 (seqItems? (.ref S) >>= _) _ _ s; refine wpAny_bind (wpAny_seqItems hS rfl ?_)
    show wpAny _ A.in1 (tryCatch (pyNext (.ref I)) _ >>= _) _ _ s; refine wpAny_bind (wpAny_tryCatch (Wk.done s _ _ (by rw [en]; exact st) fun h' tk hm => ?_))
    have hS' := hm S _ nS1 hS
    show wpAny _ A.in1 (updateSeq S (fun _ => #[]) >>= _) _ _ _; refine wpAny_bind ?_; refine wpAny_updateSeq hS' rfl (wpAny_bind (wpAny_letGo (wpAny_pure ?_)))
    refine hR b _ _ (by rw [en]; exact hb) fun x o e => ?_
    exact (Heap.get?_update_other _ _ (neS e)).trans (hm x o (neI e) (old x o e))
  | succ k ih =>
    intro j s b c hk hj st ha hb hS old hR
    have hlt : j + 1 < vs.size := by omega
    refine codeAny_builtin F.entry_min_loop ?_; rw [Around.under_plainId F.plain_min_loop _]; show wpAny _ A.in1 (seqItems? (.ref S) >>= _) _ _ s; refine wpAny_bind (wpAny_seqItems hS rfl ?_)
    show wpAny _ A.in1 (tryCatch (pyNext (.ref I)) _ >>= _) _ _ s; refine wpAny_bind (wpAny_tryCatch (Wk.item (j + 1) s _ _ hlt st fun v h' tk hP st' hm => ?_))
    have hS' := hm S _ nS1 hS
    have old' : Old h0 { s with heap := h', toks := tk } := fun x o e => hm x o (neI e) (old x o e)
    obtain ⟨_, ev⟩ := Array.getElem?_eq_some_iff.mp hP
    obtain ⟨_, eb⟩ := Array.getElem?_eq_some_iff.mp hb
    have c1 := fun Q E => cmp { s with heap := h', toks := tk } (j + 1) (argBest bt j) hlt ha Q E old'
    rw [ev, eb] at c1
    show wpAny _ A.in1 (tryCatch (holding [v, v] (richCompare .Lt v b >>= _)) _ >>= _) _ _ _; refine wpAny_bind (wpAny_tryCatch (wpAny_holding (wpAny_bind (c1 _ _ ?_))))
    refine wpAny_bind (wpAny_holding (wpAny_truthy_bool ?_)); refine wpAny_bind (wpAny_letGo (wpAny_pure ?_))
    cases hc : bt (j + 1) (argBest bt j) with
    | true =>
      have ea : argBest bt (j + 1) = j + 1 := by simp only [argBest, hc, if_true]
      simp only [if_true]; refine wpAny_bind ?_; refine wpAny_updateSeq hS' rfl (wpAny_bind (wpAny_letGo ?_)); rw [hname]
      refine wpAny_pure ⟨plainId_quiet F.plain_min_loop _, ih (j + 1) _ v _ (by omega) hlt (Wk.frame (j + 2) h' _ st' fun b hb e o => ?_) (by rw [ea]; exact hlt) (by rw [ea]; exact hP) (Heap.get?_update_self _ hS' rfl) (fun x o e => ?_) fun v' h2 t2 hv o2 => hR v' h2 t2 hv o2⟩
      · exact (Heap.get?_update_other _ _ (fun q : S = b => nS (by rw [q]; exact hb))).trans o
      · exact (Heap.get?_update_other _ _ (neS e)).trans (old' x o e)
    | false =>
      have ea : argBest bt (j + 1) = argBest bt j := by simp only [argBest, hc, Bool.false_eq_true, if_false]
      simp only [Bool.false_eq_true, if_false]; refine wpAny_bind (wpAny_letGo ?_); rw [hname]
      exact wpAny_pure ⟨plainId_quiet F.plain_min_loop _, ih (j + 1) _ b c (by omega) hlt st' (by rw [ea]; exact ha) (by rw [ea]; exact hb) hS' old' fun v' h2 t2 hv o2 => hR v' h2 t2 hv o2⟩
/-- the whole walk -/
theorem min_start {h0 : Heap} {vs : Array Value} {bt : Nat → Nat → Bool} {I l S : Addr} (hh : A.handled = none) (nI : l ≠ I) (nS : S ∉ [I, l]) (fI : h0.objs.size ≤ I) (fS : h0.objs.size ≤ S) (hn : 0 < vs.size)
    (cmp : ∀ (s : Shared) (i j : Nat) (hi : i < vs.size) (hj : j < vs.size) (Q : Value → Shared → Prop) (E : Value → Shared → Prop), Old h0 s → Q (.bool (bt i j)) s → wpAny (model prog w) A.in1 (richCompare .Lt vs[i] vs[j]) Q E s)
    (s : Shared) (c : Nat) (st : s.heap.IsListIter I l 0 ∧ s.heap.IsList l vs) (hS : s.heap.get? S = some { cls := .type "list", dict := none, data := .seq #[] c, slots := #[] }) (old : Old h0 s)
    (hR : ∀ v h' tk, vs[argBest bt (vs.size - 1)]? = some v → Old h0 { s with heap := h', toks := tk } → R (.ok (.ret v)) { s with heap := h', toks := tk }) : codeAny (model prog w) A (.builtin "min.loop" ⟨[.ref I, .none, .ref S], []⟩) R s := by
  have Wk := Walks.list (prog := prog) (w := w) (A := A.in1) hh I l nI vs
  have nS1 : S ∉ [I] := fun h => nS (by simp at h; simp [h])
  have hname : (toString "min" ++ toString ".loop" : String) = "min.loop" := by decide
  have neS : ∀ {b : Addr} {o : Obj}, h0.get? b = some o → S ≠ b := fun e q => absurd (q ▸ Heap.lt_size e) (Nat.not_lt.mpr fS)
  have neI : ∀ {b : Addr} {o : Obj}, h0.get? b = some o → b ∉ [I] := fun e q => absurd (List.mem_singleton.mp q ▸ Heap.lt_size e) (Nat.not_lt.mpr fI)
  refine codeAny_builtin F.entry_min_loop ?_; rw [Around.under_plainId F.plain_min_loop _]; show wpAny _ A.in1 (seqItems? (.ref S) >>= _) _ _ s; refine wpAny_bind (wpAny_seqItems hS rfl ?_)
  show wpAny _ A.in1 (tryCatch (pyNext (.ref I)) _ >>= _) _ _ s; refine wpAny_bind (wpAny_tryCatch (Wk.item 0 s _ _ hn st fun v h' tk hP st' hm => ?_))
  have hS' := hm S _ nS1 hS
  show wpAny _ A.in1 (updateSeq S (fun _ => #[v, v]) >>= _) _ _ _; refine wpAny_bind ?_; refine wpAny_updateSeq hS' rfl ?_; rw [hname]
  refine wpAny_pure ⟨plainId_quiet F.plain_min_loop _, min_turns (bt := bt) hh nI nS fI fS cmp _ 0 _ v _ rfl hn (Wk.frame 1 h' _ st' fun b hb e o => ?_) hn hP (Heap.get?_update_self _ hS' rfl) (fun x o e => ?_) fun v' h2 t2 hv o2 => hR v' h2 t2 hv o2⟩
  · exact (Heap.get?_update_other _ _ (fun q : S = b => nS (by rw [q]; exact hb))).trans o
  · exact (Heap.get?_update_other _ _ (neS e)).trans (hm x o (neI e) (old x o e))
theorem min_data {E : Value → Shared → Prop} {s : Shared} {l : Addr} {vs : Array Value} {bt : Nat → Nat → Bool} {Q : Value → Shared → Prop} (hh : A.handled = none) (hl : s.heap.IsList l vs) (hn : 0 < vs.size)
    (cmp : ∀ (s' : Shared) (i j : Nat) (hi : i < vs.size) (hj : j < vs.size) (Q : Value → Shared → Prop) (E : Value → Shared → Prop), Old s.heap s' → Q (.bool (bt i j)) s' → wpAny (model prog w) A.in1 (richCompare .Lt vs[i] vs[j]) Q E s')
    (h : ∀ v h' tk, vs[argBest bt (vs.size - 1)]? = some v → Old s.heap { s with heap := h', toks := tk } → Q v { s with heap := h', toks := tk }) : wpAny (model prog w) A (call (.builtin "min") [.ref l]) Q E s := by
  have hname : (toString "min" ++ toString ".loop" : String) = "min.loop" := by decide
  have hlt : l < s.heap.objs.size := by obtain ⟨_, e, _⟩ := hl; exact Heap.lt_size e
  refine call_function_tree F.kind_min F.plain_min F.entry_min (F.args_min1 _) ?_; show wpAny _ A.in1 (Builtin.Builtins.bindParams "min" ["key", "default"] 0 ⟨[], []⟩ >>= _) _ _ s
  refine wpAny_bind (wpAny_of_eq (show Builtin.Builtins.bindParams "min" ["key", "default"] 0 ⟨[], []⟩ = pure [none, none] from rfl) ?_); refine wpAny_bind (wpAny_pure ?_)
  refine wpAny_bind (wpAny_pyIter_list hl ?_); refine wpAny_bind (wpAny_newObj_type ?_); rw [hname]
  refine wpAny_pure ⟨plainId_quiet F.plain_min_loop _, min_start (h0 := s.heap) (bt := bt) (I := s.heap.objs.size) (l := l) hh (Nat.ne_of_lt hlt) (fun q => ?_) (Nat.le_refl _) (by rw [Heap.size_push]; exact Nat.le_succ _) hn cmp _ _ ⟨Heap.IsListIter.at ⟨_, Heap.get?_push_size _ rfl, rfl, rfl⟩ (fun _ e => Heap.get?_push_of_some _ e), (hl.push _).push _⟩ (Heap.get?_push_size _ rfl) (fun b o e => Heap.get?_push_of_some _ (Heap.get?_push_of_some _ e)) fun v h' tk hv old => h v h' tk hv old⟩
  have e1 : s.heap.objs.size < (s.heap.push { cls := .type "list_iterator", data := .fields #[.ref l, .int 0 0] }).objs.size := by rw [Heap.size_push]; exact Nat.lt_succ_self _
  rcases List.mem_cons.mp q with q | q
  · exact absurd (q ▸ e1) (Nat.lt_irrefl _)
  · exact absurd ((List.mem_singleton.mp q) ▸ e1) (Nat.not_lt.mpr (Nat.le_of_lt hlt))
end
/-- all comparisons of a list of data -/
def ltAllD (ds : List PyData) : Bool := ds.all fun d => ds.all fun e => (ltD d e).isSome
def ltAt (ds : List PyData) (i j : Nat) : Bool := match ds[i]?, ds[j]? with
  | some d, some e => (ltD d e).getD false
  | _, _ => false
theorem readsAll_at {h : Heap} : ∀ {ds : List PyData} {us : List Value} {as : List Addr} {i : Nat} (_ : ReadsAll h us ds as) (hi : i < us.length), ∃ d bs, ds[i]? = some d ∧ Reads h us[i] d bs
  | [], us, _, i, r, hi => by rw [reads_nil r] at hi; exact absurd hi (Nat.not_lt_zero _)
  | x :: xs, us, _, 0, r, hi => by
    obtain ⟨v, vs, bs, cs, rfl, c1, c2⟩ := reads_cons r
    exact ⟨x, bs, rfl, c1⟩
  | x :: xs, us, _, i + 1, r, hi => by
    obtain ⟨v, vs, bs, cs, rfl, c1, c2⟩ := reads_cons r
    exact readsAll_at c2 (Nat.lt_of_succ_lt_succ hi)
mutual
theorem reads_old {h h' : Heap} (k : ∀ b o, h.get? b = some o → h'.get? b = some o) : ∀ (d : PyData) {v : Value} {as : List Addr}, d.canLay0 = true → Reads h v d as → Reads h' v d as
  | .none, _, _, _, r => by cases r; exact .none
  | .bool _, _, _, _, r => by cases r; exact .bool _
  | .int _, _, _, _, r => by cases r; exact .int _ _
  | .str _, _, _, _, r => by cases r; exact .str _ _
  | .list xs, _, _, q, r => by
    cases r with
    | list h1 h2 h3 h4 => exact .list (k _ _ h1) h2 h3 (readsAll_old k xs q h4)
  | .tuple xs, _, _, q, r => by
    cases r with
    | tuple h1 h2 h3 h4 => exact .tuple (k _ _ h1) h2 h3 (readsAll_old k xs q h4)
  | .dict _, _, _, q, _ => nomatch q
theorem readsAll_old {h h' : Heap} (k : ∀ b o, h.get? b = some o → h'.get? b = some o) : ∀ (ds : List PyData) {us : List Value} {as : List Addr}, PyData.canLayAll0 ds = true → ReadsAll h us ds as → ReadsAll h' us ds as
  | [], _, _, _, r => by cases r; exact .nil
  | x :: xs, _, _, q, r => by
    obtain ⟨q1, q2⟩ := (by simpa [PyData.canLayAll0] using q : x.canLay0 = true ∧ PyData.canLayAll0 xs = true)
    cases r with
    | cons h1 h2 => exact .cons (reads_old k x q1 h1) (readsAll_old k xs q2 h2)
end
/-- min(xs) of a list of data: the first of the least ones -/
def rMinD (K : PySem.W.Frag) : List V → Hp → VK → Prop := fun vs H Q => ∃ (a : Addr) (xs : List V) (ds : List PyData) (x : V), vs = [V.ref a] ∧ SqL K H a xs ∧ DpAll K H xs ds ∧ SeqAt.shaped (.list ds) = true ∧ (∀ d ∈ ds, SeqAt.shaped d = true) ∧ ltAllD ds = true ∧
  xs[argBest (ltAt ds) (ds.length - 1)]? = some x ∧ Q x H
theorem cr_minD {X : Cx} (hc : X.calm = true) (hu : X.A.units + 66 < cLine) : CallR X (.builtin "min") (rMinD X.K) := by
  intro pins s σ H vs us Q I r ⟨a, xs, ds, x, e0, hs, hd, sl, sa, la, ex, q⟩
  subst e0
  obtain ⟨its, rv, hl, _⟩ := I.list hs
  rw [Vals.ref1 r]
  obtain ⟨as, ra⟩ := Dp.readsAll I ds xs its hd rv
  have n1 : its.length = ds.length := SeqAt.ReadsAll.length _ _ _ ra
  have n2 := rv.length
  obtain ⟨hx, _⟩ := List.getElem?_eq_some_iff.mp ex
  refine min_data (bt := ltAt ds) (I.ok.hd hc) hl.isList (by simp; omega) (fun s' i j hi hj Q' E' old q' => ?_) fun v h' tk hv old => ?_
  · have hi' : i < its.length := by simpa using hi
    have hj' : j < its.length := by simpa using hj
    obtain ⟨d, bs, d1, d2⟩ := readsAll_at ra hi'
    obtain ⟨e, cs, e1, e2⟩ := readsAll_at ra hj'
    have md : d ∈ ds := List.mem_of_getElem? d1
    have me : e ∈ ds := List.mem_of_getElem? e1
    have lt := List.all_eq_true.mp (List.all_eq_true.mp la d md) e me
    obtain ⟨z, hz⟩ := Option.isSome_iff_exists.mp lt
    have ez : ltAt ds i j = z := by simp [ltAt, d1, e1, hz]
    rw [ez] at q'
    have cd := SeqAt.canLay_of_shaped (sa d md)
    have ce := SeqAt.canLay_of_shaped (sa e me)
    have room : X.A.in1.units + min d.depth e.depth < cLine := by
      have := SeqAt.room_of_shaped (A := X.A.in1) (da := d) (db := e) (sa d md) (show X.A.units + 1 + 64 < cLine by omega)
      exact this
    have := lt_reads (s := s') d e X.A.in1 _ _ _ _ z (reads_old old d cd d2) (reads_old old e ce e2) cd ce room hz X.prog X.w E' Q' q'
    simpa using this
  · have hv' : its[argBest (ltAt ds) (ds.length - 1)]? = some v := by simpa [n1] using hv
    obtain ⟨u, hu', ru⟩ := Vals.get rv ex
    rw [hv'] at hu'
    cases hu'
    exact ⟨x, H, I.kept old, ru, q⟩
def minM : MF
  | [x], S => match lsOf x S with
    | some xs => match pds S 200 xs with
      | some ds => if SeqAt.shaped (.list ds) = true ∧ (ds.all fun d => SeqAt.shaped d) = true ∧ ltAllD ds = true then match xs[argBest (ltAt ds) (ds.length - 1)]? with
        | some y => .ok y S
        | none => .bad
        else .bad
      | none => .bad
    | none => .bad
  | _, _ => .bad
section
variable {X : Cx} {g : Sg} {W : WX}
theorem cam_min : CaM X g W (rMinD X.K) minM := by
  intro α σ H ρ S xs vs Q r d q
  rcases xs with _ | ⟨x, _ | ⟨y, tl⟩⟩ <;> first | exact False.elim q | (cases x <;> first | exact False.elim q | (cases y <;> exact False.elim q)) | skip
  obtain ⟨v, rfl, dv⟩ := d.one
  clear d
  simp only [minM] at q
  split at q
  · rename_i ns e
    obtain ⟨a, us, rfl, hs, du⟩ := lsOf_den r.obj dv e
    split at q
    · rename_i ds e2
      split at q
      · rename_i hh
        split at q
        · rename_i y ey
          obtain ⟨u, eu, dy⟩ := Dens.get du ey
          exact ⟨a, us, ds, u, rfl, hs, dps_of r.obj du e2, hh.1, fun z hz => List.all_eq_true.mp hh.2.1 z hz, hh.2.2, eu, q.here r _ dy⟩
        · exact q.elim
      · exact q.elim
    · exact q.elim
  · exact q.elim
end
theorem mulTs_ev {xs : List PV} {k : Int} {S : Sto} (h : xs ≠ [] ∧ 2 ≤ k ∧ k ≤ 1000 ∧ xs.length ≤ 1000) : mulTM (.tup xs) (.int k) S = .ok (.tup (List.replicate k.toNat xs).flatten) S := if_pos h
end Pm
namespace Pm
open PySem L2 PySem.Spec PyProof.Rows
/-! ### a tuple times 0 and 1 -/
theorem tup_mul1 (l : Addr) (items : Array Value) (n : Nat) (sl : Array (Option Value)) (dd : Option Addr) (u : Tok) :
    Meets (Builtin.«tuple.__mul__» ⟨[.ref l, .int 1 u], []⟩) (fun _ R s => s.heap.get? l = some { cls := .type "tuple", dict := dd, data := .seq items n, slots := sl } ∧ R (.ok (.ret (.ref l))) s) :=
  .of_wp fun prog w A R s h => by
    obtain ⟨hp, g, d, tk, os⟩ := s; obtain ⟨hl, h⟩ := h
    have f1 := AutoSeq1.idx_int
    wp_walk using wpAny_loadPart' hl
    exact ⟨_, rfl, h⟩
theorem tup_mul0 (l : Addr) (items : Array Value) (n : Nat) (sl : Array (Option Value)) (dd : Option Addr) (u : Tok) (hi : items.isEmpty = false) :
    Meets (Builtin.«tuple.__mul__» ⟨[.ref l, .int 0 u], []⟩) (fun _ R s => s.heap.get? l = some { cls := .type "tuple", dict := dd, data := .seq items n, slots := sl } ∧
      R (.ok (.ret (Value.ref s.heap.objs.size))) { s with heap := s.heap.push { cls := Value.type "tuple", data := Data.seq #[] }, toks := s.toks }) :=
  .of_wp fun prog w A R s h => by
    obtain ⟨hp, g, d, tk, os⟩ := s; obtain ⟨hl, h⟩ := h
    have f1 := AutoSeq1.idx_int
    wp_walk using wpAny_loadPart' hl
    exact ⟨_, rfl, h⟩
def rRep01 (K : PySem.W.Frag) : R2 := fun x y H Q => ∃ l xs, x = .ref l ∧ SqT K H l xs ∧ xs ≠ [] ∧ ((y = .int 1 ∧ Q (.ref l) H) ∨ (y = .int 0 ∧ ∀ p, H p = none → Q (.ref p) (upd H p (.tup []))))
theorem op_rep01 {X : Cx} : OpR X (binaryOp .Mult) (rRep01 X.K) := by
  intro pins s σ H x y v u Q I rx ry ⟨l, xs, ex, hT, hne, q⟩
  subst ex
  cases rx
  obtain ⟨its, r, ⟨⟨cls, dd, data, sl⟩, ho, hc, n, hd⟩, hs⟩ := I.tuple hT
  simp only at hc hd
  subst hc hd
  have hi : its.toArray.isEmpty = false := by
    cases its with
    | nil => cases r; exact absurd rfl hne
    | cons a b => rfl
  rcases q with ⟨ey, q⟩ | ⟨ey, q⟩ <;> subst ey <;> obtain ⟨t, rfl⟩ := ry
  · exact wpAny_binaryOp_repeat_ref (T := "tuple") (U := "int") (by decide) ⟨_, ho, rfl⟩ (fun s' => typeIs_int s' 1 t) noFill_tuple_mul F.fills_int_mul F.slot_int_rmul repeat_tuple F.slot_int_index.lookup
      (call_meets F.slot_int_rmul (typeIs_int s 1 t) F.entry_int_rmul (F.args_int_rmul_2 _ _) (int_rmul_tuple 1 t l its.toArray n dd sl) ⟨ho, rfl, ⟨_, ho, rfl⟩, call_meets F.slot_tuple_mul ⟨_, ho, rfl⟩ F.entry_tuple_mul (F.args_tuple_mul_2 _ _) (tup_mul1 l its.toArray n sl dd t) ⟨ho, .ref l, H, I, rfl, q⟩⟩)
  · exact wpAny_binaryOp_repeat_ref (T := "tuple") (U := "int") (by decide) ⟨_, ho, rfl⟩ (fun s' => typeIs_int s' 0 t) noFill_tuple_mul F.fills_int_mul F.slot_int_rmul repeat_tuple F.slot_int_index.lookup
      (call_meets F.slot_int_rmul (typeIs_int s 0 t) F.entry_int_rmul (F.args_int_rmul_2 _ _) (int_rmul_tuple 0 t l its.toArray n dd sl) ⟨ho, rfl, ⟨_, ho, rfl⟩, call_meets F.slot_tuple_mul ⟨_, ho, rfl⟩ F.entry_tuple_mul (F.args_tuple_mul_2 _ _) (tup_mul0 l its.toArray n sl dd t hi)
        ⟨ho, .ref s.heap.objs.size, _, I.laid (t' := s.toks) (o := .tup []) (fun b ob q => Heap.get?_push_of_some _ q) (Nat.le_refl _) ⟨Nat.zero_le _, _, .nil, IsTup.new _ _⟩, rfl, q _ (I.hok.fresh (Nat.le_refl _))⟩⟩)
/-- a tuple times an int from 0 to 1000, or numbers -/
def mulUM : PV → PV → Sto → Rs PV
  | .tup (x :: xs), .int 0, S => .ok (.tup []) S
  | .tup (x :: xs), .int 1, S => .ok (.tup (x :: xs)) S
  | x, y, S => mulTM x y S
def rMulU (K : PySem.W.Frag) : R2 := fun x y H Q => rRep01 K x y H Q ∨ rMulT K x y H Q
section
variable {X : Cx} {g : Sg} {W : WX}
theorem opr_mulU : OpR X (binaryOp .Mult) (rMulU X.K) := op_rep01.or opr_mulT
theorem opm_mulU : OpM X g W (rMulU X.K) mulUM := by
  intro α σ H ρ S x y v u Q r dx dy q
  unfold mulUM at q
  split at q
  · cases dx with
    | tup h d =>
      cases dy
      exact .inl ⟨_, _, rfl, h, by cases d; simp, .inr ⟨rfl, fun p hp => fin_tup r hp .nil q⟩⟩
  · cases dx with
    | tup h d =>
      cases dy
      exact .inl ⟨_, _, rfl, h, by cases d; simp, .inl ⟨rfl, q.here r _ (.tup h d)⟩⟩
  · exact .inr (opm_mulT _ _ _ _ _ _ _ _ _ _ r dx dy q)
end
theorem room65 {k : Nat} {A : Around} (h : L2.Room k A) : A.units + 65 < cLine := by have := h.un; omega
theorem room66 {k : Nat} {A : Around} (h : L2.Room k A) : A.units + 66 < cLine := by have := h.un; omega
theorem mulU_ev {xs : List PV} {k : Int} {S : Sto} (h : xs ≠ [] ∧ 2 ≤ k ∧ k ≤ 1000 ∧ xs.length ≤ 1000) : mulUM (.tup xs) (.int k) S = .ok (.tup (List.replicate k.toNat xs).flatten) S := by
  have e : mulUM (.tup xs) (.int k) S = mulTM (.tup xs) (.int k) S := by
    unfold mulUM
    split
    · rename_i a b c d; cases d; exact absurd h.2.1 (by decide)
    · rename_i a b c d; cases d; exact absurd h.2.1 (by decide)
    · rfl
  rw [e]
  exact if_pos h
theorem mulU0_ev {x : PV} {xs : List PV} {S : Sto} : mulUM (.tup (x :: xs)) (.int 0) S = .ok (.tup []) S := rfl
theorem mulU1_ev {x : PV} {xs : List PV} {S : Sto} : mulUM (.tup (x :: xs)) (.int 1) S = .ok (.tup (x :: xs)) S := rfl
theorem mulUi_ev {i j : Int} {S : Sto} (h : mulOk i j = true) : mulUM (.int i) (.int j) S = .ok (.int (i * j)) S := by
  simp [mulUM, mulTM, mulM, h]
end Pm
namespace Pm
open PySem L2 PySem.Spec PyProof.Rows
/-! ### isinstance(x, C) of an own class -/
/-- an instance's type is told -/
structure InsT (K : PySem.W.Frag) (C : Addr) : Prop where
  cl : Cls K C
  ha : PySem.W.findIn K (.ref C) "__class__" = some (some (.builtin "object.__class__"))
  hn : PySem.W.specialIn K (.builtin "object.__class__") "__get__" = some (some (.builtin "getset_descriptor.__get__"))
  ht : PySem.W.takesIn K (.builtin "object.__class__") = some true
  hm : PySem.W.mroIn K C (.type "object") = some true
/-- what isinstance(.., C) answers of every kind of value -/
structure IsC (K : PySem.W.Frag) (g : Sg) (c : Str) (C : Addr) : Prop where
  ins : ∀ d D, g.cls d = some D → InsT K D ∧ PySem.W.kitOne K (.ref D) (.ref C) = some (d == c)
  oth : ∀ t ∈ tysP, PySem.W.kitOne K (.type t) (.ref C) = some false
theorem kit_sub {K : PySem.W.Frag} {t : Value} {C : Addr} {b : Bool} (h1 : PySem.W.isClsIn K C = true) (h2 : PySem.W.typeIn K (.ref C) = some (.type "type")) (h3 : PySem.W.subIn K t (.ref C) = some b) (hb : t = .ref C → b = true) : PySem.W.kitOne K t (.ref C) = some b := by
  unfold PySem.W.kitOne
  split
  · rename_i e
    rw [hb (by first | exact beq_iff_eq.mp e | exact e | (simpa using e))]
  · have e2 : ((PySem.W.clsIn K C).isSome && PySem.W.typeIn K (.ref C) == some (.type "type")) = true := by
      have h1' : (PySem.W.clsIn K C).isSome = true := h1
      rw [h1', h2] <;> rfl
    show (if ((PySem.W.clsIn K C).isSome && PySem.W.typeIn K (.ref C) == some (.type "type")) = true then PySem.W.subIn K t (.ref C) else none) = some b
    rw [if_pos e2]
    exact h3
theorem kit_no {K : PySem.W.Frag} {C D : Addr} (h1 : PySem.W.isClsIn K D = true) (h2 : PySem.W.typeIn K (.ref D) = some (.type "type")) (h3 : PySem.W.subIn K (.ref C) (.ref D) = some false) (h4 : PySem.W.subIn K (.ref C) (.ref C) = some true) : PySem.W.kitOne K (.ref C) (.ref D) = some false :=
  kit_sub h1 h2 h3 fun e => by
    rw [← e, h4] at h3
    cases h3
def isCM (c : Str) (x : PV) (S : Sto) : Rs PV := match x with
  | .cell n => match S[n]? with
    | some (.ins d _) => .ok (.bl (d == c)) S
    | some _ => .ok (.bl false) S
    | none => .bad
  | _ => .ok (.bl false) S
def mIsC (c : Str) (m : ME) : ME := fun ρ S => (m ρ S).bind fun x S1 => isCM c x S1
theorem tyP_some {x : PV} {S : Sto} (h : ∀ n, x = .cell n → ∃ o, S[n]? = some o ∧ ∀ c fs, o ≠ .ins c fs) : ∃ t, tyP x S = some t := by
  cases x with
  | cell n =>
    obtain ⟨o, h1, h2⟩ := h n rfl
    cases o with
    | ins c fs => exact absurd rfl (h2 c fs)
    | _ => simp [tyP, h1]
  | _ => exact ⟨_, rfl⟩
section
variable {X : Cx} {g : Sg} {W : WX} {e : Expr} {m : ME} {pos p p2 : Pos}
theorem re_isC {c x : Str} {C : Addr} (hT : IsC X.K g c C) (h : RE X g W e m) (hc : PE X (.Name x p2) (tC (.ref C))) (hi : ∀ {t : TA}, PA X [e, .Name x p2] t → PE X (.Call (.Name "isinstance" p) [e, .Name x p2] [] pos) (tCB (rIsi X.K) t)) (hs : starEach [e, .Name x p2] X.env = (false, eval e X.env) :: starEach [.Name x p2] X.env := by rfl) (hs2 : starEach [.Name x p2] X.env = (false, eval (.Name x p2) X.env) :: starEach [] X.env := by rfl) :
    RE X g W (.Call (.Name "isinstance" p) [e, .Name x p2] [] pos) (mIsC c m) := by
  refine pe_le (hi (pa_cons h (pa_cons hc pa_nil hs2) hs)) fun σ H Q ⟨α, ρ, S, r, q⟩ => ?_
  refine ⟨α, ρ, S, r, q.of_bind.imp fun α1 H1 y S1 p1 k1 r1 q1 v dv => ?_⟩
  replace q1 := q1 r1
  have out : (∀ n, y = .cell n → ∃ o, S1[n]? = some o ∧ ∀ c fs, o ≠ .ins c fs) → Q (.bl false) H1 → tCB (rIsi X.K) (fun σ H R => R [v, .ref C] H) σ H1 Q := fun hn q2 => by
    obtain ⟨t, et⟩ := tyP_some hn
    exact ⟨v, .ref C, .type t, .ref C, false, rfl, .own C, tyP_of r1.obj dv et, hT.oth t (tyP_mem et), q2⟩
  unfold isCM at q1
  split at q1
  · rename_i n
    split at q1
    · rename_i d fs e0
      cases dv with
      | cell hc =>
        obtain ⟨D, dx, vfs, m1, m2, _, _⟩ := r1.obj.at hc e0
        obtain ⟨it, ko⟩ := hT.ins d D m1
        exact ⟨_, .ref C, .ref D, .ref C, _, rfl, .own C, .base (.ins m2 it.cl it.ha it.hn it.ht it.hm), ko, q1.here r1 _ (.bl _)⟩
    · rename_i o hne e0
      exact out (fun n' hn => by cases hn; exact ⟨_, e0, fun c fs he => hne c fs he⟩) (q1.here r1 _ (.bl _))
    · exact q1.elim
  · rename_i hne
    exact out (fun n hn => absurd hn (hne n)) (q1.here r1 _ (.bl _))
end
theorem isC_yes {c : Str} {n : Nat} {fs : List (Str × PV)} {S : Sto} (h : S[n]? = some (.ins c fs)) : isCM c (.cell n) S = .ok (.bl true) S := by simp [isCM, h]
theorem mIsC_ev {c : Str} {m : ME} {ρ : PSt} {S : Sto} : mIsC c m ρ S = (m ρ S).bind fun x S1 => isCM c x S1 := rfl
theorem intsOf_map : ∀ {ns : List Int}, intsOf (ns.map PV.int) = some ns
  | [] => rfl
  | n :: ns => by
    show (intsOf (ns.map PV.int)).map (n :: ·) = _
    rw [intsOf_map]; rfl
theorem sum_ev {n : Nat} {ns : List Int} {S : Sto} (h : S[n]? = some (.lst (ns.map PV.int))) : sumM [.cell n] S = .ok (.int ns.sum) S := by
  simp [sumM, lsOf, h, intsOf_map]
end Pm
namespace Pm
open PySem L2
def topS (i : Nat) : Stmt := PySem.Challenge.pw_oddscall_k60_rejecting.main.body.getD i (.Pass ⟨0, 0, 0, 0⟩)
abbrev s_is_whole : Stmt := topS 7
theorem sc_is_whole : FnScope ["value"] ["value"] (defScope s_is_whole) := ⟨rfl, rfl, rfl, by decide +kernel, rfl, by decide +kernel, by decide +kernel⟩
abbrev s_is_index : Stmt := topS 8
theorem sc_is_index : FnScope ["value", "many"] ["value", "many"] (defScope s_is_index) := ⟨rfl, rfl, rfl, by decide +kernel, rfl, by decide +kernel, by decide +kernel⟩
abbrev s_is_pair : Stmt := topS 29
theorem sc_is_pair : FnScope ["value"] ["value"] (defScope s_is_pair) := ⟨rfl, rfl, rfl, by decide +kernel, rfl, by decide +kernel, by decide +kernel⟩
abbrev s_has_form : Stmt := topS 30
theorem sc_has_form : FnScope ["point", "word", "branch"] ["point"] (defScope s_has_form) := ⟨rfl, rfl, rfl, by decide +kernel, rfl, by decide +kernel, by decide +kernel⟩
abbrev s_plus : Stmt := topS 14
theorem sc_plus : FnScope ["a", "b", "shared", "left", "top", "again"] ["a", "b"] (defScope s_plus) := ⟨rfl, rfl, rfl, by decide +kernel, rfl, by decide +kernel, by decide +kernel⟩
abbrev s_is_rational : Stmt := topS 15
theorem sc_is_rational : FnScope ["x", "n", "d"] ["x"] (defScope s_is_rational) := ⟨rfl, rfl, rfl, by decide +kernel, rfl, by decide +kernel, by decide +kernel⟩
abbrev s_is_chance : Stmt := topS 37
theorem sc_is_chance : FnScope ["value"] ["value"] (defScope s_is_chance) := ⟨rfl, rfl, rfl, by decide +kernel, rfl, by decide +kernel, by decide +kernel⟩
abbrev s_problem_of_draw : Stmt := topS 32
theorem sc_problem_of_draw : FnScope ["branches", "many", "total", "chance", "index"] ["branches", "many"] (defScope s_problem_of_draw) := ⟨rfl, rfl, rfl, by decide +kernel, rfl, by decide +kernel, by decide +kernel⟩
abbrev s_problem_of_targets : Stmt := topS 36
theorem sc_problem_of_targets : FnScope ["targets", "many", "index"] ["targets", "many"] (defScope s_problem_of_targets) := ⟨rfl, rfl, rfl, by decide +kernel, rfl, by decide +kernel, by decide +kernel⟩
abbrev s_problem_of_choice : Stmt := topS 33
theorem sc_problem_of_choice : FnScope ["targets", "many"] ["targets", "many"] (defScope s_problem_of_choice) := ⟨rfl, rfl, rfl, by decide +kernel, rfl, by decide +kernel, by decide +kernel⟩
abbrev s_problem_of_call : Stmt := topS 34
theorem sc_problem_of_call : FnScope ["procedures", "call", "many", "_", "called", "targets"] ["procedures", "call", "many"] (defScope s_problem_of_call) := ⟨rfl, rfl, rfl, by decide +kernel, rfl, by decide +kernel, by decide +kernel⟩
abbrev s_is_amount : Stmt := topS 38
theorem sc_is_amount : FnScope ["value"] ["value"] (defScope s_is_amount) := ⟨rfl, rfl, rfl, by decide +kernel, rfl, by decide +kernel, by decide +kernel⟩
abbrev s_problem_of_reward : Stmt := topS 35
theorem sc_problem_of_reward : FnScope ["reward", "many", "_", "amount", "index"] ["reward", "many"] (defScope s_problem_of_reward) := ⟨rfl, rfl, rfl, by decide +kernel, rfl, by decide +kernel, by decide +kernel⟩
abbrev s_problem_of_point : Stmt := topS 31
theorem sc_problem_of_point : FnScope ["procedures", "number", "point", "exits", "points", "word"] ["procedures", "number", "point"] (defScope s_problem_of_point) := ⟨rfl, rfl, rfl, by decide +kernel, rfl, by decide +kernel, by decide +kernel⟩
abbrev s_check_points : Stmt := topS 27
theorem sc_check_points : FnScope ["procedures", "number", "points", "index", "point", "why"] ["procedures", "number", "points"] (defScope s_check_points) := ⟨rfl, rfl, rfl, by decide +kernel, rfl, by decide +kernel, by decide +kernel⟩
abbrev s_problem_of_procedure : Stmt := topS 28
theorem sc_problem_of_procedure : FnScope ["procedure"] ["procedure"] (defScope s_problem_of_procedure) := ⟨rfl, rfl, rfl, by decide +kernel, rfl, by decide +kernel, by decide +kernel⟩
abbrev s_check_procedures : Stmt := topS 26
theorem sc_check_procedures : FnScope ["procedures", "number", "procedure", "why"] ["procedures"] (defScope s_check_procedures) := ⟨rfl, rfl, rfl, by decide +kernel, rfl, by decide +kernel, by decide +kernel⟩
abbrev s_Graph_init : Stmt := inClass (topS 40) 0
theorem sc_Graph_init : FnScope ["self", "procedures"] ["self", "procedures"] (defScope s_Graph_init) := ⟨rfl, rfl, rfl, by decide +kernel, rfl, by decide +kernel, by decide +kernel⟩
abbrev s_Graph_is_place : Stmt := inClass (topS 40) 3
theorem sc_Graph_is_place : FnScope ["self", "value", "number", "index"] ["self", "value"] (defScope s_Graph_is_place) := ⟨rfl, rfl, rfl, by decide +kernel, rfl, by decide +kernel, by decide +kernel⟩
abbrev s_check_graph : Stmt := topS 42
theorem sc_check_graph : FnScope ["graph"] ["graph"] (defScope s_check_graph) := ⟨rfl, rfl, rfl, by decide +kernel, rfl, by decide +kernel, by decide +kernel⟩
abbrev s_rejecting : Stmt := topS 44
theorem sc_rejecting : FnScope ["graph", "places", "place", "procedures", "number", "exits", "points", "changed", "index", "point"] ["graph", "places"] (defScope s_rejecting) := ⟨rfl, rfl, rfl, by decide +kernel, rfl, by decide +kernel, by decide +kernel⟩
abbrev s_l_stream : Stmt := topS 46
theorem sc_l_stream : FnScope ["script"] ["script"] (defScope s_l_stream) := ⟨rfl, rfl, rfl, by decide +kernel, rfl, by decide +kernel, by decide +kernel⟩
abbrev s_l_next : Stmt := topS 47
theorem sc_l_next : FnScope ["stream", "many", "k", "cell", "digit"] ["stream", "many"] (defScope s_l_next) := ⟨rfl, rfl, rfl, by decide +kernel, rfl, by decide +kernel, by decide +kernel⟩
abbrev s_l_end : Stmt := topS 55
theorem sc_l_end : FnScope ["stream", "exits", "pick"] ["stream", "exits"] (defScope s_l_end) := ⟨rfl, rfl, rfl, by decide +kernel, rfl, by decide +kernel, by decide +kernel⟩
abbrev s_l_gcd : Stmt := topS 48
theorem sc_l_gcd : FnScope ["a", "b", "k", "rest"] ["a", "b"] (defScope s_l_gcd) := ⟨rfl, rfl, rfl, by decide +kernel, rfl, by decide +kernel, by decide +kernel⟩
abbrev s_l_ratio : Stmt := topS 49
theorem sc_l_ratio : FnScope ["n", "d", "shared"] ["n", "d"] (defScope s_l_ratio) := ⟨rfl, rfl, rfl, by decide +kernel, rfl, by decide +kernel, by decide +kernel⟩
abbrev s_l_branches : Stmt := topS 54
theorem sc_l_branches : FnScope ["stream", "many", "count", "weights", "k", "at", "total", "weight"] ["stream", "many"] (defScope s_l_branches) := ⟨rfl, rfl, rfl, by decide +kernel, rfl, by decide +kernel, by decide +kernel⟩
abbrev s_l_point : Stmt := topS 56
theorem sc_l_point : FnScope ["stream", "exits", "many", "calls", "choices", "pick", "called", "others", "k"] ["stream", "exits", "many", "calls", "choices"] (defScope s_l_point) := ⟨rfl, rfl, rfl, by decide +kernel, rfl, by decide +kernel, by decide +kernel⟩
abbrev s_l_procedure : Stmt := topS 57
theorem sc_l_procedure : FnScope ["stream", "exits", "many", "calls", "choices", "points", "k"] ["stream", "exits", "many", "calls", "choices"] (defScope s_l_procedure) := ⟨rfl, rfl, rfl, by decide +kernel, rfl, by decide +kernel, by decide +kernel⟩
abbrev s_l_procedures : Stmt := topS 58
theorem sc_l_procedures : FnScope ["stream", "choices", "round_calls", "sizes", "k", "found", "calls", "j"] ["stream", "choices", "round_calls"] (defScope s_l_procedures) := ⟨rfl, rfl, rfl, by decide +kernel, rfl, by decide +kernel, by decide +kernel⟩
abbrev s_l_place : Stmt := topS 59
theorem sc_l_place : FnScope ["stream", "procedures", "at"] ["stream", "procedures"] (defScope s_l_place) := ⟨rfl, rfl, rfl, by decide +kernel, rfl, by decide +kernel, by decide +kernel⟩
abbrev s_law : Stmt := topS 60
theorem sc_law : FnScope ["script", "stream", "procedures", "graph", "places", "k", "passed", "due", "p", "points", "at", "actual"] ["script"] (defScope s_law) := ⟨rfl, rfl, rfl, by decide +kernel, rfl, by decide +kernel, by decide +kernel⟩
abbrev s_init_BadValue : Stmt := inClass (topS 4) 0
theorem sc_init_BadValue : FnScope ["self", "name"] ["self", "name"] (defScope s_init_BadValue) := ⟨rfl, rfl, rfl, by decide +kernel, rfl, by decide +kernel, by decide +kernel⟩
abbrev s_init_BadGraph : Stmt := inClass (topS 5) 0
theorem sc_init_BadGraph : FnScope ["self", "where", "why"] ["self", "where", "why"] (defScope s_init_BadGraph) := ⟨rfl, rfl, rfl, by decide +kernel, rfl, by decide +kernel, by decide +kernel⟩
def c_ZERO : PV := (PV.tup [(PV.int 0), (PV.int 1)])
def c_ONE : PV := (PV.tup [(PV.int 1), (PV.int 1)])
def c_MOST_PROCEDURES : PV := (PV.int 6)
def c_MOST_EXITS : PV := (PV.int 3)
def c_MOST_POINTS : PV := (PV.int 16)
def c_MOST_POINTS_OF_ALL : PV := (PV.int 40)
def c_MOST_BRANCHES : PV := (PV.int 4)
def c_MOST_CHANCE_DENOMINATOR : PV := (PV.int 60)
def c_MOST_AMOUNT_NUMERATOR : PV := (PV.int 1000)
def c_MOST_AMOUNT_DENOMINATOR : PV := (PV.int 12)
def ks_ITEMS : List Str := []
def kd_ITEMS : List (Str × PV) := [("exit", (PV.int 2)), ("draw", (PV.int 2)), ("choose", (PV.int 2)), ("call", (PV.int 3)), ("reward", (PV.int 3)), ("reject", (PV.int 1)), ("stop", (PV.int 1))]
structure Txt (K : PySem.W.Frag) (mg : Str → Option Value) where
  f_is_whole : Addr
  fd_is_whole : FuncData
  D_is_whole : Odds.Dn K mg "is_whole" s_is_whole ["value"] f_is_whole fd_is_whole
  f_is_index : Addr
  fd_is_index : FuncData
  D_is_index : Odds.Dn K mg "is_index" s_is_index ["value", "many"] f_is_index fd_is_index
  f_is_pair : Addr
  fd_is_pair : FuncData
  D_is_pair : Odds.Dn K mg "is_pair" s_is_pair ["value"] f_is_pair fd_is_pair
  f_has_form : Addr
  fd_has_form : FuncData
  D_has_form : Odds.Dn K mg "has_form" s_has_form ["point"] f_has_form fd_has_form
  f_plus : Addr
  fd_plus : FuncData
  D_plus : Odds.Dn K mg "plus" s_plus ["a", "b"] f_plus fd_plus
  f_is_rational : Addr
  fd_is_rational : FuncData
  D_is_rational : Odds.Dn K mg "is_rational" s_is_rational ["x"] f_is_rational fd_is_rational
  f_is_chance : Addr
  fd_is_chance : FuncData
  D_is_chance : Odds.Dn K mg "is_chance" s_is_chance ["value"] f_is_chance fd_is_chance
  f_problem_of_draw : Addr
  fd_problem_of_draw : FuncData
  D_problem_of_draw : Odds.Dn K mg "problem_of_draw" s_problem_of_draw ["branches", "many"] f_problem_of_draw fd_problem_of_draw
  f_problem_of_targets : Addr
  fd_problem_of_targets : FuncData
  D_problem_of_targets : Odds.Dn K mg "problem_of_targets" s_problem_of_targets ["targets", "many"] f_problem_of_targets fd_problem_of_targets
  f_problem_of_choice : Addr
  fd_problem_of_choice : FuncData
  D_problem_of_choice : Odds.Dn K mg "problem_of_choice" s_problem_of_choice ["targets", "many"] f_problem_of_choice fd_problem_of_choice
  f_problem_of_call : Addr
  fd_problem_of_call : FuncData
  D_problem_of_call : Odds.Dn K mg "problem_of_call" s_problem_of_call ["procedures", "call", "many"] f_problem_of_call fd_problem_of_call
  f_is_amount : Addr
  fd_is_amount : FuncData
  D_is_amount : Odds.Dn K mg "is_amount" s_is_amount ["value"] f_is_amount fd_is_amount
  f_problem_of_reward : Addr
  fd_problem_of_reward : FuncData
  D_problem_of_reward : Odds.Dn K mg "problem_of_reward" s_problem_of_reward ["reward", "many"] f_problem_of_reward fd_problem_of_reward
  f_problem_of_point : Addr
  fd_problem_of_point : FuncData
  D_problem_of_point : Odds.Dn K mg "problem_of_point" s_problem_of_point ["procedures", "number", "point"] f_problem_of_point fd_problem_of_point
  f_check_points : Addr
  fd_check_points : FuncData
  D_check_points : Odds.Dn K mg "check_points" s_check_points ["procedures", "number", "points"] f_check_points fd_check_points
  f_problem_of_procedure : Addr
  fd_problem_of_procedure : FuncData
  D_problem_of_procedure : Odds.Dn K mg "problem_of_procedure" s_problem_of_procedure ["procedure"] f_problem_of_procedure fd_problem_of_procedure
  f_check_procedures : Addr
  fd_check_procedures : FuncData
  D_check_procedures : Odds.Dn K mg "check_procedures" s_check_procedures ["procedures"] f_check_procedures fd_check_procedures
  f_Graph_init : Addr
  fd_Graph_init : FuncData
  D_Graph_init : Mk1 K "__init__" "Graph.__init__" s_Graph_init ["self", "procedures"] ["procedures"] f_Graph_init fd_Graph_init
  f_Graph_is_place : Addr
  fd_Graph_is_place : FuncData
  D_Graph_is_place : Mn K "is_place" "Graph.is_place" s_Graph_is_place ["self", "value"] f_Graph_is_place fd_Graph_is_place
  f_check_graph : Addr
  fd_check_graph : FuncData
  D_check_graph : Odds.Dn K mg "check_graph" s_check_graph ["graph"] f_check_graph fd_check_graph
  f_rejecting : Addr
  fd_rejecting : FuncData
  D_rejecting : Odds.Dn K mg "rejecting" s_rejecting ["graph", "places"] f_rejecting fd_rejecting
  f_l_stream : Addr
  fd_l_stream : FuncData
  D_l_stream : Odds.Dn K mg "_law_stream" s_l_stream ["script"] f_l_stream fd_l_stream
  f_l_next : Addr
  fd_l_next : FuncData
  D_l_next : Odds.Dn K mg "_law_next" s_l_next ["stream", "many"] f_l_next fd_l_next
  f_l_end : Addr
  fd_l_end : FuncData
  D_l_end : Odds.Dn K mg "_law_end" s_l_end ["stream", "exits"] f_l_end fd_l_end
  f_l_gcd : Addr
  fd_l_gcd : FuncData
  D_l_gcd : Odds.Dn K mg "_law_gcd" s_l_gcd ["a", "b"] f_l_gcd fd_l_gcd
  f_l_ratio : Addr
  fd_l_ratio : FuncData
  D_l_ratio : Odds.Dn K mg "_law_ratio" s_l_ratio ["n", "d"] f_l_ratio fd_l_ratio
  f_l_branches : Addr
  fd_l_branches : FuncData
  D_l_branches : Odds.Dn K mg "_law_branches" s_l_branches ["stream", "many"] f_l_branches fd_l_branches
  f_l_point : Addr
  fd_l_point : FuncData
  D_l_point : Odds.Dn K mg "_law_point" s_l_point ["stream", "exits", "many", "calls", "choices"] f_l_point fd_l_point
  f_l_procedure : Addr
  fd_l_procedure : FuncData
  D_l_procedure : Odds.Dn K mg "_law_procedure" s_l_procedure ["stream", "exits", "many", "calls", "choices"] f_l_procedure fd_l_procedure
  f_l_procedures : Addr
  fd_l_procedures : FuncData
  D_l_procedures : Odds.Dn K mg "_law_procedures" s_l_procedures ["stream", "choices", "round_calls"] f_l_procedures fd_l_procedures
  f_l_place : Addr
  fd_l_place : FuncData
  D_l_place : Odds.Dn K mg "_law_place" s_l_place ["stream", "procedures"] f_l_place fd_l_place
  f_law : Addr
  fd_law : FuncData
  D_law : Odds.Dn K mg "law" s_law ["script"] f_law fd_law
  c_Graph : Addr
  g_Graph : mg "Graph" = some (.ref c_Graph)
  cl_Graph : Cls K c_Graph
  mk_Graph : Mk K c_Graph f_Graph_init
  me_Graph_is_place : Meth K c_Graph "is_place" f_Graph_is_place
  it_Graph : InsT K c_Graph
  kt_Graph : ∀ t ∈ tysP, PySem.W.kitOne K (.type t) (.ref c_Graph) = some false
  ko_Graph_Graph : PySem.W.kitOne K (.ref c_Graph) (.ref c_Graph) = some true
  na_Graph_procedures : NoAttr K c_Graph "procedures"
  a_ITEMS : Addr
  g_ITEMS : mg "ITEMS" = some (.ref a_ITEMS)
  abs : mg "abs" = none
  all : mg "all" = none
  bool : mg "bool" = none
  enumerate : mg "enumerate" = none
  int : mg "int" = none
  isinstance : mg "isinstance" = none
  len : mg "len" = none
  list : mg "list" = none
  range : mg "range" = none
  str : mg "str" = none
  sum : mg "sum" = none
  tuple : mg "tuple" = none
  gcd : mg "gcd" = some (.builtin "math.gcd")
  v_ZERO : V
  u_ZERO : Value
  g_ZERO : mg "ZERO" = some u_ZERO
  r_ZERO : RelV v_ZERO u_ZERO
  d_ZERO : ∀ α H, Den K α H c_ZERO v_ZERO
  v_ONE : V
  u_ONE : Value
  g_ONE : mg "ONE" = some u_ONE
  r_ONE : RelV v_ONE u_ONE
  d_ONE : ∀ α H, Den K α H c_ONE v_ONE
  v_MOST_PROCEDURES : V
  u_MOST_PROCEDURES : Value
  g_MOST_PROCEDURES : mg "MOST_PROCEDURES" = some u_MOST_PROCEDURES
  r_MOST_PROCEDURES : RelV v_MOST_PROCEDURES u_MOST_PROCEDURES
  d_MOST_PROCEDURES : ∀ α H, Den K α H c_MOST_PROCEDURES v_MOST_PROCEDURES
  v_MOST_EXITS : V
  u_MOST_EXITS : Value
  g_MOST_EXITS : mg "MOST_EXITS" = some u_MOST_EXITS
  r_MOST_EXITS : RelV v_MOST_EXITS u_MOST_EXITS
  d_MOST_EXITS : ∀ α H, Den K α H c_MOST_EXITS v_MOST_EXITS
  v_MOST_POINTS : V
  u_MOST_POINTS : Value
  g_MOST_POINTS : mg "MOST_POINTS" = some u_MOST_POINTS
  r_MOST_POINTS : RelV v_MOST_POINTS u_MOST_POINTS
  d_MOST_POINTS : ∀ α H, Den K α H c_MOST_POINTS v_MOST_POINTS
  v_MOST_POINTS_OF_ALL : V
  u_MOST_POINTS_OF_ALL : Value
  g_MOST_POINTS_OF_ALL : mg "MOST_POINTS_OF_ALL" = some u_MOST_POINTS_OF_ALL
  r_MOST_POINTS_OF_ALL : RelV v_MOST_POINTS_OF_ALL u_MOST_POINTS_OF_ALL
  d_MOST_POINTS_OF_ALL : ∀ α H, Den K α H c_MOST_POINTS_OF_ALL v_MOST_POINTS_OF_ALL
  v_MOST_BRANCHES : V
  u_MOST_BRANCHES : Value
  g_MOST_BRANCHES : mg "MOST_BRANCHES" = some u_MOST_BRANCHES
  r_MOST_BRANCHES : RelV v_MOST_BRANCHES u_MOST_BRANCHES
  d_MOST_BRANCHES : ∀ α H, Den K α H c_MOST_BRANCHES v_MOST_BRANCHES
  v_MOST_CHANCE_DENOMINATOR : V
  u_MOST_CHANCE_DENOMINATOR : Value
  g_MOST_CHANCE_DENOMINATOR : mg "MOST_CHANCE_DENOMINATOR" = some u_MOST_CHANCE_DENOMINATOR
  r_MOST_CHANCE_DENOMINATOR : RelV v_MOST_CHANCE_DENOMINATOR u_MOST_CHANCE_DENOMINATOR
  d_MOST_CHANCE_DENOMINATOR : ∀ α H, Den K α H c_MOST_CHANCE_DENOMINATOR v_MOST_CHANCE_DENOMINATOR
  v_MOST_AMOUNT_NUMERATOR : V
  u_MOST_AMOUNT_NUMERATOR : Value
  g_MOST_AMOUNT_NUMERATOR : mg "MOST_AMOUNT_NUMERATOR" = some u_MOST_AMOUNT_NUMERATOR
  r_MOST_AMOUNT_NUMERATOR : RelV v_MOST_AMOUNT_NUMERATOR u_MOST_AMOUNT_NUMERATOR
  d_MOST_AMOUNT_NUMERATOR : ∀ α H, Den K α H c_MOST_AMOUNT_NUMERATOR v_MOST_AMOUNT_NUMERATOR
  v_MOST_AMOUNT_DENOMINATOR : V
  u_MOST_AMOUNT_DENOMINATOR : Value
  g_MOST_AMOUNT_DENOMINATOR : mg "MOST_AMOUNT_DENOMINATOR" = some u_MOST_AMOUNT_DENOMINATOR
  r_MOST_AMOUNT_DENOMINATOR : RelV v_MOST_AMOUNT_DENOMINATOR u_MOST_AMOUNT_DENOMINATOR
  d_MOST_AMOUNT_DENOMINATOR : ∀ α H, Den K α H c_MOST_AMOUNT_DENOMINATOR v_MOST_AMOUNT_DENOMINATOR
  c_BadValue : Addr
  c_BadGraph : Addr
  g_BadValue : mg "BadValue" = some (.ref c_BadValue)
  O_BadValue : OexC K c_BadValue
  X_BadValue : XfC K c_BadValue
  I_BadValue : Odds.ExcD K c_BadValue
  fi_BadValue : Addr
  fdi_BadValue : FuncData
  iC_BadValue : PySem.W.findIn K (.ref c_BadValue) "__init__" = some (some (.ref fi_BadValue))
  tI_BadValue : PySem.W.typeIn K (.ref fi_BadValue) = some (.type "function")
  FI_BadValue : Fun K "__init__" "BadValue.__init__" s_init_BadValue fi_BadValue fdi_BadValue
  bI_BadValue : Binds K fdi_BadValue ["self", "name"] []
  no_BadValue_name : PySem.W.findIn K (.ref c_BadValue) "name" = some none
  x_BadValue_BadValue : PySem.W.exmOne K (.ref c_BadValue) (.ref c_BadValue) = some true
  k_BadValue_BadValue : PySem.W.kitOne K (.ref c_BadValue) (.ref c_BadValue) = some true
  x_BadValue_BadGraph : PySem.W.exmOne K (.ref c_BadValue) (.ref c_BadGraph) = some false
  k_BadValue_BadGraph : PySem.W.kitOne K (.ref c_BadValue) (.ref c_BadGraph) = some false
  g_BadGraph : mg "BadGraph" = some (.ref c_BadGraph)
  O_BadGraph : OexC K c_BadGraph
  X_BadGraph : XfC K c_BadGraph
  I_BadGraph : Odds.ExcD K c_BadGraph
  fi_BadGraph : Addr
  fdi_BadGraph : FuncData
  iC_BadGraph : PySem.W.findIn K (.ref c_BadGraph) "__init__" = some (some (.ref fi_BadGraph))
  tI_BadGraph : PySem.W.typeIn K (.ref fi_BadGraph) = some (.type "function")
  FI_BadGraph : Fun K "__init__" "BadGraph.__init__" s_init_BadGraph fi_BadGraph fdi_BadGraph
  bI_BadGraph : Binds K fdi_BadGraph ["self", "where", "why"] []
  no_BadGraph_where : PySem.W.findIn K (.ref c_BadGraph) "where" = some none
  no_BadGraph_why : PySem.W.findIn K (.ref c_BadGraph) "why" = some none
  x_BadGraph_BadValue : PySem.W.exmOne K (.ref c_BadGraph) (.ref c_BadValue) = some false
  k_BadGraph_BadValue : PySem.W.kitOne K (.ref c_BadGraph) (.ref c_BadValue) = some false
  x_BadGraph_BadGraph : PySem.W.exmOne K (.ref c_BadGraph) (.ref c_BadGraph) = some true
  k_BadGraph_BadGraph : PySem.W.kitOne K (.ref c_BadGraph) (.ref c_BadGraph) = some true
  c_tab_has_form : Addr
  P_tab_has_form : Addr
  code_has_form : fd_has_form.code = .ref c_tab_has_form
  c_tab_problem_of_targets : Addr
  P_tab_problem_of_targets : Addr
  code_problem_of_targets : fd_problem_of_targets.code = .ref c_tab_problem_of_targets
  c_tab_check_procedures : Addr
  P_tab_check_procedures : Addr
  code_check_procedures : fd_check_procedures.code = .ref c_tab_check_procedures
  c_tab_rejecting : Addr
  P_tab_rejecting : Addr
  code_rejecting : fd_rejecting.code = .ref c_tab_rejecting
abbrev Txt.g {K : PySem.W.Frag} {mg : Str → Option Value} (T : Txt K mg) : Sg := ⟨fun s => if s = "Graph" then some T.c_Graph else none, fun s => if s = "BadValue" then some T.c_BadValue else if s = "BadGraph" then some T.c_BadGraph else none, [T.P_tab_has_form, T.P_tab_problem_of_targets, T.P_tab_check_procedures, T.P_tab_rejecting], none⟩
structure Txt.Tbs {K : PySem.W.Frag} {mg : Str → Option Value} (T : Txt K mg) (w : World) (base : Heap) : Prop where
  t_has_form : GxR.TabB base mg T.c_tab_has_form T.P_tab_has_form
  t_problem_of_targets : GxR.TabB base mg T.c_tab_problem_of_targets T.P_tab_problem_of_targets
  t_check_procedures : GxR.TabB base mg T.c_tab_check_procedures T.P_tab_check_procedures
  t_rejecting : GxR.TabB base mg T.c_tab_rejecting T.P_tab_rejecting
  kd_ITEMS : KdOk K w T.a_ITEMS kd_ITEMS ks_ITEMS
def isX (t c : Str) : Bool := t == "OddsError" || (t == "ValueError" || t == c)
section
variable {K : PySem.W.Frag} {mg : Str → Option Value}
theorem Txt.e_BadValue (T : Txt K mg) : T.g.exc "BadValue" = some T.c_BadValue := by
  show (if ("BadValue" : Str) = "BadValue" then some T.c_BadValue else if ("BadValue" : Str) = "BadGraph" then some T.c_BadGraph else none) = _
  rw [if_pos rfl]
theorem Txt.ini_BadValue {P : Program} {w : World} {base : Heap} (T : Txt K mg) : FnOk P w K mg base CX0 1 T.fi_BadValue T.fdi_BadValue ["self", "name"] (spIni T.c_BadValue ["name"]) :=
  ini1 T.O_BadValue T.no_BadValue_name T.FI_BadValue sc_init_BadValue (fun cdv A outer s H E => pss_one (ps_ost (pv 0) (pv 1)))
theorem Txt.e_BadGraph (T : Txt K mg) : T.g.exc "BadGraph" = some T.c_BadGraph := by
  show (if ("BadGraph" : Str) = "BadValue" then some T.c_BadValue else if ("BadGraph" : Str) = "BadGraph" then some T.c_BadGraph else none) = _
  rw [if_neg (by decide)]
  rw [if_pos rfl]
theorem Txt.ini_BadGraph {P : Program} {w : World} {base : Heap} (T : Txt K mg) : FnOk P w K mg base CX0 1 T.fi_BadGraph T.fdi_BadGraph ["self", "where", "why"] (spIni T.c_BadGraph ["where", "why"]) :=
  ini2 T.O_BadGraph T.no_BadGraph_where T.no_BadGraph_why T.FI_BadGraph sc_init_BadGraph (fun cdv A outer s H E => pss_cons (ps_ost (pv 0) (pv 1)) (pss_one (ps_ost (pv 0) (pv 2))))
theorem Txt.ex_BadValue (T : Txt K mg) : ∀ c C, T.g.exc c = some C → PySem.W.exmOne K (.ref C) (.ref T.c_BadValue) = some (isX "BadValue" c) := by
  intro c C h
  by_cases e0 : c = "BadValue"
  · subst e0
    have h' : some T.c_BadValue = some C := h
    cases h'
    exact T.x_BadValue_BadValue
  by_cases e1 : c = "BadGraph"
  · subst e1
    have h' : some T.c_BadGraph = some C := h
    cases h'
    exact T.x_BadGraph_BadValue
  · have h' : (if c = "BadValue" then some T.c_BadValue else if c = "BadGraph" then some T.c_BadGraph else none) = some C := h
    rw [if_neg e0, if_neg e1] at h'
    cases h'
theorem Txt.isx_BadValue (T : Txt K mg) : ∀ c C, T.g.exc c = some C → Odds.ExcD K C ∧ PySem.W.kitOne K (.ref C) (.ref T.c_BadValue) = some (isX "BadValue" c) := by
  intro c C h
  by_cases e0 : c = "BadValue"
  · subst e0
    have h' : some T.c_BadValue = some C := h
    cases h'
    exact ⟨T.I_BadValue, T.k_BadValue_BadValue⟩
  by_cases e1 : c = "BadGraph"
  · subst e1
    have h' : some T.c_BadGraph = some C := h
    cases h'
    exact ⟨T.I_BadGraph, T.k_BadGraph_BadValue⟩
  · have h' : (if c = "BadValue" then some T.c_BadValue else if c = "BadGraph" then some T.c_BadGraph else none) = some C := h
    rw [if_neg e0, if_neg e1] at h'
    cases h'
theorem Txt.isv_BadValue (T : Txt K mg) : ∀ u, RelV (.ref T.c_BadValue) u → u = .ref T.c_BadValue := fun _ h => h
theorem Txt.ex_BadGraph (T : Txt K mg) : ∀ c C, T.g.exc c = some C → PySem.W.exmOne K (.ref C) (.ref T.c_BadGraph) = some (isX "BadGraph" c) := by
  intro c C h
  by_cases e0 : c = "BadValue"
  · subst e0
    have h' : some T.c_BadValue = some C := h
    cases h'
    exact T.x_BadValue_BadGraph
  by_cases e1 : c = "BadGraph"
  · subst e1
    have h' : some T.c_BadGraph = some C := h
    cases h'
    exact T.x_BadGraph_BadGraph
  · have h' : (if c = "BadValue" then some T.c_BadValue else if c = "BadGraph" then some T.c_BadGraph else none) = some C := h
    rw [if_neg e0, if_neg e1] at h'
    cases h'
theorem Txt.isx_BadGraph (T : Txt K mg) : ∀ c C, T.g.exc c = some C → Odds.ExcD K C ∧ PySem.W.kitOne K (.ref C) (.ref T.c_BadGraph) = some (isX "BadGraph" c) := by
  intro c C h
  by_cases e0 : c = "BadValue"
  · subst e0
    have h' : some T.c_BadValue = some C := h
    cases h'
    exact ⟨T.I_BadValue, T.k_BadValue_BadGraph⟩
  by_cases e1 : c = "BadGraph"
  · subst e1
    have h' : some T.c_BadGraph = some C := h
    cases h'
    exact ⟨T.I_BadGraph, T.k_BadGraph_BadGraph⟩
  · have h' : (if c = "BadValue" then some T.c_BadValue else if c = "BadGraph" then some T.c_BadGraph else none) = some C := h
    rw [if_neg e0, if_neg e1] at h'
    cases h'
theorem Txt.isv_BadGraph (T : Txt K mg) : ∀ u, RelV (.ref T.c_BadGraph) u → u = .ref T.c_BadGraph := fun _ h => h
theorem Txt.tm_has_form (T : Txt K mg) : T.P_tab_has_form ∈ T.g.tabs := .head _
theorem Txt.tm_problem_of_targets (T : Txt K mg) : T.P_tab_problem_of_targets ∈ T.g.tabs := .tail _ (.head _)
theorem Txt.tm_check_procedures (T : Txt K mg) : T.P_tab_check_procedures ∈ T.g.tabs := .tail _ (.tail _ (.head _))
theorem Txt.tm_rejecting (T : Txt K mg) : T.P_tab_rejecting ∈ T.g.tabs := .tail _ (.tail _ (.tail _ (.head _)))
theorem Txt.hc_Graph (T : Txt K mg) : T.g.cls "Graph" = some T.c_Graph := by
  show (if ("Graph" : Str) = "Graph" then some T.c_Graph else none) = _
  rw [if_pos rfl]
theorem Txt.ic_Graph (T : Txt K mg) : IsC K T.g "Graph" T.c_Graph := by
  refine ⟨fun d D h => ?_, T.kt_Graph⟩
  by_cases e0 : d = "Graph"
  · subst e0
    have h' : some T.c_Graph = some D := (T.hc_Graph).symm.trans h
    cases h'
    exact ⟨T.it_Graph, T.ko_Graph_Graph⟩
  · have h' : (if d = "Graph" then some T.c_Graph else none) = some D := h
    rw [if_neg e0] at h'
    cases h'
theorem Txt.fo_procedures (T : Txt K mg) : FldOk K T.g ["Graph"] "procedures" := by
  intro c hc C h
  rcases List.mem_cons.mp hc with rfl | hc
  · have h' := T.hc_Graph.symm.trans h
    cases h'
    exact ⟨T.cl_Graph, T.na_Graph_procedures⟩
  · cases hc
end
noncomputable def m_is_whole : MF := callD 1 1 (mRet (mAndV (mIsi "int" (mVar 0)) (mNotV (mIsi "bool" (mVar 0)))))
noncomputable def m_is_index : MF := callD 2 2 (mRet (mAndV (mApp 1 m_is_whole (mCons (mVar 0) mNil)) (mCh leM ltM (mC (PV.int 0)) (mVar 0) (mVar 1))))
noncomputable def m_is_pair : MF := callD 1 1 (mRet (mAndV (mIsi "tuple" (mVar 0)) (m2 eqM (mCall lenM (mCons (mVar 0) mNil)) (mC (PV.int 2)))))
noncomputable def m_has_form : MF := callD 1 3 (mSeq (mIf (mOrT (mNotT (mTru (mIsi "tuple" (mVar 0)))) (mOrT (mTst (m2 eqM (mCall lenM (mCons (mVar 0) mNil)) (mC (PV.int 0)))) (mNotT (mTru (mIsi "str" (m2 ixM (mVar 0) (mC (PV.int 0)))))))) (mRet (mC (PV.bl false))) mNx)
    (mSeq (mAsg (m2 ixM (mVar 0) (mC (PV.int 0))) (mgName 1))
    (mSeq (mIf (mTst (m2 neM (mCall lenM (mCons (mVar 0) mNil)) (mKGet kd_ITEMS ks_ITEMS (mVar 1) (mC (PV.int 0))))) (mRet (mC (PV.bl false))) mNx)
    (mSeq (mIf (mTst (m2 eqM (mVar 1) (mC (PV.str "exit")))) (mRet (mApp 1 m_is_whole (mCons (m2 ixM (mVar 0) (mC (PV.int 1))) mNil))) mNx)
    (mSeq (mIf (mTst (m2 eqM (mVar 1) (mC (PV.str "draw")))) (mRet (mAndV (mIsi "tuple" (m2 ixM (mVar 0) (mC (PV.int 1)))) (mGA false (mItE (m2 ixM (mVar 0) (mC (PV.int 1)))) (mgName 2) mYes (mApp 1 m_is_pair (mCons (mVar 2) mNil)) [2]))) mNx)
    (mSeq (mIf (mTst (m2 eqM (mVar 1) (mC (PV.str "choose")))) (mRet (mIsi "tuple" (m2 ixM (mVar 0) (mC (PV.int 1))))) mNx)
    (mSeq (mIf (mTst (m2 eqM (mVar 1) (mC (PV.str "call")))) (mRet (mAndV (mApp 1 m_is_whole (mCons (m2 ixM (mVar 0) (mC (PV.int 1))) mNil)) (mIsi "tuple" (m2 ixM (mVar 0) (mC (PV.int 2)))))) mNx)
    (mRet (mC (PV.bl true))))))))))
noncomputable def m_plus : MF := callD 2 6 (mSeq (mAsg (mCall gcdM (mCons (m2 ixM (mVar 0) (mC (PV.int 1))) (mCons (m2 ixM (mVar 1) (mC (PV.int 1))) mNil))) (mgName 2))
    (mSeq (mAsg (m2 fdivM (m2 ixM (mVar 0) (mC (PV.int 1))) (mVar 2)) (mgName 3))
    (mSeq (mAsg (m2 addM (m2 mulM (m2 ixM (mVar 0) (mC (PV.int 0))) (m2 fdivM (m2 ixM (mVar 1) (mC (PV.int 1))) (mVar 2))) (m2 mulM (m2 ixM (mVar 1) (mC (PV.int 0))) (mVar 3))) (mgName 4))
    (mSeq (mAsg (mCall gcdM (mCons (mVar 4) (mCons (mVar 2) mNil))) (mgName 5))
    (mRet (mTup (mCons (m2 fdivM (mVar 4) (mVar 5)) (mCons (m2 mulM (mVar 3) (m2 fdivM (m2 ixM (mVar 1) (mC (PV.int 1))) (mVar 5))) mNil))))))))
noncomputable def m_is_rational : MF := callD 1 3 (mSeq (mIf (mOrT (mNotT (mTru (mIsi "tuple" (mVar 0)))) (mTst (m2 neM (mCall lenM (mCons (mVar 0) mNil)) (mC (PV.int 2))))) (mRet (mC (PV.bl false))) mNx)
    (mSeq (mAsg (mVar 0) (mgTup 2 (mgCons (mgName 1) (mgCons (mgName 2) mgNil))))
    (mRet (mAndV (mApp 1 m_is_whole (mCons (mVar 1) mNil)) (mAndV (mApp 1 m_is_whole (mCons (mVar 2) mNil)) (mAndV (m2 geM (mVar 2) (mC (PV.int 1))) (m2 eqM (mCall gcdM (mCons (mVar 1) (mCons (mVar 2) mNil))) (mC (PV.int 1)))))))))
noncomputable def m_is_chance : MF := callD 1 1 (mRet (mAndV (mApp 1 m_is_rational (mCons (mVar 0) mNil)) (mAndV (m2 gtM (m2 ixM (mVar 0) (mC (PV.int 0))) (mC (PV.int 0))) (m2 leM (m2 ixM (mVar 0) (mC (PV.int 1))) (mC c_MOST_CHANCE_DENOMINATOR)))))
noncomputable def m_problem_of_draw : MF := callD 2 5 (mSeq (mIf (mNotT (mTst (mCh leM leM (mC (PV.int 1)) (mCall lenM (mCons (mVar 0) mNil)) (mC c_MOST_BRANCHES)))) (mRet (mC (PV.str "branches"))) mNx)
    (mSeq (mAsg (mC c_ZERO) (mgName 2))
    (mSeq (mFor (mItE (mVar 0)) (mgTup 2 (mgCons (mgName 3) (mgCons (mgName 4) mgNil))) (mSeq (mIf (mNotT (mTru (mApp 1 m_is_chance (mCons (mVar 3) mNil)))) (mRet (mC (PV.str "chance"))) mNx)
    (mSeq (mIf (mNotT (mTru (mApp 2 m_is_index (mCons (mVar 4) (mCons (mVar 1) mNil))))) (mRet (mC (PV.str "point"))) mNx)
    (mAsg (mApp 2 m_plus (mCons (mVar 2) (mCons (mVar 3) mNil))) (mgName 2)))))
    (mRet (mIfE (mTst (m2 eqM (mVar 2) (mC c_ONE))) (mC PV.non) (mC (PV.str "sum")))))))
noncomputable def m_problem_of_targets : MF := callD 2 3 (mRet (mIfE (mTru (mGA false (mItE (mVar 0)) (mgName 2) mYes (mApp 2 m_is_index (mCons (mVar 2) (mCons (mVar 1) mNil))) [2])) (mC PV.non) (mC (PV.str "point"))))
noncomputable def m_problem_of_choice : MF := callD 2 2 (mSeq (mIf (mNotT (mTst (mCh leM leM (mC (PV.int 1)) (mCall lenM (mCons (mVar 0) mNil)) (mC c_MOST_BRANCHES)))) (mRet (mC (PV.str "branches"))) mNx)
    (mRet (mApp 2 m_problem_of_targets (mCons (mVar 0) (mCons (mVar 1) mNil)))))
noncomputable def m_problem_of_call : MF := callD 3 6 (mSeq (mAsg (mVar 1) (mgTup 3 (mgCons (mgName 3) (mgCons (mgName 4) (mgCons (mgName 5) mgNil)))))
    (mSeq (mIf (mNotT (mTru (mApp 2 m_is_index (mCons (mVar 4) (mCons (mCall lenM (mCons (mVar 0) mNil)) mNil))))) (mRet (mC (PV.str "procedure"))) mNx)
    (mSeq (mIf (mTst (m2 neM (mCall lenM (mCons (mVar 5) mNil)) (m2 ixM (m2 ixM (mVar 0) (mVar 4)) (mC (PV.int 0))))) (mRet (mC (PV.str "branches"))) mNx)
    (mRet (mApp 2 m_problem_of_targets (mCons (mVar 5) (mCons (mVar 2) mNil)))))))
noncomputable def m_is_amount : MF := callD 1 1 (mSeq (mIf (mNotT (mTru (mApp 1 m_is_rational (mCons (mVar 0) mNil)))) (mRet (mC (PV.bl false))) mNx)
    (mRet (mAndV (mCh leM leM (mC (PV.int 0)) (m2 ixM (mVar 0) (mC (PV.int 0))) (mC c_MOST_AMOUNT_NUMERATOR)) (m2 leM (m2 ixM (mVar 0) (mC (PV.int 1))) (mC c_MOST_AMOUNT_DENOMINATOR)))))
noncomputable def m_problem_of_reward : MF := callD 2 5 (mSeq (mAsg (mVar 0) (mgTup 3 (mgCons (mgName 2) (mgCons (mgName 3) (mgCons (mgName 4) mgNil)))))
    (mSeq (mIf (mNotT (mTru (mApp 1 m_is_amount (mCons (mVar 3) mNil)))) (mRet (mC (PV.str "amount"))) mNx)
    (mRet (mApp 2 m_problem_of_targets (mCons (mTup (mCons (mVar 4) mNil)) (mCons (mVar 1) mNil))))))
noncomputable def m_problem_of_point : MF := callD 3 6 (mSeq (mIf (mNotT (mTru (mApp 1 m_has_form (mCons (mVar 2) mNil)))) (mRet (mC (PV.str "form"))) mNx)
    (mSeq (mAsg (m2 ixM (mVar 0) (mVar 1)) (mgTup 2 (mgCons (mgName 3) (mgCons (mgName 4) mgNil))))
    (mSeq (mAsg (m2 ixM (mVar 2) (mC (PV.int 0))) (mgName 5))
    (mSeq (mIf (mTst (m2 eqM (mVar 5) (mC (PV.str "exit")))) (mRet (mIfE (mTru (mApp 2 m_is_index (mCons (m2 ixM (mVar 2) (mC (PV.int 1))) (mCons (mVar 3) mNil)))) (mC PV.non) (mC (PV.str "exit")))) mNx)
    (mSeq (mIf (mTst (m2 eqM (mVar 5) (mC (PV.str "draw")))) (mRet (mApp 2 m_problem_of_draw (mCons (m2 ixM (mVar 2) (mC (PV.int 1))) (mCons (mCall lenM (mCons (mVar 4) mNil)) mNil)))) mNx)
    (mSeq (mIf (mTst (m2 eqM (mVar 5) (mC (PV.str "choose")))) (mRet (mApp 2 m_problem_of_choice (mCons (m2 ixM (mVar 2) (mC (PV.int 1))) (mCons (mCall lenM (mCons (mVar 4) mNil)) mNil)))) mNx)
    (mSeq (mIf (mTst (m2 eqM (mVar 5) (mC (PV.str "call")))) (mRet (mApp 3 m_problem_of_call (mCons (mVar 0) (mCons (mVar 2) (mCons (mCall lenM (mCons (mVar 4) mNil)) mNil))))) mNx)
    (mSeq (mIf (mTst (m2 eqM (mVar 5) (mC (PV.str "reward")))) (mRet (mApp 2 m_problem_of_reward (mCons (mVar 2) (mCons (mCall lenM (mCons (mVar 4) mNil)) mNil)))) mNx)
    (mRet (mC PV.non))))))))))
noncomputable def m_check_points : MF := callD 3 6 (mFor (mItA enumAM (mCons (mVar 2) mNil)) (mgTup 2 (mgCons (mgName 3) (mgCons (mgName 4) mgNil))) (mSeq (mAsg (mApp 3 m_problem_of_point (mCons (mVar 0) (mCons (mVar 1) (mCons (mVar 4) mNil)))) (mgName 5))
    (mIf (mTst (mIsN true (mVar 5))) (mRaise "BadGraph" ["where", "why"] (mCons (mTup (mCons (mVar 1) (mCons (mVar 3) mNil))) (mCons (mVar 5) mNil))) mNx)))
noncomputable def m_problem_of_procedure : MF := callD 1 1 (mSeq (mIf (mOrT (mNotT (mTru (mApp 1 m_is_pair (mCons (mVar 0) mNil)))) (mOrT (mNotT (mTru (mApp 1 m_is_whole (mCons (m2 ixM (mVar 0) (mC (PV.int 0))) mNil)))) (mNotT (mTru (mIsi "tuple" (m2 ixM (mVar 0) (mC (PV.int 1)))))))) (mRet (mC (PV.str "form"))) mNx)
    (mSeq (mIf (mNotT (mTst (mCh leM leM (mC (PV.int 0)) (m2 ixM (mVar 0) (mC (PV.int 0))) (mC c_MOST_EXITS)))) (mRet (mC (PV.str "exits"))) mNx)
    (mSeq (mIf (mNotT (mTst (mCh leM leM (mC (PV.int 1)) (mCall lenM (mCons (m2 ixM (mVar 0) (mC (PV.int 1))) mNil)) (mC c_MOST_POINTS)))) (mRet (mC (PV.str "points"))) mNx)
    (mRet (mC PV.non)))))
noncomputable def m_check_procedures : MF := callD 1 4 (mSeq (mIf (mNotT (mTru (mIsi "tuple" (mVar 0)))) (mRaise "BadGraph" ["where", "why"] (mCons (mTup mNil) (mCons (mC (PV.str "form")) mNil))) mNx)
    (mSeq (mIf (mNotT (mTst (mCh leM leM (mC (PV.int 1)) (mCall lenM (mCons (mVar 0) mNil)) (mC c_MOST_PROCEDURES)))) (mRaise "BadGraph" ["where", "why"] (mCons (mTup mNil) (mCons (mC (PV.str "many")) mNil))) mNx)
    (mSeq (mFor (mItA enumAM (mCons (mVar 0) mNil)) (mgTup 2 (mgCons (mgName 1) (mgCons (mgName 2) mgNil))) (mSeq (mAsg (mApp 1 m_problem_of_procedure (mCons (mVar 2) mNil)) (mgName 3))
    (mIf (mTst (mIsN true (mVar 3))) (mRaise "BadGraph" ["where", "why"] (mCons (mTup (mCons (mVar 1) mNil)) (mCons (mVar 3) mNil))) mNx)))
    (mSeq (mIf (mTst (m2 gtM (mGS (mItE (mVar 0)) (mgName 2) mYes (mCall lenM (mCons (m2 ixM (mVar 2) (mC (PV.int 1))) mNil)) [2]) (mC c_MOST_POINTS_OF_ALL))) (mRaise "BadGraph" ["where", "why"] (mCons (mTup mNil) (mCons (mC (PV.str "many")) mNil))) mNx)
    (mFor (mItA enumAM (mCons (mVar 0) mNil)) (mgTup 2 (mgCons (mgName 1) (mgCons (mgName 2) mgNil))) (mExp (mApp 3 m_check_points (mCons (mVar 0) (mCons (mVar 1) (mCons (m2 ixM (mVar 2) (mC (PV.int 1))) mNil))))))))))
noncomputable def m_Graph_init : MF := callD 2 2 (mSeq (mExp (mApp 1 m_check_procedures (mCons (mVar 1) mNil)))
    (mSetF ["Graph"] "procedures" (mVar 0) (mVar 1)))
noncomputable def m_Graph_is_place : MF := callD 2 4 (mSeq (mIf (mOrT (mNotT (mTru (mIsi "tuple" (mVar 1)))) (mTst (m2 neM (mCall lenM (mCons (mVar 1) mNil)) (mC (PV.int 2))))) (mRet (mC (PV.bl false))) mNx)
    (mSeq (mAsg (mVar 1) (mgTup 2 (mgCons (mgName 2) (mgCons (mgName 3) mgNil))))
    (mRet (mAndV (mApp 2 m_is_index (mCons (mVar 2) (mCons (mCall lenM (mCons (mFld ["Graph"] "procedures" (mVar 0)) mNil)) mNil))) (mApp 2 m_is_index (mCons (mVar 3) (mCons (mCall lenM (mCons (m2 ixM (m2 ixM (mFld ["Graph"] "procedures" (mVar 0)) (mVar 2)) (mC (PV.int 1))) mNil)) mNil)))))))
noncomputable def m_check_graph : MF := callD 1 1 (mIf (mNotT (mTru (mIsC "Graph" (mVar 0)))) (mRaise "BadValue" ["name"] (mCons (mC (PV.str "graph")) mNil)) mNx)
noncomputable def m_rejecting : MF := callD 2 10 (mSeq (mExp (mApp 1 m_check_graph (mCons (mVar 0) mNil)))
    (mSeq (mIf (mOrT (mNotT (mTru (mIsi "list" (mVar 1)))) (mNotT (mTru (mGA false (mItE (mVar 1)) (mgName 2) mYes (mMeth "Graph" "is_place" 2 m_Graph_is_place (mVar 0) (mCons (mVar 2) mNil)) [2])))) (mRaise "BadValue" ["name"] (mCons (mC (PV.str "places")) mNil)) mNx)
    (mSeq (mAsg (mLst mNil) (mgName 3))
    (mSeq (mFor (mItA enumAM (mCons (mFld ["Graph"] "procedures" (mVar 0)) mNil)) (mgTup 2 (mgCons (mgName 4) (mgCons (mgTup 2 (mgCons (mgName 5) (mgCons (mgName 6) mgNil))) mgNil))) (mSeq (mAsg (mLc (mItA enumAM (mCons (mVar 6) mNil)) (mgTup 2 (mgCons (mgName 8) (mgCons (mgName 9) mgNil))) mYes (mIfE (mTst (m2 (inM false) (mTup (mCons (mVar 4) (mCons (mVar 8) mNil))) (mVar 1))) (mTup (mCons (mC (PV.str "reject")) mNil)) (mVar 9)) [8, 9]) (mgName 7))
    (mExp (mBM lstQ appendM (mVar 3) (mCons (mTup (mCons (mVar 5) (mCons (mCall tupleM (mCons (mVar 7) mNil)) mNil))) mNil)))))
    (mRet (mMake "Graph" 2 m_Graph_init (mCons (mCall tupleM (mCons (mVar 3) mNil)) mNil)))))))
noncomputable def m_l_stream : MF := callD 1 1 (mRet (mLst (mCons (mCall listM (mCons (mVar 0) mNil)) (mCons (mC (PV.int 0)) (mCons (mC (PV.int 0)) mNil)))))
noncomputable def m_l_next : MF := callD 2 5 (mSeq (mIf (mTst (m2 eqM (m2 ixM (mVar 0) (mC (PV.int 1))) (mC (PV.int 0)))) (mSeq (mAsg (m2 ixM (mVar 0) (mC (PV.int 2))) (mgName 2))
    (mSeq (mAsg (m2 addM (mC (PV.int 7)) (mVar 2)) (mgName 3))
    (mSeq (mIf (mTst (m2 ltM (mVar 2) (mCall lenM (mCons (m2 ixM (mVar 0) (mC (PV.int 0))) mNil)))) (mAsg (mCall absM (mCons (m2 ixM (m2 ixM (mVar 0) (mC (PV.int 0))) (mVar 2)) mNil)) (mgName 3)) mNx)
    (mSeq (mIf (mTst (m2 ltM (mVar 3) (m2 powM (mC (PV.int 10)) (mC (PV.int 18))))) (mSeq (mAsg (m2 modM (mCall intM (mCons (m2 addM (m2 addM (m2 mulM (mVar 3) (mC (PV.int 48271))) (m2 mulM (mVar 2) (mC (PV.int 69621)))) (mC (PV.int 11))) mNil)) (mC (PV.int 2147483647))) (mgName 3))
    (mAsg (m2 addM (m2 mulM (m2 modM (mCall intM (mCons (m2 addM (m2 mulM (mVar 3) (mC (PV.int 16807))) (mC (PV.int 13))) mNil)) (mC (PV.int 2147483647))) (mC (PV.int 65537))) (mVar 3)) (mgName 3))) mNx)
    (mSeq (mSetL (mVar 0) (mC (PV.int 1)) (mVar 3))
    (mSetL (mVar 0) (mC (PV.int 2)) (m2 addM (mVar 2) (mC (PV.int 1))))))))) mNx)
    (mSeq (mAsg (m2 modM (mCall intM (mCons (m2 ixM (mVar 0) (mC (PV.int 1))) mNil)) (mVar 1)) (mgName 4))
    (mSeq (mSetL (mVar 0) (mC (PV.int 1)) (m2 fdivM (m2 ixM (mVar 0) (mC (PV.int 1))) (mVar 1)))
    (mRet (mVar 4)))))
noncomputable def m_l_end : MF := callD 2 3 (mSeq (mAsg (mApp 2 m_l_next (mCons (mVar 0) (mCons (mC (PV.int 6)) mNil))) (mgName 2))
    (mSeq (mIf (mAndT (mTst (m2 gtM (mVar 1) (mC (PV.int 0)))) (mTst (m2 ltM (mVar 2) (mC (PV.int 4))))) (mRet (mTup (mCons (mC (PV.str "exit")) (mCons (mApp 2 m_l_next (mCons (mVar 0) (mCons (mVar 1) mNil))) mNil)))) mNx)
    (mRet (m2 ixM (mLst (mCons (mTup (mCons (mC (PV.str "reject")) mNil)) (mCons (mTup (mCons (mC (PV.str "stop")) mNil)) mNil))) (m2 bandM (mVar 2) (mC (PV.int 1)))))))
noncomputable def m_l_gcd : MF := callD 2 4 (mSeq (mAsg (mCall absM (mCons (mVar 0) mNil)) (mgName 0))
    (mSeq (mAsg (mCall absM (mCons (mVar 1) mNil)) (mgName 1))
    (mSeq (mFor (mItA rng1 (mCons (mC (PV.int 2000)) mNil)) (mgName 2) (mSeq (mIf (mTst (m2 eqM (mVar 1) (mC (PV.int 0)))) mBk mNx)
    (mSeq (mAsg (m2 modM (mCall intM (mCons (mVar 0) mNil)) (mVar 1)) (mgName 3))
    (mSeq (mAsg (mVar 1) (mgName 0))
    (mAsg (mVar 3) (mgName 1))))))
    (mRet (mVar 0)))))
noncomputable def m_l_ratio : MF := callD 2 3 (mSeq (mAsg (mApp 2 m_l_gcd (mCons (mVar 0) (mCons (mVar 1) mNil))) (mgName 2))
    (mRet (mTup (mCons (m2 fdivM (mVar 0) (mVar 2)) (mCons (m2 fdivM (mVar 1) (mVar 2)) mNil)))))
noncomputable def m_l_branches : MF := callD 2 8 (mSeq (mAsg (m2 addM (mC (PV.int 1)) (mApp 2 m_l_next (mCons (mVar 0) (mCons (mC (PV.int 3)) mNil)))) (mgName 2))
    (mSeq (mIf (mTst (m2 eqM (mApp 2 m_l_next (mCons (mVar 0) (mCons (mC (PV.int 8)) mNil))) (mC (PV.int 1)))) (mAsg (mC (PV.int 4)) (mgName 2)) mNx)
    (mSeq (mAsg (mLc (mItA rng1 (mCons (mVar 2) mNil)) (mgName 4) mYes (mC (PV.int 1)) [4]) (mgName 3))
    (mSeq (mFor (mItA rng1 (mCons (mApp 2 m_l_next (mCons (mVar 0) (mCons (mC (PV.int 6)) mNil))) mNil)) (mgName 4) (mSeq (mAsg (mApp 2 m_l_next (mCons (mVar 0) (mCons (mVar 2) mNil))) (mgName 5))
    (mSetL (mVar 3) (mVar 5) (m2 addM (m2 ixM (mVar 3) (mVar 5)) (mC (PV.int 1))))))
    (mSeq (mAsg (mCall sumM (mCons (mVar 3) mNil)) (mgName 6))
    (mRet (mCall tupleM (mCons (mLc (mItE (mVar 3)) (mgName 7) mYes (mTup (mCons (mApp 2 m_l_ratio (mCons (mVar 7) (mCons (mVar 6) mNil))) (mCons (mApp 2 m_l_next (mCons (mVar 0) (mCons (mVar 1) mNil))) mNil))) [7]) mNil))))))))
noncomputable def m_l_point : MF := callD 5 9 (mSeq (mAsg (mApp 2 m_l_next (mCons (mVar 0) (mCons (mC (PV.int 10)) mNil))) (mgName 5))
    (mSeq (mIf (mTst (m2 ltM (mVar 5) (mC (PV.int 2)))) (mRet (mApp 2 m_l_end (mCons (mVar 0) (mCons (mVar 1) mNil)))) mNx)
    (mSeq (mIf (mTst (m2 eqM (mVar 5) (mC (PV.int 2)))) (mRet (mTup (mCons (mC (PV.str "reward")) (mCons (mApp 2 m_l_ratio (mCons (mApp 2 m_l_next (mCons (mVar 0) (mCons (mC (PV.int 12)) mNil))) (mCons (m2 addM (mC (PV.int 1)) (mApp 2 m_l_next (mCons (mVar 0) (mCons (mC (PV.int 4)) mNil)))) mNil))) (mCons (mApp 2 m_l_next (mCons (mVar 0) (mCons (mVar 2) mNil))) mNil))))) mNx)
    (mSeq (mIf (mAndT (mTst (m2 ltM (mVar 5) (mC (PV.int 5)))) (mTru (mVar 3))) (mSeq (mAsg (m2 ixM (mVar 3) (mApp 2 m_l_next (mCons (mVar 0) (mCons (mCall lenM (mCons (mVar 3) mNil)) mNil)))) (mgTup 2 (mgCons (mgName 6) (mgCons (mgName 7) mgNil))))
    (mRet (mTup (mCons (mC (PV.str "call")) (mCons (mVar 6) (mCons (mCall tupleM (mCons (mLc (mItA rng1 (mCons (mVar 7) mNil)) (mgName 8) mYes (mApp 2 m_l_next (mCons (mVar 0) (mCons (mVar 2) mNil))) [8]) mNil)) mNil)))))) mNx)
    (mSeq (mIf (mAndT (mTst (m2 ltM (mVar 5) (mC (PV.int 8)))) (mTru (mVar 4))) (mRet (mTup (mCons (mC (PV.str "choose")) (mCons (mCall tupleM (mCons (mLc (mItA rng1 (mCons (m2 addM (mC (PV.int 1)) (mApp 2 m_l_next (mCons (mVar 0) (mCons (mC (PV.int 4)) mNil)))) mNil)) (mgName 8) mYes (mApp 2 m_l_next (mCons (mVar 0) (mCons (mVar 2) mNil))) [8]) mNil)) mNil)))) mNx)
    (mRet (mTup (mCons (mC (PV.str "draw")) (mCons (mApp 2 m_l_branches (mCons (mVar 0) (mCons (mVar 2) mNil))) mNil)))))))))
noncomputable def m_l_procedure : MF := callD 5 7 (mSeq (mAsg (mLc (mItA rng1 (mCons (m2 subM (mVar 2) (mC (PV.int 1))) mNil)) (mgName 6) mYes (mApp 5 m_l_point (mCons (mVar 0) (mCons (mVar 1) (mCons (mVar 2) (mCons (mVar 3) (mCons (mVar 4) mNil)))))) [6]) (mgName 5))
    (mSeq (mExp (mBM lstQ appendM (mVar 5) (mCons (mApp 2 m_l_end (mCons (mVar 0) (mCons (mVar 1) mNil))) mNil)))
    (mRet (mTup (mCons (mVar 1) (mCons (mCall tupleM (mCons (mVar 5) mNil)) mNil))))))
noncomputable def m_l_procedures : MF := callD 3 8 (mSeq (mAsg (mLst mNil) (mgName 3))
    (mSeq (mFor (mItA rng1 (mCons (m2 addM (mC (PV.int 1)) (mApp 2 m_l_next (mCons (mVar 0) (mCons (mC (PV.int 3)) mNil)))) mNil)) (mgName 4) (mExp (mBM lstQ appendM (mVar 3) (mCons (mTup (mCons (mApp 2 m_l_next (mCons (mVar 0) (mCons (mC (PV.int 3)) mNil))) (mCons (m2 addM (mC (PV.int 1)) (mApp 2 m_l_next (mCons (mVar 0) (mCons (mC (PV.int 5)) mNil)))) mNil))) mNil))))
    (mSeq (mAsg (mLst mNil) (mgName 5))
    (mSeq (mFor (mItA rng1 (mCons (mCall lenM (mCons (mVar 3) mNil)) mNil)) (mgName 4) (mSeq (mAsg (mLst mNil) (mgName 6))
    (mSeq (mFor (mItA rng1 (mCons (mCall lenM (mCons (mVar 3) mNil)) mNil)) (mgName 7) (mIf (mOrT (mTru (mVar 2)) (mTst (m2 gtM (mVar 7) (mVar 4)))) (mExp (mBM lstQ appendM (mVar 6) (mCons (mTup (mCons (mVar 7) (mCons (m2 ixM (m2 ixM (mVar 3) (mVar 7)) (mC (PV.int 0))) mNil))) mNil))) mNx))
    (mExp (mBM lstQ appendM (mVar 5) (mCons (mApp 5 m_l_procedure (mCons (mVar 0) (mCons (m2 ixM (m2 ixM (mVar 3) (mVar 4)) (mC (PV.int 0))) (mCons (m2 ixM (m2 ixM (mVar 3) (mVar 4)) (mC (PV.int 1))) (mCons (mVar 6) (mCons (mVar 1) mNil)))))) mNil))))))
    (mRet (mCall tupleM (mCons (mVar 5) mNil)))))))
noncomputable def m_l_place : MF := callD 2 3 (mSeq (mAsg (mApp 2 m_l_next (mCons (mVar 0) (mCons (mCall lenM (mCons (mVar 1) mNil)) mNil))) (mgName 2))
    (mRet (mTup (mCons (mVar 2) (mCons (mApp 2 m_l_next (mCons (mVar 0) (mCons (mCall lenM (mCons (m2 ixM (m2 ixM (mVar 1) (mVar 2)) (mC (PV.int 1))) mNil)) mNil))) mNil)))))
noncomputable def m_law : MF := callD 1 12 (mSeq (mAsg (mApp 1 m_l_stream (mCons (mVar 0) mNil)) (mgName 1))
    (mSeq (mAsg (mApp 3 m_l_procedures (mCons (mVar 1) (mCons (mC (PV.bl true)) (mCons (mC (PV.bl true)) mNil)))) (mgName 2))
    (mSeq (mAsg (mMake "Graph" 2 m_Graph_init (mCons (mVar 2) mNil)) (mgName 3))
    (mSeq (mAsg (mLc (mItA rng1 (mCons (mApp 2 m_l_next (mCons (mVar 1) (mCons (mC (PV.int 5)) mNil))) mNil)) (mgName 5) mYes (mApp 2 m_l_place (mCons (mVar 1) (mCons (mVar 2) mNil))) [5]) (mgName 4))
    (mSeq (mAsg (mCall listM (mCons (mVar 4) mNil)) (mgName 6))
    (mSeq (mAsg (mLst mNil) (mgName 7))
    (mSeq (mFor (mItA rng1 (mCons (mCall lenM (mCons (mVar 2) mNil)) mNil)) (mgName 8) (mSeq (mAsg (mLst mNil) (mgName 9))
    (mSeq (mFor (mItA rng1 (mCons (mCall lenM (mCons (m2 ixM (m2 ixM (mVar 2) (mVar 8)) (mC (PV.int 1))) mNil)) mNil)) (mgName 10) (mExp (mBM lstQ appendM (mVar 9) (mCons (mIfE (mTst (m2 (inM false) (mTup (mCons (mVar 8) (mCons (mVar 10) mNil))) (mVar 4))) (mTup (mCons (mC (PV.str "reject")) mNil)) (m2 ixM (m2 ixM (m2 ixM (mVar 2) (mVar 8)) (mC (PV.int 1))) (mVar 10))) mNil))))
    (mExp (mBM lstQ appendM (mVar 7) (mCons (mTup (mCons (m2 ixM (m2 ixM (mVar 2) (mVar 8)) (mC (PV.int 0))) (mCons (mCall tupleM (mCons (mVar 9) mNil)) mNil))) mNil))))))
    (mSeq (mAsg (mApp 2 m_rejecting (mCons (mVar 3) (mCons (mVar 6) mNil))) (mgName 11))
    (mSeq (mIf (mOrT (mNotT (mTru (mIsC "Graph" (mVar 11)))) (mOrT (mTst (m2 neM (mFld ["Graph"] "procedures" (mVar 11)) (mCall tupleM (mCons (mVar 7) mNil)))) (mTst (m2 neM (mFld ["Graph"] "procedures" (mVar 3)) (mVar 2))))) (mRet (mC (PV.bl false))) mNx)
    (mRet (mAndV (m2 eqM (mFld ["Graph"] "procedures" (mApp 2 m_rejecting (mCons (mVar 11) (mCons (mVar 6) mNil)))) (mCall tupleM (mCons (mVar 7) mNil))) (m2 eqM (mVar 6) (mVar 4)))))))))))))
theorem nx1 {S : Sto} {s l : Nat} {ns : List Int} {c k m : Int} (hs : S[s]? = some (.lst [.cell l, .int c, .int k])) (hl : S[l]? = some (.lst (ns.map PV.int))) (hk : 0 ≤ k) (hm : 0 < m) (hb : m.natAbs.log2 < 9000) (hc : c ≠ 0) :
    ∃ d c' k', 0 ≤ d ∧ d < m ∧ 0 ≤ k' ∧ m_l_next [.cell s, .int m] S = .ok (.int d) (S.set s (.lst [.cell l, .int c', .int k'])) := by
  have hlt : s < S.length := (List.getElem?_eq_some_iff.mp hs).1
  have nsl : s ≠ l := by
    rintro rfl
    rw [hs] at hl
    cases ns with
    | nil => simp at hl
    | cons n r => simp at hl
  have gs : ∀ o, (S.set s o)[s]? = some o := fun o => List.getElem?_set_self hlt
  have gl : ∀ o, (S.set s o)[l]? = S[l]? := fun o => List.getElem?_set_ne nsl
  have fin : ∀ i : Int, 0 ≤ i % m ∧ i % m < m := fun i => ⟨Int.emod_nonneg _ (by omega), Int.emod_lt_of_pos _ hm⟩
  have m1 : ∀ i : Int, mulOk i 48271 = true := fun i => mulOk_r (by decide)
  have m2 : ∀ i : Int, mulOk i 69621 = true := fun i => mulOk_r (by decide)
  have m3 : ∀ i : Int, mulOk i 16807 = true := fun i => mulOk_r (by decide)
  have m4 : ∀ i : Int, mulOk i 65537 = true := fun i => mulOk_r (by decide)
  obtain ⟨g, hg, p1⟩ : ∃ g : Int, g = 1000000000000000000 ∧ ∀ T, powM (.int 10) (.int 18) T = .ok (.int g) T := ⟨1000000000000000000, rfl, fun T => by simp [powM]⟩
  obtain ⟨f, d1⟩ : ∃ f : Int → Int, ∀ (i : Int) T, modM (.int i) (.int 2147483647) T = .ok (.int (f i)) T := ⟨fun i => i % 2147483647, fun i T => mod_ev (by decide)⟩
  unfold m_l_next
  simp -implicitDefEqProofs [callD_ev, mSeq_ev, mIf_ev, mRet_ev, mExp_ev, mAsgN_ev, mAsg_ev, mPar_ev, mPar3_ev, mSetL_ev, mNx_ev, mBk_ev, mCt_ev, mRetN_ev, mRaise_ev, m2_ev, mC_ev, mVar, mTst_ev, mTru_ev, mCh_ev, mIsN_ev, mAndT_ev, mOrT_ev, mNotT_ev, mAndV_ev, mOrV_ev, mNotV_ev, mIfE_ev, mNeg_ev, mNil_ev, mCons_ev, mTup_ev, mLst_ev, mCall_ev, mIsi_ev, mApp_ev, mAllWh_ev, mSl_ev, mNoP_ev, mPart_ev, mFor_ev, mItA_ev, mItE_ev, mLc_ev, mYes_ev, add_ev, sub_ev, lt_ev, le_ev, gt_ev, ge_ev, eqi_ev, eqs_ev, eqb_ev, eqn_ev, nei_ev, nes_ev, lenT_ev, abs_ev, int_ev, intb_ev, ixM, atP, ixN, setl, setLO, bindG, mgName, mgTup, mgCons, mgNil, hs, hc, mod_ev hm, div_ev hm hb, gs]
  exact ⟨_, (fin _).1, (fin _).2, _, _, hk, rfl, rfl⟩
theorem nx2 {S : Sto} {s l : Nat} {ns : List Int} {c k m : Int} (hs : S[s]? = some (.lst [.cell l, .int c, .int k])) (hl : S[l]? = some (.lst (ns.map PV.int))) (hk : 0 ≤ k) (hm : 0 < m) (hb : m.natAbs.log2 < 9000) (hc : c = 0) (j : Nat) (ej : k = j) (hj : j < ns.length) (h18 : (ns[j].natAbs : Int) < 1000000000000000000) :
    ∃ d c' k', 0 ≤ d ∧ d < m ∧ 0 ≤ k' ∧ m_l_next [.cell s, .int m] S = .ok (.int d) (S.set s (.lst [.cell l, .int c', .int k'])) := by
  have hlt : s < S.length := (List.getElem?_eq_some_iff.mp hs).1
  have nsl : s ≠ l := by
    rintro rfl
    rw [hs] at hl
    cases ns with
    | nil => simp at hl
    | cons n r => simp at hl
  have gs : ∀ o, (S.set s o)[s]? = some o := fun o => List.getElem?_set_self hlt
  have gl : ∀ o, (S.set s o)[l]? = S[l]? := fun o => List.getElem?_set_ne nsl
  have fin : ∀ i : Int, 0 ≤ i % m ∧ i % m < m := fun i => ⟨Int.emod_nonneg _ (by omega), Int.emod_lt_of_pos _ hm⟩
  have m1 : ∀ i : Int, mulOk i 48271 = true := fun i => mulOk_r (by decide)
  have m2 : ∀ i : Int, mulOk i 69621 = true := fun i => mulOk_r (by decide)
  have m3 : ∀ i : Int, mulOk i 16807 = true := fun i => mulOk_r (by decide)
  have m4 : ∀ i : Int, mulOk i 65537 = true := fun i => mulOk_r (by decide)
  obtain ⟨g, hg, p1⟩ : ∃ g : Int, g = 1000000000000000000 ∧ ∀ T, powM (.int 10) (.int 18) T = .ok (.int g) T := ⟨1000000000000000000, rfl, fun T => by simp [powM]⟩
  rw [← hg] at h18
  obtain ⟨f, d1⟩ : ∃ f : Int → Int, ∀ (i : Int) T, modM (.int i) (.int 2147483647) T = .ok (.int (f i)) T := ⟨fun i => i % 2147483647, fun i T => mod_ev (by decide)⟩
  unfold m_l_next
  subst hc ej
  have hx : (ns.map PV.int)[j]? = some (.int ns[j]) := by simp [hj]
  simp -implicitDefEqProofs [callD_ev, mSeq_ev, mIf_ev, mRet_ev, mExp_ev, mAsgN_ev, mAsg_ev, mPar_ev, mPar3_ev, mSetL_ev, mNx_ev, mBk_ev, mCt_ev, mRetN_ev, mRaise_ev, m2_ev, mC_ev, mVar, mTst_ev, mTru_ev, mCh_ev, mIsN_ev, mAndT_ev, mOrT_ev, mNotT_ev, mAndV_ev, mOrV_ev, mNotV_ev, mIfE_ev, mNeg_ev, mNil_ev, mCons_ev, mTup_ev, mLst_ev, mCall_ev, mIsi_ev, mApp_ev, mAllWh_ev, mSl_ev, mNoP_ev, mPart_ev, mFor_ev, mItA_ev, mItE_ev, mLc_ev, mYes_ev, add_ev, sub_ev, lt_ev, le_ev, gt_ev, ge_ev, eqi_ev, eqs_ev, eqb_ev, eqn_ev, nei_ev, nes_ev, lenT_ev, abs_ev, int_ev, intb_ev, ixM, atP, ixN, setl, setLO, bindG, mgName, mgTup, mgCons, mgNil, hs, hl, lenM, hj, mulM, m1, m2, m3, m4, p1, d1, h18, gs, gl, mod_ev hm, div_ev hm hb]
  exact ⟨_, (fin _).1, (fin _).2, _, _, by omega, rfl, rfl⟩
theorem nx3 {S : Sto} {s l : Nat} {ns : List Int} {c k m : Int} (hs : S[s]? = some (.lst [.cell l, .int c, .int k])) (hl : S[l]? = some (.lst (ns.map PV.int))) (hk : 0 ≤ k) (hm : 0 < m) (hb : m.natAbs.log2 < 9000) (hc : c = 0) (j : Nat) (ej : k = j) (hj : j < ns.length) (h18 : ¬ (ns[j].natAbs : Int) < 1000000000000000000) :
    ∃ d c' k', 0 ≤ d ∧ d < m ∧ 0 ≤ k' ∧ m_l_next [.cell s, .int m] S = .ok (.int d) (S.set s (.lst [.cell l, .int c', .int k'])) := by
  have hlt : s < S.length := (List.getElem?_eq_some_iff.mp hs).1
  have nsl : s ≠ l := by
    rintro rfl
    rw [hs] at hl
    cases ns with
    | nil => simp at hl
    | cons n r => simp at hl
  have gs : ∀ o, (S.set s o)[s]? = some o := fun o => List.getElem?_set_self hlt
  have gl : ∀ o, (S.set s o)[l]? = S[l]? := fun o => List.getElem?_set_ne nsl
  have fin : ∀ i : Int, 0 ≤ i % m ∧ i % m < m := fun i => ⟨Int.emod_nonneg _ (by omega), Int.emod_lt_of_pos _ hm⟩
  have m1 : ∀ i : Int, mulOk i 48271 = true := fun i => mulOk_r (by decide)
  have m2 : ∀ i : Int, mulOk i 69621 = true := fun i => mulOk_r (by decide)
  have m3 : ∀ i : Int, mulOk i 16807 = true := fun i => mulOk_r (by decide)
  have m4 : ∀ i : Int, mulOk i 65537 = true := fun i => mulOk_r (by decide)
  obtain ⟨g, hg, p1⟩ : ∃ g : Int, g = 1000000000000000000 ∧ ∀ T, powM (.int 10) (.int 18) T = .ok (.int g) T := ⟨1000000000000000000, rfl, fun T => by simp [powM]⟩
  rw [← hg] at h18
  obtain ⟨f, d1⟩ : ∃ f : Int → Int, ∀ (i : Int) T, modM (.int i) (.int 2147483647) T = .ok (.int (f i)) T := ⟨fun i => i % 2147483647, fun i T => mod_ev (by decide)⟩
  unfold m_l_next
  subst hc ej
  have hx : (ns.map PV.int)[j]? = some (.int ns[j]) := by simp [hj]
  simp -implicitDefEqProofs [callD_ev, mSeq_ev, mIf_ev, mRet_ev, mExp_ev, mAsgN_ev, mAsg_ev, mPar_ev, mPar3_ev, mSetL_ev, mNx_ev, mBk_ev, mCt_ev, mRetN_ev, mRaise_ev, m2_ev, mC_ev, mVar, mTst_ev, mTru_ev, mCh_ev, mIsN_ev, mAndT_ev, mOrT_ev, mNotT_ev, mAndV_ev, mOrV_ev, mNotV_ev, mIfE_ev, mNeg_ev, mNil_ev, mCons_ev, mTup_ev, mLst_ev, mCall_ev, mIsi_ev, mApp_ev, mAllWh_ev, mSl_ev, mNoP_ev, mPart_ev, mFor_ev, mItA_ev, mItE_ev, mLc_ev, mYes_ev, add_ev, sub_ev, lt_ev, le_ev, gt_ev, ge_ev, eqi_ev, eqs_ev, eqb_ev, eqn_ev, nei_ev, nes_ev, lenT_ev, abs_ev, int_ev, intb_ev, ixM, atP, ixN, setl, setLO, bindG, mgName, mgTup, mgCons, mgNil, hs, hl, lenM, hj, mulM, m1, m2, m3, m4, p1, d1, h18, gs, gl, mod_ev hm, div_ev hm hb]
  exact ⟨_, (fin _).1, (fin _).2, _, _, by omega, rfl, rfl⟩
theorem nx4 {S : Sto} {s l : Nat} {ns : List Int} {c k m : Int} (hs : S[s]? = some (.lst [.cell l, .int c, .int k])) (hl : S[l]? = some (.lst (ns.map PV.int))) (hk : 0 ≤ k) (hm : 0 < m) (hb : m.natAbs.log2 < 9000) (hc : c = 0) (j : Nat) (ej : k = j) (hj : ¬ j < ns.length) (h18 : (7 + (j : Int)) < 1000000000000000000) :
    ∃ d c' k', 0 ≤ d ∧ d < m ∧ 0 ≤ k' ∧ m_l_next [.cell s, .int m] S = .ok (.int d) (S.set s (.lst [.cell l, .int c', .int k'])) := by
  have hlt : s < S.length := (List.getElem?_eq_some_iff.mp hs).1
  have nsl : s ≠ l := by
    rintro rfl
    rw [hs] at hl
    cases ns with
    | nil => simp at hl
    | cons n r => simp at hl
  have gs : ∀ o, (S.set s o)[s]? = some o := fun o => List.getElem?_set_self hlt
  have gl : ∀ o, (S.set s o)[l]? = S[l]? := fun o => List.getElem?_set_ne nsl
  have fin : ∀ i : Int, 0 ≤ i % m ∧ i % m < m := fun i => ⟨Int.emod_nonneg _ (by omega), Int.emod_lt_of_pos _ hm⟩
  have m1 : ∀ i : Int, mulOk i 48271 = true := fun i => mulOk_r (by decide)
  have m2 : ∀ i : Int, mulOk i 69621 = true := fun i => mulOk_r (by decide)
  have m3 : ∀ i : Int, mulOk i 16807 = true := fun i => mulOk_r (by decide)
  have m4 : ∀ i : Int, mulOk i 65537 = true := fun i => mulOk_r (by decide)
  obtain ⟨g, hg, p1⟩ : ∃ g : Int, g = 1000000000000000000 ∧ ∀ T, powM (.int 10) (.int 18) T = .ok (.int g) T := ⟨1000000000000000000, rfl, fun T => by simp [powM]⟩
  rw [← hg] at h18
  obtain ⟨f, d1⟩ : ∃ f : Int → Int, ∀ (i : Int) T, modM (.int i) (.int 2147483647) T = .ok (.int (f i)) T := ⟨fun i => i % 2147483647, fun i T => mod_ev (by decide)⟩
  unfold m_l_next
  subst hc ej
  simp -implicitDefEqProofs [callD_ev, mSeq_ev, mIf_ev, mRet_ev, mExp_ev, mAsgN_ev, mAsg_ev, mPar_ev, mPar3_ev, mSetL_ev, mNx_ev, mBk_ev, mCt_ev, mRetN_ev, mRaise_ev, m2_ev, mC_ev, mVar, mTst_ev, mTru_ev, mCh_ev, mIsN_ev, mAndT_ev, mOrT_ev, mNotT_ev, mAndV_ev, mOrV_ev, mNotV_ev, mIfE_ev, mNeg_ev, mNil_ev, mCons_ev, mTup_ev, mLst_ev, mCall_ev, mIsi_ev, mApp_ev, mAllWh_ev, mSl_ev, mNoP_ev, mPart_ev, mFor_ev, mItA_ev, mItE_ev, mLc_ev, mYes_ev, add_ev, sub_ev, lt_ev, le_ev, gt_ev, ge_ev, eqi_ev, eqs_ev, eqb_ev, eqn_ev, nei_ev, nes_ev, lenT_ev, abs_ev, int_ev, intb_ev, ixM, atP, ixN, setl, setLO, bindG, mgName, mgTup, mgCons, mgNil, hs, hl, lenM, hj, mulM, m1, m2, m3, m4, p1, d1, h18, gs, gl, mod_ev hm, div_ev hm hb]
  exact ⟨_, (fin _).1, (fin _).2, _, _, by omega, rfl, rfl⟩
theorem nx5 {S : Sto} {s l : Nat} {ns : List Int} {c k m : Int} (hs : S[s]? = some (.lst [.cell l, .int c, .int k])) (hl : S[l]? = some (.lst (ns.map PV.int))) (hk : 0 ≤ k) (hm : 0 < m) (hb : m.natAbs.log2 < 9000) (hc : c = 0) (j : Nat) (ej : k = j) (hj : ¬ j < ns.length) (h18 : ¬ (7 + (j : Int)) < 1000000000000000000) :
    ∃ d c' k', 0 ≤ d ∧ d < m ∧ 0 ≤ k' ∧ m_l_next [.cell s, .int m] S = .ok (.int d) (S.set s (.lst [.cell l, .int c', .int k'])) := by
  have hlt : s < S.length := (List.getElem?_eq_some_iff.mp hs).1
  have nsl : s ≠ l := by
    rintro rfl
    rw [hs] at hl
    cases ns with
    | nil => simp at hl
    | cons n r => simp at hl
  have gs : ∀ o, (S.set s o)[s]? = some o := fun o => List.getElem?_set_self hlt
  have gl : ∀ o, (S.set s o)[l]? = S[l]? := fun o => List.getElem?_set_ne nsl
  have fin : ∀ i : Int, 0 ≤ i % m ∧ i % m < m := fun i => ⟨Int.emod_nonneg _ (by omega), Int.emod_lt_of_pos _ hm⟩
  have m1 : ∀ i : Int, mulOk i 48271 = true := fun i => mulOk_r (by decide)
  have m2 : ∀ i : Int, mulOk i 69621 = true := fun i => mulOk_r (by decide)
  have m3 : ∀ i : Int, mulOk i 16807 = true := fun i => mulOk_r (by decide)
  have m4 : ∀ i : Int, mulOk i 65537 = true := fun i => mulOk_r (by decide)
  obtain ⟨g, hg, p1⟩ : ∃ g : Int, g = 1000000000000000000 ∧ ∀ T, powM (.int 10) (.int 18) T = .ok (.int g) T := ⟨1000000000000000000, rfl, fun T => by simp [powM]⟩
  rw [← hg] at h18
  obtain ⟨f, d1⟩ : ∃ f : Int → Int, ∀ (i : Int) T, modM (.int i) (.int 2147483647) T = .ok (.int (f i)) T := ⟨fun i => i % 2147483647, fun i T => mod_ev (by decide)⟩
  unfold m_l_next
  subst hc ej
  simp -implicitDefEqProofs [callD_ev, mSeq_ev, mIf_ev, mRet_ev, mExp_ev, mAsgN_ev, mAsg_ev, mPar_ev, mPar3_ev, mSetL_ev, mNx_ev, mBk_ev, mCt_ev, mRetN_ev, mRaise_ev, m2_ev, mC_ev, mVar, mTst_ev, mTru_ev, mCh_ev, mIsN_ev, mAndT_ev, mOrT_ev, mNotT_ev, mAndV_ev, mOrV_ev, mNotV_ev, mIfE_ev, mNeg_ev, mNil_ev, mCons_ev, mTup_ev, mLst_ev, mCall_ev, mIsi_ev, mApp_ev, mAllWh_ev, mSl_ev, mNoP_ev, mPart_ev, mFor_ev, mItA_ev, mItE_ev, mLc_ev, mYes_ev, add_ev, sub_ev, lt_ev, le_ev, gt_ev, ge_ev, eqi_ev, eqs_ev, eqb_ev, eqn_ev, nei_ev, nes_ev, lenT_ev, abs_ev, int_ev, intb_ev, ixM, atP, ixN, setl, setLO, bindG, mgName, mgTup, mgCons, mgNil, hs, hl, lenM, hj, mulM, m1, m2, m3, m4, p1, d1, h18, gs, gl, mod_ev hm, div_ev hm hb]
  exact ⟨_, (fin _).1, (fin _).2, _, _, by omega, rfl, rfl⟩
theorem next_ev {S : Sto} {s l : Nat} {ns : List Int} {c k m : Int} (hs : S[s]? = some (.lst [.cell l, .int c, .int k])) (hl : S[l]? = some (.lst (ns.map PV.int))) (hk : 0 ≤ k) (hm : 0 < m) (hb : m.natAbs.log2 < 9000) :
    ∃ d c' k', 0 ≤ d ∧ d < m ∧ 0 ≤ k' ∧ m_l_next [.cell s, .int m] S = .ok (.int d) (S.set s (.lst [.cell l, .int c', .int k'])) := by
  by_cases hc : c = 0
  · obtain ⟨j, ej⟩ : ∃ j : Nat, k = (j : Int) := ⟨k.toNat, by omega⟩
    by_cases hj : j < ns.length
    · by_cases h18 : (ns[j].natAbs : Int) < 1000000000000000000
      · exact nx2 hs hl hk hm hb hc j ej hj h18
      · exact nx3 hs hl hk hm hb hc j ej hj h18
    · by_cases h18 : (7 + (j : Int)) < 1000000000000000000
      · exact nx4 hs hl hk hm hb hc j ej hj h18
      · exact nx5 hs hl hk hm hb hc j ej hj h18
  · exact nx1 hs hl hk hm hb hc

theorem stream_r {ns : List Int} {S : Sto} : m_l_stream [.rol (ns.map PV.int)] S = .ok (.cell (S.length + 1)) (gcS S.length [.cell (S.length + 1)] (S ++ [.lst (ns.map PV.int), .lst [.cell S.length, .int 0, .int 0]])) := by
  unfold m_l_stream
  simp -implicitDefEqProofs [callD_ev, mSeq_ev, mIf_ev, mRet_ev, mExp_ev, mAsgN_ev, mAsg_ev, mPar_ev, mPar3_ev, mSetL_ev, mNx_ev, mBk_ev, mCt_ev, mRetN_ev, mRaise_ev, m2_ev, mC_ev, mVar, mTst_ev, mTru_ev, mCh_ev, mIsN_ev, mAndT_ev, mOrT_ev, mNotT_ev, mAndV_ev, mOrV_ev, mNotV_ev, mIfE_ev, mNeg_ev, mNil_ev, mCons_ev, mTup_ev, mLst_ev, mCall_ev, mIsi_ev, mApp_ev, mAllWh_ev, mSl_ev, mNoP_ev, mPart_ev, mFor_ev, mItA_ev, mItE_ev, mLc_ev, mYes_ev, add_ev, sub_ev, lt_ev, le_ev, gt_ev, ge_ev, eqi_ev, eqs_ev, eqb_ev, eqn_ev, nei_ev, nes_ev, lenT_ev, abs_ev, int_ev, intb_ev, ixM, atP, ixN, setl, setLO, bindG, mgName, mgTup, mgCons, mgNil, listM]

/-- the stream of draws as a value -/
def sx (l : Nat) (c k : Int) : MO := .lst [.cell l, .int c, .int k]
structure St (S : Sto) (s l : Nat) (ns : List Int) (c k : Int) : Prop where
  s : S[s]? = some (sx l c k)
  l : S[l]? = some (.lst (ns.map PV.int))
  k : 0 ≤ k
theorem St.ne {S : Sto} {s l : Nat} {ns : List Int} {c k : Int} (h : St S s l ns c k) : s ≠ l := by
  rintro rfl
  have h1 := h.s
  rw [h.l] at h1
  cases ns with
  | nil => simp [sx] at h1
  | cons n r => simp [sx] at h1
theorem St.set {S : Sto} {s l : Nat} {ns : List Int} {c k c' k' : Int} (h : St S s l ns c k) (hk : 0 ≤ k') : St (S.set s (sx l c' k')) s l ns c' k' :=
  ⟨List.getElem?_set_self (List.getElem?_eq_some_iff.mp h.s).1, by rw [List.getElem?_set_ne h.ne]; exact h.l, hk⟩
theorem St.next {S : Sto} {s l : Nat} {ns : List Int} {c k m : Int} (h : St S s l ns c k) (hm : 0 < m) (hb : m.natAbs.log2 < 9000) :
    ∃ d c' k', 0 ≤ d ∧ d < m ∧ St (S.set s (sx l c' k')) s l ns c' k' ∧ m_l_next [.cell s, .int m] S = .ok (.int d) (S.set s (sx l c' k')) := by
  obtain ⟨d, c', k', a, b, e, q⟩ := next_ev (m := m) h.s h.l h.k hm hb
  exact ⟨d, c', k', a, b, h.set e, q⟩
theorem St.app {S : Sto} {s l : Nat} {ns : List Int} {c k : Int} (h : St S s l ns c k) (E : Sto) : St (S ++ E) s l ns c k :=
  ⟨by rw [List.getElem?_append_left (List.getElem?_eq_some_iff.mp h.s).1]; exact h.s, by rw [List.getElem?_append_left (List.getElem?_eq_some_iff.mp h.l).1]; exact h.l, h.k⟩

/-- is_whole -/
def isW : PV → Bool
  | .int _ => true
  | _ => false
theorem isi_ev {T : String} {x : PV} {S : Sto} {t : String} (h : tyP x S = some t) : isiM T x S = .ok (.bl (t == T || (t == "bool" && T == "int"))) S := by
  unfold isiM
  rw [h]

theorem whole_ev {S : Sto} {x : PV} {t : String} (h : tyP x S = some t) : m_is_whole [x] S = .ok (.bl (isW x)) S := by
  unfold m_is_whole
  have e1 := fun T => isi_ev (T := T) h
  cases x with
  | int i => cases h; simp -implicitDefEqProofs [callD_ev, mSeq_ev, mIf_ev, mRet_ev, mExp_ev, mAsgN_ev, mAsg_ev, mPar_ev, mPar3_ev, mSetL_ev, mNx_ev, mBk_ev, mCt_ev, mRetN_ev, mRaise_ev, m2_ev, mC_ev, mVar, mTst_ev, mTru_ev, mCh_ev, mIsN_ev, mAndT_ev, mOrT_ev, mNotT_ev, mAndV_ev, mOrV_ev, mNotV_ev, mIfE_ev, mNeg_ev, mNil_ev, mCons_ev, mTup_ev, mLst_ev, mCall_ev, mIsi_ev, mApp_ev, mAllWh_ev, mSl_ev, mNoP_ev, mPart_ev, mFor_ev, mItA_ev, mItE_ev, mLc_ev, mYes_ev, add_ev, sub_ev, lt_ev, le_ev, gt_ev, ge_ev, eqi_ev, eqs_ev, eqb_ev, eqn_ev, nei_ev, nes_ev, lenT_ev, abs_ev, int_ev, intb_ev, ixM, atP, ixN, setl, setLO, bindG, mgName, mgTup, mgCons, mgNil, e1, isW]
  | bl i => cases h; simp -implicitDefEqProofs [callD_ev, mSeq_ev, mIf_ev, mRet_ev, mExp_ev, mAsgN_ev, mAsg_ev, mPar_ev, mPar3_ev, mSetL_ev, mNx_ev, mBk_ev, mCt_ev, mRetN_ev, mRaise_ev, m2_ev, mC_ev, mVar, mTst_ev, mTru_ev, mCh_ev, mIsN_ev, mAndT_ev, mOrT_ev, mNotT_ev, mAndV_ev, mOrV_ev, mNotV_ev, mIfE_ev, mNeg_ev, mNil_ev, mCons_ev, mTup_ev, mLst_ev, mCall_ev, mIsi_ev, mApp_ev, mAllWh_ev, mSl_ev, mNoP_ev, mPart_ev, mFor_ev, mItA_ev, mItE_ev, mLc_ev, mYes_ev, add_ev, sub_ev, lt_ev, le_ev, gt_ev, ge_ev, eqi_ev, eqs_ev, eqb_ev, eqn_ev, nei_ev, nes_ev, lenT_ev, abs_ev, int_ev, intb_ev, ixM, atP, ixN, setl, setLO, bindG, mgName, mgTup, mgCons, mgNil, e1, isW]
  | non => cases h; simp -implicitDefEqProofs [callD_ev, mSeq_ev, mIf_ev, mRet_ev, mExp_ev, mAsgN_ev, mAsg_ev, mPar_ev, mPar3_ev, mSetL_ev, mNx_ev, mBk_ev, mCt_ev, mRetN_ev, mRaise_ev, m2_ev, mC_ev, mVar, mTst_ev, mTru_ev, mCh_ev, mIsN_ev, mAndT_ev, mOrT_ev, mNotT_ev, mAndV_ev, mOrV_ev, mNotV_ev, mIfE_ev, mNeg_ev, mNil_ev, mCons_ev, mTup_ev, mLst_ev, mCall_ev, mIsi_ev, mApp_ev, mAllWh_ev, mSl_ev, mNoP_ev, mPart_ev, mFor_ev, mItA_ev, mItE_ev, mLc_ev, mYes_ev, add_ev, sub_ev, lt_ev, le_ev, gt_ev, ge_ev, eqi_ev, eqs_ev, eqb_ev, eqn_ev, nei_ev, nes_ev, lenT_ev, abs_ev, int_ev, intb_ev, ixM, atP, ixN, setl, setLO, bindG, mgName, mgTup, mgCons, mgNil, e1, isW]
  | str z => cases h; simp -implicitDefEqProofs [callD_ev, mSeq_ev, mIf_ev, mRet_ev, mExp_ev, mAsgN_ev, mAsg_ev, mPar_ev, mPar3_ev, mSetL_ev, mNx_ev, mBk_ev, mCt_ev, mRetN_ev, mRaise_ev, m2_ev, mC_ev, mVar, mTst_ev, mTru_ev, mCh_ev, mIsN_ev, mAndT_ev, mOrT_ev, mNotT_ev, mAndV_ev, mOrV_ev, mNotV_ev, mIfE_ev, mNeg_ev, mNil_ev, mCons_ev, mTup_ev, mLst_ev, mCall_ev, mIsi_ev, mApp_ev, mAllWh_ev, mSl_ev, mNoP_ev, mPart_ev, mFor_ev, mItA_ev, mItE_ev, mLc_ev, mYes_ev, add_ev, sub_ev, lt_ev, le_ev, gt_ev, ge_ev, eqi_ev, eqs_ev, eqb_ev, eqn_ev, nei_ev, nes_ev, lenT_ev, abs_ev, int_ev, intb_ev, ixM, atP, ixN, setl, setLO, bindG, mgName, mgTup, mgCons, mgNil, e1, isW]
  | tup z => cases h; simp -implicitDefEqProofs [callD_ev, mSeq_ev, mIf_ev, mRet_ev, mExp_ev, mAsgN_ev, mAsg_ev, mPar_ev, mPar3_ev, mSetL_ev, mNx_ev, mBk_ev, mCt_ev, mRetN_ev, mRaise_ev, m2_ev, mC_ev, mVar, mTst_ev, mTru_ev, mCh_ev, mIsN_ev, mAndT_ev, mOrT_ev, mNotT_ev, mAndV_ev, mOrV_ev, mNotV_ev, mIfE_ev, mNeg_ev, mNil_ev, mCons_ev, mTup_ev, mLst_ev, mCall_ev, mIsi_ev, mApp_ev, mAllWh_ev, mSl_ev, mNoP_ev, mPart_ev, mFor_ev, mItA_ev, mItE_ev, mLc_ev, mYes_ev, add_ev, sub_ev, lt_ev, le_ev, gt_ev, ge_ev, eqi_ev, eqs_ev, eqb_ev, eqn_ev, nei_ev, nes_ev, lenT_ev, abs_ev, int_ev, intb_ev, ixM, atP, ixN, setl, setLO, bindG, mgName, mgTup, mgCons, mgNil, e1, isW]
  | rol z => cases h; simp -implicitDefEqProofs [callD_ev, mSeq_ev, mIf_ev, mRet_ev, mExp_ev, mAsgN_ev, mAsg_ev, mPar_ev, mPar3_ev, mSetL_ev, mNx_ev, mBk_ev, mCt_ev, mRetN_ev, mRaise_ev, m2_ev, mC_ev, mVar, mTst_ev, mTru_ev, mCh_ev, mIsN_ev, mAndT_ev, mOrT_ev, mNotT_ev, mAndV_ev, mOrV_ev, mNotV_ev, mIfE_ev, mNeg_ev, mNil_ev, mCons_ev, mTup_ev, mLst_ev, mCall_ev, mIsi_ev, mApp_ev, mAllWh_ev, mSl_ev, mNoP_ev, mPart_ev, mFor_ev, mItA_ev, mItE_ev, mLc_ev, mYes_ev, add_ev, sub_ev, lt_ev, le_ev, gt_ev, ge_ev, eqi_ev, eqs_ev, eqb_ev, eqn_ev, nei_ev, nes_ev, lenT_ev, abs_ev, int_ev, intb_ev, ixM, atP, ixN, setl, setLO, bindG, mgName, mgTup, mgCons, mgNil, e1, isW]
  | cell n =>
    have ht : t = "list" ∨ t = "dict" := by
      simp only [tyP] at h
      split at h <;> simp_all
    rcases ht with rfl | rfl <;> simp -implicitDefEqProofs [callD_ev, mSeq_ev, mIf_ev, mRet_ev, mExp_ev, mAsgN_ev, mAsg_ev, mPar_ev, mPar3_ev, mSetL_ev, mNx_ev, mBk_ev, mCt_ev, mRetN_ev, mRaise_ev, m2_ev, mC_ev, mVar, mTst_ev, mTru_ev, mCh_ev, mIsN_ev, mAndT_ev, mOrT_ev, mNotT_ev, mAndV_ev, mOrV_ev, mNotV_ev, mIfE_ev, mNeg_ev, mNil_ev, mCons_ev, mTup_ev, mLst_ev, mCall_ev, mIsi_ev, mApp_ev, mAllWh_ev, mSl_ev, mNoP_ev, mPart_ev, mFor_ev, mItA_ev, mItE_ev, mLc_ev, mYes_ev, add_ev, sub_ev, lt_ev, le_ev, gt_ev, ge_ev, eqi_ev, eqs_ev, eqb_ev, eqn_ev, nei_ev, nes_ev, lenT_ev, abs_ev, int_ev, intb_ev, ixM, atP, ixN, setl, setLO, bindG, mgName, mgTup, mgCons, mgNil, e1, isW]

/-- is_rational -/
def isRat : PV → Bool
  | .tup [.int n, .int d] => decide (1 ≤ d) && decide (Nat.gcd n.natAbs d.natAbs = 1)
  | _ => false
theorem rat_two {S : Sto} {a b : PV} {ta tb : String} (ha : tyP a S = some ta) (hb : tyP b S = some tb) : m_is_rational [.tup [a, b]] S = .ok (.bl (isRat (.tup [a, b]))) S := by
  unfold m_is_rational
  have w1 := whole_ev ha
  have w2 := whole_ev hb
  have e1 := isi_ev (T := "tuple") (x := .tup [a, b]) (S := S) rfl
  by_cases h1 : isW a = true
  · by_cases h2 : isW b = true
    · obtain ⟨n, rfl⟩ : ∃ n, a = .int n := by cases a <;> first | exact ⟨_, rfl⟩ | (simp [isW] at h1)
      obtain ⟨d, rfl⟩ : ∃ n, b = .int n := by cases b <;> first | exact ⟨_, rfl⟩ | (simp [isW] at h2)
      by_cases h3 : 1 ≤ d
      · simp -implicitDefEqProofs [callD_ev, mSeq_ev, mIf_ev, mRet_ev, mExp_ev, mAsgN_ev, mAsg_ev, mPar_ev, mPar3_ev, mSetL_ev, mNx_ev, mBk_ev, mCt_ev, mRetN_ev, mRaise_ev, m2_ev, mC_ev, mVar, mTst_ev, mTru_ev, mCh_ev, mIsN_ev, mAndT_ev, mOrT_ev, mNotT_ev, mAndV_ev, mOrV_ev, mNotV_ev, mIfE_ev, mNeg_ev, mNil_ev, mCons_ev, mTup_ev, mLst_ev, mCall_ev, mIsi_ev, mApp_ev, mAllWh_ev, mSl_ev, mNoP_ev, mPart_ev, mFor_ev, mItA_ev, mItE_ev, mLc_ev, mYes_ev, add_ev, sub_ev, lt_ev, le_ev, gt_ev, ge_ev, eqi_ev, eqs_ev, eqb_ev, eqn_ev, nei_ev, nes_ev, lenT_ev, abs_ev, int_ev, intb_ev, ixM, atP, ixN, setl, setLO, bindG, mgName, mgTup, mgCons, mgNil, e1, w1, w2, isW, h3, gcdM, isRat, truthM]
        omega
      · simp -implicitDefEqProofs [callD_ev, mSeq_ev, mIf_ev, mRet_ev, mExp_ev, mAsgN_ev, mAsg_ev, mPar_ev, mPar3_ev, mSetL_ev, mNx_ev, mBk_ev, mCt_ev, mRetN_ev, mRaise_ev, m2_ev, mC_ev, mVar, mTst_ev, mTru_ev, mCh_ev, mIsN_ev, mAndT_ev, mOrT_ev, mNotT_ev, mAndV_ev, mOrV_ev, mNotV_ev, mIfE_ev, mNeg_ev, mNil_ev, mCons_ev, mTup_ev, mLst_ev, mCall_ev, mIsi_ev, mApp_ev, mAllWh_ev, mSl_ev, mNoP_ev, mPart_ev, mFor_ev, mItA_ev, mItE_ev, mLc_ev, mYes_ev, add_ev, sub_ev, lt_ev, le_ev, gt_ev, ge_ev, eqi_ev, eqs_ev, eqb_ev, eqn_ev, nei_ev, nes_ev, lenT_ev, abs_ev, int_ev, intb_ev, ixM, atP, ixN, setl, setLO, bindG, mgName, mgTup, mgCons, mgNil, e1, w1, w2, isW, h3, gcdM, isRat, truthM]
    · have h2' : isW b = false := by simpa using h2
      have h3 : isRat (.tup [a, b]) = false := by
        unfold isRat
        split
        · rename_i e
          cases e
          simp [isW] at h2
        · rfl
      rw [h3]
      simp -implicitDefEqProofs [callD_ev, mSeq_ev, mIf_ev, mRet_ev, mExp_ev, mAsgN_ev, mAsg_ev, mPar_ev, mPar3_ev, mSetL_ev, mNx_ev, mBk_ev, mCt_ev, mRetN_ev, mRaise_ev, m2_ev, mC_ev, mVar, mTst_ev, mTru_ev, mCh_ev, mIsN_ev, mAndT_ev, mOrT_ev, mNotT_ev, mAndV_ev, mOrV_ev, mNotV_ev, mIfE_ev, mNeg_ev, mNil_ev, mCons_ev, mTup_ev, mLst_ev, mCall_ev, mIsi_ev, mApp_ev, mAllWh_ev, mSl_ev, mNoP_ev, mPart_ev, mFor_ev, mItA_ev, mItE_ev, mLc_ev, mYes_ev, add_ev, sub_ev, lt_ev, le_ev, gt_ev, ge_ev, eqi_ev, eqs_ev, eqb_ev, eqn_ev, nei_ev, nes_ev, lenT_ev, abs_ev, int_ev, intb_ev, ixM, atP, ixN, setl, setLO, bindG, mgName, mgTup, mgCons, mgNil, e1, w1, w2, h1, h2', truthM]
  · have h1' : isW a = false := by simpa using h1
    have h3 : isRat (.tup [a, b]) = false := by
      unfold isRat
      split
      · rename_i e
        cases e
        simp [isW] at h1
      · rfl
    rw [h3]
    simp -implicitDefEqProofs [callD_ev, mSeq_ev, mIf_ev, mRet_ev, mExp_ev, mAsgN_ev, mAsg_ev, mPar_ev, mPar3_ev, mSetL_ev, mNx_ev, mBk_ev, mCt_ev, mRetN_ev, mRaise_ev, m2_ev, mC_ev, mVar, mTst_ev, mTru_ev, mCh_ev, mIsN_ev, mAndT_ev, mOrT_ev, mNotT_ev, mAndV_ev, mOrV_ev, mNotV_ev, mIfE_ev, mNeg_ev, mNil_ev, mCons_ev, mTup_ev, mLst_ev, mCall_ev, mIsi_ev, mApp_ev, mAllWh_ev, mSl_ev, mNoP_ev, mPart_ev, mFor_ev, mItA_ev, mItE_ev, mLc_ev, mYes_ev, add_ev, sub_ev, lt_ev, le_ev, gt_ev, ge_ev, eqi_ev, eqs_ev, eqb_ev, eqn_ev, nei_ev, nes_ev, lenT_ev, abs_ev, int_ev, intb_ev, ixM, atP, ixN, setl, setLO, bindG, mgName, mgTup, mgCons, mgNil, e1, w1, w2, h1', truthM]

open Odds
def pq (q : Q2) : PV := .tup [.int q.1, .int q.2]
theorem sz_fac {f x m : Int} {n : Nat} (hf : 0 < f) (e : m = f * x) (h : m.natAbs < 2 ^ n) : x.natAbs < 2 ^ n := by
  rw [e, Int.natAbs_mul] at h
  exact Nat.lt_of_le_of_lt (Nat.le_mul_of_pos_left _ (by omega)) h
theorem sz_g {f x m : Int} {n : Nat} (hm : m ≠ 0) (e : m = f * x) (h : m.natAbs < 2 ^ n) : f.natAbs < 2 ^ n := by
  have hx : 0 < x.natAbs := by
    rcases Nat.eq_zero_or_pos x.natAbs with h0 | h0
    · rw [Int.natAbs_eq_zero.mp h0] at e
      omega
    · exact h0
  rw [e, Int.natAbs_mul] at h
  exact Nat.lt_of_le_of_lt (Nat.le_mul_of_pos_right _ hx) h

theorem plus_ev {S : Sto} {a b : Q2} (ha : Nrm a) (hb : Nrm b) (sa : Sm 3000 a) (sb : Sm 3000 b) : m_plus [pq a, pq b] S = .ok (pq (qPlus a b)) S := by
  obtain ⟨u, v, T, G, e1, e2, p1, e3, e4, p2, eq⟩ := plus_low ha hb
  simp only [Int.natAbs_natCast] at e3 e4 p2
  have ne1 : b.2 ≠ 0 := by have := hb.1; omega
  have ne2 : a.2 ≠ 0 := by have := ha.1; omega
  have sg := sz_g ne2 e1 sa.2.2
  have l1 := log_b sg
  have u0 := sz_fac p1 e1 sa.2.2
  have v0 := sz_fac p1 e2 sb.2.2
  have l2 := log_b (sz_g (by omega) e4 sg)
  have f1 : ∀ T, fdivM (.int a.2) (.int ((Nat.gcd a.2.natAbs b.2.natAbs : Nat) : Int)) T = .ok (.int u) T := fun T => by
    rw [div_ev p1 l1]
    congr 2
    conv => lhs; arg 1; rw [e1]
    rw [Int.mul_ediv_cancel_left _ (by omega)]
  have f2 : ∀ T, fdivM (.int b.2) (.int ((Nat.gcd a.2.natAbs b.2.natAbs : Nat) : Int)) T = .ok (.int v) T := fun T => by
    rw [div_ev p1 l1]
    congr 2
    conv => lhs; arg 1; rw [e2]
    rw [Int.mul_ediv_cancel_left _ (by omega)]
  have f3 : ∀ T', fdivM (.int (a.1 * v + b.1 * u)) (.int ((Nat.gcd (a.1 * v + b.1 * u).natAbs (Nat.gcd a.2.natAbs b.2.natAbs) : Nat) : Int)) T' = .ok (.int T) T' := fun T' => by
    rw [div_ev p2 l2]
    congr 2
    conv => lhs; arg 1; rw [e3]
    rw [Int.mul_ediv_cancel_left _ (by omega)]
  have f4 : ∀ T', fdivM (.int b.2) (.int ((Nat.gcd (a.1 * v + b.1 * u).natAbs (Nat.gcd a.2.natAbs b.2.natAbs) : Nat) : Int)) T' = .ok (.int (G * v)) T' := fun T' => by
    rw [div_ev p2 l2]
    congr 2
    conv => lhs; arg 1; rw [e2, e4]
    rw [Int.mul_assoc, Int.mul_ediv_cancel_left _ (by omega)]
  have gv : (G * v).natAbs < 2 ^ 3000 := sz_fac p2 (by rw [← Int.mul_assoc, ← e4]; exact e2) sb.2.2
  have o1 : mulOk a.1 v = true := mulOk_b sa.2.1 v0
  have o2 : mulOk b.1 u = true := mulOk_b sb.2.1 u0
  have o3 : mulOk u (G * v) = true := mulOk_b u0 gv
  unfold m_plus
  simp -implicitDefEqProofs [callD_ev, mSeq_ev, mIf_ev, mRet_ev, mExp_ev, mAsgN_ev, mAsg_ev, mPar_ev, mPar3_ev, mSetL_ev, mNx_ev, mBk_ev, mCt_ev, mRetN_ev, mRaise_ev, m2_ev, mC_ev, mVar, mTst_ev, mTru_ev, mCh_ev, mIsN_ev, mAndT_ev, mOrT_ev, mNotT_ev, mAndV_ev, mOrV_ev, mNotV_ev, mIfE_ev, mNeg_ev, mNil_ev, mCons_ev, mTup_ev, mLst_ev, mCall_ev, mIsi_ev, mApp_ev, mAllWh_ev, mSl_ev, mNoP_ev, mPart_ev, mFor_ev, mItA_ev, mItE_ev, mLc_ev, mYes_ev, add_ev, sub_ev, lt_ev, le_ev, gt_ev, ge_ev, eqi_ev, eqs_ev, eqb_ev, eqn_ev, nei_ev, nes_ev, lenT_ev, abs_ev, int_ev, intb_ev, ixM, atP, ixN, setl, setLO, bindG, mgName, mgTup, mgCons, mgNil, pq, gcdM, f1, f2, f3, f4, mulM, o1, o2, o3, eq]
def bs (c b w : Int) : Int := if w = 1 then (if b ≤ 0 ∨ c < 0 then 1 else -1) else (if 0 ≤ b ∨ c < 0 then -1 else 1)
structure Dst (ns : List Int) (s l : Nat) (S : Sto) : Prop where
  st : ∃ c k, St S s l ns c k
  clo : Clo S
def Up (s l : Nat) (S S' : Sto) : Prop := ∃ c k, 0 ≤ k ∧ S' = S.set s (sx l c k)
section
variable {ns : List Int} {s l : Nat} {S S' S'' : Sto}
theorem Dst.lt (h : Dst ns s l S) : s < S.length ∧ l < S.length := by
  obtain ⟨c, k, h⟩ := h.st
  exact ⟨(List.getElem?_eq_some_iff.mp h.s).1, (List.getElem?_eq_some_iff.mp h.l).1⟩
theorem sx_clo {n : Nat} {c k : Int} (h : l < n) : cloO n (sx l c k) = true := by
  show (decide (l < n) && true) = true
  rw [decide_eq_true h]
  rfl
theorem Dst.nx {m : Int} (h : Dst ns s l S) (hm : 0 < m) (hb : m.natAbs.log2 < 9000) : ∃ d S', 0 ≤ d ∧ d < m ∧ Dst ns s l S' ∧ Up s l S S' ∧ m_l_next [.cell s, .int m] S = .ok (.int d) S' := by
  have lt := h.lt
  have cl := h.clo
  obtain ⟨c, k, h⟩ := h.st
  obtain ⟨d, c', k', a, b, h', e⟩ := h.next hm hb
  exact ⟨d, _, a, b, ⟨⟨c', k', h'⟩, cl.set (sx_clo lt.2)⟩, ⟨c', k', h'.k, rfl⟩, e⟩
theorem Dst.app {o : MO} (h : Dst ns s l S) (ho : cloO (S.length + 1) o = true) : Dst ns s l (S ++ [o]) := by
  obtain ⟨c, k, h'⟩ := h.st
  exact ⟨⟨c, k, h'.app _⟩, h.clo.app ho⟩
theorem Dst.up (h : Dst ns s l S) (u : Up s l S S') : Dst ns s l S' := by
  have lt := h.lt
  have cl := h.clo
  obtain ⟨c0, k0, h0⟩ := h.st
  obtain ⟨c, k, hk, rfl⟩ := u
  exact ⟨⟨c, k, h0.set hk⟩, cl.set (sx_clo lt.2)⟩
theorem Up.rfl (h : Dst ns s l S) : Up s l S S := by
  obtain ⟨c, k, h'⟩ := h.st
  refine ⟨c, k, h'.k, ?_⟩
  obtain ⟨h1, h2⟩ := List.getElem?_eq_some_iff.mp h'.s
  rw [← h2]
  simp
theorem Up.trans (u : Up s l S S') (v : Up s l S' S'') : Up s l S S'' := by
  obtain ⟨c, k, _, rfl⟩ := u
  obtain ⟨c', k', h, rfl⟩ := v
  exact ⟨c', k', h, by rw [List.set_set]⟩
theorem Up.len (u : Up s l S S') : S'.length = S.length := by
  obtain ⟨c, k, _, rfl⟩ := u
  simp
theorem Up.at (u : Up s l S S') {i : Nat} (h : i ≠ s) : S'[i]? = S[i]? := by
  obtain ⟨c, k, _, rfl⟩ := u
  exact List.getElem?_set_ne (Ne.symm h)
/-- the object that stands behind all others -/
theorem Up.last {o : MO} (h : Dst ns s l S) (u : Up s l (S ++ [o]) S') : S'[S.length]? = some o := by
  rw [u.at (by have := h.lt; omega)]
  simp
/-- what was made behind S falls away -/
theorem Up.gc {E : Sto} {vs : List PV} (h : Dst ns s l S) (u : Up s l (S ++ E) S') (hv : clos S.length vs = true) : ∃ T, Dst ns s l T ∧ Up s l S T ∧ gcS S.length vs S' = T := by
  have lt := h.lt
  obtain ⟨c, k, hk, rfl⟩ := u
  have u2 : Up s l S (S.set s (sx l c k)) := ⟨c, k, hk, Eq.refl _⟩
  refine ⟨_, h.up u2, u2, ?_⟩
  rw [List.set_append_left _ _ lt.1]
  have e : S.length = (S.set s (sx l c k)).length := by simp
  rw [e] at hv ⊢
  exact gcS_app (h.up u2).clo hv
end
section
variable {t : MG} {mt : MT} {te : ME} {vs : List Nat} {n : Nat} {ρ : PSt} {S : Sto} {x : PV} {xs : List PV}
end
theorem whi_ev {S : Sto} {i : Int} : m_is_whole [.int i] S = .ok (.bl true) S := whole_ev (x := .int i) rfl
theorem idx_ev {S : Sto} {i n : Int} : m_is_index [.int i, .int n] S = .ok (.bl (decide (0 ≤ i) && decide (i < n))) S := by
  unfold m_is_index
  by_cases h : 0 ≤ i
  · simp -implicitDefEqProofs [callD_ev, mSeq_ev, mIf_ev, mRet_ev, mExp_ev, mAsgN_ev, mAsg_ev, mPar_ev, mPar3_ev, mSetL_ev, mNx_ev, mBk_ev, mCt_ev, mRetN_ev, mRaise_ev, m2_ev, mC_ev, mVar, mTst_ev, mTru_ev, mCh_ev, mIsN_ev, mAndT_ev, mOrT_ev, mNotT_ev, mAndV_ev, mOrV_ev, mNotV_ev, mIfE_ev, mNeg_ev, mNil_ev, mCons_ev, mTup_ev, mLst_ev, mCall_ev, mIsi_ev, mApp_ev, mAllWh_ev, mSl_ev, mNoP_ev, mPart_ev, mFor_ev, mItA_ev, mItE_ev, mLc_ev, mYes_ev, add_ev, sub_ev, lt_ev, le_ev, gt_ev, ge_ev, eqi_ev, eqs_ev, eqb_ev, eqn_ev, nei_ev, nes_ev, lenT_ev, abs_ev, int_ev, intb_ev, ixM, atP, ixN, setl, setLO, bindG, mgName, mgTup, mgCons, mgNil, whi_ev, h]
  · simp -implicitDefEqProofs [callD_ev, mSeq_ev, mIf_ev, mRet_ev, mExp_ev, mAsgN_ev, mAsg_ev, mPar_ev, mPar3_ev, mSetL_ev, mNx_ev, mBk_ev, mCt_ev, mRetN_ev, mRaise_ev, m2_ev, mC_ev, mVar, mTst_ev, mTru_ev, mCh_ev, mIsN_ev, mAndT_ev, mOrT_ev, mNotT_ev, mAndV_ev, mOrV_ev, mNotV_ev, mIfE_ev, mNeg_ev, mNil_ev, mCons_ev, mTup_ev, mLst_ev, mCall_ev, mIsi_ev, mApp_ev, mAllWh_ev, mSl_ev, mNoP_ev, mPart_ev, mFor_ev, mItA_ev, mItE_ev, mLc_ev, mYes_ev, add_ev, sub_ev, lt_ev, le_ev, gt_ev, ge_ev, eqi_ev, eqs_ev, eqb_ev, eqn_ev, nei_ev, nes_ev, lenT_ev, abs_ev, int_ev, intb_ev, ixM, atP, ixN, setl, setLO, bindG, mgName, mgTup, mgCons, mgNil, whi_ev, h]
theorem pair_ev {S : Sto} {a b : PV} : m_is_pair [.tup [a, b]] S = .ok (.bl true) S := by
  unfold m_is_pair
  simp -implicitDefEqProofs [callD_ev, mSeq_ev, mIf_ev, mRet_ev, mExp_ev, mAsgN_ev, mAsg_ev, mPar_ev, mPar3_ev, mSetL_ev, mNx_ev, mBk_ev, mCt_ev, mRetN_ev, mRaise_ev, m2_ev, mC_ev, mVar, mTst_ev, mTru_ev, mCh_ev, mIsN_ev, mAndT_ev, mOrT_ev, mNotT_ev, mAndV_ev, mOrV_ev, mNotV_ev, mIfE_ev, mNeg_ev, mNil_ev, mCons_ev, mTup_ev, mLst_ev, mCall_ev, mIsi_ev, mApp_ev, mAllWh_ev, mSl_ev, mNoP_ev, mPart_ev, mFor_ev, mItA_ev, mItE_ev, mLc_ev, mYes_ev, add_ev, sub_ev, lt_ev, le_ev, gt_ev, ge_ev, eqi_ev, eqs_ev, eqb_ev, eqn_ev, nei_ev, nes_ev, lenT_ev, abs_ev, int_ev, intb_ev, ixM, atP, ixN, setl, setLO, bindG, mgName, mgTup, mgCons, mgNil, isi_ev (T := "tuple") (x := .tup [a, b]) (S := S) rfl]
def pairs : List PV → Prop
  | [] => True
  | x :: xs => (∃ a b, x = .tup [a, b]) ∧ pairs xs
theorem all_pairs {S : Sto} {ρ : PSt} (hr : 2 < ρ.length) : ∀ {bs : List PV}, pairs bs → gaGo false [] (mgName 2) mYes (mApp 1 m_is_pair (mCons (mVar 2) mNil)) [2] ρ bs S = .ok (.bl true) S
  | [], _ => ga_nil
  | x :: xs, h => by
    obtain ⟨⟨a, b, rfl⟩, h2⟩ := h
    have q : (ρ.set 2 (some (.tup [a, b])))[2]? = some (some (.tup [a, b])) := List.getElem?_set_self hr
    rw [ga_cons]
    simp only [mApp_ev, mCons_ev, mNil_ev, mVar_ev q, bind_ok, List.length_cons, List.length_nil, if_true, pair_ev, sb_ok, Bool.true_eq_false, if_false]
    exact all_pairs hr h2
theorem hf_stop {S : Sto}  : m_has_form [.tup [.str "stop"]] S = .ok (.bl true) S := by
  have e1 := fun T => isi_ev (T := T) (x := .tup [.str "stop"]) (S := S) rfl
  have e2 := fun T => isi_ev (T := T) (x := .str "stop") (S := S) rfl
  have n_exit : ¬ (("stop" : Str) = "exit") := by decide
  have n_draw : ¬ (("stop" : Str) = "draw") := by decide
  have n_choose : ¬ (("stop" : Str) = "choose") := by decide
  have n_call : ¬ (("stop" : Str) = "call") := by decide
  have n_reward : ¬ (("stop" : Str) = "reward") := by decide
  have kd : kd_ITEMS.lookup ("stop" : Str) = some (.int 1) := by rfl
  unfold m_has_form
  simp -implicitDefEqProofs [callD_ev, mSeq_ev, mIf_ev, mRet_ev, mExp_ev, mAsgN_ev, mAsg_ev, mPar_ev, mPar3_ev, mSetL_ev, mNx_ev, mBk_ev, mCt_ev, mRetN_ev, mRaise_ev, m2_ev, mC_ev, mVar, mTst_ev, mTru_ev, mCh_ev, mIsN_ev, mAndT_ev, mOrT_ev, mNotT_ev, mAndV_ev, mOrV_ev, mNotV_ev, mIfE_ev, mNeg_ev, mNil_ev, mCons_ev, mTup_ev, mLst_ev, mCall_ev, mIsi_ev, mApp_ev, mAllWh_ev, mSl_ev, mNoP_ev, mPart_ev, mFor_ev, mItA_ev, mItE_ev, mLc_ev, mYes_ev, add_ev, sub_ev, lt_ev, le_ev, gt_ev, ge_ev, eqi_ev, eqs_ev, eqb_ev, eqn_ev, nei_ev, nes_ev, lenT_ev, abs_ev, int_ev, intb_ev, ixM, atP, ixN, setl, setLO, bindG, mgName, mgTup, mgCons, mgNil, e1, e2, mKGet_ev, kd, n_exit, n_draw, n_choose, n_call, n_reward, truthM]
theorem hf_exit {S : Sto} {k : Int} : m_has_form [.tup [.str "exit", .int k]] S = .ok (.bl true) S := by
  have e1 := fun T => isi_ev (T := T) (x := .tup [.str "exit", .int k]) (S := S) rfl
  have e2 := fun T => isi_ev (T := T) (x := .str "exit") (S := S) rfl
  have n_draw : ¬ (("exit" : Str) = "draw") := by decide
  have n_choose : ¬ (("exit" : Str) = "choose") := by decide
  have n_call : ¬ (("exit" : Str) = "call") := by decide
  have n_reward : ¬ (("exit" : Str) = "reward") := by decide
  have kd : kd_ITEMS.lookup ("exit" : Str) = some (.int 2) := by rfl
  unfold m_has_form
  simp -implicitDefEqProofs [callD_ev, mSeq_ev, mIf_ev, mRet_ev, mExp_ev, mAsgN_ev, mAsg_ev, mPar_ev, mPar3_ev, mSetL_ev, mNx_ev, mBk_ev, mCt_ev, mRetN_ev, mRaise_ev, m2_ev, mC_ev, mVar, mTst_ev, mTru_ev, mCh_ev, mIsN_ev, mAndT_ev, mOrT_ev, mNotT_ev, mAndV_ev, mOrV_ev, mNotV_ev, mIfE_ev, mNeg_ev, mNil_ev, mCons_ev, mTup_ev, mLst_ev, mCall_ev, mIsi_ev, mApp_ev, mAllWh_ev, mSl_ev, mNoP_ev, mPart_ev, mFor_ev, mItA_ev, mItE_ev, mLc_ev, mYes_ev, add_ev, sub_ev, lt_ev, le_ev, gt_ev, ge_ev, eqi_ev, eqs_ev, eqb_ev, eqn_ev, nei_ev, nes_ev, lenT_ev, abs_ev, int_ev, intb_ev, ixM, atP, ixN, setl, setLO, bindG, mgName, mgTup, mgCons, mgNil, e1, e2, mKGet_ev, kd, n_draw, n_choose, n_call, n_reward, truthM, whi_ev]
theorem hf_choose {S : Sto} {ts : List PV} : m_has_form [.tup [.str "choose", .tup ts]] S = .ok (.bl true) S := by
  have e1 := fun T => isi_ev (T := T) (x := .tup [.str "choose", .tup ts]) (S := S) rfl
  have e2 := fun T => isi_ev (T := T) (x := .str "choose") (S := S) rfl
  have n_exit : ¬ (("choose" : Str) = "exit") := by decide
  have n_draw : ¬ (("choose" : Str) = "draw") := by decide
  have n_call : ¬ (("choose" : Str) = "call") := by decide
  have n_reward : ¬ (("choose" : Str) = "reward") := by decide
  have kd : kd_ITEMS.lookup ("choose" : Str) = some (.int 2) := by rfl
  have e3 := fun T => isi_ev (T := T) (x := .tup ts) (S := S) rfl
  unfold m_has_form
  simp -implicitDefEqProofs [callD_ev, mSeq_ev, mIf_ev, mRet_ev, mExp_ev, mAsgN_ev, mAsg_ev, mPar_ev, mPar3_ev, mSetL_ev, mNx_ev, mBk_ev, mCt_ev, mRetN_ev, mRaise_ev, m2_ev, mC_ev, mVar, mTst_ev, mTru_ev, mCh_ev, mIsN_ev, mAndT_ev, mOrT_ev, mNotT_ev, mAndV_ev, mOrV_ev, mNotV_ev, mIfE_ev, mNeg_ev, mNil_ev, mCons_ev, mTup_ev, mLst_ev, mCall_ev, mIsi_ev, mApp_ev, mAllWh_ev, mSl_ev, mNoP_ev, mPart_ev, mFor_ev, mItA_ev, mItE_ev, mLc_ev, mYes_ev, add_ev, sub_ev, lt_ev, le_ev, gt_ev, ge_ev, eqi_ev, eqs_ev, eqb_ev, eqn_ev, nei_ev, nes_ev, lenT_ev, abs_ev, int_ev, intb_ev, ixM, atP, ixN, setl, setLO, bindG, mgName, mgTup, mgCons, mgNil, e1, e2, mKGet_ev, kd, n_exit, n_draw, n_call, n_reward, truthM, e3]
theorem hf_reward {S : Sto} {a i : PV} : m_has_form [.tup [.str "reward", a, i]] S = .ok (.bl true) S := by
  have e1 := fun T => isi_ev (T := T) (x := .tup [.str "reward", a, i]) (S := S) rfl
  have e2 := fun T => isi_ev (T := T) (x := .str "reward") (S := S) rfl
  have n_exit : ¬ (("reward" : Str) = "exit") := by decide
  have n_draw : ¬ (("reward" : Str) = "draw") := by decide
  have n_choose : ¬ (("reward" : Str) = "choose") := by decide
  have n_call : ¬ (("reward" : Str) = "call") := by decide
  have kd : kd_ITEMS.lookup ("reward" : Str) = some (.int 3) := by rfl
  unfold m_has_form
  simp -implicitDefEqProofs [callD_ev, mSeq_ev, mIf_ev, mRet_ev, mExp_ev, mAsgN_ev, mAsg_ev, mPar_ev, mPar3_ev, mSetL_ev, mNx_ev, mBk_ev, mCt_ev, mRetN_ev, mRaise_ev, m2_ev, mC_ev, mVar, mTst_ev, mTru_ev, mCh_ev, mIsN_ev, mAndT_ev, mOrT_ev, mNotT_ev, mAndV_ev, mOrV_ev, mNotV_ev, mIfE_ev, mNeg_ev, mNil_ev, mCons_ev, mTup_ev, mLst_ev, mCall_ev, mIsi_ev, mApp_ev, mAllWh_ev, mSl_ev, mNoP_ev, mPart_ev, mFor_ev, mItA_ev, mItE_ev, mLc_ev, mYes_ev, add_ev, sub_ev, lt_ev, le_ev, gt_ev, ge_ev, eqi_ev, eqs_ev, eqb_ev, eqn_ev, nei_ev, nes_ev, lenT_ev, abs_ev, int_ev, intb_ev, ixM, atP, ixN, setl, setLO, bindG, mgName, mgTup, mgCons, mgNil, e1, e2, mKGet_ev, kd, n_exit, n_draw, n_choose, n_call, truthM]
theorem hf_draw {S : Sto} {bs : List PV} (h : pairs bs) : m_has_form [.tup [.str "draw", .tup bs]] S = .ok (.bl true) S := by
  have e1 := fun T => isi_ev (T := T) (x := .tup [.str "draw", .tup bs]) (S := S) rfl
  have e2 := fun T => isi_ev (T := T) (x := .str "draw") (S := S) rfl
  have n_exit : ¬ (("draw" : Str) = "exit") := by decide
  have n_choose : ¬ (("draw" : Str) = "choose") := by decide
  have n_call : ¬ (("draw" : Str) = "call") := by decide
  have n_reward : ¬ (("draw" : Str) = "reward") := by decide
  have kd : kd_ITEMS.lookup ("draw" : Str) = some (.int 2) := by rfl
  have e3 := fun T => isi_ev (T := T) (x := .tup bs) (S := S) rfl
  have e4 : ∀ ρ : PSt, 2 < ρ.length → gaGo false [] (mgName 2) mYes (mApp 1 m_is_pair (mCons (mVar 2) mNil)) [2] ρ bs S = .ok (.bl true) S := fun ρ hr => all_pairs hr h
  unfold m_has_form
  simp -implicitDefEqProofs [callD_ev, mSeq_ev, mIf_ev, mRet_ev, mExp_ev, mAsgN_ev, mAsg_ev, mPar_ev, mPar3_ev, mSetL_ev, mNx_ev, mBk_ev, mCt_ev, mRetN_ev, mRaise_ev, m2_ev, mC_ev, mVar, mTst_ev, mTru_ev, mCh_ev, mIsN_ev, mAndT_ev, mOrT_ev, mNotT_ev, mAndV_ev, mOrV_ev, mNotV_ev, mIfE_ev, mNeg_ev, mNil_ev, mCons_ev, mTup_ev, mLst_ev, mCall_ev, mIsi_ev, mApp_ev, mAllWh_ev, mSl_ev, mNoP_ev, mPart_ev, mFor_ev, mItA_ev, mItE_ev, mLc_ev, mYes_ev, add_ev, sub_ev, lt_ev, le_ev, gt_ev, ge_ev, eqi_ev, eqs_ev, eqb_ev, eqn_ev, nei_ev, nes_ev, lenT_ev, abs_ev, int_ev, intb_ev, ixM, atP, ixN, setl, setLO, bindG, mgName, mgTup, mgCons, mgNil, e1, e2, mKGet_ev, kd, n_exit, n_choose, n_call, n_reward, truthM, e3, mGA_ev, itOf, e4]
theorem pp_stop {S : Sto} {ps qs : List PV} {n e : Int}  (hp : ∀ T, ixM (.tup ps) (.int n) T = .ok (.tup [.int e, .tup qs]) T) : m_problem_of_point [.tup ps, .int n, .tup [.str "stop"]] S = .ok .non S := by
  have n_exit : ¬ (("stop" : Str) = "exit") := by decide
  have n_draw : ¬ (("stop" : Str) = "draw") := by decide
  have n_choose : ¬ (("stop" : Str) = "choose") := by decide
  have n_call : ¬ (("stop" : Str) = "call") := by decide
  have n_reward : ¬ (("stop" : Str) = "reward") := by decide
  have kd : kd_ITEMS.lookup ("stop" : Str) = some (.int 1) := by rfl
  unfold m_problem_of_point
  simp -implicitDefEqProofs [callD_ev, mSeq_ev, mIf_ev, mRet_ev, mExp_ev, mAsgN_ev, mAsg_ev, mPar_ev, mPar3_ev, mSetL_ev, mNx_ev, mBk_ev, mCt_ev, mRetN_ev, mRaise_ev, m2_ev, mC_ev, mVar, mTst_ev, mTru_ev, mCh_ev, mIsN_ev, mAndT_ev, mOrT_ev, mNotT_ev, mAndV_ev, mOrV_ev, mNotV_ev, mIfE_ev, mNeg_ev, mNil_ev, mCons_ev, mTup_ev, mLst_ev, mCall_ev, mIsi_ev, mApp_ev, mAllWh_ev, mSl_ev, mNoP_ev, mPart_ev, mFor_ev, mItA_ev, mItE_ev, mLc_ev, mYes_ev, add_ev, sub_ev, lt_ev, le_ev, gt_ev, ge_ev, eqi_ev, eqs_ev, eqb_ev, eqn_ev, nei_ev, nes_ev, lenT_ev, abs_ev, int_ev, intb_ev, setl, setLO, bindG, mgName, mgTup, mgCons, mgNil, ixT0, ixT1, ixT2, ixT0, ixT1, eqs_ev, hf_stop, hp, kd, n_exit, n_draw, n_choose, n_call, n_reward, truthM]
theorem pp_exit {S : Sto} {ps qs : List PV} {n e : Int} {k : Int} (hk : 0 ≤ k ∧ k < e) (hp : ∀ T, ixM (.tup ps) (.int n) T = .ok (.tup [.int e, .tup qs]) T) : m_problem_of_point [.tup ps, .int n, .tup [.str "exit", .int k]] S = .ok .non S := by
  have n_draw : ¬ (("exit" : Str) = "draw") := by decide
  have n_choose : ¬ (("exit" : Str) = "choose") := by decide
  have n_call : ¬ (("exit" : Str) = "call") := by decide
  have n_reward : ¬ (("exit" : Str) = "reward") := by decide
  have kd : kd_ITEMS.lookup ("exit" : Str) = some (.int 2) := by rfl
  unfold m_problem_of_point
  simp -implicitDefEqProofs [callD_ev, mSeq_ev, mIf_ev, mRet_ev, mExp_ev, mAsgN_ev, mAsg_ev, mPar_ev, mPar3_ev, mSetL_ev, mNx_ev, mBk_ev, mCt_ev, mRetN_ev, mRaise_ev, m2_ev, mC_ev, mVar, mTst_ev, mTru_ev, mCh_ev, mIsN_ev, mAndT_ev, mOrT_ev, mNotT_ev, mAndV_ev, mOrV_ev, mNotV_ev, mIfE_ev, mNeg_ev, mNil_ev, mCons_ev, mTup_ev, mLst_ev, mCall_ev, mIsi_ev, mApp_ev, mAllWh_ev, mSl_ev, mNoP_ev, mPart_ev, mFor_ev, mItA_ev, mItE_ev, mLc_ev, mYes_ev, add_ev, sub_ev, lt_ev, le_ev, gt_ev, ge_ev, eqi_ev, eqs_ev, eqb_ev, eqn_ev, nei_ev, nes_ev, lenT_ev, abs_ev, int_ev, intb_ev, setl, setLO, bindG, mgName, mgTup, mgCons, mgNil, ixT0, ixT1, ixT2, ixT0, ixT1, eqs_ev, hf_exit, hp, kd, n_draw, n_choose, n_call, n_reward, truthM, idx_ev, hk.1, hk.2]
theorem pp_choose {S : Sto} {ps qs : List PV} {n e : Int} {ts : List PV} {x : PV} (hr : ∀ T, m_problem_of_choice [.tup ts, .int qs.length] T = .ok x T) (hp : ∀ T, ixM (.tup ps) (.int n) T = .ok (.tup [.int e, .tup qs]) T) : m_problem_of_point [.tup ps, .int n, .tup [.str "choose", .tup ts]] S = .ok x S := by
  have n_exit : ¬ (("choose" : Str) = "exit") := by decide
  have n_draw : ¬ (("choose" : Str) = "draw") := by decide
  have n_call : ¬ (("choose" : Str) = "call") := by decide
  have n_reward : ¬ (("choose" : Str) = "reward") := by decide
  have kd : kd_ITEMS.lookup ("choose" : Str) = some (.int 2) := by rfl
  unfold m_problem_of_point
  simp -implicitDefEqProofs [callD_ev, mSeq_ev, mIf_ev, mRet_ev, mExp_ev, mAsgN_ev, mAsg_ev, mPar_ev, mPar3_ev, mSetL_ev, mNx_ev, mBk_ev, mCt_ev, mRetN_ev, mRaise_ev, m2_ev, mC_ev, mVar, mTst_ev, mTru_ev, mCh_ev, mIsN_ev, mAndT_ev, mOrT_ev, mNotT_ev, mAndV_ev, mOrV_ev, mNotV_ev, mIfE_ev, mNeg_ev, mNil_ev, mCons_ev, mTup_ev, mLst_ev, mCall_ev, mIsi_ev, mApp_ev, mAllWh_ev, mSl_ev, mNoP_ev, mPart_ev, mFor_ev, mItA_ev, mItE_ev, mLc_ev, mYes_ev, add_ev, sub_ev, lt_ev, le_ev, gt_ev, ge_ev, eqi_ev, eqs_ev, eqb_ev, eqn_ev, nei_ev, nes_ev, lenT_ev, abs_ev, int_ev, intb_ev, setl, setLO, bindG, mgName, mgTup, mgCons, mgNil, ixT0, ixT1, ixT2, ixT0, ixT1, eqs_ev, hf_choose, hp, kd, n_exit, n_draw, n_call, n_reward, truthM, hr]
theorem pp_reward {S : Sto} {ps qs : List PV} {n e : Int} {a i x : PV} (hr : ∀ T, m_problem_of_reward [.tup [.str "reward", a, i], .int qs.length] T = .ok x T) (hp : ∀ T, ixM (.tup ps) (.int n) T = .ok (.tup [.int e, .tup qs]) T) : m_problem_of_point [.tup ps, .int n, .tup [.str "reward", a, i]] S = .ok x S := by
  have n_exit : ¬ (("reward" : Str) = "exit") := by decide
  have n_draw : ¬ (("reward" : Str) = "draw") := by decide
  have n_choose : ¬ (("reward" : Str) = "choose") := by decide
  have n_call : ¬ (("reward" : Str) = "call") := by decide
  have kd : kd_ITEMS.lookup ("reward" : Str) = some (.int 3) := by rfl
  unfold m_problem_of_point
  simp -implicitDefEqProofs [callD_ev, mSeq_ev, mIf_ev, mRet_ev, mExp_ev, mAsgN_ev, mAsg_ev, mPar_ev, mPar3_ev, mSetL_ev, mNx_ev, mBk_ev, mCt_ev, mRetN_ev, mRaise_ev, m2_ev, mC_ev, mVar, mTst_ev, mTru_ev, mCh_ev, mIsN_ev, mAndT_ev, mOrT_ev, mNotT_ev, mAndV_ev, mOrV_ev, mNotV_ev, mIfE_ev, mNeg_ev, mNil_ev, mCons_ev, mTup_ev, mLst_ev, mCall_ev, mIsi_ev, mApp_ev, mAllWh_ev, mSl_ev, mNoP_ev, mPart_ev, mFor_ev, mItA_ev, mItE_ev, mLc_ev, mYes_ev, add_ev, sub_ev, lt_ev, le_ev, gt_ev, ge_ev, eqi_ev, eqs_ev, eqb_ev, eqn_ev, nei_ev, nes_ev, lenT_ev, abs_ev, int_ev, intb_ev, setl, setLO, bindG, mgName, mgTup, mgCons, mgNil, ixT0, ixT1, ixT2, ixT0, ixT1, eqs_ev, hf_reward, hp, kd, n_exit, n_draw, n_choose, n_call, truthM, hr]
theorem pp_draw {S : Sto} {ps qs : List PV} {n e : Int} {bs : List PV} {x : PV} (h : pairs bs) (hr : ∀ T, m_problem_of_draw [.tup bs, .int qs.length] T = .ok x T) (hp : ∀ T, ixM (.tup ps) (.int n) T = .ok (.tup [.int e, .tup qs]) T) : m_problem_of_point [.tup ps, .int n, .tup [.str "draw", .tup bs]] S = .ok x S := by
  have n_exit : ¬ (("draw" : Str) = "exit") := by decide
  have n_choose : ¬ (("draw" : Str) = "choose") := by decide
  have n_call : ¬ (("draw" : Str) = "call") := by decide
  have n_reward : ¬ (("draw" : Str) = "reward") := by decide
  have kd : kd_ITEMS.lookup ("draw" : Str) = some (.int 2) := by rfl
  unfold m_problem_of_point
  simp -implicitDefEqProofs [callD_ev, mSeq_ev, mIf_ev, mRet_ev, mExp_ev, mAsgN_ev, mAsg_ev, mPar_ev, mPar3_ev, mSetL_ev, mNx_ev, mBk_ev, mCt_ev, mRetN_ev, mRaise_ev, m2_ev, mC_ev, mVar, mTst_ev, mTru_ev, mCh_ev, mIsN_ev, mAndT_ev, mOrT_ev, mNotT_ev, mAndV_ev, mOrV_ev, mNotV_ev, mIfE_ev, mNeg_ev, mNil_ev, mCons_ev, mTup_ev, mLst_ev, mCall_ev, mIsi_ev, mApp_ev, mAllWh_ev, mSl_ev, mNoP_ev, mPart_ev, mFor_ev, mItA_ev, mItE_ev, mLc_ev, mYes_ev, add_ev, sub_ev, lt_ev, le_ev, gt_ev, ge_ev, eqi_ev, eqs_ev, eqb_ev, eqn_ev, nei_ev, nes_ev, lenT_ev, abs_ev, int_ev, intb_ev, setl, setLO, bindG, mgName, mgTup, mgCons, mgNil, ixT0, ixT1, ixT2, ixT0, ixT1, eqs_ev, hf_draw h, hp, kd, n_exit, n_choose, n_call, n_reward, truthM, hr]
theorem rat_ev {S : Sto} {n d : Int} : m_is_rational [.tup [.int n, .int d]] S = .ok (.bl (isRat (.tup [.int n, .int d]))) S := rat_two (a := .int n) (b := .int d) rfl rfl
theorem chance_ev {S : Sto} {n d : Int} (h : isRat (.tup [.int n, .int d]) = true) : m_is_chance [.tup [.int n, .int d]] S = .ok (.bl (decide (0 < n) && decide (d ≤ 60))) S := by
  unfold m_is_chance
  by_cases hn : 0 < n
  · simp -implicitDefEqProofs [callD_ev, mSeq_ev, mIf_ev, mRet_ev, mExp_ev, mAsgN_ev, mAsg_ev, mPar_ev, mPar3_ev, mSetL_ev, mNx_ev, mBk_ev, mCt_ev, mRetN_ev, mRaise_ev, m2_ev, mC_ev, mVar, mTst_ev, mTru_ev, mCh_ev, mIsN_ev, mAndT_ev, mOrT_ev, mNotT_ev, mAndV_ev, mOrV_ev, mNotV_ev, mIfE_ev, mNeg_ev, mNil_ev, mCons_ev, mTup_ev, mLst_ev, mCall_ev, mIsi_ev, mApp_ev, mAllWh_ev, mSl_ev, mNoP_ev, mPart_ev, mFor_ev, mItA_ev, mItE_ev, mLc_ev, mYes_ev, add_ev, sub_ev, lt_ev, le_ev, gt_ev, ge_ev, eqi_ev, eqs_ev, eqb_ev, eqn_ev, nei_ev, nes_ev, lenT_ev, abs_ev, int_ev, intb_ev, ixM, atP, ixN, setl, setLO, bindG, mgName, mgTup, mgCons, mgNil, rat_ev, h, hn, c_MOST_CHANCE_DENOMINATOR]
  · simp -implicitDefEqProofs [callD_ev, mSeq_ev, mIf_ev, mRet_ev, mExp_ev, mAsgN_ev, mAsg_ev, mPar_ev, mPar3_ev, mSetL_ev, mNx_ev, mBk_ev, mCt_ev, mRetN_ev, mRaise_ev, m2_ev, mC_ev, mVar, mTst_ev, mTru_ev, mCh_ev, mIsN_ev, mAndT_ev, mOrT_ev, mNotT_ev, mAndV_ev, mOrV_ev, mNotV_ev, mIfE_ev, mNeg_ev, mNil_ev, mCons_ev, mTup_ev, mLst_ev, mCall_ev, mIsi_ev, mApp_ev, mAllWh_ev, mSl_ev, mNoP_ev, mPart_ev, mFor_ev, mItA_ev, mItE_ev, mLc_ev, mYes_ev, add_ev, sub_ev, lt_ev, le_ev, gt_ev, ge_ev, eqi_ev, eqs_ev, eqb_ev, eqn_ev, nei_ev, nes_ev, lenT_ev, abs_ev, int_ev, intb_ev, ixM, atP, ixN, setl, setLO, bindG, mgName, mgTup, mgCons, mgNil, rat_ev, h, hn]
theorem amount_ev {S : Sto} {n d : Int} (h : isRat (.tup [.int n, .int d]) = true) (hn : 0 ≤ n) : m_is_amount [.tup [.int n, .int d]] S = .ok (.bl (decide (n ≤ 1000) && decide (d ≤ 12))) S := by
  unfold m_is_amount
  by_cases h1 : n ≤ 1000
  · simp -implicitDefEqProofs [callD_ev, mSeq_ev, mIf_ev, mRet_ev, mExp_ev, mAsgN_ev, mAsg_ev, mPar_ev, mPar3_ev, mSetL_ev, mNx_ev, mBk_ev, mCt_ev, mRetN_ev, mRaise_ev, m2_ev, mC_ev, mVar, mTst_ev, mTru_ev, mCh_ev, mIsN_ev, mAndT_ev, mOrT_ev, mNotT_ev, mAndV_ev, mOrV_ev, mNotV_ev, mIfE_ev, mNeg_ev, mNil_ev, mCons_ev, mTup_ev, mLst_ev, mCall_ev, mIsi_ev, mApp_ev, mAllWh_ev, mSl_ev, mNoP_ev, mPart_ev, mFor_ev, mItA_ev, mItE_ev, mLc_ev, mYes_ev, add_ev, sub_ev, lt_ev, le_ev, gt_ev, ge_ev, eqi_ev, eqs_ev, eqb_ev, eqn_ev, nei_ev, nes_ev, lenT_ev, abs_ev, int_ev, intb_ev, ixM, atP, ixN, setl, setLO, bindG, mgName, mgTup, mgCons, mgNil, rat_ev, h, hn, h1, c_MOST_AMOUNT_NUMERATOR, c_MOST_AMOUNT_DENOMINATOR, truthM]
  · simp -implicitDefEqProofs [callD_ev, mSeq_ev, mIf_ev, mRet_ev, mExp_ev, mAsgN_ev, mAsg_ev, mPar_ev, mPar3_ev, mSetL_ev, mNx_ev, mBk_ev, mCt_ev, mRetN_ev, mRaise_ev, m2_ev, mC_ev, mVar, mTst_ev, mTru_ev, mCh_ev, mIsN_ev, mAndT_ev, mOrT_ev, mNotT_ev, mAndV_ev, mOrV_ev, mNotV_ev, mIfE_ev, mNeg_ev, mNil_ev, mCons_ev, mTup_ev, mLst_ev, mCall_ev, mIsi_ev, mApp_ev, mAllWh_ev, mSl_ev, mNoP_ev, mPart_ev, mFor_ev, mItA_ev, mItE_ev, mLc_ev, mYes_ev, add_ev, sub_ev, lt_ev, le_ev, gt_ev, ge_ev, eqi_ev, eqs_ev, eqb_ev, eqn_ev, nei_ev, nes_ev, lenT_ev, abs_ev, int_ev, intb_ev, ixM, atP, ixN, setl, setLO, bindG, mgName, mgTup, mgCons, mgNil, rat_ev, h, hn, h1, c_MOST_AMOUNT_NUMERATOR, truthM]
theorem targets_ok {S : Sto} {n : Int} {ρ : PSt} (hr : 2 < ρ.length) (h1 : ρ[1]? = some (some (.int n))) : ∀ {ts : List Int}, (∀ i ∈ ts, 0 ≤ i ∧ i < n) →
    gaGo false [] (mgName 2) mYes (mApp 2 m_is_index (mCons (mVar 2) (mCons (mVar 1) mNil))) [2] ρ (ts.map PV.int) S = .ok (.bl true) S
  | [], _ => ga_nil
  | x :: xs, h => by
    have q : (ρ.set 2 (some (.int x)))[2]? = some (some (.int x)) := List.getElem?_set_self hr
    have q1 : (ρ.set 2 (some (.int x)))[1]? = some (some (.int n)) := by rw [List.getElem?_set_ne (by decide)]; exact h1
    obtain ⟨a, b⟩ := h x List.mem_cons_self
    rw [List.map_cons, ga_cons]
    simp only [mApp_ev, mCons_ev, mNil_ev, mVar_ev q, mVar_ev q1, bind_ok, List.length_cons, List.length_nil, if_true, idx_ev, sb_ok, a, b, decide_true, Bool.and_self, Bool.true_eq_false, if_false]
    exact targets_ok hr h1 fun i hi => h i (List.mem_cons_of_mem _ hi)
theorem pt_ok {S : Sto} {n : Int} {ts : List Int} (h : ∀ i ∈ ts, 0 ≤ i ∧ i < n) : m_problem_of_targets [.tup (ts.map PV.int), .int n] S = .ok .non S := by
  have g : ∀ ρ : PSt, 2 < ρ.length → ρ[1]? = some (some (.int n)) → gaGo false [] (mgName 2) mYes (mApp 2 m_is_index (mCons (mVar 2) (mCons (mVar 1) mNil))) [2] ρ (ts.map PV.int) S = .ok (.bl true) S := fun ρ hr h1 => targets_ok hr h1 h
  unfold m_problem_of_targets
  simp -implicitDefEqProofs [callD_ev, mSeq_ev, mIf_ev, mRet_ev, mExp_ev, mAsgN_ev, mAsg_ev, mPar_ev, mPar3_ev, mSetL_ev, mNx_ev, mBk_ev, mCt_ev, mRetN_ev, mRaise_ev, m2_ev, mC_ev, mVar, mTst_ev, mTru_ev, mCh_ev, mIsN_ev, mAndT_ev, mOrT_ev, mNotT_ev, mAndV_ev, mOrV_ev, mNotV_ev, mIfE_ev, mNeg_ev, mNil_ev, mCons_ev, mTup_ev, mLst_ev, mCall_ev, mIsi_ev, mApp_ev, mAllWh_ev, mSl_ev, mNoP_ev, mPart_ev, mFor_ev, mItA_ev, mItE_ev, mLc_ev, mYes_ev, add_ev, sub_ev, lt_ev, le_ev, gt_ev, ge_ev, eqi_ev, eqs_ev, eqb_ev, eqn_ev, nei_ev, nes_ev, lenT_ev, abs_ev, int_ev, intb_ev, ixM, atP, ixN, setl, setLO, bindG, mgName, mgTup, mgCons, mgNil, mGA_ev, itOf, g, truthM]

def cpT : MG := (mgTup 2 (mgCons (mgName 3) (mgCons (mgName 4) mgNil)))
noncomputable def cpB : MS := (mSeq (mAsg (mApp 3 m_problem_of_point (mCons (mVar 0) (mCons (mVar 1) (mCons (mVar 4) mNil)))) (mgName 5)) (mIf (mTst (mIsN true (mVar 5))) (mRaise "BadGraph" ["where", "why"] (mCons (mTup (mCons (mVar 1) (mCons (mVar 3) mNil))) (mCons (mVar 5) mNil))) mNx))
def ckT : MG := (mgTup 2 (mgCons (mgName 1) (mgCons (mgName 2) mgNil)))
noncomputable def ckB1 : MS := (mSeq (mAsg (mApp 1 m_problem_of_procedure (mCons (mVar 2) mNil)) (mgName 3)) (mIf (mTst (mIsN true (mVar 3))) (mRaise "BadGraph" ["where", "why"] (mCons (mTup (mCons (mVar 1) mNil)) (mCons (mVar 3) mNil))) mNx))
noncomputable def ckB2 : MS := (mExp (mApp 3 m_check_points (mCons (mVar 0) (mCons (mVar 1) (mCons (m2 ixM (mVar 2) (mC (PV.int 1))) mNil)))))
theorem cp_go {S : Sto} {P N Q : PV} : ∀ {qs : List PV} {k : Nat} {x3 x4 x5 : Option PV}, (∀ q ∈ qs, ∀ T, m_problem_of_point [P, N, q] T = .ok .non T) → ∃ ρ', forGo [] cpT cpB (enumP k qs) [some P, some N, some Q, x3, x4, x5] S = .nx ρ' S
  | [], k, x3, x4, x5, _ => ⟨_, go_nil⟩
  | q :: qs, k, x3, x4, x5, h => by
    obtain ⟨ρ', e⟩ := cp_go (S := S) (P := P) (N := N) (Q := Q) (qs := qs) (k := k + 1) (x3 := some (.int (k : Nat))) (x4 := some q) (x5 := some .non) fun q hq => h q (List.mem_cons_of_mem _ hq)
    have h0 := h q List.mem_cons_self
    refine ⟨ρ', ?_⟩
    rw [← e]
    show forGo [] cpT cpB (.tup [.int (k : Nat), q] :: enumP (k + 1) qs) _ S = _
    rw [go_cons, bindG_ev (l := [(3, .int (k : Nat)), (4, q)]) rfl]
    have hb : cpB (setl [some P, some N, some Q, x3, x4, x5] [(3, .int (k : Nat)), (4, q)]) S = .nx [some P, some N, some Q, some (.int (k : Nat)), some q, some .non] S := by
      unfold cpB
      simp -implicitDefEqProofs [callD_ev, mSeq_ev, mIf_ev, mRet_ev, mExp_ev, mAsgN_ev, mAsg_ev, mPar_ev, mPar3_ev, mSetL_ev, mNx_ev, mBk_ev, mCt_ev, mRetN_ev, mRaise_ev, m2_ev, mC_ev, mVar, mTst_ev, mTru_ev, mCh_ev, mIsN_ev, mAndT_ev, mOrT_ev, mNotT_ev, mAndV_ev, mOrV_ev, mNotV_ev, mIfE_ev, mNeg_ev, mNil_ev, mCons_ev, mTup_ev, mLst_ev, mCall_ev, mIsi_ev, mApp_ev, mAllWh_ev, mSl_ev, mNoP_ev, mPart_ev, mFor_ev, mItA_ev, mItE_ev, mLc_ev, mYes_ev, add_ev, sub_ev, lt_ev, le_ev, gt_ev, ge_ev, eqi_ev, eqs_ev, eqb_ev, eqn_ev, nei_ev, nes_ev, lenT_ev, abs_ev, int_ev, intb_ev, ixM, atP, ixN, setl, setLO, bindG, mgName, mgTup, mgCons, mgNil, setl, h0, isNM]
    rw [hb, loopE_nx]
theorem cp_ok {S : Sto} {P N : PV} {qs : List PV} (h : ∀ q ∈ qs, ∀ T, m_problem_of_point [P, N, q] T = .ok .non T) : m_check_points [P, N, .tup qs] S = .ok .non S := by
  obtain ⟨ρ', e⟩ := cp_go (S := S) (P := P) (N := N) (Q := .tup qs) (k := 0) (x3 := none) (x4 := none) (x5 := none) h
  have e2 : forGo [] ((mgTup 2 (mgCons (mgName 3) (mgCons (mgName 4) mgNil)))) (mSeq (mAsg (mApp 3 m_problem_of_point (mCons (mVar 0) (mCons (mVar 1) (mCons (mVar 4) mNil)))) (mgName 5)) (mIf (mTst (mIsN true (mVar 5))) (mRaise "BadGraph" ["where", "why"] (mCons (mTup (mCons (mVar 1) (mCons (mVar 3) mNil))) (mCons (mVar 5) mNil))) mNx)) (enumP 0 qs) [some P, some N, some (.tup qs), none, none, none] S = .nx ρ' S := e
  unfold m_check_points
  simp -implicitDefEqProofs [callD_ev, mSeq_ev, mIf_ev, mRet_ev, mExp_ev, mAsgN_ev, mAsg_ev, mPar_ev, mPar3_ev, mSetL_ev, mNx_ev, mBk_ev, mCt_ev, mRetN_ev, mRaise_ev, m2_ev, mC_ev, mVar, mTst_ev, mTru_ev, mCh_ev, mIsN_ev, mAndT_ev, mOrT_ev, mNotT_ev, mAndV_ev, mOrV_ev, mNotV_ev, mIfE_ev, mNeg_ev, mNil_ev, mCons_ev, mTup_ev, mLst_ev, mCall_ev, mIsi_ev, mApp_ev, mAllWh_ev, mSl_ev, mNoP_ev, mPart_ev, mFor_ev, mItA_ev, mItE_ev, mLc_ev, mYes_ev, add_ev, sub_ev, lt_ev, le_ev, gt_ev, ge_ev, eqi_ev, eqs_ev, eqb_ev, eqn_ev, nei_ev, nes_ev, lenT_ev, abs_ev, int_ev, intb_ev, ixM, atP, ixN, setl, setLO, bindG, mgName, mgTup, mgCons, mgNil, enumA_ev, e2]
/-- a procedure in form -/
def ProcOk (p : PV) (n : Nat) : Prop := ∃ (e : Int) (qs : List PV), p = .tup [.int e, .tup qs] ∧ 0 ≤ e ∧ e ≤ 3 ∧ 1 ≤ qs.length ∧ qs.length ≤ 16 ∧ n = qs.length
theorem proc_ok {S : Sto} {p : PV} {n : Nat} (h : ProcOk p n) : m_problem_of_procedure [p] S = .ok .non S := by
  obtain ⟨e, qs, rfl, h1, h2, h3, h4, _⟩ := h
  have e1 := fun T => isi_ev (T := T) (x := .tup qs) (S := S) rfl
  have h3' : (1 : Int) ≤ (qs.length : Int) := by omega
  have h4' : (qs.length : Int) ≤ 16 := by omega
  unfold m_problem_of_procedure
  simp -implicitDefEqProofs [callD_ev, mSeq_ev, mIf_ev, mRet_ev, mExp_ev, mAsgN_ev, mAsg_ev, mPar_ev, mPar3_ev, mSetL_ev, mNx_ev, mBk_ev, mCt_ev, mRetN_ev, mRaise_ev, m2_ev, mC_ev, mVar, mTst_ev, mTru_ev, mCh_ev, mIsN_ev, mAndT_ev, mOrT_ev, mNotT_ev, mAndV_ev, mOrV_ev, mNotV_ev, mIfE_ev, mNeg_ev, mNil_ev, mCons_ev, mTup_ev, mLst_ev, mCall_ev, mIsi_ev, mApp_ev, mAllWh_ev, mSl_ev, mNoP_ev, mPart_ev, mFor_ev, mItA_ev, mItE_ev, mLc_ev, mYes_ev, add_ev, sub_ev, lt_ev, le_ev, gt_ev, ge_ev, eqi_ev, eqs_ev, eqb_ev, eqn_ev, nei_ev, nes_ev, lenT_ev, abs_ev, int_ev, intb_ev, ixM, atP, ixN, setl, setLO, bindG, mgName, mgTup, mgCons, mgNil, pair_ev, whi_ev, e1, h1, h2, h3', h4', truthM, c_MOST_EXITS, c_MOST_POINTS]
theorem ck1_go {S : Sto} {P : PV} : ∀ {ps : List PV} {k : Nat} {x1 x2 x3 : Option PV}, (∀ p ∈ ps, ∃ n, ProcOk p n) → ∃ y1 y2 y3, forGo [] ckT ckB1 (enumP k ps) [some P, x1, x2, x3] S = .nx [some P, y1, y2, y3] S
  | [], k, x1, x2, x3, _ => ⟨_, _, _, go_nil⟩
  | q :: qs, k, x1, x2, x3, h => by
    obtain ⟨y1, y2, y3, e⟩ := ck1_go (S := S) (P := P) (ps := qs) (k := k + 1) (x1 := some (.int (k : Nat))) (x2 := some q) (x3 := some .non) fun q hq => h q (List.mem_cons_of_mem _ hq)
    obtain ⟨n, h0⟩ := h q List.mem_cons_self
    have h0 := fun T => proc_ok (S := T) h0
    refine ⟨y1, y2, y3, ?_⟩
    rw [← e]
    show forGo [] ckT ckB1 (.tup [.int (k : Nat), q] :: enumP (k + 1) qs) _ S = _
    rw [go_cons, bindG_ev (l := [(1, .int (k : Nat)), (2, q)]) rfl]
    have hb : ckB1 (setl [some P, x1, x2, x3] [(1, .int (k : Nat)), (2, q)]) S = .nx [some P, some (.int (k : Nat)), some q, some .non] S := by
      unfold ckB1
      simp -implicitDefEqProofs [callD_ev, mSeq_ev, mIf_ev, mRet_ev, mExp_ev, mAsgN_ev, mAsg_ev, mPar_ev, mPar3_ev, mSetL_ev, mNx_ev, mBk_ev, mCt_ev, mRetN_ev, mRaise_ev, m2_ev, mC_ev, mVar, mTst_ev, mTru_ev, mCh_ev, mIsN_ev, mAndT_ev, mOrT_ev, mNotT_ev, mAndV_ev, mOrV_ev, mNotV_ev, mIfE_ev, mNeg_ev, mNil_ev, mCons_ev, mTup_ev, mLst_ev, mCall_ev, mIsi_ev, mApp_ev, mAllWh_ev, mSl_ev, mNoP_ev, mPart_ev, mFor_ev, mItA_ev, mItE_ev, mLc_ev, mYes_ev, add_ev, sub_ev, lt_ev, le_ev, gt_ev, ge_ev, eqi_ev, eqs_ev, eqb_ev, eqn_ev, nei_ev, nes_ev, lenT_ev, abs_ev, int_ev, intb_ev, ixM, atP, ixN, setl, setLO, bindG, mgName, mgTup, mgCons, mgNil, setl, h0, isNM]
    rw [hb, loopE_nx]
def Procs : List PV → List Nat → Prop
  | [], [] => True
  | p :: ps, n :: ns => ProcOk p n ∧ Procs ps ns
  | _, _ => False
theorem Procs.all : ∀ {ps : List PV} {ns : List Nat}, Procs ps ns → ∀ p ∈ ps, ∃ n, ProcOk p n
  | [], _, _, _, h => by cases h
  | p :: ps, [], h, _, _ => h.elim
  | p :: ps, n :: ns, h, q, hq => by
    rcases List.mem_cons.mp hq with rfl | hq
    · exact ⟨n, h.1⟩
    · exact Procs.all h.2 q hq
theorem sum_go {S : Sto} {ρ : PSt} (hr : 2 < ρ.length) : ∀ {ps : List PV} {ns : List Nat}, Procs ps ns →
    gsGo [] (mgName 2) mYes (mCall lenM (mCons (m2 ixM (mVar 2) (mC (PV.int 1))) mNil)) [2] ρ ps S = .ok (ns.map fun n => ((n : Nat) : Int)) S
  | [], [], _ => gs_nil
  | [], _ :: _, h => h.elim
  | _ :: _, [], h => h.elim
  | p :: ps, n :: ns, ⟨h, hs⟩ => by
    obtain ⟨e, qs, rfl, _, _, _, _, rfl⟩ := h
    have q : (ρ.set 2 (some (.tup [.int e, .tup qs])))[2]? = some (some (.tup [.int e, .tup qs])) := List.getElem?_set_self hr
    rw [gs_cons]
    simp only [mCall_ev, mCons_ev, mNil_ev, m2_ev, mC_ev, mVar_ev q, bind_ok, ixT1, lenT_ev, sb_ok, sum_go hr hs, List.map_cons]
def Pts (P : PV) : Nat → List PV → Prop
  | _, [] => True
  | k, p :: ps => (∃ (e : Int) (qs : List PV), p = .tup [.int e, .tup qs] ∧ ∀ q ∈ qs, ∀ T, m_problem_of_point [P, .int (k : Nat), q] T = .ok .non T) ∧ Pts P (k + 1) ps
theorem ck2_go {S : Sto} {P : PV} : ∀ {ps : List PV} {k : Nat} {x1 x2 x3 : Option PV}, Pts P k ps → ∃ ρ', forGo [] ckT ckB2 (enumP k ps) [some P, x1, x2, x3] S = .nx ρ' S
  | [], k, x1, x2, x3, _ => ⟨_, go_nil⟩
  | q :: qs, k, x1, x2, x3, hh => by
    obtain ⟨⟨e, ts, rfl, h0⟩, h⟩ := hh
    obtain ⟨ρ', e1⟩ := ck2_go (S := S) (P := P) (ps := qs) (k := k + 1) (x1 := some (.int (k : Nat))) (x2 := some (.tup [.int e, .tup ts])) (x3 := x3) h
    have h0 := fun T => cp_ok (S := T) h0
    refine ⟨ρ', ?_⟩
    rw [← e1]
    show forGo [] ckT ckB2 (.tup [.int (k : Nat), .tup [.int e, .tup ts]] :: enumP (k + 1) qs) _ S = _
    rw [go_cons, bindG_ev (l := [(1, .int (k : Nat)), (2, .tup [.int e, .tup ts])]) rfl]
    have hb : ckB2 (setl [some P, x1, x2, x3] [(1, .int (k : Nat)), (2, .tup [.int e, .tup ts])]) S = .nx [some P, some (.int (k : Nat)), some (.tup [.int e, .tup ts]), x3] S := by
      unfold ckB2
      simp -implicitDefEqProofs [callD_ev, mSeq_ev, mIf_ev, mRet_ev, mExp_ev, mAsgN_ev, mAsg_ev, mPar_ev, mPar3_ev, mSetL_ev, mNx_ev, mBk_ev, mCt_ev, mRetN_ev, mRaise_ev, m2_ev, mC_ev, mVar, mTst_ev, mTru_ev, mCh_ev, mIsN_ev, mAndT_ev, mOrT_ev, mNotT_ev, mAndV_ev, mOrV_ev, mNotV_ev, mIfE_ev, mNeg_ev, mNil_ev, mCons_ev, mTup_ev, mLst_ev, mCall_ev, mIsi_ev, mApp_ev, mAllWh_ev, mSl_ev, mNoP_ev, mPart_ev, mFor_ev, mItA_ev, mItE_ev, mLc_ev, mYes_ev, add_ev, sub_ev, lt_ev, le_ev, gt_ev, ge_ev, eqi_ev, eqs_ev, eqb_ev, eqn_ev, nei_ev, nes_ev, lenT_ev, abs_ev, int_ev, intb_ev, ixM, atP, ixN, setl, setLO, bindG, mgName, mgTup, mgCons, mgNil, setl, h0]
    rw [hb, loopE_nx]
theorem chk_ok {S : Sto} {ps : List PV} {ns : List Nat} (l1 : 1 ≤ ps.length) (l2 : ps.length ≤ 6) (hp : Procs ps ns) (hs : isum (ns.map fun n => ((n : Nat) : Int)) ≤ 40) (h2 : Pts (.tup ps) 0 ps) : m_check_procedures [.tup ps] S = .ok .non S := by
  have e1 := fun T => isi_ev (T := T) (x := .tup ps) (S := S) rfl
  have l1' : (1 : Int) ≤ (ps.length : Int) := by omega
  have l2' : (ps.length : Int) ≤ 6 := by omega
  have hs' : ¬ 40 < isum (ns.map fun n => ((n : Nat) : Int)) := by omega
  obtain ⟨y1, y2, y3, a1⟩ := ck1_go (S := S) (P := .tup ps) (k := 0) (x1 := none) (x2 := none) (x3 := none) hp.all
  obtain ⟨ρ', a2⟩ := ck2_go (S := S) (P := .tup ps) (k := 0) (x1 := y1) (x2 := y2) (x3 := y3) h2
  have a3 := sum_go (S := S) (ρ := [some (.tup ps), y1, y2, y3]) (by simp) hp
  unfold ckB1 ckT at a1
  unfold ckB2 ckT at a2
  unfold m_check_procedures
  simp -implicitDefEqProofs [callD_ev, mSeq_ev, mIf_ev, mRet_ev, mExp_ev, mAsgN_ev, mAsg_ev, mPar_ev, mPar3_ev, mSetL_ev, mNx_ev, mBk_ev, mCt_ev, mRetN_ev, mRaise_ev, m2_ev, mC_ev, mVar, mTst_ev, mTru_ev, mCh_ev, mIsN_ev, mAndT_ev, mOrT_ev, mNotT_ev, mAndV_ev, mOrV_ev, mNotV_ev, mIfE_ev, mNeg_ev, mNil_ev, mCons_ev, mTup_ev, mLst_ev, mCall_ev, mIsi_ev, mApp_ev, mAllWh_ev, mSl_ev, mNoP_ev, mPart_ev, mFor_ev, mItA_ev, mItE_ev, mLc_ev, mYes_ev, add_ev, sub_ev, lt_ev, le_ev, gt_ev, ge_ev, eqi_ev, eqs_ev, eqb_ev, eqn_ev, nei_ev, nes_ev, lenT_ev, abs_ev, int_ev, intb_ev, ixM, atP, ixN, setl, setLO, bindG, mgName, mgTup, mgCons, mgNil, e1, l1', l2', truthM, c_MOST_PROCEDURES, c_MOST_POINTS_OF_ALL, enumA_ev, a1, mGS_ev, itOf, a3, hs', a2]
theorem make_ok {S : Sto} {ps : List PV} {ns : List Nat} (l1 : 1 ≤ ps.length) (l2 : ps.length ≤ 6) (hp : Procs ps ns) (hs : isum (ns.map fun n => ((n : Nat) : Int)) ≤ 40) (h2 : Pts (.tup ps) 0 ps) :
    m_Graph_init [.cell S.length, .tup ps] (S ++ [.ins "Graph" []]) = .ok .non (S ++ [.ins "Graph" [("procedures", .tup ps)]]) := by
  have e := fun T => chk_ok (S := T) l1 l2 hp hs h2
  have f := fun (ρ : PSt) => setFO_ev (ρ := ρ) (y := .tup ps) (f := "procedures") (cs := ["Graph"]) (last_at (S := S) (o := .ins "Graph" [])) (by decide) (by decide)
  have g0 : ∀ T : Sto, gcS (S ++ [MO.ins "Graph" []]).length [] (S ++ [.ins "Graph" [("procedures", .tup ps)]]) = S ++ [.ins "Graph" [("procedures", .tup ps)]] := fun _ => gcS_le (by simp)
  unfold m_Graph_init
  rw [callD_ev]
  rw [← g0 []]
  congr 1
  simp -implicitDefEqProofs [callD_ev, mSeq_ev, mIf_ev, mRet_ev, mExp_ev, mAsgN_ev, mAsg_ev, mPar_ev, mPar3_ev, mSetL_ev, mNx_ev, mBk_ev, mCt_ev, mRetN_ev, mRaise_ev, m2_ev, mC_ev, mVar, mTst_ev, mTru_ev, mCh_ev, mIsN_ev, mAndT_ev, mOrT_ev, mNotT_ev, mAndV_ev, mOrV_ev, mNotV_ev, mIfE_ev, mNeg_ev, mNil_ev, mCons_ev, mTup_ev, mLst_ev, mCall_ev, mIsi_ev, mApp_ev, mAllWh_ev, mSl_ev, mNoP_ev, mPart_ev, mFor_ev, mItA_ev, mItE_ev, mLc_ev, mYes_ev, add_ev, sub_ev, lt_ev, le_ev, gt_ev, ge_ev, eqi_ev, eqs_ev, eqb_ev, eqn_ev, nei_ev, nes_ev, lenT_ev, abs_ev, int_ev, intb_ev, ixM, atP, ixN, setl, setLO, bindG, mgName, mgTup, mgCons, mgNil, e, mSetF_ev, f, putP]

theorem clo_ints {n : Nat} : ∀ ns : List Int, clos n (ns.map PV.int) = true
  | [] => rfl
  | _ :: ns => by
    show (true && clos n (ns.map PV.int)) = true
    rw [clo_ints ns]
    rfl

theorem gc_keep {n : Nat} {c : Nat} {S : Sto} (h : n ≤ c) : gcS n [.cell c] S = S := by
  have : clos n [.cell c] = false := by simp [clos, clo]; omega
  unfold gcS
  rw [this]
  simp
inductive All2 (P : PV → PV → Prop) : List PV → List PV → Prop where
  | nil : All2 P [] []
  | cons {x y : PV} {xs ys : List PV} : P x y → All2 P xs ys → All2 P (x :: xs) (y :: ys)
theorem All2.len {P : PV → PV → Prop} : ∀ {xs ys : List PV}, All2 P xs ys → ys.length = xs.length
  | _, _, .nil => rfl
  | _, _, .cons _ t => by simp [All2.len t]
theorem All2.imp {P Q : PV → PV → Prop} (h : ∀ x y, P x y → Q x y) : ∀ {xs ys : List PV}, All2 P xs ys → All2 Q xs ys
  | _, _, .nil => .nil
  | _, _, .cons p t => .cons (h _ _ p) (All2.imp h t)
theorem clos_app {n : Nat} : ∀ {xs ys : List PV}, clos n xs = true → clos n ys = true → clos n (xs ++ ys) = true
  | [], _, _, h => h
  | x :: xs, ys, h, g => by
    have h' := Bool.and_eq_true_iff.mp (show (clo n x && clos n xs) = true from h)
    show (clo n x && clos n (xs ++ ys)) = true
    rw [h'.1, clos_app h'.2 g]
    rfl
theorem clos_all {n : Nat} : ∀ {xs : List PV}, (∀ x ∈ xs, clo n x = true) → clos n xs = true
  | [], _ => rfl
  | x :: xs, h => by
    show (clo n x && clos n xs) = true
    rw [h x List.mem_cons_self, clos_all fun y hy => h y (List.mem_cons_of_mem _ hy)]
    rfl
section
variable {ns : List Int} {s l : Nat} {S T : Sto}
theorem up_app {E : Sto} {T' : Sto} (hs : s < T.length) (u : Up s l (T ++ E) T') : ∃ T1, Up s l T T1 ∧ T' = T1 ++ E := by
  obtain ⟨c, k, hk, rfl⟩ := u
  exact ⟨T.set s (sx l c k), ⟨c, k, hk, rfl⟩, List.set_append_left _ _ hs⟩
/-- a comprehension whose items are drawn -/
theorem lc_drawR {r : List (Nat × MO)} {te : ME} {i : Nat} {ρ : PSt} {P : PV → PV → Prop} (hP : ∀ x y, P x y → clo 0 y = true) : ∀ (xs acc : List PV) {T : Sto}, Dst ns s l T → (∀ q ∈ r, q.1 ≠ s ∧ q.1 < T.length ∧ T[q.1]? = some q.2) → clos 0 acc = true → acc.length + xs.length ≤ 1000 →
    (∀ x ∈ xs, ∀ T', Dst ns s l T' → (∀ j, j < T.length → j ≠ s → T'[j]? = T[j]?) → ∃ y T'', P x y ∧ Up s l T' T'' ∧ te (ρ.set i (some x)) T' = .ok y T'') →
    ∃ ys T', Up s l T T' ∧ All2 P xs ys ∧ lcGo r (mgName i) mYes te [i] T.length ρ xs (T ++ [.lst acc]) = .ok (.cell T.length) (T' ++ [.lst (acc ++ ys)])
  | [], acc, T, h, hr, _, _, _ => by
    have ck : Chk r (T ++ [.lst acc]) := fun q hq => by
      obtain ⟨_, q2, q3⟩ := hr q hq
      rw [List.getElem?_append_left q2]; exact q3
    refine ⟨[], T, Up.rfl h, .nil, ?_⟩
    unfold lcGo
    rw [if_pos ck]
    simp
  | x :: xs, acc, T, h, hr, ha, hz, st => by
    have ck : Chk r (T ++ [.lst acc]) := fun q hq => by
      obtain ⟨_, q2, q3⟩ := hr q hq
      rw [List.getElem?_append_left q2]; exact q3
    have hd : Dst ns s l (T ++ [.lst acc]) := h.app (show clos _ acc = true from clos_up (Nat.zero_le _) ha)
    obtain ⟨y, T2, py, u, e⟩ := st x List.mem_cons_self _ hd fun j hj _ => List.getElem?_append_left hj
    obtain ⟨T1, u1, rfl⟩ := up_app h.lt.1 u
    have hl : T1.length = T.length := u1.len
    have cy := hP x y py
    obtain ⟨ys, T', u', a2, e2⟩ := lc_drawR hP xs (acc ++ [y]) (T := T1) (h.up u1) (fun q hq => by obtain ⟨q1, q2, q3⟩ := hr q hq; exact ⟨q1, by rw [hl]; exact q2, by rw [u1.at q1]; exact q3⟩) (clos_app ha (by show (clo 0 y && true) = true; rw [cy]; rfl)) (by simp at hz ⊢; omega)
      (fun x' hx' T' h' k' => st x' (List.mem_cons_of_mem _ hx') T' h' fun j hj hn => by rw [k' j (by rw [hl]; exact hj) hn, u1.at hn])
    refine ⟨y :: ys, T', u1.trans u', .cons py a2, ?_⟩
    conv => lhs; unfold lcGo
    rw [if_pos ck]
    have e1 : (T1 ++ [MO.lst acc])[T.length]? = some (.lst acc) := by rw [← hl]; simp
    have hs : acc.length < sizeLine := Nat.lt_of_lt_of_le (by simp at hz; omega : acc.length < 1000) (by decide)
    have es : (T1 ++ [MO.lst acc]).set T.length (.lst (acc ++ [y])) = T1 ++ [.lst (acc ++ [y])] := by rw [← hl]; simp
    have e' : te (Pm.setl (wipeP ρ [i]) [(i, x)]) (T ++ [.lst acc]) = .ok y (T1 ++ [.lst acc]) := by rw [setl_one]; exact e
    rw [hl, List.append_assoc] at e2
    simp only [mgName, mYes_ev, sb_ok, if_true, e', e1, hs, es, List.mem_singleton, forall_eq]
    exact e2
theorem lc_draw {te : ME} {i : Nat} {ρ : PSt} {P : PV → PV → Prop} (hP : ∀ x y, P x y → clo 0 y = true) (xs : List PV) {T : Sto} (h : Dst ns s l T) (hz : xs.length ≤ 1000)
    (st : ∀ x ∈ xs, ∀ T', Dst ns s l T' → (∀ j, j < T.length → j ≠ s → T'[j]? = T[j]?) → ∃ y T'', P x y ∧ Up s l T' T'' ∧ te (ρ.set i (some x)) T' = .ok y T'') :
    ∃ ys T', Up s l T T' ∧ All2 P xs ys ∧ lcGo [] (mgName i) mYes te [i] T.length ρ xs (T ++ [.lst []]) = .ok (.cell T.length) (T' ++ [.lst ys]) :=
  lc_drawR (r := []) hP xs [] h (fun q hq => nomatch hq) rfl (by simpa using hz) st
/-- over a list that stands -/
theorem lc_drawC {te : ME} {i c : Nat} {ρ : PSt} {P : PV → PV → Prop} (hP : ∀ x y, P x y → clo 0 y = true) (xs : List PV) {T : Sto} (h : Dst ns s l T) (hc : T[c]? = some (.lst xs)) (nc : c ≠ s) (hz : xs.length ≤ 1000)
    (st : ∀ x ∈ xs, ∀ T', Dst ns s l T' → (∀ j, j < T.length → j ≠ s → T'[j]? = T[j]?) → ∃ y T'', P x y ∧ Up s l T' T'' ∧ te (ρ.set i (some x)) T' = .ok y T'') :
    ∃ ys T', Up s l T T' ∧ All2 P xs ys ∧ lcGo [(c, .lst xs)] (mgName i) mYes te [i] T.length ρ xs (T ++ [.lst []]) = .ok (.cell T.length) (T' ++ [.lst ys]) :=
  lc_drawR (r := [(c, .lst xs)]) hP xs [] h (fun q hq => by rw [List.mem_singleton.mp hq]; exact ⟨nc, (List.getElem?_eq_some_iff.mp hc).1, hc⟩) rfl (by simpa using hz) st
/-- a def's end with a value without objects -/
theorem gc_up {S1 E : Sto} {x : PV} (h : Dst ns s l S) (u : Up s l S S1) (hx : clo 0 x = true) : gcS S.length [x] (S1 ++ E) = S1 := by
  rw [← u.len]
  exact gcS_app (h.up u).clo (by show (clo _ x && true) = true; rw [clo_up (Nat.zero_le _) hx]; rfl)
theorem gc_up0 {S1 : Sto} {x : PV} (h : Dst ns s l S) (u : Up s l S S1) (hx : clo 0 x = true) : gcS S.length [x] S1 = S1 := by
  have := gc_up (E := []) h u hx
  rwa [List.append_nil] at this
end
theorem rngP_cons {k : Int} {n : Nat} : rngP k (n + 1) = .int k :: rngP (k + 1) n := by
  unfold rngP
  rw [List.range_succ_eq_map, List.map_cons, List.map_map]
  simp only [Int.natCast_zero, Int.add_zero, List.cons.injEq, true_and]
  refine List.map_congr_left fun j _ => ?_
  simp [Function.comp]
  omega
/-- k of t -/
def fr (t k : Int) : Q2 := (lo1 k t, lo2 k t)
theorem fr_q {t k : Int} (ht : t ≤ 60) (h : 1 ≤ k ∧ k ≤ t) : Nrm (fr t k) ∧ 0 < (fr t k).1 ∧ (fr t k).2 ≤ 60 ∧ Sm 10 (fr t k) ∧ isRat (pq (fr t k)) = true := by
  have : ∀ m n : Fin 61, 1 ≤ (n.val : Int) → (n.val : Int) ≤ m.val → (1 ≤ (fr m.val n.val).2 ∧ Nat.gcd (fr m.val n.val).1.natAbs (fr m.val n.val).2.natAbs = 1) ∧ 0 < (fr m.val n.val).1 ∧ (fr m.val n.val).2 ≤ 60 ∧ (1 ≤ (fr m.val n.val).2 ∧ (fr m.val n.val).1.natAbs < 2 ^ 10 ∧ (fr m.val n.val).2.natAbs < 2 ^ 10) ∧ isRat (pq (fr m.val n.val)) = true := by decide +kernel
  have e1 : t = ((⟨t.toNat, by omega⟩ : Fin 61).val : Int) := by simp; omega
  have e2 : k = ((⟨k.toNat, by omega⟩ : Fin 61).val : Int) := by simp; omega
  rw [e1, e2]
  exact this _ _ (by rw [← e2]; exact h.1) (by rw [← e2, ← e1]; exact h.2)
theorem fr_0 {t : Int} (ht : 1 ≤ t ∧ t ≤ 60) : fr t 0 = (0, 1) := by
  have : ∀ m : Fin 61, 1 ≤ (m.val : Int) → fr m.val 0 = (0, 1) := by decide +kernel
  have e1 : t = ((⟨t.toNat, by omega⟩ : Fin 61).val : Int) := by simp; omega
  rw [e1]; exact this _ (by rw [← e1]; exact ht.1)
theorem fr_1 {t : Int} (ht : 1 ≤ t ∧ t ≤ 60) : fr t t = (1, 1) := by
  have : ∀ m : Fin 61, 1 ≤ (m.val : Int) → fr m.val m.val = (1, 1) := by decide +kernel
  have e1 : t = ((⟨t.toNat, by omega⟩ : Fin 61).val : Int) := by simp; omega
  rw [e1]; exact this _ (by rw [← e1]; exact ht.1)
theorem fr_plus {t j k : Int} (ht : 1 ≤ t) : qPlus (fr t j) (fr t k) = fr t (j + k) := by
  have h0 : t ≠ 0 := by omega
  have nj : Nrm (fr t j) := lo_nrm h0
  have nk : Nrm (fr t k) := lo_nrm h0
  refine val_inj (qPlus_nrm nj.1 nk.1) (lo_nrm h0) ?_
  rw [val_plus nj.1 nk.1]
  show val (lo1 j t, lo2 j t) + val (lo1 k t, lo2 k t) = val (lo1 (j + k) t, lo2 (j + k) t)
  rw [val_lo h0, val_lo h0, val_lo h0, Rat.div_def, Rat.div_def, Rat.div_def, ← Rat.add_mul, Rat.intCast_add]
theorem fr_n {t k : Int} (ht : 1 ≤ t ∧ t ≤ 60) (h : 0 ≤ k ∧ k ≤ t) : Nrm (fr t k) ∧ Sm 3000 (fr t k) := by
  by_cases h0 : k = 0
  · subst h0; rw [fr_0 ht]; exact ⟨⟨by decide, by decide⟩, ⟨by decide, by decide, by decide⟩⟩
  · obtain ⟨a, _, _, b, _⟩ := fr_q (t := t) (k := k) ht.2 (by omega); exact ⟨a, b.up 3000⟩
/-- chances: what they are of t -/
def ChsT (t : Int) (ks : List Int) : Prop := (∀ k ∈ ks, 1 ≤ k) ∧ isum ks = t
mutual
theorem pd_nil {S : Sto} : ∀ {n : Nat} {x : PV} {d : PyData}, pd [] n x = some d → pd S n x = some d
  | 0, _, _, h => by simp [pd] at h
  | n + 1, .non, _, h => by simpa [pd] using h
  | n + 1, .bl b, _, h => by simpa [pd] using h
  | n + 1, .int i, _, h => by simpa [pd] using h
  | n + 1, .str x, _, h => by simpa [pd] using h
  | n + 1, .tup xs, d, h => by
    simp only [pd, Option.map_eq_some_iff] at h ⊢
    obtain ⟨a, h1, h2⟩ := h
    exact ⟨a, pds_nil h1, h2⟩
  | n + 1, .rol xs, d, h => by
    simp only [pd, Option.map_eq_some_iff] at h ⊢
    obtain ⟨a, h1, h2⟩ := h
    exact ⟨a, pds_nil h1, h2⟩
  | n + 1, .cell c, d, h => by simp [pd] at h
theorem pds_nil {S : Sto} : ∀ {n : Nat} {xs : List PV} {ds : List PyData}, pds [] n xs = some ds → pds S n xs = some ds
  | 0, [], _, h => by simpa [pds] using h
  | 0, _ :: _, _, h => by simp [pds] at h
  | n + 1, [], _, h => by simpa [pds] using h
  | n + 1, x :: xs, ds, h => by
    simp only [pds] at h ⊢
    split at h
    · rename_i d1 d2 h1 h2
      rw [pd_nil h1, pds_nil h2]
      exact h
    · cases h
end
def okSelf (x : PV) : Bool := match pd [] 200 x with
  | some d => SeqAt.shaped d && PyData.eqv d d
  | none => false
theorem eqv_self {neg : Bool} {x : PV} {S : Sto} (h : okSelf x = true) : eqvM neg x x S = .ok (.bl (if neg then false else true)) S := by
  unfold okSelf at h
  split at h
  · rename_i d e
    obtain ⟨h1, h2⟩ := Bool.and_eq_true_iff.mp h
    unfold eqvM
    rw [pd_nil e]
    simp only [h1, h2, and_self, if_true]
    cases neg <;> rfl
  · cases h
def brT (t : Int) (b : Int × Int) : PV := .tup [pq (fr t b.1), .int b.2]
theorem clos_brT {n : Nat} {t : Int} : ∀ bs : List (Int × Int), clos n (bs.map (brT t)) = true
  | [] => rfl
  | _ :: bs => by
    show (true && clos n (bs.map (brT t))) = true
    rw [clos_brT bs]; rfl
def TsOk (z : Int) (ts : List Int) : Prop := ∀ i ∈ ts, 0 ≤ i ∧ i < z
def PtOk (es : List Int) (e z : Int) (pt : PV) : Prop :=
  (∃ (t : Int) (bs : List (Int × Int)), pt = .tup [.str "draw", .tup (bs.map (brT t))] ∧ (1 ≤ t ∧ t ≤ 60) ∧ bs.length ≤ 4 ∧ ChsT t (bs.map (·.1)) ∧ ∀ b ∈ bs, 0 ≤ b.2 ∧ b.2 < z) ∨
  (∃ ts : List Int, pt = .tup [.str "choose", .tup (ts.map PV.int)] ∧ 1 ≤ ts.length ∧ ts.length ≤ 4 ∧ TsOk z ts) ∨
  (∃ (c : Nat) (ts : List Int), pt = .tup [.str "call", .int (c : Nat), .tup (ts.map PV.int)] ∧ es[c]? = some (ts.length : Int) ∧ TsOk z ts) ∨
  (∃ k, pt = .tup [.str "exit", .int k] ∧ 0 ≤ k ∧ k < e) ∨
  (∃ (q : Q2) (i : Int), pt = .tup [.str "reward", pq q, .int i] ∧ isRat (pq q) = true ∧ Nrm q ∧ 0 ≤ q.1 ∧ q.1 ≤ 1000 ∧ q.2 ≤ 12 ∧ 0 ≤ i ∧ i < z) ∨
  pt = .tup [.str "reject"] ∨ pt = .tup [.str "stop"]
theorem PtOk.clo {es : List Int} {e z : Int} {pt : PV} (h : PtOk es e z pt) : clo 0 pt = true := by
  rcases h with ⟨t, bs, rfl, _⟩ | ⟨ts, rfl, _⟩ | ⟨c, ts, rfl, _⟩ | ⟨k, rfl, _⟩ | ⟨q, i, rfl, _⟩ | rfl | rfl
  · show (true && ((clos 0 (bs.map (brT t))) && true)) = true; rw [clos_brT]; rfl
  · show (true && ((clos 0 (ts.map PV.int)) && true)) = true; rw [clo_ints]; rfl
  · show (true && (true && ((clos 0 (ts.map PV.int)) && true))) = true; rw [clo_ints]; rfl
  · rfl
  · rfl
  · rfl
  · rfl
theorem all2_ints {z : Int} : ∀ {xs ys : List PV}, All2 (fun _ y => ∃ t, 0 ≤ t ∧ t < z ∧ y = .int t) xs ys → ∃ ts : List Int, ys = ts.map PV.int ∧ ts.length = xs.length ∧ TsOk z ts
  | _, _, .nil => ⟨[], rfl, rfl, fun _ h => nomatch h⟩
  | _, _, .cons (xs := xs) ⟨t, a, b, c⟩ h => by
    obtain ⟨ts, h1, h2, h3⟩ := all2_ints h
    refine ⟨t :: ts, by rw [c, h1]; rfl, by simp [h2], fun i hi => ?_⟩
    rcases List.mem_cons.mp hi with rfl | hi
    · exact ⟨a, b⟩
    · exact h3 i hi
theorem amt_q {n d : Int} (h : 0 ≤ n ∧ n ≤ 1000) (g : 1 ≤ d ∧ d ≤ 12) : isRat (pq (lo1 n d, lo2 n d)) = true ∧ 0 ≤ lo1 n d ∧ lo1 n d ≤ 1000 ∧ lo2 n d ≤ 12 := by
  have : ∀ (a : Fin 1001) (b : Fin 13), 1 ≤ (b.val : Int) → isRat (pq (lo1 a.val b.val, lo2 a.val b.val)) = true ∧ 0 ≤ lo1 a.val b.val ∧ lo1 a.val b.val ≤ 1000 ∧ lo2 a.val b.val ≤ 12 := by decide +kernel
  have e1 : n = ((⟨n.toNat, by omega⟩ : Fin 1001).val : Int) := by simp; omega
  have e2 : d = ((⟨d.toNat, by omega⟩ : Fin 13).val : Int) := by simp; omega
  rw [e1, e2]
  exact this _ _ (by rw [← e2]; exact g.1)
section
variable {ns : List Int} {s l : Nat} {S : Sto}
theorem int_at {es : List Int} {k : Nat} {z : Int} (h : es[k]? = some z) : (es.map PV.int)[k]? = some (.int z) := by rw [List.getElem?_map, h]; rfl
end

/-- the store S, the stream gone on, and new objects -/
def Gw (s l : Nat) (S T : Sto) : Prop := ∃ S1 E, Up s l S S1 ∧ T = S1 ++ E
section
variable {ns : List Int} {s l : Nat} {S T T' : Sto}
theorem Gw.rfl (h : Dst ns s l S) : Gw s l S S := ⟨S, [], Up.rfl h, by simp⟩
theorem Gw.up (h : Dst ns s l S) (g : Gw s l S T) (u : Up s l T T') : Gw s l S T' := by
  obtain ⟨S1, E, u1, e⟩ := g
  subst e
  obtain ⟨S2, u2, e⟩ := up_app (h.up u1).lt.1 u
  exact ⟨S2, E, u1.trans u2, e⟩
theorem Gw.app (g : Gw s l S T) (F : Sto) : Gw s l S (T ++ F) := by
  obtain ⟨S1, E, u1, e⟩ := g
  exact ⟨S1, E ++ F, u1, by rw [e, List.append_assoc]⟩
theorem Gw.set (g : Gw s l S T) {i : Nat} {o : MO} (hi : S.length ≤ i) : Gw s l S (T.set i o) := by
  obtain ⟨S1, E, u1, e⟩ := g
  subst e
  refine ⟨S1, E.set (i - S1.length) o, u1, ?_⟩
  rw [List.set_append_right _ _ (by rw [u1.len]; exact hi)]
theorem Gw.at (g : Gw s l S T) {i : Nat} (hi : i < S.length) (n : i ≠ s) : T[i]? = S[i]? := by
  obtain ⟨S1, E, u1, e⟩ := g
  rw [e, List.getElem?_append_left (by rw [u1.len]; exact hi), u1.at n]
theorem Gw.le (g : Gw s l S T) : S.length ≤ T.length := by
  obtain ⟨S1, E, u1, e⟩ := g
  rw [e, List.length_append, u1.len]; omega
theorem Gw.gc (h : Dst ns s l S) (g : Gw s l S T) {x : PV} (hx : clo 0 x = true) : ∃ S1, gcS S.length [x] T = S1 ∧ Up s l S S1 := by
  obtain ⟨S1, E, u1, e⟩ := g
  exact ⟨S1, by rw [e]; exact gc_up h u1 hx, u1⟩
theorem Dst.put {i : Nat} {o : MO} (h : Dst ns s l T) (n1 : i ≠ s) (n2 : i ≠ l) (ho : cloO T.length o = true) : Dst ns s l (T.set i o) := by
  have cl := h.clo
  obtain ⟨c, k, h1, h2, h3⟩ := h.st
  exact ⟨⟨c, k, by rw [List.getElem?_set_ne n1]; exact h1, by rw [List.getElem?_set_ne n2]; exact h2, h3⟩, cl.set ho⟩
end
def pp (x : Int × List PV) : PV := .tup [.int x.1, .tup x.2]
theorem all2_all {P : PV → Prop} : ∀ {xs ys : List PV}, All2 (fun _ y => P y) xs ys → ∀ y ∈ ys, P y
  | _, _, .nil, _, h => nomatch h
  | _, _, .cons p t, y, h => by
    rcases List.mem_cons.mp h with rfl | h
    · exact p
    · exact all2_all t y h
theorem clo_pp {x : Int × List PV} (h : ∀ q ∈ x.2, clo 0 q = true) : clo 0 (pp x) = true := by
  show (true && (clos 0 x.2 && true)) = true
  rw [clos_all h]; rfl
def RowOk (es : List Int) (x : Int × List PV) : Prop := ∀ pt ∈ x.2, PtOk es x.1 (x.2.length : Nat) pt
section
variable {ns : List Int} {s l : Nat} {S : Sto}
/-- a graph's procedures as a law draws them -/
structure GL (k w : Nat) (L : List (Int × List PV)) : Prop where
  l1 : 1 ≤ L.length
  l2 : L.length ≤ k
  row : ∀ x ∈ L, 0 ≤ x.1 ∧ x.1 ≤ 3 ∧ 1 ≤ x.2.length ∧ x.2.length ≤ w ∧ RowOk (L.map (·.1)) x
end

structure GOk (ps : List PV) (ns : List Nat) : Prop where
  l1 : 1 ≤ ps.length
  l2 : ps.length ≤ 6
  hp : Procs ps ns
  hs : isum (ns.map fun n => ((n : Nat) : Int)) ≤ 40
  h2 : Pts (.tup ps) 0 ps
theorem hpx {ps qs : List PV} {k : Nat} {e : Int} (h : ps[k]? = some (.tup [.int e, .tup qs])) : ∀ T, ixM (.tup ps) (.int (k : Nat)) T = .ok (.tup [.int e, .tup qs]) T := fun T => ixT_ev (atP_nat h)
theorem choice_ok {S : Sto} {ts : List Int} {n : Int} (h1 : 1 ≤ ts.length) (h2 : ts.length ≤ 4) (h : ∀ i ∈ ts, 0 ≤ i ∧ i < n) : m_problem_of_choice [.tup (ts.map PV.int), .int n] S = .ok .non S := by
  have l1 : (1 : Int) ≤ (ts.length : Int) := by omega
  have l2 : (ts.length : Int) ≤ 4 := by omega
  have p := fun T => pt_ok (S := T) h
  unfold m_problem_of_choice
  simp -implicitDefEqProofs [callD_ev, mSeq_ev, mIf_ev, mRet_ev, mExp_ev, mAsgN_ev, mAsg_ev, mPar_ev, mPar3_ev, mSetL_ev, mNx_ev, mBk_ev, mCt_ev, mRetN_ev, mRaise_ev, m2_ev, mC_ev, mVar, mTst_ev, mTru_ev, mCh_ev, mIsN_ev, mAndT_ev, mOrT_ev, mNotT_ev, mAndV_ev, mOrV_ev, mNotV_ev, mIfE_ev, mNeg_ev, mNil_ev, mCons_ev, mTup_ev, mLst_ev, mCall_ev, mIsi_ev, mApp_ev, mAllWh_ev, mSl_ev, mNoP_ev, mPart_ev, mFor_ev, mItA_ev, mItE_ev, mLc_ev, mYes_ev, add_ev, sub_ev, lt_ev, le_ev, gt_ev, ge_ev, eqi_ev, eqs_ev, eqb_ev, eqn_ev, nei_ev, nes_ev, lenT_ev, abs_ev, int_ev, intb_ev, ixM, atP, ixN, setl, setLO, bindG, mgName, mgTup, mgCons, mgNil, l1, l2, c_MOST_BRANCHES, p]
theorem rew_ok {S : Sto} {n d i m : Int} (h : isRat (.tup [.int n, .int d]) = true) (h0 : 0 ≤ n) (h1 : n ≤ 1000) (h2 : d ≤ 12) (hi : 0 ≤ i ∧ i < m) : m_problem_of_reward [.tup [.str "reward", .tup [.int n, .int d], .int i], .int m] S = .ok .non S := by
  have a := fun T => amount_ev (S := T) h h0
  have p := fun T => pt_ok (S := T) (ts := [i]) (n := m) (by intro j hj; rw [List.mem_singleton.mp hj]; exact hi)
  simp only [List.map_cons, List.map_nil] at p
  unfold m_problem_of_reward
  simp -implicitDefEqProofs [callD_ev, mSeq_ev, mIf_ev, mRet_ev, mExp_ev, mAsgN_ev, mAsg_ev, mPar_ev, mPar3_ev, mSetL_ev, mNx_ev, mBk_ev, mCt_ev, mRetN_ev, mRaise_ev, m2_ev, mC_ev, mVar, mTst_ev, mTru_ev, mCh_ev, mIsN_ev, mAndT_ev, mOrT_ev, mNotT_ev, mAndV_ev, mOrV_ev, mNotV_ev, mIfE_ev, mNeg_ev, mNil_ev, mCons_ev, mTup_ev, mLst_ev, mCall_ev, mIsi_ev, mApp_ev, mAllWh_ev, mSl_ev, mNoP_ev, mPart_ev, mFor_ev, mItA_ev, mItE_ev, mLc_ev, mYes_ev, add_ev, sub_ev, lt_ev, le_ev, gt_ev, ge_ev, eqi_ev, eqs_ev, eqb_ev, eqn_ev, nei_ev, nes_ev, lenT_ev, abs_ev, int_ev, intb_ev, ixM, atP, ixN, setl, setLO, bindG, mgName, mgTup, mgCons, mgNil, setl, a, h1, h2, truthM, p]
theorem ch_ok {n d : Int} (h : isRat (.tup [.int n, .int d]) = true) (h0 : 0 < n) (h1 : d ≤ 60) : ∀ T, m_is_chance [.tup [.int n, .int d]] T = .ok (.bl true) T := fun T => by
  rw [chance_ev h]
  simp [h0, h1]
theorem one_eq {S : Sto} : eqM (.tup [.int 1, .int 1]) (.tup [.int 1, .int 1]) S = .ok (.bl true) S := by
  have h : okSelf (.tup [.int 1, .int 1]) = true := by decide +kernel
  exact eqv_self (neg := false) (S := S) h
theorem hf_call {S : Sto} {c : Int} {ts : List PV} : m_has_form [.tup [.str "call", .int c, .tup ts]] S = .ok (.bl true) S := by
  have e1 := fun T => isi_ev (T := T) (x := .tup [.str "call", .int c, .tup ts]) (S := S) rfl
  have e2 := fun T => isi_ev (T := T) (x := .str "call") (S := S) rfl
  have e3 := fun T => isi_ev (T := T) (x := .tup ts) (S := S) rfl
  have n_exit : ¬ (("call" : Str) = "exit") := by decide
  have n_draw : ¬ (("call" : Str) = "draw") := by decide
  have n_choose : ¬ (("call" : Str) = "choose") := by decide
  have kd : kd_ITEMS.lookup ("call" : Str) = some (.int 3) := by rfl
  unfold m_has_form
  simp -implicitDefEqProofs [callD_ev, mSeq_ev, mIf_ev, mRet_ev, mExp_ev, mAsgN_ev, mAsg_ev, mPar_ev, mPar3_ev, mSetL_ev, mNx_ev, mBk_ev, mCt_ev, mRetN_ev, mRaise_ev, m2_ev, mC_ev, mVar, mTst_ev, mTru_ev, mCh_ev, mIsN_ev, mAndT_ev, mOrT_ev, mNotT_ev, mAndV_ev, mOrV_ev, mNotV_ev, mIfE_ev, mNeg_ev, mNil_ev, mCons_ev, mTup_ev, mLst_ev, mCall_ev, mIsi_ev, mApp_ev, mAllWh_ev, mSl_ev, mNoP_ev, mPart_ev, mFor_ev, mItA_ev, mItE_ev, mLc_ev, mYes_ev, add_ev, sub_ev, lt_ev, le_ev, gt_ev, ge_ev, eqi_ev, eqs_ev, eqb_ev, eqn_ev, nei_ev, nes_ev, lenT_ev, abs_ev, int_ev, intb_ev, ixM, atP, ixN, setl, setLO, bindG, mgName, mgTup, mgCons, mgNil, e1, e2, e3, mKGet_ev, kd, n_exit, n_draw, n_choose, truthM, whi_ev]
theorem hf_reject {S : Sto}  : m_has_form [.tup [.str "reject"]] S = .ok (.bl true) S := by
  have e1 := fun T => isi_ev (T := T) (x := .tup [.str "reject"]) (S := S) rfl
  have e2 := fun T => isi_ev (T := T) (x := .str "reject") (S := S) rfl
  have n_exit : ¬ (("reject" : Str) = "exit") := by decide
  have n_draw : ¬ (("reject" : Str) = "draw") := by decide
  have n_choose : ¬ (("reject" : Str) = "choose") := by decide
  have n_call : ¬ (("reject" : Str) = "call") := by decide
  have kd : kd_ITEMS.lookup ("reject" : Str) = some (.int 1) := by rfl
  unfold m_has_form
  simp -implicitDefEqProofs [callD_ev, mSeq_ev, mIf_ev, mRet_ev, mExp_ev, mAsgN_ev, mAsg_ev, mPar_ev, mPar3_ev, mSetL_ev, mNx_ev, mBk_ev, mCt_ev, mRetN_ev, mRaise_ev, m2_ev, mC_ev, mVar, mTst_ev, mTru_ev, mCh_ev, mIsN_ev, mAndT_ev, mOrT_ev, mNotT_ev, mAndV_ev, mOrV_ev, mNotV_ev, mIfE_ev, mNeg_ev, mNil_ev, mCons_ev, mTup_ev, mLst_ev, mCall_ev, mIsi_ev, mApp_ev, mAllWh_ev, mSl_ev, mNoP_ev, mPart_ev, mFor_ev, mItA_ev, mItE_ev, mLc_ev, mYes_ev, add_ev, sub_ev, lt_ev, le_ev, gt_ev, ge_ev, eqi_ev, eqs_ev, eqb_ev, eqn_ev, nei_ev, nes_ev, lenT_ev, abs_ev, int_ev, intb_ev, ixM, atP, ixN, setl, setLO, bindG, mgName, mgTup, mgCons, mgNil, e1, e2, mKGet_ev, kd, n_exit, n_draw, n_choose, n_call, truthM]
theorem pp_reject {S : Sto} {ps qs : List PV} {n e : Int} (hp : ∀ T, ixM (.tup ps) (.int n) T = .ok (.tup [.int e, .tup qs]) T) : m_problem_of_point [.tup ps, .int n, .tup [.str "reject"]] S = .ok .non S := by
  have n_exit : ¬ (("reject" : Str) = "exit") := by decide
  have n_draw : ¬ (("reject" : Str) = "draw") := by decide
  have n_choose : ¬ (("reject" : Str) = "choose") := by decide
  have n_call : ¬ (("reject" : Str) = "call") := by decide
  have n_reward : ¬ (("reject" : Str) = "reward") := by decide
  unfold m_problem_of_point
  simp -implicitDefEqProofs [callD_ev, mSeq_ev, mIf_ev, mRet_ev, mExp_ev, mAsgN_ev, mAsg_ev, mPar_ev, mPar3_ev, mSetL_ev, mNx_ev, mBk_ev, mCt_ev, mRetN_ev, mRaise_ev, m2_ev, mC_ev, mVar, mTst_ev, mTru_ev, mCh_ev, mIsN_ev, mAndT_ev, mOrT_ev, mNotT_ev, mAndV_ev, mOrV_ev, mNotV_ev, mIfE_ev, mNeg_ev, mNil_ev, mCons_ev, mTup_ev, mLst_ev, mCall_ev, mIsi_ev, mApp_ev, mAllWh_ev, mSl_ev, mNoP_ev, mPart_ev, mFor_ev, mItA_ev, mItE_ev, mLc_ev, mYes_ev, add_ev, sub_ev, lt_ev, le_ev, gt_ev, ge_ev, eqi_ev, eqs_ev, eqb_ev, eqn_ev, nei_ev, nes_ev, lenT_ev, abs_ev, int_ev, intb_ev, setl, setLO, bindG, mgName, mgTup, mgCons, mgNil, ixT0, ixT1, ixT2, ixT0, ixT1, eqs_ev, hf_reject, hp, n_exit, n_draw, n_choose, n_call, n_reward, truthM]
theorem pp_call {S : Sto} {ps qs : List PV} {n e : Int} {c : Int} {ts : List PV} {x : PV} (hr : ∀ T, m_problem_of_call [.tup ps, .tup [.str "call", .int c, .tup ts], .int qs.length] T = .ok x T) (hp : ∀ T, ixM (.tup ps) (.int n) T = .ok (.tup [.int e, .tup qs]) T) : m_problem_of_point [.tup ps, .int n, .tup [.str "call", .int c, .tup ts]] S = .ok x S := by
  have n_exit : ¬ (("call" : Str) = "exit") := by decide
  have n_draw : ¬ (("call" : Str) = "draw") := by decide
  have n_choose : ¬ (("call" : Str) = "choose") := by decide
  unfold m_problem_of_point
  simp -implicitDefEqProofs [callD_ev, mSeq_ev, mIf_ev, mRet_ev, mExp_ev, mAsgN_ev, mAsg_ev, mPar_ev, mPar3_ev, mSetL_ev, mNx_ev, mBk_ev, mCt_ev, mRetN_ev, mRaise_ev, m2_ev, mC_ev, mVar, mTst_ev, mTru_ev, mCh_ev, mIsN_ev, mAndT_ev, mOrT_ev, mNotT_ev, mAndV_ev, mOrV_ev, mNotV_ev, mIfE_ev, mNeg_ev, mNil_ev, mCons_ev, mTup_ev, mLst_ev, mCall_ev, mIsi_ev, mApp_ev, mAllWh_ev, mSl_ev, mNoP_ev, mPart_ev, mFor_ev, mItA_ev, mItE_ev, mLc_ev, mYes_ev, add_ev, sub_ev, lt_ev, le_ev, gt_ev, ge_ev, eqi_ev, eqs_ev, eqb_ev, eqn_ev, nei_ev, nes_ev, lenT_ev, abs_ev, int_ev, intb_ev, setl, setLO, bindG, mgName, mgTup, mgCons, mgNil, ixT0, ixT1, ixT2, ixT0, ixT1, eqs_ev, hf_call, hp, n_exit, n_draw, n_choose, truthM, hr]
/-- procedures with these exits -/
structure Shape (es : List Int) (ps : List PV) : Prop where
  len : ps.length = es.length
  row : ∀ (c : Nat) (e : Int), es[c]? = some e → ∃ qs, ps[c]? = some (.tup [.int e, .tup qs])
theorem call_ok {S : Sto} {es : List Int} {ps : List PV} (sh : Shape es ps) {c : Nat} {ts : List Int} {n : Int} (hc : es[c]? = some (ts.length : Int)) (h : TsOk n ts) : m_problem_of_call [.tup ps, .tup [.str "call", .int (c : Nat), .tup (ts.map PV.int)], .int n] S = .ok .non S := by
  obtain ⟨qs, hq⟩ := sh.row c _ hc
  have cl := (List.getElem?_eq_some_iff.mp hc).1
  have p := fun T => pt_ok (S := T) h
  have ix := hpx hq
  have lc : (c : Int) < (ps.length : Int) := by rw [sh.len]; omega
  have hl : (ts.map PV.int).length = ts.length := List.length_map _
  generalize ts.map PV.int = us at p hl
  unfold m_problem_of_call
  simp -implicitDefEqProofs [callD_ev, mSeq_ev, mIf_ev, mRet_ev, mExp_ev, mAsgN_ev, mAsg_ev, mPar_ev, mPar3_ev, mSetL_ev, mNx_ev, mBk_ev, mCt_ev, mRetN_ev, mRaise_ev, m2_ev, mC_ev, mVar, mTst_ev, mTru_ev, mCh_ev, mIsN_ev, mAndT_ev, mOrT_ev, mNotT_ev, mAndV_ev, mOrV_ev, mNotV_ev, mIfE_ev, mNeg_ev, mNil_ev, mCons_ev, mTup_ev, mLst_ev, mCall_ev, mIsi_ev, mApp_ev, mAllWh_ev, mSl_ev, mNoP_ev, mPart_ev, mFor_ev, mItA_ev, mItE_ev, mLc_ev, mYes_ev, add_ev, sub_ev, lt_ev, le_ev, gt_ev, ge_ev, eqi_ev, eqs_ev, eqb_ev, eqn_ev, nei_ev, nes_ev, lenT_ev, abs_ev, int_ev, intb_ev, setl, setLO, bindG, mgName, mgTup, mgCons, mgNil, ixT0, ixT1, ixT2, setl, idx_ev, lc, ix, p, truthM, hl]
theorem isum_nn : ∀ (l : List (Int × Int)), (∀ b ∈ l, 1 ≤ b.1) → 0 ≤ isum (l.map (·.1))
  | [], _ => Int.le_refl 0
  | x :: l, h => by
    have a1 := isum_nn l fun b hb => h b (List.mem_cons_of_mem _ hb)
    have a2 := h x List.mem_cons_self
    show 0 ≤ x.1 + isum (l.map (·.1))
    omega
theorem drw_go {S : Sto} {n t : Int} {P : Option PV} (ht : 1 ≤ t ∧ t ≤ 60) : ∀ (bs : List (Int × Int)) (j : Int) (x3 x4 : Option PV), 0 ≤ j → (∀ b ∈ bs, 1 ≤ b.1) → j + isum (bs.map (·.1)) ≤ t → (∀ b ∈ bs, 0 ≤ b.2 ∧ b.2 < n) →
    ∃ y3 y4, forGo [] (mgTup 2 (mgCons (mgName 3) (mgCons (mgName 4) mgNil))) (mSeq (mIf (mNotT (mTru (mApp 1 m_is_chance (mCons (mVar 3) mNil)))) (mRet (mC (PV.str "chance"))) mNx) (mSeq (mIf (mNotT (mTru (mApp 2 m_is_index (mCons (mVar 4) (mCons (mVar 1) mNil))))) (mRet (mC (PV.str "point"))) mNx)
      (mAsg (mApp 2 m_plus (mCons (mVar 2) (mCons (mVar 3) mNil))) (mgName 2)))) (bs.map (brT t)) [P, some (.int n), some (pq (fr t j)), x3, x4] S = .nx [P, some (.int n), some (pq (fr t (j + isum (bs.map (·.1))))), y3, y4] S
  | [], j, x3, x4, _, _, _, _ => ⟨x3, x4, by simp [isum, go_nil]⟩
  | b :: bs, j, x3, x4, h0, h1, h2, h3 => by
    have hb := h1 b List.mem_cons_self
    have hi := h3 b List.mem_cons_self
    have nn := isum_nn bs fun b hb => h1 b (List.mem_cons_of_mem _ hb)
    have es : isum ((b :: bs).map (·.1)) = b.1 + isum (bs.map (·.1)) := rfl
    rw [es] at h2
    obtain ⟨y3, y4, e⟩ := drw_go (S := S) (n := n) (P := P) ht bs (j + b.1) (some (pq (fr t b.1))) (some (.int b.2)) (by omega) (fun b hb => h1 b (List.mem_cons_of_mem _ hb)) (by omega) (fun b hb => h3 b (List.mem_cons_of_mem _ hb))
    refine ⟨y3, y4, ?_⟩
    rw [es, show j + (b.1 + isum (bs.map (·.1))) = j + b.1 + isum (bs.map (·.1)) by omega, ← e, List.map_cons, go_cons]
    obtain ⟨c1, c2, c3, c4, c5⟩ := fr_q (t := t) (k := b.1) ht.2 (by omega)
    have cj := fr_n (t := t) (k := j) ht (by omega)
    have ck := fr_n (t := t) (k := b.1) ht (by omega)
    have pl := fun T => plus_ev (S := T) cj.1 ck.1 cj.2 ck.2
    rw [fr_plus ht.1] at pl
    have co : ∀ T, m_is_chance [pq (fr t b.1)] T = .ok (.bl true) T := ch_ok c5 c2 c3
    rw [bindG_ev (l := [(3, pq (fr t b.1)), (4, .int b.2)]) rfl]
    generalize pq (fr t j) = a1 at pl
    generalize pq (fr t b.1) = a2 at pl co
    generalize pq (fr t (j + b.1)) = a3 at pl
    simp -implicitDefEqProofs [callD_ev, mSeq_ev, mIf_ev, mRet_ev, mExp_ev, mAsgN_ev, mAsg_ev, mPar_ev, mPar3_ev, mSetL_ev, mNx_ev, mBk_ev, mCt_ev, mRetN_ev, mRaise_ev, m2_ev, mC_ev, mVar, mTst_ev, mTru_ev, mCh_ev, mIsN_ev, mAndT_ev, mOrT_ev, mNotT_ev, mAndV_ev, mOrV_ev, mNotV_ev, mIfE_ev, mNeg_ev, mNil_ev, mCons_ev, mTup_ev, mLst_ev, mCall_ev, mIsi_ev, mApp_ev, mAllWh_ev, mSl_ev, mNoP_ev, mPart_ev, mFor_ev, mItA_ev, mItE_ev, mLc_ev, mYes_ev, add_ev, sub_ev, lt_ev, le_ev, gt_ev, ge_ev, eqi_ev, eqs_ev, eqb_ev, eqn_ev, nei_ev, nes_ev, lenT_ev, abs_ev, int_ev, intb_ev, ixM, atP, ixN, setl, setLO, bindG, mgName, mgTup, mgCons, mgNil, setl, co, idx_ev, hi.1, hi.2, truthM, pl]
theorem drw_ok {S : Sto} {n t : Int} {bs : List (Int × Int)} (ht : 1 ≤ t ∧ t ≤ 60) (l : bs.length ≤ 4) (hc : ChsT t (bs.map (·.1))) (h : ∀ b ∈ bs, 0 ≤ b.2 ∧ b.2 < n) : m_problem_of_draw [.tup (bs.map (brT t)), .int n] S = .ok .non S := by
  obtain ⟨c1, c2⟩ := hc
  have l1 : 1 ≤ bs.length := by
    cases bs with
    | nil => simp [isum] at c2; omega
    | cons b bs => simp
  obtain ⟨y3, y4, e⟩ := drw_go (S := S) (n := n) (P := some (.tup (bs.map (brT t)))) ht bs 0 none none (Int.le_refl 0) (fun b hb => c1 b.1 (List.mem_map.mpr ⟨b, hb, rfl⟩)) (by omega) h
  rw [c2, Int.zero_add, fr_0 ht, fr_1 ht] at e
  have e0 : pq (0, 1) = .tup [.int 0, .int 1] := rfl
  have e60 : pq (1, 1) = .tup [.int 1, .int 1] := rfl
  rw [e0, e60] at e
  have l1' : (1 : Int) ≤ (bs.length : Int) := by omega
  have l2' : (bs.length : Int) ≤ 4 := by omega
  have hl : (bs.map (brT t)).length = bs.length := List.length_map _
  generalize bs.map (brT t) = us at e hl
  unfold m_problem_of_draw
  simp -implicitDefEqProofs [callD_ev, mSeq_ev, mIf_ev, mRet_ev, mExp_ev, mAsgN_ev, mAsg_ev, mPar_ev, mPar3_ev, mSetL_ev, mNx_ev, mBk_ev, mCt_ev, mRetN_ev, mRaise_ev, m2_ev, mC_ev, mVar, mTst_ev, mTru_ev, mCh_ev, mIsN_ev, mAndT_ev, mOrT_ev, mNotT_ev, mAndV_ev, mOrV_ev, mNotV_ev, mIfE_ev, mNeg_ev, mNil_ev, mCons_ev, mTup_ev, mLst_ev, mCall_ev, mIsi_ev, mApp_ev, mAllWh_ev, mSl_ev, mNoP_ev, mPart_ev, mFor_ev, mItA_ev, mItE_ev, mLc_ev, mYes_ev, add_ev, sub_ev, lt_ev, le_ev, gt_ev, ge_ev, eqi_ev, eqs_ev, eqb_ev, eqn_ev, nei_ev, nes_ev, lenT_ev, abs_ev, int_ev, intb_ev, setl, setLO, bindG, mgName, mgTup, mgCons, mgNil, ixT0, ixT1, ixT2, c_MOST_BRANCHES, c_ZERO, c_ONE, itOf, hl, l1', l2', e, one_eq]
theorem pairs_br {t : Int} : ∀ bs : List (Int × Int), pairs (bs.map (brT t))
  | [] => trivial
  | b :: bs => ⟨⟨_, _, rfl⟩, pairs_br bs⟩
theorem point_ok {S : Sto} {es : List Int} {e : Int} {pt : PV} {ps qs : List PV} {p : Nat} (sh : Shape es ps) (hp : ps[p]? = some (.tup [.int e, .tup qs])) (h : PtOk es e (qs.length : Nat) pt) : m_problem_of_point [.tup ps, .int (p : Nat), pt] S = .ok .non S := by
  have ix := hpx hp
  rcases h with ⟨t, bs, rfl, ht, h1, h2, h3⟩ | ⟨ts, rfl, h1, h2, h3⟩ | ⟨c, ts, rfl, h1, h2⟩ | ⟨k, rfl, h1, h2⟩ | ⟨q, i, rfl, h1, h2, h3, h4, h5, h6, h7⟩ | rfl | rfl
  · exact pp_draw (pairs_br bs) (fun T => drw_ok ht h1 h2 h3) ix
  · exact pp_choose (fun T => choice_ok h1 h2 h3) ix
  · exact pp_call (fun T => call_ok sh h1 h2) ix
  · exact pp_exit ⟨h1, h2⟩ ix
  · exact pp_reward (fun T => rew_ok h1 h3 h4 h5 ⟨h6, h7⟩) ix
  · exact pp_reject ix
  · exact pp_stop ix

def plX (k i : Nat) : PV := .tup [.int (k : Nat), .int (i : Nat)]
open Odds in
theorem gcd2_end {B g a b : Nat} (h : Odds.GcdI B g 2000 a b) (hB : B ≤ 900) : a = g := by
  obtain ⟨hg, h⟩ := h
  rcases h with ⟨h, _⟩ | ⟨_, h0 | ⟨hba, hp⟩⟩
  · cases h
  · rw [h0, Nat.gcd_zero_right] at hg
    exact hg
  · by_cases hb : b = 0
    · rw [hb, Nat.gcd_zero_right] at hg
      exact hg
    · exfalso
      have h1 : 1 ≤ a * b := Nat.mul_pos (by omega) (Nat.pos_of_ne_zero hb)
      have h2 : 2 ^ (2000 - 1) < 2 ^ (B + B) := Nat.lt_of_le_of_lt (Nat.le_trans (Nat.le_of_eq (Nat.one_mul _).symm) (Nat.mul_le_mul_right _ h1)) hp
      have h3 := (Nat.pow_lt_pow_iff_right (by decide : 1 < 2)).mp h2
      omega
theorem gcd2_go {B g : Nat} (hB : B ≤ 900) {S : Sto} : ∀ (xs : List PV) (i a b : Nat) (v u : Option PV), Odds.GcdI B g i a b → i + xs.length = 2000 →
    ∃ w, forGo [] (mgName 2) (mSeq (mIf (mTst (m2 eqM (mVar 1) (mC (PV.int 0)))) mBk mNx) (mSeq (mAsg (m2 modM (mCall intM (mCons (mVar 0) mNil)) (mVar 1)) (mgName 3)) (mSeq (mAsg (mVar 1) (mgName 0)) (mAsg (mVar 3) (mgName 1))))) xs [some (.int (a : Int)), some (.int (b : Int)), v, u] S = .nx (some (.int (g : Int)) :: w) S
  | [], i, a, b, v, u, G, h => by
    have : i = 2000 := by simpa using h
    subst this
    rw [gcd2_end G hB, go_nil]
    exact ⟨_, rfl⟩
  | x :: xs, i, a, b, v, u, G, h => by
    by_cases hb : b = 0
    · subst hb
      have e : a = g := by
        have := G.1
        rwa [Nat.gcd_zero_right] at this
      subst e
      simp -implicitDefEqProofs [callD_ev, mSeq_ev, mIf_ev, mRet_ev, mExp_ev, mAsgN_ev, mAsg_ev, mPar_ev, mPar3_ev, mSetL_ev, mNx_ev, mBk_ev, mCt_ev, mRetN_ev, mRaise_ev, m2_ev, mC_ev, mVar, mTst_ev, mTru_ev, mCh_ev, mIsN_ev, mAndT_ev, mOrT_ev, mNotT_ev, mAndV_ev, mOrV_ev, mNotV_ev, mIfE_ev, mNeg_ev, mNil_ev, mCons_ev, mTup_ev, mLst_ev, mCall_ev, mIsi_ev, mApp_ev, mAllWh_ev, mSl_ev, mNoP_ev, mPart_ev, mFor_ev, mItA_ev, mItE_ev, mLc_ev, mYes_ev, add_ev, sub_ev, lt_ev, le_ev, gt_ev, ge_ev, eqi_ev, eqs_ev, eqb_ev, eqn_ev, nei_ev, nes_ev, lenT_ev, abs_ev, int_ev, intb_ev, ixM, atP, ixN, setl, setLO, bindG, mgName, mgTup, mgCons, mgNil, go_consN]
    · have hb' : (0 : Int) < (b : Int) := by omega
      have ih := gcd2_go hB (S := S) xs (i + 1) b (a % b) (some x) (some (.int ((a % b : Nat) : Int))) (Odds.gcdI_step G hb) (by simp at h; omega)
      obtain ⟨w, ih⟩ := ih
      refine ⟨w, ?_⟩
      rw [← ih]
      simp -implicitDefEqProofs [callD_ev, mSeq_ev, mIf_ev, mRet_ev, mExp_ev, mAsgN_ev, mAsg_ev, mPar_ev, mPar3_ev, mSetL_ev, mNx_ev, mBk_ev, mCt_ev, mRetN_ev, mRaise_ev, m2_ev, mC_ev, mVar, mTst_ev, mTru_ev, mCh_ev, mIsN_ev, mAndT_ev, mOrT_ev, mNotT_ev, mAndV_ev, mOrV_ev, mNotV_ev, mIfE_ev, mNeg_ev, mNil_ev, mCons_ev, mTup_ev, mLst_ev, mCall_ev, mIsi_ev, mApp_ev, mAllWh_ev, mSl_ev, mNoP_ev, mPart_ev, mFor_ev, mItA_ev, mItE_ev, mLc_ev, mYes_ev, add_ev, sub_ev, lt_ev, le_ev, gt_ev, ge_ev, eqi_ev, eqs_ev, eqb_ev, eqn_ev, nei_ev, nes_ev, lenT_ev, abs_ev, int_ev, intb_ev, ixM, atP, ixN, setl, setLO, bindG, mgName, mgTup, mgCons, mgNil, go_consN, hb, mod_ev hb']
theorem gcd2_ev {S : Sto} {a b : Int} {B : Nat} (ha : a.natAbs < 2 ^ B) (hb : b.natAbs < 2 ^ B) (hB : B ≤ 900 := by decide) : m_l_gcd [.int a, .int b] S = .ok (.int (Nat.gcd a.natAbs b.natAbs : Nat)) S := by
  obtain ⟨w, e⟩ := gcd2_go (g := Nat.gcd a.natAbs b.natAbs) hB (S := S) (rngP 0 2000) 0 a.natAbs b.natAbs none none ⟨rfl, .inl ⟨rfl, ha, hb⟩⟩ (by simp)
  unfold m_l_gcd
  simp -implicitDefEqProofs [callD_ev, mSeq_ev, mIf_ev, mRet_ev, mExp_ev, mAsgN_ev, mAsg_ev, mPar_ev, mPar3_ev, mSetL_ev, mNx_ev, mBk_ev, mCt_ev, mRetN_ev, mRaise_ev, m2_ev, mC_ev, mVar, mTst_ev, mTru_ev, mCh_ev, mIsN_ev, mAndT_ev, mOrT_ev, mNotT_ev, mAndV_ev, mOrV_ev, mNotV_ev, mIfE_ev, mNeg_ev, mNil_ev, mCons_ev, mTup_ev, mLst_ev, mCall_ev, mIsi_ev, mApp_ev, mAllWh_ev, mSl_ev, mNoP_ev, mPart_ev, mFor_ev, mItA_ev, mItE_ev, mLc_ev, mYes_ev, add_ev, sub_ev, lt_ev, le_ev, gt_ev, ge_ev, eqi_ev, eqs_ev, eqb_ev, eqn_ev, nei_ev, nes_ev, lenT_ev, abs_ev, int_ev, intb_ev, ixM, atP, ixN, setl, setLO, bindG, mgName, mgTup, mgCons, mgNil, rng1_ev, e]
theorem ratio2_ev {S : Sto} {n d : Int} (hd : 0 < d) (hn : n.natAbs < 2 ^ 800) (hb : d.natAbs < 2 ^ 800) : m_l_ratio [.int n, .int d] S = .ok (pq (lo1 n d, lo2 n d)) S := by
  have g := fun S => gcd2_ev (S := S) (B := 800) hn hb
  have hs : ((Nat.gcd n.natAbs d.natAbs : Nat) : Int) = sg n d := by unfold sg; rw [if_neg (by omega)]
  have ls : (sg n d).natAbs.log2 < 9000 := log_b (b := 800) (sg_size (by omega) hb)
  have f1 := fun (x : Int) S => fdiv_ev (S := S) (i := x) (sg_ne (n := n) (show d ≠ 0 by omega)) ls
  unfold m_l_ratio pq
  simp -implicitDefEqProofs [callD_ev, mSeq_ev, mIf_ev, mRet_ev, mExp_ev, mAsgN_ev, mAsg_ev, mPar_ev, mPar3_ev, mSetL_ev, mNx_ev, mBk_ev, mCt_ev, mRetN_ev, mRaise_ev, m2_ev, mC_ev, mVar, mTst_ev, mTru_ev, mCh_ev, mIsN_ev, mAndT_ev, mOrT_ev, mNotT_ev, mAndV_ev, mOrV_ev, mNotV_ev, mIfE_ev, mNeg_ev, mNil_ev, mCons_ev, mTup_ev, mLst_ev, mCall_ev, mIsi_ev, mApp_ev, mAllWh_ev, mSl_ev, mNoP_ev, mPart_ev, mFor_ev, mItA_ev, mItE_ev, mLc_ev, mYes_ev, add_ev, sub_ev, lt_ev, le_ev, gt_ev, ge_ev, eqi_ev, eqs_ev, eqb_ev, eqn_ev, nei_ev, nes_ev, lenT_ev, abs_ev, int_ev, intb_ev, ixM, atP, ixN, setl, setLO, bindG, mgName, mgTup, mgCons, mgNil, g, hs, f1, lo1, lo2]

theorem shape_of {L : List (Int × List PV)} : Shape (L.map (·.1)) (L.map pp) := ⟨by simp, fun c e h => by
  rw [List.getElem?_map] at h
  cases hc : L[c]? with
  | none => rw [hc] at h; cases h
  | some x => rw [hc] at h; cases h; exact ⟨x.2, by rw [List.getElem?_map, hc]; rfl⟩⟩
theorem procs_of : ∀ {L : List (Int × List PV)}, (∀ x ∈ L, 0 ≤ x.1 ∧ x.1 ≤ 3 ∧ 1 ≤ x.2.length ∧ x.2.length ≤ 16) → Procs (L.map pp) (L.map fun x => x.2.length)
  | [], _ => trivial
  | x :: L, h => by
    obtain ⟨a, b, c, d⟩ := h x List.mem_cons_self
    exact ⟨⟨x.1, x.2, rfl, a, b, c, d, rfl⟩, procs_of fun y hy => h y (List.mem_cons_of_mem _ hy)⟩
theorem sum_of {w : Nat} : ∀ {L : List (Int × List PV)}, (∀ x ∈ L, x.2.length ≤ w) → isum ((L.map fun x => x.2.length).map fun n => ((n : Nat) : Int)) ≤ ((L.length * w : Nat) : Int)
  | [], _ => by simp [isum]
  | x :: L, h => by
    have ih := sum_of (w := w) (L := L) fun y hy => h y (List.mem_cons_of_mem _ hy)
    have a := h x List.mem_cons_self
    show ((x.2.length : Nat) : Int) + isum ((L.map fun x => x.2.length).map fun n => ((n : Nat) : Int)) ≤ _
    rw [List.length_cons, Nat.succ_mul]
    omega
theorem pts_of {es : List Int} {P : List PV} (sh : Shape es P) : ∀ {L : List (Int × List PV)} {k : Nat}, (∀ (j : Nat) (x : Int × List PV), L[j]? = some x → P[k + j]? = some (pp x) ∧ RowOk es x) → Pts (.tup P) k (L.map pp)
  | [], _, _ => trivial
  | x :: L, k, h => by
    obtain ⟨a, b⟩ := h 0 x rfl
    refine ⟨⟨x.1, x.2, rfl, fun q hq T => point_ok sh a (b q hq)⟩, pts_of sh fun j y hy => ?_⟩
    have := h (j + 1) y (by simpa using hy)
    rwa [show k + (j + 1) = k + 1 + j by omega] at this
theorem GL.ok {k w : Nat} {L : List (Int × List PV)} (h : GL k w L) (hk : k ≤ 6) (hw : w ≤ 16) (hm : k * w ≤ 40) : GOk (L.map pp) (L.map fun x => x.2.length) := by
  have h1 := h.l1
  have h2 := h.l2
  refine ⟨by rw [List.length_map]; exact h1, by rw [List.length_map]; omega, procs_of fun x hx => ?_, ?_, pts_of shape_of fun j x hx => ⟨by rw [Nat.zero_add, List.getElem?_map, hx]; rfl, (h.row x (List.mem_of_getElem? hx)).2.2.2.2⟩⟩
  · obtain ⟨a, b, c, d, _⟩ := h.row x hx
    exact ⟨a, b, c, by omega⟩
  · have := sum_of (w := w) (L := L) fun x hx => (h.row x hx).2.2.2.1
    have m : L.length * w ≤ k * w := Nat.mul_le_mul_right _ h2
    omega
theorem lens_sum {w : Nat} : ∀ {L : List (Int × List PV)}, (∀ x ∈ L, x.2.length ≤ w) → (L.map fun x => x.2.length).sum ≤ L.length * w
  | [], _ => by simp
  | x :: L, h => by
    have ih := lens_sum (w := w) (L := L) fun y hy => h y (List.mem_cons_of_mem _ hy)
    have a := h x List.mem_cons_self
    rw [List.map_cons, List.sum_cons, List.length_cons, Nat.succ_mul]
    omega

theorem sum_isum : ∀ {ws : List Int}, ws.sum = isum ws
  | [] => rfl
  | w :: ws => by
    rw [List.sum_cons, sum_isum]; rfl
theorem isum_set : ∀ {ws : List Int} {i : Nat} {w : Int}, ws[i]? = some w → isum (ws.set i (w + 1)) = isum ws + 1
  | [], _, _, h => by simp at h
  | x :: xs, 0, w, h => by
    cases h
    show x + 1 + isum xs = x + isum xs + 1
    omega
  | x :: xs, i + 1, w, h => by
    have := isum_set (ws := xs) (i := i) (w := w) (by simpa using h)
    show x + isum (xs.set i (w + 1)) = x + isum xs + 1
    omega
theorem isum_ones : ∀ {ws : List Int}, (∀ w ∈ ws, w = 1) → isum ws = ws.length
  | [], _ => rfl
  | w :: ws, h => by
    have := isum_ones (ws := ws) fun x hx => h x (List.mem_cons_of_mem _ hx)
    have := h w List.mem_cons_self
    show w + isum ws = ((ws.length + 1 : Nat) : Int)
    omega
noncomputable def brB : MS := (mSeq (mAsg (mApp 2 m_l_next (mCons (mVar 0) (mCons (mVar 2) mNil))) (mgName 5))
    (mSetL (mVar 3) (mVar 5) (m2 addM (m2 ixM (mVar 3) (mVar 5)) (mC (PV.int 1)))))
theorem br_go {ns : List Int} {s l : Nat} {m c : Int} : ∀ (r : Nat) (i : Int) (ws : List Int) (x4 x5 : Option PV) {S : Sto}, Dst ns s l S → (∀ k ∈ ws, 1 ≤ k) → (ws.length : Int) = c → 1 ≤ c → c ≤ 4 →
    ∃ ws' y4 y5 S', forGo [] (mgName 4) brB (rngP i r) [some (.cell s), some (.int m), some (.int c), some (.cell S.length), x4, x5, none, none] (S ++ [.lst (ws.map PV.int)]) =
      .nx [some (.cell s), some (.int m), some (.int c), some (.cell S.length), y4, y5, none, none] (S' ++ [.lst (ws'.map PV.int)]) ∧ Up s l S S' ∧ (∀ k ∈ ws', 1 ≤ k) ∧ (ws'.length : Int) = c ∧ isum ws' = isum ws + r
  | 0, i, ws, x4, x5, S, h, h1, h2, _, _ => ⟨ws, x4, x5, S, go_nil, Up.rfl h, h1, h2, by simp⟩
  | r + 1, i, ws, x4, x5, S, h, h1, h2, h3, h4 => by
    have hd : Dst ns s l (S ++ [.lst (ws.map PV.int)]) := h.app (clo_ints ws)
    have lt := h.lt
    obtain ⟨d, S2, a, b, _, u, e⟩ := hd.nx (m := c) (by omega) (log_b (b := 10) (by omega))
    obtain ⟨S1, u1, rfl⟩ := up_app lt.1 u
    have hl : S1.length = S.length := u1.len
    obtain ⟨n, rfl⟩ : ∃ n : Nat, (n : Int) = d := ⟨d.toNat, by omega⟩
    have nl : n < ws.length := by omega
    obtain ⟨w, hw⟩ : ∃ w, ws[n]? = some w := ⟨_, List.getElem?_eq_getElem nl⟩
    have w1 := h1 w (List.mem_of_getElem? hw)
    obtain ⟨ws', y4, y5, S', e1, e2, e3, e4, e5⟩ := br_go (m := m) (c := c) r (i + 1) (ws.set n (w + 1)) (some (.int i)) (some (.int (n : Nat))) (h.up u1)
      (fun k hk => by
        rcases List.mem_or_eq_of_mem_set hk with hk | rfl
        · exact h1 k hk
        · omega) (by simpa using h2) h3 h4
    refine ⟨ws', y4, y5, S', ?_, u1.trans e2, e3, e4, by rw [e5, isum_set hw]; omega⟩
    rw [rngP_cons, go_consN, ← hl, ← e1]
    have g1 : (S1 ++ [MO.lst (ws.map PV.int)])[S1.length]? = some (.lst (ws.map PV.int)) := by simp
    have ix : ixM (.cell S1.length) (.int (n : Nat)) (S1 ++ [MO.lst (ws.map PV.int)]) = .ok (.int w) (S1 ++ [MO.lst (ws.map PV.int)]) := ixC_ev g1 (atP_nat (int_at hw))
    have st : (S1 ++ [MO.lst (ws.map PV.int)]).set S1.length (.lst ((ws.map PV.int).set n (.int (w + 1)))) = S1 ++ [.lst ((ws.set n (w + 1)).map PV.int)] := by simp [List.map_set]
    have hb : brB ([some (.cell s), some (.int m), some (.int c), some (.cell S1.length), x4, x5, none, none].set 4 (some (.int i))) (S ++ [.lst (ws.map PV.int)]) = .nx [some (.cell s), some (.int m), some (.int c), some (.cell S1.length), some (.int i), some (.int (n : Nat)), none, none] (S1 ++ [.lst ((ws.set n (w + 1)).map PV.int)]) := by
      have nl2 : ixN (ws.map PV.int).length (n : Int) = some n := by
        unfold ixN
        rw [if_pos (by omega), if_pos (by simp; omega)]
        simp
      generalize ws.map PV.int = us at g1 ix st e nl2
      generalize S ++ [MO.lst us] = T at e
      generalize S1 ++ [MO.lst ((ws.set n (w + 1)).map PV.int)] = T3 at st
      generalize S1 ++ [MO.lst us] = T2 at e g1 ix st
      unfold brB
      simp -implicitDefEqProofs [callD_ev, mSeq_ev, mIf_ev, mRet_ev, mExp_ev, mAsgN_ev, mAsg_ev, mPar_ev, mPar3_ev, mSetL_ev, mNx_ev, mBk_ev, mCt_ev, mRetN_ev, mRaise_ev, m2_ev, mC_ev, mVar, mTst_ev, mTru_ev, mCh_ev, mIsN_ev, mAndT_ev, mOrT_ev, mNotT_ev, mAndV_ev, mOrV_ev, mNotV_ev, mIfE_ev, mNeg_ev, mNil_ev, mCons_ev, mTup_ev, mLst_ev, mCall_ev, mIsi_ev, mApp_ev, mAllWh_ev, mSl_ev, mNoP_ev, mPart_ev, mFor_ev, mItA_ev, mItE_ev, mLc_ev, mYes_ev, add_ev, sub_ev, lt_ev, le_ev, gt_ev, ge_ev, eqi_ev, eqs_ev, eqb_ev, eqn_ev, nei_ev, nes_ev, lenT_ev, abs_ev, int_ev, intb_ev, setl, setLO, bindG, mgName, mgTup, mgCons, mgNil, ixT0, ixT1, ixT2, e, ix, g1, nl2, st]
    rw [hb, loopE_nx]

theorem all2_bt {t z : Int} : ∀ {ks : List Int} {ys : List PV}, All2 (fun x y => ∃ k u, x = .int k ∧ 0 ≤ u ∧ u < z ∧ y = .tup [pq (fr t k), .int u]) (ks.map PV.int) ys → ∃ bs : List (Int × Int), ys = bs.map (brT t) ∧ bs.map (·.1) = ks ∧ ∀ b ∈ bs, 0 ≤ b.2 ∧ b.2 < z
  | [], _, .nil => ⟨[], rfl, rfl, fun _ h => nomatch h⟩
  | k :: ks, _, .cons ⟨k', u, e, a, b, c⟩ h => by
    cases e
    obtain ⟨bs, h1, h2, h3⟩ := all2_bt (ks := ks) h
    refine ⟨(k, u) :: bs, by rw [c, h1]; rfl, by simp [h2], fun i hi => ?_⟩
    rcases List.mem_cons.mp hi with rfl | hi
    · exact ⟨a, b⟩
    · exact h3 i hi
section
variable {ns : List Int} {s l : Nat} {S : Sto}
theorem lbranches_ev {z : Int} (h : Dst ns s l S) (hz : 1 ≤ z ∧ z ≤ 100) : ∃ (t : Int) (bs : List (Int × Int)) (S' : Sto), (1 ≤ t ∧ t ≤ 60) ∧ bs.length ≤ 4 ∧ ChsT t (bs.map (·.1)) ∧ (∀ b ∈ bs, 0 ≤ b.2 ∧ b.2 < z) ∧ Up s l S S' ∧ m_l_branches [.cell s, .int z] S = .ok (.tup (bs.map (brT t))) S' := by
  have lt := h.lt
  obtain ⟨d0, S0, a0, b0, h0, u0, e0⟩ := h.nx (m := 3) (by decide) (by decide)
  obtain ⟨d1, S1, a1, b1, h1, u1, e1⟩ := h0.nx (m := 8) (by decide) (by decide)
  obtain ⟨c, hc, c1, c4⟩ : ∃ c : Int, (if d1 = 1 then 4 else 1 + d0) = c ∧ 1 ≤ c ∧ c ≤ 4 := ⟨_, rfl, by split <;> omega, by split <;> omega⟩
  obtain ⟨r, hr, rg⟩ : ∃ r : Nat, ((r : Nat) : Int) = c ∧ ∀ T, rng1 [.int c] T = .ok ⟨rngP 0 r, []⟩ T := ⟨c.toNat, by omega, fun T => rng1_ev ⟨by omega, by omega⟩⟩
  obtain ⟨ys, S2, u2, al, e2⟩ := lc_draw (i := 4) (te := mC (PV.int 1)) (ρ := [some (.cell s), some (.int z), some (.int c), none, none, none, none, none]) (P := fun _ y => ∃ t, 0 ≤ t ∧ t < 2 ∧ y = .int t ∧ t = 1) (fun x y ⟨t, _, _, ey, _⟩ => by rw [ey]; rfl) (rngP 0 r) h1 (by simp; omega)
    (fun x _ T hT _ => ⟨.int 1, T, ⟨1, by decide, by decide, rfl, rfl⟩, Up.rfl hT, rfl⟩)
  obtain ⟨ws, rfl, wl, _⟩ := all2_ints (al.imp fun _ _ ⟨t, p1, p2, p3, _⟩ => ⟨t, p1, p2, p3⟩)
  have w1 : ∀ w ∈ ws, w = 1 := fun w hw => by
    obtain ⟨t, _, _, p, q⟩ := all2_all al (.int w) (List.mem_map.mpr ⟨w, hw, rfl⟩)
    cases p; exact q
  rw [rngP_len] at wl
  have l1 := u2.len
  have h2 : Dst ns s l (S2 ++ [.lst (ws.map PV.int)]) := (h1.up u2).app (clo_ints ws)
  obtain ⟨d3, S3', a3, b3, h3', u3', e3⟩ := h2.nx (m := 6) (by decide) (by decide)
  obtain ⟨S3, u3, rfl⟩ := up_app (h1.up u2).lt.1 u3'
  have l3 := u3.len
  obtain ⟨q, hq, rq⟩ : ∃ q : Nat, ((q : Nat) : Int) = d3 ∧ ∀ T, rng1 [.int d3] T = .ok ⟨rngP 0 q, []⟩ T := ⟨d3.toNat, by omega, fun T => rng1_ev ⟨by omega, by omega⟩⟩
  obtain ⟨vs, y4, y5, S4, e4, u4, v1, v2, v3⟩ := br_go (m := z) (c := c) q 0 ws none none ((h1.up u2).up u3) (fun k hk => by rw [w1 k hk]; decide) (by omega) c1 c4
  rw [isum_ones w1] at v3
  have l4 := u4.len
  have us := (((u0.trans u1).trans u2).trans u3).trans u4
  have h4 : Dst ns s l (S4 ++ [.lst (vs.map PV.int)]) := (h.up us).app (clo_ints vs)
  have g4 : (S4 ++ [MO.lst (vs.map PV.int)])[S1.length]? = some (.lst (vs.map PV.int)) := by rw [show S1.length = S4.length by omega]; simp
  have sm := sum_ev g4
  rw [sum_isum] at sm
  obtain ⟨t, ht⟩ : ∃ t, isum vs = t := ⟨_, rfl⟩
  rw [ht] at sm v3
  have t1 : 1 ≤ t ∧ t ≤ 60 := by omega
  have vle : ∀ v ∈ vs, v ≤ 60 := fun v hv => by
    have : ∀ (xs : List Int), (∀ k ∈ xs, 1 ≤ k) → v ∈ xs → v ≤ isum xs ∧ 0 ≤ isum xs := fun xs => by
      induction xs with
      | nil => intro _ h; cases h
      | cons x xs ih =>
        intro h1 hm
        have n0 : 0 ≤ isum xs := by
          clear ih hm
          induction xs with
          | nil => exact Int.le_refl 0
          | cons y ys ihy => have := ihy (fun k hk => h1 k (by rcases List.mem_cons.mp hk with rfl | hk <;> simp_all)); have := h1 y (by simp); show 0 ≤ y + isum ys; omega
        have hx := h1 x List.mem_cons_self
        show v ≤ x + isum xs ∧ 0 ≤ x + isum xs
        rcases List.mem_cons.mp hm with rfl | hm
        · omega
        · have := ih (fun k hk => h1 k (List.mem_cons_of_mem _ hk)) hm; omega
    have := this vs v1 hv
    omega
  obtain ⟨zs, S5', u5, al5, e5⟩ := lc_drawC (i := 7) (c := S1.length) (te := mTup (mCons (mApp 2 m_l_ratio (mCons (mVar 7) (mCons (mVar 6) mNil))) (mCons (mApp 2 m_l_next (mCons (mVar 0) (mCons (mVar 1) mNil))) mNil))) (ρ := [some (.cell s), some (.int z), some (.int c), some (.cell S1.length), y4, y5, some (.int t), none])
    (P := fun x y => ∃ k u, x = .int k ∧ 0 ≤ u ∧ u < z ∧ y = .tup [pq (fr t k), .int u]) (fun x y ⟨k, u, _, _, _, ey⟩ => by rw [ey]; rfl) (vs.map PV.int) h4 g4 (by have := u0.len; have := u1.len; omega) (by simp; omega)
    (fun x hx T hT _ => by
      obtain ⟨k, hk, rfl⟩ := List.mem_map.mp hx
      obtain ⟨d, T2, a, b, _, u, e⟩ := hT.nx (m := z) (by omega) (log_b (b := 10) (by omega))
      have kb := vle k hk
      have k1 := v1 k hk
      have rt := fun T => ratio2_ev (S := T) (n := k) (d := t) (by omega) (Odds.up 10 (by omega)) (Odds.up 10 (by omega))
      refine ⟨_, T2, ⟨k, d, rfl, a, b, rfl⟩, u, ?_⟩
      unfold fr
      simp -implicitDefEqProofs [callD_ev, mSeq_ev, mIf_ev, mRet_ev, mExp_ev, mAsgN_ev, mAsg_ev, mPar_ev, mPar3_ev, mSetL_ev, mNx_ev, mBk_ev, mCt_ev, mRetN_ev, mRaise_ev, m2_ev, mC_ev, mVar, mTst_ev, mTru_ev, mCh_ev, mIsN_ev, mAndT_ev, mOrT_ev, mNotT_ev, mAndV_ev, mOrV_ev, mNotV_ev, mIfE_ev, mNeg_ev, mNil_ev, mCons_ev, mTup_ev, mLst_ev, mCall_ev, mIsi_ev, mApp_ev, mAllWh_ev, mSl_ev, mNoP_ev, mPart_ev, mFor_ev, mItA_ev, mItE_ev, mLc_ev, mYes_ev, add_ev, sub_ev, lt_ev, le_ev, gt_ev, ge_ev, eqi_ev, eqs_ev, eqb_ev, eqn_ev, nei_ev, nes_ev, lenT_ev, abs_ev, int_ev, intb_ev, setl, setLO, bindG, mgName, mgTup, mgCons, mgNil, ixT0, ixT1, ixT2, rt, e])
  obtain ⟨bs, rfl, bk, bz⟩ := all2_bt al5
  obtain ⟨S5, u5', rfl⟩ := up_app (h.up us).lt.1 u5
  have bl : bs.length = vs.length := by rw [← bk]; simp
  refine ⟨t, bs, S5, t1, by omega, ⟨by rw [bk]; exact v1, by rw [bk]; exact ht⟩, bz, us.trans u5', ?_⟩
  have g : ∀ F : Sto, gcS S.length [.tup (bs.map (brT t))] (S5 ++ F) = S5 := fun F => gc_up h (us.trans u5') (by show clos 0 (bs.map (brT t)) = true; exact clos_brT bs)
  have g' := g ([.lst (vs.map PV.int)] ++ [.lst (bs.map (brT t))])
  rw [← List.append_assoc] at g'
  have itO : itOf (.cell S1.length) (S4 ++ [.lst (vs.map PV.int)]) = some ⟨vs.map PV.int, [(S1.length, .lst (vs.map PV.int))]⟩ := by simp only [itOf, g4]
  have tp : tupleM [.cell (S4 ++ [MO.lst (vs.map PV.int)]).length] (S5 ++ [.lst (vs.map PV.int)] ++ [.lst (bs.map (brT t))]) = .ok (.tup (bs.map (brT t))) (S5 ++ [.lst (vs.map PV.int)] ++ [.lst (bs.map (brT t))]) := by
    have : (S5 ++ [MO.lst (vs.map PV.int)] ++ [.lst (bs.map (brT t))])[(S4 ++ [MO.lst (vs.map PV.int)]).length]? = some (.lst (bs.map (brT t))) := by
      have : (S4 ++ [MO.lst (vs.map PV.int)]).length = (S5 ++ [MO.lst (vs.map PV.int)]).length := by simp [u5'.len]
      rw [this]; simp
    simp only [tupleM, this]
  rw [show S3.length = S1.length by omega] at e4
  unfold brB at e4
  generalize S5 ++ [MO.lst (vs.map PV.int)] ++ [.lst (bs.map (brT t))] = T5 at e5 tp g'
  generalize S4 ++ [MO.lst (vs.map PV.int)] = T4 at e4 e5 itO tp sm
  generalize S3 ++ [MO.lst (ws.map PV.int)] = T3 at e3 e4
  generalize S2 ++ [MO.lst (ws.map PV.int)] = T2 at e2 e3
  unfold m_l_branches
  by_cases k1 : d1 = 1
  · rw [if_pos k1] at hc
    subst hc
    simp -implicitDefEqProofs [callD_ev, mSeq_ev, mIf_ev, mRet_ev, mExp_ev, mAsgN_ev, mAsg_ev, mPar_ev, mPar3_ev, mSetL_ev, mNx_ev, mBk_ev, mCt_ev, mRetN_ev, mRaise_ev, m2_ev, mC_ev, mVar, mTst_ev, mTru_ev, mCh_ev, mIsN_ev, mAndT_ev, mOrT_ev, mNotT_ev, mAndV_ev, mOrV_ev, mNotV_ev, mIfE_ev, mNeg_ev, mNil_ev, mCons_ev, mTup_ev, mLst_ev, mCall_ev, mIsi_ev, mApp_ev, mAllWh_ev, mSl_ev, mNoP_ev, mPart_ev, mFor_ev, mItA_ev, mItE_ev, mLc_ev, mYes_ev, add_ev, sub_ev, lt_ev, le_ev, gt_ev, ge_ev, eqi_ev, eqs_ev, eqb_ev, eqn_ev, nei_ev, nes_ev, lenT_ev, abs_ev, int_ev, intb_ev, setl, setLO, bindG, mgName, mgTup, mgCons, mgNil, ixT0, ixT1, ixT2, e0, e1, k1, rg, e2, e3, rq, e4, sm, itO, e5, tp, g']
  · rw [if_neg k1] at hc
    subst hc
    simp -implicitDefEqProofs [callD_ev, mSeq_ev, mIf_ev, mRet_ev, mExp_ev, mAsgN_ev, mAsg_ev, mPar_ev, mPar3_ev, mSetL_ev, mNx_ev, mBk_ev, mCt_ev, mRetN_ev, mRaise_ev, m2_ev, mC_ev, mVar, mTst_ev, mTru_ev, mCh_ev, mIsN_ev, mAndT_ev, mOrT_ev, mNotT_ev, mAndV_ev, mOrV_ev, mNotV_ev, mIfE_ev, mNeg_ev, mNil_ev, mCons_ev, mTup_ev, mLst_ev, mCall_ev, mIsi_ev, mApp_ev, mAllWh_ev, mSl_ev, mNoP_ev, mPart_ev, mFor_ev, mItA_ev, mItE_ev, mLc_ev, mYes_ev, add_ev, sub_ev, lt_ev, le_ev, gt_ev, ge_ev, eqi_ev, eqs_ev, eqb_ev, eqn_ev, nei_ev, nes_ev, lenT_ev, abs_ev, int_ev, intb_ev, setl, setLO, bindG, mgName, mgTup, mgCons, mgNil, ixT0, ixT1, ixT2, e0, e1, k1, rg, e2, e3, rq, e4, sm, itO, e5, tp, g']
theorem lend_ev {es : List Int} {e z : Int} (h : Dst ns s l S) (he : 0 ≤ e ∧ e ≤ 3) : ∃ pt S', PtOk es e z pt ∧ Up s l S S' ∧ m_l_end [.cell s, .int e] S = .ok pt S' := by
  obtain ⟨d0, S0, a0, b0, h0, u0, e0⟩ := h.nx (m := 6) (by decide) (by decide)
  have fin : ¬ (0 < e ∧ d0 < 4) → ∃ pt S', PtOk es e z pt ∧ Up s l S S' ∧ m_l_end [.cell s, .int e] S = .ok pt S' := fun hn => by
    obtain ⟨b, hb, bb⟩ : ∃ b : Int, Builtin.bitAnd d0 1 = b ∧ (b = 0 ∨ b = 1) := by
      obtain rfl | rfl | rfl | rfl | rfl | rfl : d0 = 0 ∨ d0 = 1 ∨ d0 = 2 ∨ d0 = 3 ∨ d0 = 4 ∨ d0 = 5 := by omega
      · exact ⟨0, rfl, .inl rfl⟩
      · exact ⟨1, rfl, .inr rfl⟩
      · exact ⟨0, rfl, .inl rfl⟩
      · exact ⟨1, rfl, .inr rfl⟩
      · exact ⟨0, rfl, .inl rfl⟩
      · exact ⟨1, rfl, .inr rfl⟩
    have bn : ∀ T, bandM (.int d0) (.int 1) T = .ok (.int b) T := fun T => by simp only [bandM, hb]
    have gl : (S0 ++ [MO.lst [.tup [.str "reject"], .tup [.str "stop"]]])[S0.length]? = some (.lst [.tup [.str "reject"], .tup [.str "stop"]]) := by simp
    have gc : ∀ x : PV, clo 0 x = true → gcS S.length [x] (S0 ++ [.lst [.tup [.str "reject"], .tup [.str "stop"]]]) = S0 := fun x hx => gc_up h u0 hx
    have cr := gc (.tup [.str "reject"]) rfl
    have cs := gc (.tup [.str "stop"]) rfl
    rcases bb with rfl | rfl
    · have i1 : ixM (.cell S0.length) (.int 0) (S0 ++ [MO.lst [.tup [.str "reject"], .tup [.str "stop"]]]) = .ok (.tup [.str "reject"]) (S0 ++ [MO.lst [.tup [.str "reject"], .tup [.str "stop"]]]) := ixC_ev gl rfl
      refine ⟨_, S0, .inr (.inr (.inr (.inr (.inr (.inl rfl))))), u0, ?_⟩
      unfold m_l_end
      by_cases c1 : 0 < e
      · have c2 : ¬ d0 < 4 := fun q => hn ⟨c1, q⟩
        simp -implicitDefEqProofs [callD_ev, mSeq_ev, mIf_ev, mRet_ev, mExp_ev, mAsgN_ev, mAsg_ev, mPar_ev, mPar3_ev, mSetL_ev, mNx_ev, mBk_ev, mCt_ev, mRetN_ev, mRaise_ev, m2_ev, mC_ev, mVar, mTst_ev, mTru_ev, mCh_ev, mIsN_ev, mAndT_ev, mOrT_ev, mNotT_ev, mAndV_ev, mOrV_ev, mNotV_ev, mIfE_ev, mNeg_ev, mNil_ev, mCons_ev, mTup_ev, mLst_ev, mCall_ev, mIsi_ev, mApp_ev, mAllWh_ev, mSl_ev, mNoP_ev, mPart_ev, mFor_ev, mItA_ev, mItE_ev, mLc_ev, mYes_ev, add_ev, sub_ev, lt_ev, le_ev, gt_ev, ge_ev, eqi_ev, eqs_ev, eqb_ev, eqn_ev, nei_ev, nes_ev, lenT_ev, abs_ev, int_ev, intb_ev, setl, setLO, bindG, mgName, mgTup, mgCons, mgNil, ixT0, ixT1, ixT2, e0, c1, c2, bn, i1, cr]
      · simp -implicitDefEqProofs [callD_ev, mSeq_ev, mIf_ev, mRet_ev, mExp_ev, mAsgN_ev, mAsg_ev, mPar_ev, mPar3_ev, mSetL_ev, mNx_ev, mBk_ev, mCt_ev, mRetN_ev, mRaise_ev, m2_ev, mC_ev, mVar, mTst_ev, mTru_ev, mCh_ev, mIsN_ev, mAndT_ev, mOrT_ev, mNotT_ev, mAndV_ev, mOrV_ev, mNotV_ev, mIfE_ev, mNeg_ev, mNil_ev, mCons_ev, mTup_ev, mLst_ev, mCall_ev, mIsi_ev, mApp_ev, mAllWh_ev, mSl_ev, mNoP_ev, mPart_ev, mFor_ev, mItA_ev, mItE_ev, mLc_ev, mYes_ev, add_ev, sub_ev, lt_ev, le_ev, gt_ev, ge_ev, eqi_ev, eqs_ev, eqb_ev, eqn_ev, nei_ev, nes_ev, lenT_ev, abs_ev, int_ev, intb_ev, setl, setLO, bindG, mgName, mgTup, mgCons, mgNil, ixT0, ixT1, ixT2, e0, c1, bn, i1, cr]
    · have i1 : ixM (.cell S0.length) (.int 1) (S0 ++ [MO.lst [.tup [.str "reject"], .tup [.str "stop"]]]) = .ok (.tup [.str "stop"]) (S0 ++ [MO.lst [.tup [.str "reject"], .tup [.str "stop"]]]) := ixC_ev gl rfl
      refine ⟨_, S0, .inr (.inr (.inr (.inr (.inr (.inr rfl))))), u0, ?_⟩
      unfold m_l_end
      by_cases c1 : 0 < e
      · have c2 : ¬ d0 < 4 := fun q => hn ⟨c1, q⟩
        simp -implicitDefEqProofs [callD_ev, mSeq_ev, mIf_ev, mRet_ev, mExp_ev, mAsgN_ev, mAsg_ev, mPar_ev, mPar3_ev, mSetL_ev, mNx_ev, mBk_ev, mCt_ev, mRetN_ev, mRaise_ev, m2_ev, mC_ev, mVar, mTst_ev, mTru_ev, mCh_ev, mIsN_ev, mAndT_ev, mOrT_ev, mNotT_ev, mAndV_ev, mOrV_ev, mNotV_ev, mIfE_ev, mNeg_ev, mNil_ev, mCons_ev, mTup_ev, mLst_ev, mCall_ev, mIsi_ev, mApp_ev, mAllWh_ev, mSl_ev, mNoP_ev, mPart_ev, mFor_ev, mItA_ev, mItE_ev, mLc_ev, mYes_ev, add_ev, sub_ev, lt_ev, le_ev, gt_ev, ge_ev, eqi_ev, eqs_ev, eqb_ev, eqn_ev, nei_ev, nes_ev, lenT_ev, abs_ev, int_ev, intb_ev, setl, setLO, bindG, mgName, mgTup, mgCons, mgNil, ixT0, ixT1, ixT2, e0, c1, c2, bn, i1, cs]
      · simp -implicitDefEqProofs [callD_ev, mSeq_ev, mIf_ev, mRet_ev, mExp_ev, mAsgN_ev, mAsg_ev, mPar_ev, mPar3_ev, mSetL_ev, mNx_ev, mBk_ev, mCt_ev, mRetN_ev, mRaise_ev, m2_ev, mC_ev, mVar, mTst_ev, mTru_ev, mCh_ev, mIsN_ev, mAndT_ev, mOrT_ev, mNotT_ev, mAndV_ev, mOrV_ev, mNotV_ev, mIfE_ev, mNeg_ev, mNil_ev, mCons_ev, mTup_ev, mLst_ev, mCall_ev, mIsi_ev, mApp_ev, mAllWh_ev, mSl_ev, mNoP_ev, mPart_ev, mFor_ev, mItA_ev, mItE_ev, mLc_ev, mYes_ev, add_ev, sub_ev, lt_ev, le_ev, gt_ev, ge_ev, eqi_ev, eqs_ev, eqb_ev, eqn_ev, nei_ev, nes_ev, lenT_ev, abs_ev, int_ev, intb_ev, setl, setLO, bindG, mgName, mgTup, mgCons, mgNil, ixT0, ixT1, ixT2, e0, c1, bn, i1, cs]
  by_cases c : 0 < e ∧ d0 < 4
  · obtain ⟨c1, c2⟩ := c
    obtain ⟨d1, S1, a1, b1, h1, u1, e1⟩ := h0.nx (m := e) c1 (log_b (b := 10) (by omega))
    refine ⟨.tup [.str "exit", .int d1], S1, .inr (.inr (.inr (.inl ⟨d1, rfl, a1, b1⟩))), u0.trans u1, ?_⟩
    have g : gcS S.length [.tup [.str "exit", .int d1]] S1 = S1 := gc_up0 h (u0.trans u1) rfl
    unfold m_l_end
    simp -implicitDefEqProofs [callD_ev, mSeq_ev, mIf_ev, mRet_ev, mExp_ev, mAsgN_ev, mAsg_ev, mPar_ev, mPar3_ev, mSetL_ev, mNx_ev, mBk_ev, mCt_ev, mRetN_ev, mRaise_ev, m2_ev, mC_ev, mVar, mTst_ev, mTru_ev, mCh_ev, mIsN_ev, mAndT_ev, mOrT_ev, mNotT_ev, mAndV_ev, mOrV_ev, mNotV_ev, mIfE_ev, mNeg_ev, mNil_ev, mCons_ev, mTup_ev, mLst_ev, mCall_ev, mIsi_ev, mApp_ev, mAllWh_ev, mSl_ev, mNoP_ev, mPart_ev, mFor_ev, mItA_ev, mItE_ev, mLc_ev, mYes_ev, add_ev, sub_ev, lt_ev, le_ev, gt_ev, ge_ev, eqi_ev, eqs_ev, eqb_ev, eqn_ev, nei_ev, nes_ev, lenT_ev, abs_ev, int_ev, intb_ev, setl, setLO, bindG, mgName, mgTup, mgCons, mgNil, ixT0, ixT1, ixT2, e0, c1, c2, e1, g]
  · exact fin c
end

def cP (c : Nat × Int) : PV := .tup [.int (c.1 : Nat), .int c.2]
def CsOk (es : List Int) (cs : List (Nat × Int)) : Prop := ∀ c ∈ cs, es[c.1]? = some c.2 ∧ 0 ≤ c.2 ∧ c.2 ≤ 3
section
variable {ns : List Int} {s l : Nat} {S : Sto}
theorem nx2_step {z : Int} (hz : 1 ≤ z ∧ z ≤ 100) {i : Nat} {ρ : PSt} (h0 : ρ[0]? = some (some (.cell s))) (h5 : ρ[2]? = some (some (.int z))) (hi : i ≠ 0 ∧ i ≠ 2) {T0 : Sto} (x : PV) : ∀ T', Dst ns s l T' → (∀ j, j < T0.length → j ≠ s → T'[j]? = T0[j]?) →
    ∃ y T'', (fun _ y => ∃ t, 0 ≤ t ∧ t < z ∧ y = .int t) x y ∧ Up s l T' T'' ∧ (mApp 2 m_l_next (mCons (mVar 0) (mCons (mVar 2) mNil))) (ρ.set i (some x)) T' = .ok y T'' := fun T' h _ => by
  obtain ⟨d, T2, a, b, _, u, e⟩ := h.nx (m := z) (by omega) (log_b (b := 10) (by omega))
  have q0 : (ρ.set i (some x))[0]? = some (some (.cell s)) := by rw [List.getElem?_set_ne hi.1]; exact h0
  have q5 : (ρ.set i (some x))[2]? = some (some (.int z)) := by rw [List.getElem?_set_ne hi.2]; exact h5
  exact ⟨.int d, T2, ⟨d, a, b, rfl⟩, u, by simp only [mApp_ev, mCons_ev, mNil_ev, mVar_ev q0, mVar_ev q5, bind_ok, List.length_cons, List.length_nil, if_true, e]⟩
theorem lpoint_ev {es : List Int} {cs : List (Nat × Int)} {cc : Nat} {b : Bool} {e z : Int} (h : Dst ns s l S) (hc : S[cc]? = some (.lst (cs.map cP))) (n1 : cc ≠ s) (co : CsOk es cs) (cl : cs.length ≤ 10) (e0 : 0 ≤ e ∧ e ≤ 3) (z0 : 1 ≤ z ∧ z ≤ 16) :
    ∃ pt S', PtOk es e z pt ∧ Up s l S S' ∧ m_l_point [.cell s, .int e, .int z, .cell cc, .bl b] S = .ok pt S' := by
  obtain ⟨d0, S0, a0, b0, h0, u0, e0'⟩ := h.nx (m := 10) (by decide) (by decide)
  have c0 : S0[cc]? = some (.lst (cs.map cP)) := by rw [u0.at n1]; exact hc
  have tr : truthM (.cell cc) S0 = some (!cs.isEmpty) := by
    simp only [truthM, c0]
    cases cs <;> rfl
  by_cases k0 : d0 < 2
  · obtain ⟨pt, S1, p1, p2, p3⟩ := lend_ev (es := es) (z := z) h0 e0
    have g := gc_up0 h (u0.trans p2) p1.clo
    refine ⟨pt, S1, p1, u0.trans p2, ?_⟩
    unfold m_l_point
    simp -implicitDefEqProofs [callD_ev, mSeq_ev, mIf_ev, mRet_ev, mExp_ev, mAsgN_ev, mAsg_ev, mPar_ev, mPar3_ev, mSetL_ev, mNx_ev, mBk_ev, mCt_ev, mRetN_ev, mRaise_ev, m2_ev, mC_ev, mVar, mTst_ev, mTru_ev, mCh_ev, mIsN_ev, mAndT_ev, mOrT_ev, mNotT_ev, mAndV_ev, mOrV_ev, mNotV_ev, mIfE_ev, mNeg_ev, mNil_ev, mCons_ev, mTup_ev, mLst_ev, mCall_ev, mIsi_ev, mApp_ev, mAllWh_ev, mSl_ev, mNoP_ev, mPart_ev, mFor_ev, mItA_ev, mItE_ev, mLc_ev, mYes_ev, add_ev, sub_ev, lt_ev, le_ev, gt_ev, ge_ev, eqi_ev, eqs_ev, eqb_ev, eqn_ev, nei_ev, nes_ev, lenT_ev, abs_ev, int_ev, intb_ev, setl, setLO, bindG, mgName, mgTup, mgCons, mgNil, ixT0, ixT1, ixT2, e0', k0, p3, g]
  · by_cases k1 : d0 = 2
    · subst k1
      obtain ⟨d1, S1, a1, b1, h1, u1, e1⟩ := h0.nx (m := 12) (by decide) (by decide)
      obtain ⟨d2, S2, a2, b2, h2, u2, e2⟩ := h1.nx (m := 4) (by decide) (by decide)
      obtain ⟨d3, S3, a3, b3, h3, u3, e3⟩ := h2.nx (m := z) (by omega) (log_b (b := 10) (by omega))
      have us := ((u0.trans u1).trans u2).trans u3
      obtain ⟨q1, q2, q3, q4⟩ := amt_q (n := d1) (d := 1 + d2) (by omega) (by omega)
      have lw := fun T => ratio2_ev (S := T) (n := d1) (d := 1 + d2) (by omega) (Odds.up 10 (by omega)) (Odds.up 10 (by omega))
      refine ⟨.tup [.str "reward", pq (lo1 d1 (1 + d2), lo2 d1 (1 + d2)), .int d3], S3, .inr (.inr (.inr (.inr (.inl ⟨_, d3, rfl, q1, lo_nrm (by omega), q2, q3, q4, a3, b3⟩)))), us, ?_⟩
      have g : gcS S.length [.tup [.str "reward", pq (lo1 d1 (1 + d2), lo2 d1 (1 + d2)), .int d3]] S3 = S3 := gc_up0 h us rfl
      generalize pq (lo1 d1 (1 + d2), lo2 d1 (1 + d2)) = am at lw g
      unfold m_l_point
      simp -implicitDefEqProofs [callD_ev, mSeq_ev, mIf_ev, mRet_ev, mExp_ev, mAsgN_ev, mAsg_ev, mPar_ev, mPar3_ev, mSetL_ev, mNx_ev, mBk_ev, mCt_ev, mRetN_ev, mRaise_ev, m2_ev, mC_ev, mVar, mTst_ev, mTru_ev, mCh_ev, mIsN_ev, mAndT_ev, mOrT_ev, mNotT_ev, mAndV_ev, mOrV_ev, mNotV_ev, mIfE_ev, mNeg_ev, mNil_ev, mCons_ev, mTup_ev, mLst_ev, mCall_ev, mIsi_ev, mApp_ev, mAllWh_ev, mSl_ev, mNoP_ev, mPart_ev, mFor_ev, mItA_ev, mItE_ev, mLc_ev, mYes_ev, add_ev, sub_ev, lt_ev, le_ev, gt_ev, ge_ev, eqi_ev, eqs_ev, eqb_ev, eqn_ev, nei_ev, nes_ev, lenT_ev, abs_ev, int_ev, intb_ev, setl, setLO, bindG, mgName, mgTup, mgCons, mgNil, ixT0, ixT1, ixT2, e0', e1, e2, lw, e3, g]
    · by_cases k2 : d0 < 5 ∧ cs.isEmpty = false
      · obtain ⟨k2, k3⟩ := k2
        have cpos : 0 < cs.length := by cases cs <;> simp_all
        have ln : lenM [.cell cc] S0 = .ok (.int (cs.length : Nat)) S0 := by have := lenC_ev c0; simpa using this
        obtain ⟨d1, S1, a1, b1, h1, u1, e1⟩ := h0.nx (m := (cs.length : Int)) (by omega) (log_b (b := 10) (by omega))
        obtain ⟨j, rfl⟩ : ∃ j : Nat, (j : Int) = d1 := ⟨d1.toNat, by omega⟩
        obtain ⟨c, hj⟩ : ∃ c, cs[j]? = some c := ⟨_, List.getElem?_eq_getElem (by omega)⟩
        obtain ⟨o1, o2, o3⟩ := co c (List.mem_of_getElem? hj)
        have c1 : S1[cc]? = some (.lst (cs.map cP)) := by rw [u1.at n1]; exact c0
        have ix : ixM (.cell cc) (.int (j : Nat)) S1 = .ok (.tup [.int (c.1 : Nat), .int c.2]) S1 := ixC_ev c1 (atP_nat (by rw [List.getElem?_map, hj]; rfl))
        obtain ⟨r, hr, rg⟩ : ∃ r : Nat, ((r : Nat) : Int) = c.2 ∧ ∀ T, rng1 [.int c.2] T = .ok ⟨rngP 0 r, []⟩ T := ⟨c.2.toNat, by omega, fun T => rng1_ev ⟨by omega, by omega⟩⟩
        obtain ⟨ys, T, u3, al, e3⟩ := lc_draw (i := 8) (ρ := [some (.cell s), some (.int e), some (.int z), some (.cell cc), some (.bl b), some (.int d0), some (.int (c.1 : Nat)), some (.int c.2), none]) (P := fun _ y => ∃ t, 0 ≤ t ∧ t < z ∧ y = .int t)
          (fun x y ⟨t, _, _, ey⟩ => by rw [ey]; rfl) (rngP 0 r) h1 (by simp; omega) fun x hx => nx2_step (by omega) rfl rfl (by decide) x
        obtain ⟨ts, rfl, tl, tz⟩ := all2_ints al
        rw [rngP_len] at tl
        have us := (u0.trans u1).trans u3
        refine ⟨.tup [.str "call", .int (c.1 : Nat), .tup (ts.map PV.int)], T, .inr (.inr (.inl ⟨c.1, ts, rfl, by rw [o1, tl, hr], tz⟩)), us, ?_⟩
        have g : gcS S.length [.tup [.str "call", .int (c.1 : Nat), .tup (ts.map PV.int)]] (T ++ [.lst (ts.map PV.int)]) = T := gc_up h us (by show (true && (true && ((clos 0 (ts.map PV.int)) && true))) = true; rw [clo_ints]; rfl)
        have tp : tupleM [.cell S1.length] (T ++ [.lst (ts.map PV.int)]) = .ok (.tup (ts.map PV.int)) (T ++ [.lst (ts.map PV.int)]) := by
          have : (T ++ [MO.lst (ts.map PV.int)])[S1.length]? = some (.lst (ts.map PV.int)) := by rw [← u3.len]; simp
          simp only [tupleM, this]
        rw [k3] at tr
        have tr : truthM (.cell cc) S0 = some true := tr
        generalize T ++ [MO.lst (ts.map PV.int)] = T3 at e3 tp g
        unfold m_l_point
        simp -implicitDefEqProofs [callD_ev, mSeq_ev, mIf_ev, mRet_ev, mExp_ev, mAsgN_ev, mAsg_ev, mPar_ev, mPar3_ev, mSetL_ev, mNx_ev, mBk_ev, mCt_ev, mRetN_ev, mRaise_ev, m2_ev, mC_ev, mVar, mTst_ev, mTru_ev, mCh_ev, mIsN_ev, mAndT_ev, mOrT_ev, mNotT_ev, mAndV_ev, mOrV_ev, mNotV_ev, mIfE_ev, mNeg_ev, mNil_ev, mCons_ev, mTup_ev, mLst_ev, mCall_ev, mIsi_ev, mApp_ev, mAllWh_ev, mSl_ev, mNoP_ev, mPart_ev, mFor_ev, mItA_ev, mItE_ev, mLc_ev, mYes_ev, add_ev, sub_ev, lt_ev, le_ev, gt_ev, ge_ev, eqi_ev, eqs_ev, eqb_ev, eqn_ev, nei_ev, nes_ev, lenT_ev, abs_ev, int_ev, intb_ev, setl, setLO, bindG, mgName, mgTup, mgCons, mgNil, ixT0, ixT1, ixT2, setl, e0', k0, k1, k2, tr, ln, e1, ix, rg, e3, tp, g]
      · -- no call: a choice or a draw
        have tail : ∀ (P : ∃ pt S', PtOk es e z pt ∧ Up s l S S' ∧ m_l_point [.cell s, .int e, .int z, .cell cc, .bl b] S = .ok pt S'), ∃ pt S', PtOk es e z pt ∧ Up s l S S' ∧ m_l_point [.cell s, .int e, .int z, .cell cc, .bl b] S = .ok pt S' := fun P => P
        by_cases k4 : d0 < 8 ∧ b = true
        · obtain ⟨k4, rfl⟩ := k4
          obtain ⟨d1, S1, a1, b1, h1, u1, e1⟩ := h0.nx (m := 4) (by decide) (by decide)
          obtain ⟨r, hr, rg⟩ : ∃ r : Nat, ((r : Nat) : Int) = 1 + d1 ∧ ∀ T, rng1 [.int (1 + d1)] T = .ok ⟨rngP 0 r, []⟩ T := ⟨(1 + d1).toNat, by omega, fun T => rng1_ev ⟨by omega, by omega⟩⟩
          obtain ⟨ys, T, u3, al, e3⟩ := lc_draw (i := 8) (ρ := [some (.cell s), some (.int e), some (.int z), some (.cell cc), some (.bl true), some (.int d0), none, none, none]) (P := fun _ y => ∃ t, 0 ≤ t ∧ t < z ∧ y = .int t)
            (fun x y ⟨t, _, _, ey⟩ => by rw [ey]; rfl) (rngP 0 r) h1 (by simp; omega) fun x hx => nx2_step (by omega) rfl rfl (by decide) x
          obtain ⟨ts, rfl, tl, tz⟩ := all2_ints al
          rw [rngP_len] at tl
          have us := (u0.trans u1).trans u3
          refine ⟨.tup [.str "choose", .tup (ts.map PV.int)], T, .inr (.inl ⟨ts, rfl, by omega, by omega, tz⟩), us, ?_⟩
          have g : gcS S.length [.tup [.str "choose", .tup (ts.map PV.int)]] (T ++ [.lst (ts.map PV.int)]) = T := gc_up h us (by show (true && ((clos 0 (ts.map PV.int)) && true)) = true; rw [clo_ints]; rfl)
          have tp : tupleM [.cell S1.length] (T ++ [.lst (ts.map PV.int)]) = .ok (.tup (ts.map PV.int)) (T ++ [.lst (ts.map PV.int)]) := by
            have : (T ++ [MO.lst (ts.map PV.int)])[S1.length]? = some (.lst (ts.map PV.int)) := by rw [← u3.len]; simp
            simp only [tupleM, this]
          generalize T ++ [MO.lst (ts.map PV.int)] = T3 at e3 tp g
          unfold m_l_point
          by_cases k5 : d0 < 5
          · have k6 : cs.isEmpty = true := by cases q : cs.isEmpty with
              | true => rfl
              | false => exact absurd ⟨k5, q⟩ k2
            rw [k6] at tr
            have tr : truthM (.cell cc) S0 = some false := tr
            have tb : ∀ b T, truthM (.bl b) T = some b := fun _ _ => rfl
            simp -implicitDefEqProofs [callD_ev, mSeq_ev, mIf_ev, mRet_ev, mExp_ev, mAsgN_ev, mAsg_ev, mPar_ev, mPar3_ev, mSetL_ev, mNx_ev, mBk_ev, mCt_ev, mRetN_ev, mRaise_ev, m2_ev, mC_ev, mVar, mTst_ev, mTru_ev, mCh_ev, mIsN_ev, mAndT_ev, mOrT_ev, mNotT_ev, mAndV_ev, mOrV_ev, mNotV_ev, mIfE_ev, mNeg_ev, mNil_ev, mCons_ev, mTup_ev, mLst_ev, mCall_ev, mIsi_ev, mApp_ev, mAllWh_ev, mSl_ev, mNoP_ev, mPart_ev, mFor_ev, mItA_ev, mItE_ev, mLc_ev, mYes_ev, add_ev, sub_ev, lt_ev, le_ev, gt_ev, ge_ev, eqi_ev, eqs_ev, eqb_ev, eqn_ev, nei_ev, nes_ev, lenT_ev, abs_ev, int_ev, intb_ev, setl, setLO, bindG, mgName, mgTup, mgCons, mgNil, ixT0, ixT1, ixT2, e0', k0, k1, k5, k4, tr, tb, e1, rg, e3, tp, g]
          · simp -implicitDefEqProofs [callD_ev, mSeq_ev, mIf_ev, mRet_ev, mExp_ev, mAsgN_ev, mAsg_ev, mPar_ev, mPar3_ev, mSetL_ev, mNx_ev, mBk_ev, mCt_ev, mRetN_ev, mRaise_ev, m2_ev, mC_ev, mVar, mTst_ev, mTru_ev, mCh_ev, mIsN_ev, mAndT_ev, mOrT_ev, mNotT_ev, mAndV_ev, mOrV_ev, mNotV_ev, mIfE_ev, mNeg_ev, mNil_ev, mCons_ev, mTup_ev, mLst_ev, mCall_ev, mIsi_ev, mApp_ev, mAllWh_ev, mSl_ev, mNoP_ev, mPart_ev, mFor_ev, mItA_ev, mItE_ev, mLc_ev, mYes_ev, add_ev, sub_ev, lt_ev, le_ev, gt_ev, ge_ev, eqi_ev, eqs_ev, eqb_ev, eqn_ev, nei_ev, nes_ev, lenT_ev, abs_ev, int_ev, intb_ev, setl, setLO, bindG, mgName, mgTup, mgCons, mgNil, ixT0, ixT1, ixT2, e0', k0, k1, k5, k4, truthM, e1, rg, e3, tp, g]
        · obtain ⟨t, bs, S1, q1, q2, q3, q4, u1, q5⟩ := lbranches_ev h0 (z := z) (by omega)
          have us := u0.trans u1
          refine ⟨.tup [.str "draw", .tup (bs.map (brT t))], S1, .inl ⟨t, bs, rfl, q1, q2, q3, q4⟩, us, ?_⟩
          have g : gcS S.length [.tup [.str "draw", .tup (bs.map (brT t))]] S1 = S1 := gc_up0 h us (by show (true && ((clos 0 (bs.map (brT t))) && true)) = true; rw [clos_brT]; rfl)
          have k7 : d0 < 8 → b = false := fun q => by cases b <;> simp_all
          unfold m_l_point
          by_cases k5 : d0 < 5
          · have k6 : cs.isEmpty = true := by cases q : cs.isEmpty with
              | true => rfl
              | false => exact absurd ⟨k5, q⟩ k2
            have k8 : d0 < 8 := by omega
            have := k7 k8
            subst this
            rw [k6] at tr
            have tr : truthM (.cell cc) S0 = some false := tr
            have tb : ∀ b T, truthM (.bl b) T = some b := fun _ _ => rfl
            simp -implicitDefEqProofs [callD_ev, mSeq_ev, mIf_ev, mRet_ev, mExp_ev, mAsgN_ev, mAsg_ev, mPar_ev, mPar3_ev, mSetL_ev, mNx_ev, mBk_ev, mCt_ev, mRetN_ev, mRaise_ev, m2_ev, mC_ev, mVar, mTst_ev, mTru_ev, mCh_ev, mIsN_ev, mAndT_ev, mOrT_ev, mNotT_ev, mAndV_ev, mOrV_ev, mNotV_ev, mIfE_ev, mNeg_ev, mNil_ev, mCons_ev, mTup_ev, mLst_ev, mCall_ev, mIsi_ev, mApp_ev, mAllWh_ev, mSl_ev, mNoP_ev, mPart_ev, mFor_ev, mItA_ev, mItE_ev, mLc_ev, mYes_ev, add_ev, sub_ev, lt_ev, le_ev, gt_ev, ge_ev, eqi_ev, eqs_ev, eqb_ev, eqn_ev, nei_ev, nes_ev, lenT_ev, abs_ev, int_ev, intb_ev, setl, setLO, bindG, mgName, mgTup, mgCons, mgNil, ixT0, ixT1, ixT2, e0', k0, k1, k5, k8, tr, tb, q5, g]
          · by_cases k8 : d0 < 8
            · have := k7 k8
              subst this
              simp -implicitDefEqProofs [callD_ev, mSeq_ev, mIf_ev, mRet_ev, mExp_ev, mAsgN_ev, mAsg_ev, mPar_ev, mPar3_ev, mSetL_ev, mNx_ev, mBk_ev, mCt_ev, mRetN_ev, mRaise_ev, m2_ev, mC_ev, mVar, mTst_ev, mTru_ev, mCh_ev, mIsN_ev, mAndT_ev, mOrT_ev, mNotT_ev, mAndV_ev, mOrV_ev, mNotV_ev, mIfE_ev, mNeg_ev, mNil_ev, mCons_ev, mTup_ev, mLst_ev, mCall_ev, mIsi_ev, mApp_ev, mAllWh_ev, mSl_ev, mNoP_ev, mPart_ev, mFor_ev, mItA_ev, mItE_ev, mLc_ev, mYes_ev, add_ev, sub_ev, lt_ev, le_ev, gt_ev, ge_ev, eqi_ev, eqs_ev, eqb_ev, eqn_ev, nei_ev, nes_ev, lenT_ev, abs_ev, int_ev, intb_ev, setl, setLO, bindG, mgName, mgTup, mgCons, mgNil, ixT0, ixT1, ixT2, e0', k0, k1, k5, k8, truthM, q5, g]
            · simp -implicitDefEqProofs [callD_ev, mSeq_ev, mIf_ev, mRet_ev, mExp_ev, mAsgN_ev, mAsg_ev, mPar_ev, mPar3_ev, mSetL_ev, mNx_ev, mBk_ev, mCt_ev, mRetN_ev, mRaise_ev, m2_ev, mC_ev, mVar, mTst_ev, mTru_ev, mCh_ev, mIsN_ev, mAndT_ev, mOrT_ev, mNotT_ev, mAndV_ev, mOrV_ev, mNotV_ev, mIfE_ev, mNeg_ev, mNil_ev, mCons_ev, mTup_ev, mLst_ev, mCall_ev, mIsi_ev, mApp_ev, mAllWh_ev, mSl_ev, mNoP_ev, mPart_ev, mFor_ev, mItA_ev, mItE_ev, mLc_ev, mYes_ev, add_ev, sub_ev, lt_ev, le_ev, gt_ev, ge_ev, eqi_ev, eqs_ev, eqb_ev, eqn_ev, nei_ev, nes_ev, lenT_ev, abs_ev, int_ev, intb_ev, setl, setLO, bindG, mgName, mgTup, mgCons, mgNil, ixT0, ixT1, ixT2, e0', k0, k1, k5, k8, truthM, q5, g]
theorem lprocedure_ev {es : List Int} {cs : List (Nat × Int)} {cc : Nat} {b : Bool} {e z : Int} (h : Dst ns s l S) (hc : S[cc]? = some (.lst (cs.map cP))) (n1 : cc ≠ s) (co : CsOk es cs) (cl : cs.length ≤ 10) (e0 : 0 ≤ e ∧ e ≤ 3) (z0 : 1 ≤ z ∧ z ≤ 16) :
    ∃ x S', x.1 = e ∧ (x.2.length : Int) = z ∧ RowOk es x ∧ Up s l S S' ∧ m_l_procedure [.cell s, .int e, .int z, .cell cc, .bl b] S = .ok (pp x) S' := by
  obtain ⟨r, hr, rg⟩ : ∃ r : Nat, ((r : Nat) : Int) = z - 1 ∧ ∀ T, rng1 [.int (z - 1)] T = .ok ⟨rngP 0 r, []⟩ T := ⟨(z - 1).toNat, by omega, fun T => rng1_ev ⟨by omega, by omega⟩⟩
  obtain ⟨ys, T, u1, al, e1⟩ := lc_draw (i := 6) (te := mApp 5 m_l_point (mCons (mVar 0) (mCons (mVar 1) (mCons (mVar 2) (mCons (mVar 3) (mCons (mVar 4) mNil)))))) (ρ := [some (.cell s), some (.int e), some (.int z), some (.cell cc), some (.bl b), none, none]) (P := fun _ y => PtOk es e z y) (fun _ y q => q.clo) (rngP 0 r) h (by simp; omega)
    (fun x hx T2 h2 k2 => by
      have b1 : T2[cc]? = some (.lst (cs.map cP)) := by rw [k2 cc (List.getElem?_eq_some_iff.mp hc).1 n1]; exact hc
      obtain ⟨pt, T3, p1, p2, p3⟩ := lpoint_ev (b := b) h2 b1 n1 co cl e0 z0
      refine ⟨pt, T3, p1, p2, ?_⟩
      simp -implicitDefEqProofs [callD_ev, mSeq_ev, mIf_ev, mRet_ev, mExp_ev, mAsgN_ev, mAsg_ev, mPar_ev, mPar3_ev, mSetL_ev, mNx_ev, mBk_ev, mCt_ev, mRetN_ev, mRaise_ev, m2_ev, mC_ev, mVar, mTst_ev, mTru_ev, mCh_ev, mIsN_ev, mAndT_ev, mOrT_ev, mNotT_ev, mAndV_ev, mOrV_ev, mNotV_ev, mIfE_ev, mNeg_ev, mNil_ev, mCons_ev, mTup_ev, mLst_ev, mCall_ev, mIsi_ev, mApp_ev, mAllWh_ev, mSl_ev, mNoP_ev, mPart_ev, mFor_ev, mItA_ev, mItE_ev, mLc_ev, mYes_ev, add_ev, sub_ev, lt_ev, le_ev, gt_ev, ge_ev, eqi_ev, eqs_ev, eqb_ev, eqn_ev, nei_ev, nes_ev, lenT_ev, abs_ev, int_ev, intb_ev, ixM, atP, ixN, setl, setLO, bindG, mgName, mgTup, mgCons, mgNil, p3])
  have yl : ys.length = r := by rw [al.len, rngP_len]
  have yo := all2_all al
  have lt := h.lt
  have h2 : Dst ns s l (T ++ [.lst ys]) := (h.up u1).app (show clos _ ys = true from clos_up (Nat.zero_le _) (clos_all fun y hy => (yo y hy).clo))
  obtain ⟨pt, T3', p1, p2, p3⟩ := lend_ev (es := es) (z := z) h2 e0
  obtain ⟨T3, u3, rfl⟩ := up_app (h.up u1).lt.1 p2
  have us := u1.trans u3
  have l3 := us.len
  have g3 : (T3 ++ [MO.lst ys])[S.length]? = some (.lst ys) := by rw [← l3]; simp
  have lq := lstQ_ev (show (T ++ [MO.lst ys])[S.length]? = some (.lst ys) by rw [← u1.len]; simp)
  have ap := append_ev (y := pt) g3 (Nat.lt_of_lt_of_le (by omega : ys.length < 1000) (by decide))
  rw [show (T3 ++ [MO.lst ys]).set S.length (.lst (ys ++ [pt])) = T3 ++ [.lst (ys ++ [pt])] by rw [← l3]; simp] at ap
  have tp : tupleM [.cell S.length] (T3 ++ [.lst (ys ++ [pt])]) = .ok (.tup (ys ++ [pt])) (T3 ++ [.lst (ys ++ [pt])]) := by
    have : (T3 ++ [MO.lst (ys ++ [pt])])[S.length]? = some (.lst (ys ++ [pt])) := by rw [← l3]; simp
    simp only [tupleM, this]
  have rowok : RowOk es (e, ys ++ [pt]) := fun q hq => by
    rw [show (((ys ++ [pt]).length : Nat) : Int) = z by simp; omega]
    rcases List.mem_append.mp hq with hq | hq
    · exact yo q hq
    · rw [List.mem_singleton.mp hq]; exact p1
  have g : gcS S.length [pp (e, ys ++ [pt])] (T3 ++ [.lst (ys ++ [pt])]) = T3 := gc_up h us (clo_pp fun q hq => (rowok q hq).clo)
  refine ⟨(e, ys ++ [pt]), T3, rfl, by simp; omega, rowok, us, ?_⟩
  unfold pp at g ⊢
  simp only at g ⊢
  generalize T3 ++ [MO.lst (ys ++ [pt])] = T5 at ap tp g
  generalize ys ++ [pt] = zs at tp g ⊢
  generalize T3 ++ [MO.lst ys] = T4 at p3 ap
  generalize T ++ [MO.lst ys] = T2 at e1 p3 lq
  unfold m_l_procedure
  simp -implicitDefEqProofs [callD_ev, mSeq_ev, mIf_ev, mRet_ev, mExp_ev, mAsgN_ev, mAsg_ev, mPar_ev, mPar3_ev, mSetL_ev, mNx_ev, mBk_ev, mCt_ev, mRetN_ev, mRaise_ev, m2_ev, mC_ev, mVar, mTst_ev, mTru_ev, mCh_ev, mIsN_ev, mAndT_ev, mOrT_ev, mNotT_ev, mAndV_ev, mOrV_ev, mNotV_ev, mIfE_ev, mNeg_ev, mNil_ev, mCons_ev, mTup_ev, mLst_ev, mCall_ev, mIsi_ev, mApp_ev, mAllWh_ev, mSl_ev, mNoP_ev, mPart_ev, mFor_ev, mItA_ev, mItE_ev, mLc_ev, mYes_ev, add_ev, sub_ev, lt_ev, le_ev, gt_ev, ge_ev, eqi_ev, eqs_ev, eqb_ev, eqn_ev, nei_ev, nes_ev, lenT_ev, abs_ev, int_ev, intb_ev, setl, setLO, bindG, mgName, mgTup, mgCons, mgNil, ixT0, ixT1, ixT2, rg, e1, mBM_ev, lq, p3, ap, tp, g]
end

def szP (x : Int × Int) : PV := .tup [.int x.1, .int x.2]
theorem clos_sz {n : Nat} : ∀ xs : List (Int × Int), clos n (xs.map szP) = true
  | [] => rfl
  | _ :: xs => by
    show (true && clos n (xs.map szP)) = true
    rw [clos_sz xs]; rfl
theorem clos_cP {n : Nat} : ∀ xs : List (Nat × Int), clos n (xs.map cP) = true
  | [] => rfl
  | _ :: xs => by
    show (true && clos n (xs.map cP)) = true
    rw [clos_cP xs]; rfl
def SzOk (xs : List (Int × Int)) : Prop := ∀ x ∈ xs, (0 ≤ x.1 ∧ x.1 ≤ 2) ∧ 1 ≤ x.2 ∧ x.2 ≤ 5
noncomputable def szB : MS := (mExp (mBM lstQ appendM (mVar 3) (mCons (mTup (mCons (mApp 2 m_l_next (mCons (mVar 0) (mCons (mC (PV.int 3)) mNil))) (mCons (m2 addM (mC (PV.int 1)) (mApp 2 m_l_next (mCons (mVar 0) (mCons (mC (PV.int 5)) mNil)))) mNil))) mNil)))
section
variable {ns : List Int} {s l : Nat} {S : Sto}
theorem sz_go {B1 B2 : PV} : ∀ (r : Nat) (i : Int) (xs : List (Int × Int)) (x4 : Option PV) {S : Sto}, Dst ns s l S → SzOk xs → xs.length + r ≤ 100 →
    ∃ xs' y4 S', forGo [] (mgName 4) szB (rngP i r) [some (.cell s), some B1, some B2, some (.cell S.length), x4, none, none, none] (S ++ [.lst (xs.map szP)]) =
      .nx [some (.cell s), some B1, some B2, some (.cell S.length), y4, none, none, none] (S' ++ [.lst (xs'.map szP)]) ∧ Up s l S S' ∧ SzOk xs' ∧ xs'.length = xs.length + r
  | 0, i, xs, x4, S, h, h1, _ => ⟨xs, x4, S, go_nil, Up.rfl h, h1, rfl⟩
  | r + 1, i, xs, x4, S, h, h1, h2 => by
    have hd : Dst ns s l (S ++ [.lst (xs.map szP)]) := h.app (clos_sz xs)
    have lt := h.lt
    obtain ⟨d, S2, a, b, hd2, u, e⟩ := hd.nx (m := 3) (by decide) (by decide)
    obtain ⟨f, S3, a', b', _, u', e'⟩ := hd2.nx (m := 5) (by decide) (by decide)
    obtain ⟨S1, u1, rfl⟩ := up_app lt.1 (u.trans u')
    have hl : S1.length = S.length := u1.len
    obtain ⟨xs', y4, S', e1, e2, e3, e4⟩ := sz_go (B1 := B1) (B2 := B2) r (i + 1) (xs ++ [(d, 1 + f)]) (some (.int i)) (h.up u1)
      (fun x hx => by
        rcases List.mem_append.mp hx with hx | hx
        · exact h1 x hx
        · rw [List.mem_singleton.mp hx]; exact ⟨⟨a, by show d ≤ 2; omega⟩, by show 1 ≤ 1 + f; omega, by show 1 + f ≤ 5; omega⟩) (by simp; omega)
    refine ⟨xs', y4, S', ?_, u1.trans e2, e3, by rw [e4]; simp; omega⟩
    rw [rngP_cons, go_consN, ← hl, ← e1]
    have g0 : (S ++ [MO.lst (xs.map szP)])[S1.length]? = some (.lst (xs.map szP)) := by rw [hl]; simp
    have lq := lstQ_ev g0
    have g1 : (S1 ++ [MO.lst (xs.map szP)])[S1.length]? = some (.lst (xs.map szP)) := by simp
    have ap := append_ev (y := szP (d, 1 + f)) g1 (Nat.lt_of_lt_of_le (by simp; omega : (xs.map szP).length < 1000) (by decide))
    rw [show (S1 ++ [MO.lst (xs.map szP)]).set S1.length (.lst (xs.map szP ++ [szP (d, 1 + f)])) = S1 ++ [.lst ((xs ++ [(d, 1 + f)]).map szP)] by simp] at ap
    have ap' : appendM (.cell S1.length) [.tup [.int d, .int (1 + f)]] (S1 ++ [MO.lst (xs.map szP)]) = .ok .non (S1 ++ [.lst ((xs ++ [(d, 1 + f)]).map szP)]) := ap
    have hb : szB ([some (.cell s), some B1, some B2, some (.cell S1.length), x4, none, none, none].set 4 (some (.int i))) (S ++ [.lst (xs.map szP)]) = .nx [some (.cell s), some B1, some B2, some (.cell S1.length), some (.int i), none, none, none] (S1 ++ [.lst ((xs ++ [(d, 1 + f)]).map szP)]) := by
      generalize S1 ++ [MO.lst ((xs ++ [(d, 1 + f)]).map szP)] = T3 at ap' ⊢
      generalize S1 ++ [MO.lst (xs.map szP)] = T2 at e' ap'
      generalize S ++ [MO.lst (xs.map szP)] = T at e lq ⊢
      unfold szB
      simp -implicitDefEqProofs [callD_ev, mSeq_ev, mIf_ev, mRet_ev, mExp_ev, mAsgN_ev, mAsg_ev, mPar_ev, mPar3_ev, mSetL_ev, mNx_ev, mBk_ev, mCt_ev, mRetN_ev, mRaise_ev, m2_ev, mC_ev, mVar, mTst_ev, mTru_ev, mCh_ev, mIsN_ev, mAndT_ev, mOrT_ev, mNotT_ev, mAndV_ev, mOrV_ev, mNotV_ev, mIfE_ev, mNeg_ev, mNil_ev, mCons_ev, mTup_ev, mLst_ev, mCall_ev, mIsi_ev, mApp_ev, mAllWh_ev, mSl_ev, mNoP_ev, mPart_ev, mFor_ev, mItA_ev, mItE_ev, mLc_ev, mYes_ev, add_ev, sub_ev, lt_ev, le_ev, gt_ev, ge_ev, eqi_ev, eqs_ev, eqb_ev, eqn_ev, nei_ev, nes_ev, lenT_ev, abs_ev, int_ev, intb_ev, setl, setLO, bindG, mgName, mgTup, mgCons, mgNil, ixT0, ixT1, ixT2, mBM_ev, lq, e, e', ap']
    rw [hb, loopE_nx]
noncomputable def clB : MS := (mIf (mOrT (mTru (mVar 2)) (mTst (m2 gtM (mVar 7) (mVar 4)))) (mExp (mBM lstQ appendM (mVar 6) (mCons (mTup (mCons (mVar 7) (mCons (m2 ixM (m2 ixM (mVar 3) (mVar 7)) (mC (PV.int 0))) mNil))) mNil))) mNx)
theorem cl_go {B1 : PV} {rc : Bool} {xs : List (Int × Int)} {cz cf k : Nat} (xo : SzOk xs) : ∀ (r j : Nat) (cs : List (Nat × Int)) (x7 : Option PV) {S : Sto}, S[cz]? = some (.lst (xs.map szP)) → CsOk (xs.map (·.1)) cs → j + r = xs.length → cs.length + r ≤ 100 →
    ∃ cs' y7, forGo [] (mgName 7) clB (rngP (j : Nat) r) [some (.cell s), some B1, some (.bl rc), some (.cell cz), some (.int (k : Nat)), some (.cell cf), some (.cell S.length), x7] (S ++ [.lst (cs.map cP)]) =
      .nx [some (.cell s), some B1, some (.bl rc), some (.cell cz), some (.int (k : Nat)), some (.cell cf), some (.cell S.length), y7] (S ++ [.lst (cs'.map cP)]) ∧ CsOk (xs.map (·.1)) cs' ∧ cs'.length ≤ cs.length + r
  | 0, j, cs, x7, S, _, h1, _, _ => ⟨cs, x7, go_nil, h1, Nat.le_refl _⟩
  | r + 1, j, cs, x7, S, hz, h1, h2, h3 => by
    obtain ⟨x, hx⟩ : ∃ x, xs[j]? = some x := ⟨_, List.getElem?_eq_getElem (by omega)⟩
    have ox := xo x (List.mem_of_getElem? hx)
    have g1 : (S ++ [MO.lst (cs.map cP)])[S.length]? = some (.lst (cs.map cP)) := by simp
    have gz : (S ++ [MO.lst (cs.map cP)])[cz]? = some (.lst (xs.map szP)) := by rw [List.getElem?_append_left (List.getElem?_eq_some_iff.mp hz).1]; exact hz
    have ix : ixM (.cell cz) (.int (j : Nat)) (S ++ [MO.lst (cs.map cP)]) = .ok (.tup [.int x.1, .int x.2]) (S ++ [MO.lst (cs.map cP)]) := ixC_ev gz (atP_nat (by rw [List.getElem?_map, hx]; rfl))
    have lq := lstQ_ev g1
    have ap := append_ev (y := cP (j, x.1)) g1 (Nat.lt_of_lt_of_le (by simp; omega : (cs.map cP).length < 1000) (by decide))
    rw [show (S ++ [MO.lst (cs.map cP)]).set S.length (.lst (cs.map cP ++ [cP (j, x.1)])) = S ++ [.lst ((cs ++ [(j, x.1)]).map cP)] by simp] at ap
    have ap' : appendM (.cell S.length) [.tup [.int (j : Nat), .int x.1]] (S ++ [MO.lst (cs.map cP)]) = .ok .non (S ++ [.lst ((cs ++ [(j, x.1)]).map cP)]) := ap
    have hl1 : (cs ++ [(j, x.1)]).length = cs.length + 1 := by simp
    by_cases q : rc = true ∨ k < j
    · obtain ⟨cs', y7, e1, e2, e3⟩ := cl_go (B1 := B1) (rc := rc) (cf := cf) (k := k) xo r (j + 1) (cs ++ [(j, x.1)]) (some (.int (j : Nat))) hz
        (fun c hc => by
          rcases List.mem_append.mp hc with hc | hc
          · exact h1 c hc
          · rw [List.mem_singleton.mp hc]
            refine ⟨?_, ox.1.1, by show x.1 ≤ 3; omega⟩
            show (xs.map (·.1))[j]? = some x.1
            rw [List.getElem?_map, hx]; rfl) (by omega) (by omega)
      refine ⟨cs', y7, ?_, e2, by omega⟩
      rw [rngP_cons, go_consN, show ((j : Nat) : Int) + 1 = ((j + 1 : Nat) : Int) by simp, ← e1]
      have hb : clB ([some (.cell s), some B1, some (.bl rc), some (.cell cz), some (.int (k : Nat)), some (.cell cf), some (.cell S.length), x7].set 7 (some (.int (j : Nat)))) (S ++ [.lst (cs.map cP)]) = .nx [some (.cell s), some B1, some (.bl rc), some (.cell cz), some (.int (k : Nat)), some (.cell cf), some (.cell S.length), some (.int (j : Nat))] (S ++ [.lst ((cs ++ [(j, x.1)]).map cP)]) := by
        generalize S ++ [MO.lst ((cs ++ [(j, x.1)]).map cP)] = T3 at ap' ⊢
        generalize S ++ [MO.lst (cs.map cP)] = T2 at ix lq ap' ⊢
        unfold clB
        cases rc with
        | true => simp -implicitDefEqProofs [callD_ev, mSeq_ev, mIf_ev, mRet_ev, mExp_ev, mAsgN_ev, mAsg_ev, mPar_ev, mPar3_ev, mSetL_ev, mNx_ev, mBk_ev, mCt_ev, mRetN_ev, mRaise_ev, m2_ev, mC_ev, mVar, mTst_ev, mTru_ev, mCh_ev, mIsN_ev, mAndT_ev, mOrT_ev, mNotT_ev, mAndV_ev, mOrV_ev, mNotV_ev, mIfE_ev, mNeg_ev, mNil_ev, mCons_ev, mTup_ev, mLst_ev, mCall_ev, mIsi_ev, mApp_ev, mAllWh_ev, mSl_ev, mNoP_ev, mPart_ev, mFor_ev, mItA_ev, mItE_ev, mLc_ev, mYes_ev, add_ev, sub_ev, lt_ev, le_ev, gt_ev, ge_ev, eqi_ev, eqs_ev, eqb_ev, eqn_ev, nei_ev, nes_ev, lenT_ev, abs_ev, int_ev, intb_ev, setl, setLO, bindG, mgName, mgTup, mgCons, mgNil, ixT0, ixT1, ixT2, truthM, mBM_ev, lq, ix, ap']
        | false =>
          have q1 : k < j := by simpa using q
          simp -implicitDefEqProofs [callD_ev, mSeq_ev, mIf_ev, mRet_ev, mExp_ev, mAsgN_ev, mAsg_ev, mPar_ev, mPar3_ev, mSetL_ev, mNx_ev, mBk_ev, mCt_ev, mRetN_ev, mRaise_ev, m2_ev, mC_ev, mVar, mTst_ev, mTru_ev, mCh_ev, mIsN_ev, mAndT_ev, mOrT_ev, mNotT_ev, mAndV_ev, mOrV_ev, mNotV_ev, mIfE_ev, mNeg_ev, mNil_ev, mCons_ev, mTup_ev, mLst_ev, mCall_ev, mIsi_ev, mApp_ev, mAllWh_ev, mSl_ev, mNoP_ev, mPart_ev, mFor_ev, mItA_ev, mItE_ev, mLc_ev, mYes_ev, add_ev, sub_ev, lt_ev, le_ev, gt_ev, ge_ev, eqi_ev, eqs_ev, eqb_ev, eqn_ev, nei_ev, nes_ev, lenT_ev, abs_ev, int_ev, intb_ev, setl, setLO, bindG, mgName, mgTup, mgCons, mgNil, ixT0, ixT1, ixT2, truthM, q1, mBM_ev, lq, ix, ap']
      rw [hb, loopE_nx]
    · obtain ⟨cs', y7, e1, e2, e3⟩ := cl_go (B1 := B1) (rc := rc) (cf := cf) (k := k) xo r (j + 1) cs (some (.int (j : Nat))) hz h1 (by omega) (by omega)
      refine ⟨cs', y7, ?_, e2, by omega⟩
      rw [rngP_cons, go_consN, show ((j : Nat) : Int) + 1 = ((j + 1 : Nat) : Int) by simp, ← e1]
      have hb : clB ([some (.cell s), some B1, some (.bl rc), some (.cell cz), some (.int (k : Nat)), some (.cell cf), some (.cell S.length), x7].set 7 (some (.int (j : Nat)))) (S ++ [.lst (cs.map cP)]) = .nx [some (.cell s), some B1, some (.bl rc), some (.cell cz), some (.int (k : Nat)), some (.cell cf), some (.cell S.length), some (.int (j : Nat))] (S ++ [.lst (cs.map cP)]) := by
        have q1 : rc = false := by cases rc <;> simp_all
        have q2 : ¬ k < j := fun z => q (.inr z)
        subst q1
        unfold clB
        simp -implicitDefEqProofs [callD_ev, mSeq_ev, mIf_ev, mRet_ev, mExp_ev, mAsgN_ev, mAsg_ev, mPar_ev, mPar3_ev, mSetL_ev, mNx_ev, mBk_ev, mCt_ev, mRetN_ev, mRaise_ev, m2_ev, mC_ev, mVar, mTst_ev, mTru_ev, mCh_ev, mIsN_ev, mAndT_ev, mOrT_ev, mNotT_ev, mAndV_ev, mOrV_ev, mNotV_ev, mIfE_ev, mNeg_ev, mNil_ev, mCons_ev, mTup_ev, mLst_ev, mCall_ev, mIsi_ev, mApp_ev, mAllWh_ev, mSl_ev, mNoP_ev, mPart_ev, mFor_ev, mItA_ev, mItE_ev, mLc_ev, mYes_ev, add_ev, sub_ev, lt_ev, le_ev, gt_ev, ge_ev, eqi_ev, eqs_ev, eqb_ev, eqn_ev, nei_ev, nes_ev, lenT_ev, abs_ev, int_ev, intb_ev, setl, setLO, bindG, mgName, mgTup, mgCons, mgNil, ixT0, ixT1, ixT2, truthM, q2]
      rw [hb, loopE_nx]
end

noncomputable def prB : MS := (mSeq (mAsg (mLst mNil) (mgName 6))
    (mSeq (mFor (mItA rng1 (mCons (mCall lenM (mCons (mVar 3) mNil)) mNil)) (mgName 7) (mIf (mOrT (mTru (mVar 2)) (mTst (m2 gtM (mVar 7) (mVar 4)))) (mExp (mBM lstQ appendM (mVar 6) (mCons (mTup (mCons (mVar 7) (mCons (m2 ixM (m2 ixM (mVar 3) (mVar 7)) (mC (PV.int 0))) mNil))) mNil))) mNx))
    (mExp (mBM lstQ appendM (mVar 5) (mCons (mApp 5 m_l_procedure (mCons (mVar 0) (mCons (m2 ixM (m2 ixM (mVar 3) (mVar 4)) (mC (PV.int 0))) (mCons (m2 ixM (m2 ixM (mVar 3) (mVar 4)) (mC (PV.int 1))) (mCons (mVar 6) (mCons (mVar 1) mNil)))))) mNil)))))
section
variable {ns : List Int} {s l : Nat} {S : Sto}
theorem pr_go {xs : List (Int × Int)} {cz cf : Nat} {b rc : Bool} (hS : Dst ns s l S) (n1 : cz ≠ s) (n2 : S.length ≤ cf) (n3 : cz ≠ cf) (xo : SzOk xs) (xl : xs.length ≤ 3) :
    ∀ (r k : Nat) (L : List (Int × List PV)) (x4 x6 x7 : Option PV) {T : Sto}, Dst ns s l T → Gw s l S T → T[cz]? = some (.lst (xs.map szP)) → T[cf]? = some (.lst (L.map pp)) → k + r = xs.length → L.length = k →
    (∀ (q : Nat) (y : Int × List PV), L[q]? = some y → (∃ x, xs[q]? = some x ∧ x.1 = y.1 ∧ x.2 = (y.2.length : Int)) ∧ RowOk (xs.map (·.1)) y) →
    ∃ (L' : List (Int × List PV)) (y4 y6 y7 : Option PV) (T' : Sto), forGo [] (mgName 4) prB (rngP (k : Nat) r) [some (.cell s), some (.bl b), some (.bl rc), some (.cell cz), x4, some (.cell cf), x6, x7] T =
      .nx [some (.cell s), some (.bl b), some (.bl rc), some (.cell cz), y4, some (.cell cf), y6, y7] T' ∧ Dst ns s l T' ∧ Gw s l S T' ∧ T'[cf]? = some (.lst (L'.map pp)) ∧ L'.length = xs.length ∧
      (∀ (q : Nat) (y : Int × List PV), L'[q]? = some y → (∃ x, xs[q]? = some x ∧ x.1 = y.1 ∧ x.2 = (y.2.length : Int)) ∧ RowOk (xs.map (·.1)) y)
  | 0, k, L, x4, x6, x7, T, h, g, a2, a3, a4, a5, a6 => ⟨L, x4, x6, x7, T, go_nil, h, g, a3, by omega, a6⟩
  | r + 1, k, L, x4, x6, x7, T, h, g, a2, a3, a4, a5, a6 => by
    have lt := hS.lt
    have gle := g.le
    obtain ⟨x, hx⟩ : ∃ x, xs[k]? = some x := ⟨_, List.getElem?_eq_getElem (by omega)⟩
    have ox := xo x (List.mem_of_getElem? hx)
    obtain ⟨cs, z7, e1, co, cl⟩ := cl_go (s := s) (B1 := .bl b) (rc := rc) (cf := cf) (k := k) xo xs.length 0 [] x7 a2 (fun _ h => nomatch h) (by omega) (by simp; omega)
    rw [show ((0 : Nat) : Int) = 0 from rfl] at e1
    have h1 : Dst ns s l (T ++ [.lst (cs.map cP)]) := h.app (clos_cP cs)
    have at1 : (T ++ [MO.lst (cs.map cP)])[T.length]? = some (.lst (cs.map cP)) := by simp
    obtain ⟨y, T2, y1, y2, yr, u2, e2⟩ := lprocedure_ev (b := b) (e := x.1) (z := x.2) h1 at1 (by omega) co (by simp at cl; omega) ⟨ox.1.1, by omega⟩ ⟨ox.2.1, by omega⟩
    have l2 := u2.len
    have ap1 : ∀ {i : Nat} {o : MO}, T[i]? = some o → (T ++ [MO.lst (cs.map cP)])[i]? = some o := fun {i o} q => by
      rw [List.getElem?_append_left (List.getElem?_eq_some_iff.mp q).1]; exact q
    have b2 := ap1 a2
    have b3 := ap1 a3
    have c2 : T2[cz]? = some (.lst (xs.map szP)) := by rw [u2.at n1]; exact b2
    have c3 : T2[cf]? = some (.lst (L.map pp)) := by rw [u2.at (by omega)]; exact b3
    have h2 := h1.up u2
    have g2 := (g.app [.lst (cs.map cP)]).up hS u2
    have cr : ∀ w ∈ L ++ [y], clo 0 (pp w) = true := fun w hw => by
      rcases List.mem_append.mp hw with hw | hw
      · obtain ⟨q, hq⟩ := List.getElem?_of_mem hw
        exact clo_pp fun pt hp => ((a6 q w hq).2 pt hp).clo
      · rw [List.mem_singleton.mp hw]; exact clo_pp fun pt hp => (yr pt hp).clo
    have ap := append_ev (y := pp y) c3 (Nat.lt_of_lt_of_le (by simp; omega : (L.map pp).length < 1000) (by decide))
    rw [show L.map pp ++ [pp y] = (L ++ [y]).map pp by simp] at ap
    have cfl : cf < T2.length := (List.getElem?_eq_some_iff.mp c3).1
    have h4 : Dst ns s l (T2.set cf (.lst ((L ++ [y]).map pp))) := h2.put (by omega) (by omega) (show clos _ _ = true from clos_up (Nat.zero_le _) (clos_all fun w hw => by obtain ⟨v, hv, rfl⟩ := List.mem_map.mp hw; exact cr v hv))
    have g4 := g2.set (i := cf) (o := .lst ((L ++ [y]).map pp)) n2
    have d2 : (T2.set cf (.lst ((L ++ [y]).map pp)))[cz]? = some (.lst (xs.map szP)) := by rw [List.getElem?_set_ne (Ne.symm n3)]; exact c2
    have d3 : (T2.set cf (.lst ((L ++ [y]).map pp)))[cf]? = some (.lst ((L ++ [y]).map pp)) := List.getElem?_set_self cfl
    have lnT : lenM [.cell cz] (T ++ [MO.lst []]) = .ok (.int (xs.length : Nat)) (T ++ [MO.lst []]) := by
      have := lenC_ev (S := T ++ [MO.lst []]) (n := cz) (xs := xs.map szP) (by rw [List.getElem?_append_left (List.getElem?_eq_some_iff.mp a2).1]; exact a2)
      simpa using this
    have rg : ∀ T, rng1 [.int (xs.length : Nat)] T = .ok ⟨rngP 0 xs.length, []⟩ T := fun T => by
      have := rng1_ev (S := T) (j := (xs.length : Nat)) ⟨by omega, by omega⟩
      simpa using this
    have ix : ixM (.cell cz) (.int (k : Nat)) (T ++ [MO.lst (cs.map cP)]) = .ok (.tup [.int x.1, .int x.2]) (T ++ [MO.lst (cs.map cP)]) := ixC_ev b2 (atP_nat (by rw [List.getElem?_map, hx]; rfl))
    have lq := lstQ_ev b3
    generalize T2.set cf (.lst ((L ++ [y]).map pp)) = T5 at ap h4 g4 d2 d3
    simp only [List.map_nil] at e1
    generalize T ++ [MO.lst (cs.map cP)] = T1 at e1 e2 ix lq
    obtain ⟨L', y4, y6, y7, T', f1, f2, f3, f4, f5, f6⟩ := pr_go (b := b) (rc := rc) hS n1 n2 n3 xo xl r (k + 1) (L ++ [y]) (some (.int (k : Nat))) (some (.cell T.length)) z7 h4 g4 d2 d3 (by omega) (by simp [a5]) (fun q w hq => by
      by_cases ql : q < L.length
      · rw [List.getElem?_append_left ql] at hq; exact a6 q w hq
      · have : q = k := by have := (List.getElem?_eq_some_iff.mp hq).1; simp at this; omega
        subst this
        rw [List.getElem?_append_right (by omega), a5, Nat.sub_self] at hq
        cases hq
        exact ⟨⟨x, hx, y1.symm, y2.symm⟩, yr⟩)
    refine ⟨L', y4, y6, y7, T', ?_, f2, f3, f4, f5, f6⟩
    rw [rngP_cons, go_consN, show ((k : Nat) : Int) + 1 = ((k + 1 : Nat) : Int) by simp, ← f1]
    have hb : prB ([some (.cell s), some (.bl b), some (.bl rc), some (.cell cz), x4, some (.cell cf), x6, x7].set 4 (some (.int (k : Nat)))) T =
        .nx [some (.cell s), some (.bl b), some (.bl rc), some (.cell cz), some (.int (k : Nat)), some (.cell cf), some (.cell T.length), z7] T5 := by
      unfold clB at e1
      unfold prB
      simp -implicitDefEqProofs [callD_ev, mSeq_ev, mIf_ev, mRet_ev, mExp_ev, mAsgN_ev, mAsg_ev, mPar_ev, mPar3_ev, mSetL_ev, mNx_ev, mBk_ev, mCt_ev, mRetN_ev, mRaise_ev, m2_ev, mC_ev, mVar, mTst_ev, mTru_ev, mCh_ev, mIsN_ev, mAndT_ev, mOrT_ev, mNotT_ev, mAndV_ev, mOrV_ev, mNotV_ev, mIfE_ev, mNeg_ev, mNil_ev, mCons_ev, mTup_ev, mLst_ev, mCall_ev, mIsi_ev, mApp_ev, mAllWh_ev, mSl_ev, mNoP_ev, mPart_ev, mFor_ev, mItA_ev, mItE_ev, mLc_ev, mYes_ev, add_ev, sub_ev, lt_ev, le_ev, gt_ev, ge_ev, eqi_ev, eqs_ev, eqb_ev, eqn_ev, nei_ev, nes_ev, lenT_ev, abs_ev, int_ev, intb_ev, setl, setLO, bindG, mgName, mgTup, mgCons, mgNil, ixT0, ixT1, ixT2, lnT, rg, e1, mBM_ev, lq, ix, e2, ap]
    rw [hb, loopE_nx]
end

section
variable {ns : List Int} {s l : Nat} {S : Sto}
/-- the graph of weighted branches that many laws draw -/
theorem lprocedures_ev {b rc : Bool} (h : Dst ns s l S) : ∃ L S', GL 3 5 L ∧ Up s l S S' ∧ Dst ns s l S' ∧ m_l_procedures [.cell s, .bl b, .bl rc] S = .ok (.tup (L.map pp)) S' := by
  have lt := h.lt
  have h0 := h.app (o := .lst []) rfl
  obtain ⟨d0, S1', a0, b0, h1, u1', e0⟩ := h0.nx (m := 3) (by decide) (by decide)
  obtain ⟨S1, u1, rfl⟩ := up_app lt.1 u1'
  obtain ⟨r, hr, rg⟩ : ∃ r : Nat, ((r : Nat) : Int) = 1 + d0 ∧ ∀ T, rng1 [.int (1 + d0)] T = .ok ⟨rngP 0 r, []⟩ T := ⟨(1 + d0).toNat, by omega, fun T => rng1_ev ⟨by omega, by omega⟩⟩
  obtain ⟨xs, y4, S2, e1, u2, xo, xl⟩ := sz_go (B1 := .bl b) (B2 := .bl rc) r 0 [] none (h.up u1) (fun _ h => nomatch h) (by simp; omega)
  have l1 := u1.len
  have l2 := u2.len
  have xr : xs.length = r := by simpa using xl
  have us := u1.trans u2
  have h2 : Dst ns s l (S2 ++ [.lst (xs.map szP)]) := (h.up us).app (clos_sz xs)
  have h3 : Dst ns s l (S2 ++ [.lst (xs.map szP)] ++ [.lst []]) := h2.app rfl
  have g3 : Gw s l S (S2 ++ [.lst (xs.map szP)] ++ [.lst []]) := (((Gw.rfl h).up h us).app _).app _
  have cl : (S2 ++ [MO.lst (xs.map szP)]).length = S.length + 1 := by simp; omega
  have at2 : (S2 ++ [MO.lst (xs.map szP)] ++ [.lst []])[S.length]? = some (.lst (xs.map szP)) := by
    rw [List.getElem?_append_left (by omega), show S.length = S2.length by omega]; simp
  have at3 : (S2 ++ [MO.lst (xs.map szP)] ++ [.lst []])[(S2 ++ [MO.lst (xs.map szP)]).length]? = some (.lst []) := by simp
  obtain ⟨L, z4, z6, z7, T', f1, f2, f3, f4, f5, f6⟩ := pr_go (b := b) (rc := rc) (cz := S.length) (cf := (S2 ++ [MO.lst (xs.map szP)]).length) h (by omega) (by omega) (by omega) xo (by omega) r 0 [] y4 none none h3 g3 at2 at3 (by omega) rfl (fun q y hq => by simp at hq)
  have ees : L.map (·.1) = xs.map (·.1) := by
    refine List.ext_getElem? fun q => ?_
    rw [List.getElem?_map, List.getElem?_map]
    cases hq : L[q]? with
    | none =>
      have := List.getElem?_eq_none_iff.mp hq
      rw [List.getElem?_eq_none_iff.mpr (by omega : xs.length ≤ q)]; rfl
    | some y =>
      obtain ⟨⟨x, hx, e, _⟩, _⟩ := f6 q y hq
      rw [hx]
      show some y.1 = some x.1
      rw [e]
  have gl : GL 3 5 L := by
    refine ⟨by omega, by omega, fun y hy => ?_⟩
    obtain ⟨q, hq⟩ := List.getElem?_of_mem hy
    obtain ⟨⟨x, hx, p1, p2⟩, p3⟩ := f6 q y hq
    have := xo x (List.mem_of_getElem? hx)
    exact ⟨by omega, by omega, by omega, by omega, by rw [ees]; exact p3⟩
  have cL : clo 0 (.tup (L.map pp)) = true := clos_all fun y hy => by
    obtain ⟨x, hx, rfl⟩ := List.mem_map.mp hy
    exact clo_pp fun pt hp => ((gl.row x hx).2.2.2.2 pt hp).clo
  obtain ⟨S', k1, k2⟩ := f3.gc h cL
  refine ⟨L, S', gl, k2, h.up k2, ?_⟩
  have ln : lenM [.cell S.length] (S2 ++ [MO.lst (xs.map szP)] ++ [.lst []]) = .ok (.int (r : Nat)) (S2 ++ [MO.lst (xs.map szP)] ++ [.lst []]) := by
    have := lenC_ev at2
    rw [List.length_map, xr] at this
    exact this
  have rg' : ∀ T, rng1 [.int (r : Nat)] T = .ok ⟨rngP 0 r, []⟩ T := fun T => by
    have := rng1_ev (S := T) (j := (r : Nat)) ⟨by omega, by omega⟩
    simpa using this
  have tp : tupleM [.cell (S2 ++ [MO.lst (xs.map szP)]).length] T' = .ok (.tup (L.map pp)) T' := by simp only [tupleM, f4]
  rw [show ((0 : Nat) : Int) = 0 from rfl] at f1
  unfold szB at e1
  unfold prB at f1
  simp only [List.map_nil] at e1
  rw [l1] at e1
  generalize (S2 ++ [MO.lst (xs.map szP)]) = A2 at e1 f1 tp ln
  generalize (S1 ++ [MO.lst []]) = A1 at e0 e1
  unfold m_l_procedures
  simp -implicitDefEqProofs [callD_ev, mSeq_ev, mIf_ev, mRet_ev, mExp_ev, mAsgN_ev, mAsg_ev, mPar_ev, mPar3_ev, mSetL_ev, mNx_ev, mBk_ev, mCt_ev, mRetN_ev, mRaise_ev, m2_ev, mC_ev, mVar, mTst_ev, mTru_ev, mCh_ev, mIsN_ev, mAndT_ev, mOrT_ev, mNotT_ev, mAndV_ev, mOrV_ev, mNotV_ev, mIfE_ev, mNeg_ev, mNil_ev, mCons_ev, mTup_ev, mLst_ev, mCall_ev, mIsi_ev, mApp_ev, mAllWh_ev, mSl_ev, mNoP_ev, mPart_ev, mFor_ev, mItA_ev, mItE_ev, mLc_ev, mYes_ev, add_ev, sub_ev, lt_ev, le_ev, gt_ev, ge_ev, eqi_ev, eqs_ev, eqb_ev, eqn_ev, nei_ev, nes_ev, lenT_ev, abs_ev, int_ev, intb_ev, setl, setLO, bindG, mgName, mgTup, mgCons, mgNil, ixT0, ixT1, ixT2, e0, rg, e1]
  generalize A2 ++ [MO.lst []] = A3 at f1 ln ⊢
  simp -implicitDefEqProofs [callD_ev, mSeq_ev, mIf_ev, mRet_ev, mExp_ev, mAsgN_ev, mAsg_ev, mPar_ev, mPar3_ev, mSetL_ev, mNx_ev, mBk_ev, mCt_ev, mRetN_ev, mRaise_ev, m2_ev, mC_ev, mVar, mTst_ev, mTru_ev, mCh_ev, mIsN_ev, mAndT_ev, mOrT_ev, mNotT_ev, mAndV_ev, mOrV_ev, mNotV_ev, mIfE_ev, mNeg_ev, mNil_ev, mCons_ev, mTup_ev, mLst_ev, mCall_ev, mIsi_ev, mApp_ev, mAllWh_ev, mSl_ev, mNoP_ev, mPart_ev, mFor_ev, mItA_ev, mItE_ev, mLc_ev, mYes_ev, add_ev, sub_ev, lt_ev, le_ev, gt_ev, ge_ev, eqi_ev, eqs_ev, eqb_ev, eqn_ev, nei_ev, nes_ev, lenT_ev, abs_ev, int_ev, intb_ev, setl, setLO, bindG, mgName, mgTup, mgCons, mgNil, ixT0, ixT1, ixT2, ln, rg', f1, tp, k1]
end

def PdAt (k D : Nat) (x : PV) : Prop := ∃ d : PyData, (∀ n, k ≤ n → pd [] n x = some d) ∧ d.canLay0 = true ∧ d.depth ≤ D
theorem PdAt.up {k D k' D' : Nat} {x : PV} (h : PdAt k D x) (a : k ≤ k') (b : D ≤ D') : PdAt k' D' x := by
  obtain ⟨d, h1, h2, h3⟩ := h
  exact ⟨d, fun n hn => h1 n (by omega), h2, by omega⟩
theorem pdat_int {i : Int} : PdAt 1 0 (.int i) := ⟨.int i, fun n hn => by
  obtain ⟨m, rfl⟩ : ∃ m, n = m + 1 := ⟨n - 1, by omega⟩
  simp [pd], rfl, Nat.le_refl 0⟩
theorem pdat_str {w : Str} (h : PyData.strOk w = true) : PdAt 1 0 (.str w) := ⟨.str w, fun n hn => by
  obtain ⟨m, rfl⟩ : ∃ m, n = m + 1 := ⟨n - 1, by omega⟩
  simp [pd], h, Nat.le_refl 0⟩
theorem pds_at {k D : Nat} : ∀ {xs : List PV}, (∀ x ∈ xs, PdAt k D x) → ∃ ds : List PyData, (∀ n, k + xs.length + 1 ≤ n + 1 → 1 ≤ n → pds [] n xs = some ds) ∧ PyData.canLayAll0 ds = true ∧ PyData.depthAll ds ≤ D
  | [], _ => ⟨[], fun n _ h1 => by
    obtain ⟨m, rfl⟩ : ∃ m, n = m + 1 := ⟨n - 1, by omega⟩
    simp [pds], rfl, Nat.zero_le _⟩
  | x :: xs, h => by
    obtain ⟨d, h1, h2, h3⟩ := h x List.mem_cons_self
    obtain ⟨ds, g1, g2, g3⟩ := pds_at (k := k) (D := D) (xs := xs) fun y hy => h y (List.mem_cons_of_mem _ hy)
    refine ⟨d :: ds, fun n hn _ => ?_, by simp [PyData.canLayAll0, h2, g2], by simp [PyData.depthAll]; omega⟩
    obtain ⟨m, rfl⟩ : ∃ m, n = m + 1 := ⟨n - 1, by omega⟩
    simp only [List.length_cons] at hn
    by_cases m0 : 1 ≤ m
    · simp [pds, h1 m (by omega), g1 m (by omega) m0]
    · have : m = 0 := by omega
      subst this
      have e := h1 0 (by omega)
      simp [pd] at e
theorem pdat_tup {k D : Nat} {xs : List PV} (h : ∀ x ∈ xs, PdAt k D x) : PdAt (k + xs.length + 2) (D + 1) (.tup xs) := by
  obtain ⟨ds, g1, g2, g3⟩ := pds_at h
  refine ⟨.tuple ds, fun n hn => ?_, g2, by simp [PyData.depth]; omega⟩
  obtain ⟨m, rfl⟩ : ∃ m, n = m + 1 := ⟨n - 1, by omega⟩
  simp [pd, g1 m (by omega) (by omega)]
theorem pdat_list {k D : Nat} {xs : List PV} (m : Nat) (hm : xs.length ≤ m) (h : ∀ x ∈ xs, PdAt k D x) : PdAt (k + m + 2) (D + 1) (.tup xs) := (pdat_tup h).up (by omega) (Nat.le_refl _)
theorem pdat_ints {ts : List Int} (m : Nat) (hm : ts.length ≤ m) : PdAt (m + 3) 1 (.tup (ts.map PV.int)) :=
  (pdat_list (k := 1) (D := 0) m (by simpa using hm) fun x hx => by obtain ⟨i, _, rfl⟩ := List.mem_map.mp hx; exact pdat_int).up (by omega) (Nat.le_refl _)
theorem self_of {k D : Nat} {x : PV} (h : PdAt k D x) (hk : k ≤ 200) (hD : D ≤ 64) : okSelf x = true := by
  obtain ⟨d, h1, h2, h3⟩ := h
  unfold okSelf
  rw [h1 200 hk]
  simp only
  rw [SeqAt.eqv_refl d h2, Bool.and_true]
  unfold SeqAt.shaped
  rw [h2, Bool.true_and]
  exact decide_eq_true (by omega)
theorem pt_self {es : List Int} {e z : Int} {pt : PV} (he : ∀ i ∈ es, i ≤ 3) (h : PtOk es e z pt) : PdAt 40 5 pt := by
  have w : ∀ {v : Str}, PyData.strOk v = true → PdAt 36 4 (.str v) := fun h => (pdat_str h).up (by decide) (by decide)
  have i : ∀ {j : Int}, PdAt 36 4 (.int j) := pdat_int.up (by decide) (by decide)
  have two : ∀ {a b : PV}, PdAt 36 4 a → PdAt 36 4 b → PdAt 40 5 (.tup [a, b]) := fun ha hb => (pdat_list (k := 36) (D := 4) 2 (by simp) fun x hx => by
    rcases List.mem_cons.mp hx with rfl | hx
    · exact ha
    · rw [List.mem_singleton.mp hx]; exact hb)
  rcases h with ⟨t, bs, rfl, _, h1, _, _⟩ | ⟨ts, rfl, _, h1, _⟩ | ⟨c, ts, rfl, h1, _⟩ | ⟨k, rfl, _⟩ | ⟨q, j, rfl, _⟩ | rfl | rfl
  · refine two (w (by decide +kernel)) ?_
    refine ((pdat_list (k := 11) (D := 2) 4 (by simpa using h1) fun x hx => ?_) : PdAt 17 3 _).up (by decide) (by decide)
    obtain ⟨b, _, rfl⟩ := List.mem_map.mp hx
    unfold brT pq
    exact ((pdat_list (k := 5) (D := 1) 2 (by simp) fun y hy => by
      rcases List.mem_cons.mp hy with rfl | hy
      · exact (pdat_list (k := 1) (D := 0) 2 (by simp) fun u hu => by
          rcases List.mem_cons.mp hu with rfl | hu
          · exact pdat_int
          · rw [List.mem_singleton.mp hu]; exact pdat_int)
      · rw [List.mem_singleton.mp hy]; exact pdat_int.up (by decide) (by decide)) : PdAt 9 2 _).up (by decide) (by decide)
  · exact two (w (by decide +kernel)) ((pdat_ints 4 h1).up (by decide) (by decide))
  · have hl : ts.length ≤ 3 := by have := he _ (List.mem_of_getElem? h1); omega
    refine ((pdat_list (k := 8) (D := 1) 3 (by simp) fun x hx => ?_) : PdAt 13 2 _).up (by decide) (by decide)
    rcases List.mem_cons.mp hx with rfl | hx
    · exact (pdat_str (by decide +kernel)).up (by decide) (by decide)
    · rcases List.mem_cons.mp hx with rfl | hx
      · exact pdat_int.up (by decide) (by decide)
      · rw [List.mem_singleton.mp hx]; exact (pdat_ints 3 hl).up (by decide) (by decide)
  · exact two (w (by decide +kernel)) i
  · refine ((pdat_list (k := 8) (D := 1) 3 (by simp) fun x hx => ?_) : PdAt 13 2 _).up (by decide) (by decide)
    rcases List.mem_cons.mp hx with rfl | hx
    · exact (pdat_str (by decide +kernel)).up (by decide) (by decide)
    · rcases List.mem_cons.mp hx with rfl | hx
      · unfold pq
        exact ((pdat_list (k := 1) (D := 0) 2 (by simp) fun u hu => by
          rcases List.mem_cons.mp hu with rfl | hu
          · exact pdat_int
          · rw [List.mem_singleton.mp hu]; exact pdat_int) : PdAt 5 1 _).up (by decide) (by decide)
      · rw [List.mem_singleton.mp hx]; exact pdat_int.up (by decide) (by decide)
  · exact ((pdat_list (k := 1) (D := 0) 1 (by simp) fun u hu => by rw [List.mem_singleton.mp hu]; exact pdat_str (by decide +kernel)) : PdAt 4 1 _).up (by decide) (by decide)
  · exact ((pdat_list (k := 1) (D := 0) 1 (by simp) fun u hu => by rw [List.mem_singleton.mp hu]; exact pdat_str (by decide +kernel)) : PdAt 4 1 _).up (by decide) (by decide)
theorem GL.self {k w : Nat} {L : List (Int × List PV)} (h : GL k w L) (hk : k ≤ 6) (hw : w ≤ 16) : okSelf (.tup (L.map pp)) = true := by
  have h2 := h.l2
  have e : ∀ i ∈ L.map (·.1), i ≤ 3 := fun i hi => by
    obtain ⟨x, hx, rfl⟩ := List.mem_map.mp hi
    exact (h.row x hx).2.1
  refine self_of (k := 62 + 6 + 2) (D := 8) (pdat_list 6 (by simp; omega) fun y hy => ?_) (by decide) (by decide)
  obtain ⟨x, hx, rfl⟩ := List.mem_map.mp hy
  have r := h.row x hx
  refine pdat_list (k := 58) (D := 6) 2 (by simp) fun u hu => ?_
  rcases List.mem_cons.mp hu with rfl | hu
  · exact pdat_int.up (by decide) (by decide)
  · rw [List.mem_singleton.mp hu]
    exact pdat_list (k := 40) (D := 5) 16 (by omega) fun q hq => pt_self e (r.2.2.2.2 q hq)

def pairD (x : Nat × Nat) : PyData := .tuple [.int (x.1 : Nat), .int (x.2 : Nat)]
def plY (x : Nat × Nat) : PV := plX x.1 x.2
theorem pdat_pl {x : Nat × Nat} {n : Nat} (h : 6 ≤ n) : pd [] n (plY x) = some (pairD x) := by
  obtain ⟨m, rfl⟩ : ∃ m, n = m + 6 := ⟨n - 6, by omega⟩
  simp [plY, plX, pd, pds, pairD]
theorem pds_pl : ∀ {ps : List (Nat × Nat)} {n : Nat}, ps.length + 6 ≤ n → pds [] n (ps.map plY) = some (ps.map pairD)
  | [], n, h => by
    obtain ⟨m, rfl⟩ : ∃ m, n = m + 1 := ⟨n - 1, by omega⟩
    simp [pds]
  | x :: ps, n, h => by
    obtain ⟨m, rfl⟩ : ∃ m, n = m + 1 := ⟨n - 1, by omega⟩
    have ih := pds_pl (ps := ps) (n := m) (by simp at h; omega)
    have e := pdat_pl (x := x) (n := m) (by simp at h; omega)
    simp [pds, ih, e]
theorem pair_lay : ∀ ps : List (Nat × Nat), PyData.canLayAll0 (ps.map pairD) = true ∧ PyData.depthAll (ps.map pairD) ≤ 1
  | [] => ⟨rfl, Nat.zero_le _⟩
  | x :: ps => by
    obtain ⟨a, b⟩ := pair_lay ps
    refine ⟨by simp [PyData.canLayAll0, pairD, PyData.canLay0, a], ?_⟩
    simp [PyData.depthAll, pairD, PyData.depth]
    exact Nat.max_le.mpr ⟨Nat.le_refl 1, b⟩
theorem pair_eqv {x y : Nat × Nat} : PyData.eqv (pairD y) (pairD x) = decide (y = x) := by
  obtain ⟨a, b⟩ := x
  obtain ⟨c, d⟩ := y
  simp [pairD, PyData.eqv, PyData.eqvAll]
  rw [Bool.eq_iff_iff]
  simp
  omega
theorem any_pair {x : Nat × Nat} : ∀ ps : List (Nat × Nat), ((ps.map pairD).any fun z => PyData.eqv z (pairD x)) = decide (x ∈ ps)
  | [] => rfl
  | y :: ps => by
    rw [List.map_cons, List.any_cons, any_pair ps, pair_eqv, Bool.eq_iff_iff]
    simp
    exact ⟨fun h => h.elim (fun e => .inl e.symm) .inr, fun h => h.elim (fun e => .inl e.symm) .inr⟩
theorem in_pls {S : Sto} {neg : Bool} {x : Nat × Nat} {ps : List (Nat × Nat)} {c : Nat} (h : S[c]? = some (.lst (ps.map plY))) (hl : ps.length ≤ 100) : inM neg (plY x) (.cell c) S = .ok (.bl (neg ^^ decide (x ∈ ps))) S := by
  have e1 : pd S 200 (plY x) = some (pairD x) := pd_nil (pdat_pl (by decide))
  have e2 : pds S 199 (ps.map plY) = some (ps.map pairD) := pds_nil (pds_pl (by omega))
  have e3 : pd S 200 (.cell c) = some (.list (ps.map pairD)) := by
    show (match S[c]? with | some (.lst xs) => (pds S 199 xs).map PyData.list | _ => none) = _
    rw [h]
    simp only [e2, Option.map_some]
  obtain ⟨l1, l2⟩ := pair_lay ps
  have s1 : SeqAt.shaped (pairD x) = true := by simp [pairD, SeqAt.shaped, PyData.canLay0, PyData.canLayAll0, PyData.depth, PyData.depthAll]
  have s2 : SeqAt.shaped (.list (ps.map pairD)) = true := by
    unfold SeqAt.shaped
    rw [show PyData.canLay0 (.list (ps.map pairD)) = true from l1, Bool.true_and]
    exact decide_eq_true (by simp [PyData.depth]; omega)
  unfold inM
  rw [e1, e3]
  simp only [s1, s2, and_self, if_true, any_pair]

theorem gaR_nil {r : List (Nat × MO)} {stop : Bool} {t : MG} {tt : MT} {te : ME} {vs : List Nat} {ρ : PSt} {S : Sto} (h : Chk r S) : gaGo stop r t tt te vs ρ [] S = .ok (.bl (!stop)) S := by
  unfold gaGo
  rw [if_pos h]
theorem gaR_cons {r : List (Nat × MO)} {stop : Bool} {te : ME} {i : Nat} {ρ : PSt} {S : Sto} {x : PV} {xs : List PV} (h : Chk r S) : gaGo stop r (mgName i) mYes te [i] ρ (x :: xs) S = (te (ρ.set i (some x)) S).sb fun y S2 => match y with
    | .bl c => if c = stop then .ok (.bl stop) S2 else gaGo stop r (mgName i) mYes te [i] ρ xs S2
    | _ => .bad := by
  conv => lhs; unfold gaGo
  rw [if_pos h]
  show (if (∀ p ∈ [(i, x)], p.1 ∈ [i]) then _ else _) = _
  rw [if_pos (by simp), setl_one]
  rfl
def InL (L : List (Int × List PV)) (x : Nat × Nat) : Prop := ∃ row, L[x.1]? = some row ∧ x.2 < row.2.length
abbrev grO (L : List (Int × List PV)) : MO := .ins "Graph" [("procedures", .tup (L.map pp))]
theorem isplace_ev {S : Sto} {n : Nat} {L : List (Int × List PV)} {x : Nat × Nat} (hg : S[n]? = some (grO L)) (hx : InL L x) : m_Graph_is_place [.cell n, plY x] S = .ok (.bl true) S := by
  obtain ⟨p, i⟩ := x
  obtain ⟨row, h1, h2⟩ := hx
  have hp := (List.getElem?_eq_some_iff.mp h1).1
  have fd := fld_ev (f := "procedures") (cs := ["Graph"]) (y := .tup (L.map pp)) hg (by decide) rfl
  have e1 := fun T => isi_ev (T := T) (x := plY (p, i)) (S := S) rfl
  have ix : ∀ T, ixM (.tup (L.map pp)) (.int (p : Nat)) T = .ok (.tup [.int row.1, .tup row.2]) T := hpx (by rw [List.getElem?_map, h1]; rfl)
  have ln : ∀ T, lenM [.tup (L.map pp)] T = .ok (.int (L.length : Nat)) T := fun T => by rw [lenT_ev, List.length_map]
  have c1 : (p : Int) < (L.length : Int) := by omega
  have c2 : (i : Int) < (row.2.length : Int) := by simp only at h2; omega
  generalize L.map pp = P at fd ix ln
  unfold plY plX at e1 ⊢
  unfold m_Graph_is_place
  simp -implicitDefEqProofs [callD_ev, mSeq_ev, mIf_ev, mRet_ev, mExp_ev, mAsgN_ev, mAsg_ev, mPar_ev, mPar3_ev, mSetL_ev, mNx_ev, mBk_ev, mCt_ev, mRetN_ev, mRaise_ev, m2_ev, mC_ev, mVar, mTst_ev, mTru_ev, mCh_ev, mIsN_ev, mAndT_ev, mOrT_ev, mNotT_ev, mAndV_ev, mOrV_ev, mNotV_ev, mIfE_ev, mNeg_ev, mNil_ev, mCons_ev, mTup_ev, mLst_ev, mCall_ev, mIsi_ev, mApp_ev, mAllWh_ev, mSl_ev, mNoP_ev, mPart_ev, mFor_ev, mItA_ev, mItE_ev, mLc_ev, mYes_ev, add_ev, sub_ev, lt_ev, le_ev, gt_ev, ge_ev, eqi_ev, eqs_ev, eqb_ev, eqn_ev, nei_ev, nes_ev, lenT_ev, abs_ev, int_ev, intb_ev, setl, setLO, bindG, mgName, mgTup, mgCons, mgNil, ixT0, ixT1, ixT2, setl, e1, truthM, mFld_ev, fd, ln, idx_ev, ix, c1, c2, hp, h2]
theorem allpl_go {S : Sto} {n c : Nat} {L : List (Int × List PV)} {r : List (Nat × MO)} {ρ : PSt} (hg : S[n]? = some (grO L)) (hr : Chk r S) (h2 : 2 < ρ.length) (h0 : ρ[0]? = some (some (.cell n))) : ∀ (ps : List (Nat × Nat)), (∀ x ∈ ps, InL L x) →
    gaGo false r (mgName 2) mYes (mMeth "Graph" "is_place" 2 m_Graph_is_place (mVar 0) (mCons (mVar 2) mNil)) [2] ρ (ps.map plY) S = .ok (.bl true) S
  | [], _ => gaR_nil hr
  | x :: ps, h => by
    have q2 : (ρ.set 2 (some (plY x)))[2]? = some (some (plY x)) := List.getElem?_set_self h2
    have q0 : (ρ.set 2 (some (plY x)))[0]? = some (some (.cell n)) := by rw [List.getElem?_set_ne (by decide)]; exact h0
    have io := insOf_ev (cs := ["Graph"]) hg (by decide)
    have ip := isplace_ev hg (h x List.mem_cons_self)
    have lk : (List.lookup ("is_place" : Str) [(("procedures" : Str), PV.tup (L.map pp))]).isNone = true := rfl
    rw [List.map_cons, gaR_cons hr]
    simp only [mMeth_ev, mCons_ev, mNil_ev, mVar_ev q0, mVar_ev q2, bind_ok, io, lk, List.length_cons, List.length_nil, if_true, ip, sb_ok, Bool.true_eq_false, if_false]
    exact allpl_go (c := c) hg hr h2 h0 ps fun y hy => h y (List.mem_cons_of_mem _ hy)
abbrev rej : PV := .tup [.str "reject"]
def rjR (ps : List (Nat × Nat)) (p : Nat) : Nat → List PV → List PV
  | _, [] => []
  | i, q :: qs => (if (p, i) ∈ ps then rej else q) :: rjR ps p (i + 1) qs
def rjL (ps : List (Nat × Nat)) : Nat → List (Int × List PV) → List (Int × List PV)
  | _, [] => []
  | p, x :: xs => (x.1, rjR ps p 0 x.2) :: rjL ps (p + 1) xs
theorem rjR_len {ps : List (Nat × Nat)} {p : Nat} : ∀ {qs : List PV} {i : Nat}, (rjR ps p i qs).length = qs.length
  | [], _ => rfl
  | q :: qs, i => by simp [rjR, rjR_len]
theorem rjL_len {ps : List (Nat × Nat)} : ∀ {L : List (Int × List PV)} {p : Nat}, (rjL ps p L).length = L.length
  | [], _ => rfl
  | x :: xs, p => by simp [rjL, rjL_len]
theorem rjR_mem {ps : List (Nat × Nat)} {p : Nat} {P : PV → Prop} (hr : P rej) : ∀ {qs : List PV} {i : Nat}, (∀ q ∈ qs, P q) → ∀ q ∈ rjR ps p i qs, P q
  | [], _, _, _, h => nomatch h
  | q :: qs, i, h, y, hy => by
    rcases List.mem_cons.mp hy with rfl | hy
    · split
      · exact hr
      · exact h q List.mem_cons_self
    · exact rjR_mem hr (fun z hz => h z (List.mem_cons_of_mem _ hz)) y hy
theorem rjL_fst {ps : List (Nat × Nat)} : ∀ {L : List (Int × List PV)} {p : Nat}, (rjL ps p L).map (·.1) = L.map (·.1)
  | [], _ => rfl
  | x :: xs, p => by simp [rjL, rjL_fst]
theorem rjL_mem {ps : List (Nat × Nat)} : ∀ {L : List (Int × List PV)} {p : Nat} {y : Int × List PV}, y ∈ rjL ps p L → ∃ x ∈ L, ∃ k, y = (x.1, rjR ps k 0 x.2)
  | [], _, _, h => nomatch h
  | x :: xs, p, y, h => by
    rcases List.mem_cons.mp h with rfl | h
    · exact ⟨x, List.mem_cons_self, p, rfl⟩
    · obtain ⟨z, hz, k, e⟩ := rjL_mem h
      exact ⟨z, List.mem_cons_of_mem _ hz, k, e⟩
theorem GL.rej {k w : Nat} {L : List (Int × List PV)} {ps : List (Nat × Nat)} (h : GL k w L) : GL k w (rjL ps 0 L) := by
  refine ⟨by rw [rjL_len]; exact h.l1, by rw [rjL_len]; exact h.l2, fun y hy => ?_⟩
  obtain ⟨x, hx, p, rfl⟩ := rjL_mem hy
  obtain ⟨a, b, c, d, e⟩ := h.row x hx
  refine ⟨a, b, by show 1 ≤ (rjR ps p 0 x.2).length; rw [rjR_len]; exact c, by show (rjR ps p 0 x.2).length ≤ w; rw [rjR_len]; exact d, ?_⟩
  rw [rjL_fst]
  intro pt hpt
  show PtOk _ x.1 ((rjR ps p 0 x.2).length : Nat) pt
  rw [rjR_len]
  exact rjR_mem (P := fun q => PtOk (L.map (·.1)) x.1 (x.2.length : Nat) q) (.inr (.inr (.inr (.inr (.inr (.inl rfl)))))) (fun q hq => e q hq) pt hpt
/-- once more changes nothing -/
theorem rjR_two {ps : List (Nat × Nat)} {p : Nat} : ∀ {qs : List PV} {i : Nat}, rjR ps p i (rjR ps p i qs) = rjR ps p i qs
  | [], _ => rfl
  | q :: qs, i => by
    simp only [rjR, rjR_two]
    split <;> rfl
theorem rjL_two {ps : List (Nat × Nat)} : ∀ {L : List (Int × List PV)} {p : Nat}, rjL ps p (rjL ps p L) = rjL ps p L
  | [], _ => rfl
  | x :: xs, p => by simp only [rjL, rjL_two, rjR_two]

def rjF (ps : List (Nat × Nat)) (k : Nat) : PV → PV
  | .tup [.int i, q] => if (k, i.toNat) ∈ ps then rej else q
  | _ => .non
theorem rjF_map {ps : List (Nat × Nat)} {k : Nat} : ∀ (qs : List PV) (i : Nat), (enumP i qs).map (rjF ps k) = rjR ps k i qs
  | [], _ => rfl
  | q :: qs, i => by
    show rjF ps k (.tup [.int (i : Nat), q]) :: (enumP (i + 1) qs).map (rjF ps k) = _
    rw [rjF_map qs (i + 1)]
    simp [rjF, rjR]
theorem enumP_mem : ∀ (qs : List PV) (i : Nat) (z : PV), z ∈ enumP i qs → ∃ (j : Nat) (q : PV), z = .tup [.int (j : Nat), q]
  | [], _, _, h => nomatch h
  | q :: qs, i, z, h => by
    rcases List.mem_cons.mp (show z ∈ PV.tup [.int (i : Nat), q] :: enumP (i + 1) qs from h) with rfl | h
    · exact ⟨i, q, rfl⟩
    · exact enumP_mem qs (i + 1) z h
noncomputable def rjB : MS := (mSeq (mAsg (mLc (mItA enumAM (mCons (mVar 6) mNil)) (mgTup 2 (mgCons (mgName 8) (mgCons (mgName 9) mgNil))) mYes (mIfE (mTst (m2 (inM false) (mTup (mCons (mVar 4) (mCons (mVar 8) mNil))) (mVar 1))) (mTup (mCons (mC (PV.str "reject")) mNil)) (mVar 9)) [8, 9]) (mgName 7))
    (mExp (mBM lstQ appendM (mVar 3) (mCons (mTup (mCons (mVar 5) (mCons (mCall tupleM (mCons (mVar 7) mNil)) mNil))) mNil))))
def rjT : MG := (mgTup 2 (mgCons (mgName 4) (mgCons (mgTup 2 (mgCons (mgName 5) (mgCons (mgName 6) mgNil))) mgNil)))
theorem rj_go {G : PV} {ps : List (Nat × Nat)} {cp cf : Nat} (hl : ps.length ≤ 100) (ne : cp ≠ cf) : ∀ (W : List (Int × List PV)) (k : Nat) (acc : List (Int × List PV)) (x2 x4 x5 x6 x7 : Option PV) {T : Sto}, T[cp]? = some (.lst (ps.map plY)) → T[cf]? = some (.lst (acc.map pp)) → (∀ x ∈ W, x.2.length ≤ 900) → acc.length + W.length ≤ 900 →
    ∃ (y4 y5 y6 y7 : Option PV) (T' : Sto), forGo [] rjT rjB (enumP k (W.map pp)) [some G, some (.cell cp), x2, some (.cell cf), x4, x5, x6, x7, none, none] T = .nx [some G, some (.cell cp), x2, some (.cell cf), y4, y5, y6, y7, none, none] T' ∧
      T'[cf]? = some (.lst ((acc ++ rjL ps k W).map pp)) ∧ T.length ≤ T'.length ∧ ∀ j, j < T.length → j ≠ cf → T'[j]? = T[j]?
  | [], k, acc, x2, x4, x5, x6, x7, T, h1, h2, _, _ => ⟨x4, x5, x6, x7, T, go_nil, by simpa [rjL] using h2, Nat.le_refl _, fun _ _ _ => rfl⟩
  | x :: xs, k, acc, x2, x4, x5, x6, x7, T, h1, h2, h3, h4 => by
    obtain ⟨e, qs⟩ := x
    have ql := h3 (e, qs) List.mem_cons_self
    have cpl := (List.getElem?_eq_some_iff.mp h1).1
    have cfl := (List.getElem?_eq_some_iff.mp h2).1
    have sl : (1000 : Nat) ≤ sizeLine := by decide
    have lc := lcGo_map (S := T) (t := (mgTup 2 (mgCons (mgName 8) (mgCons (mgName 9) mgNil)))) (te := (mIfE (mTst (m2 (inM false) (mTup (mCons (mVar 4) (mCons (mVar 8) mNil))) (mVar 1))) (mTup (mCons (mC (PV.str "reject")) mNil)) (mVar 9))) (vs := [8, 9])
      (ρ := [some G, some (.cell cp), x2, some (.cell cf), some (.int (k : Nat)), some (.int e), some (.tup qs), x7, none, none]) (f := rjF ps k) (P := fun _ => True) (enumP 0 qs) [] (by rw [enumP_len]; simp only at ql; simp; omega) trivial
      (fun z hz a _ => by
        obtain ⟨j, q, rfl⟩ := enumP_mem qs 0 z hz
        refine ⟨trivial, [(8, .int (j : Nat)), (9, q)], rfl, by simp, ?_⟩
        have g1 : (T ++ [MO.lst a])[cp]? = some (.lst (ps.map plY)) := by rw [List.getElem?_append_left cpl]; exact h1
        have ip := in_pls (neg := false) (x := (k, j)) g1 hl
        have ip' : inM false (.tup [.int (k : Nat), .int (j : Nat)]) (.cell cp) (T ++ [.lst a]) = .ok (.bl (decide ((k, j) ∈ ps))) (T ++ [.lst a]) := by
          have : inM false (.tup [.int (k : Nat), .int (j : Nat)]) (.cell cp) (T ++ [.lst a]) = .ok (.bl (false ^^ decide ((k, j) ∈ ps))) (T ++ [.lst a]) := ip
          rw [this]; simp
        have ff : rjF ps k (.tup [.int (j : Nat), q]) = if (k, j) ∈ ps then rej else q := by simp [rjF]
        rw [ff]
        generalize T ++ [MO.lst a] = T1 at ip' ⊢
        by_cases m : (k, j) ∈ ps
        · rw [decide_eq_true m] at ip'
          rw [if_pos m]
          simp -implicitDefEqProofs [callD_ev, mSeq_ev, mIf_ev, mRet_ev, mExp_ev, mAsgN_ev, mAsg_ev, mPar_ev, mPar3_ev, mSetL_ev, mNx_ev, mBk_ev, mCt_ev, mRetN_ev, mRaise_ev, m2_ev, mC_ev, mVar, mTst_ev, mTru_ev, mCh_ev, mIsN_ev, mAndT_ev, mOrT_ev, mNotT_ev, mAndV_ev, mOrV_ev, mNotV_ev, mIfE_ev, mNeg_ev, mNil_ev, mCons_ev, mTup_ev, mLst_ev, mCall_ev, mIsi_ev, mApp_ev, mAllWh_ev, mSl_ev, mNoP_ev, mPart_ev, mFor_ev, mItA_ev, mItE_ev, mLc_ev, mYes_ev, add_ev, sub_ev, lt_ev, le_ev, gt_ev, ge_ev, eqi_ev, eqs_ev, eqb_ev, eqn_ev, nei_ev, nes_ev, lenT_ev, abs_ev, int_ev, intb_ev, setl, setLO, bindG, mgName, mgTup, mgCons, mgNil, ixT0, ixT1, ixT2, wipeP, setl, ip']
        · rw [decide_eq_false m] at ip'
          rw [if_neg m]
          simp -implicitDefEqProofs [callD_ev, mSeq_ev, mIf_ev, mRet_ev, mExp_ev, mAsgN_ev, mAsg_ev, mPar_ev, mPar3_ev, mSetL_ev, mNx_ev, mBk_ev, mCt_ev, mRetN_ev, mRaise_ev, m2_ev, mC_ev, mVar, mTst_ev, mTru_ev, mCh_ev, mIsN_ev, mAndT_ev, mOrT_ev, mNotT_ev, mAndV_ev, mOrV_ev, mNotV_ev, mIfE_ev, mNeg_ev, mNil_ev, mCons_ev, mTup_ev, mLst_ev, mCall_ev, mIsi_ev, mApp_ev, mAllWh_ev, mSl_ev, mNoP_ev, mPart_ev, mFor_ev, mItA_ev, mItE_ev, mLc_ev, mYes_ev, add_ev, sub_ev, lt_ev, le_ev, gt_ev, ge_ev, eqi_ev, eqs_ev, eqb_ev, eqn_ev, nei_ev, nes_ev, lenT_ev, abs_ev, int_ev, intb_ev, setl, setLO, bindG, mgName, mgTup, mgCons, mgNil, ixT0, ixT1, ixT2, wipeP, setl, ip'])
    rw [rjF_map, List.nil_append] at lc
    have g2 : (T ++ [MO.lst (rjR ps k 0 qs)])[cf]? = some (.lst (acc.map pp)) := by rw [List.getElem?_append_left cfl]; exact h2
    have gz : (T ++ [MO.lst (rjR ps k 0 qs)])[T.length]? = some (.lst (rjR ps k 0 qs)) := by simp
    have tp : tupleM [.cell T.length] (T ++ [.lst (rjR ps k 0 qs)]) = .ok (.tup (rjR ps k 0 qs)) (T ++ [.lst (rjR ps k 0 qs)]) := by simp only [tupleM, gz]
    have lq := lstQ_ev g2
    have ap := append_ev (y := pp (e, rjR ps k 0 qs)) g2 (Nat.lt_of_lt_of_le (by simp; simp at h4; omega : (acc.map pp).length < 1000) sl)
    rw [show acc.map pp ++ [pp (e, rjR ps k 0 qs)] = (acc ++ [(e, rjR ps k 0 qs)]).map pp by simp] at ap
    have ap' : appendM (.cell cf) [.tup [.int e, .tup (rjR ps k 0 qs)]] (T ++ [.lst (rjR ps k 0 qs)]) = .ok .non ((T ++ [MO.lst (rjR ps k 0 qs)]).set cf (.lst ((acc ++ [(e, rjR ps k 0 qs)]).map pp))) := ap
    obtain ⟨y4, y5, y6, y7, T', e1, e2, e3, e4⟩ := rj_go (G := G) hl ne xs (k + 1) (acc ++ [(e, rjR ps k 0 qs)]) x2 (some (.int (k : Nat))) (some (.int e)) (some (.tup qs)) (some (.cell T.length)) (T := (T ++ [MO.lst (rjR ps k 0 qs)]).set cf (.lst ((acc ++ [(e, rjR ps k 0 qs)]).map pp)))
      (by rw [List.getElem?_set_ne (Ne.symm ne), List.getElem?_append_left cpl]; exact h1) (List.getElem?_set_self (by simp; omega)) (fun y hy => h3 y (List.mem_cons_of_mem _ hy)) (by simp at h4 ⊢; omega)
    refine ⟨y4, y5, y6, y7, T', ?_, by rw [e2]; simp [rjL], by simp at e3; omega, fun j hj nj => ?_⟩
    · show forGo [] rjT rjB (.tup [.int (k : Nat), pp (e, qs)] :: enumP (k + 1) (xs.map pp)) _ T = _
      rw [go_cons, bindG_ev (l := [(4, .int (k : Nat)), (5, .int e), (6, .tup qs)]) rfl, ← e1]
      have hb : rjB (setl [some G, some (.cell cp), x2, some (.cell cf), x4, x5, x6, x7, none, none] [(4, .int (k : Nat)), (5, .int e), (6, .tup qs)]) T = .nx [some G, some (.cell cp), x2, some (.cell cf), some (.int (k : Nat)), some (.int e), some (.tup qs), some (.cell T.length), none, none] ((T ++ [MO.lst (rjR ps k 0 qs)]).set cf (.lst ((acc ++ [(e, rjR ps k 0 qs)]).map pp))) := by
        generalize (T ++ [MO.lst (rjR ps k 0 qs)]).set cf (.lst ((acc ++ [(e, rjR ps k 0 qs)]).map pp)) = T3 at ap' ⊢
        generalize T ++ [MO.lst (rjR ps k 0 qs)] = T2 at lc tp lq ap'
        unfold rjB
        simp -implicitDefEqProofs [callD_ev, mSeq_ev, mIf_ev, mRet_ev, mExp_ev, mAsgN_ev, mAsg_ev, mPar_ev, mPar3_ev, mSetL_ev, mNx_ev, mBk_ev, mCt_ev, mRetN_ev, mRaise_ev, m2_ev, mC_ev, mVar, mTst_ev, mTru_ev, mCh_ev, mIsN_ev, mAndT_ev, mOrT_ev, mNotT_ev, mAndV_ev, mOrV_ev, mNotV_ev, mIfE_ev, mNeg_ev, mNil_ev, mCons_ev, mTup_ev, mLst_ev, mCall_ev, mIsi_ev, mApp_ev, mAllWh_ev, mSl_ev, mNoP_ev, mPart_ev, mFor_ev, mItA_ev, mItE_ev, mLc_ev, mYes_ev, add_ev, sub_ev, lt_ev, le_ev, gt_ev, ge_ev, eqi_ev, eqs_ev, eqb_ev, eqn_ev, nei_ev, nes_ev, lenT_ev, abs_ev, int_ev, intb_ev, setl, setLO, bindG, mgName, mgTup, mgCons, mgNil, ixT0, ixT1, ixT2, setl, enumA_ev, lc, mBM_ev, lq, tp, ap']
      rw [hb, loopE_nx]
    · rw [e4 j (by simp; omega) nj, List.getElem?_set_ne (Ne.symm nj), List.getElem?_append_left hj]
theorem rejecting_ev {S : Sto} {n cp : Nat} {L : List (Int × List PV)} {ps : List (Nat × Nat)} (g : GL 3 5 L) (hg : S[n]? = some (grO L)) (hc : S[cp]? = some (.lst (ps.map plY))) (hl : ps.length ≤ 100) (hp : ∀ x ∈ ps, InL L x) :
    ∃ m S', m_rejecting [.cell n, .cell cp] S = .ok (.cell m) S' ∧ S'[m]? = some (grO (rjL ps 0 L)) ∧ S.length ≤ m ∧ S.length ≤ S'.length ∧ ∀ j, j < S.length → S'[j]? = S[j]? := by
  have nl := (List.getElem?_eq_some_iff.mp hg).1
  have cpl := (List.getElem?_eq_some_iff.mp hc).1
  have g1 := g.l1
  have g2 := g.l2
  have fd : ∀ T : Sto, T[n]? = some (grO L) → fldM ["Graph"] "procedures" (.cell n) T = .ok (.tup (L.map pp)) T := fun T h => fld_ev (f := "procedures") (cs := ["Graph"]) (y := .tup (L.map pp)) h (by decide) rfl
  have hg1 : (S ++ [MO.lst []])[n]? = some (grO L) := by rw [List.getElem?_append_left nl]; exact hg
  have fd1 := fd _ hg1
  have ck : m_check_graph [.cell n] S = .ok .non S := by
    have ic := isC_yes hg
    unfold m_check_graph
    simp -implicitDefEqProofs [callD_ev, mSeq_ev, mIf_ev, mRet_ev, mExp_ev, mAsgN_ev, mAsg_ev, mPar_ev, mPar3_ev, mSetL_ev, mNx_ev, mBk_ev, mCt_ev, mRetN_ev, mRaise_ev, m2_ev, mC_ev, mVar, mTst_ev, mTru_ev, mCh_ev, mIsN_ev, mAndT_ev, mOrT_ev, mNotT_ev, mAndV_ev, mOrV_ev, mNotV_ev, mIfE_ev, mNeg_ev, mNil_ev, mCons_ev, mTup_ev, mLst_ev, mCall_ev, mIsi_ev, mApp_ev, mAllWh_ev, mSl_ev, mNoP_ev, mPart_ev, mFor_ev, mItA_ev, mItE_ev, mLc_ev, mYes_ev, add_ev, sub_ev, lt_ev, le_ev, gt_ev, ge_ev, eqi_ev, eqs_ev, eqb_ev, eqn_ev, nei_ev, nes_ev, lenT_ev, abs_ev, int_ev, intb_ev, ixM, atP, ixN, setl, setLO, bindG, mgName, mgTup, mgCons, mgNil, mIsC_ev, ic, truthM]
  have e1 := fun T => isi_ev (T := T) (x := .cell cp) (S := S) (t := "list") (by simp [tyP, hc])
  have itO : itOf (.cell cp) S = some ⟨ps.map plY, [(cp, .lst (ps.map plY))]⟩ := by simp [itOf, hc]
  have ckc : Chk [(cp, .lst (ps.map plY))] S := fun q hq => by rw [List.mem_singleton.mp hq]; exact hc
  have al := allpl_go (c := cp) (ρ := [some (.cell n), some (.cell cp), none, none, none, none, none, none, none, none]) hg ckc (by simp) rfl ps hp
  obtain ⟨y4, y5, y6, y7, T', f1, f2, f3, f4⟩ := rj_go (G := .cell n) (ps := ps) (cp := cp) (cf := S.length) hl (by omega) L 0 [] none none none none none (T := S ++ [.lst []]) (by rw [List.getElem?_append_left cpl]; exact hc) (by simp) (fun x hx => by have := (g.row x hx).2.2.2.1; omega) (by simp; omega)
  rw [List.nil_append] at f2
  have f3' : S.length + 1 ≤ T'.length := by simpa using f3
  have tp : tupleM [.cell S.length] T' = .ok (.tup ((rjL ps 0 L).map pp)) T' := by simp only [tupleM, f2]
  have ok := (g.rej (ps := ps)).ok (by decide) (by decide) (by decide)
  have mk := make_ok (S := T') ok.l1 ok.l2 ok.hp ok.hs ok.h2
  have gk : ∀ T, gcS S.length [.cell T'.length] T = T := fun T => gc_keep (by omega)
  have last : (T' ++ [grO (rjL ps 0 L)])[T'.length]? = some (grO (rjL ps 0 L)) := by simp
  refine ⟨T'.length, T' ++ [grO (rjL ps 0 L)], ?_, last, by omega, by simp; omega, fun j hj => ?_⟩
  · unfold rjT rjB at f1
    generalize T' ++ [grO (rjL ps 0 L)] = T2 at mk last ⊢
    generalize (rjL ps 0 L).map pp = P2 at tp mk
    generalize L.map pp = P at fd1 f1
    unfold m_rejecting
    simp -implicitDefEqProofs [callD_ev, mSeq_ev, mIf_ev, mRet_ev, mExp_ev, mAsgN_ev, mAsg_ev, mPar_ev, mPar3_ev, mSetL_ev, mNx_ev, mBk_ev, mCt_ev, mRetN_ev, mRaise_ev, m2_ev, mC_ev, mVar, mTst_ev, mTru_ev, mCh_ev, mIsN_ev, mAndT_ev, mOrT_ev, mNotT_ev, mAndV_ev, mOrV_ev, mNotV_ev, mIfE_ev, mNeg_ev, mNil_ev, mCons_ev, mTup_ev, mLst_ev, mCall_ev, mIsi_ev, mApp_ev, mAllWh_ev, mSl_ev, mNoP_ev, mPart_ev, mFor_ev, mItA_ev, mItE_ev, mLc_ev, mYes_ev, add_ev, sub_ev, lt_ev, le_ev, gt_ev, ge_ev, eqi_ev, eqs_ev, eqb_ev, eqn_ev, nei_ev, nes_ev, lenT_ev, abs_ev, int_ev, intb_ev, setl, setLO, bindG, mgName, mgTup, mgCons, mgNil, ixT0, ixT1, ixT2, ck, e1, truthM, mGA_ev, itO, al, mFld_ev, fd1, enumA_ev, f1, tp, mMake_ev, mk, gk]
  · rw [List.getElem?_append_left (by omega), f4 j (by simp; omega) (by omega), List.getElem?_append_left hj]

section
variable {ns : List Int} {s l : Nat} {S : Sto}
theorem lplace_ev {L : List (Int × List PV)} (g : GL 3 5 L) (h : Dst ns s l S) : ∃ x S', InL L x ∧ Up s l S S' ∧ m_l_place [.cell s, .tup (L.map pp)] S = .ok (plY x) S' := by
  have g1 := g.l1
  have g2 := g.l2
  obtain ⟨d, S1, a, b, h1, u1, e1⟩ := h.nx (m := (L.length : Nat)) (by omega) (log_b (b := 10) (by omega))
  obtain ⟨p, rfl⟩ : ∃ p : Nat, (p : Int) = d := ⟨d.toNat, by omega⟩
  obtain ⟨row, hr⟩ : ∃ row, L[p]? = some row := ⟨_, List.getElem?_eq_getElem (by omega)⟩
  have rr := g.row row (List.mem_of_getElem? hr)
  obtain ⟨f, S2, a2, b2, h2, u2, e2⟩ := h1.nx (m := (row.2.length : Nat)) (by omega) (log_b (b := 10) (by omega))
  obtain ⟨i, rfl⟩ : ∃ i : Nat, (i : Int) = f := ⟨f.toNat, by omega⟩
  have ix : ∀ T, ixM (.tup (L.map pp)) (.int (p : Nat)) T = .ok (.tup [.int row.1, .tup row.2]) T := hpx (by rw [List.getElem?_map, hr]; rfl)
  have ln : ∀ T, lenM [.tup (L.map pp)] T = .ok (.int (L.length : Nat)) T := fun T => by rw [lenT_ev, List.length_map]
  have us := u1.trans u2
  have gc : gcS S.length [plY (p, i)] S2 = S2 := gc_up0 h us rfl
  refine ⟨(p, i), S2, ⟨row, hr, by show i < row.2.length; omega⟩, us, ?_⟩
  unfold plY plX at gc ⊢
  generalize L.map pp = P at ix ln ⊢
  unfold m_l_place
  simp -implicitDefEqProofs [callD_ev, mSeq_ev, mIf_ev, mRet_ev, mExp_ev, mAsgN_ev, mAsg_ev, mPar_ev, mPar3_ev, mSetL_ev, mNx_ev, mBk_ev, mCt_ev, mRetN_ev, mRaise_ev, m2_ev, mC_ev, mVar, mTst_ev, mTru_ev, mCh_ev, mIsN_ev, mAndT_ev, mOrT_ev, mNotT_ev, mAndV_ev, mOrV_ev, mNotV_ev, mIfE_ev, mNeg_ev, mNil_ev, mCons_ev, mTup_ev, mLst_ev, mCall_ev, mIsi_ev, mApp_ev, mAllWh_ev, mSl_ev, mNoP_ev, mPart_ev, mFor_ev, mItA_ev, mItE_ev, mLc_ev, mYes_ev, add_ev, sub_ev, lt_ev, le_ev, gt_ev, ge_ev, eqi_ev, eqs_ev, eqb_ev, eqn_ev, nei_ev, nes_ev, lenT_ev, abs_ev, int_ev, intb_ev, setl, setLO, bindG, mgName, mgTup, mgCons, mgNil, ixT0, ixT1, ixT2, ln, e1, ix, e2, gc]
end
noncomputable def duB : MS := (mExp (mBM lstQ appendM (mVar 9) (mCons (mIfE (mTst (m2 (inM false) (mTup (mCons (mVar 8) (mCons (mVar 10) mNil))) (mVar 4))) (mTup (mCons (mC (PV.str "reject")) mNil)) (m2 ixM (m2 ixM (m2 ixM (mVar 2) (mVar 8)) (mC (PV.int 1))) (mVar 10))) mNil)))
theorem dui_go {S : Sto} {ps : List (Nat × Nat)} {cp p : Nat} {P qs : List PV} {e : Int} {x0 x1 x3 x5 x6 x7 : Option PV} (hl : ps.length ≤ 100) (hc : S[cp]? = some (.lst (ps.map plY))) (hp : P[p]? = some (.tup [.int e, .tup qs])) :
    ∀ (rest : List PV) (i : Nat) (acc : List PV) (x10 : Option PV), qs.drop i = rest → acc.length + rest.length ≤ 900 →
    ∃ y10, forGo [] (mgName 10) duB (rngP (i : Nat) rest.length) [x0, x1, some (.tup P), x3, some (.cell cp), x5, x6, x7, some (.int (p : Nat)), some (.cell S.length), x10, none] (S ++ [.lst acc]) =
      .nx [x0, x1, some (.tup P), x3, some (.cell cp), x5, x6, x7, some (.int (p : Nat)), some (.cell S.length), y10, none] (S ++ [.lst (acc ++ rjR ps p i rest)])
  | [], i, acc, x10, _, _ => ⟨x10, by simp [rngP, go_nil, rjR]⟩
  | q :: rest, i, acc, x10, hd, hz => by
    have hq : qs[i]? = some q := by
      have := congrArg (·[0]?) hd
      simpa using this
    have hd2 : qs.drop (i + 1) = rest := by rw [← List.drop_drop, hd]; rfl
    obtain ⟨y10, e1⟩ := dui_go (x0 := x0) (x1 := x1) (x3 := x3) (x5 := x5) (x6 := x6) (x7 := x7) hl hc hp rest (i + 1) (acc ++ [if (p, i) ∈ ps then rej else q]) (some (.int (i : Nat))) hd2 (by simp at hz ⊢; omega)
    refine ⟨y10, ?_⟩
    rw [List.length_cons, rngP_cons, go_consN, show ((i : Nat) : Int) + 1 = ((i + 1 : Nat) : Int) by simp]
    show _ = Ot.nx _ (S ++ [.lst (acc ++ ((if (p, i) ∈ ps then rej else q) :: rjR ps p (i + 1) rest))])
    rw [show acc ++ ((if (p, i) ∈ ps then rej else q) :: rjR ps p (i + 1) rest) = acc ++ [if (p, i) ∈ ps then rej else q] ++ rjR ps p (i + 1) rest by simp, ← e1]
    have cpl := (List.getElem?_eq_some_iff.mp hc).1
    have g1 : (S ++ [MO.lst acc])[S.length]? = some (.lst acc) := by simp
    have gc : (S ++ [MO.lst acc])[cp]? = some (.lst (ps.map plY)) := by rw [List.getElem?_append_left cpl]; exact hc
    have ip : inM false (.tup [.int (p : Nat), .int (i : Nat)]) (.cell cp) (S ++ [.lst acc]) = .ok (.bl (decide ((p, i) ∈ ps))) (S ++ [.lst acc]) := by
      have : inM false (.tup [.int (p : Nat), .int (i : Nat)]) (.cell cp) (S ++ [.lst acc]) = .ok (.bl (false ^^ decide ((p, i) ∈ ps))) (S ++ [.lst acc]) := in_pls (neg := false) (x := (p, i)) gc hl
      rw [this]; simp
    have ix : ∀ T, ixM (.tup P) (.int (p : Nat)) T = .ok (.tup [.int e, .tup qs]) T := hpx hp
    have iq : ∀ T, ixM (.tup qs) (.int (i : Nat)) T = .ok q T := fun T => ixT_ev (atP_nat hq)
    have lq := lstQ_ev g1
    have sz : acc.length < sizeLine := Nat.lt_of_lt_of_le (by simp at hz; omega : acc.length < 1000) (by decide)
    have ap := append_ev (y := if (p, i) ∈ ps then rej else q) g1 sz
    rw [show (S ++ [MO.lst acc]).set S.length (.lst (acc ++ [if (p, i) ∈ ps then rej else q])) = S ++ [.lst (acc ++ [if (p, i) ∈ ps then rej else q])] by simp] at ap
    have hb : duB ([x0, x1, some (.tup P), x3, some (.cell cp), x5, x6, x7, some (.int (p : Nat)), some (.cell S.length), x10, none].set 10 (some (.int (i : Nat)))) (S ++ [.lst acc]) = .nx [x0, x1, some (.tup P), x3, some (.cell cp), x5, x6, x7, some (.int (p : Nat)), some (.cell S.length), some (.int (i : Nat)), none] (S ++ [.lst (acc ++ [if (p, i) ∈ ps then rej else q])]) := by
      generalize S ++ [MO.lst (acc ++ [if (p, i) ∈ ps then rej else q])] = T3 at ap ⊢
      generalize S ++ [MO.lst acc] = T2 at ip lq ap ⊢
      unfold duB
      by_cases m : (p, i) ∈ ps
      · rw [decide_eq_true m] at ip
        rw [if_pos m] at ap
        simp -implicitDefEqProofs [callD_ev, mSeq_ev, mIf_ev, mRet_ev, mExp_ev, mAsgN_ev, mAsg_ev, mPar_ev, mPar3_ev, mSetL_ev, mNx_ev, mBk_ev, mCt_ev, mRetN_ev, mRaise_ev, m2_ev, mC_ev, mVar, mTst_ev, mTru_ev, mCh_ev, mIsN_ev, mAndT_ev, mOrT_ev, mNotT_ev, mAndV_ev, mOrV_ev, mNotV_ev, mIfE_ev, mNeg_ev, mNil_ev, mCons_ev, mTup_ev, mLst_ev, mCall_ev, mIsi_ev, mApp_ev, mAllWh_ev, mSl_ev, mNoP_ev, mPart_ev, mFor_ev, mItA_ev, mItE_ev, mLc_ev, mYes_ev, add_ev, sub_ev, lt_ev, le_ev, gt_ev, ge_ev, eqi_ev, eqs_ev, eqb_ev, eqn_ev, nei_ev, nes_ev, lenT_ev, abs_ev, int_ev, intb_ev, setl, setLO, bindG, mgName, mgTup, mgCons, mgNil, ixT0, ixT1, ixT2, mBM_ev, lq, ip, ap]
      · rw [decide_eq_false m] at ip
        rw [if_neg m] at ap
        simp -implicitDefEqProofs [callD_ev, mSeq_ev, mIf_ev, mRet_ev, mExp_ev, mAsgN_ev, mAsg_ev, mPar_ev, mPar3_ev, mSetL_ev, mNx_ev, mBk_ev, mCt_ev, mRetN_ev, mRaise_ev, m2_ev, mC_ev, mVar, mTst_ev, mTru_ev, mCh_ev, mIsN_ev, mAndT_ev, mOrT_ev, mNotT_ev, mAndV_ev, mOrV_ev, mNotV_ev, mIfE_ev, mNeg_ev, mNil_ev, mCons_ev, mTup_ev, mLst_ev, mCall_ev, mIsi_ev, mApp_ev, mAllWh_ev, mSl_ev, mNoP_ev, mPart_ev, mFor_ev, mItA_ev, mItE_ev, mLc_ev, mYes_ev, add_ev, sub_ev, lt_ev, le_ev, gt_ev, ge_ev, eqi_ev, eqs_ev, eqb_ev, eqn_ev, nei_ev, nes_ev, lenT_ev, abs_ev, int_ev, intb_ev, setl, setLO, bindG, mgName, mgTup, mgCons, mgNil, ixT0, ixT1, ixT2, mBM_ev, lq, ip, ix, iq, ap]
    rw [hb, loopE_nx]
noncomputable def duO : MS := (mSeq (mAsg (mLst mNil) (mgName 9))
    (mSeq (mFor (mItA rng1 (mCons (mCall lenM (mCons (m2 ixM (m2 ixM (mVar 2) (mVar 8)) (mC (PV.int 1))) mNil)) mNil)) (mgName 10) (mExp (mBM lstQ appendM (mVar 9) (mCons (mIfE (mTst (m2 (inM false) (mTup (mCons (mVar 8) (mCons (mVar 10) mNil))) (mVar 4))) (mTup (mCons (mC (PV.str "reject")) mNil)) (m2 ixM (m2 ixM (m2 ixM (mVar 2) (mVar 8)) (mC (PV.int 1))) (mVar 10))) mNil))))
    (mExp (mBM lstQ appendM (mVar 7) (mCons (mTup (mCons (m2 ixM (m2 ixM (mVar 2) (mVar 8)) (mC (PV.int 0))) (mCons (mCall tupleM (mCons (mVar 9) mNil)) mNil))) mNil)))))
theorem duo_go {ps : List (Nat × Nat)} {cp cd : Nat} {L : List (Int × List PV)} {x0 x1 x3 x5 x6 : Option PV} (hl : ps.length ≤ 100) (ne : cp ≠ cd) (hs : ∀ x ∈ L, x.2.length ≤ 800) :
    ∀ (W : List (Int × List PV)) (k : Nat) (acc : List (Int × List PV)) (x8 x9 x10 : Option PV) {T : Sto}, L.drop k = W → T[cp]? = some (.lst (ps.map plY)) → T[cd]? = some (.lst (acc.map pp)) → acc.length + W.length ≤ 900 →
    ∃ (y8 y9 y10 : Option PV) (T' : Sto), forGo [] (mgName 8) duO (rngP (k : Nat) W.length) [x0, x1, some (.tup (L.map pp)), x3, some (.cell cp), x5, x6, some (.cell cd), x8, x9, x10, none] T =
      .nx [x0, x1, some (.tup (L.map pp)), x3, some (.cell cp), x5, x6, some (.cell cd), y8, y9, y10, none] T' ∧ T'[cd]? = some (.lst ((acc ++ rjL ps k W).map pp)) ∧ T.length ≤ T'.length ∧ ∀ j, j < T.length → j ≠ cd → T'[j]? = T[j]?
  | [], k, acc, x8, x9, x10, T, _, _, h2, _ => ⟨x8, x9, x10, T, by simp [rngP, go_nil], by simpa [rjL] using h2, Nat.le_refl _, fun _ _ _ => rfl⟩
  | x :: xs, k, acc, x8, x9, x10, T, hd, h1, h2, h3 => by
    obtain ⟨e, qs⟩ := x
    have hk : L[k]? = some (e, qs) := by
      have := congrArg (·[0]?) hd
      simpa using this
    have hd2 : L.drop (k + 1) = xs := by rw [← List.drop_drop, hd]; rfl
    have ql := hs (e, qs) (List.mem_of_getElem? hk)
    have cpl := (List.getElem?_eq_some_iff.mp h1).1
    have cdl := (List.getElem?_eq_some_iff.mp h2).1
    have hp : (L.map pp)[k]? = some (.tup [.int e, .tup qs]) := by rw [List.getElem?_map, hk]; rfl
    obtain ⟨z10, e1⟩ := dui_go (x0 := x0) (x1 := x1) (x3 := x3) (x5 := x5) (x6 := x6) (x7 := some (.cell cd)) hl h1 hp qs 0 [] x10 rfl (by simp only at ql; simp; omega)
    rw [show ((0 : Nat) : Int) = 0 from rfl, List.nil_append] at e1
    have g2 : (T ++ [MO.lst (rjR ps k 0 qs)])[cd]? = some (.lst (acc.map pp)) := by rw [List.getElem?_append_left cdl]; exact h2
    have gz : (T ++ [MO.lst (rjR ps k 0 qs)])[T.length]? = some (.lst (rjR ps k 0 qs)) := by simp
    have tp : tupleM [.cell T.length] (T ++ [.lst (rjR ps k 0 qs)]) = .ok (.tup (rjR ps k 0 qs)) (T ++ [.lst (rjR ps k 0 qs)]) := by simp only [tupleM, gz]
    have lq := lstQ_ev g2
    have ap := append_ev (y := pp (e, rjR ps k 0 qs)) g2 (Nat.lt_of_lt_of_le (by simp; simp at h3; omega : (acc.map pp).length < 1000) (by decide))
    rw [show acc.map pp ++ [pp (e, rjR ps k 0 qs)] = (acc ++ [(e, rjR ps k 0 qs)]).map pp by simp] at ap
    have ap' : appendM (.cell cd) [.tup [.int e, .tup (rjR ps k 0 qs)]] (T ++ [.lst (rjR ps k 0 qs)]) = .ok .non ((T ++ [MO.lst (rjR ps k 0 qs)]).set cd (.lst ((acc ++ [(e, rjR ps k 0 qs)]).map pp))) := ap
    obtain ⟨y8, y9, y10, T', f1, f2, f3, f4⟩ := duo_go (x0 := x0) (x1 := x1) (x3 := x3) (x5 := x5) (x6 := x6) hl ne hs xs (k + 1) (acc ++ [(e, rjR ps k 0 qs)]) (some (.int (k : Nat))) (some (.cell T.length)) z10 (T := (T ++ [MO.lst (rjR ps k 0 qs)]).set cd (.lst ((acc ++ [(e, rjR ps k 0 qs)]).map pp))) hd2
      (by rw [List.getElem?_set_ne (Ne.symm ne), List.getElem?_append_left cpl]; exact h1) (List.getElem?_set_self (by simp; omega)) (by simp at h3 ⊢; omega)
    refine ⟨y8, y9, y10, T', ?_, by rw [f2]; simp [rjL], by simp at f3; omega, fun j hj nj => ?_⟩
    · rw [List.length_cons, rngP_cons, go_consN, show ((k : Nat) : Int) + 1 = ((k + 1 : Nat) : Int) by simp, ← f1]
      have ix : ∀ T, ixM (.tup (L.map pp)) (.int (k : Nat)) T = .ok (.tup [.int e, .tup qs]) T := hpx hp
      have rg : ∀ T, rng1 [.int (qs.length : Nat)] T = .ok ⟨rngP 0 qs.length, []⟩ T := fun T => by
        have := rng1_ev (S := T) (j := (qs.length : Nat)) ⟨by omega, by simp only at ql; omega⟩
        simpa using this
      have hb : duO ([x0, x1, some (.tup (L.map pp)), x3, some (.cell cp), x5, x6, some (.cell cd), x8, x9, x10, none].set 8 (some (.int (k : Nat)))) T = .nx [x0, x1, some (.tup (L.map pp)), x3, some (.cell cp), x5, x6, some (.cell cd), some (.int (k : Nat)), some (.cell T.length), z10, none] ((T ++ [MO.lst (rjR ps k 0 qs)]).set cd (.lst ((acc ++ [(e, rjR ps k 0 qs)]).map pp))) := by
        generalize (T ++ [MO.lst (rjR ps k 0 qs)]).set cd (.lst ((acc ++ [(e, rjR ps k 0 qs)]).map pp)) = T3 at ap' ⊢
        generalize T ++ [MO.lst (rjR ps k 0 qs)] = T2 at e1 tp lq ap'
        unfold duB at e1
        generalize L.map pp = P at e1 ix ⊢
        unfold duO
        simp -implicitDefEqProofs [callD_ev, mSeq_ev, mIf_ev, mRet_ev, mExp_ev, mAsgN_ev, mAsg_ev, mPar_ev, mPar3_ev, mSetL_ev, mNx_ev, mBk_ev, mCt_ev, mRetN_ev, mRaise_ev, m2_ev, mC_ev, mVar, mTst_ev, mTru_ev, mCh_ev, mIsN_ev, mAndT_ev, mOrT_ev, mNotT_ev, mAndV_ev, mOrV_ev, mNotV_ev, mIfE_ev, mNeg_ev, mNil_ev, mCons_ev, mTup_ev, mLst_ev, mCall_ev, mIsi_ev, mApp_ev, mAllWh_ev, mSl_ev, mNoP_ev, mPart_ev, mFor_ev, mItA_ev, mItE_ev, mLc_ev, mYes_ev, add_ev, sub_ev, lt_ev, le_ev, gt_ev, ge_ev, eqi_ev, eqs_ev, eqb_ev, eqn_ev, nei_ev, nes_ev, lenT_ev, abs_ev, int_ev, intb_ev, setl, setLO, bindG, mgName, mgTup, mgCons, mgNil, ixT0, ixT1, ixT2, ix, rg, e1, mBM_ev, lq, tp, ap']
      rw [hb, loopE_nx]
    · rw [f4 j (by simp; omega) nj, List.getElem?_set_ne (Ne.symm nj), List.getElem?_append_left hj]

theorem InL.rej {L : List (Int × List PV)} {ps : List (Nat × Nat)} {x : Nat × Nat} (h : InL L x) : InL (rjL ps 0 L) x := by
  obtain ⟨row, h1, h2⟩ := h
  have at_ : ∀ (W : List (Int × List PV)) (k j : Nat) (r : Int × List PV), W[j]? = some r → (rjL ps k W)[j]? = some (r.1, rjR ps (k + j) 0 r.2) := fun W => by
    induction W with
    | nil => intro k j r h; simp at h
    | cons w ws ih =>
      intro k j r h
      cases j with
      | zero => cases h; rfl
      | succ j =>
        have := ih (k + 1) j r (by simpa using h)
        rw [show k + (j + 1) = k + 1 + j by omega]
        simpa [rjL] using this
  exact ⟨_, at_ L 0 x.1 row h1, by show x.2 < (rjR ps (0 + x.1) 0 row.2).length; rw [rjR_len]; exact h2⟩
theorem eq_pls {S : Sto} {ps : List (Nat × Nat)} {c d : Nat} (h : S[c]? = some (.lst (ps.map plY))) (g : S[d]? = some (.lst (ps.map plY))) (hl : ps.length ≤ 100) : eqM (.cell c) (.cell d) S = .ok (.bl true) S := by
  have e2 : pds S 199 (ps.map plY) = some (ps.map pairD) := pds_nil (pds_pl (by omega))
  have e3 : ∀ a, S[a]? = some (.lst (ps.map plY)) → pd S 200 (.cell a) = some (.list (ps.map pairD)) := fun a ha => by
    show (match S[a]? with | some (.lst xs) => (pds S 199 xs).map PyData.list | _ => none) = _
    rw [ha]
    simp only [e2, Option.map_some]
  obtain ⟨l1, l2⟩ := pair_lay ps
  have c1 : PyData.canLay0 (.list (ps.map pairD)) = true := l1
  have s2 : SeqAt.shaped (.list (ps.map pairD)) = true := by
    unfold SeqAt.shaped
    rw [c1, Bool.true_and]
    exact decide_eq_true (by simp [PyData.depth]; omega)
  show eqvM false (.cell c) (.cell d) S = _
  unfold eqvM
  rw [e3 c h, e3 d g]
  simp only [s2, and_self, if_true, SeqAt.eqv_refl _ c1]
  rfl
theorem all2_pl {L : List (Int × List PV)} : ∀ {xs ys : List PV}, All2 (fun _ y => ∃ x, InL L x ∧ y = plY x) xs ys → ∃ ps : List (Nat × Nat), ys = ps.map plY ∧ ps.length = xs.length ∧ ∀ x ∈ ps, InL L x
  | _, _, .nil => ⟨[], rfl, rfl, fun _ h => nomatch h⟩
  | _, _, .cons ⟨x, hx, e⟩ h => by
    obtain ⟨ps, h1, h2, h3⟩ := all2_pl h
    refine ⟨x :: ps, by rw [e, h1]; rfl, by simp [h2], fun y hy => ?_⟩
    rcases List.mem_cons.mp hy with rfl | hy
    · exact hx
    · exact h3 y hy
theorem clos_pl {n : Nat} : ∀ ps : List (Nat × Nat), clos n (ps.map plY) = true
  | [] => rfl
  | _ :: ps => by
    show (true && clos n (ps.map plY)) = true
    rw [clos_pl ps]; rfl
theorem law_core {x0 : PV} {S0 S1 : Sto} {s l : Nat} {ns : List Int} {c k : Int} (e1 : m_l_stream [x0] S0 = .ok (.cell s) S1) (h : St S1 s l ns c k) (cl : Clo S1) : ∃ S', m_law [x0] S0 = .ok (.bl true) S' := by
  have h1 : Dst ns s l S1 := ⟨⟨c, k, h⟩, cl⟩
  obtain ⟨L, S2, g, u2, h2, e2⟩ := lprocedures_ev (b := true) (rc := true) h1
  have ok := g.ok (by decide) (by decide) (by decide)
  have g1 := g.l1
  have g2 := g.l2
  have mk := make_ok (S := S2) ok.l1 ok.l2 ok.hp ok.hs ok.h2
  have cL : clos 0 (L.map pp) = true := clos_all fun y hy => by
    obtain ⟨x, hx, rfl⟩ := List.mem_map.mp hy
    exact clo_pp fun pt hp => ((g.row x hx).2.2.2.2 pt hp).clo
  have h3 : Dst ns s l (S2 ++ [grO L]) := h2.app (by
    show (clos _ (L.map pp) && true) = true
    rw [clos_up (Nat.zero_le _) cL]; rfl)
  have lt := h2.lt
  have gg : (S2 ++ [grO L])[S2.length]? = some (grO L) := by simp
  obtain ⟨d4, S4', a4, b4, h4, u4', e4⟩ := h3.nx (m := 5) (by decide) (by decide)
  obtain ⟨r, hr, rg⟩ : ∃ r : Nat, ((r : Nat) : Int) = d4 ∧ ∀ T, rng1 [.int d4] T = .ok ⟨rngP 0 r, []⟩ T := ⟨d4.toNat, by omega, fun T => rng1_ev ⟨by omega, by omega⟩⟩
  obtain ⟨ys, S5, u5, al, e5⟩ := lc_draw (i := 5) (te := mApp 2 m_l_place (mCons (mVar 1) (mCons (mVar 2) mNil))) (ρ := [some x0, some (.cell s), some (.tup (L.map pp)), some (.cell S2.length), none, none, none, none, none, none, none, none]) (P := fun _ y => ∃ x, InL L x ∧ y = plY x) (fun _ y ⟨x, _, e⟩ => by rw [e]; rfl) (rngP 0 r) h4 (by simp; omega)
    (fun x hx T hT _ => by
      obtain ⟨z, T2, q1, q2, q3⟩ := lplace_ev g hT
      refine ⟨plY z, T2, ⟨z, q1, rfl⟩, q2, ?_⟩
      simp -implicitDefEqProofs [callD_ev, mSeq_ev, mIf_ev, mRet_ev, mExp_ev, mAsgN_ev, mAsg_ev, mPar_ev, mPar3_ev, mSetL_ev, mNx_ev, mBk_ev, mCt_ev, mRetN_ev, mRaise_ev, m2_ev, mC_ev, mVar, mTst_ev, mTru_ev, mCh_ev, mIsN_ev, mAndT_ev, mOrT_ev, mNotT_ev, mAndV_ev, mOrV_ev, mNotV_ev, mIfE_ev, mNeg_ev, mNil_ev, mCons_ev, mTup_ev, mLst_ev, mCall_ev, mIsi_ev, mApp_ev, mAllWh_ev, mSl_ev, mNoP_ev, mPart_ev, mFor_ev, mItA_ev, mItE_ev, mLc_ev, mYes_ev, add_ev, sub_ev, lt_ev, le_ev, gt_ev, ge_ev, eqi_ev, eqs_ev, eqb_ev, eqn_ev, nei_ev, nes_ev, lenT_ev, abs_ev, int_ev, intb_ev, ixM, atP, ixN, setl, setLO, bindG, mgName, mgTup, mgCons, mgNil, q3])
  obtain ⟨ps, rfl, pl, pin⟩ := all2_pl al
  rw [rngP_len] at pl
  have hl : ps.length ≤ 100 := by omega
  have l4 := u4'.len
  have l5 := u5.len
  have gr5 : S5[S2.length]? = some (grO L) := by rw [u5.at (by omega), u4'.at (by omega)]; exact gg
  have l4' : S4'.length = S2.length + 1 := by rw [l4]; simp
  have c4 : (S5 ++ [MO.lst (ps.map plY)])[S4'.length]? = some (.lst (ps.map plY)) := by rw [← l5]; simp
  have lsM : listM [.cell S4'.length] (S5 ++ [MO.lst (ps.map plY)]) = .ok (.cell (S5 ++ [MO.lst (ps.map plY)]).length) (S5 ++ [MO.lst (ps.map plY)] ++ [.lst (ps.map plY)]) := by simp only [listM, c4]
  have n6 : (S5 ++ [MO.lst (ps.map plY)]).length = S2.length + 2 := by simp; omega
  have n7 : (S5 ++ [MO.lst (ps.map plY)] ++ [MO.lst (ps.map plY)]).length = S2.length + 3 := by simp; omega
  have at4 : (S5 ++ [MO.lst (ps.map plY)] ++ [.lst (ps.map plY)] ++ [.lst []])[S4'.length]? = some (.lst (ps.map plY)) := by
    rw [List.getElem?_append_left (by omega), List.getElem?_append_left (by omega)]; exact c4
  have at6 : (S5 ++ [MO.lst (ps.map plY)] ++ [.lst (ps.map plY)] ++ [.lst []])[(S5 ++ [MO.lst (ps.map plY)]).length]? = some (.lst (ps.map plY)) := by
    rw [List.getElem?_append_left (by omega)]; simp
  have at7 : (S5 ++ [MO.lst (ps.map plY)] ++ [.lst (ps.map plY)] ++ [.lst []])[(S5 ++ [MO.lst (ps.map plY)] ++ [MO.lst (ps.map plY)]).length]? = some (.lst ([].map pp)) := by simp
  have at3 : (S5 ++ [MO.lst (ps.map plY)] ++ [.lst (ps.map plY)] ++ [.lst []])[S2.length]? = some (grO L) := by
    rw [List.getElem?_append_left (by omega), List.getElem?_append_left (by omega), List.getElem?_append_left (by omega)]; exact gr5
  have n8 : (S5 ++ [MO.lst (ps.map plY)] ++ [MO.lst (ps.map plY)] ++ [MO.lst []]).length = S2.length + 4 := by simp; omega
  obtain ⟨y8, y9, y10, T', f1, f2, f3, f4⟩ := duo_go (x0 := some x0) (x1 := some (.cell s)) (x3 := some (.cell S2.length)) (x5 := none) (x6 := some (.cell (S5 ++ [MO.lst (ps.map plY)]).length)) (cd := (S5 ++ [MO.lst (ps.map plY)] ++ [MO.lst (ps.map plY)]).length) (cp := S4'.length) (L := L) hl (by omega) (fun x hx => by have := (g.row x hx).2.2.2.1; omega) L 0 [] none none none rfl at4 at7 (by simp; omega)
  rw [show ((0 : Nat) : Int) = 0 from rfl] at f1
  rw [List.nil_append] at f2
  have t3 : T'[S2.length]? = some (grO L) := by rw [f4 _ (by omega) (by omega)]; exact at3
  have t4 : T'[S4'.length]? = some (.lst (ps.map plY)) := by rw [f4 _ (by omega) (by omega)]; exact at4
  have t6 : T'[(S5 ++ [MO.lst (ps.map plY)]).length]? = some (.lst (ps.map plY)) := by rw [f4 _ (by omega) (by omega)]; exact at6
  have t6l := (List.getElem?_eq_some_iff.mp t6).1
  have t7l := (List.getElem?_eq_some_iff.mp f2).1
  obtain ⟨m1, U1, v1, v2, v3, v4, v5⟩ := rejecting_ev g t3 t6 hl pin
  obtain ⟨m2, U2, w1, w2, w3, w4, w5⟩ := rejecting_ev (g.rej (ps := ps)) v2 (show U1[(S5 ++ [MO.lst (ps.map plY)]).length]? = some (.lst (ps.map plY)) by rw [v5 _ t6l]; exact t6) hl (fun x hx => (pin x hx).rej)
  rw [rjL_two] at w2
  have ic := isC_yes v2
  have fd1 := fld_ev (f := "procedures") (cs := ["Graph"]) (y := .tup ((rjL ps 0 L).map pp)) v2 (by decide) rfl
  have fd0 := fld_ev (f := "procedures") (cs := ["Graph"]) (y := .tup (L.map pp)) (show U1[S2.length]? = some (grO L) by rw [v5 _ (List.getElem?_eq_some_iff.mp t3).1]; exact t3) (by decide) rfl
  have fd2 := fld_ev (f := "procedures") (cs := ["Graph"]) (y := .tup ((rjL ps 0 L).map pp)) w2 (by decide) rfl
  have tp1 : tupleM [.cell (S5 ++ [MO.lst (ps.map plY)] ++ [MO.lst (ps.map plY)]).length] U1 = .ok (.tup ((rjL ps 0 L).map pp)) U1 := by
    have : U1[(S5 ++ [MO.lst (ps.map plY)] ++ [MO.lst (ps.map plY)]).length]? = some (.lst ((rjL ps 0 L).map pp)) := by rw [v5 _ t7l]; exact f2
    simp only [tupleM, this]
  have tp2 : tupleM [.cell (S5 ++ [MO.lst (ps.map plY)] ++ [MO.lst (ps.map plY)]).length] U2 = .ok (.tup ((rjL ps 0 L).map pp)) U2 := by
    have : U2[(S5 ++ [MO.lst (ps.map plY)] ++ [MO.lst (ps.map plY)]).length]? = some (.lst ((rjL ps 0 L).map pp)) := by rw [w5 _ (by omega), v5 _ t7l]; exact f2
    simp only [tupleM, this]
  have k4 : U2[S4'.length]? = some (.lst (ps.map plY)) := by rw [w5 _ (by omega), v5 _ (by omega)]; exact t4
  have k6 : U2[(S5 ++ [MO.lst (ps.map plY)]).length]? = some (.lst (ps.map plY)) := by rw [w5 _ (by omega), v5 _ t6l]; exact t6
  have eqc := eq_pls k6 k4 hl
  have s1 := (g.rej (ps := ps)).self (by decide) (by decide)
  have s0 := g.self (by decide) (by decide)
  have nq1 : ∀ T, neM (.tup ((rjL ps 0 L).map pp)) (.tup ((rjL ps 0 L).map pp)) T = .ok (.bl false) T := fun T => eqv_self (neg := true) (S := T) s1
  have nq0 : ∀ T, neM (.tup (L.map pp)) (.tup (L.map pp)) T = .ok (.bl false) T := fun T => eqv_self (neg := true) (S := T) s0
  have eq1 : ∀ T, eqM (.tup ((rjL ps 0 L).map pp)) (.tup ((rjL ps 0 L).map pp)) T = .ok (.bl true) T := fun T => eqv_self (neg := false) (S := T) s1
  have lnP : ∀ T, lenM [.tup (L.map pp)] T = .ok (.int (L.length : Nat)) T := fun T => by rw [lenT_ev, List.length_map]
  have rgL : ∀ T, rng1 [.int (L.length : Nat)] T = .ok ⟨rngP 0 L.length, []⟩ T := fun T => by
    have := rng1_ev (S := T) (j := (L.length : Nat)) ⟨by omega, by omega⟩
    simpa using this
  refine ⟨gcS S0.length [.bl true] U2, ?_⟩
  unfold duO at f1
  have e4' : m_l_next [.cell s, .int 5] (S2 ++ [MO.ins "Graph" [("procedures", .tup (L.map pp))]]) = .ok (.int d4) S4' := e4
  generalize S2 ++ [MO.ins "Graph" [("procedures", .tup (L.map pp))]] = A0 at mk e4'
  generalize (rjL ps 0 L).map pp = P2 at fd1 fd2 tp1 tp2 nq1 eq1
  generalize L.map pp = P at e2 mk e5 f1 fd0 nq0 lnP
  generalize S5 ++ [MO.lst (ps.map plY)] = A1 at e5 lsM f1 v1 w1 tp1 tp2 eqc
  generalize A1 ++ [MO.lst (ps.map plY)] = A2 at lsM f1 tp1 tp2
  generalize hA : A2 ++ [MO.lst []] = A3 at f1
  unfold m_law
  simp -implicitDefEqProofs [callD_ev, mSeq_ev, mIf_ev, mRet_ev, mExp_ev, mAsgN_ev, mAsg_ev, mPar_ev, mPar3_ev, mSetL_ev, mNx_ev, mBk_ev, mCt_ev, mRetN_ev, mRaise_ev, m2_ev, mC_ev, mVar, mTst_ev, mTru_ev, mCh_ev, mIsN_ev, mAndT_ev, mOrT_ev, mNotT_ev, mAndV_ev, mOrV_ev, mNotV_ev, mIfE_ev, mNeg_ev, mNil_ev, mCons_ev, mTup_ev, mLst_ev, mCall_ev, mIsi_ev, mApp_ev, mAllWh_ev, mSl_ev, mNoP_ev, mPart_ev, mFor_ev, mItA_ev, mItE_ev, mLc_ev, mYes_ev, add_ev, sub_ev, lt_ev, le_ev, gt_ev, ge_ev, eqi_ev, eqs_ev, eqb_ev, eqn_ev, nei_ev, nes_ev, lenT_ev, abs_ev, int_ev, intb_ev, setl, setLO, bindG, mgName, mgTup, mgCons, mgNil, ixT0, ixT1, ixT2, e1, e2, mMake_ev, mk, e4', rg, e5, lsM, hA, lnP, rgL, f1, v1, mIsC_ev, ic, truthM, mFld_ev, fd1, fd0, fd2, tp1, tp2, nq1, nq0, w1, eq1, eqc]

theorem law_r (ns : List Int) (hl : ns.length ≤ 63) : ∃ S', m_law [.rol (ns.map PV.int)] [] = .ok (.bl true) S' := by
  have e : m_l_stream [.rol (ns.map PV.int)] [] = .ok (.cell 1) [.lst (ns.map PV.int), sx 0 0 0] := by
    rw [stream_r]
    rfl
  refine law_core e ⟨rfl, rfl, Int.le_refl 0⟩ ?_
  show ((clos 2 (ns.map PV.int)) && (clos 2 [.cell 0, .int 0, .int 0] && true)) = true
  rw [clo_ints]
  rfl
theorem law_c (ns : List Int) (hl : ns.length ≤ 63) : ∃ S', m_law [.cell 0] [.lst (ns.map PV.int)] = .ok (.bl true) S' := by
  have e : m_l_stream [.cell 0] [.lst (ns.map PV.int)] = .ok (.cell 2) [.lst (ns.map PV.int), .lst (ns.map PV.int), sx 1 0 0] := by
    unfold m_l_stream
    simp -implicitDefEqProofs [callD_ev, mSeq_ev, mIf_ev, mRet_ev, mExp_ev, mAsgN_ev, mAsg_ev, mPar_ev, mPar3_ev, mSetL_ev, mNx_ev, mBk_ev, mCt_ev, mRetN_ev, mRaise_ev, m2_ev, mC_ev, mVar, mTst_ev, mTru_ev, mCh_ev, mIsN_ev, mAndT_ev, mOrT_ev, mNotT_ev, mAndV_ev, mOrV_ev, mNotV_ev, mIfE_ev, mNeg_ev, mNil_ev, mCons_ev, mTup_ev, mLst_ev, mCall_ev, mIsi_ev, mApp_ev, mAllWh_ev, mSl_ev, mNoP_ev, mPart_ev, mFor_ev, mItA_ev, mItE_ev, mLc_ev, mYes_ev, add_ev, sub_ev, lt_ev, le_ev, gt_ev, ge_ev, eqi_ev, eqs_ev, eqb_ev, eqn_ev, nei_ev, nes_ev, lenT_ev, abs_ev, int_ev, intb_ev, ixM, atP, ixN, setl, setLO, bindG, mgName, mgTup, mgCons, mgNil, listM]
    rfl
  refine law_core e ⟨rfl, rfl, Int.le_refl 0⟩ ?_
  show ((clos 3 (ns.map PV.int)) && (clos 3 (ns.map PV.int) && (clos 3 [.cell 1, .int 0, .int 0] && true))) = true
  rw [clo_ints]
  rfl

section
variable {P : Program} {w : World} {K : PySem.W.Frag} {mg : Str → Option Value} {base : Heap}
theorem ok_is_whole (T : Txt K mg) : FnOk P w K mg base (L2.CX P w) 1 T.f_is_whole T.fd_is_whole ["value"] (spM K T.g 1 m_is_whole) := by
  refine fn_m rfl T.D_is_whole.F sc_is_whole rfl (fun cdv A outer s H E hr => ?_)
  exact (rss_one (rs_ret (re_and (re_isi (T := "int") (by decide) (re_var (pv 0)) (pe_bltn (v := .ty "int") (by rfl) T.int PyProof.Rows.boot_int rfl) (fun h => pe_callB call_isi (by rfl) T.isinstance PyProof.Rows.boot_isinstance h)) (re_one (re_not (re_isi (T := "bool") (by decide) (re_var (pv 0)) (pe_bltn (v := .ty "bool") (by rfl) T.bool PyProof.Rows.boot_bool rfl) (fun h => pe_callB call_isi (by rfl) T.isinstance PyProof.Rows.boot_isinstance h)))))))
theorem ok_is_index (T : Txt K mg) : FnOk P w K mg base (L2.CX P w) 2 T.f_is_index T.fd_is_index ["value", "many"] (spM K T.g 2 m_is_index) := by
  refine fn_m rfl T.D_is_index.F sc_is_index rfl (fun cdv A outer s H E hr => ?_)
  exact (rss_one (rs_ret (re_and (re_call (ok_is_whole T) (hr.mono (by omega)) rfl T.D_is_whole.g T.D_is_whole.F.kp T.D_is_whole.b (takes_of rfl rfl rfl rfl) (ra_cons (re_var (pv 0)) ra_nil)) (re_one (re_ch op_le op_lt opm_le opm_lt re_int (re_var (pv 0)) (re_var (pv 1)) rfl)))))
theorem ok_is_pair (T : Txt K mg) : FnOk P w K mg base (L2.CX P w) 1 T.f_is_pair T.fd_is_pair ["value"] (spM K T.g 1 m_is_pair) := by
  refine fn_m rfl T.D_is_pair.F sc_is_pair rfl (fun cdv A outer s H E hr => ?_)
  exact (rss_one (rs_ret (re_and (re_isi (T := "tuple") (by decide) (re_var (pv 0)) (pe_bltn (v := .ty "tuple") (by rfl) T.tuple PyProof.Rows.boot_tuple rfl) (fun h => pe_callB call_isi (by rfl) T.isinstance PyProof.Rows.boot_isinstance h)) (re_one (re_cmp (opr_eq hr.units) opm_eq (nomark _) (re_cb (fun h => pe_callB call_len (by rfl) T.len PySem.boot_len h) cam_len (ra_cons (re_var (pv 0)) ra_nil)) re_int)))))
theorem ok_has_form (T : Txt K mg) (TB : T.Tbs w base) : FnOk P w K mg base (L2.CX P w) 3 T.f_has_form T.fd_has_form ["point"] (spM K T.g 1 m_has_form) := by
  refine fn_mC rfl T.D_has_form.F T.code_has_form sc_has_form rfl (fun A outer s H E hr => ?_)
  exact (rss_cons (rs_if (rt_of (rw_or (rt_not (rt_val (re_isi (T := "tuple") (by decide) (re_var (pv 0)) (pe_bltn (v := .ty "tuple") (by rfl) T.tuple PyProof.Rows.boot_tuple rfl) (fun h => pe_callB call_isi (by rfl) T.isinstance PyProof.Rows.boot_isinstance h)) (fun _ => rfl))) (rw_or (rt_cmp (opr_eq hr.units) opm_eq (nomark _) (re_cb (fun h => pe_callB call_len (by rfl) T.len PySem.boot_len h) cam_len (ra_cons (re_var (pv 0)) ra_nil)) re_int) (rw_or1 (rt_not (rt_val (re_isi (T := "str") (by decide) (re_ix (re_var (pv 0)) re_int (fun _ _ => rfl)) (pe_bltn (v := .ty "str") (by rfl) T.str PyProof.Rows.boot_str rfl) (fun h => pe_callB call_isi (by rfl) T.isinstance PyProof.Rows.boot_isinstance h)) (fun _ => rfl))))))) (rss_one (rs_ret re_bl)) rss_nil)
    (rss_cons (rs_set (i := 1) (re_ix (re_var (pv 0)) re_int (fun _ _ => rfl)) (fun h => ps_set (i := 1) sc_has_form.nd rfl (Or.inl rfl) h))
    (rss_cons (rs_if (rt_cmp (opr_ne hr.units) opm_ne (nomark _) (re_cb (fun h => pe_callB call_len (by rfl) T.len PySem.boot_len h) cam_len (ra_cons (re_var (pv 0)) ra_nil)) (re_kget TB.kd_ITEMS (pe_glob (v := .ref T.a_ITEMS) rfl T.g_ITEMS rfl) (re_var (pv 1)) re_int)) (rss_one (rs_ret re_bl)) rss_nil)
    (rss_cons (rs_if (rt_cmp (opr_eq hr.units) opm_eq (nomark _) (re_var (pv 1)) re_str) (rss_one (rs_ret (re_call (ok_is_whole T) (hr.mono (by omega)) rfl T.D_is_whole.g T.D_is_whole.F.kp T.D_is_whole.b (takes_of rfl rfl rfl rfl) (ra_cons (re_ix (re_var (pv 0)) re_int (fun _ _ => rfl)) ra_nil)))) rss_nil)
    (rss_cons (rs_if (rt_cmp (opr_eq hr.units) opm_eq (nomark _) (re_var (pv 1)) re_str) (rss_one (rs_ret (re_and (re_isi (T := "tuple") (by decide) (re_ix (re_var (pv 0)) re_int (fun _ _ => rfl)) (pe_bltn (v := .ty "tuple") (by rfl) T.tuple PyProof.Rows.boot_tuple rfl) (fun h => pe_callB call_isi (by rfl) T.isinstance PyProof.Rows.boot_isinstance h)) (re_one (re_allG (own := [("branch", 2)]) (k := 1) T.tm_has_form rfl rfl sc_has_form.nd (hr.mono (by omega)) (by rfl) T.all (TB.t_has_form) rfl (blkOk_by (own := [("branch", 2)]) (N := ["point", "word", "branch"]) (sc := defScope s_has_form) (by decide +kernel)) rfl (by decide +kernel) (by rfl) (ri_val (re_ix (re_var (pv 0)) re_int (fun _ _ => rfl))) (fun _ _ _ _ _ _ _ hr => (rg_name (pg_name (i := 2) sc_has_form.nd rfl (Or.inl rfl)))) (fun _ _ _ _ _ _ _ hr => pts_yes) (fun _ _ _ _ _ _ _ hr => (re_call (ok_is_pair T) (hr.mono (by omega)) rfl T.D_is_pair.g T.D_is_pair.F.kp T.D_is_pair.b takes_no (ra_cons (re_var (pv 2)) ra_nil)))))))) rss_nil)
    (rss_cons (rs_if (rt_cmp (opr_eq hr.units) opm_eq (nomark _) (re_var (pv 1)) re_str) (rss_one (rs_ret (re_isi (T := "tuple") (by decide) (re_ix (re_var (pv 0)) re_int (fun _ _ => rfl)) (pe_bltn (v := .ty "tuple") (by rfl) T.tuple PyProof.Rows.boot_tuple rfl) (fun h => pe_callB call_isi (by rfl) T.isinstance PyProof.Rows.boot_isinstance h)))) rss_nil)
    (rss_cons (rs_if (rt_cmp (opr_eq hr.units) opm_eq (nomark _) (re_var (pv 1)) re_str) (rss_one (rs_ret (re_and (re_call (ok_is_whole T) (hr.mono (by omega)) rfl T.D_is_whole.g T.D_is_whole.F.kp T.D_is_whole.b (takes_of rfl rfl rfl rfl) (ra_cons (re_ix (re_var (pv 0)) re_int (fun _ _ => rfl)) ra_nil)) (re_one (re_isi (T := "tuple") (by decide) (re_ix (re_var (pv 0)) re_int (fun _ _ => rfl)) (pe_bltn (v := .ty "tuple") (by rfl) T.tuple PyProof.Rows.boot_tuple rfl) (fun h => pe_callB call_isi (by rfl) T.isinstance PyProof.Rows.boot_isinstance h)))))) rss_nil)
    (rss_one (rs_ret re_bl)))))))))
theorem ok_plus (T : Txt K mg) : FnOk P w K mg base (L2.CX P w) 1 T.f_plus T.fd_plus ["a", "b"] (spM K T.g 2 m_plus) := by
  refine fn_m rfl T.D_plus.F sc_plus rfl (fun cdv A outer s H E hr => ?_)
  exact (rss_cons (rs_set (i := 2) (re_cb (fun h => pe_callBfun cr_gcd (by rfl) T.gcd h) cam_gcd (ra_cons (re_ix (re_var (pv 0)) re_int (fun _ _ => rfl)) (ra_cons (re_ix (re_var (pv 1)) re_int (fun _ _ => rfl)) ra_nil))) (fun h => ps_set (i := 2) sc_plus.nd rfl (Or.inl rfl) h))
    (rss_cons (rs_set (i := 3) (re_op opr_fdiv opm_fdiv (re_ix (re_var (pv 0)) re_int (fun _ _ => rfl)) (re_var (pv 2))) (fun h => ps_set (i := 3) sc_plus.nd rfl (Or.inl rfl) h))
    (rss_cons (rs_set (i := 4) (re_op opr_add opm_add (re_op opr_mul opm_mul (re_ix (re_var (pv 0)) re_int (fun _ _ => rfl)) (re_op opr_fdiv opm_fdiv (re_ix (re_var (pv 1)) re_int (fun _ _ => rfl)) (re_var (pv 2)))) (re_op opr_mul opm_mul (re_ix (re_var (pv 1)) re_int (fun _ _ => rfl)) (re_var (pv 3)))) (fun h => ps_set (i := 4) sc_plus.nd rfl (Or.inl rfl) h))
    (rss_cons (rs_set (i := 5) (re_cb (fun h => pe_callBfun cr_gcd (by rfl) T.gcd h) cam_gcd (ra_cons (re_var (pv 4)) (ra_cons (re_var (pv 2)) ra_nil))) (fun h => ps_set (i := 5) sc_plus.nd rfl (Or.inl rfl) h))
    (rss_one (rs_ret (re_tup (ra_cons (re_op opr_fdiv opm_fdiv (re_var (pv 4)) (re_var (pv 5))) (ra_cons (re_op opr_mul opm_mul (re_var (pv 3)) (re_op opr_fdiv opm_fdiv (re_ix (re_var (pv 1)) re_int (fun _ _ => rfl)) (re_var (pv 5)))) ra_nil)) (by decide) (len_cons (len_cons len_nil)))))))))
theorem ok_is_rational (T : Txt K mg) : FnOk P w K mg base (L2.CX P w) 2 T.f_is_rational T.fd_is_rational ["x"] (spM K T.g 1 m_is_rational) := by
  refine fn_m rfl T.D_is_rational.F sc_is_rational rfl (fun cdv A outer s H E hr => ?_)
  exact (rss_cons (rs_if (rt_of (rw_or (rt_not (rt_val (re_isi (T := "tuple") (by decide) (re_var (pv 0)) (pe_bltn (v := .ty "tuple") (by rfl) T.tuple PyProof.Rows.boot_tuple rfl) (fun h => pe_callB call_isi (by rfl) T.isinstance PyProof.Rows.boot_isinstance h)) (fun _ => rfl))) (rw_or1 (rt_cmp (opr_ne hr.units) opm_ne (nomark _) (re_cb (fun h => pe_callB call_len (by rfl) T.len PySem.boot_len h) cam_len (ra_cons (re_var (pv 0)) ra_nil)) re_int)))) (rss_one (rs_ret re_bl)) rss_nil)
    (rss_cons (rs_asg (re_var (pv 0)) (rg_tup (by rfl) (rgs_cons (rg_name (pg_name (i := 1) sc_is_rational.nd rfl (Or.inl rfl))) (rgs_cons (rg_name (pg_name (i := 2) sc_is_rational.nd rfl (Or.inl rfl))) rgs_nil))))
    (rss_one (rs_ret (re_and (re_call (ok_is_whole T) (hr.mono (by omega)) rfl T.D_is_whole.g T.D_is_whole.F.kp T.D_is_whole.b (takes_of rfl rfl rfl rfl) (ra_cons (re_var (pv 1)) ra_nil)) (re_and (re_call (ok_is_whole T) (hr.mono (by omega)) rfl T.D_is_whole.g T.D_is_whole.F.kp T.D_is_whole.b (takes_of rfl rfl rfl rfl) (ra_cons (re_var (pv 2)) ra_nil)) (re_and (re_cmp op_ge opm_ge (nomark _) (re_var (pv 2)) re_int) (re_one (re_cmp (opr_eq hr.units) opm_eq (nomark _) (re_cb (fun h => pe_callBfun cr_gcd (by rfl) T.gcd h) cam_gcd (ra_cons (re_var (pv 1)) (ra_cons (re_var (pv 2)) ra_nil))) re_int)))))))))
theorem ok_is_chance (T : Txt K mg) : FnOk P w K mg base (L2.CX P w) 3 T.f_is_chance T.fd_is_chance ["value"] (spM K T.g 1 m_is_chance) := by
  refine fn_m rfl T.D_is_chance.F sc_is_chance rfl (fun cdv A outer s H E hr => ?_)
  exact (rss_one (rs_ret (re_and (re_call (ok_is_rational T) (hr.mono (by omega)) rfl T.D_is_rational.g T.D_is_rational.F.kp T.D_is_rational.b (takes_of rfl rfl rfl rfl) (ra_cons (re_var (pv 0)) ra_nil)) (re_and (re_cmp op_gt opm_gt (nomark _) (re_ix (re_var (pv 0)) re_int (fun _ _ => rfl)) re_int) (re_one (re_cmp op_le opm_le (nomark _) (re_ix (re_var (pv 0)) re_int (fun _ _ => rfl)) (re_c (pe_glob (v := T.v_MOST_CHANCE_DENOMINATOR) rfl T.g_MOST_CHANCE_DENOMINATOR T.r_MOST_CHANCE_DENOMINATOR) (fun α H => T.d_MOST_CHANCE_DENOMINATOR α H))))))))
theorem ok_problem_of_draw (T : Txt K mg) : FnOk P w K mg base (L2.CX P w) 4 T.f_problem_of_draw T.fd_problem_of_draw ["branches", "many"] (spM K T.g 2 m_problem_of_draw) := by
  refine fn_m rfl T.D_problem_of_draw.F sc_problem_of_draw rfl (fun cdv A outer s H E hr => ?_)
  exact (rss_cons (rs_if (rt_not (rt_ch op_le op_le opm_le opm_le re_int (re_cb (fun h => pe_callB call_len (by rfl) T.len PySem.boot_len h) cam_len (ra_cons (re_var (pv 0)) ra_nil)) (re_c (pe_glob (v := T.v_MOST_BRANCHES) rfl T.g_MOST_BRANCHES T.r_MOST_BRANCHES) (fun α H => T.d_MOST_BRANCHES α H)) rfl)) (rss_one (rs_ret re_str)) rss_nil)
    (rss_cons (rs_set (i := 2) (re_c (pe_glob (v := T.v_ZERO) rfl T.g_ZERO T.r_ZERO) (fun α H => T.d_ZERO α H)) (fun h => ps_set (i := 2) sc_problem_of_draw.nd rfl (Or.inl rfl) h))
    (rss_cons (rs_for (passes_of rfl) rfl (ri_val (re_var (pv 0))) (rg_tup (by rfl) (rgs_cons (rg_name (pg_name (i := 3) sc_problem_of_draw.nd rfl (Or.inl rfl))) (rgs_cons (rg_name (pg_name (i := 4) sc_problem_of_draw.nd rfl (Or.inl rfl))) rgs_nil))) (rss_cons (rs_if (rt_not (rt_val (re_call (ok_is_chance T) (hr.mono (by omega)) rfl T.D_is_chance.g T.D_is_chance.F.kp T.D_is_chance.b (takes_of rfl rfl rfl rfl) (ra_cons (re_var (pv 3)) ra_nil)) (fun _ => rfl))) (rss_one (rs_ret re_str)) rss_nil)
    (rss_cons (rs_if (rt_not (rt_val (re_call (ok_is_index T) (hr.mono (by omega)) rfl T.D_is_index.g T.D_is_index.F.kp T.D_is_index.b (takes_of rfl rfl rfl rfl) (ra_cons (re_var (pv 4)) (ra_cons (re_var (pv 1)) ra_nil))) (fun _ => rfl))) (rss_one (rs_ret re_str)) rss_nil)
    (rss_one (rs_set (i := 2) (re_call (ok_plus T) (hr.mono (by omega)) rfl T.D_plus.g T.D_plus.F.kp T.D_plus.b (takes_of rfl rfl rfl rfl) (ra_cons (re_var (pv 2)) (ra_cons (re_var (pv 3)) ra_nil))) (fun h => ps_set (i := 2) sc_problem_of_draw.nd rfl (Or.inl rfl) h))))))
    (rss_one (rs_ret (re_if (rt_cmp (opr_eq hr.units) opm_eq (nomark _) (re_var (pv 2)) (re_c (pe_glob (v := T.v_ONE) rfl T.g_ONE T.r_ONE) (fun α H => T.d_ONE α H))) re_non re_str))))))
theorem ok_problem_of_targets (T : Txt K mg) (TB : T.Tbs w base) : FnOk P w K mg base (L2.CX P w) 4 T.f_problem_of_targets T.fd_problem_of_targets ["targets", "many"] (spM K T.g 2 m_problem_of_targets) := by
  refine fn_mC rfl T.D_problem_of_targets.F T.code_problem_of_targets sc_problem_of_targets rfl (fun A outer s H E hr => ?_)
  exact (rss_one (rs_ret (re_if (rt_val (re_allG (own := [("index", 2)]) (k := 2) T.tm_problem_of_targets rfl rfl sc_problem_of_targets.nd (hr.mono (by omega)) (by rfl) T.all (TB.t_problem_of_targets) rfl (blkOk_by (own := [("index", 2)]) (N := ["targets", "many", "index"]) (sc := defScope s_problem_of_targets) (by decide +kernel)) rfl (by decide +kernel) (by rfl) (ri_val (re_var (pv 0))) (fun _ _ _ _ _ _ _ hr => (rg_name (pg_name (i := 2) sc_problem_of_targets.nd rfl (Or.inl rfl)))) (fun _ _ _ _ _ _ _ hr => pts_yes) (fun _ _ _ _ _ _ _ hr => (re_call (ok_is_index T) (hr.mono (by omega)) rfl T.D_is_index.g T.D_is_index.F.kp T.D_is_index.b takes_no (ra_cons (re_var (pv 2)) (ra_cons (re_var (pv 1)) ra_nil))))) (fun _ => rfl)) re_non re_str)))
theorem ok_problem_of_choice (T : Txt K mg) (TB : T.Tbs w base) : FnOk P w K mg base (L2.CX P w) 5 T.f_problem_of_choice T.fd_problem_of_choice ["targets", "many"] (spM K T.g 2 m_problem_of_choice) := by
  refine fn_m rfl T.D_problem_of_choice.F sc_problem_of_choice rfl (fun cdv A outer s H E hr => ?_)
  exact (rss_cons (rs_if (rt_not (rt_ch op_le op_le opm_le opm_le re_int (re_cb (fun h => pe_callB call_len (by rfl) T.len PySem.boot_len h) cam_len (ra_cons (re_var (pv 0)) ra_nil)) (re_c (pe_glob (v := T.v_MOST_BRANCHES) rfl T.g_MOST_BRANCHES T.r_MOST_BRANCHES) (fun α H => T.d_MOST_BRANCHES α H)) rfl)) (rss_one (rs_ret re_str)) rss_nil)
    (rss_one (rs_ret (re_call (ok_problem_of_targets T TB) (hr.mono (by omega)) rfl T.D_problem_of_targets.g T.D_problem_of_targets.F.kp T.D_problem_of_targets.b (takes_of rfl rfl rfl rfl) (ra_cons (re_var (pv 0)) (ra_cons (re_var (pv 1)) ra_nil))))))
theorem ok_problem_of_call (T : Txt K mg) (TB : T.Tbs w base) : FnOk P w K mg base (L2.CX P w) 5 T.f_problem_of_call T.fd_problem_of_call ["procedures", "call", "many"] (spM K T.g 3 m_problem_of_call) := by
  refine fn_m rfl T.D_problem_of_call.F sc_problem_of_call rfl (fun cdv A outer s H E hr => ?_)
  exact (rss_cons (rs_asg (re_var (pv 1)) (rg_tup (by rfl) (rgs_cons (rg_name (pg_name (i := 3) sc_problem_of_call.nd rfl (Or.inl rfl))) (rgs_cons (rg_name (pg_name (i := 4) sc_problem_of_call.nd rfl (Or.inl rfl))) (rgs_cons (rg_name (pg_name (i := 5) sc_problem_of_call.nd rfl (Or.inl rfl))) rgs_nil)))))
    (rss_cons (rs_if (rt_not (rt_val (re_call (ok_is_index T) (hr.mono (by omega)) rfl T.D_is_index.g T.D_is_index.F.kp T.D_is_index.b (takes_of rfl rfl rfl rfl) (ra_cons (re_var (pv 4)) (ra_cons (re_cb (fun h => pe_callB call_len (by rfl) T.len PySem.boot_len h) cam_len (ra_cons (re_var (pv 0)) ra_nil)) ra_nil))) (fun _ => rfl))) (rss_one (rs_ret re_str)) rss_nil)
    (rss_cons (rs_if (rt_cmp (opr_ne hr.units) opm_ne (nomark _) (re_cb (fun h => pe_callB call_len (by rfl) T.len PySem.boot_len h) cam_len (ra_cons (re_var (pv 5)) ra_nil)) (re_ix (re_ix (re_var (pv 0)) (re_var (pv 4)) (fun _ _ => rfl)) re_int (fun _ _ => rfl))) (rss_one (rs_ret re_str)) rss_nil)
    (rss_one (rs_ret (re_call (ok_problem_of_targets T TB) (hr.mono (by omega)) rfl T.D_problem_of_targets.g T.D_problem_of_targets.F.kp T.D_problem_of_targets.b (takes_of rfl rfl rfl rfl) (ra_cons (re_var (pv 5)) (ra_cons (re_var (pv 2)) ra_nil))))))))
theorem ok_is_amount (T : Txt K mg) : FnOk P w K mg base (L2.CX P w) 3 T.f_is_amount T.fd_is_amount ["value"] (spM K T.g 1 m_is_amount) := by
  refine fn_m rfl T.D_is_amount.F sc_is_amount rfl (fun cdv A outer s H E hr => ?_)
  exact (rss_cons (rs_if (rt_not (rt_val (re_call (ok_is_rational T) (hr.mono (by omega)) rfl T.D_is_rational.g T.D_is_rational.F.kp T.D_is_rational.b (takes_of rfl rfl rfl rfl) (ra_cons (re_var (pv 0)) ra_nil)) (fun _ => rfl))) (rss_one (rs_ret re_bl)) rss_nil)
    (rss_one (rs_ret (re_and (re_ch op_le op_le opm_le opm_le re_int (re_ix (re_var (pv 0)) re_int (fun _ _ => rfl)) (re_c (pe_glob (v := T.v_MOST_AMOUNT_NUMERATOR) rfl T.g_MOST_AMOUNT_NUMERATOR T.r_MOST_AMOUNT_NUMERATOR) (fun α H => T.d_MOST_AMOUNT_NUMERATOR α H)) rfl) (re_one (re_cmp op_le opm_le (nomark _) (re_ix (re_var (pv 0)) re_int (fun _ _ => rfl)) (re_c (pe_glob (v := T.v_MOST_AMOUNT_DENOMINATOR) rfl T.g_MOST_AMOUNT_DENOMINATOR T.r_MOST_AMOUNT_DENOMINATOR) (fun α H => T.d_MOST_AMOUNT_DENOMINATOR α H))))))))
theorem ok_problem_of_reward (T : Txt K mg) (TB : T.Tbs w base) : FnOk P w K mg base (L2.CX P w) 5 T.f_problem_of_reward T.fd_problem_of_reward ["reward", "many"] (spM K T.g 2 m_problem_of_reward) := by
  refine fn_m rfl T.D_problem_of_reward.F sc_problem_of_reward rfl (fun cdv A outer s H E hr => ?_)
  exact (rss_cons (rs_asg (re_var (pv 0)) (rg_tup (by rfl) (rgs_cons (rg_name (pg_name (i := 2) sc_problem_of_reward.nd rfl (Or.inl rfl))) (rgs_cons (rg_name (pg_name (i := 3) sc_problem_of_reward.nd rfl (Or.inl rfl))) (rgs_cons (rg_name (pg_name (i := 4) sc_problem_of_reward.nd rfl (Or.inl rfl))) rgs_nil)))))
    (rss_cons (rs_if (rt_not (rt_val (re_call (ok_is_amount T) (hr.mono (by omega)) rfl T.D_is_amount.g T.D_is_amount.F.kp T.D_is_amount.b (takes_of rfl rfl rfl rfl) (ra_cons (re_var (pv 3)) ra_nil)) (fun _ => rfl))) (rss_one (rs_ret re_str)) rss_nil)
    (rss_one (rs_ret (re_call (ok_problem_of_targets T TB) (hr.mono (by omega)) rfl T.D_problem_of_targets.g T.D_problem_of_targets.F.kp T.D_problem_of_targets.b (takes_of rfl rfl rfl rfl) (ra_cons (re_tup (ra_cons (re_var (pv 4)) ra_nil) (by decide) (len_cons len_nil)) (ra_cons (re_var (pv 1)) ra_nil)))))))
theorem ok_problem_of_point (T : Txt K mg) (TB : T.Tbs w base) : FnOk P w K mg base (L2.CX P w) 6 T.f_problem_of_point T.fd_problem_of_point ["procedures", "number", "point"] (spM K T.g 3 m_problem_of_point) := by
  refine fn_m rfl T.D_problem_of_point.F sc_problem_of_point rfl (fun cdv A outer s H E hr => ?_)
  exact (rss_cons (rs_if (rt_not (rt_val (re_call (ok_has_form T TB) (hr.mono (by omega)) rfl T.D_has_form.g T.D_has_form.F.kp T.D_has_form.b (takes_of rfl rfl rfl rfl) (ra_cons (re_var (pv 2)) ra_nil)) (fun _ => rfl))) (rss_one (rs_ret re_str)) rss_nil)
    (rss_cons (rs_asg (re_ix (re_var (pv 0)) (re_var (pv 1)) (fun _ _ => rfl)) (rg_tup (by rfl) (rgs_cons (rg_name (pg_name (i := 3) sc_problem_of_point.nd rfl (Or.inl rfl))) (rgs_cons (rg_name (pg_name (i := 4) sc_problem_of_point.nd rfl (Or.inl rfl))) rgs_nil))))
    (rss_cons (rs_set (i := 5) (re_ix (re_var (pv 2)) re_int (fun _ _ => rfl)) (fun h => ps_set (i := 5) sc_problem_of_point.nd rfl (Or.inl rfl) h))
    (rss_cons (rs_if (rt_cmp (opr_eq hr.units) opm_eq (nomark _) (re_var (pv 5)) re_str) (rss_one (rs_ret (re_if (rt_val (re_call (ok_is_index T) (hr.mono (by omega)) rfl T.D_is_index.g T.D_is_index.F.kp T.D_is_index.b (takes_of rfl rfl rfl rfl) (ra_cons (re_ix (re_var (pv 2)) re_int (fun _ _ => rfl)) (ra_cons (re_var (pv 3)) ra_nil))) (fun _ => rfl)) re_non re_str))) rss_nil)
    (rss_cons (rs_if (rt_cmp (opr_eq hr.units) opm_eq (nomark _) (re_var (pv 5)) re_str) (rss_one (rs_ret (re_call (ok_problem_of_draw T) (hr.mono (by omega)) rfl T.D_problem_of_draw.g T.D_problem_of_draw.F.kp T.D_problem_of_draw.b (takes_of rfl rfl rfl rfl) (ra_cons (re_ix (re_var (pv 2)) re_int (fun _ _ => rfl)) (ra_cons (re_cb (fun h => pe_callB call_len (by rfl) T.len PySem.boot_len h) cam_len (ra_cons (re_var (pv 4)) ra_nil)) ra_nil))))) rss_nil)
    (rss_cons (rs_if (rt_cmp (opr_eq hr.units) opm_eq (nomark _) (re_var (pv 5)) re_str) (rss_one (rs_ret (re_call (ok_problem_of_choice T TB) (hr.mono (by omega)) rfl T.D_problem_of_choice.g T.D_problem_of_choice.F.kp T.D_problem_of_choice.b (takes_of rfl rfl rfl rfl) (ra_cons (re_ix (re_var (pv 2)) re_int (fun _ _ => rfl)) (ra_cons (re_cb (fun h => pe_callB call_len (by rfl) T.len PySem.boot_len h) cam_len (ra_cons (re_var (pv 4)) ra_nil)) ra_nil))))) rss_nil)
    (rss_cons (rs_if (rt_cmp (opr_eq hr.units) opm_eq (nomark _) (re_var (pv 5)) re_str) (rss_one (rs_ret (re_call (ok_problem_of_call T TB) (hr.mono (by omega)) rfl T.D_problem_of_call.g T.D_problem_of_call.F.kp T.D_problem_of_call.b (takes_of rfl rfl rfl rfl) (ra_cons (re_var (pv 0)) (ra_cons (re_var (pv 2)) (ra_cons (re_cb (fun h => pe_callB call_len (by rfl) T.len PySem.boot_len h) cam_len (ra_cons (re_var (pv 4)) ra_nil)) ra_nil)))))) rss_nil)
    (rss_cons (rs_if (rt_cmp (opr_eq hr.units) opm_eq (nomark _) (re_var (pv 5)) re_str) (rss_one (rs_ret (re_call (ok_problem_of_reward T TB) (hr.mono (by omega)) rfl T.D_problem_of_reward.g T.D_problem_of_reward.F.kp T.D_problem_of_reward.b (takes_of rfl rfl rfl rfl) (ra_cons (re_var (pv 2)) (ra_cons (re_cb (fun h => pe_callB call_len (by rfl) T.len PySem.boot_len h) cam_len (ra_cons (re_var (pv 4)) ra_nil)) ra_nil))))) rss_nil)
    (rss_one (rs_ret re_non))))))))))
theorem ok_check_points (T : Txt K mg) (TB : T.Tbs w base) : FnOk P w K mg base (L2.CX P w) 7 T.f_check_points T.fd_check_points ["procedures", "number", "points"] (spM K T.g 3 m_check_points) := by
  refine fn_m rfl T.D_check_points.F sc_check_points rfl (fun cdv A outer s H E hr => ?_)
  exact (rss_one (rs_for (passes_of rfl) rfl (ri_enumA rfl T.enumerate (ra_cons (re_var (pv 2)) ra_nil)) (rg_tup (by rfl) (rgs_cons (rg_name (pg_name (i := 3) sc_check_points.nd rfl (Or.inl rfl))) (rgs_cons (rg_name (pg_name (i := 4) sc_check_points.nd rfl (Or.inl rfl))) rgs_nil))) (rss_cons (rs_set (i := 5) (re_call (ok_problem_of_point T TB) (hr.mono (by omega)) rfl T.D_problem_of_point.g T.D_problem_of_point.F.kp T.D_problem_of_point.b (takes_of rfl rfl rfl rfl) (ra_cons (re_var (pv 0)) (ra_cons (re_var (pv 1)) (ra_cons (re_var (pv 4)) ra_nil)))) (fun h => ps_set (i := 5) sc_check_points.nd rfl (Or.inl rfl) h))
    (rss_one (rs_if (rt_notN (re_var (pv 5))) (rss_one (rs_raise (ns := ["where", "why"]) rfl (takes_of rfl rfl rfl rfl) T.e_BadGraph (by decide) (fun h => pmk_oex T.O_BadGraph T.iC_BadGraph T.tI_BadGraph T.ini_BadGraph (hr.mono (by omega)) T.bI_BadGraph .nil pass0 rfl T.g_BadGraph h) (ra_cons (re_tup (ra_cons (re_var (pv 1)) (ra_cons (re_var (pv 3)) ra_nil)) (by decide) (len_cons (len_cons len_nil))) (ra_cons (re_var (pv 5)) ra_nil)))) rss_nil)))))
theorem ok_problem_of_procedure (T : Txt K mg) : FnOk P w K mg base (L2.CX P w) 2 T.f_problem_of_procedure T.fd_problem_of_procedure ["procedure"] (spM K T.g 1 m_problem_of_procedure) := by
  refine fn_m rfl T.D_problem_of_procedure.F sc_problem_of_procedure rfl (fun cdv A outer s H E hr => ?_)
  exact (rss_cons (rs_if (rt_of (rw_or (rt_not (rt_val (re_call (ok_is_pair T) (hr.mono (by omega)) rfl T.D_is_pair.g T.D_is_pair.F.kp T.D_is_pair.b (takes_of rfl rfl rfl rfl) (ra_cons (re_var (pv 0)) ra_nil)) (fun _ => rfl))) (rw_or (rt_not (rt_val (re_call (ok_is_whole T) (hr.mono (by omega)) rfl T.D_is_whole.g T.D_is_whole.F.kp T.D_is_whole.b (takes_of rfl rfl rfl rfl) (ra_cons (re_ix (re_var (pv 0)) re_int (fun _ _ => rfl)) ra_nil)) (fun _ => rfl))) (rw_or1 (rt_not (rt_val (re_isi (T := "tuple") (by decide) (re_ix (re_var (pv 0)) re_int (fun _ _ => rfl)) (pe_bltn (v := .ty "tuple") (by rfl) T.tuple PyProof.Rows.boot_tuple rfl) (fun h => pe_callB call_isi (by rfl) T.isinstance PyProof.Rows.boot_isinstance h)) (fun _ => rfl))))))) (rss_one (rs_ret re_str)) rss_nil)
    (rss_cons (rs_if (rt_not (rt_ch op_le op_le opm_le opm_le re_int (re_ix (re_var (pv 0)) re_int (fun _ _ => rfl)) (re_c (pe_glob (v := T.v_MOST_EXITS) rfl T.g_MOST_EXITS T.r_MOST_EXITS) (fun α H => T.d_MOST_EXITS α H)) rfl)) (rss_one (rs_ret re_str)) rss_nil)
    (rss_cons (rs_if (rt_not (rt_ch op_le op_le opm_le opm_le re_int (re_cb (fun h => pe_callB call_len (by rfl) T.len PySem.boot_len h) cam_len (ra_cons (re_ix (re_var (pv 0)) re_int (fun _ _ => rfl)) ra_nil)) (re_c (pe_glob (v := T.v_MOST_POINTS) rfl T.g_MOST_POINTS T.r_MOST_POINTS) (fun α H => T.d_MOST_POINTS α H)) rfl)) (rss_one (rs_ret re_str)) rss_nil)
    (rss_one (rs_ret re_non)))))
theorem ok_check_procedures (T : Txt K mg) (TB : T.Tbs w base) : FnOk P w K mg base (L2.CX P w) 9 T.f_check_procedures T.fd_check_procedures ["procedures"] (spM K T.g 1 m_check_procedures) := by
  refine fn_mC rfl T.D_check_procedures.F T.code_check_procedures sc_check_procedures rfl (fun A outer s H E hr => ?_)
  exact (rss_cons (rs_if (rt_not (rt_val (re_isi (T := "tuple") (by decide) (re_var (pv 0)) (pe_bltn (v := .ty "tuple") (by rfl) T.tuple PyProof.Rows.boot_tuple rfl) (fun h => pe_callB call_isi (by rfl) T.isinstance PyProof.Rows.boot_isinstance h)) (fun _ => rfl))) (rss_one (rs_raise (ns := ["where", "why"]) rfl (takes_of rfl rfl rfl rfl) T.e_BadGraph (by decide) (fun h => pmk_oex T.O_BadGraph T.iC_BadGraph T.tI_BadGraph T.ini_BadGraph (hr.mono (by omega)) T.bI_BadGraph .nil pass0 rfl T.g_BadGraph h) (ra_cons (re_tup ra_nil (by decide) len_nil) (ra_cons re_str ra_nil)))) rss_nil)
    (rss_cons (rs_if (rt_not (rt_ch op_le op_le opm_le opm_le re_int (re_cb (fun h => pe_callB call_len (by rfl) T.len PySem.boot_len h) cam_len (ra_cons (re_var (pv 0)) ra_nil)) (re_c (pe_glob (v := T.v_MOST_PROCEDURES) rfl T.g_MOST_PROCEDURES T.r_MOST_PROCEDURES) (fun α H => T.d_MOST_PROCEDURES α H)) rfl)) (rss_one (rs_raise (ns := ["where", "why"]) rfl (takes_of rfl rfl rfl rfl) T.e_BadGraph (by decide) (fun h => pmk_oex T.O_BadGraph T.iC_BadGraph T.tI_BadGraph T.ini_BadGraph (hr.mono (by omega)) T.bI_BadGraph .nil pass0 rfl T.g_BadGraph h) (ra_cons (re_tup ra_nil (by decide) len_nil) (ra_cons re_str ra_nil)))) rss_nil)
    (rss_cons (rs_for (passes_of rfl) rfl (ri_enumA rfl T.enumerate (ra_cons (re_var (pv 0)) ra_nil)) (rg_tup (by rfl) (rgs_cons (rg_name (pg_name (i := 1) sc_check_procedures.nd rfl (Or.inl rfl))) (rgs_cons (rg_name (pg_name (i := 2) sc_check_procedures.nd rfl (Or.inl rfl))) rgs_nil))) (rss_cons (rs_set (i := 3) (re_call (ok_problem_of_procedure T) (hr.mono (by omega)) rfl T.D_problem_of_procedure.g T.D_problem_of_procedure.F.kp T.D_problem_of_procedure.b (takes_of rfl rfl rfl rfl) (ra_cons (re_var (pv 2)) ra_nil)) (fun h => ps_set (i := 3) sc_check_procedures.nd rfl (Or.inl rfl) h))
    (rss_one (rs_if (rt_notN (re_var (pv 3))) (rss_one (rs_raise (ns := ["where", "why"]) rfl (takes_of rfl rfl rfl rfl) T.e_BadGraph (by decide) (fun h => pmk_oex T.O_BadGraph T.iC_BadGraph T.tI_BadGraph T.ini_BadGraph (hr.mono (by omega)) T.bI_BadGraph .nil pass0 rfl T.g_BadGraph h) (ra_cons (re_tup (ra_cons (re_var (pv 1)) ra_nil) (by decide) (len_cons len_nil)) (ra_cons (re_var (pv 3)) ra_nil)))) rss_nil))))
    (rss_cons (rs_if (rt_cmp op_gt opm_gt (nomark _) (re_sumG (own := [("procedure", 2)]) (k := 7) T.tm_check_procedures rfl rfl sc_check_procedures.nd (hr.mono (by omega)) (by rfl) T.sum (TB.t_check_procedures) rfl (blkOk_by (own := [("procedure", 2)]) (N := ["procedures", "number", "procedure", "why"]) (sc := defScope s_check_procedures) (by decide +kernel)) rfl (by decide +kernel) (by rfl) (ri_val (re_var (pv 0))) (fun _ _ _ _ _ _ _ hr => (rg_name (pg_name (i := 2) sc_check_procedures.nd rfl (Or.inl rfl)))) (fun _ _ _ _ _ _ _ hr => pts_yes) (fun _ _ _ _ _ _ _ hr => (re_cb (fun h => pe_callB call_len (by rfl) T.len PySem.boot_len h) cam_len (ra_cons (re_ix (re_var (pv 2)) re_int (fun _ _ => rfl)) ra_nil)))) (re_c (pe_glob (v := T.v_MOST_POINTS_OF_ALL) rfl T.g_MOST_POINTS_OF_ALL T.r_MOST_POINTS_OF_ALL) (fun α H => T.d_MOST_POINTS_OF_ALL α H))) (rss_one (rs_raise (ns := ["where", "why"]) rfl (takes_of rfl rfl rfl rfl) T.e_BadGraph (by decide) (fun h => pmk_oex T.O_BadGraph T.iC_BadGraph T.tI_BadGraph T.ini_BadGraph (hr.mono (by omega)) T.bI_BadGraph .nil pass0 rfl T.g_BadGraph h) (ra_cons (re_tup ra_nil (by decide) len_nil) (ra_cons re_str ra_nil)))) rss_nil)
    (rss_one (rs_for (passes_of rfl) rfl (ri_enumA rfl T.enumerate (ra_cons (re_var (pv 0)) ra_nil)) (rg_tup (by rfl) (rgs_cons (rg_name (pg_name (i := 1) sc_check_procedures.nd rfl (Or.inl rfl))) (rgs_cons (rg_name (pg_name (i := 2) sc_check_procedures.nd rfl (Or.inl rfl))) rgs_nil))) (rss_one (rs_expr (re_call (ok_check_points T TB) (hr.mono (by omega)) rfl T.D_check_points.g T.D_check_points.F.kp T.D_check_points.b (takes_of rfl rfl rfl rfl) (ra_cons (re_var (pv 0)) (ra_cons (re_var (pv 1)) (ra_cons (re_ix (re_var (pv 2)) re_int (fun _ _ => rfl)) ra_nil))))))))))))
theorem ok_Graph_init (T : Txt K mg) (TB : T.Tbs w base) : FnOk P w K mg base (L2.CX P w) 10 T.f_Graph_init T.fd_Graph_init ["self", "procedures"] (spM K T.g 2 m_Graph_init) := by
  refine fn_m rfl T.D_Graph_init.F sc_Graph_init rfl (fun cdv A outer s H E hr => ?_)
  exact (rss_cons (rs_expr (re_call (ok_check_procedures T TB) (hr.mono (by omega)) rfl T.D_check_procedures.g T.D_check_procedures.F.kp T.D_check_procedures.b (takes_of rfl rfl rfl rfl) (ra_cons (re_var (pv 1)) ra_nil)))
    (rss_one (rs_setF T.fo_procedures (re_var (pv 0)) (re_var (pv 1)))))
theorem ok_Graph_is_place (T : Txt K mg) : FnOk P w K mg base (L2.CX P w) 3 T.f_Graph_is_place T.fd_Graph_is_place ["self", "value"] (spM K T.g 2 m_Graph_is_place) := by
  refine fn_m rfl T.D_Graph_is_place.F sc_Graph_is_place rfl (fun cdv A outer s H E hr => ?_)
  exact (rss_cons (rs_if (rt_of (rw_or (rt_not (rt_val (re_isi (T := "tuple") (by decide) (re_var (pv 1)) (pe_bltn (v := .ty "tuple") (by rfl) T.tuple PyProof.Rows.boot_tuple rfl) (fun h => pe_callB call_isi (by rfl) T.isinstance PyProof.Rows.boot_isinstance h)) (fun _ => rfl))) (rw_or1 (rt_cmp (opr_ne hr.units) opm_ne (nomark _) (re_cb (fun h => pe_callB call_len (by rfl) T.len PySem.boot_len h) cam_len (ra_cons (re_var (pv 1)) ra_nil)) re_int)))) (rss_one (rs_ret re_bl)) rss_nil)
    (rss_cons (rs_asg (re_var (pv 1)) (rg_tup (by rfl) (rgs_cons (rg_name (pg_name (i := 2) sc_Graph_is_place.nd rfl (Or.inl rfl))) (rgs_cons (rg_name (pg_name (i := 3) sc_Graph_is_place.nd rfl (Or.inl rfl))) rgs_nil))))
    (rss_one (rs_ret (re_and (re_call (ok_is_index T) (hr.mono (by omega)) rfl T.D_is_index.g T.D_is_index.F.kp T.D_is_index.b (takes_of rfl rfl rfl rfl) (ra_cons (re_var (pv 2)) (ra_cons (re_cb (fun h => pe_callB call_len (by rfl) T.len PySem.boot_len h) cam_len (ra_cons (re_fld T.fo_procedures (re_var (pv 0))) ra_nil)) ra_nil))) (re_one (re_call (ok_is_index T) (hr.mono (by omega)) rfl T.D_is_index.g T.D_is_index.F.kp T.D_is_index.b (takes_of rfl rfl rfl rfl) (ra_cons (re_var (pv 3)) (ra_cons (re_cb (fun h => pe_callB call_len (by rfl) T.len PySem.boot_len h) cam_len (ra_cons (re_ix (re_ix (re_fld T.fo_procedures (re_var (pv 0))) (re_var (pv 2)) (fun _ _ => rfl)) re_int (fun _ _ => rfl)) ra_nil)) ra_nil)))))))))
theorem ok_check_graph (T : Txt K mg) : FnOk P w K mg base (L2.CX P w) 3 T.f_check_graph T.fd_check_graph ["graph"] (spM K T.g 1 m_check_graph) := by
  refine fn_m rfl T.D_check_graph.F sc_check_graph rfl (fun cdv A outer s H E hr => ?_)
  exact (rss_one (rs_if (rt_not (rt_val (re_isC T.ic_Graph (re_var (pv 0)) (pe_glob (v := .ref T.c_Graph) rfl T.g_Graph rfl) (fun h => pe_callB call_isi (by rfl) T.isinstance PyProof.Rows.boot_isinstance h)) (fun _ => rfl))) (rss_one (rs_raise (ns := ["name"]) rfl (takes_of rfl rfl rfl rfl) T.e_BadValue (by decide) (fun h => pmk_oex T.O_BadValue T.iC_BadValue T.tI_BadValue T.ini_BadValue (hr.mono (by omega)) T.bI_BadValue .nil pass0 rfl T.g_BadValue h) (ra_cons re_str ra_nil))) rss_nil))
theorem ok_rejecting (T : Txt K mg) (TB : T.Tbs w base) : FnOk P w K mg base (L2.CX P w) 13 T.f_rejecting T.fd_rejecting ["graph", "places"] (spM K T.g 2 m_rejecting) := by
  refine fn_mC rfl T.D_rejecting.F T.code_rejecting sc_rejecting rfl (fun A outer s H E hr => ?_)
  exact (rss_cons (rs_expr (re_call (ok_check_graph T) (hr.mono (by omega)) rfl T.D_check_graph.g T.D_check_graph.F.kp T.D_check_graph.b (takes_of rfl rfl rfl rfl) (ra_cons (re_var (pv 0)) ra_nil)))
    (rss_cons (rs_if (rt_of (rw_or (rt_not (rt_val (re_isi (T := "list") (by decide) (re_var (pv 1)) (pe_bltn (v := .ty "list") (by rfl) T.list PyProof.Rows.boot_list rfl) (fun h => pe_callB call_isi (by rfl) T.isinstance PyProof.Rows.boot_isinstance h)) (fun _ => rfl))) (rw_or1 (rt_not (rt_val (re_allG (own := [("place", 2)]) (k := 11) T.tm_rejecting rfl rfl sc_rejecting.nd (hr.mono (by omega)) (by rfl) T.all (TB.t_rejecting) rfl (blkOk_by (own := [("place", 2)]) (N := ["graph", "places", "place", "procedures", "number", "exits", "points", "changed", "index", "point"]) (sc := defScope s_rejecting) (by decide +kernel)) rfl (by decide +kernel) (by rfl) (ri_val (re_var (pv 1))) (fun _ _ _ _ _ _ _ hr => (rg_name (pg_name (i := 2) sc_rejecting.nd rfl (Or.inl rfl)))) (fun _ _ _ _ _ _ _ hr => pts_yes) (fun _ _ _ _ _ _ _ hr => (re_meth T.hc_Graph T.cl_Graph T.me_Graph_is_place (ok_Graph_is_place T) (hr.mono (by omega)) T.D_Graph_is_place.b takes_no (re_var (pv 0)) (ra_cons (re_var (pv 2)) ra_nil)))) (fun _ => rfl)))))) (rss_one (rs_raise (ns := ["name"]) rfl (takes_of rfl rfl rfl rfl) T.e_BadValue (by decide) (fun h => pmk_oex T.O_BadValue T.iC_BadValue T.tI_BadValue T.ini_BadValue (hr.mono (by omega)) T.bI_BadValue .nil pass0 rfl T.g_BadValue h) (ra_cons re_str ra_nil))) rss_nil)
    (rss_cons (rs_set (i := 3) (re_lst ra_nil (by decide) len_nil) (fun h => ps_set (i := 3) sc_rejecting.nd rfl (Or.inl rfl) h))
    (rss_cons (rs_for (passes_of rfl) rfl (ri_enumA rfl T.enumerate (ra_cons (re_fld T.fo_procedures (re_var (pv 0))) ra_nil)) (rg_tup (by rfl) (rgs_cons (rg_name (pg_name (i := 4) sc_rejecting.nd rfl (Or.inr rfl))) (rgs_cons (rg_tup (by rfl) (rgs_cons (rg_name (pg_name (i := 5) sc_rejecting.nd rfl (Or.inl rfl))) (rgs_cons (rg_name (pg_name (i := 6) sc_rejecting.nd rfl (Or.inl rfl))) rgs_nil))) rgs_nil))) (rss_cons (rs_setLc (i := 7) (own := [("index", 8), ("point", 9)]) rfl rfl sc_rejecting.nd rfl rfl (sw_true rfl rfl rfl (by decide +kernel)) (ri_enumA rfl T.enumerate (ra_cons (re_var (pv 6)) ra_nil)) (blkOk_by (own := [("index", 8), ("point", 9)]) (N := ["graph", "places", "place", "procedures", "number", "exits", "points", "changed", "index", "point"]) (sc := defScope s_rejecting) (by decide +kernel)) (fun _ _ _ _ _ => (rg_tup (by rfl) (rgs_cons (rg_name (pg_name (i := 8) sc_rejecting.nd rfl (Or.inl rfl))) (rgs_cons (rg_name (pg_name (i := 9) sc_rejecting.nd rfl (Or.inl rfl))) rgs_nil)))) (fun _ _ _ _ _ => pts_yes) (fun _ _ _ _ _ => (re_if (rt_cmp (opr_in (room65 hr)) opm_in (by rfl) (re_tup (ra_cons (re_var (pv 4)) (ra_cons (re_var (pv 8)) ra_nil)) (by decide) (len_cons (len_cons len_nil))) (re_var (pv 1))) (re_tup (ra_cons re_str ra_nil) (by decide) (len_cons len_nil)) (re_var (pv 9)))))
    (rss_one (rs_expr (re_bm (fun r d h => lst_ty r d h) met_append (re_var (pv 3)) (ra_cons (re_tup (ra_cons (re_var (pv 5)) (ra_cons (re_cb (fun h => pe_callTy call_tuple_of (by rfl) T.tuple PyProof.Rows.boot_tuple h) cam_tuple (ra_cons (re_var (pv 7)) ra_nil)) ra_nil)) (by decide) (len_cons (len_cons len_nil))) ra_nil) (fun h h2 => pe_bm PySem.F.plainAttrs_list PySem.F.slot_list_append PySem.F.type_list_append mt_append h h2))))))
    (rss_one (rs_ret (re_makeK T.hc_Graph T.mk_Graph (ok_Graph_init T TB) (hr.mono (by omega)) rfl T.g_Graph T.D_Graph_init.b (takes_of rfl rfl rfl rfl) (rk_cons (re_cb (fun h => pe_callTy call_tuple_of (by rfl) T.tuple PyProof.Rows.boot_tuple h) cam_tuple (ra_cons (re_var (pv 3)) ra_nil)) rk_nil))))))))
theorem ok_l_stream (T : Txt K mg) : FnOk P w K mg base (L2.CX P w) 1 T.f_l_stream T.fd_l_stream ["script"] (spM K T.g 1 m_l_stream) := by
  refine fn_m rfl T.D_l_stream.F sc_l_stream rfl (fun cdv A outer s H E hr => ?_)
  exact (rss_one (rs_ret (re_lst (ra_cons (re_cb (fun h => pe_callTy call_list_of (by rfl) T.list PyProof.Rows.boot_list h) cam_list (ra_cons (re_var (pv 0)) ra_nil)) (ra_cons re_int (ra_cons re_int ra_nil))) (by decide) (len_cons (len_cons (len_cons len_nil))))))
theorem ok_l_next (T : Txt K mg) : FnOk P w K mg base (L2.CX P w) 1 T.f_l_next T.fd_l_next ["stream", "many"] (spM K T.g 2 m_l_next) := by
  refine fn_m rfl T.D_l_next.F sc_l_next rfl (fun cdv A outer s H E hr => ?_)
  exact (rss_cons (rs_if (rt_cmp (opr_eq hr.units) opm_eq (nomark _) (re_ix (re_var (pv 0)) re_int (fun _ _ => rfl)) re_int) (rss_cons (rs_set (i := 2) (re_ix (re_var (pv 0)) re_int (fun _ _ => rfl)) (fun h => ps_set (i := 2) sc_l_next.nd rfl (Or.inl rfl) h))
    (rss_cons (rs_set (i := 3) (re_op opr_add opm_add re_int (re_var (pv 2))) (fun h => ps_set (i := 3) sc_l_next.nd rfl (Or.inl rfl) h))
    (rss_cons (rs_if (rt_cmp op_lt opm_lt (nomark _) (re_var (pv 2)) (re_cb (fun h => pe_callB call_len (by rfl) T.len PySem.boot_len h) cam_len (ra_cons (re_ix (re_var (pv 0)) re_int (fun _ _ => rfl)) ra_nil))) (rss_one (rs_set (i := 3) (re_cb (fun h => pe_callB call_abs (by rfl) T.abs PyProof.Rows.boot_abs h) cam_abs (ra_cons (re_ix (re_ix (re_var (pv 0)) re_int (fun _ _ => rfl)) (re_var (pv 2)) (fun _ _ => rfl)) ra_nil)) (fun h => ps_set (i := 3) sc_l_next.nd rfl (Or.inl rfl) h))) rss_nil)
    (rss_cons (rs_if (rt_cmp op_lt opm_lt (nomark _) (re_var (pv 3)) (re_op op_pow opm_pow re_int re_int)) (rss_cons (rs_set (i := 3) (re_op op_modN opm_mod (re_cb (fun h => pe_callTy call_int1 (by rfl) T.int PyProof.Rows.boot_int h) cam_int (ra_cons (re_op opr_add opm_add (re_op opr_add opm_add (re_op opr_mul opm_mul (re_var (pv 3)) re_int) (re_op opr_mul opm_mul (re_var (pv 2)) re_int)) re_int) ra_nil)) re_int) (fun h => ps_set (i := 3) sc_l_next.nd rfl (Or.inl rfl) h))
    (rss_one (rs_set (i := 3) (re_op opr_add opm_add (re_op opr_mul opm_mul (re_op op_modN opm_mod (re_cb (fun h => pe_callTy call_int1 (by rfl) T.int PyProof.Rows.boot_int h) cam_int (ra_cons (re_op opr_add opm_add (re_op opr_mul opm_mul (re_var (pv 3)) re_int) re_int) ra_nil)) re_int) re_int) (re_var (pv 3))) (fun h => ps_set (i := 3) sc_l_next.nd rfl (Or.inl rfl) h)))) rss_nil)
    (rss_cons (rs_setL (re_var (pv 3)) (re_var (pv 0)) re_int)
    (rss_one (rs_setL (re_op opr_add opm_add (re_var (pv 2)) re_int) (re_var (pv 0)) re_int))))))) rss_nil)
    (rss_cons (rs_set (i := 4) (re_op op_modN opm_mod (re_cb (fun h => pe_callTy call_int1 (by rfl) T.int PyProof.Rows.boot_int h) cam_int (ra_cons (re_ix (re_var (pv 0)) re_int (fun _ _ => rfl)) ra_nil)) (re_var (pv 1))) (fun h => ps_set (i := 4) sc_l_next.nd rfl (Or.inl rfl) h))
    (rss_cons (rs_setL (re_op opr_fdiv opm_fdiv (re_ix (re_var (pv 0)) re_int (fun _ _ => rfl)) (re_var (pv 1))) (re_var (pv 0)) re_int)
    (rss_one (rs_ret (re_var (pv 4)))))))
theorem ok_l_end (T : Txt K mg) : FnOk P w K mg base (L2.CX P w) 2 T.f_l_end T.fd_l_end ["stream", "exits"] (spM K T.g 2 m_l_end) := by
  refine fn_m rfl T.D_l_end.F sc_l_end rfl (fun cdv A outer s H E hr => ?_)
  exact (rss_cons (rs_set (i := 2) (re_call (ok_l_next T) (hr.mono (by omega)) rfl T.D_l_next.g T.D_l_next.F.kp T.D_l_next.b (takes_of rfl rfl rfl rfl) (ra_cons (re_var (pv 0)) (ra_cons re_int ra_nil))) (fun h => ps_set (i := 2) sc_l_end.nd rfl (Or.inl rfl) h))
    (rss_cons (rs_if (rt_of (rw_and (rt_cmp op_gt opm_gt (nomark _) (re_var (pv 1)) re_int) (rw_and1 (rt_cmp op_lt opm_lt (nomark _) (re_var (pv 2)) re_int)))) (rss_one (rs_ret (re_tup (ra_cons re_str (ra_cons (re_call (ok_l_next T) (hr.mono (by omega)) rfl T.D_l_next.g T.D_l_next.F.kp T.D_l_next.b (takes_of rfl rfl rfl rfl) (ra_cons (re_var (pv 0)) (ra_cons (re_var (pv 1)) ra_nil))) ra_nil)) (by decide) (len_cons (len_cons len_nil))))) rss_nil)
    (rss_one (rs_ret (re_ix (re_lst (ra_cons (re_tup (ra_cons re_str ra_nil) (by decide) (len_cons len_nil)) (ra_cons (re_tup (ra_cons re_str ra_nil) (by decide) (len_cons len_nil)) ra_nil)) (by decide) (len_cons (len_cons len_nil))) (re_op op_and opm_band (re_var (pv 2)) re_int) (fun _ _ => rfl))))))
theorem ok_l_gcd (T : Txt K mg) : FnOk P w K mg base (L2.CX P w) 1 T.f_l_gcd T.fd_l_gcd ["a", "b"] (spM K T.g 2 m_l_gcd) := by
  refine fn_m rfl T.D_l_gcd.F sc_l_gcd rfl (fun cdv A outer s H E hr => ?_)
  exact (rss_cons (rs_set (i := 0) (re_cb (fun h => pe_callB call_abs (by rfl) T.abs PyProof.Rows.boot_abs h) cam_abs (ra_cons (re_var (pv 0)) ra_nil)) (fun h => ps_set (i := 0) sc_l_gcd.nd rfl (Or.inl rfl) h))
    (rss_cons (rs_set (i := 1) (re_cb (fun h => pe_callB call_abs (by rfl) T.abs PyProof.Rows.boot_abs h) cam_abs (ra_cons (re_var (pv 1)) ra_nil)) (fun h => ps_set (i := 1) sc_l_gcd.nd rfl (Or.inl rfl) h))
    (rss_cons (rs_for (passes_of rfl) rfl (ri_rng1 rfl T.range (ra_cons re_int ra_nil)) (rg_name (pg_name (i := 2) sc_l_gcd.nd rfl (Or.inl rfl))) (rss_cons (rs_if (rt_cmp (opr_eq hr.units) opm_eq (nomark _) (re_var (pv 1)) re_int) (rss_one rs_break) rss_nil)
    (rss_cons (rs_set (i := 3) (re_op op_modN opm_mod (re_cb (fun h => pe_callTy call_int1 (by rfl) T.int PyProof.Rows.boot_int h) cam_int (ra_cons (re_var (pv 0)) ra_nil)) (re_var (pv 1))) (fun h => ps_set (i := 3) sc_l_gcd.nd rfl (Or.inl rfl) h))
    (rss_cons (rs_set (i := 0) (re_var (pv 1)) (fun h => ps_set (i := 0) sc_l_gcd.nd rfl (Or.inl rfl) h))
    (rss_one (rs_set (i := 1) (re_var (pv 3)) (fun h => ps_set (i := 1) sc_l_gcd.nd rfl (Or.inl rfl) h)))))))
    (rss_one (rs_ret (re_var (pv 0)))))))
theorem ok_l_ratio (T : Txt K mg) : FnOk P w K mg base (L2.CX P w) 2 T.f_l_ratio T.fd_l_ratio ["n", "d"] (spM K T.g 2 m_l_ratio) := by
  refine fn_m rfl T.D_l_ratio.F sc_l_ratio rfl (fun cdv A outer s H E hr => ?_)
  exact (rss_cons (rs_set (i := 2) (re_call (ok_l_gcd T) (hr.mono (by omega)) rfl T.D_l_gcd.g T.D_l_gcd.F.kp T.D_l_gcd.b (takes_of rfl rfl rfl rfl) (ra_cons (re_var (pv 0)) (ra_cons (re_var (pv 1)) ra_nil))) (fun h => ps_set (i := 2) sc_l_ratio.nd rfl (Or.inl rfl) h))
    (rss_one (rs_ret (re_tup (ra_cons (re_op opr_fdiv opm_fdiv (re_var (pv 0)) (re_var (pv 2))) (ra_cons (re_op opr_fdiv opm_fdiv (re_var (pv 1)) (re_var (pv 2))) ra_nil)) (by decide) (len_cons (len_cons len_nil))))))
theorem ok_l_branches (T : Txt K mg) : FnOk P w K mg base (L2.CX P w) 3 T.f_l_branches T.fd_l_branches ["stream", "many"] (spM K T.g 2 m_l_branches) := by
  refine fn_m rfl T.D_l_branches.F sc_l_branches rfl (fun cdv A outer s H E hr => ?_)
  exact (rss_cons (rs_set (i := 2) (re_op opr_add opm_add re_int (re_call (ok_l_next T) (hr.mono (by omega)) rfl T.D_l_next.g T.D_l_next.F.kp T.D_l_next.b (takes_of rfl rfl rfl rfl) (ra_cons (re_var (pv 0)) (ra_cons re_int ra_nil)))) (fun h => ps_set (i := 2) sc_l_branches.nd rfl (Or.inl rfl) h))
    (rss_cons (rs_if (rt_cmp (opr_eq hr.units) opm_eq (nomark _) (re_call (ok_l_next T) (hr.mono (by omega)) rfl T.D_l_next.g T.D_l_next.F.kp T.D_l_next.b (takes_of rfl rfl rfl rfl) (ra_cons (re_var (pv 0)) (ra_cons re_int ra_nil))) re_int) (rss_one (rs_set (i := 2) re_int (fun h => ps_set (i := 2) sc_l_branches.nd rfl (Or.inl rfl) h))) rss_nil)
    (rss_cons (rs_setLc (i := 3) (own := [("k", 4)]) rfl rfl sc_l_branches.nd rfl rfl (sw_true rfl rfl rfl (by decide +kernel)) (ri_rng1 rfl T.range (ra_cons (re_var (pv 2)) ra_nil)) (blkOk_by (own := [("k", 4)]) (N := ["stream", "many", "count", "weights", "k", "at", "total", "weight"]) (sc := defScope s_l_branches) (by decide +kernel)) (fun _ _ _ _ _ => (rg_name (pg_name (i := 4) sc_l_branches.nd rfl (Or.inl rfl)))) (fun _ _ _ _ _ => pts_yes) (fun _ _ _ _ _ => re_int))
    (rss_cons (rs_for (passes_of rfl) rfl (ri_rng1 rfl T.range (ra_cons (re_call (ok_l_next T) (hr.mono (by omega)) rfl T.D_l_next.g T.D_l_next.F.kp T.D_l_next.b (takes_of rfl rfl rfl rfl) (ra_cons (re_var (pv 0)) (ra_cons re_int ra_nil))) ra_nil)) (rg_name (pg_name (i := 4) sc_l_branches.nd rfl (Or.inl rfl))) (rss_cons (rs_set (i := 5) (re_call (ok_l_next T) (hr.mono (by omega)) rfl T.D_l_next.g T.D_l_next.F.kp T.D_l_next.b (takes_of rfl rfl rfl rfl) (ra_cons (re_var (pv 0)) (ra_cons (re_var (pv 2)) ra_nil))) (fun h => ps_set (i := 5) sc_l_branches.nd rfl (Or.inl rfl) h))
    (rss_one (rs_setL (re_op opr_add opm_add (re_ix (re_var (pv 3)) (re_var (pv 5)) (fun _ _ => rfl)) re_int) (re_var (pv 3)) (re_var (pv 5))))))
    (rss_cons (rs_set (i := 6) (re_cb (fun h => pe_callB (cr_sum rfl) (by rfl) T.sum (by decide +kernel) h) cam_sum (ra_cons (re_var (pv 3)) ra_nil)) (fun h => ps_set (i := 6) sc_l_branches.nd rfl (Or.inr rfl) h))
    (rss_one (rs_ret (re_cb (fun h => pe_callTy call_tuple_of (by rfl) T.tuple PyProof.Rows.boot_tuple h) cam_tuple (ra_cons (re_lc (own := [("weight", 7)]) rfl rfl sc_l_branches.nd (ri_val (re_var (pv 3))) (blkOk_by (own := [("weight", 7)]) (N := ["stream", "many", "count", "weights", "k", "at", "total", "weight"]) (sc := defScope s_l_branches) (by decide +kernel)) (fun _ _ _ _ _ => (rg_name (pg_name (i := 7) sc_l_branches.nd rfl (Or.inl rfl)))) (fun _ _ _ _ _ => pts_yes) (fun _ _ _ _ _ => (re_tup (ra_cons (re_call (ok_l_ratio T) (hr.mono (by omega)) rfl T.D_l_ratio.g T.D_l_ratio.F.kp T.D_l_ratio.b takes_no (ra_cons (re_var (pv 7)) (ra_cons (re_var (pv 6)) ra_nil))) (ra_cons (re_call (ok_l_next T) (hr.mono (by omega)) rfl T.D_l_next.g T.D_l_next.F.kp T.D_l_next.b takes_no (ra_cons (re_var (pv 0)) (ra_cons (re_var (pv 1)) ra_nil))) ra_nil)) (by decide) (len_cons (len_cons len_nil))))) ra_nil)))))))))
theorem ok_l_point (T : Txt K mg) : FnOk P w K mg base (L2.CX P w) 4 T.f_l_point T.fd_l_point ["stream", "exits", "many", "calls", "choices"] (spM K T.g 5 m_l_point) := by
  refine fn_m rfl T.D_l_point.F sc_l_point rfl (fun cdv A outer s H E hr => ?_)
  exact (rss_cons (rs_set (i := 5) (re_call (ok_l_next T) (hr.mono (by omega)) rfl T.D_l_next.g T.D_l_next.F.kp T.D_l_next.b (takes_of rfl rfl rfl rfl) (ra_cons (re_var (pv 0)) (ra_cons re_int ra_nil))) (fun h => ps_set (i := 5) sc_l_point.nd rfl (Or.inl rfl) h))
    (rss_cons (rs_if (rt_cmp op_lt opm_lt (nomark _) (re_var (pv 5)) re_int) (rss_one (rs_ret (re_call (ok_l_end T) (hr.mono (by omega)) rfl T.D_l_end.g T.D_l_end.F.kp T.D_l_end.b (takes_of rfl rfl rfl rfl) (ra_cons (re_var (pv 0)) (ra_cons (re_var (pv 1)) ra_nil))))) rss_nil)
    (rss_cons (rs_if (rt_cmp (opr_eq hr.units) opm_eq (nomark _) (re_var (pv 5)) re_int) (rss_one (rs_ret (re_tup (ra_cons re_str (ra_cons (re_call (ok_l_ratio T) (hr.mono (by omega)) rfl T.D_l_ratio.g T.D_l_ratio.F.kp T.D_l_ratio.b (takes_of rfl rfl rfl rfl) (ra_cons (re_call (ok_l_next T) (hr.mono (by omega)) rfl T.D_l_next.g T.D_l_next.F.kp T.D_l_next.b (takes_of rfl rfl rfl rfl) (ra_cons (re_var (pv 0)) (ra_cons re_int ra_nil))) (ra_cons (re_op opr_add opm_add re_int (re_call (ok_l_next T) (hr.mono (by omega)) rfl T.D_l_next.g T.D_l_next.F.kp T.D_l_next.b (takes_of rfl rfl rfl rfl) (ra_cons (re_var (pv 0)) (ra_cons re_int ra_nil)))) ra_nil))) (ra_cons (re_call (ok_l_next T) (hr.mono (by omega)) rfl T.D_l_next.g T.D_l_next.F.kp T.D_l_next.b (takes_of rfl rfl rfl rfl) (ra_cons (re_var (pv 0)) (ra_cons (re_var (pv 2)) ra_nil))) ra_nil))) (by decide) (len_cons (len_cons (len_cons len_nil)))))) rss_nil)
    (rss_cons (rs_if (rt_of (rw_and (rt_cmp op_lt opm_lt (nomark _) (re_var (pv 5)) re_int) (rw_and1 (rt_val (re_var (pv 3)) (fun _ => rfl))))) (rss_cons (rs_asg (re_ix (re_var (pv 3)) (re_call (ok_l_next T) (hr.mono (by omega)) rfl T.D_l_next.g T.D_l_next.F.kp T.D_l_next.b (takes_of rfl rfl rfl rfl) (ra_cons (re_var (pv 0)) (ra_cons (re_cb (fun h => pe_callB call_len (by rfl) T.len PySem.boot_len h) cam_len (ra_cons (re_var (pv 3)) ra_nil)) ra_nil))) (fun _ _ => rfl)) (rg_tup (by rfl) (rgs_cons (rg_name (pg_name (i := 6) sc_l_point.nd rfl (Or.inl rfl))) (rgs_cons (rg_name (pg_name (i := 7) sc_l_point.nd rfl (Or.inl rfl))) rgs_nil))))
    (rss_one (rs_ret (re_tup (ra_cons re_str (ra_cons (re_var (pv 6)) (ra_cons (re_cb (fun h => pe_callTy call_tuple_of (by rfl) T.tuple PyProof.Rows.boot_tuple h) cam_tuple (ra_cons (re_lc (own := [("k", 8)]) rfl rfl sc_l_point.nd (ri_rng1 rfl T.range (ra_cons (re_var (pv 7)) ra_nil)) (blkOk_by (own := [("k", 8)]) (N := ["stream", "exits", "many", "calls", "choices", "pick", "called", "others", "k"]) (sc := defScope s_l_point) (by decide +kernel)) (fun _ _ _ _ _ => (rg_name (pg_name (i := 8) sc_l_point.nd rfl (Or.inl rfl)))) (fun _ _ _ _ _ => pts_yes) (fun _ _ _ _ _ => (re_call (ok_l_next T) (hr.mono (by omega)) rfl T.D_l_next.g T.D_l_next.F.kp T.D_l_next.b takes_no (ra_cons (re_var (pv 0)) (ra_cons (re_var (pv 2)) ra_nil))))) ra_nil)) ra_nil))) (by decide) (len_cons (len_cons (len_cons len_nil))))))) rss_nil)
    (rss_cons (rs_if (rt_of (rw_and (rt_cmp op_lt opm_lt (nomark _) (re_var (pv 5)) re_int) (rw_and1 (rt_val (re_var (pv 4)) (fun _ => rfl))))) (rss_one (rs_ret (re_tup (ra_cons re_str (ra_cons (re_cb (fun h => pe_callTy call_tuple_of (by rfl) T.tuple PyProof.Rows.boot_tuple h) cam_tuple (ra_cons (re_lc (own := [("k", 8)]) rfl rfl sc_l_point.nd (ri_rng1 rfl T.range (ra_cons (re_op opr_add opm_add re_int (re_call (ok_l_next T) (hr.mono (by omega)) rfl T.D_l_next.g T.D_l_next.F.kp T.D_l_next.b (takes_of rfl rfl rfl rfl) (ra_cons (re_var (pv 0)) (ra_cons re_int ra_nil)))) ra_nil)) (blkOk_by (own := [("k", 8)]) (N := ["stream", "exits", "many", "calls", "choices", "pick", "called", "others", "k"]) (sc := defScope s_l_point) (by decide +kernel)) (fun _ _ _ _ _ => (rg_name (pg_name (i := 8) sc_l_point.nd rfl (Or.inl rfl)))) (fun _ _ _ _ _ => pts_yes) (fun _ _ _ _ _ => (re_call (ok_l_next T) (hr.mono (by omega)) rfl T.D_l_next.g T.D_l_next.F.kp T.D_l_next.b takes_no (ra_cons (re_var (pv 0)) (ra_cons (re_var (pv 2)) ra_nil))))) ra_nil)) ra_nil)) (by decide) (len_cons (len_cons len_nil))))) rss_nil)
    (rss_one (rs_ret (re_tup (ra_cons re_str (ra_cons (re_call (ok_l_branches T) (hr.mono (by omega)) rfl T.D_l_branches.g T.D_l_branches.F.kp T.D_l_branches.b (takes_of rfl rfl rfl rfl) (ra_cons (re_var (pv 0)) (ra_cons (re_var (pv 2)) ra_nil))) ra_nil)) (by decide) (len_cons (len_cons len_nil))))))))))
theorem ok_l_procedure (T : Txt K mg) : FnOk P w K mg base (L2.CX P w) 5 T.f_l_procedure T.fd_l_procedure ["stream", "exits", "many", "calls", "choices"] (spM K T.g 5 m_l_procedure) := by
  refine fn_m rfl T.D_l_procedure.F sc_l_procedure rfl (fun cdv A outer s H E hr => ?_)
  exact (rss_cons (rs_setLc (i := 5) (own := [("k", 6)]) rfl rfl sc_l_procedure.nd rfl rfl (sw_true rfl rfl rfl (by decide +kernel)) (ri_rng1 rfl T.range (ra_cons (re_op op_sub opm_sub (re_var (pv 2)) re_int) ra_nil)) (blkOk_by (own := [("k", 6)]) (N := ["stream", "exits", "many", "calls", "choices", "points", "k"]) (sc := defScope s_l_procedure) (by decide +kernel)) (fun _ _ _ _ _ => (rg_name (pg_name (i := 6) sc_l_procedure.nd rfl (Or.inl rfl)))) (fun _ _ _ _ _ => pts_yes) (fun _ _ _ _ _ => (re_call (ok_l_point T) (hr.mono (by omega)) rfl T.D_l_point.g T.D_l_point.F.kp T.D_l_point.b takes_no (ra_cons (re_var (pv 0)) (ra_cons (re_var (pv 1)) (ra_cons (re_var (pv 2)) (ra_cons (re_var (pv 3)) (ra_cons (re_var (pv 4)) ra_nil))))))))
    (rss_cons (rs_expr (re_bm (fun r d h => lst_ty r d h) met_append (re_var (pv 5)) (ra_cons (re_call (ok_l_end T) (hr.mono (by omega)) (show L2.Gl _ "_law_end" from rfl) T.D_l_end.g T.D_l_end.F.kp T.D_l_end.b (takes_of rfl rfl rfl rfl) (ra_cons (re_var (pv 0)) (ra_cons (re_var (pv 1)) ra_nil))) ra_nil) (fun h h2 => pe_bm PySem.F.plainAttrs_list PySem.F.slot_list_append PySem.F.type_list_append mt_append h h2)))
    (rss_one (rs_ret (re_tup (ra_cons (re_var (pv 1)) (ra_cons (re_cb (fun h => pe_callTy call_tuple_of (by rfl) T.tuple PyProof.Rows.boot_tuple h) cam_tuple (ra_cons (re_var (pv 5)) ra_nil)) ra_nil)) (by decide) (len_cons (len_cons len_nil)))))))
theorem ok_l_procedures (T : Txt K mg) : FnOk P w K mg base (L2.CX P w) 6 T.f_l_procedures T.fd_l_procedures ["stream", "choices", "round_calls"] (spM K T.g 3 m_l_procedures) := by
  refine fn_m rfl T.D_l_procedures.F sc_l_procedures rfl (fun cdv A outer s H E hr => ?_)
  exact (rss_cons (rs_set (i := 3) (re_lst ra_nil (by decide) len_nil) (fun h => ps_set (i := 3) sc_l_procedures.nd rfl (Or.inl rfl) h))
    (rss_cons (rs_for (passes_of rfl) rfl (ri_rng1 rfl T.range (ra_cons (re_op opr_add opm_add re_int (re_call (ok_l_next T) (hr.mono (by omega)) rfl T.D_l_next.g T.D_l_next.F.kp T.D_l_next.b (takes_of rfl rfl rfl rfl) (ra_cons (re_var (pv 0)) (ra_cons re_int ra_nil)))) ra_nil)) (rg_name (pg_name (i := 4) sc_l_procedures.nd rfl (Or.inl rfl))) (rss_one (rs_expr (re_bm (fun r d h => lst_ty r d h) met_append (re_var (pv 3)) (ra_cons (re_tup (ra_cons (re_call (ok_l_next T) (hr.mono (by omega)) (show L2.Gl _ "_law_next" from rfl) T.D_l_next.g T.D_l_next.F.kp T.D_l_next.b (takes_of rfl rfl rfl rfl) (ra_cons (re_var (pv 0)) (ra_cons re_int ra_nil))) (ra_cons (re_op opr_add opm_add re_int (re_call (ok_l_next T) (hr.mono (by omega)) (show L2.Gl _ "_law_next" from rfl) T.D_l_next.g T.D_l_next.F.kp T.D_l_next.b (takes_of rfl rfl rfl rfl) (ra_cons (re_var (pv 0)) (ra_cons re_int ra_nil)))) ra_nil)) (by decide) (len_cons (len_cons len_nil))) ra_nil) (fun h h2 => pe_bm PySem.F.plainAttrs_list PySem.F.slot_list_append PySem.F.type_list_append mt_append h h2)))))
    (rss_cons (rs_set (i := 5) (re_lst ra_nil (by decide) len_nil) (fun h => ps_set (i := 5) sc_l_procedures.nd rfl (Or.inl rfl) h))
    (rss_cons (rs_for (passes_of rfl) rfl (ri_rng1 rfl T.range (ra_cons (re_cb (fun h => pe_callB call_len (by rfl) T.len PySem.boot_len h) cam_len (ra_cons (re_var (pv 3)) ra_nil)) ra_nil)) (rg_name (pg_name (i := 4) sc_l_procedures.nd rfl (Or.inl rfl))) (rss_cons (rs_set (i := 6) (re_lst ra_nil (by decide) len_nil) (fun h => ps_set (i := 6) sc_l_procedures.nd rfl (Or.inl rfl) h))
    (rss_cons (rs_for (passes_of rfl) rfl (ri_rng1 rfl T.range (ra_cons (re_cb (fun h => pe_callB call_len (by rfl) T.len PySem.boot_len h) cam_len (ra_cons (re_var (pv 3)) ra_nil)) ra_nil)) (rg_name (pg_name (i := 7) sc_l_procedures.nd rfl (Or.inl rfl))) (rss_one (rs_if (rt_of (rw_or (rt_val (re_var (pv 2)) (fun _ => rfl)) (rw_or1 (rt_cmp op_gt opm_gt (nomark _) (re_var (pv 7)) (re_var (pv 4)))))) (rss_one (rs_expr (re_bm (fun r d h => lst_ty r d h) met_append (re_var (pv 6)) (ra_cons (re_tup (ra_cons (re_var (pv 7)) (ra_cons (re_ix (re_ix (re_var (pv 3)) (re_var (pv 7)) (fun _ _ => rfl)) re_int (fun _ _ => rfl)) ra_nil)) (by decide) (len_cons (len_cons len_nil))) ra_nil) (fun h h2 => pe_bm PySem.F.plainAttrs_list PySem.F.slot_list_append PySem.F.type_list_append mt_append h h2)))) rss_nil)))
    (rss_one (rs_expr (re_bm (fun r d h => lst_ty r d h) met_append (re_var (pv 5)) (ra_cons (re_call (ok_l_procedure T) (hr.mono (by omega)) (show L2.Gl _ "_law_procedure" from rfl) T.D_l_procedure.g T.D_l_procedure.F.kp T.D_l_procedure.b (takes_of rfl rfl rfl rfl) (ra_cons (re_var (pv 0)) (ra_cons (re_ix (re_ix (re_var (pv 3)) (re_var (pv 4)) (fun _ _ => rfl)) re_int (fun _ _ => rfl)) (ra_cons (re_ix (re_ix (re_var (pv 3)) (re_var (pv 4)) (fun _ _ => rfl)) re_int (fun _ _ => rfl)) (ra_cons (re_var (pv 6)) (ra_cons (re_var (pv 1)) ra_nil)))))) ra_nil) (fun h h2 => pe_bm PySem.F.plainAttrs_list PySem.F.slot_list_append PySem.F.type_list_append mt_append h h2)))))))
    (rss_one (rs_ret (re_cb (fun h => pe_callTy call_tuple_of (by rfl) T.tuple PyProof.Rows.boot_tuple h) cam_tuple (ra_cons (re_var (pv 5)) ra_nil))))))))
theorem ok_l_place (T : Txt K mg) : FnOk P w K mg base (L2.CX P w) 2 T.f_l_place T.fd_l_place ["stream", "procedures"] (spM K T.g 2 m_l_place) := by
  refine fn_m rfl T.D_l_place.F sc_l_place rfl (fun cdv A outer s H E hr => ?_)
  exact (rss_cons (rs_set (i := 2) (re_call (ok_l_next T) (hr.mono (by omega)) rfl T.D_l_next.g T.D_l_next.F.kp T.D_l_next.b (takes_of rfl rfl rfl rfl) (ra_cons (re_var (pv 0)) (ra_cons (re_cb (fun h => pe_callB call_len (by rfl) T.len PySem.boot_len h) cam_len (ra_cons (re_var (pv 1)) ra_nil)) ra_nil))) (fun h => ps_set (i := 2) sc_l_place.nd rfl (Or.inl rfl) h))
    (rss_one (rs_ret (re_tup (ra_cons (re_var (pv 2)) (ra_cons (re_call (ok_l_next T) (hr.mono (by omega)) rfl T.D_l_next.g T.D_l_next.F.kp T.D_l_next.b (takes_of rfl rfl rfl rfl) (ra_cons (re_var (pv 0)) (ra_cons (re_cb (fun h => pe_callB call_len (by rfl) T.len PySem.boot_len h) cam_len (ra_cons (re_ix (re_ix (re_var (pv 1)) (re_var (pv 2)) (fun _ _ => rfl)) re_int (fun _ _ => rfl)) ra_nil)) ra_nil))) ra_nil)) (by decide) (len_cons (len_cons len_nil))))))
theorem ok_law (T : Txt K mg) (TB : T.Tbs w base) : FnOk P w K mg base (L2.CX P w) 14 T.f_law T.fd_law ["script"] (spM K T.g 1 m_law) := by
  refine fn_m rfl T.D_law.F sc_law rfl (fun cdv A outer s H E hr => ?_)
  exact (rss_cons (rs_set (i := 1) (re_call (ok_l_stream T) (hr.mono (by omega)) rfl T.D_l_stream.g T.D_l_stream.F.kp T.D_l_stream.b (takes_of rfl rfl rfl rfl) (ra_cons (re_var (pv 0)) ra_nil)) (fun h => ps_set (i := 1) sc_law.nd rfl (Or.inr rfl) h))
    (rss_cons (rs_set (i := 2) (re_call (ok_l_procedures T) (hr.mono (by omega)) rfl T.D_l_procedures.g T.D_l_procedures.F.kp T.D_l_procedures.b (takes_of rfl rfl rfl rfl) (ra_cons (re_var (pv 1)) (ra_cons re_bl (ra_cons re_bl ra_nil)))) (fun h => ps_set (i := 2) sc_law.nd rfl (Or.inr rfl) h))
    (rss_cons (rs_set (i := 3) (re_makeK T.hc_Graph T.mk_Graph (ok_Graph_init T TB) (hr.mono (by omega)) rfl T.g_Graph T.D_Graph_init.b (takes_of rfl rfl rfl rfl) (rk_cons (re_var (pv 2)) rk_nil)) (fun h => ps_set (i := 3) sc_law.nd rfl (Or.inl rfl) h))
    (rss_cons (rs_setLc (i := 4) (own := [("k", 5)]) rfl rfl sc_law.nd rfl rfl (sw_true rfl rfl rfl (by decide +kernel)) (ri_rng1 rfl T.range (ra_cons (re_call (ok_l_next T) (hr.mono (by omega)) rfl T.D_l_next.g T.D_l_next.F.kp T.D_l_next.b (takes_of rfl rfl rfl rfl) (ra_cons (re_var (pv 1)) (ra_cons re_int ra_nil))) ra_nil)) (blkOk_by (own := [("k", 5)]) (N := ["script", "stream", "procedures", "graph", "places", "k", "passed", "due", "p", "points", "at", "actual"]) (sc := defScope s_law) (by decide +kernel)) (fun _ _ _ _ _ => (rg_name (pg_name (i := 5) sc_law.nd rfl (Or.inl rfl)))) (fun _ _ _ _ _ => pts_yes) (fun _ _ _ _ _ => (re_call (ok_l_place T) (hr.mono (by omega)) rfl T.D_l_place.g T.D_l_place.F.kp T.D_l_place.b takes_no (ra_cons (re_var (pv 1)) (ra_cons (re_var (pv 2)) ra_nil)))))
    (rss_cons (rs_set (i := 6) (re_cb (fun h => pe_callTy call_list_of (by rfl) T.list PyProof.Rows.boot_list h) cam_list (ra_cons (re_var (pv 4)) ra_nil)) (fun h => ps_set (i := 6) sc_law.nd rfl (Or.inl rfl) h))
    (rss_cons (rs_set (i := 7) (re_lst ra_nil (by decide) len_nil) (fun h => ps_set (i := 7) sc_law.nd rfl (Or.inl rfl) h))
    (rss_cons (rs_for (passes_of rfl) rfl (ri_rng1 rfl T.range (ra_cons (re_cb (fun h => pe_callB call_len (by rfl) T.len PySem.boot_len h) cam_len (ra_cons (re_var (pv 2)) ra_nil)) ra_nil)) (rg_name (pg_name (i := 8) sc_law.nd rfl (Or.inl rfl))) (rss_cons (rs_set (i := 9) (re_lst ra_nil (by decide) len_nil) (fun h => ps_set (i := 9) sc_law.nd rfl (Or.inl rfl) h))
    (rss_cons (rs_for (passes_of rfl) rfl (ri_rng1 rfl T.range (ra_cons (re_cb (fun h => pe_callB call_len (by rfl) T.len PySem.boot_len h) cam_len (ra_cons (re_ix (re_ix (re_var (pv 2)) (re_var (pv 8)) (fun _ _ => rfl)) re_int (fun _ _ => rfl)) ra_nil)) ra_nil)) (rg_name (pg_name (i := 10) sc_law.nd rfl (Or.inl rfl))) (rss_one (rs_expr (re_bm (fun r d h => lst_ty r d h) met_append (re_var (pv 9)) (ra_cons (re_if (rt_cmp (opr_in (room65 hr)) opm_in (by rfl) (re_tup (ra_cons (re_var (pv 8)) (ra_cons (re_var (pv 10)) ra_nil)) (by decide) (len_cons (len_cons len_nil))) (re_var (pv 4))) (re_tup (ra_cons re_str ra_nil) (by decide) (len_cons len_nil)) (re_ix (re_ix (re_ix (re_var (pv 2)) (re_var (pv 8)) (fun _ _ => rfl)) re_int (fun _ _ => rfl)) (re_var (pv 10)) (fun _ _ => rfl))) ra_nil) (fun h h2 => pe_bm PySem.F.plainAttrs_list PySem.F.slot_list_append PySem.F.type_list_append mt_append h h2)))))
    (rss_one (rs_expr (re_bm (fun r d h => lst_ty r d h) met_append (re_var (pv 7)) (ra_cons (re_tup (ra_cons (re_ix (re_ix (re_var (pv 2)) (re_var (pv 8)) (fun _ _ => rfl)) re_int (fun _ _ => rfl)) (ra_cons (re_cb (fun h => pe_callTy call_tuple_of (by rfl) T.tuple PyProof.Rows.boot_tuple h) cam_tuple (ra_cons (re_var (pv 9)) ra_nil)) ra_nil)) (by decide) (len_cons (len_cons len_nil))) ra_nil) (fun h h2 => pe_bm PySem.F.plainAttrs_list PySem.F.slot_list_append PySem.F.type_list_append mt_append h h2)))))))
    (rss_cons (rs_set (i := 11) (re_call (ok_rejecting T TB) (hr.mono (by omega)) rfl T.D_rejecting.g T.D_rejecting.F.kp T.D_rejecting.b (takes_of rfl rfl rfl rfl) (ra_cons (re_var (pv 3)) (ra_cons (re_var (pv 6)) ra_nil))) (fun h => ps_set (i := 11) sc_law.nd rfl (Or.inl rfl) h))
    (rss_cons (rs_if (rt_of (rw_or (rt_not (rt_val (re_isC T.ic_Graph (re_var (pv 11)) (pe_glob (v := .ref T.c_Graph) rfl T.g_Graph rfl) (fun h => pe_callB call_isi (by rfl) T.isinstance PyProof.Rows.boot_isinstance h)) (fun _ => rfl))) (rw_or (rt_cmp (opr_ne hr.units) opm_ne (nomark _) (re_fld T.fo_procedures (re_var (pv 11))) (re_cb (fun h => pe_callTy call_tuple_of (by rfl) T.tuple PyProof.Rows.boot_tuple h) cam_tuple (ra_cons (re_var (pv 7)) ra_nil))) (rw_or1 (rt_cmp (opr_ne hr.units) opm_ne (nomark _) (re_fld T.fo_procedures (re_var (pv 3))) (re_var (pv 2))))))) (rss_one (rs_ret re_bl)) rss_nil)
    (rss_one (rs_ret (re_and (re_cmp (opr_eq hr.units) opm_eq (nomark _) (re_fld T.fo_procedures (re_call (ok_rejecting T TB) (hr.mono (by omega)) rfl T.D_rejecting.g T.D_rejecting.F.kp T.D_rejecting.b (takes_of rfl rfl rfl rfl) (ra_cons (re_var (pv 11)) (ra_cons (re_var (pv 6)) ra_nil)))) (re_cb (fun h => pe_callTy call_tuple_of (by rfl) T.tuple PyProof.Rows.boot_tuple h) cam_tuple (ra_cons (re_var (pv 7)) ra_nil))) (re_one (re_cmp (opr_eq hr.units) opm_eq (nomark _) (re_var (pv 6)) (re_var (pv 4))))))))))))))))
end
theorem law_end {K : PySem.W.Frag} (g : Sg) {H : Hp} {a : Addr} {ns : List Int} (hl : ns.length ≤ 63) (ht : ∀ P ∈ g.tabs, GxR.TabG H P) (hS : SqL K H a (ns.map V.int)) :
    spM K g 1 m_law [.ref a] H (fun v _ => v = .bl true) (fun _ _ _ => False) := by
  rcases hS with (h | ⟨o, h⟩) | h
  · obtain ⟨S', e⟩ := law_c ns hl
    refine ⟨[a], [.cell 0], [.lst (ns.map PV.int)], ⟨rfl, by simp, fun n b o h1 h2 => ?_, ht⟩, .cons (.cell rfl) .nil, rfl, ?_⟩
    · cases n with
      | zero => simp at h1 h2; subst h1 h2; exact ⟨_, h, Dens.of_ints ns⟩
      | succ n => simp at h1
    · rw [e]
      intro α' H' v _ _ _ d
      cases d
      rfl
  · obtain ⟨S', e⟩ := law_r ns hl
    refine ⟨[], [.rol (ns.map PV.int)], [], ⟨rfl, by simp, fun n b o h1 h2 => by simp at h1, ht⟩, .cons (.rol (.inl ⟨o, h⟩) (Dens.of_ints ns)) .nil, rfl, ?_⟩
    rw [e]
    intro α' H' v _ _ _ d
    cases d
    rfl
  · obtain ⟨S', e⟩ := law_r ns hl
    refine ⟨[], [.rol (ns.map PV.int)], [], ⟨rfl, by simp, fun n b o h1 h2 => by simp at h1, ht⟩, .cons (.rol (.inr h) (Dens.of_ints ns)) .nil, rfl, ?_⟩
    rw [e]
    intro α' H' v _ _ _ d
    cases d
    rfl
theorem all_mk {l : PySem.W.OpenLaw} {w : World} {K : PySem.W.Frag} {h : Heap} {mg : Str → Option Value} {fa : Addr} (X : K.In h) (G : h.Ns mainGlobals mg) (hfa : mg "law" = some (.ref fa))
    {cGraph : Addr} (xCGraph : PySem.W.nsIn K mainGlobals "Graph" = some (some (.ref cGraph))) (pgGraph : PySem.W.plainGet K cGraph Str.empty = true) (hdGraph : PySem.W.hasDictIn K cGraph = true) (poGraph : PySem.W.plainOver K cGraph = true) (saGraph : PySem.W.findIn K (.ref cGraph) "__setattr__" = some (some (.builtin "object.__setattr__"))) (mkGraph : PySem.W.makesIn K cGraph = true) (kcGraph : PySem.W.keepIn K (.ref cGraph) = true)
    (jcGraph : PySem.W.isClsIn K cGraph = true) (jtGraph : PySem.W.typeIn K (.ref cGraph) = some (.type "type")) (j6Graph : PySem.W.findIn K (.ref cGraph) "__class__" = some (some (.builtin "object.__class__"))) (j9Graph : PySem.W.mroIn K cGraph (.type "object") = some true) (j7Graph : PySem.W.specialIn K (.builtin "object.__class__") "__get__" = some (some (.builtin "getset_descriptor.__get__"))) (j8Graph : PySem.W.takesIn K (.builtin "object.__class__") = some true) (jsGraph : PySem.W.subIn K (.ref cGraph) (.ref cGraph) = some true)
    (juGraph_NoneType : PySem.W.subIn K (.type "NoneType") (.ref cGraph) = some false)
    (juGraph_bool : PySem.W.subIn K (.type "bool") (.ref cGraph) = some false)
    (juGraph_int : PySem.W.subIn K (.type "int") (.ref cGraph) = some false)
    (juGraph_str : PySem.W.subIn K (.type "str") (.ref cGraph) = some false)
    (juGraph_tuple : PySem.W.subIn K (.type "tuple") (.ref cGraph) = some false)
    (juGraph_list : PySem.W.subIn K (.type "list") (.ref cGraph) = some false)
    (juGraph_dict : PySem.W.subIn K (.type "dict") (.ref cGraph) = some false)
    (naGraph_procedures : PySem.W.findIn K (.ref cGraph) "procedures" = some none)
    {f0 : Addr} {oc0 kV0 dc0 pm0 cd0 ct0 : Value} {od0 an0 : Option Addr} {sl0 : Array (Option Value)}
    (a0 : PySem.W.nsIn K mainGlobals "is_whole" = some (some (.ref f0))) (l0 : K.lookup f0 = some ⟨oc0, od0, .func (PySem.W.fnOf "is_whole" "is_whole" (defArgs s_is_whole) (defBody s_is_whole) (defScope s_is_whole) .none kV0 dc0 pm0 an0 cd0 ct0), sl0⟩) (c0 : PySem.W.codeIn K cd0 "is_whole" = true) (k0 : PySem.W.keepIn K (.ref f0) = true)
    {f1 : Addr} {oc1 kV1 dc1 pm1 cd1 ct1 : Value} {od1 an1 : Option Addr} {sl1 : Array (Option Value)}
    (a1 : PySem.W.nsIn K mainGlobals "is_index" = some (some (.ref f1))) (l1 : K.lookup f1 = some ⟨oc1, od1, .func (PySem.W.fnOf "is_index" "is_index" (defArgs s_is_index) (defBody s_is_index) (defScope s_is_index) .none kV1 dc1 pm1 an1 cd1 ct1), sl1⟩) (c1 : PySem.W.codeIn K cd1 "is_index" = true) (k1 : PySem.W.keepIn K (.ref f1) = true)
    {f2 : Addr} {oc2 kV2 dc2 pm2 cd2 ct2 : Value} {od2 an2 : Option Addr} {sl2 : Array (Option Value)}
    (a2 : PySem.W.nsIn K mainGlobals "is_pair" = some (some (.ref f2))) (l2 : K.lookup f2 = some ⟨oc2, od2, .func (PySem.W.fnOf "is_pair" "is_pair" (defArgs s_is_pair) (defBody s_is_pair) (defScope s_is_pair) .none kV2 dc2 pm2 an2 cd2 ct2), sl2⟩) (c2 : PySem.W.codeIn K cd2 "is_pair" = true) (k2 : PySem.W.keepIn K (.ref f2) = true)
    {f3 : Addr} {oc3 kV3 dc3 pm3 cd3 ct3 : Value} {od3 an3 : Option Addr} {sl3 : Array (Option Value)}
    (a3 : PySem.W.nsIn K mainGlobals "has_form" = some (some (.ref f3))) (l3 : K.lookup f3 = some ⟨oc3, od3, .func (PySem.W.fnOf "has_form" "has_form" (defArgs s_has_form) (defBody s_has_form) (defScope s_has_form) .none kV3 dc3 pm3 an3 cd3 ct3), sl3⟩) (c3 : PySem.W.codeIn K cd3 "has_form" = true) (k3 : PySem.W.keepIn K (.ref f3) = true)
    {f4 : Addr} {oc4 kV4 dc4 pm4 cd4 ct4 : Value} {od4 an4 : Option Addr} {sl4 : Array (Option Value)}
    (a4 : PySem.W.nsIn K mainGlobals "plus" = some (some (.ref f4))) (l4 : K.lookup f4 = some ⟨oc4, od4, .func (PySem.W.fnOf "plus" "plus" (defArgs s_plus) (defBody s_plus) (defScope s_plus) .none kV4 dc4 pm4 an4 cd4 ct4), sl4⟩) (c4 : PySem.W.codeIn K cd4 "plus" = true) (k4 : PySem.W.keepIn K (.ref f4) = true)
    {f5 : Addr} {oc5 kV5 dc5 pm5 cd5 ct5 : Value} {od5 an5 : Option Addr} {sl5 : Array (Option Value)}
    (a5 : PySem.W.nsIn K mainGlobals "is_rational" = some (some (.ref f5))) (l5 : K.lookup f5 = some ⟨oc5, od5, .func (PySem.W.fnOf "is_rational" "is_rational" (defArgs s_is_rational) (defBody s_is_rational) (defScope s_is_rational) .none kV5 dc5 pm5 an5 cd5 ct5), sl5⟩) (c5 : PySem.W.codeIn K cd5 "is_rational" = true) (k5 : PySem.W.keepIn K (.ref f5) = true)
    {f6 : Addr} {oc6 kV6 dc6 pm6 cd6 ct6 : Value} {od6 an6 : Option Addr} {sl6 : Array (Option Value)}
    (a6 : PySem.W.nsIn K mainGlobals "is_chance" = some (some (.ref f6))) (l6 : K.lookup f6 = some ⟨oc6, od6, .func (PySem.W.fnOf "is_chance" "is_chance" (defArgs s_is_chance) (defBody s_is_chance) (defScope s_is_chance) .none kV6 dc6 pm6 an6 cd6 ct6), sl6⟩) (c6 : PySem.W.codeIn K cd6 "is_chance" = true) (k6 : PySem.W.keepIn K (.ref f6) = true)
    {f7 : Addr} {oc7 kV7 dc7 pm7 cd7 ct7 : Value} {od7 an7 : Option Addr} {sl7 : Array (Option Value)}
    (a7 : PySem.W.nsIn K mainGlobals "problem_of_draw" = some (some (.ref f7))) (l7 : K.lookup f7 = some ⟨oc7, od7, .func (PySem.W.fnOf "problem_of_draw" "problem_of_draw" (defArgs s_problem_of_draw) (defBody s_problem_of_draw) (defScope s_problem_of_draw) .none kV7 dc7 pm7 an7 cd7 ct7), sl7⟩) (c7 : PySem.W.codeIn K cd7 "problem_of_draw" = true) (k7 : PySem.W.keepIn K (.ref f7) = true)
    {f8 : Addr} {oc8 kV8 dc8 pm8 cd8 ct8 : Value} {od8 an8 : Option Addr} {sl8 : Array (Option Value)}
    (a8 : PySem.W.nsIn K mainGlobals "problem_of_targets" = some (some (.ref f8))) (l8 : K.lookup f8 = some ⟨oc8, od8, .func (PySem.W.fnOf "problem_of_targets" "problem_of_targets" (defArgs s_problem_of_targets) (defBody s_problem_of_targets) (defScope s_problem_of_targets) .none kV8 dc8 pm8 an8 cd8 ct8), sl8⟩) (c8 : PySem.W.codeIn K cd8 "problem_of_targets" = true) (k8 : PySem.W.keepIn K (.ref f8) = true)
    {f9 : Addr} {oc9 kV9 dc9 pm9 cd9 ct9 : Value} {od9 an9 : Option Addr} {sl9 : Array (Option Value)}
    (a9 : PySem.W.nsIn K mainGlobals "problem_of_choice" = some (some (.ref f9))) (l9 : K.lookup f9 = some ⟨oc9, od9, .func (PySem.W.fnOf "problem_of_choice" "problem_of_choice" (defArgs s_problem_of_choice) (defBody s_problem_of_choice) (defScope s_problem_of_choice) .none kV9 dc9 pm9 an9 cd9 ct9), sl9⟩) (c9 : PySem.W.codeIn K cd9 "problem_of_choice" = true) (k9 : PySem.W.keepIn K (.ref f9) = true)
    {f10 : Addr} {oc10 kV10 dc10 pm10 cd10 ct10 : Value} {od10 an10 : Option Addr} {sl10 : Array (Option Value)}
    (a10 : PySem.W.nsIn K mainGlobals "problem_of_call" = some (some (.ref f10))) (l10 : K.lookup f10 = some ⟨oc10, od10, .func (PySem.W.fnOf "problem_of_call" "problem_of_call" (defArgs s_problem_of_call) (defBody s_problem_of_call) (defScope s_problem_of_call) .none kV10 dc10 pm10 an10 cd10 ct10), sl10⟩) (c10 : PySem.W.codeIn K cd10 "problem_of_call" = true) (k10 : PySem.W.keepIn K (.ref f10) = true)
    {f11 : Addr} {oc11 kV11 dc11 pm11 cd11 ct11 : Value} {od11 an11 : Option Addr} {sl11 : Array (Option Value)}
    (a11 : PySem.W.nsIn K mainGlobals "is_amount" = some (some (.ref f11))) (l11 : K.lookup f11 = some ⟨oc11, od11, .func (PySem.W.fnOf "is_amount" "is_amount" (defArgs s_is_amount) (defBody s_is_amount) (defScope s_is_amount) .none kV11 dc11 pm11 an11 cd11 ct11), sl11⟩) (c11 : PySem.W.codeIn K cd11 "is_amount" = true) (k11 : PySem.W.keepIn K (.ref f11) = true)
    {f12 : Addr} {oc12 kV12 dc12 pm12 cd12 ct12 : Value} {od12 an12 : Option Addr} {sl12 : Array (Option Value)}
    (a12 : PySem.W.nsIn K mainGlobals "problem_of_reward" = some (some (.ref f12))) (l12 : K.lookup f12 = some ⟨oc12, od12, .func (PySem.W.fnOf "problem_of_reward" "problem_of_reward" (defArgs s_problem_of_reward) (defBody s_problem_of_reward) (defScope s_problem_of_reward) .none kV12 dc12 pm12 an12 cd12 ct12), sl12⟩) (c12 : PySem.W.codeIn K cd12 "problem_of_reward" = true) (k12 : PySem.W.keepIn K (.ref f12) = true)
    {f13 : Addr} {oc13 kV13 dc13 pm13 cd13 ct13 : Value} {od13 an13 : Option Addr} {sl13 : Array (Option Value)}
    (a13 : PySem.W.nsIn K mainGlobals "problem_of_point" = some (some (.ref f13))) (l13 : K.lookup f13 = some ⟨oc13, od13, .func (PySem.W.fnOf "problem_of_point" "problem_of_point" (defArgs s_problem_of_point) (defBody s_problem_of_point) (defScope s_problem_of_point) .none kV13 dc13 pm13 an13 cd13 ct13), sl13⟩) (c13 : PySem.W.codeIn K cd13 "problem_of_point" = true) (k13 : PySem.W.keepIn K (.ref f13) = true)
    {f14 : Addr} {oc14 kV14 dc14 pm14 cd14 ct14 : Value} {od14 an14 : Option Addr} {sl14 : Array (Option Value)}
    (a14 : PySem.W.nsIn K mainGlobals "check_points" = some (some (.ref f14))) (l14 : K.lookup f14 = some ⟨oc14, od14, .func (PySem.W.fnOf "check_points" "check_points" (defArgs s_check_points) (defBody s_check_points) (defScope s_check_points) .none kV14 dc14 pm14 an14 cd14 ct14), sl14⟩) (c14 : PySem.W.codeIn K cd14 "check_points" = true) (k14 : PySem.W.keepIn K (.ref f14) = true)
    {f15 : Addr} {oc15 kV15 dc15 pm15 cd15 ct15 : Value} {od15 an15 : Option Addr} {sl15 : Array (Option Value)}
    (a15 : PySem.W.nsIn K mainGlobals "problem_of_procedure" = some (some (.ref f15))) (l15 : K.lookup f15 = some ⟨oc15, od15, .func (PySem.W.fnOf "problem_of_procedure" "problem_of_procedure" (defArgs s_problem_of_procedure) (defBody s_problem_of_procedure) (defScope s_problem_of_procedure) .none kV15 dc15 pm15 an15 cd15 ct15), sl15⟩) (c15 : PySem.W.codeIn K cd15 "problem_of_procedure" = true) (k15 : PySem.W.keepIn K (.ref f15) = true)
    {f16 : Addr} {oc16 kV16 dc16 pm16 cd16 ct16 : Value} {od16 an16 : Option Addr} {sl16 : Array (Option Value)}
    (a16 : PySem.W.nsIn K mainGlobals "check_procedures" = some (some (.ref f16))) (l16 : K.lookup f16 = some ⟨oc16, od16, .func (PySem.W.fnOf "check_procedures" "check_procedures" (defArgs s_check_procedures) (defBody s_check_procedures) (defScope s_check_procedures) .none kV16 dc16 pm16 an16 cd16 ct16), sl16⟩) (c16 : PySem.W.codeIn K cd16 "check_procedures" = true) (k16 : PySem.W.keepIn K (.ref f16) = true)
    {f17 : Addr} {oc17 kV17 dc17 pm17 cd17 ct17 : Value} {od17 an17 : Option Addr} {sl17 : Array (Option Value)}
    (a17 : PySem.W.findIn K (.ref cGraph) "__init__" = some (some (.ref f17))) (i17 : PySem.W.isFn K (.ref f17) = true) (l17 : K.lookup f17 = some ⟨oc17, od17, .func (PySem.W.fnOf "__init__" "Graph.__init__" (defArgs s_Graph_init) (defBody s_Graph_init) (defScope s_Graph_init) .none kV17 dc17 pm17 an17 cd17 ct17), sl17⟩) (c17 : PySem.W.codeIn K cd17 "Graph.__init__" = true) (k17 : PySem.W.keepIn K (.ref f17) = true)
    {f18 : Addr} {oc18 kV18 dc18 pm18 cd18 ct18 : Value} {od18 an18 : Option Addr} {sl18 : Array (Option Value)}
    (a18 : PySem.W.findIn K (.ref cGraph) "is_place" = some (some (.ref f18))) (i18 : PySem.W.isFn K (.ref f18) = true) (l18 : K.lookup f18 = some ⟨oc18, od18, .func (PySem.W.fnOf "is_place" "Graph.is_place" (defArgs s_Graph_is_place) (defBody s_Graph_is_place) (defScope s_Graph_is_place) .none kV18 dc18 pm18 an18 cd18 ct18), sl18⟩) (c18 : PySem.W.codeIn K cd18 "Graph.is_place" = true) (k18 : PySem.W.keepIn K (.ref f18) = true)
    {f19 : Addr} {oc19 kV19 dc19 pm19 cd19 ct19 : Value} {od19 an19 : Option Addr} {sl19 : Array (Option Value)}
    (a19 : PySem.W.nsIn K mainGlobals "check_graph" = some (some (.ref f19))) (l19 : K.lookup f19 = some ⟨oc19, od19, .func (PySem.W.fnOf "check_graph" "check_graph" (defArgs s_check_graph) (defBody s_check_graph) (defScope s_check_graph) .none kV19 dc19 pm19 an19 cd19 ct19), sl19⟩) (c19 : PySem.W.codeIn K cd19 "check_graph" = true) (k19 : PySem.W.keepIn K (.ref f19) = true)
    {f20 : Addr} {oc20 kV20 dc20 pm20 cd20 ct20 : Value} {od20 an20 : Option Addr} {sl20 : Array (Option Value)}
    (a20 : PySem.W.nsIn K mainGlobals "rejecting" = some (some (.ref f20))) (l20 : K.lookup f20 = some ⟨oc20, od20, .func (PySem.W.fnOf "rejecting" "rejecting" (defArgs s_rejecting) (defBody s_rejecting) (defScope s_rejecting) .none kV20 dc20 pm20 an20 cd20 ct20), sl20⟩) (c20 : PySem.W.codeIn K cd20 "rejecting" = true) (k20 : PySem.W.keepIn K (.ref f20) = true)
    {f21 : Addr} {oc21 kV21 dc21 pm21 cd21 ct21 : Value} {od21 an21 : Option Addr} {sl21 : Array (Option Value)}
    (a21 : PySem.W.nsIn K mainGlobals "_law_stream" = some (some (.ref f21))) (l21 : K.lookup f21 = some ⟨oc21, od21, .func (PySem.W.fnOf "_law_stream" "_law_stream" (defArgs s_l_stream) (defBody s_l_stream) (defScope s_l_stream) .none kV21 dc21 pm21 an21 cd21 ct21), sl21⟩) (c21 : PySem.W.codeIn K cd21 "_law_stream" = true) (k21 : PySem.W.keepIn K (.ref f21) = true)
    {f22 : Addr} {oc22 kV22 dc22 pm22 cd22 ct22 : Value} {od22 an22 : Option Addr} {sl22 : Array (Option Value)}
    (a22 : PySem.W.nsIn K mainGlobals "_law_next" = some (some (.ref f22))) (l22 : K.lookup f22 = some ⟨oc22, od22, .func (PySem.W.fnOf "_law_next" "_law_next" (defArgs s_l_next) (defBody s_l_next) (defScope s_l_next) .none kV22 dc22 pm22 an22 cd22 ct22), sl22⟩) (c22 : PySem.W.codeIn K cd22 "_law_next" = true) (k22 : PySem.W.keepIn K (.ref f22) = true)
    {f23 : Addr} {oc23 kV23 dc23 pm23 cd23 ct23 : Value} {od23 an23 : Option Addr} {sl23 : Array (Option Value)}
    (a23 : PySem.W.nsIn K mainGlobals "_law_end" = some (some (.ref f23))) (l23 : K.lookup f23 = some ⟨oc23, od23, .func (PySem.W.fnOf "_law_end" "_law_end" (defArgs s_l_end) (defBody s_l_end) (defScope s_l_end) .none kV23 dc23 pm23 an23 cd23 ct23), sl23⟩) (c23 : PySem.W.codeIn K cd23 "_law_end" = true) (k23 : PySem.W.keepIn K (.ref f23) = true)
    {f24 : Addr} {oc24 kV24 dc24 pm24 cd24 ct24 : Value} {od24 an24 : Option Addr} {sl24 : Array (Option Value)}
    (a24 : PySem.W.nsIn K mainGlobals "_law_gcd" = some (some (.ref f24))) (l24 : K.lookup f24 = some ⟨oc24, od24, .func (PySem.W.fnOf "_law_gcd" "_law_gcd" (defArgs s_l_gcd) (defBody s_l_gcd) (defScope s_l_gcd) .none kV24 dc24 pm24 an24 cd24 ct24), sl24⟩) (c24 : PySem.W.codeIn K cd24 "_law_gcd" = true) (k24 : PySem.W.keepIn K (.ref f24) = true)
    {f25 : Addr} {oc25 kV25 dc25 pm25 cd25 ct25 : Value} {od25 an25 : Option Addr} {sl25 : Array (Option Value)}
    (a25 : PySem.W.nsIn K mainGlobals "_law_ratio" = some (some (.ref f25))) (l25 : K.lookup f25 = some ⟨oc25, od25, .func (PySem.W.fnOf "_law_ratio" "_law_ratio" (defArgs s_l_ratio) (defBody s_l_ratio) (defScope s_l_ratio) .none kV25 dc25 pm25 an25 cd25 ct25), sl25⟩) (c25 : PySem.W.codeIn K cd25 "_law_ratio" = true) (k25 : PySem.W.keepIn K (.ref f25) = true)
    {f26 : Addr} {oc26 kV26 dc26 pm26 cd26 ct26 : Value} {od26 an26 : Option Addr} {sl26 : Array (Option Value)}
    (a26 : PySem.W.nsIn K mainGlobals "_law_branches" = some (some (.ref f26))) (l26 : K.lookup f26 = some ⟨oc26, od26, .func (PySem.W.fnOf "_law_branches" "_law_branches" (defArgs s_l_branches) (defBody s_l_branches) (defScope s_l_branches) .none kV26 dc26 pm26 an26 cd26 ct26), sl26⟩) (c26 : PySem.W.codeIn K cd26 "_law_branches" = true) (k26 : PySem.W.keepIn K (.ref f26) = true)
    {f27 : Addr} {oc27 kV27 dc27 pm27 cd27 ct27 : Value} {od27 an27 : Option Addr} {sl27 : Array (Option Value)}
    (a27 : PySem.W.nsIn K mainGlobals "_law_point" = some (some (.ref f27))) (l27 : K.lookup f27 = some ⟨oc27, od27, .func (PySem.W.fnOf "_law_point" "_law_point" (defArgs s_l_point) (defBody s_l_point) (defScope s_l_point) .none kV27 dc27 pm27 an27 cd27 ct27), sl27⟩) (c27 : PySem.W.codeIn K cd27 "_law_point" = true) (k27 : PySem.W.keepIn K (.ref f27) = true)
    {f28 : Addr} {oc28 kV28 dc28 pm28 cd28 ct28 : Value} {od28 an28 : Option Addr} {sl28 : Array (Option Value)}
    (a28 : PySem.W.nsIn K mainGlobals "_law_procedure" = some (some (.ref f28))) (l28 : K.lookup f28 = some ⟨oc28, od28, .func (PySem.W.fnOf "_law_procedure" "_law_procedure" (defArgs s_l_procedure) (defBody s_l_procedure) (defScope s_l_procedure) .none kV28 dc28 pm28 an28 cd28 ct28), sl28⟩) (c28 : PySem.W.codeIn K cd28 "_law_procedure" = true) (k28 : PySem.W.keepIn K (.ref f28) = true)
    {f29 : Addr} {oc29 kV29 dc29 pm29 cd29 ct29 : Value} {od29 an29 : Option Addr} {sl29 : Array (Option Value)}
    (a29 : PySem.W.nsIn K mainGlobals "_law_procedures" = some (some (.ref f29))) (l29 : K.lookup f29 = some ⟨oc29, od29, .func (PySem.W.fnOf "_law_procedures" "_law_procedures" (defArgs s_l_procedures) (defBody s_l_procedures) (defScope s_l_procedures) .none kV29 dc29 pm29 an29 cd29 ct29), sl29⟩) (c29 : PySem.W.codeIn K cd29 "_law_procedures" = true) (k29 : PySem.W.keepIn K (.ref f29) = true)
    {f30 : Addr} {oc30 kV30 dc30 pm30 cd30 ct30 : Value} {od30 an30 : Option Addr} {sl30 : Array (Option Value)}
    (a30 : PySem.W.nsIn K mainGlobals "_law_place" = some (some (.ref f30))) (l30 : K.lookup f30 = some ⟨oc30, od30, .func (PySem.W.fnOf "_law_place" "_law_place" (defArgs s_l_place) (defBody s_l_place) (defScope s_l_place) .none kV30 dc30 pm30 an30 cd30 ct30), sl30⟩) (c30 : PySem.W.codeIn K cd30 "_law_place" = true) (k30 : PySem.W.keepIn K (.ref f30) = true)
    {f31 : Addr} {oc31 kV31 dc31 pm31 cd31 ct31 : Value} {od31 an31 : Option Addr} {sl31 : Array (Option Value)}
    (a31 : PySem.W.nsIn K mainGlobals "law" = some (some (.ref f31))) (l31 : K.lookup f31 = some ⟨oc31, od31, .func (PySem.W.fnOf "law" "law" (defArgs s_law) (defBody s_law) (defScope s_law) .none kV31 dc31 pm31 an31 cd31 ct31), sl31⟩) (c31 : PySem.W.codeIn K cd31 "law" = true) (k31 : PySem.W.keepIn K (.ref f31) = true)
    (z_abs : PySem.W.nsIn K mainGlobals "abs" = some none)
    (z_all : PySem.W.nsIn K mainGlobals "all" = some none)
    (z_bool : PySem.W.nsIn K mainGlobals "bool" = some none)
    (z_enumerate : PySem.W.nsIn K mainGlobals "enumerate" = some none)
    (z_int : PySem.W.nsIn K mainGlobals "int" = some none)
    (z_isinstance : PySem.W.nsIn K mainGlobals "isinstance" = some none)
    (z_len : PySem.W.nsIn K mainGlobals "len" = some none)
    (z_list : PySem.W.nsIn K mainGlobals "list" = some none)
    (z_range : PySem.W.nsIn K mainGlobals "range" = some none)
    (z_str : PySem.W.nsIn K mainGlobals "str" = some none)
    (z_sum : PySem.W.nsIn K mainGlobals "sum" = some none)
    (z_tuple : PySem.W.nsIn K mainGlobals "tuple" = some none)
    (z_gcd : PySem.W.nsIn K mainGlobals "gcd" = some (some (.builtin "math.gcd")))
    {qITEMS : Addr} {esITEMS : Array DictEntry} {nnITEMS : Nat} {tk_DITEMS_1 : Tok} {tk_DITEMS_2 : Tok} {tk_DITEMS_3 : Tok} {tk_DITEMS_4 : Tok} {tk_DITEMS_5 : Tok} {tk_DITEMS_6 : Tok} {tk_DITEMS_7 : Tok} (z_ITEMS : PySem.W.nsIn K mainGlobals "ITEMS" = some (some (.ref qITEMS))) (qlITEMS : K.lookup qITEMS = some ⟨.type "dict", none, .dict esITEMS nnITEMS, #[]⟩) (qkITEMS : PySem.W.KeysLit w.params esITEMS.toList) (qsITEMS : (qITEMS == sysModules) = false)
    (qiITEMS_0 : PySem.W.nsIn K qITEMS "exit" = some (some (.int (2) tk_DITEMS_1)))
    (qiITEMS_1 : PySem.W.nsIn K qITEMS "draw" = some (some (.int (2) tk_DITEMS_2)))
    (qiITEMS_2 : PySem.W.nsIn K qITEMS "choose" = some (some (.int (2) tk_DITEMS_3)))
    (qiITEMS_3 : PySem.W.nsIn K qITEMS "call" = some (some (.int (3) tk_DITEMS_4)))
    (qiITEMS_4 : PySem.W.nsIn K qITEMS "reward" = some (some (.int (3) tk_DITEMS_5)))
    (qiITEMS_5 : PySem.W.nsIn K qITEMS "reject" = some (some (.int (1) tk_DITEMS_6)))
    (qiITEMS_6 : PySem.W.nsIn K qITEMS "stop" = some (some (.int (1) tk_DITEMS_7)))
    {q_ZERO_8 : Addr} {q_ZERO_8_d : Option Addr} {q_ZERO_8_n : Nat} {q_ZERO_8_s : Array (Option Value)} {tk_ZERO_9 : Tok} {tk_ZERO_10 : Tok} (q_ZERO_8_l : K.lookup q_ZERO_8 = some ⟨.type "tuple", q_ZERO_8_d, .seq #[.int (0) tk_ZERO_9, .int (1) tk_ZERO_10] q_ZERO_8_n, q_ZERO_8_s⟩)
     (z_ZERO : PySem.W.nsIn K mainGlobals "ZERO" = some (some (.ref q_ZERO_8)))
    {q_ONE_11 : Addr} {q_ONE_11_d : Option Addr} {q_ONE_11_n : Nat} {q_ONE_11_s : Array (Option Value)} {tk_ONE_12 : Tok} {tk_ONE_13 : Tok} (q_ONE_11_l : K.lookup q_ONE_11 = some ⟨.type "tuple", q_ONE_11_d, .seq #[.int (1) tk_ONE_12, .int (1) tk_ONE_13] q_ONE_11_n, q_ONE_11_s⟩)
     (z_ONE : PySem.W.nsIn K mainGlobals "ONE" = some (some (.ref q_ONE_11)))
    {tk_MOST_PROCEDURES_14 : Tok} (z_MOST_PROCEDURES : PySem.W.nsIn K mainGlobals "MOST_PROCEDURES" = some (some (.int (6) tk_MOST_PROCEDURES_14)))
    {tk_MOST_EXITS_15 : Tok} (z_MOST_EXITS : PySem.W.nsIn K mainGlobals "MOST_EXITS" = some (some (.int (3) tk_MOST_EXITS_15)))
    {tk_MOST_POINTS_16 : Tok} (z_MOST_POINTS : PySem.W.nsIn K mainGlobals "MOST_POINTS" = some (some (.int (16) tk_MOST_POINTS_16)))
    {tk_MOST_POINTS_OF_ALL_17 : Tok} (z_MOST_POINTS_OF_ALL : PySem.W.nsIn K mainGlobals "MOST_POINTS_OF_ALL" = some (some (.int (40) tk_MOST_POINTS_OF_ALL_17)))
    {tk_MOST_BRANCHES_18 : Tok} (z_MOST_BRANCHES : PySem.W.nsIn K mainGlobals "MOST_BRANCHES" = some (some (.int (4) tk_MOST_BRANCHES_18)))
    {tk_MOST_CHANCE_DENOMINATOR_19 : Tok} (z_MOST_CHANCE_DENOMINATOR : PySem.W.nsIn K mainGlobals "MOST_CHANCE_DENOMINATOR" = some (some (.int (60) tk_MOST_CHANCE_DENOMINATOR_19)))
    {tk_MOST_AMOUNT_NUMERATOR_20 : Tok} (z_MOST_AMOUNT_NUMERATOR : PySem.W.nsIn K mainGlobals "MOST_AMOUNT_NUMERATOR" = some (some (.int (1000) tk_MOST_AMOUNT_NUMERATOR_20)))
    {tk_MOST_AMOUNT_DENOMINATOR_21 : Tok} (z_MOST_AMOUNT_DENOMINATOR : PySem.W.nsIn K mainGlobals "MOST_AMOUNT_DENOMINATOR" = some (some (.int (12) tk_MOST_AMOUNT_DENOMINATOR_21)))
    {cOdds : Addr} (xO : PySem.W.nsIn K mainGlobals "OddsError" = some (some (.ref cOdds))) (w4 : PySem.W.isClsIn K cOdds = true) (w5 : PySem.W.typeIn K (.ref cOdds) = some (.type "type")) (w6 : PySem.W.subIn K (.ref cOdds) (.type "BaseException") = some true) (w7 : PySem.W.hasDictIn K cOdds = true)
    (y7 : PySem.W.specialIn K (.builtin "object.__class__") "__get__" = some (some (.builtin "getset_descriptor.__get__"))) (y8 : PySem.W.takesIn K (.builtin "object.__class__") = some true)
    {cBadValue : Addr}
    {cBadGraph : Addr}
    {fIBadValue : Addr} {ocIBadValue kVIBadValue dcIBadValue pmIBadValue cdIBadValue ctIBadValue : Value} {odIBadValue anIBadValue : Option Addr} {slIBadValue : Array (Option Value)} {nmBadValue qBadValue : Str} {NBadValue : Addr} {bsBadValue : List Value} {snBadValue : List Str} {subBadValue : List Value} {abBadValue : Bool} {colBadValue : Option Bool} {ddBadValue : Option Addr} {m0BadValue m1BadValue m2BadValue m3BadValue m5BadValue : Option Value}
    (xCBadValue : PySem.W.nsIn K mainGlobals "BadValue" = some (some (.ref cBadValue)))
    (xLBadValue : K.lookup cBadValue = some (excClassObj nmBadValue qBadValue cBadValue NBadValue bsBadValue [.ref cOdds, .type "ValueError", .type "Exception", .type "BaseException", .type "object"] true snBadValue subBadValue abBadValue colBadValue ddBadValue m0BadValue m1BadValue m2BadValue m3BadValue m5BadValue "ValueError.__new__"))
    (x1BadValue : PySem.W.findIn K (.ref cBadValue) "__init__" = some (some (.ref fIBadValue))) (x2BadValue : PySem.W.typeIn K (.ref fIBadValue) = some (.type "function"))
    (x3BadValue : K.lookup fIBadValue = some ⟨ocIBadValue, odIBadValue, .func (PySem.W.fnOf "__init__" "BadValue.__init__" (defArgs s_init_BadValue) (defBody s_init_BadValue) (defScope s_init_BadValue) .none kVIBadValue dcIBadValue pmIBadValue anIBadValue cdIBadValue ctIBadValue), slIBadValue⟩) (x4BadValue : PySem.W.codeIn K cdIBadValue "BadValue.__init__" = true) (x5BadValue : PySem.W.keepIn K (.ref fIBadValue) = true)
    (x6BadValue : PySem.W.findIn K (.ref cBadValue) "__setattr__" = some (some (.builtin "object.__setattr__"))) (x7BadValue : PySem.W.subIn K (.ref cBadValue) (.type "BaseException") = some true) (x8BadValue : PySem.W.typeIn K (.ref cBadValue) = some (.type "type")) (x9BadValue : PySem.W.keepIn K (.ref cBadValue) = true)
    (y1BadValue : PySem.W.findIn K (.ref cBadValue) "__getattribute__" = some (some (.builtin "BaseException.__getattribute__"))) (y2BadValue : PySem.W.findIn K (.ref cBadValue) "__getattr__" = some none) (y3BadValue : PySem.W.hasDictIn K cBadValue = true)
    (y5BadValue : PySem.W.isClsIn K cBadValue = true) (y6BadValue : PySem.W.findIn K (.ref cBadValue) "__class__" = some (some (.builtin "object.__class__"))) (y9BadValue : PySem.W.mroIn K cBadValue (.type "object") = some true)
    (n_BadValue_name : PySem.W.findIn K (.ref cBadValue) "name" = some none)
    (w_BadValue_BadValue : PySem.W.subIn K (.ref cBadValue) (.ref cBadValue) = some true)
    (w_BadValue_BadGraph : PySem.W.subIn K (.ref cBadValue) (.ref cBadGraph) = some false)
    {fIBadGraph : Addr} {ocIBadGraph kVIBadGraph dcIBadGraph pmIBadGraph cdIBadGraph ctIBadGraph : Value} {odIBadGraph anIBadGraph : Option Addr} {slIBadGraph : Array (Option Value)} {nmBadGraph qBadGraph : Str} {NBadGraph : Addr} {bsBadGraph : List Value} {snBadGraph : List Str} {subBadGraph : List Value} {abBadGraph : Bool} {colBadGraph : Option Bool} {ddBadGraph : Option Addr} {m0BadGraph m1BadGraph m2BadGraph m3BadGraph m5BadGraph : Option Value}
    (xCBadGraph : PySem.W.nsIn K mainGlobals "BadGraph" = some (some (.ref cBadGraph)))
    (xLBadGraph : K.lookup cBadGraph = some (excClassObj nmBadGraph qBadGraph cBadGraph NBadGraph bsBadGraph [.ref cOdds, .type "ValueError", .type "Exception", .type "BaseException", .type "object"] true snBadGraph subBadGraph abBadGraph colBadGraph ddBadGraph m0BadGraph m1BadGraph m2BadGraph m3BadGraph m5BadGraph "ValueError.__new__"))
    (x1BadGraph : PySem.W.findIn K (.ref cBadGraph) "__init__" = some (some (.ref fIBadGraph))) (x2BadGraph : PySem.W.typeIn K (.ref fIBadGraph) = some (.type "function"))
    (x3BadGraph : K.lookup fIBadGraph = some ⟨ocIBadGraph, odIBadGraph, .func (PySem.W.fnOf "__init__" "BadGraph.__init__" (defArgs s_init_BadGraph) (defBody s_init_BadGraph) (defScope s_init_BadGraph) .none kVIBadGraph dcIBadGraph pmIBadGraph anIBadGraph cdIBadGraph ctIBadGraph), slIBadGraph⟩) (x4BadGraph : PySem.W.codeIn K cdIBadGraph "BadGraph.__init__" = true) (x5BadGraph : PySem.W.keepIn K (.ref fIBadGraph) = true)
    (x6BadGraph : PySem.W.findIn K (.ref cBadGraph) "__setattr__" = some (some (.builtin "object.__setattr__"))) (x7BadGraph : PySem.W.subIn K (.ref cBadGraph) (.type "BaseException") = some true) (x8BadGraph : PySem.W.typeIn K (.ref cBadGraph) = some (.type "type")) (x9BadGraph : PySem.W.keepIn K (.ref cBadGraph) = true)
    (y1BadGraph : PySem.W.findIn K (.ref cBadGraph) "__getattribute__" = some (some (.builtin "BaseException.__getattribute__"))) (y2BadGraph : PySem.W.findIn K (.ref cBadGraph) "__getattr__" = some none) (y3BadGraph : PySem.W.hasDictIn K cBadGraph = true)
    (y5BadGraph : PySem.W.isClsIn K cBadGraph = true) (y6BadGraph : PySem.W.findIn K (.ref cBadGraph) "__class__" = some (some (.builtin "object.__class__"))) (y9BadGraph : PySem.W.mroIn K cBadGraph (.type "object") = some true)
    (n_BadGraph_where : PySem.W.findIn K (.ref cBadGraph) "where" = some none)
    (n_BadGraph_why : PySem.W.findIn K (.ref cBadGraph) "why" = some none)
    (w_BadGraph_BadValue : PySem.W.subIn K (.ref cBadGraph) (.ref cBadValue) = some false)
    (w_BadGraph_BadGraph : PySem.W.subIn K (.ref cBadGraph) (.ref cBadGraph) = some true)
    {cT3 PT3 : Addr} {ocT3 : Value} {odT3 : Option Addr} {vsT3 : Array Value} {slT3 : Array (Option Value)} (ceq3 : cd3 = .ref cT3) (lcT3 : K.lookup cT3 = some ⟨ocT3, odT3, .fields vsT3, slT3⟩) (v11_3 : vsT3[11]? = some (.ref PT3)) (nPT3 : K.lookup PT3 = none)
    {cT8 PT8 : Addr} {ocT8 : Value} {odT8 : Option Addr} {vsT8 : Array Value} {slT8 : Array (Option Value)} (ceq8 : cd8 = .ref cT8) (lcT8 : K.lookup cT8 = some ⟨ocT8, odT8, .fields vsT8, slT8⟩) (v11_8 : vsT8[11]? = some (.ref PT8)) (nPT8 : K.lookup PT8 = none)
    {cT16 PT16 : Addr} {ocT16 : Value} {odT16 : Option Addr} {vsT16 : Array Value} {slT16 : Array (Option Value)} (ceq16 : cd16 = .ref cT16) (lcT16 : K.lookup cT16 = some ⟨ocT16, odT16, .fields vsT16, slT16⟩) (v11_16 : vsT16[11]? = some (.ref PT16)) (nPT16 : K.lookup PT16 = none)
    {cT20 PT20 : Addr} {ocT20 : Value} {odT20 : Option Addr} {vsT20 : Array Value} {slT20 : Array (Option Value)} (ceq20 : cd20 = .ref cT20) (lcT20 : K.lookup cT20 = some ⟨ocT20, odT20, .fields vsT20, slT20⟩) (v11_20 : vsT20[11]? = some (.ref PT20)) (nPT20 : K.lookup PT20 = none)
    (tabF : ∀ (y : Str) (c P : Addr), y ∈ (["has_form", "problem_of_targets", "check_procedures", "rejecting"] : List Str) → PySem.W.tabIn K y = some (c, P) → PySem.W.CodeHd h c P ∧ h.get? P = some (PySem.W.tabObj #[]))
    : LamX.LawAtS l w K (L2.CX l.prog w) 14 63 "script" mg fa h := by
  have e := hfa.symm.trans (PySem.W.mg_of X G a31)
  cases e
  have F0 := fun_mk (st := s_is_whole) l0 c0 k0
  have b0 := F0.binds (ps := ["value"]) fun _ _ _ _ _ _ us hl => match us, hl with | [_], _ => rfl
  have F1 := fun_mk (st := s_is_index) l1 c1 k1
  have b1 := F1.binds (ps := ["value", "many"]) fun _ _ _ _ _ _ us hl => match us, hl with | [_, _], _ => rfl
  have F2 := fun_mk (st := s_is_pair) l2 c2 k2
  have b2 := F2.binds (ps := ["value"]) fun _ _ _ _ _ _ us hl => match us, hl with | [_], _ => rfl
  have F3 := fun_mk (st := s_has_form) l3 c3 k3
  have b3 := F3.binds (ps := ["point"]) fun _ _ _ _ _ _ us hl => match us, hl with | [_], _ => rfl
  have F4 := fun_mk (st := s_plus) l4 c4 k4
  have b4 := F4.binds (ps := ["a", "b"]) fun _ _ _ _ _ _ us hl => match us, hl with | [_, _], _ => rfl
  have F5 := fun_mk (st := s_is_rational) l5 c5 k5
  have b5 := F5.binds (ps := ["x"]) fun _ _ _ _ _ _ us hl => match us, hl with | [_], _ => rfl
  have F6 := fun_mk (st := s_is_chance) l6 c6 k6
  have b6 := F6.binds (ps := ["value"]) fun _ _ _ _ _ _ us hl => match us, hl with | [_], _ => rfl
  have F7 := fun_mk (st := s_problem_of_draw) l7 c7 k7
  have b7 := F7.binds (ps := ["branches", "many"]) fun _ _ _ _ _ _ us hl => match us, hl with | [_, _], _ => rfl
  have F8 := fun_mk (st := s_problem_of_targets) l8 c8 k8
  have b8 := F8.binds (ps := ["targets", "many"]) fun _ _ _ _ _ _ us hl => match us, hl with | [_, _], _ => rfl
  have F9 := fun_mk (st := s_problem_of_choice) l9 c9 k9
  have b9 := F9.binds (ps := ["targets", "many"]) fun _ _ _ _ _ _ us hl => match us, hl with | [_, _], _ => rfl
  have F10 := fun_mk (st := s_problem_of_call) l10 c10 k10
  have b10 := F10.binds (ps := ["procedures", "call", "many"]) fun _ _ _ _ _ _ us hl => match us, hl with | [_, _, _], _ => rfl
  have F11 := fun_mk (st := s_is_amount) l11 c11 k11
  have b11 := F11.binds (ps := ["value"]) fun _ _ _ _ _ _ us hl => match us, hl with | [_], _ => rfl
  have F12 := fun_mk (st := s_problem_of_reward) l12 c12 k12
  have b12 := F12.binds (ps := ["reward", "many"]) fun _ _ _ _ _ _ us hl => match us, hl with | [_, _], _ => rfl
  have F13 := fun_mk (st := s_problem_of_point) l13 c13 k13
  have b13 := F13.binds (ps := ["procedures", "number", "point"]) fun _ _ _ _ _ _ us hl => match us, hl with | [_, _, _], _ => rfl
  have F14 := fun_mk (st := s_check_points) l14 c14 k14
  have b14 := F14.binds (ps := ["procedures", "number", "points"]) fun _ _ _ _ _ _ us hl => match us, hl with | [_, _, _], _ => rfl
  have F15 := fun_mk (st := s_problem_of_procedure) l15 c15 k15
  have b15 := F15.binds (ps := ["procedure"]) fun _ _ _ _ _ _ us hl => match us, hl with | [_], _ => rfl
  have F16 := fun_mk (st := s_check_procedures) l16 c16 k16
  have b16 := F16.binds (ps := ["procedures"]) fun _ _ _ _ _ _ us hl => match us, hl with | [_], _ => rfl
  have F17 := fun_mk (st := s_Graph_init) l17 c17 k17
  have b17 : KBo K _ ["self", "procedures"] ["procedures"] 1 := kbo_mk F17 fun _ _ _ _ _ _ us ws h1 h2 => match us, ws, h1, h2 with | [_], [_], _, _ => rfl
  have F18 := fun_mk (st := s_Graph_is_place) l18 c18 k18
  have b18 := F18.binds (ps := ["self", "value"]) fun _ _ _ _ _ _ us hl => match us, hl with | [_, _], _ => rfl
  have F19 := fun_mk (st := s_check_graph) l19 c19 k19
  have b19 := F19.binds (ps := ["graph"]) fun _ _ _ _ _ _ us hl => match us, hl with | [_], _ => rfl
  have F20 := fun_mk (st := s_rejecting) l20 c20 k20
  have b20 := F20.binds (ps := ["graph", "places"]) fun _ _ _ _ _ _ us hl => match us, hl with | [_, _], _ => rfl
  have F21 := fun_mk (st := s_l_stream) l21 c21 k21
  have b21 := F21.binds (ps := ["script"]) fun _ _ _ _ _ _ us hl => match us, hl with | [_], _ => rfl
  have F22 := fun_mk (st := s_l_next) l22 c22 k22
  have b22 := F22.binds (ps := ["stream", "many"]) fun _ _ _ _ _ _ us hl => match us, hl with | [_, _], _ => rfl
  have F23 := fun_mk (st := s_l_end) l23 c23 k23
  have b23 := F23.binds (ps := ["stream", "exits"]) fun _ _ _ _ _ _ us hl => match us, hl with | [_, _], _ => rfl
  have F24 := fun_mk (st := s_l_gcd) l24 c24 k24
  have b24 := F24.binds (ps := ["a", "b"]) fun _ _ _ _ _ _ us hl => match us, hl with | [_, _], _ => rfl
  have F25 := fun_mk (st := s_l_ratio) l25 c25 k25
  have b25 := F25.binds (ps := ["n", "d"]) fun _ _ _ _ _ _ us hl => match us, hl with | [_, _], _ => rfl
  have F26 := fun_mk (st := s_l_branches) l26 c26 k26
  have b26 := F26.binds (ps := ["stream", "many"]) fun _ _ _ _ _ _ us hl => match us, hl with | [_, _], _ => rfl
  have F27 := fun_mk (st := s_l_point) l27 c27 k27
  have b27 := F27.binds (ps := ["stream", "exits", "many", "calls", "choices"]) fun _ _ _ _ _ _ us hl => match us, hl with | [_, _, _, _, _], _ => rfl
  have F28 := fun_mk (st := s_l_procedure) l28 c28 k28
  have b28 := F28.binds (ps := ["stream", "exits", "many", "calls", "choices"]) fun _ _ _ _ _ _ us hl => match us, hl with | [_, _, _, _, _], _ => rfl
  have F29 := fun_mk (st := s_l_procedures) l29 c29 k29
  have b29 := F29.binds (ps := ["stream", "choices", "round_calls"]) fun _ _ _ _ _ _ us hl => match us, hl with | [_, _, _], _ => rfl
  have F30 := fun_mk (st := s_l_place) l30 c30 k30
  have b30 := F30.binds (ps := ["stream", "procedures"]) fun _ _ _ _ _ _ us hl => match us, hl with | [_, _], _ => rfl
  have F31 := fun_mk (st := s_law) l31 c31 k31
  have b31 := F31.binds (ps := ["script"]) fun _ _ _ _ _ _ us hl => match us, hl with | [_], _ => rfl
  have FIBadValue := fun_mk (st := s_init_BadValue) x3BadValue x4BadValue x5BadValue
  have bIBadValue := FIBadValue.binds (ps := ["self", "name"]) fun _ _ _ _ _ _ us hl => match us, hl with | [_, _], _ => rfl
  have FIBadGraph := fun_mk (st := s_init_BadGraph) x3BadGraph x4BadGraph x5BadGraph
  have bIBadGraph := FIBadGraph.binds (ps := ["self", "where", "why"]) fun _ _ _ _ _ _ us hl => match us, hl with | [_, _, _], _ => rfl
  let T : Txt K mg := {
    a_ITEMS := qITEMS, g_ITEMS := PySem.W.mg_of X G z_ITEMS
    v_ZERO := .ref q_ZERO_8, u_ZERO := .ref q_ZERO_8, g_ZERO := PySem.W.mg_of X G z_ZERO, r_ZERO := rfl, d_ZERO := fun _ _ => (.tup (vs := [.int (0), .int (1)]) (.inr ⟨_, _, _, q_ZERO_8_l, rfl, rfl, by show 2 ≤ sizeLine; decide, (.cons ⟨_, rfl⟩ (.cons ⟨_, rfl⟩ .nil))⟩) (.cons (.int _) (.cons (.int _) .nil)))
    v_ONE := .ref q_ONE_11, u_ONE := .ref q_ONE_11, g_ONE := PySem.W.mg_of X G z_ONE, r_ONE := rfl, d_ONE := fun _ _ => (.tup (vs := [.int (1), .int (1)]) (.inr ⟨_, _, _, q_ONE_11_l, rfl, rfl, by show 2 ≤ sizeLine; decide, (.cons ⟨_, rfl⟩ (.cons ⟨_, rfl⟩ .nil))⟩) (.cons (.int _) (.cons (.int _) .nil)))
    v_MOST_PROCEDURES := .int (6), u_MOST_PROCEDURES := .int (6) tk_MOST_PROCEDURES_14, g_MOST_PROCEDURES := PySem.W.mg_of X G z_MOST_PROCEDURES, r_MOST_PROCEDURES := ⟨_, rfl⟩, d_MOST_PROCEDURES := fun _ _ => (.int _)
    v_MOST_EXITS := .int (3), u_MOST_EXITS := .int (3) tk_MOST_EXITS_15, g_MOST_EXITS := PySem.W.mg_of X G z_MOST_EXITS, r_MOST_EXITS := ⟨_, rfl⟩, d_MOST_EXITS := fun _ _ => (.int _)
    v_MOST_POINTS := .int (16), u_MOST_POINTS := .int (16) tk_MOST_POINTS_16, g_MOST_POINTS := PySem.W.mg_of X G z_MOST_POINTS, r_MOST_POINTS := ⟨_, rfl⟩, d_MOST_POINTS := fun _ _ => (.int _)
    v_MOST_POINTS_OF_ALL := .int (40), u_MOST_POINTS_OF_ALL := .int (40) tk_MOST_POINTS_OF_ALL_17, g_MOST_POINTS_OF_ALL := PySem.W.mg_of X G z_MOST_POINTS_OF_ALL, r_MOST_POINTS_OF_ALL := ⟨_, rfl⟩, d_MOST_POINTS_OF_ALL := fun _ _ => (.int _)
    v_MOST_BRANCHES := .int (4), u_MOST_BRANCHES := .int (4) tk_MOST_BRANCHES_18, g_MOST_BRANCHES := PySem.W.mg_of X G z_MOST_BRANCHES, r_MOST_BRANCHES := ⟨_, rfl⟩, d_MOST_BRANCHES := fun _ _ => (.int _)
    v_MOST_CHANCE_DENOMINATOR := .int (60), u_MOST_CHANCE_DENOMINATOR := .int (60) tk_MOST_CHANCE_DENOMINATOR_19, g_MOST_CHANCE_DENOMINATOR := PySem.W.mg_of X G z_MOST_CHANCE_DENOMINATOR, r_MOST_CHANCE_DENOMINATOR := ⟨_, rfl⟩, d_MOST_CHANCE_DENOMINATOR := fun _ _ => (.int _)
    v_MOST_AMOUNT_NUMERATOR := .int (1000), u_MOST_AMOUNT_NUMERATOR := .int (1000) tk_MOST_AMOUNT_NUMERATOR_20, g_MOST_AMOUNT_NUMERATOR := PySem.W.mg_of X G z_MOST_AMOUNT_NUMERATOR, r_MOST_AMOUNT_NUMERATOR := ⟨_, rfl⟩, d_MOST_AMOUNT_NUMERATOR := fun _ _ => (.int _)
    v_MOST_AMOUNT_DENOMINATOR := .int (12), u_MOST_AMOUNT_DENOMINATOR := .int (12) tk_MOST_AMOUNT_DENOMINATOR_21, g_MOST_AMOUNT_DENOMINATOR := PySem.W.mg_of X G z_MOST_AMOUNT_DENOMINATOR, r_MOST_AMOUNT_DENOMINATOR := ⟨_, rfl⟩, d_MOST_AMOUNT_DENOMINATOR := fun _ _ => (.int _)
    c_BadValue := cBadValue, g_BadValue := PySem.W.mg_of X G xCBadValue, O_BadValue := ⟨⟨nmBadValue, qBadValue, NBadValue, bsBadValue, _, snBadValue, subBadValue, abBadValue, colBadValue, ddBadValue, m0BadValue, m1BadValue, m2BadValue, m3BadValue, m5BadValue, xLBadValue, by rfl⟩, x6BadValue, x7BadValue, x8BadValue, x9BadValue⟩, X_BadValue := ⟨y1BadValue, y2BadValue, x7BadValue, y3BadValue⟩, I_BadValue := ⟨y1BadValue, y2BadValue, x7BadValue, y5BadValue, y6BadValue, y7, y8, y9BadValue⟩, fi_BadValue := fIBadValue, fdi_BadValue := _, iC_BadValue := x1BadValue, tI_BadValue := x2BadValue, FI_BadValue := FIBadValue, bI_BadValue := bIBadValue, no_BadValue_name := n_BadValue_name, x_BadValue_BadValue := PySem.W.exm_ref x7BadValue y3BadValue x8BadValue w_BadValue_BadValue, k_BadValue_BadValue := Odds.kit_own y5BadValue x8BadValue w_BadValue_BadValue, x_BadValue_BadGraph := PySem.W.exm_ref x7BadGraph y3BadGraph x8BadGraph w_BadValue_BadGraph, k_BadValue_BadGraph := kit_no y5BadGraph x8BadGraph w_BadValue_BadGraph w_BadValue_BadValue
    c_BadGraph := cBadGraph, g_BadGraph := PySem.W.mg_of X G xCBadGraph, O_BadGraph := ⟨⟨nmBadGraph, qBadGraph, NBadGraph, bsBadGraph, _, snBadGraph, subBadGraph, abBadGraph, colBadGraph, ddBadGraph, m0BadGraph, m1BadGraph, m2BadGraph, m3BadGraph, m5BadGraph, xLBadGraph, by rfl⟩, x6BadGraph, x7BadGraph, x8BadGraph, x9BadGraph⟩, X_BadGraph := ⟨y1BadGraph, y2BadGraph, x7BadGraph, y3BadGraph⟩, I_BadGraph := ⟨y1BadGraph, y2BadGraph, x7BadGraph, y5BadGraph, y6BadGraph, y7, y8, y9BadGraph⟩, fi_BadGraph := fIBadGraph, fdi_BadGraph := _, iC_BadGraph := x1BadGraph, tI_BadGraph := x2BadGraph, FI_BadGraph := FIBadGraph, bI_BadGraph := bIBadGraph, no_BadGraph_where := n_BadGraph_where, no_BadGraph_why := n_BadGraph_why, x_BadGraph_BadValue := PySem.W.exm_ref x7BadValue y3BadValue x8BadValue w_BadGraph_BadValue, k_BadGraph_BadValue := kit_no y5BadValue x8BadValue w_BadGraph_BadValue w_BadGraph_BadGraph, x_BadGraph_BadGraph := PySem.W.exm_ref x7BadGraph y3BadGraph x8BadGraph w_BadGraph_BadGraph, k_BadGraph_BadGraph := Odds.kit_own y5BadGraph x8BadGraph w_BadGraph_BadGraph
    c_tab_has_form := cT3, P_tab_has_form := PT3, code_has_form := ceq3
    c_tab_problem_of_targets := cT8, P_tab_problem_of_targets := PT8, code_problem_of_targets := ceq8
    c_tab_check_procedures := cT16, P_tab_check_procedures := PT16, code_check_procedures := ceq16
    c_tab_rejecting := cT20, P_tab_rejecting := PT20, code_rejecting := ceq20
    f_is_whole := f0, fd_is_whole := _, D_is_whole := ⟨F0, PySem.W.mg_of X G a0, b0⟩
    f_is_index := f1, fd_is_index := _, D_is_index := ⟨F1, PySem.W.mg_of X G a1, b1⟩
    f_is_pair := f2, fd_is_pair := _, D_is_pair := ⟨F2, PySem.W.mg_of X G a2, b2⟩
    f_has_form := f3, fd_has_form := _, D_has_form := ⟨F3, PySem.W.mg_of X G a3, b3⟩
    f_plus := f4, fd_plus := _, D_plus := ⟨F4, PySem.W.mg_of X G a4, b4⟩
    f_is_rational := f5, fd_is_rational := _, D_is_rational := ⟨F5, PySem.W.mg_of X G a5, b5⟩
    f_is_chance := f6, fd_is_chance := _, D_is_chance := ⟨F6, PySem.W.mg_of X G a6, b6⟩
    f_problem_of_draw := f7, fd_problem_of_draw := _, D_problem_of_draw := ⟨F7, PySem.W.mg_of X G a7, b7⟩
    f_problem_of_targets := f8, fd_problem_of_targets := _, D_problem_of_targets := ⟨F8, PySem.W.mg_of X G a8, b8⟩
    f_problem_of_choice := f9, fd_problem_of_choice := _, D_problem_of_choice := ⟨F9, PySem.W.mg_of X G a9, b9⟩
    f_problem_of_call := f10, fd_problem_of_call := _, D_problem_of_call := ⟨F10, PySem.W.mg_of X G a10, b10⟩
    f_is_amount := f11, fd_is_amount := _, D_is_amount := ⟨F11, PySem.W.mg_of X G a11, b11⟩
    f_problem_of_reward := f12, fd_problem_of_reward := _, D_problem_of_reward := ⟨F12, PySem.W.mg_of X G a12, b12⟩
    f_problem_of_point := f13, fd_problem_of_point := _, D_problem_of_point := ⟨F13, PySem.W.mg_of X G a13, b13⟩
    f_check_points := f14, fd_check_points := _, D_check_points := ⟨F14, PySem.W.mg_of X G a14, b14⟩
    f_problem_of_procedure := f15, fd_problem_of_procedure := _, D_problem_of_procedure := ⟨F15, PySem.W.mg_of X G a15, b15⟩
    f_check_procedures := f16, fd_check_procedures := _, D_check_procedures := ⟨F16, PySem.W.mg_of X G a16, b16⟩
    f_Graph_init := f17, fd_Graph_init := _, D_Graph_init := ⟨F17, b17⟩
    mk_Graph := ⟨mkGraph, a17, i17, kcGraph⟩
    f_Graph_is_place := f18, fd_Graph_is_place := _, D_Graph_is_place := ⟨F18, b18⟩
    me_Graph_is_place := ⟨a18, i18, k18⟩
    f_check_graph := f19, fd_check_graph := _, D_check_graph := ⟨F19, PySem.W.mg_of X G a19, b19⟩
    f_rejecting := f20, fd_rejecting := _, D_rejecting := ⟨F20, PySem.W.mg_of X G a20, b20⟩
    f_l_stream := f21, fd_l_stream := _, D_l_stream := ⟨F21, PySem.W.mg_of X G a21, b21⟩
    f_l_next := f22, fd_l_next := _, D_l_next := ⟨F22, PySem.W.mg_of X G a22, b22⟩
    f_l_end := f23, fd_l_end := _, D_l_end := ⟨F23, PySem.W.mg_of X G a23, b23⟩
    f_l_gcd := f24, fd_l_gcd := _, D_l_gcd := ⟨F24, PySem.W.mg_of X G a24, b24⟩
    f_l_ratio := f25, fd_l_ratio := _, D_l_ratio := ⟨F25, PySem.W.mg_of X G a25, b25⟩
    f_l_branches := f26, fd_l_branches := _, D_l_branches := ⟨F26, PySem.W.mg_of X G a26, b26⟩
    f_l_point := f27, fd_l_point := _, D_l_point := ⟨F27, PySem.W.mg_of X G a27, b27⟩
    f_l_procedure := f28, fd_l_procedure := _, D_l_procedure := ⟨F28, PySem.W.mg_of X G a28, b28⟩
    f_l_procedures := f29, fd_l_procedures := _, D_l_procedures := ⟨F29, PySem.W.mg_of X G a29, b29⟩
    f_l_place := f30, fd_l_place := _, D_l_place := ⟨F30, PySem.W.mg_of X G a30, b30⟩
    f_law := fa, fd_law := _, D_law := ⟨F31, PySem.W.mg_of X G a31, b31⟩
    abs := PySem.W.mg_none_of X G z_abs
    all := PySem.W.mg_none_of X G z_all
    bool := PySem.W.mg_none_of X G z_bool
    enumerate := PySem.W.mg_none_of X G z_enumerate
    int := PySem.W.mg_none_of X G z_int
    isinstance := PySem.W.mg_none_of X G z_isinstance
    len := PySem.W.mg_none_of X G z_len
    list := PySem.W.mg_none_of X G z_list
    range := PySem.W.mg_none_of X G z_range
    str := PySem.W.mg_none_of X G z_str
    sum := PySem.W.mg_none_of X G z_sum
    tuple := PySem.W.mg_none_of X G z_tuple
    gcd := PySem.W.mg_of X G z_gcd
    c_Graph := cGraph, g_Graph := PySem.W.mg_of X G xCGraph, cl_Graph := ⟨pgGraph, hdGraph, poGraph, saGraph⟩
    it_Graph := ⟨⟨pgGraph, hdGraph, poGraph, saGraph⟩, j6Graph, j7Graph, j8Graph, j9Graph⟩
    kt_Graph := fun t ht => by
      simp only [tysP, List.mem_cons, List.not_mem_nil, or_false] at ht
      rcases ht with rfl | rfl | rfl | rfl | rfl | rfl | rfl
      · exact kit_sub jcGraph jtGraph juGraph_NoneType (fun e => nomatch e)
      · exact kit_sub jcGraph jtGraph juGraph_bool (fun e => nomatch e)
      · exact kit_sub jcGraph jtGraph juGraph_int (fun e => nomatch e)
      · exact kit_sub jcGraph jtGraph juGraph_str (fun e => nomatch e)
      · exact kit_sub jcGraph jtGraph juGraph_tuple (fun e => nomatch e)
      · exact kit_sub jcGraph jtGraph juGraph_list (fun e => nomatch e)
      · exact kit_sub jcGraph jtGraph juGraph_dict (fun e => nomatch e)
    ko_Graph_Graph := kit_sub jcGraph jtGraph jsGraph (fun _ => rfl)
    na_Graph_procedures := naGraph_procedures }
  have ht3 : PySem.W.tabIn K "has_form" = some (cT3, PT3) := by
    subst ceq3
    simp only [PySem.W.tabIn, a3, l3, PySem.W.fnOf, lcT3, v11_3]
  obtain ⟨hc3, hg3⟩ := tabF "has_form" _ _ (.head _) ht3
  have ht8 : PySem.W.tabIn K "problem_of_targets" = some (cT8, PT8) := by
    subst ceq8
    simp only [PySem.W.tabIn, a8, l8, PySem.W.fnOf, lcT8, v11_8]
  obtain ⟨hc8, hg8⟩ := tabF "problem_of_targets" _ _ (.tail _ (.head _)) ht8
  have ht16 : PySem.W.tabIn K "check_procedures" = some (cT16, PT16) := by
    subst ceq16
    simp only [PySem.W.tabIn, a16, l16, PySem.W.fnOf, lcT16, v11_16]
  obtain ⟨hc16, hg16⟩ := tabF "check_procedures" _ _ (.tail _ (.tail _ (.head _))) ht16
  have ht20 : PySem.W.tabIn K "rejecting" = some (cT20, PT20) := by
    subst ceq20
    simp only [PySem.W.tabIn, a20, l20, PySem.W.fnOf, lcT20, v11_20]
  obtain ⟨hc20, hg20⟩ := tabF "rejecting" _ _ (.tail _ (.tail _ (.tail _ (.head _)))) ht20
  refine ⟨PySem.W.fnOf "law" "law" (defArgs s_law) (defBody s_law) (defScope s_law) .none kV31 dc31 pm31 an31 cd31 ct31, [(cT3, PT3), (cT8, PT8), (cT16, PT16), (cT20, PT20)], spM K T.g 1 m_law, ?_, ?_, ?_, fun s v => .of_eq rfl, ?_, ?_⟩
  · intro p hp
    rcases List.mem_cons.mp hp with rfl | hp
    · exact hg3
    rcases List.mem_cons.mp hp with rfl | hp
    · exact hg8
    rcases List.mem_cons.mp hp with rfl | hp
    · exact hg16
    rcases List.mem_cons.mp hp with rfl | hp
    · exact hg20
    · cases hp
  · intro p hp
    rcases List.mem_cons.mp hp with rfl | hp
    · exact nPT3
    rcases List.mem_cons.mp hp with rfl | hp
    · exact nPT8
    rcases List.mem_cons.mp hp with rfl | hp
    · exact nPT16
    rcases List.mem_cons.mp hp with rfl | hp
    · exact nPT20
    · cases hp
  · intro p hp
    rcases List.mem_cons.mp hp with rfl | hp
    · exact hc3
    rcases List.mem_cons.mp hp with rfl | hp
    · exact hc8
    rcases List.mem_cons.mp hp with rfl | hp
    · exact hc16
    rcases List.mem_cons.mp hp with rfl | hp
    · exact hc20
    · cases hp
  · intro H a ns hl _ hH hS
    refine law_end T.g hl ?_ hS
    intro P hP
    rcases List.mem_cons.mp hP with e | hP
    · rw [e]; exact ⟨#[], hH (cT3, PT3) (.head _), trivial⟩
    rcases List.mem_cons.mp hP with e | hP
    · rw [e]; exact ⟨#[], hH (cT8, PT8) (.tail _ (.head _)), trivial⟩
    rcases List.mem_cons.mp hP with e | hP
    · rw [e]; exact ⟨#[], hH (cT16, PT16) (.tail _ (.tail _ (.head _))), trivial⟩
    rcases List.mem_cons.mp hP with e | hP
    · rw [e]; exact ⟨#[], hH (cT20, PT20) (.tail _ (.tail _ (.tail _ (.head _)))), trivial⟩
    cases hP
  · intro base _ _ TB
    have t3 := TB (cT3, PT3) (.head _)
    have t8 := TB (cT8, PT8) (.tail _ (.head _))
    have t16 := TB (cT16, PT16) (.tail _ (.tail _ (.head _)))
    have t20 := TB (cT20, PT20) (.tail _ (.tail _ (.tail _ (.head _))))
    have kdITEMS : KdOk K w qITEMS kd_ITEMS ks_ITEMS := by
      refine ⟨⟨⟨_, _, qlITEMS, qkITEMS⟩, qsITEMS⟩, fun kk xx hk => ?_, fun kk hk => ?_⟩
      by_cases e0 : kk = "exit"
      · subst e0
        cases hk
        exact ⟨.int (2), ⟨_, _, _, qlITEMS, qkITEMS, qiITEMS_0, ⟨_, rfl⟩⟩, fun _ _ => (.int _)⟩
      by_cases e1 : kk = "draw"
      · subst e1
        cases hk
        exact ⟨.int (2), ⟨_, _, _, qlITEMS, qkITEMS, qiITEMS_1, ⟨_, rfl⟩⟩, fun _ _ => (.int _)⟩
      by_cases e2 : kk = "choose"
      · subst e2
        cases hk
        exact ⟨.int (2), ⟨_, _, _, qlITEMS, qkITEMS, qiITEMS_2, ⟨_, rfl⟩⟩, fun _ _ => (.int _)⟩
      by_cases e3 : kk = "call"
      · subst e3
        cases hk
        exact ⟨.int (3), ⟨_, _, _, qlITEMS, qkITEMS, qiITEMS_3, ⟨_, rfl⟩⟩, fun _ _ => (.int _)⟩
      by_cases e4 : kk = "reward"
      · subst e4
        cases hk
        exact ⟨.int (3), ⟨_, _, _, qlITEMS, qkITEMS, qiITEMS_4, ⟨_, rfl⟩⟩, fun _ _ => (.int _)⟩
      by_cases e5 : kk = "reject"
      · subst e5
        cases hk
        exact ⟨.int (1), ⟨_, _, _, qlITEMS, qkITEMS, qiITEMS_5, ⟨_, rfl⟩⟩, fun _ _ => (.int _)⟩
      by_cases e6 : kk = "stop"
      · subst e6
        cases hk
        exact ⟨.int (1), ⟨_, _, _, qlITEMS, qkITEMS, qiITEMS_6, ⟨_, rfl⟩⟩, fun _ _ => (.int _)⟩
      · have b0 : kd_ITEMS.lookup kk = none := by simp [kd_ITEMS, List.lookup, (beq_eq_false_iff_ne.mpr e0), (beq_eq_false_iff_ne.mpr e1), (beq_eq_false_iff_ne.mpr e2), (beq_eq_false_iff_ne.mpr e3), (beq_eq_false_iff_ne.mpr e4), (beq_eq_false_iff_ne.mpr e5), (beq_eq_false_iff_ne.mpr e6)]
        rw [b0] at hk
        cases hk
      cases hk
    exact ok_law T ⟨⟨t3.code, t3.bm, t3.gP⟩, ⟨t8.code, t8.bm, t8.gP⟩, ⟨t16.code, t16.bm, t16.gP⟩, ⟨t20.code, t20.bm, t20.gP⟩, kdITEMS⟩
end Pm
open PySem PySem.W PyProof.Rows
set_option maxRecDepth 100000 in
set_option maxHeartbeats 0 in
theorem PySem.Challenge.cw_oddscall_k60_rejecting_holds : PySem.Challenge.rw_oddscall_k60_rejecting.Holds := by
  w_on; o_law; k_head; (case hw => w_witness2)
  k_fill
  refine Odds.walk_tab (l := PySem.Challenge.rw_oddscall_k60_rejecting) (n := 63) (k := 14) (CX := fun w => L2.CX (PySem.Challenge.rw_oddscall_k60_rejecting).prog w) (x := "script") rfl (by decide) rfl ⟨rfl, by decide, by decide⟩ (fun w h Y => PySem.W.kIn_of Y) ?F (fun _ _ _ _ _ ⟨_, _, _, _, _, _, _, _, _, _, _, _, z⟩ => z)
  case F =>
    intro w mg fa h KX G hmg tabF
    refine' Pm.all_mk KX G hmg ?xCGraph ?pgGraph ?hdGraph ?poGraph ?saGraph ?mkGraph ?kcGraph ?jcGraph ?jtGraph ?j6Graph ?j9Graph ?j7Graph ?j8Graph ?jsGraph ?juGraph_NoneType ?juGraph_bool ?juGraph_int ?juGraph_str ?juGraph_tuple ?juGraph_list ?juGraph_dict ?naGraph_procedures ?a0 ?l0 ?c0 ?k0 ?a1 ?l1 ?c1 ?k1 ?a2 ?l2 ?c2 ?k2 ?a3 ?l3 ?c3 ?k3 ?a4 ?l4 ?c4 ?k4 ?a5 ?l5 ?c5 ?k5 ?a6 ?l6 ?c6 ?k6 ?a7 ?l7 ?c7 ?k7 ?a8 ?l8 ?c8 ?k8 ?a9 ?l9 ?c9 ?k9 ?a10 ?l10 ?c10 ?k10 ?a11 ?l11 ?c11 ?k11 ?a12 ?l12 ?c12 ?k12 ?a13 ?l13 ?c13 ?k13 ?a14 ?l14 ?c14 ?k14 ?a15 ?l15 ?c15 ?k15 ?a16 ?l16 ?c16 ?k16 ?a17 ?i17 ?l17 ?c17 ?k17 ?a18 ?i18 ?l18 ?c18 ?k18 ?a19 ?l19 ?c19 ?k19 ?a20 ?l20 ?c20 ?k20 ?a21 ?l21 ?c21 ?k21 ?a22 ?l22 ?c22 ?k22 ?a23 ?l23 ?c23 ?k23 ?a24 ?l24 ?c24 ?k24 ?a25 ?l25 ?c25 ?k25 ?a26 ?l26 ?c26 ?k26 ?a27 ?l27 ?c27 ?k27 ?a28 ?l28 ?c28 ?k28 ?a29 ?l29 ?c29 ?k29 ?a30 ?l30 ?c30 ?k30 ?a31 ?l31 ?c31 ?k31 ?z_abs ?z_all ?z_bool ?z_enumerate ?z_int ?z_isinstance ?z_len ?z_list ?z_range ?z_str ?z_sum ?z_tuple ?z_gcd ?z_ITEMS ?qlITEMS ?qkITEMS ?qsITEMS ?qiITEMS_0 ?qiITEMS_1 ?qiITEMS_2 ?qiITEMS_3 ?qiITEMS_4 ?qiITEMS_5 ?qiITEMS_6 ?q_ZERO_8_l ?z_ZERO ?q_ONE_11_l ?z_ONE ?z_MOST_PROCEDURES ?z_MOST_EXITS ?z_MOST_POINTS ?z_MOST_POINTS_OF_ALL ?z_MOST_BRANCHES ?z_MOST_CHANCE_DENOMINATOR ?z_MOST_AMOUNT_NUMERATOR ?z_MOST_AMOUNT_DENOMINATOR ?xO ?w4 ?w5 ?w6 ?w7 ?y7 ?y8 ?xCBadValue ?xLBadValue ?x1BadValue ?x2BadValue ?x3BadValue ?x4BadValue ?x5BadValue ?x6BadValue ?x7BadValue ?x8BadValue ?x9BadValue ?y1BadValue ?y2BadValue ?y3BadValue ?y5BadValue ?y6BadValue ?y9BadValue ?n_BadValue_name ?w_BadValue_BadValue ?w_BadValue_BadGraph ?xCBadGraph ?xLBadGraph ?x1BadGraph ?x2BadGraph ?x3BadGraph ?x4BadGraph ?x5BadGraph ?x6BadGraph ?x7BadGraph ?x8BadGraph ?x9BadGraph ?y1BadGraph ?y2BadGraph ?y3BadGraph ?y5BadGraph ?y6BadGraph ?y9BadGraph ?n_BadGraph_where ?n_BadGraph_why ?w_BadGraph_BadValue ?w_BadGraph_BadGraph ?ceq3 ?lcT3 ?v11_3 ?nPT3 ?ceq8 ?lcT8 ?v11_8 ?nPT8 ?ceq16 ?lcT16 ?v11_16 ?nPT16 ?ceq20 ?lcT20 ?v11_20 ?nPT20 (fun y c P e => tabF y c P (by
      rcases List.mem_cons.mp e with rfl | e
      · decide +kernel
      rcases List.mem_cons.mp e with rfl | e
      · decide +kernel
      rcases List.mem_cons.mp e with rfl | e
      · decide +kernel
      rcases List.mem_cons.mp e with rfl | e
      · decide +kernel
      cases e))
    (case xCGraph => k_is)
    (case pgGraph => k_is)
    (case hdGraph => k_is)
    (case poGraph => k_is)
    (case saGraph => k_is)
    (case mkGraph => k_is)
    (case kcGraph => k_is)
    (case jcGraph => k_is)
    (case jtGraph => k_is)
    (case j6Graph => k_is)
    (case j9Graph => k_is)
    (case j7Graph => k_is)
    (case j8Graph => k_is)
    (case jsGraph => first | rfl | k_is)
    (case juGraph_NoneType => first | rfl | k_is)
    (case juGraph_bool => first | rfl | k_is)
    (case juGraph_int => first | rfl | k_is)
    (case juGraph_str => first | rfl | k_is)
    (case juGraph_tuple => first | rfl | k_is)
    (case juGraph_list => first | rfl | k_is)
    (case juGraph_dict => first | rfl | k_is)
    (case naGraph_procedures => k_is)
    (case a0 => k_is)
    (case l0 => k_is)
    (case c0 => k_is)
    (case k0 => k_is)
    (case a1 => k_is)
    (case l1 => k_is)
    (case c1 => k_is)
    (case k1 => k_is)
    (case a2 => k_is)
    (case l2 => k_is)
    (case c2 => k_is)
    (case k2 => k_is)
    (case a3 => k_is)
    (case l3 => k_is)
    (case c3 => k_is)
    (case k3 => k_is)
    (case a4 => k_is)
    (case l4 => k_is)
    (case c4 => k_is)
    (case k4 => k_is)
    (case a5 => k_is)
    (case l5 => k_is)
    (case c5 => k_is)
    (case k5 => k_is)
    (case a6 => k_is)
    (case l6 => k_is)
    (case c6 => k_is)
    (case k6 => k_is)
    (case a7 => k_is)
    (case l7 => k_is)
    (case c7 => k_is)
    (case k7 => k_is)
    (case a8 => k_is)
    (case l8 => k_is)
    (case c8 => k_is)
    (case k8 => k_is)
    (case a9 => k_is)
    (case l9 => k_is)
    (case c9 => k_is)
    (case k9 => k_is)
    (case a10 => k_is)
    (case l10 => k_is)
    (case c10 => k_is)
    (case k10 => k_is)
    (case a11 => k_is)
    (case l11 => k_is)
    (case c11 => k_is)
    (case k11 => k_is)
    (case a12 => k_is)
    (case l12 => k_is)
    (case c12 => k_is)
    (case k12 => k_is)
    (case a13 => k_is)
    (case l13 => k_is)
    (case c13 => k_is)
    (case k13 => k_is)
    (case a14 => k_is)
    (case l14 => k_is)
    (case c14 => k_is)
    (case k14 => k_is)
    (case a15 => k_is)
    (case l15 => k_is)
    (case c15 => k_is)
    (case k15 => k_is)
    (case a16 => k_is)
    (case l16 => k_is)
    (case c16 => k_is)
    (case k16 => k_is)
    (case a17 => k_is)
    (case i17 => k_is)
    (case l17 => k_is)
    (case c17 => k_is)
    (case k17 => k_is)
    (case a18 => k_is)
    (case i18 => k_is)
    (case l18 => k_is)
    (case c18 => k_is)
    (case k18 => k_is)
    (case a19 => k_is)
    (case l19 => k_is)
    (case c19 => k_is)
    (case k19 => k_is)
    (case a20 => k_is)
    (case l20 => k_is)
    (case c20 => k_is)
    (case k20 => k_is)
    (case a21 => k_is)
    (case l21 => k_is)
    (case c21 => k_is)
    (case k21 => k_is)
    (case a22 => k_is)
    (case l22 => k_is)
    (case c22 => k_is)
    (case k22 => k_is)
    (case a23 => k_is)
    (case l23 => k_is)
    (case c23 => k_is)
    (case k23 => k_is)
    (case a24 => k_is)
    (case l24 => k_is)
    (case c24 => k_is)
    (case k24 => k_is)
    (case a25 => k_is)
    (case l25 => k_is)
    (case c25 => k_is)
    (case k25 => k_is)
    (case a26 => k_is)
    (case l26 => k_is)
    (case c26 => k_is)
    (case k26 => k_is)
    (case a27 => k_is)
    (case l27 => k_is)
    (case c27 => k_is)
    (case k27 => k_is)
    (case a28 => k_is)
    (case l28 => k_is)
    (case c28 => k_is)
    (case k28 => k_is)
    (case a29 => k_is)
    (case l29 => k_is)
    (case c29 => k_is)
    (case k29 => k_is)
    (case a30 => k_is)
    (case l30 => k_is)
    (case c30 => k_is)
    (case k30 => k_is)
    (case a31 => k_is)
    (case l31 => k_is)
    (case c31 => k_is)
    (case k31 => k_is)
    (case z_abs => k_is)
    (case z_all => k_is)
    (case z_bool => k_is)
    (case z_enumerate => k_is)
    (case z_int => k_is)
    (case z_isinstance => k_is)
    (case z_len => k_is)
    (case z_list => k_is)
    (case z_range => k_is)
    (case z_str => k_is)
    (case z_sum => k_is)
    (case z_tuple => k_is)
    (case z_gcd => k_is)
    (case z_ITEMS => k_is)
    (case qlITEMS => k_is)
    (case qkITEMS => k_keys)
    (case qsITEMS => first | rfl | decide)
    (case qiITEMS_0 => k_is)
    (case qiITEMS_1 => k_is)
    (case qiITEMS_2 => k_is)
    (case qiITEMS_3 => k_is)
    (case qiITEMS_4 => k_is)
    (case qiITEMS_5 => k_is)
    (case qiITEMS_6 => k_is)
    (case xO => k_is)
    (case w4 => k_is)
    (case w5 => k_is)
    (case w6 => k_is)
    (case w7 => k_is)
    (case y7 => k_is)
    (case y8 => k_is)
    (case xCBadValue => k_is)
    (case xLBadValue => k_is)
    (case x1BadValue => k_is)
    (case x2BadValue => k_is)
    (case x3BadValue => k_is)
    (case x4BadValue => k_is)
    (case x5BadValue => k_is)
    (case x6BadValue => k_is)
    (case x7BadValue => k_is)
    (case x8BadValue => k_is)
    (case x9BadValue => k_is)
    (case y1BadValue => k_is)
    (case y2BadValue => k_is)
    (case y3BadValue => k_is)
    (case y5BadValue => k_is)
    (case y6BadValue => k_is)
    (case y9BadValue => k_is)
    (case n_BadValue_name => k_is)
    (case xCBadGraph => k_is)
    (case xLBadGraph => k_is)
    (case x1BadGraph => k_is)
    (case x2BadGraph => k_is)
    (case x3BadGraph => k_is)
    (case x4BadGraph => k_is)
    (case x5BadGraph => k_is)
    (case x6BadGraph => k_is)
    (case x7BadGraph => k_is)
    (case x8BadGraph => k_is)
    (case x9BadGraph => k_is)
    (case y1BadGraph => k_is)
    (case y2BadGraph => k_is)
    (case y3BadGraph => k_is)
    (case y5BadGraph => k_is)
    (case y6BadGraph => k_is)
    (case y9BadGraph => k_is)
    (case n_BadGraph_where => k_is)
    (case n_BadGraph_why => k_is)
    (case ceq3 => first | rfl | k_is)
    (case lcT3 => k_is)
    (case v11_3 => first | rfl | k_is)
    (case nPT3 => first | rfl | k_is)
    (case ceq8 => first | rfl | k_is)
    (case lcT8 => k_is)
    (case v11_8 => first | rfl | k_is)
    (case nPT8 => first | rfl | k_is)
    (case ceq16 => first | rfl | k_is)
    (case lcT16 => k_is)
    (case v11_16 => first | rfl | k_is)
    (case nPT16 => first | rfl | k_is)
    (case ceq20 => first | rfl | k_is)
    (case lcT20 => k_is)
    (case v11_20 => first | rfl | k_is)
    (case nPT20 => first | rfl | k_is)
    (case w_BadValue_BadValue => first | rfl | k_is)
    (case w_BadValue_BadGraph => first | rfl | k_is)
    (case w_BadGraph_BadValue => first | rfl | k_is)
    (case w_BadGraph_BadGraph => first | rfl | k_is)
    (case z_ZERO => k_is)
    (case q_ZERO_8_l => k_is)
    (case z_ONE => k_is)
    (case q_ONE_11_l => k_is)
    (case z_MOST_PROCEDURES => k_is)
    (case z_MOST_EXITS => k_is)
    (case z_MOST_POINTS => k_is)
    (case z_MOST_POINTS_OF_ALL => k_is)
    (case z_MOST_BRANCHES => k_is)
    (case z_MOST_CHANCE_DENOMINATOR => k_is)
    (case z_MOST_AMOUNT_NUMERATOR => k_is)
    (case z_MOST_AMOUNT_DENOMINATOR => k_is)
