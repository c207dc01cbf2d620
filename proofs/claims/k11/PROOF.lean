import PyProof.Rows.All
import Wide.All
import OpenK.AllK
import Wide.FinOn
import HandS.ForExc
import HandS.ForMost
import HandS.IsInst
import HandS.Gcd
import HandS.Wide
import HandS.Style
import HandS.ExcInit
import HandS.ExcField
import HandS.ExcIs
import HandS.TupAny
import KE.KExcIs
import HandS.Codes
import HandS.Comp
import KE.KMathG
import Flt.RightSqrt
import HandS.Zip
import HandS.Rev
import HandS.AnyAll
import HandS.JoinGen
import HandS.EndTab
import PyProof.GenCompD
import PySem.Challenge.RW_oddscall_k11_order_of_numbers
set_option Elab.async false
set_option linter.all false
set_option maxRecDepth 100000
set_option maxHeartbeats 4000000
/-! ## Pm: pure values, pure runs, and what ties them to the hand layer -/
namespace Pm
open PySem L2

/-- a value as data; a mutable object is a number -/
inductive PV where
  | non | bl (b : Bool) | int (i : Int) | str (x : Str) | tup (xs : List PV) | rol (xs : List PV) | cell (n : Nat)
/-- a mutable object: a list, a dict, an instance -/
inductive MO where
  | lst (xs : List PV) | dk (kvs : List (Key × PV)) | dt (kvs : List (List Key × PV)) | ins (c : Str) (fs : List (Str × PV))
abbrev Sto := List MO
/-- a run's end: a value; an exception of the program's own; no word -/
inductive Rs (α : Type) where
  | ok (v : α) (S : Sto) | er (c : Str) (fs : List (Str × PV)) (S : Sto) | bad
def Rs.bind {α β : Type} (r : Rs α) (f : α → Sto → Rs β) : Rs β :=
  match r with
  | .ok v S => f v S
  | .er c fs S => .er c fs S
  | .bad => .bad
@[simp] theorem bind_ok {α β : Type} {v : α} {S : Sto} {f : α → Sto → Rs β} : (Rs.ok v S).bind f = f v S := rfl
@[simp] theorem bind_er {α β : Type} {c : Str} {fs : List (Str × PV)} {S : Sto} {f : α → Sto → Rs β} : (Rs.er c fs S : Rs α).bind f = .er c fs S := rfl
@[simp] theorem bind_bad {α β : Type} {f : α → Sto → Rs β} : (Rs.bad : Rs α).bind f = .bad := rfl
abbrev PSt := List (Option PV)
/-- a statement's end -/
inductive Ot where
  | nx (ρ : PSt) (S : Sto) | rt (v : PV) (S : Sto) | bk (ρ : PSt) (S : Sto) | ct (ρ : PSt) (S : Sto) | er (c : Str) (fs : List (Str × PV)) (ρ : PSt) (S : Sto) | bad
abbrev ME := PSt → Sto → Rs PV
abbrev MA := PSt → Sto → Rs (List PV)
abbrev MT := PSt → Sto → Rs Bool
abbrev MS := PSt → Sto → Ot
/-- a def: arguments, objects -/
abbrev MF := List PV → Sto → Rs PV

/-! ### what ties them -/
section
variable (K : PySem.W.Frag)
/-- a list that nobody writes -/
def RoL (H : Hp) (a : Addr) (vs : List V) : Prop := (∃ o, H a = some (.frz o (.lst vs))) ∨
  ∃ (o : Obj) (its : Array Value) (n : Nat), K.lookup a = some o ∧ o.cls = .type "list" ∧ o.dict = none ∧ o.data = .seq its n ∧ its.size ≤ sizeLine ∧ Vals vs its.toList
theorem RoL.sq {K : PySem.W.Frag} {H : Hp} {a : Addr} {vs : List V} (h : RoL K H a vs) : SqL K H a vs := by
  rcases h with h | h
  · exact .inl (.inr h)
  · exact .inr h
mutual
inductive Den (α : List Addr) (H : Hp) : PV → V → Prop where
  | non : Den α H .non .non
  | bl (b : Bool) : Den α H (.bl b) (.bl b)
  | int (i : Int) : Den α H (.int i) (.int i)
  | str (x : Str) : Den α H (.str x) (.str x)
  | tup {xs : List PV} {vs : List V} {a : Addr} : SqT K H a vs → Dens α H xs vs → Den α H (.tup xs) (.ref a)
  | rol {xs : List PV} {vs : List V} {a : Addr} : RoL K H a vs → Dens α H xs vs → Den α H (.rol xs) (.ref a)
  | cell {n : Nat} {a : Addr} : α[n]? = some a → Den α H (.cell n) (.ref a)
inductive Dens (α : List Addr) (H : Hp) : List PV → List V → Prop where
  | nil : Dens α H [] []
  | cons {x : PV} {v : V} {xs : List PV} {vs : List V} : Den α H x v → Dens α H xs vs → Dens α H (x :: xs) (v :: vs)
end
end
/-- what never changes -/
def Stay : HO → Prop
  | .tup _ => True
  | .frz _ _ => True
  | .xd _ => True
  | _ => False
def Kp (H H' : Hp) : Prop := ∀ a o, H a = some o → Stay o → H' a = some o
section
variable {K : PySem.W.Frag} {α α' α'' : List Addr} {H H' H'' : Hp}
theorem Kp.refl : Kp H H := fun _ _ h _ => h
theorem Kp.trans (a : Kp H H') (b : Kp H' H'') : Kp H H'' := fun _ _ h s => b _ _ (a _ _ h s) s
theorem Kp.tup (k : Kp H H') {a : Addr} {vs : List V} (h : SqT K H a vs) : SqT K H' a vs := by
  rcases h with (h | ⟨o, h⟩) | h
  · exact .inl (.inl (k _ _ h trivial))
  · exact .inl (.inr ⟨o, k _ _ h trivial⟩)
  · exact .inr h
theorem Kp.rol (k : Kp H H') {a : Addr} {vs : List V} (h : RoL K H a vs) : RoL K H' a vs := by
  rcases h with ⟨o, h⟩ | h
  · exact .inl ⟨o, k _ _ h trivial⟩
  · exact .inr h
theorem Kp.new {p : Addr} {o : HO} (h : H p = none) : Kp H (upd H p o) := fun a u r _ => by
  rw [upd_ne (ne_of_none r h)]
  exact r
/-- an object that may change is written -/
theorem Kp.set {p : Addr} {o u : HO} (h : H p = some o) (n : ¬ Stay o) : Kp H (upd H p u) := fun a w r s => by
  rw [upd_ne (fun e => by subst e; rw [h] at r; exact n (Option.some.inj r ▸ s))]
  exact r
mutual
theorem Den.mono (pre : α <+: α') (kp : Kp H H') : ∀ {x : PV} {v : V}, Den K α H x v → Den K α' H' x v
  | _, _, .non => .non
  | _, _, .bl b => .bl b
  | _, _, .int i => .int i
  | _, _, .str x => .str x
  | _, _, .tup h d => .tup (kp.tup h) (Dens.mono pre kp d)
  | _, _, .rol h d => .rol (kp.rol h) (Dens.mono pre kp d)
  | _, _, .cell h => .cell (by
      obtain ⟨t, rfl⟩ := pre
      rw [List.getElem?_append_left (List.getElem?_eq_some_iff.mp h).1]
      exact h)
theorem Dens.mono (pre : α <+: α') (kp : Kp H H') : ∀ {xs : List PV} {vs : List V}, Dens K α H xs vs → Dens K α' H' xs vs
  | _, _, .nil => .nil
  | _, _, .cons d ds => .cons (Den.mono pre kp d) (Dens.mono pre kp ds)
end
theorem Dens.length : ∀ {xs : List PV} {vs : List V}, Dens K α H xs vs → xs.length = vs.length
  | _, _, .nil => rfl
  | _, _, .cons _ ds => by simp [Dens.length ds]
theorem Dens.get : ∀ {xs : List PV} {vs : List V} {i : Nat} {x : PV}, Dens K α H xs vs → xs[i]? = some x → ∃ v, vs[i]? = some v ∧ Den K α H x v
  | _, _, _, _, .nil, e => by simp at e
  | _, _, 0, _, .cons d _, e => by simp at e; subst e; exact ⟨_, rfl, d⟩
  | _, _, i + 1, x, .cons _ ds, e => by
    obtain ⟨v, h1, h2⟩ := Dens.get (i := i) (x := x) ds (by simpa using e)
    exact ⟨v, by simpa using h1, h2⟩
theorem Dens.append : ∀ {xs ys : List PV} {vs us : List V}, Dens K α H xs vs → Dens K α H ys us → Dens K α H (xs ++ ys) (vs ++ us)
  | _, _, _, _, .nil, d => d
  | _, _, _, _, .cons a b, d => .cons a (Dens.append b d)
theorem Dens.set {y : PV} {u : V} (d : Den K α H y u) : ∀ {xs : List PV} {vs : List V} (i : Nat), Dens K α H xs vs → Dens K α H (xs.set i y) (vs.set i u)
  | _, _, _, .nil => .nil
  | _, _, 0, .cons _ b => .cons d b
  | _, _, i + 1, .cons a b => .cons a (Dens.set d i b)
theorem Dens.take : ∀ {xs : List PV} {vs : List V} (n : Nat), Dens K α H xs vs → Dens K α H (xs.take n) (vs.take n)
  | _, _, 0, _ => .nil
  | _, _, _ + 1, .nil => .nil
  | _, _, n + 1, .cons a b => .cons a (Dens.take n b)
theorem Dens.drop : ∀ {xs : List PV} {vs : List V} (n : Nat), Dens K α H xs vs → Dens K α H (xs.drop n) (vs.drop n)
  | _, _, 0, d => d
  | _, _, _ + 1, .nil => .nil
  | _, _, n + 1, .cons _ b => Dens.drop n b
theorem Dens.reverse {xs : List PV} {vs : List V} (d : Dens K α H xs vs) : Dens K α H xs.reverse vs.reverse := by
  induction xs generalizing vs with
  | nil => cases d; exact .nil
  | cons x xs ih =>
    cases d with
    | cons a b =>
      rw [List.reverse_cons, List.reverse_cons]
      exact (ih b).append (.cons a .nil)
theorem Dens.ints : ∀ {ns : List Int} {vs : List V}, Dens K α H (ns.map PV.int) vs → vs = ns.map V.int
  | [], _, .nil => rfl
  | _ :: _, _, .cons (.int _) b => by rw [List.map_cons, Dens.ints b]
theorem Dens.of_ints : ∀ (ns : List Int), Dens K α H (ns.map PV.int) (ns.map V.int)
  | [] => .nil
  | n :: ns => .cons (.int n) (Dens.of_ints ns)
theorem Dens.bls : ∀ {bs : List Bool} {vs : List V}, Dens K α H (bs.map PV.bl) vs → vs = bs.map V.bl
  | [], _, .nil => rfl
  | _ :: _, _, .cons (.bl _) b => by rw [List.map_cons, Dens.bls b]
end

/-- an exception that a suite holds: its slot, where it lies, its class, its dict, what they mean -/
structure Sut where
  i : Nat
  a : Addr
  cls : Value
  d : Option Addr
  c : Str
  fs : List (Str × PV)
/-- the signature: classes of instances, classes of exceptions, code tables; the suite's exception -/
structure Sg where
  cls : Str → Option Addr
  exc : Str → Option Addr
  tabs : List Addr
  sut : Option Sut
/-- an exception's own dict -/
def XF (K : PySem.W.Frag) (α : List Addr) (H : Hp) (d : Addr) (fs : List (Str × PV)) : Prop :=
  ∃ vfs : List (Str × V), H d = some (.xd vfs) ∧ fs.map (·.1) = vfs.map (·.1) ∧ Dens K α H (fs.map (·.2)) (vfs.map (·.2))
theorem XF.mono {K : PySem.W.Frag} {α α' : List Addr} {H H' : Hp} {d : Addr} {fs : List (Str × PV)} (pre : α <+: α') (kp : Kp H H') (x : XF K α H d fs) : XF K α' H' d fs := by
  obtain ⟨vfs, h1, h2, h3⟩ := x
  exact ⟨vfs, kp _ _ h1 trivial, h2, h3.mono pre kp⟩
/-- the exception stands as it was caught -/
def SutOk (K : PySem.W.Frag) (g : Sg) (α : List Addr) (σ : St) (H : Hp) (z : Sut) : Prop :=
  σ[z.i]? = some (some (.ref z.a)) ∧ ∃ C d, z.cls = .ref C ∧ g.exc z.c = some C ∧ z.d = some d ∧ XF K α H d z.fs
/-- a mutable object lies at a -/
def Mob (K : PySem.W.Frag) (g : Sg) (α : List Addr) (H : Hp) (a : Addr) : MO → Prop
  | .lst xs => ∃ vs, H a = some (.lst vs) ∧ Dens K α H xs vs
  | .dk kvs => ∃ ks : List (Key × V), H a = some (.dK ks) ∧ kvs.map (·.1) = ks.map (·.1) ∧ Dens K α H (kvs.map (·.2)) (ks.map (·.2))
  | .dt kvs => ∃ ks : List (List Key × V), H a = some (.dT ks) ∧ kvs.map (·.1) = ks.map (·.1) ∧ Dens K α H (kvs.map (·.2)) (ks.map (·.2))
  | .ins c fs => ∃ C dx vfs, g.cls c = some C ∧ H a = some (.ins C dx vfs) ∧ fs.map (·.1) = vfs.map (·.1) ∧ Dens K α H (fs.map (·.2)) (vfs.map (·.2))
/-- the objects -/
structure RlC (K : PySem.W.Frag) (g : Sg) (α : List Addr) (H : Hp) (S : Sto) : Prop where
  len : α.length = S.length
  nd : α.Nodup
  cel : ∀ (n : Nat) a o, α[n]? = some a → S[n]? = some o → Mob K g α H a o
  tab : ∀ P ∈ g.tabs, GxR.TabG H P
/-- .. and the names -/
structure Rl (K : PySem.W.Frag) (g : Sg) (α : List Addr) (σ : St) (H : Hp) (ρ : PSt) (S : Sto) : Prop where
  obj : RlC K g α H S
  len : ρ.length = σ.length
  loc : ∀ (i : Nat) x, ρ[i]? = some (some x) → ∃ v, σ[i]? = some (some v) ∧ Den K α H x v
  sut : ∀ z, g.sut = some z → ρ[z.i]? = some none → SutOk K g α σ H z
end Pm
namespace Pm
open PySem L2
/-- what a run asks of its caller: P of the value and the state behind -/
def Post {β : Type} (K : PySem.W.Frag) (g : Sg) (W : WX) (α : List Addr) (σ : St) (H : Hp) (ρ : PSt) (P : List Addr → Hp → β → Sto → Prop) : Rs β → Prop
  | .ok x S' => ∀ α' H', α <+: α' → Kp H H' → Rl K g α' σ H' ρ S' → P α' H' x S'
  | .er c fs S' => ∀ α' H' C d, α <+: α' → Kp H H' → Rl K g α' σ H' ρ S' → g.exc c = some C → XF K α' H' d fs → W (.ref C) (some d) σ H'
  | .bad => False
section
variable {K : PySem.W.Frag} {g : Sg} {W : WX} {α α1 : List Addr} {σ : St} {H H1 : Hp} {ρ : PSt} {β γ : Type} {S : Sto}
theorem Post.mono {P : List Addr → Hp → β → Sto → Prop} (pre : α <+: α1) (kp : Kp H H1) : ∀ {r : Rs β}, Post K g W α σ H ρ P r → Post K g W α1 σ H1 ρ P r
  | .ok _ _, h => fun α' H' p k r => h α' H' (pre.trans p) (kp.trans k) r
  | .er _ _ _, h => fun α' H' C d p k r e x => h α' H' C d (pre.trans p) (kp.trans k) r e x
  | .bad, h => h
theorem Post.imp {P P' : List Addr → Hp → β → Sto → Prop} : ∀ {r : Rs β}, Post K g W α σ H ρ P r → (∀ α' H' x S', α <+: α' → Kp H H' → Rl K g α' σ H' ρ S' → P α' H' x S' → P' α' H' x S') → Post K g W α σ H ρ P' r
  | .ok _ _, h, f => fun α' H' p k r => f _ _ _ _ p k r (h α' H' p k r)
  | .er _ _ _, h, _ => h
  | .bad, h, _ => h
theorem Post.of_bind {P : List Addr → Hp → γ → Sto → Prop} {f : β → Sto → Rs γ} : ∀ {r : Rs β}, Post K g W α σ H ρ P (r.bind f) → Post K g W α σ H ρ (fun α' H' x S' => Rl K g α' σ H' ρ S' → Post K g W α' σ H' ρ P (f x S')) r
  | .ok _ _, h => fun _ _ p k _ _ => Post.mono p k h
  | .er _ _ _, h => h
  | .bad, h => h
/-- at the end of the reading -/
theorem Post.here {P : List Addr → Hp → β → Sto → Prop} {x : β} (h : Post K g W α σ H ρ P (.ok x S)) (r : Rl K g α σ H ρ S) : P α H x S := h α H (List.prefix_refl _) Kp.refl r
end

/-! ### the judgements -/
/-- the expression's reading by m -/
def tM (K : PySem.W.Frag) (g : Sg) (W : WX) (m : ME) : TE := fun σ H Q => ∃ α ρ S, Rl K g α σ H ρ S ∧ Post K g W α σ H ρ (fun α' H' x _ => ∀ v, Den K α' H' x v → Q v H') (m ρ S)
def tMT (K : PySem.W.Frag) (g : Sg) (W : WX) (m : MT) : TT := fun σ H Q => ∃ α ρ S, Rl K g α σ H ρ S ∧ Post K g W α σ H ρ (fun _ H' b _ => Q b H') (m ρ S)
def tMA (K : PySem.W.Frag) (g : Sg) (W : WX) (m : MA) : TA := fun σ H Q => ∃ α ρ S, Rl K g α σ H ρ S ∧ Post K g W α σ H ρ (fun α' H' xs _ => ∀ vs, Dens K α' H' xs vs → Q vs H') (m ρ S)
def SPost (K : PySem.W.Frag) (g : Sg) (W : WX) (α : List Addr) (H : Hp) (D : Ends) : Ot → Prop
  | .nx ρ' S' => ∀ α' σ' H', α <+: α' → Kp H H' → Rl K g α' σ' H' ρ' S' → D.nx σ' H'
  | .rt x S' => ∀ α' H' v, α <+: α' → Kp H H' → RlC K g α' H' S' → Den K α' H' x v → D.rt v H'
  | .bk ρ' S' => ∀ α' σ' H', α <+: α' → Kp H H' → Rl K g α' σ' H' ρ' S' → D.bk σ' H'
  | .ct ρ' S' => ∀ α' σ' H', α <+: α' → Kp H H' → Rl K g α' σ' H' ρ' S' → D.ct σ' H'
  | .er c fs ρ' S' => ∀ α' σ' H' C d, α <+: α' → Kp H H' → Rl K g α' σ' H' ρ' S' → g.exc c = some C → XF K α' H' d fs → W (.ref C) (some d) σ' H'
  | .bad => False
def tMS (K : PySem.W.Frag) (g : Sg) (W : WX) (m : MS) : TS := fun D σ H => ∃ α ρ S, Rl K g α σ H ρ S ∧ SPost K g W α H D (m ρ S)
def RE (X : Cx) (g : Sg) (W : WX) (e : Expr) (m : ME) : Prop := PE X e (tM X.K g W m)
def RT (X : Cx) (g : Sg) (W : WX) (e : Expr) (m : MT) : Prop := PT X e (tMT X.K g W m)
def RW (X : Cx) (g : Sg) (W : WX) (e : Expr) (m : MT) : Prop := PW X e (tMT X.K g W m)
def RA (X : Cx) (g : Sg) (W : WX) (es : List Expr) (m : MA) : Prop := PA X es (tMA X.K g W m)
def RS (X : Cx) (g : Sg) (W : WX) (st : Stmt) (m : MS) : Prop := PS X st (tMS X.K g W m)
def RSs (X : Cx) (g : Sg) (W : WX) (st : List Stmt) (m : MS) : Prop := PSs X st (tMS X.K g W m)
theorem pe_le {X : Cx} {e : Expr} {t t' : TE} (h : PE X e t) (i : ∀ σ H Q, t' σ H Q → t σ H Q) : PE X e t' := ⟨fun pins s σ H Q I q => h.run pins s σ H Q I (i _ _ _ q)⟩
theorem pt_le {X : Cx} {e : Expr} {t t' : TT} (h : PT X e t) (i : ∀ σ H Q, t' σ H Q → t σ H Q) : PT X e t' := ⟨fun pins s σ H Q I q => h.run pins s σ H Q I (i _ _ _ q)⟩
theorem pw_le {X : Cx} {e : Expr} {t t' : TT} (h : PW X e t) (i : ∀ σ H Q, t' σ H Q → t σ H Q) : PW X e t' := ⟨fun w pins s σ H Q I q => h.run w pins s σ H Q I (i _ _ _ q)⟩
theorem pa_le {X : Cx} {es : List Expr} {t t' : TA} (h : PA X es t) (i : ∀ σ H Q, t' σ H Q → t σ H Q) : PA X es t' := ⟨fun p pins s σ H Q I q => h.run p pins s σ H Q I (i _ _ _ q)⟩
theorem ps_le {X : Cx} {st : Stmt} {t t' : TS} (h : PS X st t) (i : ∀ D σ H, t' D σ H → t D σ H) : PS X st t' := ⟨fun pins s σ H D I q => h.run pins s σ H D I (i _ _ _ q)⟩
theorem pss_le {X : Cx} {st : List Stmt} {t t' : TS} (h : PSs X st t) (i : ∀ D σ H, t' D σ H → t D σ H) : PSs X st t' := ⟨fun pins s σ H D I q => h.run pins s σ H D I (i _ _ _ q)⟩
section
variable {K : PySem.W.Frag} {g : Sg} {W : WX} {α : List Addr} {σ : St} {H : Hp} {ρ : PSt} {S : Sto}
theorem tM.mk {m : ME} {Q : VK} (r : Rl K g α σ H ρ S) (h : Post K g W α σ H ρ (fun α' H' x _ => ∀ v, Den K α' H' x v → Q v H') (m ρ S)) : tM K g W m σ H Q := ⟨α, ρ, S, r, h⟩
/-- the state's objects alone -/
theorem Rl.keep (r : Rl K g α σ H ρ S) {α' : List Addr} {H' : Hp} {S' : Sto} (pre : α <+: α') (kp : Kp H H') (o : RlC K g α' H' S') : Rl K g α' σ H' ρ S' :=
  ⟨o, r.len, fun i x e => by
    obtain ⟨v, h1, h2⟩ := r.loc i x e
    exact ⟨v, h1, h2.mono pre kp⟩, fun z e1 e2 => by
    obtain ⟨h1, C, d, h2, h3, h4, h5⟩ := r.sut z e1 e2
    exact ⟨h1, C, d, h2, h3, h4, h5.mono pre kp⟩⟩
end

/-! ### names and constants -/
def mC (x : PV) : ME := fun _ S => .ok x S
def mVar (i : Nat) : ME := fun ρ S => match ρ[i]? with
  | some (some x) => .ok x S
  | _ => .bad
section
variable {X : Cx} {g : Sg} {W : WX} {a b c e : Expr} {ma mb mc : ME} {pos p : Pos}
theorem re_var {i : Nat} {x : Str} (h : PE X (.Name x p) (tVar i)) : RE X g W (.Name x p) (mVar i) := by
  refine pe_le h fun σ H Q ⟨α, ρ, S, r, q⟩ => ?_
  cases e : ρ[i]? with
  | none => simp only [mVar, e] at q; exact q.elim
  | some o => cases o with
    | none => simp only [mVar, e] at q; exact q.elim
    | some x =>
      simp only [mVar, e] at q
      obtain ⟨v, h1, h2⟩ := r.loc i x e
      exact ⟨v, h1, q.here r v h2⟩
theorem re_c {x : PV} {v : V} (h : PE X e (tC v)) (d : ∀ α H, Den X.K α H x v) : RE X g W e (mC x) := by
  refine pe_le h fun σ H Q ⟨α, ρ, S, r, q⟩ => ?_
  exact (Post.here q r) v (d α H)
theorem re_int {i j} : RE X g W (.Constant (.int i) j p) (mC (.int i)) := re_c pe_int fun _ _ => .int i
theorem re_bl {b j} : RE X g W (.Constant (.bool b) j p) (mC (.bl b)) := re_c pe_bl fun _ _ => .bl b
theorem re_non {j} : RE X g W (.Constant .none j p) (mC .non) := re_c pe_non fun _ _ => .non
theorem re_str {x j} : RE X g W (.Constant (.str x) j p) (mC (.str x)) := re_c pe_str fun _ _ => .str x

/-! ### two operands -/
/-- an operation on values, told by f -/
def OpM (X : Cx) (g : Sg) (W : WX) (r : R2) (f : PV → PV → Sto → Rs PV) : Prop :=
  ∀ α σ H ρ S x y v u Q, Rl X.K g α σ H ρ S → Den X.K α H x v → Den X.K α H y u → Post X.K g W α σ H ρ (fun α' H' z _ => ∀ w, Den X.K α' H' z w → Q w H') (f x y S) → r v u H Q
def m2 (f : PV → PV → Sto → Rs PV) (ma mb : ME) : ME := fun ρ S => (ma ρ S).bind fun x S1 => (mb ρ S1).bind fun y S2 => f x y S2
theorem m2_le {ta tb : TE} {r : R2} {f : PV → PV → Sto → Rs PV} (ha : ∀ σ H Q, tM X.K g W ma σ H Q → ta σ H Q) (hb : ∀ σ H Q, tM X.K g W mb σ H Q → tb σ H Q) (ho : OpM X g W r f) :
    ∀ σ H Q, tM X.K g W (m2 f ma mb) σ H Q → tOp r ta tb σ H Q := by
  intro σ H Q ⟨α, ρ, S, rl, q⟩
  refine ha _ _ _ ⟨α, ρ, S, rl, q.of_bind.imp fun α1 H1 x S1 p1 k1 r1 q1 v dv => ?_⟩
  refine hb _ _ _ ⟨α1, ρ, S1, r1, (q1 r1).of_bind.imp fun α2 H2 y S2 p2 k2 r2 q2 u du => ?_⟩
  exact ho _ _ _ _ _ _ _ _ _ _ r2 (dv.mono p2 k2) du (q2 r2)
theorem re_op {op : Operator} {r : R2} {f : PV → PV → Sto → Rs PV} (o : OpR X (binaryOp op) r) (h : OpM X g W r f) (ha : RE X g W a ma) (hb : RE X g W b mb) : RE X g W (.BinOp a op b pos) (m2 f ma mb) :=
  pe_le (pe_op o ha hb) (m2_le (fun _ _ _ h => h) (fun _ _ _ h => h) h)
theorem OpR.or {f : Value → Value → Sem Value} {r r' : R2} (h : OpR X f r) (h' : OpR X f r') : OpR X f (fun x y H Q => r x y H Q ∨ r' x y H Q) := by
  intro pins s σ H x y v u Q I rx ry q
  rcases q with q | q
  · exact h pins s σ H x y v u Q I rx ry q
  · exact h' pins s σ H x y v u Q I rx ry q
end
end Pm
namespace Pm
open PySem L2
section
variable {K : PySem.W.Frag} {g : Sg} {W : WX} {α α' : List Addr} {σ : St} {H H' : Hp} {ρ : PSt} {S : Sto}
theorem Mob.mono {a : Addr} (pre : α <+: α') (kp : Kp H H') (st : ∀ u, H a = some u → H' a = some u) : ∀ {o : MO}, Mob K g α H a o → Mob K g α' H' a o
  | .lst _, ⟨vs, h, d⟩ => ⟨vs, st _ h, d.mono pre kp⟩
  | .dk _, ⟨ks, h, e, d⟩ => ⟨ks, st _ h, e, d.mono pre kp⟩
  | .dt _, ⟨ks, h, e, d⟩ => ⟨ks, st _ h, e, d.mono pre kp⟩
  | .ins _ _, ⟨C, dx, vfs, c, h, e, d⟩ => ⟨C, dx, vfs, c, st _ h, e, d.mono pre kp⟩
theorem Mob.some {a : Addr} : ∀ {o : MO}, Mob K g α H a o → ∃ u, H a = some u ∧ ¬ Stay u ∧ ∀ ps, u ≠ .tbl ps
  | .lst _, ⟨_, h, _⟩ => ⟨_, h, fun z => z, fun _ z => nomatch z⟩
  | .dk _, ⟨_, h, _⟩ => ⟨_, h, fun z => z, fun _ z => nomatch z⟩
  | .dt _, ⟨_, h, _⟩ => ⟨_, h, fun z => z, fun _ z => nomatch z⟩
  | .ins _ _, ⟨_, _, _, _, h, _⟩ => ⟨_, h, fun z => z, fun _ z => nomatch z⟩
theorem tab_st {P : Addr} (st : ∀ u, H P = some u → H' P = some u) (h : GxR.TabG H P) : GxR.TabG H' P := by
  obtain ⟨ps, h1, h2⟩ := h
  exact ⟨ps, st _ h1, h2⟩
theorem new_st {p b : Addr} {o u : HO} (hp : H p = none) (e : H b = some u) : upd H p o b = some u := by
  rw [upd_ne (ne_of_none e hp)]
  exact e
/-- what is there stays as it is -/
theorem RlC.same (r : RlC K g α H S) (st : ∀ b u, H b = some u → H' b = some u) : RlC K g α H' S :=
  ⟨r.len, r.nd, fun n a o h1 h2 => (r.cel n a o h1 h2).mono (List.prefix_refl _) (fun b u e _ => st b u e) (fun u e => st a u e), fun P h => tab_st (fun u e => st P u e) (r.tab P h)⟩
theorem RlC.obj (r : RlC K g α H S) {n : Nat} {o : MO} (h : S[n]? = some o) : ∃ a, α[n]? = some a ∧ Mob K g α H a o := by
  have hn : n < α.length := by rw [r.len]; exact (List.getElem?_eq_some_iff.mp h).1
  exact ⟨_, List.getElem?_eq_getElem hn, r.cel n _ o (List.getElem?_eq_getElem hn) h⟩
theorem RlC.at (r : RlC K g α H S) {n : Nat} {a : Addr} (h : α[n]? = some a) {o : MO} (h2 : S[n]? = some o) : Mob K g α H a o := r.cel n a o h h2
/-- a new object -/
theorem RlC.new {p : Addr} {u : HO} {o : MO} (r : RlC K g α H S) (hp : H p = none) (m : Mob K g (α ++ [p]) (upd H p u) p o) : RlC K g (α ++ [p]) (upd H p u) (S ++ [o]) := by
  have np : p ∉ α := fun h => by
    obtain ⟨n, hn, e⟩ := List.getElem_of_mem h
    have hS : n < S.length := by rw [← r.len]; exact hn
    obtain ⟨v, hv, _⟩ := (r.cel n p _ (by rw [List.getElem?_eq_getElem hn, e]) (List.getElem?_eq_getElem hS)).some
    rw [hp] at hv
    cases hv
  refine ⟨by simp [r.len], List.nodup_append.mpr ⟨r.nd, by simp, fun a h b hb => ?_⟩, fun n a o' h1 h2 => ?_, fun P h => tab_st (fun v e => new_st hp e) (r.tab P h)⟩
  · rw [List.mem_singleton] at hb
    rintro rfl
    subst hb
    exact np h
  · by_cases hn : n < α.length
    · rw [List.getElem?_append_left hn] at h1
      rw [List.getElem?_append_left (by rw [← r.len]; exact hn)] at h2
      exact (r.cel n a o' h1 h2).mono (List.prefix_append _ _) (Kp.new hp) fun v e => new_st hp e
    · have e : n = α.length := by
        have := (List.getElem?_eq_some_iff.mp h1).1
        simp at this
        omega
      subst e
      rw [List.getElem?_append_right (Nat.le_refl _)] at h1
      rw [r.len, List.getElem?_append_right (Nat.le_refl _)] at h2
      simp at h1 h2
      subst h1 h2
      exact m
/-- an object is written -/
theorem RlC.set {n : Nat} {a : Addr} {u : HO} {o o' : MO} (r : RlC K g α H S) (h1 : α[n]? = some a) (h2 : S[n]? = some o) (m : Mob K g α (upd H a u) a o') : RlC K g α (upd H a u) (S.set n o') := by
  obtain ⟨v, hv, ns, nt⟩ := (r.cel n a o h1 h2).some
  refine ⟨by simp [r.len], r.nd, fun k b q e1 e2 => ?_, fun P h => ?_⟩
  · by_cases hk : n = k
    · subst hk
      rw [h1] at e1
      cases e1
      rw [List.getElem?_set_self (List.getElem?_eq_some_iff.mp h2).1] at e2
      cases e2
      exact m
    · rw [List.getElem?_set_ne hk] at e2
      have nb : b ≠ a := by
        rintro rfl
        obtain ⟨l1, e1⟩ := List.getElem?_eq_some_iff.mp e1
        obtain ⟨l2, e2⟩ := List.getElem?_eq_some_iff.mp h1
        exact hk ((List.getElem_inj r.nd).mp (e2.trans e1.symm))
      exact (r.cel k b q e1 e2).mono (List.prefix_refl _) (Kp.set hv ns) fun w e => by rw [upd_ne nb]; exact e
  · obtain ⟨ps, p1, p2⟩ := r.tab P h
    refine ⟨ps, ?_, p2⟩
    rw [upd_ne (fun e => by subst e; rw [hv] at p1; exact nt _ (Option.some.inj p1))]
    exact p1
theorem RlC.kset {n : Nat} {a : Addr} {u : HO} {o : MO} (r : RlC K g α H S) (h1 : α[n]? = some a) (h2 : S[n]? = some o) : Kp H (upd H a u) := by
  obtain ⟨v, hv, ns, nt⟩ := (r.cel n a o h1 h2).some
  exact Kp.set hv ns
/-- the reading's end: a value that is here -/
theorem fin {P : List Addr → Hp → PV → Sto → Prop} {x : PV} (r : Rl K g α σ H ρ S) (q : Post K g W α σ H ρ P (.ok x S)) : P α H x S := q.here r
/-- .. with a new tuple -/
theorem fin_tup {Q : VK} {xs : List PV} {vs : List V} {p : Addr} (r : Rl K g α σ H ρ S) (hp : H p = none) (d : Dens K α H xs vs)
    (q : Post K g W α σ H ρ (fun α' H' x _ => ∀ v, Den K α' H' x v → Q v H') (.ok (.tup xs) S)) : Q (.ref p) (upd H p (.tup vs)) := by
  have kp : Kp H (upd H p (.tup vs)) := Kp.new hp
  exact q α _ (List.prefix_refl _) kp (r.keep (List.prefix_refl _) kp (r.obj.same fun b u e => new_st hp e)) _ (.tup (SqT.of upd_same) (d.mono (List.prefix_refl _) kp))
/-- .. with a new list -/
theorem fin_lst {Q : VK} {xs : List PV} {vs : List V} {p : Addr} (r : Rl K g α σ H ρ S) (hp : H p = none) (d : Dens K α H xs vs)
    (q : Post K g W α σ H ρ (fun α' H' x _ => ∀ v, Den K α' H' x v → Q v H') (.ok (.cell S.length) (S ++ [.lst xs]))) : Q (.ref p) (upd H p (.lst vs)) := by
  have kp : Kp H (upd H p (.lst vs)) := Kp.new hp
  have pre : α <+: α ++ [p] := List.prefix_append _ _
  refine q (α ++ [p]) _ pre kp (r.keep pre kp (r.obj.new hp ⟨vs, upd_same, d.mono pre kp⟩)) _ (.cell ?_)
  rw [← r.obj.len]
  simp
/-- .. with an object changed -/
theorem fin_set {Q : VK} {n : Nat} {a : Addr} {x : PV} {v : V} {u : HO} {o o' : MO} (r : Rl K g α σ H ρ S) (h1 : α[n]? = some a) (h2 : S[n]? = some o) (m : Mob K g α (upd H a u) a o') (d : Den K α (upd H a u) x v)
    (q : Post K g W α σ H ρ (fun α' H' x _ => ∀ v, Den K α' H' x v → Q v H') (.ok x (S.set n o'))) : Q v (upd H a u) := by
  have kp : Kp H (upd H a u) := r.obj.kset h1 h2
  exact q α _ (List.prefix_refl _) kp (r.keep (List.prefix_refl _) kp (r.obj.set h1 h2 m)) _ d
end

/-! ### operations on values -/
def addM : PV → PV → Sto → Rs PV
  | .int i, .int j, S => .ok (.int (i + j)) S
  | .str a, .str b, S => if a.length + b.length ≤ sizeLine then .ok (.str (a ++ b)) S else .bad
  | .tup xs, .tup ys, S => if xs.length + ys.length ≤ sizeLine then .ok (.tup (xs ++ ys)) S else .bad
  | .cell a, .cell b, S => match S[a]?, S[b]? with
    | some (.lst xs), some (.lst ys) => if xs.length + ys.length ≤ sizeLine then .ok (.cell S.length) (S ++ [.lst (xs ++ ys)]) else .bad
    | _, _ => .bad
  | _, _, _ => .bad
def subM : PV → PV → Sto → Rs PV
  | .int i, .int j, S => .ok (.int (i - j)) S
  | _, _, _ => .bad
/-- a product that is not too long -/
def mulOk (i j : Int) : Bool := decide (i.natAbs < 2 ^ 63) || (decide (j.natAbs < 2 ^ 63) || decide (i.natAbs.log2 + j.natAbs.log2 < 1000000))
def mulM : PV → PV → Sto → Rs PV
  | .int i, .int j, S => if mulOk i j = true then .ok (.int (i * j)) S else .bad
  | .cell a, .int k, S => match S[a]? with
    | some (.lst xs) => if -(2 ^ 63) ≤ k ∧ k < 2 ^ 63 ∧ xs.length * k.toNat ≤ sizeLine then .ok (.cell S.length) (S ++ [.lst (List.replicate k.toNat xs).flatten]) else .bad
    | _ => .bad
  | _, _, _ => .bad
def fdivM : PV → PV → Sto → Rs PV
  | .int i, .int j, S => if 0 < j then (if j.natAbs.log2 < 9000 then .ok (.int (i / j)) S else .bad) else if j ≠ 0 ∧ j.natAbs.log2 < 9000 then .ok (.int (i.fdiv j)) S else .bad
  | _, _, _ => .bad
def modM : PV → PV → Sto → Rs PV
  | .int i, .int j, S => if 0 < j then .ok (.int (i % j)) S else if j ≠ 0 then .ok (.int (i.fmod j)) S else .bad
  | _, _, _ => .bad
def powM : PV → PV → Sto → Rs PV
  | .int i, .int j, S => if 0 ≤ j ∧ j ≤ 1000000 ∧ i.natAbs < 2 ^ 64 then .ok (.int (i ^ j.toNat)) S else .bad
  | _, _, _ => .bad
def bandM : PV → PV → Sto → Rs PV
  | .int i, .int j, S => .ok (.int (Builtin.bitAnd i j)) S
  | _, _, _ => .bad
section
variable {X : Cx} {g : Sg} {W : WX}
def rAdd (K : PySem.W.Frag) : R2 := fun x y H Q => rI0 (fun i j => .int (i + j)) x y H Q ∨ rCatA K x y H Q ∨ rCat x y H Q ∨ ∃ i j, x = V.str i ∧ y = V.str j ∧ i.length + j.length ≤ sizeLine ∧ Q (V.str (i ++ j)) H
theorem opr_add : OpR X (binaryOp .Add) (rAdd X.K) := op_add.or (op_catA.or (op_cat.or op_add_str))
theorem opm_add : OpM X g W (rAdd X.K) addM := by
  intro α σ H ρ S x y v u Q r dx dy q
  cases dx <;> cases dy <;> first | exact False.elim q | skip
  case int.int i j => exact .inl ⟨i, j, rfl, rfl, q.here r _ (.int _)⟩
  case str.str a b =>
    simp only [addM] at q
    split at q
    · rename_i h
      exact .inr (.inr (.inr ⟨a, b, rfl, rfl, h, q.here r _ (.str _)⟩))
    · exact q.elim
  case tup.tup xs vs a s1 d1 ys us b s2 d2 =>
    simp only [addM] at q
    split at q
    · rename_i h
      have l1 := d1.length
      have l2 := d2.length
      refine .inr (.inl ⟨a, b, vs, us, rfl, rfl, s1, s2, by omega, fun e => ?_, fun _ e => ?_, fun _ _ p hp => fin_tup r hp (d1.append d2) q⟩)
      · subst e
        cases d1
        exact q.here r _ (.tup s2 d2)
      · subst e
        cases d2
        rw [List.append_nil] at q
        exact q.here r _ (.tup s1 d1)
    · exact q.elim
  case cell.cell n a h1 m b h2 =>
    simp only [addM] at q
    split at q
    · rename_i xs ys e1 e2
      split at q
      · rename_i h
        obtain ⟨vs, hv, d1⟩ := r.obj.at h1 e1
        obtain ⟨us, hu, d2⟩ := r.obj.at h2 e2
        have l1 := d1.length
        have l2 := d2.length
        exact .inr (.inr (.inl ⟨a, b, vs, us, rfl, rfl, hv, hu, by omega, fun p hp => fin_lst r hp (d1.append d2) q⟩))
      · exact q.elim
    · exact q.elim
theorem opm_sub : OpM X g W (rI0 fun i j => .int (i - j)) subM := by
  intro α σ H ρ S x y v u Q r dx dy q
  cases dx <;> cases dy <;> first | exact False.elim q | skip
  case int.int i j => exact ⟨i, j, rfl, rfl, q.here r _ (.int _)⟩
def rMul : R2 := fun x y H Q => (rI CMulW (fun i j => .int (i * j)) x y H Q ∨ rI CMul (fun i j => .int (i * j)) x y H Q) ∨ rRep x y H Q
theorem opr_mul : OpR X (binaryOp .Mult) rMul := (op_mulW.or op_mul).or op_rep
theorem Dens.rep {K : PySem.W.Frag} {α : List Addr} {H : Hp} {xs : List PV} {vs : List V} (d : Dens K α H xs vs) : ∀ n : Nat, Dens K α H (List.replicate n xs).flatten (List.replicate n vs).flatten
  | 0 => .nil
  | n + 1 => by
    rw [List.replicate_succ, List.replicate_succ, List.flatten_cons, List.flatten_cons]
    exact d.append (Dens.rep d n)
theorem opm_mul : OpM X g W rMul mulM := by
  intro α σ H ρ S x y v u Q r dx dy q
  cases dx <;> cases dy <;> first | exact False.elim q | skip
  case int.int i j =>
    simp only [mulM] at q
    split at q
    · rename_i h
      have q' := q.here r _ (.int (i * j))
      unfold mulOk at h
      rcases Bool.or_eq_true _ _ |>.mp h with h | h
      · have h := of_decide_eq_true h
        exact .inl (.inr ⟨i, j, rfl, rfl, .inl ⟨by omega, by omega⟩, q'⟩)
      · rcases Bool.or_eq_true _ _ |>.mp h with h | h
        · have h := of_decide_eq_true h
          exact .inl (.inr ⟨i, j, rfl, rfl, .inr ⟨by omega, by omega⟩, q'⟩)
        · have h := of_decide_eq_true h
          exact .inl (.inl ⟨i, j, rfl, rfl, h, q'⟩)
    · exact q.elim
  case cell.int n a h1 k =>
    simp only [mulM] at q
    split at q
    · rename_i xs e1
      split at q
      · rename_i h
        obtain ⟨vs, hv, d1⟩ := r.obj.at h1 e1
        have l1 := d1.length
        exact .inr ⟨a, k, vs, rfl, rfl, hv, h.1, h.2.1, by rw [← l1]; exact h.2.2, fun p hp => fin_lst r hp (d1.rep _) q⟩
      · exact q.elim
    · exact q.elim
def CDvM (i j : Int) : Prop := j ≠ 0 ∧ j.natAbs.log2 < 9000
theorem opr_fdiv : OpR X (binaryOp .FloorDiv) (rI CDvM fun i j => .int (i.fdiv j)) := opI fun i j _ _ _ _ _ hc q =>
  PyProof.Rows.floordiv_int hc.1 q (.inl (PyProof.noPylong_of_log2 hc.2))
theorem opm_fdiv : OpM X g W (rI CDvM fun i j => .int (i.fdiv j)) fdivM := by
  intro α σ H ρ S x y v u Q r dx dy q
  cases dx <;> cases dy <;> first | exact False.elim q | skip
  case int.int i j =>
    simp only [fdivM] at q
    split at q
    · rename_i h
      split at q
      · rename_i h2
        refine ⟨i, j, rfl, rfl, ⟨by omega, h2⟩, ?_⟩
        show Q (.int (i.fdiv j)) H
        rw [Int.fdiv_eq_ediv_of_nonneg i (show (0 : Int) ≤ j by omega)]
        exact q.here r _ (.int _)
      · exact q.elim
    · split at q
      · rename_i h
        exact ⟨i, j, rfl, rfl, h, q.here r _ (.int _)⟩
      · exact q.elim
theorem opm_mod : OpM X g W (rI (fun _ j => j ≠ 0) fun i j => .int (i.fmod j)) modM := by
  intro α σ H ρ S x y v u Q r dx dy q
  cases dx <;> cases dy <;> first | exact False.elim q | skip
  case int.int i j =>
    simp only [modM] at q
    split at q
    · rename_i h
      refine ⟨i, j, rfl, rfl, by omega, ?_⟩
      show Q (.int (i.fmod j)) H
      rw [Int.fmod_eq_emod_of_nonneg i (show (0 : Int) ≤ j by omega)]
      exact q.here r _ (.int _)
    · split at q
      · rename_i h
        exact ⟨i, j, rfl, rfl, h, q.here r _ (.int _)⟩
      · exact q.elim
theorem opm_pow : OpM X g W (rI CPow fun i j => .int (i ^ j.toNat)) powM := by
  intro α σ H ρ S x y v u Q r dx dy q
  cases dx <;> cases dy <;> first | exact False.elim q | skip
  case int.int i j =>
    simp only [powM] at q
    split at q
    · rename_i h
      exact ⟨i, j, rfl, rfl, h, q.here r _ (.int _)⟩
    · exact q.elim
theorem opm_band : OpM X g W (rI0 fun i j => .int (Builtin.bitAnd i j)) bandM := by
  intro α σ H ρ S x y v u Q r dx dy q
  cases dx <;> cases dy <;> first | exact False.elim q | skip
  case int.int i j => exact ⟨i, j, rfl, rfl, q.here r _ (.int _)⟩
end
end Pm
namespace Pm
open PySem L2
/-! ### comparisons -/
def ltM : PV → PV → Sto → Rs PV
  | .int i, .int j, S => .ok (.bl (decide (i < j))) S
  | _, _, _ => .bad
def leM : PV → PV → Sto → Rs PV
  | .int i, .int j, S => .ok (.bl (decide (i ≤ j))) S
  | _, _, _ => .bad
def gtM : PV → PV → Sto → Rs PV
  | .int i, .int j, S => .ok (.bl (decide (j < i))) S
  | _, _, _ => .bad
def geM : PV → PV → Sto → Rs PV
  | .int i, .int j, S => .ok (.bl (decide (j ≤ i))) S
  | _, _, _ => .bad
mutual
/-- a value as data -/
def pd (S : Sto) : Nat → PV → Option PyData
  | 0, _ => none
  | _ + 1, .non => some .none
  | _ + 1, .bl b => some (.bool b)
  | _ + 1, .int i => some (.int i)
  | _ + 1, .str x => some (.str x)
  | n + 1, .tup xs => (pds S n xs).map .tuple
  | n + 1, .rol xs => (pds S n xs).map .list
  | n + 1, .cell c => match S[c]? with
    | some (.lst xs) => (pds S n xs).map .list
    | _ => none
def pds (S : Sto) : Nat → List PV → Option (List PyData)
  | 0, [] => some []
  | 0, _ :: _ => none
  | _ + 1, [] => some []
  | n + 1, x :: xs => match pd S n x, pds S n xs with
    | some d, some ds => some (d :: ds)
    | _, _ => none
end
def eqvM (neg : Bool) (x y : PV) (S : Sto) : Rs PV :=
  match pd S 200 x, pd S 200 y with
  | some d, some e => if SeqAt.shaped d = true ∧ SeqAt.shaped e = true then .ok (.bl (if neg then !PyData.eqv d e else PyData.eqv d e)) S else .bad
  | _, _ => .bad
def eqM : PV → PV → Sto → Rs PV
  | .int i, .int j, S => .ok (.bl (decide (i = j))) S
  | .str a, .str b, S => .ok (.bl (decide (a = b))) S
  | .bl a, .bl b, S => .ok (.bl (decide (a = b))) S
  | .non, .non, S => .ok (.bl true) S
  | .non, .int _, S => .ok (.bl false) S
  | .int _, .non, S => .ok (.bl false) S
  | .non, .str _, S => .ok (.bl false) S
  | .str _, .non, S => .ok (.bl false) S
  | x, y, S => eqvM false x y S
def neM : PV → PV → Sto → Rs PV
  | .int i, .int j, S => .ok (.bl (!decide (i = j))) S
  | .str a, .str b, S => .ok (.bl (!decide (a = b))) S
  | .bl a, .bl b, S => .ok (.bl (!decide (a = b))) S
  | .non, .non, S => .ok (.bl false) S
  | .non, .int _, S => .ok (.bl true) S
  | .int _, .non, S => .ok (.bl true) S
  | .non, .str _, S => .ok (.bl true) S
  | .str _, .non, S => .ok (.bl true) S
  | x, y, S => eqvM true x y S
/-- x is None -/
def isNM : PV → Bool
  | .non => true
  | _ => false
section
variable {K : PySem.W.Frag} {g : Sg} {α : List Addr} {H : Hp} {S : Sto}
mutual
theorem dp_of (r : RlC K g α H S) : ∀ {n : Nat} {x : PV} {v : V} {d : PyData}, Den K α H x v → pd S n x = some d → Dp K H v d
  | 0, _, _, _, _, e => by simp [pd] at e
  | n + 1, _, _, _, .non, e => by simp [pd] at e; subst e; exact .non
  | n + 1, _, _, _, .bl b, e => by simp [pd] at e; subst e; exact .bl b
  | n + 1, _, _, _, .int b, e => by simp [pd] at e; subst e; exact .int b
  | n + 1, _, _, _, .str b, e => by simp [pd] at e; subst e; exact .str b
  | n + 1, _, _, _, .tup h d, e => by
    simp only [pd, Option.map_eq_some_iff] at e
    obtain ⟨ds, e1, rfl⟩ := e
    exact .tup h (dps_of r d e1)
  | n + 1, _, _, _, .rol h d, e => by
    simp only [pd, Option.map_eq_some_iff] at e
    obtain ⟨ds, e1, rfl⟩ := e
    exact .lst h.sq (dps_of r d e1)
  | n + 1, _, _, _, .cell h, e => by
    simp only [pd] at e
    split at e
    · rename_i xs e0
      simp only [Option.map_eq_some_iff] at e
      obtain ⟨ds, e1, rfl⟩ := e
      obtain ⟨vs, hv, d⟩ := r.at h e0
      exact .lst (SqL.of hv) (dps_of r d e1)
    · cases e
theorem dps_of (r : RlC K g α H S) : ∀ {n : Nat} {xs : List PV} {vs : List V} {ds : List PyData}, Dens K α H xs vs → pds S n xs = some ds → DpAll K H vs ds
  | 0, _, _, _, .nil, e => by simp [pds] at e; subst e; exact .nil
  | 0, _, _, _, .cons _ _, e => by simp [pds] at e
  | n + 1, _, _, _, .nil, e => by simp [pds] at e; subst e; exact .nil
  | n + 1, _, _, _, .cons a b, e => by
    simp only [pds] at e
    split at e
    · rename_i d ds e1 e2
      cases e
      exact .cons (dp_of r a e1) (dps_of r b e2)
    · cases e
end
end
section
variable {X : Cx} {g : Sg} {W : WX} {a b c e : Expr} {ma mb mc : ME} {pos p : Pos}
theorem opm_lt : OpM X g W (rI0 fun i j => .bl (decide (i < j))) ltM := by
  intro α σ H ρ S x y v u Q r dx dy q
  cases dx <;> cases dy <;> first | exact False.elim q | skip
  case int.int i j => exact ⟨i, j, rfl, rfl, q.here r _ (.bl _)⟩
theorem opm_le : OpM X g W (rI0 fun i j => .bl (decide (i ≤ j))) leM := by
  intro α σ H ρ S x y v u Q r dx dy q
  cases dx <;> cases dy <;> first | exact False.elim q | skip
  case int.int i j => exact ⟨i, j, rfl, rfl, q.here r _ (.bl _)⟩
theorem opm_gt : OpM X g W (rI0 fun i j => .bl (decide (j < i))) gtM := by
  intro α σ H ρ S x y v u Q r dx dy q
  cases dx <;> cases dy <;> first | exact False.elim q | skip
  case int.int i j => exact ⟨i, j, rfl, rfl, q.here r _ (.bl _)⟩
theorem opm_ge : OpM X g W (rI0 fun i j => .bl (decide (j ≤ i))) geM := by
  intro α σ H ρ S x y v u Q r dx dy q
  cases dx <;> cases dy <;> first | exact False.elim q | skip
  case int.int i j => exact ⟨i, j, rfl, rfl, q.here r _ (.bl _)⟩
def rEqX (K : PySem.W.Frag) : R2 := fun x y H Q => rEq x y H Q ∨ rEqD K x y H Q
def rNeX (K : PySem.W.Frag) : R2 := fun x y H Q => rNe x y H Q ∨ rNeD K x y H Q
theorem opr_eq (hu : X.A.units + 64 < cLine) : OpR X (compareOp .Eq) (rEqX X.K) := op_eq.or (op_eqD hu)
theorem opr_ne (hu : X.A.units + 64 < cLine) : OpR X (compareOp .NotEq) (rNeX X.K) := op_ne.or (op_neD hu)
theorem opm_eqv {α σ H ρ S x y v u Q} (r : Rl X.K g α σ H ρ S) (dx : Den X.K α H x v) (dy : Den X.K α H y u)
    (q : Post X.K g W α σ H ρ (fun α' H' z _ => ∀ w, Den X.K α' H' z w → Q w H') (eqvM false x y S)) : rEqX X.K v u H Q := by
  unfold eqvM at q
  split at q
  · rename_i d e h1 h2
    split at q
    · rename_i h
      exact .inr ⟨d, e, dp_of r.obj dx h1, dp_of r.obj dy h2, h.1, h.2, q.here r _ (.bl _)⟩
    · exact q.elim
  · exact q.elim
theorem opm_nev {α σ H ρ S x y v u Q} (r : Rl X.K g α σ H ρ S) (dx : Den X.K α H x v) (dy : Den X.K α H y u)
    (q : Post X.K g W α σ H ρ (fun α' H' z _ => ∀ w, Den X.K α' H' z w → Q w H') (eqvM true x y S)) : rNeX X.K v u H Q := by
  unfold eqvM at q
  split at q
  · rename_i d e h1 h2
    split at q
    · rename_i h
      exact .inr ⟨d, e, dp_of r.obj dx h1, dp_of r.obj dy h2, h.1, h.2, q.here r _ (.bl _)⟩
    · exact q.elim
  · exact q.elim
theorem opm_eq : OpM X g W (rEqX X.K) eqM := by
  intro α σ H ρ S x y v u Q r dx dy q
  cases dx <;> cases dy <;> first
    | exact opm_eqv r (by first | exact .non | exact .bl _ | exact .int _ | exact .str _ | exact .tup ‹_› ‹_› | exact .rol ‹_› ‹_› | exact .cell ‹_›) (by first | exact .non | exact .bl _ | exact .int _ | exact .str _ | exact .tup ‹_› ‹_› | exact .rol ‹_› ‹_› | exact .cell ‹_›) q
    | skip
  all_goals first
    | exact .inl ⟨rfl, q.here r _ (.bl _)⟩
    | exact .inl ⟨rfl, q.here r _ (by rw [show ∀ i j : Str, decide (V.str i = V.str j) = decide (i = j) from fun _ _ => by simp]; exact .bl _)⟩
    | exact .inl ⟨rfl, q.here r _ (by rw [show ∀ i j : Int, decide (V.int i = V.int j) = decide (i = j) from fun _ _ => by simp]; exact .bl _)⟩
    | exact .inl ⟨rfl, q.here r _ (by rw [show ∀ i j : Bool, decide (V.bl i = V.bl j) = decide (i = j) from fun _ _ => by simp]; exact .bl _)⟩
theorem opm_ne : OpM X g W (rNeX X.K) neM := by
  intro α σ H ρ S x y v u Q r dx dy q
  cases dx <;> cases dy <;> first
    | exact opm_nev r (by first | exact .non | exact .bl _ | exact .int _ | exact .str _ | exact .tup ‹_› ‹_› | exact .rol ‹_› ‹_› | exact .cell ‹_›) (by first | exact .non | exact .bl _ | exact .int _ | exact .str _ | exact .tup ‹_› ‹_› | exact .rol ‹_› ‹_› | exact .cell ‹_›) q
    | skip
  all_goals first
    | exact .inl ⟨rfl, q.here r _ (.bl _)⟩
    | exact .inl ⟨rfl, q.here r _ (by rw [show ∀ i j : Str, decide (V.str i = V.str j) = decide (i = j) from fun _ _ => by simp]; exact .bl _)⟩
    | exact .inl ⟨rfl, q.here r _ (by rw [show ∀ i j : Int, decide (V.int i = V.int j) = decide (i = j) from fun _ _ => by simp]; exact .bl _)⟩
    | exact .inl ⟨rfl, q.here r _ (by rw [show ∀ i j : Bool, decide (V.bl i = V.bl j) = decide (i = j) from fun _ _ => by simp]; exact .bl _)⟩
/-- a comparison as a value -/
theorem re_cmp {op : CmpOp} {r : R2} {f : PV → PV → Sto → Rs PV} (o : OpR X (compareOp op) r) (h : OpM X g W r f) (hm : behindInMarks op b = false) (ha : RE X g W a ma) (hb : RE X g W b mb) : RE X g W (.Compare a [op] [b] pos) (m2 f ma mb) :=
  pe_le (pe_cmpR o ha hb hm) (m2_le (fun _ _ _ h => h) (fun _ _ _ h => h) h)
/-- a value's bool as a test's answer -/
def mTst (m : ME) : MT := fun ρ S => (m ρ S).bind fun x S1 => match x with
  | .bl b => .ok b S1
  | _ => .bad
theorem tst_le {t : TE} (h : ∀ σ H Q, tM X.K g W ma σ H Q → t σ H Q) : ∀ σ H Q, tMT X.K g W (mTst ma) σ H Q → tTest t σ H Q := by
  intro σ H Q ⟨α, ρ, S, r, q⟩
  refine h _ _ _ ⟨α, ρ, S, r, q.of_bind.imp fun α1 H1 x S1 p1 k1 r1 q1 v dv => ?_⟩
  cases dv <;> first | exact (q1 r1).elim | skip
  case bl b => exact ⟨b, rfl, (q1 r1).here r1⟩
theorem rt_cmp {op : CmpOp} {r : R2} {f : PV → PV → Sto → Rs PV} (o : OpR X (compareOp op) r) (h : OpM X g W r f) (hm : behindInMarks op b = false) (ha : RE X g W a ma) (hb : RE X g W b mb) : RT X g W (.Compare a [op] [b] pos) (mTst (m2 f ma mb)) :=
  pt_le (pt_cmpR o ha hb hm) (tst_le (m2_le (fun _ _ _ h => h) (fun _ _ _ h => h) h))
/-- a < b < c -/
def mCh (f f' : PV → PV → Sto → Rs PV) (ma mb mc : ME) : ME := fun ρ S => (ma ρ S).bind fun x S1 => (mb ρ S1).bind fun y S2 => (f x y S2).bind fun z S3 => match z with
  | .bl true => (mc ρ S3).bind fun w S4 => f' y w S4
  | .bl false => .ok (.bl false) S3
  | _ => .bad
theorem ch_le {r r' : R2} {f f' : PV → PV → Sto → Rs PV} {ta tb tc : TE} (h : OpM X g W r f) (h' : OpM X g W r' f') (ha : ∀ σ H Q, tM X.K g W ma σ H Q → ta σ H Q) (hb : ∀ σ H Q, tM X.K g W mb σ H Q → tb σ H Q) (hc : ∀ σ H Q, tM X.K g W mc σ H Q → tc σ H Q) :
    ∀ σ H Q, tM X.K g W (mCh f f' ma mb mc) σ H Q → tChain r r' ta tb tc σ H Q := by
  intro σ H Q ⟨α, ρ, S, rl, q⟩
  refine ha _ _ _ ⟨α, ρ, S, rl, q.of_bind.imp fun α1 H1 x S1 p1 k1 r1 q1 v dv => ?_⟩
  refine hb _ _ _ ⟨α1, ρ, S1, r1, (q1 r1).of_bind.imp fun α2 H2 y S2 p2 k2 r2 q2 u du => ?_⟩
  refine h _ _ _ _ _ _ _ _ _ _ r2 (dv.mono p2 k2) du ((q2 r2).of_bind.imp fun α3 H3 z S3 p3 k3 r3 q3 w dw => ?_)
  cases dw <;> first | exact (q3 r3).elim | skip
  case bl b =>
    refine ⟨b, rfl, ?_⟩
    cases b with
    | false =>
      rw [if_neg Bool.false_ne_true]
      exact (q3 r3).here r3 _ (.bl _)
    | true =>
      rw [if_pos rfl]
      refine hc _ _ _ ⟨α3, ρ, S3, r3, (q3 r3).of_bind.imp fun α4 H4 w S4 p4 k4 r4 q4 s ds => ?_⟩
      exact h' _ _ _ _ _ _ _ _ _ _ r4 ((du.mono p3 k3).mono p4 k4) ds (q4 r4)
theorem re_ch {op op' : CmpOp} {r r' : R2} {f f' : PV → PV → Sto → Rs PV} (o : OpR X (compareOp op) r) (o' : OpR X (compareOp op') r') (h : OpM X g W r f) (h' : OpM X g W r' f') (ha : RE X g W a ma) (hb : RE X g W b mb) (hc : RE X g W c mc)
    (hm : lastMarks [op, op'] [b, c] = false) : RE X g W (.Compare a [op, op'] [b, c] pos) (mCh f f' ma mb mc) :=
  pe_le (pe_chain o o' ha hb hc hm) (ch_le h h' (fun _ _ _ h => h) (fun _ _ _ h => h) (fun _ _ _ h => h))
theorem rt_ch {op op' : CmpOp} {r r' : R2} {f f' : PV → PV → Sto → Rs PV} (o : OpR X (compareOp op) r) (o' : OpR X (compareOp op') r') (h : OpM X g W r f) (h' : OpM X g W r' f') (ha : RE X g W a ma) (hb : RE X g W b mb) (hc : RE X g W c mc)
    (hm : lastMarks [op, op'] [b, c] = false) : RT X g W (.Compare a [op, op'] [b, c] pos) (mTst (mCh f f' ma mb mc)) :=
  pt_le (pt_chain o o' ha hb hc hm) (tst_le (ch_le h h' (fun _ _ _ h => h) (fun _ _ _ h => h) (fun _ _ _ h => h)))

/-! ### is None; is True, is False -/
def mIsN (neg : Bool) (ma : ME) : ME := fun ρ S => (ma ρ S).bind fun x S1 => .ok (.bl (if neg then !isNM x else isNM x)) S1
theorem isN_eq {K : PySem.W.Frag} {α : List Addr} {H : Hp} {x : PV} {v : V} (d : Den K α H x v) : decide (v = .non) = isNM x := by
  cases d <;> rfl
theorem re_isN {j} (ha : RE X g W a ma) : RE X g W (.Compare a [.Is] [.Constant .none j p] pos) (mIsN false ma) := by
  refine pe_le (pe_cmp (pc_isN ha)) fun σ H Q ⟨α, ρ, S, r, q⟩ => ?_
  refine ⟨α, ρ, S, r, q.of_bind.imp fun α1 H1 x S1 p1 k1 r1 q1 v dv => ?_⟩
  show Q (.bl (decide (v = .non))) H1
  rw [isN_eq dv]
  exact (q1 r1).here r1 _ (.bl _)
theorem re_notN {j} (ha : RE X g W a ma) : RE X g W (.Compare a [.IsNot] [.Constant .none j p] pos) (mIsN true ma) := by
  refine pe_le (pe_cmp (pc_notN ha)) fun σ H Q ⟨α, ρ, S, r, q⟩ => ?_
  refine ⟨α, ρ, S, r, q.of_bind.imp fun α1 H1 x S1 p1 k1 r1 q1 v dv => ?_⟩
  show Q (.bl (!decide (v = .non))) H1
  rw [isN_eq dv]
  exact (q1 r1).here r1 _ (.bl _)
theorem tb_le {t : TE} (h : ∀ σ H Q, tM X.K g W ma σ H Q → t σ H Q) : ∀ σ H Q, tMT X.K g W (mTst ma) σ H Q → tB t σ H Q := tst_le h
theorem rt_isN {j} (ha : RE X g W a ma) : RT X g W (.Compare a [.Is] [.Constant .none j p] pos) (mTst (mIsN false ma)) := by
  refine pt_le (pt_cmp (pc_isN ha)) (tst_le (ma := mIsN false ma) fun σ H Q ⟨α, ρ, S, r, q⟩ => ?_)
  refine ⟨α, ρ, S, r, q.of_bind.imp fun α1 H1 x S1 p1 k1 r1 q1 v dv => ?_⟩
  show Q (.bl (decide (v = .non))) H1
  rw [isN_eq dv]
  exact (q1 r1).here r1 _ (.bl _)
theorem rt_notN {j} (ha : RE X g W a ma) : RT X g W (.Compare a [.IsNot] [.Constant .none j p] pos) (mTst (mIsN true ma)) := by
  refine pt_le (pt_cmp (pc_notN ha)) (tst_le (ma := mIsN true ma) fun σ H Q ⟨α, ρ, S, r, q⟩ => ?_)
  refine ⟨α, ρ, S, r, q.of_bind.imp fun α1 H1 x S1 p1 k1 r1 q1 v dv => ?_⟩
  show Q (.bl (!decide (v = .non))) H1
  rw [isN_eq dv]
  exact (q1 r1).here r1 _ (.bl _)

/-! ### truth -/
def truthM : PV → Sto → Option Bool
  | .non, _ => some false
  | .bl b, _ => some b
  | .int i, _ => some (i != 0)
  | .str x, _ => if x.length ≤ sizeLine then some ((x.length : Int) != 0) else none
  | .tup xs, _ => some (!xs.isEmpty)
  | .rol xs, _ => some (!xs.isEmpty)
  | .cell n, S => match S[n]? with
    | some (.lst xs) => some (!xs.isEmpty)
    | some (.dk kvs) => some (!kvs.isEmpty)
    | _ => none
def mTru (m : ME) : MT := fun ρ S => (m ρ S).bind fun x S1 => match truthM x S1 with
  | some b => .ok b S1
  | none => .bad
theorem Dens.isEmpty {K : PySem.W.Frag} {α : List Addr} {H : Hp} {xs : List PV} {vs : List V} (d : Dens K α H xs vs) : xs.isEmpty = vs.isEmpty := by
  cases d <;> rfl
theorem tru_of {K : PySem.W.Frag} {α : List Addr} {H : Hp} {S : Sto} (r : RlC K g α H S) {x : PV} {v : V} {b : Bool} (d : Den K α H x v) (e : truthM x S = some b) : TruV K v H b := by
  cases d with
  | non => simp [truthM] at e; exact e
  | bl c => simp [truthM] at e; exact e.symm
  | int c => simp [truthM] at e; exact e.symm
  | str c =>
    simp only [truthM] at e
    split at e
    · cases e; exact ⟨‹_›, rfl⟩
    · cases e
  | tup h d => simp only [truthM, Option.some.injEq] at e; exact .inr (.inl ⟨_, h, by rw [← d.isEmpty]; exact e.symm⟩)
  | rol h d => simp only [truthM, Option.some.injEq] at e; exact .inl ⟨_, h.sq, by rw [← d.isEmpty]; exact e.symm⟩
  | cell h =>
    simp only [truthM] at e
    split at e
    · rename_i xs e0
      obtain ⟨vs, hv, d⟩ := r.at h e0
      cases e
      exact .inl ⟨vs, SqL.of hv, by rw [d.isEmpty]⟩
    · rename_i kvs e0
      obtain ⟨ks, hv, ek, d⟩ := r.at h e0
      cases e
      refine .inr (.inr ⟨ks, hv, ?_⟩)
      have := congrArg List.isEmpty ek
      simp at this
      rw [this]
    · cases e
theorem rt_val (ha : RE X g W a ma) (he : ∀ whole, isTrue a X.env whole = (do let v ← whole; standAt a.pos; holding [v] (truthy v))) : RT X g W a (mTru ma) := by
  refine pt_le (pt_truth ha he) fun σ H Q ⟨α, ρ, S, r, q⟩ => ?_
  refine ⟨α, ρ, S, r, q.of_bind.imp fun α1 H1 x S1 p1 k1 r1 q1 v dv => ?_⟩
  replace q1 := q1 r1
  split at q1
  · rename_i b e
    exact ⟨b, tru_of r1.obj dv e, q1.here r1⟩
  · exact q1.elim

/-! ### and, or, not, if-else -/
def mAndT (a b : MT) : MT := fun ρ S => (a ρ S).bind fun x S1 => if x = true then b ρ S1 else .ok false S1
def mOrT (a b : MT) : MT := fun ρ S => (a ρ S).bind fun x S1 => if x = true then .ok true S1 else b ρ S1
def mNotT (a : MT) : MT := fun ρ S => (a ρ S).bind fun x S1 => .ok (!x) S1
variable {ta tb : MT} {rest : List Expr}
theorem rw_and1 (h : RT X g W a ta) : RW X g W (.BoolOp .And [a] pos) ta := pw_and1 h
theorem rw_or1 (h : RT X g W a ta) : RW X g W (.BoolOp .Or [a] pos) ta := pw_or1 h
theorem rw_and (ha : RT X g W a ta) (hb : RW X g W (.BoolOp .And (b :: rest) pos) tb) : RW X g W (.BoolOp .And (a :: b :: rest) pos) (mAndT ta tb) := by
  refine pw_le (pw_and ha hb) fun σ H Q ⟨α, ρ, S, r, q⟩ => ?_
  refine ⟨α, ρ, S, r, q.of_bind.imp fun α1 H1 x S1 p1 k1 r1 q1 => ?_⟩
  replace q1 := q1 r1
  cases x with
  | true => rw [if_pos rfl] at q1; show ite _ _ _; rw [if_pos rfl]; exact ⟨α1, ρ, S1, r1, q1⟩
  | false => rw [if_neg Bool.false_ne_true] at q1; show ite _ _ _; rw [if_neg Bool.false_ne_true]; exact q1.here r1
theorem rw_or (ha : RT X g W a ta) (hb : RW X g W (.BoolOp .Or (b :: rest) pos) tb) : RW X g W (.BoolOp .Or (a :: b :: rest) pos) (mOrT ta tb) := by
  refine pw_le (pw_or ha hb) fun σ H Q ⟨α, ρ, S, r, q⟩ => ?_
  refine ⟨α, ρ, S, r, q.of_bind.imp fun α1 H1 x S1 p1 k1 r1 q1 => ?_⟩
  replace q1 := q1 r1
  cases x with
  | true => rw [if_pos rfl] at q1; show ite _ _ _; rw [if_pos rfl]; exact q1.here r1
  | false => rw [if_neg Bool.false_ne_true] at q1; show ite _ _ _; rw [if_neg Bool.false_ne_true]; exact ⟨α1, ρ, S1, r1, q1⟩
theorem rt_not (h : RT X g W a ta) : RT X g W (.UnaryOp .Not a pos) (mNotT ta) := by
  refine pt_le (pt_not h) fun σ H Q ⟨α, ρ, S, r, q⟩ => ?_
  exact ⟨α, ρ, S, r, q.of_bind.imp fun α1 H1 x S1 p1 k1 r1 q1 => (q1 r1).here r1⟩
theorem rt_of (h : RW X g W a ta) : RT X g W a ta := PW.pt h
/-- as values; the left ones are bools -/
def mAndV (a b : ME) : ME := fun ρ S => (a ρ S).bind fun x S1 => match x with
  | .bl true => b ρ S1
  | .bl false => .ok (.bl false) S1
  | _ => .bad
def mOrV (a b : ME) : ME := fun ρ S => (a ρ S).bind fun x S1 => match x with
  | .bl true => .ok (.bl true) S1
  | .bl false => b ρ S1
  | _ => .bad
def mNotV (a : ME) : ME := fun ρ S => (a ρ S).bind fun x S1 => match x with
  | .bl b => .ok (.bl (!b)) S1
  | _ => .bad
theorem re_one {op} (h : RE X g W a ma) : RE X g W (.BoolOp op [a] pos) ma := pe_one h
theorem re_and (ha : RE X g W a ma) (hb : RE X g W (.BoolOp .And (b :: rest) pos) mb) : RE X g W (.BoolOp .And (a :: b :: rest) pos) (mAndV ma mb) := by
  refine pe_le (pe_and ha hb) fun σ H Q ⟨α, ρ, S, r, q⟩ => ?_
  refine ⟨α, ρ, S, r, q.of_bind.imp fun α1 H1 x S1 p1 k1 r1 q1 v dv => ?_⟩
  replace q1 := q1 r1
  cases dv <;> first | exact q1.elim | skip
  case bl c =>
    refine ⟨c, rfl, ?_⟩
    cases c with
    | true => rw [if_pos rfl]; exact ⟨α1, ρ, S1, r1, q1⟩
    | false => rw [if_neg Bool.false_ne_true]; exact q1.here r1 _ (.bl _)
theorem re_or (ha : RE X g W a ma) (hb : RE X g W (.BoolOp .Or (b :: rest) pos) mb) : RE X g W (.BoolOp .Or (a :: b :: rest) pos) (mOrV ma mb) := by
  refine pe_le (pe_or ha hb) fun σ H Q ⟨α, ρ, S, r, q⟩ => ?_
  refine ⟨α, ρ, S, r, q.of_bind.imp fun α1 H1 x S1 p1 k1 r1 q1 v dv => ?_⟩
  replace q1 := q1 r1
  cases dv <;> first | exact q1.elim | skip
  case bl c =>
    refine ⟨c, rfl, ?_⟩
    cases c with
    | true => rw [if_pos rfl]; exact q1.here r1 _ (.bl _)
    | false => rw [if_neg Bool.false_ne_true]; exact ⟨α1, ρ, S1, r1, q1⟩
theorem re_not (ha : RE X g W a ma) : RE X g W (.UnaryOp .Not a pos) (mNotV ma) := by
  refine pe_le (pe_not ha) fun σ H Q ⟨α, ρ, S, r, q⟩ => ?_
  refine ⟨α, ρ, S, r, q.of_bind.imp fun α1 H1 x S1 p1 k1 r1 q1 v dv => ?_⟩
  replace q1 := q1 r1
  cases dv <;> first | exact q1.elim | skip
  case bl c => exact ⟨c, rfl, q1.here r1 _ (.bl _)⟩
def mIfE (t : MT) (a b : ME) : ME := fun ρ S => (t ρ S).bind fun x S1 => if x = true then a ρ S1 else b ρ S1
theorem re_if (hc : RT X g W c ta) (ha : RE X g W a ma) (hb : RE X g W b mb) : RE X g W (.IfExp c a b pos) (mIfE ta ma mb) := by
  refine pe_le (pe_ifExp hc ha hb) fun σ H Q ⟨α, ρ, S, r, q⟩ => ?_
  refine ⟨α, ρ, S, r, q.of_bind.imp fun α1 H1 x S1 p1 k1 r1 q1 => ?_⟩
  replace q1 := q1 r1
  cases x with
  | true => rw [if_pos rfl] at q1; show ite _ _ _; rw [if_pos rfl]; exact ⟨α1, ρ, S1, r1, q1⟩
  | false => rw [if_neg Bool.false_ne_true] at q1; show ite _ _ _; rw [if_neg Bool.false_ne_true]; exact ⟨α1, ρ, S1, r1, q1⟩
def negM : PV → Rs Int
  | .int i => .ok i []
  | _ => .bad
def mNeg (a : ME) : ME := fun ρ S => (a ρ S).bind fun x S1 => match x with
  | .int i => .ok (.int (-i)) S1
  | _ => .bad
theorem re_neg (ha : RE X g W a ma) : RE X g W (.UnaryOp .USub a pos) (mNeg ma) := by
  refine pe_le (pe_un un_neg ha) fun σ H Q ⟨α, ρ, S, r, q⟩ => ?_
  refine ⟨α, ρ, S, r, q.of_bind.imp fun α1 H1 x S1 p1 k1 r1 q1 v dv => ?_⟩
  replace q1 := q1 r1
  cases dv <;> first | exact q1.elim | skip
  case int c => exact ⟨c, rfl, q1.here r1 _ (.int _)⟩
end
end Pm
namespace Pm
open PySem L2
/-! ### argument lists, displays -/
def mNil : MA := fun _ S => .ok [] S
def mCons (e : ME) (es : MA) : MA := fun ρ S => (e ρ S).bind fun x S1 => (es ρ S1).bind fun xs S2 => .ok (x :: xs) S2
def mTup (es : MA) : ME := fun ρ S => (es ρ S).bind fun xs S1 => .ok (.tup xs) S1
def mLst (es : MA) : ME := fun ρ S => (es ρ S).bind fun xs S1 => .ok (.cell S1.length) (S1 ++ [.lst xs])
section
variable {X : Cx} {g : Sg} {W : WX} {a b c e : Expr} {es : List Expr} {m ma mb mc : ME} {ms : MA} {pos p : Pos}
theorem ra_nil : RA X g W [] mNil := pa_le pa_nil fun σ H Q ⟨α, ρ, S, r, q⟩ => (Post.here q r) [] .nil
theorem ra_cons (ha : RE X g W e m) (hr : RA X g W es ms) (hs : starEach (e :: es) X.env = (false, eval e X.env) :: starEach es X.env := by rfl) : RA X g W (e :: es) (mCons m ms) := by
  refine pa_le (pa_cons ha hr hs) fun σ H Q ⟨α, ρ, S, r, q⟩ => ?_
  refine ⟨α, ρ, S, r, q.of_bind.imp fun α1 H1 x S1 p1 k1 r1 q1 v dv => ?_⟩
  refine ⟨α1, ρ, S1, r1, (q1 r1).of_bind.imp fun α2 H2 xs S2 p2 k2 r2 q2 vs dvs => ?_⟩
  exact (q2 r2).here r2 _ (.cons (dv.mono p2 k2) dvs)
theorem re_tup {x1} (h : RA X g W es ms) (hz : es.length ≤ 1000) (hl : ∀ ρ S xs S', ms ρ S = .ok xs S' → xs.length = es.length) : RE X g W (.Tuple es x1 pos) (mTup ms) := by
  refine pe_le (pe_tup h) fun σ H Q ⟨α, ρ, S, r, q⟩ => ?_
  refine ⟨α, ρ, S, r, ?_⟩
  have hl := hl ρ S
  unfold mTup at q
  revert q hl
  cases ms ρ S with
  | ok xs S1 =>
    intro q hl α1 H1 p1 k1 r1 vs dvs
    refine ⟨?_, fun p hp => ?_⟩
    · rw [← dvs.length, hl xs S1 rfl]
      exact Nat.le_trans hz (by decide)
    · exact fin_tup r1 hp dvs (Post.mono p1 k1 q)
  | er c fs S1 => intro q _; exact q
  | bad => intro q _; exact q
theorem re_lst (h : RA X g W es ms) (hz : es.length ≤ 1000) (hl : ∀ ρ S xs S', ms ρ S = .ok xs S' → xs.length = es.length) : RE X g W (.List es pos) (mLst ms) := by
  refine pe_le (pe_lst h) fun σ H Q ⟨α, ρ, S, r, q⟩ => ?_
  refine ⟨α, ρ, S, r, ?_⟩
  have hl := hl ρ S
  unfold mLst at q
  revert q hl
  cases ms ρ S with
  | ok xs S1 =>
    intro q hl α1 H1 p1 k1 r1 vs dvs
    refine ⟨?_, fun p hp => ?_⟩
    · rw [← dvs.length, hl xs S1 rfl]
      exact Nat.le_trans hz (by decide)
    · exact fin_lst r1 hp dvs (Post.mono p1 k1 q)
  | er c fs S1 => intro q _; exact q
  | bad => intro q _; exact q
theorem len_nil : ∀ ρ S xs S', mNil ρ S = .ok xs S' → xs.length = 0 := fun ρ S xs S' e => by cases e; rfl
theorem len_cons {m : ME} {ms : MA} {n : Nat} (h : ∀ ρ S xs S', ms ρ S = .ok xs S' → xs.length = n) : ∀ ρ S xs S', mCons m ms ρ S = .ok xs S' → xs.length = n + 1 := fun ρ S xs S' e => by
  unfold mCons at e
  cases e1 : m ρ S with
  | ok x S1 =>
    rw [e1] at e
    cases e2 : ms ρ S1 with
    | ok ys S2 =>
      simp only [bind_ok, e2] at e
      cases e
      simp [h _ _ _ _ e2]
    | er c fs S2 => simp only [bind_ok, e2, bind_er] at e; cases e
    | bad => simp only [bind_ok, e2, bind_bad] at e; cases e
  | er c fs S1 => rw [e1] at e; cases e
  | bad => rw [e1] at e; cases e

/-! ### places -/
/-- the place an index means -/
def atP (xs : List PV) (i : Int) : Option PV := (ixN xs.length i).bind fun j => xs[j]?
def ixM : PV → PV → Sto → Rs PV
  | .tup xs, .int i, S => match atP xs i with
    | some x => .ok x S
    | none => .bad
  | .rol xs, .int i, S => match atP xs i with
    | some x => .ok x S
    | none => .bad
  | .cell n, .int i, S => match S[n]? with
    | some (.lst xs) => match atP xs i with
      | some x => .ok x S
      | none => .bad
    | _ => .bad
  | .str z, .int i, S => if z.length ≤ sizeLine then match (ixN z.cps.toList.length i).bind fun j => z.cps.toList[j]? with
    | some c => .ok (.str ⟨#[c]⟩) S
    | none => .bad
    else .bad
  | _, _, _ => .bad
theorem atP_of {K : PySem.W.Frag} {α : List Addr} {H : Hp} {xs : List PV} {vs : List V} {i : Int} {x : PV} (d : Dens K α H xs vs) (e : atP xs i = some x) : ∃ v, atI vs i = some v ∧ Den K α H x v := by
  unfold atP at e
  rw [d.length] at e
  obtain ⟨j, h1, h2⟩ := Option.bind_eq_some_iff.mp e
  obtain ⟨v, hv, dv⟩ := d.get h2
  exact ⟨v, Option.bind_eq_some_iff.mpr ⟨j, h1, hv⟩, dv⟩
theorem opm_ix : OpM X g W (rIx X.K) ixM := by
  intro α σ H ρ S x y v u Q r dx dy q
  cases dx <;> cases dy <;> first | exact False.elim q | skip
  case str.int z i =>
    simp only [ixM] at q
    split at q
    · rename_i hz
      split at q
      · rename_i c e
        exact .inr (.inr ⟨z, i, c, rfl, rfl, hz, e, q.here r _ (.str _)⟩)
      · exact q.elim
    · exact q.elim
  case tup.int xs vs a h d i =>
    simp only [ixM] at q
    split at q
    · rename_i w e
      obtain ⟨t, h1, h2⟩ := atP_of d e
      exact .inr (.inl ⟨a, vs, i, t, rfl, rfl, h, h1, q.here r _ h2⟩)
    · exact q.elim
  case rol.int xs vs a h d i =>
    simp only [ixM] at q
    split at q
    · rename_i w e
      obtain ⟨t, h1, h2⟩ := atP_of d e
      exact .inl ⟨a, vs, i, t, rfl, rfl, h.sq, h1, q.here r _ h2⟩
    · exact q.elim
  case cell.int n a h i =>
    simp only [ixM] at q
    split at q
    · rename_i xs e0
      split at q
      · rename_i w e
        obtain ⟨vs, hv, d⟩ := r.obj.at h e0
        obtain ⟨t, h1, h2⟩ := atP_of d e
        exact .inl ⟨a, vs, i, t, rfl, rfl, SqL.of hv, h1, q.here r _ h2⟩
      · exact q.elim
    · exact q.elim
theorem re_ix (ha : RE X g W a ma) (hb : RE X g W b mb) (hs : PlainIx b) : RE X g W (.Subscript a b pos) (m2 ixM ma mb) :=
  pe_le (pe_ix ix_seq ha hb hs) (m2_le (fun _ _ _ h => h) (fun _ _ _ h => h) opm_ix)

/-! ### slices -/
def tMO (K : PySem.W.Frag) (g : Sg) (W : WX) (m : PSt → Sto → Rs (Option Int)) : TO := fun σ H Q => ∃ α ρ S, Rl K g α σ H ρ S ∧ Post K g W α σ H ρ (fun _ H' o _ => Q o H') (m ρ S)
def RO (X : Cx) (g : Sg) (W : WX) (e : Option Expr) (m : PSt → Sto → Rs (Option Int)) : Prop := PO X e (tMO X.K g W m)
theorem po_le {X : Cx} {e : Option Expr} {t t' : TO} (h : PO X e t) (i : ∀ σ H Q, t' σ H Q → t σ H Q) : PO X e t' := ⟨fun pins s σ H Q I q => h.run pins s σ H Q I (i _ _ _ q)⟩
def mNoP : PSt → Sto → Rs (Option Int) := fun _ S => .ok none S
def mPart (e : ME) : PSt → Sto → Rs (Option Int) := fun ρ S => (e ρ S).bind fun x S1 => match x with
  | .int i => .ok (some i) S1
  | _ => .bad
theorem ro_none : RO X g W none mNoP := po_le po_none fun σ H Q ⟨α, ρ, S, r, q⟩ => Post.here q r
theorem ro_some (h : RE X g W e m) : RO X g W (some e) (mPart m) := by
  refine po_le (po_some h) fun σ H Q ⟨α, ρ, S, r, q⟩ => ?_
  refine ⟨α, ρ, S, r, q.of_bind.imp fun α1 H1 x S1 p1 k1 r1 q1 v dv => ?_⟩
  replace q1 := q1 r1
  cases dv <;> first | exact q1.elim | skip
  case int i => exact ⟨i, rfl, q1.here r1⟩
def cutP (xs : List PV) (lo hi : Option Int) : List PV := (xs.drop (HT.sIx xs.length 0 lo)).take (HT.sIx xs.length xs.length hi - HT.sIx xs.length 0 lo)
theorem cutP_den {K : PySem.W.Frag} {α : List Addr} {H : Hp} {xs : List PV} {vs : List V} (d : Dens K α H xs vs) (lo hi : Option Int) : Dens K α H (cutP xs lo hi) (cutV vs lo hi) := by
  unfold cutP cutV
  rw [d.length]
  exact (d.drop _).take _
theorem cut_all (xs : List PV) (lo hi : Option Int) (h : HT.sIx xs.length 0 lo = 0 ∧ HT.sIx xs.length xs.length hi = xs.length) : cutP xs lo hi = xs := by
  unfold cutP
  rw [h.1, h.2]
  simp
def slM (x : PV) (lo hi : Option Int) (S : Sto) : Rs PV :=
  match x with
  | .tup xs => .ok (.tup (cutP xs lo hi)) S
  | .rol xs => .ok (.cell S.length) (S ++ [.lst (cutP xs lo hi)])
  | .cell n => match S[n]? with
    | some (.lst xs) => .ok (.cell S.length) (S ++ [.lst (cutP xs lo hi)])
    | _ => .bad
  | .str z => if z.length ≤ sizeLine then .ok (.str (Txt.slice z lo hi)) S else .bad
  | _ => .bad
def mSl (m : ME) (lo hi : PSt → Sto → Rs (Option Int)) : ME := fun ρ S => (m ρ S).bind fun x S1 => (lo ρ S1).bind fun l S2 => (hi ρ S2).bind fun h S3 => slM x l h S3
theorem re_sl {lo hi : Option Expr} {tl th : PSt → Sto → Rs (Option Int)} {p2 : Pos} (he : RE X g W e m) (hl : RO X g W lo tl) (hu : RO X g W hi th) : RE X g W (.Subscript e (.Slice lo hi none p2) pos) (mSl m tl th) := by
  refine pe_le (pe_slice (sl_tupA.or (sl_list.or C8.sl_txt)) he hl hu) fun σ H Q ⟨α, ρ, S, r, q⟩ => ?_
  refine ⟨α, ρ, S, r, q.of_bind.imp fun α1 H1 x S1 p1 k1 r1 q1 v dv => ?_⟩
  refine ⟨α1, ρ, S1, r1, (q1 r1).of_bind.imp fun α2 H2 l S2 p2 k2 r2 q2 => ?_⟩
  refine ⟨α2, ρ, S2, r2, (q2 r2).of_bind.imp fun α3 H3 h S3 p3 k3 r3 q3 => ?_⟩
  replace q3 := q3 r3
  have dv3 := dv.mono (p2.trans p3) (k2.trans k3)
  cases dv3 <;> first | exact q3.elim | skip
  case str z =>
    simp only [slM] at q3
    split at q3
    · rename_i hz
      exact .inr (.inr ⟨z, rfl, hz, q3.here r3 _ (.str _)⟩)
    · exact q3.elim
  case tup xs vs a h0 d =>
    refine .inl ⟨a, vs, rfl, h0, fun hw => ?_, fun _ p hp => fin_tup r3 hp (cutP_den d l h) q3⟩
    rw [← d.length] at hw
    simp only [slM] at q3
    rw [cut_all xs l h hw] at q3
    exact q3.here r3 _ (.tup h0 d)
  case rol xs vs a h0 d => exact .inr (.inl ⟨a, vs, rfl, h0.sq, fun p hp => fin_lst r3 hp (cutP_den d l h) q3⟩)
  case cell n a h0 =>
    simp only [slM] at q3
    split at q3
    · rename_i xs e0
      obtain ⟨vs, hv, d⟩ := r3.obj.at h0 e0
      exact .inr (.inl ⟨a, vs, rfl, SqL.of hv, fun p hp => fin_lst r3 hp (cutP_den d l h) q3⟩)
    · exact q3.elim

/-! ### calls of what is built in -/
/-- a call by values, told by f -/
def CaM (X : Cx) (g : Sg) (W : WX) (r : List V → Hp → VK → Prop) (f : MF) : Prop :=
  ∀ α σ H ρ S xs vs Q, Rl X.K g α σ H ρ S → Dens X.K α H xs vs → Post X.K g W α σ H ρ (fun α' H' z _ => ∀ w, Den X.K α' H' z w → Q w H') (f xs S) → r vs H Q
def mCall (f : MF) (es : MA) : ME := fun ρ S => (es ρ S).bind f
theorem re_cb {r : List V → Hp → VK → Prop} {f : MF} {ca : Expr} (h : ∀ {t : TA}, PA X es t → PE X ca (tCB r t)) (cm : CaM X g W r f) (ha : RA X g W es ms) : RE X g W ca (mCall f ms) := by
  refine pe_le (h ha) fun σ H Q ⟨α, ρ, S, r, q⟩ => ?_
  exact ⟨α, ρ, S, r, q.of_bind.imp fun α1 H1 xs S1 p1 k1 r1 q1 vs dvs => cm _ _ _ _ _ _ _ _ r1 dvs (q1 r1)⟩
def lenM : MF
  | [.tup xs], S => .ok (.int xs.length) S
  | [.rol xs], S => .ok (.int xs.length) S
  | [.str z], S => if z.length ≤ sizeLine then .ok (.int z.length) S else .bad
  | [.cell n], S => match S[n]? with
    | some (.lst xs) => .ok (.int xs.length) S
    | some (.dk kvs) => .ok (.int kvs.length) S
    | _ => .bad
  | _, _ => .bad
def rLen (K : PySem.W.Frag) : List V → Hp → VK → Prop := fun xs H Q => (∃ p ys, xs = [.ref p] ∧ (SqL K H p ys ∨ SqT K H p ys) ∧ Q (.int ys.length) H) ∨ (∃ z, xs = [.str z] ∧ z.length ≤ sizeLine ∧ Q (.int z.length) H) ∨ ∃ a kvs, xs = [.ref a] ∧ H a = some (.dK kvs) ∧ Q (.int kvs.length) H
theorem call_len : CallR X (.builtin "len") (rLen X.K) := call_len_seq.or (call_len_str.or call_lenD)
theorem Dens.one {K : PySem.W.Frag} {α : List Addr} {H : Hp} {x : PV} {vs : List V} (d : Dens K α H [x] vs) : ∃ v, vs = [v] ∧ Den K α H x v := by
  cases d with
  | cons a b => cases b; exact ⟨_, rfl, a⟩
theorem Dens.two {K : PySem.W.Frag} {α : List Addr} {H : Hp} {x y : PV} {vs : List V} (d : Dens K α H [x, y] vs) : ∃ v u, vs = [v, u] ∧ Den K α H x v ∧ Den K α H y u := by
  cases d with
  | cons a b => obtain ⟨u, rfl, hu⟩ := b.one; exact ⟨_, u, rfl, a, hu⟩
theorem cam_len : CaM X g W (rLen X.K) lenM := by
  intro α σ H ρ S xs vs Q r d q
  rcases xs with _ | ⟨x, _ | ⟨y, tl⟩⟩ <;> first | exact False.elim q | (cases x <;> first | exact False.elim q | (cases y <;> exact False.elim q)) | skip
  · obtain ⟨v, rfl, dv⟩ := d.one
    clear d
    cases dv <;> first | exact False.elim q | skip
    case str z =>
      simp only [lenM] at q
      split at q
      · rename_i hz
        exact .inr (.inl ⟨z, rfl, hz, q.here r _ (.int _)⟩)
      · exact q.elim
    case tup ys us a h d => exact .inl ⟨a, us, rfl, .inr h, by rw [← d.length]; exact q.here r _ (.int _)⟩
    case rol ys us a h d => exact .inl ⟨a, us, rfl, .inl h.sq, by rw [← d.length]; exact q.here r _ (.int _)⟩
    case cell n a h =>
      simp only [lenM] at q
      split at q
      · rename_i ys e0
        obtain ⟨us, hu, d⟩ := r.obj.at h e0
        exact .inl ⟨a, us, rfl, .inl (SqL.of hu), by rw [← d.length]; exact q.here r _ (.int _)⟩
      · rename_i ys e0
        obtain ⟨us, hu, ek, d⟩ := r.obj.at h e0
        refine .inr (.inr ⟨a, us, rfl, hu, ?_⟩)
        have := congrArg List.length ek
        simp at this
        rw [← this]
        exact q.here r _ (.int _)
      · exact q.elim
def absM : MF
  | [.int i], S => .ok (.int (if i < 0 then -i else i)) S
  | _, _ => .bad
theorem cam_abs : CaM X g W (fun xs H Q => ∃ i, xs = [.int i] ∧ Q (.int (if i < 0 then -i else i)) H) absM := by
  intro α σ H ρ S xs vs Q r d q
  rcases xs with _ | ⟨x, _ | ⟨y, tl⟩⟩ <;> first | exact False.elim q | (cases x <;> first | exact False.elim q | (cases y <;> exact False.elim q)) | skip
  · obtain ⟨v, rfl, dv⟩ := d.one
    clear d
    cases dv <;> first | exact False.elim q | skip
    case int i => exact ⟨i, rfl, q.here r _ (.int _)⟩
def intM : MF
  | [.int i], S => .ok (.int i) S
  | [.bl b], S => .ok (.int (if b then 1 else 0)) S
  | _, _ => .bad
theorem cam_int : CaM X g W (fun xs H Q => (∃ i, xs = [.int i] ∧ Q (.int i) H) ∨ ∃ k, xs = [.bl k] ∧ Q (.int (if k then 1 else 0)) H) intM := by
  intro α σ H ρ S xs vs Q r d q
  rcases xs with _ | ⟨x, _ | ⟨y, tl⟩⟩ <;> first | exact False.elim q | (cases x <;> first | exact False.elim q | (cases y <;> exact False.elim q)) | skip
  · obtain ⟨v, rfl, dv⟩ := d.one
    clear d
    cases dv <;> first | exact False.elim q | skip
    case int i => exact .inl ⟨i, rfl, q.here r _ (.int _)⟩
    case bl b => exact .inr ⟨b, rfl, q.here r _ (.int _)⟩
def listM : MF
  | [.tup xs], S => .ok (.cell S.length) (S ++ [.lst xs])
  | [.rol xs], S => .ok (.cell S.length) (S ++ [.lst xs])
  | [.cell n], S => match S[n]? with
    | some (.lst xs) => .ok (.cell S.length) (S ++ [.lst xs])
    | _ => .bad
  | _, _ => .bad
theorem cam_list : CaM X g W (fun xs H Q => ∃ p ys, xs = [.ref p] ∧ (SqL X.K H p ys ∨ SqT X.K H p ys) ∧ ∀ l, H l = none → Q (.ref l) (upd H l (.lst ys))) listM := by
  intro α σ H ρ S xs vs Q r d q
  rcases xs with _ | ⟨x, _ | ⟨y, tl⟩⟩ <;> first | exact False.elim q | (cases x <;> first | exact False.elim q | (cases y <;> exact False.elim q)) | skip
  · obtain ⟨v, rfl, dv⟩ := d.one
    clear d
    cases dv <;> first | exact False.elim q | skip
    case tup ys us a h d => exact ⟨a, us, rfl, .inr h, fun p hp => fin_lst r hp d q⟩
    case rol ys us a h d => exact ⟨a, us, rfl, .inl h.sq, fun p hp => fin_lst r hp d q⟩
    case cell n a h =>
      simp only [listM] at q
      split at q
      · rename_i ys e0
        obtain ⟨us, hu, d⟩ := r.obj.at h e0
        exact ⟨a, us, rfl, .inl (SqL.of hu), fun p hp => fin_lst r hp d q⟩
      · exact q.elim
def tupleM : MF
  | [.tup xs], S => .ok (.tup xs) S
  | [.rol xs], S => .ok (.tup xs) S
  | [.cell n], S => match S[n]? with
    | some (.lst xs) => .ok (.tup xs) S
    | _ => .bad
  | _, _ => .bad
theorem cam_tuple : CaM X g W (fun xs H Q => ∃ p ys, xs = [.ref p] ∧ ((SqL X.K H p ys ∧ ∀ l, H l = none → Q (.ref l) (upd H l (.tup ys))) ∨ (SqT X.K H p ys ∧ Q (.ref p) H))) tupleM := by
  intro α σ H ρ S xs vs Q r d q
  rcases xs with _ | ⟨x, _ | ⟨y, tl⟩⟩ <;> first | exact False.elim q | (cases x <;> first | exact False.elim q | (cases y <;> exact False.elim q)) | skip
  · obtain ⟨v, rfl, dv⟩ := d.one
    clear d
    cases dv <;> first | exact False.elim q | skip
    case tup ys us a h d => exact ⟨a, us, rfl, .inr ⟨h, q.here r _ (.tup h d)⟩⟩
    case rol ys us a h d => exact ⟨a, us, rfl, .inl ⟨h.sq, fun p hp => fin_tup r hp d q⟩⟩
    case cell n a h =>
      simp only [tupleM] at q
      split at q
      · rename_i ys e0
        obtain ⟨us, hu, d⟩ := r.obj.at h e0
        exact ⟨a, us, rfl, .inl ⟨SqL.of hu, fun p hp => fin_tup r hp d q⟩⟩
      · exact q.elim
/-- a list of ints, of bools -/
def intsOf : List PV → Option (List Int)
  | [] => some []
  | .int i :: xs => (intsOf xs).map (i :: ·)
  | _ => none
def blsOf : List PV → Option (List Bool)
  | [] => some []
  | .bl i :: xs => (blsOf xs).map (i :: ·)
  | _ => none
theorem intsOf_eq : ∀ {xs : List PV} {ns : List Int}, intsOf xs = some ns → xs = ns.map PV.int
  | [], _, e => by simp [intsOf] at e; subst e; rfl
  | .int i :: xs, _, e => by
    simp only [intsOf, Option.map_eq_some_iff] at e
    obtain ⟨ms, h, rfl⟩ := e
    rw [intsOf_eq h]; rfl
theorem blsOf_eq : ∀ {xs : List PV} {ns : List Bool}, blsOf xs = some ns → xs = ns.map PV.bl
  | [], _, e => by simp [blsOf] at e; subst e; rfl
  | .bl i :: xs, _, e => by
    simp only [blsOf, Option.map_eq_some_iff] at e
    obtain ⟨ms, h, rfl⟩ := e
    rw [blsOf_eq h]; rfl
/-- what stands in a list -/
def lsOf : PV → Sto → Option (List PV)
  | .rol xs, _ => some xs
  | .cell n, S => match S[n]? with
    | some (.lst xs) => some xs
    | _ => none
  | _, _ => none
theorem lsOf_den {K : PySem.W.Frag} {g : Sg} {α : List Addr} {H : Hp} {S : Sto} (r : RlC K g α H S) {x : PV} {v : V} {xs : List PV} (d : Den K α H x v) (e : lsOf x S = some xs) : ∃ a vs, v = .ref a ∧ SqL K H a vs ∧ Dens K α H xs vs := by
  cases d with
  | rol h d => simp [lsOf] at e; subst e; exact ⟨_, _, rfl, h.sq, d⟩
  | cell h =>
    simp only [lsOf] at e
    split at e
    · cases e
      rename_i e0
      obtain ⟨us, hu, d⟩ := r.at h e0
      exact ⟨_, us, rfl, SqL.of hu, d⟩
    · cases e
  | _ => simp [lsOf] at e
def sumM : MF
  | [x], S => match (lsOf x S).bind intsOf with
    | some ns => .ok (.int ns.sum) S
    | none => .bad
  | _, _ => .bad
def allM : MF
  | [x], S => match (lsOf x S).bind blsOf with
    | some ns => .ok (.bl (ns.all id)) S
    | none => .bad
  | _, _ => .bad
def anyM : MF
  | [x], S => match (lsOf x S).bind blsOf with
    | some ns => .ok (.bl (ns.any id)) S
    | none => .bad
  | _, _ => .bad
theorem cam_sum : CaM X g W (rSum X.K) sumM := by
  intro α σ H ρ S xs vs Q r d q
  rcases xs with _ | ⟨x, _ | ⟨y, tl⟩⟩ <;> first | exact False.elim q | (cases x <;> first | exact False.elim q | (cases y <;> exact False.elim q)) | skip
  · obtain ⟨v, rfl, dv⟩ := d.one
    clear d
    simp only [sumM] at q
    split at q
    · rename_i ns e
      obtain ⟨ys, e1, e2⟩ := Option.bind_eq_some_iff.mp e
      obtain ⟨a, us, rfl, hs, du⟩ := lsOf_den r.obj dv e1
      have ey := intsOf_eq e2
      subst ey
      have := du.ints
      subst this
      exact ⟨a, ns, rfl, hs, q.here r _ (.int _)⟩
    · exact q.elim
theorem cam_all : CaM X g W (rAll X.K) allM := by
  intro α σ H ρ S xs vs Q r d q
  rcases xs with _ | ⟨x, _ | ⟨y, tl⟩⟩ <;> first | exact False.elim q | (cases x <;> first | exact False.elim q | (cases y <;> exact False.elim q)) | skip
  · obtain ⟨v, rfl, dv⟩ := d.one
    clear d
    simp only [allM] at q
    split at q
    · rename_i ns e
      obtain ⟨ys, e1, e2⟩ := Option.bind_eq_some_iff.mp e
      obtain ⟨a, us, rfl, hs, du⟩ := lsOf_den r.obj dv e1
      have ey := blsOf_eq e2
      subst ey
      have := du.bls
      subst this
      exact ⟨a, ns, rfl, hs, q.here r _ (.bl _)⟩
    · exact q.elim
theorem cam_any : CaM X g W (rAny X.K) anyM := by
  intro α σ H ρ S xs vs Q r d q
  rcases xs with _ | ⟨x, _ | ⟨y, tl⟩⟩ <;> first | exact False.elim q | (cases x <;> first | exact False.elim q | (cases y <;> exact False.elim q)) | skip
  · obtain ⟨v, rfl, dv⟩ := d.one
    clear d
    simp only [anyM] at q
    split at q
    · rename_i ns e
      obtain ⟨ys, e1, e2⟩ := Option.bind_eq_some_iff.mp e
      obtain ⟨a, us, rfl, hs, du⟩ := lsOf_den r.obj dv e1
      have ey := blsOf_eq e2
      subst ey
      have := du.bls
      subst this
      exact ⟨a, ns, rfl, hs, q.here r _ (.bl _)⟩
    · exact q.elim
def gcdM : MF
  | [.int a, .int b], S => .ok (.int (Nat.gcd a.natAbs b.natAbs : Nat)) S
  | _, _ => .bad
theorem cam_gcd : CaM X g W rGcd gcdM := by
  intro α σ H ρ S xs vs Q r d q
  rcases xs with _ | ⟨x, _ | ⟨y, _ | ⟨z, tl⟩⟩⟩ <;> first | exact False.elim q | (cases x <;> first | exact False.elim q | (cases y <;> exact False.elim q)) | skip
  · obtain ⟨v, u, rfl, dv, du⟩ := d.two
    clear d
    cases dv <;> cases du <;> first | exact False.elim q | skip
    case int.int i j => exact ⟨i, j, rfl, q.here r _ (.int _)⟩
end

/-! ### isinstance -/
def tyP : PV → Sto → Option String
  | .non, _ => some "NoneType"
  | .bl _, _ => some "bool"
  | .int _, _ => some "int"
  | .str _, _ => some "str"
  | .tup _, _ => some "tuple"
  | .rol _, _ => some "list"
  | .cell n, S => match S[n]? with
    | some (.lst _) => some "list"
    | some (.dk _) => some "dict"
    | some (.dt _) => some "dict"
    | _ => none
def tysP : List String := ["NoneType", "bool", "int", "str", "tuple", "list", "dict"]
theorem tyP_mem {x : PV} {S : Sto} {t : String} (e : tyP x S = some t) : t ∈ tysP := by
  cases x <;> simp only [tyP] at e
  case cell n => split at e <;> first | (cases e; decide) | cases e
  all_goals (cases e; decide)
theorem tyP_of {K : PySem.W.Frag} {g : Sg} {α : List Addr} {H : Hp} {S : Sto} (r : RlC K g α H S) {x : PV} {v : V} {t : String} (d : Den K α H x v) (e : tyP x S = some t) : TyX K H v (.type t) := by
  cases d with
  | non => cases e; exact .base .non
  | bl b => cases e; exact .base (.bl b)
  | int b => cases e; exact .base (.int b)
  | str b => cases e; exact .base (.str b)
  | tup h d =>
    cases e
    rcases h with (h | ⟨o, h⟩) | ⟨o, its, n, h1, h2, _⟩
    · exact .base (.tup h)
    · exact .fTuple h
    · exact .kTuple h1 h2
  | rol h d =>
    cases e
    rcases h with ⟨o, h⟩ | ⟨o, its, n, h1, h2, _⟩
    · exact .base (.frz h)
    · exact .kList h1 h2
  | cell h =>
    simp only [tyP] at e
    split at e
    · rename_i e0
      cases e
      obtain ⟨us, hu, d⟩ := r.at h e0
      exact .base (.lst hu)
    · rename_i e0
      cases e
      obtain ⟨us, hu, d⟩ := r.at h e0
      exact .base (.dK hu)
    · rename_i e0
      cases e
      obtain ⟨us, hu, d⟩ := r.at h e0
      exact .base (.dT hu)
    · cases e
/-- isinstance(x, T), T built in -/
def isiM (T : String) (x : PV) (S : Sto) : Rs PV := match tyP x S with
  | some t => .ok (.bl (t == T || (t == "bool" && T == "int"))) S
  | none => .bad
def clsP : List String := ["int", "bool", "str", "tuple", "list", "dict"]
theorem kit_all : ∀ t ∈ tysP, ∀ T ∈ clsP, kitB t T = some (t == T || (t == "bool" && T == "int")) := by decide +kernel
def mIsi (T : String) (m : ME) : ME := fun ρ S => (m ρ S).bind fun x S1 => isiM T x S1
section
variable {X : Cx} {g : Sg} {W : WX} {e : Expr} {m : ME} {pos p p2 : Pos}
theorem re_isi {T : String} {x : Str} (hT : T ∈ clsP) (h : RE X g W e m) (hc : PE X (.Name x p2) (tC (.ty T))) (hi : ∀ {t : TA}, PA X [e, .Name x p2] t → PE X (.Call (.Name "isinstance" p) [e, .Name x p2] [] pos) (tCB (rIsi X.K) t)) (hs : starEach [e, .Name x p2] X.env = (false, eval e X.env) :: starEach [.Name x p2] X.env := by rfl) (hs2 : starEach [.Name x p2] X.env = (false, eval (.Name x p2) X.env) :: starEach [] X.env := by rfl) :
    RE X g W (.Call (.Name "isinstance" p) [e, .Name x p2] [] pos) (mIsi T m) := by
  refine pe_le (hi (pa_cons h (pa_cons hc pa_nil hs2) hs)) fun σ H Q ⟨α, ρ, S, r, q⟩ => ?_
  refine ⟨α, ρ, S, r, q.of_bind.imp fun α1 H1 x S1 p1 k1 r1 q1 v dv => ?_⟩
  replace q1 := q1 r1
  simp only [isiM] at q1
  split at q1
  · rename_i t et
    exact ⟨v, .ty T, .type t, .type T, _, rfl, .ty T, tyP_of r1.obj dv et, kit_ty (kit_all t (tyP_mem et) T hT), q1.here r1 _ (.bl _)⟩
  · exact q1.elim
end
end Pm
namespace Pm
open PySem L2
/-! ### targets -/
/-- slots are set, one after another -/
def setl {β : Type} : List (Option β) → List (Nat × β) → List (Option β)
  | ρ, [] => ρ
  | ρ, p :: r => setl (ρ.set p.1 (some p.2)) r
/-- what a target stores of a value -/
abbrev MG := PV → Sto → Option (List (Nat × PV))
abbrev MGs := List PV → Sto → Option (List (Nat × PV))
def mgName (i : Nat) : MG := fun x _ => some [(i, x)]
def mgNil : MGs := fun xs _ => match xs with
  | [] => some []
  | _ => none
def mgCons (a : MG) (b : MGs) : MGs := fun xs S => match xs with
  | x :: r => match a x S, b r S with
    | some l, some m => some (l ++ m)
    | _, _ => none
  | [] => none
def mgTup (n : Nat) (b : MGs) : MG := fun x S => match x with
  | .tup xs => if xs.length = n then b xs S else none
  | .rol xs => if xs.length = n then b xs S else none
  | .cell c => match S[c]? with
    | some (.lst xs) => if xs.length = n then b xs S else none
    | _ => none
  | _ => none
section
variable {K : PySem.W.Frag} {g : Sg} {W : WX} {α : List Addr} {σ : St} {H : Hp} {ρ : PSt} {S : Sto}
theorem setl_length {β : Type} : ∀ {l : List (Nat × β)} {ρ : List (Option β)}, (setl ρ l).length = ρ.length
  | [], _ => rfl
  | p :: r, ρ => by rw [setl, setl_length]; simp
theorem setl_append {β : Type} : ∀ {l m : List (Nat × β)} {ρ : List (Option β)}, setl ρ (l ++ m) = setl (setl ρ l) m
  | [], _, _ => rfl
  | p :: r, m, ρ => by rw [List.cons_append, setl, setl_append, setl]
/-- pairs of slots and values -/
def Sls (K : PySem.W.Frag) (α : List Addr) (H : Hp) (l : List (Nat × PV)) (m : List (Nat × V)) : Prop := l.map (·.1) = m.map (·.1) ∧ Dens K α H (l.map (·.2)) (m.map (·.2))
theorem Rl.set1 (r : Rl K g α σ H ρ S) {i : Nat} {x : PV} {v : V} (d : Den K α H x v) : Rl K g α (σ.set i (some v)) H (ρ.set i (some x)) S := by
  refine ⟨r.obj, by simp [r.len], fun j y e => ?_, ?_⟩
  by_cases h : i = j
  · subst h
    by_cases hl : i < ρ.length
    · rw [List.getElem?_set_self hl] at e
      cases e
      exact ⟨v, List.getElem?_set_self (by rw [← r.len]; exact hl), d⟩
    · rw [List.getElem?_eq_none (by simp; omega)] at e
      cases e
  · rw [List.getElem?_set_ne h] at e ⊢
    exact r.loc j y e
  · intro z e1 e2
    by_cases h : i = z.i
    · subst h
      rw [List.getElem?_set] at e2
      simp only [if_true] at e2
      split at e2 <;> cases e2
    · rw [List.getElem?_set_ne h] at e2
      obtain ⟨h1, h2⟩ := r.sut z e1 e2
      exact ⟨by rw [List.getElem?_set_ne h]; exact h1, h2⟩
theorem Rl.setl : ∀ {l : List (Nat × PV)} {m : List (Nat × V)} {σ : St} {ρ : PSt}, Rl K g α σ H ρ S → Sls K α H l m → Rl K g α (Pm.setl σ m) H (Pm.setl ρ l) S
  | [], [], _, _, r, _ => r
  | [], _ :: _, _, _, _, h => by cases h.1
  | _ :: _, [], _, _, _, h => by cases h.1
  | (i, x) :: l, (j, v) :: m, _, _, r, ⟨h1, h2⟩ => by
    simp only [List.map_cons, List.cons.injEq] at h1
    obtain ⟨rfl, h1⟩ := h1
    cases h2 with
    | cons d ds => exact Rl.setl (l := l) (m := m) (r.set1 d) ⟨h1, ds⟩
theorem Sls.append {l l' : List (Nat × PV)} {m m' : List (Nat × V)} (a : Sls K α H l m) (b : Sls K α H l' m') : Sls K α H (l ++ l') (m ++ m') := by
  refine ⟨by simp [a.1, b.1], ?_⟩
  rw [List.map_append, List.map_append]
  exact a.2.append b.2
end
def tMG (K : PySem.W.Frag) (g : Sg) (m : MG) : TG := fun v σ H Q => ∃ α S x l, RlC K g α H S ∧ Den K α H x v ∧ m x S = some l ∧ ∀ us, Sls K α H l us → Q (setl σ us) H
def tMGs (K : PySem.W.Frag) (g : Sg) (m : MGs) : TGs := fun vs σ H Q => ∃ α S xs l, RlC K g α H S ∧ Dens K α H xs vs ∧ m xs S = some l ∧ ∀ us, Sls K α H l us → Q (setl σ us) H
def RG (X : Cx) (g : Sg) (tg : Expr) (m : MG) : Prop := PG X tg (tMG X.K g m)
def RGs (X : Cx) (g : Sg) (tgs : List Expr) (m : MGs) : Prop := PGs X tgs (tMGs X.K g m)
theorem pg_le {X : Cx} {e : Expr} {t t' : TG} (h : PG X e t) (i : ∀ v σ H Q, t' v σ H Q → t v σ H Q) : PG X e t' := ⟨fun pins s σ H v u Q I r q => h.run pins s σ H v u Q I r (i _ _ _ _ q)⟩
theorem pgs_le {X : Cx} {e : List Expr} {t t' : TGs} (h : PGs X e t) (i : ∀ v σ H Q, t' v σ H Q → t v σ H Q) : PGs X e t' := ⟨fun pins s σ H v u Q I r q => h.run pins s σ H v u Q I r (i _ _ _ _ q)⟩
theorem pg_or {X : Cx} {e : Expr} {t t' : TG} (h : PG X e t) (h' : PG X e t') : PG X e (fun v σ H Q => t v σ H Q ∨ t' v σ H Q) := ⟨fun pins s σ H v u Q I r q => q.elim (h.run pins s σ H v u Q I r) (h'.run pins s σ H v u Q I r)⟩
section
variable {X : Cx} {g : Sg} {W : WX} {a b c e tg : Expr} {es : List Expr} {m ma mb mc : ME} {ms : MA} {pos p : Pos} {st : Stmt} {rest : List Stmt}
theorem rg_name {i : Nat} {x : Str} (h : PG X (.Name x p) (gName i)) : RG X g (.Name x p) (mgName i) := by
  refine pg_le h fun v σ H Q hyp => ?_
  obtain ⟨α, S, x, l, r, d, e, q⟩ := hyp
  cases e
  exact q [(i, v)] ⟨rfl, .cons d .nil⟩
theorem rgs_nil : RGs X g [] mgNil := by
  refine pgs_le pgs_nil fun vs σ H Q hyp => ?_
  obtain ⟨α, S, xs, l, r, d, e, q⟩ := hyp
  cases xs with
  | nil => cases d; cases e; exact ⟨rfl, q [] ⟨rfl, .nil⟩⟩
  | cons x xs => cases e
theorem rgs_cons {ga : MG} {gb : MGs} (ha : RG X g e ga) (hb : RGs X g es gb) (hs : (assignEach (e :: es) X.env).map (·.2) = assign e X.env :: (assignEach es X.env).map (·.2) := by rfl) : RGs X g (e :: es) (mgCons ga gb) := by
  refine pgs_le (pgs_cons ha hb hs) fun vs σ H Q hyp => ?_
  obtain ⟨α, S, xs, l, r, d, e, q⟩ := hyp
  cases d with
  | nil => cases e
  | cons d ds =>
    simp only [mgCons] at e
    split at e
    · rename_i la lb e1 e2
      cases e
      refine ⟨_, _, rfl, α, S, _, la, r, d, e1, fun us hu => ?_⟩
      refine ⟨α, S, _, lb, r, ds, e2, fun ws hw => ?_⟩
      rw [← setl_append]
      exact q _ (hu.append hw)
    · cases e
theorem rg_tup {k n : Nat} {gb : MGs} (hc : X.calm = true) (h : RGs X g es gb) (hn : (assignEach es X.env).length = n := by rfl) (hst : (assignEach es X.env).findIdx? (·.1) = none := by rfl) : RG X g (.Tuple es k pos) (mgTup n gb) := by
  refine pg_le (pg_or (pg_tup hc h hn hst) (pg_lst hc h hn hst)) fun v σ H Q hyp => ?_
  obtain ⟨α, S, x, l, r, d, e, q⟩ := hyp
  cases d <;> simp only [mgTup] at e <;> first | (cases e; done) | skip
  case tup xs vs a h0 d =>
    split at e
    · rename_i hl
      exact .inl ⟨a, vs, rfl, h0, by rw [← d.length]; exact hl, α, S, xs, l, r, d, e, q⟩
    · cases e
  case rol xs vs a h0 d =>
    split at e
    · rename_i hl
      exact .inr ⟨a, vs, rfl, h0.sq, by rw [← d.length]; exact hl, α, S, xs, l, r, d, e, q⟩
    · cases e
  case cell c a h0 =>
    split at e
    · rename_i xs e0
      obtain ⟨vs, hv, d⟩ := r.at h0 e0
      split at e
      · rename_i hl
        exact .inr ⟨a, vs, rfl, SqL.of hv, by rw [← d.length]; exact hl, α, S, xs, l, r, d, e, q⟩
      · cases e
    · cases e

/-! ### statements -/
def mSeq (a b : MS) : MS := fun ρ S => match a ρ S with
  | .nx ρ' S' => b ρ' S'
  | o => o
def mNx : MS := fun ρ S => .nx ρ S
theorem SPost.mono {K : PySem.W.Frag} {α α1 : List Addr} {H H1 : Hp} {D : Ends} (pre : α <+: α1) (kp : Kp H H1) : ∀ {o : Ot}, SPost K g W α H D o → SPost K g W α1 H1 D o
  | .nx _ _, h => fun α' σ' H' p k r => h α' σ' H' (pre.trans p) (kp.trans k) r
  | .rt _ _, h => fun α' H' v p k r d => h α' H' v (pre.trans p) (kp.trans k) r d
  | .bk _ _, h => fun α' σ' H' p k r => h α' σ' H' (pre.trans p) (kp.trans k) r
  | .ct _ _, h => fun α' σ' H' p k r => h α' σ' H' (pre.trans p) (kp.trans k) r
  | .er _ _ _ _, h => fun α' σ' H' C d p k r => h α' σ' H' C d (pre.trans p) (kp.trans k) r
  | .bad, h => h
/-- an expression ahead of what follows -/
def Rs.ot {β : Type} (r : Rs β) (ρ : PSt) (f : β → Sto → Ot) : Ot := match r with
  | .ok x S1 => f x S1
  | .er c fs S1 => .er c fs ρ S1
  | .bad => .bad
@[simp] theorem ot_ok {β : Type} {x : β} {S : Sto} {ρ : PSt} {f : β → Sto → Ot} : (Rs.ok x S).ot ρ f = f x S := rfl
@[simp] theorem ot_er {β : Type} {c : Str} {fs : List (Str × PV)} {S : Sto} {ρ : PSt} {f : β → Sto → Ot} : (Rs.er c fs S : Rs β).ot ρ f = .er c fs ρ S := rfl
@[simp] theorem ot_bad {β : Type} {ρ : PSt} {f : β → Sto → Ot} : (Rs.bad : Rs β).ot ρ f = .bad := rfl
theorem then_post {K : PySem.W.Frag} {β : Type} {α : List Addr} {σ : St} {H : Hp} {ρ : PSt} {D : Ends} {r : Rs β} {f : β → Sto → Ot} (q : SPost K g W α H D (r.ot ρ f)) :
    Post K g W α σ H ρ (fun α' H' x S' => Rl K g α' σ H' ρ S' → SPost K g W α' H' D (f x S')) r := by
  cases r with
  | ok x S1 => exact fun α' H' p k _ _ => SPost.mono p k q
  | er c fs S1 => exact fun α' H' C d p k r e x => q α' σ H' C d p k r e x
  | bad => exact q
theorem rss_nil : RSs X g W [] mNx := pss_le pss_nil fun D σ H ⟨α, ρ, S, r, q⟩ => q α σ H (List.prefix_refl _) Kp.refl r
theorem rss_cons {ma mb : MS} (ha : RS X g W st ma) (hb : RSs X g W rest mb) : RSs X g W (st :: rest) (mSeq ma mb) := by
  refine pss_le (pss_cons ha hb) fun D σ H ⟨α, ρ, S, r, q⟩ => ?_
  refine ⟨α, ρ, S, r, ?_⟩
  unfold mSeq at q
  cases e : ma ρ S with
  | nx ρ' S' => rw [e] at q; exact fun α' σ' H' p k r' => ⟨α', ρ', S', r', SPost.mono p k q⟩
  | rt x S' => rw [e] at q; exact q
  | bk ρ' S' => rw [e] at q; exact q
  | ct ρ' S' => rw [e] at q; exact q
  | er c fs ρ' S' => rw [e] at q; exact q
  | bad => rw [e] at q; exact q
theorem rss_one {ma : MS} (ha : RS X g W st ma) : RSs X g W [st] ma := pss_one ha
def mBk : MS := fun ρ S => .bk ρ S
def mCt : MS := fun ρ S => .ct ρ S
theorem rs_pass : RS X g W (.Pass pos) mNx := ps_le ps_pass fun D σ H ⟨α, ρ, S, r, q⟩ => q α σ H (List.prefix_refl _) Kp.refl r
theorem rs_break : RS X g W (.Break pos) mBk := ps_le ps_break fun D σ H ⟨α, ρ, S, r, q⟩ => q α σ H (List.prefix_refl _) Kp.refl r
theorem rs_continue : RS X g W (.Continue pos) mCt := ps_le ps_continue fun D σ H ⟨α, ρ, S, r, q⟩ => q α σ H (List.prefix_refl _) Kp.refl r
def mExp (m : ME) : MS := fun ρ S => (m ρ S).ot ρ fun _ S1 => .nx ρ S1
theorem rs_expr (h : RE X g W e m) (hs : swapsWith e none pos.line X.env = pure false := by rfl) : RS X g W (.Expr e pos) (mExp m) := by
  refine ps_le (ps_expr h hs) fun D σ H ⟨α, ρ, S, r, q⟩ => ?_
  refine ⟨α, ρ, S, r, (then_post q).imp fun α1 H1 x S1 p1 k1 r1 q1 v dv => ?_⟩
  exact q1 r1 α1 σ H1 (List.prefix_refl _) Kp.refl r1
def mRet (m : ME) : MS := fun ρ S => (m ρ S).ot ρ fun x S1 => .rt x S1
theorem rs_ret (h : RE X g W e m) : RS X g W (.Return (some e) pos) (mRet m) := by
  refine ps_le (ps_ret h) fun D σ H ⟨α, ρ, S, r, q⟩ => ?_
  refine ⟨α, ρ, S, r, (then_post q).imp fun α1 H1 x S1 p1 k1 r1 q1 v dv => ?_⟩
  exact q1 r1 α1 H1 v (List.prefix_refl _) Kp.refl r1.obj dv
def mRetN : MS := fun _ S => .rt .non S
theorem rs_retN : RS X g W (.Return none pos) mRetN := ps_le ps_retN fun D σ H ⟨α, ρ, S, r, q⟩ => q α H .non (List.prefix_refl _) Kp.refl r.obj .non
def mIf (t : MT) (a b : MS) : MS := fun ρ S => (t ρ S).ot ρ fun x S1 => if x = true then a ρ S1 else b ρ S1
theorem rs_if {t : MT} {sa sb : List Stmt} {ma mb : MS} (hc : RT X g W c t) (ha : RSs X g W sa ma) (hb : RSs X g W sb mb) : RS X g W (.If c sa sb pos) (mIf t ma mb) := by
  refine ps_le (ps_if hc ha hb) fun D σ H ⟨α, ρ, S, r, q⟩ => ?_
  refine ⟨α, ρ, S, r, (then_post q).imp fun α1 H1 x S1 p1 k1 r1 q1 => ?_⟩
  replace q1 := q1 r1
  cases x with
  | true => rw [if_pos rfl] at q1; show ite _ _ _; rw [if_pos rfl]; exact ⟨α1, ρ, S1, r1, q1⟩
  | false => rw [if_neg Bool.false_ne_true] at q1; show ite _ _ _; rw [if_neg Bool.false_ne_true]; exact ⟨α1, ρ, S1, r1, q1⟩
def bindG (t : MG) (x : PV) (ρ : PSt) (S : Sto) (f : PSt → Ot) : Ot := match t x S with
  | some l => f (setl ρ l)
  | none => .bad
def mAsg (m : ME) (t : MG) : MS := fun ρ S => (m ρ S).ot ρ fun x S1 => bindG t x ρ S1 fun ρ' => .nx ρ' S1
theorem rs_set {i : Nat} {x : Str} {pos' : Pos} (h : RE X g W e m) (hp : ∀ {te : TE}, PE X e te → PS X (.Assign [.Name x pos'] e pos) (tAsg te (gName i))) : RS X g W (.Assign [.Name x pos'] e pos) (mAsg m (mgName i)) := by
  refine ps_le (hp h) fun D σ H ⟨α, ρ, S, r, q⟩ => ?_
  refine ⟨α, ρ, S, r, (then_post q).imp fun α1 H1 x S1 p1 k1 r1 q1 v dv => ?_⟩
  exact q1 r1 α1 (σ.set i (some v)) H1 (List.prefix_refl _) Kp.refl (r1.set1 dv)
theorem rs_asg {t : MG} (h : RE X g W e m) (hg : RG X g tg t) (hs : swapsWithSole [tg] e pos.line X.env = pure false := by rfl) (hw : swappedStores [tg] e X.env = pure none := by rfl)
    (h1 : (assignEach [tg] X.env).map (·.2) = [assign tg X.env] := by rfl) : RS X g W (.Assign [tg] e pos) (mAsg m t) := by
  refine ps_le (ps_asg h hg hs hw h1) fun D σ H ⟨α, ρ, S, r, q⟩ => ?_
  refine ⟨α, ρ, S, r, (then_post q).imp fun α1 H1 x S1 p1 k1 r1 q1 v dv => ?_⟩
  replace q1 := q1 r1
  unfold bindG at q1
  split at q1
  · rename_i l e1
    exact ⟨α1, S1, x, l, r1.obj, dv, e1, fun us hu => q1 α1 _ H1 (List.prefix_refl _) Kp.refl (r1.setl hu)⟩
  · exact q1.elim
/-- a, b = x, y -/
def mPar (i j : Nat) (ms : MA) : MS := fun ρ S => (ms ρ S).ot ρ fun xs S1 => match xs with
  | [x, y] => .nx ((ρ.set i (some x)).set j (some y)) S1
  | _ => .bad
theorem rs_par {i j : Nat} {es : List Expr} (h : RA X g W es ms) (hp : ∀ {ta : TA}, PA X es ta → PS X st (tPar i j ta)) : RS X g W st (mPar i j ms) := by
  refine ps_le (hp h) fun D σ H ⟨α, ρ, S, r, q⟩ => ?_
  refine ⟨α, ρ, S, r, (then_post q).imp fun α1 H1 xs S1 p1 k1 r1 q1 vs dvs => ?_⟩
  replace q1 := q1 r1
  rcases xs with _ | ⟨x, _ | ⟨y, _ | ⟨z, tl⟩⟩⟩ <;> first | exact False.elim q1 | skip
  obtain ⟨v, u, rfl, dv, du⟩ := dvs.two
  exact ⟨v, u, rfl, q1 α1 _ H1 (List.prefix_refl _) Kp.refl ((r1.set1 dv).set1 du)⟩
/-- name op= e -/
def mAug (i : Nat) (f : PV → PV → Sto → Rs PV) (m : ME) : MS := fun ρ S => match ρ[i]? with
  | some (some x) => ((m ρ S).bind fun y S1 => f x y S1).ot ρ fun z S2 => .nx (ρ.set i (some z)) S2
  | _ => .bad
theorem rs_aug {i : Nat} {r : R2} {f : PV → PV → Sto → Rs PV} (h : RE X g W e m) (o : OpM X g W r f) (hp : ∀ {te : TE}, PE X e te → PS X st (tAug i te r)) : RS X g W st (mAug i f m) := by
  refine ps_le (hp h) fun D σ H ⟨α, ρ, S, rl, q⟩ => ?_
  unfold mAug at q
  split at q
  · rename_i x e1
    obtain ⟨v, hv, dv⟩ := rl.loc i x e1
    refine ⟨v, hv, α, ρ, S, rl, ?_⟩
    refine ((then_post (σ := σ) q).of_bind).imp fun α1 H1 y S1 p1 k1 r1 q1 u du => ?_
    refine o _ _ _ _ _ _ _ _ _ _ r1 (dv.mono p1 k1) du ((q1 r1).imp fun α2 H2 z S2 p2 k2 r2 q2 w dw => ?_)
    exact q2 r2 α2 (σ.set i (some w)) H2 (List.prefix_refl _) Kp.refl (r2.set1 dw)
  · exact q.elim
/-- o[i] = v, a list -/
def setLO (ρ : PSt) (v o i : PV) (S : Sto) : Ot := match o, i with
  | .cell n, .int k => match S[n]? with
    | some (.lst xs) => match ixN xs.length k with
      | some j => .nx ρ (S.set n (.lst (xs.set j v)))
      | none => .bad
    | _ => .bad
  | _, _ => .bad
def mSetL (mo mi mv : ME) : MS := fun ρ S => ((mv ρ S).bind fun v S1 => (mo ρ S1).bind fun o S2 => (mi ρ S2).bind fun i S3 => .ok (v, o, i) S3).ot ρ fun t S3 => setLO ρ t.1 t.2.1 t.2.2 S3
theorem rs_setL {mo mi : ME} (hv : RE X g W e m) (ho : RE X g W a mo) (hi : RE X g W b mi) (ha : ∀ v, assign (.Subscript a b p) X.env v = (do
      let ov ← holding [v] (eval a X.env)
      let iv ← holding [v, ov] (eval b X.env)
      standAt p
      holding [v, ov, iv] (setItem ov iv v)
      release [v, ov, iv] []) := by intro _; rfl) (hs : swapsWithSole [.Subscript a b p] e pos.line X.env = pure false := by rfl) (hw : swappedStores [.Subscript a b p] e X.env = pure none := by rfl)
    (h1 : (assignEach [.Subscript a b p] X.env).map (·.2) = [assign (.Subscript a b p) X.env] := by rfl) : RS X g W (.Assign [.Subscript a b p] e pos) (mSetL mo mi m) := by
  refine ps_le (ps_asg hv (pg_sub ho hi set_list ha) hs hw h1) fun D σ H ⟨α, ρ, S, r, q⟩ => ?_
  refine ⟨α, ρ, S, r, (then_post (σ := σ) q).of_bind.imp fun α1 H1 x S1 p1 k1 r1 q1 v dv => ?_⟩
  refine ⟨α1, ρ, S1, r1, (q1 r1).of_bind.imp fun α2 H2 o S2 p2 k2 r2 q2 ov dov => ?_⟩
  refine ⟨α2, ρ, S2, r2, (q2 r2).of_bind.imp fun α3 H3 i S3 p3 k3 r3 q3 iv div => ?_⟩
  have q4 := (q3 r3).here r3 r3
  have dov3 := dov.mono p3 k3
  cases dov3 <;> first | exact q4.elim | skip
  case cell n ad h0 =>
    cases div <;> first | exact q4.elim | skip
    case int k =>
      unfold setLO at q4
      dsimp only at q4
      split at q4
      · rename_i xs e0
        split at q4
        · rename_i j ej
          obtain ⟨vs, hvs, d⟩ := r3.obj.at h0 e0
          refine ⟨ad, vs, k, j, rfl, rfl, hvs, by rw [← d.length]; exact ej, ?_⟩
          have kp := r3.obj.kset (u := .lst (vs.set j v)) h0 e0
          exact q4 α3 σ _ (List.prefix_refl _) kp (r3.keep (List.prefix_refl _) kp (r3.obj.set h0 e0 ⟨_, upd_same, Dens.set ((dv.mono (p2.trans p3) (k2.trans k3)).mono (List.prefix_refl _) kp) j (d.mono (List.prefix_refl _) kp)⟩))
        · exact q4.elim
      · exact q4.elim
end
theorem Dens.set' {K : PySem.W.Frag} {α : List Addr} {H : Hp} {xs : List PV} {vs : List V} {y : PV} {u : V} (d : Den K α H y u) (i : Nat) (ds : Dens K α H xs vs) : Dens K α H (xs.set i y) (vs.set i u) := Dens.set d i ds
end Pm
namespace Pm
open PySem L2
/-! ### what a loop walks -/
/-- the items, and the objects that must stay as they are meanwhile -/
structure Itm where
  items : List PV
  raw : List (Nat × MO)
def Chk (raw : List (Nat × MO)) (S : Sto) : Prop := ∀ p ∈ raw, S[p.1]? = some p.2
@[simp] theorem chk_nil {S : Sto} : Chk [] S := fun _ h => nomatch h
theorem chk_one {n : Nat} {o : MO} {S : Sto} : Chk [(n, o)] S ↔ S[n]? = some o := by
  unfold Chk
  simp
/-- the iterator J walks it, from the heap H0 on -/
def Iok (K : PySem.W.Frag) (g : Sg) (α0 : List Addr) (H0 : Hp) (it : Itm) (J : It) : Prop :=
  ∀ α H S, α0 <+: α → Kp H0 H → RlC K g α H S → Chk it.raw S → ∀ i,
    (∀ x, it.items[i]? = some x → J.go i H ∧ ∀ v H', J.yld i H v H' → Den K α H' x v ∧ Kp H H' ∧ RlC K g α H' S) ∧ (it.items.length ≤ i → J.stop i H)
abbrev MI := PSt → Sto → Rs Itm
def tMI (K : PySem.W.Frag) (g : Sg) (W : WX) (m : MI) : TI := fun σ H R => ∃ α ρ S, Rl K g α σ H ρ S ∧ Post K g W α σ H ρ (fun α' H' it _ => ∀ J, Iok K g α' H' it J → R J H') (m ρ S)
def RI (X : Cx) (g : Sg) (W : WX) (tg iter : Expr) (m : MI) : Prop := PI X tg iter (tMI X.K g W m)
theorem pi_le {X : Cx} {tg e : Expr} {t t' : TI} (h : PI X tg e t) (i : ∀ σ H R, t' σ H R → t σ H R) : PI X tg e t' := ⟨fun pins s σ H R I q => h.run pins s σ H R I (i _ _ _ q)⟩
theorem pi_or {X : Cx} {tg e : Expr} {t t' : TI} (h : PI X tg e t) (h' : PI X tg e t') : PI X tg e (fun σ H R => t σ H R ∨ t' σ H R) := ⟨fun pins s σ H R I q => q.elim (h.run pins s σ H R I) (h'.run pins s σ H R I)⟩
def itOf (x : PV) (S : Sto) : Option Itm := match x with
  | .tup xs => some ⟨xs, []⟩
  | .rol xs => some ⟨xs, []⟩
  | .cell n => match S[n]? with
    | some (.lst xs) => some ⟨xs, [(n, .lst xs)]⟩
    | _ => none
  | _ => none
def mItE (m : ME) : MI := fun ρ S => (m ρ S).bind fun x S1 => match itOf x S1 with
  | some it => .ok it S1
  | none => .bad
section
variable {K : PySem.W.Frag} {g : Sg} {α0 : List Addr} {H0 : Hp}
theorem iok_tup {a : Addr} {vs : List V} {xs : List PV} (h : SqT K H0 a vs) (d : Dens K α0 H0 xs vs) : Iok K g α0 H0 ⟨xs, []⟩ (Itt K a) := by
  intro α H S pre kp r _ i
  have h' := kp.tup h
  have d' := d.mono pre kp
  refine ⟨fun x e => ?_, fun hl => ⟨vs, h', by rw [← d.length]; exact hl⟩⟩
  obtain ⟨v, hv, dv⟩ := d'.get e
  refine ⟨⟨vs, v, h', hv⟩, ?_⟩
  rintro w H' ⟨rfl, hw⟩
  have := hw vs h'
  rw [hv] at this
  cases this
  exact ⟨dv, Kp.refl, r⟩
theorem iok_rol {a : Addr} {vs : List V} {xs : List PV} (h : RoL K H0 a vs) (d : Dens K α0 H0 xs vs) : Iok K g α0 H0 ⟨xs, []⟩ (Itl K a) := by
  intro α H S pre kp r _ i
  have h' := (kp.rol h).sq
  have d' := d.mono pre kp
  refine ⟨fun x e => ?_, fun hl => ⟨vs, h', by rw [← d.length]; exact hl⟩⟩
  obtain ⟨v, hv, dv⟩ := d'.get e
  refine ⟨⟨vs, v, h', hv⟩, ?_⟩
  rintro w H' ⟨rfl, hw⟩
  have := hw vs h'
  rw [hv] at this
  cases this
  exact ⟨dv, Kp.refl, r⟩
theorem iok_lst {n : Nat} {a : Addr} {xs : List PV} (h : α0[n]? = some a) : Iok K g α0 H0 ⟨xs, [(n, .lst xs)]⟩ (Itl K a) := by
  intro α H S pre kp r ck i
  have h1 : α[n]? = some a := by
    obtain ⟨t, rfl⟩ := pre
    rw [List.getElem?_append_left (List.getElem?_eq_some_iff.mp h).1]
    exact h
  obtain ⟨vs, hv, d⟩ := r.at h1 (ck (n, .lst xs) List.mem_cons_self)
  refine ⟨fun x e => ?_, fun hl => ⟨vs, SqL.of hv, by rw [← d.length]; exact hl⟩⟩
  obtain ⟨v, hw, dv⟩ := d.get e
  refine ⟨⟨vs, v, SqL.of hv, hw⟩, ?_⟩
  rintro w H' ⟨rfl, hx⟩
  have := hx vs (SqL.of hv)
  rw [hw] at this
  cases this
  exact ⟨dv, Kp.refl, r⟩
end
section
variable {X : Cx} {g : Sg} {W : WX} {a b c e tg iter : Expr} {es : List Expr} {m ma mb mc : ME} {ms : MA} {mi : MI} {pos p : Pos}
theorem ri_val (h : RE X g W e m) : RI X g W tg e (mItE m) := by
  refine pi_le (pi_or (pi_tup h) (pi_list h)) fun σ H R ⟨α, ρ, S, r, q⟩ => ?_
  unfold mItE at q
  cases e0 : m ρ S with
  | er c fs S1 =>
    rw [e0] at q
    exact .inl ⟨α, ρ, S, r, by rw [e0]; exact q⟩
  | bad => rw [e0] at q; exact q.elim
  | ok x S1 =>
    rw [e0] at q
    by_cases ht : ∃ xs, x = .tup xs
    · obtain ⟨xs, rfl⟩ := ht
      refine .inl ⟨α, ρ, S, r, ?_⟩
      rw [e0]
      intro α1 H1 p1 k1 r1 v dv
      cases dv with
      | tup h0 d => exact ⟨_, rfl, ⟨_, h0⟩, q α1 H1 p1 k1 r1 _ (iok_tup h0 d)⟩
    · refine .inr ⟨α, ρ, S, r, ?_⟩
      rw [e0]
      intro α1 H1 p1 k1 r1 v dv
      cases dv <;> first | exact False.elim (Post.mono p1 k1 q) | skip
      case tup => exact absurd ⟨_, rfl⟩ ht
      case rol h0 d => exact ⟨_, rfl, ⟨_, h0.sq⟩, q α1 H1 p1 k1 r1 _ (iok_rol h0 d)⟩
      case cell n a h0 =>
        simp only [bind_ok, itOf] at q
        cases e1 : S1[n]? with
        | none => simp only [e1] at q; exact q.elim
        | some o =>
          simp only [e1] at q
          cases o <;> first | exact q.elim | skip
          case lst xs =>
            obtain ⟨vs, hv, d⟩ := r1.obj.at h0 e1
            exact ⟨_, rfl, ⟨_, SqL.of hv⟩, q α1 H1 p1 k1 r1 _ (iok_lst h0)⟩
/-- lo, lo + 1, .. -/
def rngP (lo : Int) (n : Nat) : List PV := (List.range n).map fun k => .int (lo + (k : Nat))
theorem iok_rng {K : PySem.W.Frag} {α0 : List Addr} {H0 : Hp} (lo : Int) (n : Nat) : Iok K g α0 H0 ⟨rngP lo n, []⟩ (Itr lo n) := by
  intro α H S pre kp r _ i
  have hlen : (rngP lo n).length = n := by simp [rngP]
  refine ⟨fun x e => ?_, fun hl => ?_⟩
  · have hi : i < n := by
      have h1 := (List.getElem?_eq_some_iff.mp e).1
      have h2 : i < (rngP lo n).length := h1
      rw [hlen] at h2
      exact h2
    have e2 : (rngP lo n)[i]? = some (.int (lo + (i : Nat))) := by simp [rngP, List.getElem?_map, List.getElem?_range, hi]
    have e3 : (rngP lo n)[i]? = some x := e
    rw [e2] at e3
    cases e3
    refine ⟨hi, ?_⟩
    rintro w H' ⟨rfl, rfl⟩
    exact ⟨.int _, Kp.refl, r⟩
  · show n ≤ i
    have h2 : (rngP lo n).length ≤ i := hl
    rw [hlen] at h2
    exact h2
def rng1 (xs : List PV) (S : Sto) : Rs Itm := match xs with
  | [.int j] => if -(2 ^ 62) ≤ j ∧ j < 2 ^ 62 then .ok ⟨rngP 0 j.toNat, []⟩ S else .bad
  | _ => .bad
def rng2 (xs : List PV) (S : Sto) : Rs Itm := match xs with
  | [.int i, .int j] => if -(2 ^ 62) ≤ i ∧ i < 2 ^ 62 ∧ -(2 ^ 62) ≤ j ∧ j < 2 ^ 62 then .ok ⟨rngP i (j - i).toNat, []⟩ S else .bad
  | _ => .bad
def mItA (f : List PV → Sto → Rs Itm) (ms : MA) : MI := fun ρ S => (ms ρ S).bind f
theorem ri_rng1 (hg : Gl X "range") (hm : X.mg "range" = none) (ha : RA X g W [a] ms) (hs : starEach [a] X.env = [(false, eval a X.env)] := by rfl) : RI X g W tg (.Call (.Name "range" p) [a] [] pos) (mItA rng1 ms) := by
  refine pi_le (pi_range1 hg hm ha hs) fun σ H R ⟨α, ρ, S, r, q⟩ => ?_
  refine ⟨α, ρ, S, r, q.of_bind.imp fun α1 H1 xs S1 p1 k1 r1 q1 vs dvs => ?_⟩
  replace q1 := q1 r1
  rcases xs with _ | ⟨x, _ | ⟨y, tl⟩⟩ <;> first | exact False.elim q1 | (cases x <;> exact False.elim q1) | skip
  obtain ⟨v, rfl, dv⟩ := dvs.one
  clear dvs
  cases dv <;> first | exact q1.elim | skip
  case int j =>
    simp only [rng1] at q1
    split at q1
    · rename_i h
      exact ⟨j, rfl, h.1, h.2, q1.here r1 _ (iok_rng 0 j.toNat)⟩
    · exact q1.elim
theorem ri_rng2 (hg : Gl X "range") (hm : X.mg "range" = none) (ha : RA X g W [a, b] ms) (hs : starEach [a, b] X.env = [(false, eval a X.env), (false, eval b X.env)] := by rfl) (hs2 : starEach [b] X.env = [(false, eval b X.env)] := by rfl) : RI X g W tg (.Call (.Name "range" p) [a, b] [] pos) (mItA rng2 ms) := by
  refine pi_le (pi_range2 hg hm ha hs hs2) fun σ H R ⟨α, ρ, S, r, q⟩ => ?_
  refine ⟨α, ρ, S, r, q.of_bind.imp fun α1 H1 xs S1 p1 k1 r1 q1 vs dvs => ?_⟩
  replace q1 := q1 r1
  rcases xs with _ | ⟨x, _ | ⟨y, _ | ⟨z, tl⟩⟩⟩ <;> first | exact False.elim q1 | (cases x <;> first | exact False.elim q1 | (cases y <;> exact False.elim q1)) | skip
  obtain ⟨v, u, rfl, dv, du⟩ := dvs.two
  clear dvs
  cases dv <;> cases du <;> first | exact q1.elim | skip
  case int.int i j =>
    simp only [rng2] at q1
    split at q1
    · rename_i h
      exact ⟨i, j, rfl, h, q1.here r1 _ (iok_rng i (j - i).toNat)⟩
    · exact q1.elim
/-- with their numbers -/
def enumP : Nat → List PV → List PV
  | _, [] => []
  | k, x :: xs => .tup [.int (k : Nat), x] :: enumP (k + 1) xs
theorem enumP_get : ∀ {xs : List PV} {k i : Nat} {y : PV}, (enumP k xs)[i]? = some y → ∃ x, xs[i]? = some x ∧ y = .tup [.int ((k + i : Nat) : Int), x]
  | [], _, _, _, e => by simp [enumP] at e
  | x :: xs, k, 0, y, e => by simp [enumP] at e; exact ⟨x, rfl, by rw [← e]; simp⟩
  | x :: xs, k, i + 1, y, e => by
    obtain ⟨z, h1, h2⟩ := enumP_get (xs := xs) (k := k + 1) (i := i) (y := y) (by simpa [enumP] using e)
    exact ⟨z, by simpa using h1, by rw [h2]; congr 3; omega⟩
theorem enumP_len : ∀ {xs : List PV} {k : Nat}, (enumP k xs).length = xs.length
  | [], _ => rfl
  | _ :: xs, k => by simp [enumP, enumP_len]
def enumM (xs : List PV) (S : Sto) : Rs Itm := match xs with
  | [.cell n] => match S[n]? with
    | some (.lst ys) => .ok ⟨enumP 0 ys, [(n, .lst ys)]⟩ S
    | _ => .bad
  | [.rol ys] => .ok ⟨enumP 0 ys, []⟩ S
  | _ => .bad
theorem iok_pair {K : PySem.W.Frag} {α : List Addr} {H : Hp} {S : Sto} {T : Addr} {x y : PV} {v u : V} (r : RlC K g α H S) (hT : H T = none) (dx : Den K α H x v) (dy : Den K α H y u) :
    Den K α (upd H T (.tup [v, u])) (.tup [x, y]) (.ref T) ∧ Kp H (upd H T (.tup [v, u])) ∧ RlC K g α (upd H T (.tup [v, u])) S := by
  have kp : Kp H (upd H T (.tup [v, u])) := Kp.new hT
  exact ⟨.tup (SqT.of upd_same) (.cons (dx.mono (List.prefix_refl _) kp) (.cons (dy.mono (List.prefix_refl _) kp) .nil)), kp, r.same fun b w e => new_st hT e⟩
theorem iok_enum {K : PySem.W.Frag} {α0 : List Addr} {H0 : Hp} {a : Addr} {raw : List (Nat × MO)} {ys : List PV}
    (h : ∀ α H S, α0 <+: α → Kp H0 H → RlC K g α H S → Chk raw S → ∃ vs, SqL K H a vs ∧ Dens K α H ys vs) : Iok K g α0 H0 ⟨enumP 0 ys, raw⟩ (Ite K a) := by
  intro α H S pre kp r ck i
  obtain ⟨vs, hs, d⟩ := h α H S pre kp r ck
  refine ⟨fun x e => ?_, fun hl => ⟨vs, hs, ?_⟩⟩
  · obtain ⟨y, h1, rfl⟩ := enumP_get e
    obtain ⟨v, hv, dv⟩ := d.get h1
    refine ⟨⟨vs, v, hs, hv⟩, ?_⟩
    rintro w H' ⟨T, z, rfl, hT, rfl, hz⟩
    have := hz vs hs
    rw [hv] at this
    cases this
    rw [Nat.zero_add]
    exact iok_pair r hT (.int _) dv
  · have : (enumP 0 ys).length ≤ i := hl
    rw [enumP_len] at this
    rw [← d.length]
    exact this
theorem lst_at {K : PySem.W.Frag} {α0 α : List Addr} {H : Hp} {S : Sto} {n : Nat} {a : Addr} {ys : List PV} (h0 : α0[n]? = some a) (pre : α0 <+: α) (r : RlC K g α H S) (e : S[n]? = some (.lst ys)) : ∃ vs, H a = some (.lst vs) ∧ Dens K α H ys vs := by
  refine r.at (o := .lst ys) ?_ e
  obtain ⟨t, rfl⟩ := pre
  rw [List.getElem?_append_left (List.getElem?_eq_some_iff.mp h0).1]
  exact h0
theorem ri_enum {tpos : Pos} {elts : List Expr} {kk : Nat} (hg : Gl X "enumerate") (hm : X.mg "enumerate" = none) (ha : RA X g W [e] ms) (hs : starEach [e] X.env = [(false, eval e X.env)] := by rfl) :
    RI X g W (.Tuple elts kk tpos) (.Call (.Name "enumerate" p) [e] [] pos) (mItA enumM ms) := by
  refine pi_le (pi_enum hg hm ha hs) fun σ H R ⟨α, ρ, S, r, q⟩ => ?_
  refine ⟨α, ρ, S, r, q.of_bind.imp fun α1 H1 xs S1 p1 k1 r1 q1 vs dvs => ?_⟩
  replace q1 := q1 r1
  rcases xs with _ | ⟨x, _ | ⟨y, tl⟩⟩ <;> first | exact False.elim q1 | (cases x <;> exact False.elim q1) | skip
  obtain ⟨v, rfl, dv⟩ := dvs.one
  clear dvs
  cases dv <;> first | exact q1.elim | skip
  case rol ys us a h0 d => exact ⟨a, us, rfl, h0.sq, q1.here r1 _ (iok_enum fun α H S pre kp _ _ => ⟨us, (kp.rol h0).sq, d.mono pre kp⟩)⟩
  case cell n a h0 =>
    simp only [enumM] at q1
    split at q1
    · rename_i ys e0
      obtain ⟨us, hu, d⟩ := r1.obj.at h0 e0
      refine ⟨a, us, rfl, SqL.of hu, q1.here r1 _ (iok_enum fun α H S pre kp r ck => ?_)⟩
      obtain ⟨ws, hw, dw⟩ := lst_at h0 pre r (ck _ List.mem_cons_self)
      exact ⟨ws, SqL.of hw, dw⟩
    · exact q1.elim
/-- side by side -/
def zipP : List PV → List PV → List PV
  | x :: xs, y :: ys => .tup [x, y] :: zipP xs ys
  | _, _ => []
theorem zipP_get : ∀ {xs ys : List PV} {i : Nat} {z : PV}, (zipP xs ys)[i]? = some z → ∃ x y, xs[i]? = some x ∧ ys[i]? = some y ∧ z = .tup [x, y]
  | [], _, _, _, e => by simp [zipP] at e
  | _ :: _, [], _, _, e => by simp [zipP] at e
  | x :: xs, y :: ys, 0, z, e => by simp [zipP] at e; exact ⟨x, y, rfl, rfl, e.symm⟩
  | x :: xs, y :: ys, i + 1, z, e => by
    obtain ⟨u, w, h1, h2, h3⟩ := zipP_get (xs := xs) (ys := ys) (i := i) (z := z) (by simpa [zipP] using e)
    exact ⟨u, w, by simpa using h1, by simpa using h2, h3⟩
theorem zipP_len : ∀ {xs ys : List PV}, (zipP xs ys).length = min xs.length ys.length
  | [], _ => by simp [zipP]
  | _ :: _, [] => by simp [zipP]
  | _ :: xs, _ :: ys => by simp [zipP, zipP_len]
def seqOf (x : PV) (S : Sto) : Option (Bool × List PV × List (Nat × MO)) := match x with
  | .tup xs => some (true, xs, [])
  | .rol xs => some (false, xs, [])
  | .cell n => match S[n]? with
    | some (.lst xs) => some (false, xs, [(n, .lst xs)])
    | _ => none
  | _ => none
def zipM (xs : List PV) (S : Sto) : Rs Itm := match xs with
  | [x, y] => match seqOf x S, seqOf y S with
    | some (t, as, ra), some (u, bs, rb) => if t = u then .ok ⟨zipP as bs, ra ++ rb⟩ S else .bad
    | _, _ => .bad
  | _ => .bad
theorem seqOf_den {K : PySem.W.Frag} {α : List Addr} {H : Hp} {S : Sto} (r : RlC K g α H S) {x : PV} {v : V} {t : Bool} {xs : List PV} {raw : List (Nat × MO)} (d : Den K α H x v) (e : seqOf x S = some (t, xs, raw)) :
    ∃ a, v = .ref a ∧ ∀ α' H' S', α <+: α' → Kp H H' → RlC K g α' H' S' → Chk raw S' → ∃ vs, (if t = true then SqT K H' a vs else SqL K H' a vs) ∧ Dens K α' H' xs vs := by
  cases d with
  | tup h d =>
    simp [seqOf] at e
    obtain ⟨rfl, rfl, rfl⟩ := e
    exact ⟨_, rfl, fun α' H' S' pre kp _ _ => ⟨_, by rw [if_pos rfl]; exact kp.tup h, d.mono pre kp⟩⟩
  | rol h d =>
    simp [seqOf] at e
    obtain ⟨rfl, rfl, rfl⟩ := e
    exact ⟨_, rfl, fun α' H' S' pre kp _ _ => ⟨_, by rw [if_neg Bool.false_ne_true]; exact (kp.rol h).sq, d.mono pre kp⟩⟩
  | cell h =>
    simp only [seqOf] at e
    split at e
    · cases e
      refine ⟨_, rfl, fun α' H' S' pre kp r' ck => ?_⟩
      obtain ⟨ws, hw, dw⟩ := lst_at h pre r' (ck _ List.mem_cons_self)
      exact ⟨ws, by rw [if_neg Bool.false_ne_true]; exact SqL.of hw, dw⟩
    · cases e
  | _ => simp [seqOf] at e
theorem ri_zip {tpos : Pos} {elts : List Expr} {kk : Nat} (hg : Gl X "zip") (hm : X.mg "zip" = none) (ha : RA X g W [a, b] ms) (hz : ∀ {ta : TA}, PA X [a, b] ta → PI X (.Tuple elts kk tpos) (.Call (.Name "zip" p) [a, b] [] pos) (fun σ H R => ta σ H fun vs H1 => ∃ a b xs ys, vs = [.ref a, .ref b] ∧ ((SqL X.K H1 a xs ∧ SqL X.K H1 b ys ∧ R (Itz X.K a b) H1) ∨ (SqT X.K H1 a xs ∧ SqT X.K H1 b ys ∧ R (RZ.ItzT X.K a b) H1)))) :
    RI X g W (.Tuple elts kk tpos) (.Call (.Name "zip" p) [a, b] [] pos) (mItA zipM ms) := by
  refine pi_le (hz ha) fun σ H R ⟨α, ρ, S, r, q⟩ => ?_
  refine ⟨α, ρ, S, r, q.of_bind.imp fun α1 H1 xs S1 p1 k1 r1 q1 vs dvs => ?_⟩
  replace q1 := q1 r1
  rcases xs with _ | ⟨x, _ | ⟨y, _ | ⟨z, tl⟩⟩⟩ <;> first | exact False.elim q1 | skip
  obtain ⟨v, u, rfl, dv, du⟩ := dvs.two
  simp only [zipM] at q1
  split at q1
  · rename_i t as ra w bs rb e1 e2
    split at q1
    · rename_i htw
      subst htw
      obtain ⟨a, rfl, ha⟩ := seqOf_den r1.obj dv e1
      obtain ⟨b, rfl, hb⟩ := seqOf_den r1.obj du e2
      have ck0 : Chk ra S1 ∧ Chk rb S1 := by
        constructor
        · intro p hp
          cases x <;> simp only [seqOf] at e1 <;> first | (cases e1; done) | skip
          all_goals first | (simp at e1; obtain ⟨_, _, rfl⟩ := e1; cases hp) | skip
          split at e1
          · cases e1; simp at hp; subst hp; assumption
          · cases e1
        · intro p hp
          cases y <;> simp only [seqOf] at e2 <;> first | (cases e2; done) | skip
          all_goals first | (simp at e2; obtain ⟨_, _, rfl⟩ := e2; cases hp) | skip
          split at e2
          · cases e2; simp at hp; subst hp; assumption
          · cases e2
      obtain ⟨xs1, hx1, dx1⟩ := ha α1 H1 S1 (List.prefix_refl _) Kp.refl r1.obj ck0.1
      obtain ⟨ys1, hy1, dy1⟩ := hb α1 H1 S1 (List.prefix_refl _) Kp.refl r1.obj ck0.2
      refine ⟨a, b, xs1, ys1, rfl, ?_⟩
      cases t with
      | true =>
        rw [if_pos rfl] at hx1 hy1
        refine .inr ⟨hx1, hy1, q1.here r1 _ fun α H S pre kp r ck i => ?_⟩
        obtain ⟨xs2, hx2, dx2⟩ := ha α H S pre kp r fun p hp => ck p (List.mem_append_left _ hp)
        obtain ⟨ys2, hy2, dy2⟩ := hb α H S pre kp r fun p hp => ck p (List.mem_append_right _ hp)
        rw [if_pos rfl] at hx2 hy2
        refine ⟨fun z e => ?_, fun hl => ⟨xs2, ys2, hx2, hy2, ?_⟩⟩
        · obtain ⟨x', y', h1, h2, rfl⟩ := zipP_get e
          obtain ⟨v', hv, dv'⟩ := dx2.get h1
          obtain ⟨u', hu, du'⟩ := dy2.get h2
          refine ⟨⟨xs2, ys2, v', u', hx2, hy2, hv, hu⟩, ?_⟩
          rintro w H' ⟨T, v2, u2, rfl, hT, rfl, hh1, hh2⟩
          have q1 := hh1 xs2 hx2
          have q2 := hh2 ys2 hy2
          rw [hv] at q1
          rw [hu] at q2
          cases q1
          cases q2
          exact iok_pair r hT dv' du'
        · have : (zipP as bs).length ≤ i := hl
          rw [zipP_len, dx2.length, dy2.length] at this
          omega
      | false =>
        rw [if_neg Bool.false_ne_true] at hx1 hy1
        refine .inl ⟨hx1, hy1, q1.here r1 _ fun α H S pre kp r ck i => ?_⟩
        obtain ⟨xs2, hx2, dx2⟩ := ha α H S pre kp r fun p hp => ck p (List.mem_append_left _ hp)
        obtain ⟨ys2, hy2, dy2⟩ := hb α H S pre kp r fun p hp => ck p (List.mem_append_right _ hp)
        rw [if_neg Bool.false_ne_true] at hx2 hy2
        refine ⟨fun z e => ?_, fun hl => ⟨xs2, ys2, hx2, hy2, ?_⟩⟩
        · obtain ⟨x', y', h1, h2, rfl⟩ := zipP_get e
          obtain ⟨v', hv, dv'⟩ := dx2.get h1
          obtain ⟨u', hu, du'⟩ := dy2.get h2
          refine ⟨⟨xs2, ys2, v', u', hx2, hy2, hv, hu⟩, ?_⟩
          rintro w H' ⟨T, v2, u2, rfl, hT, rfl, hh1, hh2⟩
          have q1 := hh1 xs2 hx2
          have q2 := hh2 ys2 hy2
          rw [hv] at q1
          rw [hu] at q2
          cases q1
          cases q2
          exact iok_pair r hT dv' du'
        · have : (zipP as bs).length ≤ i := hl
          rw [zipP_len, dx2.length, dy2.length] at this
          omega
    · exact q1.elim
  · exact q1.elim

/-! ### for, while -/
/-- how a turn goes on -/
def loopE (o : Ot) (f : PSt → Sto → Ot) : Ot := match o with
  | .nx ρ S => f ρ S
  | .ct ρ S => f ρ S
  | .bk ρ S => .nx ρ S
  | .rt x S => .rt x S
  | .er c fs ρ S => .er c fs ρ S
  | .bad => .bad
theorem loop_post {K : PySem.W.Frag} {α : List Addr} {H : Hp} {D : Ends} {N : St → Hp → Prop} {f : PSt → Sto → Ot} (hN : ∀ ρ2 S2 α3 σ3 H3, α <+: α3 → Kp H H3 → Rl K g α3 σ3 H3 ρ2 S2 → SPost K g W α3 H3 D (f ρ2 S2) → N σ3 H3) :
    ∀ {o : Ot}, SPost K g W α H D (loopE o f) → SPost K g W α H { D with nx := N, ct := N, bk := D.nx } o
  | .nx ρ2 S2, q => fun α3 σ3 H3 p3 k3 r3 => hN ρ2 S2 α3 σ3 H3 p3 k3 r3 (SPost.mono p3 k3 q)
  | .ct ρ2 S2, q => fun α3 σ3 H3 p3 k3 r3 => hN ρ2 S2 α3 σ3 H3 p3 k3 r3 (SPost.mono p3 k3 q)
  | .bk _ _, q => q
  | .rt _ _, q => q
  | .er _ _ _ _, q => q
  | .bad, q => q
open Classical in
noncomputable def forGo (raw : List (Nat × MO)) (t : MG) (body : MS) : List PV → PSt → Sto → Ot
  | [], ρ, S => if Chk raw S then .nx ρ S else .bad
  | x :: xs, ρ, S => if Chk raw S then bindG t x ρ S fun ρ1 => loopE (body ρ1 S) fun ρ2 S2 => forGo raw t body xs ρ2 S2
    else .bad
noncomputable def mFor (mi : MI) (t : MG) (body : MS) : MS := fun ρ S => (mi ρ S).ot ρ fun it S1 => forGo it.raw t body it.items ρ S1
theorem rs_for {t : MG} {mb : MS} {body : List Stmt} (hp : PassesOwn (model X.prog X.w) X.A X.env X.xe) (hc : X.calm = true) (hi : RI X g W tg iter mi) (hg : RG X g tg t) (hb : RSs X g W body mb)
    (hs : ∀ x, foldedSetIterable iter X.env x = pure x := by intro _; rfl) : RS X g W (.For tg iter body [] pos) (mFor mi t mb) := by
  refine ps_le (ps_for hp hc hi hg hb hs) fun D σ H ⟨α, ρ, S, r, q⟩ => ?_
  refine ⟨α, ρ, S, r, (then_post q).imp fun α1 H1 it S1 p1 k1 r1 q1 J ok => ?_⟩
  replace q1 := q1 r1
  refine ⟨fun i m σ' H' => ∃ α' ρ' S', α1 <+: α' ∧ Kp H1 H' ∧ Rl X.K g α' σ' H' ρ' S' ∧ m = it.items.length - i ∧ SPost X.K g W α' H' D (forGo it.raw t mb (it.items.drop i) ρ' S'), ⟨_, α1, ρ, S1, List.prefix_refl _, Kp.refl, r1, rfl, by rw [List.drop_zero]; exact q1⟩, ?_⟩
  rintro i m σ' H' ⟨α', ρ', S', pre, kp, r', rfl, q'⟩
  cases e : it.items[i]? with
  | none =>
    have hl : it.items.length ≤ i := List.getElem?_eq_none_iff.mp e
    rw [List.drop_of_length_le hl] at q'
    unfold forGo at q'
    split at q'
    · rename_i ck
      exact .inl ⟨(ok α' H' S' pre kp r'.obj ck i).2 hl, q' α' σ' H' (List.prefix_refl _) Kp.refl r'⟩
    · exact q'.elim
  | some x =>
    obtain ⟨hi, e'⟩ := List.getElem?_eq_some_iff.mp e
    rw [List.drop_eq_getElem_cons hi, e'] at q'
    unfold forGo at q'
    split at q'
    · rename_i ck
      obtain ⟨go, yl⟩ := (ok α' H' S' pre kp r'.obj ck i).1 x e
      refine .inr ⟨go, _, fun _ _ w => ⟨it.items.length - (i + 1), by omega, w⟩, fun v H2 hy => ?_⟩
      obtain ⟨dx, k2, r2⟩ := yl v H2 hy
      unfold bindG at q'
      split at q'
      · rename_i l el
        refine ⟨α', S', x, l, r2, dx, el, fun us hu => ⟨α', setl ρ' l, S', (r'.keep (List.prefix_refl _) k2 r2).setl hu, ?_⟩⟩
        exact loop_post (fun ρ2 S2 α3 σ3 H3 p3 k3 r3 q3 => ⟨α3, ρ2, S2, pre.trans p3, (kp.trans k2).trans k3, r3, rfl, q3⟩) (SPost.mono (List.prefix_refl α') k2 q')
      · exact q'.elim
    · exact q'.elim
/-- so many turns at most -/
def whGo (t : MT) (body : MS) : Nat → PSt → Sto → Ot
  | 0, _, _ => .bad
  | n + 1, ρ, S => (t ρ S).ot ρ fun b S1 => if b = true then (loopE (body ρ S1) fun ρ2 S2 => whGo t body n ρ2 S2) else .nx ρ S1
open Classical in
/-- the number of turns is whatever it takes -/
noncomputable def mWhile (t : MT) (body : MS) : MS := fun ρ S => if h : ∃ n, whGo t body n ρ S ≠ .bad then whGo t body h.choose ρ S else .bad
theorem wh_mono {t : MT} {body : MS} : ∀ {n k : Nat} {ρ : PSt} {S : Sto}, whGo t body n ρ S ≠ .bad → whGo t body (n + k) ρ S = whGo t body n ρ S
  | 0, _, _, _, h => absurd rfl h
  | n + 1, k, ρ, S, h => by
    have e : n + 1 + k = (n + k) + 1 := by omega
    rw [e]
    unfold whGo at h ⊢
    revert h
    cases t ρ S with
    | ok b S1 =>
      cases b with
      | false => exact fun _ => rfl
      | true =>
        simp only [ot_ok, if_true]
        cases body ρ S1 with
        | nx ρ2 S2 => exact fun h => wh_mono h
        | ct ρ2 S2 => exact fun h => wh_mono h
        | bk ρ2 S2 => exact fun _ => rfl
        | rt x S2 => exact fun _ => rfl
        | er c fs ρ2 S2 => exact fun _ => rfl
        | bad => exact fun _ => rfl
    | er c fs S1 => exact fun _ => rfl
    | bad => exact fun _ => rfl
theorem while_eq {t : MT} {body : MS} {n : Nat} {ρ : PSt} {S : Sto} (h : whGo t body n ρ S ≠ .bad) : mWhile t body ρ S = whGo t body n ρ S := by
  have hex : ∃ n, whGo t body n ρ S ≠ .bad := ⟨n, h⟩
  unfold mWhile
  rw [dif_pos hex]
  have h1 := wh_mono (k := n) hex.choose_spec
  have h2 := wh_mono (k := hex.choose) h
  rw [Nat.add_comm] at h2
  exact h1.symm.trans h2
theorem rs_while {t : MT} {mb : MS} {body : List Stmt} (hp : PassesOwn (model X.prog X.w) X.A X.env X.xe) (hc : RT X g W c t) (hb : RSs X g W body mb) : RS X g W (.While c body [] pos) (mWhile t mb) := by
  refine ps_le (ps_while hp hc hb) fun D σ H ⟨α, ρ, S, r, q⟩ => ?_
  unfold mWhile at q
  split at q
  · rename_i hex
    generalize hex.choose = n at q
    refine ⟨fun m σ' H' => ∃ α' ρ' S', Rl X.K g α' σ' H' ρ' S' ∧ SPost X.K g W α' H' D (whGo t mb m ρ' S'), ⟨n, α, ρ, S, r, q⟩, ?_⟩
    rintro m σ' H' ⟨α', ρ', S', r', q'⟩
    cases m with
    | zero => exact q'.elim
    | succ m =>
      unfold whGo at q'
      refine ⟨α', ρ', S', r', (then_post q').imp fun α1 H1 b S1 p1 k1 r1 q1 => ?_⟩
      replace q1 := q1 r1
      cases b with
      | false => rw [if_neg Bool.false_ne_true] at q1; show ite _ _ _; rw [if_neg Bool.false_ne_true]; exact q1 α1 σ' H1 (List.prefix_refl _) Kp.refl r1
      | true =>
        rw [if_pos rfl] at q1
        show ite _ _ _
        rw [if_pos rfl]
        exact ⟨_, fun _ _ w => ⟨m, Nat.lt_succ_self m, w⟩, α1, ρ', S1, r1, loop_post (fun ρ2 S2 α3 σ3 H3 p3 k3 r3 q3 => ⟨α3, ρ2, S2, r3, q3⟩) q1⟩
  · exact q.elim
end
end Pm
namespace Pm
open PySem L2
/-! ### comprehensions -/
def wipeP (ρ : PSt) : List Nat → PSt
  | [] => ρ
  | v :: vs => (wipeP ρ vs).set v none
abbrev W0 : WX := fun _ _ _ _ => False
/-- nothing is raised within -/
def Rs.sb {β γ : Type} (r : Rs β) (f : β → Sto → Rs γ) : Rs γ := match r with
  | .ok x S => f x S
  | _ => .bad
@[simp] theorem sb_ok {β γ : Type} {x : β} {S : Sto} {f : β → Sto → Rs γ} : (Rs.ok x S).sb f = f x S := rfl
section
variable {K : PySem.W.Frag} {g : Sg} {W : WX} {α : List Addr} {σ : St} {H : Hp} {ρ : PSt} {S : Sto}
theorem wipeP_length (ρ : PSt) : ∀ vs : List Nat, (wipeP ρ vs).length = ρ.length
  | [] => rfl
  | v :: vs => by unfold wipeP; rw [List.length_set, wipeP_length ρ vs]
theorem Rl.wipe (hz : g.sut = none) (r : Rl K g α σ H ρ S) : ∀ vs : List Nat, Rl K g α (L2.wipe σ vs) H (wipeP ρ vs) S
  | [] => r
  | v :: vs => by
    have r' := Rl.wipe hz r vs
    refine ⟨r'.obj, ?_, fun i x e => ?_, fun z e => by rw [hz] at e; cases e⟩
    · unfold wipeP L2.wipe
      rw [List.length_set, List.length_set]
      exact r'.len
    · unfold wipeP at e
      unfold L2.wipe
      by_cases h : v = i
      · subst h
        by_cases hl : v < (wipeP ρ vs).length
        · rw [List.getElem?_set_self hl] at e; cases e
        · rw [List.getElem?_eq_none (by simpa using hl)] at e; cases e
      · rw [List.getElem?_set_ne h] at e ⊢
        exact r'.loc i x e
theorem wipe_set {σ : St} {i : Nat} {o : Option V} : ∀ {vs : List Nat}, i ∈ vs → L2.wipe (σ.set i o) vs = L2.wipe σ vs
  | v :: vs, h => by
    unfold L2.wipe
    by_cases hv : i ∈ vs
    · rw [wipe_set hv]
    · have e : i = v := by
        rcases List.mem_cons.mp h with e | e
        · exact e
        · exact absurd e hv
      subst e
      have gen : ∀ (σ : St) (ws : List Nat), L2.wipe (σ.set i o) ws = if i ∈ ws then L2.wipe σ ws else (L2.wipe σ ws).set i o := by
        intro σ ws
        induction ws with
        | nil => simp [L2.wipe]
        | cons w ws ih =>
          unfold L2.wipe
          rw [ih]
          by_cases h1 : i ∈ ws
          · simp [h1]
          · by_cases h2 : i = w
            · subst h2; simp [h1]
            · simp [h1, h2]
              rw [List.set_comm _ _ h2]
      rw [gen, if_neg hv]
      simp
theorem wipe_setl {vs : List Nat} : ∀ {l : List (Nat × V)} {σ : St}, (∀ p ∈ l, p.1 ∈ vs) → L2.wipe (Pm.setl σ l) vs = L2.wipe σ vs
  | [], _, _ => rfl
  | p :: l, σ, h => by
    unfold Pm.setl
    rw [wipe_setl fun q hq => h q (List.mem_cons_of_mem _ hq), wipe_set (h p List.mem_cons_self)]
theorem wipe_wipe {σ : St} {vs : List Nat} : L2.wipe (L2.wipe σ vs) vs = L2.wipe σ vs := by
  have gen : ∀ (ws : List Nat) (σ : St), (∀ w ∈ ws, w ∈ vs) → L2.wipe (L2.wipe σ ws) vs = L2.wipe σ vs := by
    intro ws
    induction ws with
    | nil => intro σ _; rfl
    | cons w ws ih =>
      intro σ h
      show L2.wipe ((L2.wipe σ ws).set w none) vs = _
      rw [wipe_set (h w List.mem_cons_self), ih σ fun x hx => h x (List.mem_cons_of_mem _ hx)]
  exact gen vs σ fun _ h => h
/-- of what raises nothing -/
theorem Post.of_sb {β γ : Type} {P : List Addr → Hp → γ → Sto → Prop} {f : β → Sto → Rs γ} : ∀ {r : Rs β}, Post K g W α σ H ρ P (r.sb f) → Post K g W0 α σ H ρ (fun α' H' x S' => Rl K g α' σ H' ρ S' → Post K g W α' σ H' ρ P (f x S')) r
  | .ok _ _, h => fun _ _ p k _ _ => Post.mono p k h
  | .er _ _ _, h => h.elim
  | .bad, h => h
end
open Classical in
/-- the items of one generator, into the list at D -/
noncomputable def lcGo (raw : List (Nat × MO)) (t : MG) (tt : MT) (te : ME) (vs : List Nat) (D : Nat) (ρ : PSt) : List PV → Sto → Rs PV
  | [], S => if Chk raw S then .ok (.cell D) S else .bad
  | x :: xs, S => if Chk raw S then match t x S with
    | some l => if (∀ p ∈ l, p.1 ∈ vs) then
        (tt (setl (wipeP ρ vs) l) S).sb fun b S1 => if b = true then (te (setl (wipeP ρ vs) l) S1).sb fun y S2 => match S2[D]? with
          | some (.lst acc) => if acc.length < sizeLine then lcGo raw t tt te vs D ρ xs (S2.set D (.lst (acc ++ [y]))) else .bad
          | _ => .bad
        else lcGo raw t tt te vs D ρ xs S1
      else .bad
    | none => .bad
    else .bad
noncomputable def mLc (mi : MI) (t : MG) (tt : MT) (te : ME) (vs : List Nat) : ME := fun ρ S => (mi ρ S).bind fun it S1 => lcGo it.raw t tt te vs S1.length ρ it.items (S1 ++ [.lst []])
def mYes : MT := fun _ S => .ok true S
section
variable {X : Cx} {g : Sg} {W : WX} {a b c e tg iter elt : Expr} {es : List Expr} {m ma mb mc : ME} {mi : MI} {t : MG} {mt : MT} {pos p : Pos}
theorem pts_yes {g : Sg} : PTs X [] (tMT X.K g W0 mYes) := ⟨fun pins s σ H Q I ⟨α, ρ, S, r, q⟩ => pts_nil.run pins s σ H Q I (q.here r)⟩
theorem pts_if {g : Sg} (h : RT X g W0 c mt) : PTs X [c] (tMT X.K g W0 mt) := pts_one h
theorem lc_le {wi : TI} {own : List Nat} (hz : g.sut = none) (hi : ∀ σ H R, tMI X.K g W mi σ H R → wi σ H R) : ∀ σ H Q, tM X.K g W (mLc mi t mt m own) σ H Q → tLc wi (tMG X.K g t) (tMT X.K g W0 mt) (tM X.K g W0 m) own σ H Q := by
  intro σ H Q ⟨α, ρ, S, r, q⟩
  refine hi _ _ _ ⟨α, ρ, S, r, q.of_bind.imp fun α1 H1 it S1 p1 k1 r1 q1 J ok D hD => ?_⟩
  replace q1 := q1 r1
  have kp0 : Kp H1 (upd H1 D (.lst [])) := Kp.new hD
  have r0 : RlC X.K g (α1 ++ [D]) (upd H1 D (.lst [])) (S1 ++ [.lst []]) := r1.obj.new hD ⟨[], upd_same, .nil⟩
  have hD1 : (α1 ++ [D])[S1.length]? = some D := by rw [← r1.obj.len]; simp
  refine ⟨fun i n H' => ∃ α' S', α1 ++ [D] <+: α' ∧ Kp H1 H' ∧ RlC X.K g α' H' S' ∧ n = it.items.length - i ∧
    Post X.K g W α' σ H' ρ (fun α' H' x _ => ∀ v, Den X.K α' H' x v → Q v H') (lcGo it.raw t mt m own S1.length ρ (it.items.drop i) S'),
    ⟨_, α1 ++ [D], S1 ++ [.lst []], List.prefix_refl _, kp0, r0, rfl, ?_⟩, ?_⟩
  · rw [List.drop_zero]
    exact Post.mono (List.prefix_append _ _) kp0 q1
  · rintro i n H' ⟨α', S', pre, kp, r', rfl, q'⟩
    have preA : α1 <+: α' := (List.prefix_append _ _).trans pre
    have hD' : α'[S1.length]? = some D := by
      obtain ⟨u, rfl⟩ := pre
      rw [List.getElem?_append_left (List.getElem?_eq_some_iff.mp hD1).1]
      exact hD1
    have rl' : Rl X.K g α' σ H' ρ S' := r1.keep preA kp r'
    cases e : it.items[i]? with
    | none =>
      have hl : it.items.length ≤ i := List.getElem?_eq_none_iff.mp e
      rw [List.drop_of_length_le hl] at q'
      unfold lcGo at q'
      split at q'
      · rename_i ck
        exact .inl ⟨(ok α' H' S' preA kp r' ck i).2 hl, q'.here rl' _ (.cell hD')⟩
      · exact q'.elim
    | some x =>
      obtain ⟨hi', e'⟩ := List.getElem?_eq_some_iff.mp e
      rw [List.drop_eq_getElem_cons hi', e'] at q'
      unfold lcGo at q'
      split at q'
      · rename_i ck
        obtain ⟨go, yl⟩ := (ok α' H' S' preA kp r' ck i).1 x e
        split at q'
        · rename_i l el
          split at q'
          · rename_i hl
            refine .inr ⟨go, _, fun _ w => ⟨it.items.length - (i + 1), by omega, w⟩, fun v H2 hy => ?_⟩
            obtain ⟨dx, k2, r2⟩ := yl v H2 hy
            refine ⟨α', S', x, l, r2, dx, el, fun us hu => ?_⟩
            have hus : ∀ p ∈ us, p.1 ∈ own := fun p hp => by
              have h1 : p.1 ∈ us.map (·.1) := List.mem_map_of_mem hp
              rw [← hu.1] at h1
              obtain ⟨q, hq, e1⟩ := List.mem_map.mp h1
              rw [← e1]
              exact hl q hq
            refine ⟨by rw [wipe_setl hus, wipe_wipe], ?_⟩
            have rw2 : Rl X.K g α' (Pm.setl (L2.wipe σ own) us) H2 (setl (wipeP ρ own) l) S' := (Rl.wipe hz (rl'.keep (List.prefix_refl _) k2 r2) own).setl hu
            have q2 := Post.mono (List.prefix_refl α') k2 q'
            refine ⟨α', _, S', rw2, ?_⟩
            revert q2
            cases mt (setl (wipeP ρ own) l) S' with
            | er c fs S2 => exact fun q2 => q2.elim
            | bad => exact fun q2 => q2
            | ok b S2 =>
              intro q2 α3 H3 p3 k3 r3
              have q3 := Post.mono p3 k3 q2
              rw [sb_ok] at q3
              cases b with
              | false =>
                rw [if_neg Bool.false_ne_true] at q3
                show ite _ _ _
                rw [if_neg Bool.false_ne_true]
                exact ⟨α3, S2, pre.trans p3, (kp.trans k2).trans k3, r3.obj, rfl, q3⟩
              | true =>
                rw [if_pos rfl] at q3
                show ite _ _ _
                rw [if_pos rfl]
                refine ⟨α3, _, S2, r3, ?_⟩
                revert q3
                cases m (setl (wipeP ρ own) l) S2 with
                | er c fs S4 => exact fun q3 => q3.elim
                | bad => exact fun q3 => q3
                | ok y S4 =>
                  intro q3 α4 H4 p4 k4 r4 w dw
                  have q4 := Post.mono p4 k4 q3
                  rw [sb_ok] at q4
                  split at q4
                  · rename_i acc e4
                    split at q4
                    · rename_i hacc
                      have hD4 : α4[S1.length]? = some D := by
                        obtain ⟨u, hu4⟩ := (p3.trans p4)
                        rw [← hu4, List.getElem?_append_left (List.getElem?_eq_some_iff.mp hD').1]
                        exact hD'
                      obtain ⟨ws, hws, dws⟩ := r4.obj.at hD4 e4
                      have kp4 : Kp H4 (upd H4 D (.lst (ws ++ [w]))) := r4.obj.kset hD4 e4
                      refine ⟨ws, hws, by rw [← dws.length]; exact hacc, α4, _, pre.trans (p3.trans p4), (((kp.trans k2).trans k3).trans k4).trans kp4, r4.obj.set (o' := .lst (acc ++ [y])) hD4 e4 ⟨_, upd_same, ?_⟩, rfl, Post.mono (List.prefix_refl _) kp4 q4⟩
                      exact (dws.mono (List.prefix_refl _) kp4).append (.cons (dw.mono (List.prefix_refl _) kp4) .nil)
                    · exact q4.elim
                  · exact q4.elim
          · exact q'.elim
        · exact q'.elim
      · exact q'.elim
theorem re_lc {ifs : List Expr} {scope : Scope} {own : List (Str × Nat)} (hz : g.sut = none) (hc : X.calm = true) (hN : X.N.Nodup) (hi : RI X g W tg iter mi) (ok : BlkOk X.N X.env.scope scope own)
    (hg : ∀ (s : Shared) (H : Hp) (C : Addr) (cl : List (Str × Addr)) (fp : List Addr), RG (X.blk s H scope (compEnvC scope cl C X.env) fp) g tg t) (ht : ∀ (s : Shared) (H : Hp) (C : Addr) (cl : List (Str × Addr)) (fp : List Addr), PTs (X.blk s H scope (compEnvC scope cl C X.env) fp) ifs (tMT X.K g W0 mt))
    (he : ∀ (s : Shared) (H : Hp) (C : Addr) (cl : List (Str × Addr)) (fp : List Addr), RE (X.blk s H scope (compEnvC scope cl C X.env) fp) g W0 elt m) (hs : ∀ x, foldedSetIterable iter X.env x = pure x := by intro _; rfl) :
    RE X g W (.ListComp elt [⟨tg, iter, ifs, 0⟩] scope pos) (mLc mi t mt m (own.map (·.2))) :=
  pe_le (pe_lc (g := tMG X.K g t) (tt := tMT X.K g W0 mt) (te := tM X.K g W0 m) hc hN hi ok (fun s H C cl fp => hg s H C cl fp) (fun s H C cl fp => ht s H C cl fp) (fun s H C cl fp => he s H C cl fp) hs) (lc_le hz fun _ _ _ h => h)
theorem rs_setLc {i : Nat} {y : Str} {py spos : Pos} {ifs : List Expr} {scope : Scope} {own : List (Str × Nat)} (hz : g.sut = none) (hc : X.calm = true) (hN : X.N.Nodup) (hy : X.N[i]? = some y) (hyl : X.env.scope.names.lookup y = some .local)
    (hsw : swapsWith (.ListComp elt [⟨tg, iter, ifs, 0⟩] scope pos) (some (.Name y py)) spos.line X.env = pure true) (hi : RI X g W tg iter mi) (ok : BlkOk X.N X.env.scope scope own)
    (hg : ∀ (s : Shared) (H : Hp) (C : Addr) (cl : List (Str × Addr)) (fp : List Addr), RG (X.blk s H scope (compEnvC scope cl C X.env) fp) g tg t) (ht : ∀ (s : Shared) (H : Hp) (C : Addr) (cl : List (Str × Addr)) (fp : List Addr), PTs (X.blk s H scope (compEnvC scope cl C X.env) fp) ifs (tMT X.K g W0 mt))
    (he : ∀ (s : Shared) (H : Hp) (C : Addr) (cl : List (Str × Addr)) (fp : List Addr), RE (X.blk s H scope (compEnvC scope cl C X.env) fp) g W0 elt m) (hs : ∀ x, foldedSetIterable iter X.env x = pure x := by intro _; rfl) :
    RS X g W (.Assign [.Name y py] (.ListComp elt [⟨tg, iter, ifs, 0⟩] scope pos) spos) (mAsg (mLc mi t mt m (own.map (·.2))) (mgName i)) := by
  refine ps_le (ps_setLc (g := tMG X.K g t) (tt := tMT X.K g W0 mt) (te := tM X.K g W0 m) hc hN hy hyl hsw hi ok (fun s H C cl fp => hg s H C cl fp) (fun s H C cl fp => ht s H C cl fp) (fun s H C cl fp => he s H C cl fp) hs) fun D σ H ⟨α, ρ, S, r, q⟩ => ?_
  refine lc_le hz (fun _ _ _ h => h) _ _ _ ⟨α, ρ, S, r, (then_post q).imp fun α1 H1 x S1 p1 k1 r1 q1 v dv => ?_⟩
  exact q1 r1 α1 (σ.set i (some v)) H1 (List.prefix_refl _) Kp.refl (r1.set1 dv)
end
end Pm
namespace Pm
open PySem L2
/-! ### what nobody can reach any more is dropped -/
mutual
def clo (n : Nat) : PV → Bool
  | .tup xs => clos n xs
  | .rol xs => clos n xs
  | .cell c => decide (c < n)
  | _ => true
def clos (n : Nat) : List PV → Bool
  | [] => true
  | x :: xs => clo n x && clos n xs
end
def cloO (n : Nat) : MO → Bool
  | .lst xs => clos n xs
  | .dk kvs => clos n (kvs.map (·.2))
  | .dt kvs => clos n (kvs.map (·.2))
  | .ins _ fs => clos n (fs.map (·.2))
/-- the first n objects, where the values and these objects reach no others -/
def gcS (n : Nat) (vs : List PV) (S : Sto) : Sto := if clos n vs = true ∧ (S.take n).all (cloO n) = true then S.take n else S
section
variable {K : PySem.W.Frag} {g : Sg} {W : WX} {α α' : List Addr} {σ : St} {H : Hp} {ρ : PSt} {S : Sto} {n : Nat}
mutual
theorem Den.low : ∀ {x : PV} {v : V}, Den K α H x v → clo n x = true → Den K (α.take n) H x v
  | _, _, .non, _ => .non
  | _, _, .bl b, _ => .bl b
  | _, _, .int b, _ => .int b
  | _, _, .str b, _ => .str b
  | _, _, .tup h d, e => .tup h (Dens.low d (by simpa [clo] using e))
  | _, _, .rol h d, e => .rol h (Dens.low d (by simpa [clo] using e))
  | _, _, .cell h, e => .cell (by
      have hc := of_decide_eq_true (show decide _ = true from e)
      rw [List.getElem?_take_of_lt hc]
      exact h)
theorem Dens.low : ∀ {xs : List PV} {vs : List V}, Dens K α H xs vs → clos n xs = true → Dens K (α.take n) H xs vs
  | _, _, .nil, _ => .nil
  | _, _, .cons a b, e => by
    have e' := Bool.and_eq_true_iff.mp (show (clo n _ && clos n _) = true from e)
    exact .cons (Den.low a e'.1) (Dens.low b e'.2)
end
theorem Mob.low {a : Addr} : ∀ {o : MO}, Mob K g α H a o → cloO n o = true → Mob K g (α.take n) H a o
  | .lst _, ⟨vs, h, d⟩, e => ⟨vs, h, d.low e⟩
  | .dk _, ⟨ks, h, e1, d⟩, e => ⟨ks, h, e1, d.low e⟩
  | .dt _, ⟨ks, h, e1, d⟩, e => ⟨ks, h, e1, d.low e⟩
  | .ins _ _, ⟨C, dx, vfs, c, h, e1, d⟩, e => ⟨C, dx, vfs, c, h, e1, d.low e⟩
theorem RlC.low (r : RlC K g α H S) (h : (S.take n).all (cloO n) = true) : RlC K g (α.take n) H (S.take n) := by
  refine ⟨by simp [r.len], r.nd.sublist (List.take_sublist _ _), fun k a o h1 h2 => ?_, r.tab⟩
  have hk : k < n := by
    have := (List.getElem?_eq_some_iff.mp h1).1
    simp at this
    omega
  rw [List.getElem?_take_of_lt hk] at h1
  have ho := List.all_eq_true.mp h o (List.mem_of_getElem? h2)
  rw [List.getElem?_take_of_lt hk] at h2
  exact (r.cel k a o h1 h2).low ho
theorem gc_ok {α0 : List Addr} {vs : List PV} (pre : α0 <+: α) (hn : α0.length = n) (r : RlC K g α H S) : ∃ α', α0 <+: α' ∧ RlC K g α' H (gcS n vs S) ∧ ∀ us, Dens K α H vs us → Dens K α' H vs us := by
  unfold gcS
  split
  · rename_i h
    refine ⟨α.take n, ?_, r.low h.2, fun us d => d.low h.1⟩
    obtain ⟨t, rfl⟩ := pre
    rw [← hn]
    simp
  · exact ⟨α, pre, r, fun us d => d⟩
end

/-! ### defs -/
def FPost (K : PySem.W.Frag) (g : Sg) (α : List Addr) (H : Hp) (Q : VK) (E : XK) : Rs PV → Prop
  | .ok x S' => ∀ α' H' v, α <+: α' → Kp H H' → RlC K g α' H' S' → Den K α' H' x v → Q v H'
  | .er c fs S' => ∀ α' H' C d, α <+: α' → Kp H H' → RlC K g α' H' S' → g.exc c = some C → XF K α' H' d fs → E (.ref C) (some d) H'
  | .bad => False
/-- the promise of a def that m tells -/
def spM (K : PySem.W.Frag) (g : Sg) (np : Nat) (m : MF) : Sp := fun vs H Q E => ∃ α ps S, RlC K g α H S ∧ Dens K α H ps vs ∧ ps.length = np ∧ FPost K g α H Q E (m ps S)
/-- a def of np parameters and n names -/
def callD (np n : Nat) (b : MS) : MF := fun ps S => if ps.length = np then
    match b (ps.map some ++ List.replicate (n - ps.length) none) S with
    | .rt x S' => .ok x (gcS S.length [x] S')
    | .nx _ S' => .ok .non (gcS S.length [] S')
    | .er c fs _ S' => .er c fs (gcS S.length (fs.map (·.2)) S')
    | _ => .bad
  else .bad
theorem Dens.single {K : PySem.W.Frag} {α : List Addr} {H : Hp} {x : PV} {v : V} (d : Den K α H x v) : Dens K α H [x] [v] := .cons d .nil
theorem body_ok {X : Cx} {g : Sg} {E : XK} {body : List Stmt} {b : MS} {ps : List PV} {vs : List V} {α : List Addr} {H : Hp} {S : Sto} {Q : VK} {n : Nat}
    (hz : g.sut = none) (r : RlC X.K g α H S) (d : Dens X.K α H ps vs) (q : FPost X.K g α H Q E (callD ps.length n b ps S)) :
    tMS X.K g (fun cls d _ H' => E cls d H') b { nx := fun _ H' => Q .non H', rt := Q } (vs.map some ++ List.replicate (n - vs.length) none) H := by
  refine ⟨α, ps.map some ++ List.replicate (n - ps.length) none, S, ⟨r, by simp [d.length], fun i x e => ?_, fun z e => by rw [hz] at e; cases e⟩, ?_⟩
  · by_cases hi : i < ps.length
    · rw [List.getElem?_append_left (by simpa using hi), List.getElem?_map] at e
      obtain ⟨y, hy, e1⟩ := Option.map_eq_some_iff.mp e
      cases e1
      obtain ⟨v, hv, dv⟩ := d.get hy
      exact ⟨v, by rw [List.getElem?_append_left (by simpa [← d.length] using hi), List.getElem?_map, hv]; rfl, dv⟩
    · rw [List.getElem?_append_right (by simpa using hi), List.getElem?_replicate] at e
      split at e <;> cases e
  · unfold callD at q
    rw [if_pos rfl] at q
    revert q
    cases b (ps.map some ++ List.replicate (n - ps.length) none) S with
    | rt x S' =>
      intro q α' H' v p k r' dv
      obtain ⟨α2, p2, r2, f⟩ := gc_ok (vs := [x]) p r.len r'
      cases f _ (Dens.single dv) with
      | cons dv2 _ => exact q α2 H' v p2 k r2 dv2
    | nx ρ' S' =>
      intro q α' σ' H' p k r'
      obtain ⟨α2, p2, r2, f⟩ := gc_ok (vs := []) p r.len r'.obj
      exact q α2 H' .non p2 k r2 .non
    | er c fs ρ' S' =>
      intro q α' σ' H' C dd p k r' e ⟨vfs, x1, x2, x3⟩
      obtain ⟨α2, p2, r2, f⟩ := gc_ok (vs := fs.map (·.2)) p r.len r'.obj
      exact q α2 H' C dd p2 k r2 e ⟨vfs, x1, x2, f _ x3⟩
    | bk ρ' S' => exact fun q => q.elim
    | ct ρ' S' => exact fun q => q.elim
    | bad => exact fun q => q.elim
theorem takes_no {X : Cx} : Takes X W0 := fun u s' ⟨_, _, _, _, _, _, _, _, _, _, _, _, _, _, _, _, w⟩ => w.elim
section
variable {P : Program} {w : World} {K : PySem.W.Frag} {mg : Str → Option Value} {base : Heap} {g : Sg}
theorem fn_m {x qual : Str} {st : Stmt} {f : Addr} {fd : FuncData} {N ps : List Str} {k np : Nat} {b : MS} (hz : g.sut = none) (F : Fun K x qual st f fd) (S : FnScope N ps (defScope st)) (hnp : ps.length = np)
    (hb : ∀ (cdv : Value) (A : Around) (outer : List Env) (s : Shared) (H : Hp) (E : XK), Room k (A.deeper (PyProof.Rows.envOfC qual (defScope st) s.heap.objs.size f cdv)) →
      RSs (cxOf (L2.CX P w) P w K mg base N qual (defScope st) f cdv A outer s H E) g (fun cls d _ H' => E cls d H') (defBody st) b) :
    FnOk P w K mg base (L2.CX P w) (k + 1) f fd ps (spM K g np (callD np N.length b)) := by
  obtain ⟨oc, od, kV, doc, pm, an, cdv, ct, osl, rfl, lk, hcd⟩ := F.ex
  refine L2.fn_of lk hcd S (fun vs H Q E h => ?_) fun A outer s H vs Q E hr h => ⟨_, hb cdv A outer s H E hr, ?_⟩
  · obtain ⟨α, qs, S', r, d, hl, q⟩ := h
    rw [← d.length, hl, hnp]
  · obtain ⟨α, qs, S', r, d, hl, q⟩ := h
    subst hl
    exact body_ok (X := cxOf (L2.CX P w) P w K mg base N qual (defScope st) f cdv A outer s H E) (body := defBody st) hz r d q
theorem fn_mC {x qual : Str} {st : Stmt} {f : Addr} {fd : FuncData} {N ps : List Str} {k np : Nat} {b : MS} {c : Addr} (hz : g.sut = none) (F : Fun K x qual st f fd) (hc : fd.code = .ref c) (S : FnScope N ps (defScope st)) (hnp : ps.length = np)
    (hb : ∀ (A : Around) (outer : List Env) (s : Shared) (H : Hp) (E : XK), Room k (A.deeper (PyProof.Rows.envOfC qual (defScope st) s.heap.objs.size f (.ref c))) →
      RSs (cxOf (L2.CX P w) P w K mg base N qual (defScope st) f (.ref c) A outer s H E) g (fun cls d _ H' => E cls d H') (defBody st) b) :
    FnOk P w K mg base (L2.CX P w) (k + 1) f fd ps (spM K g np (callD np N.length b)) := by
  obtain ⟨oc, od, kV, doc, pm, an, cdv, ct, osl, rfl, lk, hcd⟩ := F.ex
  have e : cdv = .ref c := hc
  subst e
  refine L2.fn_of lk hcd S (fun vs H Q E h => ?_) fun A outer s H vs Q E hr h => ⟨_, hb A outer s H E hr, ?_⟩
  · obtain ⟨α, qs, S', r, d, hl, q⟩ := h
    rw [← d.length, hl, hnp]
  · obtain ⟨α, qs, S', r, d, hl, q⟩ := h
    subst hl
    exact body_ok (X := cxOf (L2.CX P w) P w K mg base N qual (defScope st) f (.ref c) A outer s H E) (body := defBody st) hz r d q
end

/-! ### calls of defs -/
section
variable {X : Cx} {g : Sg} {W : WX} {a b c e o : Expr} {es : List Expr} {m ma mb mo : ME} {ms : MA} {pos p apos : Pos} {np k : Nat} {f : Addr} {fd : FuncData} {ps : List Str} {mf : MF} {x : Str}
theorem call_post {α : List Addr} {σ : St} {H : Hp} {ρ : PSt} {S : Sto} {Q : VK} {r : Rs PV} (rl : Rl X.K g α σ H ρ S)
    (q : Post X.K g W α σ H ρ (fun α' H' x _ => ∀ v, Den X.K α' H' x v → Q v H') r) : FPost X.K g α H Q (WE W σ) r := by
  cases r with
  | ok x S' => exact fun α' H' v p k r' d => q α' H' p k (rl.keep p k r') v d
  | er c fs S' => exact fun α' H' C d p k r' e x => q α' H' C d p k (rl.keep p k r') e x
  | bad => exact q
/-- a call with the right number of arguments -/
def mApp (np : Nat) (mf : MF) (ms : MA) : ME := fun ρ S => (ms ρ S).bind fun xs S1 => if xs.length = np then mf xs S1 else .bad
theorem re_call (F : FnOk X.prog X.w X.K X.mg X.base (L2.CX X.prog X.w) k f fd ps (spM X.K g np mf)) (hr : Room k X.A) (hg : Gl X x) (hm : X.mg x = some (.ref f)) (hk : PySem.W.keepIn X.K (.ref f) = true) (hb : Binds X.K fd ps []) (tk : Takes X W)
    (ha : RA X g W (e :: es) ms) (hdb : (x == ("__debug__" : Str)) = false := by decide) (he : starEach (e :: es) X.env = (false, eval e X.env) :: starEach es X.env := by rfl) (hpl : (backTo pos (starEach es X.env)).any (·.1) = false := by rfl) :
    RE X g W (.Call (.Name x p) (e :: es) [] pos) (mApp np mf ms) := by
  refine pe_le (pe_callS F hr hg hm hk hb (fun σ => passAt tk σ) ha hdb he hpl) fun σ H Q ⟨α, ρ, S, r, q⟩ => ?_
  refine ⟨α, ρ, S, r, q.of_bind.imp fun α1 H1 xs S1 p1 k1 r1 q1 vs dvs => ?_⟩
  replace q1 := q1 r1
  split at q1
  · rename_i hl
    exact ⟨α1, xs, S1, r1.obj, dvs, hl, call_post r1 q1⟩
  · exact q1.elim
end
end Pm
namespace Odds
open PySem L2
/-! ### isinstance of the exception that a suite holds, one with its own dict -/
structure ExcD (K : PySem.W.Frag) (D : Addr) : Prop where
  hg : PySem.W.findIn K (.ref D) "__getattribute__" = some (some (.builtin "BaseException.__getattribute__"))
  hk : PySem.W.findIn K (.ref D) "__getattr__" = some none
  hs : PySem.W.subIn K (.ref D) (.type "BaseException") = some true
  hd : PySem.W.isClsIn K D = true
  ha : PySem.W.findIn K (.ref D) "__class__" = some (some (.builtin "object.__class__"))
  hn : PySem.W.specialIn K (.builtin "object.__class__") "__get__" = some (some (.builtin "getset_descriptor.__get__"))
  ht : PySem.W.takesIn K (.builtin "object.__class__") = some true
  hm : PySem.W.mroIn K D (.type "object") = some true
def rIsX (K : PySem.W.Frag) (D a : Addr) (cls : Value) (d : Option Addr) : List V → Hp → VK → Prop := fun xs H Q => ∃ (dd : Addr) (fs : List (Str × V)) (c : V) (cv : Value) (b : Bool), cls = .ref D ∧ d = some dd ∧ H dd = some (.xd fs) ∧
  xs = [.ref a, c] ∧ (∀ u, RelV c u → u = cv) ∧ PySem.W.kitOne K (.ref D) cv = some b ∧ Q (.bl b) H
theorem call_isX {X : Cx} {a D : Addr} {d : Option Addr} {cls : Value} {oe : Obj} {pn : List (Addr × Obj)} (C : ExcD X.K D) (hz : Zc cls d oe) (hf : ∃ vs, oe.data = .fields vs) :
    CallR (X.suite a ((a, oe) :: pn)) (.builtin "isinstance") (rIsX X.K D a cls d) := by
  intro pins s σ H xs us Q I r h
  obtain ⟨dd, fs, c, cv, b, rfl, rfl, ea, rfl, hcv, e, q⟩ := h
  cases r with
  | cons rx rr =>
    cases rr with
    | cons rt rr =>
      cases rr
      cases rx
      have ec := hcv _ rt
      subst ec
      obtain ⟨hget, _⟩ := I.pin (a, oe) (List.mem_append.mpr (.inl List.mem_cons_self))
      obtain ⟨vs, hv⟩ := hf
      have hx : ObjOk X.prog X.w H s.heap dd (.xd fs) := I.hok dd _ ea
      obtain ⟨mA, hns, hr⟩ := hx
      obtain ⟨od, ho, hl⟩ := lookIn_ns hns
      have J : PySem.W.InstAt s.heap a oe D (some od) := ⟨hget, hz.1, by unfold PySem.W.notCls; rw [hv] <;> rfl, by rw [hz.2]; exact ho⟩
      exact PySem.W.kia_one (PySem.W.kitx_exc C.hd C.hg C.hk C.hs C.ha C.hn C.ht C.hm) I.kIn J e (fun z => nomatch z) fun tk => ⟨.bl b, H, I.kept (t' := tk) fun _ _ z => z, rfl, q⟩
theorem boot_VE : bootBuiltins "ValueError" = some (.type "ValueError") := by decide +kernel
theorem kit_own {K : PySem.W.Frag} {C O : Addr} (h1 : PySem.W.isClsIn K O = true) (h2 : PySem.W.typeIn K (.ref O) = some (.type "type")) (h3 : PySem.W.subIn K (.ref C) (.ref O) = some true) : PySem.W.kitOne K (.ref C) (.ref O) = some true := by
  unfold PySem.W.kitOne
  split
  · rfl
  · have e2 : ((PySem.W.clsIn K O).isSome && PySem.W.typeIn K (.ref O) == some (.type "type")) = true := by
      have h1' : (PySem.W.clsIn K O).isSome = true := h1
      rw [h1', h2] <;> rfl
    show (if ((PySem.W.clsIn K O).isSome && PySem.W.typeIn K (.ref O) == some (.type "type")) = true then PySem.W.subIn K (.ref C) (.ref O) else none) = some true
    rw [if_pos e2]
    exact h3
theorem kit_VE {K : PySem.W.Frag} {C : Addr} (h3 : PySem.W.subIn K (.ref C) (.type "ValueError") = some true) : PySem.W.kitOne K (.ref C) (.type "ValueError") = some true := by
  unfold PySem.W.kitOne
  split
  · rfl
  · show (if PySem.W.kitMeta "ValueError" = true then PySem.W.subIn K (.ref C) (.type "ValueError") else none) = some true
    rw [if_pos (by decide +kernel)]
    exact h3
/-- math.isqrt -/
def rIsqrt : List V → Hp → VK → Prop := fun vs H Q => ∃ n : Int, vs = [.int n] ∧ 0 ≤ n ∧ n.natAbs < 2 ^ 13000 ∧ ∀ r : Int, 0 ≤ r → r * r ≤ n → n < (r + 1) * (r + 1) → Q (.int r) H
theorem cr_isqrt {X : Cx} : CallR X (.builtin "math.isqrt") rIsqrt := by
  intro pins s σ H vs us Q I r h
  obtain ⟨n, rfl, h0, hb, q⟩ := h
  cases r with
  | cons r1 rn =>
    cases rn
    obtain ⟨t, rfl⟩ := r1
    have e : n.toNat = n.natAbs := by omega
    have hl : n.toNat.log2 < 13000 := by
      rw [e]
      by_cases z : n.natAbs = 0
      · rw [z]; decide
      · exact (Nat.log2_lt z).mpr hb
    have sp := PySem.Float64.isqrt_spec n.toNat
    refine PySem.call_function_meets PySem.W.MGF.kind_isqrt PySem.W.MGF.plain_isqrt PySem.W.MGF.entry_isqrt (PySem.W.MGF.args_isqrt _) (PySem.W.mg_run_isqrt n t (by omega) (by omega) (by omega)).meets ?_
    refine ⟨.int _, H, I.tok _, ⟨_, rfl⟩, q _ (by omega) ?_ ?_⟩
    · have := sp.1
      rw [← Int.natCast_mul]
      omega
    · have h2 := sp.2
      have e2 : (((PySem.Float64.isqrt n.toNat : Nat) : Int) + 1) * (((PySem.Float64.isqrt n.toNat : Nat) : Int) + 1) = (((PySem.Float64.isqrt n.toNat + 1) * (PySem.Float64.isqrt n.toNat + 1) : Nat) : Int) := by
        rw [Int.natCast_mul]
        rfl
      rw [e2]
      omega

end Odds
namespace Odds
open PySem
theorem mg_run_gcd3 (a : Int) (t : Tok) (b : Int) (u : Tok) (c : Int) (v : Tok) : Gives (Builtin.«math.gcd» { pos := [.int a t, .int b u, .int c v] }) (Made.int ↑(((Nat.gcd 0 a.natAbs).gcd b.natAbs).gcd c.natAbs)) := by
  refine Gives.of_wp ?_
  intro M A E s Q h
  simp only [Made.post] at h
  unfold Builtin.«math.gcd»
  wp_walk
  exact ⟨_, rfl, h⟩
/-- math.gcd of three -/
def rGcd3 : List L2.V → L2.Hp → L2.VK → Prop := fun vs H Q => ∃ a b c : Int, vs = [.int a, .int b, .int c] ∧ Q (.int ((Nat.gcd (Nat.gcd a.natAbs b.natAbs) c.natAbs : Nat) : Int)) H
theorem cr_gcd3 {X : L2.Cx} : L2.CallR X (.builtin "math.gcd") rGcd3 := by
  intro pins s σ H vs us Q I r h
  obtain ⟨a, b, c, rfl, q⟩ := h
  cases r with
  | cons r1 rn =>
    cases rn with
    | cons r2 rn =>
      cases rn with
      | cons r3 rn =>
        cases rn
        obtain ⟨t, rfl⟩ := r1
        obtain ⟨u, rfl⟩ := r2
        obtain ⟨v, rfl⟩ := r3
        refine PySem.call_function_meets PySem.W.MGF.kind_gcd PySem.W.MGF.plain_gcd PySem.W.MGF.entry_gcd (show argsOk "math.gcd" _ from rfl) (mg_run_gcd3 a t b u c v).meets ?_
        rw [Nat.gcd_zero_left]
        exact ⟨.int _, H, I.tok _, ⟨_, rfl⟩, q⟩
end Odds
namespace Pm
open PySem L2
/-! ### raise -/
/-- __init__ stores its arguments under these names, the last one first -/
def spIni (C : Addr) (ns : List Str) : Sp := fun vs H Q _ => ∃ (a : Addr) (zs : List V), vs = .ref a :: zs ∧ zs.length = ns.length ∧ H a = some (exo a C none) ∧
  ∀ dx H', H dx = none → dx ≠ a → H' a = some (exo a C (some dx)) → H' dx = some (exd dx (ns.zip zs).reverse) → (∀ b, b ≠ a → b ≠ dx → H' b = H b) → Q .non H'
def mRaise (c : Str) (ns : List Str) (ms : MA) : MS := fun ρ S => (ms ρ S).ot ρ fun xs S1 => if xs.length = ns.length then .er c (ns.zip xs).reverse ρ S1 else .bad
section
variable {X : Cx} {g : Sg} {W : WX} {a b c e : Expr} {es : List Expr} {m ma mb mc : ME} {ms : MA} {pos p : Pos}
theorem zip_fst {β : Type} : ∀ {ns : List Str} {xs : List β}, xs.length = ns.length → (ns.zip xs).map (·.1) = ns
  | [], [], _ => rfl
  | n :: ns, x :: xs, h => by simp [zip_fst (ns := ns) (xs := xs) (by simpa using h)]
  | [], _ :: _, h => by simp at h
  | _ :: _, [], h => by simp at h
theorem zip_snd {β : Type} : ∀ {ns : List Str} {xs : List β}, xs.length = ns.length → (ns.zip xs).map (·.2) = xs
  | [], [], _ => rfl
  | n :: ns, x :: xs, h => by simp [zip_snd (ns := ns) (xs := xs) (by simpa using h)]
  | [], _ :: _, h => by simp at h
  | _ :: _, [], h => by simp at h
theorem rs_raise {C : Addr} {cn : Str} {ns : List Str} (hc : X.calm = true) (tk : Takes X W) (hC : g.exc cn = some C) (hn : ns.length ≤ 9) (mk : ∀ {ta : TA}, PA X es ta → PMk X e (tMkO C (spIni C ns) [] ta)) (ha : RA X g W es ms) : RS X g W (.Raise (some e) none pos) (mRaise cn ns ms) := by
  refine ps_le (ps_raise hc tk (mk ha)) fun D σ H ⟨α, ρ, S, r, q⟩ => ?_
  refine ⟨α, ρ, S, r, (then_post q).imp fun α1 H1 xs S1 p1 k1 r1 q1 vs dvs => ?_⟩
  replace q1 := q1 r1
  split at q1
  · rename_i hl
    refine ⟨by rw [← dvs.length, hl]; omega, fun a0 ha0 => ⟨a0, vs, by simp, by rw [← dvs.length, hl], upd_same, fun dx H2 h1 h2 h3 h4 h5 => ⟨rfl, dx, _, h3, h4, ?_, ?_⟩⟩⟩
    · rw [upd_ne h2] at h1
      exact h1
    · rw [upd_ne h2] at h1
      have st : ∀ b u, H1 b = some u → upd (del H2 a0) dx (.xd (ns.zip vs).reverse) b = some u := fun b u e => by
        have b1 : b ≠ dx := ne_of_none e h1
        have b2 : b ≠ a0 := ne_of_none e ha0
        rw [upd_ne b1, del_ne b2, h5 b b2 b1, upd_ne b2]
        exact e
      have kp : Kp H1 (upd (del H2 a0) dx (.xd (ns.zip vs).reverse)) := fun b u e _ => st b u e
      refine q1 α1 σ _ C dx (List.prefix_refl _) kp (r1.keep (List.prefix_refl _) kp (r1.obj.same st)) hC ⟨_, upd_same, ?_, ?_⟩
      · rw [List.map_reverse, List.map_reverse, zip_fst hl, zip_fst (by rw [← dvs.length, hl])]
      · rw [List.map_reverse, List.map_reverse, zip_snd hl, zip_snd (by rw [← dvs.length, hl])]
        exact (dvs.mono (List.prefix_refl _) kp).reverse
  · exact q1.elim
end
section
variable {P : Program} {w : World} {K : PySem.W.Frag} {mg : Str → Option Value} {base : Heap}
/-- __init__ of one, two, three fields -/
theorem ini1 {C fI : Addr} {fdI : FuncData} {qual : Str} {st : Stmt} {n1 : Str} {p1 : Str} (O : OexC K C) (no1 : PySem.W.findIn K (.ref C) n1 = some none) (F : Fun K "__init__" qual st fI fdI) (S : FnScope ["self", p1] ["self", p1] (defScope st))
    (hb : ∀ (cdv : Value) (A : Around) (outer : List Env) (s : Shared) (H : Hp) (E : XK), PSs (cxOf CX0 P w K mg base ["self", p1] qual (defScope st) fI cdv A outer s H E).nox (defBody st) (tOst K n1 (tVar 0) (tVar 1))) :
    FnOk P w K mg base CX0 1 fI fdI ["self", p1] (spIni C [n1]) := by
  refine F.ok S (fun vs H Q E h => ?_) (fun cdv A outer s H vs Q E hr h => ?_)
  · obtain ⟨a, zs, rfl, hl, _⟩ := h
    simp [hl]
  · obtain ⟨a, zs, rfl, hl, ha, k⟩ := h
    rcases zs with _ | ⟨z1, _ | ⟨z2, zs⟩⟩ <;> first | (cases hl; done) | skip
    refine ⟨_, hb cdv A outer s H E, ?_⟩
    refine ⟨_, rfl, _, rfl, a, C, rfl, O, no1, .inl ⟨ha, fun dx h1 h2 => ?_⟩⟩
    exact k dx _ h1 h2 upd_same (by rw [upd_ne h2, upd_same]; rfl) fun b b1 b2 => by rw [upd_ne b1, upd_ne b2]
theorem ini2 {C fI : Addr} {fdI : FuncData} {qual : Str} {st : Stmt} {n1 n2 : Str} {p1 p2 : Str} (O : OexC K C) (no1 : PySem.W.findIn K (.ref C) n1 = some none) (no2 : PySem.W.findIn K (.ref C) n2 = some none) (F : Fun K "__init__" qual st fI fdI) (S : FnScope ["self", p1, p2] ["self", p1, p2] (defScope st))
    (hb : ∀ (cdv : Value) (A : Around) (outer : List Env) (s : Shared) (H : Hp) (E : XK), PSs (cxOf CX0 P w K mg base ["self", p1, p2] qual (defScope st) fI cdv A outer s H E).nox (defBody st) (tSeq (tOst K n1 (tVar 0) (tVar 1)) (tOst K n2 (tVar 0) (tVar 2)))) :
    FnOk P w K mg base CX0 1 fI fdI ["self", p1, p2] (spIni C [n1, n2]) := by
  refine F.ok S (fun vs H Q E h => ?_) (fun cdv A outer s H vs Q E hr h => ?_)
  · obtain ⟨a, zs, rfl, hl, _⟩ := h
    simp [hl]
  · obtain ⟨a, zs, rfl, hl, ha, k⟩ := h
    rcases zs with _ | ⟨z1, _ | ⟨z2, _ | ⟨z3, zs⟩⟩⟩ <;> first | (cases hl; done) | skip
    refine ⟨_, hb cdv A outer s H E, ?_⟩
    refine ⟨_, rfl, _, rfl, a, C, rfl, O, no1, .inl ⟨ha, fun dx h1 h2 => ?_⟩⟩
    refine ⟨_, rfl, _, rfl, a, C, rfl, O, no2, .inr ⟨dx, _, upd_same, by rw [upd_ne h2, upd_same], by show 1 ≤ 900; decide, ?_⟩⟩
    exact k dx _ h1 h2 (by rw [upd_ne (Ne.symm h2), upd_same]) (by rw [upd_same]; rfl) fun b b1 b2 => by rw [upd_ne b2, upd_ne b1, upd_ne b2]
end

/-! ### a suite's exception -/
def mXf (c0 : Str) (fs : List (Str × PV)) (i : Nat) (c n : Str) : ME := fun ρ S => match ρ[i]? with
  | some none => if c0 = c then match fs.lookup n with
    | some x => .ok x S
    | none => .bad
    else .bad
  | _ => .bad
def mIsX (c0 : Str) (i : Nat) (t : Str → Bool) : ME := fun ρ S => match ρ[i]? with
  | some none => .ok (.bl (t c0)) S
  | _ => .bad
theorem lookup_den {K : PySem.W.Frag} {α : List Addr} {H : Hp} {n : Str} {x : PV} : ∀ {fs : List (Str × PV)} {vfs : List (Str × V)}, fs.map (·.1) = vfs.map (·.1) → Dens K α H (fs.map (·.2)) (vfs.map (·.2)) → fs.lookup n = some x → ∃ v, vfs.lookup n = some v ∧ Den K α H x v
  | [], _, _, _, e => by cases e
  | _ :: _, [], h, _, _ => by cases h
  | (a, y) :: fs, (b, v) :: vfs, h, d, e => by
    simp only [List.map_cons, List.cons.injEq] at h
    obtain ⟨rfl, h⟩ := h
    cases d with
    | cons d ds =>
      unfold List.lookup at e ⊢
      split at e
      · cases e
        exact ⟨v, rfl, d⟩
      · exact lookup_den h ds e
section
variable {X : Cx} {g : Sg} {W : WX} {e e1 e2 ca : Expr} {pos p : Pos} {a C : Addr} {oe : Obj} {cls : Value} {d : Option Addr} {pn : List (Addr × Obj)} {i : Nat} {c0 cn n : Str} {fs : List (Str × PV)}
/-- the signature within the suite -/
def Sg.inS (g : Sg) (z : Sut) : Sg := { g with sut := some z }
theorem RlC.inS {K : PySem.W.Frag} {z : Sut} {α : List Addr} {H : Hp} {S : Sto} (r : RlC K g α H S) : RlC K (g.inS z) α H S :=
  ⟨r.len, r.nd, fun n a o h1 h2 => by cases o <;> exact r.cel n a _ h1 h2, r.tab⟩
theorem RlC.outS {K : PySem.W.Frag} {z : Sut} {α : List Addr} {H : Hp} {S : Sto} (r : RlC K (g.inS z) α H S) : RlC K g α H S :=
  ⟨r.len, r.nd, fun n a o h1 h2 => by have := r.cel n a o h1 h2; cases o <;> exact this, r.tab⟩
theorem re_xf (T : XfC X.K C) (hC : g.exc cn = some C) (hno : PySem.W.findIn X.K (.ref C) n = some none) (hz : Zc cls d oe) (hf : ∃ vs, oe.data = .fields vs)
    (he : PE (X.suite a ((a, oe) :: pn)) e (tVar i)) (hb : attributeBase e n X.env (eval e X.env) = eval e X.env := by rfl) : RE (X.suite a ((a, oe) :: pn)) (g.inS ⟨i, a, cls, d, c0, fs⟩) W (.Attribute e n pos) (mXf c0 fs i cn n) := by
  refine pe_le (pe_xf T hno hz hf he hb) fun σ H Q ⟨α, ρ, S, r, q⟩ => ?_
  simp only [mXf] at q
  split at q
  · rename_i hi
    split at q
    · rename_i ec
      split at q
      · rename_i x ex
        subst ec
        obtain ⟨h1, C', dd, h2, h3, h4, vfs, h5, h6, h7⟩ := r.sut _ rfl hi
        have h3' : g.exc c0 = some C' := h3
        rw [hC] at h3'
        cases h3'
        obtain ⟨v, hv, dv⟩ := lookup_den h6 h7 ex
        exact ⟨_, h1, rfl, h2, dd, vfs, v, h4, h5, hv, q.here r v dv⟩
      · exact q.elim
    · exact q.elim
  · exact q.elim
def rIsXs (K : PySem.W.Frag) (a : Addr) (cls : Value) (d : Option Addr) : List V → Hp → VK → Prop := fun xs H Q => ∃ D, Odds.ExcD K D ∧ Odds.rIsX K D a cls d xs H Q
theorem call_isXs (hz : Zc cls d oe) (hf : ∃ vs, oe.data = .fields vs) : CallR (X.suite a ((a, oe) :: pn)) (.builtin "isinstance") (rIsXs X.K a cls d) := by
  intro pins s σ H xs us Q I r ⟨D, h1, h2⟩
  exact Odds.call_isX h1 hz hf pins s σ H xs us Q I r h2
theorem re_isX {vc : V} {cv : Value} {t : Str → Bool} (hz : Zc cls d oe) (hf : ∃ vs, oe.data = .fields vs) (hE : ∀ c C, g.exc c = some C → Odds.ExcD X.K C ∧ PySem.W.kitOne X.K (.ref C) cv = some (t c)) (hvc : ∀ u, RelV vc u → u = cv)
    (call : ∀ {r : List V → Hp → VK → Prop} {ta : TA}, CallR (X.suite a ((a, oe) :: pn)) (.builtin "isinstance") r → PA (X.suite a ((a, oe) :: pn)) [e1, e2] ta → PE (X.suite a ((a, oe) :: pn)) ca (tCB r ta))
    (h1 : PE (X.suite a ((a, oe) :: pn)) e1 (tVar i)) (h2 : PE (X.suite a ((a, oe) :: pn)) e2 (tC vc))
    (hs1 : starEach [e1, e2] X.env = (false, eval e1 X.env) :: starEach [e2] X.env := by rfl) (hs2 : starEach [e2] X.env = (false, eval e2 X.env) :: starEach [] X.env := by rfl) :
    RE (X.suite a ((a, oe) :: pn)) (g.inS ⟨i, a, cls, d, c0, fs⟩) W ca (mIsX c0 i t) := by
  refine pe_le (call (call_isXs hz hf) (pa_cons h1 (pa_cons h2 pa_nil hs2) hs1)) fun σ H Q ⟨α, ρ, S, r, q⟩ => ?_
  simp only [mIsX] at q
  split at q
  · rename_i hi
    obtain ⟨h1, C', dd, h2, h3, h4, vfs, h5, h6, h7⟩ := r.sut _ rfl hi
    obtain ⟨k1, k2⟩ := hE c0 C' h3
    exact ⟨_, h1, C', k1, dd, vfs, vc, cv, t c0, h2, h4, h5, rfl, hvc, k2, q.here r _ (.bl _)⟩
  · exact q.elim
def mTryAs (i : Nat) (hit : Str → Bool) (b : MS) (su : Str → List (Str × PV) → MS) : MS := fun ρ S => match b ρ S with
  | .er c fs ρ' S' => if hit c = true then match su c fs (ρ'.set i none) S' with
    | .rt x S2 => .rt x S2
    | _ => .bad
    else .er c fs ρ' S'
  | o => o
theorem rs_tryAs {x n : Str} {cv : Value} {body suite : List Stmt} {b₀ : Stmt} {np pos' : Pos} {mb : MS} {su : Str → List (Str × PV) → MS} {hit : Str → Bool}
    (hgz : g.sut = none) (hs : X.stack = X.env :: X.outer) (hf : X.env.frame = some X.env.locals) (hN : X.N.Nodup) (hi : X.N[i]? = some n) (hln : X.env.kindOf n = some .local) (hc : Names X x cv) (tk : Takes X W)
    (hex : ∀ c C, g.exc c = some C → PySem.W.exmOne X.K (.ref C) cv = some (hit c))
    (hb : ∀ (W : WX) (pn : List (Addr × Obj)) (xe : Value → Shared → Prop), Takes (X.tr pn xe) W → PassesOwn (model X.prog X.w) X.A X.env xe → RSs (X.tr pn xe) g W body mb)
    (hsu : ∀ (a : Addr) (oe : Obj) (cls : Value) (d : Option Addr) (pn : List (Addr × Obj)) (c : Str) (fs : List (Str × PV)), Zc cls d oe → (∃ vs, oe.data = .fields vs) → RSs (X.suite a ((a, oe) :: pn)) (g.inS ⟨i, a, cls, d, c, fs⟩) W0 (b₀ :: suite) (su c fs)) :
    RS X g W (.Try body [.ExceptHandler (some (.Name x np)) (some n) (b₀ :: suite) pos'] [] [] pos) (mTryAs i hit mb su) := by
  refine ps_le (ps_try_as (tb := fun W => tMS X.K g W mb) (ts := fun a cls d D σ H => ∃ c fs, tMS X.K (g.inS ⟨i, a, cls, d, c, fs⟩) W0 (su c fs) D σ H) hs hf hN hi hln hc tk hb
    (fun a oe cls d pn z1 z2 => ⟨fun pins s σ H D I ⟨c, fs, q⟩ => (hsu a oe cls d pn c fs z1 z2).run pins s σ H D I q⟩)) fun D σ H ⟨α, ρ, S, r, q⟩ => ?_
  refine ⟨α, ρ, S, r, ?_⟩
  unfold mTryAs at q
  revert q
  cases mb ρ S with
  | nx ρ' S' => exact fun q => q
  | rt x S' => exact fun q => q
  | bk ρ' S' => exact fun q => q
  | ct ρ' S' => exact fun q => q
  | bad => exact fun q => q
  | er c fs ρ' S' =>
    intro q α1 σ1 H1 C d p1 k1 r1 hC xf
    refine ⟨hit c, hex c C hC, fun hy a0 ha0 => ?_, fun hn => ?_⟩
    · simp only [hy, if_true] at q
      refine ⟨c, fs, α1, ρ'.set i none, S', ⟨r1.obj.inS, by simp [r1.len], fun j y e => ?_, fun z e1 e2 => ?_⟩, ?_⟩
      · by_cases h : i = j
        · subst h
          rw [List.getElem?_set] at e
          simp only [if_true] at e
          split at e <;> cases e
        · rw [List.getElem?_set_ne h] at e ⊢
          exact r1.loc j y e
      · cases e1
        have hlt : i < σ1.length := by
          rw [← r1.len]
          have := (List.getElem?_eq_some_iff.mp e2).1
          simpa using this
        exact ⟨List.getElem?_set_self hlt, C, d, rfl, hC, rfl, xf⟩
      · revert q
        cases su c fs (ρ'.set i none) S' with
        | rt x S2 => exact fun q α2 H2 v p2 k2 r2 dv => q α2 H2 v (p1.trans p2) (k1.trans k2) r2.outS dv
        | nx ρ2 S2 => exact fun q => q.elim
        | bk ρ2 S2 => exact fun q => q.elim
        | ct ρ2 S2 => exact fun q => q.elim
        | er c fs ρ2 S2 => exact fun q => q.elim
        | bad => exact fun q => q.elim
    · simp only [hn, Bool.false_eq_true, if_false] at q
      exact q α1 σ1 H1 C d p1 k1 r1 hC xf
end
end Pm
namespace Odds
open PySem L2
/-! ### a def of the text, an error class -/
structure Dn (K : PySem.W.Frag) (mg : Str → Option Value) (x : Str) (st : Stmt) (ps : List Str) (f : Addr) (fd : FuncData) : Prop where
  F : Fun K x x st f fd
  g : mg x = some (.ref f)
  b : Binds K fd ps []
/-- math.lcm -/
def rLcm : List V → Hp → VK → Prop := fun vs H Q => ∃ a b : Int, vs = [.int a, .int b] ∧ a.natAbs < 2 ^ 6000 ∧ b.natAbs < 2 ^ 6000 ∧ Q (.int ((Nat.lcm a.natAbs b.natAbs : Nat) : Int)) H
theorem log_lt {n b : Nat} (h : n < 2 ^ b) (hb : 0 < b) : n.log2 < b := by
  by_cases z : n = 0
  · rw [z]; exact hb
  · exact (Nat.log2_lt z).mpr h
theorem lcm_size {a b m n : Nat} (ha : a < 2 ^ m) (hb : b < 2 ^ n) : Nat.lcm a b < 2 ^ (m + n) := by
  rw [Nat.pow_add]
  by_cases h : a = 0 ∨ b = 0
  · rcases h with rfl | rfl
    · rw [Nat.lcm_zero_left]; exact Nat.mul_pos (Nat.two_pow_pos _) (Nat.two_pow_pos _)
    · rw [Nat.lcm_zero_right]; exact Nat.mul_pos (Nat.two_pow_pos _) (Nat.two_pow_pos _)
  · exact Nat.lt_of_le_of_lt (Nat.le_of_dvd (Nat.mul_pos (by omega) (by omega)) (Nat.lcm_dvd (Nat.dvd_mul_right _ _) (Nat.dvd_mul_left _ _))) (Nat.mul_lt_mul'' ha hb)
theorem cr_lcm {X : Cx} : CallR X (.builtin "math.lcm") rLcm := by
  intro pins s σ H vs us Q I r h
  obtain ⟨a, b, rfl, ha, hb, q⟩ := h
  obtain ⟨t, u, rfl⟩ := Vals.int2 r
  have l1 : (max 1 a.natAbs).log2 < 6000 := log_lt (by have := Nat.one_lt_two_pow (show 6000 ≠ 0 by decide); omega) (by decide)
  have l2 : (max a.natAbs b.natAbs).log2 < 6000 := log_lt (by omega) (by decide)
  have e1 : (Nat.lcm 1 a.natAbs).lcm b.natAbs = Nat.lcm a.natAbs b.natAbs := by rw [Nat.lcm_one_left]
  have sz : ((((Nat.lcm 1 a.natAbs).lcm b.natAbs : Nat) : Int)).natAbs.log2 < bitsLine := by
    rw [e1, Int.natAbs_natCast]
    exact Nat.lt_of_lt_of_le (log_lt (lcm_size ha hb) (by decide)) (by decide)
  refine PySem.call_function_meets PySem.W.MGF.kind_lcm PySem.W.MGF.plain_lcm PySem.W.MGF.entry_lcm (PySem.W.MGF.args_lcm _ _) (PySem.W.mg_run_lcm a t b u (by omega) (by omega) sz).meets ?_
  rw [e1]
  exact ⟨.int _, H, I.tok _, ⟨_, rfl⟩, q⟩
end Odds
namespace Odds
open PySem
/-! ### generator expressions over tuples, whose element asks is_whole -/
/-- what is_whole says of a value that needs no heap -/
inductive Wh : Value → Bool → Prop where
  | int (i : Int) (t : Tok) : Wh (.int i t) true
  | bl (b : Bool) : Wh (.bool b) false
  | str (z : Str) (t : Tok) : Wh (.str z t) false
theorem Wh.kit {K : W.Frag} {u : Value} {b : Bool} (h : Wh u b) : ∃ t : String, W.KitX K u (.type t) (fun _ => True) ∧ L2.kitB t "int" = some (b || t == "bool") ∧ L2.kitB t "bool" = some (t == "bool") ∧ b = (t == "int") ∧ u ≠ .builtin "__main__.__loader__#opaque" := by
  cases h with
  | int i t => exact ⟨"int", W.kitx_int, by decide +kernel, by decide +kernel, by decide, fun z => nomatch z⟩
  | bl c => exact ⟨"bool", W.kitx_bool, by decide +kernel, by decide +kernel, by decide, fun z => nomatch z⟩
  | str z t => exact ⟨"str", W.kitx_str, by decide +kernel, by decide +kernel, by decide, fun z => nomatch z⟩
/-- isinstance(value, T) in any frame of a def -/
theorem ev_isi {prog : Program} {w : World} {A : Around} {E : Value → Shared → Prop} {s : Shared} {env : Env} {K : W.Frag} {mg : Str → Option Value} {base : Heap} {u : Value} {t cn : String} {r : Bool} {m : Str → Option Value} {Q : Value → Shared → Prop} {p1 p2 p3 p4 : Pos}
    (M : L2.Mod K mg base) (hb : ∀ b o, base.get? b = some o → s.heap.get? b = some o) (hk : env.scope.kind = .function) (hg : env.globals = mainGlobals) (hbl : env.builtins = builtinsNs)
    (k1 : env.kindOf "isinstance" = some .globalImplicit) (k2 : env.kindOf "value" = some .local) (k3 : env.kindOf cn = some .globalImplicit)
    (g1 : mg "isinstance" = none) (g3 : mg cn = none) (n3 : (cn : Str) ≠ "__name__") (d3 : ((cn : Str) == "__debug__") = false) (b3 : bootBuiltins cn = some (.type cn))
    (hns : s.heap.Ns env.locals m) (hm : m "value" = some u) (X : W.KitX K u (.type t) (fun _ => True)) (hu : u ≠ .builtin "__main__.__loader__#opaque") (e : L2.kitB t cn = some r)
    (q : ∀ tk : Nat, Q (.bool r) { s with toks := tk }) :
    wpAny (model prog w) A (eval (.Call (.Name "isinstance" p1) [.Name "value" p2, .Name cn p3] [] p4) env) Q E s := by
  obtain ⟨mb, hmb, hbb⟩ := M.blt
  have G : s.heap.Ns env.globals mg := by rw [hg]; exact M.glob.keeps hb
  have B : s.heap.Ns env.builtins mb := by rw [hbl]; exact hmb.keeps hb
  refine wpAny_Call_Name_kw ?_
  refine Calls.Name_function_global hk k1 ?_
  refine Calls.loadGlobal_builtin G g1 B ((hbb _ (by decide)).trans PyProof.Rows.boot_isinstance) ?_
  refine PyProof.Rows.callWith_builtin1 ?_
  refine Calls.spliced_cons ?_
  refine wpAny_Name ?_
  refine wpAny_loadName_local hk k2 hns hm ?_
  refine Calls.spliced_cons ?_
  refine Calls.Name_function_global hk k3 ?_ d3
  refine Calls.loadGlobal_builtin G g3 B ((hbb _ n3).trans b3) ?_
  refine Calls.spliced_nil ?_
  exact W.kia_one X (M.kin.keeps hb) trivial (L2.kit_ty e) hu q
/-- the body of is_whole -/
theorem run_whole {prog : Program} {w : World} {A : Around} {E : Value → Shared → Prop} {s : Shared} {env : Env} {K : W.Frag} {mg : Str → Option Value} {base : Heap} {u : Value} {b : Bool} {m : Str → Option Value} {Q : Flow → Shared → Prop} {p1 p2 p3 p4 p5 p6 p7 p8 p9 p10 p11 : Pos}
    (M : L2.Mod K mg base) (hb : ∀ b o, base.get? b = some o → s.heap.get? b = some o) (hk : env.scope.kind = .function) (hg : env.globals = mainGlobals) (hbl : env.builtins = builtinsNs)
    (k1 : env.kindOf "isinstance" = some .globalImplicit) (k2 : env.kindOf "value" = some .local) (k3 : env.kindOf "int" = some .globalImplicit) (k4 : env.kindOf "bool" = some .globalImplicit)
    (g1 : mg "isinstance" = none) (g3 : mg "int" = none) (g4 : mg "bool" = none)
    (hns : s.heap.Ns env.locals m) (hm : m "value" = some u) (h : Wh u b) (q : ∀ tk : Nat, Q (.ret (.bool b)) { s with toks := tk }) :
    wpAny (model prog w) A (execs [.Return (some (.BoolOp .And [.Call (.Name "isinstance" p1) [.Name "value" p2, .Name "int" p3] [] p4, .UnaryOp .Not (.Call (.Name "isinstance" p5) [.Name "value" p6, .Name "bool" p7] [] p8) p9] p10)) p11] env) Q E s := by
  obtain ⟨t, X, e1, e2, eb, hu⟩ := h.kit (K := K)
  refine wpAny_execs_cons ?_
  refine wpAny_Return_some ?_
  refine PyProof.Rows.BoolOp_and ?_
  refine ev_isi M hb hk hg hbl k1 k2 k3 g1 g3 (by decide) (by decide) PyProof.Rows.boot_int hns hm X hu e1 fun tk => ?_
  refine wpAny_truthy_bool ?_
  by_cases hc : (b || t == "bool") = true
  · rw [if_pos hc]
    refine PyProof.Rows.BoolOp_one ?_
    refine PyProof.Rows.UnaryOp_ ?_
    refine ev_isi (s := { s with toks := tk }) M hb hk hg hbl k1 k2 k4 g1 g4 (by decide) (by decide) PyProof.Rows.boot_bool hns hm X hu e2 fun tk2 => ?_
    refine PyProof.Rows.not_of ?_
    refine wpAny_truthy_bool ?_
    have e : (!(t == "bool")) = b := by
      subst eb
      by_cases h1 : t = "int"
      · subst h1; decide
      · by_cases h2 : t = "bool"
        · subst h2; decide
        · simp [h1, h2] at hc
    rw [e]
    exact q tk2
  · rw [if_neg hc]
    have e : (b || t == "bool") = b := by
      cases b
      · simpa using hc
      · rfl
    rw [e]
    exact q tk
/-- what the text must say of is_whole -/
structure WhT (K : W.Frag) (mg : Str → Option Value) (f : Addr) (fd : FuncData) : Prop where
  ex : ∃ (st : Stmt) (p1 p2 p3 p4 p5 p6 p7 p8 p9 p10 p11 : Pos), Dn K mg "is_whole" st ["value"] f fd ∧
    L2.defBody st = [.Return (some (.BoolOp .And [.Call (.Name "isinstance" p1) [.Name "value" p2, .Name "int" p3] [] p4, .UnaryOp .Not (.Call (.Name "isinstance" p5) [.Name "value" p6, .Name "bool" p7] [] p8) p9] p10)) p11] ∧
    (L2.defScope st).kind = .function ∧ (L2.defScope st).isCoroutine = false ∧ (L2.defScope st).isGenerator = false ∧ (L2.defScope st).names.lookup ("value" : Str) = some NameKind.local ∧
    (L2.defScope st).names.lookup ("isinstance" : Str) = some NameKind.globalImplicit ∧ (L2.defScope st).names.lookup ("int" : Str) = some NameKind.globalImplicit ∧ (L2.defScope st).names.lookup ("bool" : Str) = some NameKind.globalImplicit
  isinstance : mg "isinstance" = none
  int : mg "int" = none
  bool : mg "bool" = none
theorem call_whole {prog : Program} {w : World} {A : Around} {E : Value → Shared → Prop} {s : Shared} {K : W.Frag} {mg : Str → Option Value} {base : Heap} {u : Value} {b : Bool} {f : Addr} {fd : FuncData} {Q : Value → Shared → Prop}
    (T : WhT K mg f fd) (M : L2.Mod K mg base) (hb : ∀ b o, base.get? b = some o → s.heap.get? b = some o) (hd : A.depth < recursionLimit) (h : Wh u b)
    (q : ∀ (h' : Heap) (tk : Nat), (∀ (b : Addr) (o : Obj), s.heap.get? b = some o → h'.get? b = some o) → Q (.bool b) { heap := h', gens := s.gens, drawn := s.drawn, toks := tk, os := s.os }) :
    wpAny (model prog w) A (call (.ref f) [u]) Q E s := by
  obtain ⟨st, p1, p2, p3, p4, p5, p6, p7, p8, p9, p10, p11, D, hbody, hk, hco, hge, n1, n2, n3, n4⟩ := T.ex
  obtain ⟨oc, od, kV, doc, pm, an, cdv, ct, osl, efd, lk, hcd⟩ := D.F.ex
  have kin := M.kin.keeps hb
  have bt := D.b s [u] kin rfl
  subst efd
  refine wpAny_call ?_
  refine Att.call_fn (binds := [("value", u)]) kin (M.nolimit.keeps hb) lk hcd hd bt (by simp [n1]) (fun s₁ ic => ?_) hco hge hk
  have ic' := ic.toInCall
  obtain ⟨h1, tk1, rfl⟩ := ic'.same
  rw [hbody]
  refine run_whole M (fun b o e => ic'.keep _ _ (hb b o e)) hk rfl rfl n2 n1 n3 n4 T.isinstance T.int T.bool ic'.ns ?_ h fun tk => ?_
  · show bindL _ [("value", u)] _ "value" = some u
    simp [bindL, Env.kindOf, PyProof.Rows.envOfC, n1]
  · exact q h1 tk fun b o e => ic'.keep _ _ e
/-- what the element says of a value, in a state that keeps the base -/
def EltT (prog : Program) (w : World) (base : Heap) (scope : Scope) (x : Str) (elt : Expr) (D : Nat) (Wv : Value → Bool → Prop) : Prop :=
  ∀ (cenv : Env) (A' : Around) (E' : Value → Shared → Prop) (u : Value) (b : Bool) (s₂ : Shared) (m₂ : Str → Option Value), cenv.scope = scope → cenv.globals = mainGlobals → cenv.builtins = builtinsNs → s₂.heap.Ns cenv.locals m₂ → m₂ x = some u →
    A'.handled = none → A'.depth ≤ D → (∀ b o, base.get? b = some o → s₂.heap.get? b = some o) → Wv u b → wpAny (model prog w) A' (eval elt cenv) (fun y s₃ => y = .bool b ∧ Keeps s₂ s₃) E' s₂
def Els (Wv : Value → Bool → Prop) (xs : List L2.V) (bs : List Bool) : Prop := xs.length = bs.length ∧ ∀ (i : Nat) (x : L2.V) (b : Bool) (u : Value), xs[i]? = some x → bs[i]? = some b → L2.RelV x u → Wv u b
def ReadyT (X : L2.Cx) (pins : List (Addr × Obj)) (σ : L2.St) (H1 : L2.Hp) (P : Addr) (bs : List Bool) (g : Addr) (s5 : Shared) : Prop :=
  ∃ fp wr G F St, WalksS X.prog X.w X.A.in1 g fp wr G bs.length F St ∧ St 0 s5 ∧ TruthOf X.prog X.w X.A.in1 F (fun i => bs.getD i false) ∧ ∀ s', Moved wr G s5 s' → ∃ H2, GxR.Tabbed P H1 H2 ∧ L2.Inv X pins σ H2 s'
theorem gen_tup {X : L2.Cx} {pins : List (Addr × Obj)} {σ : L2.St} {H : L2.Hp} {s : Shared} {c P : Addr} {elt iter : Expr} {x : Str} {px gpos : Pos} {scope : Scope} {Wv : Value → Bool → Prop} {te : L2.TE} {k : Nat} {Q' : Value → Shared → Prop} {R : List Bool → L2.Hp → Prop}
    (hr : L2.Room k X.A) (TB : GxR.TabB X.base X.mg c P) (hc : X.env.code = .ref c) (S : GxR.GenS X.env scope x) (it : L2.PE X iter te) (el : EltT X.prog X.w X.base scope x elt (X.A.depth + 1) Wv) (hs : ∀ v, genFold iter X.env v = pure v)
    (I : L2.Inv X pins σ H s) (h : te σ H fun v H1 => ∃ (a : Addr) (xs : List L2.V) (bs : List Bool), v = .ref a ∧ L2.SqT X.K H1 a xs ∧ Els Wv xs bs ∧ GxR.TabG H1 P ∧ R bs H1)
    (kk : ∀ (bs : List Bool) (H1 : L2.Hp) (g : Addr) (s5 : Shared), R bs H1 → ReadyT X pins σ H1 P bs g s5 → Q' (.ref g) s5) :
    wpAny (model X.prog X.w) X.A (eval (.GeneratorExp elt [⟨.Name x px, iter, [], 0⟩] scope gpos) X.env) Q' X.xe s := by
  refine wpAny_GeneratorExp_walksQD hr.hd S.co (L2.closure_ok S.free) S.cell S.dot S.loc S.kind (by have := hr.dp; omega) ?_ hs
  refine L2.thn (it.run pins s σ H _ I h) ?_
  rintro u s1 ⟨v, H1, I1, rv, a, xs, bs, rfl, hS, ⟨hl, hel⟩, ⟨ps, hP, hT⟩, hR⟩
  have eu : u = .ref a := rv
  subst eu
  obtain ⟨its, hv, htup, hlen⟩ := I1.tuple hS
  have hPo : s1.heap.get? P = some (W.tabObj ps) := by
    have := I1.hok P _ hP
    simpa only [L2.ObjOk] using this
  obtain ⟨ot, t1, t2, nt, t3⟩ := id htup
  have aP : a ≠ P := by
    intro e
    subst e
    rw [hPo] at t1
    cases t1
    cases t2
  refine wpAny_pyIter_tuple htup ?_
  generalize hI : s1.heap.objs.size = J
  have ltP : P < J := by rw [← hI]; exact Heap.lt_size hPo
  have lta : a < J := by rw [← hI]; exact Heap.lt_size t1
  have keep2 : ∀ b o, s1.heap.get? b = some o → (s1.heap.push { cls := Value.type "tuple_iterator", data := Data.fields #[Value.ref a, Value.int 0 0] }).get? b = some o := fun b o e => Heap.get?_push_of_some _ e
  have getJ : (s1.heap.push { cls := Value.type "tuple_iterator", data := Data.fields #[Value.ref a, Value.int 0 0] }).get? J = some { cls := Value.type "tuple_iterator", data := Data.fields #[Value.ref a, Value.int 0 0] } := by
    rw [← hI]
    exact Heap.get?_push_size _ rfl
  have nl2 := (I1.nolimit).push { cls := Value.type "tuple_iterator", data := Data.fields #[Value.ref a, Value.int 0 0] }
  have sz2 : (s1.heap.push { cls := Value.type "tuple_iterator", data := Data.fields #[Value.ref a, Value.int 0 0] }).objs.size = J + 1 := by
    rw [Heap.size_push, hI]
  generalize s1.heap.push { cls := Value.type "tuple_iterator", data := Data.fields #[Value.ref a, Value.int 0 0] } = h2 at *
  refine ⟨nl2, ?_⟩
  have bk := I1.bk
  have cs1 : cStatics < J := by
    obtain ⟨mc, n1, _⟩ := I1.nolimit
    rw [← hI]
    exact n1.lt
  have csP : cStatics ≠ P := by
    obtain ⟨mc, n1, _⟩ := I1.nolimit
    obtain ⟨o, es, ep, n2, n3, _⟩ := n1
    intro e
    rw [e, hPo] at n2
    cases n2
    cases n3
  have getP2 := keep2 _ _ hPo
  have hd2 : W.CodeHd h2 c P := TB.code.keeps fun b o e => keep2 _ _ (bk b o e)
  have fin : ∀ (code : Value) (h3 : Heap) (tk : Nat) (more : Array Value), Heap.ExtBut P h2 h3 → h3.get? P = some (W.tabObj (ps ++ more)) → TriplesOk (ps ++ more).toList → h2.objs.size ≤ h3.objs.size →
      wpAny (model X.prog X.w) X.A (builtinsFor X.env.globals X.env.builtins) (fun bi s₄ =>
        ∃ I fp wr n₀ P St₀ pz F, Value.ref J = Value.ref I ∧ (∀ (A' : Around), A'.handled = none → Walks X.prog X.w A' I fp wr n₀ P St₀) ∧ St₀ 0 s₄.heap ∧ (∀ (b : Addr), b ∈ fp → b < s₄.heap.objs.size) ∧ s₄.heap.NoLimit ∧ ¬cStatics ∈ wr ∧
          (∀ (href : Heap), (∀ (b : Addr) (o : Obj), s₄.heap.get? b = some o → href.get? b = some o) → QuietGenD X.prog X.w (genEnv scope (L2.cloFrom X.env.cells scope.names []) s₄.heap.objs.size code bi X.env) x [] elt (List.range s₄.heap.objs.size) wr P pz F href (X.A.depth + 1) (X.A.units + 8)) ∧
          ∀ (a : Nat) (h₅ : Heap) (tk : Nat) (gs : GenState), gs.bare = true → s₄.heap.objs.size < a → h₅.objs.size = a + 1 → (∀ (b : Addr) (o : Obj), s₄.heap.get? b = some o → h₅.get? b = some o) →
            WalksS X.prog X.w X.A.in4 a (a :: s₄.heap.objs.size :: List.range s₄.heap.objs.size) (s₄.heap.objs.size :: wr) (GenOnlyQ s₄.gens.size) (passing pz n₀ 0).length (fun j y => ∃ i, (passing pz n₀ 0)[j]? = some i ∧ F i y)
              (GenAt X.prog X.w X.A.in4 a s₄.gens.size s₄.heap.objs.size (List.range s₄.heap.objs.size) wr pz n₀ F) →
            GenAt X.prog X.w X.A.in4 a s₄.gens.size s₄.heap.objs.size (List.range s₄.heap.objs.size) wr pz n₀ F 0 { heap := h₅, gens := s₄.gens.push gs, drawn := s₄.drawn, toks := tk, os := s₄.os } →
              Q' (Value.ref a) { heap := h₅, gens := s₄.gens.push gs, drawn := s₄.drawn, toks := tk, os := s₄.os }) X.xe { heap := h3, gens := s1.gens, drawn := s1.drawn, toks := tk, os := s1.os } := by
    intro code h3 tk more ext getP3 hT3 szz
    have keep3 : ∀ b o, b ≠ P → s1.heap.get? b = some o → h3.get? b = some o := fun b o n e => ext b o n (keep2 b o e)
    obtain ⟨bm, obm, b1, b2, b3, b4, b5, b6, b7, b8⟩ := TB.bm
    have gns : h3.Ns X.env.globals X.mg := by
      rw [I1.ok.glob]
      exact ((I1.mod.glob.keeps bk).keeps keep2).extBut ext TB.gP
    refine wpAny_builtinsFor gns b1 b2 (keep3 _ _ b4 (bk _ _ b5)) b6 b7 b8 ?_
    have J3 : J < h3.objs.size := by omega
    have lt3 : ∀ b, b < J → b < h3.objs.size := fun b hb => Nat.lt_trans hb J3
    have nJP : J ≠ P := fun e => absurd e.symm (Nat.ne_of_lt ltP)
    have nl3 : h3.NoLimit := nl2.extBut ext csP
    refine ⟨J, [J, a], [J], its.toArray.size, _, _, fun _ => true, fun i y => ∃ b, bs[i]? = some b ∧ y = .bool b, rfl, fun A' hA' => Walks.tuple hA' J a (Nat.ne_of_lt lta) its.toArray, ⟨⟨_, ext _ _ nJP getJ, rfl, rfl⟩, ⟨ot, keep3 _ _ aP t1, t2, nt, t3⟩⟩, ?_, nl3, ?_, ?_, ?_⟩
    · intro b hb
      rcases List.mem_cons.mp hb with rfl | hb
      · exact J3
      · rcases List.mem_cons.mp hb with rfl | hb
        · exact lt3 _ lta
        · cases hb
    · intro hb
      rcases List.mem_cons.mp hb with e | hb
      · exact absurd e (Nat.ne_of_lt cs1)
      · cases hb
    · intro href hext
      refine ⟨fun A' E' i v s₂ m₂ _ _ _ _ _ _ _ => ?_, fun A' E' i v s₂ m₂ hA hdp hun hPi _ hns hmx hkeep => ?_⟩
      · show wpAny _ A' (pure true) _ E' s₂
        exact wpAny_pure ⟨rfl, GxR.keeps_refl s₂⟩
      · have hi : i < its.length := by
          have := (Array.getElem?_eq_some_iff.mp hPi).1
          simpa using this
        have hxl := hv.length
        have hx : xs[i]? = some (xs[i]'(by omega)) := List.getElem?_eq_getElem _
        have hbb : bs[i]? = some (bs[i]'(by omega)) := List.getElem?_eq_getElem _
        obtain ⟨u, hu, hrel⟩ := hv.get hx
        have euv : u = v := by
          rw [List.getElem?_toArray] at hPi
          rw [hu] at hPi
          exact Option.some.inj hPi
        subst euv
        refine L2.thn (el _ A' E' u _ s₂ m₂ rfl I1.ok.glob rfl hns hmx hA hdp (fun b o e => ?_) (hel i _ _ u hx hbb hrel)) fun y s₃ ⟨e1, e2⟩ => ⟨⟨_, hbb, e1⟩, e2⟩
        have e1 := bk _ _ e
        have ltb : b < J := by rw [← hI]; exact Heap.lt_size e1
        have bP : b ≠ P := by
          intro q
          subst q
          have hbs := I1.ok.bs _ _ e
          have z := I1.base.free _ _ hbs.1 hbs.2 (I1.ok.noex _ _ e)
          rw [hP] at z
          cases z
        refine hkeep b (List.mem_range.mpr (lt3 _ ltb)) ?_ o (hext _ _ (keep3 _ _ bP e1))
        intro hb
        rcases List.mem_cons.mp hb with q | hb
        · exact absurd q (Nat.ne_of_lt ltb)
        · cases hb
    · intro g h5 tk5 gs hbare hlt hsz hext5 W G
      have en : (passing (fun _ => true) its.toArray.size 0).length = bs.length := by
        rw [GxR.passing_true, List.length_range, List.size_toArray, ← hv.length, hl]
      refine kk bs H1 g _ hR ⟨_, _, _, _, _, en ▸ (WalksS.in4_2 W).of_in1, G, ?_, fun s' mv => ?_⟩
      · rintro i v s0 Q0 E0 ⟨j, hj, b, hb, rfl⟩ q
        rw [GxR.passing_true] at hj
        have hij : i = j := by
          have h1 := List.getElem?_eq_some_iff.mp hj
          obtain ⟨h2, h3⟩ := h1
          rw [List.getElem_range] at h3
          exact h3
        subst hij
        refine wpAny_truthy_bool ?_
        have : bs.getD i false = b := by rw [List.getD_eq_getElem?_getD, hb]; rfl
        show Q0 b s0
        rw [← this]
        exact q
      · have hnin : ∀ b, b < J → ¬ b ∈ [h3.objs.size, J] := fun b hb hm => by
          rcases List.mem_cons.mp hm with q | hm
          · exact absurd q (Nat.ne_of_lt (Nat.lt_trans hb J3))
          · rcases List.mem_cons.mp hm with q | hm
            · exact absurd q (Nat.ne_of_lt hb)
            · cases hm
        have i2 := GxR.inv_tab (P := P) (ps := ps) (more := more) (h' := s'.heap) (g' := s'.gens) (d' := s'.drawn) (t' := s'.toks) I1 hP
          (fun b o n e => mv.heap b o (hnin b (by rw [← hI]; exact Heap.lt_size e)) (hext5 _ _ (keep3 _ _ n e)))
          (mv.heap P _ (hnin P ltP) (hext5 _ _ getP3)) ((I1.bare.push hbare).movedS mv)
        rw [GxR.sh_eta s1 s' mv.os] at i2
        exact ⟨_, ⟨⟨_, L2.upd_same, hT3⟩, fun b n => L2.upd_ne n⟩, i2⟩
  cases hcm : codeAmong gpos ps.toList with
  | some cv =>
    refine wpAny_genexprCode_hit hc (hd2.code getP2 hT) hcm ?_
    exact fin cv h2 _ #[] (Heap.ExtBut.refl P h2) (by simpa using getP2) (by simpa using hT) (Nat.le_refl _)
  | none =>
    refine wpAny_genexprCodeX hc (hd2.code getP2 hT) (hd2.tab getP2) hcm ?_
    intro c' h' tk ext hle hlt hcode _ htab _
    obtain ⟨o, vs, file, tf, flags, tg, inF, text, tt, op, _, _, _, _, _, _, _, _, _, tr, _⟩ := id hcode
    exact fin (.ref c') h' tk _ ext htab.2 tr (Nat.le_trans hle (Nat.le_of_lt hlt))
theorem elt_whole {prog : Program} {w : World} {K : W.Frag} {mg : Str → Option Value} {base : Heap} {scope : Scope} {x : Str} {f : Addr} {fd : FuncData} {D : Nat} {p1 p2 p3 : Pos} (T : WhT K mg f fd) (M : L2.Mod K mg base)
    (hk : scope.kind = .function) (h1 : scope.names.lookup ("is_whole" : Str) = some NameKind.globalImplicit) (h2 : scope.names.lookup x = some NameKind.local) (hD : D < recursionLimit) (hx : (x == ("__debug__" : Str)) = false := by decide) :
    EltT prog w base scope x (.Call (.Name "is_whole" p1) [.Name x p2] [] p3) D Wh := by
  intro cenv A' E' u b s₂ m₂ hsc hg hbl hns hmx hA hdp hb hw
  subst hsc
  obtain ⟨st, _, _, _, _, _, _, _, _, _, _, _, Dw, _⟩ := id T.ex
  have G : s₂.heap.Ns cenv.globals mg := by rw [hg]; exact M.glob.keeps hb
  refine wpAny_Call_Name_kw ?_
  refine Calls.Name_function_global hk h1 ?_
  refine Calls.loadGlobal_global G Dw.g ?_
  refine W.callWith_K (M.kin.keeps hb) Dw.F.kp ?_
  refine Calls.spliced_cons ?_
  refine wpAny_Name ?_ hx
  refine wpAny_loadName_local hk h2 hns hmx ?_
  refine Calls.spliced_nil ⟨M.kin.keeps hb, ?_⟩
  refine call_whole T M hb (by omega) hw fun h' tk hk' => ⟨rfl, h', tk, rfl, hk'⟩
def tAllT (K : W.Frag) (P : Addr) (Wv : Value → Bool → Prop) (te : L2.TE) : L2.TE := fun σ H Q => te σ H fun v H1 => ∃ (a : Addr) (xs : List L2.V) (bs : List Bool), v = .ref a ∧ L2.SqT K H1 a xs ∧ Els Wv xs bs ∧ GxR.TabG H1 P ∧ ∀ H2, GxR.Tabbed P H1 H2 → Q (.bl (bs.all id)) H2
theorem all_bs (bs : List Bool) : (List.range bs.length).all (fun i => bs.getD i false) = bs.all id := by
  rw [Bool.eq_iff_iff, List.all_eq_true, List.all_eq_true]
  constructor
  · intro h b hb
    obtain ⟨i, hi, e⟩ := List.getElem_of_mem hb
    have := h i (List.mem_range.mpr hi)
    rw [List.getD_eq_getElem?_getD, List.getElem?_eq_getElem hi, e] at this
    exact this
  · intro h i hi
    have hi := List.mem_range.mp hi
    rw [List.getD_eq_getElem?_getD, List.getElem?_eq_getElem hi]
    exact h _ (List.getElem_mem hi)
theorem pe_allT {X : L2.Cx} {c P : Addr} {elt iter : Expr} {x : Str} {px p pos gpos : Pos} {scope : Scope} {Wv : Value → Bool → Prop} {te : L2.TE} {k : Nat}
    (hr : L2.Room k X.A) (hg : L2.Gl X "all") (hm : X.mg "all" = none) (TB : GxR.TabB X.base X.mg c P) (hc : X.env.code = .ref c) (S : GxR.GenS X.env scope x) (it : L2.PE X iter te) (el : L2.Mod X.K X.mg X.base → EltT X.prog X.w X.base scope x elt (X.A.depth + 1) Wv) (hs : ∀ v, genFold iter X.env v = pure v)
    (st : starEach [Expr.GeneratorExp elt [⟨.Name x px, iter, [], 0⟩] scope gpos] X.env = (false, eval (Expr.GeneratorExp elt [⟨.Name x px, iter, [], 0⟩] scope gpos) X.env) :: starEach [] X.env := by rfl) :
    L2.PE X (.Call (.Name "all" p) [.GeneratorExp elt [⟨.Name x px, iter, [], 0⟩] scope gpos] [] pos) (tAllT X.K P Wv te) := by
  refine ⟨fun pins s σ H Q I h => ?_⟩
  refine wpAny_Call_Name_kw ?_
  refine L2.ld_blt I hg hm (u := .builtin "all") (by decide +kernel) ?_
  refine PyProof.Rows.callWith_builtin1 ?_ st
  refine Calls.spliced_cons ?_
  refine gen_tup (R := fun bs H1 => ∀ H2, GxR.Tabbed P H1 H2 → Q (.bl (bs.all id)) H2) hr TB hc S it (el I.mod) hs I h ?_
  rintro bs H1 g s5 hR ⟨fp, wr, G, F, St, W, h0, tr, mv⟩
  refine Calls.spliced_nil ?_
  refine call_all_walkS ?_
  refine W.self 0 s5 _ _ h0 ?_
  refine ⟨g, fp, wr, G, _, F, St, _, rfl, W, h0, tr, fun s' m => ?_⟩
  obtain ⟨H2, t2, i2⟩ := mv s' m
  rw [all_bs]
  exact ⟨.bl (bs.all id), H2, i2, rfl, hR H2 t2⟩
theorem gen_free {env : Env} {scope : Scope} (h : ∀ y ∈ scope.names, y.2 ≠ NameKind.free) : ∀ (y : Str × NameKind), y ∈ scope.names → y.2 = NameKind.free → ∃ c, List.lookup y.1 env.cells = some c := fun y hy e => absurd e (h y hy)
theorem fun_okC {CX : L2.CXT} {P : Program} {w : World} {K : W.Frag} {mg : Str → Option Value} {base : Heap} {k : Nat} {f : Addr} {x qual : Str} {st : Stmt} {fd : FuncData} {N ps : List Str} {sp : L2.Sp} {c : Addr} (F : L2.Fun K x qual st f fd) (hc : fd.code = .ref c)
    (S : L2.FnScope N ps (L2.defScope st)) (len : ∀ (vs : List L2.V) (H : L2.Hp) (Q : L2.VK) (E : L2.XK), sp vs H Q E → vs.length = ps.length)
    (hb : ∀ (A : Around) (outer : List Env) (s : Shared) (H : L2.Hp) (vs : List L2.V) (Q : L2.VK) (E : L2.XK), L2.Room k (A.deeper (PyProof.Rows.envOfC qual (L2.defScope st) s.heap.objs.size f (.ref c))) → sp vs H Q E →
      ∃ t, L2.PSs (L2.cxOf CX P w K mg base N qual (L2.defScope st) f (.ref c) A outer s H E) (L2.defBody st) t ∧ t { nx := fun _ H' => Q .non H', rt := Q } (L2.start N vs) H) : L2.FnOk P w K mg base CX (k + 1) f fd ps sp := by
  obtain ⟨oc, od, kV, doc, pm, an, cdv, ct, osl, e, lk, hcd⟩ := F.ex
  subst e
  have e : cdv = .ref c := hc
  subst e
  exact L2.fn_of lk hcd S len hb
theorem room_lim {k : Nat} {A : Around} (h : L2.Room k A) : A.depth + 1 < recursionLimit := by have := h.dp; omega
theorem walk_tab {l : W.OpenLaw} {n k : Nat} {q : Program} {loose : List Str} {XP : (Str → Option Value) → Heap → Prop} {YP : World → Heap → Prop} {d : DefRec} {K : Params → W.Frag} {CX : World → L2.CXT} {x : Str} (hn : l.most = some n) (hn2 : n ≤ sizeLine) (hdf : d.params.defaults = []) (hr : L2.Room k callerA)
    (hY : ∀ (w : World) (h : Heap), YP w h → (K w.params).In h)
    (F : ∀ (w : World) (mg : Str → Option Value) (fa : Addr) (h : Heap), (K w.params).In h → h.Ns mainGlobals mg → mg d.name = some (.ref fa) →
      (∀ (y : Str) (c P : Addr), ((PyProof.Rows.recsOf q).find? (fun e => e.name == y)).isSome = true → W.tabIn (K w.params) y = some (c, P) → W.CodeHd h c P ∧ h.get? P = some (W.tabObj #[])) → LamX.LawAtS l w (K w.params) (CX w) k n x mg fa h)
    (hCX : ∀ (w : World) (H : L2.Hp) (s : Shared) (e : Value) (s' : Shared), CX w [] H s (fun _ _ _ => False) e s' → False) :
    W.WalkO q loose XP YP l.row.toRowW d [] fun f vs => call f vs := by
  refine Att.attach_callB hn hdf fun w s₀ s₁ mg mb fa o pm cd doc a vs ns G Y ho hd hcd hmg hobj hints hlen hbits hg => ?_
  have KX := hY w s₁.heap Y
  obtain ⟨fd, cs, sp, hT, nT, C, hb, hsp, hF⟩ := F w mg fa s₁.heap KX G.T.g hmg fun y c P h1 h2 => by
    obtain ⟨d', hd'⟩ := Option.isSome_iff_exists.mp h1
    exact W.tab_of G.T KX hd' h2
  exact LamX.law_callTs KX G.T.g G.T.b G.T.builtins G.T.nolimit hg hT nT C G.T.bmain hobj hints (Nat.le_trans hlen hn2) hr hF hb (fun H hH hS => hsp H a ns hlen hbits hH hS) fun H e s' => hCX w H s₁ e s'
end Odds
namespace Pm
open PySem L2
/-! ### math -/
section
variable {X : Cx} {g : Sg} {W : WX}
def isqrtM : MF
  | [.int n], S => if 0 ≤ n ∧ n.natAbs < 2 ^ 13000 then .ok (.int (PySem.Float64.isqrt n.toNat : Nat)) S else .bad
  | _, _ => .bad
theorem sq_uniq {n r s : Int} (hr : 0 ≤ r) (hs : 0 ≤ s) (h1 : r * r ≤ n) (h2 : n < (r + 1) * (r + 1)) (h3 : s * s ≤ n) (h4 : n < (s + 1) * (s + 1)) : r = s := by
  have key : ∀ {x y : Int}, 0 ≤ x → 0 ≤ y → x * x ≤ n → n < (y + 1) * (y + 1) → x ≤ y := fun {x y} hx hy a b => by
    apply Int.not_lt.mp
    intro h
    have h' : y + 1 ≤ x := h
    have := Int.mul_le_mul h' h' (by omega) hx
    omega
  exact Int.le_antisymm (key hr hs h1 h4) (key hs hr h3 h2)
theorem isq_lo {n : Int} (h : 0 ≤ n) : ((PySem.Float64.isqrt n.toNat : Nat) : Int) * ((PySem.Float64.isqrt n.toNat : Nat) : Int) ≤ n := by
  have sp := (PySem.Float64.isqrt_spec n.toNat).1
  rw [← Int.natCast_mul]
  omega
theorem isq_hi {n : Int} (h : 0 ≤ n) : n < (((PySem.Float64.isqrt n.toNat : Nat) : Int) + 1) * (((PySem.Float64.isqrt n.toNat : Nat) : Int) + 1) := by
  have h2 := (PySem.Float64.isqrt_spec n.toNat).2
  have e2 : (((PySem.Float64.isqrt n.toNat : Nat) : Int) + 1) * (((PySem.Float64.isqrt n.toNat : Nat) : Int) + 1) = (((PySem.Float64.isqrt n.toNat + 1) * (PySem.Float64.isqrt n.toNat + 1) : Nat) : Int) := by
    rw [Int.natCast_mul]
    rfl
  rw [e2]
  omega
theorem cam_isqrt : CaM X g W Odds.rIsqrt isqrtM := by
  intro α σ H ρ S xs vs Q r d q
  rcases xs with _ | ⟨x, _ | ⟨y, tl⟩⟩ <;> first | exact False.elim q | (cases x <;> first | exact False.elim q | (cases y <;> exact False.elim q)) | skip
  · obtain ⟨v, rfl, dv⟩ := d.one
    clear d
    cases dv <;> first | exact False.elim q | skip
    case int n =>
      simp only [isqrtM] at q
      split at q
      · rename_i hn
        refine ⟨n, rfl, hn.1, hn.2, fun s h0 h1 h2 => ?_⟩
        have e : s = ((PySem.Float64.isqrt n.toNat : Nat) : Int) := sq_uniq h0 (by omega) h1 h2 (isq_lo hn.1) (isq_hi hn.1)
        rw [e]
        exact q.here r _ (.int _)
      · exact q.elim
def lcmM : MF
  | [.int a, .int b], S => if a.natAbs < 2 ^ 6000 ∧ b.natAbs < 2 ^ 6000 then .ok (.int (Nat.lcm a.natAbs b.natAbs : Nat)) S else .bad
  | _, _ => .bad
theorem cam_lcm : CaM X g W Odds.rLcm lcmM := by
  intro α σ H ρ S xs vs Q r d q
  rcases xs with _ | ⟨x, _ | ⟨y, _ | ⟨z, tl⟩⟩⟩ <;> first | exact False.elim q | (cases x <;> first | exact False.elim q | (cases y <;> exact False.elim q)) | skip
  · obtain ⟨v, u, rfl, dv, du⟩ := d.two
    clear d
    cases dv <;> cases du <;> first | exact False.elim q | skip
    case int.int i j =>
      simp only [lcmM] at q
      split at q
      · rename_i h
        exact ⟨i, j, rfl, h.1, h.2, q.here r _ (.int _)⟩
      · exact q.elim
def gcd3M : MF
  | [.int a, .int b, .int c], S => .ok (.int (Nat.gcd (Nat.gcd a.natAbs b.natAbs) c.natAbs : Nat)) S
  | _, _ => .bad
theorem cam_gcd3 : CaM X g W Odds.rGcd3 gcd3M := by
  intro α σ H ρ S xs vs Q r d q
  rcases xs with _ | ⟨x, _ | ⟨y, _ | ⟨z, _ | ⟨t, tl⟩⟩⟩⟩ <;> first | exact False.elim q | (cases x <;> first | exact False.elim q | (cases y <;> first | exact False.elim q | (cases z <;> exact False.elim q))) | skip
  · cases d with
    | cons dx d =>
      obtain ⟨u, w, rfl, dy, dz⟩ := d.two
      clear d
      cases dx <;> first | exact False.elim q | skip
      cases dy <;> first | exact False.elim q | skip
      cases dz <;> first | exact False.elim q | skip
      exact ⟨_, _, _, rfl, q.here r _ (.int _)⟩
end

/-! ### all(is_whole(x) for x in a tuple) -/
def whP : PV → Option Bool
  | .int _ => some true
  | .bl _ => some false
  | .str _ => some false
  | _ => none
def whsP : List PV → Option (List Bool)
  | [] => some []
  | x :: xs => match whP x, whsP xs with
    | some b, some bs => some (b :: bs)
    | _, _ => none
def mAllWh (m : ME) : ME := fun ρ S => (m ρ S).bind fun x S1 => match x with
  | .tup xs => match whsP xs with
    | some bs => .ok (.bl (bs.all id)) S1
    | none => .bad
  | _ => .bad
section
variable {X : Cx} {g : Sg} {W : WX} {K : PySem.W.Frag} {α : List Addr} {σ : St} {H H' : Hp} {ρ : PSt} {S : Sto} {P : Addr}
theorem Kp.tabbed (r : GxR.TabG H P) (t : GxR.Tabbed P H H') : Kp H H' := fun a o h s => by
  have hne : a ≠ P := by
    rintro rfl
    obtain ⟨ps, hp, _⟩ := r
    rw [hp] at h
    cases h
    exact s.elim
  rw [t.2 a hne]
  exact h
theorem RlC.tabbed (r : RlC K g α H S) (hP : P ∈ g.tabs) (t : GxR.Tabbed P H H') : RlC K g α H' S := by
  have kp := Kp.tabbed (r.tab P hP) t
  refine ⟨r.len, r.nd, fun n a o h1 h2 => ?_, fun P' h => ?_⟩
  · have m := r.cel n a o h1 h2
    obtain ⟨u, hu, _, nt⟩ := m.some
    refine m.mono (List.prefix_refl _) kp fun v hv => ?_
    have hne : a ≠ P := by
      rintro rfl
      obtain ⟨ps, hp, _⟩ := r.tab _ hP
      rw [hp] at hu
      exact nt ps (Option.some.inj hu).symm
    rw [t.2 a hne]
    exact hv
  · by_cases e : P' = P
    · rw [e]; exact t.1
    · obtain ⟨ps, h1, h2⟩ := r.tab P' h
      exact ⟨ps, by rw [t.2 P' e]; exact h1, h2⟩
theorem whs_els : ∀ {xs : List PV} {vs : List V} {bs : List Bool}, Dens K α H xs vs → whsP xs = some bs → Odds.Els Odds.Wh vs bs
  | [], _, _, .nil, e => by
    cases e
    exact ⟨rfl, fun i x b u h => by cases h⟩
  | x :: xs, _, _, .cons (v := v) (vs := vs) d ds, e => by
    simp only [whsP] at e
    split at e
    · rename_i b bs e1 e2
      cases e
      obtain ⟨h1, h2⟩ := whs_els ds e2
      refine ⟨by simp [h1], fun i y c u hy hc hu => ?_⟩
      cases i with
      | succ i => exact h2 i y c u (by simpa using hy) (by simpa using hc) hu
      | zero =>
        simp at hy hc
        subst hy hc
        cases d <;> simp only [whP] at e1 <;> cases e1
        · cases hu; exact .bl _
        · obtain ⟨t, rfl⟩ := hu; exact .int _ t
        · obtain ⟨t, rfl⟩ := hu; exact .str _ t
    · cases e
theorem re_allW {e ca : Expr} {m : ME} (hP : P ∈ g.tabs) (h : RE X g W e m) (hc : ∀ {te : TE}, PE X e te → PE X ca (Odds.tAllT X.K P Odds.Wh te)) : RE X g W ca (mAllWh m) := by
  refine pe_le (hc h) fun σ H Q ⟨α, ρ, S, r, q⟩ => ?_
  refine ⟨α, ρ, S, r, q.of_bind.imp fun α1 H1 x S1 p1 k1 r1 q1 v dv => ?_⟩
  replace q1 := q1 r1
  cases dv <;> first | exact q1.elim | skip
  case tup xs vs a h0 d =>
    dsimp only at q1
    split at q1
    · rename_i bs eb
      refine ⟨a, vs, bs, rfl, h0, whs_els d eb, r1.obj.tab P hP, fun H2 t => ?_⟩
      have kp := Kp.tabbed (r1.obj.tab P hP) t
      exact q1 α1 H2 (List.prefix_refl _) kp (r1.keep (List.prefix_refl _) kp (r1.obj.tabbed hP t)) _ (.bl _)
    · exact q1.elim
end
end Pm
namespace Pm
open PySem L2
section
variable {X : Cx} {g : Sg} {W : WX} {es : List Expr} {ms : MA} {st : Stmt} {body : List Stmt}
/-- a, b, c = x, y, z -/
def mPar3 (i j l : Nat) (ms : MA) : MS := fun ρ S => (ms ρ S).ot ρ fun xs S1 => match xs with
  | [x, y, z] => .nx (((ρ.set i (some x)).set j (some y)).set l (some z)) S1
  | _ => .bad
theorem Dens.three {K : PySem.W.Frag} {α : List Addr} {H : Hp} {x y z : PV} {vs : List V} (d : Dens K α H [x, y, z] vs) : ∃ v u w, vs = [v, u, w] ∧ Den K α H x v ∧ Den K α H y u ∧ Den K α H z w := by
  cases d with
  | cons a b => obtain ⟨u, w, rfl, hu, hw⟩ := b.two; exact ⟨_, u, w, rfl, a, hu, hw⟩
theorem rs_par3 {i j l : Nat} (h : RA X g W es ms) (hp : ∀ {ta : TA}, PA X es ta → PS X st (tPar3 i j l ta)) : RS X g W st (mPar3 i j l ms) := by
  refine ps_le (hp h) fun D σ H ⟨α, ρ, S, r, q⟩ => ?_
  refine ⟨α, ρ, S, r, (then_post q).imp fun α1 H1 xs S1 p1 k1 r1 q1 vs dvs => ?_⟩
  replace q1 := q1 r1
  rcases xs with _ | ⟨x, _ | ⟨y, _ | ⟨z, _ | ⟨t, tl⟩⟩⟩⟩ <;> first | exact False.elim q1 | skip
  obtain ⟨v, u, w, rfl, dv, du, dw⟩ := dvs.three
  exact ⟨v, u, w, rfl, q1 α1 _ H1 (List.prefix_refl _) Kp.refl (((r1.set1 dv).set1 du).set1 dw)⟩
theorem rss_bad : RSs X g W body (fun _ _ => .bad) := ⟨fun _ _ _ _ _ _ ⟨_, _, _, _, q⟩ => False.elim q⟩
end
end Pm
namespace Pm
open PySem L2
/-! ### how mirrors are computed: one thing after another, nothing under a binder -/
theorem bind_cong {α β : Type} {r r' : Rs α} {f : α → Sto → Rs β} (h : r = r') : r.bind f = r'.bind f := by rw [h]
theorem ot_cong {β : Type} {r r' : Rs β} {ρ : PSt} {f : β → Sto → Ot} (h : r = r') : r.ot ρ f = r'.ot ρ f := by rw [h]
theorem sb_cong {α β : Type} {r r' : Rs α} {f : α → Sto → Rs β} (h : r = r') : r.sb f = r'.sb f := by rw [h]
/-- what follows a statement -/
def Ot.sq (o : Ot) (b : MS) : Ot := match o with
  | .nx ρ S => b ρ S
  | o => o
theorem sq_cong {o o' : Ot} {b : MS} (h : o = o') : o.sq b = o'.sq b := by rw [h]
@[simp] theorem sq_nx {ρ S} {b : MS} : (Ot.nx ρ S).sq b = b ρ S := rfl
@[simp] theorem sq_rt {x S} {b : MS} : (Ot.rt x S).sq b = .rt x S := rfl
@[simp] theorem sq_bk {x S} {b : MS} : (Ot.bk x S).sq b = .bk x S := rfl
@[simp] theorem sq_ct {x S} {b : MS} : (Ot.ct x S).sq b = .ct x S := rfl
@[simp] theorem sq_er {c fs ρ S} {b : MS} : (Ot.er c fs ρ S).sq b = .er c fs ρ S := rfl
@[simp] theorem sq_bad {b : MS} : Ot.bad.sq b = .bad := rfl
/-- the end of a def -/
def Ot.fin (o : Ot) (n : Nat) : Rs PV := match o with
  | .rt x S' => .ok x (gcS n [x] S')
  | .nx _ S' => .ok .non (gcS n [] S')
  | .er c fs _ S' => .er c fs (gcS n (fs.map (·.2)) S')
  | _ => .bad
theorem fin_cong {o o' : Ot} {n : Nat} (h : o = o') : o.fin n = o'.fin n := by rw [h]
@[simp] theorem fin_rt {x S n} : (Ot.rt x S).fin n = .ok x (gcS n [x] S) := rfl
@[simp] theorem fin_nx {x S n} : (Ot.nx x S).fin n = .ok .non (gcS n [] S) := rfl
@[simp] theorem fin_er {c fs ρ S n} : (Ot.er c fs ρ S).fin n = .er c fs (gcS n (fs.map (·.2)) S) := rfl
theorem gcS_le {n : Nat} {vs : List PV} {S : Sto} (h : S.length ≤ n) : gcS n vs S = S := by
  unfold gcS
  rw [List.take_of_length_le h]
  split <;> rfl
@[simp] theorem gcS_self {vs : List PV} {S : Sto} : gcS S.length vs S = S := gcS_le (Nat.le_refl _)
@[simp] theorem gcS_set {vs : List PV} {S : Sto} {i : Nat} {o : MO} : gcS S.length vs (S.set i o) = S.set i o := gcS_le (by simp)
section
variable {a b : MS} {t ta tb : MT} {m ma mb mc : ME} {ms : MA} {ρ : PSt} {S : Sto} {f f' : PV → PV → Sto → Rs PV}
theorem callD_ev {np n : Nat} {ps : List PV} (h : ps.length = np := by rfl) : callD np n a ps S = (a (ps.map some ++ List.replicate (n - ps.length) none) S).fin S.length := by
  unfold callD
  rw [if_pos h]
  cases a (ps.map some ++ List.replicate (n - ps.length) none) S <;> rfl
theorem mSeq_ev : mSeq a b ρ S = (a ρ S).sq b := by
  unfold mSeq Ot.sq
  cases a ρ S <;> rfl
theorem mIf_ev : mIf t a b ρ S = (t ρ S).ot ρ fun x S1 => if x = true then a ρ S1 else b ρ S1 := rfl
theorem mRet_ev : mRet m ρ S = (m ρ S).ot ρ fun x S1 => .rt x S1 := rfl
theorem mExp_ev : mExp m ρ S = (m ρ S).ot ρ fun _ S1 => .nx ρ S1 := rfl
theorem mAsg_ev {g : MG} : mAsg m g ρ S = (m ρ S).ot ρ fun x S1 => bindG g x ρ S1 fun ρ' => .nx ρ' S1 := rfl
theorem mAsgN_ev {i : Nat} : mAsg m (mgName i) ρ S = (m ρ S).ot ρ fun x S1 => .nx (ρ.set i (some x)) S1 := rfl
theorem bindGN_ev {i : Nat} {x : PV} {k : PSt → Ot} : bindG (mgName i) x ρ S k = k (ρ.set i (some x)) := rfl
theorem bindG_ev {g : MG} {x : PV} {k : PSt → Ot} {l : List (Nat × PV)} (h : g x S = some l) : bindG g x ρ S k = k (setl ρ l) := by unfold bindG; rw [h]
theorem mPar_ev {i j : Nat} : mPar i j ms ρ S = (ms ρ S).ot ρ fun xs S1 => match xs with
  | [x, y] => .nx ((ρ.set i (some x)).set j (some y)) S1
  | _ => .bad := rfl
theorem mPar3_ev {i j l : Nat} : mPar3 i j l ms ρ S = (ms ρ S).ot ρ fun xs S1 => match xs with
  | [x, y, z] => .nx (((ρ.set i (some x)).set j (some y)).set l (some z)) S1
  | _ => .bad := rfl
theorem mSetL_ev {mo mi mv : ME} : mSetL mo mi mv ρ S = (mv ρ S).ot ρ fun v S1 => (mo ρ S1).ot ρ fun o S2 => (mi ρ S2).ot ρ fun i S3 => setLO ρ v o i S3 := by
  unfold mSetL
  cases mv ρ S with
  | ok v S1 =>
    simp only [bind_ok, ot_ok]
    cases mo ρ S1 with
    | ok o S2 =>
      simp only [bind_ok, ot_ok]
      cases mi ρ S2 <;> rfl
    | er => rfl
    | bad => rfl
  | er => rfl
  | bad => rfl
theorem mNx_ev : mNx ρ S = .nx ρ S := rfl
theorem mBk_ev : mBk ρ S = .bk ρ S := rfl
theorem mCt_ev : mCt ρ S = .ct ρ S := rfl
theorem mRetN_ev : mRetN ρ S = .rt .non S := rfl
theorem mRaise_ev {c : Str} {ns : List Str} : mRaise c ns ms ρ S = (ms ρ S).ot ρ fun xs S1 => if xs.length = ns.length then .er c (ns.zip xs).reverse ρ S1 else .bad := rfl
theorem m2_ev : m2 f ma mb ρ S = (ma ρ S).bind fun x S1 => (mb ρ S1).bind fun y S2 => f x y S2 := rfl
theorem mC_ev {x : PV} : mC x ρ S = .ok x S := rfl
theorem mVar_ev {i : Nat} {x : PV} (h : ρ[i]? = some (some x)) : mVar i ρ S = .ok x S := by unfold mVar; rw [h]
theorem mTst_ev : mTst m ρ S = (m ρ S).bind fun x S1 => match x with
  | .bl b => .ok b S1
  | _ => .bad := rfl
theorem mTru_ev : mTru m ρ S = (m ρ S).bind fun x S1 => match truthM x S1 with
  | some b => .ok b S1
  | none => .bad := rfl
theorem mCh_ev : mCh f f' ma mb mc ρ S = (ma ρ S).bind fun x S1 => (mb ρ S1).bind fun y S2 => (f x y S2).bind fun z S3 => match z with
  | .bl true => (mc ρ S3).bind fun w S4 => f' y w S4
  | .bl false => .ok (.bl false) S3
  | _ => .bad := rfl
theorem mIsN_ev {n : Bool} : mIsN n m ρ S = (m ρ S).bind fun x S1 => .ok (.bl (if n then !isNM x else isNM x)) S1 := rfl
theorem mAndT_ev : mAndT ta tb ρ S = (ta ρ S).bind fun x S1 => if x = true then tb ρ S1 else .ok false S1 := rfl
theorem mOrT_ev : mOrT ta tb ρ S = (ta ρ S).bind fun x S1 => if x = true then .ok true S1 else tb ρ S1 := rfl
theorem mNotT_ev : mNotT t ρ S = (t ρ S).bind fun x S1 => .ok (!x) S1 := rfl
theorem mAndV_ev : mAndV ma mb ρ S = (ma ρ S).bind fun x S1 => match x with
  | .bl true => mb ρ S1
  | .bl false => .ok (.bl false) S1
  | _ => .bad := rfl
theorem mOrV_ev : mOrV ma mb ρ S = (ma ρ S).bind fun x S1 => match x with
  | .bl true => .ok (.bl true) S1
  | .bl false => mb ρ S1
  | _ => .bad := rfl
theorem mNotV_ev : mNotV m ρ S = (m ρ S).bind fun x S1 => match x with
  | .bl b => .ok (.bl (!b)) S1
  | _ => .bad := rfl
theorem mIfE_ev : mIfE t ma mb ρ S = (t ρ S).bind fun x S1 => if x = true then ma ρ S1 else mb ρ S1 := rfl
theorem mNeg_ev : mNeg m ρ S = (m ρ S).bind fun x S1 => match x with
  | .int i => .ok (.int (-i)) S1
  | _ => .bad := rfl
theorem mNil_ev : mNil ρ S = .ok [] S := rfl
theorem mCons_ev : mCons m ms ρ S = (m ρ S).bind fun x S1 => (ms ρ S1).bind fun xs S2 => .ok (x :: xs) S2 := rfl
theorem mTup_ev : mTup ms ρ S = (ms ρ S).bind fun xs S1 => .ok (.tup xs) S1 := rfl
theorem mLst_ev : mLst ms ρ S = (ms ρ S).bind fun xs S1 => .ok (.cell S1.length) (S1 ++ [.lst xs]) := rfl
theorem mCall_ev {g : MF} : mCall g ms ρ S = (ms ρ S).bind g := rfl
theorem mIsi_ev {T : String} : mIsi T m ρ S = (m ρ S).bind fun x S1 => isiM T x S1 := rfl
theorem mApp_ev {np : Nat} {g : MF} : mApp np g ms ρ S = (ms ρ S).bind fun xs S1 => if xs.length = np then g xs S1 else .bad := rfl
theorem mAllWh_ev : mAllWh m ρ S = (m ρ S).bind fun x S1 => match x with
  | .tup xs => match whsP xs with
    | some bs => .ok (.bl (bs.all id)) S1
    | none => .bad
  | _ => .bad := rfl
theorem mSl_ev {lo hi : PSt → Sto → Rs (Option Int)} : mSl m lo hi ρ S = (m ρ S).bind fun x S1 => (lo ρ S1).bind fun l S2 => (hi ρ S2).bind fun h S3 => slM x l h S3 := rfl
theorem mNoP_ev : mNoP ρ S = .ok none S := rfl
theorem mPart_ev : mPart m ρ S = (m ρ S).bind fun x S1 => match x with
  | .int i => .ok (some i) S1
  | _ => .bad := rfl
theorem mFor_ev {mi : MI} {g : MG} : mFor mi g b ρ S = (mi ρ S).ot ρ fun it S1 => forGo it.raw g b it.items ρ S1 := rfl
theorem mItA_ev {h : List PV → Sto → Rs Itm} : mItA h ms ρ S = (ms ρ S).bind h := rfl
theorem mItE_ev : mItE m ρ S = (m ρ S).bind fun x S1 => match itOf x S1 with
  | some it => .ok it S1
  | none => .bad := rfl
theorem mLc_ev {mi : MI} {g : MG} {te : ME} {vs : List Nat} : mLc mi g t te vs ρ S = (mi ρ S).bind fun it S1 => lcGo it.raw g t te vs S1.length ρ it.items (S1 ++ [.lst []]) := rfl
theorem mYes_ev : mYes ρ S = .ok true S := rfl
/-! on values -/
theorem add_ev {i j : Int} : addM (.int i) (.int j) S = .ok (.int (i + j)) S := rfl
theorem sub_ev {i j : Int} : subM (.int i) (.int j) S = .ok (.int (i - j)) S := rfl
theorem mul_ev {i j : Int} (h : mulOk i j = true) : mulM (.int i) (.int j) S = .ok (.int (i * j)) S := by simp [mulM, h]
theorem mod_ev {i j : Int} (h : 0 < j) : modM (.int i) (.int j) S = .ok (.int (i % j)) S := by simp [modM, h]
theorem div_ev {i j : Int} (h : 0 < j) (h2 : j.natAbs.log2 < 9000) : fdivM (.int i) (.int j) S = .ok (.int (i / j)) S := by simp [fdivM, h, h2]
theorem fdiv_ev {i j : Int} (h : j ≠ 0) (h2 : j.natAbs.log2 < 9000) : fdivM (.int i) (.int j) S = .ok (.int (i.fdiv j)) S := by
  simp only [fdivM]
  by_cases h0 : 0 < j
  · rw [if_pos h0, if_pos h2, Int.fdiv_eq_ediv_of_nonneg _ (Int.le_of_lt h0)]
  · rw [if_neg h0, if_pos ⟨h, h2⟩]
theorem pow_ev {i j : Int} (h : 0 ≤ j ∧ j ≤ 1000000 ∧ i.natAbs < 2 ^ 64) : powM (.int i) (.int j) S = .ok (.int (i ^ j.toNat)) S := by simp [powM, h]
theorem lt_ev {i j : Int} : ltM (.int i) (.int j) S = .ok (.bl (decide (i < j))) S := rfl
theorem le_ev {i j : Int} : leM (.int i) (.int j) S = .ok (.bl (decide (i ≤ j))) S := rfl
theorem gt_ev {i j : Int} : gtM (.int i) (.int j) S = .ok (.bl (decide (j < i))) S := rfl
theorem ge_ev {i j : Int} : geM (.int i) (.int j) S = .ok (.bl (decide (j ≤ i))) S := rfl
theorem eqi_ev {i j : Int} : eqM (.int i) (.int j) S = .ok (.bl (decide (i = j))) S := rfl
theorem eqs_ev {i j : Str} : eqM (.str i) (.str j) S = .ok (.bl (decide (i = j))) S := rfl
theorem eqb_ev {i j : Bool} : eqM (.bl i) (.bl j) S = .ok (.bl (decide (i = j))) S := rfl
theorem eqn_ev {i : Int} : eqM .non (.int i) S = .ok (.bl false) S := rfl
theorem nei_ev {i j : Int} : neM (.int i) (.int j) S = .ok (.bl (!decide (i = j))) S := rfl
theorem nes_ev {i j : Str} : neM (.str i) (.str j) S = .ok (.bl (!decide (i = j))) S := rfl
theorem atP_nat {xs : List PV} {j : Nat} {x : PV} (h : xs[j]? = some x) : atP xs (j : Int) = some x := by
  have hl := (List.getElem?_eq_some_iff.mp h).1
  unfold atP
  have : ixN xs.length (j : Int) = some j := by
    unfold ixN
    rw [if_pos (by omega), if_pos (by omega)]
    rfl
  rw [this]
  exact h
theorem ixT_ev {xs : List PV} {i : Int} {x : PV} (h : atP xs i = some x) : ixM (.tup xs) (.int i) S = .ok x S := by simp [ixM, h]
theorem ixR_ev {xs : List PV} {i : Int} {x : PV} (h : atP xs i = some x) : ixM (.rol xs) (.int i) S = .ok x S := by simp [ixM, h]
theorem ixC_ev {n : Nat} {xs : List PV} {i : Int} {x : PV} (h : S[n]? = some (.lst xs)) (h2 : atP xs i = some x) : ixM (.cell n) (.int i) S = .ok x S := by simp [ixM, h, h2]
theorem lenT_ev {xs : List PV} : lenM [.tup xs] S = .ok (.int xs.length) S := rfl
theorem lenC_ev {n : Nat} {xs : List PV} (h : S[n]? = some (.lst xs)) : lenM [.cell n] S = .ok (.int xs.length) S := by simp [lenM, h]
theorem abs_ev {i : Int} : absM [.int i] S = .ok (.int (i.natAbs : Nat)) S := by
  simp only [absM]
  split
  · congr 2; omega
  · congr 2; omega
theorem int_ev {i : Int} : intM [.int i] S = .ok (.int i) S := rfl
theorem intb_ev {b : Bool} : intM [.bl b] S = .ok (.int (if b then 1 else 0)) S := rfl
end
/-! loops -/
section
variable {t : MG} {body : MS} {x : PV} {xs : List PV} {ρ : PSt} {S : Sto} {i : Nat}
theorem loopE_cong {o o' : Ot} {f : PSt → Sto → Ot} (h : o = o') : loopE o f = loopE o' f := by rw [h]
@[simp] theorem loopE_nx {f : PSt → Sto → Ot} : loopE (.nx ρ S) f = f ρ S := rfl
@[simp] theorem loopE_ct {f : PSt → Sto → Ot} : loopE (.ct ρ S) f = f ρ S := rfl
@[simp] theorem loopE_bk {f : PSt → Sto → Ot} : loopE (.bk ρ S) f = .nx ρ S := rfl
@[simp] theorem loopE_rt {f : PSt → Sto → Ot} : loopE (.rt x S) f = .rt x S := rfl
@[simp] theorem loopE_er {c fs} {f : PSt → Sto → Ot} : loopE (.er c fs ρ S) f = .er c fs ρ S := rfl
theorem go_nil : forGo [] t body [] ρ S = .nx ρ S := by
  unfold forGo
  rw [if_pos chk_nil]
theorem go_cons : forGo [] t body (x :: xs) ρ S = bindG t x ρ S fun ρ1 => loopE (body ρ1 S) fun ρ2 S2 => forGo [] t body xs ρ2 S2 := by
  conv => lhs; unfold forGo
  rw [if_pos chk_nil]
theorem go_consN : forGo [] (mgName i) body (x :: xs) ρ S = loopE (body (ρ.set i (some x)) S) fun ρ2 S2 => forGo [] (mgName i) body xs ρ2 S2 := go_cons
@[simp] theorem rngP_len {lo : Int} {n : Nat} : (rngP lo n).length = n := by simp [rngP]
theorem rng1_ev {j : Int} (h : -(2 ^ 62) ≤ j ∧ j < 2 ^ 62) : rng1 [.int j] S = .ok ⟨rngP 0 j.toNat, []⟩ S := if_pos h
theorem rng2_ev {i j : Int} (h : -(2 ^ 62) ≤ i ∧ i < 2 ^ 62 ∧ -(2 ^ 62) ≤ j ∧ j < 2 ^ 62) : rng2 [.int i, .int j] S = .ok ⟨rngP i (j - i).toNat, []⟩ S := if_pos h
theorem mulOk_r {i j : Int} (h : j.natAbs < 2 ^ 63) : mulOk i j = true := by simp [mulOk, h]
theorem mulOk_l {i j : Int} (h : i.natAbs < 2 ^ 63) : mulOk i j = true := by simp [mulOk, h]
theorem mulOk_b {i j : Int} {a b : Nat} (ha : i.natAbs < 2 ^ a) (hb : j.natAbs < 2 ^ b) (h : a + b ≤ 900000 := by decide) : mulOk i j = true := by
  have e : ∀ (x : Int) (n : Nat), x.natAbs < 2 ^ n → x.natAbs.log2 < n + 1 := fun x n hx => by
    by_cases h0 : x.natAbs = 0
    · rw [h0]; exact Nat.lt_of_lt_of_le (by decide) (Nat.succ_le_succ (Nat.zero_le n))
    · exact Nat.lt_succ_of_lt ((Nat.log2_lt h0).mpr hx)
  have h1 := e i a ha
  have h2 := e j b hb
  have : i.natAbs.log2 + j.natAbs.log2 < 1000000 := by omega
  simp [mulOk, this]
theorem log_b {j : Int} {b : Nat} (hb : j.natAbs < 2 ^ b) (h : b ≤ 8999 := by decide) : j.natAbs.log2 < 9000 := by
  by_cases h0 : j.natAbs = 0
  · rw [h0]; decide
  · exact Nat.lt_of_lt_of_le ((Nat.log2_lt h0).mpr hb) (by omega)
end
/-! what is dropped at a def's end; comprehensions -/
def Clo (S : Sto) : Prop := S.all (cloO S.length) = true
mutual
theorem clo_up {n m : Nat} (h : n ≤ m) : ∀ {x : PV}, clo n x = true → clo m x = true
  | .non, _ => rfl
  | .bl _, _ => rfl
  | .int _, _ => rfl
  | .str _, _ => rfl
  | .tup xs, e => clos_up h (xs := xs) e
  | .rol xs, e => clos_up h (xs := xs) e
  | .cell c, e => decide_eq_true (Nat.lt_of_lt_of_le (of_decide_eq_true (show decide _ = true from e)) h)
theorem clos_up {n m : Nat} (h : n ≤ m) : ∀ {xs : List PV}, clos n xs = true → clos m xs = true
  | [], _ => rfl
  | x :: xs, e => by
    have e' := Bool.and_eq_true_iff.mp (show (clo n x && clos n xs) = true from e)
    show (clo m x && clos m xs) = true
    rw [clo_up h e'.1, clos_up h e'.2]
    rfl
end
theorem cloO_up {n m : Nat} (h : n ≤ m) : ∀ {o : MO}, cloO n o = true → cloO m o = true
  | .lst _, e => clos_up h e
  | .dk _, e => clos_up h e
  | .dt _, e => clos_up h e
  | .ins _ _, e => clos_up h e
theorem Clo.app {S : Sto} {o : MO} (h : Clo S) (ho : cloO (S.length + 1) o = true) : Clo (S ++ [o]) := by
  unfold Clo at *
  rw [List.all_append, List.length_append]
  refine Bool.and_eq_true_iff.mpr ⟨List.all_eq_true.mpr fun x hx => cloO_up (by simp) (List.all_eq_true.mp h x hx), ?_⟩
  simp [ho]
theorem Clo.set {S : Sto} {i : Nat} {o : MO} (h : Clo S) (ho : cloO S.length o = true) : Clo (S.set i o) := by
  unfold Clo at *
  rw [List.length_set]
  refine List.all_eq_true.mpr fun x hx => ?_
  rcases List.mem_or_eq_of_mem_set hx with hx | rfl
  · exact List.all_eq_true.mp h x hx
  · exact ho
theorem gcS_app {S E : Sto} {vs : List PV} (h : Clo S) (hv : clos S.length vs = true) : gcS S.length vs (S ++ E) = S := by
  unfold gcS
  rw [List.take_left']
  · exact if_pos ⟨hv, h⟩
  · rfl
theorem lcGo_map {t : MG} {te : ME} {vs : List Nat} {ρ : PSt} {S : Sto} {f : PV → PV} {P : List PV → Prop} : ∀ (items : List PV) (acc : List PV), acc.length + items.length ≤ sizeLine → P acc →
    (∀ x ∈ items, ∀ acc, P acc → P (acc ++ [f x]) ∧ ∃ l, t x (S ++ [.lst acc]) = some l ∧ (∀ p ∈ l, p.1 ∈ vs) ∧ te (Pm.setl (wipeP ρ vs) l) (S ++ [.lst acc]) = .ok (f x) (S ++ [.lst acc])) →
    lcGo [] t mYes te vs S.length ρ items (S ++ [.lst acc]) = .ok (.cell S.length) (S ++ [.lst (acc ++ items.map f)])
  | [], acc, _, _, _ => by
    unfold lcGo
    rw [if_pos chk_nil]
    simp
  | x :: xs, acc, hl, hp, h => by
    obtain ⟨hp', l, h1, h2, h3⟩ := h x List.mem_cons_self acc hp
    unfold lcGo
    rw [if_pos chk_nil, h1]
    simp only [if_pos h2, mYes_ev, sb_ok, if_true, h3]
    have e1 : (S ++ [MO.lst acc])[S.length]? = some (.lst acc) := by simp
    rw [e1]
    simp only
    have hs : acc.length < sizeLine := by simp at hl; omega
    rw [if_pos hs]
    have e2 : (S ++ [MO.lst acc]).set S.length (.lst (acc ++ [f x])) = S ++ [.lst (acc ++ [f x])] := by simp
    rw [e2, lcGo_map xs (acc ++ [f x]) (by simp at hl ⊢; omega) hp' fun y hy => h y (List.mem_cons_of_mem _ hy)]
    simp
theorem j0 (x : PV) (xs : List PV) : atP (x :: xs) 0 = some x := atP_nat (j := 0) rfl
theorem j1 (x y : PV) (xs : List PV) : atP (x :: y :: xs) 1 = some y := atP_nat (j := 1) rfl
theorem j2 (x y z : PV) (xs : List PV) : atP (x :: y :: z :: xs) 2 = some z := atP_nat (j := 2) rfl
theorem ixT0 {x : PV} {xs : List PV} {S : Sto} : ixM (.tup (x :: xs)) (.int 0) S = .ok x S := ixT_ev (j0 x xs)
theorem ixT1 {x y : PV} {xs : List PV} {S : Sto} : ixM (.tup (x :: y :: xs)) (.int 1) S = .ok y S := ixT_ev (j1 x y xs)
theorem ixT2 {x y z : PV} {xs : List PV} {S : Sto} : ixM (.tup (x :: y :: z :: xs)) (.int 2) S = .ok z S := ixT_ev (j2 x y z xs)
end Pm
namespace Odds
open PySem L2
/-! ### Euclid -/
def GcdI (B g i a b : Nat) : Prop := Nat.gcd a b = g ∧ ((i = 0 ∧ a < 2 ^ B ∧ b < 2 ^ B) ∨ (0 < i ∧ (b = 0 ∨ (b < a ∧ a * b * 2 ^ (i - 1) < 2 ^ (B + B)))))
theorem gcdI_step {B g i a b : Nat} (h : GcdI B g i a b) (hb : b ≠ 0) : GcdI B g (i + 1) b (a % b) := by
  obtain ⟨hg, h⟩ := h
  refine ⟨by rw [← hg, Nat.gcd_comm b (a % b), ← Nat.gcd_rec, Nat.gcd_comm], .inr ⟨Nat.succ_pos _, ?_⟩⟩
  have hlt : a % b < b := Nat.mod_lt _ (Nat.pos_of_ne_zero hb)
  refine .inr ⟨hlt, ?_⟩
  rcases h with ⟨rfl, ha, hb2⟩ | ⟨hi, h0 | ⟨hba, hp⟩⟩
  · show b * (a % b) * 2 ^ 0 < 2 ^ (B + B)
    rw [Nat.pow_zero, Nat.mul_one, Nat.pow_add]
    exact Nat.mul_lt_mul'' hb2 (Nat.lt_trans hlt hb2)
  · exact absurd h0 hb
  · have e : i + 1 - 1 = (i - 1) + 1 := by omega
    rw [e, Nat.pow_succ]
    have h2 : 2 * (a % b) ≤ a := by
      have h3 := Nat.mod_add_div a b
      have h4 : 1 ≤ a / b := (Nat.one_le_div_iff (Nat.pos_of_ne_zero hb)).mpr (Nat.le_of_lt hba)
      have h5 : b * 1 ≤ b * (a / b) := Nat.mul_le_mul_left b h4
      omega
    calc b * (a % b) * (2 ^ (i - 1) * 2) = (2 * (a % b)) * b * 2 ^ (i - 1) := by
            rw [Nat.mul_comm (2 ^ (i - 1)) 2, ← Nat.mul_assoc, Nat.mul_comm b (a % b), Nat.mul_comm (a % b * b) 2, ← Nat.mul_assoc]
      _ ≤ a * b * 2 ^ (i - 1) := Nat.mul_le_mul_right _ (Nat.mul_le_mul_right _ h2)
      _ < 2 ^ (B + B) := hp
theorem gcdI_end {B g a b : Nat} (h : GcdI B g 40000 a b) (hB : B ≤ 19000) : a = g := by
  obtain ⟨hg, h⟩ := h
  rcases h with ⟨h, _⟩ | ⟨_, h0 | ⟨hba, hp⟩⟩
  · cases h
  · rw [h0, Nat.gcd_zero_right] at hg
    exact hg
  · by_cases hb : b = 0
    · rw [hb, Nat.gcd_zero_right] at hg
      exact hg
    · exfalso
      have h1 : 1 ≤ a * b := Nat.mul_pos (by omega) (Nat.pos_of_ne_zero hb)
      have h2 : 2 ^ (40000 - 1) < 2 ^ (B + B) := Nat.lt_of_le_of_lt (Nat.le_trans (Nat.le_of_eq (Nat.one_mul _).symm) (Nat.mul_le_mul_right _ h1)) hp
      have h3 := (Nat.pow_lt_pow_iff_right (by decide : 1 < 2)).mp h2
      omega

/-! ### lowest terms -/
def sg (n d : Int) : Int := if d < 0 then -((Nat.gcd n.natAbs d.natAbs : Nat) : Int) else ((Nat.gcd n.natAbs d.natAbs : Nat) : Int)
def lo1 (n d : Int) : Int := n.fdiv (sg n d)
def lo2 (n d : Int) : Int := d.fdiv (sg n d)
theorem sg_abs (n d : Int) : (sg n d).natAbs = Nat.gcd n.natAbs d.natAbs := by
  unfold sg
  split <;> omega
theorem sg_ne {n d : Int} (h : d ≠ 0) : sg n d ≠ 0 := by
  intro e
  have := sg_abs n d
  rw [e] at this
  have h2 := Nat.gcd_pos_of_pos_right n.natAbs (show 0 < d.natAbs by omega)
  simp at this
  omega
theorem sg_dvd1 (n d : Int) : sg n d ∣ n := by
  rw [← Int.natAbs_dvd_natAbs, sg_abs]
  exact Nat.gcd_dvd_left _ _
theorem sg_dvd2 (n d : Int) : sg n d ∣ d := by
  rw [← Int.natAbs_dvd_natAbs, sg_abs]
  exact Nat.gcd_dvd_right _ _
theorem fdiv_cancel {a b : Int} (h : b ∣ a) : b * a.fdiv b = a := Int.mul_fdiv_cancel' h
theorem lo1_mul (n d : Int) : sg n d * lo1 n d = n := fdiv_cancel (sg_dvd1 n d)
theorem lo2_mul (n d : Int) : sg n d * lo2 n d = d := fdiv_cancel (sg_dvd2 n d)
theorem sg_size {n d : Int} {b : Nat} (h : d ≠ 0) (hb : d.natAbs < 2 ^ b) : (sg n d).natAbs < 2 ^ b := by
  rw [sg_abs]
  exact Nat.lt_of_le_of_lt (Nat.gcd_le_right _ (by omega)) hb
theorem lo2_pos {n d : Int} (h : d ≠ 0) : 1 ≤ lo2 n d := by
  have e := lo2_mul n d
  have hs := sg_ne (n := n) h
  have hp : 0 < sg n d * sg n d := by
    rcases Int.lt_or_gt_of_ne hs with h1 | h1
    · exact Int.mul_pos_of_neg_of_neg h1 h1
    · exact Int.mul_pos h1 h1
  have hsd : 0 < sg n d * d := by
    unfold sg
    have hg : 0 < Nat.gcd n.natAbs d.natAbs := Nat.gcd_pos_of_pos_right _ (by omega)
    split
    · exact Int.mul_pos_of_neg_of_neg (by omega) (by omega)
    · exact Int.mul_pos (by omega) (by omega)
  rcases (show lo2 n d < 1 ∨ 1 ≤ lo2 n d by omega) with hl | hl
  · exfalso
    have h2 : lo2 n d ≤ 0 := by omega
    have h3 : sg n d * (sg n d * lo2 n d) ≤ 0 := by
      rw [← Int.mul_assoc]
      exact Int.mul_nonpos_of_nonneg_of_nonpos (Int.le_of_lt hp) h2
    rw [e] at h3
    omega
  · exact hl
theorem lo_gcd {n d : Int} (h : d ≠ 0) : Nat.gcd (lo1 n d).natAbs (lo2 n d).natAbs = 1 := by
  have e1 : (sg n d).natAbs * (lo1 n d).natAbs = n.natAbs := by rw [← Int.natAbs_mul, lo1_mul]
  have e2 : (sg n d).natAbs * (lo2 n d).natAbs = d.natAbs := by rw [← Int.natAbs_mul, lo2_mul]
  have hg : 0 < Nat.gcd n.natAbs d.natAbs := Nat.gcd_pos_of_pos_right _ (by omega)
  have h1 := Nat.gcd_mul_left (sg n d).natAbs (lo1 n d).natAbs (lo2 n d).natAbs
  rw [e1, e2, sg_abs] at h1
  exact Nat.eq_of_mul_eq_mul_left hg (by omega)
theorem lo_cross (n d : Int) (h : d ≠ 0) : lo1 n d * d = lo2 n d * n := by
  have e1 := lo1_mul n d
  have e2 := lo2_mul n d
  calc lo1 n d * d = lo1 n d * (sg n d * lo2 n d) := by rw [e2]
    _ = lo2 n d * (sg n d * lo1 n d) := by rw [Int.mul_comm (lo1 n d), Int.mul_assoc, Int.mul_comm (lo2 n d) (lo1 n d), ← Int.mul_assoc, Int.mul_comm (sg n d * lo1 n d)]
    _ = lo2 n d * n := by rw [e1]
theorem lo1_size {n d : Int} (h : d ≠ 0) : (lo1 n d).natAbs ≤ n.natAbs := by
  have e1 : (sg n d).natAbs * (lo1 n d).natAbs = n.natAbs := by rw [← Int.natAbs_mul, lo1_mul]
  have hs : 1 ≤ (sg n d).natAbs := by have := sg_ne (n := n) h; omega
  calc (lo1 n d).natAbs = 1 * (lo1 n d).natAbs := (Nat.one_mul _).symm
    _ ≤ (sg n d).natAbs * (lo1 n d).natAbs := Nat.mul_le_mul_right _ hs
    _ = n.natAbs := e1
theorem lo2_size {n d : Int} (h : d ≠ 0) : (lo2 n d).natAbs ≤ d.natAbs := by
  have e1 : (sg n d).natAbs * (lo2 n d).natAbs = d.natAbs := by rw [← Int.natAbs_mul, lo2_mul]
  have hs : 1 ≤ (sg n d).natAbs := by have := sg_ne (n := n) h; omega
  calc (lo2 n d).natAbs = 1 * (lo2 n d).natAbs := (Nat.one_mul _).symm
    _ ≤ (sg n d).natAbs * (lo2 n d).natAbs := Nat.mul_le_mul_right _ hs
    _ = d.natAbs := e1
/-- a pair in lowest terms is its own -/
theorem sg_one {n d : Int} (hd : 1 ≤ d) (hg : Nat.gcd n.natAbs d.natAbs = 1) : sg n d = 1 := by
  unfold sg
  rw [if_neg (by omega), hg]
  rfl
theorem up (a : Nat) {b x : Nat} (h : x < 2 ^ a) (hab : a ≤ b := by decide) : x < 2 ^ b := Nat.lt_of_lt_of_le h (Nat.pow_le_pow_right (by decide) hab)
theorem mul_up {i j : Int} (a b : Nat) {c : Nat} (ha : i.natAbs < 2 ^ a) (hb : j.natAbs < 2 ^ b) (hc : a + b ≤ c := by decide) : (i * j).natAbs < 2 ^ c := by
  rw [Int.natAbs_mul]
  exact up (a + b) (by rw [Nat.pow_add]; exact Nat.mul_lt_mul'' ha hb) hc
end Odds
namespace Odds
open PySem
def nPlus (a b c d : Int) : Int := a * d + c * b
def nMinus (a b c d : Int) : Int := a * d - c * b
def nTimes (a _ c _ : Int) : Int := a * c
def dBoth (_ b _ d : Int) : Int := b * d
theorem add_up {i j : Int} (a : Nat) {c : Nat} (ha : i.natAbs < 2 ^ a) (hb : j.natAbs < 2 ^ a) (hc : a + 1 ≤ c := by decide) : (i + j).natAbs < 2 ^ c := by
  have h := Int.natAbs_add_le i j
  have e : 2 ^ (a + 1) = 2 ^ a + 2 ^ a := by rw [Nat.pow_succ]; omega
  exact Nat.lt_of_lt_of_le (by omega : (i + j).natAbs < 2 ^ (a + 1)) (Nat.pow_le_pow_right (by decide) hc)
theorem sub_up {i j : Int} (a : Nat) {c : Nat} (ha : i.natAbs < 2 ^ a) (hb : j.natAbs < 2 ^ a) (hc : a + 1 ≤ c := by decide) : (i - j).natAbs < 2 ^ c := by
  rw [Int.sub_eq_add_neg]
  exact add_up a ha (by rw [Int.natAbs_neg]; exact hb) hc
def isSq (n : Int) : Prop := ∃ r : Int, 0 ≤ r ∧ r * r = n
theorem sq_mono {a b : Int} (h0 : 0 ≤ a) (h : a ≤ b) : a * a ≤ b * b := Int.mul_self_le_mul_self h0 h
theorem root_uniq {n r q : Int} (r0 : 0 ≤ r) (q0 : 0 ≤ q) (r1 : r * r ≤ n) (r2 : n < (r + 1) * (r + 1)) (q1 : q * q ≤ n) (q2 : n < (q + 1) * (q + 1)) : r = q := by
  rcases (show r < q ∨ r = q ∨ q < r by omega) with h | h | h
  · have := sq_mono (show 0 ≤ r + 1 by omega) (show r + 1 ≤ q by omega)
    omega
  · exact h
  · have := sq_mono (show 0 ≤ q + 1 by omega) (show q + 1 ≤ r by omega)
    omega
theorem root_size {n r : Int} {a : Nat} (r0 : 0 ≤ r) (r1 : r * r ≤ n) (hn : n.natAbs < 2 ^ (a + a)) : r.natAbs < 2 ^ a := by
  rcases (show r.natAbs < 2 ^ a ∨ 2 ^ a ≤ r.natAbs by omega) with h | h
  · exact h
  · exfalso
    have h1 : 2 ^ a * 2 ^ a ≤ r.natAbs * r.natAbs := Nat.mul_le_mul h h
    rw [← Nat.pow_add, ← Int.natAbs_mul] at h1
    have h2 : 0 ≤ r * r := Int.mul_nonneg r0 r0
    omega
theorem two_sq : ∀ (r s : Nat), r * r = 2 * (s * s) → s = 0 := by
  intro r
  induction r using Nat.strongRecOn with
  | _ r ih =>
    intro s h
    have he : r % 2 = 0 := by
      have h1 : (r * r) % 2 = 0 := by rw [h]; exact Nat.mul_mod_right 2 _
      rw [Nat.mul_mod] at h1
      rcases (show r % 2 = 0 ∨ r % 2 = 1 by omega) with z | z
      · exact z
      · rw [z] at h1; cases h1
    obtain ⟨t, ht⟩ : ∃ t, r = 2 * t := ⟨r / 2, by omega⟩
    subst ht
    have h2 : s * s = 2 * (t * t) := by
      have e : 2 * t * (2 * t) = 2 * (2 * (t * t)) := by
        rw [Nat.mul_assoc, Nat.mul_left_comm t 2 t]
      rw [e] at h
      omega
    by_cases z : s = 0
    · exact z
    · exfalso
      have hlt : s < 2 * t := by
        rcases (show s < 2 * t ∨ 2 * t ≤ s by omega) with q | q
        · exact q
        · exfalso
          have h3 := Nat.mul_le_mul q q
          rw [h] at h3
          have : 0 < s * s := Nat.mul_pos (by omega) (by omega)
          omega
      have ht0 := ih s hlt t h2
      rw [ht0] at hlt
      omega
theorem two_not_sq {f : Int} (h0 : 0 < f) (h : isSq f) : ¬ isSq (f * 2) := by
  rintro ⟨r, hr, er⟩
  obtain ⟨s, hs, es⟩ := h
  have h1 : r.natAbs * r.natAbs = 2 * (s.natAbs * s.natAbs) := by
    rw [← Int.natAbs_mul, ← Int.natAbs_mul, er, es]
    omega
  have h2 := two_sq _ _ h1
  have h3 : s = 0 := by omega
  rw [h3] at es
  omega
abbrev Q2 := Int × Int
def Sm (n : Nat) (q : Q2) : Prop := 1 ≤ q.2 ∧ q.1.natAbs < 2 ^ n ∧ q.2.natAbs < 2 ^ n
theorem Sm.up {n : Nat} (m : Nat) {q : Q2} (h : Sm n q) (hm : n ≤ m := by decide) : Sm m q := ⟨h.1, Odds.up n h.2.1 hm, Odds.up n h.2.2 hm⟩
def qPlus (x y : Q2) : Q2 := (lo1 (nPlus x.1 x.2 y.1 y.2) (dBoth x.1 x.2 y.1 y.2), lo2 (nPlus x.1 x.2 y.1 y.2) (dBoth x.1 x.2 y.1 y.2))
def qMinus (x y : Q2) : Q2 := (lo1 (nMinus x.1 x.2 y.1 y.2) (dBoth x.1 x.2 y.1 y.2), lo2 (nMinus x.1 x.2 y.1 y.2) (dBoth x.1 x.2 y.1 y.2))
def qTimes (x y : Q2) : Q2 := (lo1 (nTimes x.1 x.2 y.1 y.2) (dBoth x.1 x.2 y.1 y.2), lo2 (nTimes x.1 x.2 y.1 y.2) (dBoth x.1 x.2 y.1 y.2))
theorem Sm.den {n m : Nat} {x y : Q2} (hx : Sm n x) (hy : Sm m y) : dBoth x.1 x.2 y.1 y.2 ≠ 0 := Int.mul_ne_zero (by have := hx.1; omega) (by have := hy.1; omega)
theorem sm_lo {n : Nat} {N D : Int} (h : D ≠ 0) (hN : N.natAbs < 2 ^ n) (hD : D.natAbs < 2 ^ n) : Sm n (lo1 N D, lo2 N D) :=
  ⟨lo2_pos h, Nat.lt_of_le_of_lt (lo1_size h) hN, Nat.lt_of_le_of_lt (lo2_size h) hD⟩
theorem Sm.plus {n : Nat} {x y : Q2} (hx : Sm n x) (hy : Sm n y) : Sm (n + n + 1) (qPlus x y) :=
  sm_lo (hx.den hy) (add_up (n + n) (mul_up n n hx.2.1 hy.2.2 (Nat.le_refl _)) (mul_up n n hy.2.1 hx.2.2 (Nat.le_refl _)) (Nat.le_refl _)) (mul_up n n hx.2.2 hy.2.2 (Nat.le_succ _))
theorem Sm.minus {n : Nat} {x y : Q2} (hx : Sm n x) (hy : Sm n y) : Sm (n + n + 1) (qMinus x y) :=
  sm_lo (hx.den hy) (sub_up (n + n) (mul_up n n hx.2.1 hy.2.2 (Nat.le_refl _)) (mul_up n n hy.2.1 hx.2.2 (Nat.le_refl _)) (Nat.le_refl _)) (mul_up n n hx.2.2 hy.2.2 (Nat.le_succ _))
theorem Sm.times {n m : Nat} {x y : Q2} (hx : Sm n x) (hy : Sm m y) : Sm (n + m) (qTimes x y) :=
  sm_lo (hx.den hy) (mul_up n m hx.2.1 hy.2.1 (Nat.le_refl _)) (mul_up n m hx.2.2 hy.2.2 (Nat.le_refl _))
theorem qPlus_comm (x y : Q2) : qPlus x y = qPlus y x := by
  have e1 : nPlus x.1 x.2 y.1 y.2 = nPlus y.1 y.2 x.1 x.2 := by unfold nPlus; rw [Int.add_comm]
  have e2 : dBoth x.1 x.2 y.1 y.2 = dBoth y.1 y.2 x.1 x.2 := by unfold dBoth; rw [Int.mul_comm]
  unfold qPlus
  rw [e1, e2]
theorem qTimes_comm (x y : Q2) : qTimes x y = qTimes y x := by
  have e1 : nTimes x.1 x.2 y.1 y.2 = nTimes y.1 y.2 x.1 x.2 := by unfold nTimes; rw [Int.mul_comm]
  have e2 : dBoth x.1 x.2 y.1 y.2 = dBoth y.1 y.2 x.1 x.2 := by unfold dBoth; rw [Int.mul_comm]
  unfold qTimes
  rw [e1, e2]
theorem qMinus_neg (x y : Q2) : qMinus x y = qPlus x (0 - y.1, y.2) := by
  have e1 : nMinus x.1 x.2 y.1 y.2 = nPlus x.1 x.2 (0 - y.1) y.2 := by
    unfold nMinus nPlus
    rw [Int.sub_mul, Int.zero_mul, Int.zero_sub, Int.sub_eq_add_neg]
  have e2 : dBoth x.1 x.2 y.1 y.2 = dBoth x.1 x.2 (0 - y.1) y.2 := rfl
  unfold qMinus qPlus
  rw [e1, e2]
def fMul (f : Int) (x y z w : Q2) : Q2 × Q2 := (qPlus (qTimes x z) (qTimes (f, 1) (qTimes y w)), qPlus (qTimes x w) (qTimes y z))
theorem sm_int {f : Int} {n : Nat} (h : f.natAbs < 2 ^ n) (hn : n ≠ 0 := by decide) : Sm n (f, 1) := ⟨Int.le_refl 1, h, Nat.one_lt_two_pow hn⟩
def nrm (f : Int) (x y : Q2) : Q2 := qMinus (qTimes x x) (qTimes (f, 1) (qTimes y y))
def sgF (f : Int) (x y : Q2) : Int := if y.1.sign = 0 ∨ x.1.sign = y.1.sign then x.1.sign else if x.1.sign = 0 then y.1.sign else x.1.sign * (nrm f x y).1.sign
def lsF (f : Int) (x y : Q2) : Int :=
  if 0 ≤ x.1 * y.2 ∧ 0 ≤ y.1 * x.2 * f then (if 0 < x.1 * y.2 ∨ 0 < y.1 * x.2 * f then 1 else 0)
  else if x.1 * y.2 ≤ 0 ∧ y.1 * x.2 * f ≤ 0 then -1
  else if y.1 * x.2 * (y.1 * x.2) * f < x.1 * y.2 * (x.1 * y.2) then (x.1 * y.2).sign else (y.1 * x.2).sign
theorem sign_size (i : Int) : i.sign.natAbs < 2 ^ 2 := by
  rcases Int.lt_trichotomy i 0 with h | h | h
  · rw [Int.sign_eq_neg_one_of_neg h]; decide
  · rw [h]; decide
  · rw [Int.sign_eq_one_of_pos h]; decide
theorem sign_pos_mul {a b : Int} (h : 0 < b) : (a * b).sign = a.sign := by
  rw [Int.sign_mul, Int.sign_eq_one_of_pos h, Int.mul_one]
theorem sign_pos_mul' {a b : Int} (h : 0 < b) : (b * a).sign = a.sign := by
  rw [Int.sign_mul, Int.sign_eq_one_of_pos h, Int.one_mul]
theorem sign_lo {N D : Int} (h : 0 < D) : (lo1 N D).sign = N.sign := by
  have e := lo_cross N D (by omega)
  have p := lo2_pos (n := N) (show D ≠ 0 by omega)
  rw [← sign_pos_mul (a := lo1 N D) h, e, sign_pos_mul' (by omega)]
theorem sq_of {f l r : Int} (hr : r ≠ 0) (h : l * l = r * r * f) : isSq f := by
  have h1 : r.natAbs ^ 2 ∣ l.natAbs ^ 2 := by
    rw [Nat.pow_two, Nat.pow_two, ← Int.natAbs_mul, ← Int.natAbs_mul, h, Int.natAbs_mul (r * r) f]
    exact Nat.dvd_mul_right _ _
  have h2 := (Nat.pow_dvd_pow_iff (by decide)).mp h1
  obtain ⟨t, ht⟩ := Int.natAbs_dvd_natAbs.mp h2
  subst ht
  refine ⟨t.natAbs, by omega, ?_⟩
  have h3 : (r * r) * (t * t) = (r * r) * f := by grind
  have h4 : t * t = f := Int.eq_of_mul_eq_mul_left (Int.mul_ne_zero hr hr) h3
  rw [← h4]
  have := Int.natAbs_mul_self (a := t)
  omega
theorem nrm_sign {f : Int} {x y : Q2} (hx : 1 ≤ x.2) (hy : 1 ≤ y.2) : (nrm f x y).1.sign = (x.1 * y.2 * (x.1 * y.2) - y.1 * x.2 * (y.1 * x.2) * f).sign := by
  have px : 0 < x.2 * x.2 := Int.mul_pos (by omega) (by omega)
  have py : 0 < y.2 * y.2 := Int.mul_pos (by omega) (by omega)
  have cu := lo_cross (x.1 * x.1) (x.2 * x.2) (by omega)
  have pu := lo2_pos (n := x.1 * x.1) (show x.2 * x.2 ≠ 0 by omega)
  have cw := lo_cross (y.1 * y.1) (y.2 * y.2) (by omega)
  have pw := lo2_pos (n := y.1 * y.1) (show y.2 * y.2 ≠ 0 by omega)
  show (lo1 (nMinus (lo1 (x.1 * x.1) (x.2 * x.2)) (lo2 (x.1 * x.1) (x.2 * x.2)) (lo1 (f * (lo1 (y.1 * y.1) (y.2 * y.2))) (1 * (lo2 (y.1 * y.1) (y.2 * y.2)))) (lo2 (f * (lo1 (y.1 * y.1) (y.2 * y.2))) (1 * (lo2 (y.1 * y.1) (y.2 * y.2)))))
    (lo2 (x.1 * x.1) (x.2 * x.2) * (lo2 (f * (lo1 (y.1 * y.1) (y.2 * y.2))) (1 * (lo2 (y.1 * y.1) (y.2 * y.2)))))).sign = _
  generalize lo1 (x.1 * x.1) (x.2 * x.2) = u1 at *
  generalize lo2 (x.1 * x.1) (x.2 * x.2) = u2 at *
  generalize lo1 (y.1 * y.1) (y.2 * y.2) = w1 at *
  generalize lo2 (y.1 * y.1) (y.2 * y.2) = w2 at *
  have nw : (1 * w2 : Int) ≠ 0 := by omega
  have cv := lo_cross (f * w1) (1 * w2) nw
  have pv := lo2_pos (n := f * w1) nw
  generalize lo1 (f * w1) (1 * w2) = v1 at *
  generalize lo2 (f * w1) (1 * w2) = v2 at *
  rw [sign_lo (Int.mul_pos (by omega) (by omega))]
  unfold nMinus
  have key : (u1 * v2 - v1 * u2) * ((x.2 * x.2) * (y.2 * y.2) * w2) = (u2 * v2 * w2) * (x.1 * y.2 * (x.1 * y.2) - y.1 * x.2 * (y.1 * x.2) * f) := by
    obtain ⟨n, d⟩ := x
    obtain ⟨m, e⟩ := y
    dsimp only at *
    grind
  rw [← sign_pos_mul (a := u1 * v2 - v1 * u2) (Int.mul_pos (Int.mul_pos px py) (show 0 < w2 by omega)), key, sign_pos_mul' (Int.mul_pos (Int.mul_pos (by omega) (by omega)) (by omega))]
theorem sg_same {f : Int} {x y : Q2} (hx : 1 ≤ x.2) (hy : 1 ≤ y.2) (hf : f = 0 ∨ (0 < f ∧ ¬ isSq f)) (hz : f = 0 → y.1 = 0) : sgF f x y = lsF f x y := by
  have e1 : (x.1 * y.2).sign = x.1.sign := sign_pos_mul (by omega)
  have e2 : (y.1 * x.2).sign = y.1.sign := sign_pos_mul (by omega)
  have e3 := nrm_sign (f := f) hx hy
  unfold sgF lsF
  rw [e3, ← e1, ← e2]
  generalize x.1 * y.2 = L
  rcases hf with rfl | ⟨f0, fq⟩
  · rw [hz rfl, Int.zero_mul]
    rcases Int.lt_trichotomy L 0 with h | h | h
    · rw [Int.sign_eq_neg_one_of_neg h]
      simp only [Int.sign_zero, true_or, if_true, Int.zero_mul, Int.le_refl, and_true]
      rw [if_neg (by omega), if_pos (by omega)]
    · subst h
      simp
    · rw [Int.sign_eq_one_of_pos h]
      simp only [Int.sign_zero, true_or, if_true, Int.zero_mul, Int.le_refl, and_true]
      rw [if_pos (by omega), if_pos (.inl h)]
  · generalize hR : y.1 * x.2 = R
    have sR : ∀ z : Int, (0 < z ↔ 0 < z * f) ∧ (z < 0 ↔ z * f < 0) := fun z => by
      refine ⟨⟨fun h => Int.mul_pos h f0, fun h => ?_⟩, ⟨fun h => Int.mul_neg_of_neg_of_pos h f0, fun h => ?_⟩⟩
      · rcases Int.lt_trichotomy z 0 with q | q | q
        · have := Int.mul_neg_of_neg_of_pos q f0; omega
        · rw [q, Int.zero_mul] at h; omega
        · exact q
      · rcases Int.lt_trichotomy z 0 with q | q | q
        · exact q
        · rw [q, Int.zero_mul] at h; omega
        · have := Int.mul_pos q f0; omega
    obtain ⟨r1, r2⟩ := sR R
    have ne : R ≠ 0 → L * L ≠ R * R * f := fun hr h => fq (sq_of hr h)
    rcases Int.lt_trichotomy L 0 with hl | hl | hl <;> rcases Int.lt_trichotomy R 0 with hr | hr | hr
    · rw [Int.sign_eq_neg_one_of_neg hl, Int.sign_eq_neg_one_of_neg hr, if_pos (.inr rfl), if_neg (by omega), if_pos (by omega)]
    · rw [Int.sign_eq_neg_one_of_neg hl, hr, Int.zero_mul, if_pos (.inl rfl), if_neg (by omega), if_pos (by omega)]
    · rw [Int.sign_eq_neg_one_of_neg hl, Int.sign_eq_one_of_pos hr, if_neg (by decide), if_neg (by decide), if_neg (by omega), if_neg (by omega)]
      have := ne (by omega)
      rcases (show R * R * f < L * L ∨ L * L < R * R * f by omega) with h | h
      · rw [if_pos h, Int.sign_eq_one_of_pos (by omega)]; rfl
      · rw [if_neg (by omega), Int.sign_eq_neg_one_of_neg (by omega)]; rfl
    · subst hl
      rw [Int.sign_zero, Int.sign_eq_neg_one_of_neg hr, if_neg (by decide), if_pos rfl, if_neg (by omega), if_pos (by omega)]
    · subst hl hr
      rw [Int.sign_zero, Int.zero_mul]
      simp
    · subst hl
      rw [Int.sign_zero, Int.sign_eq_one_of_pos hr, if_neg (by decide), if_pos rfl, if_pos (by omega), if_pos (by omega)]
    · rw [Int.sign_eq_one_of_pos hl, Int.sign_eq_neg_one_of_neg hr, if_neg (by decide), if_neg (by decide), if_neg (by omega), if_neg (by omega)]
      have := ne (by omega)
      rcases (show R * R * f < L * L ∨ L * L < R * R * f by omega) with h | h
      · rw [if_pos h, Int.sign_eq_one_of_pos (by omega)]; rfl
      · rw [if_neg (by omega), Int.sign_eq_neg_one_of_neg (by omega)]; rfl
    · rw [Int.sign_eq_one_of_pos hl, hr, Int.zero_mul, if_pos (.inl rfl), if_pos (by omega), if_pos (by omega)]
    · rw [Int.sign_eq_one_of_pos hl, Int.sign_eq_one_of_pos hr, if_pos (.inr rfl), if_pos (by omega), if_pos (by omega)]
theorem sg_neg {f : Int} {x y : Q2} (hx : 1 ≤ x.2) (hy : 1 ≤ y.2) : sgF f (0 - x.1, x.2) (0 - y.1, y.2) = 0 - sgF f x y := by
  have s1 : ∀ i : Int, (0 - i).sign = - i.sign := fun i => by rw [Int.zero_sub, Int.sign_neg]
  have e3 := nrm_sign (f := f) hx hy
  have e4 := nrm_sign (f := f) (x := (0 - x.1, x.2)) (y := (0 - y.1, y.2)) hx hy
  have e5 : (0 - x.1) * y.2 * ((0 - x.1) * y.2) - (0 - y.1) * x.2 * ((0 - y.1) * x.2) * f = x.1 * y.2 * (x.1 * y.2) - y.1 * x.2 * (y.1 * x.2) * f := by grind
  unfold sgF
  rw [e4, e3]
  dsimp only
  rw [e5, s1, s1]
  by_cases h1 : y.1.sign = 0 ∨ x.1.sign = y.1.sign
  · rw [if_pos h1, if_pos (by omega)]; omega
  · rw [if_neg h1, if_neg (by omega)]
    by_cases h2 : x.1.sign = 0
    · rw [if_pos h2, if_pos (by omega)]; omega
    · rw [if_neg h2, if_neg (by omega), Int.neg_mul]; omega
def Nrm (q : Q2) : Prop := 1 ≤ q.2 ∧ Nat.gcd q.1.natAbs q.2.natAbs = 1
def val (q : Q2) : Rat := (q.1 : Rat) / (q.2 : Rat)
theorem ratne {d : Int} (h : d ≠ 0) : (d : Rat) ≠ 0 := fun e => h (Rat.intCast_inj.mp (by rw [e]; rfl))
theorem lo_nrm {N D : Int} (h : D ≠ 0) : Nrm (lo1 N D, lo2 N D) := ⟨lo2_pos h, lo_gcd h⟩
theorem val_lo {N D : Int} (h : D ≠ 0) : val (lo1 N D, lo2 N D) = (N : Rat) / (D : Rat) := by
  have e : ((lo1 N D * D : Int) : Rat) = ((lo2 N D * N : Int) : Rat) := by rw [lo_cross N D h]
  rw [Rat.intCast_mul, Rat.intCast_mul] at e
  have h1 := ratne h
  have h2 : ((lo2 N D : Int) : Rat) ≠ 0 := ratne (by have := lo2_pos (n := N) h; omega)
  unfold val
  dsimp only
  grind
theorem val_plus {x y : Q2} (hx : 1 ≤ x.2) (hy : 1 ≤ y.2) : val (qPlus x y) = val x + val y := by
  have h1 : (x.2 : Rat) ≠ 0 := ratne (by omega)
  have h2 : (y.2 : Rat) ≠ 0 := ratne (by omega)
  have e := val_lo (N := nPlus x.1 x.2 y.1 y.2) (D := dBoth x.1 x.2 y.1 y.2) (Int.mul_ne_zero (by omega) (by omega))
  show val (lo1 (nPlus x.1 x.2 y.1 y.2) (dBoth x.1 x.2 y.1 y.2), lo2 (nPlus x.1 x.2 y.1 y.2) (dBoth x.1 x.2 y.1 y.2)) = _
  rw [e]
  unfold nPlus dBoth val
  rw [Rat.intCast_add, Rat.intCast_mul, Rat.intCast_mul, Rat.intCast_mul]
  grind
theorem val_minus {x y : Q2} (hx : 1 ≤ x.2) (hy : 1 ≤ y.2) : val (qMinus x y) = val x - val y := by
  have h1 : (x.2 : Rat) ≠ 0 := ratne (by omega)
  have h2 : (y.2 : Rat) ≠ 0 := ratne (by omega)
  have e := val_lo (N := nMinus x.1 x.2 y.1 y.2) (D := dBoth x.1 x.2 y.1 y.2) (Int.mul_ne_zero (by omega) (by omega))
  show val (lo1 (nMinus x.1 x.2 y.1 y.2) (dBoth x.1 x.2 y.1 y.2), lo2 (nMinus x.1 x.2 y.1 y.2) (dBoth x.1 x.2 y.1 y.2)) = _
  rw [e]
  unfold nMinus dBoth val
  rw [Rat.intCast_sub, Rat.intCast_mul, Rat.intCast_mul, Rat.intCast_mul]
  grind
theorem val_times {x y : Q2} (hx : 1 ≤ x.2) (hy : 1 ≤ y.2) : val (qTimes x y) = val x * val y := by
  have h1 : (x.2 : Rat) ≠ 0 := ratne (by omega)
  have h2 : (y.2 : Rat) ≠ 0 := ratne (by omega)
  have e := val_lo (N := nTimes x.1 x.2 y.1 y.2) (D := dBoth x.1 x.2 y.1 y.2) (Int.mul_ne_zero (by omega) (by omega))
  show val (lo1 (nTimes x.1 x.2 y.1 y.2) (dBoth x.1 x.2 y.1 y.2), lo2 (nTimes x.1 x.2 y.1 y.2) (dBoth x.1 x.2 y.1 y.2)) = _
  rw [e]
  unfold nTimes dBoth val
  rw [Rat.intCast_mul, Rat.intCast_mul]
  grind
theorem val_inj {x y : Q2} (hx : Nrm x) (hy : Nrm y) (h : val x = val y) : x = y := by
  obtain ⟨a, b⟩ := x
  obtain ⟨c, d⟩ := y
  obtain ⟨b1, g1⟩ := hx
  obtain ⟨d1, g2⟩ := hy
  dsimp only at *
  have hb : (b : Rat) ≠ 0 := ratne (by omega)
  have hd : (d : Rat) ≠ 0 := ratne (by omega)
  have e : (a : Rat) * (d : Rat) = (c : Rat) * (b : Rat) := by
    unfold val at h
    dsimp only at h
    grind
  rw [← Rat.intCast_mul, ← Rat.intCast_mul, Rat.intCast_inj] at e
  have en : a.natAbs * d.natAbs = c.natAbs * b.natAbs := by rw [← Int.natAbs_mul, ← Int.natAbs_mul, e]
  have k1 : b.natAbs ∣ d.natAbs := by
    have : Nat.Coprime b.natAbs a.natAbs := by rw [Nat.Coprime, Nat.gcd_comm]; exact g1
    exact this.dvd_of_dvd_mul_left (by rw [en]; exact Nat.dvd_mul_left _ _)
  have k2 : d.natAbs ∣ b.natAbs := by
    have : Nat.Coprime d.natAbs c.natAbs := by rw [Nat.Coprime, Nat.gcd_comm]; exact g2
    exact this.dvd_of_dvd_mul_left (by rw [← en]; exact Nat.dvd_mul_left _ _)
  have k3 := Nat.dvd_antisymm k1 k2
  have k4 : b = d := by omega
  subst k4
  have k5 : a = c := Int.eq_of_mul_eq_mul_right (show b ≠ 0 by omega) e
  rw [k5]
theorem qPlus_nrm {x y : Q2} (hx : 1 ≤ x.2) (hy : 1 ≤ y.2) : Nrm (qPlus x y) := lo_nrm (Int.mul_ne_zero (by omega) (by omega))
theorem qMinus_nrm {x y : Q2} (hx : 1 ≤ x.2) (hy : 1 ≤ y.2) : Nrm (qMinus x y) := lo_nrm (Int.mul_ne_zero (by omega) (by omega))
theorem qTimes_nrm {x y : Q2} (hx : 1 ≤ x.2) (hy : 1 ≤ y.2) : Nrm (qTimes x y) := lo_nrm (Int.mul_ne_zero (by omega) (by omega))
theorem val_int (f : Int) : val (f, 1) = (f : Rat) := by
  unfold val
  have : ((1 : Int) : Rat) = 1 := rfl
  rw [this]
  grind
def qOver (x y : Q2) : Q2 := (lo1 (x.1 * y.2) (x.2 * y.1), lo2 (x.1 * y.2) (x.2 * y.1))
theorem val_over {x y : Q2} (hx : 1 ≤ x.2) (hy : 1 ≤ y.2) (h : y.1 ≠ 0) : val (qOver x y) * val y = val x := by
  have h1 : (x.2 : Rat) ≠ 0 := ratne (by omega)
  have h2 : (y.2 : Rat) ≠ 0 := ratne (by omega)
  have h3 : (y.1 : Rat) ≠ 0 := ratne h
  unfold qOver
  rw [val_lo (Int.mul_ne_zero (by omega) h)]
  unfold val
  rw [Rat.intCast_mul, Rat.intCast_mul]
  grind
theorem qOver_nrm {x y : Q2} (hx : 1 ≤ x.2) (h : y.1 ≠ 0) : Nrm (qOver x y) := lo_nrm (Int.mul_ne_zero (by omega) h)
theorem Sm.over {n m : Nat} {x y : Q2} (hx : Sm n x) (hy : Sm m y) (h : y.1 ≠ 0) : Sm (n + m) (qOver x y) :=
  sm_lo (Int.mul_ne_zero (by have := hx.1; omega) h) (mul_up n m hx.2.1 hy.2.2 (Nat.le_refl _)) (mul_up n m hx.2.2 hy.2.1 (Nat.le_refl _))
theorem val_nrm {f : Int} {x y : Q2} (hx : 1 ≤ x.2) (hy : 1 ≤ y.2) : val (nrm f x y) = val x * val x - (f : Rat) * (val y * val y) := by
  unfold nrm
  rw [val_minus (qTimes_nrm hx hx).1 (qTimes_nrm (x := (f, 1)) (Int.le_refl 1) (qTimes_nrm hy hy).1).1, val_times hx hx, val_times (x := (f, 1)) (Int.le_refl 1) (qTimes_nrm hy hy).1, val_times hy hy, val_int]
theorem Sm.nrm {f : Int} {n : Nat} {x y : Q2} (hx : Sm n x) (hy : Sm n y) (hf : f.natAbs < 2 ^ 100) : Sm (100 + (n + n) + (100 + (n + n)) + 1) (nrm f x y) :=
  Sm.minus ((hx.times hx).up _ (by omega)) ((sm_int (n := 100) hf).times (hy.times hy))
theorem nrm_ne {f : Int} {x y : Q2} (hx : Nrm x) (hy : Nrm y) (hf : f = 0 ∨ (0 < f ∧ ¬ isSq f)) (hz : f = 0 → y = (0, 1)) (ne : ¬ (x = (0, 1) ∧ y = (0, 1))) : (nrm f x y).1 ≠ 0 := by
  intro e
  have s := nrm_sign (f := f) hx.1 hy.1
  rw [e, Int.sign_zero] at s
  have s0 : x.1 * y.2 * (x.1 * y.2) - y.1 * x.2 * (y.1 * x.2) * f = 0 := Int.sign_eq_zero_iff_zero.mp s.symm
  have zero : ∀ q : Q2, Nrm q → q.1 = 0 → q = (0, 1) := fun q hq h => by
    obtain ⟨n, d⟩ := q
    dsimp only at h
    subst h
    have h2 := hq.2
    have h1 := hq.1
    rw [show (0 : Int).natAbs = 0 from rfl, Nat.gcd_zero_left] at h2
    dsimp only at h1 h2
    rw [show d = 1 by omega]
  by_cases hw : y.1 * x.2 = 0
  · rw [hw, Int.zero_mul, Int.zero_mul, Int.sub_zero] at s0
    have h1 : x.1 * y.2 = 0 := by rcases Int.mul_eq_zero.mp s0 with h | h <;> exact h
    have h2 : x.1 = 0 := by
      rcases Int.mul_eq_zero.mp h1 with h | h
      · exact h
      · have := hy.1; omega
    have h3 : y.1 = 0 := by
      rcases Int.mul_eq_zero.mp hw with h | h
      · exact h
      · have := hx.1; omega
    exact ne ⟨zero x hx h2, zero y hy h3⟩
  · rcases hf with h0 | ⟨h0, hq⟩
    · rw [hz h0] at hw
      exact hw (Int.zero_mul _)
    · exact hq (sq_of (l := x.1 * y.2) hw (by omega))
def eqA (f : Int) (x y : Q2) : Int := ((Nat.lcm (qTimes (-2, 1) x).2.natAbs (nrm f x y).2.natAbs : Nat) : Int)
def eqB (f : Int) (x y : Q2) : Int := (qTimes (-2, 1) x).1 * (eqA f x y / (qTimes (-2, 1) x).2)
def eqC (f : Int) (x y : Q2) : Int := (nrm f x y).1 * (eqA f x y / (nrm f x y).2)
theorem nrm_nrm {f : Int} {x y : Q2} (hx : 1 ≤ x.2) (hy : 1 ≤ y.2) : Nrm (nrm f x y) := qMinus_nrm (qTimes_nrm hx hx).1 (qTimes_nrm (x := (f, 1)) (Int.le_refl 1) (qTimes_nrm hy hy).1).1
theorem lcm_coprime {l m n k : Int} (h1 : Nrm (l, m)) (h2 : Nrm (n, k)) {A : Int} (hA : A = ((Nat.lcm m.natAbs k.natAbs : Nat) : Int)) :
    1 ≤ A ∧ (A / m) * m = A ∧ (A / k) * k = A ∧ Nat.gcd (Nat.gcd A.natAbs (l * (A / m)).natAbs) (n * (A / k)).natAbs = 1 := by
  have m1 : 1 ≤ m := h1.1
  have k1 : 1 ≤ k := h2.1
  obtain ⟨M, rfl⟩ : ∃ M : Nat, m = (M : Int) := ⟨m.toNat, by omega⟩
  obtain ⟨K', rfl⟩ : ∃ K' : Nat, k = (K' : Int) := ⟨k.toNat, by omega⟩
  rw [Int.natAbs_natCast, Int.natAbs_natCast] at hA
  subst hA
  have dM : M ∣ Nat.lcm M K' := Nat.dvd_lcm_left M K'
  have dK : K' ∣ Nat.lcm M K' := Nat.dvd_lcm_right M K'
  have pos : 0 < Nat.lcm M K' := Nat.lcm_pos (by omega) (by omega)
  have eM : ((Nat.lcm M K' : Nat) : Int) / (M : Int) = ((Nat.lcm M K' / M : Nat) : Int) := by rw [Int.natCast_ediv]
  have eK : ((Nat.lcm M K' : Nat) : Int) / (K' : Int) = ((Nat.lcm M K' / K' : Nat) : Int) := by rw [Int.natCast_ediv]
  have cM : Nat.lcm M K' / M * M = Nat.lcm M K' := Nat.div_mul_cancel dM
  have cK : Nat.lcm M K' / K' * K' = Nat.lcm M K' := Nat.div_mul_cancel dK
  refine ⟨by omega, ?_, ?_, ?_⟩
  · rw [eM, ← Int.natCast_mul, cM]
  · rw [eK, ← Int.natCast_mul, cK]
  · rw [eM, eK, Int.natAbs_mul, Int.natAbs_mul, Int.natAbs_natCast, Int.natAbs_natCast, Int.natAbs_natCast]
    have g1 : Nat.gcd l.natAbs M = 1 := h1.2
    have g2 : Nat.gcd n.natAbs K' = 1 := h2.2
    have co : Nat.gcd (Nat.lcm M K' / M) (Nat.lcm M K' / K') = 1 := by
      have hg : 0 < Nat.gcd M K' := Nat.gcd_pos_of_pos_left _ (by omega)
      have q1 : Nat.lcm M K' / M = K' / Nat.gcd M K' := by
        refine Nat.div_eq_of_eq_mul_left (by omega) ?_
        rw [Nat.lcm, Nat.mul_comm M K', Nat.mul_div_assoc K' (Nat.gcd_dvd_left M K'), ← Nat.mul_div_assoc K' (Nat.gcd_dvd_left M K'), Nat.mul_comm K' M, Nat.mul_div_assoc M (Nat.gcd_dvd_right M K'), Nat.mul_comm]
      have q2 : Nat.lcm M K' / K' = M / Nat.gcd M K' := by
        refine Nat.div_eq_of_eq_mul_left (by omega) ?_
        rw [Nat.lcm, Nat.mul_comm M K', Nat.mul_div_assoc K' (Nat.gcd_dvd_left M K'), Nat.mul_comm]
      rw [q1, q2, Nat.gcd_comm]
      exact Nat.gcd_div_gcd_div_gcd_of_pos_left (by omega)
    generalize Nat.lcm M K' / M = u at *
    generalize Nat.lcm M K' / K' = v at *
    generalize hG : Nat.gcd (Nat.gcd (Nat.lcm M K') (l.natAbs * u)) (n.natAbs * v) = G
    have d1 : G ∣ Nat.lcm M K' := by rw [← hG]; exact Nat.dvd_trans (Nat.gcd_dvd_left _ _) (Nat.gcd_dvd_left _ _)
    have d2 : G ∣ l.natAbs * u := by rw [← hG]; exact Nat.dvd_trans (Nat.gcd_dvd_left _ _) (Nat.gcd_dvd_right _ _)
    have d3 : G ∣ n.natAbs * v := by rw [← hG]; exact Nat.gcd_dvd_right _ _
    have e1 : G ∣ u := by
      have : G ∣ Nat.gcd (u * l.natAbs) (u * M) := Nat.dvd_gcd (by rw [Nat.mul_comm]; exact d2) (by rw [cM]; exact d1)
      rw [Nat.gcd_mul_left, g1, Nat.mul_one] at this
      exact this
    have e2 : G ∣ v := by
      have : G ∣ Nat.gcd (v * n.natAbs) (v * K') := Nat.dvd_gcd (by rw [Nat.mul_comm]; exact d3) (by rw [cK]; exact d1)
      rw [Nat.gcd_mul_left, g2, Nat.mul_one] at this
      exact this
    have e3 : G ∣ 1 := by rw [← co]; exact Nat.dvd_gcd e1 e2
    exact Nat.dvd_one.mp e3
def qInv (f : Int) (z w : Q2) : Q2 × Q2 := (qOver z (nrm f z w), qOver (-w.1, w.2) (nrm f z w))
def qDiv (f : Int) (x y z w : Q2) : Q2 × Q2 := fMul f x y (qInv f z w).1 (qInv f z w).2
theorem isSq_nonneg {n : Int} (h : isSq n) : 0 ≤ n := by
  obtain ⟨r, r0, rfl⟩ := h
  exact Int.mul_nonneg r0 r0
def EqOk (c b a : Int) : Prop := 1 ≤ a ∧ Nat.gcd (Nat.gcd c.natAbs b.natAbs) a.natAbs = 1 ∧ 0 < b * b - 4 * a * c ∧ ¬ isSq (b * b - 4 * a * c)
theorem disc_size {c b a : Int} {n : Nat} (hc : c.natAbs < 2 ^ n) (hb : b.natAbs < 2 ^ n) (ha : a.natAbs < 2 ^ n) : (b * b - 4 * a * c).natAbs < 2 ^ (n + n + 4) :=
  sub_up (n + n + 3) (mul_up n n hb hb (by omega)) (mul_up (n + 3) n (mul_up 3 n (show (4 : Int).natAbs < 2 ^ 3 by decide) ha (by omega)) hc (by omega)) (by omega)
theorem not_sq_eight : ¬ isSq 8 := by
  rintro ⟨r, r0, h⟩
  rcases (show r ≤ 2 ∨ 3 ≤ r by omega) with q | q
  · have := Int.mul_self_le_mul_self r0 q
    omega
  · have := Int.mul_self_le_mul_self (show (0 : Int) ≤ 3 by decide) q
    omega
theorem good_ok : EqOk (0 - 2) 0 1 := ⟨by decide, by decide, by decide, by
  have : (0 * 0 - 4 * 1 * (0 - 2) : Int) = 8 := by decide
  rw [this]
  exact not_sq_eight⟩
def IsRt (u q : Q2) : Prop := 0 ≤ u.1 ∧ 0 ≤ u.2 ∧ u.1 * u.1 = q.1 ∧ u.2 * u.2 = q.2
theorem sq_inj {a b : Int} (ha : 0 ≤ a) (hb : 0 ≤ b) (h : a * a = b * b) : a = b := by
  rcases (show a < b ∨ a = b ∨ b < a by omega) with q | q | q
  · have h1 := Int.mul_self_le_mul_self (show 0 ≤ a + 1 by omega) (show a + 1 ≤ b by omega)
    have h2 : (a + 1) * (a + 1) = a * a + a + a + 1 := by grind
    omega
  · exact q
  · have h1 := Int.mul_self_le_mul_self (show 0 ≤ b + 1 by omega) (show b + 1 ≤ a by omega)
    have h2 : (b + 1) * (b + 1) = b * b + b + b + 1 := by grind
    omega
theorem IsRt.uniq {u v q : Q2} (h : IsRt u q) (k : IsRt v q) : u = v :=
  Prod.ext (sq_inj h.1 k.1 (by rw [h.2.2.1, k.2.2.1])) (sq_inj h.2.1 k.2.1 (by rw [h.2.2.2, k.2.2.2]))
theorem sq_val {u : Q2} : val (u.1 * u.1, u.2 * u.2) = val u * val u := by
  unfold val
  dsimp only
  rw [Rat.intCast_mul, Rat.intCast_mul]
  by_cases h : (u.2 : Rat) = 0
  · rw [h]
    grind
  · grind
theorem IsRt.val {u q : Q2} (h : IsRt u q) : Odds.val u * Odds.val u = Odds.val q := by
  rw [← sq_val, h.2.2.1, h.2.2.2]
theorem sq_nrm {u : Q2} (h : Nrm u) : Nrm (u.1 * u.1, u.2 * u.2) := by
  refine ⟨?_, ?_⟩
  · have := Int.mul_pos (show 0 < u.2 by have := h.1; omega) (show 0 < u.2 by have := h.1; omega)
    show 1 ≤ u.2 * u.2
    omega
  · show Nat.gcd (u.1 * u.1).natAbs (u.2 * u.2).natAbs = 1
    rw [Int.natAbs_mul, Int.natAbs_mul]
    have c : Nat.Coprime u.1.natAbs u.2.natAbs := h.2
    exact (c.mul_left c).mul_right (c.mul_left c)
theorem IsRt.nrm {u q : Q2} (h : IsRt u q) (hq : Nrm q) : Nrm u := by
  have h2 : u.2 ≠ 0 := by
    intro z
    have := h.2.2.2
    rw [z] at this
    have := hq.1
    omega
  refine ⟨by have := h.2.1; omega, ?_⟩
  have g := hq.2
  rw [← h.2.2.1, ← h.2.2.2, Int.natAbs_mul, Int.natAbs_mul] at g
  have d : Nat.gcd u.1.natAbs u.2.natAbs ∣ Nat.gcd (u.1.natAbs * u.1.natAbs) (u.2.natAbs * u.2.natAbs) :=
    Nat.dvd_gcd (Nat.dvd_trans (Nat.gcd_dvd_left _ _) (Nat.dvd_mul_right _ _)) (Nat.dvd_trans (Nat.gcd_dvd_right _ _) (Nat.dvd_mul_right _ _))
  rw [g] at d
  exact Nat.dvd_one.mp d
theorem IsRt.sm {u q : Q2} {a : Nat} (h : IsRt u q) (hq : Nrm q) (hs : Sm (a + a) q) : Sm a u :=
  ⟨(h.nrm hq).1, root_size h.1 (Int.le_of_eq h.2.2.1) hs.2.1, root_size h.2.1 (Int.le_of_eq h.2.2.2) hs.2.2⟩
def qNeg (x : Q2) : Q2 := (-x.1, x.2)
theorem qNeg_nrm {x : Q2} (h : Nrm x) : Nrm (qNeg x) := ⟨h.1, by show Nat.gcd (-x.1).natAbs x.2.natAbs = 1; rw [Int.natAbs_neg]; exact h.2⟩
theorem val_neg (x : Q2) : val (qNeg x) = - val x := by
  unfold val qNeg
  dsimp only
  rw [Rat.intCast_neg]
  grind
theorem rt_of_val {q c : Q2} (hq : Nrm q) (hc : Nrm c) (h : val q = val c * val c) : ∃ u, IsRt u q := by
  have e : (c.1 * c.1, c.2 * c.2) = q := val_inj (sq_nrm hc) hq (by rw [sq_val, h])
  refine ⟨((c.1.natAbs : Int), c.2), by show (0 : Int) ≤ (c.1.natAbs : Int); omega, by show 0 ≤ c.2; have := hc.1; omega, ?_, ?_⟩
  · show (c.1.natAbs : Int) * (c.1.natAbs : Int) = q.1
    rw [← e]
    exact Int.natAbs_mul_self
  · show c.2 * c.2 = q.2
    rw [← e]
def nn (f : Int) (p q : Q2) : Q2 × Q2 := if sgF f p q < 0 then (qNeg p, qNeg q) else (p, q)
open Classical in
noncomputable def rt (q : Q2) : Option Q2 := if h : ∃ u, IsRt u q then some (Classical.choose h) else none
theorem rt_some {q u : Q2} (h : IsRt u q) : rt q = some u := by
  unfold rt
  have e : ∃ u, IsRt u q := ⟨u, h⟩
  rw [dif_pos e, (Classical.choose_spec e).uniq h]
theorem rt_none {q : Q2} (h : ¬ ∃ u, IsRt u q) : rt q = none := by
  unfold rt
  rw [dif_neg h]
theorem rt_is {q u : Q2} (h : rt q = some u) : IsRt u q := by
  by_cases e : ∃ u, IsRt u q
  · obtain ⟨v, hv⟩ := e
    rw [rt_some hv] at h
    rw [← Option.some.inj h]
    exact hv
  · rw [rt_none e] at h
    cases h
def half : Q2 := (1, 2)
noncomputable def rootF (f : Int) (x y : Q2) : Option (Q2 × Q2) :=
  if y = (0, 1) then
    match rt x with
    | some u => some (u, (0, 1))
    | none => if f = 0 then none else
      match rt (qOver x (f, 1)) with
      | some u => some ((0, 1), u)
      | none => none
  else
    match rt (nrm f x y) with
    | none => none
    | some m =>
      match rt (qTimes (qPlus x m) half) with
      | some p => some (nn f p (qOver y (qPlus p p)))
      | none =>
        match rt (qTimes (qMinus x m) half) with
        | some p => some (nn f p (qOver y (qPlus p p)))
        | none => none
theorem half_val : val half = (1 : Rat) / 2 := rfl
theorem half_nrm : Nrm half := ⟨by decide, rfl⟩
theorem zero_nrm : Nrm ((0, 1) : Q2) := ⟨by decide, rfl⟩
theorem val_zero : val ((0, 1) : Q2) = 0 := by rw [val_int]; rfl
theorem val_eq_zero {q : Q2} (h : Nrm q) (z : val q = 0) : q = (0, 1) := val_inj h zero_nrm (by rw [z, val_zero])
theorem sq_ok {f : Int} {p q : Q2} (hp : Nrm p) (hq : Nrm q) : Nrm (fMul f p q p q).1 ∧ Nrm (fMul f p q p q).2 ∧ val (fMul f p q p q).1 = val p * val p + (f : Rat) * (val q * val q) ∧ val (fMul f p q p q).2 = val p * val q + val q * val p := by
  have i1 : (1 : Int) ≤ ((f, 1) : Q2).2 := Int.le_refl 1
  refine ⟨qPlus_nrm (qTimes_nrm hp.1 hp.1).1 (qTimes_nrm i1 (qTimes_nrm hq.1 hq.1).1).1, qPlus_nrm (qTimes_nrm hp.1 hq.1).1 (qTimes_nrm hq.1 hp.1).1, ?_, ?_⟩
  · show val (qPlus _ _) = _
    rw [val_plus (qTimes_nrm hp.1 hp.1).1 (qTimes_nrm i1 (qTimes_nrm hq.1 hq.1).1).1, val_times hp.1 hp.1, val_times i1 (qTimes_nrm hq.1 hq.1).1, val_times hq.1 hq.1, val_int]
  · show val (qPlus _ _) = _
    rw [val_plus (qTimes_nrm hp.1 hq.1).1 (qTimes_nrm hq.1 hp.1).1, val_times hp.1 hq.1, val_times hq.1 hp.1]
theorem sq_is {f : Int} {p q x y : Q2} (hp : Nrm p) (hq : Nrm q) (hx : Nrm x) (hy : Nrm y) (h1 : val p * val p + (f : Rat) * (val q * val q) = val x) (h2 : val p * val q + val q * val p = val y) : fMul f p q p q = (x, y) := by
  obtain ⟨n1, n2, v1, v2⟩ := sq_ok (f := f) hp hq
  exact Prod.ext (val_inj n1 hx (by rw [v1, h1])) (val_inj n2 hy (by rw [v2, h2]))
theorem sgF_neg {f : Int} {p q : Q2} (hp : 1 ≤ p.2) (hq : 1 ≤ q.2) : sgF f (qNeg p) (qNeg q) = 0 - sgF f p q := by
  have h := sg_neg (f := f) hp hq
  unfold qNeg
  rw [Int.zero_sub, Int.zero_sub] at h
  rw [h]
theorem nn_ok {f : Int} {p q : Q2} (hp : Nrm p) (hq : Nrm q) : Nrm (nn f p q).1 ∧ Nrm (nn f p q).2 ∧ 0 ≤ sgF f (nn f p q).1 (nn f p q).2 ∧ fMul f (nn f p q).1 (nn f p q).2 (nn f p q).1 (nn f p q).2 = fMul f p q p q := by
  unfold nn
  by_cases h : sgF f p q < 0
  · rw [if_pos h]
    refine ⟨qNeg_nrm hp, qNeg_nrm hq, by show 0 ≤ sgF f (qNeg p) (qNeg q); rw [sgF_neg hp.1 hq.1]; omega, ?_⟩
    obtain ⟨n1, n2, v1, v2⟩ := sq_ok (f := f) hp hq
    refine sq_is (qNeg_nrm hp) (qNeg_nrm hq) n1 n2 ?_ ?_
    · show val (qNeg p) * val (qNeg p) + (f : Rat) * (val (qNeg q) * val (qNeg q)) = val (fMul f p q p q).1
      rw [v1, val_neg, val_neg]; grind
    · show val (qNeg p) * val (qNeg q) + val (qNeg q) * val (qNeg p) = val (fMul f p q p q).2
      rw [v2, val_neg, val_neg]; grind
  · rw [if_neg h]
    exact ⟨hp, hq, by show 0 ≤ sgF f p q; omega, rfl⟩
theorem Sm.neg {n : Nat} {q : Q2} (h : Sm n q) : Sm n (qNeg q) := ⟨h.1, by show (-q.1).natAbs < 2 ^ n; rw [Int.natAbs_neg]; exact h.2.1, h.2.2⟩
theorem nn_sm {f : Int} {n : Nat} {p q : Q2} (hp : Sm n p) (hq : Sm n q) : Sm n (nn f p q).1 ∧ Sm n (nn f p q).2 := by
  unfold nn
  split
  · exact ⟨hp.neg, hq.neg⟩
  · exact ⟨hp, hq⟩
theorem half_root {f : Int} {x y m p : Q2} (e : Rat) (he : e * e = 1) (hx : Nrm x) (hy : Nrm y) (yn : y ≠ (0, 1)) (hf : f ≠ 0) (hp : Nrm p) (hm : val m * val m = val x * val x - (f : Rat) * (val y * val y))
    (h : val p * val p = (val x + e * val m) * ((1 : Rat) / 2)) : (qPlus p p).1 ≠ 0 ∧ fMul f p (qOver y (qPlus p p)) p (qOver y (qPlus p p)) = (x, y) := by
  have pp := qPlus_nrm hp.1 hp.1
  have vp := val_plus hp.1 hp.1
  have fr : (f : Rat) ≠ 0 := ratne hf
  have vy : val y ≠ 0 := fun z => yn (val_eq_zero hy z)
  have p0 : val p ≠ 0 := by
    intro z
    rw [z] at h
    have h1 : val x = - (e * val m) := by grind
    have h2 : (f : Rat) * (val y * val y) = 0 := by grind
    grind
  have n0 : (qPlus p p).1 ≠ 0 := by
    intro z
    have h1 : val (qPlus p p) = 0 := by
      unfold val
      rw [z]
      show ((0 : Int) : Rat) / _ = 0
      have : ((0 : Int) : Rat) = 0 := rfl
      rw [this]
      grind
    rw [vp] at h1
    grind
  refine ⟨n0, ?_⟩
  have vo := val_over (x := y) hy.1 pp.1 n0
  have on := qOver_nrm (x := y) hy.1 n0
  rw [vp] at vo
  refine sq_is hp on hx hy ?_ ?_
  · grind
  · grind
theorem rootF_ok {f : Int} {x y : Q2} {ρ : Q2 × Q2} (hx : Nrm x) (hy : Nrm y) (sx : Sm 140 x) (sy : Sm 140 y) (bf : f.natAbs < 2 ^ 60) (hz : f = 0 → y = (0, 1)) (h : rootF f x y = some ρ) :
    Nrm ρ.1 ∧ Nrm ρ.2 ∧ 0 ≤ sgF f ρ.1 ρ.2 ∧ fMul f ρ.1 ρ.2 ρ.1 ρ.2 = (x, y) ∧ Sm 850 ρ.1 ∧ Sm 850 ρ.2 ∧ (f = 0 → ρ.2 = (0, 1)) := by
  unfold rootF at h
  have nonneg : ∀ u : Q2, 0 ≤ u.1 → 0 ≤ u.1.sign := fun u hu => by
    rcases (show u.1 = 0 ∨ 0 < u.1 by omega) with q | q
    · rw [q]; decide
    · rw [Int.sign_eq_one_of_pos q]; decide
  split at h
  · rename_i y0
    subst y0
    split at h
    · rename_i u hu
      have r := rt_is hu
      cases h
      have nu := r.nrm hx
      refine ⟨nu, zero_nrm, ?_, sq_is nu zero_nrm hx zero_nrm ?_ ?_, (r.sm (a := 70) hx sx).up 850, sm_int (by decide), fun _ => rfl⟩
      · show 0 ≤ sgF f u (0, 1)
        unfold sgF
        rw [if_pos (.inl rfl)]
        exact nonneg u r.1
      · rw [val_zero, r.val]; grind
      · rw [val_zero]; grind
    · split at h
      · cases h
      · rename_i f0
        split at h
        · rename_i u hu
          have r := rt_is hu
          cases h
          have nf : (1 : Int) ≤ ((f, 1) : Q2).2 := Int.le_refl 1
          have no := qOver_nrm (x := x) (y := (f, 1)) hx.1 f0
          have vo := val_over (x := x) (y := (f, 1)) hx.1 nf f0
          rw [val_int] at vo
          have nu := r.nrm no
          have so : Sm 200 (qOver x (f, 1)) := sx.over (sm_int (n := 60) bf) f0
          refine ⟨zero_nrm, nu, ?_, sq_is zero_nrm nu hx zero_nrm ?_ ?_, sm_int (by decide), (r.sm (a := 100) no so).up 850, fun z => absurd z f0⟩
          · show 0 ≤ sgF f (0, 1) u
            unfold sgF
            have := nonneg u r.1
            by_cases h1 : u.1.sign = 0 ∨ (0 : Int).sign = u.1.sign
            · rw [if_pos h1]; decide
            · rw [if_neg h1, if_pos (show ((0, 1) : Q2).1.sign = 0 from rfl)]; exact this
          · rw [val_zero, r.val]; grind
          · rw [val_zero]; grind
        · cases h
  · rename_i yn
    have f0 : f ≠ 0 := fun z => yn (hz z)
    split at h
    · cases h
    · rename_i m hm
      have rm := rt_is hm
      have nN := nrm_nrm (f := f) hx.1 hy.1
      have nm := rm.nrm nN
      have vm : val m * val m = val x * val x - (f : Rat) * (val y * val y) := by rw [rm.val, val_nrm hx.1 hy.1]
      have sN : Sm (350 + 350) (nrm f x y) := (Sm.minus ((sx.times sx).up 340) ((sm_int (n := 60) bf).times (sy.times sy))).up 700
      have sm := rm.sm nN sN
      have fin : ∀ (p : Q2) (e : Rat) (q : Q2), e * e = 1 → Nrm q → Sm (352 + 352) q → IsRt p q → val q = (val x + e * val m) * ((1 : Rat) / 2) → ρ = nn f p (qOver y (qPlus p p)) →
          Nrm ρ.1 ∧ Nrm ρ.2 ∧ 0 ≤ sgF f ρ.1 ρ.2 ∧ fMul f ρ.1 ρ.2 ρ.1 ρ.2 = (x, y) ∧ Sm 850 ρ.1 ∧ Sm 850 ρ.2 ∧ (f = 0 → ρ.2 = (0, 1)) := by
        intro p e q he nq sq rp vq eρ
        subst eρ
        have np := rp.nrm nq
        have sp := rp.sm nq sq
        obtain ⟨n0, hsq⟩ := half_root e he hx hy yn f0 np vm (by rw [rp.val, vq])
        have no := qOver_nrm (x := y) hy.1 n0
        obtain ⟨k1, k2, k3, k4⟩ := nn_ok (f := f) np no
        obtain ⟨k5, k6⟩ := nn_sm (f := f) (sp.up 850) ((sy.over (sp.plus sp) n0).up 850)
        exact ⟨k1, k2, k3, by rw [k4, hsq], k5, k6, fun z => absurd z f0⟩
      split at h
      · rename_i p hp
        cases h
        exact fin p 1 _ (by grind) (qTimes_nrm (qPlus_nrm hx.1 nm.1).1 half_nrm.1) ((((sx.up 350).plus sm).times (show Sm 2 half from ⟨by decide, by decide, by decide⟩)).up 704) (rt_is hp)
          (by rw [val_times (qPlus_nrm hx.1 nm.1).1 half_nrm.1, val_plus hx.1 nm.1, half_val]; grind) rfl
      · split at h
        · rename_i p hp
          cases h
          exact fin p (-1) _ (by grind) (qTimes_nrm (qMinus_nrm hx.1 nm.1).1 half_nrm.1) ((((sx.up 350).minus sm).times (show Sm 2 half from ⟨by decide, by decide, by decide⟩)).up 704) (rt_is hp)
            (by rw [val_times (qMinus_nrm hx.1 nm.1).1 half_nrm.1, val_minus hx.1 nm.1, half_val]; grind) rfl
        · cases h
theorem rootF_sq {f : Int} {c d : Q2} (hc : Nrm c) (hd : Nrm d) (hz : f = 0 → d = (0, 1)) : rootF f (fMul f c d c d).1 (fMul f c d c d).2 ≠ none := by
  obtain ⟨nx, ny, vx, vy⟩ := sq_ok (f := f) hc hd
  generalize (fMul f c d c d).1 = x at *
  generalize (fMul f c d c d).2 = y at *
  unfold rootF
  split
  · rename_i y0
    rw [y0, val_zero] at vy
    by_cases d0 : val d = 0
    · obtain ⟨u, hu⟩ := rt_of_val nx hc (by rw [vx, d0]; grind)
      rw [rt_some hu]
      simp
    · have c0 : val c = 0 := by grind
      cases hr : rt x with
      | some u => simp
      | none =>
        have f0 : f ≠ 0 := fun z => d0 (by rw [hz z, val_zero])
        have nf : (1 : Int) ≤ ((f, 1) : Q2).2 := Int.le_refl 1
        have no := qOver_nrm (x := x) (y := (f, 1)) nx.1 f0
        have vo := val_over (x := x) (y := (f, 1)) nx.1 nf f0
        rw [val_int, vx, c0] at vo
        have fr : (f : Rat) ≠ 0 := ratne f0
        obtain ⟨u, hu⟩ := rt_of_val no hd (by grind)
        simp [f0, rt_some hu]
  · have nN := nrm_nrm (f := f) nx.1 ny.1
    have vN := val_nrm (f := f) nx.1 ny.1
    have nw := nrm_nrm (f := f) hc.1 hd.1
    have vw := val_nrm (f := f) hc.1 hd.1
    obtain ⟨m, hm⟩ := rt_of_val nN nw (by rw [vN, vw, vx, vy]; grind)
    have nm := hm.nrm nN
    have vm := hm.val
    rw [rt_some hm]
    have key : val m = val (nrm f c d) ∨ val m = - val (nrm f c d) := by
      have h1 : (val m - val (nrm f c d)) * (val m + val (nrm f c d)) = 0 := by
        rw [vN, vx, vy] at vm
        rw [vw]
        grind
      rcases Rat.mul_eq_zero.mp h1 with h | h
      · left; grind
      · right; grind
    cases h1 : rt (qTimes (qPlus x m) half) with
    | some p => simp [h1]
    | none =>
      rcases key with k | k
      · exfalso
        obtain ⟨u, hu⟩ := rt_of_val (qTimes_nrm (qPlus_nrm nx.1 nm.1).1 half_nrm.1) hc (by rw [val_times (qPlus_nrm nx.1 nm.1).1 half_nrm.1, val_plus nx.1 nm.1, half_val, k, vw, vx]; grind)
        rw [rt_some hu] at h1
        cases h1
      · obtain ⟨u, hu⟩ := rt_of_val (qTimes_nrm (qMinus_nrm nx.1 nm.1).1 half_nrm.1) hc (by rw [val_times (qMinus_nrm nx.1 nm.1).1 half_nrm.1, val_minus nx.1 nm.1, half_val, k, vw, vx]; grind)
        simp [h1, rt_some hu]
theorem no_rat_root {f : Int} {r d : Q2} (hr : Nrm r) (hd : Nrm d) (fq : ¬ isSq f) (h : val r * val r = (f : Rat) * (val d * val d)) : val d = 0 := by
  rcases (show val d = 0 ∨ val d ≠ 0 from Classical.em _) with z | z
  · exact z
  · exfalso
    have h1 : (r.2 : Rat) ≠ 0 := ratne (by have := hr.1; omega)
    have h2 : (d.2 : Rat) ≠ 0 := ratne (by have := hd.1; omega)
    have d1 : d.1 ≠ 0 := by
      intro q
      apply z
      unfold val
      rw [q]
      have : ((0 : Int) : Rat) = 0 := rfl
      rw [this]
      grind
    have e : ((r.1 * d.2 * (r.1 * d.2) : Int) : Rat) = ((d.1 * r.2 * (d.1 * r.2) * f : Int) : Rat) := by
      rw [Rat.intCast_mul, Rat.intCast_mul, Rat.intCast_mul, Rat.intCast_mul, Rat.intCast_mul]
      unfold val at h
      grind
    exact fq (sq_of (l := r.1 * d.2) (r := d.1 * r.2) (Int.mul_ne_zero d1 (by have := hr.1; omega)) (Rat.intCast_inj.mp e))
theorem sg_zero {f : Int} {c d : Q2} (hc : Nrm c) (hd : Nrm d) (hf : f = 0 ∨ (0 < f ∧ ¬ isSq f)) (hz : f = 0 → d = (0, 1)) (h : sgF f c d = 0) : c = (0, 1) ∧ d = (0, 1) := by
  by_cases ne : c = (0, 1) ∧ d = (0, 1)
  · exact ne
  · exfalso
    have nz := nrm_ne hc hd hf hz ne
    have zero : ∀ q : Q2, Nrm q → q.1.sign = 0 → q = (0, 1) := fun q hq hs => by
      have h1 := Int.sign_eq_zero_iff_zero.mp hs
      refine val_eq_zero hq ?_
      unfold val
      rw [h1]
      have : ((0 : Int) : Rat) = 0 := rfl
      rw [this]
      grind
    unfold sgF at h
    split at h
    · rename_i q
      have h1 := zero c hc h
      rcases q with q | q
      · exact ne ⟨h1, zero d hd q⟩
      · exact ne ⟨h1, zero d hd (by rw [← q]; exact h)⟩
    · rename_i q
      split at h
      · exact q (.inl h)
      · rename_i q2
        rcases Int.mul_eq_zero.mp h with z | z
        · exact q2 z
        · exact nz (Int.sign_eq_zero_iff_zero.mp z)
theorem root_is {f : Int} {r s c d : Q2} (hr : Nrm r) (hs : Nrm s) (hc : Nrm c) (hd : Nrm d) (hf : f = 0 ∨ (0 < f ∧ ¬ isSq f)) (zs : f = 0 → s = (0, 1)) (zd : f = 0 → d = (0, 1))
    (h : fMul f r s r s = fMul f c d c d) (hp : 0 ≤ sgF f r s) : nn f c d = (r, s) := by
  obtain ⟨_, _, v1, v2⟩ := sq_ok (f := f) hr hs
  obtain ⟨_, _, v3, v4⟩ := sq_ok (f := f) hc hd
  rw [h] at v1 v2
  have e1 : val r * val r + (f : Rat) * (val s * val s) = val c * val c + (f : Rat) * (val d * val d) := by rw [← v1, ← v3]
  have e2 : val r * val s = val c * val d := by grind
  have same : (val r = val c ∧ val s = val d) ∨ (val r = - val c ∧ val s = - val d) := by
    rcases hf with f0 | ⟨f0, fq⟩
    · have s0 : val s = 0 := by rw [zs f0, val_zero]
      have d0 : val d = 0 := by rw [zd f0, val_zero]
      have h1 : (val r - val c) * (val r + val c) = 0 := by rw [s0, d0] at e1; grind
      rcases Rat.mul_eq_zero.mp h1 with q | q
      · left; exact ⟨by grind, by rw [s0, d0]⟩
      · right; exact ⟨by grind, by rw [s0, d0]; grind⟩
    · have fr : (f : Rat) ≠ 0 := ratne (by omega)
      have h1 : (val r * val r - val c * val c) * (val r * val r - (f : Rat) * (val d * val d)) = 0 := by grind
      rcases Rat.mul_eq_zero.mp h1 with q | q
      · have h2 : (val s - val d) * (val s + val d) = 0 := by grind
        have h3 : (val r - val c) * (val r + val c) = 0 := by grind
        rcases Rat.mul_eq_zero.mp h3 with k | k
        · have k1 : val r = val c := by grind
          have h4 : val c * (val s - val d) = 0 := by rw [k1] at e2; grind
          rcases Rat.mul_eq_zero.mp h4 with l | l
          · rcases Rat.mul_eq_zero.mp h2 with o | o
            · left; exact ⟨k1, by grind⟩
            · right; exact ⟨by grind, by grind⟩
          · left; exact ⟨k1, by grind⟩
        · have k1 : val r = - val c := by grind
          have h4 : val c * (val s + val d) = 0 := by rw [k1] at e2; grind
          rcases Rat.mul_eq_zero.mp h4 with l | l
          · rcases Rat.mul_eq_zero.mp h2 with o | o
            · left; exact ⟨by grind, by grind⟩
            · right; exact ⟨k1, by grind⟩
          · right; exact ⟨k1, by grind⟩
      · have d0 := no_rat_root hr hd fq (by grind)
        have r0 : val r = 0 := by
          have : val r * val r = 0 := by grind
          rcases Rat.mul_eq_zero.mp this with k | k <;> exact k
        have s0 := no_rat_root hc hs fq (by grind)
        have c0 : val c = 0 := by
          have : val c * val c = 0 := by grind
          rcases Rat.mul_eq_zero.mp this with k | k <;> exact k
        left; exact ⟨by rw [r0, c0], by rw [s0, d0]⟩
  rcases same with ⟨k1, k2⟩ | ⟨k1, k2⟩
  · have q1 := val_inj hr hc k1
    have q2 := val_inj hs hd k2
    subst q1 q2
    unfold nn
    rw [if_neg (by omega)]
  · have q1 : r = qNeg c := val_inj hr (qNeg_nrm hc) (by rw [k1, val_neg])
    have q2 : s = qNeg d := val_inj hs (qNeg_nrm hd) (by rw [k2, val_neg])
    subst q1 q2
    rw [sgF_neg hc.1 hd.1] at hp
    unfold nn
    by_cases h0 : sgF f c d < 0
    · rw [if_pos h0]
    · rw [if_neg h0]
      obtain ⟨c0, d0⟩ := sg_zero hc hd hf zd (by omega)
      subst c0 d0
      rfl
end Odds
namespace Odds
open PySem
/-! ### fractions that are put in lowest terms by parts -/
theorem low_uniq {p q N D : Int} (h : Nrm (p, q)) (hD : D ≠ 0) (e : p * D = q * N) : (p, q) = (lo1 N D, lo2 N D) := by
  refine val_inj h (lo_nrm hD) ?_
  rw [val_lo hD]
  have e' : ((p * D : Int) : Rat) = ((q * N : Int) : Rat) := by rw [e]
  rw [Rat.intCast_mul, Rat.intCast_mul] at e'
  have h1 := ratne hD
  have h2 : ((q : Int) : Rat) ≠ 0 := ratne (by have h3 : 1 ≤ q := h.1; omega)
  unfold val
  dsimp only
  grind
theorem gcd_parts (m n : Int) (h : n ≠ 0) : ∃ x y : Int, m = ((Nat.gcd m.natAbs n.natAbs : Nat) : Int) * x ∧ n = ((Nat.gcd m.natAbs n.natAbs : Nat) : Int) * y ∧ Nat.Coprime x.natAbs y.natAbs ∧ (0 : Int) < ((Nat.gcd m.natAbs n.natAbs : Nat) : Int) := by
  have hg : 0 < Nat.gcd m.natAbs n.natAbs := Nat.gcd_pos_of_pos_right _ (by omega)
  obtain ⟨x, hx⟩ := Int.ofNat_dvd_left.mpr (Nat.gcd_dvd_left m.natAbs n.natAbs)
  obtain ⟨y, hy⟩ := Int.ofNat_dvd_left.mpr (Nat.gcd_dvd_right m.natAbs n.natAbs)
  refine ⟨x, y, hx, hy, ?_, by omega⟩
  have e1 : m.natAbs = Nat.gcd m.natAbs n.natAbs * x.natAbs := by
    conv => lhs; rw [hx]
    rw [Int.natAbs_mul, Int.natAbs_natCast]
  have e2 : n.natAbs = Nat.gcd m.natAbs n.natAbs * y.natAbs := by
    conv => lhs; rw [hy]
    rw [Int.natAbs_mul, Int.natAbs_natCast]
  have h1 := Nat.gcd_mul_left (Nat.gcd m.natAbs n.natAbs) x.natAbs y.natAbs
  rw [← e1, ← e2] at h1
  exact Nat.eq_of_mul_eq_mul_left hg (by omega)
theorem cop_left {a b c : Int} (h : Nat.Coprime (a * b).natAbs c.natAbs) : Nat.Coprime a.natAbs c.natAbs := by
  rw [Int.natAbs_mul] at h
  exact Nat.Coprime.coprime_mul_right h
theorem cop_right {a b c : Int} (h : Nat.Coprime (a * b).natAbs c.natAbs) : Nat.Coprime b.natAbs c.natAbs := by
  rw [Int.natAbs_mul] at h
  exact Nat.Coprime.coprime_mul_left h
theorem cop_mul {a b c : Int} (h : Nat.Coprime a.natAbs c.natAbs) (h2 : Nat.Coprime b.natAbs c.natAbs) : Nat.Coprime (a * b).natAbs c.natAbs := by
  rw [Int.natAbs_mul]
  exact Nat.Coprime.mul_left h h2
theorem cop_symm {a c : Int} (h : Nat.Coprime a.natAbs c.natAbs) : Nat.Coprime c.natAbs a.natAbs := Nat.Coprime.symm h
theorem times_low {a b : Q2} (ha : Nrm a) (hb : Nrm b) : ∃ x y z w : Int, a.1 = ((Nat.gcd a.1.natAbs b.2.natAbs : Nat) : Int) * x ∧ b.2 = ((Nat.gcd a.1.natAbs b.2.natAbs : Nat) : Int) * y ∧ b.1 = ((Nat.gcd b.1.natAbs a.2.natAbs : Nat) : Int) * z ∧ a.2 = ((Nat.gcd b.1.natAbs a.2.natAbs : Nat) : Int) * w ∧
    (0 : Int) < ((Nat.gcd a.1.natAbs b.2.natAbs : Nat) : Int) ∧ (0 : Int) < ((Nat.gcd b.1.natAbs a.2.natAbs : Nat) : Int) ∧ qTimes a b = (x * z, w * y) := by
  obtain ⟨a0, a1⟩ := a
  obtain ⟨b0, b1⟩ := b
  obtain ⟨ha1, hac⟩ := ha
  obtain ⟨hb1, hbc⟩ := hb
  dsimp only at *
  obtain ⟨x, y, e1, e2, c1, p1⟩ := gcd_parts a0 b1 (by omega)
  obtain ⟨z, w, e3, e4, c2, p2⟩ := gcd_parts b0 a1 (by omega)
  refine ⟨x, y, z, w, e1, e2, e3, e4, p1, p2, ?_⟩
  generalize ((Nat.gcd a0.natAbs b1.natAbs : Nat) : Int) = f at *
  generalize ((Nat.gcd b0.natAbs a1.natAbs : Nat) : Int) = s at *
  subst e1 e2 e3 e4
  have hw : 0 < w := by
    rcases Int.lt_or_le 0 w with h | h
    · exact h
    · have := Int.mul_nonpos_of_nonneg_of_nonpos (Int.le_of_lt p2) h; omega
  have hy : 0 < y := by
    rcases Int.lt_or_le 0 y with h | h
    · exact h
    · have := Int.mul_nonpos_of_nonneg_of_nonpos (Int.le_of_lt p1) h; omega
  have cxw : Nat.Coprime x.natAbs w.natAbs := cop_symm (cop_right (cop_symm (cop_right hac)))
  have czy : Nat.Coprime z.natAbs y.natAbs := cop_symm (cop_right (cop_symm (cop_right hbc)))
  have n : Nrm (x * z, w * y) := by
    refine ⟨?_, ?_⟩
    · have := Int.mul_pos hw hy
      show 1 ≤ w * y
      omega
    · show Nat.Coprime (x * z).natAbs (w * y).natAbs
      exact cop_symm (cop_mul (cop_symm (cop_mul cxw c2)) (cop_symm (cop_mul c1 czy)))
  have := low_uniq (N := nTimes (f * x) (s * w) (s * z) (f * y)) (D := dBoth (f * x) (s * w) (s * z) (f * y)) n (by unfold dBoth; exact Int.mul_ne_zero (by omega) (by omega)) (by unfold dBoth nTimes; grind)
  rw [this]
  rfl
theorem plus_low {a b : Q2} (ha : Nrm a) (hb : Nrm b) : ∃ u v T G : Int, a.2 = ((Nat.gcd a.2.natAbs b.2.natAbs : Nat) : Int) * u ∧ b.2 = ((Nat.gcd a.2.natAbs b.2.natAbs : Nat) : Int) * v ∧ (0 : Int) < ((Nat.gcd a.2.natAbs b.2.natAbs : Nat) : Int) ∧
    a.1 * v + b.1 * u = ((Nat.gcd (a.1 * v + b.1 * u).natAbs ((Nat.gcd a.2.natAbs b.2.natAbs : Nat) : Int).natAbs : Nat) : Int) * T ∧ ((Nat.gcd a.2.natAbs b.2.natAbs : Nat) : Int) = ((Nat.gcd (a.1 * v + b.1 * u).natAbs ((Nat.gcd a.2.natAbs b.2.natAbs : Nat) : Int).natAbs : Nat) : Int) * G ∧
    (0 : Int) < ((Nat.gcd (a.1 * v + b.1 * u).natAbs ((Nat.gcd a.2.natAbs b.2.natAbs : Nat) : Int).natAbs : Nat) : Int) ∧ qPlus a b = (T, u * (G * v)) := by
  obtain ⟨a0, a1⟩ := a
  obtain ⟨b0, b1⟩ := b
  obtain ⟨ha1, hac⟩ := ha
  obtain ⟨hb1, hbc⟩ := hb
  dsimp only at *
  obtain ⟨u, v, e1, e2, c1, p1⟩ := gcd_parts a1 b1 (by omega)
  generalize ((Nat.gcd a1.natAbs b1.natAbs : Nat) : Int) = g at *
  obtain ⟨T, G, e3, e4, c2, p2⟩ := gcd_parts (a0 * v + b0 * u) g (by omega)
  refine ⟨u, v, T, G, e1, e2, p1, e3, e4, p2, ?_⟩
  generalize ht : ((Nat.gcd (a0 * v + b0 * u).natAbs g.natAbs : Nat) : Int) = t at *
  have pos : ∀ {i j : Int}, 0 < i → 0 < i * j → 0 < j := fun {i j} h1 h2 => by
    rcases Int.lt_or_le 0 j with h | h
    · exact h
    · have := Int.mul_nonpos_of_nonneg_of_nonpos (Int.le_of_lt h1) h; omega
  have hu : 0 < u := pos p1 (by omega)
  have hv : 0 < v := pos p1 (by omega)
  have hG : 0 < G := pos p2 (by omega)
  have key : ∀ {x0 x1 y0 : Int} {m k : Int}, Nat.Coprime x0.natAbs x1.natAbs → m ∣ x1 → Nat.Coprime m.natAbs k.natAbs → Nat.Coprime (x0 * k + y0 * m).natAbs m.natAbs := fun {x0 x1 y0 m k} h1 h2 h3 => by
    have d1 : ((Nat.gcd (x0 * k + y0 * m).natAbs m.natAbs : Nat) : Int) ∣ x0 * k + y0 * m := Int.ofNat_dvd_left.mpr (Nat.gcd_dvd_left _ _)
    have d2 : ((Nat.gcd (x0 * k + y0 * m).natAbs m.natAbs : Nat) : Int) ∣ m := Int.ofNat_dvd_left.mpr (Nat.gcd_dvd_right _ _)
    unfold Nat.Coprime
    generalize hd : Nat.gcd (x0 * k + y0 * m).natAbs m.natAbs = d at *
    have d3 : (d : Int) ∣ x0 * k := by
      have := Int.dvd_sub d1 (Int.dvd_trans d2 (Int.dvd_mul_left y0 m))
      have e : x0 * k + y0 * m - y0 * m = x0 * k := by omega
      rwa [e] at this
    have d4 : d ∣ x0.natAbs * k.natAbs := by
      have := Int.ofNat_dvd_left.mp d3
      rwa [Int.natAbs_mul] at this
    have d5 : d ∣ m.natAbs := Int.ofNat_dvd_left.mp d2
    have d6 : Nat.Coprime d k.natAbs := Nat.Coprime.coprime_dvd_left d5 h3
    have d7 : d ∣ x0.natAbs := Nat.Coprime.dvd_of_dvd_mul_right d6 d4
    have d8 : d ∣ x1.natAbs := Nat.dvd_trans d5 (Int.natAbs_dvd_natAbs.mpr h2)
    have d9 := Nat.dvd_gcd d7 d8
    rw [show Nat.gcd x0.natAbs x1.natAbs = 1 from h1] at d9
    exact Nat.dvd_one.mp d9
  have k1 : Nat.Coprime (a0 * v + b0 * u).natAbs u.natAbs := key hac ⟨g, by rw [e1]; exact Int.mul_comm _ _⟩ c1
  have k2 : Nat.Coprime (a0 * v + b0 * u).natAbs v.natAbs := by
    rw [Int.add_comm]
    exact key hbc ⟨g, by rw [e2]; exact Int.mul_comm _ _⟩ (cop_symm c1)
  have n : Nrm (T, u * (G * v)) := by
    refine ⟨?_, ?_⟩
    · have := Int.mul_pos hu (Int.mul_pos hG hv)
      show 1 ≤ u * (G * v)
      omega
    · show Nat.Coprime T.natAbs (u * (G * v)).natAbs
      have t1 : Nat.Coprime T.natAbs u.natAbs := cop_right (e3 ▸ k1)
      have t2 : Nat.Coprime T.natAbs v.natAbs := cop_right (e3 ▸ k2)
      exact cop_symm (cop_mul (cop_symm t1) (cop_mul (cop_symm c2) (cop_symm t2)))
  have e5 : a0 * b1 + b0 * a1 = g * (t * T) := by rw [← e3, e1, e2]; grind
  have := low_uniq (N := nPlus a0 a1 b0 b1) (D := dBoth a0 a1 b0 b1) n (by unfold dBoth; exact Int.mul_ne_zero (by omega) (by omega)) (by
    unfold dBoth nPlus
    rw [e5, e1, e2, e4]
    grind)
  rw [this]
  rfl
end Odds
namespace Odds
open PySem
theorem eqv_ints (n d m e : Int) : PyData.eqv (.tuple [.int n, .int d]) (.tuple [.int m, .int e]) = decide (n = m ∧ d = e) := by
  simp only [PyData.eqv, PyData.eqvAll, Bool.and_true]
  by_cases h1 : n = m <;> by_cases h2 : d = e <;> simp [h1, h2]
/-- proportional triples without a common divisor -/
theorem prim_dvd {a b c A B C : Int} (h : Nat.gcd (Nat.gcd c.natAbs b.natAbs) a.natAbs = 1) (e1 : B * a = A * b) (e2 : C * a = A * c) : a.natAbs ∣ A.natAbs := by
  have d1 : a.natAbs ∣ A.natAbs * b.natAbs := by
    rw [← Int.natAbs_mul, ← e1, Int.natAbs_mul]
    exact Nat.dvd_mul_left _ _
  have d2 : a.natAbs ∣ A.natAbs * c.natAbs := by
    rw [← Int.natAbs_mul, ← e2, Int.natAbs_mul]
    exact Nat.dvd_mul_left _ _
  have d3 : a.natAbs ∣ A.natAbs * a.natAbs := Nat.dvd_mul_left _ _
  have d4 := Nat.dvd_gcd (Nat.dvd_gcd d2 d1) d3
  rw [Nat.gcd_mul_left, Nat.gcd_mul_left, h, Nat.mul_one] at d4
  exact d4
theorem prim_uniq {a b c A B C : Int} (ha : 0 < a) (hA : 0 < A) (h : Nat.gcd (Nat.gcd c.natAbs b.natAbs) a.natAbs = 1) (H : Nat.gcd (Nat.gcd C.natAbs B.natAbs) A.natAbs = 1) (e1 : B * a = A * b) (e2 : C * a = A * c) : A = a ∧ B = b ∧ C = c := by
  have d1 := prim_dvd h e1 e2
  have d2 := prim_dvd (a := A) (b := B) (c := C) (A := a) (B := b) (C := c) H (by rw [Int.mul_comm, ← e1, Int.mul_comm]) (by rw [Int.mul_comm, ← e2, Int.mul_comm])
  have e : A = a := by
    have := Nat.dvd_antisymm d1 d2
    omega
  subst e
  refine ⟨rfl, ?_, ?_⟩
  · rw [Int.mul_comm] at e1
    exact Int.eq_of_mul_eq_mul_left (by omega) e1
  · rw [Int.mul_comm] at e2
    exact Int.eq_of_mul_eq_mul_left (by omega) e2
/-- a fraction in lowest terms that is N / D -/
theorem cross_of {q : Q2} {N D : Int} (h1 : q.2 ≠ 0) (h2 : D ≠ 0) (e : val q = (N : Rat) / (D : Rat)) : q.1 * D = q.2 * N := by
  have k1 := ratne h1
  have k2 := ratne h2
  unfold val at e
  have e2 : (q.1 : Rat) * (D : Rat) = (q.2 : Rat) * (N : Rat) := by grind
  rw [← Rat.intCast_mul, ← Rat.intCast_mul] at e2
  exact Rat.intCast_inj.mp e2
theorem gcd_rot {p q r : Nat} (h : Nat.gcd (Nat.gcd p q) r = 1) : Nat.gcd (Nat.gcd r q) p = 1 := by
  rw [Nat.gcd_comm, Nat.gcd_comm r q, ← Nat.gcd_assoc]
  exact h
/-- the equation of a root's element is the root's -/
theorem eq_back {c b a s : Int} (ha : 0 < a) (h : Nat.gcd (Nat.gcd c.natAbs b.natAbs) a.natAbs = 1) (hs : s = 1 ∨ s = -1) :
    eqA (b * b - 4 * a * c) (lo1 (-b) (2 * a), lo2 (-b) (2 * a)) (s, 2 * a) = a ∧ eqB (b * b - 4 * a * c) (lo1 (-b) (2 * a), lo2 (-b) (2 * a)) (s, 2 * a) = b ∧ eqC (b * b - 4 * a * c) (lo1 (-b) (2 * a), lo2 (-b) (2 * a)) (s, 2 * a) = c := by
  have h0 : 2 * a ≠ 0 := by omega
  have hx : Nrm (lo1 (-b) (2 * a), lo2 (-b) (2 * a)) := lo_nrm h0
  have hy : (1 : Int) ≤ ((s, 2 * a) : Q2).2 := by show 1 ≤ 2 * a; omega
  generalize hX : ((lo1 (-b) (2 * a), lo2 (-b) (2 * a)) : Q2) = x at *
  have vx : val x = ((-b : Int) : Rat) / ((2 * a : Int) : Rat) := by rw [← hX]; exact val_lo h0
  have n1 : Nrm (qTimes (-2, 1) x) := qTimes_nrm (x := (-2, 1)) (Int.le_refl 1) hx.1
  have n2 : Nrm (nrm (b * b - 4 * a * c) x (s, 2 * a)) := nrm_nrm hx.1 hy
  have ra := ratne (show a ≠ 0 by omega)
  have v1 : val (qTimes (-2, 1) x) = (b : Rat) / (a : Rat) := by
    rw [val_times (x := (-2, 1)) (Int.le_refl 1) hx.1, val_int, vx, Rat.intCast_mul, Rat.intCast_neg]
    have : ((-2 : Int) : Rat) = -2 := rfl
    have : ((2 : Int) : Rat) = 2 := rfl
    grind
  have v2 : val (nrm (b * b - 4 * a * c) x (s, 2 * a)) = (c : Rat) / (a : Rat) := by
    rw [val_nrm hx.1 hy, vx]
    have vy : val (s, 2 * a) = (s : Rat) / ((2 * a : Int) : Rat) := rfl
    rw [vy, Rat.intCast_mul, Rat.intCast_neg, Rat.intCast_sub, Rat.intCast_mul, Rat.intCast_mul, Rat.intCast_mul]
    have e2 : ((2 : Int) : Rat) = 2 := rfl
    have e4 : ((4 : Int) : Rat) = 4 := rfl
    have es : (s : Rat) * (s : Rat) = 1 := by
      rw [← Rat.intCast_mul, show s * s = 1 by rcases hs with rfl | rfl <;> rfl]
      rfl
    rw [e2, e4]
    grind
  have c1 := cross_of (q := qTimes (-2, 1) x) (N := b) (D := a) (by have := n1.1; omega) (by omega) v1
  have c2 := cross_of (q := nrm (b * b - 4 * a * c) x (s, 2 * a)) (N := c) (D := a) (by have := n2.1; omega) (by omega) v2
  have L := lcm_coprime (A := eqA (b * b - 4 * a * c) x (s, 2 * a)) (l := (qTimes (-2, 1) x).1) (m := (qTimes (-2, 1) x).2) (n := (nrm (b * b - 4 * a * c) x (s, 2 * a)).1) (k := (nrm (b * b - 4 * a * c) x (s, 2 * a)).2) n1 n2 rfl
  obtain ⟨l1, l2, l3, l4⟩ := L
  show eqA _ _ _ = a ∧ eqB _ _ _ = b ∧ eqC _ _ _ = c
  refine prim_uniq ha (by omega) h ?_ ?_ ?_
  · exact gcd_rot l4
  · unfold eqB
    generalize eqA (b * b - 4 * a * c) x (s, 2 * a) = A at *
    calc (qTimes (-2, 1) x).1 * (A / (qTimes (-2, 1) x).2) * a = (qTimes (-2, 1) x).1 * a * (A / (qTimes (-2, 1) x).2) := by grind
      _ = (qTimes (-2, 1) x).2 * b * (A / (qTimes (-2, 1) x).2) := by rw [c1]
      _ = (A / (qTimes (-2, 1) x).2) * (qTimes (-2, 1) x).2 * b := by grind
      _ = A * b := by rw [l2]
  · unfold eqC
    generalize eqA (b * b - 4 * a * c) x (s, 2 * a) = A at *
    generalize nrm (b * b - 4 * a * c) x (s, 2 * a) = N at *
    calc N.1 * (A / N.2) * a = N.1 * a * (A / N.2) := by grind
      _ = N.2 * c * (A / N.2) := by rw [c2]
      _ = (A / N.2) * N.2 * c := by grind
      _ = A * c := by rw [l3]
end Odds
namespace Pm
open PySem L2
section
variable {X : Cx} {g : Sg} {W : WX} {a b c e o : Expr} {es : List Expr} {m ma mb mo : ME} {ms : MA} {pos p : Pos}
/-! ### is True, is False; str of an int -/
def isbM (neg : Bool) : PV → PV → Sto → Rs PV
  | .bl a, .bl b, S => .ok (.bl (if neg then !decide (a = b) else decide (a = b))) S
  | _, _, _ => .bad
theorem opm_isB : OpM X g W rIsB (isbM false) := by
  intro α σ H ρ S x y v u Q r dx dy q
  cases dx <;> cases dy <;> first | exact False.elim q | skip
  case bl.bl i j => exact ⟨i, j, rfl, rfl, q.here r _ (.bl _)⟩
theorem opm_notB : OpM X g W rNotB (isbM true) := by
  intro α σ H ρ S x y v u Q r dx dy q
  cases dx <;> cases dy <;> first | exact False.elim q | skip
  case bl.bl i j => exact ⟨i, j, rfl, rfl, q.here r _ (.bl _)⟩
def strM : MF
  | [.int i], S => if i.natAbs.log2 < 1920 then .ok (.str (toString i)) S else .bad
  | _, _ => .bad
theorem cam_str : CaM X g W (fun xs H Q => ∃ i : Int, xs = [.int i] ∧ i.natAbs.log2 < 1920 ∧ Q (.str (toString i)) H) strM := by
  intro α σ H ρ S xs vs Q r d q
  rcases xs with _ | ⟨x, _ | ⟨y, tl⟩⟩ <;> first | exact False.elim q | (cases x <;> first | exact False.elim q | (cases y <;> exact False.elim q)) | skip
  · obtain ⟨v, rfl, dv⟩ := d.one
    clear d
    cases dv <;> first | exact False.elim q | skip
    case int i =>
      simp only [strM] at q
      split at q
      · rename_i h
        exact ⟨i, rfl, h, q.here r _ (.str _)⟩
      · exact q.elim

/-! ### methods of lists -/
def lstQ : PV → Sto → Bool
  | .rol _, _ => true
  | .cell n, S => match S[n]? with
    | some (.lst _) => true
    | _ => false
  | _, _ => false
/-- a method of a built-in type, told by f; q: the value is of the type -/
def mBM (q : PV → Sto → Bool) (f : PV → List PV → Sto → Rs PV) (mo : ME) (ms : MA) : ME := fun ρ S => (mo ρ S).bind fun x S1 => if q x S1 = true then (ms ρ S1).bind fun xs S2 => f x xs S2 else .bad
def MetM (X : Cx) (g : Sg) (W : WX) (r : V → List V → Hp → VK → Prop) (f : PV → List PV → Sto → Rs PV) : Prop :=
  ∀ α σ H ρ S x v xs vs Q, Rl X.K g α σ H ρ S → Den X.K α H x v → Dens X.K α H xs vs → Post X.K g W α σ H ρ (fun α' H' z _ => ∀ w, Den X.K α' H' z w → Q w H') (f x xs S) → r v vs H Q
theorem lst_ty {K : PySem.W.Frag} {α : List Addr} {H : Hp} {S : Sto} (r : RlC K g α H S) {x : PV} {v : V} (d : Den K α H x v) (h : lstQ x S = true) : tyV K "list" v H := by
  cases d <;> simp only [lstQ] at h <;> first | (cases h; done) | skip
  case rol h0 d => exact .inl ⟨rfl, _, h0.sq⟩
  case cell h0 =>
    split at h
    · rename_i e0
      obtain ⟨us, hu, _⟩ := r.at h0 e0
      exact .inl ⟨rfl, _, SqL.of hu⟩
    · cases h
theorem re_bm {r : V → List V → Hp → VK → Prop} {f : PV → List PV → Sto → Rs PV} {T : String} {qt : PV → Sto → Bool} {ca : Expr} (ht : ∀ {α H S x v}, RlC X.K g α H S → Den X.K α H x v → qt x S = true → tyV X.K T v H) (hf : MetM X g W r f) (ho : RE X g W o mo) (ha : RA X g W es ms)
    (h : ∀ {to : TE} {t : TA}, PE X o to → PA X es t → PE X ca (tBM X.K T r to t)) : RE X g W ca (mBM qt f mo ms) := by
  refine pe_le (h ho ha) fun σ H Q ⟨α, ρ, S, rl, q⟩ => ?_
  refine ⟨α, ρ, S, rl, q.of_bind.imp fun α1 H1 x S1 p1 k1 r1 q1 v dv => ?_⟩
  replace q1 := q1 r1
  split at q1
  · rename_i hq
    refine ⟨ht r1.obj dv hq, α1, ρ, S1, r1, q1.of_bind.imp fun α2 H2 xs S2 p2 k2 r2 q2 vs dvs => ?_⟩
    exact hf _ _ _ _ _ _ _ _ _ _ r2 (dv.mono p2 k2) dvs (q2 r2)
  · exact q1.elim
def appendM (x : PV) (xs : List PV) (S : Sto) : Rs PV := match x, xs with
  | .cell n, [y] => match S[n]? with
    | some (.lst ys) => if ys.length < sizeLine then .ok .non (S.set n (.lst (ys ++ [y]))) else .bad
    | _ => .bad
  | _, _ => .bad
theorem met_append : MetM X g W rAppend appendM := by
  intro α σ H ρ S x v xs vs Q r dx ds q
  rcases xs with _ | ⟨y, _ | ⟨z, tl⟩⟩ <;> cases dx <;> first | exact False.elim q | skip
  case cons.nil.cell n a h =>
    obtain ⟨u, rfl, du⟩ := ds.one
    simp only [appendM] at q
    split at q
    · rename_i ys e0
      split at q
      · rename_i hz
        obtain ⟨us, hu, d⟩ := r.obj.at h e0
        have kp := r.obj.kset (u := .lst (us ++ [u])) h e0
        exact ⟨a, us, u, rfl, rfl, hu, by rw [← d.length]; exact hz, fin_set (o' := .lst (ys ++ [y])) r h e0 ⟨_, upd_same, (d.mono (List.prefix_refl _) kp).append (.cons (du.mono (List.prefix_refl _) kp) .nil)⟩ .non q⟩
      · exact q.elim
    · exact q.elim
def extendM (x : PV) (xs : List PV) (S : Sto) : Rs PV := match x, xs with
  | .cell n, [.cell k] => match S[n]?, S[k]? with
    | some (.lst ys), some (.lst zs) => if ys.length + zs.length ≤ sizeLine then .ok .non (S.set n (.lst (ys ++ zs))) else .bad
    | _, _ => .bad
  | _, _ => .bad
theorem met_extend : MetM X g W rExtend extendM := by
  intro α σ H ρ S x v xs vs Q r dx ds q
  rcases xs with _ | ⟨y, _ | ⟨z, tl⟩⟩ <;> cases dx <;> first | exact False.elim q | (cases y <;> exact False.elim q) | skip
  case cons.nil.cell n a h =>
    obtain ⟨u, rfl, du⟩ := ds.one
    cases du <;> first | exact False.elim q | skip
    case cell k b h2 =>
      simp only [extendM] at q
      split at q
      · rename_i ys zs e0 e1
        split at q
        · rename_i hz
          obtain ⟨us, hu, d⟩ := r.obj.at h e0
          obtain ⟨ws, hw, dw⟩ := r.obj.at h2 e1
          have kp := r.obj.kset (u := .lst (us ++ ws)) h e0
          exact ⟨a, b, us, ws, rfl, rfl, hu, hw, by rw [← d.length, ← dw.length]; exact hz, fin_set (o' := .lst (ys ++ zs)) r h e0 ⟨_, upd_same, (d.mono (List.prefix_refl _) kp).append (dw.mono (List.prefix_refl _) kp)⟩ .non q⟩
        · exact q.elim
      · exact q.elim
end
/-! how these are computed -/
section
variable {mo : ME} {ms : MA} {ρ : PSt} {S : Sto} {q : PV → Sto → Bool} {f : PV → List PV → Sto → Rs PV}
theorem mBM_ev : mBM q f mo ms ρ S = (mo ρ S).bind fun x S1 => if q x S1 = true then (ms ρ S1).bind fun xs S2 => f x xs S2 else .bad := rfl
theorem lstQ_ev {n : Nat} {ys : List PV} (h : S[n]? = some (.lst ys)) : lstQ (.cell n) S = true := by simp [lstQ, h]
theorem append_ev {n : Nat} {ys : List PV} {y : PV} (h : S[n]? = some (.lst ys)) (hl : ys.length < sizeLine) : appendM (.cell n) [y] S = .ok .non (S.set n (.lst (ys ++ [y]))) := by simp [appendM, h, hl]
theorem isB_ev {a b : Bool} : isbM false (.bl a) (.bl b) S = .ok (.bl (decide (a = b))) S := rfl
theorem notB_ev {a b : Bool} : isbM true (.bl a) (.bl b) S = .ok (.bl (!decide (a = b))) S := rfl
end
end Pm
namespace Pm
open PySem L2
def topS (i : Nat) : Stmt := PySem.Challenge.pw_oddscall_k11_order_of_numbers.main.body.getD i (.Pass ⟨0, 0, 0, 0⟩)
abbrev s_l_stream : Stmt := topS 34
theorem sc_l_stream : FnScope ["script"] ["script"] (defScope s_l_stream) := ⟨rfl, rfl, rfl, by decide +kernel, rfl, by decide +kernel, by decide +kernel⟩
abbrev s_l_next : Stmt := topS 35
theorem sc_l_next : FnScope ["stream", "many", "k", "cell", "digit"] ["stream", "many"] (defScope s_l_next) := ⟨rfl, rfl, rfl, by decide +kernel, rfl, by decide +kernel, by decide +kernel⟩
abbrev s_l_is_integer : Stmt := topS 36
theorem sc_l_is_integer : FnScope ["actual"] ["actual"] (defScope s_l_is_integer) := ⟨rfl, rfl, rfl, by decide +kernel, rfl, by decide +kernel, by decide +kernel⟩
abbrev s_l_equal : Stmt := topS 43
theorem sc_l_equal : FnScope ["actual", "due", "at"] ["actual", "due"] (defScope s_l_equal) := ⟨rfl, rfl, rfl, by decide +kernel, rfl, by decide +kernel, by decide +kernel⟩
abbrev s_l_gcd : Stmt := topS 37
theorem sc_l_gcd : FnScope ["a", "b", "k"] ["a", "b"] (defScope s_l_gcd) := ⟨rfl, rfl, rfl, by decide +kernel, rfl, by decide +kernel, by decide +kernel⟩
abbrev s_l_low : Stmt := topS 38
theorem sc_l_low : FnScope ["n", "d", "shared"] ["n", "d"] (defScope s_l_low) := ⟨rfl, rfl, rfl, by decide +kernel, rfl, by decide +kernel, by decide +kernel⟩
abbrev s_l_ratio : Stmt := topS 42
theorem sc_l_ratio : FnScope ["stream", "top", "most", "n"] ["stream", "top", "most"] (defScope s_l_ratio) := ⟨rfl, rfl, rfl, by decide +kernel, rfl, by decide +kernel, by decide +kernel⟩
abbrev s_l_root : Stmt := topS 44
theorem sc_l_root : FnScope ["n", "low", "high", "k", "middle"] ["n"] (defScope s_l_root) := ⟨rfl, rfl, rfl, by decide +kernel, rfl, by decide +kernel, by decide +kernel⟩
abbrev s_l_is_square : Stmt := topS 45
theorem sc_l_is_square : FnScope ["n"] ["n"] (defScope s_l_is_square) := ⟨rfl, rfl, rfl, by decide +kernel, rfl, by decide +kernel, by decide +kernel⟩
abbrev s_l_number : Stmt := topS 46
theorem sc_l_number : FnScope ["stream", "a", "b", "c", "shared", "inside"] ["stream"] (defScope s_l_number) := ⟨rfl, rfl, rfl, by decide +kernel, rfl, by decide +kernel, by decide +kernel⟩
abbrev s_l_beside : Stmt := topS 47
theorem sc_l_beside : FnScope ["number", "n", "d", "left", "right", "c", "b", "a", "here", "side"] ["number", "n", "d"] (defScope s_l_beside) := ⟨rfl, rfl, rfl, by decide +kernel, rfl, by decide +kernel, by decide +kernel⟩
abbrev s_l_floor : Stmt := topS 48
theorem sc_l_floor : FnScope ["number", "q", "low", "high", "k", "middle"] ["number", "q", "low", "high"] (defScope s_l_floor) := ⟨rfl, rfl, rfl, by decide +kernel, rfl, by decide +kernel, by decide +kernel⟩
abbrev s_l_compare : Stmt := topS 49
theorem sc_l_compare : FnScope ["first", "second", "one", "other", "q", "k"] ["first", "second"] (defScope s_l_compare) := ⟨rfl, rfl, rfl, by decide +kernel, rfl, by decide +kernel, by decide +kernel⟩
abbrev s_plus : Stmt := topS 12
theorem sc_plus : FnScope ["a", "b", "shared", "left", "top", "again"] ["a", "b"] (defScope s_plus) := ⟨rfl, rfl, rfl, by decide +kernel, rfl, by decide +kernel, by decide +kernel⟩
abbrev s_opposite : Stmt := topS 15
theorem sc_opposite : FnScope ["a"] ["a"] (defScope s_opposite) := ⟨rfl, rfl, rfl, by decide +kernel, rfl, by decide +kernel, by decide +kernel⟩
abbrev s_minus : Stmt := topS 13
theorem sc_minus : FnScope ["a", "b"] ["a", "b"] (defScope s_minus) := ⟨rfl, rfl, rfl, by decide +kernel, rfl, by decide +kernel, by decide +kernel⟩
abbrev s_is_whole : Stmt := topS 5
theorem sc_is_whole : FnScope ["value"] ["value"] (defScope s_is_whole) := ⟨rfl, rfl, rfl, by decide +kernel, rfl, by decide +kernel, by decide +kernel⟩
abbrev s_is_index : Stmt := topS 6
theorem sc_is_index : FnScope ["value", "many"] ["value", "many"] (defScope s_is_index) := ⟨rfl, rfl, rfl, by decide +kernel, rfl, by decide +kernel, by decide +kernel⟩
abbrev s_is_rational : Stmt := topS 17
theorem sc_is_rational : FnScope ["x", "n", "d"] ["x"] (defScope s_is_rational) := ⟨rfl, rfl, rfl, by decide +kernel, rfl, by decide +kernel, by decide +kernel⟩
abbrev s_square_root : Stmt := topS 7
theorem sc_square_root : FnScope ["n", "root"] ["n"] (defScope s_square_root) := ⟨rfl, rfl, rfl, by decide +kernel, rfl, by decide +kernel, by decide +kernel⟩
abbrev s_is_field : Stmt := topS 22
theorem sc_is_field : FnScope ["x"] ["x"] (defScope s_is_field) := ⟨rfl, rfl, rfl, by decide +kernel, rfl, by decide +kernel, by decide +kernel⟩
abbrev s_discriminant : Stmt := topS 28
theorem sc_discriminant : FnScope ["coefficients", "c", "b", "a"] ["coefficients"] (defScope s_discriminant) := ⟨rfl, rfl, rfl, by decide +kernel, rfl, by decide +kernel, by decide +kernel⟩
abbrev s_is_equation : Stmt := topS 27
theorem sc_is_equation : FnScope ["coefficients", "k", "c", "b", "a", "inside"] ["coefficients"] (defScope s_is_equation) := ⟨rfl, rfl, rfl, by decide +kernel, rfl, by decide +kernel, by decide +kernel⟩
abbrev s_is_number : Stmt := topS 26
theorem sc_is_number : FnScope ["x"] ["x"] (defScope s_is_number) := ⟨rfl, rfl, rfl, by decide +kernel, rfl, by decide +kernel, by decide +kernel⟩
abbrev s_check_number : Stmt := topS 29
theorem sc_check_number : FnScope ["value", "name"] ["value", "name"] (defScope s_check_number) := ⟨rfl, rfl, rfl, by decide +kernel, rfl, by decide +kernel, by decide +kernel⟩
abbrev s_ratio : Stmt := topS 11
theorem sc_ratio : FnScope ["n", "d", "shared"] ["n", "d"] (defScope s_ratio) := ⟨rfl, rfl, rfl, by decide +kernel, rfl, by decide +kernel, by decide +kernel⟩
abbrev s_element_of : Stmt := topS 30
theorem sc_element_of : FnScope ["number", "_", "b", "a", "side"] ["number"] (defScope s_element_of) := ⟨rfl, rfl, rfl, by decide +kernel, rfl, by decide +kernel, by decide +kernel⟩
abbrev s_times : Stmt := topS 14
theorem sc_times : FnScope ["a", "b", "first", "second"] ["a", "b"] (defScope s_times) := ⟨rfl, rfl, rfl, by decide +kernel, rfl, by decide +kernel, by decide +kernel⟩
abbrev s_whole_sign : Stmt := topS 8
theorem sc_whole_sign : FnScope ["n"] ["n"] (defScope s_whole_sign) := ⟨rfl, rfl, rfl, by decide +kernel, rfl, by decide +kernel, by decide +kernel⟩
abbrev s_rational_sign : Stmt := topS 16
theorem sc_rational_sign : FnScope ["a"] ["a"] (defScope s_rational_sign) := ⟨rfl, rfl, rfl, by decide +kernel, rfl, by decide +kernel, by decide +kernel⟩
abbrev s_multiply : Stmt := topS 23
theorem sc_multiply : FnScope ["field", "a", "b", "plain", "rooted"] ["field", "a", "b"] (defScope s_multiply) := ⟨rfl, rfl, rfl, by decide +kernel, rfl, by decide +kernel, by decide +kernel⟩
abbrev s_loosened : Stmt := topS 19
theorem sc_loosened : FnScope ["element", "n", "d", "k", "e", "shared"] ["element"] (defScope s_loosened) := ⟨rfl, rfl, rfl, by decide +kernel, rfl, by decide +kernel, by decide +kernel⟩
abbrev s_loose_sign : Stmt := topS 20
theorem sc_loose_sign : FnScope ["field", "a", "plain", "rooted"] ["field", "a"] (defScope s_loose_sign) := ⟨rfl, rfl, rfl, by decide +kernel, rfl, by decide +kernel, by decide +kernel⟩
abbrev s_sign_of : Stmt := topS 24
theorem sc_sign_of : FnScope ["field", "a"] ["field", "a"] (defScope s_sign_of) := ⟨rfl, rfl, rfl, by decide +kernel, rfl, by decide +kernel, by decide +kernel⟩
abbrev s_compare_with_root : Stmt := topS 32
theorem sc_compare_with_root : FnScope ["field", "left", "other_field", "factor", "side", "other_side", "square", "other_square"] ["field", "left", "other_field", "factor"] (defScope s_compare_with_root) := ⟨rfl, rfl, rfl, by decide +kernel, rfl, by decide +kernel, by decide +kernel⟩
abbrev s_compare_numbers : Stmt := topS 31
theorem sc_compare_numbers : FnScope ["first", "second", "field", "one", "other_field", "other", "left"] ["first", "second"] (defScope s_compare_numbers) := ⟨rfl, rfl, rfl, by decide +kernel, rfl, by decide +kernel, by decide +kernel⟩
abbrev s_l_told : Stmt := topS 50
theorem sc_l_told : FnScope ["first", "second", "e"] ["first", "second"] (defScope s_l_told) := ⟨rfl, rfl, rfl, by decide +kernel, rfl, by decide +kernel, by decide +kernel⟩
abbrev s_l_near : Stmt := topS 51
theorem sc_l_near : FnScope ["stream", "number", "pick", "q", "m"] ["stream", "number"] (defScope s_l_near) := ⟨rfl, rfl, rfl, by decide +kernel, rfl, by decide +kernel, by decide +kernel⟩
abbrev s_law : Stmt := topS 52
theorem sc_law : FnScope ["script", "stream", "first", "second", "due", "wrong"] ["script"] (defScope s_law) := ⟨rfl, rfl, rfl, by decide +kernel, rfl, by decide +kernel, by decide +kernel⟩
abbrev s_init_BadValue : Stmt := inClass (topS 3) 0
theorem sc_init_BadValue : FnScope ["self", "name"] ["self", "name"] (defScope s_init_BadValue) := ⟨rfl, rfl, rfl, by decide +kernel, rfl, by decide +kernel, by decide +kernel⟩
def c_ZERO : PV := (PV.tup [(PV.int 0), (PV.int 1)])
structure Txt (K : PySem.W.Frag) (mg : Str → Option Value) where
  f_l_stream : Addr
  fd_l_stream : FuncData
  D_l_stream : Odds.Dn K mg "_law_stream" s_l_stream ["script"] f_l_stream fd_l_stream
  f_l_next : Addr
  fd_l_next : FuncData
  D_l_next : Odds.Dn K mg "_law_next" s_l_next ["stream", "many"] f_l_next fd_l_next
  f_l_is_integer : Addr
  fd_l_is_integer : FuncData
  D_l_is_integer : Odds.Dn K mg "_law_is_integer" s_l_is_integer ["actual"] f_l_is_integer fd_l_is_integer
  f_l_equal : Addr
  fd_l_equal : FuncData
  D_l_equal : Odds.Dn K mg "_law_equal" s_l_equal ["actual", "due"] f_l_equal fd_l_equal
  f_l_gcd : Addr
  fd_l_gcd : FuncData
  D_l_gcd : Odds.Dn K mg "_law_gcd" s_l_gcd ["a", "b"] f_l_gcd fd_l_gcd
  f_l_low : Addr
  fd_l_low : FuncData
  D_l_low : Odds.Dn K mg "_law_low" s_l_low ["n", "d"] f_l_low fd_l_low
  f_l_ratio : Addr
  fd_l_ratio : FuncData
  D_l_ratio : Odds.Dn K mg "_law_ratio" s_l_ratio ["stream", "top", "most"] f_l_ratio fd_l_ratio
  f_l_root : Addr
  fd_l_root : FuncData
  D_l_root : Odds.Dn K mg "_law_root" s_l_root ["n"] f_l_root fd_l_root
  f_l_is_square : Addr
  fd_l_is_square : FuncData
  D_l_is_square : Odds.Dn K mg "_law_is_square" s_l_is_square ["n"] f_l_is_square fd_l_is_square
  f_l_number : Addr
  fd_l_number : FuncData
  D_l_number : Odds.Dn K mg "_law_number" s_l_number ["stream"] f_l_number fd_l_number
  f_l_beside : Addr
  fd_l_beside : FuncData
  D_l_beside : Odds.Dn K mg "_law_beside" s_l_beside ["number", "n", "d"] f_l_beside fd_l_beside
  f_l_floor : Addr
  fd_l_floor : FuncData
  D_l_floor : Odds.Dn K mg "_law_floor" s_l_floor ["number", "q", "low", "high"] f_l_floor fd_l_floor
  f_l_compare : Addr
  fd_l_compare : FuncData
  D_l_compare : Odds.Dn K mg "_law_compare" s_l_compare ["first", "second"] f_l_compare fd_l_compare
  f_plus : Addr
  fd_plus : FuncData
  D_plus : Odds.Dn K mg "plus" s_plus ["a", "b"] f_plus fd_plus
  f_opposite : Addr
  fd_opposite : FuncData
  D_opposite : Odds.Dn K mg "opposite" s_opposite ["a"] f_opposite fd_opposite
  f_minus : Addr
  fd_minus : FuncData
  D_minus : Odds.Dn K mg "minus" s_minus ["a", "b"] f_minus fd_minus
  f_is_whole : Addr
  fd_is_whole : FuncData
  D_is_whole : Odds.Dn K mg "is_whole" s_is_whole ["value"] f_is_whole fd_is_whole
  f_is_index : Addr
  fd_is_index : FuncData
  D_is_index : Odds.Dn K mg "is_index" s_is_index ["value", "many"] f_is_index fd_is_index
  f_is_rational : Addr
  fd_is_rational : FuncData
  D_is_rational : Odds.Dn K mg "is_rational" s_is_rational ["x"] f_is_rational fd_is_rational
  f_square_root : Addr
  fd_square_root : FuncData
  D_square_root : Odds.Dn K mg "square_root" s_square_root ["n"] f_square_root fd_square_root
  f_is_field : Addr
  fd_is_field : FuncData
  D_is_field : Odds.Dn K mg "is_field" s_is_field ["x"] f_is_field fd_is_field
  f_discriminant : Addr
  fd_discriminant : FuncData
  D_discriminant : Odds.Dn K mg "discriminant" s_discriminant ["coefficients"] f_discriminant fd_discriminant
  f_is_equation : Addr
  fd_is_equation : FuncData
  D_is_equation : Odds.Dn K mg "is_equation" s_is_equation ["coefficients"] f_is_equation fd_is_equation
  f_is_number : Addr
  fd_is_number : FuncData
  D_is_number : Odds.Dn K mg "is_number" s_is_number ["x"] f_is_number fd_is_number
  f_check_number : Addr
  fd_check_number : FuncData
  D_check_number : Odds.Dn K mg "check_number" s_check_number ["value", "name"] f_check_number fd_check_number
  f_ratio : Addr
  fd_ratio : FuncData
  D_ratio : Odds.Dn K mg "ratio" s_ratio ["n", "d"] f_ratio fd_ratio
  f_element_of : Addr
  fd_element_of : FuncData
  D_element_of : Odds.Dn K mg "element_of" s_element_of ["number"] f_element_of fd_element_of
  f_times : Addr
  fd_times : FuncData
  D_times : Odds.Dn K mg "times" s_times ["a", "b"] f_times fd_times
  f_whole_sign : Addr
  fd_whole_sign : FuncData
  D_whole_sign : Odds.Dn K mg "whole_sign" s_whole_sign ["n"] f_whole_sign fd_whole_sign
  f_rational_sign : Addr
  fd_rational_sign : FuncData
  D_rational_sign : Odds.Dn K mg "rational_sign" s_rational_sign ["a"] f_rational_sign fd_rational_sign
  f_multiply : Addr
  fd_multiply : FuncData
  D_multiply : Odds.Dn K mg "multiply" s_multiply ["field", "a", "b"] f_multiply fd_multiply
  f_loosened : Addr
  fd_loosened : FuncData
  D_loosened : Odds.Dn K mg "loosened" s_loosened ["element"] f_loosened fd_loosened
  f_loose_sign : Addr
  fd_loose_sign : FuncData
  D_loose_sign : Odds.Dn K mg "loose_sign" s_loose_sign ["field", "a"] f_loose_sign fd_loose_sign
  f_sign_of : Addr
  fd_sign_of : FuncData
  D_sign_of : Odds.Dn K mg "sign_of" s_sign_of ["field", "a"] f_sign_of fd_sign_of
  f_compare_with_root : Addr
  fd_compare_with_root : FuncData
  D_compare_with_root : Odds.Dn K mg "compare_with_root" s_compare_with_root ["field", "left", "other_field", "factor"] f_compare_with_root fd_compare_with_root
  f_compare_numbers : Addr
  fd_compare_numbers : FuncData
  D_compare_numbers : Odds.Dn K mg "compare_numbers" s_compare_numbers ["first", "second"] f_compare_numbers fd_compare_numbers
  f_l_told : Addr
  fd_l_told : FuncData
  D_l_told : Odds.Dn K mg "_law_told" s_l_told ["first", "second"] f_l_told fd_l_told
  f_l_near : Addr
  fd_l_near : FuncData
  D_l_near : Odds.Dn K mg "_law_near" s_l_near ["stream", "number"] f_l_near fd_l_near
  f_law : Addr
  fd_law : FuncData
  D_law : Odds.Dn K mg "law" s_law ["script"] f_law fd_law
  abs : mg "abs" = none
  all : mg "all" = none
  bool : mg "bool" = none
  int : mg "int" = none
  isinstance : mg "isinstance" = none
  len : mg "len" = none
  list : mg "list" = none
  range : mg "range" = none
  str : mg "str" = none
  tuple : mg "tuple" = none
  gcd : mg "gcd" = some (.builtin "math.gcd")
  isqrt : mg "isqrt" = some (.builtin "math.isqrt")
  lcm : mg "lcm" = some (.builtin "math.lcm")
  v_ZERO : V
  u_ZERO : Value
  g_ZERO : mg "ZERO" = some u_ZERO
  r_ZERO : RelV v_ZERO u_ZERO
  d_ZERO : ∀ α H, Den K α H c_ZERO v_ZERO
  c_BadValue : Addr
  g_BadValue : mg "BadValue" = some (.ref c_BadValue)
  O_BadValue : OexC K c_BadValue
  X_BadValue : XfC K c_BadValue
  I_BadValue : Odds.ExcD K c_BadValue
  fi_BadValue : Addr
  fdi_BadValue : FuncData
  iC_BadValue : PySem.W.findIn K (.ref c_BadValue) "__init__" = some (some (.ref fi_BadValue))
  tI_BadValue : PySem.W.typeIn K (.ref fi_BadValue) = some (.type "function")
  FI_BadValue : Fun K "__init__" "BadValue.__init__" s_init_BadValue fi_BadValue fdi_BadValue
  bI_BadValue : Binds K fdi_BadValue ["self", "name"] []
  no_BadValue_name : PySem.W.findIn K (.ref c_BadValue) "name" = some none
  x_BadValue_BadValue : PySem.W.exmOne K (.ref c_BadValue) (.ref c_BadValue) = some true
  k_BadValue_BadValue : PySem.W.kitOne K (.ref c_BadValue) (.ref c_BadValue) = some true
  c_tab : Addr
  P_tab : Addr
  code_tab : fd_is_equation.code = .ref c_tab
abbrev Txt.g {K : PySem.W.Frag} {mg : Str → Option Value} (T : Txt K mg) : Sg := ⟨fun _ => none, fun s => if s = "BadValue" then some T.c_BadValue else none, [T.P_tab], none⟩
def isX (t c : Str) : Bool := t == "OddsError" || (t == "ValueError" || t == c)
section
variable {K : PySem.W.Frag} {mg : Str → Option Value}
theorem Txt.e_BadValue (T : Txt K mg) : T.g.exc "BadValue" = some T.c_BadValue := by
  show (if ("BadValue" : Str) = "BadValue" then some T.c_BadValue else none) = _
  rw [if_pos rfl]
theorem Txt.ini_BadValue {P : Program} {w : World} {base : Heap} (T : Txt K mg) : FnOk P w K mg base CX0 1 T.fi_BadValue T.fdi_BadValue ["self", "name"] (spIni T.c_BadValue ["name"]) :=
  ini1 T.O_BadValue T.no_BadValue_name T.FI_BadValue sc_init_BadValue (fun cdv A outer s H E => pss_one (ps_ost (pv 0) (pv 1)))
theorem Txt.ex_BadValue (T : Txt K mg) : ∀ c C, T.g.exc c = some C → PySem.W.exmOne K (.ref C) (.ref T.c_BadValue) = some (isX "BadValue" c) := by
  intro c C h
  by_cases e0 : c = "BadValue"
  · subst e0
    have h' : some T.c_BadValue = some C := h
    cases h'
    exact T.x_BadValue_BadValue
  · have h' : (if c = "BadValue" then some T.c_BadValue else none) = some C := h
    rw [if_neg e0] at h'
    cases h'
theorem Txt.isx_BadValue (T : Txt K mg) : ∀ c C, T.g.exc c = some C → Odds.ExcD K C ∧ PySem.W.kitOne K (.ref C) (.ref T.c_BadValue) = some (isX "BadValue" c) := by
  intro c C h
  by_cases e0 : c = "BadValue"
  · subst e0
    have h' : some T.c_BadValue = some C := h
    cases h'
    exact ⟨T.I_BadValue, T.k_BadValue_BadValue⟩
  · have h' : (if c = "BadValue" then some T.c_BadValue else none) = some C := h
    rw [if_neg e0] at h'
    cases h'
theorem Txt.isv_BadValue (T : Txt K mg) : ∀ u, RelV (.ref T.c_BadValue) u → u = .ref T.c_BadValue := fun _ h => h
theorem Txt.W (T : Txt K mg) : Odds.WhT K mg T.f_is_whole T.fd_is_whole := ⟨⟨s_is_whole, _, _, _, _, _, _, _, _, _, _, _, T.D_is_whole, rfl, rfl, rfl, rfl, by decide +kernel, by decide +kernel, by decide +kernel, by decide +kernel⟩, T.isinstance, T.int, T.bool⟩
end
noncomputable def m_l_stream : MF := callD 1 1 (mRet (mLst (mCons (mCall listM (mCons (mVar 0) mNil)) (mCons (mC (PV.int 0)) (mCons (mC (PV.int 0)) mNil)))))
noncomputable def m_l_next : MF := callD 2 5 (mSeq (mIf (mTst (m2 eqM (m2 ixM (mVar 0) (mC (PV.int 1))) (mC (PV.int 0)))) (mSeq (mAsg (m2 ixM (mVar 0) (mC (PV.int 2))) (mgName 2))
    (mSeq (mAsg (m2 addM (mC (PV.int 7)) (mVar 2)) (mgName 3))
    (mSeq (mIf (mTst (m2 ltM (mVar 2) (mCall lenM (mCons (m2 ixM (mVar 0) (mC (PV.int 0))) mNil)))) (mAsg (mCall absM (mCons (m2 ixM (m2 ixM (mVar 0) (mC (PV.int 0))) (mVar 2)) mNil)) (mgName 3)) mNx)
    (mSeq (mIf (mTst (m2 ltM (mVar 3) (m2 powM (mC (PV.int 10)) (mC (PV.int 18))))) (mSeq (mAsg (m2 modM (mCall intM (mCons (m2 addM (m2 addM (m2 mulM (mVar 3) (mC (PV.int 48271))) (m2 mulM (mVar 2) (mC (PV.int 69621)))) (mC (PV.int 11))) mNil)) (mC (PV.int 2147483647))) (mgName 3))
    (mAsg (m2 addM (m2 mulM (m2 modM (mCall intM (mCons (m2 addM (m2 mulM (mVar 3) (mC (PV.int 16807))) (mC (PV.int 13))) mNil)) (mC (PV.int 2147483647))) (mC (PV.int 65537))) (mVar 3)) (mgName 3))) mNx)
    (mSeq (mSetL (mVar 0) (mC (PV.int 1)) (mVar 3))
    (mSetL (mVar 0) (mC (PV.int 2)) (m2 addM (mVar 2) (mC (PV.int 1))))))))) mNx)
    (mSeq (mAsg (m2 modM (mCall intM (mCons (m2 ixM (mVar 0) (mC (PV.int 1))) mNil)) (mVar 1)) (mgName 4))
    (mSeq (mSetL (mVar 0) (mC (PV.int 1)) (m2 fdivM (m2 ixM (mVar 0) (mC (PV.int 1))) (mVar 1)))
    (mRet (mVar 4)))))
noncomputable def m_l_is_integer : MF := callD 1 1 (mRet (mAndV (mIsi "int" (mVar 0)) (mNotV (mIsi "bool" (mVar 0)))))
noncomputable def m_l_equal : Nat → MF
  | 0 => callD 2 3 (fun _ _ => .bad)
  | k + 1 => callD 2 3 (mSeq (mIf (mTst (mIsN false (mVar 1))) (mRet (mIsN false (mVar 0))) mNx)
    (mSeq (mIf (mTru (mIsi "bool" (mVar 1))) (mRet (mAndV (mIsi "bool" (mVar 0)) (m2 eqM (mVar 0) (mVar 1)))) mNx)
    (mSeq (mIf (mTru (mIsi "int" (mVar 1))) (mRet (mAndV (mApp 1 m_l_is_integer (mCons (mVar 0) mNil)) (m2 eqM (mVar 0) (mVar 1)))) mNx)
    (mSeq (mIf (mTru (mIsi "str" (mVar 1))) (mRet (mAndV (mIsi "str" (mVar 0)) (m2 eqM (mVar 0) (mVar 1)))) mNx)
    (mSeq (mIf (mAndT (mTru (mIsi "tuple" (mVar 1))) (mNotT (mTru (mIsi "tuple" (mVar 0))))) (mRet (mC (PV.bl false))) mNx)
    (mSeq (mIf (mAndT (mTru (mIsi "list" (mVar 1))) (mNotT (mTru (mIsi "list" (mVar 0))))) (mRet (mC (PV.bl false))) mNx)
    (mSeq (mIf (mTst (m2 neM (mCall lenM (mCons (mVar 0) mNil)) (mCall lenM (mCons (mVar 1) mNil)))) (mRet (mC (PV.bl false))) mNx)
    (mRet (mCall allM (mCons (mLc (mItA rng1 (mCons (mCall lenM (mCons (mVar 1) mNil)) mNil)) (mgName 2) mYes (mApp 2 (m_l_equal k) (mCons (m2 ixM (mVar 0) (mVar 2)) (mCons (m2 ixM (mVar 1) (mVar 2)) mNil))) [2]) mNil))))))))))
noncomputable def m_l_gcd : MF := callD 2 3 (mSeq (mAsg (mCall absM (mCons (mVar 0) mNil)) (mgName 0))
    (mSeq (mAsg (mCall absM (mCons (mVar 1) mNil)) (mgName 1))
    (mSeq (mFor (mItA rng1 (mCons (mC (PV.int 40000)) mNil)) (mgName 2) (mSeq (mIf (mTst (m2 eqM (mVar 1) (mC (PV.int 0)))) mBk mNx)
    (mPar 0 1 (mCons (mVar 1) (mCons (m2 modM (mCall intM (mCons (mVar 0) mNil)) (mVar 1)) mNil)))))
    (mRet (mVar 0)))))
noncomputable def m_l_low : MF := callD 2 3 (mSeq (mAsg (mApp 2 m_l_gcd (mCons (mVar 0) (mCons (mVar 1) mNil))) (mgName 2))
    (mSeq (mIf (mTst (m2 ltM (mVar 1) (mC (PV.int 0)))) (mAsg (m2 subM (mC (PV.int 0)) (mVar 2)) (mgName 2)) mNx)
    (mRet (mTup (mCons (m2 fdivM (mVar 0) (mVar 2)) (mCons (m2 fdivM (mVar 1) (mVar 2)) mNil))))))
noncomputable def m_l_ratio : MF := callD 3 4 (mSeq (mAsg (m2 subM (mApp 2 m_l_next (mCons (mVar 0) (mCons (m2 addM (m2 mulM (mC (PV.int 2)) (mVar 1)) (mC (PV.int 1))) mNil))) (mVar 1)) (mgName 3))
    (mRet (mApp 2 m_l_low (mCons (mVar 3) (mCons (m2 addM (mC (PV.int 1)) (mApp 2 m_l_next (mCons (mVar 0) (mCons (mVar 2) mNil)))) mNil)))))
noncomputable def m_l_root : MF := callD 1 5 (mSeq (mAsg (mC (PV.int 0)) (mgName 1))
    (mSeq (mAsg (mC (PV.int 1)) (mgName 2))
    (mSeq (mFor (mItA rng1 (mCons (mC (PV.int 4000)) mNil)) (mgName 3) (mSeq (mIf (mTst (m2 gtM (m2 mulM (mVar 2) (mVar 2)) (mVar 0))) mBk mNx)
    (mAsg (m2 mulM (mVar 2) (mC (PV.int 2))) (mgName 2))))
    (mSeq (mFor (mItA rng1 (mCons (mC (PV.int 4000)) mNil)) (mgName 3) (mSeq (mIf (mTst (m2 ltM (m2 subM (mVar 2) (mVar 1)) (mC (PV.int 2)))) mBk mNx)
    (mSeq (mAsg (m2 fdivM (m2 addM (mVar 1) (mVar 2)) (mC (PV.int 2))) (mgName 4))
    (mIf (mTst (m2 gtM (m2 mulM (mVar 4) (mVar 4)) (mVar 0))) (mAsg (mVar 4) (mgName 2)) (mAsg (mVar 4) (mgName 1))))))
    (mRet (mVar 1))))))
noncomputable def m_l_is_square : MF := callD 1 1 (mRet (m2 eqM (m2 mulM (mApp 1 m_l_root (mCons (mVar 0) mNil)) (mApp 1 m_l_root (mCons (mVar 0) mNil))) (mVar 0)))
noncomputable def m_l_number : MF := callD 1 6 (mSeq (mIf (mTst (m2 eqM (mApp 2 m_l_next (mCons (mVar 0) (mCons (mC (PV.int 3)) mNil))) (mC (PV.int 0)))) (mRet (mTup (mCons (mC (PV.str "rational")) (mCons (mApp 3 m_l_ratio (mCons (mVar 0) (mCons (mC (PV.int 60)) (mCons (mC (PV.int 40)) mNil)))) mNil)))) mNx)
    (mSeq (mAsg (m2 addM (mC (PV.int 1)) (mApp 2 m_l_next (mCons (mVar 0) (mCons (mC (PV.int 9)) mNil)))) (mgName 1))
    (mSeq (mAsg (m2 subM (mApp 2 m_l_next (mCons (mVar 0) (mCons (mC (PV.int 41)) mNil))) (mC (PV.int 20))) (mgName 2))
    (mSeq (mAsg (m2 subM (mApp 2 m_l_next (mCons (mVar 0) (mCons (mC (PV.int 41)) mNil))) (mC (PV.int 20))) (mgName 3))
    (mSeq (mAsg (mApp 2 m_l_gcd (mCons (mApp 2 m_l_gcd (mCons (mVar 1) (mCons (mVar 2) mNil))) (mCons (mVar 3) mNil))) (mgName 4))
    (mSeq (mPar3 1 2 3 (mCons (m2 fdivM (mVar 1) (mVar 4)) (mCons (m2 fdivM (mVar 2) (mVar 4)) (mCons (m2 fdivM (mVar 3) (mVar 4)) mNil))))
    (mSeq (mAsg (m2 subM (m2 mulM (mVar 2) (mVar 2)) (m2 mulM (m2 mulM (mC (PV.int 4)) (mVar 1)) (mVar 3))) (mgName 5))
    (mSeq (mIf (mOrT (mTst (m2 leM (mVar 5) (mC (PV.int 0)))) (mTru (mApp 1 m_l_is_square (mCons (mVar 5) mNil)))) (mRet (mTup (mCons (mC (PV.str "root")) (mCons (mTup (mCons (m2 subM (mC (PV.int 0)) (mC (PV.int 2))) (mCons (mC (PV.int 0)) (mCons (mC (PV.int 1)) mNil)))) (mCons (mApp 2 m_l_next (mCons (mVar 0) (mCons (mC (PV.int 2)) mNil))) mNil))))) mNx)
    (mRet (mTup (mCons (mC (PV.str "root")) (mCons (mTup (mCons (mVar 3) (mCons (mVar 2) (mCons (mVar 1) mNil)))) (mCons (mApp 2 m_l_next (mCons (mVar 0) (mCons (mC (PV.int 2)) mNil))) mNil)))))))))))))
noncomputable def m_l_beside : MF := callD 3 10 (mSeq (mIf (mTst (m2 eqM (m2 ixM (mVar 0) (mC (PV.int 0))) (mC (PV.str "rational")))) (mSeq (mAsg (m2 mulM (m2 ixM (m2 ixM (mVar 0) (mC (PV.int 1))) (mC (PV.int 0))) (mVar 2)) (mgName 3))
    (mSeq (mAsg (m2 mulM (mVar 1) (m2 ixM (m2 ixM (mVar 0) (mC (PV.int 1))) (mC (PV.int 1)))) (mgName 4))
    (mRet (m2 subM (mCall intM (mCons (m2 gtM (mVar 3) (mVar 4)) mNil)) (mCall intM (mCons (m2 ltM (mVar 3) (mVar 4)) mNil)))))) mNx)
    (mSeq (mAsg (m2 ixM (mVar 0) (mC (PV.int 1))) (mgTup 3 (mgCons (mgName 5) (mgCons (mgName 6) (mgCons (mgName 7) mgNil)))))
    (mSeq (mAsg (m2 addM (m2 addM (m2 mulM (m2 mulM (mVar 5) (mVar 2)) (mVar 2)) (m2 mulM (m2 mulM (mVar 6) (mVar 1)) (mVar 2))) (m2 mulM (m2 mulM (mVar 7) (mVar 1)) (mVar 1))) (mgName 8))
    (mSeq (mAsg (m2 addM (m2 mulM (m2 mulM (mC (PV.int 2)) (mVar 7)) (mVar 1)) (m2 mulM (mVar 6) (mVar 2))) (mgName 9))
    (mSeq (mIf (mTst (m2 eqM (m2 ixM (mVar 0) (mC (PV.int 2))) (mC (PV.int 1)))) (mRet (mIfE (mOrT (mTst (m2 leM (mVar 9) (mC (PV.int 0)))) (mTst (m2 ltM (mVar 8) (mC (PV.int 0))))) (mC (PV.int 1)) (mNeg (mC (PV.int 1))))) mNx)
    (mRet (mIfE (mOrT (mTst (m2 geM (mVar 9) (mC (PV.int 0)))) (mTst (m2 ltM (mVar 8) (mC (PV.int 0))))) (mNeg (mC (PV.int 1))) (mC (PV.int 1)))))))))
noncomputable def m_l_floor : MF := callD 4 6 (mSeq (mFor (mItA rng1 (mCons (mC (PV.int 400)) mNil)) (mgName 4) (mSeq (mIf (mTst (m2 ltM (m2 subM (mVar 3) (mVar 2)) (mC (PV.int 2)))) mBk mNx)
    (mSeq (mAsg (m2 fdivM (m2 addM (mVar 2) (mVar 3)) (mC (PV.int 2))) (mgName 5))
    (mIf (mTst (m2 geM (mApp 3 m_l_beside (mCons (mVar 0) (mCons (mVar 5) (mCons (mVar 1) mNil)))) (mC (PV.int 0)))) (mAsg (mVar 5) (mgName 2)) (mAsg (mVar 5) (mgName 3))))))
    (mRet (mVar 2)))
noncomputable def m_l_compare : MF := callD 2 6 (mSeq (mIf (mTst (m2 eqM (mVar 0) (mVar 1))) (mRet (mC (PV.int 0))) mNx)
    (mSeq (mAsg (mApp 4 m_l_floor (mCons (mVar 0) (mCons (mC (PV.int 1)) (mCons (mNeg (mC (PV.int 2000))) (mCons (mC (PV.int 2000)) mNil))))) (mgName 2))
    (mSeq (mAsg (mApp 4 m_l_floor (mCons (mVar 1) (mCons (mC (PV.int 1)) (mCons (mNeg (mC (PV.int 2000))) (mCons (mC (PV.int 2000)) mNil))))) (mgName 3))
    (mSeq (mAsg (mC (PV.int 1)) (mgName 4))
    (mSeq (mFor (mItA rng1 (mCons (mC (PV.int 120)) mNil)) (mgName 5) (mSeq (mIf (mTst (m2 neM (mVar 2) (mVar 3))) mBk mNx)
    (mSeq (mAsg (m2 mulM (mVar 4) (mC (PV.int 2))) (mgName 4))
    (mSeq (mAsg (mApp 4 m_l_floor (mCons (mVar 0) (mCons (mVar 4) (mCons (m2 mulM (mC (PV.int 2)) (mVar 2)) (mCons (m2 addM (m2 mulM (mC (PV.int 2)) (mVar 2)) (mC (PV.int 2))) mNil))))) (mgName 2))
    (mAsg (mApp 4 m_l_floor (mCons (mVar 1) (mCons (mVar 4) (mCons (m2 mulM (mC (PV.int 2)) (mVar 3)) (mCons (m2 addM (m2 mulM (mC (PV.int 2)) (mVar 3)) (mC (PV.int 2))) mNil))))) (mgName 3))))))
    (mRet (m2 subM (mCall intM (mCons (m2 gtM (mVar 2) (mVar 3)) mNil)) (mCall intM (mCons (m2 ltM (mVar 2) (mVar 3)) mNil)))))))))
noncomputable def m_plus : MF := callD 2 6 (mSeq (mAsg (mCall gcdM (mCons (m2 ixM (mVar 0) (mC (PV.int 1))) (mCons (m2 ixM (mVar 1) (mC (PV.int 1))) mNil))) (mgName 2))
    (mSeq (mAsg (m2 fdivM (m2 ixM (mVar 0) (mC (PV.int 1))) (mVar 2)) (mgName 3))
    (mSeq (mAsg (m2 addM (m2 mulM (m2 ixM (mVar 0) (mC (PV.int 0))) (m2 fdivM (m2 ixM (mVar 1) (mC (PV.int 1))) (mVar 2))) (m2 mulM (m2 ixM (mVar 1) (mC (PV.int 0))) (mVar 3))) (mgName 4))
    (mSeq (mAsg (mCall gcdM (mCons (mVar 4) (mCons (mVar 2) mNil))) (mgName 5))
    (mRet (mTup (mCons (m2 fdivM (mVar 4) (mVar 5)) (mCons (m2 mulM (mVar 3) (m2 fdivM (m2 ixM (mVar 1) (mC (PV.int 1))) (mVar 5))) mNil))))))))
noncomputable def m_opposite : MF := callD 1 1 (mRet (mTup (mCons (mNeg (m2 ixM (mVar 0) (mC (PV.int 0)))) (mCons (m2 ixM (mVar 0) (mC (PV.int 1))) mNil))))
noncomputable def m_minus : MF := callD 2 2 (mRet (mApp 2 m_plus (mCons (mVar 0) (mCons (mApp 1 m_opposite (mCons (mVar 1) mNil)) mNil))))
noncomputable def m_is_whole : MF := callD 1 1 (mRet (mAndV (mIsi "int" (mVar 0)) (mNotV (mIsi "bool" (mVar 0)))))
noncomputable def m_is_index : MF := callD 2 2 (mRet (mAndV (mApp 1 m_is_whole (mCons (mVar 0) mNil)) (mCh leM ltM (mC (PV.int 0)) (mVar 0) (mVar 1))))
noncomputable def m_is_rational : MF := callD 1 3 (mSeq (mIf (mOrT (mNotT (mTru (mIsi "tuple" (mVar 0)))) (mTst (m2 neM (mCall lenM (mCons (mVar 0) mNil)) (mC (PV.int 2))))) (mRet (mC (PV.bl false))) mNx)
    (mSeq (mAsg (mVar 0) (mgTup 2 (mgCons (mgName 1) (mgCons (mgName 2) mgNil))))
    (mRet (mAndV (mApp 1 m_is_whole (mCons (mVar 1) mNil)) (mAndV (mApp 1 m_is_whole (mCons (mVar 2) mNil)) (mAndV (m2 geM (mVar 2) (mC (PV.int 1))) (m2 eqM (mCall gcdM (mCons (mVar 1) (mCons (mVar 2) mNil))) (mC (PV.int 1)))))))))
noncomputable def m_square_root : MF := callD 1 2 (mSeq (mIf (mTst (m2 ltM (mVar 0) (mC (PV.int 0)))) (mRet (mC PV.non)) mNx)
    (mSeq (mAsg (mCall isqrtM (mCons (mVar 0) mNil)) (mgName 1))
    (mRet (mIfE (mTst (m2 eqM (m2 mulM (mVar 1) (mVar 1)) (mVar 0))) (mVar 1) (mC PV.non)))))
noncomputable def m_is_field : MF := callD 1 1 (mSeq (mIf (mNotT (mTru (mApp 1 m_is_whole (mCons (mVar 0) mNil)))) (mRet (mC (PV.bl false))) mNx)
    (mRet (mOrV (m2 eqM (mVar 0) (mC (PV.int 0))) (mAndV (m2 gtM (mVar 0) (mC (PV.int 0))) (mIsN false (mApp 1 m_square_root (mCons (mVar 0) mNil)))))))
noncomputable def m_discriminant : MF := callD 1 4 (mSeq (mAsg (mVar 0) (mgTup 3 (mgCons (mgName 1) (mgCons (mgName 2) (mgCons (mgName 3) mgNil)))))
    (mRet (m2 subM (m2 mulM (mVar 2) (mVar 2)) (m2 mulM (m2 mulM (mC (PV.int 4)) (mVar 3)) (mVar 1)))))
noncomputable def m_is_equation : MF := callD 1 6 (mSeq (mIf (mOrT (mNotT (mTru (mIsi "tuple" (mVar 0)))) (mTst (m2 neM (mCall lenM (mCons (mVar 0) mNil)) (mC (PV.int 3))))) (mRet (mC (PV.bl false))) mNx)
    (mSeq (mIf (mNotT (mTru (mAllWh (mVar 0)))) (mRet (mC (PV.bl false))) mNx)
    (mSeq (mAsg (mVar 0) (mgTup 3 (mgCons (mgName 2) (mgCons (mgName 3) (mgCons (mgName 4) mgNil)))))
    (mSeq (mIf (mOrT (mTst (m2 leM (mVar 4) (mC (PV.int 0)))) (mTst (m2 neM (mCall gcd3M (mCons (mVar 2) (mCons (mVar 3) (mCons (mVar 4) mNil)))) (mC (PV.int 1))))) (mRet (mC (PV.bl false))) mNx)
    (mSeq (mAsg (mApp 1 m_discriminant (mCons (mVar 0) mNil)) (mgName 5))
    (mRet (mAndV (m2 gtM (mVar 5) (mC (PV.int 0))) (mApp 1 m_is_field (mCons (mVar 5) mNil)))))))))
noncomputable def m_is_number : MF := callD 1 1 (mSeq (mIf (mOrT (mNotT (mTru (mIsi "tuple" (mVar 0)))) (mOrT (mTst (m2 eqM (mCall lenM (mCons (mVar 0) mNil)) (mC (PV.int 0)))) (mNotT (mTru (mIsi "str" (m2 ixM (mVar 0) (mC (PV.int 0)))))))) (mRet (mC (PV.bl false))) mNx)
    (mSeq (mIf (mTst (m2 eqM (m2 ixM (mVar 0) (mC (PV.int 0))) (mC (PV.str "rational")))) (mRet (mAndV (m2 eqM (mCall lenM (mCons (mVar 0) mNil)) (mC (PV.int 2))) (mApp 1 m_is_rational (mCons (m2 ixM (mVar 0) (mC (PV.int 1))) mNil)))) mNx)
    (mRet (mAndV (m2 eqM (m2 ixM (mVar 0) (mC (PV.int 0))) (mC (PV.str "root"))) (mAndV (m2 eqM (mCall lenM (mCons (mVar 0) mNil)) (mC (PV.int 3))) (mAndV (mApp 1 m_is_equation (mCons (m2 ixM (mVar 0) (mC (PV.int 1))) mNil)) (mApp 2 m_is_index (mCons (m2 ixM (mVar 0) (mC (PV.int 2))) (mCons (mC (PV.int 2)) mNil)))))))))
noncomputable def m_check_number : MF := callD 2 2 (mIf (mNotT (mTru (mApp 1 m_is_number (mCons (mVar 0) mNil)))) (mRaise "BadValue" ["name"] (mCons (mVar 1) mNil)) mNx)
noncomputable def m_ratio : MF := callD 2 3 (mSeq (mIf (mTst (m2 eqM (mVar 1) (mC (PV.int 0)))) (mRaise "BadValue" ["name"] (mCons (mC (PV.str "d")) mNil)) mNx)
    (mSeq (mAsg (mCall gcdM (mCons (mVar 0) (mCons (mVar 1) mNil))) (mgName 2))
    (mSeq (mIf (mTst (m2 ltM (mVar 1) (mC (PV.int 0)))) (mAsg (mNeg (mVar 2)) (mgName 2)) mNx)
    (mRet (mTup (mCons (m2 fdivM (mVar 0) (mVar 2)) (mCons (m2 fdivM (mVar 1) (mVar 2)) mNil)))))))
noncomputable def m_element_of : MF := callD 1 5 (mSeq (mExp (mApp 2 m_check_number (mCons (mVar 0) (mCons (mC (PV.str "number")) mNil))))
    (mSeq (mIf (mTst (m2 eqM (m2 ixM (mVar 0) (mC (PV.int 0))) (mC (PV.str "rational")))) (mRet (mTup (mCons (mC (PV.int 0)) (mCons (mTup (mCons (m2 ixM (mVar 0) (mC (PV.int 1))) (mCons (mC c_ZERO) mNil))) mNil)))) mNx)
    (mSeq (mAsg (m2 ixM (mVar 0) (mC (PV.int 1))) (mgTup 3 (mgCons (mgName 1) (mgCons (mgName 2) (mgCons (mgName 3) mgNil)))))
    (mSeq (mAsg (mIfE (mTst (m2 eqM (m2 ixM (mVar 0) (mC (PV.int 2))) (mC (PV.int 1)))) (mC (PV.int 1)) (mNeg (mC (PV.int 1)))) (mgName 4))
    (mRet (mTup (mCons (mApp 1 m_discriminant (mCons (m2 ixM (mVar 0) (mC (PV.int 1))) mNil)) (mCons (mTup (mCons (mApp 2 m_ratio (mCons (mNeg (mVar 2)) (mCons (m2 mulM (mC (PV.int 2)) (mVar 3)) mNil))) (mCons (mApp 2 m_ratio (mCons (mVar 4) (mCons (m2 mulM (mC (PV.int 2)) (mVar 3)) mNil))) mNil))) mNil))))))))
noncomputable def m_times : MF := callD 2 4 (mSeq (mAsg (mCall gcdM (mCons (m2 ixM (mVar 0) (mC (PV.int 0))) (mCons (m2 ixM (mVar 1) (mC (PV.int 1))) mNil))) (mgName 2))
    (mSeq (mAsg (mCall gcdM (mCons (m2 ixM (mVar 1) (mC (PV.int 0))) (mCons (m2 ixM (mVar 0) (mC (PV.int 1))) mNil))) (mgName 3))
    (mRet (mTup (mCons (m2 mulM (m2 fdivM (m2 ixM (mVar 0) (mC (PV.int 0))) (mVar 2)) (m2 fdivM (m2 ixM (mVar 1) (mC (PV.int 0))) (mVar 3))) (mCons (m2 mulM (m2 fdivM (m2 ixM (mVar 0) (mC (PV.int 1))) (mVar 3)) (m2 fdivM (m2 ixM (mVar 1) (mC (PV.int 1))) (mVar 2))) mNil))))))
noncomputable def m_whole_sign : MF := callD 1 1 (mSeq (mIf (mTst (m2 eqM (mVar 0) (mC (PV.int 0)))) (mRet (mC (PV.int 0))) mNx)
    (mRet (mIfE (mTst (m2 gtM (mVar 0) (mC (PV.int 0)))) (mC (PV.int 1)) (mNeg (mC (PV.int 1))))))
noncomputable def m_rational_sign : MF := callD 1 1 (mRet (mApp 1 m_whole_sign (mCons (m2 ixM (mVar 0) (mC (PV.int 0))) mNil)))
noncomputable def m_multiply : MF := callD 3 5 (mSeq (mIf (mTst (m2 eqM (m2 ixM (mVar 2) (mC (PV.int 1))) (mC c_ZERO))) (mRet (mTup (mCons (mApp 2 m_times (mCons (m2 ixM (mVar 1) (mC (PV.int 0))) (mCons (m2 ixM (mVar 2) (mC (PV.int 0))) mNil))) (mCons (mApp 2 m_times (mCons (m2 ixM (mVar 1) (mC (PV.int 1))) (mCons (m2 ixM (mVar 2) (mC (PV.int 0))) mNil))) mNil)))) mNx)
    (mSeq (mAsg (mApp 2 m_times (mCons (m2 ixM (mVar 1) (mC (PV.int 0))) (mCons (m2 ixM (mVar 2) (mC (PV.int 0))) mNil))) (mgName 3))
    (mSeq (mAsg (mApp 2 m_times (mCons (mTup (mCons (mVar 0) (mCons (mC (PV.int 1)) mNil))) (mCons (mApp 2 m_times (mCons (m2 ixM (mVar 1) (mC (PV.int 1))) (mCons (m2 ixM (mVar 2) (mC (PV.int 1))) mNil))) mNil))) (mgName 4))
    (mRet (mTup (mCons (mApp 2 m_plus (mCons (mVar 3) (mCons (mVar 4) mNil))) (mCons (mApp 2 m_plus (mCons (mApp 2 m_times (mCons (m2 ixM (mVar 1) (mC (PV.int 0))) (mCons (m2 ixM (mVar 2) (mC (PV.int 1))) mNil))) (mCons (mApp 2 m_times (mCons (m2 ixM (mVar 1) (mC (PV.int 1))) (mCons (m2 ixM (mVar 2) (mC (PV.int 0))) mNil))) mNil))) mNil)))))))
noncomputable def m_loosened : MF := callD 1 6 (mSeq (mAsg (mVar 0) (mgTup 2 (mgCons (mgTup 2 (mgCons (mgName 1) (mgCons (mgName 2) mgNil))) (mgCons (mgTup 2 (mgCons (mgName 3) (mgCons (mgName 4) mgNil))) mgNil))))
    (mSeq (mIf (mTst (m2 eqM (mVar 2) (mVar 4))) (mRet (mTup (mCons (mVar 1) (mCons (mVar 3) (mCons (mVar 2) mNil))))) mNx)
    (mSeq (mAsg (mCall lcmM (mCons (mVar 2) (mCons (mVar 4) mNil))) (mgName 5))
    (mRet (mTup (mCons (m2 mulM (mVar 1) (m2 fdivM (mVar 5) (mVar 2))) (mCons (m2 mulM (mVar 3) (m2 fdivM (mVar 5) (mVar 4))) (mCons (mVar 5) mNil))))))))
noncomputable def m_loose_sign : MF := callD 2 4 (mSeq (mAsg (mApp 1 m_whole_sign (mCons (m2 ixM (mVar 1) (mC (PV.int 0))) mNil)) (mgName 2))
    (mSeq (mAsg (mApp 1 m_whole_sign (mCons (m2 ixM (mVar 1) (mC (PV.int 1))) mNil)) (mgName 3))
    (mSeq (mIf (mOrT (mTst (m2 eqM (mVar 3) (mC (PV.int 0)))) (mTst (m2 eqM (mVar 2) (mVar 3)))) (mRet (mVar 2)) mNx)
    (mSeq (mIf (mTst (m2 eqM (mVar 2) (mC (PV.int 0)))) (mRet (mVar 3)) mNx)
    (mRet (m2 mulM (mVar 2) (mApp 1 m_whole_sign (mCons (m2 subM (m2 mulM (m2 ixM (mVar 1) (mC (PV.int 0))) (m2 ixM (mVar 1) (mC (PV.int 0)))) (m2 mulM (m2 mulM (mVar 0) (m2 ixM (mVar 1) (mC (PV.int 1)))) (m2 ixM (mVar 1) (mC (PV.int 1))))) mNil))))))))
noncomputable def m_sign_of : MF := callD 2 2 (mRet (mApp 2 m_loose_sign (mCons (mVar 0) (mCons (mApp 1 m_loosened (mCons (mVar 1) mNil)) mNil))))
noncomputable def m_compare_with_root : MF := callD 4 8 (mSeq (mAsg (mApp 2 m_sign_of (mCons (mVar 0) (mCons (mVar 1) mNil))) (mgName 4))
    (mSeq (mAsg (mApp 1 m_rational_sign (mCons (mVar 3) mNil)) (mgName 5))
    (mSeq (mIf (mTst (m2 neM (mVar 4) (mVar 5))) (mRet (mIfE (mTst (m2 gtM (mVar 4) (mVar 5))) (mC (PV.int 1)) (mNeg (mC (PV.int 1))))) mNx)
    (mSeq (mAsg (mApp 3 m_multiply (mCons (mVar 0) (mCons (mVar 1) (mCons (mVar 1) mNil)))) (mgName 6))
    (mSeq (mAsg (mApp 2 m_times (mCons (mTup (mCons (mVar 2) (mCons (mC (PV.int 1)) mNil))) (mCons (mApp 2 m_times (mCons (mVar 3) (mCons (mVar 3) mNil))) mNil))) (mgName 7))
    (mRet (m2 mulM (mVar 4) (mApp 2 m_sign_of (mCons (mVar 0) (mCons (mTup (mCons (mApp 2 m_minus (mCons (m2 ixM (mVar 6) (mC (PV.int 0))) (mCons (mVar 7) mNil))) (mCons (m2 ixM (mVar 6) (mC (PV.int 1))) mNil))) mNil))))))))))
noncomputable def m_compare_numbers : MF := callD 2 7 (mSeq (mExp (mApp 2 m_check_number (mCons (mVar 0) (mCons (mC (PV.str "first")) mNil))))
    (mSeq (mExp (mApp 2 m_check_number (mCons (mVar 1) (mCons (mC (PV.str "second")) mNil))))
    (mSeq (mAsg (mApp 1 m_element_of (mCons (mVar 0) mNil)) (mgTup 2 (mgCons (mgName 2) (mgCons (mgName 3) mgNil))))
    (mSeq (mAsg (mApp 1 m_element_of (mCons (mVar 1) mNil)) (mgTup 2 (mgCons (mgName 4) (mgCons (mgName 5) mgNil))))
    (mSeq (mAsg (mTup (mCons (mApp 2 m_minus (mCons (m2 ixM (mVar 3) (mC (PV.int 0))) (mCons (m2 ixM (mVar 5) (mC (PV.int 0))) mNil))) (mCons (m2 ixM (mVar 3) (mC (PV.int 1))) mNil))) (mgName 6))
    (mRet (mApp 4 m_compare_with_root (mCons (mVar 2) (mCons (mVar 6) (mCons (mVar 4) (mCons (m2 ixM (mVar 5) (mC (PV.int 1))) mNil)))))))))))
noncomputable def m_l_told : MF := callD 2 3 (mTryAs 2 (isX "BadValue") (mRet (mApp 2 m_compare_numbers (mCons (mVar 0) (mCons (mVar 1) mNil)))) (fun c0 fs => (mRet (mXf c0 fs 2 "BadValue" "name"))))
noncomputable def m_l_near : MF := callD 2 5 (mSeq (mAsg (mApp 2 m_l_next (mCons (mVar 0) (mCons (mC (PV.int 3)) mNil))) (mgName 2))
    (mSeq (mIf (mTst (m2 eqM (mVar 2) (mC (PV.int 0)))) (mRet (mVar 1)) mNx)
    (mSeq (mIf (mAndT (mTst (m2 eqM (mVar 2) (mC (PV.int 1)))) (mTst (m2 eqM (m2 ixM (mVar 1) (mC (PV.int 0))) (mC (PV.str "root"))))) (mRet (mTup (mCons (mC (PV.str "root")) (mCons (m2 ixM (mVar 1) (mC (PV.int 1))) (mCons (m2 subM (mC (PV.int 1)) (m2 ixM (mVar 1) (mC (PV.int 2)))) mNil))))) mNx)
    (mSeq (mAsg (m2 addM (mC (PV.int 1)) (mApp 2 m_l_next (mCons (mVar 0) (mCons (mC (PV.int 9999)) mNil)))) (mgName 3))
    (mSeq (mAsg (m2 addM (mApp 4 m_l_floor (mCons (mVar 1) (mCons (mVar 3) (mCons (m2 mulM (mNeg (mC (PV.int 2000))) (mVar 3)) (mCons (m2 mulM (mC (PV.int 2000)) (mVar 3)) mNil))))) (mApp 2 m_l_next (mCons (mVar 0) (mCons (mC (PV.int 2)) mNil)))) (mgName 4))
    (mRet (mTup (mCons (mC (PV.str "rational")) (mCons (mApp 2 m_l_low (mCons (mVar 4) (mCons (mVar 3) mNil))) mNil)))))))))
noncomputable def m_law : MF := callD 1 6 (mSeq (mAsg (mApp 1 m_l_stream (mCons (mVar 0) mNil)) (mgName 1))
    (mSeq (mAsg (mApp 1 m_l_number (mCons (mVar 1) mNil)) (mgName 2))
    (mSeq (mAsg (mApp 1 m_l_number (mCons (mVar 1) mNil)) (mgName 3))
    (mSeq (mIf (mTst (m2 eqM (mApp 2 m_l_next (mCons (mVar 1) (mCons (mC (PV.int 3)) mNil))) (mC (PV.int 1)))) (mAsg (mApp 2 m_l_near (mCons (mVar 1) (mCons (mVar 2) mNil))) (mgName 3)) mNx)
    (mSeq (mAsg (mApp 2 m_l_compare (mCons (mVar 2) (mCons (mVar 3) mNil))) (mgName 4))
    (mSeq (mIf (mNotT (mTru (mApp 2 (m_l_equal 6) (mCons (mLst (mCons (mApp 2 m_l_told (mCons (mVar 2) (mCons (mVar 3) mNil))) (mCons (mApp 2 m_l_told (mCons (mVar 3) (mCons (mVar 2) mNil))) mNil))) (mCons (mLst (mCons (mVar 4) (mCons (m2 subM (mC (PV.int 0)) (mVar 4)) mNil))) mNil))))) (mRet (mC (PV.bl false))) mNx)
    (mSeq (mAsg (m2 ixM (mLst (mCons (mCall listM (mCons (mVar 2) mNil)) (mCons (mC PV.non) (mCons (mTup (mCons (mC (PV.str "rational")) (mCons (mTup (mCons (mC (PV.int 2)) (mCons (mC (PV.int 2)) mNil))) mNil))) (mCons (mC (PV.int 0)) mNil))))) (mApp 2 m_l_next (mCons (mVar 1) (mCons (mC (PV.int 4)) mNil)))) (mgName 5))
    (mRet (mAndV (m2 eqM (mApp 2 m_l_told (mCons (mVar 5) (mCons (mVar 5) mNil))) (mC (PV.str "first"))) (m2 eqM (mApp 2 m_l_told (mCons (mVar 2) (mCons (mVar 5) mNil))) (mC (PV.str "second"))))))))))))
theorem nx1 {S : Sto} {s l : Nat} {ns : List Int} {c k m : Int} (hs : S[s]? = some (.lst [.cell l, .int c, .int k])) (hl : S[l]? = some (.lst (ns.map PV.int))) (hk : 0 ≤ k) (hm : 0 < m) (hb : m.natAbs.log2 < 9000) (hc : c ≠ 0) :
    ∃ d c' k', 0 ≤ d ∧ d < m ∧ 0 ≤ k' ∧ m_l_next [.cell s, .int m] S = .ok (.int d) (S.set s (.lst [.cell l, .int c', .int k'])) := by
  have hlt : s < S.length := (List.getElem?_eq_some_iff.mp hs).1
  have nsl : s ≠ l := by
    rintro rfl
    rw [hs] at hl
    cases ns with
    | nil => simp at hl
    | cons n r => simp at hl
  have gs : ∀ o, (S.set s o)[s]? = some o := fun o => List.getElem?_set_self hlt
  have gl : ∀ o, (S.set s o)[l]? = S[l]? := fun o => List.getElem?_set_ne nsl
  have fin : ∀ i : Int, 0 ≤ i % m ∧ i % m < m := fun i => ⟨Int.emod_nonneg _ (by omega), Int.emod_lt_of_pos _ hm⟩
  have m1 : ∀ i : Int, mulOk i 48271 = true := fun i => mulOk_r (by decide)
  have m2 : ∀ i : Int, mulOk i 69621 = true := fun i => mulOk_r (by decide)
  have m3 : ∀ i : Int, mulOk i 16807 = true := fun i => mulOk_r (by decide)
  have m4 : ∀ i : Int, mulOk i 65537 = true := fun i => mulOk_r (by decide)
  obtain ⟨g, hg, p1⟩ : ∃ g : Int, g = 1000000000000000000 ∧ ∀ T, powM (.int 10) (.int 18) T = .ok (.int g) T := ⟨1000000000000000000, rfl, fun T => by simp [powM]⟩
  obtain ⟨f, d1⟩ : ∃ f : Int → Int, ∀ (i : Int) T, modM (.int i) (.int 2147483647) T = .ok (.int (f i)) T := ⟨fun i => i % 2147483647, fun i T => mod_ev (by decide)⟩
  unfold m_l_next
  simp -implicitDefEqProofs [callD_ev, mSeq_ev, mIf_ev, mRet_ev, mExp_ev, mAsgN_ev, mAsg_ev, mPar_ev, mPar3_ev, mSetL_ev, mNx_ev, mBk_ev, mCt_ev, mRetN_ev, mRaise_ev, m2_ev, mC_ev, mVar, mTst_ev, mTru_ev, mCh_ev, mIsN_ev, mAndT_ev, mOrT_ev, mNotT_ev, mAndV_ev, mOrV_ev, mNotV_ev, mIfE_ev, mNeg_ev, mNil_ev, mCons_ev, mTup_ev, mLst_ev, mCall_ev, mIsi_ev, mApp_ev, mAllWh_ev, mSl_ev, mNoP_ev, mPart_ev, mFor_ev, mItA_ev, mItE_ev, mLc_ev, mYes_ev, add_ev, sub_ev, lt_ev, le_ev, gt_ev, ge_ev, eqi_ev, eqs_ev, eqb_ev, eqn_ev, nei_ev, nes_ev, lenT_ev, abs_ev, int_ev, intb_ev, ixM, atP, ixN, setl, setLO, bindG, mgName, mgTup, mgCons, mgNil, hs, hc, mod_ev hm, div_ev hm hb, gs]
  exact ⟨_, (fin _).1, (fin _).2, _, _, hk, rfl, rfl⟩
theorem nx2 {S : Sto} {s l : Nat} {ns : List Int} {c k m : Int} (hs : S[s]? = some (.lst [.cell l, .int c, .int k])) (hl : S[l]? = some (.lst (ns.map PV.int))) (hk : 0 ≤ k) (hm : 0 < m) (hb : m.natAbs.log2 < 9000) (hc : c = 0) (j : Nat) (ej : k = j) (hj : j < ns.length) (h18 : (ns[j].natAbs : Int) < 1000000000000000000) :
    ∃ d c' k', 0 ≤ d ∧ d < m ∧ 0 ≤ k' ∧ m_l_next [.cell s, .int m] S = .ok (.int d) (S.set s (.lst [.cell l, .int c', .int k'])) := by
  have hlt : s < S.length := (List.getElem?_eq_some_iff.mp hs).1
  have nsl : s ≠ l := by
    rintro rfl
    rw [hs] at hl
    cases ns with
    | nil => simp at hl
    | cons n r => simp at hl
  have gs : ∀ o, (S.set s o)[s]? = some o := fun o => List.getElem?_set_self hlt
  have gl : ∀ o, (S.set s o)[l]? = S[l]? := fun o => List.getElem?_set_ne nsl
  have fin : ∀ i : Int, 0 ≤ i % m ∧ i % m < m := fun i => ⟨Int.emod_nonneg _ (by omega), Int.emod_lt_of_pos _ hm⟩
  have m1 : ∀ i : Int, mulOk i 48271 = true := fun i => mulOk_r (by decide)
  have m2 : ∀ i : Int, mulOk i 69621 = true := fun i => mulOk_r (by decide)
  have m3 : ∀ i : Int, mulOk i 16807 = true := fun i => mulOk_r (by decide)
  have m4 : ∀ i : Int, mulOk i 65537 = true := fun i => mulOk_r (by decide)
  obtain ⟨g, hg, p1⟩ : ∃ g : Int, g = 1000000000000000000 ∧ ∀ T, powM (.int 10) (.int 18) T = .ok (.int g) T := ⟨1000000000000000000, rfl, fun T => by simp [powM]⟩
  rw [← hg] at h18
  obtain ⟨f, d1⟩ : ∃ f : Int → Int, ∀ (i : Int) T, modM (.int i) (.int 2147483647) T = .ok (.int (f i)) T := ⟨fun i => i % 2147483647, fun i T => mod_ev (by decide)⟩
  unfold m_l_next
  subst hc ej
  have hx : (ns.map PV.int)[j]? = some (.int ns[j]) := by simp [hj]
  simp -implicitDefEqProofs [callD_ev, mSeq_ev, mIf_ev, mRet_ev, mExp_ev, mAsgN_ev, mAsg_ev, mPar_ev, mPar3_ev, mSetL_ev, mNx_ev, mBk_ev, mCt_ev, mRetN_ev, mRaise_ev, m2_ev, mC_ev, mVar, mTst_ev, mTru_ev, mCh_ev, mIsN_ev, mAndT_ev, mOrT_ev, mNotT_ev, mAndV_ev, mOrV_ev, mNotV_ev, mIfE_ev, mNeg_ev, mNil_ev, mCons_ev, mTup_ev, mLst_ev, mCall_ev, mIsi_ev, mApp_ev, mAllWh_ev, mSl_ev, mNoP_ev, mPart_ev, mFor_ev, mItA_ev, mItE_ev, mLc_ev, mYes_ev, add_ev, sub_ev, lt_ev, le_ev, gt_ev, ge_ev, eqi_ev, eqs_ev, eqb_ev, eqn_ev, nei_ev, nes_ev, lenT_ev, abs_ev, int_ev, intb_ev, ixM, atP, ixN, setl, setLO, bindG, mgName, mgTup, mgCons, mgNil, hs, hl, lenM, hj, mulM, m1, m2, m3, m4, p1, d1, h18, gs, gl, mod_ev hm, div_ev hm hb]
  exact ⟨_, (fin _).1, (fin _).2, _, _, by omega, rfl, rfl⟩
theorem nx3 {S : Sto} {s l : Nat} {ns : List Int} {c k m : Int} (hs : S[s]? = some (.lst [.cell l, .int c, .int k])) (hl : S[l]? = some (.lst (ns.map PV.int))) (hk : 0 ≤ k) (hm : 0 < m) (hb : m.natAbs.log2 < 9000) (hc : c = 0) (j : Nat) (ej : k = j) (hj : j < ns.length) (h18 : ¬ (ns[j].natAbs : Int) < 1000000000000000000) :
    ∃ d c' k', 0 ≤ d ∧ d < m ∧ 0 ≤ k' ∧ m_l_next [.cell s, .int m] S = .ok (.int d) (S.set s (.lst [.cell l, .int c', .int k'])) := by
  have hlt : s < S.length := (List.getElem?_eq_some_iff.mp hs).1
  have nsl : s ≠ l := by
    rintro rfl
    rw [hs] at hl
    cases ns with
    | nil => simp at hl
    | cons n r => simp at hl
  have gs : ∀ o, (S.set s o)[s]? = some o := fun o => List.getElem?_set_self hlt
  have gl : ∀ o, (S.set s o)[l]? = S[l]? := fun o => List.getElem?_set_ne nsl
  have fin : ∀ i : Int, 0 ≤ i % m ∧ i % m < m := fun i => ⟨Int.emod_nonneg _ (by omega), Int.emod_lt_of_pos _ hm⟩
  have m1 : ∀ i : Int, mulOk i 48271 = true := fun i => mulOk_r (by decide)
  have m2 : ∀ i : Int, mulOk i 69621 = true := fun i => mulOk_r (by decide)
  have m3 : ∀ i : Int, mulOk i 16807 = true := fun i => mulOk_r (by decide)
  have m4 : ∀ i : Int, mulOk i 65537 = true := fun i => mulOk_r (by decide)
  obtain ⟨g, hg, p1⟩ : ∃ g : Int, g = 1000000000000000000 ∧ ∀ T, powM (.int 10) (.int 18) T = .ok (.int g) T := ⟨1000000000000000000, rfl, fun T => by simp [powM]⟩
  rw [← hg] at h18
  obtain ⟨f, d1⟩ : ∃ f : Int → Int, ∀ (i : Int) T, modM (.int i) (.int 2147483647) T = .ok (.int (f i)) T := ⟨fun i => i % 2147483647, fun i T => mod_ev (by decide)⟩
  unfold m_l_next
  subst hc ej
  have hx : (ns.map PV.int)[j]? = some (.int ns[j]) := by simp [hj]
  simp -implicitDefEqProofs [callD_ev, mSeq_ev, mIf_ev, mRet_ev, mExp_ev, mAsgN_ev, mAsg_ev, mPar_ev, mPar3_ev, mSetL_ev, mNx_ev, mBk_ev, mCt_ev, mRetN_ev, mRaise_ev, m2_ev, mC_ev, mVar, mTst_ev, mTru_ev, mCh_ev, mIsN_ev, mAndT_ev, mOrT_ev, mNotT_ev, mAndV_ev, mOrV_ev, mNotV_ev, mIfE_ev, mNeg_ev, mNil_ev, mCons_ev, mTup_ev, mLst_ev, mCall_ev, mIsi_ev, mApp_ev, mAllWh_ev, mSl_ev, mNoP_ev, mPart_ev, mFor_ev, mItA_ev, mItE_ev, mLc_ev, mYes_ev, add_ev, sub_ev, lt_ev, le_ev, gt_ev, ge_ev, eqi_ev, eqs_ev, eqb_ev, eqn_ev, nei_ev, nes_ev, lenT_ev, abs_ev, int_ev, intb_ev, ixM, atP, ixN, setl, setLO, bindG, mgName, mgTup, mgCons, mgNil, hs, hl, lenM, hj, mulM, m1, m2, m3, m4, p1, d1, h18, gs, gl, mod_ev hm, div_ev hm hb]
  exact ⟨_, (fin _).1, (fin _).2, _, _, by omega, rfl, rfl⟩
theorem nx4 {S : Sto} {s l : Nat} {ns : List Int} {c k m : Int} (hs : S[s]? = some (.lst [.cell l, .int c, .int k])) (hl : S[l]? = some (.lst (ns.map PV.int))) (hk : 0 ≤ k) (hm : 0 < m) (hb : m.natAbs.log2 < 9000) (hc : c = 0) (j : Nat) (ej : k = j) (hj : ¬ j < ns.length) (h18 : (7 + (j : Int)) < 1000000000000000000) :
    ∃ d c' k', 0 ≤ d ∧ d < m ∧ 0 ≤ k' ∧ m_l_next [.cell s, .int m] S = .ok (.int d) (S.set s (.lst [.cell l, .int c', .int k'])) := by
  have hlt : s < S.length := (List.getElem?_eq_some_iff.mp hs).1
  have nsl : s ≠ l := by
    rintro rfl
    rw [hs] at hl
    cases ns with
    | nil => simp at hl
    | cons n r => simp at hl
  have gs : ∀ o, (S.set s o)[s]? = some o := fun o => List.getElem?_set_self hlt
  have gl : ∀ o, (S.set s o)[l]? = S[l]? := fun o => List.getElem?_set_ne nsl
  have fin : ∀ i : Int, 0 ≤ i % m ∧ i % m < m := fun i => ⟨Int.emod_nonneg _ (by omega), Int.emod_lt_of_pos _ hm⟩
  have m1 : ∀ i : Int, mulOk i 48271 = true := fun i => mulOk_r (by decide)
  have m2 : ∀ i : Int, mulOk i 69621 = true := fun i => mulOk_r (by decide)
  have m3 : ∀ i : Int, mulOk i 16807 = true := fun i => mulOk_r (by decide)
  have m4 : ∀ i : Int, mulOk i 65537 = true := fun i => mulOk_r (by decide)
  obtain ⟨g, hg, p1⟩ : ∃ g : Int, g = 1000000000000000000 ∧ ∀ T, powM (.int 10) (.int 18) T = .ok (.int g) T := ⟨1000000000000000000, rfl, fun T => by simp [powM]⟩
  rw [← hg] at h18
  obtain ⟨f, d1⟩ : ∃ f : Int → Int, ∀ (i : Int) T, modM (.int i) (.int 2147483647) T = .ok (.int (f i)) T := ⟨fun i => i % 2147483647, fun i T => mod_ev (by decide)⟩
  unfold m_l_next
  subst hc ej
  simp -implicitDefEqProofs [callD_ev, mSeq_ev, mIf_ev, mRet_ev, mExp_ev, mAsgN_ev, mAsg_ev, mPar_ev, mPar3_ev, mSetL_ev, mNx_ev, mBk_ev, mCt_ev, mRetN_ev, mRaise_ev, m2_ev, mC_ev, mVar, mTst_ev, mTru_ev, mCh_ev, mIsN_ev, mAndT_ev, mOrT_ev, mNotT_ev, mAndV_ev, mOrV_ev, mNotV_ev, mIfE_ev, mNeg_ev, mNil_ev, mCons_ev, mTup_ev, mLst_ev, mCall_ev, mIsi_ev, mApp_ev, mAllWh_ev, mSl_ev, mNoP_ev, mPart_ev, mFor_ev, mItA_ev, mItE_ev, mLc_ev, mYes_ev, add_ev, sub_ev, lt_ev, le_ev, gt_ev, ge_ev, eqi_ev, eqs_ev, eqb_ev, eqn_ev, nei_ev, nes_ev, lenT_ev, abs_ev, int_ev, intb_ev, ixM, atP, ixN, setl, setLO, bindG, mgName, mgTup, mgCons, mgNil, hs, hl, lenM, hj, mulM, m1, m2, m3, m4, p1, d1, h18, gs, gl, mod_ev hm, div_ev hm hb]
  exact ⟨_, (fin _).1, (fin _).2, _, _, by omega, rfl, rfl⟩
theorem nx5 {S : Sto} {s l : Nat} {ns : List Int} {c k m : Int} (hs : S[s]? = some (.lst [.cell l, .int c, .int k])) (hl : S[l]? = some (.lst (ns.map PV.int))) (hk : 0 ≤ k) (hm : 0 < m) (hb : m.natAbs.log2 < 9000) (hc : c = 0) (j : Nat) (ej : k = j) (hj : ¬ j < ns.length) (h18 : ¬ (7 + (j : Int)) < 1000000000000000000) :
    ∃ d c' k', 0 ≤ d ∧ d < m ∧ 0 ≤ k' ∧ m_l_next [.cell s, .int m] S = .ok (.int d) (S.set s (.lst [.cell l, .int c', .int k'])) := by
  have hlt : s < S.length := (List.getElem?_eq_some_iff.mp hs).1
  have nsl : s ≠ l := by
    rintro rfl
    rw [hs] at hl
    cases ns with
    | nil => simp at hl
    | cons n r => simp at hl
  have gs : ∀ o, (S.set s o)[s]? = some o := fun o => List.getElem?_set_self hlt
  have gl : ∀ o, (S.set s o)[l]? = S[l]? := fun o => List.getElem?_set_ne nsl
  have fin : ∀ i : Int, 0 ≤ i % m ∧ i % m < m := fun i => ⟨Int.emod_nonneg _ (by omega), Int.emod_lt_of_pos _ hm⟩
  have m1 : ∀ i : Int, mulOk i 48271 = true := fun i => mulOk_r (by decide)
  have m2 : ∀ i : Int, mulOk i 69621 = true := fun i => mulOk_r (by decide)
  have m3 : ∀ i : Int, mulOk i 16807 = true := fun i => mulOk_r (by decide)
  have m4 : ∀ i : Int, mulOk i 65537 = true := fun i => mulOk_r (by decide)
  obtain ⟨g, hg, p1⟩ : ∃ g : Int, g = 1000000000000000000 ∧ ∀ T, powM (.int 10) (.int 18) T = .ok (.int g) T := ⟨1000000000000000000, rfl, fun T => by simp [powM]⟩
  rw [← hg] at h18
  obtain ⟨f, d1⟩ : ∃ f : Int → Int, ∀ (i : Int) T, modM (.int i) (.int 2147483647) T = .ok (.int (f i)) T := ⟨fun i => i % 2147483647, fun i T => mod_ev (by decide)⟩
  unfold m_l_next
  subst hc ej
  simp -implicitDefEqProofs [callD_ev, mSeq_ev, mIf_ev, mRet_ev, mExp_ev, mAsgN_ev, mAsg_ev, mPar_ev, mPar3_ev, mSetL_ev, mNx_ev, mBk_ev, mCt_ev, mRetN_ev, mRaise_ev, m2_ev, mC_ev, mVar, mTst_ev, mTru_ev, mCh_ev, mIsN_ev, mAndT_ev, mOrT_ev, mNotT_ev, mAndV_ev, mOrV_ev, mNotV_ev, mIfE_ev, mNeg_ev, mNil_ev, mCons_ev, mTup_ev, mLst_ev, mCall_ev, mIsi_ev, mApp_ev, mAllWh_ev, mSl_ev, mNoP_ev, mPart_ev, mFor_ev, mItA_ev, mItE_ev, mLc_ev, mYes_ev, add_ev, sub_ev, lt_ev, le_ev, gt_ev, ge_ev, eqi_ev, eqs_ev, eqb_ev, eqn_ev, nei_ev, nes_ev, lenT_ev, abs_ev, int_ev, intb_ev, ixM, atP, ixN, setl, setLO, bindG, mgName, mgTup, mgCons, mgNil, hs, hl, lenM, hj, mulM, m1, m2, m3, m4, p1, d1, h18, gs, gl, mod_ev hm, div_ev hm hb]
  exact ⟨_, (fin _).1, (fin _).2, _, _, by omega, rfl, rfl⟩
theorem next_ev {S : Sto} {s l : Nat} {ns : List Int} {c k m : Int} (hs : S[s]? = some (.lst [.cell l, .int c, .int k])) (hl : S[l]? = some (.lst (ns.map PV.int))) (hk : 0 ≤ k) (hm : 0 < m) (hb : m.natAbs.log2 < 9000) :
    ∃ d c' k', 0 ≤ d ∧ d < m ∧ 0 ≤ k' ∧ m_l_next [.cell s, .int m] S = .ok (.int d) (S.set s (.lst [.cell l, .int c', .int k'])) := by
  by_cases hc : c = 0
  · obtain ⟨j, ej⟩ : ∃ j : Nat, k = (j : Int) := ⟨k.toNat, by omega⟩
    by_cases hj : j < ns.length
    · by_cases h18 : (ns[j].natAbs : Int) < 1000000000000000000
      · exact nx2 hs hl hk hm hb hc j ej hj h18
      · exact nx3 hs hl hk hm hb hc j ej hj h18
    · by_cases h18 : (7 + (j : Int)) < 1000000000000000000
      · exact nx4 hs hl hk hm hb hc j ej hj h18
      · exact nx5 hs hl hk hm hb hc j ej hj h18
  · exact nx1 hs hl hk hm hb hc

theorem stream_r {ns : List Int} {S : Sto} : m_l_stream [.rol (ns.map PV.int)] S = .ok (.cell (S.length + 1)) (gcS S.length [.cell (S.length + 1)] (S ++ [.lst (ns.map PV.int), .lst [.cell S.length, .int 0, .int 0]])) := by
  unfold m_l_stream
  simp -implicitDefEqProofs [callD_ev, mSeq_ev, mIf_ev, mRet_ev, mExp_ev, mAsgN_ev, mAsg_ev, mPar_ev, mPar3_ev, mSetL_ev, mNx_ev, mBk_ev, mCt_ev, mRetN_ev, mRaise_ev, m2_ev, mC_ev, mVar, mTst_ev, mTru_ev, mCh_ev, mIsN_ev, mAndT_ev, mOrT_ev, mNotT_ev, mAndV_ev, mOrV_ev, mNotV_ev, mIfE_ev, mNeg_ev, mNil_ev, mCons_ev, mTup_ev, mLst_ev, mCall_ev, mIsi_ev, mApp_ev, mAllWh_ev, mSl_ev, mNoP_ev, mPart_ev, mFor_ev, mItA_ev, mItE_ev, mLc_ev, mYes_ev, add_ev, sub_ev, lt_ev, le_ev, gt_ev, ge_ev, eqi_ev, eqs_ev, eqb_ev, eqn_ev, nei_ev, nes_ev, lenT_ev, abs_ev, int_ev, intb_ev, ixM, atP, ixN, setl, setLO, bindG, mgName, mgTup, mgCons, mgNil, listM]

/-- the stream of draws as a value -/
def sx (l : Nat) (c k : Int) : MO := .lst [.cell l, .int c, .int k]
structure St (S : Sto) (s l : Nat) (ns : List Int) (c k : Int) : Prop where
  s : S[s]? = some (sx l c k)
  l : S[l]? = some (.lst (ns.map PV.int))
  k : 0 ≤ k
theorem St.ne {S : Sto} {s l : Nat} {ns : List Int} {c k : Int} (h : St S s l ns c k) : s ≠ l := by
  rintro rfl
  have h1 := h.s
  rw [h.l] at h1
  cases ns with
  | nil => simp [sx] at h1
  | cons n r => simp [sx] at h1
theorem St.set {S : Sto} {s l : Nat} {ns : List Int} {c k c' k' : Int} (h : St S s l ns c k) (hk : 0 ≤ k') : St (S.set s (sx l c' k')) s l ns c' k' :=
  ⟨List.getElem?_set_self (List.getElem?_eq_some_iff.mp h.s).1, by rw [List.getElem?_set_ne h.ne]; exact h.l, hk⟩
theorem St.next {S : Sto} {s l : Nat} {ns : List Int} {c k m : Int} (h : St S s l ns c k) (hm : 0 < m) (hb : m.natAbs.log2 < 9000) :
    ∃ d c' k', 0 ≤ d ∧ d < m ∧ St (S.set s (sx l c' k')) s l ns c' k' ∧ m_l_next [.cell s, .int m] S = .ok (.int d) (S.set s (sx l c' k')) := by
  obtain ⟨d, c', k', a, b, e, q⟩ := next_ev (m := m) h.s h.l h.k hm hb
  exact ⟨d, c', k', a, b, h.set e, q⟩
theorem St.next2 {S : Sto} {s l : Nat} {ns : List Int} {c k c0 k0 m : Int} (h : St (S.set s (sx l c0 k0)) s l ns c k) (hm : 0 < m) (hb : m.natAbs.log2 < 9000) :
    ∃ d c' k', 0 ≤ d ∧ d < m ∧ St (S.set s (sx l c' k')) s l ns c' k' ∧ m_l_next [.cell s, .int m] (S.set s (sx l c0 k0)) = .ok (.int d) (S.set s (sx l c' k')) := by
  obtain ⟨d, c', k', a, b, e, q⟩ := h.next hm hb
  rw [List.set_set] at e q
  exact ⟨d, c', k', a, b, e, q⟩
theorem St.app {S : Sto} {s l : Nat} {ns : List Int} {c k : Int} (h : St S s l ns c k) (E : Sto) : St (S ++ E) s l ns c k :=
  ⟨by rw [List.getElem?_append_left (List.getElem?_eq_some_iff.mp h.s).1]; exact h.s, by rw [List.getElem?_append_left (List.getElem?_eq_some_iff.mp h.l).1]; exact h.l, h.k⟩

theorem gcd_go {B g : Nat} (hB : B ≤ 19000) {S : Sto} : ∀ (xs : List PV) (i a b : Nat) (v : Option PV), Odds.GcdI B g i a b → i + xs.length = 40000 →
    ∃ w, forGo [] (mgName 2) (mSeq (mIf (mTst (m2 eqM (mVar 1) (mC (PV.int 0)))) mBk mNx) (mPar 0 1 (mCons (mVar 1) (mCons (m2 modM (mCall intM (mCons (mVar 0) mNil)) (mVar 1)) mNil)))) xs [some (.int (a : Int)), some (.int (b : Int)), v] S = .nx (some (.int (g : Int)) :: w) S
  | [], i, a, b, v, G, h => by
    have : i = 40000 := by simpa using h
    subst this
    rw [Odds.gcdI_end G hB, go_nil]
    exact ⟨_, rfl⟩
  | x :: xs, i, a, b, v, G, h => by
    by_cases hb : b = 0
    · subst hb
      have e : a = g := by
        have := G.1
        rwa [Nat.gcd_zero_right] at this
      subst e
      simp -implicitDefEqProofs [callD_ev, mSeq_ev, mIf_ev, mRet_ev, mExp_ev, mAsgN_ev, mAsg_ev, mPar_ev, mPar3_ev, mSetL_ev, mNx_ev, mBk_ev, mCt_ev, mRetN_ev, mRaise_ev, m2_ev, mC_ev, mVar, mTst_ev, mTru_ev, mCh_ev, mIsN_ev, mAndT_ev, mOrT_ev, mNotT_ev, mAndV_ev, mOrV_ev, mNotV_ev, mIfE_ev, mNeg_ev, mNil_ev, mCons_ev, mTup_ev, mLst_ev, mCall_ev, mIsi_ev, mApp_ev, mAllWh_ev, mSl_ev, mNoP_ev, mPart_ev, mFor_ev, mItA_ev, mItE_ev, mLc_ev, mYes_ev, add_ev, sub_ev, lt_ev, le_ev, gt_ev, ge_ev, eqi_ev, eqs_ev, eqb_ev, eqn_ev, nei_ev, nes_ev, lenT_ev, abs_ev, int_ev, intb_ev, ixM, atP, ixN, setl, setLO, bindG, mgName, mgTup, mgCons, mgNil, go_consN]
    · have hb' : (0 : Int) < (b : Int) := by omega
      have ih := gcd_go hB (S := S) xs (i + 1) b (a % b) (some x) (Odds.gcdI_step G hb) (by simp at h; omega)
      obtain ⟨w, ih⟩ := ih
      refine ⟨w, ?_⟩
      rw [← ih]
      simp -implicitDefEqProofs [callD_ev, mSeq_ev, mIf_ev, mRet_ev, mExp_ev, mAsgN_ev, mAsg_ev, mPar_ev, mPar3_ev, mSetL_ev, mNx_ev, mBk_ev, mCt_ev, mRetN_ev, mRaise_ev, m2_ev, mC_ev, mVar, mTst_ev, mTru_ev, mCh_ev, mIsN_ev, mAndT_ev, mOrT_ev, mNotT_ev, mAndV_ev, mOrV_ev, mNotV_ev, mIfE_ev, mNeg_ev, mNil_ev, mCons_ev, mTup_ev, mLst_ev, mCall_ev, mIsi_ev, mApp_ev, mAllWh_ev, mSl_ev, mNoP_ev, mPart_ev, mFor_ev, mItA_ev, mItE_ev, mLc_ev, mYes_ev, add_ev, sub_ev, lt_ev, le_ev, gt_ev, ge_ev, eqi_ev, eqs_ev, eqb_ev, eqn_ev, nei_ev, nes_ev, lenT_ev, abs_ev, int_ev, intb_ev, ixM, atP, ixN, setl, setLO, bindG, mgName, mgTup, mgCons, mgNil, go_consN, hb, mod_ev hb']
theorem gcd_ev {S : Sto} {a b : Int} {B : Nat} (ha : a.natAbs < 2 ^ B) (hb : b.natAbs < 2 ^ B) (hB : B ≤ 19000 := by decide) : m_l_gcd [.int a, .int b] S = .ok (.int (Nat.gcd a.natAbs b.natAbs : Nat)) S := by
  obtain ⟨w, e⟩ := gcd_go (g := Nat.gcd a.natAbs b.natAbs) hB (S := S) (rngP 0 40000) 0 a.natAbs b.natAbs none ⟨rfl, .inl ⟨rfl, ha, hb⟩⟩ (by simp)
  unfold m_l_gcd
  simp -implicitDefEqProofs [callD_ev, mSeq_ev, mIf_ev, mRet_ev, mExp_ev, mAsgN_ev, mAsg_ev, mPar_ev, mPar3_ev, mSetL_ev, mNx_ev, mBk_ev, mCt_ev, mRetN_ev, mRaise_ev, m2_ev, mC_ev, mVar, mTst_ev, mTru_ev, mCh_ev, mIsN_ev, mAndT_ev, mOrT_ev, mNotT_ev, mAndV_ev, mOrV_ev, mNotV_ev, mIfE_ev, mNeg_ev, mNil_ev, mCons_ev, mTup_ev, mLst_ev, mCall_ev, mIsi_ev, mApp_ev, mAllWh_ev, mSl_ev, mNoP_ev, mPart_ev, mFor_ev, mItA_ev, mItE_ev, mLc_ev, mYes_ev, add_ev, sub_ev, lt_ev, le_ev, gt_ev, ge_ev, eqi_ev, eqs_ev, eqb_ev, eqn_ev, nei_ev, nes_ev, lenT_ev, abs_ev, int_ev, intb_ev, ixM, atP, ixN, setl, setLO, bindG, mgName, mgTup, mgCons, mgNil, rng1_ev, e]

open Odds in
theorem low_ev {S : Sto} {n d : Int} (hd : d ≠ 0) (hn : n.natAbs < 2 ^ 8000) (hb : d.natAbs < 2 ^ 8000) : m_l_low [.int n, .int d] S = .ok (.tup [.int (lo1 n d), .int (lo2 n d)]) S := by
  have g := fun S => gcd_ev (S := S) hn hb
  have ls : (sg n d).natAbs.log2 < 9000 := log_b (sg_size hd hb)
  have f1 := fun (x : Int) S => fdiv_ev (S := S) (i := x) (sg_ne (n := n) hd) ls
  unfold m_l_low
  by_cases hneg : d < 0
  · have hs : -((Nat.gcd n.natAbs d.natAbs : Nat) : Int) = sg n d := by unfold sg; rw [if_pos hneg]
    simp -implicitDefEqProofs [callD_ev, mSeq_ev, mIf_ev, mRet_ev, mExp_ev, mAsgN_ev, mAsg_ev, mPar_ev, mPar3_ev, mSetL_ev, mNx_ev, mBk_ev, mCt_ev, mRetN_ev, mRaise_ev, m2_ev, mC_ev, mVar, mTst_ev, mTru_ev, mCh_ev, mIsN_ev, mAndT_ev, mOrT_ev, mNotT_ev, mAndV_ev, mOrV_ev, mNotV_ev, mIfE_ev, mNeg_ev, mNil_ev, mCons_ev, mTup_ev, mLst_ev, mCall_ev, mIsi_ev, mApp_ev, mAllWh_ev, mSl_ev, mNoP_ev, mPart_ev, mFor_ev, mItA_ev, mItE_ev, mLc_ev, mYes_ev, add_ev, sub_ev, lt_ev, le_ev, gt_ev, ge_ev, eqi_ev, eqs_ev, eqb_ev, eqn_ev, nei_ev, nes_ev, lenT_ev, abs_ev, int_ev, intb_ev, ixM, atP, ixN, setl, setLO, bindG, mgName, mgTup, mgCons, mgNil, g, hneg, hs, f1, lo1, lo2]
  · have hs : ((Nat.gcd n.natAbs d.natAbs : Nat) : Int) = sg n d := by unfold sg; rw [if_neg hneg]
    simp -implicitDefEqProofs [callD_ev, mSeq_ev, mIf_ev, mRet_ev, mExp_ev, mAsgN_ev, mAsg_ev, mPar_ev, mPar3_ev, mSetL_ev, mNx_ev, mBk_ev, mCt_ev, mRetN_ev, mRaise_ev, m2_ev, mC_ev, mVar, mTst_ev, mTru_ev, mCh_ev, mIsN_ev, mAndT_ev, mOrT_ev, mNotT_ev, mAndV_ev, mOrV_ev, mNotV_ev, mIfE_ev, mNeg_ev, mNil_ev, mCons_ev, mTup_ev, mLst_ev, mCall_ev, mIsi_ev, mApp_ev, mAllWh_ev, mSl_ev, mNoP_ev, mPart_ev, mFor_ev, mItA_ev, mItE_ev, mLc_ev, mYes_ev, add_ev, sub_ev, lt_ev, le_ev, gt_ev, ge_ev, eqi_ev, eqs_ev, eqb_ev, eqn_ev, nei_ev, nes_ev, lenT_ev, abs_ev, int_ev, intb_ev, ixM, atP, ixN, setl, setLO, bindG, mgName, mgTup, mgCons, mgNil, g, hneg, hs, f1, lo1, lo2]

/-- is_whole -/
def isW : PV → Bool
  | .int _ => true
  | _ => false
theorem isi_ev {T : String} {x : PV} {S : Sto} {t : String} (h : tyP x S = some t) : isiM T x S = .ok (.bl (t == T || (t == "bool" && T == "int"))) S := by
  unfold isiM
  rw [h]

theorem whole_ev {S : Sto} {x : PV} {t : String} (h : tyP x S = some t) : m_is_whole [x] S = .ok (.bl (isW x)) S := by
  unfold m_is_whole
  have e1 := fun T => isi_ev (T := T) h
  cases x with
  | int i => cases h; simp -implicitDefEqProofs [callD_ev, mSeq_ev, mIf_ev, mRet_ev, mExp_ev, mAsgN_ev, mAsg_ev, mPar_ev, mPar3_ev, mSetL_ev, mNx_ev, mBk_ev, mCt_ev, mRetN_ev, mRaise_ev, m2_ev, mC_ev, mVar, mTst_ev, mTru_ev, mCh_ev, mIsN_ev, mAndT_ev, mOrT_ev, mNotT_ev, mAndV_ev, mOrV_ev, mNotV_ev, mIfE_ev, mNeg_ev, mNil_ev, mCons_ev, mTup_ev, mLst_ev, mCall_ev, mIsi_ev, mApp_ev, mAllWh_ev, mSl_ev, mNoP_ev, mPart_ev, mFor_ev, mItA_ev, mItE_ev, mLc_ev, mYes_ev, add_ev, sub_ev, lt_ev, le_ev, gt_ev, ge_ev, eqi_ev, eqs_ev, eqb_ev, eqn_ev, nei_ev, nes_ev, lenT_ev, abs_ev, int_ev, intb_ev, ixM, atP, ixN, setl, setLO, bindG, mgName, mgTup, mgCons, mgNil, e1, isW]
  | bl i => cases h; simp -implicitDefEqProofs [callD_ev, mSeq_ev, mIf_ev, mRet_ev, mExp_ev, mAsgN_ev, mAsg_ev, mPar_ev, mPar3_ev, mSetL_ev, mNx_ev, mBk_ev, mCt_ev, mRetN_ev, mRaise_ev, m2_ev, mC_ev, mVar, mTst_ev, mTru_ev, mCh_ev, mIsN_ev, mAndT_ev, mOrT_ev, mNotT_ev, mAndV_ev, mOrV_ev, mNotV_ev, mIfE_ev, mNeg_ev, mNil_ev, mCons_ev, mTup_ev, mLst_ev, mCall_ev, mIsi_ev, mApp_ev, mAllWh_ev, mSl_ev, mNoP_ev, mPart_ev, mFor_ev, mItA_ev, mItE_ev, mLc_ev, mYes_ev, add_ev, sub_ev, lt_ev, le_ev, gt_ev, ge_ev, eqi_ev, eqs_ev, eqb_ev, eqn_ev, nei_ev, nes_ev, lenT_ev, abs_ev, int_ev, intb_ev, ixM, atP, ixN, setl, setLO, bindG, mgName, mgTup, mgCons, mgNil, e1, isW]
  | non => cases h; simp -implicitDefEqProofs [callD_ev, mSeq_ev, mIf_ev, mRet_ev, mExp_ev, mAsgN_ev, mAsg_ev, mPar_ev, mPar3_ev, mSetL_ev, mNx_ev, mBk_ev, mCt_ev, mRetN_ev, mRaise_ev, m2_ev, mC_ev, mVar, mTst_ev, mTru_ev, mCh_ev, mIsN_ev, mAndT_ev, mOrT_ev, mNotT_ev, mAndV_ev, mOrV_ev, mNotV_ev, mIfE_ev, mNeg_ev, mNil_ev, mCons_ev, mTup_ev, mLst_ev, mCall_ev, mIsi_ev, mApp_ev, mAllWh_ev, mSl_ev, mNoP_ev, mPart_ev, mFor_ev, mItA_ev, mItE_ev, mLc_ev, mYes_ev, add_ev, sub_ev, lt_ev, le_ev, gt_ev, ge_ev, eqi_ev, eqs_ev, eqb_ev, eqn_ev, nei_ev, nes_ev, lenT_ev, abs_ev, int_ev, intb_ev, ixM, atP, ixN, setl, setLO, bindG, mgName, mgTup, mgCons, mgNil, e1, isW]
  | str z => cases h; simp -implicitDefEqProofs [callD_ev, mSeq_ev, mIf_ev, mRet_ev, mExp_ev, mAsgN_ev, mAsg_ev, mPar_ev, mPar3_ev, mSetL_ev, mNx_ev, mBk_ev, mCt_ev, mRetN_ev, mRaise_ev, m2_ev, mC_ev, mVar, mTst_ev, mTru_ev, mCh_ev, mIsN_ev, mAndT_ev, mOrT_ev, mNotT_ev, mAndV_ev, mOrV_ev, mNotV_ev, mIfE_ev, mNeg_ev, mNil_ev, mCons_ev, mTup_ev, mLst_ev, mCall_ev, mIsi_ev, mApp_ev, mAllWh_ev, mSl_ev, mNoP_ev, mPart_ev, mFor_ev, mItA_ev, mItE_ev, mLc_ev, mYes_ev, add_ev, sub_ev, lt_ev, le_ev, gt_ev, ge_ev, eqi_ev, eqs_ev, eqb_ev, eqn_ev, nei_ev, nes_ev, lenT_ev, abs_ev, int_ev, intb_ev, ixM, atP, ixN, setl, setLO, bindG, mgName, mgTup, mgCons, mgNil, e1, isW]
  | tup z => cases h; simp -implicitDefEqProofs [callD_ev, mSeq_ev, mIf_ev, mRet_ev, mExp_ev, mAsgN_ev, mAsg_ev, mPar_ev, mPar3_ev, mSetL_ev, mNx_ev, mBk_ev, mCt_ev, mRetN_ev, mRaise_ev, m2_ev, mC_ev, mVar, mTst_ev, mTru_ev, mCh_ev, mIsN_ev, mAndT_ev, mOrT_ev, mNotT_ev, mAndV_ev, mOrV_ev, mNotV_ev, mIfE_ev, mNeg_ev, mNil_ev, mCons_ev, mTup_ev, mLst_ev, mCall_ev, mIsi_ev, mApp_ev, mAllWh_ev, mSl_ev, mNoP_ev, mPart_ev, mFor_ev, mItA_ev, mItE_ev, mLc_ev, mYes_ev, add_ev, sub_ev, lt_ev, le_ev, gt_ev, ge_ev, eqi_ev, eqs_ev, eqb_ev, eqn_ev, nei_ev, nes_ev, lenT_ev, abs_ev, int_ev, intb_ev, ixM, atP, ixN, setl, setLO, bindG, mgName, mgTup, mgCons, mgNil, e1, isW]
  | rol z => cases h; simp -implicitDefEqProofs [callD_ev, mSeq_ev, mIf_ev, mRet_ev, mExp_ev, mAsgN_ev, mAsg_ev, mPar_ev, mPar3_ev, mSetL_ev, mNx_ev, mBk_ev, mCt_ev, mRetN_ev, mRaise_ev, m2_ev, mC_ev, mVar, mTst_ev, mTru_ev, mCh_ev, mIsN_ev, mAndT_ev, mOrT_ev, mNotT_ev, mAndV_ev, mOrV_ev, mNotV_ev, mIfE_ev, mNeg_ev, mNil_ev, mCons_ev, mTup_ev, mLst_ev, mCall_ev, mIsi_ev, mApp_ev, mAllWh_ev, mSl_ev, mNoP_ev, mPart_ev, mFor_ev, mItA_ev, mItE_ev, mLc_ev, mYes_ev, add_ev, sub_ev, lt_ev, le_ev, gt_ev, ge_ev, eqi_ev, eqs_ev, eqb_ev, eqn_ev, nei_ev, nes_ev, lenT_ev, abs_ev, int_ev, intb_ev, ixM, atP, ixN, setl, setLO, bindG, mgName, mgTup, mgCons, mgNil, e1, isW]
  | cell n =>
    have ht : t = "list" ∨ t = "dict" := by
      simp only [tyP] at h
      split at h <;> simp_all
    rcases ht with rfl | rfl <;> simp -implicitDefEqProofs [callD_ev, mSeq_ev, mIf_ev, mRet_ev, mExp_ev, mAsgN_ev, mAsg_ev, mPar_ev, mPar3_ev, mSetL_ev, mNx_ev, mBk_ev, mCt_ev, mRetN_ev, mRaise_ev, m2_ev, mC_ev, mVar, mTst_ev, mTru_ev, mCh_ev, mIsN_ev, mAndT_ev, mOrT_ev, mNotT_ev, mAndV_ev, mOrV_ev, mNotV_ev, mIfE_ev, mNeg_ev, mNil_ev, mCons_ev, mTup_ev, mLst_ev, mCall_ev, mIsi_ev, mApp_ev, mAllWh_ev, mSl_ev, mNoP_ev, mPart_ev, mFor_ev, mItA_ev, mItE_ev, mLc_ev, mYes_ev, add_ev, sub_ev, lt_ev, le_ev, gt_ev, ge_ev, eqi_ev, eqs_ev, eqb_ev, eqn_ev, nei_ev, nes_ev, lenT_ev, abs_ev, int_ev, intb_ev, ixM, atP, ixN, setl, setLO, bindG, mgName, mgTup, mgCons, mgNil, e1, isW]

theorem isint_ev {S : Sto} {x : PV} {t : String} (h : tyP x S = some t) : m_l_is_integer [x] S = .ok (.bl (isW x)) S := by
  unfold m_l_is_integer
  have e1 := fun T => isi_ev (T := T) h
  cases x with
  | int i => cases h; simp -implicitDefEqProofs [callD_ev, mSeq_ev, mIf_ev, mRet_ev, mExp_ev, mAsgN_ev, mAsg_ev, mPar_ev, mPar3_ev, mSetL_ev, mNx_ev, mBk_ev, mCt_ev, mRetN_ev, mRaise_ev, m2_ev, mC_ev, mVar, mTst_ev, mTru_ev, mCh_ev, mIsN_ev, mAndT_ev, mOrT_ev, mNotT_ev, mAndV_ev, mOrV_ev, mNotV_ev, mIfE_ev, mNeg_ev, mNil_ev, mCons_ev, mTup_ev, mLst_ev, mCall_ev, mIsi_ev, mApp_ev, mAllWh_ev, mSl_ev, mNoP_ev, mPart_ev, mFor_ev, mItA_ev, mItE_ev, mLc_ev, mYes_ev, add_ev, sub_ev, lt_ev, le_ev, gt_ev, ge_ev, eqi_ev, eqs_ev, eqb_ev, eqn_ev, nei_ev, nes_ev, lenT_ev, abs_ev, int_ev, intb_ev, ixM, atP, ixN, setl, setLO, bindG, mgName, mgTup, mgCons, mgNil, e1, isW]
  | bl i => cases h; simp -implicitDefEqProofs [callD_ev, mSeq_ev, mIf_ev, mRet_ev, mExp_ev, mAsgN_ev, mAsg_ev, mPar_ev, mPar3_ev, mSetL_ev, mNx_ev, mBk_ev, mCt_ev, mRetN_ev, mRaise_ev, m2_ev, mC_ev, mVar, mTst_ev, mTru_ev, mCh_ev, mIsN_ev, mAndT_ev, mOrT_ev, mNotT_ev, mAndV_ev, mOrV_ev, mNotV_ev, mIfE_ev, mNeg_ev, mNil_ev, mCons_ev, mTup_ev, mLst_ev, mCall_ev, mIsi_ev, mApp_ev, mAllWh_ev, mSl_ev, mNoP_ev, mPart_ev, mFor_ev, mItA_ev, mItE_ev, mLc_ev, mYes_ev, add_ev, sub_ev, lt_ev, le_ev, gt_ev, ge_ev, eqi_ev, eqs_ev, eqb_ev, eqn_ev, nei_ev, nes_ev, lenT_ev, abs_ev, int_ev, intb_ev, ixM, atP, ixN, setl, setLO, bindG, mgName, mgTup, mgCons, mgNil, e1, isW]
  | non => cases h; simp -implicitDefEqProofs [callD_ev, mSeq_ev, mIf_ev, mRet_ev, mExp_ev, mAsgN_ev, mAsg_ev, mPar_ev, mPar3_ev, mSetL_ev, mNx_ev, mBk_ev, mCt_ev, mRetN_ev, mRaise_ev, m2_ev, mC_ev, mVar, mTst_ev, mTru_ev, mCh_ev, mIsN_ev, mAndT_ev, mOrT_ev, mNotT_ev, mAndV_ev, mOrV_ev, mNotV_ev, mIfE_ev, mNeg_ev, mNil_ev, mCons_ev, mTup_ev, mLst_ev, mCall_ev, mIsi_ev, mApp_ev, mAllWh_ev, mSl_ev, mNoP_ev, mPart_ev, mFor_ev, mItA_ev, mItE_ev, mLc_ev, mYes_ev, add_ev, sub_ev, lt_ev, le_ev, gt_ev, ge_ev, eqi_ev, eqs_ev, eqb_ev, eqn_ev, nei_ev, nes_ev, lenT_ev, abs_ev, int_ev, intb_ev, ixM, atP, ixN, setl, setLO, bindG, mgName, mgTup, mgCons, mgNil, e1, isW]
  | str z => cases h; simp -implicitDefEqProofs [callD_ev, mSeq_ev, mIf_ev, mRet_ev, mExp_ev, mAsgN_ev, mAsg_ev, mPar_ev, mPar3_ev, mSetL_ev, mNx_ev, mBk_ev, mCt_ev, mRetN_ev, mRaise_ev, m2_ev, mC_ev, mVar, mTst_ev, mTru_ev, mCh_ev, mIsN_ev, mAndT_ev, mOrT_ev, mNotT_ev, mAndV_ev, mOrV_ev, mNotV_ev, mIfE_ev, mNeg_ev, mNil_ev, mCons_ev, mTup_ev, mLst_ev, mCall_ev, mIsi_ev, mApp_ev, mAllWh_ev, mSl_ev, mNoP_ev, mPart_ev, mFor_ev, mItA_ev, mItE_ev, mLc_ev, mYes_ev, add_ev, sub_ev, lt_ev, le_ev, gt_ev, ge_ev, eqi_ev, eqs_ev, eqb_ev, eqn_ev, nei_ev, nes_ev, lenT_ev, abs_ev, int_ev, intb_ev, ixM, atP, ixN, setl, setLO, bindG, mgName, mgTup, mgCons, mgNil, e1, isW]
  | tup z => cases h; simp -implicitDefEqProofs [callD_ev, mSeq_ev, mIf_ev, mRet_ev, mExp_ev, mAsgN_ev, mAsg_ev, mPar_ev, mPar3_ev, mSetL_ev, mNx_ev, mBk_ev, mCt_ev, mRetN_ev, mRaise_ev, m2_ev, mC_ev, mVar, mTst_ev, mTru_ev, mCh_ev, mIsN_ev, mAndT_ev, mOrT_ev, mNotT_ev, mAndV_ev, mOrV_ev, mNotV_ev, mIfE_ev, mNeg_ev, mNil_ev, mCons_ev, mTup_ev, mLst_ev, mCall_ev, mIsi_ev, mApp_ev, mAllWh_ev, mSl_ev, mNoP_ev, mPart_ev, mFor_ev, mItA_ev, mItE_ev, mLc_ev, mYes_ev, add_ev, sub_ev, lt_ev, le_ev, gt_ev, ge_ev, eqi_ev, eqs_ev, eqb_ev, eqn_ev, nei_ev, nes_ev, lenT_ev, abs_ev, int_ev, intb_ev, ixM, atP, ixN, setl, setLO, bindG, mgName, mgTup, mgCons, mgNil, e1, isW]
  | rol z => cases h; simp -implicitDefEqProofs [callD_ev, mSeq_ev, mIf_ev, mRet_ev, mExp_ev, mAsgN_ev, mAsg_ev, mPar_ev, mPar3_ev, mSetL_ev, mNx_ev, mBk_ev, mCt_ev, mRetN_ev, mRaise_ev, m2_ev, mC_ev, mVar, mTst_ev, mTru_ev, mCh_ev, mIsN_ev, mAndT_ev, mOrT_ev, mNotT_ev, mAndV_ev, mOrV_ev, mNotV_ev, mIfE_ev, mNeg_ev, mNil_ev, mCons_ev, mTup_ev, mLst_ev, mCall_ev, mIsi_ev, mApp_ev, mAllWh_ev, mSl_ev, mNoP_ev, mPart_ev, mFor_ev, mItA_ev, mItE_ev, mLc_ev, mYes_ev, add_ev, sub_ev, lt_ev, le_ev, gt_ev, ge_ev, eqi_ev, eqs_ev, eqb_ev, eqn_ev, nei_ev, nes_ev, lenT_ev, abs_ev, int_ev, intb_ev, ixM, atP, ixN, setl, setLO, bindG, mgName, mgTup, mgCons, mgNil, e1, isW]
  | cell n =>
    have ht : t = "list" ∨ t = "dict" := by
      simp only [tyP] at h
      split at h <;> simp_all
    rcases ht with rfl | rfl <;> simp -implicitDefEqProofs [callD_ev, mSeq_ev, mIf_ev, mRet_ev, mExp_ev, mAsgN_ev, mAsg_ev, mPar_ev, mPar3_ev, mSetL_ev, mNx_ev, mBk_ev, mCt_ev, mRetN_ev, mRaise_ev, m2_ev, mC_ev, mVar, mTst_ev, mTru_ev, mCh_ev, mIsN_ev, mAndT_ev, mOrT_ev, mNotT_ev, mAndV_ev, mOrV_ev, mNotV_ev, mIfE_ev, mNeg_ev, mNil_ev, mCons_ev, mTup_ev, mLst_ev, mCall_ev, mIsi_ev, mApp_ev, mAllWh_ev, mSl_ev, mNoP_ev, mPart_ev, mFor_ev, mItA_ev, mItE_ev, mLc_ev, mYes_ev, add_ev, sub_ev, lt_ev, le_ev, gt_ev, ge_ev, eqi_ev, eqs_ev, eqb_ev, eqn_ev, nei_ev, nes_ev, lenT_ev, abs_ev, int_ev, intb_ev, ixM, atP, ixN, setl, setLO, bindG, mgName, mgTup, mgCons, mgNil, e1, isW]

open Odds in
theorem ratio_ev {S : Sto} {n d : Int} (hd : d ≠ 0) (hb : d.natAbs < 2 ^ 8000) : m_ratio [.int n, .int d] S = .ok (.tup [.int (lo1 n d), .int (lo2 n d)]) S := by
  have ls : (sg n d).natAbs.log2 < 9000 := log_b (sg_size hd hb)
  have f1 := fun (x : Int) S => fdiv_ev (S := S) (i := x) (sg_ne (n := n) hd) ls
  unfold m_ratio
  by_cases hneg : d < 0
  · have hs : -((Nat.gcd n.natAbs d.natAbs : Nat) : Int) = sg n d := by unfold sg; rw [if_pos hneg]
    simp -implicitDefEqProofs [callD_ev, mSeq_ev, mIf_ev, mRet_ev, mExp_ev, mAsgN_ev, mAsg_ev, mPar_ev, mPar3_ev, mSetL_ev, mNx_ev, mBk_ev, mCt_ev, mRetN_ev, mRaise_ev, m2_ev, mC_ev, mVar, mTst_ev, mTru_ev, mCh_ev, mIsN_ev, mAndT_ev, mOrT_ev, mNotT_ev, mAndV_ev, mOrV_ev, mNotV_ev, mIfE_ev, mNeg_ev, mNil_ev, mCons_ev, mTup_ev, mLst_ev, mCall_ev, mIsi_ev, mApp_ev, mAllWh_ev, mSl_ev, mNoP_ev, mPart_ev, mFor_ev, mItA_ev, mItE_ev, mLc_ev, mYes_ev, add_ev, sub_ev, lt_ev, le_ev, gt_ev, ge_ev, eqi_ev, eqs_ev, eqb_ev, eqn_ev, nei_ev, nes_ev, lenT_ev, abs_ev, int_ev, intb_ev, ixM, atP, ixN, setl, setLO, bindG, mgName, mgTup, mgCons, mgNil, gcdM, hd, hneg, hs, f1, lo1, lo2]
  · have hs : ((Nat.gcd n.natAbs d.natAbs : Nat) : Int) = sg n d := by unfold sg; rw [if_neg hneg]
    simp -implicitDefEqProofs [callD_ev, mSeq_ev, mIf_ev, mRet_ev, mExp_ev, mAsgN_ev, mAsg_ev, mPar_ev, mPar3_ev, mSetL_ev, mNx_ev, mBk_ev, mCt_ev, mRetN_ev, mRaise_ev, m2_ev, mC_ev, mVar, mTst_ev, mTru_ev, mCh_ev, mIsN_ev, mAndT_ev, mOrT_ev, mNotT_ev, mAndV_ev, mOrV_ev, mNotV_ev, mIfE_ev, mNeg_ev, mNil_ev, mCons_ev, mTup_ev, mLst_ev, mCall_ev, mIsi_ev, mApp_ev, mAllWh_ev, mSl_ev, mNoP_ev, mPart_ev, mFor_ev, mItA_ev, mItE_ev, mLc_ev, mYes_ev, add_ev, sub_ev, lt_ev, le_ev, gt_ev, ge_ev, eqi_ev, eqs_ev, eqb_ev, eqn_ev, nei_ev, nes_ev, lenT_ev, abs_ev, int_ev, intb_ev, ixM, atP, ixN, setl, setLO, bindG, mgName, mgTup, mgCons, mgNil, gcdM, hd, hneg, hs, f1, lo1, lo2]
/-- is_rational -/
def isRat : PV → Bool
  | .tup [.int n, .int d] => decide (1 ≤ d) && decide (Nat.gcd n.natAbs d.natAbs = 1)
  | _ => false
theorem rat_two {S : Sto} {a b : PV} {ta tb : String} (ha : tyP a S = some ta) (hb : tyP b S = some tb) : m_is_rational [.tup [a, b]] S = .ok (.bl (isRat (.tup [a, b]))) S := by
  unfold m_is_rational
  have w1 := whole_ev ha
  have w2 := whole_ev hb
  have e1 := isi_ev (T := "tuple") (x := .tup [a, b]) (S := S) rfl
  by_cases h1 : isW a = true
  · by_cases h2 : isW b = true
    · obtain ⟨n, rfl⟩ : ∃ n, a = .int n := by cases a <;> first | exact ⟨_, rfl⟩ | (simp [isW] at h1)
      obtain ⟨d, rfl⟩ : ∃ n, b = .int n := by cases b <;> first | exact ⟨_, rfl⟩ | (simp [isW] at h2)
      by_cases h3 : 1 ≤ d
      · simp -implicitDefEqProofs [callD_ev, mSeq_ev, mIf_ev, mRet_ev, mExp_ev, mAsgN_ev, mAsg_ev, mPar_ev, mPar3_ev, mSetL_ev, mNx_ev, mBk_ev, mCt_ev, mRetN_ev, mRaise_ev, m2_ev, mC_ev, mVar, mTst_ev, mTru_ev, mCh_ev, mIsN_ev, mAndT_ev, mOrT_ev, mNotT_ev, mAndV_ev, mOrV_ev, mNotV_ev, mIfE_ev, mNeg_ev, mNil_ev, mCons_ev, mTup_ev, mLst_ev, mCall_ev, mIsi_ev, mApp_ev, mAllWh_ev, mSl_ev, mNoP_ev, mPart_ev, mFor_ev, mItA_ev, mItE_ev, mLc_ev, mYes_ev, add_ev, sub_ev, lt_ev, le_ev, gt_ev, ge_ev, eqi_ev, eqs_ev, eqb_ev, eqn_ev, nei_ev, nes_ev, lenT_ev, abs_ev, int_ev, intb_ev, ixM, atP, ixN, setl, setLO, bindG, mgName, mgTup, mgCons, mgNil, e1, w1, w2, isW, h3, gcdM, isRat, truthM]
        omega
      · simp -implicitDefEqProofs [callD_ev, mSeq_ev, mIf_ev, mRet_ev, mExp_ev, mAsgN_ev, mAsg_ev, mPar_ev, mPar3_ev, mSetL_ev, mNx_ev, mBk_ev, mCt_ev, mRetN_ev, mRaise_ev, m2_ev, mC_ev, mVar, mTst_ev, mTru_ev, mCh_ev, mIsN_ev, mAndT_ev, mOrT_ev, mNotT_ev, mAndV_ev, mOrV_ev, mNotV_ev, mIfE_ev, mNeg_ev, mNil_ev, mCons_ev, mTup_ev, mLst_ev, mCall_ev, mIsi_ev, mApp_ev, mAllWh_ev, mSl_ev, mNoP_ev, mPart_ev, mFor_ev, mItA_ev, mItE_ev, mLc_ev, mYes_ev, add_ev, sub_ev, lt_ev, le_ev, gt_ev, ge_ev, eqi_ev, eqs_ev, eqb_ev, eqn_ev, nei_ev, nes_ev, lenT_ev, abs_ev, int_ev, intb_ev, ixM, atP, ixN, setl, setLO, bindG, mgName, mgTup, mgCons, mgNil, e1, w1, w2, isW, h3, gcdM, isRat, truthM]
    · have h2' : isW b = false := by simpa using h2
      have h3 : isRat (.tup [a, b]) = false := by
        unfold isRat
        split
        · rename_i e
          cases e
          simp [isW] at h2
        · rfl
      rw [h3]
      simp -implicitDefEqProofs [callD_ev, mSeq_ev, mIf_ev, mRet_ev, mExp_ev, mAsgN_ev, mAsg_ev, mPar_ev, mPar3_ev, mSetL_ev, mNx_ev, mBk_ev, mCt_ev, mRetN_ev, mRaise_ev, m2_ev, mC_ev, mVar, mTst_ev, mTru_ev, mCh_ev, mIsN_ev, mAndT_ev, mOrT_ev, mNotT_ev, mAndV_ev, mOrV_ev, mNotV_ev, mIfE_ev, mNeg_ev, mNil_ev, mCons_ev, mTup_ev, mLst_ev, mCall_ev, mIsi_ev, mApp_ev, mAllWh_ev, mSl_ev, mNoP_ev, mPart_ev, mFor_ev, mItA_ev, mItE_ev, mLc_ev, mYes_ev, add_ev, sub_ev, lt_ev, le_ev, gt_ev, ge_ev, eqi_ev, eqs_ev, eqb_ev, eqn_ev, nei_ev, nes_ev, lenT_ev, abs_ev, int_ev, intb_ev, ixM, atP, ixN, setl, setLO, bindG, mgName, mgTup, mgCons, mgNil, e1, w1, w2, h1, h2', truthM]
  · have h1' : isW a = false := by simpa using h1
    have h3 : isRat (.tup [a, b]) = false := by
      unfold isRat
      split
      · rename_i e
        cases e
        simp [isW] at h1
      · rfl
    rw [h3]
    simp -implicitDefEqProofs [callD_ev, mSeq_ev, mIf_ev, mRet_ev, mExp_ev, mAsgN_ev, mAsg_ev, mPar_ev, mPar3_ev, mSetL_ev, mNx_ev, mBk_ev, mCt_ev, mRetN_ev, mRaise_ev, m2_ev, mC_ev, mVar, mTst_ev, mTru_ev, mCh_ev, mIsN_ev, mAndT_ev, mOrT_ev, mNotT_ev, mAndV_ev, mOrV_ev, mNotV_ev, mIfE_ev, mNeg_ev, mNil_ev, mCons_ev, mTup_ev, mLst_ev, mCall_ev, mIsi_ev, mApp_ev, mAllWh_ev, mSl_ev, mNoP_ev, mPart_ev, mFor_ev, mItA_ev, mItE_ev, mLc_ev, mYes_ev, add_ev, sub_ev, lt_ev, le_ev, gt_ev, ge_ev, eqi_ev, eqs_ev, eqb_ev, eqn_ev, nei_ev, nes_ev, lenT_ev, abs_ev, int_ev, intb_ev, ixM, atP, ixN, setl, setLO, bindG, mgName, mgTup, mgCons, mgNil, e1, w1, w2, h1', truthM]

open Odds
def pq (q : Q2) : PV := .tup [.int q.1, .int q.2]
theorem sz_fac {f x m : Int} {n : Nat} (hf : 0 < f) (e : m = f * x) (h : m.natAbs < 2 ^ n) : x.natAbs < 2 ^ n := by
  rw [e, Int.natAbs_mul] at h
  exact Nat.lt_of_le_of_lt (Nat.le_mul_of_pos_left _ (by omega)) h
theorem sz_g {f x m : Int} {n : Nat} (hm : m ≠ 0) (e : m = f * x) (h : m.natAbs < 2 ^ n) : f.natAbs < 2 ^ n := by
  have hx : 0 < x.natAbs := by
    rcases Nat.eq_zero_or_pos x.natAbs with h0 | h0
    · rw [Int.natAbs_eq_zero.mp h0] at e
      omega
    · exact h0
  rw [e, Int.natAbs_mul] at h
  exact Nat.lt_of_le_of_lt (Nat.le_mul_of_pos_right _ hx) h

theorem times_ev {S : Sto} {a b : Q2} (ha : Nrm a) (hb : Nrm b) (sa : Sm 4000 a) (sb : Sm 4000 b) : m_times [pq a, pq b] S = .ok (pq (qTimes a b)) S := by
  obtain ⟨x, y, z, w, e1, e2, e3, e4, p1, p2, eq⟩ := times_low ha hb
  have ne1 : b.2 ≠ 0 := by have := hb.1; omega
  have ne2 : a.2 ≠ 0 := by have := ha.1; omega
  have l1 := log_b (sz_g ne1 e2 sb.2.2)
  have l2 := log_b (sz_g ne2 e4 sa.2.2)
  have x0 := sz_fac p1 e1 sa.2.1
  have y0 := sz_fac p1 e2 sb.2.2
  have z0 := sz_fac p2 e3 sb.2.1
  have w0 := sz_fac p2 e4 sa.2.2
  have o1 : mulOk x z = true := mulOk_b x0 z0
  have o2 : mulOk w y = true := mulOk_b w0 y0
  have f1 : ∀ T, fdivM (.int a.1) (.int ((Nat.gcd a.1.natAbs b.2.natAbs : Nat) : Int)) T = .ok (.int x) T := fun T => by
    rw [div_ev p1 l1]
    congr 2
    conv => lhs; arg 1; rw [e1]
    rw [Int.mul_ediv_cancel_left _ (by omega)]
  have f2 : ∀ T, fdivM (.int b.2) (.int ((Nat.gcd a.1.natAbs b.2.natAbs : Nat) : Int)) T = .ok (.int y) T := fun T => by
    rw [div_ev p1 l1]
    congr 2
    conv => lhs; arg 1; rw [e2]
    rw [Int.mul_ediv_cancel_left _ (by omega)]
  have f3 : ∀ T, fdivM (.int b.1) (.int ((Nat.gcd b.1.natAbs a.2.natAbs : Nat) : Int)) T = .ok (.int z) T := fun T => by
    rw [div_ev p2 l2]
    congr 2
    conv => lhs; arg 1; rw [e3]
    rw [Int.mul_ediv_cancel_left _ (by omega)]
  have f4 : ∀ T, fdivM (.int a.2) (.int ((Nat.gcd b.1.natAbs a.2.natAbs : Nat) : Int)) T = .ok (.int w) T := fun T => by
    rw [div_ev p2 l2]
    congr 2
    conv => lhs; arg 1; rw [e4]
    rw [Int.mul_ediv_cancel_left _ (by omega)]
  unfold m_times
  simp -implicitDefEqProofs [callD_ev, mSeq_ev, mIf_ev, mRet_ev, mExp_ev, mAsgN_ev, mAsg_ev, mPar_ev, mPar3_ev, mSetL_ev, mNx_ev, mBk_ev, mCt_ev, mRetN_ev, mRaise_ev, m2_ev, mC_ev, mVar, mTst_ev, mTru_ev, mCh_ev, mIsN_ev, mAndT_ev, mOrT_ev, mNotT_ev, mAndV_ev, mOrV_ev, mNotV_ev, mIfE_ev, mNeg_ev, mNil_ev, mCons_ev, mTup_ev, mLst_ev, mCall_ev, mIsi_ev, mApp_ev, mAllWh_ev, mSl_ev, mNoP_ev, mPart_ev, mFor_ev, mItA_ev, mItE_ev, mLc_ev, mYes_ev, add_ev, sub_ev, lt_ev, le_ev, gt_ev, ge_ev, eqi_ev, eqs_ev, eqb_ev, eqn_ev, nei_ev, nes_ev, lenT_ev, abs_ev, int_ev, intb_ev, ixM, atP, ixN, setl, setLO, bindG, mgName, mgTup, mgCons, mgNil, pq, gcdM, f1, f2, f3, f4, mulM, o1, o2, eq]

theorem nrm_opp {a : Q2} (h : Nrm a) : Nrm (-a.1, a.2) := ⟨h.1, by show Nat.gcd (-a.1).natAbs _ = 1; rw [Int.natAbs_neg]; exact h.2⟩
theorem sm_opp {a : Q2} {n : Nat} (h : Sm n a) : Sm n (-a.1, a.2) := ⟨h.1, by show (-a.1).natAbs < _; rw [Int.natAbs_neg]; exact h.2.1, h.2.2⟩

theorem plus_ev {S : Sto} {a b : Q2} (ha : Nrm a) (hb : Nrm b) (sa : Sm 3000 a) (sb : Sm 3000 b) : m_plus [pq a, pq b] S = .ok (pq (qPlus a b)) S := by
  obtain ⟨u, v, T, G, e1, e2, p1, e3, e4, p2, eq⟩ := plus_low ha hb
  simp only [Int.natAbs_natCast] at e3 e4 p2
  have ne1 : b.2 ≠ 0 := by have := hb.1; omega
  have ne2 : a.2 ≠ 0 := by have := ha.1; omega
  have sg := sz_g ne2 e1 sa.2.2
  have l1 := log_b sg
  have u0 := sz_fac p1 e1 sa.2.2
  have v0 := sz_fac p1 e2 sb.2.2
  have l2 := log_b (sz_g (by omega) e4 sg)
  have f1 : ∀ T, fdivM (.int a.2) (.int ((Nat.gcd a.2.natAbs b.2.natAbs : Nat) : Int)) T = .ok (.int u) T := fun T => by
    rw [div_ev p1 l1]
    congr 2
    conv => lhs; arg 1; rw [e1]
    rw [Int.mul_ediv_cancel_left _ (by omega)]
  have f2 : ∀ T, fdivM (.int b.2) (.int ((Nat.gcd a.2.natAbs b.2.natAbs : Nat) : Int)) T = .ok (.int v) T := fun T => by
    rw [div_ev p1 l1]
    congr 2
    conv => lhs; arg 1; rw [e2]
    rw [Int.mul_ediv_cancel_left _ (by omega)]
  have f3 : ∀ T', fdivM (.int (a.1 * v + b.1 * u)) (.int ((Nat.gcd (a.1 * v + b.1 * u).natAbs (Nat.gcd a.2.natAbs b.2.natAbs) : Nat) : Int)) T' = .ok (.int T) T' := fun T' => by
    rw [div_ev p2 l2]
    congr 2
    conv => lhs; arg 1; rw [e3]
    rw [Int.mul_ediv_cancel_left _ (by omega)]
  have f4 : ∀ T', fdivM (.int b.2) (.int ((Nat.gcd (a.1 * v + b.1 * u).natAbs (Nat.gcd a.2.natAbs b.2.natAbs) : Nat) : Int)) T' = .ok (.int (G * v)) T' := fun T' => by
    rw [div_ev p2 l2]
    congr 2
    conv => lhs; arg 1; rw [e2, e4]
    rw [Int.mul_assoc, Int.mul_ediv_cancel_left _ (by omega)]
  have gv : (G * v).natAbs < 2 ^ 3000 := sz_fac p2 (by rw [← Int.mul_assoc, ← e4]; exact e2) sb.2.2
  have o1 : mulOk a.1 v = true := mulOk_b sa.2.1 v0
  have o2 : mulOk b.1 u = true := mulOk_b sb.2.1 u0
  have o3 : mulOk u (G * v) = true := mulOk_b u0 gv
  unfold m_plus
  simp -implicitDefEqProofs [callD_ev, mSeq_ev, mIf_ev, mRet_ev, mExp_ev, mAsgN_ev, mAsg_ev, mPar_ev, mPar3_ev, mSetL_ev, mNx_ev, mBk_ev, mCt_ev, mRetN_ev, mRaise_ev, m2_ev, mC_ev, mVar, mTst_ev, mTru_ev, mCh_ev, mIsN_ev, mAndT_ev, mOrT_ev, mNotT_ev, mAndV_ev, mOrV_ev, mNotV_ev, mIfE_ev, mNeg_ev, mNil_ev, mCons_ev, mTup_ev, mLst_ev, mCall_ev, mIsi_ev, mApp_ev, mAllWh_ev, mSl_ev, mNoP_ev, mPart_ev, mFor_ev, mItA_ev, mItE_ev, mLc_ev, mYes_ev, add_ev, sub_ev, lt_ev, le_ev, gt_ev, ge_ev, eqi_ev, eqs_ev, eqb_ev, eqn_ev, nei_ev, nes_ev, lenT_ev, abs_ev, int_ev, intb_ev, ixM, atP, ixN, setl, setLO, bindG, mgName, mgTup, mgCons, mgNil, pq, gcdM, f1, f2, f3, f4, mulM, o1, o2, o3, eq]
theorem opposite_ev {S : Sto} {a : Q2} : m_opposite [pq a] S = .ok (pq (-a.1, a.2)) S := by
  unfold m_opposite
  simp -implicitDefEqProofs [callD_ev, mSeq_ev, mIf_ev, mRet_ev, mExp_ev, mAsgN_ev, mAsg_ev, mPar_ev, mPar3_ev, mSetL_ev, mNx_ev, mBk_ev, mCt_ev, mRetN_ev, mRaise_ev, m2_ev, mC_ev, mVar, mTst_ev, mTru_ev, mCh_ev, mIsN_ev, mAndT_ev, mOrT_ev, mNotT_ev, mAndV_ev, mOrV_ev, mNotV_ev, mIfE_ev, mNeg_ev, mNil_ev, mCons_ev, mTup_ev, mLst_ev, mCall_ev, mIsi_ev, mApp_ev, mAllWh_ev, mSl_ev, mNoP_ev, mPart_ev, mFor_ev, mItA_ev, mItE_ev, mLc_ev, mYes_ev, add_ev, sub_ev, lt_ev, le_ev, gt_ev, ge_ev, eqi_ev, eqs_ev, eqb_ev, eqn_ev, nei_ev, nes_ev, lenT_ev, abs_ev, int_ev, intb_ev, ixM, atP, ixN, setl, setLO, bindG, mgName, mgTup, mgCons, mgNil, pq]
theorem minus_ev {S : Sto} {a b : Q2} (ha : Nrm a) (hb : Nrm b) (sa : Sm 3000 a) (sb : Sm 3000 b) : m_minus [pq a, pq b] S = .ok (pq (qMinus a b)) S := by
  have h1 : qMinus a b = qPlus a (-b.1, b.2) := by
    rw [qMinus_neg]
    congr 2
    omega
  have h2 := fun T => plus_ev (S := T) ha (nrm_opp hb) sa (sm_opp sb)
  have h3 := fun T => opposite_ev (S := T) (a := b)
  unfold m_minus
  rw [h1]
  simp -implicitDefEqProofs [callD_ev, mSeq_ev, mIf_ev, mRet_ev, mExp_ev, mAsgN_ev, mAsg_ev, mPar_ev, mPar3_ev, mSetL_ev, mNx_ev, mBk_ev, mCt_ev, mRetN_ev, mRaise_ev, m2_ev, mC_ev, mVar, mTst_ev, mTru_ev, mCh_ev, mIsN_ev, mAndT_ev, mOrT_ev, mNotT_ev, mAndV_ev, mOrV_ev, mNotV_ev, mIfE_ev, mNeg_ev, mNil_ev, mCons_ev, mTup_ev, mLst_ev, mCall_ev, mIsi_ev, mApp_ev, mAllWh_ev, mSl_ev, mNoP_ev, mPart_ev, mFor_ev, mItA_ev, mItE_ev, mLc_ev, mYes_ev, add_ev, sub_ev, lt_ev, le_ev, gt_ev, ge_ev, eqi_ev, eqs_ev, eqb_ev, eqn_ev, nei_ev, nes_ev, lenT_ev, abs_ev, int_ev, intb_ev, ixM, atP, ixN, setl, setLO, bindG, mgName, mgTup, mgCons, mgNil, h2, h3]

theorem low_q {S : Sto} {N D : Int} {q : Q2} (h : D ≠ 0) (hn : N.natAbs < 2 ^ 8000) (hb : D.natAbs < 2 ^ 8000) (e : q = (lo1 N D, lo2 N D)) : m_l_low [.int N, .int D] S = .ok (pq q) S := by
  rw [low_ev h hn hb, e]
  rfl
theorem isq_ev {S : Sto} {n : Int} (h0 : 0 ≤ n) (hb : n.natAbs < 2 ^ 13000) : ∃ r : Int, 0 ≤ r ∧ r * r ≤ n ∧ n < (r + 1) * (r + 1) ∧ r.natAbs < 2 ^ 13000 ∧ ∀ T, isqrtM [.int n] T = .ok (.int r) T := by
  refine ⟨((PySem.Float64.isqrt n.toNat : Nat) : Int), by omega, isq_lo h0, isq_hi h0, ?_, fun T => by unfold isqrtM; exact if_pos ⟨h0, hb⟩⟩
  have h1 := isq_lo h0
  have h2 : ((PySem.Float64.isqrt n.toNat : Nat) : Int) ≤ n := by
    by_cases hz : PySem.Float64.isqrt n.toNat = 0
    · omega
    · have : ((PySem.Float64.isqrt n.toNat : Nat) : Int) * 1 ≤ ((PySem.Float64.isqrt n.toNat : Nat) : Int) * ((PySem.Float64.isqrt n.toNat : Nat) : Int) := Int.mul_le_mul_of_nonneg_left (by omega) (by omega)
      omega
  exact Nat.lt_of_le_of_lt (by omega) hb
theorem root_no {S : Sto} {n : Int} (h0 : 0 ≤ n) (h : ¬ isSq n) (hb : n.natAbs < 2 ^ 13000) : m_square_root [.int n] S = .ok .non S := by
  obtain ⟨r, r0, r1, r2, rb, e⟩ := isq_ev (S := S) h0 hb
  have o : mulOk r r = true := mulOk_b rb rb
  have ne : ¬ r * r = n := fun q => h ⟨r, r0, q⟩
  have hneg : ¬ n < 0 := by omega
  unfold m_square_root
  simp -implicitDefEqProofs [callD_ev, mSeq_ev, mIf_ev, mRet_ev, mExp_ev, mAsgN_ev, mAsg_ev, mPar_ev, mPar3_ev, mSetL_ev, mNx_ev, mBk_ev, mCt_ev, mRetN_ev, mRaise_ev, m2_ev, mC_ev, mVar, mTst_ev, mTru_ev, mCh_ev, mIsN_ev, mAndT_ev, mOrT_ev, mNotT_ev, mAndV_ev, mOrV_ev, mNotV_ev, mIfE_ev, mNeg_ev, mNil_ev, mCons_ev, mTup_ev, mLst_ev, mCall_ev, mIsi_ev, mApp_ev, mAllWh_ev, mSl_ev, mNoP_ev, mPart_ev, mFor_ev, mItA_ev, mItE_ev, mLc_ev, mYes_ev, add_ev, sub_ev, lt_ev, le_ev, gt_ev, ge_ev, eqi_ev, eqs_ev, eqb_ev, eqn_ev, nei_ev, nes_ev, lenT_ev, abs_ev, int_ev, intb_ev, ixM, atP, ixN, setl, setLO, bindG, mgName, mgTup, mgCons, mgNil, hneg, e, mulM, o, ne]
theorem field_yes {S : Sto} {n : Int} (h : n = 0 ∨ (0 < n ∧ ¬ isSq n)) (hb : n.natAbs < 2 ^ 13000) : m_is_field [.int n] S = .ok (.bl true) S := by
  have w := whole_ev (S := S) (x := .int n) rfl
  unfold m_is_field
  rcases h with rfl | ⟨h1, h2⟩
  · simp -implicitDefEqProofs [callD_ev, mSeq_ev, mIf_ev, mRet_ev, mExp_ev, mAsgN_ev, mAsg_ev, mPar_ev, mPar3_ev, mSetL_ev, mNx_ev, mBk_ev, mCt_ev, mRetN_ev, mRaise_ev, m2_ev, mC_ev, mVar, mTst_ev, mTru_ev, mCh_ev, mIsN_ev, mAndT_ev, mOrT_ev, mNotT_ev, mAndV_ev, mOrV_ev, mNotV_ev, mIfE_ev, mNeg_ev, mNil_ev, mCons_ev, mTup_ev, mLst_ev, mCall_ev, mIsi_ev, mApp_ev, mAllWh_ev, mSl_ev, mNoP_ev, mPart_ev, mFor_ev, mItA_ev, mItE_ev, mLc_ev, mYes_ev, add_ev, sub_ev, lt_ev, le_ev, gt_ev, ge_ev, eqi_ev, eqs_ev, eqb_ev, eqn_ev, nei_ev, nes_ev, lenT_ev, abs_ev, int_ev, intb_ev, ixM, atP, ixN, setl, setLO, bindG, mgName, mgTup, mgCons, mgNil, w, isW, truthM]
  · have r := fun T => root_no (S := T) (Int.le_of_lt h1) h2 hb
    have hz : ¬ n = 0 := by omega
    simp -implicitDefEqProofs [callD_ev, mSeq_ev, mIf_ev, mRet_ev, mExp_ev, mAsgN_ev, mAsg_ev, mPar_ev, mPar3_ev, mSetL_ev, mNx_ev, mBk_ev, mCt_ev, mRetN_ev, mRaise_ev, m2_ev, mC_ev, mVar, mTst_ev, mTru_ev, mCh_ev, mIsN_ev, mAndT_ev, mOrT_ev, mNotT_ev, mAndV_ev, mOrV_ev, mNotV_ev, mIfE_ev, mNeg_ev, mNil_ev, mCons_ev, mTup_ev, mLst_ev, mCall_ev, mIsi_ev, mApp_ev, mAllWh_ev, mSl_ev, mNoP_ev, mPart_ev, mFor_ev, mItA_ev, mItE_ev, mLc_ev, mYes_ev, add_ev, sub_ev, lt_ev, le_ev, gt_ev, ge_ev, eqi_ev, eqs_ev, eqb_ev, eqn_ev, nei_ev, nes_ev, lenT_ev, abs_ev, int_ev, intb_ev, ixM, atP, ixN, setl, setLO, bindG, mgName, mgTup, mgCons, mgNil, w, isW, truthM, hz, h1, r, isNM]
theorem disc_ev {S : Sto} {c b a : Int} (hc : c.natAbs < 2 ^ 2000) (hb : b.natAbs < 2 ^ 2000) (ha : a.natAbs < 2 ^ 2000) : m_discriminant [.tup [.int c, .int b, .int a]] S = .ok (.int (b * b - 4 * a * c)) S := by
  have o1 : mulOk b b = true := mulOk_b hb hb
  have o2 : mulOk 4 a = true := mulOk_l (by decide)
  have o3 : mulOk (4 * a) c = true := mulOk_b (a := 2003) (by rw [Int.natAbs_mul, show (4 : Int).natAbs = 4 from rfl]; omega) hc
  unfold m_discriminant
  simp -implicitDefEqProofs [callD_ev, mSeq_ev, mIf_ev, mRet_ev, mExp_ev, mAsgN_ev, mAsg_ev, mPar_ev, mPar3_ev, mSetL_ev, mNx_ev, mBk_ev, mCt_ev, mRetN_ev, mRaise_ev, m2_ev, mC_ev, mVar, mTst_ev, mTru_ev, mCh_ev, mIsN_ev, mAndT_ev, mOrT_ev, mNotT_ev, mAndV_ev, mOrV_ev, mNotV_ev, mIfE_ev, mNeg_ev, mNil_ev, mCons_ev, mTup_ev, mLst_ev, mCall_ev, mIsi_ev, mApp_ev, mAllWh_ev, mSl_ev, mNoP_ev, mPart_ev, mFor_ev, mItA_ev, mItE_ev, mLc_ev, mYes_ev, add_ev, sub_ev, lt_ev, le_ev, gt_ev, ge_ev, eqi_ev, eqs_ev, eqb_ev, eqn_ev, nei_ev, nes_ev, lenT_ev, abs_ev, int_ev, intb_ev, ixM, atP, ixN, setl, setLO, bindG, mgName, mgTup, mgCons, mgNil, mulM, o1, o2, o3]

theorem index_ev {S : Sto} {i m : Int} : m_is_index [.int i, .int m] S = .ok (.bl (decide (0 ≤ i) && decide (i < m))) S := by
  have w := whole_ev (S := S) (x := .int i) rfl
  unfold m_is_index
  by_cases h1 : 0 ≤ i
  · simp -implicitDefEqProofs [callD_ev, mSeq_ev, mIf_ev, mRet_ev, mExp_ev, mAsgN_ev, mAsg_ev, mPar_ev, mPar3_ev, mSetL_ev, mNx_ev, mBk_ev, mCt_ev, mRetN_ev, mRaise_ev, m2_ev, mC_ev, mVar, mTst_ev, mTru_ev, mCh_ev, mIsN_ev, mAndT_ev, mOrT_ev, mNotT_ev, mAndV_ev, mOrV_ev, mNotV_ev, mIfE_ev, mNeg_ev, mNil_ev, mCons_ev, mTup_ev, mLst_ev, mCall_ev, mIsi_ev, mApp_ev, mAllWh_ev, mSl_ev, mNoP_ev, mPart_ev, mFor_ev, mItA_ev, mItE_ev, mLc_ev, mYes_ev, add_ev, sub_ev, lt_ev, le_ev, gt_ev, ge_ev, eqi_ev, eqs_ev, eqb_ev, eqn_ev, nei_ev, nes_ev, lenT_ev, abs_ev, int_ev, intb_ev, ixM, atP, ixN, setl, setLO, bindG, mgName, mgTup, mgCons, mgNil, w, isW, h1]
  · simp -implicitDefEqProofs [callD_ev, mSeq_ev, mIf_ev, mRet_ev, mExp_ev, mAsgN_ev, mAsg_ev, mPar_ev, mPar3_ev, mSetL_ev, mNx_ev, mBk_ev, mCt_ev, mRetN_ev, mRaise_ev, m2_ev, mC_ev, mVar, mTst_ev, mTru_ev, mCh_ev, mIsN_ev, mAndT_ev, mOrT_ev, mNotT_ev, mAndV_ev, mOrV_ev, mNotV_ev, mIfE_ev, mNeg_ev, mNil_ev, mCons_ev, mTup_ev, mLst_ev, mCall_ev, mIsi_ev, mApp_ev, mAllWh_ev, mSl_ev, mNoP_ev, mPart_ev, mFor_ev, mItA_ev, mItE_ev, mLc_ev, mYes_ev, add_ev, sub_ev, lt_ev, le_ev, gt_ev, ge_ev, eqi_ev, eqs_ev, eqb_ev, eqn_ev, nei_ev, nes_ev, lenT_ev, abs_ev, int_ev, intb_ev, ixM, atP, ixN, setl, setLO, bindG, mgName, mgTup, mgCons, mgNil, w, isW, h1]
/-- an equation in one form -/
def EqF (c b a : Int) : Prop := 0 < a ∧ Nat.gcd (Nat.gcd c.natAbs b.natAbs) a.natAbs = 1 ∧ 0 < b * b - 4 * a * c ∧ ¬ isSq (b * b - 4 * a * c)
theorem equation_yes {S : Sto} {c b a : Int} (h : EqF c b a) (hc : c.natAbs < 2 ^ 2000) (hb : b.natAbs < 2 ^ 2000) (ha : a.natAbs < 2 ^ 2000) : m_is_equation [.tup [.int c, .int b, .int a]] S = .ok (.bl true) S := by
  obtain ⟨h1, h2, h3, h4⟩ := h
  have d := fun T => disc_ev (S := T) hc hb ha
  have f := fun T => field_yes (S := T) (.inr ⟨h3, h4⟩) (up (2000 + 2000 + 4) (disc_size hc hb ha))
  have i1 := isi_ev (T := "tuple") (x := .tup [.int c, .int b, .int a]) (S := S) rfl
  have h5 : ¬ a ≤ 0 := by omega
  have h6 : 4 * a * c < b * b := by omega
  unfold m_is_equation
  simp -implicitDefEqProofs [callD_ev, mSeq_ev, mIf_ev, mRet_ev, mExp_ev, mAsgN_ev, mAsg_ev, mPar_ev, mPar3_ev, mSetL_ev, mNx_ev, mBk_ev, mCt_ev, mRetN_ev, mRaise_ev, m2_ev, mC_ev, mVar, mTst_ev, mTru_ev, mCh_ev, mIsN_ev, mAndT_ev, mOrT_ev, mNotT_ev, mAndV_ev, mOrV_ev, mNotV_ev, mIfE_ev, mNeg_ev, mNil_ev, mCons_ev, mTup_ev, mLst_ev, mCall_ev, mIsi_ev, mApp_ev, mAllWh_ev, mSl_ev, mNoP_ev, mPart_ev, mFor_ev, mItA_ev, mItE_ev, mLc_ev, mYes_ev, add_ev, sub_ev, lt_ev, le_ev, gt_ev, ge_ev, eqi_ev, eqs_ev, eqb_ev, eqn_ev, nei_ev, nes_ev, lenT_ev, abs_ev, int_ev, intb_ev, ixM, atP, ixN, setl, setLO, bindG, mgName, mgTup, mgCons, mgNil, d, f, i1, whsP, whP, gcd3M, h2, h6, h5, truthM]
theorem number_root {S : Sto} {c b a w : Int} (h : EqF c b a) (hc : c.natAbs < 2 ^ 2000) (hb : b.natAbs < 2 ^ 2000) (ha : a.natAbs < 2 ^ 2000) (hw : 0 ≤ w ∧ w < 2) : m_is_number [.tup [.str "root", .tup [.int c, .int b, .int a], .int w]] S = .ok (.bl true) S := by
  have e := fun T => equation_yes (S := T) h hc hb ha
  have i1 := isi_ev (T := "tuple") (x := .tup [.str "root", .tup [.int c, .int b, .int a], .int w]) (S := S) rfl
  have i2 := isi_ev (T := "str") (x := .str "root") (S := S) rfl
  have ix := fun T => index_ev (S := T) (i := w) (m := 2)
  have ne : ¬ (("root" : Str) = "rational") := by decide
  unfold m_is_number
  simp -implicitDefEqProofs [callD_ev, mSeq_ev, mIf_ev, mRet_ev, mExp_ev, mAsgN_ev, mAsg_ev, mPar_ev, mPar3_ev, mSetL_ev, mNx_ev, mBk_ev, mCt_ev, mRetN_ev, mRaise_ev, m2_ev, mC_ev, mVar, mTst_ev, mTru_ev, mCh_ev, mIsN_ev, mAndT_ev, mOrT_ev, mNotT_ev, mAndV_ev, mOrV_ev, mNotV_ev, mIfE_ev, mNeg_ev, mNil_ev, mCons_ev, mTup_ev, mLst_ev, mCall_ev, mIsi_ev, mApp_ev, mAllWh_ev, mSl_ev, mNoP_ev, mPart_ev, mFor_ev, mItA_ev, mItE_ev, mLc_ev, mYes_ev, add_ev, sub_ev, lt_ev, le_ev, gt_ev, ge_ev, eqi_ev, eqs_ev, eqb_ev, eqn_ev, nei_ev, nes_ev, lenT_ev, abs_ev, int_ev, intb_ev, ixM, atP, ixN, setl, setLO, bindG, mgName, mgTup, mgCons, mgNil, e, i1, i2, ix, ne, hw.1, hw.2, truthM]
theorem number_rat {S : Sto} {q : Q2} (h : Nrm q) : m_is_number [.tup [.str "rational", pq q]] S = .ok (.bl true) S := by
  have e := rat_two (S := S) (a := .int q.1) (b := .int q.2) rfl rfl
  have i1 := isi_ev (T := "tuple") (x := .tup [.str "rational", pq q]) (S := S) rfl
  have i2 := isi_ev (T := "str") (x := .str "rational") (S := S) rfl
  have r : isRat (.tup [.int q.1, .int q.2]) = true := by
    show (decide (1 ≤ q.2) && decide (Nat.gcd q.1.natAbs q.2.natAbs = 1)) = true
    rw [decide_eq_true h.1, decide_eq_true h.2]
    rfl
  rw [r] at e
  unfold m_is_number
  unfold pq at *
  simp -implicitDefEqProofs [callD_ev, mSeq_ev, mIf_ev, mRet_ev, mExp_ev, mAsgN_ev, mAsg_ev, mPar_ev, mPar3_ev, mSetL_ev, mNx_ev, mBk_ev, mCt_ev, mRetN_ev, mRaise_ev, m2_ev, mC_ev, mVar, mTst_ev, mTru_ev, mCh_ev, mIsN_ev, mAndT_ev, mOrT_ev, mNotT_ev, mAndV_ev, mOrV_ev, mNotV_ev, mIfE_ev, mNeg_ev, mNil_ev, mCons_ev, mTup_ev, mLst_ev, mCall_ev, mIsi_ev, mApp_ev, mAllWh_ev, mSl_ev, mNoP_ev, mPart_ev, mFor_ev, mItA_ev, mItE_ev, mLc_ev, mYes_ev, add_ev, sub_ev, lt_ev, le_ev, gt_ev, ge_ev, eqi_ev, eqs_ev, eqb_ev, eqn_ev, nei_ev, nes_ev, lenT_ev, abs_ev, int_ev, intb_ev, ixM, atP, ixN, setl, setLO, bindG, mgName, mgTup, mgCons, mgNil, e, i1, i2, truthM]
theorem check_yes {S : Sto} {x : PV} {z : Str} (h : m_is_number [x] S = .ok (.bl true) S) : m_check_number [x, .str z] S = .ok .non S := by
  unfold m_check_number
  simp -implicitDefEqProofs [callD_ev, mSeq_ev, mIf_ev, mRet_ev, mExp_ev, mAsgN_ev, mAsg_ev, mPar_ev, mPar3_ev, mSetL_ev, mNx_ev, mBk_ev, mCt_ev, mRetN_ev, mRaise_ev, m2_ev, mC_ev, mVar, mTst_ev, mTru_ev, mCh_ev, mIsN_ev, mAndT_ev, mOrT_ev, mNotT_ev, mAndV_ev, mOrV_ev, mNotV_ev, mIfE_ev, mNeg_ev, mNil_ev, mCons_ev, mTup_ev, mLst_ev, mCall_ev, mIsi_ev, mApp_ev, mAllWh_ev, mSl_ev, mNoP_ev, mPart_ev, mFor_ev, mItA_ev, mItE_ev, mLc_ev, mYes_ev, add_ev, sub_ev, lt_ev, le_ev, gt_ev, ge_ev, eqi_ev, eqs_ev, eqb_ev, eqn_ev, nei_ev, nes_ev, lenT_ev, abs_ev, int_ev, intb_ev, ixM, atP, ixN, setl, setLO, bindG, mgName, mgTup, mgCons, mgNil, h, truthM]
theorem check_no {S : Sto} {x : PV} {z : Str} (h : m_is_number [x] S = .ok (.bl false) S) : m_check_number [x, .str z] S = .er "BadValue" [("name", .str z)] S := by
  unfold m_check_number
  simp -implicitDefEqProofs [callD_ev, mSeq_ev, mIf_ev, mRet_ev, mExp_ev, mAsgN_ev, mAsg_ev, mPar_ev, mPar3_ev, mSetL_ev, mNx_ev, mBk_ev, mCt_ev, mRetN_ev, mRaise_ev, m2_ev, mC_ev, mVar, mTst_ev, mTru_ev, mCh_ev, mIsN_ev, mAndT_ev, mOrT_ev, mNotT_ev, mAndV_ev, mOrV_ev, mNotV_ev, mIfE_ev, mNeg_ev, mNil_ev, mCons_ev, mTup_ev, mLst_ev, mCall_ev, mIsi_ev, mApp_ev, mAllWh_ev, mSl_ev, mNoP_ev, mPart_ev, mFor_ev, mItA_ev, mItE_ev, mLc_ev, mYes_ev, add_ev, sub_ev, lt_ev, le_ev, gt_ev, ge_ev, eqi_ev, eqs_ev, eqb_ev, eqn_ev, nei_ev, nes_ev, lenT_ev, abs_ev, int_ev, intb_ev, ixM, atP, ixN, setl, setLO, bindG, mgName, mgTup, mgCons, mgNil, h, truthM]

theorem wsign_ev {S : Sto} {n : Int} : m_whole_sign [.int n] S = .ok (.int n.sign) S := by
  unfold m_whole_sign
  rcases Int.lt_trichotomy n 0 with h | h | h
  · have h1 : ¬ n = 0 := by omega
    have h2 : ¬ 0 < n := by omega
    simp -implicitDefEqProofs [callD_ev, mSeq_ev, mIf_ev, mRet_ev, mExp_ev, mAsgN_ev, mAsg_ev, mPar_ev, mPar3_ev, mSetL_ev, mNx_ev, mBk_ev, mCt_ev, mRetN_ev, mRaise_ev, m2_ev, mC_ev, mVar, mTst_ev, mTru_ev, mCh_ev, mIsN_ev, mAndT_ev, mOrT_ev, mNotT_ev, mAndV_ev, mOrV_ev, mNotV_ev, mIfE_ev, mNeg_ev, mNil_ev, mCons_ev, mTup_ev, mLst_ev, mCall_ev, mIsi_ev, mApp_ev, mAllWh_ev, mSl_ev, mNoP_ev, mPart_ev, mFor_ev, mItA_ev, mItE_ev, mLc_ev, mYes_ev, add_ev, sub_ev, lt_ev, le_ev, gt_ev, ge_ev, eqi_ev, eqs_ev, eqb_ev, eqn_ev, nei_ev, nes_ev, lenT_ev, abs_ev, int_ev, intb_ev, ixM, atP, ixN, setl, setLO, bindG, mgName, mgTup, mgCons, mgNil, h1, h2, Int.sign_eq_neg_one_of_neg h]
  · subst h
    simp -implicitDefEqProofs [callD_ev, mSeq_ev, mIf_ev, mRet_ev, mExp_ev, mAsgN_ev, mAsg_ev, mPar_ev, mPar3_ev, mSetL_ev, mNx_ev, mBk_ev, mCt_ev, mRetN_ev, mRaise_ev, m2_ev, mC_ev, mVar, mTst_ev, mTru_ev, mCh_ev, mIsN_ev, mAndT_ev, mOrT_ev, mNotT_ev, mAndV_ev, mOrV_ev, mNotV_ev, mIfE_ev, mNeg_ev, mNil_ev, mCons_ev, mTup_ev, mLst_ev, mCall_ev, mIsi_ev, mApp_ev, mAllWh_ev, mSl_ev, mNoP_ev, mPart_ev, mFor_ev, mItA_ev, mItE_ev, mLc_ev, mYes_ev, add_ev, sub_ev, lt_ev, le_ev, gt_ev, ge_ev, eqi_ev, eqs_ev, eqb_ev, eqn_ev, nei_ev, nes_ev, lenT_ev, abs_ev, int_ev, intb_ev, ixM, atP, ixN, setl, setLO, bindG, mgName, mgTup, mgCons, mgNil]
  · have h1 : ¬ n = 0 := by omega
    simp -implicitDefEqProofs [callD_ev, mSeq_ev, mIf_ev, mRet_ev, mExp_ev, mAsgN_ev, mAsg_ev, mPar_ev, mPar3_ev, mSetL_ev, mNx_ev, mBk_ev, mCt_ev, mRetN_ev, mRaise_ev, m2_ev, mC_ev, mVar, mTst_ev, mTru_ev, mCh_ev, mIsN_ev, mAndT_ev, mOrT_ev, mNotT_ev, mAndV_ev, mOrV_ev, mNotV_ev, mIfE_ev, mNeg_ev, mNil_ev, mCons_ev, mTup_ev, mLst_ev, mCall_ev, mIsi_ev, mApp_ev, mAllWh_ev, mSl_ev, mNoP_ev, mPart_ev, mFor_ev, mItA_ev, mItE_ev, mLc_ev, mYes_ev, add_ev, sub_ev, lt_ev, le_ev, gt_ev, ge_ev, eqi_ev, eqs_ev, eqb_ev, eqn_ev, nei_ev, nes_ev, lenT_ev, abs_ev, int_ev, intb_ev, ixM, atP, ixN, setl, setLO, bindG, mgName, mgTup, mgCons, mgNil, h1, h, Int.sign_eq_one_of_pos h]
theorem loosened_ev {S : Sto} {x y : Q2} (sx : Sm 2500 x) (sy : Sm 2500 y) : ∃ p q : Int, 0 < p ∧ 0 < q ∧ p * x.2 = q * y.2 ∧ p.natAbs < 2 ^ 5000 ∧ q.natAbs < 2 ^ 5000 ∧ ∀ T, m_loosened [.tup [pq x, pq y]] T = .ok (.tup [.int (x.1 * p), .int (y.1 * q), .int (p * x.2)]) T := by
  obtain ⟨n, d⟩ := x
  obtain ⟨k, e⟩ := y
  obtain ⟨d1, nb, db⟩ := sx
  obtain ⟨e1, kb, eb⟩ := sy
  dsimp only at *
  by_cases hde : d = e
  · subst hde
    refine ⟨1, 1, by omega, by omega, rfl, by decide, by decide, fun T => ?_⟩
    unfold m_loosened
    simp -implicitDefEqProofs [callD_ev, mSeq_ev, mIf_ev, mRet_ev, mExp_ev, mAsgN_ev, mAsg_ev, mPar_ev, mPar3_ev, mSetL_ev, mNx_ev, mBk_ev, mCt_ev, mRetN_ev, mRaise_ev, m2_ev, mC_ev, mVar, mTst_ev, mTru_ev, mCh_ev, mIsN_ev, mAndT_ev, mOrT_ev, mNotT_ev, mAndV_ev, mOrV_ev, mNotV_ev, mIfE_ev, mNeg_ev, mNil_ev, mCons_ev, mTup_ev, mLst_ev, mCall_ev, mIsi_ev, mApp_ev, mAllWh_ev, mSl_ev, mNoP_ev, mPart_ev, mFor_ev, mItA_ev, mItE_ev, mLc_ev, mYes_ev, add_ev, sub_ev, lt_ev, le_ev, gt_ev, ge_ev, eqi_ev, eqs_ev, eqb_ev, eqn_ev, nei_ev, nes_ev, lenT_ev, abs_ev, int_ev, intb_ev, ixM, atP, ixN, setl, setLO, bindG, mgName, mgTup, mgCons, mgNil, pq]
  · have hl1 : (d.natAbs : Nat) ∣ Nat.lcm d.natAbs e.natAbs := Nat.dvd_lcm_left _ _
    have hl2 : (e.natAbs : Nat) ∣ Nat.lcm d.natAbs e.natAbs := Nat.dvd_lcm_right _ _
    have hlp : 0 < Nat.lcm d.natAbs e.natAbs := Nat.lcm_pos (by omega) (by omega)
    have hls : Nat.lcm d.natAbs e.natAbs < 2 ^ 5000 := lcm_size db eb
    obtain ⟨p, hp⟩ := hl1
    obtain ⟨q, hq⟩ := hl2
    have ed : (d.natAbs : Int) = d := by omega
    have ee : (e.natAbs : Int) = e := by omega
    have hp' : ((Nat.lcm d.natAbs e.natAbs : Nat) : Int) = d * (p : Int) := by rw [hp, Int.natCast_mul, ed]
    have hq' : ((Nat.lcm d.natAbs e.natAbs : Nat) : Int) = e * (q : Int) := by rw [hq, Int.natCast_mul, ee]
    have pp : 0 < p := by
      rcases Nat.eq_zero_or_pos p with h | h
      · rw [h] at hp; omega
      · exact h
    have pq' : 0 < q := by
      rcases Nat.eq_zero_or_pos q with h | h
      · rw [h] at hq; omega
      · exact h
    have pb : p < 2 ^ 5000 := by
      have : p * 1 ≤ p * d.natAbs := Nat.mul_le_mul_left p (by omega)
      rw [Nat.mul_comm p d.natAbs, ← hp] at this
      omega
    have qb : q < 2 ^ 5000 := by
      have : q * 1 ≤ q * e.natAbs := Nat.mul_le_mul_left q (by omega)
      rw [Nat.mul_comm q e.natAbs, ← hq] at this
      omega
    have o1 : mulOk n (p : Int) = true := mulOk_b nb (by simpa using pb)
    have o2 : mulOk k (q : Int) = true := mulOk_b kb (by simpa using qb)
    have ld := log_b db
    have le := log_b eb
    have v1 : ∀ T, fdivM (.int ((Nat.lcm d.natAbs e.natAbs : Nat) : Int)) (.int d) T = .ok (.int (p : Int)) T := fun T => by
      rw [div_ev (by omega) ld, hp', Int.mul_ediv_cancel_left _ (by omega)]
    have v2 : ∀ T, fdivM (.int ((Nat.lcm d.natAbs e.natAbs : Nat) : Int)) (.int e) T = .ok (.int (q : Int)) T := fun T => by
      rw [div_ev (by omega) le, hq', Int.mul_ediv_cancel_left _ (by omega)]
    have lm : ∀ T, lcmM [.int d, .int e] T = .ok (.int ((Nat.lcm d.natAbs e.natAbs : Nat) : Int)) T := fun T => by
      unfold lcmM
      exact if_pos ⟨up 2500 db, up 2500 eb⟩
    refine ⟨p, q, by omega, by omega, by rw [Int.mul_comm, ← hp', hq', Int.mul_comm], by simpa using pb, by simpa using qb, fun T => ?_⟩
    rw [Int.mul_comm (p : Int) d, ← hp']
    unfold m_loosened
    simp -implicitDefEqProofs [callD_ev, mSeq_ev, mIf_ev, mRet_ev, mExp_ev, mAsgN_ev, mAsg_ev, mPar_ev, mPar3_ev, mSetL_ev, mNx_ev, mBk_ev, mCt_ev, mRetN_ev, mRaise_ev, m2_ev, mC_ev, mVar, mTst_ev, mTru_ev, mCh_ev, mIsN_ev, mAndT_ev, mOrT_ev, mNotT_ev, mAndV_ev, mOrV_ev, mNotV_ev, mIfE_ev, mNeg_ev, mNil_ev, mCons_ev, mTup_ev, mLst_ev, mCall_ev, mIsi_ev, mApp_ev, mAllWh_ev, mSl_ev, mNoP_ev, mPart_ev, mFor_ev, mItA_ev, mItE_ev, mLc_ev, mYes_ev, add_ev, sub_ev, lt_ev, le_ev, gt_ev, ge_ev, eqi_ev, eqs_ev, eqb_ev, eqn_ev, nei_ev, nes_ev, lenT_ev, abs_ev, int_ev, intb_ev, ixM, atP, ixN, setl, setLO, bindG, mgName, mgTup, mgCons, mgNil, pq, hde, lm, v1, v2, mulM, o1, o2]
theorem loose_ev {S : Sto} {f n k r : Int} (hf : f.natAbs < 2 ^ 9000) (hn : n.natAbs < 2 ^ 9000) (hk : k.natAbs < 2 ^ 9000) :
    m_loose_sign [.int f, .tup [.int n, .int k, .int r]] S = .ok (.int (if k.sign = 0 ∨ n.sign = k.sign then n.sign else if n.sign = 0 then k.sign else n.sign * (n * n - f * k * k).sign)) S := by
  have w := fun (i : Int) T => wsign_ev (S := T) (n := i)
  have o1 : mulOk n n = true := mulOk_b hn hn
  have o2 : mulOk f k = true := mulOk_b hf hk
  have o3 : mulOk (f * k) k = true := mulOk_b (a := 18000) (mul_up 9000 9000 hf hk (by decide)) hk
  have s1 : n.sign.natAbs < 2 ^ 63 := by
    rcases Int.lt_trichotomy n 0 with h | h | h
    · rw [Int.sign_eq_neg_one_of_neg h]; decide
    · rw [h]; decide
    · rw [Int.sign_eq_one_of_pos h]; decide
  have o4 : ∀ i : Int, mulOk n.sign i = true := fun i => mulOk_l s1
  unfold m_loose_sign
  by_cases h1 : k.sign = 0
  · simp -implicitDefEqProofs [callD_ev, mSeq_ev, mIf_ev, mRet_ev, mExp_ev, mAsgN_ev, mAsg_ev, mPar_ev, mPar3_ev, mSetL_ev, mNx_ev, mBk_ev, mCt_ev, mRetN_ev, mRaise_ev, m2_ev, mC_ev, mVar, mTst_ev, mTru_ev, mCh_ev, mIsN_ev, mAndT_ev, mOrT_ev, mNotT_ev, mAndV_ev, mOrV_ev, mNotV_ev, mIfE_ev, mNeg_ev, mNil_ev, mCons_ev, mTup_ev, mLst_ev, mCall_ev, mIsi_ev, mApp_ev, mAllWh_ev, mSl_ev, mNoP_ev, mPart_ev, mFor_ev, mItA_ev, mItE_ev, mLc_ev, mYes_ev, add_ev, sub_ev, lt_ev, le_ev, gt_ev, ge_ev, eqi_ev, eqs_ev, eqb_ev, eqn_ev, nei_ev, nes_ev, lenT_ev, abs_ev, int_ev, intb_ev, ixM, atP, ixN, setl, setLO, bindG, mgName, mgTup, mgCons, mgNil, w, h1]
  · by_cases h2 : n.sign = k.sign
    · simp -implicitDefEqProofs [callD_ev, mSeq_ev, mIf_ev, mRet_ev, mExp_ev, mAsgN_ev, mAsg_ev, mPar_ev, mPar3_ev, mSetL_ev, mNx_ev, mBk_ev, mCt_ev, mRetN_ev, mRaise_ev, m2_ev, mC_ev, mVar, mTst_ev, mTru_ev, mCh_ev, mIsN_ev, mAndT_ev, mOrT_ev, mNotT_ev, mAndV_ev, mOrV_ev, mNotV_ev, mIfE_ev, mNeg_ev, mNil_ev, mCons_ev, mTup_ev, mLst_ev, mCall_ev, mIsi_ev, mApp_ev, mAllWh_ev, mSl_ev, mNoP_ev, mPart_ev, mFor_ev, mItA_ev, mItE_ev, mLc_ev, mYes_ev, add_ev, sub_ev, lt_ev, le_ev, gt_ev, ge_ev, eqi_ev, eqs_ev, eqb_ev, eqn_ev, nei_ev, nes_ev, lenT_ev, abs_ev, int_ev, intb_ev, ixM, atP, ixN, setl, setLO, bindG, mgName, mgTup, mgCons, mgNil, w, h1, h2]
    · by_cases h3 : n.sign = 0
      · have h4 : ¬ 0 = k.sign := by omega
        simp -implicitDefEqProofs [callD_ev, mSeq_ev, mIf_ev, mRet_ev, mExp_ev, mAsgN_ev, mAsg_ev, mPar_ev, mPar3_ev, mSetL_ev, mNx_ev, mBk_ev, mCt_ev, mRetN_ev, mRaise_ev, m2_ev, mC_ev, mVar, mTst_ev, mTru_ev, mCh_ev, mIsN_ev, mAndT_ev, mOrT_ev, mNotT_ev, mAndV_ev, mOrV_ev, mNotV_ev, mIfE_ev, mNeg_ev, mNil_ev, mCons_ev, mTup_ev, mLst_ev, mCall_ev, mIsi_ev, mApp_ev, mAllWh_ev, mSl_ev, mNoP_ev, mPart_ev, mFor_ev, mItA_ev, mItE_ev, mLc_ev, mYes_ev, add_ev, sub_ev, lt_ev, le_ev, gt_ev, ge_ev, eqi_ev, eqs_ev, eqb_ev, eqn_ev, nei_ev, nes_ev, lenT_ev, abs_ev, int_ev, intb_ev, ixM, atP, ixN, setl, setLO, bindG, mgName, mgTup, mgCons, mgNil, w, h1, h3, h4]
      · simp -implicitDefEqProofs [callD_ev, mSeq_ev, mIf_ev, mRet_ev, mExp_ev, mAsgN_ev, mAsg_ev, mPar_ev, mPar3_ev, mSetL_ev, mNx_ev, mBk_ev, mCt_ev, mRetN_ev, mRaise_ev, m2_ev, mC_ev, mVar, mTst_ev, mTru_ev, mCh_ev, mIsN_ev, mAndT_ev, mOrT_ev, mNotT_ev, mAndV_ev, mOrV_ev, mNotV_ev, mIfE_ev, mNeg_ev, mNil_ev, mCons_ev, mTup_ev, mLst_ev, mCall_ev, mIsi_ev, mApp_ev, mAllWh_ev, mSl_ev, mNoP_ev, mPart_ev, mFor_ev, mItA_ev, mItE_ev, mLc_ev, mYes_ev, add_ev, sub_ev, lt_ev, le_ev, gt_ev, ge_ev, eqi_ev, eqs_ev, eqb_ev, eqn_ev, nei_ev, nes_ev, lenT_ev, abs_ev, int_ev, intb_ev, ixM, atP, ixN, setl, setLO, bindG, mgName, mgTup, mgCons, mgNil, w, h1, h2, h3, mulM, o1, o2, o3, o4]

theorem lo_unit {s d : Int} (hs : s = 1 ∨ s = -1) (hd : 1 ≤ d) : lo1 s d = s ∧ lo2 s d = d := by
  have h1 : sg s d = 1 := sg_one hd (by rcases hs with rfl | rfl <;> simp)
  unfold lo1 lo2
  rw [h1]
  simp
/-- the halves of a root's element -/
def elX (b a : Int) : Q2 := (lo1 (-b) (2 * a), lo2 (-b) (2 * a))
def elY (w a : Int) : Q2 := (if w = 1 then 1 else -1, 2 * a)
theorem element_root {S : Sto} {c b a w : Int} (h : EqF c b a) (hc : c.natAbs < 2 ^ 1000) (hb : b.natAbs < 2 ^ 1000) (ha : a.natAbs < 2 ^ 1000) (hw : 0 ≤ w ∧ w < 2) :
    m_element_of [.tup [.str "root", .tup [.int c, .int b, .int a], .int w]] S = .ok (.tup [.int (b * b - 4 * a * c), .tup [pq (elX b a), pq (elY w a)]]) S := by
  have n1 := fun T => check_yes (z := "number") (number_root (S := T) h (up 1000 hc) (up 1000 hb) (up 1000 ha) hw)
  have d1 := fun T => disc_ev (S := T) (up 1000 hc) (up 1000 hb) (up 1000 ha)
  have h2 : (2 * a).natAbs < 2 ^ 1001 := by rw [Int.natAbs_mul, show (2 : Int).natAbs = 2 from rfl, Nat.pow_succ]; omega
  have h0 : 2 * a ≠ 0 := by have := h.1; omega
  have r1 := fun (n : Int) T => ratio_ev (S := T) (n := n) h0 (up 1001 h2)
  have o : mulOk 2 a = true := mulOk_l (by decide)
  have ne : ¬ (("root" : Str) = "rational") := by decide
  unfold m_element_of
  by_cases h1 : w = 1
  · subst h1
    have l := lo_unit (s := 1) (d := 2 * a) (.inl rfl) (by have := h.1; omega)
    simp -implicitDefEqProofs [callD_ev, mSeq_ev, mIf_ev, mRet_ev, mExp_ev, mAsgN_ev, mAsg_ev, mPar_ev, mPar3_ev, mSetL_ev, mNx_ev, mBk_ev, mCt_ev, mRetN_ev, mRaise_ev, m2_ev, mC_ev, mVar, mTst_ev, mTru_ev, mCh_ev, mIsN_ev, mAndT_ev, mOrT_ev, mNotT_ev, mAndV_ev, mOrV_ev, mNotV_ev, mIfE_ev, mNeg_ev, mNil_ev, mCons_ev, mTup_ev, mLst_ev, mCall_ev, mIsi_ev, mApp_ev, mAllWh_ev, mSl_ev, mNoP_ev, mPart_ev, mFor_ev, mItA_ev, mItE_ev, mLc_ev, mYes_ev, add_ev, sub_ev, lt_ev, le_ev, gt_ev, ge_ev, eqi_ev, eqs_ev, eqb_ev, eqn_ev, nei_ev, nes_ev, lenT_ev, abs_ev, int_ev, intb_ev, ixM, atP, ixN, setl, setLO, bindG, mgName, mgTup, mgCons, mgNil, n1, ne, d1, r1, mulM, o, elX, elY, pq, l.1, l.2]
  · have l := lo_unit (s := -1) (d := 2 * a) (.inr rfl) (by have := h.1; omega)
    simp -implicitDefEqProofs [callD_ev, mSeq_ev, mIf_ev, mRet_ev, mExp_ev, mAsgN_ev, mAsg_ev, mPar_ev, mPar3_ev, mSetL_ev, mNx_ev, mBk_ev, mCt_ev, mRetN_ev, mRaise_ev, m2_ev, mC_ev, mVar, mTst_ev, mTru_ev, mCh_ev, mIsN_ev, mAndT_ev, mOrT_ev, mNotT_ev, mAndV_ev, mOrV_ev, mNotV_ev, mIfE_ev, mNeg_ev, mNil_ev, mCons_ev, mTup_ev, mLst_ev, mCall_ev, mIsi_ev, mApp_ev, mAllWh_ev, mSl_ev, mNoP_ev, mPart_ev, mFor_ev, mItA_ev, mItE_ev, mLc_ev, mYes_ev, add_ev, sub_ev, lt_ev, le_ev, gt_ev, ge_ev, eqi_ev, eqs_ev, eqb_ev, eqn_ev, nei_ev, nes_ev, lenT_ev, abs_ev, int_ev, intb_ev, ixM, atP, ixN, setl, setLO, bindG, mgName, mgTup, mgCons, mgNil, n1, ne, d1, r1, mulM, o, h1, elX, elY, pq, l.1, l.2]
theorem element_rat {S : Sto} {q : Q2} (h : Nrm q) : m_element_of [.tup [.str "rational", pq q]] S = .ok (.tup [.int 0, .tup [pq q, pq (0, 1)]]) S := by
  have n1 := fun T => check_yes (z := "number") (number_rat (S := T) h)
  unfold m_element_of
  simp -implicitDefEqProofs [callD_ev, mSeq_ev, mIf_ev, mRet_ev, mExp_ev, mAsgN_ev, mAsg_ev, mPar_ev, mPar3_ev, mSetL_ev, mNx_ev, mBk_ev, mCt_ev, mRetN_ev, mRaise_ev, m2_ev, mC_ev, mVar, mTst_ev, mTru_ev, mCh_ev, mIsN_ev, mAndT_ev, mOrT_ev, mNotT_ev, mAndV_ev, mOrV_ev, mNotV_ev, mIfE_ev, mNeg_ev, mNil_ev, mCons_ev, mTup_ev, mLst_ev, mCall_ev, mIsi_ev, mApp_ev, mAllWh_ev, mSl_ev, mNoP_ev, mPart_ev, mFor_ev, mItA_ev, mItE_ev, mLc_ev, mYes_ev, add_ev, sub_ev, lt_ev, le_ev, gt_ev, ge_ev, eqi_ev, eqs_ev, eqb_ev, eqn_ev, nei_ev, nes_ev, lenT_ev, abs_ev, int_ev, intb_ev, ixM, atP, ixN, setl, setLO, bindG, mgName, mgTup, mgCons, mgNil, n1, c_ZERO]
  rfl
theorem eq2_ev {S : Sto} {a b c d : Int} : eqM (.tup [.int a, .int b]) (.tup [.int c, .int d]) S = .ok (.bl (decide (a = c ∧ b = d))) S := by
  show eqvM false (.tup [.int a, .int b]) (.tup [.int c, .int d]) S = _
  have p : ∀ i j : Int, pd S 200 (.tup [.int i, .int j]) = some (.tuple [.int i, .int j]) := fun i j => rfl
  have s : ∀ i j : Int, SeqAt.shaped (.tuple [.int i, .int j]) = true := fun i j => rfl
  unfold eqvM
  rw [p, p]
  show (if SeqAt.shaped (.tuple [.int a, .int b]) = true ∧ SeqAt.shaped (.tuple [.int c, .int d]) = true then _ else _) = _
  rw [if_pos ⟨s _ _, s _ _⟩, eqv_ints]
  rfl

theorem lratio_ev {S : Sto} {s l : Nat} {ns : List Int} {c k t m : Int} (hs : S[s]? = some (.lst [.cell l, .int c, .int k])) (hl : S[l]? = some (.lst (ns.map PV.int))) (hk : 0 ≤ k) (ht : 0 < t) (hm : 0 < m) (tb : t.natAbs < 2 ^ 1000) (mb : m.natAbs < 2 ^ 1000) :
    ∃ (q : Q2) (c' k' : Int), Nrm q ∧ q.1.natAbs ≤ t.natAbs ∧ q.2.natAbs ≤ m.natAbs ∧ 0 ≤ k' ∧ m_l_ratio [.cell s, .int t, .int m] S = .ok (pq q) (S.set s (.lst [.cell l, .int c', .int k'])) := by
  have hlt : s < S.length := (List.getElem?_eq_some_iff.mp hs).1
  have nsl : s ≠ l := by
    rintro rfl
    rw [hs] at hl
    cases ns with
    | nil => simp at hl
    | cons n r => simp at hl
  have t2 : (2 * t + 1).natAbs < 2 ^ 1002 := by
    have e : (2 : Nat) ^ 1002 = 2 ^ 1000 * 4 := by rw [show 1002 = 1000 + 2 from rfl, Nat.pow_add]
    have : (2 * t + 1).natAbs < 2 ^ 1000 * 4 := by omega
    rw [e]
    exact this
  obtain ⟨d1, c1, k1, a1, b1, h1, e1⟩ := next_ev (m := 2 * t + 1) hs hl hk (by omega) (log_b t2)
  obtain ⟨d2, c2, k2, a2, b2, h2, e2⟩ := next_ev (S := S.set s (.lst [.cell l, .int c1, .int k1])) (m := m) (List.getElem?_set_self hlt) (by rw [List.getElem?_set_ne nsl]; exact hl) h1 hm (log_b mb)
  have n0 : (1 + d2) ≠ 0 := by omega
  have lw := fun T => low_ev (S := T) (n := d1 - t) (d := 1 + d2) n0 (up 1000 (by omega)) (up 1000 (by omega))
  refine ⟨(lo1 (d1 - t) (1 + d2), lo2 (d1 - t) (1 + d2)), c2, k2, lo_nrm n0, ?_, ?_, h2, ?_⟩
  · exact Nat.le_trans (lo1_size n0) (by omega)
  · exact Nat.le_trans (lo2_size n0) (by omega)
  · have o : mulOk 2 t = true := mulOk_l (by decide)
    rw [List.set_set] at e2
    unfold m_l_ratio
    simp -implicitDefEqProofs [callD_ev, mSeq_ev, mIf_ev, mRet_ev, mExp_ev, mAsgN_ev, mAsg_ev, mPar_ev, mPar3_ev, mSetL_ev, mNx_ev, mBk_ev, mCt_ev, mRetN_ev, mRaise_ev, m2_ev, mC_ev, mVar, mTst_ev, mTru_ev, mCh_ev, mIsN_ev, mAndT_ev, mOrT_ev, mNotT_ev, mAndV_ev, mOrV_ev, mNotV_ev, mIfE_ev, mNeg_ev, mNil_ev, mCons_ev, mTup_ev, mLst_ev, mCall_ev, mIsi_ev, mApp_ev, mAllWh_ev, mSl_ev, mNoP_ev, mPart_ev, mFor_ev, mItA_ev, mItE_ev, mLc_ev, mYes_ev, add_ev, sub_ev, lt_ev, le_ev, gt_ev, ge_ev, eqi_ev, eqs_ev, eqb_ev, eqn_ev, nei_ev, nes_ev, lenT_ev, abs_ev, int_ev, intb_ev, ixM, atP, ixN, setl, setLO, bindG, mgName, mgTup, mgCons, mgNil, e1, e2, lw, mulM, o, pq]

theorem up_go {S : Sto} {n : Nat} (hn : n < 2 ^ 7900) : ∀ (xs : List PV) (i : Nat) (v : Option PV), i + xs.length = 4000 →
    ∃ (h : Nat) (w : Option PV), n < h * h ∧ h ≤ 2 ^ 4000 ∧ 0 < h ∧ forGo [] (mgName 3) (mSeq (mIf (mTst (m2 gtM (m2 mulM (mVar 2) (mVar 2)) (mVar 0))) mBk mNx) (mAsg (m2 mulM (mVar 2) (mC (PV.int 2))) (mgName 2))) xs [some (.int (n : Int)), some (.int 0), some (.int ((2 ^ i : Nat) : Int)), v, none] S = .nx [some (.int (n : Int)), some (.int 0), some (.int (h : Int)), w, none] S
  | [], i, v, e => by
    have : i = 4000 := by simpa using e
    subst this
    refine ⟨2 ^ 4000, v, ?_, Nat.le_refl _, Nat.two_pow_pos _, go_nil⟩
    rw [← Nat.pow_add]
    exact Nat.lt_of_lt_of_le hn (Nat.pow_le_pow_right (by decide) (by decide))
  | x :: xs, i, v, e => by
    have hi : i < 4000 := by simp at e; omega
    have hb : (((2 ^ i : Nat) : Int)).natAbs < 2 ^ 4000 := by
      rw [Int.natAbs_natCast]
      exact Nat.pow_lt_pow_right (by decide) hi
    by_cases hc : n < 2 ^ i * 2 ^ i
    · refine ⟨2 ^ i, some x, hc, Nat.pow_le_pow_right (by decide) (by omega), Nat.two_pow_pos _, ?_⟩
      generalize (2 : Nat) ^ i = h at *
      have o : mulOk (h : Int) (h : Int) = true := mulOk_b hb hb
      have hc' : (n : Int) < (h : Int) * (h : Int) := by rw [← Int.natCast_mul]; omega
      simp -implicitDefEqProofs [callD_ev, mSeq_ev, mIf_ev, mRet_ev, mExp_ev, mAsgN_ev, mAsg_ev, mPar_ev, mPar3_ev, mSetL_ev, mNx_ev, mBk_ev, mCt_ev, mRetN_ev, mRaise_ev, m2_ev, mC_ev, mVar, mTst_ev, mTru_ev, mCh_ev, mIsN_ev, mAndT_ev, mOrT_ev, mNotT_ev, mAndV_ev, mOrV_ev, mNotV_ev, mIfE_ev, mNeg_ev, mNil_ev, mCons_ev, mTup_ev, mLst_ev, mCall_ev, mIsi_ev, mApp_ev, mAllWh_ev, mSl_ev, mNoP_ev, mPart_ev, mFor_ev, mItA_ev, mItE_ev, mLc_ev, mYes_ev, add_ev, sub_ev, lt_ev, le_ev, gt_ev, ge_ev, eqi_ev, eqs_ev, eqb_ev, eqn_ev, nei_ev, nes_ev, lenT_ev, abs_ev, int_ev, intb_ev, ixM, atP, ixN, setl, setLO, bindG, mgName, mgTup, mgCons, mgNil, go_consN, mulM, o, hc']
    · obtain ⟨h, w, q1, q2, q3, q⟩ := up_go (S := S) hn xs (i + 1) (some x) (by simp at e; omega)
      refine ⟨h, w, q1, q2, q3, ?_⟩
      have e2 : ((2 ^ (i + 1) : Nat) : Int) = ((2 ^ i : Nat) : Int) * 2 := by rw [Nat.pow_succ, Int.natCast_mul]; rfl
      rw [e2] at q
      generalize (2 : Nat) ^ i = g at *
      have o : mulOk (g : Int) (g : Int) = true := mulOk_b hb hb
      have o2 : mulOk (g : Int) 2 = true := mulOk_r (by decide)
      have hc' : ¬ (n : Int) < (g : Int) * (g : Int) := by rw [← Int.natCast_mul]; omega
      rw [← q]
      simp -implicitDefEqProofs [callD_ev, mSeq_ev, mIf_ev, mRet_ev, mExp_ev, mAsgN_ev, mAsg_ev, mPar_ev, mPar3_ev, mSetL_ev, mNx_ev, mBk_ev, mCt_ev, mRetN_ev, mRaise_ev, m2_ev, mC_ev, mVar, mTst_ev, mTru_ev, mCh_ev, mIsN_ev, mAndT_ev, mOrT_ev, mNotT_ev, mAndV_ev, mOrV_ev, mNotV_ev, mIfE_ev, mNeg_ev, mNil_ev, mCons_ev, mTup_ev, mLst_ev, mCall_ev, mIsi_ev, mApp_ev, mAllWh_ev, mSl_ev, mNoP_ev, mPart_ev, mFor_ev, mItA_ev, mItE_ev, mLc_ev, mYes_ev, add_ev, sub_ev, lt_ev, le_ev, gt_ev, ge_ev, eqi_ev, eqs_ev, eqb_ev, eqn_ev, nei_ev, nes_ev, lenT_ev, abs_ev, int_ev, intb_ev, ixM, atP, ixN, setl, setLO, bindG, mgName, mgTup, mgCons, mgNil, go_consN, mulM, o, o2, hc']
theorem bi_go {S : Sto} {n : Nat} : ∀ (xs : List PV) (i lo hi : Nat) (v u : Option PV), i + xs.length = 4000 → lo * lo ≤ n → n < hi * hi → lo < hi → hi ≤ lo + 2 ^ (4000 - i) → hi ≤ 2 ^ 4000 →
    ∃ (r : Nat) (w : PSt), r * r ≤ n ∧ n < (r + 1) * (r + 1) ∧ forGo [] (mgName 3) (mSeq (mIf (mTst (m2 ltM (m2 subM (mVar 2) (mVar 1)) (mC (PV.int 2)))) mBk mNx) (mSeq (mAsg (m2 fdivM (m2 addM (mVar 1) (mVar 2)) (mC (PV.int 2))) (mgName 4)) (mIf (mTst (m2 gtM (m2 mulM (mVar 4) (mVar 4)) (mVar 0))) (mAsg (mVar 4) (mgName 2)) (mAsg (mVar 4) (mgName 1))))) xs [some (.int (n : Int)), some (.int (lo : Int)), some (.int (hi : Int)), v, u] S = .nx (some (.int (n : Int)) :: some (.int (r : Int)) :: w) S
  | [], i, lo, hi, v, u, e, h1, h2, h3, h4, h5 => by
    have : i = 4000 := by simpa using e
    subst this
    have eh : hi = lo + 1 := by
      have : (2 : Nat) ^ (4000 - 4000) = 1 := rfl
      omega
    subst eh
    exact ⟨lo, _, h1, h2, go_nil⟩
  | x :: xs, i, lo, hi, v, u, e, h1, h2, h3, h4, h5 => by
    by_cases hc : hi - lo < 2
    · have eh : hi = lo + 1 := by omega
      subst eh
      refine ⟨lo, [some (.int ((lo + 1 : Nat) : Int)), some x, u], h1, h2, ?_⟩
      have hc' : ((((lo + 1 : Nat) : Int)) - (lo : Int)) < 2 := by omega
      generalize ((lo + 1 : Nat) : Int) = g at *
      simp -implicitDefEqProofs [callD_ev, mSeq_ev, mIf_ev, mRet_ev, mExp_ev, mAsgN_ev, mAsg_ev, mPar_ev, mPar3_ev, mSetL_ev, mNx_ev, mBk_ev, mCt_ev, mRetN_ev, mRaise_ev, m2_ev, mC_ev, mVar, mTst_ev, mTru_ev, mCh_ev, mIsN_ev, mAndT_ev, mOrT_ev, mNotT_ev, mAndV_ev, mOrV_ev, mNotV_ev, mIfE_ev, mNeg_ev, mNil_ev, mCons_ev, mTup_ev, mLst_ev, mCall_ev, mIsi_ev, mApp_ev, mAllWh_ev, mSl_ev, mNoP_ev, mPart_ev, mFor_ev, mItA_ev, mItE_ev, mLc_ev, mYes_ev, add_ev, sub_ev, lt_ev, le_ev, gt_ev, ge_ev, eqi_ev, eqs_ev, eqb_ev, eqn_ev, nei_ev, nes_ev, lenT_ev, abs_ev, int_ev, intb_ev, ixM, atP, ixN, setl, setLO, bindG, mgName, mgTup, mgCons, mgNil, go_consN, hc']
    · have hi' : i < 4000 := by simp at e; omega
      have hc' : ¬ ((hi : Int) - (lo : Int) < 2) := by omega
      have em : ((lo : Int) + (hi : Int)) / 2 = (((lo + hi) / 2 : Nat) : Int) := by omega
      have d2 : ∀ (j : Int) T, fdivM (.int j) (.int 2) T = .ok (.int (j / 2)) T := fun j T => div_ev (by decide) (by decide)
      have ep : (2 : Nat) ^ (4000 - i) = 2 ^ (4000 - (i + 1)) * 2 := by rw [← Nat.pow_succ]; congr 1; omega
      rw [ep] at h4
      generalize hm : (lo + hi) / 2 = m at *
      have m1 : lo < m := by omega
      have m2' : m < hi := by omega
      have mb : ((m : Nat) : Int).natAbs < 2 ^ 4000 := by rw [Int.natAbs_natCast]; omega
      have o : mulOk (m : Int) (m : Int) = true := mulOk_b mb mb
      by_cases hq : n < m * m
      · obtain ⟨r, w, r1, r2, q⟩ := bi_go (S := S) xs (i + 1) lo m (some x) (some (.int (m : Int))) (by simp at e; omega) h1 hq m1 (by omega) (by omega)
        refine ⟨r, w, r1, r2, ?_⟩
        rw [← q]
        have hq' : (n : Int) < (m : Int) * (m : Int) := by rw [← Int.natCast_mul]; omega
        simp -implicitDefEqProofs [callD_ev, mSeq_ev, mIf_ev, mRet_ev, mExp_ev, mAsgN_ev, mAsg_ev, mPar_ev, mPar3_ev, mSetL_ev, mNx_ev, mBk_ev, mCt_ev, mRetN_ev, mRaise_ev, m2_ev, mC_ev, mVar, mTst_ev, mTru_ev, mCh_ev, mIsN_ev, mAndT_ev, mOrT_ev, mNotT_ev, mAndV_ev, mOrV_ev, mNotV_ev, mIfE_ev, mNeg_ev, mNil_ev, mCons_ev, mTup_ev, mLst_ev, mCall_ev, mIsi_ev, mApp_ev, mAllWh_ev, mSl_ev, mNoP_ev, mPart_ev, mFor_ev, mItA_ev, mItE_ev, mLc_ev, mYes_ev, add_ev, sub_ev, lt_ev, le_ev, gt_ev, ge_ev, eqi_ev, eqs_ev, eqb_ev, eqn_ev, nei_ev, nes_ev, lenT_ev, abs_ev, int_ev, intb_ev, ixM, atP, ixN, setl, setLO, bindG, mgName, mgTup, mgCons, mgNil, go_consN, hc', d2, em, mulM, o, hq']
      · obtain ⟨r, w, r1, r2, q⟩ := bi_go (S := S) xs (i + 1) m hi (some x) (some (.int (m : Int))) (by simp at e; omega) (by omega) h2 m2' (by omega) h5
        refine ⟨r, w, r1, r2, ?_⟩
        rw [← q]
        have hq' : ¬ (n : Int) < (m : Int) * (m : Int) := by rw [← Int.natCast_mul]; omega
        simp -implicitDefEqProofs [callD_ev, mSeq_ev, mIf_ev, mRet_ev, mExp_ev, mAsgN_ev, mAsg_ev, mPar_ev, mPar3_ev, mSetL_ev, mNx_ev, mBk_ev, mCt_ev, mRetN_ev, mRaise_ev, m2_ev, mC_ev, mVar, mTst_ev, mTru_ev, mCh_ev, mIsN_ev, mAndT_ev, mOrT_ev, mNotT_ev, mAndV_ev, mOrV_ev, mNotV_ev, mIfE_ev, mNeg_ev, mNil_ev, mCons_ev, mTup_ev, mLst_ev, mCall_ev, mIsi_ev, mApp_ev, mAllWh_ev, mSl_ev, mNoP_ev, mPart_ev, mFor_ev, mItA_ev, mItE_ev, mLc_ev, mYes_ev, add_ev, sub_ev, lt_ev, le_ev, gt_ev, ge_ev, eqi_ev, eqs_ev, eqb_ev, eqn_ev, nei_ev, nes_ev, lenT_ev, abs_ev, int_ev, intb_ev, ixM, atP, ixN, setl, setLO, bindG, mgName, mgTup, mgCons, mgNil, go_consN, hc', d2, em, mulM, o, hq']
theorem lroot_ev {S : Sto} {n : Int} (h0 : 0 ≤ n) (hb : n.natAbs < 2 ^ 7900) : ∃ r : Int, 0 ≤ r ∧ r * r ≤ n ∧ n < (r + 1) * (r + 1) ∧ r.natAbs < 2 ^ 7900 ∧ m_l_root [.int n] S = .ok (.int r) S := by
  obtain ⟨m, rfl⟩ : ∃ m : Nat, n = (m : Int) := ⟨n.toNat, by omega⟩
  have hb' : m < 2 ^ 7900 := by simpa using hb
  obtain ⟨h, w, q1, q2, q3, q⟩ := up_go (S := S) hb' (rngP 0 4000) 0 none (by simp)
  obtain ⟨r, w', r1, r2, q'⟩ := bi_go (S := S) (rngP 0 4000) 0 0 h w none (by simp) (by simp) q1 q3 (by simpa using q2) q2
  refine ⟨r, by omega, by rw [← Int.natCast_mul]; omega, ?_, ?_, ?_⟩
  · have : ((r : Int) + 1) * ((r : Int) + 1) = (((r + 1) * (r + 1) : Nat) : Int) := by rw [Int.natCast_mul]; rfl
    rw [this]; omega
  · rw [Int.natAbs_natCast]
    have : r * 1 ≤ r * r ∨ r = 0 := by
      rcases Nat.eq_zero_or_pos r with h | h
      · exact .inr h
      · exact .inl (Nat.mul_le_mul_left r h)
    omega
  · have e0 : ((2 ^ 0 : Nat) : Int) = 1 := rfl
    rw [e0] at q
    have e1 : ((0 : Nat) : Int) = 0 := rfl
    rw [e1] at q'
    unfold m_l_root
    simp -implicitDefEqProofs [callD_ev, mSeq_ev, mIf_ev, mRet_ev, mExp_ev, mAsgN_ev, mAsg_ev, mPar_ev, mPar3_ev, mSetL_ev, mNx_ev, mBk_ev, mCt_ev, mRetN_ev, mRaise_ev, m2_ev, mC_ev, mVar, mTst_ev, mTru_ev, mCh_ev, mIsN_ev, mAndT_ev, mOrT_ev, mNotT_ev, mAndV_ev, mOrV_ev, mNotV_ev, mIfE_ev, mNeg_ev, mNil_ev, mCons_ev, mTup_ev, mLst_ev, mCall_ev, mIsi_ev, mApp_ev, mAllWh_ev, mSl_ev, mNoP_ev, mPart_ev, mFor_ev, mItA_ev, mItE_ev, mLc_ev, mYes_ev, add_ev, sub_ev, lt_ev, le_ev, gt_ev, ge_ev, eqi_ev, eqs_ev, eqb_ev, eqn_ev, nei_ev, nes_ev, lenT_ev, abs_ev, int_ev, intb_ev, ixM, atP, ixN, setl, setLO, bindG, mgName, mgTup, mgCons, mgNil, rng1_ev, q, q']
theorem lsq_ev {S : Sto} {n : Int} (h0 : 0 ≤ n) (hb : n.natAbs < 2 ^ 7900) : ∃ b : Bool, (b = true ↔ isSq n) ∧ m_l_is_square [.int n] S = .ok (.bl b) S := by
  obtain ⟨r, r0, r1, r2, rb, e⟩ := lroot_ev (S := S) h0 hb
  refine ⟨decide (r * r = n), ?_, ?_⟩
  · rw [decide_eq_true_iff]
    constructor
    · exact fun h => ⟨r, r0, h⟩
    · rintro ⟨q, hq, rfl⟩
      have : r = q := sq_uniq r0 hq r1 r2 (Int.le_refl _) (by have : (q + 1) * (q + 1) = q * q + q + q + 1 := by grind
                                                              omega)
      rw [this]
  · have o : mulOk r r = true := mulOk_b rb rb
    unfold m_l_is_square
    simp -implicitDefEqProofs [callD_ev, mSeq_ev, mIf_ev, mRet_ev, mExp_ev, mAsgN_ev, mAsg_ev, mPar_ev, mPar3_ev, mSetL_ev, mNx_ev, mBk_ev, mCt_ev, mRetN_ev, mRaise_ev, m2_ev, mC_ev, mVar, mTst_ev, mTru_ev, mCh_ev, mIsN_ev, mAndT_ev, mOrT_ev, mNotT_ev, mAndV_ev, mOrV_ev, mNotV_ev, mIfE_ev, mNeg_ev, mNil_ev, mCons_ev, mTup_ev, mLst_ev, mCall_ev, mIsi_ev, mApp_ev, mAllWh_ev, mSl_ev, mNoP_ev, mPart_ev, mFor_ev, mItA_ev, mItE_ev, mLc_ev, mYes_ev, add_ev, sub_ev, lt_ev, le_ev, gt_ev, ge_ev, eqi_ev, eqs_ev, eqb_ev, eqn_ev, nei_ev, nes_ev, lenT_ev, abs_ev, int_ev, intb_ev, ixM, atP, ixN, setl, setLO, bindG, mgName, mgTup, mgCons, mgNil, e, mulM, o]

theorem St.ratio2 {S : Sto} {s l : Nat} {ns : List Int} {c k c0 k0 t m : Int} (h : St (S.set s (sx l c0 k0)) s l ns c k) (ht : 0 < t) (hm : 0 < m) (tb : t.natAbs < 2 ^ 1000) (mb : m.natAbs < 2 ^ 1000) :
    ∃ (q : Q2) (c' k' : Int), Nrm q ∧ q.1.natAbs ≤ t.natAbs ∧ q.2.natAbs ≤ m.natAbs ∧ St (S.set s (sx l c' k')) s l ns c' k' ∧ m_l_ratio [.cell s, .int t, .int m] (S.set s (sx l c0 k0)) = .ok (pq q) (S.set s (sx l c' k')) := by
  obtain ⟨q, c', k', a, b, d, e, r⟩ := lratio_ev h.s h.l h.k ht hm tb mb
  have h2 := h.set (c' := c') e
  rw [List.set_set] at h2
  rw [List.set_set] at r
  exact ⟨q, c', k', a, b, d, h2, r⟩
theorem gcd3_parts {a b c : Int} (ha : 0 < a) : ∃ a' b' c' : Int, a = ((Nat.gcd (Nat.gcd a.natAbs b.natAbs) c.natAbs : Nat) : Int) * a' ∧ b = ((Nat.gcd (Nat.gcd a.natAbs b.natAbs) c.natAbs : Nat) : Int) * b' ∧ c = ((Nat.gcd (Nat.gcd a.natAbs b.natAbs) c.natAbs : Nat) : Int) * c' ∧
    (0 : Int) < ((Nat.gcd (Nat.gcd a.natAbs b.natAbs) c.natAbs : Nat) : Int) ∧ 0 < a' ∧ Nat.gcd (Nat.gcd c'.natAbs b'.natAbs) a'.natAbs = 1 := by
  have hg : 0 < Nat.gcd (Nat.gcd a.natAbs b.natAbs) c.natAbs := Nat.gcd_pos_of_pos_left _ (Nat.gcd_pos_of_pos_left _ (by omega))
  obtain ⟨a', e1⟩ := Int.ofNat_dvd_left.mpr (Nat.dvd_trans (Nat.gcd_dvd_left (Nat.gcd a.natAbs b.natAbs) c.natAbs) (Nat.gcd_dvd_left a.natAbs b.natAbs))
  obtain ⟨b', e2⟩ := Int.ofNat_dvd_left.mpr (Nat.dvd_trans (Nat.gcd_dvd_left (Nat.gcd a.natAbs b.natAbs) c.natAbs) (Nat.gcd_dvd_right a.natAbs b.natAbs))
  obtain ⟨c', e3⟩ := Int.ofNat_dvd_left.mpr (Nat.gcd_dvd_right (Nat.gcd a.natAbs b.natAbs) c.natAbs)
  have n1 : a.natAbs = Nat.gcd (Nat.gcd a.natAbs b.natAbs) c.natAbs * a'.natAbs := by conv => lhs; rw [e1, Int.natAbs_mul, Int.natAbs_natCast]
  have n2 : b.natAbs = Nat.gcd (Nat.gcd a.natAbs b.natAbs) c.natAbs * b'.natAbs := by conv => lhs; rw [e2, Int.natAbs_mul, Int.natAbs_natCast]
  have n3 : c.natAbs = Nat.gcd (Nat.gcd a.natAbs b.natAbs) c.natAbs * c'.natAbs := by conv => lhs; rw [e3, Int.natAbs_mul, Int.natAbs_natCast]
  refine ⟨a', b', c', e1, e2, e3, by omega, ?_, ?_⟩
  · rcases Int.lt_or_le 0 a' with h | h
    · exact h
    · have := Int.mul_nonpos_of_nonneg_of_nonpos (show (0 : Int) ≤ ((Nat.gcd (Nat.gcd a.natAbs b.natAbs) c.natAbs : Nat) : Int) by omega) h
      omega
  · have h2 : Nat.gcd (Nat.gcd (Nat.gcd (Nat.gcd a.natAbs b.natAbs) c.natAbs * a'.natAbs) (Nat.gcd (Nat.gcd a.natAbs b.natAbs) c.natAbs * b'.natAbs)) (Nat.gcd (Nat.gcd a.natAbs b.natAbs) c.natAbs * c'.natAbs) = Nat.gcd (Nat.gcd a.natAbs b.natAbs) c.natAbs := by rw [← n1, ← n2, ← n3]
    rw [Nat.gcd_mul_left, Nat.gcd_mul_left] at h2
    exact gcd_rot (Nat.eq_of_mul_eq_mul_left hg (by omega))
/-- a drawn number -/
def NumV (X : PV) : Prop := (∃ q : Q2, Nrm q ∧ q.1.natAbs ≤ 60 ∧ q.2.natAbs ≤ 40 ∧ X = .tup [.str "rational", pq q]) ∨
  ∃ c b a w : Int, EqF c b a ∧ c.natAbs ≤ 20 ∧ b.natAbs ≤ 20 ∧ a.natAbs ≤ 9 ∧ 0 ≤ w ∧ w < 2 ∧ X = .tup [.str "root", .tup [.int c, .int b, .int a], .int w]
theorem eqf_eight : EqF (-2) 0 1 := ⟨by decide, by decide, by decide, not_sq_eight⟩
theorem lnumber_ev {S : Sto} {s l : Nat} {ns : List Int} {c k : Int} (h : St S s l ns c k) :
    ∃ X c' k', NumV X ∧ St (S.set s (sx l c' k')) s l ns c' k' ∧ m_l_number [.cell s] S = .ok X (S.set s (sx l c' k')) := by
  obtain ⟨d0, c0, k0, a0, b0, h0, e0⟩ := h.next (m := 3) (by decide) (by decide)
  by_cases hz : d0 = 0
  · obtain ⟨q, c1, k1, nq, q1, q2, h1, e1⟩ := h0.ratio2 (t := 60) (m := 40) (by decide) (by decide) (up 6 (by decide)) (up 6 (by decide))
    refine ⟨_, c1, k1, .inl ⟨q, nq, q1, q2, rfl⟩, h1, ?_⟩
    unfold m_l_number
    simp -implicitDefEqProofs [callD_ev, mSeq_ev, mIf_ev, mRet_ev, mExp_ev, mAsgN_ev, mAsg_ev, mPar_ev, mPar3_ev, mSetL_ev, mNx_ev, mBk_ev, mCt_ev, mRetN_ev, mRaise_ev, m2_ev, mC_ev, mVar, mTst_ev, mTru_ev, mCh_ev, mIsN_ev, mAndT_ev, mOrT_ev, mNotT_ev, mAndV_ev, mOrV_ev, mNotV_ev, mIfE_ev, mNeg_ev, mNil_ev, mCons_ev, mTup_ev, mLst_ev, mCall_ev, mIsi_ev, mApp_ev, mAllWh_ev, mSl_ev, mNoP_ev, mPart_ev, mFor_ev, mItA_ev, mItE_ev, mLc_ev, mYes_ev, add_ev, sub_ev, lt_ev, le_ev, gt_ev, ge_ev, eqi_ev, eqs_ev, eqb_ev, eqn_ev, nei_ev, nes_ev, lenT_ev, abs_ev, int_ev, intb_ev, ixM, atP, ixN, setl, setLO, bindG, mgName, mgTup, mgCons, mgNil, e0, hz, e1]
  · obtain ⟨d1, c1, k1, a1, b1, h1, e1⟩ := h0.next2 (m := 9) (by decide) (by decide)
    obtain ⟨d2, c2, k2, a2, b2, h2, e2⟩ := h1.next2 (m := 41) (by decide) (by decide)
    obtain ⟨d3, c3, k3, a3, b3, h3, e3⟩ := h2.next2 (m := 41) (by decide) (by decide)
    obtain ⟨d4, c4, k4, a4, b4, h4, e4⟩ := h3.next2 (m := 2) (by decide) (by decide)
    have a0' : 0 < 1 + d1 := by omega
    obtain ⟨A, B, C, f1, f2, f3, gp, pA, pr⟩ := gcd3_parts (b := d2 - 20) (c := d3 - 20) a0'
    have sa : (1 + d1).natAbs < 2 ^ 10 := by omega
    have sb : (d2 - 20).natAbs < 2 ^ 10 := by omega
    have sc : (d3 - 20).natAbs < 2 ^ 10 := by omega
    have g1 := fun T => gcd_ev (S := T) sa sb
    have gs : (((Nat.gcd (1 + d1).natAbs (d2 - 20).natAbs : Nat) : Int)).natAbs < 2 ^ 10 := by
      rw [Int.natAbs_natCast]
      exact Nat.lt_of_le_of_lt (Nat.gcd_le_left _ (by omega)) sa
    have g2 := fun T => gcd_ev (S := T) gs sc
    simp only [Int.natAbs_natCast] at g2
    have gl : (((Nat.gcd (Nat.gcd (1 + d1).natAbs (d2 - 20).natAbs) (d3 - 20).natAbs : Nat) : Int)).natAbs.log2 < 9000 := log_b (sz_g (by omega) f1 sa)
    have sA := sz_fac gp f1 sa
    have sB := sz_fac gp f2 sb
    have sC := sz_fac gp f3 sc
    have bA : A.natAbs ≤ 9 := by
      have := sz_fac (n := 10) gp f1 sa
      have h9 : A.natAbs ≤ (1 + d1).natAbs := by
        conv => rhs; rw [f1, Int.natAbs_mul]
        exact Nat.le_mul_of_pos_left _ (by omega)
      omega
    have bB : B.natAbs ≤ 20 := by
      have h9 : B.natAbs ≤ (d2 - 20).natAbs := by
        conv => rhs; rw [f2, Int.natAbs_mul]
        exact Nat.le_mul_of_pos_left _ (by omega)
      omega
    have bC : C.natAbs ≤ 20 := by
      have h9 : C.natAbs ≤ (d3 - 20).natAbs := by
        conv => rhs; rw [f3, Int.natAbs_mul]
        exact Nat.le_mul_of_pos_left _ (by omega)
      omega
    generalize hg : ((Nat.gcd (Nat.gcd (1 + d1).natAbs (d2 - 20).natAbs) (d3 - 20).natAbs : Nat) : Int) = g at *
    have v1 : ∀ T, fdivM (.int (1 + d1)) (.int g) T = .ok (.int A) T := fun T => by rw [div_ev gp gl, f1, Int.mul_ediv_cancel_left _ (by omega)]
    have v2 : ∀ T, fdivM (.int (d2 - 20)) (.int g) T = .ok (.int B) T := fun T => by rw [div_ev gp gl, f2, Int.mul_ediv_cancel_left _ (by omega)]
    have v3 : ∀ T, fdivM (.int (d3 - 20)) (.int g) T = .ok (.int C) T := fun T => by rw [div_ev gp gl, f3, Int.mul_ediv_cancel_left _ (by omega)]
    have o1 : mulOk B B = true := mulOk_b sB sB
    have o2 : mulOk 4 A = true := mulOk_l (by decide)
    have o3 : mulOk (4 * A) C = true := mulOk_r (by omega)
    by_cases hi : B * B - 4 * A * C ≤ 0
    · refine ⟨_, c4, k4, .inr ⟨-2, 0, 1, d4, eqf_eight, by decide, by decide, by decide, a4, b4, rfl⟩, h4, ?_⟩
      have hi' : B * B ≤ 4 * A * C := by omega
      unfold m_l_number
      simp -implicitDefEqProofs [callD_ev, mSeq_ev, mIf_ev, mRet_ev, mExp_ev, mAsgN_ev, mAsg_ev, mPar_ev, mPar3_ev, mSetL_ev, mNx_ev, mBk_ev, mCt_ev, mRetN_ev, mRaise_ev, m2_ev, mC_ev, mVar, mTst_ev, mTru_ev, mCh_ev, mIsN_ev, mAndT_ev, mOrT_ev, mNotT_ev, mAndV_ev, mOrV_ev, mNotV_ev, mIfE_ev, mNeg_ev, mNil_ev, mCons_ev, mTup_ev, mLst_ev, mCall_ev, mIsi_ev, mApp_ev, mAllWh_ev, mSl_ev, mNoP_ev, mPart_ev, mFor_ev, mItA_ev, mItE_ev, mLc_ev, mYes_ev, add_ev, sub_ev, lt_ev, le_ev, gt_ev, ge_ev, eqi_ev, eqs_ev, eqb_ev, eqn_ev, nei_ev, nes_ev, lenT_ev, abs_ev, int_ev, intb_ev, ixM, atP, ixN, setl, setLO, bindG, mgName, mgTup, mgCons, mgNil, e0, hz, e1, e2, e3, e4, g1, g2, v1, v2, v3, mulM, o1, o2, o3, hi, hi']
    · have hi' : ¬ B * B ≤ 4 * A * C := by omega
      have ds : (B * B - 4 * A * C).natAbs < 2 ^ 7900 := up (10 + 10 + 4) (disc_size sC sB sA)
      obtain ⟨b, hb, eb⟩ := lsq_ev (S := S.set s (sx l c3 k3)) (n := B * B - 4 * A * C) (by omega) ds
      cases b with
      | true =>
        refine ⟨_, c4, k4, .inr ⟨-2, 0, 1, d4, eqf_eight, by decide, by decide, by decide, a4, b4, rfl⟩, h4, ?_⟩
        unfold m_l_number
        simp -implicitDefEqProofs [callD_ev, mSeq_ev, mIf_ev, mRet_ev, mExp_ev, mAsgN_ev, mAsg_ev, mPar_ev, mPar3_ev, mSetL_ev, mNx_ev, mBk_ev, mCt_ev, mRetN_ev, mRaise_ev, m2_ev, mC_ev, mVar, mTst_ev, mTru_ev, mCh_ev, mIsN_ev, mAndT_ev, mOrT_ev, mNotT_ev, mAndV_ev, mOrV_ev, mNotV_ev, mIfE_ev, mNeg_ev, mNil_ev, mCons_ev, mTup_ev, mLst_ev, mCall_ev, mIsi_ev, mApp_ev, mAllWh_ev, mSl_ev, mNoP_ev, mPart_ev, mFor_ev, mItA_ev, mItE_ev, mLc_ev, mYes_ev, add_ev, sub_ev, lt_ev, le_ev, gt_ev, ge_ev, eqi_ev, eqs_ev, eqb_ev, eqn_ev, nei_ev, nes_ev, lenT_ev, abs_ev, int_ev, intb_ev, ixM, atP, ixN, setl, setLO, bindG, mgName, mgTup, mgCons, mgNil, e0, hz, e1, e2, e3, e4, g1, g2, v1, v2, v3, mulM, o1, o2, o3, hi, hi', eb, truthM]
      | false =>
        refine ⟨_, c4, k4, .inr ⟨C, B, A, d4, ⟨pA, pr, by omega, fun q => Bool.noConfusion (hb.mpr q)⟩, bC, bB, bA, a4, b4, rfl⟩, h4, ?_⟩
        unfold m_l_number
        simp -implicitDefEqProofs [callD_ev, mSeq_ev, mIf_ev, mRet_ev, mExp_ev, mAsgN_ev, mAsg_ev, mPar_ev, mPar3_ev, mSetL_ev, mNx_ev, mBk_ev, mCt_ev, mRetN_ev, mRaise_ev, m2_ev, mC_ev, mVar, mTst_ev, mTru_ev, mCh_ev, mIsN_ev, mAndT_ev, mOrT_ev, mNotT_ev, mAndV_ev, mOrV_ev, mNotV_ev, mIfE_ev, mNeg_ev, mNil_ev, mCons_ev, mTup_ev, mLst_ev, mCall_ev, mIsi_ev, mApp_ev, mAllWh_ev, mSl_ev, mNoP_ev, mPart_ev, mFor_ev, mItA_ev, mItE_ev, mLc_ev, mYes_ev, add_ev, sub_ev, lt_ev, le_ev, gt_ev, ge_ev, eqi_ev, eqs_ev, eqb_ev, eqn_ev, nei_ev, nes_ev, lenT_ev, abs_ev, int_ev, intb_ev, ixM, atP, ixN, setl, setLO, bindG, mgName, mgTup, mgCons, mgNil, e0, hz, e1, e2, e3, e4, g1, g2, v1, v2, v3, mulM, o1, o2, o3, hi, hi', eb, truthM]

theorem signof_ev2 {S : Sto} {f : Int} {x y : Q2} (sx : Sm 2500 x) (sy : Sm 2500 y) (hf : f.natAbs < 2 ^ 9000) : ∃ p q : Int, 0 < p ∧ 0 < q ∧ p * x.2 = q * y.2 ∧
    ∀ T, m_sign_of [.int f, .tup [pq x, pq y]] T = .ok (.int (if (y.1 * q).sign = 0 ∨ (x.1 * p).sign = (y.1 * q).sign then (x.1 * p).sign else if (x.1 * p).sign = 0 then (y.1 * q).sign else (x.1 * p).sign * ((x.1 * p) * (x.1 * p) - f * (y.1 * q) * (y.1 * q)).sign)) T := by
  obtain ⟨p, q, hp, hq, e, pb, qb, el⟩ := loosened_ev (S := S) sx sy
  refine ⟨p, q, hp, hq, e, fun T => ?_⟩
  have l := fun T => loose_ev (S := T) (f := f) (n := x.1 * p) (k := y.1 * q) (r := p * x.2) hf (mul_up 2500 5000 sx.2.1 pb (by decide)) (mul_up 2500 5000 sy.2.1 qb (by decide))
  unfold m_sign_of
  simp -implicitDefEqProofs only [callD_ev, mRet_ev, mApp_ev, mCons_ev, mNil_ev, mVar, bind_ok, ot_ok, fin_rt, gcS_self, el, l, List.map_cons, List.map_nil, List.length_cons, List.length_nil, List.replicate_zero, List.append_nil, List.getElem?_cons_zero, List.getElem?_cons_succ, Nat.sub_self, Nat.zero_add, if_true, Nat.reduceAdd, Nat.reduceSub]
theorem sgn_mul_pos {i p : Int} (h : 0 < p) : (i * p).sign = i.sign := by
  rw [Int.sign_mul, Int.sign_eq_one_of_pos h, Int.mul_one]

def bs (c b w : Int) : Int := if w = 1 then (if b ≤ 0 ∨ c < 0 then 1 else -1) else (if 0 ≤ b ∨ c < 0 then -1 else 1)
theorem signof_sg2 {S : Sto} {f : Int} {x y : Q2} (sx : Sm 2500 x) (sy : Sm 2500 y) (hf : f.natAbs < 2 ^ 9000) : m_sign_of [.int f, .tup [pq x, pq y]] S = .ok (.int (sgF f x y)) S := by
  obtain ⟨p, q, hp, hq, e, h⟩ := signof_ev2 (S := S) (f := f) sx sy hf
  rw [h]
  have hx : 0 < x.2 := by have := sx.1; omega
  have hy : 0 < y.2 := by have := sy.1; omega
  have n := nrm_sign (f := f) sx.1 sy.1
  have r0 : 0 < p * x.2 := Int.mul_pos hp hx
  have D0 : 0 < (x.2 * y.2) * (x.2 * y.2) := Int.mul_pos (Int.mul_pos hx hy) (Int.mul_pos hx hy)
  have R0 : 0 < (p * x.2) * (p * x.2) := Int.mul_pos r0 r0
  have k : ((x.1 * p) * (x.1 * p) - f * (y.1 * q) * (y.1 * q)).sign = (nrm f x y).1.sign := by
    rw [n]
    have t : ((x.1 * p) * (x.1 * p) - f * (y.1 * q) * (y.1 * q)) * ((x.2 * y.2) * (x.2 * y.2)) = (x.1 * y.2 * (x.1 * y.2) - y.1 * x.2 * (y.1 * x.2) * f) * ((p * x.2) * (p * x.2)) := by
      have t1 : (x.1 * p) * (x.2 * y.2) = x.1 * y.2 * (p * x.2) := by grind
      have t2 : (y.1 * q) * (x.2 * y.2) = y.1 * x.2 * (p * x.2) := by rw [e]; grind
      have t3 : ((x.1 * p) * (x.1 * p) - f * (y.1 * q) * (y.1 * q)) * ((x.2 * y.2) * (x.2 * y.2)) = ((x.1 * p) * (x.2 * y.2)) * ((x.1 * p) * (x.2 * y.2)) - f * (((y.1 * q) * (x.2 * y.2)) * ((y.1 * q) * (x.2 * y.2))) := by grind
      rw [t3, t1, t2]
      grind
    have u := congrArg Int.sign t
    rwa [sgn_mul_pos D0, sgn_mul_pos R0] at u
  rw [k, sgn_mul_pos hp, sgn_mul_pos hq]
  rfl
theorem signof_sg {S : Sto} {f : Int} {x y : Q2} (sx : Sm 2000 x) (sy : Sm 2000 y) (hf : f.natAbs < 2 ^ 9000) : m_sign_of [.int f, .tup [pq x, pq y]] S = .ok (.int (sgF f x y)) S := signof_sg2 (sx.up 2500) (sy.up 2500) hf

theorem mTryAs_ev {i : Nat} {hit : Str → Bool} {b : MS} {su : Str → List (Str × PV) → MS} {ρ : PSt} {S : Sto} : mTryAs i hit b su ρ S = match b ρ S with
  | .er c fs ρ' S' => if hit c = true then match su c fs (ρ'.set i none) S' with
    | .rt x S2 => .rt x S2
    | _ => .bad
    else .er c fs ρ' S'
  | o => o := rfl

theorem isnum_no {S : Sto} {x : PV} {t : String} (h : tyP x S = some t) (ht : t ≠ "tuple") : m_is_number [x] S = .ok (.bl false) S := by
  have i1 := isi_ev (T := "tuple") h
  have e : (t == "tuple") = false := by simpa using ht
  have e2 : ("tuple" == "int") = false := by decide
  unfold m_is_number
  simp -implicitDefEqProofs [callD_ev, mSeq_ev, mIf_ev, mRet_ev, mExp_ev, mAsgN_ev, mAsg_ev, mPar_ev, mPar3_ev, mSetL_ev, mNx_ev, mBk_ev, mCt_ev, mRetN_ev, mRaise_ev, m2_ev, mC_ev, mVar, mTst_ev, mTru_ev, mCh_ev, mIsN_ev, mAndT_ev, mOrT_ev, mNotT_ev, mAndV_ev, mOrV_ev, mNotV_ev, mIfE_ev, mNeg_ev, mNil_ev, mCons_ev, mTup_ev, mLst_ev, mCall_ev, mIsi_ev, mApp_ev, mAllWh_ev, mSl_ev, mNoP_ev, mPart_ev, mFor_ev, mItA_ev, mItE_ev, mLc_ev, mYes_ev, add_ev, sub_ev, lt_ev, le_ev, gt_ev, ge_ev, eqi_ev, eqs_ev, eqb_ev, eqn_ev, nei_ev, nes_ev, lenT_ev, abs_ev, int_ev, intb_ev, ixM, atP, ixN, setl, setLO, bindG, mgName, mgTup, mgCons, mgNil, i1, e, e2, truthM, ht]
mutual
def plain : Nat → PV → Bool
  | _, .int _ => true
  | _, .str _ => true
  | _, .bl _ => true
  | n + 1, .tup xs => decide (xs.length ≤ 1000) && plains n xs
  | _, _ => false
def plains : Nat → List PV → Bool
  | _, [] => true
  | n, x :: xs => plain n x && plains n xs
end
theorem plains_mem {n : Nat} : ∀ {xs : List PV}, plains n xs = true → ∀ x ∈ xs, plain n x = true
  | [], _, _, h => by cases h
  | y :: ys, e, x, h => by
    have e' := Bool.and_eq_true_iff.mp (show (plain n y && plains n ys) = true by rw [plains] at e; exact e)
    rcases List.mem_cons.mp h with rfl | h
    · exact e'.1
    · exact plains_mem e'.2 x h
theorem bls_rep : ∀ n : Nat, blsOf (List.replicate n (PV.bl true)) = some (List.replicate n true)
  | 0 => rfl
  | n + 1 => by
    rw [List.replicate_succ]
    show (blsOf (List.replicate n (PV.bl true))).map (true :: ·) = _
    rw [bls_rep n]
    rfl
theorem clos_rep {m : Nat} : ∀ n : Nat, clos m (List.replicate n (PV.bl true)) = true
  | 0 => rfl
  | n + 1 => by
    rw [List.replicate_succ]
    show (true && clos m (List.replicate n (PV.bl true))) = true
    rw [clos_rep n]
    rfl
theorem equal_self : ∀ (k : Nat) (v : PV) (S : Sto), plain k v = true → Clo S → m_l_equal (k + 1) [v, v] S = .ok (.bl true) S
  | k, .int i, S, _, _ => by
    have i1 := fun T => isi_ev (T := T) (x := .int i) (S := S) rfl
    have w := isint_ev (S := S) (x := .int i) rfl
    unfold m_l_equal
    simp -implicitDefEqProofs [callD_ev, mSeq_ev, mIf_ev, mRet_ev, mExp_ev, mAsgN_ev, mAsg_ev, mPar_ev, mPar3_ev, mSetL_ev, mNx_ev, mBk_ev, mCt_ev, mRetN_ev, mRaise_ev, m2_ev, mC_ev, mVar, mTst_ev, mTru_ev, mCh_ev, mIsN_ev, mAndT_ev, mOrT_ev, mNotT_ev, mAndV_ev, mOrV_ev, mNotV_ev, mIfE_ev, mNeg_ev, mNil_ev, mCons_ev, mTup_ev, mLst_ev, mCall_ev, mIsi_ev, mApp_ev, mAllWh_ev, mSl_ev, mNoP_ev, mPart_ev, mFor_ev, mItA_ev, mItE_ev, mLc_ev, mYes_ev, add_ev, sub_ev, lt_ev, le_ev, gt_ev, ge_ev, eqi_ev, eqs_ev, eqb_ev, eqn_ev, nei_ev, nes_ev, lenT_ev, abs_ev, int_ev, intb_ev, ixM, atP, ixN, setl, setLO, bindG, mgName, mgTup, mgCons, mgNil, i1, w, isW, isNM, truthM]
  | k, .str z, S, _, _ => by
    have i1 := fun T => isi_ev (T := T) (x := .str z) (S := S) rfl
    unfold m_l_equal
    simp -implicitDefEqProofs [callD_ev, mSeq_ev, mIf_ev, mRet_ev, mExp_ev, mAsgN_ev, mAsg_ev, mPar_ev, mPar3_ev, mSetL_ev, mNx_ev, mBk_ev, mCt_ev, mRetN_ev, mRaise_ev, m2_ev, mC_ev, mVar, mTst_ev, mTru_ev, mCh_ev, mIsN_ev, mAndT_ev, mOrT_ev, mNotT_ev, mAndV_ev, mOrV_ev, mNotV_ev, mIfE_ev, mNeg_ev, mNil_ev, mCons_ev, mTup_ev, mLst_ev, mCall_ev, mIsi_ev, mApp_ev, mAllWh_ev, mSl_ev, mNoP_ev, mPart_ev, mFor_ev, mItA_ev, mItE_ev, mLc_ev, mYes_ev, add_ev, sub_ev, lt_ev, le_ev, gt_ev, ge_ev, eqi_ev, eqs_ev, eqb_ev, eqn_ev, nei_ev, nes_ev, lenT_ev, abs_ev, int_ev, intb_ev, ixM, atP, ixN, setl, setLO, bindG, mgName, mgTup, mgCons, mgNil, i1, isNM, truthM]
  | k, .bl b, S, _, _ => by
    have i1 := fun T => isi_ev (T := T) (x := .bl b) (S := S) rfl
    unfold m_l_equal
    simp -implicitDefEqProofs [callD_ev, mSeq_ev, mIf_ev, mRet_ev, mExp_ev, mAsgN_ev, mAsg_ev, mPar_ev, mPar3_ev, mSetL_ev, mNx_ev, mBk_ev, mCt_ev, mRetN_ev, mRaise_ev, m2_ev, mC_ev, mVar, mTst_ev, mTru_ev, mCh_ev, mIsN_ev, mAndT_ev, mOrT_ev, mNotT_ev, mAndV_ev, mOrV_ev, mNotV_ev, mIfE_ev, mNeg_ev, mNil_ev, mCons_ev, mTup_ev, mLst_ev, mCall_ev, mIsi_ev, mApp_ev, mAllWh_ev, mSl_ev, mNoP_ev, mPart_ev, mFor_ev, mItA_ev, mItE_ev, mLc_ev, mYes_ev, add_ev, sub_ev, lt_ev, le_ev, gt_ev, ge_ev, eqi_ev, eqs_ev, eqb_ev, eqn_ev, nei_ev, nes_ev, lenT_ev, abs_ev, int_ev, intb_ev, ixM, atP, ixN, setl, setLO, bindG, mgName, mgTup, mgCons, mgNil, i1, isNM, truthM, eqb_ev]
  | 0, .tup xs, S, h, _ => by simp [plain] at h
  | k + 1, .tup xs, S, h, c => by
    have h' := Bool.and_eq_true_iff.mp (show (decide (xs.length ≤ 1000) && plains k xs) = true by rw [plain] at h; exact h)
    have hl := of_decide_eq_true h'.1
    have hm := plains_mem h'.2
    have i1 := fun T => isi_ev (T := T) (x := .tup xs) (S := S) rfl
    have r1 : ∀ T, rng1 [.int (xs.length : Int)] T = .ok ⟨rngP 0 xs.length, []⟩ T := fun T => by
      rw [rng1_ev ⟨by omega, by omega⟩]
      simp
    have lc : lcGo [] (mgName 2) mYes (mApp 2 (m_l_equal (k + 1)) (mCons (m2 ixM (mVar 0) (mVar 2)) (mCons (m2 ixM (mVar 1) (mVar 2)) mNil))) [2] S.length [some (.tup xs), some (.tup xs), none] (rngP 0 xs.length) (S ++ [.lst []]) = .ok (.cell S.length) (S ++ [.lst ([] ++ (rngP 0 xs.length).map fun _ => PV.bl true)]) := by
      refine lcGo_map (P := fun acc => ∃ n, acc = List.replicate n (PV.bl true)) _ _ (by simp; exact Nat.le_trans hl (by decide)) ⟨0, rfl⟩ fun x hx acc ⟨n, hn⟩ => ⟨⟨n + 1, by rw [hn, ← List.replicate_succ']⟩, [(2, x)], rfl, by simp, ?_⟩
      obtain ⟨j, hj, rfl⟩ : ∃ j, j < xs.length ∧ x = .int ((j : Nat) : Int) := by
        simp only [rngP, List.mem_map, List.mem_range] at hx
        obtain ⟨j, h1, h2⟩ := hx
        exact ⟨j, h1, by rw [← h2]; simp⟩
      have c2 : Clo (S ++ [.lst acc]) := c.app (by rw [hn]; exact clos_rep n)
      have ih := equal_self k xs[j] (S ++ [.lst acc]) (hm _ (List.getElem_mem hj)) c2
      have ix : ∀ T, ixM (.tup xs) (.int ((j : Nat) : Int)) T = .ok xs[j] T := fun T => ixT_ev (atP_nat (List.getElem?_eq_getElem hj))
      simp -implicitDefEqProofs only [wipeP, Pm.setl, mApp_ev, mCons_ev, mNil_ev, m2_ev, mVar, List.set_cons_succ, List.set_cons_zero, List.getElem?_cons_zero, List.getElem?_cons_succ, bind_ok, ix, List.length_cons, List.length_nil, Nat.zero_add, Nat.reduceAdd, if_true, ih]
    have al : allM [.cell S.length] (S ++ [.lst ([] ++ (rngP 0 xs.length).map fun _ => PV.bl true)]) = .ok (.bl true) (S ++ [.lst ([] ++ (rngP 0 xs.length).map fun _ => PV.bl true)]) := by
      have e : [] ++ ((rngP 0 xs.length).map fun _ => PV.bl true) = List.replicate xs.length (.bl true) := by
        rw [List.nil_append]
        refine List.eq_replicate_iff.mpr ⟨by simp, fun b hb => ?_⟩
        obtain ⟨_, _, e⟩ := List.mem_map.mp hb
        exact e.symm
      rw [e]
      have e2 : (S ++ [MO.lst (List.replicate xs.length (PV.bl true))])[S.length]? = some (.lst (List.replicate xs.length (.bl true))) := by simp
      simp [allM, lsOf, e2, bls_rep]
    generalize hE : (S ++ [MO.lst ([] ++ (rngP 0 xs.length).map fun _ => PV.bl true)]) = E at *
    have g : gcS S.length [.bl true] E = S := by rw [← hE]; exact gcS_app c rfl
    unfold m_l_equal
    simp -implicitDefEqProofs [callD_ev, mSeq_ev, mIf_ev, mRet_ev, mExp_ev, mAsgN_ev, mAsg_ev, mPar_ev, mPar3_ev, mSetL_ev, mNx_ev, mBk_ev, mCt_ev, mRetN_ev, mRaise_ev, m2_ev, mC_ev, mVar, mTst_ev, mTru_ev, mCh_ev, mIsN_ev, mAndT_ev, mOrT_ev, mNotT_ev, mAndV_ev, mOrV_ev, mNotV_ev, mIfE_ev, mNeg_ev, mNil_ev, mCons_ev, mTup_ev, mLst_ev, mCall_ev, mIsi_ev, mApp_ev, mAllWh_ev, mSl_ev, mNoP_ev, mPart_ev, mFor_ev, mItA_ev, mItE_ev, mLc_ev, mYes_ev, add_ev, sub_ev, lt_ev, le_ev, gt_ev, ge_ev, eqi_ev, eqs_ev, eqb_ev, eqn_ev, nei_ev, nes_ev, lenT_ev, abs_ev, int_ev, intb_ev, ixM, atP, ixN, setl, setLO, bindG, mgName, mgTup, mgCons, mgNil, i1, isNM, truthM, r1, lc, al, g]
/-- two lists of equal plain values -/
theorem equal_lists {k n m : Nat} {xs : List PV} {S : Sto} (hn : S[n]? = some (.lst xs)) (hm' : S[m]? = some (.lst xs)) (h : plains k xs = true) (hl : xs.length ≤ 1000) (c : Clo S) : m_l_equal (k + 2) [.cell n, .cell m] S = .ok (.bl true) S := by
  have hm := plains_mem h
  have ln := (List.getElem?_eq_some_iff.mp hn).1
  have lm := (List.getElem?_eq_some_iff.mp hm').1
  have i1 := fun T => isi_ev (T := T) (x := .cell n) (S := S) (t := "list") (by simp [tyP, hn])
  have i2 := fun T => isi_ev (T := T) (x := .cell m) (S := S) (t := "list") (by simp [tyP, hm'])
  have r1 : ∀ T, rng1 [.int (xs.length : Int)] T = .ok ⟨rngP 0 xs.length, []⟩ T := fun T => by
    rw [rng1_ev ⟨by omega, by omega⟩]
    simp
  have l1 := lenC_ev hn
  have l2 := lenC_ev hm'
  have lc : lcGo [] (mgName 2) mYes (mApp 2 (m_l_equal (k + 1)) (mCons (m2 ixM (mVar 0) (mVar 2)) (mCons (m2 ixM (mVar 1) (mVar 2)) mNil))) [2] S.length [some (.cell n), some (.cell m), none] (rngP 0 xs.length) (S ++ [.lst []]) = .ok (.cell S.length) (S ++ [.lst ([] ++ (rngP 0 xs.length).map fun _ => PV.bl true)]) := by
    refine lcGo_map (P := fun acc => ∃ n, acc = List.replicate n (PV.bl true)) _ _ (by simp; exact Nat.le_trans hl (by decide)) ⟨0, rfl⟩ fun x hx acc ⟨i, hi⟩ => ⟨⟨i + 1, by rw [hi, ← List.replicate_succ']⟩, [(2, x)], rfl, by simp, ?_⟩
    obtain ⟨j, hj, rfl⟩ : ∃ j, j < xs.length ∧ x = .int ((j : Nat) : Int) := by
      simp only [rngP, List.mem_map, List.mem_range] at hx
      obtain ⟨j, h1, h2⟩ := hx
      exact ⟨j, h1, by rw [← h2]; simp⟩
    have c2 : Clo (S ++ [.lst acc]) := c.app (by rw [hi]; exact clos_rep i)
    have ih := equal_self k xs[j] (S ++ [.lst acc]) (hm _ (List.getElem_mem hj)) c2
    have g1 : (S ++ [MO.lst acc])[n]? = some (.lst xs) := by rw [List.getElem?_append_left ln]; exact hn
    have g2 : (S ++ [MO.lst acc])[m]? = some (.lst xs) := by rw [List.getElem?_append_left lm]; exact hm'
    have x1 := ixC_ev g1 (atP_nat (List.getElem?_eq_getElem hj))
    have x2 := ixC_ev g2 (atP_nat (List.getElem?_eq_getElem hj))
    simp -implicitDefEqProofs only [wipeP, Pm.setl, mApp_ev, mCons_ev, mNil_ev, m2_ev, mVar, List.set_cons_succ, List.set_cons_zero, List.getElem?_cons_zero, List.getElem?_cons_succ, bind_ok, x1, x2, List.length_cons, List.length_nil, Nat.zero_add, Nat.reduceAdd, if_true, ih]
  have al : allM [.cell S.length] (S ++ [.lst ([] ++ (rngP 0 xs.length).map fun _ => PV.bl true)]) = .ok (.bl true) (S ++ [.lst ([] ++ (rngP 0 xs.length).map fun _ => PV.bl true)]) := by
    have e : [] ++ ((rngP 0 xs.length).map fun _ => PV.bl true) = List.replicate xs.length (.bl true) := by
      rw [List.nil_append]
      refine List.eq_replicate_iff.mpr ⟨by simp, fun b hb => ?_⟩
      obtain ⟨_, _, e⟩ := List.mem_map.mp hb
      exact e.symm
    rw [e]
    have e2 : (S ++ [MO.lst (List.replicate xs.length (PV.bl true))])[S.length]? = some (.lst (List.replicate xs.length (.bl true))) := by simp
    simp [allM, lsOf, e2, bls_rep]
  generalize hE : (S ++ [MO.lst ([] ++ (rngP 0 xs.length).map fun _ => PV.bl true)]) = E at *
  have g : gcS S.length [.bl true] E = S := by rw [← hE]; exact gcS_app c rfl
  unfold m_l_equal
  simp -implicitDefEqProofs [callD_ev, mSeq_ev, mIf_ev, mRet_ev, mExp_ev, mAsgN_ev, mAsg_ev, mPar_ev, mPar3_ev, mSetL_ev, mNx_ev, mBk_ev, mCt_ev, mRetN_ev, mRaise_ev, m2_ev, mC_ev, mVar, mTst_ev, mTru_ev, mCh_ev, mIsN_ev, mAndT_ev, mOrT_ev, mNotT_ev, mAndV_ev, mOrV_ev, mNotV_ev, mIfE_ev, mNeg_ev, mNil_ev, mCons_ev, mTup_ev, mLst_ev, mCall_ev, mIsi_ev, mApp_ev, mAllWh_ev, mSl_ev, mNoP_ev, mPart_ev, mFor_ev, mItA_ev, mItE_ev, mLc_ev, mYes_ev, add_ev, sub_ev, lt_ev, le_ev, gt_ev, ge_ev, eqi_ev, eqs_ev, eqb_ev, eqn_ev, nei_ev, nes_ev, lenT_ev, abs_ev, int_ev, intb_ev, ixM, atP, ixN, setl, setLO, bindG, mgName, mgTup, mgCons, mgNil, i1, i2, isNM, truthM, l1, l2, r1, lc, al, g]

structure Dst (ns : List Int) (s l : Nat) (S : Sto) : Prop where
  st : ∃ c k, St S s l ns c k
  clo : Clo S
def Up (s l : Nat) (S S' : Sto) : Prop := ∃ c k, 0 ≤ k ∧ S' = S.set s (sx l c k)
section
variable {ns : List Int} {s l : Nat} {S S' S'' : Sto}
theorem Dst.lt (h : Dst ns s l S) : s < S.length ∧ l < S.length := by
  obtain ⟨c, k, h⟩ := h.st
  exact ⟨(List.getElem?_eq_some_iff.mp h.s).1, (List.getElem?_eq_some_iff.mp h.l).1⟩
theorem sx_clo {n : Nat} {c k : Int} (h : l < n) : cloO n (sx l c k) = true := by
  show (decide (l < n) && true) = true
  rw [decide_eq_true h]
  rfl
theorem Dst.nx {m : Int} (h : Dst ns s l S) (hm : 0 < m) (hb : m.natAbs.log2 < 9000) : ∃ d S', 0 ≤ d ∧ d < m ∧ Dst ns s l S' ∧ Up s l S S' ∧ m_l_next [.cell s, .int m] S = .ok (.int d) S' := by
  have lt := h.lt
  have cl := h.clo
  obtain ⟨c, k, h⟩ := h.st
  obtain ⟨d, c', k', a, b, h', e⟩ := h.next hm hb
  exact ⟨d, _, a, b, ⟨⟨c', k', h'⟩, cl.set (sx_clo lt.2)⟩, ⟨c', k', h'.k, rfl⟩, e⟩
theorem Dst.app {o : MO} (h : Dst ns s l S) (ho : cloO (S.length + 1) o = true) : Dst ns s l (S ++ [o]) := by
  obtain ⟨c, k, h'⟩ := h.st
  exact ⟨⟨c, k, h'.app _⟩, h.clo.app ho⟩
theorem Dst.up (h : Dst ns s l S) (u : Up s l S S') : Dst ns s l S' := by
  have lt := h.lt
  have cl := h.clo
  obtain ⟨c0, k0, h0⟩ := h.st
  obtain ⟨c, k, hk, rfl⟩ := u
  exact ⟨⟨c, k, h0.set hk⟩, cl.set (sx_clo lt.2)⟩
theorem Up.rfl (h : Dst ns s l S) : Up s l S S := by
  obtain ⟨c, k, h'⟩ := h.st
  refine ⟨c, k, h'.k, ?_⟩
  obtain ⟨h1, h2⟩ := List.getElem?_eq_some_iff.mp h'.s
  rw [← h2]
  simp
theorem Up.trans (u : Up s l S S') (v : Up s l S' S'') : Up s l S S'' := by
  obtain ⟨c, k, _, rfl⟩ := u
  obtain ⟨c', k', h, rfl⟩ := v
  exact ⟨c', k', h, by rw [List.set_set]⟩
theorem Up.len (u : Up s l S S') : S'.length = S.length := by
  obtain ⟨c, k, _, rfl⟩ := u
  simp
theorem Up.at (u : Up s l S S') {i : Nat} (h : i ≠ s) : S'[i]? = S[i]? := by
  obtain ⟨c, k, _, rfl⟩ := u
  exact List.getElem?_set_ne (Ne.symm h)
/-- the object that stands behind all others -/
theorem Up.last {o : MO} (h : Dst ns s l S) (u : Up s l (S ++ [o]) S') : S'[S.length]? = some o := by
  rw [u.at (by have := h.lt; omega)]
  simp
/-- what was made behind S falls away -/
theorem Up.gc {E : Sto} {vs : List PV} (h : Dst ns s l S) (u : Up s l (S ++ E) S') (hv : clos S.length vs = true) : ∃ T, Dst ns s l T ∧ Up s l S T ∧ gcS S.length vs S' = T := by
  have lt := h.lt
  obtain ⟨c, k, hk, rfl⟩ := u
  have u2 : Up s l S (S.set s (sx l c k)) := ⟨c, k, hk, Eq.refl _⟩
  refine ⟨_, h.up u2, u2, ?_⟩
  rw [List.set_append_left _ _ lt.1]
  have e : S.length = (S.set s (sx l c k)).length := by simp
  rw [e] at hv ⊢
  exact gcS_app (h.up u2).clo hv
end
def el (x y : Q2) : PV := .tup [pq x, pq y]
theorem nrm01 : Nrm ((0, 1) : Q2) := ⟨by decide, by decide⟩
theorem sm01 {n : Nat} (h : n ≠ 0 := by decide) : Sm n ((0, 1) : Q2) := sm_int (by simpa using Nat.two_pow_pos n) h
theorem eqq_ev {x y : Q2} {T : Sto} : eqM (pq x) (pq y) T = .ok (.bl (decide (x = y))) T := by
  show eqM (.tup [.int x.1, .int x.2]) (.tup [.int y.1, .int y.2]) T = _
  rw [eq2_ev]
  congr 2
  rcases x with ⟨a, b⟩
  rcases y with ⟨c, d⟩
  simp
theorem fst_ev {x y : Q2} {T : Sto} : ixM (el x y) (.int 0) T = .ok (pq x) T := rfl
theorem snd_ev {x y : Q2} {T : Sto} : ixM (el x y) (.int 1) T = .ok (pq y) T := rfl
theorem p1_ev {x : Q2} {T : Sto} : ixM (pq x) (.int 0) T = .ok (.int x.1) T := rfl
theorem nrmf (f : Int) : Nrm (f, 1) := ⟨Int.le_refl 1, by show Nat.gcd _ 1 = 1; exact Nat.gcd_one_right _⟩
theorem fMul_z {f : Int} {x y z : Q2} (hx : Nrm x) (hy : Nrm y) (hz : Nrm z) : fMul f x y z (0, 1) = (qTimes x z, qTimes y z) := by
  have n1 := qTimes_nrm hx.1 hz.1
  have n2 := qTimes_nrm hy.1 hz.1
  have n3 := qTimes_nrm hy.1 nrm01.1
  have n4 := qTimes_nrm (nrmf f).1 n3.1
  have n5 := qTimes_nrm hx.1 nrm01.1
  unfold fMul
  have e1 : qPlus (qTimes x z) (qTimes (f, 1) (qTimes y (0, 1))) = qTimes x z := val_inj (qPlus_nrm n1.1 n4.1) n1 (by
    rw [val_plus n1.1 n4.1, val_times (nrmf f).1 n3.1, val_times hy.1 nrm01.1, val_zero]
    grind)
  have e2 : qPlus (qTimes x (0, 1)) (qTimes y z) = qTimes y z := val_inj (qPlus_nrm n5.1 n2.1) n2 (by
    rw [val_plus n5.1 n2.1, val_times hx.1 nrm01.1, val_zero]
    grind)
  rw [e1, e2]
theorem multiply_ev {S : Sto} {f : Int} {x y z w : Q2} (n m : Nat) (hf : f.natAbs < 2 ^ 100) (nx : Nrm x) (ny : Nrm y) (nz : Nrm z) (nw : Nrm w) (sx : Sm n x) (sy : Sm n y) (sz : Sm m z) (sw : Sm m w) (h : n + m + 100 ≤ 3000 := by decide) : m_multiply [.int f, el x y, el z w] S = .ok (el (fMul f x y z w).1 (fMul f x y z w).2) S := by
  have sf : Sm 100 (f, 1) := sm_int hf
  have t1 := fun T => times_ev (S := T) nx nz (sx.up 4000 (by omega)) (sz.up 4000 (by omega))
  have t5 := fun T => times_ev (S := T) ny nz (sy.up 4000 (by omega)) (sz.up 4000 (by omega))
  have p0 : PV.tup [.int f, .int 1] = pq (f, 1) := rfl
  have pz : c_ZERO = pq (0, 1) := rfl
  unfold m_multiply
  by_cases hw : w = (0, 1)
  · have e := fMul_z (f := f) nx ny nz
    subst hw
    rw [e]
    simp -implicitDefEqProofs [callD_ev, mSeq_ev, mIf_ev, mRet_ev, mExp_ev, mAsgN_ev, mAsg_ev, mPar_ev, mPar3_ev, mSetL_ev, mNx_ev, mBk_ev, mCt_ev, mRetN_ev, mRaise_ev, m2_ev, mC_ev, mVar, mTst_ev, mTru_ev, mCh_ev, mIsN_ev, mAndT_ev, mOrT_ev, mNotT_ev, mAndV_ev, mOrV_ev, mNotV_ev, mIfE_ev, mNeg_ev, mNil_ev, mCons_ev, mTup_ev, mLst_ev, mCall_ev, mIsi_ev, mApp_ev, mAllWh_ev, mSl_ev, mNoP_ev, mPart_ev, mFor_ev, mItA_ev, mItE_ev, mLc_ev, mYes_ev, add_ev, sub_ev, lt_ev, le_ev, gt_ev, ge_ev, eqi_ev, eqs_ev, eqb_ev, eqn_ev, nei_ev, nes_ev, lenT_ev, abs_ev, int_ev, intb_ev, setl, setLO, bindG, mgName, mgTup, mgCons, mgNil, ixT0, ixT1, ixT2, fst_ev, snd_ev, t1, t5, pz, eqq_ev]
    rfl
  · have n1 := qTimes_nrm nx.1 nz.1
    have n2 := qTimes_nrm ny.1 nw.1
    have n3 := qTimes_nrm (nrmf f).1 n2.1
    have n4 := qTimes_nrm nx.1 nw.1
    have n5 := qTimes_nrm ny.1 nz.1
    have t2 := fun T => times_ev (S := T) ny nw (sy.up 4000 (by omega)) (sw.up 4000 (by omega))
    have t3 := fun T => times_ev (S := T) (nrmf f) n2 (sf.up 4000) ((sy.times sw).up 4000 (by omega))
    have t4 := fun T => times_ev (S := T) nx nw (sx.up 4000 (by omega)) (sw.up 4000 (by omega))
    have a1 := fun T => plus_ev (S := T) n1 n3 ((sx.times sz).up 3000 (by omega)) ((sf.times (sy.times sw)).up 3000 (by omega))
    have a2 := fun T => plus_ev (S := T) n4 n5 ((sx.times sw).up 3000 (by omega)) ((sy.times sz).up 3000 (by omega))
    simp -implicitDefEqProofs [callD_ev, mSeq_ev, mIf_ev, mRet_ev, mExp_ev, mAsgN_ev, mAsg_ev, mPar_ev, mPar3_ev, mSetL_ev, mNx_ev, mBk_ev, mCt_ev, mRetN_ev, mRaise_ev, m2_ev, mC_ev, mVar, mTst_ev, mTru_ev, mCh_ev, mIsN_ev, mAndT_ev, mOrT_ev, mNotT_ev, mAndV_ev, mOrV_ev, mNotV_ev, mIfE_ev, mNeg_ev, mNil_ev, mCons_ev, mTup_ev, mLst_ev, mCall_ev, mIsi_ev, mApp_ev, mAllWh_ev, mSl_ev, mNoP_ev, mPart_ev, mFor_ev, mItA_ev, mItE_ev, mLc_ev, mYes_ev, add_ev, sub_ev, lt_ev, le_ev, gt_ev, ge_ev, eqi_ev, eqs_ev, eqb_ev, eqn_ev, nei_ev, nes_ev, lenT_ev, abs_ev, int_ev, intb_ev, setl, setLO, bindG, mgName, mgTup, mgCons, mgNil, ixT0, ixT1, ixT2, fst_ev, snd_ev, t1, t2, p0, t3, t4, t5, a1, a2, pz, eqq_ev, hw]
    rfl

section
variable {t : MG} {mt : MT} {te : ME} {vs : List Nat} {n : Nat} {ρ : PSt} {S : Sto} {x : PV} {xs : List PV}
end
def FO (D : Int) : Prop := D = 0 ∨ (0 < D ∧ ¬ isSq D)
theorem FO.nn {D : Int} (h : FO D) : 0 ≤ D := by rcases h with h | h <;> omega
def GE (D A B : Int) : Prop := (0 ≤ A ∧ 0 ≤ B) ∨ (0 ≤ A ∧ D * (B * B) ≤ A * A) ∨ (0 ≤ B ∧ A * A ≤ D * (B * B))
def GT (D A B : Int) : Prop := (0 < A ∧ 0 ≤ B) ∨ (0 ≤ A ∧ 0 < B) ∨ (0 < A ∧ D * (B * B) < A * A) ∨ (0 < B ∧ A * A < D * (B * B))
theorem GT.ge {D A B : Int} (h : GT D A B) : GE D A B := by
  rcases h with h | h | h | h
  · exact .inl ⟨by omega, h.2⟩
  · exact .inl ⟨h.1, by omega⟩
  · exact .inr (.inl ⟨by omega, by omega⟩)
  · exact .inr (.inr ⟨by omega, by omega⟩)
theorem sqn (a : Int) : 0 ≤ a * a := by
  rcases Int.le_total 0 a with h | h
  · exact Int.mul_nonneg h h
  · have := Int.mul_nonneg (show 0 ≤ -a by omega) (show 0 ≤ -a by omega)
    rwa [Int.neg_mul_neg] at this
theorem sqp {a : Int} (h : a ≠ 0) : 0 < a * a := by
  rcases Int.lt_or_gt_of_ne h with h | h
  · exact Int.mul_pos_of_neg_of_neg h h
  · exact Int.mul_pos h h
theorem GE.add {D A B p : Int} (hD : 0 ≤ D) (h : GE D A B) (hp : 0 < p) : GT D (A + p) B := by
  rcases h with ⟨a, b⟩ | ⟨a, b⟩ | ⟨a, b⟩
  · exact .inl ⟨by omega, b⟩
  · refine .inr (.inr (.inl ⟨by omega, ?_⟩))
    have e : (A + p) * (A + p) = A * A + (2 * (A * p) + p * p) := by grind
    have := Int.mul_nonneg a (Int.le_of_lt hp)
    have := Int.mul_pos hp hp
    omega
  · by_cases hB : B = 0
    · subst hB
      have : A = 0 := by
        by_cases h0 : A = 0
        · exact h0
        · have := sqp h0
          simp at b
          omega
      exact .inl ⟨by omega, by omega⟩
    · by_cases h0 : 0 ≤ A + p
      · exact .inr (.inl ⟨h0, by omega⟩)
      · refine .inr (.inr (.inr ⟨by omega, ?_⟩))
        have e : A * A - (A + p) * (A + p) = (-A - (A + p)) * p := by grind
        have := Int.mul_pos (show 0 < -A - (A + p) by omega) hp
        omega
theorem GE.add0 {D A B p : Int} (hD : 0 ≤ D) (h : GE D A B) (hp : 0 ≤ p) : GE D (A + p) B := by
  rcases (show p = 0 ∨ 0 < p by omega) with e | e
  · rw [e, Int.add_zero]; exact h
  · exact (h.add hD e).ge
theorem GT.add0 {D A B p : Int} (hD : 0 ≤ D) (h : GT D A B) (hp : 0 ≤ p) : GT D (A + p) B := by
  rcases (show p = 0 ∨ 0 < p by omega) with e | e
  · rw [e, Int.add_zero]; exact h
  · exact h.ge.add hD e
/-- by the norm -/
theorem ge_norm {D A B n m : Int} (e : A * A - D * (B * B) = n * m) : (0 ≤ A → 0 ≤ B ∨ (0 ≤ n ∧ 0 ≤ m) ∨ (n ≤ 0 ∧ m ≤ 0)) → (A < 0 → 0 ≤ B ∧ ((0 ≤ n ∧ m ≤ 0) ∨ (n ≤ 0 ∧ 0 ≤ m))) → GE D A B := by
  intro h1 h2
  rcases Int.lt_or_le A 0 with h | h
  · obtain ⟨b, h3⟩ := h2 h
    refine .inr (.inr ⟨b, ?_⟩)
    have : n * m ≤ 0 := by
      rcases h3 with ⟨p, q⟩ | ⟨p, q⟩
      · exact Int.mul_nonpos_of_nonneg_of_nonpos p q
      · rw [Int.mul_comm]; exact Int.mul_nonpos_of_nonneg_of_nonpos q p
    omega
  · rcases h1 h with b | ⟨p, q⟩ | ⟨p, q⟩
    · exact .inl ⟨h, b⟩
    · have := Int.mul_nonneg p q
      exact .inr (.inl ⟨h, by omega⟩)
    · have := Int.mul_nonneg_of_nonpos_of_nonpos p q
      exact .inr (.inl ⟨h, by omega⟩)
theorem sq_le {a b : Int} (h1 : -b ≤ a) (h2 : a ≤ b) : a * a ≤ b * b := by
  have e : b * b - a * a = (b - a) * (b + a) := by grind
  have := Int.mul_nonneg (show 0 ≤ b - a by omega) (show 0 ≤ b + a by omega)
  omega
/-- u (u + 2 p), for u and p from 0 on -/
theorem GE.sq {D U Y p : Int} (hD : 0 ≤ D) (h : GE D U Y) (hp : 0 ≤ p) : GE D (U * U + D * (Y * Y) + 2 * (p * U)) (2 * (Y * (U + p))) := by
  have e : (U * U + D * (Y * Y) + 2 * (p * U)) * (U * U + D * (Y * Y) + 2 * (p * U)) - D * (2 * (Y * (U + p)) * (2 * (Y * (U + p)))) = (U * U - D * (Y * Y)) * ((U + 2 * p) * (U + 2 * p) - D * (Y * Y)) := by grind
  have y0 := Int.mul_nonneg hD (sqn Y)
  have u0 := sqn U
  generalize hT : D * (Y * Y) = T at *
  have e2 : (U + 2 * p) * (U + 2 * p) = U * U + 4 * (p * (U + p)) := by grind
  refine ge_norm e (fun ha => ?_) (fun ha => ?_)
  · rcases h with ⟨a, b⟩ | ⟨a, b⟩ | ⟨a, b⟩
    · exact .inl (by have := Int.mul_nonneg b (show 0 ≤ U + p by omega); omega)
    · rw [hT] at b
      have := Int.mul_nonneg hp (show 0 ≤ U + p by omega)
      exact .inr (.inl ⟨by omega, by omega⟩)
    · rw [hT] at b
      by_cases h0 : 0 ≤ U + p
      · exact .inl (by have := Int.mul_nonneg a h0; omega)
      · have := Int.mul_nonneg hp (show 0 ≤ -(U + p) by omega)
        have e3 : p * -(U + p) = -(p * (U + p)) := by grind
        exact .inr (.inr ⟨by omega, by omega⟩)
  · rcases h with ⟨a, b⟩ | ⟨a, b⟩ | ⟨a, b⟩
    · have := Int.mul_nonneg hp a
      omega
    · have := Int.mul_nonneg hp a
      omega
    · rw [hT] at b
      by_cases h0 : 0 ≤ U + p
      · refine ⟨by have := Int.mul_nonneg a h0; omega, .inr ⟨by omega, ?_⟩⟩
        have e3 : 2 * ((U + p) * (U + 2 * p)) = 2 * (U * U) + 6 * (p * U) + 4 * (p * p) := by grind
        have e4 : 4 * (p * (U + p)) = 4 * (p * U) + 4 * (p * p) := by grind
        have := Int.mul_nonneg h0 (show 0 ≤ U + 2 * p by omega)
        omega
      · have := Int.mul_nonneg (show 0 ≤ -U by omega) (show 0 ≤ -(U + p) by omega)
        have e3 : -U * -(U + p) = U * U + p * U := by grind
        omega
/-- u (2 p - u), for u and p - u from 0 on -/
theorem GE.sq2 {D U Y p : Int} (hD : 0 ≤ D) (h : GE D U Y) (hp : 0 ≤ p) (k : GT D (p - U) (-Y)) : GE D (2 * (p * U) - U * U - D * (Y * Y)) (2 * (Y * (p - U))) := by
  have e : (2 * (p * U) - U * U - D * (Y * Y)) * (2 * (p * U) - U * U - D * (Y * Y)) - D * (2 * (Y * (p - U)) * (2 * (Y * (p - U)))) = (U * U - D * (Y * Y)) * ((2 * p - U) * (2 * p - U) - D * (Y * Y)) := by grind
  have y0 := Int.mul_nonneg hD (sqn Y)
  have u0 := sqn U
  have en : D * (-Y * -Y) = D * (Y * Y) := by grind
  unfold GT at k
  unfold GE at h
  rw [en] at k
  have hY : Y = 0 → D * (Y * Y) = 0 := fun h => by rw [h]; simp
  generalize hT : D * (Y * Y) = T at *
  have e2 : (2 * p - U) * (2 * p - U) = U * U + 4 * (p * (p - U)) := by grind
  have e4 : p * (p - U) = p * p - p * U := by grind
  have e5 : (p - U) * (p - U) = p * p - 2 * (p * U) + U * U := by grind
  by_cases hy : Y < 0
  · have hu : 0 ≤ U ∧ T ≤ U * U := by
      rcases h with h | h | h
      · omega
      · exact h
      · omega
    by_cases h0 : 0 ≤ p - U
    · have q1 := Int.mul_nonneg hu.1 h0
      have e6 : U * (p - U) = p * U - U * U := by grind
      have q2 := Int.mul_nonneg hp h0
      refine ge_norm e (fun ha => .inr (.inl ⟨by omega, by omega⟩)) (fun ha => ?_)
      omega
    · have hb : (p - U) * (p - U) < T := by
        rcases k with k | k | k | k
        · omega
        · omega
        · omega
        · exact k.2
      have q1 := Int.mul_pos (show 0 < -Y by omega) (show 0 < U - p by omega)
      have e6 : -Y * (U - p) = Y * (p - U) := by grind
      refine ge_norm e (fun ha => .inl (by omega)) (fun ha => ⟨by omega, .inl ⟨by omega, ?_⟩⟩)
      by_cases h1 : 0 ≤ 2 * p - U
      · have q2 := Int.mul_nonneg h1 (show 0 ≤ U - p by omega)
        have e7 : (2 * p - U) * (U - p) = 3 * (p * U) - U * U - 2 * (p * p) := by grind
        omega
      · have := sq_le (a := 2 * p - U) (b := U - p) (by omega) (by omega)
        have e8 : (U - p) * (U - p) = (p - U) * (p - U) := by grind
        omega
  · have hk : 0 < p - U ∧ T < (p - U) * (p - U) := by
      rcases k with k | k | k | k
      · have z := hY (by omega)
        have := sqp (show p - U ≠ 0 by omega)
        exact ⟨k.1, by omega⟩
      · omega
      · exact k
      · omega
    have q1 := Int.mul_nonneg (show 0 ≤ Y by omega) (show 0 ≤ p - U by omega)
    have q2 := sq_le (a := p - U) (b := 2 * p - U) (by omega) (by omega)
    refine ge_norm e (fun ha => .inl (by omega)) (fun ha => ⟨by omega, .inr ⟨?_, by omega⟩⟩)
    by_cases hu : 0 ≤ U
    · have q3 := Int.mul_nonneg hu (show 0 ≤ p - U by omega)
      have e6 : U * (p - U) = p * U - U * U := by grind
      omega
    · rcases h with h | h | h
      · omega
      · omega
      · omega
def sg3 (D A B : Int) : Int := if B.sign = 0 ∨ A.sign = B.sign then A.sign else if A.sign = 0 then B.sign else A.sign * (A * A - D * (B * B)).sign
theorem sign_p {a : Int} (h : 0 < a) : a.sign = 1 := Int.sign_eq_one_of_pos h
theorem sign_n {a : Int} (h : a < 0) : a.sign = -1 := Int.sign_eq_neg_one_of_neg h
theorem norm_ne {D A B : Int} (h : FO D) (hB : B ≠ 0) (hz : D = 0 → B = 0) : A * A - D * (B * B) ≠ 0 := by
  rcases h with h | ⟨_, h⟩
  · exact absurd (hz h) hB
  · intro e
    exact h (sq_of (l := A) hB (by grind))
/-- the three ways -/
theorem sg3_tri {D A B : Int} (h : FO D) (hz : D = 0 → B = 0) : (GT D A B ∧ sg3 D A B = 1) ∨ (GT D (-A) (-B) ∧ sg3 D A B = -1) ∨ (A = 0 ∧ B = 0 ∧ sg3 D A B = 0) := by
  have en : D * (-B * -B) = D * (B * B) := by grind
  have en2 : -A * -A = A * A := by grind
  rcases Int.lt_trichotomy B 0 with b | b | b
  · have ne := norm_ne (A := A) h (show B ≠ 0 by omega) hz
    rcases Int.lt_trichotomy A 0 with a | a | a
    · refine .inr (.inl ⟨.inl ⟨by omega, by omega⟩, ?_⟩)
      unfold sg3
      rw [sign_n a, sign_n b]
      rfl
    · refine .inr (.inl ⟨.inr (.inl ⟨by omega, by omega⟩), ?_⟩)
      subst a
      unfold sg3
      rw [sign_n b]
      rfl
    · unfold sg3 GT
      rw [en, en2, sign_p a, sign_n b]
      rcases Int.lt_or_gt_of_ne ne with c | c
      · rw [sign_n c]
        exact .inr (.inl ⟨.inr (.inr (.inr ⟨by omega, by omega⟩)), rfl⟩)
      · rw [sign_p c]
        exact .inl ⟨.inr (.inr (.inl ⟨a, by omega⟩)), rfl⟩
  · subst b
    rcases Int.lt_trichotomy A 0 with a | a | a
    · refine .inr (.inl ⟨.inl ⟨by omega, by omega⟩, ?_⟩)
      unfold sg3
      rw [sign_n a]
      rfl
    · subst a
      exact .inr (.inr ⟨rfl, rfl, rfl⟩)
    · refine .inl ⟨.inl ⟨a, by omega⟩, ?_⟩
      unfold sg3
      rw [sign_p a]
      rfl
  · have ne := norm_ne (A := A) h (show B ≠ 0 by omega) hz
    rcases Int.lt_trichotomy A 0 with a | a | a
    · unfold sg3 GT
      rw [en, en2, sign_n a, sign_p b]
      rcases Int.lt_or_gt_of_ne ne with c | c
      · rw [sign_n c]
        exact .inl ⟨.inr (.inr (.inr ⟨b, by omega⟩)), rfl⟩
      · rw [sign_p c]
        exact .inr (.inl ⟨.inr (.inr (.inl ⟨by omega, by omega⟩)), rfl⟩)
    · refine .inl ⟨.inr (.inl ⟨by omega, b⟩), ?_⟩
      subst a
      unfold sg3
      rw [sign_p b]
      rfl
    · refine .inl ⟨.inl ⟨a, by omega⟩, ?_⟩
      unfold sg3
      rw [sign_p a, sign_p b]
      rfl
/-- not both ways -/
theorem ge_gt {D A B : Int} (hD : 0 ≤ D) (hz : D = 0 → B = 0) (h : GE D A B) (k : GT D (-A) (-B)) : False := by
  have en : D * (-B * -B) = D * (B * B) := by grind
  have en2 : -A * -A = A * A := by grind
  have b0 := Int.mul_nonneg hD (sqn B)
  have a0 := sqn A
  unfold GT at k
  rw [en, en2] at k
  have zB : B = 0 → D * (B * B) = 0 := fun h => by rw [h]; simp
  have zA : A ≠ 0 → 0 < A * A := sqp
  by_cases hB : B = 0
  · have := zB hB
    by_cases hA : A = 0
    · rcases h with h | h | h <;> rcases k with k | k | k | k <;> omega
    · have := zA hA
      rcases h with h | h | h <;> rcases k with k | k | k | k <;> omega
  · have hp : 0 < D := by
      rcases (show D = 0 ∨ 0 < D by omega) with e | e
      · exact absurd (hz e) hB
      · exact e
    have := Int.mul_pos hp (sqp hB)
    by_cases hA : A = 0
    · have : A * A = 0 := by rw [hA]; rfl
      rcases h with h | h | h <;> rcases k with k | k | k | k <;> omega
    · have := zA hA
      rcases h with h | h | h <;> rcases k with k | k | k | k <;> omega
theorem sg3_gt {D A B : Int} (h : FO D) (hz : D = 0 → B = 0) (g : GT D A B) : sg3 D A B = 1 := by
  rcases sg3_tri (A := A) h hz with ⟨_, e⟩ | ⟨k, _⟩ | ⟨rfl, rfl, _⟩
  · exact e
  · exact (ge_gt h.nn hz g.ge k).elim
  · exfalso
    unfold GT at g
    simp at g
theorem sg3_ge {D A B : Int} (h : FO D) (hz : D = 0 → B = 0) (g : GE D A B) : 0 ≤ sg3 D A B := by
  rcases sg3_tri (A := A) h hz with ⟨_, e⟩ | ⟨k, _⟩ | ⟨_, _, e⟩
  · omega
  · exact (ge_gt h.nn hz g k).elim
  · omega
theorem sg3_neg {D A B : Int} : sg3 D (-A) (-B) = - sg3 D A B := by
  have en : D * (-B * -B) = D * (B * B) := by grind
  have en2 : -A * -A = A * A := by grind
  unfold sg3
  rw [en, en2, Int.sign_neg, Int.sign_neg]
  by_cases h1 : B.sign = 0 ∨ A.sign = B.sign
  · rw [if_pos h1, if_pos (by omega)]
  · rw [if_neg h1, if_neg (by omega)]
    by_cases h2 : A.sign = 0
    · rw [if_pos h2, if_pos (by omega)]
    · rw [if_neg h2, if_neg (by omega), Int.neg_mul]
theorem sg3_lt {D A B : Int} (h : FO D) (hz : D = 0 → B = 0) (g : GT D (-A) (-B)) : sg3 D A B = -1 := by
  have := sg3_gt h (fun e => by rw [hz e]; rfl) g
  rw [sg3_neg] at this
  omega
theorem sg3_ge' {D A B : Int} (h : FO D) (hz : D = 0 → B = 0) (g : 0 ≤ sg3 D A B) : GE D A B := by
  rcases sg3_tri (A := A) h hz with ⟨k, _⟩ | ⟨_, e⟩ | ⟨rfl, rfl, _⟩
  · exact k.ge
  · omega
  · exact .inl ⟨Int.le_refl 0, Int.le_refl 0⟩
theorem sg3_lt' {D A B : Int} (h : FO D) (hz : D = 0 → B = 0) (g : sg3 D A B < 0) : GT D (-A) (-B) := by
  rcases sg3_tri (A := A) h hz with ⟨_, e⟩ | ⟨k, _⟩ | ⟨_, _, e⟩
  · omega
  · exact k
  · omega
theorem sg3_mul {D A B p : Int} (hp : 0 < p) : sg3 D (A * p) (B * p) = sg3 D A B := by
  have e : A * p * (A * p) - D * (B * p * (B * p)) = (A * A - D * (B * B)) * (p * p) := by grind
  unfold sg3
  rw [e, sign_pos_mul hp, sign_pos_mul hp, sign_pos_mul (Int.mul_pos hp hp)]
/-- what compare_with_root tells -/
def cwr (D A Y E K : Int) : Int := if sg3 D A Y ≠ K.sign then (if K.sign < sg3 D A Y then 1 else -1) else sg3 D A Y * sg3 D (A * A + D * (Y * Y) - E * (K * K)) (2 * (A * Y))
theorem cwr_neg {D A Y E K : Int} : cwr D (-A) (-Y) E (-K) = - cwr D A Y E K := by
  have e1 : -A * -A + D * (-Y * -Y) - E * (-K * -K) = A * A + D * (Y * Y) - E * (K * K) := by grind
  have e2 : 2 * (-A * -Y) = 2 * (A * Y) := by grind
  unfold cwr
  rw [e1, e2, sg3_neg, Int.sign_neg]
  by_cases h : sg3 D A Y = K.sign
  · rw [if_neg (fun z => z (by rw [h])), if_neg (fun z => z h), Int.neg_mul]
  · rw [if_pos (fun z => h (by omega)), if_pos h]
    by_cases h2 : K.sign < sg3 D A Y
    · rw [if_neg (by omega), if_pos h2]
    · rw [if_pos (by omega), if_neg h2]
      rfl
/-- u from 0 on, p - K sqrt E above 0: u + p is above K sqrt E -/
theorem cwr_pos {D U Y E K p : Int} (hD : FO D) (hE : FO E) (zD : D = 0 → Y = 0) (zE : E = 0 → K = 0) (hu : GE D U Y) (hv : GT E p (-K)) : cwr D (U + p) Y E K = 1 := by
  have big : ∀ s : Int, K.sign < sg3 D (U + p) Y → cwr D (U + p) Y E K = 1 := fun _ h => by
    unfold cwr
    rw [if_pos (by omega), if_pos h]
  have zD2 : D = 0 → 2 * ((U + p) * Y) = 0 := fun h => by rw [zD h]; simp
  have en : E * (-K * -K) = E * (K * K) := by grind
  unfold GT at hv
  rw [en] at hv
  rcases Int.lt_trichotomy K 0 with k | k | k
  · by_cases h0 : 0 ≤ p
    · exact big 0 (by have := sg3_ge hD zD (hu.add0 hD.nn h0); rw [sign_n k]; omega)
    · have hd : p * p < E * (K * K) := by
        rcases hv with h | h | h | h
        · omega
        · omega
        · omega
        · exact h.2
      rcases sg3_tri (A := U + p) hD zD with ⟨_, e⟩ | ⟨g, e⟩ | ⟨_, _, e⟩
      · exact big 0 (by rw [e, sign_n k]; omega)
      · have g' : GT D (-p - U) (-Y) := by
          have : -(U + p) = -p - U := by omega
          rwa [this] at g
        have q := (hu.sq2 hD.nn (p := -p) (by omega) g').add hD.nn (p := E * (K * K) - p * p) (by omega)
        have e1 : 2 * (-p * U) - U * U - D * (Y * Y) + (E * (K * K) - p * p) = -((U + p) * (U + p) + D * (Y * Y) - E * (K * K)) := by grind
        have e2 : 2 * (Y * (-p - U)) = -(2 * ((U + p) * Y)) := by grind
        rw [e1, e2] at q
        have := sg3_lt hD zD2 q
        unfold cwr
        rw [if_neg (fun z => z (by rw [e, sign_n k])), e, this]
        rfl
      · exact big 0 (by rw [e, sign_n k]; omega)
  · subst k
    have h0 : 0 < p := by
      rcases hv with h | h | h | h
      · exact h.1
      · omega
      · exact h.1
      · omega
    exact big 0 (by rw [sg3_gt hD zD (hu.add hD.nn h0)]; decide)
  · have hc : 0 < p ∧ E * (K * K) < p * p := by
      rcases hv with h | h | h | h
      · omega
      · omega
      · exact h
      · omega
    have e := sg3_gt hD zD (hu.add hD.nn hc.1)
    have q := (hu.sq hD.nn (Int.le_of_lt hc.1)).add hD.nn (p := p * p - E * (K * K)) (by omega)
    have e1 : U * U + D * (Y * Y) + 2 * (p * U) + (p * p - E * (K * K)) = (U + p) * (U + p) + D * (Y * Y) - E * (K * K) := by grind
    have e2 : 2 * (Y * (U + p)) = 2 * ((U + p) * Y) := by grind
    rw [e1, e2] at q
    have := sg3_gt hD zD2 q
    unfold cwr
    rw [if_neg (fun z => z (by rw [e, sign_p k])), e, this]
    rfl
/-- .. the other part strict -/
theorem cwr_pos2 {D U Y E K p : Int} (hD : FO D) (hE : FO E) (zD : D = 0 → Y = 0) (zE : E = 0 → K = 0) (hu : GT D U Y) (hv : GE E p (-K)) : cwr D (U + p) Y E K = 1 := by
  rcases sg3_tri (A := p) (B := -K) hE (fun h => by rw [zE h]; rfl) with ⟨g, _⟩ | ⟨g, _⟩ | ⟨e1, e2, _⟩
  · exact cwr_pos hD hE zD zE hu.ge g
  · exact (ge_gt hE.nn (fun h => by rw [zE h]; rfl) hv g).elim
  · have : K = 0 := by omega
    subst this
    have e := sg3_gt hD zD hu
    unfold cwr
    rw [e1, Int.add_zero, e, if_pos (by decide), if_pos (by decide)]

theorem sgF_val {D : Int} {X Y : Q2} (hx : 1 ≤ X.2) (hy : 1 ≤ Y.2) {A B r : Int} (hr : 0 < r) (eX : X.1 * r = A * X.2) (eY : Y.1 * r = B * Y.2) : sgF D X Y = sg3 D A B := by
  have n := nrm_sign (f := D) hx hy
  have e : sgF D X Y = sg3 D (X.1 * Y.2) (Y.1 * X.2) := by
    unfold sgF sg3
    have en : X.1 * Y.2 * (X.1 * Y.2) - Y.1 * X.2 * (Y.1 * X.2) * D = X.1 * Y.2 * (X.1 * Y.2) - D * (Y.1 * X.2 * (Y.1 * X.2)) := by grind
    rw [n, en, sign_pos_mul (show 0 < Y.2 by omega), sign_pos_mul (show 0 < X.2 by omega)]
  have e1 : X.1 * Y.2 * r = A * (X.2 * Y.2) := by
    calc X.1 * Y.2 * r = (X.1 * r) * Y.2 := by grind
      _ = A * X.2 * Y.2 := by rw [eX]
      _ = _ := by grind
  have e2 : Y.1 * X.2 * r = B * (X.2 * Y.2) := by
    calc Y.1 * X.2 * r = (Y.1 * r) * X.2 := by grind
      _ = B * Y.2 * X.2 := by rw [eY]
      _ = _ := by grind
  rw [e, ← sg3_mul hr, e1, e2, sg3_mul (Int.mul_pos (by omega) (by omega))]
theorem cross_r {q : Q2} {N R : Int} (h1 : 1 ≤ q.2) (hR : 0 < R) (e : val q = (N : Rat) / (R : Rat)) : q.1 * R = N * q.2 := by
  rw [cross_of (by omega) (by omega) e, Int.mul_comm]
theorem val_r {q : Q2} {N R : Int} (h1 : 1 ≤ q.2) (hR : 0 < R) (e : q.1 * R = N * q.2) : val q = (N : Rat) / (R : Rat) := by
  have k1 := ratne (show q.2 ≠ 0 by omega)
  have k2 := ratne (show R ≠ 0 by omega)
  have e2 : ((q.1 * R : Int) : Rat) = ((N * q.2 : Int) : Rat) := by rw [e]
  rw [Rat.intCast_mul, Rat.intCast_mul] at e2
  unfold val
  grind
theorem rsign_ev {S : Sto} {q : Q2} : m_rational_sign [pq q] S = .ok (.int q.1.sign) S := by
  have w := fun T => wsign_ev (S := T) (n := q.1)
  unfold m_rational_sign
  simp -implicitDefEqProofs [callD_ev, mSeq_ev, mIf_ev, mRet_ev, mExp_ev, mAsgN_ev, mAsg_ev, mPar_ev, mPar3_ev, mSetL_ev, mNx_ev, mBk_ev, mCt_ev, mRetN_ev, mRaise_ev, m2_ev, mC_ev, mVar, mTst_ev, mTru_ev, mCh_ev, mIsN_ev, mAndT_ev, mOrT_ev, mNotT_ev, mAndV_ev, mOrV_ev, mNotV_ev, mIfE_ev, mNeg_ev, mNil_ev, mCons_ev, mTup_ev, mLst_ev, mCall_ev, mIsi_ev, mApp_ev, mAllWh_ev, mSl_ev, mNoP_ev, mPart_ev, mFor_ev, mItA_ev, mItE_ev, mLc_ev, mYes_ev, add_ev, sub_ev, lt_ev, le_ev, gt_ev, ge_ev, eqi_ev, eqs_ev, eqb_ev, eqn_ev, nei_ev, nes_ev, lenT_ev, abs_ev, int_ev, intb_ev, setl, setLO, bindG, mgName, mgTup, mgCons, mgNil, ixT0, ixT1, ixT2, p1_ev, w]
/-- an element as the program holds it -/
structure NumE (v : PV) (D : Int) (X Y : Q2) : Prop where
  isn : ∀ T, m_is_number [v] T = .ok (.bl true) T
  elm : ∀ T, m_element_of [v] T = .ok (.tup [.int D, el X Y]) T
  fo : FO D
  z : D = 0 → Y = (0, 1)
  nX : Nrm X
  nY : Nrm Y
  sX : Sm 250 X
  sY : Sm 40 Y
  sD : D.natAbs < 2 ^ 80
theorem cwr_ev {S : Sto} {D E : Int} {L Y Z : Q2} (sL : Sm 501 L) (sY : Sm 40 Y) (sZ : Sm 40 Z) (nL : Nrm L) (nY : Nrm Y) (nZ : Nrm Z) (bD : D.natAbs < 2 ^ 80) (bE : E.natAbs < 2 ^ 80) {A B k r : Int} (hr : 0 < r) (eL : L.1 * r = A * L.2) (eY : Y.1 * r = B * Y.2) (eZ : Z.1 * r = k * Z.2) :
    m_compare_with_root [.int D, el L Y, .int E, pq Z] S = .ok (.int (cwr D A B E k)) S := by
  have s1 := fun T => signof_sg (S := T) (f := D) (sL.up 2000) (sY.up 2000) (up 80 bD)
  rw [sgF_val nL.1 nY.1 hr eL eY] at s1
  have s1' : ∀ T, m_sign_of [.int D, el L Y] T = .ok (.int (sg3 D A B)) T := s1
  have rs := fun T => rsign_ev (S := T) (q := Z)
  have zs : Z.1.sign = k.sign := by
    have t := congrArg Int.sign eZ
    rwa [sign_pos_mul hr, sign_pos_mul (show 0 < Z.2 by have := nZ.1; omega)] at t
  rw [zs] at rs
  have sf : Sm 80 (E, 1) := sm_int bE
  have sd : Sm 80 (D, 1) := sm_int bD
  have mu := fun T => multiply_ev (S := T) 501 501 (up 80 bD) nL nY nL nY sL (sY.up 501) sL (sY.up 501)
  have nzz := qTimes_nrm nZ.1 nZ.1
  have t1 := fun T => times_ev (S := T) nZ nZ (sZ.up 4000) (sZ.up 4000)
  have t2 := fun T => times_ev (S := T) (nrmf E) nzz (sf.up 4000) ((sZ.times sZ).up 4000)
  have nos := qTimes_nrm (nrmf E).1 nzz.1
  have sos : Sm 160 (qTimes (E, 1) (qTimes Z Z)) := sf.times (sZ.times sZ)
  have nm1 : Nrm (fMul D L Y L Y).1 := qPlus_nrm (qTimes_nrm nL.1 nL.1).1 (qTimes_nrm (nrmf D).1 (qTimes_nrm nY.1 nY.1).1).1
  have nm2 : Nrm (fMul D L Y L Y).2 := qPlus_nrm (qTimes_nrm nL.1 nY.1).1 (qTimes_nrm nY.1 nL.1).1
  have q1 : Sm 1163 (fMul D L Y L Y).1 := by
    have u := sL.times sL
    have v := sd.times (sY.times sY)
    have : Sm 1163 (qPlus (qTimes L L) (qTimes (D, 1) (qTimes Y Y))) := by
      have hd := u.den v
      refine sm_lo hd ?_ ?_
      · exact up 1163 (add_up 1162 (up 1162 (mul_up 1002 160 u.2.1 v.2.2)) (up 1162 (mul_up 160 1002 v.2.1 u.2.2)))
      · exact up 1162 (mul_up 1002 160 u.2.2 v.2.2)
    exact this
  have q2 : Sm 1100 (fMul D L Y L Y).2 := ((sL.times sY).plus (sY.times sL)).up 1100
  have pl := fun T => minus_ev (S := T) nm1 nos (q1.up 3000) (sos.up 3000)
  have nW := qMinus_nrm nm1.1 nos.1
  have sW : Sm 2500 (qMinus (fMul D L Y L Y).1 (qTimes (E, 1) (qTimes Z Z))) := by
    refine sm_lo (q1.den sos) ?_ ?_
    · exact up 1400 (sub_up 1323 (up 1323 (mul_up 1163 160 q1.2.1 sos.2.2)) (up 1323 (mul_up 160 1163 sos.2.1 q1.2.2)))
    · exact up 1400 (mul_up 1163 160 q1.2.2 sos.2.2)
  have s2 := fun T => signof_sg2 (S := T) (f := D) sW (q2.up 2500) (up 80 bD)
  have vL := val_r nL.1 hr eL
  have vY := val_r nY.1 hr eY
  have vZ := val_r nZ.1 hr eZ
  have rr := ratne (show r ≠ 0 by omega)
  have hR : 0 < r * r := Int.mul_pos hr hr
  have w1 : (qMinus (fMul D L Y L Y).1 (qTimes (E, 1) (qTimes Z Z))).1 * (r * r) = (A * A + D * (B * B) - E * (k * k)) * (qMinus (fMul D L Y L Y).1 (qTimes (E, 1) (qTimes Z Z))).2 := by
    refine cross_r nW.1 hR ?_
    rw [val_minus nm1.1 nos.1, (sq_ok (f := D) nL nY).2.2.1, val_times (nrmf E).1 nzz.1, val_times nZ.1 nZ.1, val_int, vL, vY, vZ, Rat.intCast_mul, Rat.intCast_sub, Rat.intCast_add, Rat.intCast_mul, Rat.intCast_mul, Rat.intCast_mul, Rat.intCast_mul, Rat.intCast_mul]
    grind
  have w2 : (fMul D L Y L Y).2.1 * (r * r) = (2 * (A * B)) * (fMul D L Y L Y).2.2 := by
    refine cross_r nm2.1 hR ?_
    rw [(sq_ok (f := D) nL nY).2.2.2, vL, vY, Rat.intCast_mul, Rat.intCast_mul, Rat.intCast_mul]
    have : ((2 : Int) : Rat) = 2 := rfl
    grind
  rw [sgF_val nW.1 nm2.1 hR w1 w2] at s2
  have pe : ∀ a b : Q2, PV.tup [pq a, pq b] = el a b := fun _ _ => rfl
  have s2' : ∀ T, m_sign_of [.int D, el (qMinus (fMul D L Y L Y).1 (qTimes (E, 1) (qTimes Z Z))) (fMul D L Y L Y).2] T = .ok (.int (sg3 D (A * A + D * (B * B) - E * (k * k)) (2 * (A * B)))) T := s2
  have pE : PV.tup [.int E, .int 1] = pq (E, 1) := rfl
  have b3 : (sg3 D A B).natAbs < 2 ^ 62 := by
    have h : ∀ i : Int, i.sign.natAbs < 2 ^ 2 := sign_size
    have g : ∀ i j : Int, (i.sign * j.sign).natAbs < 2 ^ 62 := fun i j => mul_up 2 2 (h i) (h j)
    unfold sg3
    split
    · exact up 2 (h _)
    · split
      · exact up 2 (h _)
      · exact g _ _
  have o : ∀ i, mulOk (sg3 D A B) i = true := fun i => mulOk_l (up 62 b3)
  unfold m_compare_with_root cwr
  by_cases h1 : sg3 D A B = k.sign
  · have h2 : ¬ (sg3 D A B ≠ k.sign) := fun h => h h1
    rw [if_neg h2]
    generalize sg3 D A B = s at *
    have h3 : (s = k.sign) = True := eq_true h1
    simp -implicitDefEqProofs [callD_ev, mSeq_ev, mIf_ev, mRet_ev, mExp_ev, mAsgN_ev, mAsg_ev, mPar_ev, mPar3_ev, mSetL_ev, mNx_ev, mBk_ev, mCt_ev, mRetN_ev, mRaise_ev, m2_ev, mC_ev, mVar, mTst_ev, mTru_ev, mCh_ev, mIsN_ev, mAndT_ev, mOrT_ev, mNotT_ev, mAndV_ev, mOrV_ev, mNotV_ev, mIfE_ev, mNeg_ev, mNil_ev, mCons_ev, mTup_ev, mLst_ev, mCall_ev, mIsi_ev, mApp_ev, mAllWh_ev, mSl_ev, mNoP_ev, mPart_ev, mFor_ev, mItA_ev, mItE_ev, mLc_ev, mYes_ev, add_ev, sub_ev, lt_ev, le_ev, gt_ev, ge_ev, eqi_ev, eqs_ev, eqb_ev, eqn_ev, nei_ev, nes_ev, lenT_ev, abs_ev, int_ev, intb_ev, setl, setLO, bindG, mgName, mgTup, mgCons, mgNil, ixT0, ixT1, ixT2, s1', rs, h3, mu, fst_ev, snd_ev, t1, pE, t2, pl, pe, s2', mulM, o]
  · rw [if_pos h1]
    by_cases h2 : k.sign < sg3 D A B
    · generalize sg3 D A B = s at *
      simp -implicitDefEqProofs [callD_ev, mSeq_ev, mIf_ev, mRet_ev, mExp_ev, mAsgN_ev, mAsg_ev, mPar_ev, mPar3_ev, mSetL_ev, mNx_ev, mBk_ev, mCt_ev, mRetN_ev, mRaise_ev, m2_ev, mC_ev, mVar, mTst_ev, mTru_ev, mCh_ev, mIsN_ev, mAndT_ev, mOrT_ev, mNotT_ev, mAndV_ev, mOrV_ev, mNotV_ev, mIfE_ev, mNeg_ev, mNil_ev, mCons_ev, mTup_ev, mLst_ev, mCall_ev, mIsi_ev, mApp_ev, mAllWh_ev, mSl_ev, mNoP_ev, mPart_ev, mFor_ev, mItA_ev, mItE_ev, mLc_ev, mYes_ev, add_ev, sub_ev, lt_ev, le_ev, gt_ev, ge_ev, eqi_ev, eqs_ev, eqb_ev, eqn_ev, nei_ev, nes_ev, lenT_ev, abs_ev, int_ev, intb_ev, setl, setLO, bindG, mgName, mgTup, mgCons, mgNil, ixT0, ixT1, ixT2, s1', rs, h1, h2]
    · generalize sg3 D A B = s at *
      simp -implicitDefEqProofs [callD_ev, mSeq_ev, mIf_ev, mRet_ev, mExp_ev, mAsgN_ev, mAsg_ev, mPar_ev, mPar3_ev, mSetL_ev, mNx_ev, mBk_ev, mCt_ev, mRetN_ev, mRaise_ev, m2_ev, mC_ev, mVar, mTst_ev, mTru_ev, mCh_ev, mIsN_ev, mAndT_ev, mOrT_ev, mNotT_ev, mAndV_ev, mOrV_ev, mNotV_ev, mIfE_ev, mNeg_ev, mNil_ev, mCons_ev, mTup_ev, mLst_ev, mCall_ev, mIsi_ev, mApp_ev, mAllWh_ev, mSl_ev, mNoP_ev, mPart_ev, mFor_ev, mItA_ev, mItE_ev, mLc_ev, mYes_ev, add_ev, sub_ev, lt_ev, le_ev, gt_ev, ge_ev, eqi_ev, eqs_ev, eqb_ev, eqn_ev, nei_ev, nes_ev, lenT_ev, abs_ev, int_ev, intb_ev, setl, setLO, bindG, mgName, mgTup, mgCons, mgNil, ixT0, ixT1, ixT2, s1', rs, h1, h2]
theorem compare_ev {S : Sto} {v w : PV} {D E : Int} {X Y V W : Q2} (N : NumE v D X Y) (M : NumE w E V W) {A B C k r : Int} (hr : 0 < r) (eX : X.1 * r = A * X.2) (eY : Y.1 * r = B * Y.2) (eV : V.1 * r = C * V.2) (eW : W.1 * r = k * W.2) :
    m_compare_numbers [v, w] S = .ok (.int (cwr D (A - C) B E k)) S := by
  have c1 := fun T => check_yes (z := "first") (N.isn T)
  have c2 := fun T => check_yes (z := "second") (M.isn T)
  have m1 := fun T => minus_ev (S := T) N.nX M.nX (N.sX.up 3000) (M.sX.up 3000)
  have nL := qMinus_nrm N.nX.1 M.nX.1
  have sL : Sm 501 (qMinus X V) := N.sX.minus M.sX
  have rr := ratne (show r ≠ 0 by omega)
  have eL : (qMinus X V).1 * r = (A - C) * (qMinus X V).2 := by
    refine cross_r nL.1 hr ?_
    rw [val_minus N.nX.1 M.nX.1, val_r N.nX.1 hr eX, val_r M.nX.1 hr eV, Rat.intCast_sub]
    grind
  have cw := fun T => cwr_ev (S := T) (D := D) (E := E) sL N.sY M.sY nL N.nY M.nY N.sD M.sD hr eL eY eW
  have pe : ∀ a b : Q2, PV.tup [pq a, pq b] = el a b := fun _ _ => rfl
  have e1 := N.elm
  have e2 := M.elm
  unfold m_compare_numbers
  simp -implicitDefEqProofs [callD_ev, mSeq_ev, mIf_ev, mRet_ev, mExp_ev, mAsgN_ev, mAsg_ev, mPar_ev, mPar3_ev, mSetL_ev, mNx_ev, mBk_ev, mCt_ev, mRetN_ev, mRaise_ev, m2_ev, mC_ev, mVar, mTst_ev, mTru_ev, mCh_ev, mIsN_ev, mAndT_ev, mOrT_ev, mNotT_ev, mAndV_ev, mOrV_ev, mNotV_ev, mIfE_ev, mNeg_ev, mNil_ev, mCons_ev, mTup_ev, mLst_ev, mCall_ev, mIsi_ev, mApp_ev, mAllWh_ev, mSl_ev, mNoP_ev, mPart_ev, mFor_ev, mItA_ev, mItE_ev, mLc_ev, mYes_ev, add_ev, sub_ev, lt_ev, le_ev, gt_ev, ge_ev, eqi_ev, eqs_ev, eqb_ev, eqn_ev, nei_ev, nes_ev, lenT_ev, abs_ev, int_ev, intb_ev, setl, setLO, bindG, mgName, mgTup, mgCons, mgNil, ixT0, ixT1, ixT2, c1, c2, e1, e2, fst_ev, snd_ev, m1, pe, cw]

def bsd (D : Int) (X Y : Q2) (m q : Int) : Int := sg3 D (X.1 * q * Y.2 - m * (X.2 * Y.2)) (Y.1 * X.2 * q)
theorem FO.zb {D : Int} {X Y : Q2} (hz : D = 0 → Y = (0, 1)) (q : Int) : D = 0 → Y.1 * X.2 * q = 0 := fun h => by rw [hz h]; simp
theorem bsd_lt {D : Int} {X Y : Q2} {m q : Int} (h : FO D) (hz : D = 0 → Y = (0, 1)) (g : bsd D X Y m q < 0) : GT D (-(X.1 * q * Y.2 - m * (X.2 * Y.2))) (-(Y.1 * X.2 * q)) := sg3_lt' h (FO.zb hz q) g
theorem bsd_low {D : Int} {X Y : Q2} {m m' q : Int} (h : FO D) (hz : D = 0 → Y = (0, 1)) (hx : 1 ≤ X.2) (hy : 1 ≤ Y.2) (hm : m ≤ m') (g : bsd D X Y m q < 0) : bsd D X Y m' q < 0 := by
  have g' := bsd_lt h hz g
  have p := Int.mul_nonneg (show 0 ≤ m' - m by omega) (Int.mul_nonneg (show 0 ≤ X.2 by omega) (show 0 ≤ Y.2 by omega))
  have := g'.add0 h.nn p
  have e : -(X.1 * q * Y.2 - m * (X.2 * Y.2)) + (m' - m) * (X.2 * Y.2) = -(X.1 * q * Y.2 - m' * (X.2 * Y.2)) := by grind
  rw [e] at this
  have := sg3_lt h (FO.zb hz q) this
  unfold bsd
  omega
theorem nrat_e {r : Q2} (nr : Nrm r) (sr : Sm 250 r) : NumE (.tup [.str "rational", pq r]) 0 r (0, 1) :=
  ⟨fun T => number_rat nr, fun T => element_rat nr, .inl rfl, fun _ => rfl, nr, nrm01, sr, sm01, by decide⟩
/-- two numbers that a fraction parts -/
theorem cmp_up {v w : PV} {D E f q : Int} {X Y V W : Q2} (N : NumE v D X Y) (M : NumE w E V W) (hq : 0 < q) (h1 : 0 ≤ bsd D X Y f q) (h2 : bsd E V W f q < 0) {T : Sto} : m_compare_numbers [v, w] T = .ok (.int 1) T := by
  have x0 : 0 < X.2 := by have := N.nX.1; omega
  have y0 : 0 < Y.2 := by have := N.nY.1; omega
  have v0 : 0 < V.2 := by have := M.nX.1; omega
  have w0 : 0 < W.2 := by have := M.nY.1; omega
  have R : 0 < X.2 * Y.2 * (V.2 * W.2) * q := Int.mul_pos (Int.mul_pos (Int.mul_pos x0 y0) (Int.mul_pos v0 w0)) hq
  have h := compare_ev (S := T) N M (r := X.2 * Y.2 * (V.2 * W.2) * q) (A := X.1 * q * Y.2 * (V.2 * W.2)) (B := Y.1 * X.2 * q * (V.2 * W.2)) (C := V.1 * q * W.2 * (X.2 * Y.2)) (k := W.1 * V.2 * q * (X.2 * Y.2)) R (by grind) (by grind) (by grind) (by grind)
  rw [h]
  have hu : GE D ((X.1 * q * Y.2 - f * (X.2 * Y.2)) * (V.2 * W.2)) (Y.1 * X.2 * q * (V.2 * W.2)) := sg3_ge' N.fo (fun h => by rw [FO.zb N.z q h, Int.zero_mul]) (by rw [sg3_mul (Int.mul_pos v0 w0)]; exact h1)
  have hv : GT E (-(V.1 * q * W.2 - f * (V.2 * W.2)) * (X.2 * Y.2)) (-(W.1 * V.2 * q * (X.2 * Y.2))) := by
    have := sg3_lt' (A := (V.1 * q * W.2 - f * (V.2 * W.2)) * (X.2 * Y.2)) (B := W.1 * V.2 * q * (X.2 * Y.2)) M.fo (fun h => by rw [FO.zb M.z q h, Int.zero_mul]) (by rw [sg3_mul (Int.mul_pos x0 y0)]; exact h2)
    rwa [← Int.neg_mul] at this
  have c := cwr_pos (D := D) (E := E) N.fo M.fo (fun h => by rw [FO.zb N.z q h, Int.zero_mul]) (fun h => by rw [FO.zb M.z q h, Int.zero_mul]) hu hv
  have e : (X.1 * q * Y.2 - f * (X.2 * Y.2)) * (V.2 * W.2) + -(V.1 * q * W.2 - f * (V.2 * W.2)) * (X.2 * Y.2) = X.1 * q * Y.2 * (V.2 * W.2) - V.1 * q * W.2 * (X.2 * Y.2) := by grind
  rw [e] at c
  rw [c]
theorem cmp_dn {v w : PV} {D E f q : Int} {X Y V W : Q2} (N : NumE v D X Y) (M : NumE w E V W) (hq : 0 < q) (h1 : bsd D X Y f q < 0) (h2 : 0 ≤ bsd E V W f q) {T : Sto} : m_compare_numbers [v, w] T = .ok (.int (-1)) T := by
  have x0 : 0 < X.2 := by have := N.nX.1; omega
  have y0 : 0 < Y.2 := by have := N.nY.1; omega
  have v0 : 0 < V.2 := by have := M.nX.1; omega
  have w0 : 0 < W.2 := by have := M.nY.1; omega
  have R : 0 < X.2 * Y.2 * (V.2 * W.2) * q := Int.mul_pos (Int.mul_pos (Int.mul_pos x0 y0) (Int.mul_pos v0 w0)) hq
  have h := compare_ev (S := T) N M (r := X.2 * Y.2 * (V.2 * W.2) * q) (A := X.1 * q * Y.2 * (V.2 * W.2)) (B := Y.1 * X.2 * q * (V.2 * W.2)) (C := V.1 * q * W.2 * (X.2 * Y.2)) (k := W.1 * V.2 * q * (X.2 * Y.2)) R (by grind) (by grind) (by grind) (by grind)
  rw [h]
  have hu : GT D (-((X.1 * q * Y.2 - f * (X.2 * Y.2)) * (V.2 * W.2))) (-(Y.1 * X.2 * q * (V.2 * W.2))) := sg3_lt' N.fo (fun h => by rw [FO.zb N.z q h, Int.zero_mul]) (by rw [sg3_mul (Int.mul_pos v0 w0)]; exact h1)
  have hv : GE E ((V.1 * q * W.2 - f * (V.2 * W.2)) * (X.2 * Y.2)) (- -(W.1 * V.2 * q * (X.2 * Y.2))) := by
    rw [Int.neg_neg]
    exact sg3_ge' M.fo (fun h => by rw [FO.zb M.z q h, Int.zero_mul]) (by rw [sg3_mul (Int.mul_pos x0 y0)]; exact h2)
  have c := cwr_pos2 (D := D) (E := E) (K := -(W.1 * V.2 * q * (X.2 * Y.2))) N.fo M.fo (fun h => by rw [FO.zb N.z q h, Int.zero_mul]; rfl) (fun h => by rw [FO.zb M.z q h, Int.zero_mul]; rfl) hu hv
  have e : -((X.1 * q * Y.2 - f * (X.2 * Y.2)) * (V.2 * W.2)) + (V.1 * q * W.2 - f * (V.2 * W.2)) * (X.2 * Y.2) = -(X.1 * q * Y.2 * (V.2 * W.2) - V.1 * q * W.2 * (X.2 * Y.2)) := by grind
  rw [e, cwr_neg] at c
  congr 2
  omega

structure NumL (v : PV) (D : Int) (X Y : Q2) : Prop extends NumE v D X Y where
  sx : Sm 40 X
  cl : ∀ n, clo n v = true
  bes : ∀ (n d : Int) (T : Sto), 0 < d → n.natAbs < 2 ^ 240 → d.natAbs < 2 ^ 122 → m_l_beside [v, .int n, .int d] T = .ok (.int (bsd D X Y n d)) T
theorem numl_rat {r : Q2} (nr : Nrm r) (sr : Sm 40 r) : NumL (.tup [.str "rational", pq r]) 0 r (0, 1) := by
  refine ⟨nrat_e nr (sr.up 250), sr, fun n => rfl, fun n d T hd bn bd => ?_⟩
  have o1 : mulOk r.1 d = true := mulOk_b sr.2.1 bd
  have o2 : mulOk n r.2 = true := mulOk_b bn sr.2.2
  have e : bsd 0 r (0, 1) n d = (r.1 * d - n * r.2).sign := by
    unfold bsd sg3
    have e1 : r.1 * d * ((0, 1) : Q2).2 - n * (r.2 * ((0, 1) : Q2).2) = r.1 * d - n * r.2 := by grind
    have e2 : ((0, 1) : Q2).1 * r.2 * d = 0 := by simp
    rw [e1, e2, if_pos (.inl rfl)]
  rw [e]
  unfold m_l_beside
  generalize hl : r.1 * d = l at *
  generalize hr : n * r.2 = k at *
  rcases Int.lt_trichotomy l k with h | h | h
  · have h2 : ¬ k < l := by omega
    rw [sign_n (show l - k < 0 by omega)]
    simp -implicitDefEqProofs [callD_ev, mSeq_ev, mIf_ev, mRet_ev, mExp_ev, mAsgN_ev, mAsg_ev, mPar_ev, mPar3_ev, mSetL_ev, mNx_ev, mBk_ev, mCt_ev, mRetN_ev, mRaise_ev, m2_ev, mC_ev, mVar, mTst_ev, mTru_ev, mCh_ev, mIsN_ev, mAndT_ev, mOrT_ev, mNotT_ev, mAndV_ev, mOrV_ev, mNotV_ev, mIfE_ev, mNeg_ev, mNil_ev, mCons_ev, mTup_ev, mLst_ev, mCall_ev, mIsi_ev, mApp_ev, mAllWh_ev, mSl_ev, mNoP_ev, mPart_ev, mFor_ev, mItA_ev, mItE_ev, mLc_ev, mYes_ev, add_ev, sub_ev, lt_ev, le_ev, gt_ev, ge_ev, eqi_ev, eqs_ev, eqb_ev, eqn_ev, nei_ev, nes_ev, lenT_ev, abs_ev, int_ev, intb_ev, ixM, atP, ixN, setl, setLO, bindG, mgName, mgTup, mgCons, mgNil, pq, mulM, o1, o2, hl, hr, h, h2]
  · subst h
    rw [Int.sub_self]
    simp -implicitDefEqProofs [callD_ev, mSeq_ev, mIf_ev, mRet_ev, mExp_ev, mAsgN_ev, mAsg_ev, mPar_ev, mPar3_ev, mSetL_ev, mNx_ev, mBk_ev, mCt_ev, mRetN_ev, mRaise_ev, m2_ev, mC_ev, mVar, mTst_ev, mTru_ev, mCh_ev, mIsN_ev, mAndT_ev, mOrT_ev, mNotT_ev, mAndV_ev, mOrV_ev, mNotV_ev, mIfE_ev, mNeg_ev, mNil_ev, mCons_ev, mTup_ev, mLst_ev, mCall_ev, mIsi_ev, mApp_ev, mAllWh_ev, mSl_ev, mNoP_ev, mPart_ev, mFor_ev, mItA_ev, mItE_ev, mLc_ev, mYes_ev, add_ev, sub_ev, lt_ev, le_ev, gt_ev, ge_ev, eqi_ev, eqs_ev, eqb_ev, eqn_ev, nei_ev, nes_ev, lenT_ev, abs_ev, int_ev, intb_ev, ixM, atP, ixN, setl, setLO, bindG, mgName, mgTup, mgCons, mgNil, pq, mulM, o1, o2, hl, hr]
  · have h2 : ¬ l < k := by omega
    rw [sign_p (show 0 < l - k by omega)]
    simp -implicitDefEqProofs [callD_ev, mSeq_ev, mIf_ev, mRet_ev, mExp_ev, mAsgN_ev, mAsg_ev, mPar_ev, mPar3_ev, mSetL_ev, mNx_ev, mBk_ev, mCt_ev, mRetN_ev, mRaise_ev, m2_ev, mC_ev, mVar, mTst_ev, mTru_ev, mCh_ev, mIsN_ev, mAndT_ev, mOrT_ev, mNotT_ev, mAndV_ev, mOrV_ev, mNotV_ev, mIfE_ev, mNeg_ev, mNil_ev, mCons_ev, mTup_ev, mLst_ev, mCall_ev, mIsi_ev, mApp_ev, mAllWh_ev, mSl_ev, mNoP_ev, mPart_ev, mFor_ev, mItA_ev, mItE_ev, mLc_ev, mYes_ev, add_ev, sub_ev, lt_ev, le_ev, gt_ev, ge_ev, eqi_ev, eqs_ev, eqb_ev, eqn_ev, nei_ev, nes_ev, lenT_ev, abs_ev, int_ev, intb_ev, ixM, atP, ixN, setl, setLO, bindG, mgName, mgTup, mgCons, mgNil, pq, mulM, o1, o2, hl, hr, h, h2]
theorem numl_root {c b a w : Int} (h : EqF c b a) (hc : c.natAbs < 2 ^ 32) (hb : b.natAbs < 2 ^ 32) (ha : a.natAbs < 2 ^ 32) (hw : 0 ≤ w ∧ w < 2) : NumL (.tup [.str "root", .tup [.int c, .int b, .int a], .int w]) (b * b - 4 * a * c) (elX b a) (elY w a) := by
  have a0 : 0 < a := h.1
  have h0 : 2 * a ≠ 0 := by omega
  have h2 : (2 * a).natAbs < 2 ^ 34 := by omega
  have sX : Sm 40 (elX b a) := (sm_lo (n := 34) h0 (by rw [Int.natAbs_neg]; omega) h2).up 40
  have ys : (elY w a).1 = 1 ∨ (elY w a).1 = -1 := by
    show (if w = 1 then (1 : Int) else -1) = 1 ∨ (if w = 1 then (1 : Int) else -1) = -1
    split
    · exact .inl rfl
    · exact .inr rfl
  have nY : Nrm (elY w a) := ⟨by show 1 ≤ 2 * a; omega, by rcases ys with h | h <;> rw [h] <;> simp⟩
  have sY : Sm 40 (elY w a) := ⟨nY.1, by rcases ys with h | h <;> rw [h] <;> exact up 1 (by decide), up 34 (show (2 * a).natAbs < 2 ^ 34 from h2)⟩
  have bD := disc_size hc hb ha
  have nX : Nrm (elX b a) := lo_nrm h0
  refine ⟨⟨fun T => number_root h (up 32 hc) (up 32 hb) (up 32 ha) hw, fun T => element_root h (up 32 hc) (up 32 hb) (up 32 ha) hw, .inr ⟨h.2.2.1, h.2.2.2⟩, fun z => by have := h.2.2.1; omega, nX, nY, sX.up 250, sY, up 68 bD⟩, sX, fun n => rfl, fun n d T hd bn bd => ?_⟩
  have x0 : 0 < (elX b a).2 := by have := nX.1; omega
  have cr : (elX b a).1 * (2 * a) = (elX b a).2 * (-b) := lo_cross (-b) (2 * a) h0
  have y2 : (elY w a).2 = 2 * a := rfl
  obtain ⟨s, hs, es⟩ : ∃ s : Int, (elY w a).1 = s ∧ (s = 1 ∨ s = -1) := ⟨_, rfl, ys⟩
  have sw : (w = 1 ∧ s = 1) ∨ (w ≠ 1 ∧ s = -1) := by
    have : (elY w a).1 = if w = 1 then 1 else -1 := rfl
    rw [hs] at this
    by_cases h1 : w = 1
    · exact .inl ⟨h1, by rw [this, if_pos h1]⟩
    · exact .inr ⟨h1, by rw [this, if_neg h1]⟩
  have e : bsd (b * b - 4 * a * c) (elX b a) (elY w a) n d = sg3 (b * b - 4 * a * c) (-(2 * a * n + b * d)) (s * d) := by
    unfold bsd
    rw [hs, y2]
    have e1 : (elX b a).1 * d * (2 * a) - n * ((elX b a).2 * (2 * a)) = -(2 * a * n + b * d) * (elX b a).2 := by
      calc (elX b a).1 * d * (2 * a) - n * ((elX b a).2 * (2 * a)) = ((elX b a).1 * (2 * a)) * d - n * ((elX b a).2 * (2 * a)) := by grind
        _ = (elX b a).2 * (-b) * d - n * ((elX b a).2 * (2 * a)) := by rw [cr]
        _ = _ := by grind
    have e2 : s * (elX b a).2 * d = s * d * (elX b a).2 := by grind
    rw [e1, e2, sg3_mul x0]
  rw [e]
  have o1 : mulOk c d = true := mulOk_b hc bd
  have o2 : mulOk (c * d) d = true := mulOk_b (mul_up 32 122 hc bd (c := 154)) bd
  have o3 : mulOk b n = true := mulOk_b hb bn
  have o4 : mulOk (b * n) d = true := mulOk_b (mul_up 32 240 hb bn (c := 272)) bd
  have o5 : mulOk a n = true := mulOk_b ha bn
  have o6 : mulOk (a * n) n = true := mulOk_b (mul_up 32 240 ha bn (c := 272)) bn
  have o7 : ∀ i, mulOk 2 i = true := fun i => mulOk_l (by decide)
  have o8 : mulOk (2 * a) n = true := mulOk_b h2 bn
  have o9 : mulOk b d = true := mulOk_b hb bd
  have key : 4 * a * (c * d * d + b * n * d + a * n * n) = (2 * a * n + b * d) * (2 * a * n + b * d) - (b * b - 4 * a * c) * (d * d) := by grind
  have nz : c * d * d + b * n * d + a * n * n ≠ 0 := fun z => by
    have := norm_ne (D := b * b - 4 * a * c) (A := 2 * a * n + b * d) (B := d) (.inr ⟨h.2.2.1, h.2.2.2⟩) (by omega) (fun z => by have := h.2.2.1; omega)
    rw [z] at key
    omega
  have sk : (-(2 * a * n + b * d) * -(2 * a * n + b * d) - (b * b - 4 * a * c) * (s * d * (s * d))).sign = (c * d * d + b * n * d + a * n * n).sign := by
    have : -(2 * a * n + b * d) * -(2 * a * n + b * d) - (b * b - 4 * a * c) * (s * d * (s * d)) = (c * d * d + b * n * d + a * n * n) * (4 * a) := by
      have s2 : s * s = 1 := by rcases es with h | h <;> rw [h] <;> rfl
      have : s * d * (s * d) = (s * s) * (d * d) := by grind
      rw [this, s2, Int.one_mul]
      grind
    rw [this, sign_pos_mul (by omega)]
  have ne : ¬ (("root" : Str) = "rational") := by decide
  unfold m_l_beside sg3
  rw [sk]
  generalize hh : c * d * d + b * n * d + a * n * n = here at *
  generalize hsd : 2 * a * n + b * d = side at *
  rcases sw with ⟨w1, rfl⟩ | ⟨w1, rfl⟩
  · rw [Int.one_mul, sign_p hd, Int.sign_neg]
    by_cases h1 : side ≤ 0
    · have g : (if (1 : Int) = 0 ∨ -side.sign = 1 then -side.sign else if -side.sign = 0 then 1 else -side.sign * here.sign) = 1 := by
        rcases (show side < 0 ∨ side = 0 by omega) with h2 | h2
        · rw [sign_n h2]; rfl
        · rw [h2]; rfl
      rw [g]
      simp -implicitDefEqProofs [callD_ev, mSeq_ev, mIf_ev, mRet_ev, mExp_ev, mAsgN_ev, mAsg_ev, mPar_ev, mPar3_ev, mSetL_ev, mNx_ev, mBk_ev, mCt_ev, mRetN_ev, mRaise_ev, m2_ev, mC_ev, mVar, mTst_ev, mTru_ev, mCh_ev, mIsN_ev, mAndT_ev, mOrT_ev, mNotT_ev, mAndV_ev, mOrV_ev, mNotV_ev, mIfE_ev, mNeg_ev, mNil_ev, mCons_ev, mTup_ev, mLst_ev, mCall_ev, mIsi_ev, mApp_ev, mAllWh_ev, mSl_ev, mNoP_ev, mPart_ev, mFor_ev, mItA_ev, mItE_ev, mLc_ev, mYes_ev, add_ev, sub_ev, lt_ev, le_ev, gt_ev, ge_ev, eqi_ev, eqs_ev, eqb_ev, eqn_ev, nei_ev, nes_ev, lenT_ev, abs_ev, int_ev, intb_ev, ixM, atP, ixN, setl, setLO, bindG, mgName, mgTup, mgCons, mgNil, ne, mulM, o1, o2, o3, o4, o5, o6, o7, o8, o9, w1, hh, hsd, h1]
    · have p1 : 0 < side := by omega
      rw [sign_p p1]
      by_cases h2 : here < 0
      · rw [sign_n h2]
        simp -implicitDefEqProofs [callD_ev, mSeq_ev, mIf_ev, mRet_ev, mExp_ev, mAsgN_ev, mAsg_ev, mPar_ev, mPar3_ev, mSetL_ev, mNx_ev, mBk_ev, mCt_ev, mRetN_ev, mRaise_ev, m2_ev, mC_ev, mVar, mTst_ev, mTru_ev, mCh_ev, mIsN_ev, mAndT_ev, mOrT_ev, mNotT_ev, mAndV_ev, mOrV_ev, mNotV_ev, mIfE_ev, mNeg_ev, mNil_ev, mCons_ev, mTup_ev, mLst_ev, mCall_ev, mIsi_ev, mApp_ev, mAllWh_ev, mSl_ev, mNoP_ev, mPart_ev, mFor_ev, mItA_ev, mItE_ev, mLc_ev, mYes_ev, add_ev, sub_ev, lt_ev, le_ev, gt_ev, ge_ev, eqi_ev, eqs_ev, eqb_ev, eqn_ev, nei_ev, nes_ev, lenT_ev, abs_ev, int_ev, intb_ev, ixM, atP, ixN, setl, setLO, bindG, mgName, mgTup, mgCons, mgNil, ne, mulM, o1, o2, o3, o4, o5, o6, o7, o8, o9, w1, hh, hsd, h1, h2]
      · rw [sign_p (show 0 < here by omega)]
        simp -implicitDefEqProofs [callD_ev, mSeq_ev, mIf_ev, mRet_ev, mExp_ev, mAsgN_ev, mAsg_ev, mPar_ev, mPar3_ev, mSetL_ev, mNx_ev, mBk_ev, mCt_ev, mRetN_ev, mRaise_ev, m2_ev, mC_ev, mVar, mTst_ev, mTru_ev, mCh_ev, mIsN_ev, mAndT_ev, mOrT_ev, mNotT_ev, mAndV_ev, mOrV_ev, mNotV_ev, mIfE_ev, mNeg_ev, mNil_ev, mCons_ev, mTup_ev, mLst_ev, mCall_ev, mIsi_ev, mApp_ev, mAllWh_ev, mSl_ev, mNoP_ev, mPart_ev, mFor_ev, mItA_ev, mItE_ev, mLc_ev, mYes_ev, add_ev, sub_ev, lt_ev, le_ev, gt_ev, ge_ev, eqi_ev, eqs_ev, eqb_ev, eqn_ev, nei_ev, nes_ev, lenT_ev, abs_ev, int_ev, intb_ev, ixM, atP, ixN, setl, setLO, bindG, mgName, mgTup, mgCons, mgNil, ne, mulM, o1, o2, o3, o4, o5, o6, o7, o8, o9, w1, hh, hsd, h1, h2]
  · have sd : (-1 * d).sign = -1 := sign_n (by omega)
    rw [sd, Int.sign_neg]
    by_cases h1 : 0 ≤ side
    · have g : (if (-1 : Int) = 0 ∨ -side.sign = -1 then -side.sign else if -side.sign = 0 then -1 else -side.sign * here.sign) = -1 := by
        rcases (show 0 < side ∨ side = 0 by omega) with h2 | h2
        · rw [sign_p h2]; rfl
        · rw [h2]; rfl
      rw [g]
      simp -implicitDefEqProofs [callD_ev, mSeq_ev, mIf_ev, mRet_ev, mExp_ev, mAsgN_ev, mAsg_ev, mPar_ev, mPar3_ev, mSetL_ev, mNx_ev, mBk_ev, mCt_ev, mRetN_ev, mRaise_ev, m2_ev, mC_ev, mVar, mTst_ev, mTru_ev, mCh_ev, mIsN_ev, mAndT_ev, mOrT_ev, mNotT_ev, mAndV_ev, mOrV_ev, mNotV_ev, mIfE_ev, mNeg_ev, mNil_ev, mCons_ev, mTup_ev, mLst_ev, mCall_ev, mIsi_ev, mApp_ev, mAllWh_ev, mSl_ev, mNoP_ev, mPart_ev, mFor_ev, mItA_ev, mItE_ev, mLc_ev, mYes_ev, add_ev, sub_ev, lt_ev, le_ev, gt_ev, ge_ev, eqi_ev, eqs_ev, eqb_ev, eqn_ev, nei_ev, nes_ev, lenT_ev, abs_ev, int_ev, intb_ev, ixM, atP, ixN, setl, setLO, bindG, mgName, mgTup, mgCons, mgNil, ne, mulM, o1, o2, o3, o4, o5, o6, o7, o8, o9, w1, hh, hsd, h1]
    · rw [sign_n (show side < 0 by omega)]
      by_cases h2 : here < 0
      · rw [sign_n h2]
        simp -implicitDefEqProofs [callD_ev, mSeq_ev, mIf_ev, mRet_ev, mExp_ev, mAsgN_ev, mAsg_ev, mPar_ev, mPar3_ev, mSetL_ev, mNx_ev, mBk_ev, mCt_ev, mRetN_ev, mRaise_ev, m2_ev, mC_ev, mVar, mTst_ev, mTru_ev, mCh_ev, mIsN_ev, mAndT_ev, mOrT_ev, mNotT_ev, mAndV_ev, mOrV_ev, mNotV_ev, mIfE_ev, mNeg_ev, mNil_ev, mCons_ev, mTup_ev, mLst_ev, mCall_ev, mIsi_ev, mApp_ev, mAllWh_ev, mSl_ev, mNoP_ev, mPart_ev, mFor_ev, mItA_ev, mItE_ev, mLc_ev, mYes_ev, add_ev, sub_ev, lt_ev, le_ev, gt_ev, ge_ev, eqi_ev, eqs_ev, eqb_ev, eqn_ev, nei_ev, nes_ev, lenT_ev, abs_ev, int_ev, intb_ev, ixM, atP, ixN, setl, setLO, bindG, mgName, mgTup, mgCons, mgNil, ne, mulM, o1, o2, o3, o4, o5, o6, o7, o8, o9, w1, hh, hsd, h1, h2]
      · rw [sign_p (show 0 < here by omega)]
        simp -implicitDefEqProofs [callD_ev, mSeq_ev, mIf_ev, mRet_ev, mExp_ev, mAsgN_ev, mAsg_ev, mPar_ev, mPar3_ev, mSetL_ev, mNx_ev, mBk_ev, mCt_ev, mRetN_ev, mRaise_ev, m2_ev, mC_ev, mVar, mTst_ev, mTru_ev, mCh_ev, mIsN_ev, mAndT_ev, mOrT_ev, mNotT_ev, mAndV_ev, mOrV_ev, mNotV_ev, mIfE_ev, mNeg_ev, mNil_ev, mCons_ev, mTup_ev, mLst_ev, mCall_ev, mIsi_ev, mApp_ev, mAllWh_ev, mSl_ev, mNoP_ev, mPart_ev, mFor_ev, mItA_ev, mItE_ev, mLc_ev, mYes_ev, add_ev, sub_ev, lt_ev, le_ev, gt_ev, ge_ev, eqi_ev, eqs_ev, eqb_ev, eqn_ev, nei_ev, nes_ev, lenT_ev, abs_ev, int_ev, intb_ev, ixM, atP, ixN, setl, setLO, bindG, mgName, mgTup, mgCons, mgNil, ne, mulM, o1, o2, o3, o4, o5, o6, o7, o8, o9, w1, hh, hsd, h1, h2]

theorem mul_b {x y : Int} {a b : Nat} (hx : x.natAbs ≤ a) (hy : y.natAbs ≤ b) : (x * y).natAbs ≤ a * b := by
  rw [Int.natAbs_mul]
  exact Nat.mul_le_mul hx hy
theorem add_b {x y : Int} {a b : Nat} (hx : x.natAbs ≤ a) (hy : y.natAbs ≤ b) : (x + y).natAbs ≤ a + b := by omega
theorem sub_b {x y : Int} {a b : Nat} (hx : x.natAbs ≤ a) (hy : y.natAbs ≤ b) : (x - y).natAbs ≤ a + b := by omega
/-- if q x is at most k q, x is at most k -/
theorem div_b {q x : Int} {k : Nat} (hq : 0 < q) (h : (q * x).natAbs ≤ k * q.natAbs) : x.natAbs ≤ k := by
  rw [Int.natAbs_mul, Nat.mul_comm] at h
  exact Nat.le_of_mul_le_mul_right h (by omega)
/-- what a number's polynomial is at the floor -/
structure Pol (a b c : Int) (m q : Int) : Prop where
  pa : a.natAbs ≤ 2 ^ 4
  pb : b.natAbs ≤ 2 ^ 14
  pc : c.natAbs ≤ 2 ^ 22
  ph : (a * m * m + b * m * q + c * q * q).natAbs ≤ 2 ^ 18 * q.natAbs
/-- two polynomials that are small at the same place have the resultant 0 -/
theorem res_zero {a b c A B C m q : Int} (q0 : 0 < q) (q1 : 2 ^ 100 ≤ q.natAbs) (hm : m.natAbs ≤ 2 ^ 11 * q.natAbs) (P : Pol a b c m q) (Q : Pol A B C m q) :
    (a * C - A * c) * (a * C - A * c) - (a * B - A * b) * (b * C - B * c) = 0 := by
  obtain ⟨pa, pb, pc, ph⟩ := P
  obtain ⟨qa, qb, qc, qh⟩ := Q
  generalize hh : a * m * m + b * m * q + c * q * q = h at *
  generalize hH : A * m * m + B * m * q + C * q * q = H at *
  have bU : (a * B - A * b).natAbs ≤ 2 ^ 19 := Nat.le_trans (sub_b (mul_b pa qb) (mul_b qa pb)) (by decide)
  have bV : (a * C - A * c).natAbs ≤ 2 ^ 27 := Nat.le_trans (sub_b (mul_b pa qc) (mul_b qa pc)) (by decide)
  generalize hU : a * B - A * b = U at *
  generalize hV : a * C - A * c = V at *
  generalize hW : b * C - B * c = W at *
  have e1 : q * (U * m + V * q) = a * H - A * h := by
    rw [← hh, ← hH, ← hU, ← hV]; grind
  have e3 : q * (V * m + W * q) = m * (U * m + V * q) - (B * h - b * H) := by
    rw [← hh, ← hH, ← hU, ← hV, ← hW]; grind
  have bT : (U * m + V * q).natAbs ≤ 2 ^ 23 := by
    refine div_b q0 ?_
    rw [e1]
    refine Nat.le_trans (sub_b (mul_b pa qh) (mul_b qa ph)) ?_
    have : 2 ^ 4 * (2 ^ 18 * q.natAbs) + 2 ^ 4 * (2 ^ 18 * q.natAbs) = 2 ^ 23 * q.natAbs := by omega
    omega
  generalize hT : U * m + V * q = T at *
  have bT2 : (V * m + W * q).natAbs ≤ 2 ^ 35 := by
    refine div_b q0 ?_
    rw [e3]
    refine Nat.le_trans (sub_b (mul_b hm bT) (sub_b (mul_b qb ph) (mul_b pb qh))) ?_
    have e : 2 ^ 11 * q.natAbs * 2 ^ 23 + (2 ^ 14 * (2 ^ 18 * q.natAbs) + 2 ^ 14 * (2 ^ 18 * q.natAbs)) = (2 ^ 34 + 2 ^ 33) * q.natAbs := by omega
    rw [e]
    exact Nat.mul_le_mul_right _ (by decide)
  generalize hT2 : V * m + W * q = T2 at *
  have eR : (V * V - U * W) * q = V * T - U * T2 := by
    rw [← hT, ← hT2]; grind
  have bR : ((V * V - U * W) * q).natAbs ≤ 2 ^ 55 := by
    rw [eR]
    exact Nat.le_trans (sub_b (mul_b bV bT) (mul_b bU bT2)) (by decide)
  rw [Int.natAbs_mul] at bR
  rcases Nat.eq_zero_or_pos (V * V - U * W).natAbs with z | z
  · exact Int.natAbs_eq_zero.mp z
  · have h1 : 1 * 2 ^ 100 ≤ (V * V - U * W).natAbs * q.natAbs := Nat.mul_le_mul z q1
    exact absurd (Nat.le_trans h1 bR) (by decide)
/-- an irreducible polynomial and another one with the resultant 0 are proportional -/
theorem res_prop {a b c A B C : Int} (ha : 0 < a) (hD : 0 < b * b - 4 * a * c ∧ ¬ isSq (b * b - 4 * a * c)) (h : (a * C - A * c) * (a * C - A * c) - (a * B - A * b) * (b * C - B * c) = 0) : a * B = A * b ∧ a * C = A * c := by
  have key : a * (a * C - A * c) * (a * C - A * c) - b * (a * B - A * b) * (a * C - A * c) + c * (a * B - A * b) * (a * B - A * b) = a * ((a * C - A * c) * (a * C - A * c) - (a * B - A * b) * (b * C - B * c)) := by grind
  rw [h, Int.mul_zero] at key
  generalize hU : a * B - A * b = U at *
  generalize hV : a * C - A * c = V at *
  by_cases hz : U = 0
  · subst hz
    have : V * V = 0 := by
      have e : (0 : Int) * (b * C - B * c) = 0 := Int.zero_mul _
      omega
    have v0 : V = 0 := by
      rcases Int.mul_eq_zero.mp this with h | h <;> exact h
    omega
  · exfalso
    refine hD.2 (sq_of (l := 2 * a * V - b * U) hz ?_)
    have : (2 * a * V - b * U) * (2 * a * V - b * U) = 4 * a * (a * V * V - b * U * V + c * U * U) + U * U * (b * b - 4 * a * c) := by grind
    rw [this, key]
    grind

theorem bsd_rat {r : Q2} {n d : Int} : bsd 0 r (0, 1) n d = (r.1 * d - n * r.2).sign := by
  unfold bsd sg3
  have e1 : r.1 * d * ((0, 1) : Q2).2 - n * (r.2 * ((0, 1) : Q2).2) = r.1 * d - n * r.2 := by grind
  have e2 : ((0, 1) : Q2).1 * r.2 * d = 0 := by simp
  rw [e1, e2, if_pos (.inl rfl)]
theorem bsd_root {c b a w n d : Int} (a0 : 0 < a) : bsd (b * b - 4 * a * c) (elX b a) (elY w a) n d = sg3 (b * b - 4 * a * c) (-(2 * a * n + b * d)) ((if w = 1 then 1 else -1) * d) := by
  have h0 : 2 * a ≠ 0 := by omega
  have nX : Nrm (elX b a) := lo_nrm h0
  have x0 : 0 < (elX b a).2 := by have := nX.1; omega
  have cr : (elX b a).1 * (2 * a) = (elX b a).2 * (-b) := lo_cross (-b) (2 * a) h0
  have y2 : (elY w a).2 = 2 * a := rfl
  have y1 : (elY w a).1 = if w = 1 then 1 else -1 := rfl
  unfold bsd
  rw [y1, y2]
  generalize (if w = 1 then (1 : Int) else -1) = s
  have e1 : (elX b a).1 * d * (2 * a) - n * ((elX b a).2 * (2 * a)) = -(2 * a * n + b * d) * (elX b a).2 := by
    calc (elX b a).1 * d * (2 * a) - n * ((elX b a).2 * (2 * a)) = ((elX b a).1 * (2 * a)) * d - n * ((elX b a).2 * (2 * a)) := by grind
      _ = (elX b a).2 * (-b) * d - n * ((elX b a).2 * (2 * a)) := by rw [cr]
      _ = _ := by grind
  have e2 : s * (elX b a).2 * d = s * d * (elX b a).2 := by grind
  rw [e1, e2, sg3_mul x0]
/-- a root's floor, by the squares -/
theorem root_cell {c b a w m q : Int} (hE : EqF c b a) (hw : 0 ≤ w ∧ w < 2) (hq : 0 < q) (h1 : 0 ≤ bsd (b * b - 4 * a * c) (elX b a) (elY w a) m q) (h2 : bsd (b * b - 4 * a * c) (elX b a) (elY w a) (m + 1) q < 0) :
    (w = 1 ∧ 0 < 2 * a * m + b * q + 2 * a ∧ (b * b - 4 * a * c) * (q * q) < (2 * a * m + b * q + 2 * a) * (2 * a * m + b * q + 2 * a) ∧ (2 * a * m + b * q ≤ 0 ∨ (2 * a * m + b * q) * (2 * a * m + b * q) ≤ (b * b - 4 * a * c) * (q * q))) ∨
    (w = 0 ∧ 2 * a * m + b * q ≤ 0 ∧ (b * b - 4 * a * c) * (q * q) ≤ (2 * a * m + b * q) * (2 * a * m + b * q) ∧ (0 ≤ 2 * a * m + b * q + 2 * a ∨ (2 * a * m + b * q + 2 * a) * (2 * a * m + b * q + 2 * a) < (b * b - 4 * a * c) * (q * q))) := by
  have a0 : 0 < a := hE.1
  have fo : FO (b * b - 4 * a * c) := .inr ⟨hE.2.2.1, hE.2.2.2⟩
  have es : 2 * a * (m + 1) + b * q = 2 * a * m + b * q + 2 * a := by grind
  rw [bsd_root a0] at h1 h2
  rw [es] at h2
  have D0 : 0 < b * b - 4 * a * c := hE.2.2.1
  generalize b * b - 4 * a * c = D at *
  generalize 2 * a * m + b * q = s at *
  have zq : ∀ t : Int, D = 0 → t * q = 0 := fun t h => by omega
  have g1 := sg3_ge' fo (zq _) h1
  have g2 := sg3_lt' fo (zq _) h2
  have dq := Int.mul_pos D0 (Int.mul_pos hq hq)
  by_cases hw1 : w = 1
  · rw [if_pos hw1] at g1 g2
    rw [Int.one_mul] at g1 g2
    rw [Int.neg_neg] at g2
    have e2 : D * (-q * -q) = D * (q * q) := by grind
    have e3 : -s * -s = s * s := by grind
    unfold GT at g2
    unfold GE at g1
    rw [e2] at g2
    rw [e3] at g1
    refine .inl ⟨hw1, ?_⟩
    rcases g2 with h | h | h | h
    · omega
    · omega
    · refine ⟨h.1, h.2, ?_⟩
      rcases g1 with h | h | h
      · exact .inl (by omega)
      · exact .inl (by omega)
      · exact .inr h.2
    · omega
  · rw [if_neg hw1] at g1 g2
    have e2 : D * (-1 * q * (-1 * q)) = D * (q * q) := by grind
    have e4 : D * (-(-1 * q) * -(-1 * q)) = D * (q * q) := by grind
    have e3 : -s * -s = s * s := by grind
    rw [Int.neg_neg] at g2
    unfold GT at g2
    unfold GE at g1
    rw [e4] at g2
    rw [e2, e3] at g1
    refine .inr ⟨by omega, ?_⟩
    rcases g1 with h | h | h
    · omega
    · refine ⟨by omega, h.2, ?_⟩
      rcases g2 with h | h | h | h
      · exact .inl (by omega)
      · exact .inl (by omega)
      · exact .inl (by omega)
      · exact .inr h.2
    · omega
structure NumK (v : PV) (D : Int) (X Y : Q2) (a b c : Int) : Prop extends NumL v D X Y where
  pol : ∀ m q : Int, 0 < q → m.natAbs ≤ 2 ^ 11 * q.natAbs → 0 ≤ bsd D X Y m q → bsd D X Y (m + 1) q < 0 → Pol a b c m q
  r1 : 0 ≤ bsd D X Y (-2000) 1
  r2 : bsd D X Y 2000 1 < 0
  kind : (∃ r : Q2, v = .tup [.str "rational", pq r] ∧ Nrm r ∧ r.2.natAbs ≤ 2 ^ 14 ∧ D = 0 ∧ X = r ∧ Y = (0, 1) ∧ a = 0 ∧ b = r.2 ∧ c = -r.1) ∨ (∃ w : Int, v = .tup [.str "root", .tup [.int c, .int b, .int a], .int w] ∧ EqF c b a ∧ c.natAbs ≤ 20 ∧ b.natAbs ≤ 20 ∧ a.natAbs ≤ 9 ∧ 0 ≤ w ∧ w < 2 ∧ D = b * b - 4 * a * c ∧ X = elX b a ∧ Y = elY w a)
theorem sign_ge {i : Int} (h : 0 ≤ i.sign) : 0 ≤ i := by
  rcases Int.lt_or_le i 0 with k | k
  · rw [sign_n k] at h; omega
  · exact k
theorem sign_lt {i : Int} (h : i.sign < 0) : i < 0 := by
  rcases Int.lt_or_le i 0 with k | k
  · exact k
  · rcases (show i = 0 ∨ 0 < i by omega) with z | z
    · rw [z] at h; exact absurd h (by decide)
    · rw [sign_p z] at h; omega
theorem numk_rat {r : Q2} (nr : Nrm r) (h2 : r.2.natAbs ≤ 2 ^ 14) (h1 : r.1.natAbs ≤ 128 * r.2.natAbs) : NumK (.tup [.str "rational", pq r]) 0 r (0, 1) 0 r.2 (-r.1) := by
  have r0 : 1 ≤ r.2 := nr.1
  have b1 : r.1.natAbs ≤ 2 ^ 21 := by omega
  refine ⟨numl_rat nr ⟨r0, by omega, by omega⟩, fun m q hq hm g1 g2 => ⟨by decide, h2, by omega, ?_⟩, ?_, ?_, .inl ⟨r, rfl, nr, h2, rfl, rfl, rfl, rfl, rfl, rfl⟩⟩
  · rw [bsd_rat] at g1 g2
    have g1 := sign_ge g1
    have g2 := sign_lt g2
    have e : 0 * m * m + r.2 * m * q + -r.1 * q * q = -(q * (r.1 * q - m * r.2)) := by grind
    have e2 : r.1 * q - (m + 1) * r.2 = r.1 * q - m * r.2 - r.2 := by grind
    rw [e, Int.natAbs_neg]
    have : (r.1 * q - m * r.2).natAbs ≤ 2 ^ 18 := by omega
    rw [Nat.mul_comm]
    exact mul_b (Nat.le_refl _) this
  · rw [bsd_rat]
    have : 0 ≤ r.1 * 1 - -2000 * r.2 := by omega
    rcases (show r.1 * 1 - -2000 * r.2 = 0 ∨ 0 < r.1 * 1 - -2000 * r.2 by omega) with z | z
    · rw [z]; decide
    · rw [sign_p z]; decide
  · rw [bsd_rat, sign_n (show r.1 * 1 - 2000 * r.2 < 0 by omega)]
    decide
theorem root_pos {c b a w n d : Int} (hE : EqF c b a) (hd : 0 < d) (h : 0 ≤ -(2 * a * n + b * d) ∧ (b * b - 4 * a * c) * (d * d) ≤ (2 * a * n + b * d) * (2 * a * n + b * d)) : 0 ≤ bsd (b * b - 4 * a * c) (elX b a) (elY w a) n d := by
  rw [bsd_root hE.1]
  refine sg3_ge (.inr ⟨hE.2.2.1, hE.2.2.2⟩) (fun z => by have := hE.2.2.1; omega) ?_
  split
  · rw [Int.one_mul]; exact .inl ⟨h.1, by omega⟩
  · refine .inr (.inl ⟨h.1, ?_⟩)
    have e2 : (b * b - 4 * a * c) * (-1 * d * (-1 * d)) = (b * b - 4 * a * c) * (d * d) := by grind
    have e3 : -(2 * a * n + b * d) * -(2 * a * n + b * d) = (2 * a * n + b * d) * (2 * a * n + b * d) := by grind
    rw [e2, e3]; exact h.2
theorem root_neg' {c b a w n d : Int} (hE : EqF c b a) (hd : 0 < d) (h : 0 < 2 * a * n + b * d ∧ (b * b - 4 * a * c) * (d * d) < (2 * a * n + b * d) * (2 * a * n + b * d)) : bsd (b * b - 4 * a * c) (elX b a) (elY w a) n d < 0 := by
  rw [bsd_root hE.1]
  have := sg3_lt (D := b * b - 4 * a * c) (A := -(2 * a * n + b * d)) (B := (if w = 1 then 1 else -1) * d) (.inr ⟨hE.2.2.1, hE.2.2.2⟩) (fun z => by have := hE.2.2.1; omega) (by
    rw [Int.neg_neg]
    split
    · refine .inr (.inr (.inl ⟨h.1, ?_⟩))
      have e2 : (b * b - 4 * a * c) * (-(1 * d) * -(1 * d)) = (b * b - 4 * a * c) * (d * d) := by grind
      rw [e2]; exact h.2
    · exact .inl ⟨h.1, by omega⟩)
  omega
theorem disc_le {c b a : Int} (hc : c.natAbs ≤ 20) (hb : b.natAbs ≤ 20) (ha : a.natAbs ≤ 9) : b * b - 4 * a * c ≤ 1120 := by
  have h1 : (b * b).natAbs ≤ 20 * 20 := mul_b hb hb
  have h2 : (4 * a * c).natAbs ≤ 36 * 20 := mul_b (show (4 * a).natAbs ≤ 36 by omega) hc
  omega
theorem numk_root {c b a w : Int} (hE : EqF c b a) (hc : c.natAbs ≤ 20) (hb : b.natAbs ≤ 20) (ha : a.natAbs ≤ 9) (hw : 0 ≤ w ∧ w < 2) : NumK (.tup [.str "root", .tup [.int c, .int b, .int a], .int w]) (b * b - 4 * a * c) (elX b a) (elY w a) a b c := by
  have a0 : 0 < a := hE.1
  have dl := disc_le hc hb ha
  refine ⟨numl_root hE (by omega) (by omega) (by omega) hw, fun m q hq hm g1 g2 => ⟨by omega, by omega, by omega, ?_⟩, ?_, ?_, .inr ⟨w, rfl, hE, hc, hb, ha, hw.1, hw.2, rfl, rfl, rfl⟩⟩
  · have key : 4 * a * (a * m * m + b * m * q + c * q * q) = (2 * a * m + b * q) * (2 * a * m + b * q) - (b * b - 4 * a * c) * (q * q) := by grind
    have rc := root_cell hE hw hq g1 g2
    have bs : (2 * a * m + b * q).natAbs ≤ 2 ^ 16 * q.natAbs := by
      have h1 : (2 * a * m).natAbs ≤ 18 * (2 ^ 11 * q.natAbs) := mul_b (by omega) hm
      have h2 : (b * q).natAbs ≤ 20 * q.natAbs := mul_b hb (Nat.le_refl _)
      omega
    have T0 : 0 ≤ (b * b - 4 * a * c) * (q * q) := Int.mul_nonneg (Int.le_of_lt hE.2.2.1) (sqn q)
    generalize (b * b - 4 * a * c) * (q * q) = T at *
    generalize a * m * m + b * m * q + c * q * q = h at *
    generalize hs : 2 * a * m + b * q = s at *
    have e2 : (s + 2 * a) * (s + 2 * a) = s * s + 4 * (a * (s + a)) := by grind
    have e3 : 4 * a * h = 4 * (a * h) := by grind
    have e4 : a * (s + a) = a * s + a * a := by grind
    have kk : (a * h).natAbs ≤ a.natAbs * (s.natAbs + a.natAbs) := by
      have h3 : (a * (s + a)).natAbs ≤ a.natAbs * (s.natAbs + a.natAbs) := mul_b (Nat.le_refl _) (add_b (Nat.le_refl _) (Nat.le_refl _))
      have h4 : (a * a).natAbs ≤ a.natAbs * (s.natAbs + a.natAbs) := mul_b (Nat.le_refl _) (by omega)
      have aa := sqn a
      rcases rc with ⟨_, p1, p2, p3⟩ | ⟨_, p1, p2, p3⟩
      · rcases p3 with p3 | p3
        · have : s * s ≤ 4 * (a * a) := by
            have := sq_le (a := s) (b := 2 * a) (by omega) (by omega)
            have e5 : 2 * a * (2 * a) = 4 * (a * a) := by grind
            omega
          by_cases h0 : T ≤ s * s
          · omega
          · omega
        · omega
      · rcases p3 with p3 | p3
        · have : s * s ≤ 4 * (a * a) := by
            have := sq_le (a := s) (b := 2 * a) (by omega) (by omega)
            have e5 : 2 * a * (2 * a) = 4 * (a * a) := by grind
            omega
          omega
        · omega
    rw [Int.natAbs_mul] at kk
    have := Nat.le_of_mul_le_mul_left kk (show 0 < a.natAbs by omega)
    omega
  · refine root_pos hE (by decide) ⟨by omega, ?_⟩
    have := sq_le (a := 100) (b := -(2 * a * -2000 + b * 1)) (by omega) (by omega)
    have e3 : -(2 * a * -2000 + b * 1) * -(2 * a * -2000 + b * 1) = (2 * a * -2000 + b * 1) * (2 * a * -2000 + b * 1) := by grind
    omega
  · refine root_neg' hE (by decide) ⟨by omega, ?_⟩
    have := sq_le (a := 100) (b := 2 * a * 2000 + b * 1) (by omega) (by omega)
    omega
/-- two numbers that fall into the same cell are one -/
theorem sep {v w : PV} {D E a b c A B C m q : Int} {X Y V W : Q2} (N : NumK v D X Y a b c) (M : NumK w E V W A B C) (q0 : 0 < q) (q1 : 2 ^ 100 ≤ q.natAbs) (hm : m.natAbs ≤ 2 ^ 11 * q.natAbs)
    (g1 : 0 ≤ bsd D X Y m q) (g2 : bsd D X Y (m + 1) q < 0) (k1 : 0 ≤ bsd E V W m q) (k2 : bsd E V W (m + 1) q < 0) : v = w := by
  have P := N.pol m q q0 hm g1 g2
  have Q := M.pol m q q0 hm k1 k2
  rcases N.kind with ⟨r, rfl, nr, hr, rfl, rfl, rfl, rfl, rfl, rfl⟩ | ⟨x, rfl, hE, _, _, ha, x0, x1, rfl, rfl, rfl⟩
  · rcases M.kind with ⟨t, rfl, nt, ht, rfl, rfl, rfl, rfl, rfl, rfl⟩ | ⟨y, rfl, hF, _, _, _, y0, y1, rfl, rfl, rfl⟩
    · have p1 : (X.2 * m - X.1 * q).natAbs ≤ 2 ^ 18 := div_b q0 (by
        have := P.ph
        have e : 0 * m * m + X.2 * m * q + -X.1 * q * q = q * (X.2 * m - X.1 * q) := by grind
        rwa [e] at this)
      have p2 : (V.2 * m - V.1 * q).natAbs ≤ 2 ^ 18 := div_b q0 (by
        have := Q.ph
        have e : 0 * m * m + V.2 * m * q + -V.1 * q * q = q * (V.2 * m - V.1 * q) := by grind
        rwa [e] at this)
      have e : V.2 * (X.2 * m - X.1 * q) - X.2 * (V.2 * m - V.1 * q) = (V.1 * X.2 - X.1 * V.2) * q := by grind
      have bb : ((V.1 * X.2 - X.1 * V.2) * q).natAbs ≤ 2 ^ 33 := by
        rw [← e]
        exact Nat.le_trans (sub_b (mul_b ht p1) (mul_b hr p2)) (by decide)
      rw [Int.natAbs_mul] at bb
      have z : V.1 * X.2 - X.1 * V.2 = 0 := by
        rcases Nat.eq_zero_or_pos (V.1 * X.2 - X.1 * V.2).natAbs with z | z
        · exact Int.natAbs_eq_zero.mp z
        · have h1 : 1 * 2 ^ 100 ≤ (V.1 * X.2 - X.1 * V.2).natAbs * q.natAbs := Nat.mul_le_mul z q1
          exact absurd (Nat.le_trans h1 bb) (by decide)
      have : X = V := val_inj nr nt (by
        have h1 := ratne (show X.2 ≠ 0 by have := nr.1; omega)
        have h2 := ratne (show V.2 ≠ 0 by have := nt.1; omega)
        have h3 : ((V.1 * X.2 : Int) : Rat) = ((X.1 * V.2 : Int) : Rat) := by rw [show V.1 * X.2 = X.1 * V.2 by omega]
        rw [Rat.intCast_mul, Rat.intCast_mul] at h3
        unfold val
        grind)
      rw [this]
    · exfalso
      have R := res_zero q0 q1 hm Q P
      have := (res_prop hF.1 ⟨hF.2.2.1, hF.2.2.2⟩ R).1
      have h := Int.mul_pos hF.1 (show 0 < X.2 by have := nr.1; omega)
      rw [this, Int.zero_mul] at h
      omega
  · rcases M.kind with ⟨t, rfl, nt, ht, rfl, rfl, rfl, rfl, rfl, rfl⟩ | ⟨y, rfl, hF, _, _, _, y0, y1, rfl, rfl, rfl⟩
    · exfalso
      have R := res_zero q0 q1 hm P Q
      have := (res_prop hE.1 ⟨hE.2.2.1, hE.2.2.2⟩ R).1
      have h := Int.mul_pos hE.1 (show 0 < V.2 by have := nt.1; omega)
      rw [this, Int.zero_mul] at h
      omega
    · have R := res_zero q0 q1 hm P Q
      obtain ⟨h1, h2⟩ := res_prop hE.1 ⟨hE.2.2.1, hE.2.2.2⟩ R
      obtain ⟨rfl, rfl, rfl⟩ := prim_uniq (a := a) (b := b) (c := c) (A := A) (B := B) (C := C) hE.1 hF.1 hE.2.1 hF.2.1 (by rw [Int.mul_comm]; exact h1) (by rw [Int.mul_comm]; exact h2)
      have c1 := root_cell hE ⟨x0, x1⟩ q0 g1 g2
      have c2 := root_cell hE ⟨y0, y1⟩ q0 k1 k2
      have D1 : 1 ≤ B * B - 4 * A * C := hE.2.2.1
      have dq : q * q ≤ (B * B - 4 * A * C) * (q * q) := by
        have := Int.mul_le_mul_of_nonneg_right D1 (sqn q)
        rwa [Int.one_mul] at this
      have qb : 18 < q := by
        have : 2 ^ 100 ≤ q.natAbs := q1
        have h3 : (18 : Nat) < 2 ^ 100 := by decide
        omega
      generalize (B * B - 4 * A * C) * (q * q) = T at *
      generalize 2 * A * m + B * q = s at *
      have no : ∀ {p : Prop}, (0 < s + 2 * A) → (s ≤ 0) → (T ≤ s * s) → p := fun {p} t1 t2 t3 => by
        have t4 := sq_le (a := s) (b := 18) (by omega) (by omega)
        have t5 : 18 * 18 < q * q := by
          have := Int.mul_pos (show 0 < q - 18 by omega) (show 0 < q + 18 by omega)
          have e : (q - 18) * (q + 18) = q * q - 18 * 18 := by grind
          omega
        omega
      have : x = y := by
        rcases c1 with ⟨w1, a1, a2, a3⟩ | ⟨w1, a1, a2, a3⟩ <;> rcases c2 with ⟨w2, b1, b2, b3⟩ | ⟨w2, b1, b2, b3⟩
        · omega
        · exact no a1 b1 b2
        · exact no b1 a1 a2
        · omega
      rw [this]

theorem clo_ints {n : Nat} : ∀ ns : List Int, clos n (ns.map PV.int) = true
  | [] => rfl
  | _ :: ns => by
    show (true && clos n (ns.map PV.int)) = true
    rw [clo_ints ns]
    rfl

theorem bsd_uniq {D : Int} {X Y : Q2} {m m' q : Int} (h : FO D) (hz : D = 0 → Y = (0, 1)) (hx : 1 ≤ X.2) (hy : 1 ≤ Y.2) (a : 0 ≤ bsd D X Y m q) (b : bsd D X Y m' q < 0) : m < m' := by
  rcases Int.lt_or_le m m' with k | k
  · exact k
  · have := bsd_low h hz hx hy k b
    omega
theorem bsd_scale {D : Int} {X Y : Q2} {m q p : Int} (hp : 0 < p) : bsd D X Y (m * p) (q * p) = bsd D X Y m q := by
  unfold bsd
  have e1 : X.1 * (q * p) * Y.2 - m * p * (X.2 * Y.2) = (X.1 * q * Y.2 - m * (X.2 * Y.2)) * p := by grind
  have e2 : Y.1 * X.2 * (q * p) = Y.1 * X.2 * q * p := by grind
  rw [e1, e2, sg3_mul hp]
theorem fl_go {v : PV} {D : Int} {X Y : Q2} (N : NumL v D X Y) {q : Int} (hq : 0 < q) (bq : q.natAbs < 2 ^ 121) : ∀ (xs : List PV) (i : Nat) (lo hi : Int) (u t : Option PV), i + xs.length = 400 → lo < hi → hi - lo ≤ ((2 ^ (400 - i) : Nat) : Int) → 0 ≤ bsd D X Y lo q → bsd D X Y hi q < 0 → lo.natAbs < 2 ^ 230 → hi.natAbs < 2 ^ 230 →
    ∃ (m : Int) (w : PSt), lo ≤ m ∧ m < hi ∧ 0 ≤ bsd D X Y m q ∧ bsd D X Y (m + 1) q < 0 ∧ ∀ S, forGo [] (mgName 4) (mSeq (mIf (mTst (m2 ltM (m2 subM (mVar 3) (mVar 2)) (mC (PV.int 2)))) mBk mNx) (mSeq (mAsg (m2 fdivM (m2 addM (mVar 2) (mVar 3)) (mC (PV.int 2))) (mgName 5)) (mIf (mTst (m2 geM (mApp 3 m_l_beside (mCons (mVar 0) (mCons (mVar 5) (mCons (mVar 1) mNil)))) (mC (PV.int 0)))) (mAsg (mVar 5) (mgName 2)) (mAsg (mVar 5) (mgName 3))))) xs [some v, some (.int q), some (.int lo), some (.int hi), u, t] S = .nx (some v :: some (.int q) :: some (.int m) :: w) S
  | [], i, lo, hi, u, t, e, h1, h2, h3, h4, _, _ => by
    have : i = 400 := by simpa using e
    subst this
    have eh : hi = lo + 1 := by
      have : ((2 ^ (400 - 400) : Nat) : Int) = 1 := rfl
      omega
    subst eh
    exact ⟨lo, _, Int.le_refl _, by omega, h3, h4, fun S => go_nil⟩
  | x :: xs, i, lo, hi, u, t, e, h1, h2, h3, h4, b1, b2 => by
    by_cases hc : hi - lo < 2
    · have eh : hi = lo + 1 := by omega
      subst eh
      refine ⟨lo, [some (.int (lo + 1)), some x, t], Int.le_refl _, by omega, h3, h4, fun S => ?_⟩
      generalize lo + 1 = g at *
      simp -implicitDefEqProofs [callD_ev, mSeq_ev, mIf_ev, mRet_ev, mExp_ev, mAsgN_ev, mAsg_ev, mPar_ev, mPar3_ev, mSetL_ev, mNx_ev, mBk_ev, mCt_ev, mRetN_ev, mRaise_ev, m2_ev, mC_ev, mVar, mTst_ev, mTru_ev, mCh_ev, mIsN_ev, mAndT_ev, mOrT_ev, mNotT_ev, mAndV_ev, mOrV_ev, mNotV_ev, mIfE_ev, mNeg_ev, mNil_ev, mCons_ev, mTup_ev, mLst_ev, mCall_ev, mIsi_ev, mApp_ev, mAllWh_ev, mSl_ev, mNoP_ev, mPart_ev, mFor_ev, mItA_ev, mItE_ev, mLc_ev, mYes_ev, add_ev, sub_ev, lt_ev, le_ev, gt_ev, ge_ev, eqi_ev, eqs_ev, eqb_ev, eqn_ev, nei_ev, nes_ev, lenT_ev, abs_ev, int_ev, intb_ev, setl, setLO, bindG, mgName, mgTup, mgCons, mgNil, ixT0, ixT1, ixT2, go_consN, hc]
    · have hi' : i < 400 := by simp at e; omega
      have d2 : ∀ (j : Int) T, fdivM (.int j) (.int 2) T = .ok (.int (j / 2)) T := fun j T => div_ev (by decide) (by decide)
      have ep : ((2 ^ (400 - i) : Nat) : Int) = ((2 ^ (400 - (i + 1)) : Nat) : Int) * 2 := by
        have : (2 : Nat) ^ (400 - i) = 2 ^ (400 - (i + 1)) * 2 := by rw [← Nat.pow_succ]; congr 1; omega
        rw [this, Int.natCast_mul]; rfl
      rw [ep] at h2
      have pp : 0 < ((2 ^ (400 - (i + 1)) : Nat) : Int) := by
        have := Nat.two_pow_pos (400 - (i + 1))
        omega
      generalize hm : (lo + hi) / 2 = m at *
      have m1 : lo < m := by omega
      have m2' : m < hi := by omega
      have mb : m.natAbs < 2 ^ 230 := by omega
      have bs := fun T => N.bes m q T hq (up 230 mb) (up 121 bq)
      by_cases hb : 0 ≤ bsd D X Y m q
      · obtain ⟨r, w, r1, r2, r3, r4, rg⟩ := fl_go N hq bq xs (i + 1) m hi (some x) (some (.int m)) (by simp at e; omega) m2' (by omega) hb h4 mb b2
        refine ⟨r, w, by omega, r2, r3, r4, fun S => ?_⟩
        rw [← rg S]
        simp -implicitDefEqProofs [callD_ev, mSeq_ev, mIf_ev, mRet_ev, mExp_ev, mAsgN_ev, mAsg_ev, mPar_ev, mPar3_ev, mSetL_ev, mNx_ev, mBk_ev, mCt_ev, mRetN_ev, mRaise_ev, m2_ev, mC_ev, mVar, mTst_ev, mTru_ev, mCh_ev, mIsN_ev, mAndT_ev, mOrT_ev, mNotT_ev, mAndV_ev, mOrV_ev, mNotV_ev, mIfE_ev, mNeg_ev, mNil_ev, mCons_ev, mTup_ev, mLst_ev, mCall_ev, mIsi_ev, mApp_ev, mAllWh_ev, mSl_ev, mNoP_ev, mPart_ev, mFor_ev, mItA_ev, mItE_ev, mLc_ev, mYes_ev, add_ev, sub_ev, lt_ev, le_ev, gt_ev, ge_ev, eqi_ev, eqs_ev, eqb_ev, eqn_ev, nei_ev, nes_ev, lenT_ev, abs_ev, int_ev, intb_ev, setl, setLO, bindG, mgName, mgTup, mgCons, mgNil, ixT0, ixT1, ixT2, go_consN, hc, d2, hm, bs, hb]
      · obtain ⟨r, w, r1, r2, r3, r4, rg⟩ := fl_go N hq bq xs (i + 1) lo m (some x) (some (.int m)) (by simp at e; omega) m1 (by omega) h3 (by omega) b1 mb
        refine ⟨r, w, r1, by omega, r3, r4, fun S => ?_⟩
        rw [← rg S]
        simp -implicitDefEqProofs [callD_ev, mSeq_ev, mIf_ev, mRet_ev, mExp_ev, mAsgN_ev, mAsg_ev, mPar_ev, mPar3_ev, mSetL_ev, mNx_ev, mBk_ev, mCt_ev, mRetN_ev, mRaise_ev, m2_ev, mC_ev, mVar, mTst_ev, mTru_ev, mCh_ev, mIsN_ev, mAndT_ev, mOrT_ev, mNotT_ev, mAndV_ev, mOrV_ev, mNotV_ev, mIfE_ev, mNeg_ev, mNil_ev, mCons_ev, mTup_ev, mLst_ev, mCall_ev, mIsi_ev, mApp_ev, mAllWh_ev, mSl_ev, mNoP_ev, mPart_ev, mFor_ev, mItA_ev, mItE_ev, mLc_ev, mYes_ev, add_ev, sub_ev, lt_ev, le_ev, gt_ev, ge_ev, eqi_ev, eqs_ev, eqb_ev, eqn_ev, nei_ev, nes_ev, lenT_ev, abs_ev, int_ev, intb_ev, setl, setLO, bindG, mgName, mgTup, mgCons, mgNil, ixT0, ixT1, ixT2, go_consN, hc, d2, hm, bs, hb]
theorem lfloor_ev {v : PV} {D : Int} {X Y : Q2} (N : NumL v D X Y) {q lo hi : Int} (hq : 0 < q) (bq : q.natAbs < 2 ^ 121) (h1 : lo < hi) (h2 : (hi - lo).natAbs < 2 ^ 300) (h3 : 0 ≤ bsd D X Y lo q) (h4 : bsd D X Y hi q < 0) (b1 : lo.natAbs < 2 ^ 230) (b2 : hi.natAbs < 2 ^ 230) :
    ∃ m : Int, lo ≤ m ∧ m < hi ∧ 0 ≤ bsd D X Y m q ∧ bsd D X Y (m + 1) q < 0 ∧ ∀ S, m_l_floor [v, .int q, .int lo, .int hi] S = .ok (.int m) S := by
  have hb : hi - lo ≤ ((2 ^ (400 - 0) : Nat) : Int) := by
    have := up 300 h2 (b := 400)
    simp only [Nat.sub_zero]
    omega
  obtain ⟨m, w, m1, m2, m3, m4, g⟩ := fl_go N hq bq (rngP 0 400) 0 lo hi none none (by simp) h1 hb h3 h4 b1 b2
  refine ⟨m, m1, m2, m3, m4, fun S => ?_⟩
  unfold m_l_floor
  simp -implicitDefEqProofs [callD_ev, mSeq_ev, mIf_ev, mRet_ev, mExp_ev, mAsgN_ev, mAsg_ev, mPar_ev, mPar3_ev, mSetL_ev, mNx_ev, mBk_ev, mCt_ev, mRetN_ev, mRaise_ev, m2_ev, mC_ev, mVar, mTst_ev, mTru_ev, mCh_ev, mIsN_ev, mAndT_ev, mOrT_ev, mNotT_ev, mAndV_ev, mOrV_ev, mNotV_ev, mIfE_ev, mNeg_ev, mNil_ev, mCons_ev, mTup_ev, mLst_ev, mCall_ev, mIsi_ev, mApp_ev, mAllWh_ev, mSl_ev, mNoP_ev, mPart_ev, mFor_ev, mItA_ev, mItE_ev, mLc_ev, mYes_ev, add_ev, sub_ev, lt_ev, le_ev, gt_ev, ge_ev, eqi_ev, eqs_ev, eqb_ev, eqn_ev, nei_ev, nes_ev, lenT_ev, abs_ev, int_ev, intb_ev, setl, setLO, bindG, mgName, mgTup, mgCons, mgNil, ixT0, ixT1, ixT2, rng1_ev, g]
theorem eqv_rr (a b c d : Int) : PyData.eqv (.tuple [.str "rational", .tuple [.int a, .int b]]) (.tuple [.str "rational", .tuple [.int c, .int d]]) = decide (a = c ∧ b = d) := by
  have h := eqv_ints a b c d
  have e : PyData.eqv (.tuple [.str "rational", .tuple [.int a, .int b]]) (.tuple [.str "rational", .tuple [.int c, .int d]]) = PyData.eqv (.tuple [.int a, .int b]) (.tuple [.int c, .int d]) := by
    simp [PyData.eqv, PyData.eqvAll]
  rw [e, h]
theorem eqv_qq (a b c w d e f x : Int) : PyData.eqv (.tuple [.str "root", .tuple [.int a, .int b, .int c], .int w]) (.tuple [.str "root", .tuple [.int d, .int e, .int f], .int x]) = decide (a = d ∧ b = e ∧ c = f ∧ w = x) := by
  simp only [PyData.eqv, PyData.eqvAll, Bool.and_true]
  by_cases h1 : a = d <;> by_cases h2 : b = e <;> by_cases h3 : c = f <;> by_cases h4 : w = x <;> simp [h1, h2, h3, h4]
theorem eqv_rq (a b c d e w : Int) : PyData.eqv (.tuple [.str "rational", .tuple [.int a, .int b]]) (.tuple [.str "root", .tuple [.int c, .int d, .int e], .int w]) = false := by
  simp [PyData.eqv, PyData.eqvAll]
theorem eqv_qr (a b c d e w : Int) : PyData.eqv (.tuple [.str "root", .tuple [.int c, .int d, .int e], .int w]) (.tuple [.str "rational", .tuple [.int a, .int b]]) = false := by
  simp [PyData.eqv, PyData.eqvAll]
theorem sh_rr (a b : Int) : SeqAt.shaped (.tuple [.str "rational", .tuple [.int a, .int b]]) = true := by
  simp [SeqAt.shaped, PyData.canLay0, PyData.canLayAll0, PyData.depth, PyData.depthAll]
  decide +kernel
theorem sh_qq (a b c w : Int) : SeqAt.shaped (.tuple [.str "root", .tuple [.int a, .int b, .int c], .int w]) = true := by
  simp [SeqAt.shaped, PyData.canLay0, PyData.canLayAll0, PyData.depth, PyData.depthAll]
  decide +kernel
theorem eqk {v w : PV} {D E a b c A B C : Int} {X Y V W : Q2} (N : NumK v D X Y a b c) (M : NumK w E V W A B C) : ∃ k : Bool, (k = true ↔ v = w) ∧ ∀ T, eqM v w T = .ok (.bl k) T := by
  have go : ∀ (x y : PV) (d e : PyData) (k : Bool), (∀ T, eqM x y T = eqvM false x y T) → (∀ T, pd T 200 x = some d) → (∀ T, pd T 200 y = some e) → SeqAt.shaped d = true → SeqAt.shaped e = true → PyData.eqv d e = k → ∀ T, eqM x y T = .ok (.bl k) T := fun x y d e k h h1 h2 s1 s2 h3 T => by
    rw [h T]
    unfold eqvM
    rw [h1, h2]
    show (if SeqAt.shaped d = true ∧ SeqAt.shaped e = true then _ else _) = _
    rw [if_pos ⟨s1, s2⟩, h3]
    rfl
  rcases N.kind with ⟨r, rfl, _⟩ | ⟨x, rfl, _⟩
  · rcases M.kind with ⟨t, rfl, _⟩ | ⟨y, rfl, _⟩
    · refine ⟨_, ?_, go _ _ (.tuple [.str "rational", .tuple [.int r.1, .int r.2]]) (.tuple [.str "rational", .tuple [.int t.1, .int t.2]]) _ (fun T => rfl) (fun T => rfl) (fun T => rfl) (sh_rr _ _) (sh_rr _ _) (eqv_rr _ _ _ _)⟩
      rw [decide_eq_true_iff]
      constructor
      · rintro ⟨h1, h2⟩
        unfold pq
        rw [h1, h2]
      · intro h
        unfold pq at h
        injection h with h
        injection h with _ h
        injection h with h _
        injection h with h
        injection h with h1 h
        injection h with h2 _
        injection h1 with h1
        injection h2 with h2
        exact ⟨h1, h2⟩
    · refine ⟨false, ⟨fun h => (Bool.noConfusion h), fun h => ?_⟩, go _ _ (.tuple [.str "rational", .tuple [.int r.1, .int r.2]]) (.tuple [.str "root", .tuple [.int C, .int B, .int A], .int y]) _ (fun T => rfl) (fun T => rfl) (fun T => rfl) (sh_rr _ _) (sh_qq _ _ _ _) (eqv_rq _ _ _ _ _ _)⟩
      injection h with h
      injection h with _ h
      injection h with _ h
      cases h
  · rcases M.kind with ⟨t, rfl, _⟩ | ⟨y, rfl, _⟩
    · refine ⟨false, ⟨fun h => (Bool.noConfusion h), fun h => ?_⟩, go _ _ (.tuple [.str "root", .tuple [.int c, .int b, .int a], .int x]) (.tuple [.str "rational", .tuple [.int t.1, .int t.2]]) _ (fun T => rfl) (fun T => rfl) (fun T => rfl) (sh_qq _ _ _ _) (sh_rr _ _) (eqv_qr _ _ _ _ _ _)⟩
      injection h with h
      injection h with _ h
      injection h with _ h
      cases h
    · refine ⟨_, ?_, go _ _ (.tuple [.str "root", .tuple [.int c, .int b, .int a], .int x]) (.tuple [.str "root", .tuple [.int C, .int B, .int A], .int y]) _ (fun T => rfl) (fun T => rfl) (fun T => rfl) (sh_qq _ _ _ _) (sh_qq _ _ _ _) (eqv_qq _ _ _ _ _ _ _ _)⟩
      rw [decide_eq_true_iff]
      constructor
      · rintro ⟨rfl, rfl, rfl, rfl⟩
        rfl
      · intro h
        injection h with h
        injection h with _ h
        injection h with h1 h
        injection h with h2 _
        injection h2 with h2
        injection h1 with h1
        injection h1 with p1 h1
        injection h1 with p2 h1
        injection h1 with p3 _
        injection p1 with p1
        injection p2 with p2
        injection p3 with p3
        exact ⟨p1, p2, p3, h2⟩
theorem cmp_self {v : PV} {D : Int} {X Y : Q2} (N : NumE v D X Y) {T : Sto} : m_compare_numbers [v, v] T = .ok (.int 0) T := by
  have x0 : 0 < X.2 := by have := N.nX.1; omega
  have y0 : 0 < Y.2 := by have := N.nY.1; omega
  have h := compare_ev (S := T) N N (r := X.2 * Y.2) (A := X.1 * Y.2) (B := Y.1 * X.2) (C := X.1 * Y.2) (k := Y.1 * X.2) (Int.mul_pos x0 y0) (by grind) (by grind) (by grind) (by grind)
  rw [h]
  congr 2
  generalize Y.1 * X.2 = B
  rw [Int.sub_self]
  unfold cwr
  have e1 : sg3 D 0 B = B.sign := by
    unfold sg3
    by_cases hb : B.sign = 0 ∨ (0 : Int).sign = B.sign
    · rw [if_pos hb]
      rcases hb with hb | hb
      · rw [hb]; rfl
      · exact hb
    · rw [if_neg hb, if_pos (show (0 : Int).sign = 0 from rfl)]
  have e2 : (0 : Int) * 0 + D * (B * B) - D * (B * B) = 0 := by omega
  have e3 : 2 * (0 * B) = 0 := by simp
  have e4 : sg3 D 0 0 = 0 := rfl
  rw [if_neg (fun h => h e1), e2, e3, e4, Int.mul_zero]
/-- the law's order: the loop -/
theorem cmp_go {v w : PV} {D E a b c A B C : Int} {X Y V W : Q2} (N : NumK v D X Y a b c) (M : NumK w E V W A B C) (ne : v ≠ w) : ∀ (xs : List PV) (i : Nat) (q o1 o2 : Int) (u : Option PV), i + xs.length = 120 → q = ((2 ^ i : Nat) : Int) → (-2000 * q ≤ o1 ∧ o1 < 2000 * q) → (-2000 * q ≤ o2 ∧ o2 < 2000 * q) → 0 ≤ bsd D X Y o1 q → bsd D X Y (o1 + 1) q < 0 → 0 ≤ bsd E V W o2 q → bsd E V W (o2 + 1) q < 0 →
    ∃ (p1 p2 q' : Int) (ρ : PSt), p1 ≠ p2 ∧ 0 < q' ∧ 0 ≤ bsd D X Y p1 q' ∧ bsd D X Y (p1 + 1) q' < 0 ∧ 0 ≤ bsd E V W p2 q' ∧ bsd E V W (p2 + 1) q' < 0 ∧ ∀ S, forGo [] (mgName 5) (mSeq (mIf (mTst (m2 neM (mVar 2) (mVar 3))) mBk mNx) (mSeq (mAsg (m2 mulM (mVar 4) (mC (PV.int 2))) (mgName 4)) (mSeq (mAsg (mApp 4 m_l_floor (mCons (mVar 0) (mCons (mVar 4) (mCons (m2 mulM (mC (PV.int 2)) (mVar 2)) (mCons (m2 addM (m2 mulM (mC (PV.int 2)) (mVar 2)) (mC (PV.int 2))) mNil))))) (mgName 2)) (mAsg (mApp 4 m_l_floor (mCons (mVar 1) (mCons (mVar 4) (mCons (m2 mulM (mC (PV.int 2)) (mVar 3)) (mCons (m2 addM (m2 mulM (mC (PV.int 2)) (mVar 3)) (mC (PV.int 2))) mNil))))) (mgName 3))))) xs [some v, some w, some (.int o1), some (.int o2), some (.int q), u] S = .nx (some v :: some w :: some (.int p1) :: some (.int p2) :: ρ) S
  | [], i, q, o1, o2, u, e, eq, b1, b2, g1, g2, k1, k2 => by
    have : i = 120 := by simpa using e
    subst this
    have qp : q.natAbs = 2 ^ 120 := by rw [eq, Int.natAbs_natCast]
    have q0 : 0 < q := by
      have := Nat.two_pow_pos 120
      omega
    by_cases ho : o1 = o2
    · subst ho
      exact absurd (sep N M q0 (by rw [qp]; decide) (by omega) g1 g2 k1 k2) ne
    · exact ⟨o1, o2, q, _, ho, q0, g1, g2, k1, k2, fun S => go_nil⟩
  | x :: xs, i, q, o1, o2, u, e, eq, b1, b2, g1, g2, k1, k2 => by
    have hi' : i < 120 := by simp at e; omega
    have q0 : 0 < q := by
      have := Nat.two_pow_pos i
      omega
    have qb : q.natAbs < 2 ^ 120 := by rw [eq, Int.natAbs_natCast]; exact Nat.pow_lt_pow_right (by decide) hi'
    by_cases ho : o1 = o2
    · have eq2 : q * 2 = ((2 ^ (i + 1) : Nat) : Int) := by rw [eq, Nat.pow_succ, Int.natCast_mul]; rfl
      have sc : ∀ {D X Y} (m : Int), bsd D X Y (2 * m) (q * 2) = bsd D X Y m q := fun m => by rw [Int.mul_comm 2 m]; exact bsd_scale (by decide)
      have e21 : ∀ m : Int, 2 * m + 2 = 2 * (m + 1) := fun m => by omega
      have bq2 : (q * 2).natAbs < 2 ^ 121 := by
        have : (2 : Nat) ^ 121 = 2 ^ 120 * 2 := rfl
        omega
      have sz : ∀ o : Int, -2000 * q ≤ o → o < 2000 * q → (2 * o).natAbs < 2 ^ 230 ∧ (2 * o + 2).natAbs < 2 ^ 230 := fun o h1 h2 => by
        have p : (2 : Nat) ^ 120 * 8000 ≤ 2 ^ 230 := by decide
        generalize (2 : Nat) ^ 120 = P at *
        generalize (2 : Nat) ^ 230 = R at *
        omega
      obtain ⟨r1, l1, l2, l3, l4, lf1⟩ := lfloor_ev N.toNumL (q := q * 2) (lo := 2 * o1) (hi := 2 * o1 + 2) (by omega) bq2 (by omega) (up 2 (by omega)) (by rw [sc]; exact g1) (by rw [e21, sc]; exact g2) (sz _ b1.1 b1.2).1 (sz _ b1.1 b1.2).2
      obtain ⟨r2, l5, l6, l7, l8, lf2⟩ := lfloor_ev M.toNumL (q := q * 2) (lo := 2 * o2) (hi := 2 * o2 + 2) (by omega) bq2 (by omega) (up 2 (by omega)) (by rw [sc]; exact k1) (by rw [e21, sc]; exact k2) (sz _ b2.1 b2.2).1 (sz _ b2.1 b2.2).2
      obtain ⟨p1, p2, q', ρ, z1, z2, z3, z4, z5, z6, zg⟩ := cmp_go N M ne xs (i + 1) (q * 2) r1 r2 (some x) (by simp at e; omega) eq2 (by omega) (by omega) l3 l4 l7 l8
      refine ⟨p1, p2, q', ρ, z1, z2, z3, z4, z5, z6, fun S => ?_⟩
      rw [← zg S]
      have o : ∀ i, mulOk 2 i = true := fun i => mulOk_l (by decide)
      have oq : ∀ i, mulOk i 2 = true := fun i => mulOk_r (by decide)
      have ho2 : (o1 = o2) = True := eq_true ho
      have ni : ∀ (i j : Int) T, neM (.int i) (.int j) T = .ok (.bl (!decide (i = j))) T := fun _ _ _ => rfl
      simp -implicitDefEqProofs [callD_ev, mSeq_ev, mIf_ev, mRet_ev, mExp_ev, mAsgN_ev, mAsg_ev, mPar_ev, mPar3_ev, mSetL_ev, mNx_ev, mBk_ev, mCt_ev, mRetN_ev, mRaise_ev, m2_ev, mC_ev, mVar, mTst_ev, mTru_ev, mCh_ev, mIsN_ev, mAndT_ev, mOrT_ev, mNotT_ev, mAndV_ev, mOrV_ev, mNotV_ev, mIfE_ev, mNeg_ev, mNil_ev, mCons_ev, mTup_ev, mLst_ev, mCall_ev, mIsi_ev, mApp_ev, mAllWh_ev, mSl_ev, mNoP_ev, mPart_ev, mFor_ev, mItA_ev, mItE_ev, mLc_ev, mYes_ev, add_ev, sub_ev, lt_ev, le_ev, gt_ev, ge_ev, eqi_ev, eqs_ev, eqb_ev, eqn_ev, nei_ev, nes_ev, lenT_ev, abs_ev, int_ev, intb_ev, setl, setLO, bindG, mgName, mgTup, mgCons, mgNil, ixT0, ixT1, ixT2, go_consN, ni, ho2, mulM, o, oq, lf1, lf2]
    · refine ⟨o1, o2, q, [some (.int q), some x], ho, q0, g1, g2, k1, k2, fun S => ?_⟩
      have ni : ∀ (i j : Int) T, neM (.int i) (.int j) T = .ok (.bl (!decide (i = j))) T := fun _ _ _ => rfl
      simp -implicitDefEqProofs [callD_ev, mSeq_ev, mIf_ev, mRet_ev, mExp_ev, mAsgN_ev, mAsg_ev, mPar_ev, mPar3_ev, mSetL_ev, mNx_ev, mBk_ev, mCt_ev, mRetN_ev, mRaise_ev, m2_ev, mC_ev, mVar, mTst_ev, mTru_ev, mCh_ev, mIsN_ev, mAndT_ev, mOrT_ev, mNotT_ev, mAndV_ev, mOrV_ev, mNotV_ev, mIfE_ev, mNeg_ev, mNil_ev, mCons_ev, mTup_ev, mLst_ev, mCall_ev, mIsi_ev, mApp_ev, mAllWh_ev, mSl_ev, mNoP_ev, mPart_ev, mFor_ev, mItA_ev, mItE_ev, mLc_ev, mYes_ev, add_ev, sub_ev, lt_ev, le_ev, gt_ev, ge_ev, eqi_ev, eqs_ev, eqb_ev, eqn_ev, nei_ev, nes_ev, lenT_ev, abs_ev, int_ev, intb_ev, setl, setLO, bindG, mgName, mgTup, mgCons, mgNil, ixT0, ixT1, ixT2, go_consN, ni, ho]

theorem lcompare_ev {v w : PV} {D E a b c A B C : Int} {X Y V W : Q2} (N : NumK v D X Y a b c) (M : NumK w E V W A B C) : ∃ d : Int, (∀ T, m_l_compare [v, w] T = .ok (.int d) T) ∧ (∀ T, m_compare_numbers [v, w] T = .ok (.int d) T) ∧ ∀ T, m_compare_numbers [w, v] T = .ok (.int (-d)) T := by
  obtain ⟨k, hk, ek⟩ := eqk N M
  by_cases hvw : v = w
  · have : k = true := hk.mpr hvw
    subst this
    subst hvw
    refine ⟨0, fun T => ?_, fun T => cmp_self N.toNumE, fun T => cmp_self N.toNumE⟩
    unfold m_l_compare
    simp -implicitDefEqProofs [callD_ev, mSeq_ev, mIf_ev, mRet_ev, mExp_ev, mAsgN_ev, mAsg_ev, mPar_ev, mPar3_ev, mSetL_ev, mNx_ev, mBk_ev, mCt_ev, mRetN_ev, mRaise_ev, m2_ev, mC_ev, mVar, mTst_ev, mTru_ev, mCh_ev, mIsN_ev, mAndT_ev, mOrT_ev, mNotT_ev, mAndV_ev, mOrV_ev, mNotV_ev, mIfE_ev, mNeg_ev, mNil_ev, mCons_ev, mTup_ev, mLst_ev, mCall_ev, mIsi_ev, mApp_ev, mAllWh_ev, mSl_ev, mNoP_ev, mPart_ev, mFor_ev, mItA_ev, mItE_ev, mLc_ev, mYes_ev, add_ev, sub_ev, lt_ev, le_ev, gt_ev, ge_ev, eqi_ev, eqs_ev, eqb_ev, eqn_ev, nei_ev, nes_ev, lenT_ev, abs_ev, int_ev, intb_ev, setl, setLO, bindG, mgName, mgTup, mgCons, mgNil, ixT0, ixT1, ixT2, ek]
  · have : k = false := by
      cases k with
      | true => exact absurd (hk.mp rfl) hvw
      | false => rfl
    subst this
    obtain ⟨o1, l1, l2, l3, l4, f1⟩ := lfloor_ev N.toNumL (q := 1) (lo := -2000) (hi := 2000) (by decide) (by decide) (by decide) (by decide) N.r1 N.r2 (by decide) (by decide)
    obtain ⟨o2, l5, l6, l7, l8, f2⟩ := lfloor_ev M.toNumL (q := 1) (lo := -2000) (hi := 2000) (by decide) (by decide) (by decide) (by decide) M.r1 M.r2 (by decide) (by decide)
    obtain ⟨p1, p2, q', ρ, z1, z2, z3, z4, z5, z6, zg⟩ := cmp_go N M hvw (rngP 0 120) 0 1 o1 o2 none (by simp) rfl ⟨by omega, by omega⟩ ⟨by omega, by omega⟩ l3 l4 l7 l8
    rcases Int.lt_or_gt_of_ne z1 with h | h
    · have h' : ¬ p2 < p1 := by omega
      have g := bsd_low N.fo N.z N.nX.1 N.nY.1 (show p1 + 1 ≤ p2 by omega) z4
      refine ⟨-1, fun T => ?_, fun T => cmp_dn N.toNumE M.toNumE z2 g z5, fun T => cmp_up M.toNumE N.toNumE z2 z5 g⟩
      unfold m_l_compare
      simp -implicitDefEqProofs [callD_ev, mSeq_ev, mIf_ev, mRet_ev, mExp_ev, mAsgN_ev, mAsg_ev, mPar_ev, mPar3_ev, mSetL_ev, mNx_ev, mBk_ev, mCt_ev, mRetN_ev, mRaise_ev, m2_ev, mC_ev, mVar, mTst_ev, mTru_ev, mCh_ev, mIsN_ev, mAndT_ev, mOrT_ev, mNotT_ev, mAndV_ev, mOrV_ev, mNotV_ev, mIfE_ev, mNeg_ev, mNil_ev, mCons_ev, mTup_ev, mLst_ev, mCall_ev, mIsi_ev, mApp_ev, mAllWh_ev, mSl_ev, mNoP_ev, mPart_ev, mFor_ev, mItA_ev, mItE_ev, mLc_ev, mYes_ev, add_ev, sub_ev, lt_ev, le_ev, gt_ev, ge_ev, eqi_ev, eqs_ev, eqb_ev, eqn_ev, nei_ev, nes_ev, lenT_ev, abs_ev, int_ev, intb_ev, setl, setLO, bindG, mgName, mgTup, mgCons, mgNil, ixT0, ixT1, ixT2, ek, f1, f2, rng1_ev, zg, h, h']
    · have h' : ¬ p1 < p2 := by omega
      have g := bsd_low M.fo M.z M.nX.1 M.nY.1 (show p2 + 1 ≤ p1 by omega) z6
      refine ⟨1, fun T => ?_, fun T => cmp_up N.toNumE M.toNumE z2 z3 g, fun T => cmp_dn M.toNumE N.toNumE z2 g z3⟩
      unfold m_l_compare
      simp -implicitDefEqProofs [callD_ev, mSeq_ev, mIf_ev, mRet_ev, mExp_ev, mAsgN_ev, mAsg_ev, mPar_ev, mPar3_ev, mSetL_ev, mNx_ev, mBk_ev, mCt_ev, mRetN_ev, mRaise_ev, m2_ev, mC_ev, mVar, mTst_ev, mTru_ev, mCh_ev, mIsN_ev, mAndT_ev, mOrT_ev, mNotT_ev, mAndV_ev, mOrV_ev, mNotV_ev, mIfE_ev, mNeg_ev, mNil_ev, mCons_ev, mTup_ev, mLst_ev, mCall_ev, mIsi_ev, mApp_ev, mAllWh_ev, mSl_ev, mNoP_ev, mPart_ev, mFor_ev, mItA_ev, mItE_ev, mLc_ev, mYes_ev, add_ev, sub_ev, lt_ev, le_ev, gt_ev, ge_ev, eqi_ev, eqs_ev, eqb_ev, eqn_ev, nei_ev, nes_ev, lenT_ev, abs_ev, int_ev, intb_ev, setl, setLO, bindG, mgName, mgTup, mgCons, mgNil, ixT0, ixT1, ixT2, ek, f1, f2, rng1_ev, zg, h, h']
/-- a drawn number -/
theorem lnum_k {ns : List Int} {s l : Nat} {S : Sto} (h : Dst ns s l S) : ∃ v D X Y a b c S', NumK v D X Y a b c ∧ 0 ≤ bsd D X Y (-100) 1 ∧ bsd D X Y 100 1 < 0 ∧ Dst ns s l S' ∧ Up s l S S' ∧ m_l_number [.cell s] S = .ok v S' := by
  obtain ⟨c, k, h'⟩ := h.st
  obtain ⟨v, c', k', hv, h2, e⟩ := lnumber_ev h'
  have u : Up s l S (S.set s (sx l c' k')) := ⟨c', k', h2.k, rfl⟩
  rcases hv with ⟨q, nq, q1, q2, rfl⟩ | ⟨c, b, a, w, hE, bc, bb, ba, w0, w1, rfl⟩
  · have r0 : 1 ≤ q.2 := nq.1
    refine ⟨_, _, _, _, _, _, _, _, numk_rat nq (by omega) (by omega), ?_, ?_, h.up u, u, e⟩
    · rw [bsd_rat, sign_p (show 0 < q.1 * 1 - -100 * q.2 by omega)]
      decide
    · rw [bsd_rat, sign_n (show q.1 * 1 - 100 * q.2 < 0 by omega)]
      decide
  · have dl := disc_le bc bb ba
    have a0 := hE.1
    refine ⟨_, _, _, _, _, _, _, _, numk_root hE bc bb ba ⟨w0, w1⟩, root_pos hE (by decide) ⟨by omega, ?_⟩, root_neg' hE (by decide) ⟨by omega, ?_⟩, h.up u, u, e⟩
    · have := sq_le (a := 100) (b := -(2 * a * -100 + b * 1)) (by omega) (by omega)
      have e3 : -(2 * a * -100 + b * 1) * -(2 * a * -100 + b * 1) = (2 * a * -100 + b * 1) * (2 * a * -100 + b * 1) := by grind
      omega
    · have := sq_le (a := 100) (b := 2 * a * 100 + b * 1) (by omega) (by omega)
      omega
theorem lnear_ev {ns : List Int} {s l : Nat} {S : Sto} {v : PV} {D a b c : Int} {X Y : Q2} (h : Dst ns s l S) (N : NumK v D X Y a b c) (n1 : 0 ≤ bsd D X Y (-100) 1) (n2 : bsd D X Y 100 1 < 0) : ∃ w E V W A B C S', NumK w E V W A B C ∧ Dst ns s l S' ∧ Up s l S S' ∧ m_l_near [.cell s, v] S = .ok w S' := by
  obtain ⟨d1, S1, a1, b1, h1, u1, e1⟩ := h.nx (m := 3) (by decide) (by decide)
  have gc1 : ∀ v, gcS S.length v S1 = S1 := fun v => gcS_le (by rw [u1.len]; exact Nat.le_refl _)
  by_cases hd : d1 = 0
  · refine ⟨v, _, _, _, _, _, _, S1, N, h1, u1, ?_⟩
    unfold m_l_near
    simp -implicitDefEqProofs [callD_ev, mSeq_ev, mIf_ev, mRet_ev, mExp_ev, mAsgN_ev, mAsg_ev, mPar_ev, mPar3_ev, mSetL_ev, mNx_ev, mBk_ev, mCt_ev, mRetN_ev, mRaise_ev, m2_ev, mC_ev, mVar, mTst_ev, mTru_ev, mCh_ev, mIsN_ev, mAndT_ev, mOrT_ev, mNotT_ev, mAndV_ev, mOrV_ev, mNotV_ev, mIfE_ev, mNeg_ev, mNil_ev, mCons_ev, mTup_ev, mLst_ev, mCall_ev, mIsi_ev, mApp_ev, mAllWh_ev, mSl_ev, mNoP_ev, mPart_ev, mFor_ev, mItA_ev, mItE_ev, mLc_ev, mYes_ev, add_ev, sub_ev, lt_ev, le_ev, gt_ev, ge_ev, eqi_ev, eqs_ev, eqb_ev, eqn_ev, nei_ev, nes_ev, lenT_ev, abs_ev, int_ev, intb_ev, setl, setLO, bindG, mgName, mgTup, mgCons, mgNil, ixT0, ixT1, ixT2, e1, hd, gc1]
  · -- the near rational
    have near : d1 ≠ 1 ∨ (∃ r : Q2, v = .tup [.str "rational", pq r]) → ∃ w E V W A B C S', NumK w E V W A B C ∧ Dst ns s l S' ∧ Up s l S S' ∧ m_l_near [.cell s, v] S = .ok w S' := fun hh => by
      obtain ⟨d2, S2, a2, b2, h2, u2, e2⟩ := h1.nx (m := 9999) (by decide) (by decide)
      obtain ⟨d3, S3, a3, b3, h3, u3, e3⟩ := h2.nx (m := 2) (by decide) (by decide)
      have q0 : 0 < 1 + d2 := by omega
      generalize hq : 1 + d2 = q at *
      have sc : ∀ m : Int, bsd D X Y (m * q) q = bsd D X Y m 1 := fun m => by
        have := bsd_scale (D := D) (X := X) (Y := Y) (m := m) (q := 1) q0
        rwa [Int.one_mul] at this
      obtain ⟨m, m1, m2, m3, m4, fl⟩ := lfloor_ev N.toNumL (q := q) (lo := -2000 * q) (hi := 2000 * q) q0 (up 14 (by omega)) (by omega) (up 30 (by omega)) (by rw [sc]; exact N.r1) (by rw [sc]; exact N.r2) (up 30 (by omega)) (up 30 (by omega))
      have k1 := bsd_uniq (m := m) (m' := 100 * q) N.fo N.z N.nX.1 N.nY.1 m3 (by rw [sc]; exact n2)
      have k2 := bsd_uniq (m := -100 * q) (m' := m + 1) N.fo N.z N.nX.1 N.nY.1 (by rw [sc]; exact n1) m4
      have nr : Nrm (lo1 (m + d3) q, lo2 (m + d3) q) := lo_nrm (by omega)
      have sz2 := lo2_size (n := m + d3) (show q ≠ 0 by omega)
      have cr := lo_cross (m + d3) q (by omega)
      have sz1 : (lo1 (m + d3) q).natAbs ≤ 128 * (lo2 (m + d3) q).natAbs := by
        have c2 := congrArg Int.natAbs cr
        rw [Int.natAbs_mul, Int.natAbs_mul] at c2
        have c3 : (lo2 (m + d3) q).natAbs * (m + d3).natAbs ≤ (lo2 (m + d3) q).natAbs * (128 * q.natAbs) := Nat.mul_le_mul_left _ (by omega)
        rw [← c2] at c3
        have c4 : (lo2 (m + d3) q).natAbs * (128 * q.natAbs) = 128 * (lo2 (m + d3) q).natAbs * q.natAbs := by grind
        rw [c4] at c3
        exact Nat.le_of_mul_le_mul_right c3 (by omega)
      have lw := low_q (S := S3) (N := m + d3) (D := q) (q := (lo1 (m + d3) q, lo2 (m + d3) q)) (by omega) (up 30 (by omega)) (up 14 (by omega)) rfl
      have us := (u1.trans u2).trans u3
      have gc : ∀ v, gcS S.length v S3 = S3 := fun v => gcS_le (by rw [us.len]; exact Nat.le_refl _)
      have o : ∀ i, mulOk i q = true := fun i => mulOk_r (up 14 (by omega))
      refine ⟨_, _, _, _, _, _, _, S3, numk_rat nr (by show (lo2 (m + d3) q).natAbs ≤ 2 ^ 14; omega) sz1, h3, us, ?_⟩
      unfold m_l_near
      by_cases hd1 : d1 = 1
      · obtain ⟨r, rfl⟩ : ∃ r : Q2, v = .tup [.str "rational", pq r] := hh.resolve_left (fun h => h hd1)
        have ne : ¬ (("rational" : Str) = "root") := by decide
        simp -implicitDefEqProofs [callD_ev, mSeq_ev, mIf_ev, mRet_ev, mExp_ev, mAsgN_ev, mAsg_ev, mPar_ev, mPar3_ev, mSetL_ev, mNx_ev, mBk_ev, mCt_ev, mRetN_ev, mRaise_ev, m2_ev, mC_ev, mVar, mTst_ev, mTru_ev, mCh_ev, mIsN_ev, mAndT_ev, mOrT_ev, mNotT_ev, mAndV_ev, mOrV_ev, mNotV_ev, mIfE_ev, mNeg_ev, mNil_ev, mCons_ev, mTup_ev, mLst_ev, mCall_ev, mIsi_ev, mApp_ev, mAllWh_ev, mSl_ev, mNoP_ev, mPart_ev, mFor_ev, mItA_ev, mItE_ev, mLc_ev, mYes_ev, add_ev, sub_ev, lt_ev, le_ev, gt_ev, ge_ev, eqi_ev, eqs_ev, eqb_ev, eqn_ev, nei_ev, nes_ev, lenT_ev, abs_ev, int_ev, intb_ev, setl, setLO, bindG, mgName, mgTup, mgCons, mgNil, ixT0, ixT1, ixT2, e1, hd, hd1, ne, e2, hq, e3, fl, lw, mulM, o, gc]
      · simp -implicitDefEqProofs [callD_ev, mSeq_ev, mIf_ev, mRet_ev, mExp_ev, mAsgN_ev, mAsg_ev, mPar_ev, mPar3_ev, mSetL_ev, mNx_ev, mBk_ev, mCt_ev, mRetN_ev, mRaise_ev, m2_ev, mC_ev, mVar, mTst_ev, mTru_ev, mCh_ev, mIsN_ev, mAndT_ev, mOrT_ev, mNotT_ev, mAndV_ev, mOrV_ev, mNotV_ev, mIfE_ev, mNeg_ev, mNil_ev, mCons_ev, mTup_ev, mLst_ev, mCall_ev, mIsi_ev, mApp_ev, mAllWh_ev, mSl_ev, mNoP_ev, mPart_ev, mFor_ev, mItA_ev, mItE_ev, mLc_ev, mYes_ev, add_ev, sub_ev, lt_ev, le_ev, gt_ev, ge_ev, eqi_ev, eqs_ev, eqb_ev, eqn_ev, nei_ev, nes_ev, lenT_ev, abs_ev, int_ev, intb_ev, setl, setLO, bindG, mgName, mgTup, mgCons, mgNil, ixT0, ixT1, ixT2, e1, hd, hd1, e2, hq, e3, fl, lw, mulM, o, gc]
    by_cases hd1 : d1 = 1
    · rcases N.kind with ⟨r, hr, _⟩ | ⟨w, rfl, hE, hc, hb, ha, w0, w1, _⟩
      · exact near (.inr ⟨r, hr⟩)
      · refine ⟨_, _, _, _, _, _, _, S1, numk_root (w := 1 - w) hE hc hb ha ⟨by omega, by omega⟩, h1, u1, ?_⟩
        unfold m_l_near
        simp -implicitDefEqProofs [callD_ev, mSeq_ev, mIf_ev, mRet_ev, mExp_ev, mAsgN_ev, mAsg_ev, mPar_ev, mPar3_ev, mSetL_ev, mNx_ev, mBk_ev, mCt_ev, mRetN_ev, mRaise_ev, m2_ev, mC_ev, mVar, mTst_ev, mTru_ev, mCh_ev, mIsN_ev, mAndT_ev, mOrT_ev, mNotT_ev, mAndV_ev, mOrV_ev, mNotV_ev, mIfE_ev, mNeg_ev, mNil_ev, mCons_ev, mTup_ev, mLst_ev, mCall_ev, mIsi_ev, mApp_ev, mAllWh_ev, mSl_ev, mNoP_ev, mPart_ev, mFor_ev, mItA_ev, mItE_ev, mLc_ev, mYes_ev, add_ev, sub_ev, lt_ev, le_ev, gt_ev, ge_ev, eqi_ev, eqs_ev, eqb_ev, eqn_ev, nei_ev, nes_ev, lenT_ev, abs_ev, int_ev, intb_ev, setl, setLO, bindG, mgName, mgTup, mgCons, mgNil, ixT0, ixT1, ixT2, e1, hd1, gc1]
    · exact near (.inl hd1)
theorem told11_ok {v w d : PV} (h : ∀ T, m_compare_numbers [v, w] T = .ok d T) (S : Sto) : m_l_told [v, w] S = .ok d S := by
  unfold m_l_told
  simp -implicitDefEqProofs [callD_ev, mSeq_ev, mIf_ev, mRet_ev, mExp_ev, mAsgN_ev, mAsg_ev, mPar_ev, mPar3_ev, mSetL_ev, mNx_ev, mBk_ev, mCt_ev, mRetN_ev, mRaise_ev, m2_ev, mC_ev, mVar, mTst_ev, mTru_ev, mCh_ev, mIsN_ev, mAndT_ev, mOrT_ev, mNotT_ev, mAndV_ev, mOrV_ev, mNotV_ev, mIfE_ev, mNeg_ev, mNil_ev, mCons_ev, mTup_ev, mLst_ev, mCall_ev, mIsi_ev, mApp_ev, mAllWh_ev, mSl_ev, mNoP_ev, mPart_ev, mFor_ev, mItA_ev, mItE_ev, mLc_ev, mYes_ev, add_ev, sub_ev, lt_ev, le_ev, gt_ev, ge_ev, eqi_ev, eqs_ev, eqb_ev, eqn_ev, nei_ev, nes_ev, lenT_ev, abs_ev, int_ev, intb_ev, ixM, atP, ixN, setl, setLO, bindG, mgName, mgTup, mgCons, mgNil, mTryAs_ev, h]
theorem told11_1 {v w : PV} {S : Sto} (h : m_is_number [v] S = .ok (.bl false) S) : m_l_told [v, w] S = .ok (.str "first") S := by
  have h1 : isX "BadValue" "BadValue" = true := by decide
  have h3 : List.lookup ("name" : Str) [(("name" : Str), PV.str "first")] = some (.str "first") := rfl
  have c1 := check_no (z := "first") h
  have n1 : m_compare_numbers [v, w] S = .er "BadValue" [("name", .str "first")] S := by
    unfold m_compare_numbers
    simp -implicitDefEqProofs [callD_ev, mSeq_ev, mIf_ev, mRet_ev, mExp_ev, mAsgN_ev, mAsg_ev, mPar_ev, mPar3_ev, mSetL_ev, mNx_ev, mBk_ev, mCt_ev, mRetN_ev, mRaise_ev, m2_ev, mC_ev, mVar, mTst_ev, mTru_ev, mCh_ev, mIsN_ev, mAndT_ev, mOrT_ev, mNotT_ev, mAndV_ev, mOrV_ev, mNotV_ev, mIfE_ev, mNeg_ev, mNil_ev, mCons_ev, mTup_ev, mLst_ev, mCall_ev, mIsi_ev, mApp_ev, mAllWh_ev, mSl_ev, mNoP_ev, mPart_ev, mFor_ev, mItA_ev, mItE_ev, mLc_ev, mYes_ev, add_ev, sub_ev, lt_ev, le_ev, gt_ev, ge_ev, eqi_ev, eqs_ev, eqb_ev, eqn_ev, nei_ev, nes_ev, lenT_ev, abs_ev, int_ev, intb_ev, setl, setLO, bindG, mgName, mgTup, mgCons, mgNil, ixT0, ixT1, ixT2, c1]
  unfold m_l_told
  simp -implicitDefEqProofs [callD_ev, mSeq_ev, mIf_ev, mRet_ev, mExp_ev, mAsgN_ev, mAsg_ev, mPar_ev, mPar3_ev, mSetL_ev, mNx_ev, mBk_ev, mCt_ev, mRetN_ev, mRaise_ev, m2_ev, mC_ev, mVar, mTst_ev, mTru_ev, mCh_ev, mIsN_ev, mAndT_ev, mOrT_ev, mNotT_ev, mAndV_ev, mOrV_ev, mNotV_ev, mIfE_ev, mNeg_ev, mNil_ev, mCons_ev, mTup_ev, mLst_ev, mCall_ev, mIsi_ev, mApp_ev, mAllWh_ev, mSl_ev, mNoP_ev, mPart_ev, mFor_ev, mItA_ev, mItE_ev, mLc_ev, mYes_ev, add_ev, sub_ev, lt_ev, le_ev, gt_ev, ge_ev, eqi_ev, eqs_ev, eqb_ev, eqn_ev, nei_ev, nes_ev, lenT_ev, abs_ev, int_ev, intb_ev, ixM, atP, ixN, setl, setLO, bindG, mgName, mgTup, mgCons, mgNil, mTryAs_ev, n1, h1, mXf, h3]
theorem told11_2 {v w : PV} {S : Sto} (g : m_is_number [v] S = .ok (.bl true) S) (h : m_is_number [w] S = .ok (.bl false) S) : m_l_told [v, w] S = .ok (.str "second") S := by
  have h1 : isX "BadValue" "BadValue" = true := by decide
  have h3 : List.lookup ("name" : Str) [(("name" : Str), PV.str "second")] = some (.str "second") := rfl
  have c0 := check_yes (z := "first") g
  have c1 := check_no (z := "second") h
  have n1 : m_compare_numbers [v, w] S = .er "BadValue" [("name", .str "second")] S := by
    unfold m_compare_numbers
    simp -implicitDefEqProofs [callD_ev, mSeq_ev, mIf_ev, mRet_ev, mExp_ev, mAsgN_ev, mAsg_ev, mPar_ev, mPar3_ev, mSetL_ev, mNx_ev, mBk_ev, mCt_ev, mRetN_ev, mRaise_ev, m2_ev, mC_ev, mVar, mTst_ev, mTru_ev, mCh_ev, mIsN_ev, mAndT_ev, mOrT_ev, mNotT_ev, mAndV_ev, mOrV_ev, mNotV_ev, mIfE_ev, mNeg_ev, mNil_ev, mCons_ev, mTup_ev, mLst_ev, mCall_ev, mIsi_ev, mApp_ev, mAllWh_ev, mSl_ev, mNoP_ev, mPart_ev, mFor_ev, mItA_ev, mItE_ev, mLc_ev, mYes_ev, add_ev, sub_ev, lt_ev, le_ev, gt_ev, ge_ev, eqi_ev, eqs_ev, eqb_ev, eqn_ev, nei_ev, nes_ev, lenT_ev, abs_ev, int_ev, intb_ev, setl, setLO, bindG, mgName, mgTup, mgCons, mgNil, ixT0, ixT1, ixT2, c0, c1]
  unfold m_l_told
  simp -implicitDefEqProofs [callD_ev, mSeq_ev, mIf_ev, mRet_ev, mExp_ev, mAsgN_ev, mAsg_ev, mPar_ev, mPar3_ev, mSetL_ev, mNx_ev, mBk_ev, mCt_ev, mRetN_ev, mRaise_ev, m2_ev, mC_ev, mVar, mTst_ev, mTru_ev, mCh_ev, mIsN_ev, mAndT_ev, mOrT_ev, mNotT_ev, mAndV_ev, mOrV_ev, mNotV_ev, mIfE_ev, mNeg_ev, mNil_ev, mCons_ev, mTup_ev, mLst_ev, mCall_ev, mIsi_ev, mApp_ev, mAllWh_ev, mSl_ev, mNoP_ev, mPart_ev, mFor_ev, mItA_ev, mItE_ev, mLc_ev, mYes_ev, add_ev, sub_ev, lt_ev, le_ev, gt_ev, ge_ev, eqi_ev, eqs_ev, eqb_ev, eqn_ev, nei_ev, nes_ev, lenT_ev, abs_ev, int_ev, intb_ev, ixM, atP, ixN, setl, setLO, bindG, mgName, mgTup, mgCons, mgNil, mTryAs_ev, n1, h1, mXf, h3]
theorem isnum_22 {S : Sto} : m_is_number [.tup [.str "rational", .tup [.int 2, .int 2]]] S = .ok (.bl false) S := by
  have i1 := isi_ev (T := "tuple") (x := .tup [.str "rational", .tup [.int 2, .int 2]]) (S := S) rfl
  have i2 := isi_ev (T := "str") (x := .str "rational") (S := S) rfl
  have r2 : ∀ T, m_is_rational [.tup [.int 2, .int 2]] T = .ok (.bl false) T := fun T => by
    rw [rat_two (ta := "int") (tb := "int") rfl rfl]
    rfl
  unfold m_is_number
  simp -implicitDefEqProofs [callD_ev, mSeq_ev, mIf_ev, mRet_ev, mExp_ev, mAsgN_ev, mAsg_ev, mPar_ev, mPar3_ev, mSetL_ev, mNx_ev, mBk_ev, mCt_ev, mRetN_ev, mRaise_ev, m2_ev, mC_ev, mVar, mTst_ev, mTru_ev, mCh_ev, mIsN_ev, mAndT_ev, mOrT_ev, mNotT_ev, mAndV_ev, mOrV_ev, mNotV_ev, mIfE_ev, mNeg_ev, mNil_ev, mCons_ev, mTup_ev, mLst_ev, mCall_ev, mIsi_ev, mApp_ev, mAllWh_ev, mSl_ev, mNoP_ev, mPart_ev, mFor_ev, mItA_ev, mItE_ev, mLc_ev, mYes_ev, add_ev, sub_ev, lt_ev, le_ev, gt_ev, ge_ev, eqi_ev, eqs_ev, eqb_ev, eqn_ev, nei_ev, nes_ev, lenT_ev, abs_ev, int_ev, intb_ev, ixM, atP, ixN, setl, setLO, bindG, mgName, mgTup, mgCons, mgNil, i1, i2, r2, truthM]
theorem law_core {x0 : PV} {S0 S1 : Sto} {s l : Nat} {ns : List Int} {c k : Int} (e1 : m_l_stream [x0] S0 = .ok (.cell s) S1) (h : St S1 s l ns c k) (cl : Clo S1) : ∃ S', m_law [x0] S0 = .ok (.bl true) S' := by
  have h1 : Dst ns s l S1 := ⟨⟨c, k, h⟩, cl⟩
  obtain ⟨v1, D1, X1, Y1, A1, B1, C1, S2, N1, p1, p2, h2, u2, e2⟩ := lnum_k h1
  obtain ⟨v2, D2, X2, Y2, A2, B2, C2, S3, N2, _, _, h3, u3, e3⟩ := lnum_k h2
  obtain ⟨d4, S4, a4, b4, h4, u4, e4⟩ := h3.nx (m := 3) (by decide) (by decide)
  obtain ⟨w, E, V, W, A, B, C, S5, M, h5, hc⟩ : ∃ w E V W A B C S5, NumK w E V W A B C ∧ Dst ns s l S5 ∧ ((d4 = 1 ∧ m_l_near [.cell s, v1] S4 = .ok w S5) ∨ (d4 ≠ 1 ∧ w = v2 ∧ S5 = S4)) := by
    by_cases hd : d4 = 1
    · obtain ⟨w, E, V, W, A, B, C, S5, M, h5, u5, e5⟩ := lnear_ev h4 N1 p1 p2
      exact ⟨w, E, V, W, A, B, C, S5, M, h5, .inl ⟨hd, e5⟩⟩
    · exact ⟨v2, _, _, _, _, _, _, S4, N2, h4, .inr ⟨hd, rfl, rfl⟩⟩
  obtain ⟨d, c1, c2, c3⟩ := lcompare_ev N1 M
  have t1 := told11_ok c2
  have t2 := told11_ok c3
  have eq : m_l_equal 6 [.cell S5.length, .cell (S5.length + 1)] (S5 ++ [MO.lst [.int d, .int (-d)], .lst [.int d, .int (-d)]]) = .ok (.bl true) (S5 ++ [MO.lst [.int d, .int (-d)], .lst [.int d, .int (-d)]]) := by
    refine equal_lists (k := 4) (xs := [.int d, .int (-d)]) (by simp) (by simp) rfl (by show 2 ≤ 1000; decide) ?_
    have := ((h5.clo.app (o := .lst [.int d, .int (-d)]) rfl).app (o := .lst [.int d, .int (-d)]) rfl)
    simpa using this
  obtain ⟨xs, hv⟩ : ∃ xs, v1 = .tup xs := by
    rcases N1.kind with ⟨r, rfl, _⟩ | ⟨w, rfl, _⟩ <;> exact ⟨_, rfl⟩
  have cx : ∀ n, clos n xs = true := fun n => by have := N1.cl n; rw [hv] at this; exact this
  have h6 := (h5.app (o := .lst [.int d, .int (-d)]) rfl).app (o := .lst [.int d, .int (-d)]) rfl
  have h7 := h6.app (o := .lst xs) (cx _)
  have h8 := h7.app (o := .lst [.cell (S5 ++ [MO.lst [.int d, .int (-d)]] ++ [MO.lst [.int d, .int (-d)]]).length, .non, .tup [.str "rational", .tup [.int 2, .int 2]], .int 0]) (by
    show (decide _ && true) = true
    rw [decide_eq_true (by simp <;> omega)]
    rfl)
  obtain ⟨d9, S9, a9, b9, h9, u9, e9⟩ := h8.nx (m := 4) (by decide) (by decide)
  have g9 := Up.last h7 u9
  have gx : S9[(S5 ++ [MO.lst [.int d, .int (-d)]] ++ [MO.lst [.int d, .int (-d)]]).length]? = some (.lst xs) := by
    rw [u9.at (by have := h5.lt; simp; omega)]
    simp
  obtain ⟨x, ix, nx⟩ : ∃ x, ixM (.cell (S5 ++ [MO.lst [.int d, .int (-d)]] ++ [MO.lst [.int d, .int (-d)]] ++ [MO.lst xs]).length) (.int d9) S9 = .ok x S9 ∧ m_is_number [x] S9 = .ok (.bl false) S9 := by
    obtain rfl | rfl | rfl | rfl : d9 = 0 ∨ d9 = 1 ∨ d9 = 2 ∨ d9 = 3 := by omega
    · exact ⟨_, ixC_ev g9 rfl, isnum_no (t := "list") (by simp only [tyP, gx]) (by decide)⟩
    · exact ⟨_, ixC_ev g9 rfl, isnum_no (t := "NoneType") rfl (by decide)⟩
    · exact ⟨_, ixC_ev g9 rfl, isnum_22⟩
    · exact ⟨_, ixC_ev g9 rfl, isnum_no (t := "int") rfl (by decide)⟩
  have f1 := told11_1 (w := x) nx
  have f2 := told11_2 (N1.isn S9) nx
  have ls : ∀ T, listM [v1] T = .ok (.cell T.length) (T ++ [.lst xs]) := fun T => by rw [hv]; rfl
  simp only [List.append_assoc, List.cons_append, List.nil_append, List.length_append, List.length_cons, List.length_nil, Nat.zero_add] at e9 ix
  unfold m_law
  rcases hc with ⟨hd, e5⟩ | ⟨hd, rfl, rfl⟩
  · simp -implicitDefEqProofs [callD_ev, mSeq_ev, mIf_ev, mRet_ev, mExp_ev, mAsgN_ev, mAsg_ev, mPar_ev, mPar3_ev, mSetL_ev, mNx_ev, mBk_ev, mCt_ev, mRetN_ev, mRaise_ev, m2_ev, mC_ev, mVar, mTst_ev, mTru_ev, mCh_ev, mIsN_ev, mAndT_ev, mOrT_ev, mNotT_ev, mAndV_ev, mOrV_ev, mNotV_ev, mIfE_ev, mNeg_ev, mNil_ev, mCons_ev, mTup_ev, mLst_ev, mCall_ev, mIsi_ev, mApp_ev, mAllWh_ev, mSl_ev, mNoP_ev, mPart_ev, mFor_ev, mItA_ev, mItE_ev, mLc_ev, mYes_ev, add_ev, sub_ev, lt_ev, le_ev, gt_ev, ge_ev, eqi_ev, eqs_ev, eqb_ev, eqn_ev, nei_ev, nes_ev, lenT_ev, abs_ev, int_ev, intb_ev, setl, setLO, bindG, mgName, mgTup, mgCons, mgNil, ixT0, ixT1, ixT2, e1, e2, e3, e4, hd, e5, c1, t1, t2, eq, ls, e9, ix, f1, f2, eqs_ev, truthM]
  · simp -implicitDefEqProofs [callD_ev, mSeq_ev, mIf_ev, mRet_ev, mExp_ev, mAsgN_ev, mAsg_ev, mPar_ev, mPar3_ev, mSetL_ev, mNx_ev, mBk_ev, mCt_ev, mRetN_ev, mRaise_ev, m2_ev, mC_ev, mVar, mTst_ev, mTru_ev, mCh_ev, mIsN_ev, mAndT_ev, mOrT_ev, mNotT_ev, mAndV_ev, mOrV_ev, mNotV_ev, mIfE_ev, mNeg_ev, mNil_ev, mCons_ev, mTup_ev, mLst_ev, mCall_ev, mIsi_ev, mApp_ev, mAllWh_ev, mSl_ev, mNoP_ev, mPart_ev, mFor_ev, mItA_ev, mItE_ev, mLc_ev, mYes_ev, add_ev, sub_ev, lt_ev, le_ev, gt_ev, ge_ev, eqi_ev, eqs_ev, eqb_ev, eqn_ev, nei_ev, nes_ev, lenT_ev, abs_ev, int_ev, intb_ev, setl, setLO, bindG, mgName, mgTup, mgCons, mgNil, ixT0, ixT1, ixT2, e1, e2, e3, e4, hd, c1, t1, t2, eq, ls, e9, ix, f1, f2, eqs_ev, truthM]

theorem law_r (ns : List Int) (hl : ns.length ≤ 63) : ∃ S', m_law [.rol (ns.map PV.int)] [] = .ok (.bl true) S' := by
  have e : m_l_stream [.rol (ns.map PV.int)] [] = .ok (.cell 1) [.lst (ns.map PV.int), sx 0 0 0] := by
    rw [stream_r]
    rfl
  refine law_core e ⟨rfl, rfl, Int.le_refl 0⟩ ?_
  show ((clos 2 (ns.map PV.int)) && (clos 2 [.cell 0, .int 0, .int 0] && true)) = true
  rw [clo_ints]
  rfl
theorem law_c (ns : List Int) (hl : ns.length ≤ 63) : ∃ S', m_law [.cell 0] [.lst (ns.map PV.int)] = .ok (.bl true) S' := by
  have e : m_l_stream [.cell 0] [.lst (ns.map PV.int)] = .ok (.cell 2) [.lst (ns.map PV.int), .lst (ns.map PV.int), sx 1 0 0] := by
    unfold m_l_stream
    simp -implicitDefEqProofs [callD_ev, mSeq_ev, mIf_ev, mRet_ev, mExp_ev, mAsgN_ev, mAsg_ev, mPar_ev, mPar3_ev, mSetL_ev, mNx_ev, mBk_ev, mCt_ev, mRetN_ev, mRaise_ev, m2_ev, mC_ev, mVar, mTst_ev, mTru_ev, mCh_ev, mIsN_ev, mAndT_ev, mOrT_ev, mNotT_ev, mAndV_ev, mOrV_ev, mNotV_ev, mIfE_ev, mNeg_ev, mNil_ev, mCons_ev, mTup_ev, mLst_ev, mCall_ev, mIsi_ev, mApp_ev, mAllWh_ev, mSl_ev, mNoP_ev, mPart_ev, mFor_ev, mItA_ev, mItE_ev, mLc_ev, mYes_ev, add_ev, sub_ev, lt_ev, le_ev, gt_ev, ge_ev, eqi_ev, eqs_ev, eqb_ev, eqn_ev, nei_ev, nes_ev, lenT_ev, abs_ev, int_ev, intb_ev, ixM, atP, ixN, setl, setLO, bindG, mgName, mgTup, mgCons, mgNil, listM]
    rfl
  refine law_core e ⟨rfl, rfl, Int.le_refl 0⟩ ?_
  show ((clos 3 (ns.map PV.int)) && (clos 3 (ns.map PV.int) && (clos 3 [.cell 1, .int 0, .int 0] && true))) = true
  rw [clo_ints]
  rfl

section
variable {P : Program} {w : World} {K : PySem.W.Frag} {mg : Str → Option Value} {base : Heap}
theorem ok_l_stream (T : Txt K mg) : FnOk P w K mg base (L2.CX P w) 1 T.f_l_stream T.fd_l_stream ["script"] (spM K T.g 1 m_l_stream) := by
  refine fn_m rfl T.D_l_stream.F sc_l_stream rfl (fun cdv A outer s H E hr => ?_)
  exact (rss_one (rs_ret (re_lst (ra_cons (re_cb (fun h => pe_callTy call_list_of (by rfl) T.list PyProof.Rows.boot_list h) cam_list (ra_cons (re_var (pv 0)) ra_nil)) (ra_cons re_int (ra_cons re_int ra_nil))) (by decide) (len_cons (len_cons (len_cons len_nil))))))
theorem ok_l_next (T : Txt K mg) : FnOk P w K mg base (L2.CX P w) 1 T.f_l_next T.fd_l_next ["stream", "many"] (spM K T.g 2 m_l_next) := by
  refine fn_m rfl T.D_l_next.F sc_l_next rfl (fun cdv A outer s H E hr => ?_)
  exact (rss_cons (rs_if (rt_cmp (opr_eq hr.units) opm_eq (nomark _) (re_ix (re_var (pv 0)) re_int (fun _ _ => rfl)) re_int) (rss_cons (rs_set (i := 2) (re_ix (re_var (pv 0)) re_int (fun _ _ => rfl)) (fun h => ps_set (i := 2) sc_l_next.nd rfl (Or.inl rfl) h))
    (rss_cons (rs_set (i := 3) (re_op opr_add opm_add re_int (re_var (pv 2))) (fun h => ps_set (i := 3) sc_l_next.nd rfl (Or.inl rfl) h))
    (rss_cons (rs_if (rt_cmp op_lt opm_lt (nomark _) (re_var (pv 2)) (re_cb (fun h => pe_callB call_len (by rfl) T.len PySem.boot_len h) cam_len (ra_cons (re_ix (re_var (pv 0)) re_int (fun _ _ => rfl)) ra_nil))) (rss_one (rs_set (i := 3) (re_cb (fun h => pe_callB call_abs (by rfl) T.abs PyProof.Rows.boot_abs h) cam_abs (ra_cons (re_ix (re_ix (re_var (pv 0)) re_int (fun _ _ => rfl)) (re_var (pv 2)) (fun _ _ => rfl)) ra_nil)) (fun h => ps_set (i := 3) sc_l_next.nd rfl (Or.inl rfl) h))) rss_nil)
    (rss_cons (rs_if (rt_cmp op_lt opm_lt (nomark _) (re_var (pv 3)) (re_op op_pow opm_pow re_int re_int)) (rss_cons (rs_set (i := 3) (re_op op_modN opm_mod (re_cb (fun h => pe_callTy call_int1 (by rfl) T.int PyProof.Rows.boot_int h) cam_int (ra_cons (re_op opr_add opm_add (re_op opr_add opm_add (re_op opr_mul opm_mul (re_var (pv 3)) re_int) (re_op opr_mul opm_mul (re_var (pv 2)) re_int)) re_int) ra_nil)) re_int) (fun h => ps_set (i := 3) sc_l_next.nd rfl (Or.inl rfl) h))
    (rss_one (rs_set (i := 3) (re_op opr_add opm_add (re_op opr_mul opm_mul (re_op op_modN opm_mod (re_cb (fun h => pe_callTy call_int1 (by rfl) T.int PyProof.Rows.boot_int h) cam_int (ra_cons (re_op opr_add opm_add (re_op opr_mul opm_mul (re_var (pv 3)) re_int) re_int) ra_nil)) re_int) re_int) (re_var (pv 3))) (fun h => ps_set (i := 3) sc_l_next.nd rfl (Or.inl rfl) h)))) rss_nil)
    (rss_cons (rs_setL (re_var (pv 3)) (re_var (pv 0)) re_int)
    (rss_one (rs_setL (re_op opr_add opm_add (re_var (pv 2)) re_int) (re_var (pv 0)) re_int))))))) rss_nil)
    (rss_cons (rs_set (i := 4) (re_op op_modN opm_mod (re_cb (fun h => pe_callTy call_int1 (by rfl) T.int PyProof.Rows.boot_int h) cam_int (ra_cons (re_ix (re_var (pv 0)) re_int (fun _ _ => rfl)) ra_nil)) (re_var (pv 1))) (fun h => ps_set (i := 4) sc_l_next.nd rfl (Or.inl rfl) h))
    (rss_cons (rs_setL (re_op opr_fdiv opm_fdiv (re_ix (re_var (pv 0)) re_int (fun _ _ => rfl)) (re_var (pv 1))) (re_var (pv 0)) re_int)
    (rss_one (rs_ret (re_var (pv 4)))))))
theorem ok_l_is_integer (T : Txt K mg) : FnOk P w K mg base (L2.CX P w) 1 T.f_l_is_integer T.fd_l_is_integer ["actual"] (spM K T.g 1 m_l_is_integer) := by
  refine fn_m rfl T.D_l_is_integer.F sc_l_is_integer rfl (fun cdv A outer s H E hr => ?_)
  exact (rss_one (rs_ret (re_and (re_isi (T := "int") (by decide) (re_var (pv 0)) (pe_bltn (v := .ty "int") (by rfl) T.int PyProof.Rows.boot_int rfl) (fun h => pe_callB call_isi (by rfl) T.isinstance PyProof.Rows.boot_isinstance h)) (re_one (re_not (re_isi (T := "bool") (by decide) (re_var (pv 0)) (pe_bltn (v := .ty "bool") (by rfl) T.bool PyProof.Rows.boot_bool rfl) (fun h => pe_callB call_isi (by rfl) T.isinstance PyProof.Rows.boot_isinstance h)))))))
theorem ok_l_equal (T : Txt K mg) : ∀ k, FnOk P w K mg base (L2.CX P w) (k + 2) T.f_l_equal T.fd_l_equal ["actual", "due"] (spM K T.g 2 (m_l_equal k))
  | 0 => by
    refine fn_m rfl T.D_l_equal.F sc_l_equal rfl (fun cdv A outer s H E hr => ?_)
    exact rss_bad
  | k + 1 => by
    have ih := ok_l_equal T k
    refine fn_m rfl T.D_l_equal.F sc_l_equal rfl (fun cdv A outer s H E hr => ?_)
    exact (rss_cons (rs_if (rt_isN (re_var (pv 1))) (rss_one (rs_ret (re_isN (re_var (pv 0))))) rss_nil)
    (rss_cons (rs_if (rt_val (re_isi (T := "bool") (by decide) (re_var (pv 1)) (pe_bltn (v := .ty "bool") (by rfl) T.bool PyProof.Rows.boot_bool rfl) (fun h => pe_callB call_isi (by rfl) T.isinstance PyProof.Rows.boot_isinstance h)) (fun _ => rfl)) (rss_one (rs_ret (re_and (re_isi (T := "bool") (by decide) (re_var (pv 0)) (pe_bltn (v := .ty "bool") (by rfl) T.bool PyProof.Rows.boot_bool rfl) (fun h => pe_callB call_isi (by rfl) T.isinstance PyProof.Rows.boot_isinstance h)) (re_one (re_cmp (opr_eq hr.units) opm_eq (nomark _) (re_var (pv 0)) (re_var (pv 1))))))) rss_nil)
    (rss_cons (rs_if (rt_val (re_isi (T := "int") (by decide) (re_var (pv 1)) (pe_bltn (v := .ty "int") (by rfl) T.int PyProof.Rows.boot_int rfl) (fun h => pe_callB call_isi (by rfl) T.isinstance PyProof.Rows.boot_isinstance h)) (fun _ => rfl)) (rss_one (rs_ret (re_and (re_call (ok_l_is_integer T) (hr.mono (by omega)) rfl T.D_l_is_integer.g T.D_l_is_integer.F.kp T.D_l_is_integer.b (takes_of rfl rfl rfl rfl) (ra_cons (re_var (pv 0)) ra_nil)) (re_one (re_cmp (opr_eq hr.units) opm_eq (nomark _) (re_var (pv 0)) (re_var (pv 1))))))) rss_nil)
    (rss_cons (rs_if (rt_val (re_isi (T := "str") (by decide) (re_var (pv 1)) (pe_bltn (v := .ty "str") (by rfl) T.str PyProof.Rows.boot_str rfl) (fun h => pe_callB call_isi (by rfl) T.isinstance PyProof.Rows.boot_isinstance h)) (fun _ => rfl)) (rss_one (rs_ret (re_and (re_isi (T := "str") (by decide) (re_var (pv 0)) (pe_bltn (v := .ty "str") (by rfl) T.str PyProof.Rows.boot_str rfl) (fun h => pe_callB call_isi (by rfl) T.isinstance PyProof.Rows.boot_isinstance h)) (re_one (re_cmp (opr_eq hr.units) opm_eq (nomark _) (re_var (pv 0)) (re_var (pv 1))))))) rss_nil)
    (rss_cons (rs_if (rt_of (rw_and (rt_val (re_isi (T := "tuple") (by decide) (re_var (pv 1)) (pe_bltn (v := .ty "tuple") (by rfl) T.tuple PyProof.Rows.boot_tuple rfl) (fun h => pe_callB call_isi (by rfl) T.isinstance PyProof.Rows.boot_isinstance h)) (fun _ => rfl)) (rw_and1 (rt_not (rt_val (re_isi (T := "tuple") (by decide) (re_var (pv 0)) (pe_bltn (v := .ty "tuple") (by rfl) T.tuple PyProof.Rows.boot_tuple rfl) (fun h => pe_callB call_isi (by rfl) T.isinstance PyProof.Rows.boot_isinstance h)) (fun _ => rfl)))))) (rss_one (rs_ret re_bl)) rss_nil)
    (rss_cons (rs_if (rt_of (rw_and (rt_val (re_isi (T := "list") (by decide) (re_var (pv 1)) (pe_bltn (v := .ty "list") (by rfl) T.list PyProof.Rows.boot_list rfl) (fun h => pe_callB call_isi (by rfl) T.isinstance PyProof.Rows.boot_isinstance h)) (fun _ => rfl)) (rw_and1 (rt_not (rt_val (re_isi (T := "list") (by decide) (re_var (pv 0)) (pe_bltn (v := .ty "list") (by rfl) T.list PyProof.Rows.boot_list rfl) (fun h => pe_callB call_isi (by rfl) T.isinstance PyProof.Rows.boot_isinstance h)) (fun _ => rfl)))))) (rss_one (rs_ret re_bl)) rss_nil)
    (rss_cons (rs_if (rt_cmp (opr_ne hr.units) opm_ne (nomark _) (re_cb (fun h => pe_callB call_len (by rfl) T.len PySem.boot_len h) cam_len (ra_cons (re_var (pv 0)) ra_nil)) (re_cb (fun h => pe_callB call_len (by rfl) T.len PySem.boot_len h) cam_len (ra_cons (re_var (pv 1)) ra_nil))) (rss_one (rs_ret re_bl)) rss_nil)
    (rss_one (rs_ret (re_cb (fun h => pe_callB (cr_all rfl) (by rfl) T.all (by decide +kernel) h) cam_all (ra_cons (re_lc (own := [("at", 2)]) rfl rfl sc_l_equal.nd (ri_rng1 rfl T.range (ra_cons (re_cb (fun h => pe_callB call_len (by rfl) T.len PySem.boot_len h) cam_len (ra_cons (re_var (pv 1)) ra_nil)) ra_nil)) (blkOk_by (own := [("at", 2)]) (N := ["actual", "due", "at"]) (sc := defScope s_l_equal) (by decide +kernel)) (fun _ _ _ _ _ => (rg_name (pg_name (i := 2) sc_l_equal.nd rfl (Or.inl rfl)))) (fun _ _ _ _ _ => pts_yes) (fun _ _ _ _ _ => (re_call ih (hr.mono (by omega)) rfl T.D_l_equal.g T.D_l_equal.F.kp T.D_l_equal.b takes_no (ra_cons (re_ix (re_var (pv 0)) (re_var (pv 2)) (fun _ _ => rfl)) (ra_cons (re_ix (re_var (pv 1)) (re_var (pv 2)) (fun _ _ => rfl)) ra_nil))))) ra_nil)))))))))))
theorem ok_l_gcd (T : Txt K mg) : FnOk P w K mg base (L2.CX P w) 1 T.f_l_gcd T.fd_l_gcd ["a", "b"] (spM K T.g 2 m_l_gcd) := by
  refine fn_m rfl T.D_l_gcd.F sc_l_gcd rfl (fun cdv A outer s H E hr => ?_)
  exact (rss_cons (rs_set (i := 0) (re_cb (fun h => pe_callB call_abs (by rfl) T.abs PyProof.Rows.boot_abs h) cam_abs (ra_cons (re_var (pv 0)) ra_nil)) (fun h => ps_set (i := 0) sc_l_gcd.nd rfl (Or.inl rfl) h))
    (rss_cons (rs_set (i := 1) (re_cb (fun h => pe_callB call_abs (by rfl) T.abs PyProof.Rows.boot_abs h) cam_abs (ra_cons (re_var (pv 1)) ra_nil)) (fun h => ps_set (i := 1) sc_l_gcd.nd rfl (Or.inl rfl) h))
    (rss_cons (rs_for (passes_of rfl) rfl (ri_rng1 rfl T.range (ra_cons re_int ra_nil)) (rg_name (pg_name (i := 2) sc_l_gcd.nd rfl (Or.inl rfl))) (rss_cons (rs_if (rt_cmp (opr_eq hr.units) opm_eq (nomark _) (re_var (pv 1)) re_int) (rss_one rs_break) rss_nil)
    (rss_one (rs_par (ra_cons (re_var (pv 1)) (ra_cons (re_op op_modN opm_mod (re_cb (fun h => pe_callTy call_int1 (by rfl) T.int PyProof.Rows.boot_int h) cam_int (ra_cons (re_var (pv 0)) ra_nil)) (re_var (pv 1))) ra_nil)) (fun h => ps_par (i := 0) (j := 1) (by rfl) sc_l_gcd.nd rfl rfl (by decide) rfl rfl h (by rfl))))))
    (rss_one (rs_ret (re_var (pv 0)))))))
theorem ok_l_low (T : Txt K mg) : FnOk P w K mg base (L2.CX P w) 2 T.f_l_low T.fd_l_low ["n", "d"] (spM K T.g 2 m_l_low) := by
  refine fn_m rfl T.D_l_low.F sc_l_low rfl (fun cdv A outer s H E hr => ?_)
  exact (rss_cons (rs_set (i := 2) (re_call (ok_l_gcd T) (hr.mono (by omega)) rfl T.D_l_gcd.g T.D_l_gcd.F.kp T.D_l_gcd.b (takes_of rfl rfl rfl rfl) (ra_cons (re_var (pv 0)) (ra_cons (re_var (pv 1)) ra_nil))) (fun h => ps_set (i := 2) sc_l_low.nd rfl (Or.inl rfl) h))
    (rss_cons (rs_if (rt_cmp op_lt opm_lt (nomark _) (re_var (pv 1)) re_int) (rss_one (rs_set (i := 2) (re_op op_sub opm_sub re_int (re_var (pv 2))) (fun h => ps_set (i := 2) sc_l_low.nd rfl (Or.inl rfl) h))) rss_nil)
    (rss_one (rs_ret (re_tup (ra_cons (re_op opr_fdiv opm_fdiv (re_var (pv 0)) (re_var (pv 2))) (ra_cons (re_op opr_fdiv opm_fdiv (re_var (pv 1)) (re_var (pv 2))) ra_nil)) (by decide) (len_cons (len_cons len_nil)))))))
theorem ok_l_ratio (T : Txt K mg) : FnOk P w K mg base (L2.CX P w) 3 T.f_l_ratio T.fd_l_ratio ["stream", "top", "most"] (spM K T.g 3 m_l_ratio) := by
  refine fn_m rfl T.D_l_ratio.F sc_l_ratio rfl (fun cdv A outer s H E hr => ?_)
  exact (rss_cons (rs_set (i := 3) (re_op op_sub opm_sub (re_call (ok_l_next T) (hr.mono (by omega)) rfl T.D_l_next.g T.D_l_next.F.kp T.D_l_next.b (takes_of rfl rfl rfl rfl) (ra_cons (re_var (pv 0)) (ra_cons (re_op opr_add opm_add (re_op opr_mul opm_mul re_int (re_var (pv 1))) re_int) ra_nil))) (re_var (pv 1))) (fun h => ps_set (i := 3) sc_l_ratio.nd rfl (Or.inl rfl) h))
    (rss_one (rs_ret (re_call (ok_l_low T) (hr.mono (by omega)) rfl T.D_l_low.g T.D_l_low.F.kp T.D_l_low.b (takes_of rfl rfl rfl rfl) (ra_cons (re_var (pv 3)) (ra_cons (re_op opr_add opm_add re_int (re_call (ok_l_next T) (hr.mono (by omega)) rfl T.D_l_next.g T.D_l_next.F.kp T.D_l_next.b (takes_of rfl rfl rfl rfl) (ra_cons (re_var (pv 0)) (ra_cons (re_var (pv 2)) ra_nil)))) ra_nil))))))
theorem ok_l_root (T : Txt K mg) : FnOk P w K mg base (L2.CX P w) 1 T.f_l_root T.fd_l_root ["n"] (spM K T.g 1 m_l_root) := by
  refine fn_m rfl T.D_l_root.F sc_l_root rfl (fun cdv A outer s H E hr => ?_)
  exact (rss_cons (rs_set (i := 1) re_int (fun h => ps_set (i := 1) sc_l_root.nd rfl (Or.inl rfl) h))
    (rss_cons (rs_set (i := 2) re_int (fun h => ps_set (i := 2) sc_l_root.nd rfl (Or.inl rfl) h))
    (rss_cons (rs_for (passes_of rfl) rfl (ri_rng1 rfl T.range (ra_cons re_int ra_nil)) (rg_name (pg_name (i := 3) sc_l_root.nd rfl (Or.inl rfl))) (rss_cons (rs_if (rt_cmp op_gt opm_gt (nomark _) (re_op opr_mul opm_mul (re_var (pv 2)) (re_var (pv 2))) (re_var (pv 0))) (rss_one rs_break) rss_nil)
    (rss_one (rs_set (i := 2) (re_op opr_mul opm_mul (re_var (pv 2)) re_int) (fun h => ps_set (i := 2) sc_l_root.nd rfl (Or.inl rfl) h)))))
    (rss_cons (rs_for (passes_of rfl) rfl (ri_rng1 rfl T.range (ra_cons re_int ra_nil)) (rg_name (pg_name (i := 3) sc_l_root.nd rfl (Or.inl rfl))) (rss_cons (rs_if (rt_cmp op_lt opm_lt (nomark _) (re_op op_sub opm_sub (re_var (pv 2)) (re_var (pv 1))) re_int) (rss_one rs_break) rss_nil)
    (rss_cons (rs_set (i := 4) (re_op opr_fdiv opm_fdiv (re_op opr_add opm_add (re_var (pv 1)) (re_var (pv 2))) re_int) (fun h => ps_set (i := 4) sc_l_root.nd rfl (Or.inl rfl) h))
    (rss_one (rs_if (rt_cmp op_gt opm_gt (nomark _) (re_op opr_mul opm_mul (re_var (pv 4)) (re_var (pv 4))) (re_var (pv 0))) (rss_one (rs_set (i := 2) (re_var (pv 4)) (fun h => ps_set (i := 2) sc_l_root.nd rfl (Or.inl rfl) h))) (rss_one (rs_set (i := 1) (re_var (pv 4)) (fun h => ps_set (i := 1) sc_l_root.nd rfl (Or.inl rfl) h))))))))
    (rss_one (rs_ret (re_var (pv 1))))))))
theorem ok_l_is_square (T : Txt K mg) : FnOk P w K mg base (L2.CX P w) 2 T.f_l_is_square T.fd_l_is_square ["n"] (spM K T.g 1 m_l_is_square) := by
  refine fn_m rfl T.D_l_is_square.F sc_l_is_square rfl (fun cdv A outer s H E hr => ?_)
  exact (rss_one (rs_ret (re_cmp (opr_eq hr.units) opm_eq (nomark _) (re_op opr_mul opm_mul (re_call (ok_l_root T) (hr.mono (by omega)) rfl T.D_l_root.g T.D_l_root.F.kp T.D_l_root.b (takes_of rfl rfl rfl rfl) (ra_cons (re_var (pv 0)) ra_nil)) (re_call (ok_l_root T) (hr.mono (by omega)) rfl T.D_l_root.g T.D_l_root.F.kp T.D_l_root.b (takes_of rfl rfl rfl rfl) (ra_cons (re_var (pv 0)) ra_nil))) (re_var (pv 0)))))
theorem ok_l_number (T : Txt K mg) : FnOk P w K mg base (L2.CX P w) 4 T.f_l_number T.fd_l_number ["stream"] (spM K T.g 1 m_l_number) := by
  refine fn_m rfl T.D_l_number.F sc_l_number rfl (fun cdv A outer s H E hr => ?_)
  exact (rss_cons (rs_if (rt_cmp (opr_eq hr.units) opm_eq (nomark _) (re_call (ok_l_next T) (hr.mono (by omega)) rfl T.D_l_next.g T.D_l_next.F.kp T.D_l_next.b (takes_of rfl rfl rfl rfl) (ra_cons (re_var (pv 0)) (ra_cons re_int ra_nil))) re_int) (rss_one (rs_ret (re_tup (ra_cons re_str (ra_cons (re_call (ok_l_ratio T) (hr.mono (by omega)) rfl T.D_l_ratio.g T.D_l_ratio.F.kp T.D_l_ratio.b (takes_of rfl rfl rfl rfl) (ra_cons (re_var (pv 0)) (ra_cons re_int (ra_cons re_int ra_nil)))) ra_nil)) (by decide) (len_cons (len_cons len_nil))))) rss_nil)
    (rss_cons (rs_set (i := 1) (re_op opr_add opm_add re_int (re_call (ok_l_next T) (hr.mono (by omega)) rfl T.D_l_next.g T.D_l_next.F.kp T.D_l_next.b (takes_of rfl rfl rfl rfl) (ra_cons (re_var (pv 0)) (ra_cons re_int ra_nil)))) (fun h => ps_set (i := 1) sc_l_number.nd rfl (Or.inl rfl) h))
    (rss_cons (rs_set (i := 2) (re_op op_sub opm_sub (re_call (ok_l_next T) (hr.mono (by omega)) rfl T.D_l_next.g T.D_l_next.F.kp T.D_l_next.b (takes_of rfl rfl rfl rfl) (ra_cons (re_var (pv 0)) (ra_cons re_int ra_nil))) re_int) (fun h => ps_set (i := 2) sc_l_number.nd rfl (Or.inl rfl) h))
    (rss_cons (rs_set (i := 3) (re_op op_sub opm_sub (re_call (ok_l_next T) (hr.mono (by omega)) rfl T.D_l_next.g T.D_l_next.F.kp T.D_l_next.b (takes_of rfl rfl rfl rfl) (ra_cons (re_var (pv 0)) (ra_cons re_int ra_nil))) re_int) (fun h => ps_set (i := 3) sc_l_number.nd rfl (Or.inl rfl) h))
    (rss_cons (rs_set (i := 4) (re_call (ok_l_gcd T) (hr.mono (by omega)) rfl T.D_l_gcd.g T.D_l_gcd.F.kp T.D_l_gcd.b (takes_of rfl rfl rfl rfl) (ra_cons (re_call (ok_l_gcd T) (hr.mono (by omega)) rfl T.D_l_gcd.g T.D_l_gcd.F.kp T.D_l_gcd.b (takes_of rfl rfl rfl rfl) (ra_cons (re_var (pv 1)) (ra_cons (re_var (pv 2)) ra_nil))) (ra_cons (re_var (pv 3)) ra_nil))) (fun h => ps_set (i := 4) sc_l_number.nd rfl (Or.inl rfl) h))
    (rss_cons (rs_par3 (ra_cons (re_op opr_fdiv opm_fdiv (re_var (pv 1)) (re_var (pv 4))) (ra_cons (re_op opr_fdiv opm_fdiv (re_var (pv 2)) (re_var (pv 4))) (ra_cons (re_op opr_fdiv opm_fdiv (re_var (pv 3)) (re_var (pv 4))) ra_nil))) (fun h => ps_par3 (i := 1) (j := 2) (l := 3) (by rfl) sc_l_number.nd rfl rfl rfl (by decide) (by decide) (by decide) rfl rfl rfl h (by rfl)))
    (rss_cons (rs_set (i := 5) (re_op op_sub opm_sub (re_op opr_mul opm_mul (re_var (pv 2)) (re_var (pv 2))) (re_op opr_mul opm_mul (re_op opr_mul opm_mul re_int (re_var (pv 1))) (re_var (pv 3)))) (fun h => ps_set (i := 5) sc_l_number.nd rfl (Or.inl rfl) h))
    (rss_cons (rs_if (rt_of (rw_or (rt_cmp op_le opm_le (nomark _) (re_var (pv 5)) re_int) (rw_or1 (rt_val (re_call (ok_l_is_square T) (hr.mono (by omega)) rfl T.D_l_is_square.g T.D_l_is_square.F.kp T.D_l_is_square.b (takes_of rfl rfl rfl rfl) (ra_cons (re_var (pv 5)) ra_nil)) (fun _ => rfl))))) (rss_one (rs_ret (re_tup (ra_cons re_str (ra_cons (re_tup (ra_cons (re_op op_sub opm_sub re_int re_int) (ra_cons re_int (ra_cons re_int ra_nil))) (by decide) (len_cons (len_cons (len_cons len_nil)))) (ra_cons (re_call (ok_l_next T) (hr.mono (by omega)) rfl T.D_l_next.g T.D_l_next.F.kp T.D_l_next.b (takes_of rfl rfl rfl rfl) (ra_cons (re_var (pv 0)) (ra_cons re_int ra_nil))) ra_nil))) (by decide) (len_cons (len_cons (len_cons len_nil)))))) rss_nil)
    (rss_one (rs_ret (re_tup (ra_cons re_str (ra_cons (re_tup (ra_cons (re_var (pv 3)) (ra_cons (re_var (pv 2)) (ra_cons (re_var (pv 1)) ra_nil))) (by decide) (len_cons (len_cons (len_cons len_nil)))) (ra_cons (re_call (ok_l_next T) (hr.mono (by omega)) rfl T.D_l_next.g T.D_l_next.F.kp T.D_l_next.b (takes_of rfl rfl rfl rfl) (ra_cons (re_var (pv 0)) (ra_cons re_int ra_nil))) ra_nil))) (by decide) (len_cons (len_cons (len_cons len_nil))))))))))))))
theorem ok_l_beside (T : Txt K mg) : FnOk P w K mg base (L2.CX P w) 1 T.f_l_beside T.fd_l_beside ["number", "n", "d"] (spM K T.g 3 m_l_beside) := by
  refine fn_m rfl T.D_l_beside.F sc_l_beside rfl (fun cdv A outer s H E hr => ?_)
  exact (rss_cons (rs_if (rt_cmp (opr_eq hr.units) opm_eq (nomark _) (re_ix (re_var (pv 0)) re_int (fun _ _ => rfl)) re_str) (rss_cons (rs_set (i := 3) (re_op opr_mul opm_mul (re_ix (re_ix (re_var (pv 0)) re_int (fun _ _ => rfl)) re_int (fun _ _ => rfl)) (re_var (pv 2))) (fun h => ps_set (i := 3) sc_l_beside.nd rfl (Or.inl rfl) h))
    (rss_cons (rs_set (i := 4) (re_op opr_mul opm_mul (re_var (pv 1)) (re_ix (re_ix (re_var (pv 0)) re_int (fun _ _ => rfl)) re_int (fun _ _ => rfl))) (fun h => ps_set (i := 4) sc_l_beside.nd rfl (Or.inl rfl) h))
    (rss_one (rs_ret (re_op op_sub opm_sub (re_cb (fun h => pe_callTy call_int1 (by rfl) T.int PyProof.Rows.boot_int h) cam_int (ra_cons (re_cmp op_gt opm_gt (nomark _) (re_var (pv 3)) (re_var (pv 4))) ra_nil)) (re_cb (fun h => pe_callTy call_int1 (by rfl) T.int PyProof.Rows.boot_int h) cam_int (ra_cons (re_cmp op_lt opm_lt (nomark _) (re_var (pv 3)) (re_var (pv 4))) ra_nil))))))) rss_nil)
    (rss_cons (rs_asg (re_ix (re_var (pv 0)) re_int (fun _ _ => rfl)) (rg_tup (by rfl) (rgs_cons (rg_name (pg_name (i := 5) sc_l_beside.nd rfl (Or.inl rfl))) (rgs_cons (rg_name (pg_name (i := 6) sc_l_beside.nd rfl (Or.inl rfl))) (rgs_cons (rg_name (pg_name (i := 7) sc_l_beside.nd rfl (Or.inl rfl))) rgs_nil)))))
    (rss_cons (rs_set (i := 8) (re_op opr_add opm_add (re_op opr_add opm_add (re_op opr_mul opm_mul (re_op opr_mul opm_mul (re_var (pv 5)) (re_var (pv 2))) (re_var (pv 2))) (re_op opr_mul opm_mul (re_op opr_mul opm_mul (re_var (pv 6)) (re_var (pv 1))) (re_var (pv 2)))) (re_op opr_mul opm_mul (re_op opr_mul opm_mul (re_var (pv 7)) (re_var (pv 1))) (re_var (pv 1)))) (fun h => ps_set (i := 8) sc_l_beside.nd rfl (Or.inl rfl) h))
    (rss_cons (rs_set (i := 9) (re_op opr_add opm_add (re_op opr_mul opm_mul (re_op opr_mul opm_mul re_int (re_var (pv 7))) (re_var (pv 1))) (re_op opr_mul opm_mul (re_var (pv 6)) (re_var (pv 2)))) (fun h => ps_set (i := 9) sc_l_beside.nd rfl (Or.inl rfl) h))
    (rss_cons (rs_if (rt_cmp (opr_eq hr.units) opm_eq (nomark _) (re_ix (re_var (pv 0)) re_int (fun _ _ => rfl)) re_int) (rss_one (rs_ret (re_if (rt_of (rw_or (rt_cmp op_le opm_le (nomark _) (re_var (pv 9)) re_int) (rw_or1 (rt_cmp op_lt opm_lt (nomark _) (re_var (pv 8)) re_int)))) re_int (re_neg re_int)))) rss_nil)
    (rss_one (rs_ret (re_if (rt_of (rw_or (rt_cmp op_ge opm_ge (nomark _) (re_var (pv 9)) re_int) (rw_or1 (rt_cmp op_lt opm_lt (nomark _) (re_var (pv 8)) re_int)))) (re_neg re_int) re_int))))))))
theorem ok_l_floor (T : Txt K mg) : FnOk P w K mg base (L2.CX P w) 2 T.f_l_floor T.fd_l_floor ["number", "q", "low", "high"] (spM K T.g 4 m_l_floor) := by
  refine fn_m rfl T.D_l_floor.F sc_l_floor rfl (fun cdv A outer s H E hr => ?_)
  exact (rss_cons (rs_for (passes_of rfl) rfl (ri_rng1 rfl T.range (ra_cons re_int ra_nil)) (rg_name (pg_name (i := 4) sc_l_floor.nd rfl (Or.inl rfl))) (rss_cons (rs_if (rt_cmp op_lt opm_lt (nomark _) (re_op op_sub opm_sub (re_var (pv 3)) (re_var (pv 2))) re_int) (rss_one rs_break) rss_nil)
    (rss_cons (rs_set (i := 5) (re_op opr_fdiv opm_fdiv (re_op opr_add opm_add (re_var (pv 2)) (re_var (pv 3))) re_int) (fun h => ps_set (i := 5) sc_l_floor.nd rfl (Or.inl rfl) h))
    (rss_one (rs_if (rt_cmp op_ge opm_ge (nomark _) (re_call (ok_l_beside T) (hr.mono (by omega)) rfl T.D_l_beside.g T.D_l_beside.F.kp T.D_l_beside.b (takes_of rfl rfl rfl rfl) (ra_cons (re_var (pv 0)) (ra_cons (re_var (pv 5)) (ra_cons (re_var (pv 1)) ra_nil)))) re_int) (rss_one (rs_set (i := 2) (re_var (pv 5)) (fun h => ps_set (i := 2) sc_l_floor.nd rfl (Or.inl rfl) h))) (rss_one (rs_set (i := 3) (re_var (pv 5)) (fun h => ps_set (i := 3) sc_l_floor.nd rfl (Or.inl rfl) h))))))))
    (rss_one (rs_ret (re_var (pv 2)))))
theorem ok_l_compare (T : Txt K mg) : FnOk P w K mg base (L2.CX P w) 3 T.f_l_compare T.fd_l_compare ["first", "second"] (spM K T.g 2 m_l_compare) := by
  refine fn_m rfl T.D_l_compare.F sc_l_compare rfl (fun cdv A outer s H E hr => ?_)
  exact (rss_cons (rs_if (rt_cmp (opr_eq hr.units) opm_eq (nomark _) (re_var (pv 0)) (re_var (pv 1))) (rss_one (rs_ret re_int)) rss_nil)
    (rss_cons (rs_set (i := 2) (re_call (ok_l_floor T) (hr.mono (by omega)) rfl T.D_l_floor.g T.D_l_floor.F.kp T.D_l_floor.b (takes_of rfl rfl rfl rfl) (ra_cons (re_var (pv 0)) (ra_cons re_int (ra_cons (re_neg re_int) (ra_cons re_int ra_nil))))) (fun h => ps_set (i := 2) sc_l_compare.nd rfl (Or.inl rfl) h))
    (rss_cons (rs_set (i := 3) (re_call (ok_l_floor T) (hr.mono (by omega)) rfl T.D_l_floor.g T.D_l_floor.F.kp T.D_l_floor.b (takes_of rfl rfl rfl rfl) (ra_cons (re_var (pv 1)) (ra_cons re_int (ra_cons (re_neg re_int) (ra_cons re_int ra_nil))))) (fun h => ps_set (i := 3) sc_l_compare.nd rfl (Or.inl rfl) h))
    (rss_cons (rs_set (i := 4) re_int (fun h => ps_set (i := 4) sc_l_compare.nd rfl (Or.inl rfl) h))
    (rss_cons (rs_for (passes_of rfl) rfl (ri_rng1 rfl T.range (ra_cons re_int ra_nil)) (rg_name (pg_name (i := 5) sc_l_compare.nd rfl (Or.inl rfl))) (rss_cons (rs_if (rt_cmp (opr_ne hr.units) opm_ne (nomark _) (re_var (pv 2)) (re_var (pv 3))) (rss_one rs_break) rss_nil)
    (rss_cons (rs_set (i := 4) (re_op opr_mul opm_mul (re_var (pv 4)) re_int) (fun h => ps_set (i := 4) sc_l_compare.nd rfl (Or.inl rfl) h))
    (rss_cons (rs_set (i := 2) (re_call (ok_l_floor T) (hr.mono (by omega)) rfl T.D_l_floor.g T.D_l_floor.F.kp T.D_l_floor.b (takes_of rfl rfl rfl rfl) (ra_cons (re_var (pv 0)) (ra_cons (re_var (pv 4)) (ra_cons (re_op opr_mul opm_mul re_int (re_var (pv 2))) (ra_cons (re_op opr_add opm_add (re_op opr_mul opm_mul re_int (re_var (pv 2))) re_int) ra_nil))))) (fun h => ps_set (i := 2) sc_l_compare.nd rfl (Or.inl rfl) h))
    (rss_one (rs_set (i := 3) (re_call (ok_l_floor T) (hr.mono (by omega)) rfl T.D_l_floor.g T.D_l_floor.F.kp T.D_l_floor.b (takes_of rfl rfl rfl rfl) (ra_cons (re_var (pv 1)) (ra_cons (re_var (pv 4)) (ra_cons (re_op opr_mul opm_mul re_int (re_var (pv 3))) (ra_cons (re_op opr_add opm_add (re_op opr_mul opm_mul re_int (re_var (pv 3))) re_int) ra_nil))))) (fun h => ps_set (i := 3) sc_l_compare.nd rfl (Or.inl rfl) h)))))))
    (rss_one (rs_ret (re_op op_sub opm_sub (re_cb (fun h => pe_callTy call_int1 (by rfl) T.int PyProof.Rows.boot_int h) cam_int (ra_cons (re_cmp op_gt opm_gt (nomark _) (re_var (pv 2)) (re_var (pv 3))) ra_nil)) (re_cb (fun h => pe_callTy call_int1 (by rfl) T.int PyProof.Rows.boot_int h) cam_int (ra_cons (re_cmp op_lt opm_lt (nomark _) (re_var (pv 2)) (re_var (pv 3))) ra_nil))))))))))
theorem ok_plus (T : Txt K mg) : FnOk P w K mg base (L2.CX P w) 1 T.f_plus T.fd_plus ["a", "b"] (spM K T.g 2 m_plus) := by
  refine fn_m rfl T.D_plus.F sc_plus rfl (fun cdv A outer s H E hr => ?_)
  exact (rss_cons (rs_set (i := 2) (re_cb (fun h => pe_callBfun cr_gcd (by rfl) T.gcd h) cam_gcd (ra_cons (re_ix (re_var (pv 0)) re_int (fun _ _ => rfl)) (ra_cons (re_ix (re_var (pv 1)) re_int (fun _ _ => rfl)) ra_nil))) (fun h => ps_set (i := 2) sc_plus.nd rfl (Or.inl rfl) h))
    (rss_cons (rs_set (i := 3) (re_op opr_fdiv opm_fdiv (re_ix (re_var (pv 0)) re_int (fun _ _ => rfl)) (re_var (pv 2))) (fun h => ps_set (i := 3) sc_plus.nd rfl (Or.inl rfl) h))
    (rss_cons (rs_set (i := 4) (re_op opr_add opm_add (re_op opr_mul opm_mul (re_ix (re_var (pv 0)) re_int (fun _ _ => rfl)) (re_op opr_fdiv opm_fdiv (re_ix (re_var (pv 1)) re_int (fun _ _ => rfl)) (re_var (pv 2)))) (re_op opr_mul opm_mul (re_ix (re_var (pv 1)) re_int (fun _ _ => rfl)) (re_var (pv 3)))) (fun h => ps_set (i := 4) sc_plus.nd rfl (Or.inl rfl) h))
    (rss_cons (rs_set (i := 5) (re_cb (fun h => pe_callBfun cr_gcd (by rfl) T.gcd h) cam_gcd (ra_cons (re_var (pv 4)) (ra_cons (re_var (pv 2)) ra_nil))) (fun h => ps_set (i := 5) sc_plus.nd rfl (Or.inl rfl) h))
    (rss_one (rs_ret (re_tup (ra_cons (re_op opr_fdiv opm_fdiv (re_var (pv 4)) (re_var (pv 5))) (ra_cons (re_op opr_mul opm_mul (re_var (pv 3)) (re_op opr_fdiv opm_fdiv (re_ix (re_var (pv 1)) re_int (fun _ _ => rfl)) (re_var (pv 5)))) ra_nil)) (by decide) (len_cons (len_cons len_nil)))))))))
theorem ok_opposite (T : Txt K mg) : FnOk P w K mg base (L2.CX P w) 1 T.f_opposite T.fd_opposite ["a"] (spM K T.g 1 m_opposite) := by
  refine fn_m rfl T.D_opposite.F sc_opposite rfl (fun cdv A outer s H E hr => ?_)
  exact (rss_one (rs_ret (re_tup (ra_cons (re_neg (re_ix (re_var (pv 0)) re_int (fun _ _ => rfl))) (ra_cons (re_ix (re_var (pv 0)) re_int (fun _ _ => rfl)) ra_nil)) (by decide) (len_cons (len_cons len_nil)))))
theorem ok_minus (T : Txt K mg) : FnOk P w K mg base (L2.CX P w) 2 T.f_minus T.fd_minus ["a", "b"] (spM K T.g 2 m_minus) := by
  refine fn_m rfl T.D_minus.F sc_minus rfl (fun cdv A outer s H E hr => ?_)
  exact (rss_one (rs_ret (re_call (ok_plus T) (hr.mono (by omega)) rfl T.D_plus.g T.D_plus.F.kp T.D_plus.b (takes_of rfl rfl rfl rfl) (ra_cons (re_var (pv 0)) (ra_cons (re_call (ok_opposite T) (hr.mono (by omega)) rfl T.D_opposite.g T.D_opposite.F.kp T.D_opposite.b (takes_of rfl rfl rfl rfl) (ra_cons (re_var (pv 1)) ra_nil)) ra_nil)))))
theorem ok_is_whole (T : Txt K mg) : FnOk P w K mg base (L2.CX P w) 1 T.f_is_whole T.fd_is_whole ["value"] (spM K T.g 1 m_is_whole) := by
  refine fn_m rfl T.D_is_whole.F sc_is_whole rfl (fun cdv A outer s H E hr => ?_)
  exact (rss_one (rs_ret (re_and (re_isi (T := "int") (by decide) (re_var (pv 0)) (pe_bltn (v := .ty "int") (by rfl) T.int PyProof.Rows.boot_int rfl) (fun h => pe_callB call_isi (by rfl) T.isinstance PyProof.Rows.boot_isinstance h)) (re_one (re_not (re_isi (T := "bool") (by decide) (re_var (pv 0)) (pe_bltn (v := .ty "bool") (by rfl) T.bool PyProof.Rows.boot_bool rfl) (fun h => pe_callB call_isi (by rfl) T.isinstance PyProof.Rows.boot_isinstance h)))))))
theorem ok_is_index (T : Txt K mg) : FnOk P w K mg base (L2.CX P w) 2 T.f_is_index T.fd_is_index ["value", "many"] (spM K T.g 2 m_is_index) := by
  refine fn_m rfl T.D_is_index.F sc_is_index rfl (fun cdv A outer s H E hr => ?_)
  exact (rss_one (rs_ret (re_and (re_call (ok_is_whole T) (hr.mono (by omega)) rfl T.D_is_whole.g T.D_is_whole.F.kp T.D_is_whole.b (takes_of rfl rfl rfl rfl) (ra_cons (re_var (pv 0)) ra_nil)) (re_one (re_ch op_le op_lt opm_le opm_lt re_int (re_var (pv 0)) (re_var (pv 1)) rfl)))))
theorem ok_is_rational (T : Txt K mg) : FnOk P w K mg base (L2.CX P w) 2 T.f_is_rational T.fd_is_rational ["x"] (spM K T.g 1 m_is_rational) := by
  refine fn_m rfl T.D_is_rational.F sc_is_rational rfl (fun cdv A outer s H E hr => ?_)
  exact (rss_cons (rs_if (rt_of (rw_or (rt_not (rt_val (re_isi (T := "tuple") (by decide) (re_var (pv 0)) (pe_bltn (v := .ty "tuple") (by rfl) T.tuple PyProof.Rows.boot_tuple rfl) (fun h => pe_callB call_isi (by rfl) T.isinstance PyProof.Rows.boot_isinstance h)) (fun _ => rfl))) (rw_or1 (rt_cmp (opr_ne hr.units) opm_ne (nomark _) (re_cb (fun h => pe_callB call_len (by rfl) T.len PySem.boot_len h) cam_len (ra_cons (re_var (pv 0)) ra_nil)) re_int)))) (rss_one (rs_ret re_bl)) rss_nil)
    (rss_cons (rs_asg (re_var (pv 0)) (rg_tup (by rfl) (rgs_cons (rg_name (pg_name (i := 1) sc_is_rational.nd rfl (Or.inl rfl))) (rgs_cons (rg_name (pg_name (i := 2) sc_is_rational.nd rfl (Or.inl rfl))) rgs_nil))))
    (rss_one (rs_ret (re_and (re_call (ok_is_whole T) (hr.mono (by omega)) rfl T.D_is_whole.g T.D_is_whole.F.kp T.D_is_whole.b (takes_of rfl rfl rfl rfl) (ra_cons (re_var (pv 1)) ra_nil)) (re_and (re_call (ok_is_whole T) (hr.mono (by omega)) rfl T.D_is_whole.g T.D_is_whole.F.kp T.D_is_whole.b (takes_of rfl rfl rfl rfl) (ra_cons (re_var (pv 2)) ra_nil)) (re_and (re_cmp op_ge opm_ge (nomark _) (re_var (pv 2)) re_int) (re_one (re_cmp (opr_eq hr.units) opm_eq (nomark _) (re_cb (fun h => pe_callBfun cr_gcd (by rfl) T.gcd h) cam_gcd (ra_cons (re_var (pv 1)) (ra_cons (re_var (pv 2)) ra_nil))) re_int)))))))))
theorem ok_square_root (T : Txt K mg) : FnOk P w K mg base (L2.CX P w) 1 T.f_square_root T.fd_square_root ["n"] (spM K T.g 1 m_square_root) := by
  refine fn_m rfl T.D_square_root.F sc_square_root rfl (fun cdv A outer s H E hr => ?_)
  exact (rss_cons (rs_if (rt_cmp op_lt opm_lt (nomark _) (re_var (pv 0)) re_int) (rss_one (rs_ret re_non)) rss_nil)
    (rss_cons (rs_set (i := 1) (re_cb (fun h => pe_callBfun Odds.cr_isqrt (by rfl) T.isqrt h) cam_isqrt (ra_cons (re_var (pv 0)) ra_nil)) (fun h => ps_set (i := 1) sc_square_root.nd rfl (Or.inl rfl) h))
    (rss_one (rs_ret (re_if (rt_cmp (opr_eq hr.units) opm_eq (nomark _) (re_op opr_mul opm_mul (re_var (pv 1)) (re_var (pv 1))) (re_var (pv 0))) (re_var (pv 1)) re_non)))))
theorem ok_is_field (T : Txt K mg) : FnOk P w K mg base (L2.CX P w) 2 T.f_is_field T.fd_is_field ["x"] (spM K T.g 1 m_is_field) := by
  refine fn_m rfl T.D_is_field.F sc_is_field rfl (fun cdv A outer s H E hr => ?_)
  exact (rss_cons (rs_if (rt_not (rt_val (re_call (ok_is_whole T) (hr.mono (by omega)) rfl T.D_is_whole.g T.D_is_whole.F.kp T.D_is_whole.b (takes_of rfl rfl rfl rfl) (ra_cons (re_var (pv 0)) ra_nil)) (fun _ => rfl))) (rss_one (rs_ret re_bl)) rss_nil)
    (rss_one (rs_ret (re_or (re_cmp (opr_eq hr.units) opm_eq (nomark _) (re_var (pv 0)) re_int) (re_one (re_and (re_cmp op_gt opm_gt (nomark _) (re_var (pv 0)) re_int) (re_one (re_isN (re_call (ok_square_root T) (hr.mono (by omega)) rfl T.D_square_root.g T.D_square_root.F.kp T.D_square_root.b (takes_of rfl rfl rfl rfl) (ra_cons (re_var (pv 0)) ra_nil))))))))))
theorem ok_discriminant (T : Txt K mg) : FnOk P w K mg base (L2.CX P w) 1 T.f_discriminant T.fd_discriminant ["coefficients"] (spM K T.g 1 m_discriminant) := by
  refine fn_m rfl T.D_discriminant.F sc_discriminant rfl (fun cdv A outer s H E hr => ?_)
  exact (rss_cons (rs_asg (re_var (pv 0)) (rg_tup (by rfl) (rgs_cons (rg_name (pg_name (i := 1) sc_discriminant.nd rfl (Or.inl rfl))) (rgs_cons (rg_name (pg_name (i := 2) sc_discriminant.nd rfl (Or.inl rfl))) (rgs_cons (rg_name (pg_name (i := 3) sc_discriminant.nd rfl (Or.inl rfl))) rgs_nil)))))
    (rss_one (rs_ret (re_op op_sub opm_sub (re_op opr_mul opm_mul (re_var (pv 2)) (re_var (pv 2))) (re_op opr_mul opm_mul (re_op opr_mul opm_mul re_int (re_var (pv 3))) (re_var (pv 1)))))))
theorem ok_is_equation (T : Txt K mg) (TB : GxR.TabB base mg T.c_tab T.P_tab) : FnOk P w K mg base (L2.CX P w) 3 T.f_is_equation T.fd_is_equation ["coefficients"] (spM K T.g 1 m_is_equation) := by
  refine fn_mC rfl T.D_is_equation.F T.code_tab sc_is_equation rfl (fun A outer s H E hr => ?_)
  exact (rss_cons (rs_if (rt_of (rw_or (rt_not (rt_val (re_isi (T := "tuple") (by decide) (re_var (pv 0)) (pe_bltn (v := .ty "tuple") (by rfl) T.tuple PyProof.Rows.boot_tuple rfl) (fun h => pe_callB call_isi (by rfl) T.isinstance PyProof.Rows.boot_isinstance h)) (fun _ => rfl))) (rw_or1 (rt_cmp (opr_ne hr.units) opm_ne (nomark _) (re_cb (fun h => pe_callB call_len (by rfl) T.len PySem.boot_len h) cam_len (ra_cons (re_var (pv 0)) ra_nil)) re_int)))) (rss_one (rs_ret re_bl)) rss_nil)
    (rss_cons (rs_if (rt_not (rt_val (re_allW List.mem_cons_self (re_var (pv 0)) (fun h => Odds.pe_allT hr (by rfl) T.all TB rfl ⟨rfl, rfl, by decide +kernel, by rfl, by rfl, Odds.gen_free (by decide +kernel)⟩ h (fun M => Odds.elt_whole T.W M rfl (by decide +kernel) (by decide +kernel) (Odds.room_lim hr)) (fun _ => rfl))) (fun _ => rfl))) (rss_one (rs_ret re_bl)) rss_nil)
    (rss_cons (rs_asg (re_var (pv 0)) (rg_tup (by rfl) (rgs_cons (rg_name (pg_name (i := 2) sc_is_equation.nd rfl (Or.inl rfl))) (rgs_cons (rg_name (pg_name (i := 3) sc_is_equation.nd rfl (Or.inl rfl))) (rgs_cons (rg_name (pg_name (i := 4) sc_is_equation.nd rfl (Or.inl rfl))) rgs_nil)))))
    (rss_cons (rs_if (rt_of (rw_or (rt_cmp op_le opm_le (nomark _) (re_var (pv 4)) re_int) (rw_or1 (rt_cmp (opr_ne hr.units) opm_ne (nomark _) (re_cb (fun h => pe_callBfun Odds.cr_gcd3 (by rfl) T.gcd h) cam_gcd3 (ra_cons (re_var (pv 2)) (ra_cons (re_var (pv 3)) (ra_cons (re_var (pv 4)) ra_nil)))) re_int)))) (rss_one (rs_ret re_bl)) rss_nil)
    (rss_cons (rs_set (i := 5) (re_call (ok_discriminant T) (hr.mono (by omega)) rfl T.D_discriminant.g T.D_discriminant.F.kp T.D_discriminant.b (takes_of rfl rfl rfl rfl) (ra_cons (re_var (pv 0)) ra_nil)) (fun h => ps_set (i := 5) sc_is_equation.nd rfl (Or.inl rfl) h))
    (rss_one (rs_ret (re_and (re_cmp op_gt opm_gt (nomark _) (re_var (pv 5)) re_int) (re_one (re_call (ok_is_field T) (hr.mono (by omega)) rfl T.D_is_field.g T.D_is_field.F.kp T.D_is_field.b (takes_of rfl rfl rfl rfl) (ra_cons (re_var (pv 5)) ra_nil)))))))))))
theorem ok_is_number (T : Txt K mg) (TB : GxR.TabB base mg T.c_tab T.P_tab) : FnOk P w K mg base (L2.CX P w) 4 T.f_is_number T.fd_is_number ["x"] (spM K T.g 1 m_is_number) := by
  refine fn_m rfl T.D_is_number.F sc_is_number rfl (fun cdv A outer s H E hr => ?_)
  exact (rss_cons (rs_if (rt_of (rw_or (rt_not (rt_val (re_isi (T := "tuple") (by decide) (re_var (pv 0)) (pe_bltn (v := .ty "tuple") (by rfl) T.tuple PyProof.Rows.boot_tuple rfl) (fun h => pe_callB call_isi (by rfl) T.isinstance PyProof.Rows.boot_isinstance h)) (fun _ => rfl))) (rw_or (rt_cmp (opr_eq hr.units) opm_eq (nomark _) (re_cb (fun h => pe_callB call_len (by rfl) T.len PySem.boot_len h) cam_len (ra_cons (re_var (pv 0)) ra_nil)) re_int) (rw_or1 (rt_not (rt_val (re_isi (T := "str") (by decide) (re_ix (re_var (pv 0)) re_int (fun _ _ => rfl)) (pe_bltn (v := .ty "str") (by rfl) T.str PyProof.Rows.boot_str rfl) (fun h => pe_callB call_isi (by rfl) T.isinstance PyProof.Rows.boot_isinstance h)) (fun _ => rfl))))))) (rss_one (rs_ret re_bl)) rss_nil)
    (rss_cons (rs_if (rt_cmp (opr_eq hr.units) opm_eq (nomark _) (re_ix (re_var (pv 0)) re_int (fun _ _ => rfl)) re_str) (rss_one (rs_ret (re_and (re_cmp (opr_eq hr.units) opm_eq (nomark _) (re_cb (fun h => pe_callB call_len (by rfl) T.len PySem.boot_len h) cam_len (ra_cons (re_var (pv 0)) ra_nil)) re_int) (re_one (re_call (ok_is_rational T) (hr.mono (by omega)) rfl T.D_is_rational.g T.D_is_rational.F.kp T.D_is_rational.b (takes_of rfl rfl rfl rfl) (ra_cons (re_ix (re_var (pv 0)) re_int (fun _ _ => rfl)) ra_nil)))))) rss_nil)
    (rss_one (rs_ret (re_and (re_cmp (opr_eq hr.units) opm_eq (nomark _) (re_ix (re_var (pv 0)) re_int (fun _ _ => rfl)) re_str) (re_and (re_cmp (opr_eq hr.units) opm_eq (nomark _) (re_cb (fun h => pe_callB call_len (by rfl) T.len PySem.boot_len h) cam_len (ra_cons (re_var (pv 0)) ra_nil)) re_int) (re_and (re_call (ok_is_equation T TB) (hr.mono (by omega)) rfl T.D_is_equation.g T.D_is_equation.F.kp T.D_is_equation.b (takes_of rfl rfl rfl rfl) (ra_cons (re_ix (re_var (pv 0)) re_int (fun _ _ => rfl)) ra_nil)) (re_one (re_call (ok_is_index T) (hr.mono (by omega)) rfl T.D_is_index.g T.D_is_index.F.kp T.D_is_index.b (takes_of rfl rfl rfl rfl) (ra_cons (re_ix (re_var (pv 0)) re_int (fun _ _ => rfl)) (ra_cons re_int ra_nil)))))))))))
theorem ok_check_number (T : Txt K mg) (TB : GxR.TabB base mg T.c_tab T.P_tab) : FnOk P w K mg base (L2.CX P w) 5 T.f_check_number T.fd_check_number ["value", "name"] (spM K T.g 2 m_check_number) := by
  refine fn_m rfl T.D_check_number.F sc_check_number rfl (fun cdv A outer s H E hr => ?_)
  exact (rss_one (rs_if (rt_not (rt_val (re_call (ok_is_number T TB) (hr.mono (by omega)) rfl T.D_is_number.g T.D_is_number.F.kp T.D_is_number.b (takes_of rfl rfl rfl rfl) (ra_cons (re_var (pv 0)) ra_nil)) (fun _ => rfl))) (rss_one (rs_raise (ns := ["name"]) rfl (takes_of rfl rfl rfl rfl) T.e_BadValue (by decide) (fun h => pmk_oex T.O_BadValue T.iC_BadValue T.tI_BadValue T.ini_BadValue (hr.mono (by omega)) T.bI_BadValue .nil pass0 rfl T.g_BadValue h) (ra_cons (re_var (pv 1)) ra_nil))) rss_nil))
theorem ok_ratio (T : Txt K mg) : FnOk P w K mg base (L2.CX P w) 3 T.f_ratio T.fd_ratio ["n", "d"] (spM K T.g 2 m_ratio) := by
  refine fn_m rfl T.D_ratio.F sc_ratio rfl (fun cdv A outer s H E hr => ?_)
  exact (rss_cons (rs_if (rt_cmp (opr_eq hr.units) opm_eq (nomark _) (re_var (pv 1)) re_int) (rss_one (rs_raise (ns := ["name"]) rfl (takes_of rfl rfl rfl rfl) T.e_BadValue (by decide) (fun h => pmk_oex T.O_BadValue T.iC_BadValue T.tI_BadValue T.ini_BadValue (hr.mono (by omega)) T.bI_BadValue .nil pass0 rfl T.g_BadValue h) (ra_cons re_str ra_nil))) rss_nil)
    (rss_cons (rs_set (i := 2) (re_cb (fun h => pe_callBfun cr_gcd (by rfl) T.gcd h) cam_gcd (ra_cons (re_var (pv 0)) (ra_cons (re_var (pv 1)) ra_nil))) (fun h => ps_set (i := 2) sc_ratio.nd rfl (Or.inl rfl) h))
    (rss_cons (rs_if (rt_cmp op_lt opm_lt (nomark _) (re_var (pv 1)) re_int) (rss_one (rs_set (i := 2) (re_neg (re_var (pv 2))) (fun h => ps_set (i := 2) sc_ratio.nd rfl (Or.inl rfl) h))) rss_nil)
    (rss_one (rs_ret (re_tup (ra_cons (re_op opr_fdiv opm_fdiv (re_var (pv 0)) (re_var (pv 2))) (ra_cons (re_op opr_fdiv opm_fdiv (re_var (pv 1)) (re_var (pv 2))) ra_nil)) (by decide) (len_cons (len_cons len_nil))))))))
theorem ok_element_of (T : Txt K mg) (TB : GxR.TabB base mg T.c_tab T.P_tab) : FnOk P w K mg base (L2.CX P w) 6 T.f_element_of T.fd_element_of ["number"] (spM K T.g 1 m_element_of) := by
  refine fn_m rfl T.D_element_of.F sc_element_of rfl (fun cdv A outer s H E hr => ?_)
  exact (rss_cons (rs_expr (re_call (ok_check_number T TB) (hr.mono (by omega)) rfl T.D_check_number.g T.D_check_number.F.kp T.D_check_number.b (takes_of rfl rfl rfl rfl) (ra_cons (re_var (pv 0)) (ra_cons re_str ra_nil))))
    (rss_cons (rs_if (rt_cmp (opr_eq hr.units) opm_eq (nomark _) (re_ix (re_var (pv 0)) re_int (fun _ _ => rfl)) re_str) (rss_one (rs_ret (re_tup (ra_cons re_int (ra_cons (re_tup (ra_cons (re_ix (re_var (pv 0)) re_int (fun _ _ => rfl)) (ra_cons (re_c (pe_glob (v := T.v_ZERO) rfl T.g_ZERO T.r_ZERO) (fun α H => T.d_ZERO α H)) ra_nil)) (by decide) (len_cons (len_cons len_nil))) ra_nil)) (by decide) (len_cons (len_cons len_nil))))) rss_nil)
    (rss_cons (rs_asg (re_ix (re_var (pv 0)) re_int (fun _ _ => rfl)) (rg_tup (by rfl) (rgs_cons (rg_name (pg_name (i := 1) sc_element_of.nd rfl (Or.inl rfl))) (rgs_cons (rg_name (pg_name (i := 2) sc_element_of.nd rfl (Or.inl rfl))) (rgs_cons (rg_name (pg_name (i := 3) sc_element_of.nd rfl (Or.inl rfl))) rgs_nil)))))
    (rss_cons (rs_set (i := 4) (re_if (rt_cmp (opr_eq hr.units) opm_eq (nomark _) (re_ix (re_var (pv 0)) re_int (fun _ _ => rfl)) re_int) re_int (re_neg re_int)) (fun h => ps_set (i := 4) sc_element_of.nd rfl (Or.inl rfl) h))
    (rss_one (rs_ret (re_tup (ra_cons (re_call (ok_discriminant T) (hr.mono (by omega)) rfl T.D_discriminant.g T.D_discriminant.F.kp T.D_discriminant.b (takes_of rfl rfl rfl rfl) (ra_cons (re_ix (re_var (pv 0)) re_int (fun _ _ => rfl)) ra_nil)) (ra_cons (re_tup (ra_cons (re_call (ok_ratio T) (hr.mono (by omega)) rfl T.D_ratio.g T.D_ratio.F.kp T.D_ratio.b (takes_of rfl rfl rfl rfl) (ra_cons (re_neg (re_var (pv 2))) (ra_cons (re_op opr_mul opm_mul re_int (re_var (pv 3))) ra_nil))) (ra_cons (re_call (ok_ratio T) (hr.mono (by omega)) rfl T.D_ratio.g T.D_ratio.F.kp T.D_ratio.b (takes_of rfl rfl rfl rfl) (ra_cons (re_var (pv 4)) (ra_cons (re_op opr_mul opm_mul re_int (re_var (pv 3))) ra_nil))) ra_nil)) (by decide) (len_cons (len_cons len_nil))) ra_nil)) (by decide) (len_cons (len_cons len_nil)))))))))
theorem ok_times (T : Txt K mg) : FnOk P w K mg base (L2.CX P w) 1 T.f_times T.fd_times ["a", "b"] (spM K T.g 2 m_times) := by
  refine fn_m rfl T.D_times.F sc_times rfl (fun cdv A outer s H E hr => ?_)
  exact (rss_cons (rs_set (i := 2) (re_cb (fun h => pe_callBfun cr_gcd (by rfl) T.gcd h) cam_gcd (ra_cons (re_ix (re_var (pv 0)) re_int (fun _ _ => rfl)) (ra_cons (re_ix (re_var (pv 1)) re_int (fun _ _ => rfl)) ra_nil))) (fun h => ps_set (i := 2) sc_times.nd rfl (Or.inl rfl) h))
    (rss_cons (rs_set (i := 3) (re_cb (fun h => pe_callBfun cr_gcd (by rfl) T.gcd h) cam_gcd (ra_cons (re_ix (re_var (pv 1)) re_int (fun _ _ => rfl)) (ra_cons (re_ix (re_var (pv 0)) re_int (fun _ _ => rfl)) ra_nil))) (fun h => ps_set (i := 3) sc_times.nd rfl (Or.inl rfl) h))
    (rss_one (rs_ret (re_tup (ra_cons (re_op opr_mul opm_mul (re_op opr_fdiv opm_fdiv (re_ix (re_var (pv 0)) re_int (fun _ _ => rfl)) (re_var (pv 2))) (re_op opr_fdiv opm_fdiv (re_ix (re_var (pv 1)) re_int (fun _ _ => rfl)) (re_var (pv 3)))) (ra_cons (re_op opr_mul opm_mul (re_op opr_fdiv opm_fdiv (re_ix (re_var (pv 0)) re_int (fun _ _ => rfl)) (re_var (pv 3))) (re_op opr_fdiv opm_fdiv (re_ix (re_var (pv 1)) re_int (fun _ _ => rfl)) (re_var (pv 2)))) ra_nil)) (by decide) (len_cons (len_cons len_nil)))))))
theorem ok_whole_sign (T : Txt K mg) : FnOk P w K mg base (L2.CX P w) 1 T.f_whole_sign T.fd_whole_sign ["n"] (spM K T.g 1 m_whole_sign) := by
  refine fn_m rfl T.D_whole_sign.F sc_whole_sign rfl (fun cdv A outer s H E hr => ?_)
  exact (rss_cons (rs_if (rt_cmp (opr_eq hr.units) opm_eq (nomark _) (re_var (pv 0)) re_int) (rss_one (rs_ret re_int)) rss_nil)
    (rss_one (rs_ret (re_if (rt_cmp op_gt opm_gt (nomark _) (re_var (pv 0)) re_int) re_int (re_neg re_int)))))
theorem ok_rational_sign (T : Txt K mg) : FnOk P w K mg base (L2.CX P w) 2 T.f_rational_sign T.fd_rational_sign ["a"] (spM K T.g 1 m_rational_sign) := by
  refine fn_m rfl T.D_rational_sign.F sc_rational_sign rfl (fun cdv A outer s H E hr => ?_)
  exact (rss_one (rs_ret (re_call (ok_whole_sign T) (hr.mono (by omega)) rfl T.D_whole_sign.g T.D_whole_sign.F.kp T.D_whole_sign.b (takes_of rfl rfl rfl rfl) (ra_cons (re_ix (re_var (pv 0)) re_int (fun _ _ => rfl)) ra_nil))))
theorem ok_multiply (T : Txt K mg) : FnOk P w K mg base (L2.CX P w) 2 T.f_multiply T.fd_multiply ["field", "a", "b"] (spM K T.g 3 m_multiply) := by
  refine fn_m rfl T.D_multiply.F sc_multiply rfl (fun cdv A outer s H E hr => ?_)
  exact (rss_cons (rs_if (rt_cmp (opr_eq hr.units) opm_eq (nomark _) (re_ix (re_var (pv 2)) re_int (fun _ _ => rfl)) (re_c (pe_glob (v := T.v_ZERO) rfl T.g_ZERO T.r_ZERO) (fun α H => T.d_ZERO α H))) (rss_one (rs_ret (re_tup (ra_cons (re_call (ok_times T) (hr.mono (by omega)) rfl T.D_times.g T.D_times.F.kp T.D_times.b (takes_of rfl rfl rfl rfl) (ra_cons (re_ix (re_var (pv 1)) re_int (fun _ _ => rfl)) (ra_cons (re_ix (re_var (pv 2)) re_int (fun _ _ => rfl)) ra_nil))) (ra_cons (re_call (ok_times T) (hr.mono (by omega)) rfl T.D_times.g T.D_times.F.kp T.D_times.b (takes_of rfl rfl rfl rfl) (ra_cons (re_ix (re_var (pv 1)) re_int (fun _ _ => rfl)) (ra_cons (re_ix (re_var (pv 2)) re_int (fun _ _ => rfl)) ra_nil))) ra_nil)) (by decide) (len_cons (len_cons len_nil))))) rss_nil)
    (rss_cons (rs_set (i := 3) (re_call (ok_times T) (hr.mono (by omega)) rfl T.D_times.g T.D_times.F.kp T.D_times.b (takes_of rfl rfl rfl rfl) (ra_cons (re_ix (re_var (pv 1)) re_int (fun _ _ => rfl)) (ra_cons (re_ix (re_var (pv 2)) re_int (fun _ _ => rfl)) ra_nil))) (fun h => ps_set (i := 3) sc_multiply.nd rfl (Or.inl rfl) h))
    (rss_cons (rs_set (i := 4) (re_call (ok_times T) (hr.mono (by omega)) rfl T.D_times.g T.D_times.F.kp T.D_times.b (takes_of rfl rfl rfl rfl) (ra_cons (re_tup (ra_cons (re_var (pv 0)) (ra_cons re_int ra_nil)) (by decide) (len_cons (len_cons len_nil))) (ra_cons (re_call (ok_times T) (hr.mono (by omega)) rfl T.D_times.g T.D_times.F.kp T.D_times.b (takes_of rfl rfl rfl rfl) (ra_cons (re_ix (re_var (pv 1)) re_int (fun _ _ => rfl)) (ra_cons (re_ix (re_var (pv 2)) re_int (fun _ _ => rfl)) ra_nil))) ra_nil))) (fun h => ps_set (i := 4) sc_multiply.nd rfl (Or.inl rfl) h))
    (rss_one (rs_ret (re_tup (ra_cons (re_call (ok_plus T) (hr.mono (by omega)) rfl T.D_plus.g T.D_plus.F.kp T.D_plus.b (takes_of rfl rfl rfl rfl) (ra_cons (re_var (pv 3)) (ra_cons (re_var (pv 4)) ra_nil))) (ra_cons (re_call (ok_plus T) (hr.mono (by omega)) rfl T.D_plus.g T.D_plus.F.kp T.D_plus.b (takes_of rfl rfl rfl rfl) (ra_cons (re_call (ok_times T) (hr.mono (by omega)) rfl T.D_times.g T.D_times.F.kp T.D_times.b (takes_of rfl rfl rfl rfl) (ra_cons (re_ix (re_var (pv 1)) re_int (fun _ _ => rfl)) (ra_cons (re_ix (re_var (pv 2)) re_int (fun _ _ => rfl)) ra_nil))) (ra_cons (re_call (ok_times T) (hr.mono (by omega)) rfl T.D_times.g T.D_times.F.kp T.D_times.b (takes_of rfl rfl rfl rfl) (ra_cons (re_ix (re_var (pv 1)) re_int (fun _ _ => rfl)) (ra_cons (re_ix (re_var (pv 2)) re_int (fun _ _ => rfl)) ra_nil))) ra_nil))) ra_nil)) (by decide) (len_cons (len_cons len_nil))))))))
theorem ok_loosened (T : Txt K mg) : FnOk P w K mg base (L2.CX P w) 1 T.f_loosened T.fd_loosened ["element"] (spM K T.g 1 m_loosened) := by
  refine fn_m rfl T.D_loosened.F sc_loosened rfl (fun cdv A outer s H E hr => ?_)
  exact (rss_cons (rs_asg (re_var (pv 0)) (rg_tup (by rfl) (rgs_cons (rg_tup (by rfl) (rgs_cons (rg_name (pg_name (i := 1) sc_loosened.nd rfl (Or.inl rfl))) (rgs_cons (rg_name (pg_name (i := 2) sc_loosened.nd rfl (Or.inl rfl))) rgs_nil))) (rgs_cons (rg_tup (by rfl) (rgs_cons (rg_name (pg_name (i := 3) sc_loosened.nd rfl (Or.inl rfl))) (rgs_cons (rg_name (pg_name (i := 4) sc_loosened.nd rfl (Or.inl rfl))) rgs_nil))) rgs_nil))))
    (rss_cons (rs_if (rt_cmp (opr_eq hr.units) opm_eq (nomark _) (re_var (pv 2)) (re_var (pv 4))) (rss_one (rs_ret (re_tup (ra_cons (re_var (pv 1)) (ra_cons (re_var (pv 3)) (ra_cons (re_var (pv 2)) ra_nil))) (by decide) (len_cons (len_cons (len_cons len_nil)))))) rss_nil)
    (rss_cons (rs_set (i := 5) (re_cb (fun h => pe_callBfun Odds.cr_lcm (by rfl) T.lcm h) cam_lcm (ra_cons (re_var (pv 2)) (ra_cons (re_var (pv 4)) ra_nil))) (fun h => ps_set (i := 5) sc_loosened.nd rfl (Or.inl rfl) h))
    (rss_one (rs_ret (re_tup (ra_cons (re_op opr_mul opm_mul (re_var (pv 1)) (re_op opr_fdiv opm_fdiv (re_var (pv 5)) (re_var (pv 2)))) (ra_cons (re_op opr_mul opm_mul (re_var (pv 3)) (re_op opr_fdiv opm_fdiv (re_var (pv 5)) (re_var (pv 4)))) (ra_cons (re_var (pv 5)) ra_nil))) (by decide) (len_cons (len_cons (len_cons len_nil)))))))))
theorem ok_loose_sign (T : Txt K mg) : FnOk P w K mg base (L2.CX P w) 2 T.f_loose_sign T.fd_loose_sign ["field", "a"] (spM K T.g 2 m_loose_sign) := by
  refine fn_m rfl T.D_loose_sign.F sc_loose_sign rfl (fun cdv A outer s H E hr => ?_)
  exact (rss_cons (rs_set (i := 2) (re_call (ok_whole_sign T) (hr.mono (by omega)) rfl T.D_whole_sign.g T.D_whole_sign.F.kp T.D_whole_sign.b (takes_of rfl rfl rfl rfl) (ra_cons (re_ix (re_var (pv 1)) re_int (fun _ _ => rfl)) ra_nil)) (fun h => ps_set (i := 2) sc_loose_sign.nd rfl (Or.inl rfl) h))
    (rss_cons (rs_set (i := 3) (re_call (ok_whole_sign T) (hr.mono (by omega)) rfl T.D_whole_sign.g T.D_whole_sign.F.kp T.D_whole_sign.b (takes_of rfl rfl rfl rfl) (ra_cons (re_ix (re_var (pv 1)) re_int (fun _ _ => rfl)) ra_nil)) (fun h => ps_set (i := 3) sc_loose_sign.nd rfl (Or.inl rfl) h))
    (rss_cons (rs_if (rt_of (rw_or (rt_cmp (opr_eq hr.units) opm_eq (nomark _) (re_var (pv 3)) re_int) (rw_or1 (rt_cmp (opr_eq hr.units) opm_eq (nomark _) (re_var (pv 2)) (re_var (pv 3)))))) (rss_one (rs_ret (re_var (pv 2)))) rss_nil)
    (rss_cons (rs_if (rt_cmp (opr_eq hr.units) opm_eq (nomark _) (re_var (pv 2)) re_int) (rss_one (rs_ret (re_var (pv 3)))) rss_nil)
    (rss_one (rs_ret (re_op opr_mul opm_mul (re_var (pv 2)) (re_call (ok_whole_sign T) (hr.mono (by omega)) rfl T.D_whole_sign.g T.D_whole_sign.F.kp T.D_whole_sign.b (takes_of rfl rfl rfl rfl) (ra_cons (re_op op_sub opm_sub (re_op opr_mul opm_mul (re_ix (re_var (pv 1)) re_int (fun _ _ => rfl)) (re_ix (re_var (pv 1)) re_int (fun _ _ => rfl))) (re_op opr_mul opm_mul (re_op opr_mul opm_mul (re_var (pv 0)) (re_ix (re_var (pv 1)) re_int (fun _ _ => rfl))) (re_ix (re_var (pv 1)) re_int (fun _ _ => rfl)))) ra_nil)))))))))
theorem ok_sign_of (T : Txt K mg) : FnOk P w K mg base (L2.CX P w) 3 T.f_sign_of T.fd_sign_of ["field", "a"] (spM K T.g 2 m_sign_of) := by
  refine fn_m rfl T.D_sign_of.F sc_sign_of rfl (fun cdv A outer s H E hr => ?_)
  exact (rss_one (rs_ret (re_call (ok_loose_sign T) (hr.mono (by omega)) rfl T.D_loose_sign.g T.D_loose_sign.F.kp T.D_loose_sign.b (takes_of rfl rfl rfl rfl) (ra_cons (re_var (pv 0)) (ra_cons (re_call (ok_loosened T) (hr.mono (by omega)) rfl T.D_loosened.g T.D_loosened.F.kp T.D_loosened.b (takes_of rfl rfl rfl rfl) (ra_cons (re_var (pv 1)) ra_nil)) ra_nil)))))
theorem ok_compare_with_root (T : Txt K mg) : FnOk P w K mg base (L2.CX P w) 4 T.f_compare_with_root T.fd_compare_with_root ["field", "left", "other_field", "factor"] (spM K T.g 4 m_compare_with_root) := by
  refine fn_m rfl T.D_compare_with_root.F sc_compare_with_root rfl (fun cdv A outer s H E hr => ?_)
  exact (rss_cons (rs_set (i := 4) (re_call (ok_sign_of T) (hr.mono (by omega)) rfl T.D_sign_of.g T.D_sign_of.F.kp T.D_sign_of.b (takes_of rfl rfl rfl rfl) (ra_cons (re_var (pv 0)) (ra_cons (re_var (pv 1)) ra_nil))) (fun h => ps_set (i := 4) sc_compare_with_root.nd rfl (Or.inl rfl) h))
    (rss_cons (rs_set (i := 5) (re_call (ok_rational_sign T) (hr.mono (by omega)) rfl T.D_rational_sign.g T.D_rational_sign.F.kp T.D_rational_sign.b (takes_of rfl rfl rfl rfl) (ra_cons (re_var (pv 3)) ra_nil)) (fun h => ps_set (i := 5) sc_compare_with_root.nd rfl (Or.inl rfl) h))
    (rss_cons (rs_if (rt_cmp (opr_ne hr.units) opm_ne (nomark _) (re_var (pv 4)) (re_var (pv 5))) (rss_one (rs_ret (re_if (rt_cmp op_gt opm_gt (nomark _) (re_var (pv 4)) (re_var (pv 5))) re_int (re_neg re_int)))) rss_nil)
    (rss_cons (rs_set (i := 6) (re_call (ok_multiply T) (hr.mono (by omega)) rfl T.D_multiply.g T.D_multiply.F.kp T.D_multiply.b (takes_of rfl rfl rfl rfl) (ra_cons (re_var (pv 0)) (ra_cons (re_var (pv 1)) (ra_cons (re_var (pv 1)) ra_nil)))) (fun h => ps_set (i := 6) sc_compare_with_root.nd rfl (Or.inl rfl) h))
    (rss_cons (rs_set (i := 7) (re_call (ok_times T) (hr.mono (by omega)) rfl T.D_times.g T.D_times.F.kp T.D_times.b (takes_of rfl rfl rfl rfl) (ra_cons (re_tup (ra_cons (re_var (pv 2)) (ra_cons re_int ra_nil)) (by decide) (len_cons (len_cons len_nil))) (ra_cons (re_call (ok_times T) (hr.mono (by omega)) rfl T.D_times.g T.D_times.F.kp T.D_times.b (takes_of rfl rfl rfl rfl) (ra_cons (re_var (pv 3)) (ra_cons (re_var (pv 3)) ra_nil))) ra_nil))) (fun h => ps_set (i := 7) sc_compare_with_root.nd rfl (Or.inl rfl) h))
    (rss_one (rs_ret (re_op opr_mul opm_mul (re_var (pv 4)) (re_call (ok_sign_of T) (hr.mono (by omega)) rfl T.D_sign_of.g T.D_sign_of.F.kp T.D_sign_of.b (takes_of rfl rfl rfl rfl) (ra_cons (re_var (pv 0)) (ra_cons (re_tup (ra_cons (re_call (ok_minus T) (hr.mono (by omega)) rfl T.D_minus.g T.D_minus.F.kp T.D_minus.b (takes_of rfl rfl rfl rfl) (ra_cons (re_ix (re_var (pv 6)) re_int (fun _ _ => rfl)) (ra_cons (re_var (pv 7)) ra_nil))) (ra_cons (re_ix (re_var (pv 6)) re_int (fun _ _ => rfl)) ra_nil)) (by decide) (len_cons (len_cons len_nil))) ra_nil)))))))))))
theorem ok_compare_numbers (T : Txt K mg) (TB : GxR.TabB base mg T.c_tab T.P_tab) : FnOk P w K mg base (L2.CX P w) 7 T.f_compare_numbers T.fd_compare_numbers ["first", "second"] (spM K T.g 2 m_compare_numbers) := by
  refine fn_m rfl T.D_compare_numbers.F sc_compare_numbers rfl (fun cdv A outer s H E hr => ?_)
  exact (rss_cons (rs_expr (re_call (ok_check_number T TB) (hr.mono (by omega)) rfl T.D_check_number.g T.D_check_number.F.kp T.D_check_number.b (takes_of rfl rfl rfl rfl) (ra_cons (re_var (pv 0)) (ra_cons re_str ra_nil))))
    (rss_cons (rs_expr (re_call (ok_check_number T TB) (hr.mono (by omega)) rfl T.D_check_number.g T.D_check_number.F.kp T.D_check_number.b (takes_of rfl rfl rfl rfl) (ra_cons (re_var (pv 1)) (ra_cons re_str ra_nil))))
    (rss_cons (rs_asg (re_call (ok_element_of T TB) (hr.mono (by omega)) rfl T.D_element_of.g T.D_element_of.F.kp T.D_element_of.b (takes_of rfl rfl rfl rfl) (ra_cons (re_var (pv 0)) ra_nil)) (rg_tup (by rfl) (rgs_cons (rg_name (pg_name (i := 2) sc_compare_numbers.nd rfl (Or.inl rfl))) (rgs_cons (rg_name (pg_name (i := 3) sc_compare_numbers.nd rfl (Or.inl rfl))) rgs_nil))))
    (rss_cons (rs_asg (re_call (ok_element_of T TB) (hr.mono (by omega)) rfl T.D_element_of.g T.D_element_of.F.kp T.D_element_of.b (takes_of rfl rfl rfl rfl) (ra_cons (re_var (pv 1)) ra_nil)) (rg_tup (by rfl) (rgs_cons (rg_name (pg_name (i := 4) sc_compare_numbers.nd rfl (Or.inl rfl))) (rgs_cons (rg_name (pg_name (i := 5) sc_compare_numbers.nd rfl (Or.inl rfl))) rgs_nil))))
    (rss_cons (rs_set (i := 6) (re_tup (ra_cons (re_call (ok_minus T) (hr.mono (by omega)) rfl T.D_minus.g T.D_minus.F.kp T.D_minus.b (takes_of rfl rfl rfl rfl) (ra_cons (re_ix (re_var (pv 3)) re_int (fun _ _ => rfl)) (ra_cons (re_ix (re_var (pv 5)) re_int (fun _ _ => rfl)) ra_nil))) (ra_cons (re_ix (re_var (pv 3)) re_int (fun _ _ => rfl)) ra_nil)) (by decide) (len_cons (len_cons len_nil))) (fun h => ps_set (i := 6) sc_compare_numbers.nd rfl (Or.inl rfl) h))
    (rss_one (rs_ret (re_call (ok_compare_with_root T) (hr.mono (by omega)) rfl T.D_compare_with_root.g T.D_compare_with_root.F.kp T.D_compare_with_root.b (takes_of rfl rfl rfl rfl) (ra_cons (re_var (pv 2)) (ra_cons (re_var (pv 6)) (ra_cons (re_var (pv 4)) (ra_cons (re_ix (re_var (pv 5)) re_int (fun _ _ => rfl)) ra_nil))))))))))))
theorem ok_l_told (T : Txt K mg) (TB : GxR.TabB base mg T.c_tab T.P_tab) : FnOk P w K mg base (L2.CX P w) 8 T.f_l_told T.fd_l_told ["first", "second"] (spM K T.g 2 m_l_told) := by
  refine fn_m rfl T.D_l_told.F sc_l_told rfl (fun cdv A outer s H E hr => ?_)
  exact (rss_one (rs_tryAs (i := 2) rfl rfl rfl sc_l_told.nd rfl rfl ⟨rfl, by decide, Or.inl T.g_BadValue⟩ (takes_of rfl rfl rfl rfl) T.ex_BadValue (fun W pn xe tk hp => (rss_one (rs_ret (re_call (ok_compare_numbers T TB) (hr.mono (by omega)) rfl T.D_compare_numbers.g T.D_compare_numbers.F.kp T.D_compare_numbers.b tk (ra_cons (re_var (pv 0)) (ra_cons (re_var (pv 1)) ra_nil)))))) (fun a oe cls d pn c0 fs hz hf => (rss_one (rs_ret (re_xf T.X_BadValue T.e_BadValue T.no_BadValue_name hz hf (pv 2)))))))
theorem ok_l_near (T : Txt K mg) : FnOk P w K mg base (L2.CX P w) 3 T.f_l_near T.fd_l_near ["stream", "number"] (spM K T.g 2 m_l_near) := by
  refine fn_m rfl T.D_l_near.F sc_l_near rfl (fun cdv A outer s H E hr => ?_)
  exact (rss_cons (rs_set (i := 2) (re_call (ok_l_next T) (hr.mono (by omega)) rfl T.D_l_next.g T.D_l_next.F.kp T.D_l_next.b (takes_of rfl rfl rfl rfl) (ra_cons (re_var (pv 0)) (ra_cons re_int ra_nil))) (fun h => ps_set (i := 2) sc_l_near.nd rfl (Or.inl rfl) h))
    (rss_cons (rs_if (rt_cmp (opr_eq hr.units) opm_eq (nomark _) (re_var (pv 2)) re_int) (rss_one (rs_ret (re_var (pv 1)))) rss_nil)
    (rss_cons (rs_if (rt_of (rw_and (rt_cmp (opr_eq hr.units) opm_eq (nomark _) (re_var (pv 2)) re_int) (rw_and1 (rt_cmp (opr_eq hr.units) opm_eq (nomark _) (re_ix (re_var (pv 1)) re_int (fun _ _ => rfl)) re_str)))) (rss_one (rs_ret (re_tup (ra_cons re_str (ra_cons (re_ix (re_var (pv 1)) re_int (fun _ _ => rfl)) (ra_cons (re_op op_sub opm_sub re_int (re_ix (re_var (pv 1)) re_int (fun _ _ => rfl))) ra_nil))) (by decide) (len_cons (len_cons (len_cons len_nil)))))) rss_nil)
    (rss_cons (rs_set (i := 3) (re_op opr_add opm_add re_int (re_call (ok_l_next T) (hr.mono (by omega)) rfl T.D_l_next.g T.D_l_next.F.kp T.D_l_next.b (takes_of rfl rfl rfl rfl) (ra_cons (re_var (pv 0)) (ra_cons re_int ra_nil)))) (fun h => ps_set (i := 3) sc_l_near.nd rfl (Or.inl rfl) h))
    (rss_cons (rs_set (i := 4) (re_op opr_add opm_add (re_call (ok_l_floor T) (hr.mono (by omega)) rfl T.D_l_floor.g T.D_l_floor.F.kp T.D_l_floor.b (takes_of rfl rfl rfl rfl) (ra_cons (re_var (pv 1)) (ra_cons (re_var (pv 3)) (ra_cons (re_op opr_mul opm_mul (re_neg re_int) (re_var (pv 3))) (ra_cons (re_op opr_mul opm_mul re_int (re_var (pv 3))) ra_nil))))) (re_call (ok_l_next T) (hr.mono (by omega)) rfl T.D_l_next.g T.D_l_next.F.kp T.D_l_next.b (takes_of rfl rfl rfl rfl) (ra_cons (re_var (pv 0)) (ra_cons re_int ra_nil)))) (fun h => ps_set (i := 4) sc_l_near.nd rfl (Or.inl rfl) h))
    (rss_one (rs_ret (re_tup (ra_cons re_str (ra_cons (re_call (ok_l_low T) (hr.mono (by omega)) rfl T.D_l_low.g T.D_l_low.F.kp T.D_l_low.b (takes_of rfl rfl rfl rfl) (ra_cons (re_var (pv 4)) (ra_cons (re_var (pv 3)) ra_nil))) ra_nil)) (by decide) (len_cons (len_cons len_nil))))))))))
theorem ok_law (T : Txt K mg) (TB : GxR.TabB base mg T.c_tab T.P_tab) : FnOk P w K mg base (L2.CX P w) 9 T.f_law T.fd_law ["script"] (spM K T.g 1 m_law) := by
  refine fn_m rfl T.D_law.F sc_law rfl (fun cdv A outer s H E hr => ?_)
  exact (rss_cons (rs_set (i := 1) (re_call (ok_l_stream T) (hr.mono (by omega)) rfl T.D_l_stream.g T.D_l_stream.F.kp T.D_l_stream.b (takes_of rfl rfl rfl rfl) (ra_cons (re_var (pv 0)) ra_nil)) (fun h => ps_set (i := 1) sc_law.nd rfl (Or.inl rfl) h))
    (rss_cons (rs_set (i := 2) (re_call (ok_l_number T) (hr.mono (by omega)) rfl T.D_l_number.g T.D_l_number.F.kp T.D_l_number.b (takes_of rfl rfl rfl rfl) (ra_cons (re_var (pv 1)) ra_nil)) (fun h => ps_set (i := 2) sc_law.nd rfl (Or.inl rfl) h))
    (rss_cons (rs_set (i := 3) (re_call (ok_l_number T) (hr.mono (by omega)) rfl T.D_l_number.g T.D_l_number.F.kp T.D_l_number.b (takes_of rfl rfl rfl rfl) (ra_cons (re_var (pv 1)) ra_nil)) (fun h => ps_set (i := 3) sc_law.nd rfl (Or.inl rfl) h))
    (rss_cons (rs_if (rt_cmp (opr_eq hr.units) opm_eq (nomark _) (re_call (ok_l_next T) (hr.mono (by omega)) rfl T.D_l_next.g T.D_l_next.F.kp T.D_l_next.b (takes_of rfl rfl rfl rfl) (ra_cons (re_var (pv 1)) (ra_cons re_int ra_nil))) re_int) (rss_one (rs_set (i := 3) (re_call (ok_l_near T) (hr.mono (by omega)) rfl T.D_l_near.g T.D_l_near.F.kp T.D_l_near.b (takes_of rfl rfl rfl rfl) (ra_cons (re_var (pv 1)) (ra_cons (re_var (pv 2)) ra_nil))) (fun h => ps_set (i := 3) sc_law.nd rfl (Or.inl rfl) h))) rss_nil)
    (rss_cons (rs_set (i := 4) (re_call (ok_l_compare T) (hr.mono (by omega)) rfl T.D_l_compare.g T.D_l_compare.F.kp T.D_l_compare.b (takes_of rfl rfl rfl rfl) (ra_cons (re_var (pv 2)) (ra_cons (re_var (pv 3)) ra_nil))) (fun h => ps_set (i := 4) sc_law.nd rfl (Or.inl rfl) h))
    (rss_cons (rs_if (rt_not (rt_val (re_call (ok_l_equal T 6) (hr.mono (by omega)) rfl T.D_l_equal.g T.D_l_equal.F.kp T.D_l_equal.b (takes_of rfl rfl rfl rfl) (ra_cons (re_lst (ra_cons (re_call (ok_l_told T TB) (hr.mono (by omega)) rfl T.D_l_told.g T.D_l_told.F.kp T.D_l_told.b (takes_of rfl rfl rfl rfl) (ra_cons (re_var (pv 2)) (ra_cons (re_var (pv 3)) ra_nil))) (ra_cons (re_call (ok_l_told T TB) (hr.mono (by omega)) rfl T.D_l_told.g T.D_l_told.F.kp T.D_l_told.b (takes_of rfl rfl rfl rfl) (ra_cons (re_var (pv 3)) (ra_cons (re_var (pv 2)) ra_nil))) ra_nil)) (by decide) (len_cons (len_cons len_nil))) (ra_cons (re_lst (ra_cons (re_var (pv 4)) (ra_cons (re_op op_sub opm_sub re_int (re_var (pv 4))) ra_nil)) (by decide) (len_cons (len_cons len_nil))) ra_nil))) (fun _ => rfl))) (rss_one (rs_ret re_bl)) rss_nil)
    (rss_cons (rs_set (i := 5) (re_ix (re_lst (ra_cons (re_cb (fun h => pe_callTy call_list_of (by rfl) T.list PyProof.Rows.boot_list h) cam_list (ra_cons (re_var (pv 2)) ra_nil)) (ra_cons re_non (ra_cons (re_tup (ra_cons re_str (ra_cons (re_tup (ra_cons re_int (ra_cons re_int ra_nil)) (by decide) (len_cons (len_cons len_nil))) ra_nil)) (by decide) (len_cons (len_cons len_nil))) (ra_cons re_int ra_nil)))) (by decide) (len_cons (len_cons (len_cons (len_cons len_nil))))) (re_call (ok_l_next T) (hr.mono (by omega)) rfl T.D_l_next.g T.D_l_next.F.kp T.D_l_next.b (takes_of rfl rfl rfl rfl) (ra_cons (re_var (pv 1)) (ra_cons re_int ra_nil))) (fun _ _ => rfl)) (fun h => ps_set (i := 5) sc_law.nd rfl (Or.inl rfl) h))
    (rss_one (rs_ret (re_and (re_cmp (opr_eq hr.units) opm_eq (nomark _) (re_call (ok_l_told T TB) (hr.mono (by omega)) rfl T.D_l_told.g T.D_l_told.F.kp T.D_l_told.b (takes_of rfl rfl rfl rfl) (ra_cons (re_var (pv 5)) (ra_cons (re_var (pv 5)) ra_nil))) re_str) (re_one (re_cmp (opr_eq hr.units) opm_eq (nomark _) (re_call (ok_l_told T TB) (hr.mono (by omega)) rfl T.D_l_told.g T.D_l_told.F.kp T.D_l_told.b (takes_of rfl rfl rfl rfl) (ra_cons (re_var (pv 2)) (ra_cons (re_var (pv 5)) ra_nil))) re_str))))))))))))
end
theorem law_end {K : PySem.W.Frag} (g : Sg) {H : Hp} {a : Addr} {ns : List Int} (hl : ns.length ≤ 63) (ht : ∀ P ∈ g.tabs, GxR.TabG H P) (hS : SqL K H a (ns.map V.int)) :
    spM K g 1 m_law [.ref a] H (fun v _ => v = .bl true) (fun _ _ _ => False) := by
  rcases hS with (h | ⟨o, h⟩) | h
  · obtain ⟨S', e⟩ := law_c ns hl
    refine ⟨[a], [.cell 0], [.lst (ns.map PV.int)], ⟨rfl, by simp, fun n b o h1 h2 => ?_, ht⟩, .cons (.cell rfl) .nil, rfl, ?_⟩
    · cases n with
      | zero => simp at h1 h2; subst h1 h2; exact ⟨_, h, Dens.of_ints ns⟩
      | succ n => simp at h1
    · rw [e]
      intro α' H' v _ _ _ d
      cases d
      rfl
  · obtain ⟨S', e⟩ := law_r ns hl
    refine ⟨[], [.rol (ns.map PV.int)], [], ⟨rfl, by simp, fun n b o h1 h2 => by simp at h1, ht⟩, .cons (.rol (.inl ⟨o, h⟩) (Dens.of_ints ns)) .nil, rfl, ?_⟩
    rw [e]
    intro α' H' v _ _ _ d
    cases d
    rfl
  · obtain ⟨S', e⟩ := law_r ns hl
    refine ⟨[], [.rol (ns.map PV.int)], [], ⟨rfl, by simp, fun n b o h1 h2 => by simp at h1, ht⟩, .cons (.rol (.inr h) (Dens.of_ints ns)) .nil, rfl, ?_⟩
    rw [e]
    intro α' H' v _ _ _ d
    cases d
    rfl
theorem all_mk {l : PySem.W.OpenLaw} {w : World} {K : PySem.W.Frag} {h : Heap} {mg : Str → Option Value} {fa : Addr} (X : K.In h) (G : h.Ns mainGlobals mg) (hfa : mg "law" = some (.ref fa))
    {f0 : Addr} {oc0 kV0 dc0 pm0 cd0 ct0 : Value} {od0 an0 : Option Addr} {sl0 : Array (Option Value)}
    (a0 : PySem.W.nsIn K mainGlobals "_law_stream" = some (some (.ref f0))) (l0 : K.lookup f0 = some ⟨oc0, od0, .func (PySem.W.fnOf "_law_stream" "_law_stream" (defArgs s_l_stream) (defBody s_l_stream) (defScope s_l_stream) .none kV0 dc0 pm0 an0 cd0 ct0), sl0⟩) (c0 : PySem.W.codeIn K cd0 "_law_stream" = true) (k0 : PySem.W.keepIn K (.ref f0) = true)
    {f1 : Addr} {oc1 kV1 dc1 pm1 cd1 ct1 : Value} {od1 an1 : Option Addr} {sl1 : Array (Option Value)}
    (a1 : PySem.W.nsIn K mainGlobals "_law_next" = some (some (.ref f1))) (l1 : K.lookup f1 = some ⟨oc1, od1, .func (PySem.W.fnOf "_law_next" "_law_next" (defArgs s_l_next) (defBody s_l_next) (defScope s_l_next) .none kV1 dc1 pm1 an1 cd1 ct1), sl1⟩) (c1 : PySem.W.codeIn K cd1 "_law_next" = true) (k1 : PySem.W.keepIn K (.ref f1) = true)
    {f2 : Addr} {oc2 kV2 dc2 pm2 cd2 ct2 : Value} {od2 an2 : Option Addr} {sl2 : Array (Option Value)}
    (a2 : PySem.W.nsIn K mainGlobals "_law_is_integer" = some (some (.ref f2))) (l2 : K.lookup f2 = some ⟨oc2, od2, .func (PySem.W.fnOf "_law_is_integer" "_law_is_integer" (defArgs s_l_is_integer) (defBody s_l_is_integer) (defScope s_l_is_integer) .none kV2 dc2 pm2 an2 cd2 ct2), sl2⟩) (c2 : PySem.W.codeIn K cd2 "_law_is_integer" = true) (k2 : PySem.W.keepIn K (.ref f2) = true)
    {f3 : Addr} {oc3 kV3 dc3 pm3 cd3 ct3 : Value} {od3 an3 : Option Addr} {sl3 : Array (Option Value)}
    (a3 : PySem.W.nsIn K mainGlobals "_law_equal" = some (some (.ref f3))) (l3 : K.lookup f3 = some ⟨oc3, od3, .func (PySem.W.fnOf "_law_equal" "_law_equal" (defArgs s_l_equal) (defBody s_l_equal) (defScope s_l_equal) .none kV3 dc3 pm3 an3 cd3 ct3), sl3⟩) (c3 : PySem.W.codeIn K cd3 "_law_equal" = true) (k3 : PySem.W.keepIn K (.ref f3) = true)
    {f4 : Addr} {oc4 kV4 dc4 pm4 cd4 ct4 : Value} {od4 an4 : Option Addr} {sl4 : Array (Option Value)}
    (a4 : PySem.W.nsIn K mainGlobals "_law_gcd" = some (some (.ref f4))) (l4 : K.lookup f4 = some ⟨oc4, od4, .func (PySem.W.fnOf "_law_gcd" "_law_gcd" (defArgs s_l_gcd) (defBody s_l_gcd) (defScope s_l_gcd) .none kV4 dc4 pm4 an4 cd4 ct4), sl4⟩) (c4 : PySem.W.codeIn K cd4 "_law_gcd" = true) (k4 : PySem.W.keepIn K (.ref f4) = true)
    {f5 : Addr} {oc5 kV5 dc5 pm5 cd5 ct5 : Value} {od5 an5 : Option Addr} {sl5 : Array (Option Value)}
    (a5 : PySem.W.nsIn K mainGlobals "_law_low" = some (some (.ref f5))) (l5 : K.lookup f5 = some ⟨oc5, od5, .func (PySem.W.fnOf "_law_low" "_law_low" (defArgs s_l_low) (defBody s_l_low) (defScope s_l_low) .none kV5 dc5 pm5 an5 cd5 ct5), sl5⟩) (c5 : PySem.W.codeIn K cd5 "_law_low" = true) (k5 : PySem.W.keepIn K (.ref f5) = true)
    {f6 : Addr} {oc6 kV6 dc6 pm6 cd6 ct6 : Value} {od6 an6 : Option Addr} {sl6 : Array (Option Value)}
    (a6 : PySem.W.nsIn K mainGlobals "_law_ratio" = some (some (.ref f6))) (l6 : K.lookup f6 = some ⟨oc6, od6, .func (PySem.W.fnOf "_law_ratio" "_law_ratio" (defArgs s_l_ratio) (defBody s_l_ratio) (defScope s_l_ratio) .none kV6 dc6 pm6 an6 cd6 ct6), sl6⟩) (c6 : PySem.W.codeIn K cd6 "_law_ratio" = true) (k6 : PySem.W.keepIn K (.ref f6) = true)
    {f7 : Addr} {oc7 kV7 dc7 pm7 cd7 ct7 : Value} {od7 an7 : Option Addr} {sl7 : Array (Option Value)}
    (a7 : PySem.W.nsIn K mainGlobals "_law_root" = some (some (.ref f7))) (l7 : K.lookup f7 = some ⟨oc7, od7, .func (PySem.W.fnOf "_law_root" "_law_root" (defArgs s_l_root) (defBody s_l_root) (defScope s_l_root) .none kV7 dc7 pm7 an7 cd7 ct7), sl7⟩) (c7 : PySem.W.codeIn K cd7 "_law_root" = true) (k7 : PySem.W.keepIn K (.ref f7) = true)
    {f8 : Addr} {oc8 kV8 dc8 pm8 cd8 ct8 : Value} {od8 an8 : Option Addr} {sl8 : Array (Option Value)}
    (a8 : PySem.W.nsIn K mainGlobals "_law_is_square" = some (some (.ref f8))) (l8 : K.lookup f8 = some ⟨oc8, od8, .func (PySem.W.fnOf "_law_is_square" "_law_is_square" (defArgs s_l_is_square) (defBody s_l_is_square) (defScope s_l_is_square) .none kV8 dc8 pm8 an8 cd8 ct8), sl8⟩) (c8 : PySem.W.codeIn K cd8 "_law_is_square" = true) (k8 : PySem.W.keepIn K (.ref f8) = true)
    {f9 : Addr} {oc9 kV9 dc9 pm9 cd9 ct9 : Value} {od9 an9 : Option Addr} {sl9 : Array (Option Value)}
    (a9 : PySem.W.nsIn K mainGlobals "_law_number" = some (some (.ref f9))) (l9 : K.lookup f9 = some ⟨oc9, od9, .func (PySem.W.fnOf "_law_number" "_law_number" (defArgs s_l_number) (defBody s_l_number) (defScope s_l_number) .none kV9 dc9 pm9 an9 cd9 ct9), sl9⟩) (c9 : PySem.W.codeIn K cd9 "_law_number" = true) (k9 : PySem.W.keepIn K (.ref f9) = true)
    {f10 : Addr} {oc10 kV10 dc10 pm10 cd10 ct10 : Value} {od10 an10 : Option Addr} {sl10 : Array (Option Value)}
    (a10 : PySem.W.nsIn K mainGlobals "_law_beside" = some (some (.ref f10))) (l10 : K.lookup f10 = some ⟨oc10, od10, .func (PySem.W.fnOf "_law_beside" "_law_beside" (defArgs s_l_beside) (defBody s_l_beside) (defScope s_l_beside) .none kV10 dc10 pm10 an10 cd10 ct10), sl10⟩) (c10 : PySem.W.codeIn K cd10 "_law_beside" = true) (k10 : PySem.W.keepIn K (.ref f10) = true)
    {f11 : Addr} {oc11 kV11 dc11 pm11 cd11 ct11 : Value} {od11 an11 : Option Addr} {sl11 : Array (Option Value)}
    (a11 : PySem.W.nsIn K mainGlobals "_law_floor" = some (some (.ref f11))) (l11 : K.lookup f11 = some ⟨oc11, od11, .func (PySem.W.fnOf "_law_floor" "_law_floor" (defArgs s_l_floor) (defBody s_l_floor) (defScope s_l_floor) .none kV11 dc11 pm11 an11 cd11 ct11), sl11⟩) (c11 : PySem.W.codeIn K cd11 "_law_floor" = true) (k11 : PySem.W.keepIn K (.ref f11) = true)
    {f12 : Addr} {oc12 kV12 dc12 pm12 cd12 ct12 : Value} {od12 an12 : Option Addr} {sl12 : Array (Option Value)}
    (a12 : PySem.W.nsIn K mainGlobals "_law_compare" = some (some (.ref f12))) (l12 : K.lookup f12 = some ⟨oc12, od12, .func (PySem.W.fnOf "_law_compare" "_law_compare" (defArgs s_l_compare) (defBody s_l_compare) (defScope s_l_compare) .none kV12 dc12 pm12 an12 cd12 ct12), sl12⟩) (c12 : PySem.W.codeIn K cd12 "_law_compare" = true) (k12 : PySem.W.keepIn K (.ref f12) = true)
    {f13 : Addr} {oc13 kV13 dc13 pm13 cd13 ct13 : Value} {od13 an13 : Option Addr} {sl13 : Array (Option Value)}
    (a13 : PySem.W.nsIn K mainGlobals "plus" = some (some (.ref f13))) (l13 : K.lookup f13 = some ⟨oc13, od13, .func (PySem.W.fnOf "plus" "plus" (defArgs s_plus) (defBody s_plus) (defScope s_plus) .none kV13 dc13 pm13 an13 cd13 ct13), sl13⟩) (c13 : PySem.W.codeIn K cd13 "plus" = true) (k13 : PySem.W.keepIn K (.ref f13) = true)
    {f14 : Addr} {oc14 kV14 dc14 pm14 cd14 ct14 : Value} {od14 an14 : Option Addr} {sl14 : Array (Option Value)}
    (a14 : PySem.W.nsIn K mainGlobals "opposite" = some (some (.ref f14))) (l14 : K.lookup f14 = some ⟨oc14, od14, .func (PySem.W.fnOf "opposite" "opposite" (defArgs s_opposite) (defBody s_opposite) (defScope s_opposite) .none kV14 dc14 pm14 an14 cd14 ct14), sl14⟩) (c14 : PySem.W.codeIn K cd14 "opposite" = true) (k14 : PySem.W.keepIn K (.ref f14) = true)
    {f15 : Addr} {oc15 kV15 dc15 pm15 cd15 ct15 : Value} {od15 an15 : Option Addr} {sl15 : Array (Option Value)}
    (a15 : PySem.W.nsIn K mainGlobals "minus" = some (some (.ref f15))) (l15 : K.lookup f15 = some ⟨oc15, od15, .func (PySem.W.fnOf "minus" "minus" (defArgs s_minus) (defBody s_minus) (defScope s_minus) .none kV15 dc15 pm15 an15 cd15 ct15), sl15⟩) (c15 : PySem.W.codeIn K cd15 "minus" = true) (k15 : PySem.W.keepIn K (.ref f15) = true)
    {f16 : Addr} {oc16 kV16 dc16 pm16 cd16 ct16 : Value} {od16 an16 : Option Addr} {sl16 : Array (Option Value)}
    (a16 : PySem.W.nsIn K mainGlobals "is_whole" = some (some (.ref f16))) (l16 : K.lookup f16 = some ⟨oc16, od16, .func (PySem.W.fnOf "is_whole" "is_whole" (defArgs s_is_whole) (defBody s_is_whole) (defScope s_is_whole) .none kV16 dc16 pm16 an16 cd16 ct16), sl16⟩) (c16 : PySem.W.codeIn K cd16 "is_whole" = true) (k16 : PySem.W.keepIn K (.ref f16) = true)
    {f17 : Addr} {oc17 kV17 dc17 pm17 cd17 ct17 : Value} {od17 an17 : Option Addr} {sl17 : Array (Option Value)}
    (a17 : PySem.W.nsIn K mainGlobals "is_index" = some (some (.ref f17))) (l17 : K.lookup f17 = some ⟨oc17, od17, .func (PySem.W.fnOf "is_index" "is_index" (defArgs s_is_index) (defBody s_is_index) (defScope s_is_index) .none kV17 dc17 pm17 an17 cd17 ct17), sl17⟩) (c17 : PySem.W.codeIn K cd17 "is_index" = true) (k17 : PySem.W.keepIn K (.ref f17) = true)
    {f18 : Addr} {oc18 kV18 dc18 pm18 cd18 ct18 : Value} {od18 an18 : Option Addr} {sl18 : Array (Option Value)}
    (a18 : PySem.W.nsIn K mainGlobals "is_rational" = some (some (.ref f18))) (l18 : K.lookup f18 = some ⟨oc18, od18, .func (PySem.W.fnOf "is_rational" "is_rational" (defArgs s_is_rational) (defBody s_is_rational) (defScope s_is_rational) .none kV18 dc18 pm18 an18 cd18 ct18), sl18⟩) (c18 : PySem.W.codeIn K cd18 "is_rational" = true) (k18 : PySem.W.keepIn K (.ref f18) = true)
    {f19 : Addr} {oc19 kV19 dc19 pm19 cd19 ct19 : Value} {od19 an19 : Option Addr} {sl19 : Array (Option Value)}
    (a19 : PySem.W.nsIn K mainGlobals "square_root" = some (some (.ref f19))) (l19 : K.lookup f19 = some ⟨oc19, od19, .func (PySem.W.fnOf "square_root" "square_root" (defArgs s_square_root) (defBody s_square_root) (defScope s_square_root) .none kV19 dc19 pm19 an19 cd19 ct19), sl19⟩) (c19 : PySem.W.codeIn K cd19 "square_root" = true) (k19 : PySem.W.keepIn K (.ref f19) = true)
    {f20 : Addr} {oc20 kV20 dc20 pm20 cd20 ct20 : Value} {od20 an20 : Option Addr} {sl20 : Array (Option Value)}
    (a20 : PySem.W.nsIn K mainGlobals "is_field" = some (some (.ref f20))) (l20 : K.lookup f20 = some ⟨oc20, od20, .func (PySem.W.fnOf "is_field" "is_field" (defArgs s_is_field) (defBody s_is_field) (defScope s_is_field) .none kV20 dc20 pm20 an20 cd20 ct20), sl20⟩) (c20 : PySem.W.codeIn K cd20 "is_field" = true) (k20 : PySem.W.keepIn K (.ref f20) = true)
    {f21 : Addr} {oc21 kV21 dc21 pm21 cd21 ct21 : Value} {od21 an21 : Option Addr} {sl21 : Array (Option Value)}
    (a21 : PySem.W.nsIn K mainGlobals "discriminant" = some (some (.ref f21))) (l21 : K.lookup f21 = some ⟨oc21, od21, .func (PySem.W.fnOf "discriminant" "discriminant" (defArgs s_discriminant) (defBody s_discriminant) (defScope s_discriminant) .none kV21 dc21 pm21 an21 cd21 ct21), sl21⟩) (c21 : PySem.W.codeIn K cd21 "discriminant" = true) (k21 : PySem.W.keepIn K (.ref f21) = true)
    {f22 : Addr} {oc22 kV22 dc22 pm22 cd22 ct22 : Value} {od22 an22 : Option Addr} {sl22 : Array (Option Value)}
    (a22 : PySem.W.nsIn K mainGlobals "is_equation" = some (some (.ref f22))) (l22 : K.lookup f22 = some ⟨oc22, od22, .func (PySem.W.fnOf "is_equation" "is_equation" (defArgs s_is_equation) (defBody s_is_equation) (defScope s_is_equation) .none kV22 dc22 pm22 an22 cd22 ct22), sl22⟩) (c22 : PySem.W.codeIn K cd22 "is_equation" = true) (k22 : PySem.W.keepIn K (.ref f22) = true)
    {f23 : Addr} {oc23 kV23 dc23 pm23 cd23 ct23 : Value} {od23 an23 : Option Addr} {sl23 : Array (Option Value)}
    (a23 : PySem.W.nsIn K mainGlobals "is_number" = some (some (.ref f23))) (l23 : K.lookup f23 = some ⟨oc23, od23, .func (PySem.W.fnOf "is_number" "is_number" (defArgs s_is_number) (defBody s_is_number) (defScope s_is_number) .none kV23 dc23 pm23 an23 cd23 ct23), sl23⟩) (c23 : PySem.W.codeIn K cd23 "is_number" = true) (k23 : PySem.W.keepIn K (.ref f23) = true)
    {f24 : Addr} {oc24 kV24 dc24 pm24 cd24 ct24 : Value} {od24 an24 : Option Addr} {sl24 : Array (Option Value)}
    (a24 : PySem.W.nsIn K mainGlobals "check_number" = some (some (.ref f24))) (l24 : K.lookup f24 = some ⟨oc24, od24, .func (PySem.W.fnOf "check_number" "check_number" (defArgs s_check_number) (defBody s_check_number) (defScope s_check_number) .none kV24 dc24 pm24 an24 cd24 ct24), sl24⟩) (c24 : PySem.W.codeIn K cd24 "check_number" = true) (k24 : PySem.W.keepIn K (.ref f24) = true)
    {f25 : Addr} {oc25 kV25 dc25 pm25 cd25 ct25 : Value} {od25 an25 : Option Addr} {sl25 : Array (Option Value)}
    (a25 : PySem.W.nsIn K mainGlobals "ratio" = some (some (.ref f25))) (l25 : K.lookup f25 = some ⟨oc25, od25, .func (PySem.W.fnOf "ratio" "ratio" (defArgs s_ratio) (defBody s_ratio) (defScope s_ratio) .none kV25 dc25 pm25 an25 cd25 ct25), sl25⟩) (c25 : PySem.W.codeIn K cd25 "ratio" = true) (k25 : PySem.W.keepIn K (.ref f25) = true)
    {f26 : Addr} {oc26 kV26 dc26 pm26 cd26 ct26 : Value} {od26 an26 : Option Addr} {sl26 : Array (Option Value)}
    (a26 : PySem.W.nsIn K mainGlobals "element_of" = some (some (.ref f26))) (l26 : K.lookup f26 = some ⟨oc26, od26, .func (PySem.W.fnOf "element_of" "element_of" (defArgs s_element_of) (defBody s_element_of) (defScope s_element_of) .none kV26 dc26 pm26 an26 cd26 ct26), sl26⟩) (c26 : PySem.W.codeIn K cd26 "element_of" = true) (k26 : PySem.W.keepIn K (.ref f26) = true)
    {f27 : Addr} {oc27 kV27 dc27 pm27 cd27 ct27 : Value} {od27 an27 : Option Addr} {sl27 : Array (Option Value)}
    (a27 : PySem.W.nsIn K mainGlobals "times" = some (some (.ref f27))) (l27 : K.lookup f27 = some ⟨oc27, od27, .func (PySem.W.fnOf "times" "times" (defArgs s_times) (defBody s_times) (defScope s_times) .none kV27 dc27 pm27 an27 cd27 ct27), sl27⟩) (c27 : PySem.W.codeIn K cd27 "times" = true) (k27 : PySem.W.keepIn K (.ref f27) = true)
    {f28 : Addr} {oc28 kV28 dc28 pm28 cd28 ct28 : Value} {od28 an28 : Option Addr} {sl28 : Array (Option Value)}
    (a28 : PySem.W.nsIn K mainGlobals "whole_sign" = some (some (.ref f28))) (l28 : K.lookup f28 = some ⟨oc28, od28, .func (PySem.W.fnOf "whole_sign" "whole_sign" (defArgs s_whole_sign) (defBody s_whole_sign) (defScope s_whole_sign) .none kV28 dc28 pm28 an28 cd28 ct28), sl28⟩) (c28 : PySem.W.codeIn K cd28 "whole_sign" = true) (k28 : PySem.W.keepIn K (.ref f28) = true)
    {f29 : Addr} {oc29 kV29 dc29 pm29 cd29 ct29 : Value} {od29 an29 : Option Addr} {sl29 : Array (Option Value)}
    (a29 : PySem.W.nsIn K mainGlobals "rational_sign" = some (some (.ref f29))) (l29 : K.lookup f29 = some ⟨oc29, od29, .func (PySem.W.fnOf "rational_sign" "rational_sign" (defArgs s_rational_sign) (defBody s_rational_sign) (defScope s_rational_sign) .none kV29 dc29 pm29 an29 cd29 ct29), sl29⟩) (c29 : PySem.W.codeIn K cd29 "rational_sign" = true) (k29 : PySem.W.keepIn K (.ref f29) = true)
    {f30 : Addr} {oc30 kV30 dc30 pm30 cd30 ct30 : Value} {od30 an30 : Option Addr} {sl30 : Array (Option Value)}
    (a30 : PySem.W.nsIn K mainGlobals "multiply" = some (some (.ref f30))) (l30 : K.lookup f30 = some ⟨oc30, od30, .func (PySem.W.fnOf "multiply" "multiply" (defArgs s_multiply) (defBody s_multiply) (defScope s_multiply) .none kV30 dc30 pm30 an30 cd30 ct30), sl30⟩) (c30 : PySem.W.codeIn K cd30 "multiply" = true) (k30 : PySem.W.keepIn K (.ref f30) = true)
    {f31 : Addr} {oc31 kV31 dc31 pm31 cd31 ct31 : Value} {od31 an31 : Option Addr} {sl31 : Array (Option Value)}
    (a31 : PySem.W.nsIn K mainGlobals "loosened" = some (some (.ref f31))) (l31 : K.lookup f31 = some ⟨oc31, od31, .func (PySem.W.fnOf "loosened" "loosened" (defArgs s_loosened) (defBody s_loosened) (defScope s_loosened) .none kV31 dc31 pm31 an31 cd31 ct31), sl31⟩) (c31 : PySem.W.codeIn K cd31 "loosened" = true) (k31 : PySem.W.keepIn K (.ref f31) = true)
    {f32 : Addr} {oc32 kV32 dc32 pm32 cd32 ct32 : Value} {od32 an32 : Option Addr} {sl32 : Array (Option Value)}
    (a32 : PySem.W.nsIn K mainGlobals "loose_sign" = some (some (.ref f32))) (l32 : K.lookup f32 = some ⟨oc32, od32, .func (PySem.W.fnOf "loose_sign" "loose_sign" (defArgs s_loose_sign) (defBody s_loose_sign) (defScope s_loose_sign) .none kV32 dc32 pm32 an32 cd32 ct32), sl32⟩) (c32 : PySem.W.codeIn K cd32 "loose_sign" = true) (k32 : PySem.W.keepIn K (.ref f32) = true)
    {f33 : Addr} {oc33 kV33 dc33 pm33 cd33 ct33 : Value} {od33 an33 : Option Addr} {sl33 : Array (Option Value)}
    (a33 : PySem.W.nsIn K mainGlobals "sign_of" = some (some (.ref f33))) (l33 : K.lookup f33 = some ⟨oc33, od33, .func (PySem.W.fnOf "sign_of" "sign_of" (defArgs s_sign_of) (defBody s_sign_of) (defScope s_sign_of) .none kV33 dc33 pm33 an33 cd33 ct33), sl33⟩) (c33 : PySem.W.codeIn K cd33 "sign_of" = true) (k33 : PySem.W.keepIn K (.ref f33) = true)
    {f34 : Addr} {oc34 kV34 dc34 pm34 cd34 ct34 : Value} {od34 an34 : Option Addr} {sl34 : Array (Option Value)}
    (a34 : PySem.W.nsIn K mainGlobals "compare_with_root" = some (some (.ref f34))) (l34 : K.lookup f34 = some ⟨oc34, od34, .func (PySem.W.fnOf "compare_with_root" "compare_with_root" (defArgs s_compare_with_root) (defBody s_compare_with_root) (defScope s_compare_with_root) .none kV34 dc34 pm34 an34 cd34 ct34), sl34⟩) (c34 : PySem.W.codeIn K cd34 "compare_with_root" = true) (k34 : PySem.W.keepIn K (.ref f34) = true)
    {f35 : Addr} {oc35 kV35 dc35 pm35 cd35 ct35 : Value} {od35 an35 : Option Addr} {sl35 : Array (Option Value)}
    (a35 : PySem.W.nsIn K mainGlobals "compare_numbers" = some (some (.ref f35))) (l35 : K.lookup f35 = some ⟨oc35, od35, .func (PySem.W.fnOf "compare_numbers" "compare_numbers" (defArgs s_compare_numbers) (defBody s_compare_numbers) (defScope s_compare_numbers) .none kV35 dc35 pm35 an35 cd35 ct35), sl35⟩) (c35 : PySem.W.codeIn K cd35 "compare_numbers" = true) (k35 : PySem.W.keepIn K (.ref f35) = true)
    {f36 : Addr} {oc36 kV36 dc36 pm36 cd36 ct36 : Value} {od36 an36 : Option Addr} {sl36 : Array (Option Value)}
    (a36 : PySem.W.nsIn K mainGlobals "_law_told" = some (some (.ref f36))) (l36 : K.lookup f36 = some ⟨oc36, od36, .func (PySem.W.fnOf "_law_told" "_law_told" (defArgs s_l_told) (defBody s_l_told) (defScope s_l_told) .none kV36 dc36 pm36 an36 cd36 ct36), sl36⟩) (c36 : PySem.W.codeIn K cd36 "_law_told" = true) (k36 : PySem.W.keepIn K (.ref f36) = true)
    {f37 : Addr} {oc37 kV37 dc37 pm37 cd37 ct37 : Value} {od37 an37 : Option Addr} {sl37 : Array (Option Value)}
    (a37 : PySem.W.nsIn K mainGlobals "_law_near" = some (some (.ref f37))) (l37 : K.lookup f37 = some ⟨oc37, od37, .func (PySem.W.fnOf "_law_near" "_law_near" (defArgs s_l_near) (defBody s_l_near) (defScope s_l_near) .none kV37 dc37 pm37 an37 cd37 ct37), sl37⟩) (c37 : PySem.W.codeIn K cd37 "_law_near" = true) (k37 : PySem.W.keepIn K (.ref f37) = true)
    {f38 : Addr} {oc38 kV38 dc38 pm38 cd38 ct38 : Value} {od38 an38 : Option Addr} {sl38 : Array (Option Value)}
    (a38 : PySem.W.nsIn K mainGlobals "law" = some (some (.ref f38))) (l38 : K.lookup f38 = some ⟨oc38, od38, .func (PySem.W.fnOf "law" "law" (defArgs s_law) (defBody s_law) (defScope s_law) .none kV38 dc38 pm38 an38 cd38 ct38), sl38⟩) (c38 : PySem.W.codeIn K cd38 "law" = true) (k38 : PySem.W.keepIn K (.ref f38) = true)
    (z_abs : PySem.W.nsIn K mainGlobals "abs" = some none)
    (z_all : PySem.W.nsIn K mainGlobals "all" = some none)
    (z_bool : PySem.W.nsIn K mainGlobals "bool" = some none)
    (z_int : PySem.W.nsIn K mainGlobals "int" = some none)
    (z_isinstance : PySem.W.nsIn K mainGlobals "isinstance" = some none)
    (z_len : PySem.W.nsIn K mainGlobals "len" = some none)
    (z_list : PySem.W.nsIn K mainGlobals "list" = some none)
    (z_range : PySem.W.nsIn K mainGlobals "range" = some none)
    (z_str : PySem.W.nsIn K mainGlobals "str" = some none)
    (z_tuple : PySem.W.nsIn K mainGlobals "tuple" = some none)
    (z_gcd : PySem.W.nsIn K mainGlobals "gcd" = some (some (.builtin "math.gcd")))
    (z_isqrt : PySem.W.nsIn K mainGlobals "isqrt" = some (some (.builtin "math.isqrt")))
    (z_lcm : PySem.W.nsIn K mainGlobals "lcm" = some (some (.builtin "math.lcm")))
    {q_ZERO_1 : Addr} {q_ZERO_1_d : Option Addr} {q_ZERO_1_n : Nat} {q_ZERO_1_s : Array (Option Value)} {tk_ZERO_2 : Tok} {tk_ZERO_3 : Tok} (q_ZERO_1_l : K.lookup q_ZERO_1 = some ⟨.type "tuple", q_ZERO_1_d, .seq #[.int (0) tk_ZERO_2, .int (1) tk_ZERO_3] q_ZERO_1_n, q_ZERO_1_s⟩)
     (z_ZERO : PySem.W.nsIn K mainGlobals "ZERO" = some (some (.ref q_ZERO_1)))
    {cOdds : Addr} (xO : PySem.W.nsIn K mainGlobals "OddsError" = some (some (.ref cOdds))) (w4 : PySem.W.isClsIn K cOdds = true) (w5 : PySem.W.typeIn K (.ref cOdds) = some (.type "type")) (w6 : PySem.W.subIn K (.ref cOdds) (.type "BaseException") = some true) (w7 : PySem.W.hasDictIn K cOdds = true)
    (y7 : PySem.W.specialIn K (.builtin "object.__class__") "__get__" = some (some (.builtin "getset_descriptor.__get__"))) (y8 : PySem.W.takesIn K (.builtin "object.__class__") = some true)
    {cBadValue : Addr}
    {fIBadValue : Addr} {ocIBadValue kVIBadValue dcIBadValue pmIBadValue cdIBadValue ctIBadValue : Value} {odIBadValue anIBadValue : Option Addr} {slIBadValue : Array (Option Value)} {nmBadValue qBadValue : Str} {NBadValue : Addr} {bsBadValue : List Value} {snBadValue : List Str} {subBadValue : List Value} {abBadValue : Bool} {colBadValue : Option Bool} {ddBadValue : Option Addr} {m0BadValue m1BadValue m2BadValue m3BadValue m5BadValue : Option Value}
    (xCBadValue : PySem.W.nsIn K mainGlobals "BadValue" = some (some (.ref cBadValue)))
    (xLBadValue : K.lookup cBadValue = some (excClassObj nmBadValue qBadValue cBadValue NBadValue bsBadValue [.ref cOdds, .type "ValueError", .type "Exception", .type "BaseException", .type "object"] true snBadValue subBadValue abBadValue colBadValue ddBadValue m0BadValue m1BadValue m2BadValue m3BadValue m5BadValue "ValueError.__new__"))
    (x1BadValue : PySem.W.findIn K (.ref cBadValue) "__init__" = some (some (.ref fIBadValue))) (x2BadValue : PySem.W.typeIn K (.ref fIBadValue) = some (.type "function"))
    (x3BadValue : K.lookup fIBadValue = some ⟨ocIBadValue, odIBadValue, .func (PySem.W.fnOf "__init__" "BadValue.__init__" (defArgs s_init_BadValue) (defBody s_init_BadValue) (defScope s_init_BadValue) .none kVIBadValue dcIBadValue pmIBadValue anIBadValue cdIBadValue ctIBadValue), slIBadValue⟩) (x4BadValue : PySem.W.codeIn K cdIBadValue "BadValue.__init__" = true) (x5BadValue : PySem.W.keepIn K (.ref fIBadValue) = true)
    (x6BadValue : PySem.W.findIn K (.ref cBadValue) "__setattr__" = some (some (.builtin "object.__setattr__"))) (x7BadValue : PySem.W.subIn K (.ref cBadValue) (.type "BaseException") = some true) (x8BadValue : PySem.W.typeIn K (.ref cBadValue) = some (.type "type")) (x9BadValue : PySem.W.keepIn K (.ref cBadValue) = true)
    (y1BadValue : PySem.W.findIn K (.ref cBadValue) "__getattribute__" = some (some (.builtin "BaseException.__getattribute__"))) (y2BadValue : PySem.W.findIn K (.ref cBadValue) "__getattr__" = some none) (y3BadValue : PySem.W.hasDictIn K cBadValue = true)
    (y5BadValue : PySem.W.isClsIn K cBadValue = true) (y6BadValue : PySem.W.findIn K (.ref cBadValue) "__class__" = some (some (.builtin "object.__class__"))) (y9BadValue : PySem.W.mroIn K cBadValue (.type "object") = some true)
    (n_BadValue_name : PySem.W.findIn K (.ref cBadValue) "name" = some none)
    (w_BadValue_BadValue : PySem.W.subIn K (.ref cBadValue) (.ref cBadValue) = some true)
    {cT PT : Addr} {ocT : Value} {odT : Option Addr} {vsT : Array Value} {slT : Array (Option Value)} (ceq : cd22 = .ref cT) (lcT : K.lookup cT = some ⟨ocT, odT, .fields vsT, slT⟩) (v11 : vsT[11]? = some (.ref PT)) (nPT : K.lookup PT = none)
    (tabF : ∀ (y : Str) (c P : Addr), y = "is_equation" → PySem.W.tabIn K y = some (c, P) → PySem.W.CodeHd h c P ∧ h.get? P = some (PySem.W.tabObj #[]))
    : LamX.LawAtS l w K (L2.CX l.prog w) 9 63 "script" mg fa h := by
  have e := hfa.symm.trans (PySem.W.mg_of X G a38)
  cases e
  have F0 := fun_mk (st := s_l_stream) l0 c0 k0
  have b0 := F0.binds (ps := ["script"]) fun _ _ _ _ _ _ us hl => match us, hl with | [_], _ => rfl
  have F1 := fun_mk (st := s_l_next) l1 c1 k1
  have b1 := F1.binds (ps := ["stream", "many"]) fun _ _ _ _ _ _ us hl => match us, hl with | [_, _], _ => rfl
  have F2 := fun_mk (st := s_l_is_integer) l2 c2 k2
  have b2 := F2.binds (ps := ["actual"]) fun _ _ _ _ _ _ us hl => match us, hl with | [_], _ => rfl
  have F3 := fun_mk (st := s_l_equal) l3 c3 k3
  have b3 := F3.binds (ps := ["actual", "due"]) fun _ _ _ _ _ _ us hl => match us, hl with | [_, _], _ => rfl
  have F4 := fun_mk (st := s_l_gcd) l4 c4 k4
  have b4 := F4.binds (ps := ["a", "b"]) fun _ _ _ _ _ _ us hl => match us, hl with | [_, _], _ => rfl
  have F5 := fun_mk (st := s_l_low) l5 c5 k5
  have b5 := F5.binds (ps := ["n", "d"]) fun _ _ _ _ _ _ us hl => match us, hl with | [_, _], _ => rfl
  have F6 := fun_mk (st := s_l_ratio) l6 c6 k6
  have b6 := F6.binds (ps := ["stream", "top", "most"]) fun _ _ _ _ _ _ us hl => match us, hl with | [_, _, _], _ => rfl
  have F7 := fun_mk (st := s_l_root) l7 c7 k7
  have b7 := F7.binds (ps := ["n"]) fun _ _ _ _ _ _ us hl => match us, hl with | [_], _ => rfl
  have F8 := fun_mk (st := s_l_is_square) l8 c8 k8
  have b8 := F8.binds (ps := ["n"]) fun _ _ _ _ _ _ us hl => match us, hl with | [_], _ => rfl
  have F9 := fun_mk (st := s_l_number) l9 c9 k9
  have b9 := F9.binds (ps := ["stream"]) fun _ _ _ _ _ _ us hl => match us, hl with | [_], _ => rfl
  have F10 := fun_mk (st := s_l_beside) l10 c10 k10
  have b10 := F10.binds (ps := ["number", "n", "d"]) fun _ _ _ _ _ _ us hl => match us, hl with | [_, _, _], _ => rfl
  have F11 := fun_mk (st := s_l_floor) l11 c11 k11
  have b11 := F11.binds (ps := ["number", "q", "low", "high"]) fun _ _ _ _ _ _ us hl => match us, hl with | [_, _, _, _], _ => rfl
  have F12 := fun_mk (st := s_l_compare) l12 c12 k12
  have b12 := F12.binds (ps := ["first", "second"]) fun _ _ _ _ _ _ us hl => match us, hl with | [_, _], _ => rfl
  have F13 := fun_mk (st := s_plus) l13 c13 k13
  have b13 := F13.binds (ps := ["a", "b"]) fun _ _ _ _ _ _ us hl => match us, hl with | [_, _], _ => rfl
  have F14 := fun_mk (st := s_opposite) l14 c14 k14
  have b14 := F14.binds (ps := ["a"]) fun _ _ _ _ _ _ us hl => match us, hl with | [_], _ => rfl
  have F15 := fun_mk (st := s_minus) l15 c15 k15
  have b15 := F15.binds (ps := ["a", "b"]) fun _ _ _ _ _ _ us hl => match us, hl with | [_, _], _ => rfl
  have F16 := fun_mk (st := s_is_whole) l16 c16 k16
  have b16 := F16.binds (ps := ["value"]) fun _ _ _ _ _ _ us hl => match us, hl with | [_], _ => rfl
  have F17 := fun_mk (st := s_is_index) l17 c17 k17
  have b17 := F17.binds (ps := ["value", "many"]) fun _ _ _ _ _ _ us hl => match us, hl with | [_, _], _ => rfl
  have F18 := fun_mk (st := s_is_rational) l18 c18 k18
  have b18 := F18.binds (ps := ["x"]) fun _ _ _ _ _ _ us hl => match us, hl with | [_], _ => rfl
  have F19 := fun_mk (st := s_square_root) l19 c19 k19
  have b19 := F19.binds (ps := ["n"]) fun _ _ _ _ _ _ us hl => match us, hl with | [_], _ => rfl
  have F20 := fun_mk (st := s_is_field) l20 c20 k20
  have b20 := F20.binds (ps := ["x"]) fun _ _ _ _ _ _ us hl => match us, hl with | [_], _ => rfl
  have F21 := fun_mk (st := s_discriminant) l21 c21 k21
  have b21 := F21.binds (ps := ["coefficients"]) fun _ _ _ _ _ _ us hl => match us, hl with | [_], _ => rfl
  have F22 := fun_mk (st := s_is_equation) l22 c22 k22
  have b22 := F22.binds (ps := ["coefficients"]) fun _ _ _ _ _ _ us hl => match us, hl with | [_], _ => rfl
  have F23 := fun_mk (st := s_is_number) l23 c23 k23
  have b23 := F23.binds (ps := ["x"]) fun _ _ _ _ _ _ us hl => match us, hl with | [_], _ => rfl
  have F24 := fun_mk (st := s_check_number) l24 c24 k24
  have b24 := F24.binds (ps := ["value", "name"]) fun _ _ _ _ _ _ us hl => match us, hl with | [_, _], _ => rfl
  have F25 := fun_mk (st := s_ratio) l25 c25 k25
  have b25 := F25.binds (ps := ["n", "d"]) fun _ _ _ _ _ _ us hl => match us, hl with | [_, _], _ => rfl
  have F26 := fun_mk (st := s_element_of) l26 c26 k26
  have b26 := F26.binds (ps := ["number"]) fun _ _ _ _ _ _ us hl => match us, hl with | [_], _ => rfl
  have F27 := fun_mk (st := s_times) l27 c27 k27
  have b27 := F27.binds (ps := ["a", "b"]) fun _ _ _ _ _ _ us hl => match us, hl with | [_, _], _ => rfl
  have F28 := fun_mk (st := s_whole_sign) l28 c28 k28
  have b28 := F28.binds (ps := ["n"]) fun _ _ _ _ _ _ us hl => match us, hl with | [_], _ => rfl
  have F29 := fun_mk (st := s_rational_sign) l29 c29 k29
  have b29 := F29.binds (ps := ["a"]) fun _ _ _ _ _ _ us hl => match us, hl with | [_], _ => rfl
  have F30 := fun_mk (st := s_multiply) l30 c30 k30
  have b30 := F30.binds (ps := ["field", "a", "b"]) fun _ _ _ _ _ _ us hl => match us, hl with | [_, _, _], _ => rfl
  have F31 := fun_mk (st := s_loosened) l31 c31 k31
  have b31 := F31.binds (ps := ["element"]) fun _ _ _ _ _ _ us hl => match us, hl with | [_], _ => rfl
  have F32 := fun_mk (st := s_loose_sign) l32 c32 k32
  have b32 := F32.binds (ps := ["field", "a"]) fun _ _ _ _ _ _ us hl => match us, hl with | [_, _], _ => rfl
  have F33 := fun_mk (st := s_sign_of) l33 c33 k33
  have b33 := F33.binds (ps := ["field", "a"]) fun _ _ _ _ _ _ us hl => match us, hl with | [_, _], _ => rfl
  have F34 := fun_mk (st := s_compare_with_root) l34 c34 k34
  have b34 := F34.binds (ps := ["field", "left", "other_field", "factor"]) fun _ _ _ _ _ _ us hl => match us, hl with | [_, _, _, _], _ => rfl
  have F35 := fun_mk (st := s_compare_numbers) l35 c35 k35
  have b35 := F35.binds (ps := ["first", "second"]) fun _ _ _ _ _ _ us hl => match us, hl with | [_, _], _ => rfl
  have F36 := fun_mk (st := s_l_told) l36 c36 k36
  have b36 := F36.binds (ps := ["first", "second"]) fun _ _ _ _ _ _ us hl => match us, hl with | [_, _], _ => rfl
  have F37 := fun_mk (st := s_l_near) l37 c37 k37
  have b37 := F37.binds (ps := ["stream", "number"]) fun _ _ _ _ _ _ us hl => match us, hl with | [_, _], _ => rfl
  have F38 := fun_mk (st := s_law) l38 c38 k38
  have b38 := F38.binds (ps := ["script"]) fun _ _ _ _ _ _ us hl => match us, hl with | [_], _ => rfl
  have FIBadValue := fun_mk (st := s_init_BadValue) x3BadValue x4BadValue x5BadValue
  have bIBadValue := FIBadValue.binds (ps := ["self", "name"]) fun _ _ _ _ _ _ us hl => match us, hl with | [_, _], _ => rfl
  let T : Txt K mg := {
    v_ZERO := .ref q_ZERO_1, u_ZERO := .ref q_ZERO_1, g_ZERO := PySem.W.mg_of X G z_ZERO, r_ZERO := rfl, d_ZERO := fun _ _ => (.tup (vs := [.int (0), .int (1)]) (.inr ⟨_, _, _, q_ZERO_1_l, rfl, rfl, by show 2 ≤ sizeLine; decide, (.cons ⟨_, rfl⟩ (.cons ⟨_, rfl⟩ .nil))⟩) (.cons (.int _) (.cons (.int _) .nil)))
    c_BadValue := cBadValue, g_BadValue := PySem.W.mg_of X G xCBadValue, O_BadValue := ⟨⟨nmBadValue, qBadValue, NBadValue, bsBadValue, _, snBadValue, subBadValue, abBadValue, colBadValue, ddBadValue, m0BadValue, m1BadValue, m2BadValue, m3BadValue, m5BadValue, xLBadValue, by rfl⟩, x6BadValue, x7BadValue, x8BadValue, x9BadValue⟩, X_BadValue := ⟨y1BadValue, y2BadValue, x7BadValue, y3BadValue⟩, I_BadValue := ⟨y1BadValue, y2BadValue, x7BadValue, y5BadValue, y6BadValue, y7, y8, y9BadValue⟩, fi_BadValue := fIBadValue, fdi_BadValue := _, iC_BadValue := x1BadValue, tI_BadValue := x2BadValue, FI_BadValue := FIBadValue, bI_BadValue := bIBadValue, no_BadValue_name := n_BadValue_name, x_BadValue_BadValue := PySem.W.exm_ref x7BadValue y3BadValue x8BadValue w_BadValue_BadValue, k_BadValue_BadValue := Odds.kit_own y5BadValue x8BadValue w_BadValue_BadValue
    c_tab := cT, P_tab := PT, code_tab := ceq
    f_l_stream := f0, fd_l_stream := _, D_l_stream := ⟨F0, PySem.W.mg_of X G a0, b0⟩
    f_l_next := f1, fd_l_next := _, D_l_next := ⟨F1, PySem.W.mg_of X G a1, b1⟩
    f_l_is_integer := f2, fd_l_is_integer := _, D_l_is_integer := ⟨F2, PySem.W.mg_of X G a2, b2⟩
    f_l_equal := f3, fd_l_equal := _, D_l_equal := ⟨F3, PySem.W.mg_of X G a3, b3⟩
    f_l_gcd := f4, fd_l_gcd := _, D_l_gcd := ⟨F4, PySem.W.mg_of X G a4, b4⟩
    f_l_low := f5, fd_l_low := _, D_l_low := ⟨F5, PySem.W.mg_of X G a5, b5⟩
    f_l_ratio := f6, fd_l_ratio := _, D_l_ratio := ⟨F6, PySem.W.mg_of X G a6, b6⟩
    f_l_root := f7, fd_l_root := _, D_l_root := ⟨F7, PySem.W.mg_of X G a7, b7⟩
    f_l_is_square := f8, fd_l_is_square := _, D_l_is_square := ⟨F8, PySem.W.mg_of X G a8, b8⟩
    f_l_number := f9, fd_l_number := _, D_l_number := ⟨F9, PySem.W.mg_of X G a9, b9⟩
    f_l_beside := f10, fd_l_beside := _, D_l_beside := ⟨F10, PySem.W.mg_of X G a10, b10⟩
    f_l_floor := f11, fd_l_floor := _, D_l_floor := ⟨F11, PySem.W.mg_of X G a11, b11⟩
    f_l_compare := f12, fd_l_compare := _, D_l_compare := ⟨F12, PySem.W.mg_of X G a12, b12⟩
    f_plus := f13, fd_plus := _, D_plus := ⟨F13, PySem.W.mg_of X G a13, b13⟩
    f_opposite := f14, fd_opposite := _, D_opposite := ⟨F14, PySem.W.mg_of X G a14, b14⟩
    f_minus := f15, fd_minus := _, D_minus := ⟨F15, PySem.W.mg_of X G a15, b15⟩
    f_is_whole := f16, fd_is_whole := _, D_is_whole := ⟨F16, PySem.W.mg_of X G a16, b16⟩
    f_is_index := f17, fd_is_index := _, D_is_index := ⟨F17, PySem.W.mg_of X G a17, b17⟩
    f_is_rational := f18, fd_is_rational := _, D_is_rational := ⟨F18, PySem.W.mg_of X G a18, b18⟩
    f_square_root := f19, fd_square_root := _, D_square_root := ⟨F19, PySem.W.mg_of X G a19, b19⟩
    f_is_field := f20, fd_is_field := _, D_is_field := ⟨F20, PySem.W.mg_of X G a20, b20⟩
    f_discriminant := f21, fd_discriminant := _, D_discriminant := ⟨F21, PySem.W.mg_of X G a21, b21⟩
    f_is_equation := f22, fd_is_equation := _, D_is_equation := ⟨F22, PySem.W.mg_of X G a22, b22⟩
    f_is_number := f23, fd_is_number := _, D_is_number := ⟨F23, PySem.W.mg_of X G a23, b23⟩
    f_check_number := f24, fd_check_number := _, D_check_number := ⟨F24, PySem.W.mg_of X G a24, b24⟩
    f_ratio := f25, fd_ratio := _, D_ratio := ⟨F25, PySem.W.mg_of X G a25, b25⟩
    f_element_of := f26, fd_element_of := _, D_element_of := ⟨F26, PySem.W.mg_of X G a26, b26⟩
    f_times := f27, fd_times := _, D_times := ⟨F27, PySem.W.mg_of X G a27, b27⟩
    f_whole_sign := f28, fd_whole_sign := _, D_whole_sign := ⟨F28, PySem.W.mg_of X G a28, b28⟩
    f_rational_sign := f29, fd_rational_sign := _, D_rational_sign := ⟨F29, PySem.W.mg_of X G a29, b29⟩
    f_multiply := f30, fd_multiply := _, D_multiply := ⟨F30, PySem.W.mg_of X G a30, b30⟩
    f_loosened := f31, fd_loosened := _, D_loosened := ⟨F31, PySem.W.mg_of X G a31, b31⟩
    f_loose_sign := f32, fd_loose_sign := _, D_loose_sign := ⟨F32, PySem.W.mg_of X G a32, b32⟩
    f_sign_of := f33, fd_sign_of := _, D_sign_of := ⟨F33, PySem.W.mg_of X G a33, b33⟩
    f_compare_with_root := f34, fd_compare_with_root := _, D_compare_with_root := ⟨F34, PySem.W.mg_of X G a34, b34⟩
    f_compare_numbers := f35, fd_compare_numbers := _, D_compare_numbers := ⟨F35, PySem.W.mg_of X G a35, b35⟩
    f_l_told := f36, fd_l_told := _, D_l_told := ⟨F36, PySem.W.mg_of X G a36, b36⟩
    f_l_near := f37, fd_l_near := _, D_l_near := ⟨F37, PySem.W.mg_of X G a37, b37⟩
    f_law := fa, fd_law := _, D_law := ⟨F38, PySem.W.mg_of X G a38, b38⟩
    abs := PySem.W.mg_none_of X G z_abs
    all := PySem.W.mg_none_of X G z_all
    bool := PySem.W.mg_none_of X G z_bool
    int := PySem.W.mg_none_of X G z_int
    isinstance := PySem.W.mg_none_of X G z_isinstance
    len := PySem.W.mg_none_of X G z_len
    list := PySem.W.mg_none_of X G z_list
    range := PySem.W.mg_none_of X G z_range
    str := PySem.W.mg_none_of X G z_str
    tuple := PySem.W.mg_none_of X G z_tuple
    gcd := PySem.W.mg_of X G z_gcd
    isqrt := PySem.W.mg_of X G z_isqrt
    lcm := PySem.W.mg_of X G z_lcm }
  have ht : PySem.W.tabIn K "is_equation" = some (cT, PT) := by
    subst ceq
    simp only [PySem.W.tabIn, a22, l22, PySem.W.fnOf, lcT, v11]
  obtain ⟨hc, hg⟩ := tabF _ _ _ rfl ht
  refine ⟨PySem.W.fnOf "law" "law" (defArgs s_law) (defBody s_law) (defScope s_law) .none kV38 dc38 pm38 an38 cd38 ct38, [(cT, PT)], spM K T.g 1 m_law, ?_, ?_, ?_, fun s v => .of_eq rfl, ?_, ?_⟩
  · intro p hp
    rcases List.mem_cons.mp hp with rfl | hp
    · exact hg
    · cases hp
  · intro p hp
    rcases List.mem_cons.mp hp with rfl | hp
    · exact nPT
    · cases hp
  · intro p hp
    rcases List.mem_cons.mp hp with rfl | hp
    · exact hc
    · cases hp
  · intro H a ns hl _ hH hS
    refine law_end T.g hl ?_ hS
    intro P hP
    have e : P = PT := by simpa using hP
    rw [e]
    exact ⟨#[], hH (cT, PT) List.mem_cons_self, trivial⟩
  · intro base _ _ TB
    have t := TB (cT, PT) List.mem_cons_self
    exact ok_law T ⟨t.code, t.bm, t.gP⟩
end Pm
open PySem PySem.W PyProof.Rows
set_option maxRecDepth 100000 in
set_option maxHeartbeats 0 in
theorem PySem.Challenge.cw_oddscall_k11_order_of_numbers_holds : PySem.Challenge.rw_oddscall_k11_order_of_numbers.Holds := by
  w_on; o_law; k_head; (case hw => w_witness2)
  k_fill
  refine Odds.walk_tab (l := PySem.Challenge.rw_oddscall_k11_order_of_numbers) (n := 63) (k := 9) (CX := fun w => L2.CX (PySem.Challenge.rw_oddscall_k11_order_of_numbers).prog w) (x := "script") rfl (by decide) rfl ⟨rfl, by decide, by decide⟩ (fun w h Y => PySem.W.kIn_of Y) ?F (fun _ _ _ _ _ ⟨_, _, _, _, _, _, _, _, _, _, _, _, z⟩ => z)
  case F =>
    intro w mg fa h KX G hmg tabF
    refine' Pm.all_mk KX G hmg ?a0 ?l0 ?c0 ?k0 ?a1 ?l1 ?c1 ?k1 ?a2 ?l2 ?c2 ?k2 ?a3 ?l3 ?c3 ?k3 ?a4 ?l4 ?c4 ?k4 ?a5 ?l5 ?c5 ?k5 ?a6 ?l6 ?c6 ?k6 ?a7 ?l7 ?c7 ?k7 ?a8 ?l8 ?c8 ?k8 ?a9 ?l9 ?c9 ?k9 ?a10 ?l10 ?c10 ?k10 ?a11 ?l11 ?c11 ?k11 ?a12 ?l12 ?c12 ?k12 ?a13 ?l13 ?c13 ?k13 ?a14 ?l14 ?c14 ?k14 ?a15 ?l15 ?c15 ?k15 ?a16 ?l16 ?c16 ?k16 ?a17 ?l17 ?c17 ?k17 ?a18 ?l18 ?c18 ?k18 ?a19 ?l19 ?c19 ?k19 ?a20 ?l20 ?c20 ?k20 ?a21 ?l21 ?c21 ?k21 ?a22 ?l22 ?c22 ?k22 ?a23 ?l23 ?c23 ?k23 ?a24 ?l24 ?c24 ?k24 ?a25 ?l25 ?c25 ?k25 ?a26 ?l26 ?c26 ?k26 ?a27 ?l27 ?c27 ?k27 ?a28 ?l28 ?c28 ?k28 ?a29 ?l29 ?c29 ?k29 ?a30 ?l30 ?c30 ?k30 ?a31 ?l31 ?c31 ?k31 ?a32 ?l32 ?c32 ?k32 ?a33 ?l33 ?c33 ?k33 ?a34 ?l34 ?c34 ?k34 ?a35 ?l35 ?c35 ?k35 ?a36 ?l36 ?c36 ?k36 ?a37 ?l37 ?c37 ?k37 ?a38 ?l38 ?c38 ?k38 ?z_abs ?z_all ?z_bool ?z_int ?z_isinstance ?z_len ?z_list ?z_range ?z_str ?z_tuple ?z_gcd ?z_isqrt ?z_lcm ?q_ZERO_1_l ?z_ZERO ?xO ?w4 ?w5 ?w6 ?w7 ?y7 ?y8 ?xCBadValue ?xLBadValue ?x1BadValue ?x2BadValue ?x3BadValue ?x4BadValue ?x5BadValue ?x6BadValue ?x7BadValue ?x8BadValue ?x9BadValue ?y1BadValue ?y2BadValue ?y3BadValue ?y5BadValue ?y6BadValue ?y9BadValue ?n_BadValue_name ?w_BadValue_BadValue ?ceq ?lcT ?v11 ?nPT (fun y c P e => tabF y c P (by rw [e]; decide +kernel))
    (case a0 => k_is)
    (case l0 => k_is)
    (case c0 => k_is)
    (case k0 => k_is)
    (case a1 => k_is)
    (case l1 => k_is)
    (case c1 => k_is)
    (case k1 => k_is)
    (case a2 => k_is)
    (case l2 => k_is)
    (case c2 => k_is)
    (case k2 => k_is)
    (case a3 => k_is)
    (case l3 => k_is)
    (case c3 => k_is)
    (case k3 => k_is)
    (case a4 => k_is)
    (case l4 => k_is)
    (case c4 => k_is)
    (case k4 => k_is)
    (case a5 => k_is)
    (case l5 => k_is)
    (case c5 => k_is)
    (case k5 => k_is)
    (case a6 => k_is)
    (case l6 => k_is)
    (case c6 => k_is)
    (case k6 => k_is)
    (case a7 => k_is)
    (case l7 => k_is)
    (case c7 => k_is)
    (case k7 => k_is)
    (case a8 => k_is)
    (case l8 => k_is)
    (case c8 => k_is)
    (case k8 => k_is)
    (case a9 => k_is)
    (case l9 => k_is)
    (case c9 => k_is)
    (case k9 => k_is)
    (case a10 => k_is)
    (case l10 => k_is)
    (case c10 => k_is)
    (case k10 => k_is)
    (case a11 => k_is)
    (case l11 => k_is)
    (case c11 => k_is)
    (case k11 => k_is)
    (case a12 => k_is)
    (case l12 => k_is)
    (case c12 => k_is)
    (case k12 => k_is)
    (case a13 => k_is)
    (case l13 => k_is)
    (case c13 => k_is)
    (case k13 => k_is)
    (case a14 => k_is)
    (case l14 => k_is)
    (case c14 => k_is)
    (case k14 => k_is)
    (case a15 => k_is)
    (case l15 => k_is)
    (case c15 => k_is)
    (case k15 => k_is)
    (case a16 => k_is)
    (case l16 => k_is)
    (case c16 => k_is)
    (case k16 => k_is)
    (case a17 => k_is)
    (case l17 => k_is)
    (case c17 => k_is)
    (case k17 => k_is)
    (case a18 => k_is)
    (case l18 => k_is)
    (case c18 => k_is)
    (case k18 => k_is)
    (case a19 => k_is)
    (case l19 => k_is)
    (case c19 => k_is)
    (case k19 => k_is)
    (case a20 => k_is)
    (case l20 => k_is)
    (case c20 => k_is)
    (case k20 => k_is)
    (case a21 => k_is)
    (case l21 => k_is)
    (case c21 => k_is)
    (case k21 => k_is)
    (case a22 => k_is)
    (case l22 => k_is)
    (case c22 => k_is)
    (case k22 => k_is)
    (case a23 => k_is)
    (case l23 => k_is)
    (case c23 => k_is)
    (case k23 => k_is)
    (case a24 => k_is)
    (case l24 => k_is)
    (case c24 => k_is)
    (case k24 => k_is)
    (case a25 => k_is)
    (case l25 => k_is)
    (case c25 => k_is)
    (case k25 => k_is)
    (case a26 => k_is)
    (case l26 => k_is)
    (case c26 => k_is)
    (case k26 => k_is)
    (case a27 => k_is)
    (case l27 => k_is)
    (case c27 => k_is)
    (case k27 => k_is)
    (case a28 => k_is)
    (case l28 => k_is)
    (case c28 => k_is)
    (case k28 => k_is)
    (case a29 => k_is)
    (case l29 => k_is)
    (case c29 => k_is)
    (case k29 => k_is)
    (case a30 => k_is)
    (case l30 => k_is)
    (case c30 => k_is)
    (case k30 => k_is)
    (case a31 => k_is)
    (case l31 => k_is)
    (case c31 => k_is)
    (case k31 => k_is)
    (case a32 => k_is)
    (case l32 => k_is)
    (case c32 => k_is)
    (case k32 => k_is)
    (case a33 => k_is)
    (case l33 => k_is)
    (case c33 => k_is)
    (case k33 => k_is)
    (case a34 => k_is)
    (case l34 => k_is)
    (case c34 => k_is)
    (case k34 => k_is)
    (case a35 => k_is)
    (case l35 => k_is)
    (case c35 => k_is)
    (case k35 => k_is)
    (case a36 => k_is)
    (case l36 => k_is)
    (case c36 => k_is)
    (case k36 => k_is)
    (case a37 => k_is)
    (case l37 => k_is)
    (case c37 => k_is)
    (case k37 => k_is)
    (case a38 => k_is)
    (case l38 => k_is)
    (case c38 => k_is)
    (case k38 => k_is)
    (case z_abs => k_is)
    (case z_all => k_is)
    (case z_bool => k_is)
    (case z_int => k_is)
    (case z_isinstance => k_is)
    (case z_len => k_is)
    (case z_list => k_is)
    (case z_range => k_is)
    (case z_str => k_is)
    (case z_tuple => k_is)
    (case z_gcd => k_is)
    (case z_isqrt => k_is)
    (case z_lcm => k_is)
    (case xO => k_is)
    (case w4 => k_is)
    (case w5 => k_is)
    (case w6 => k_is)
    (case w7 => k_is)
    (case y7 => k_is)
    (case y8 => k_is)
    (case xCBadValue => k_is)
    (case xLBadValue => k_is)
    (case x1BadValue => k_is)
    (case x2BadValue => k_is)
    (case x3BadValue => k_is)
    (case x4BadValue => k_is)
    (case x5BadValue => k_is)
    (case x6BadValue => k_is)
    (case x7BadValue => k_is)
    (case x8BadValue => k_is)
    (case x9BadValue => k_is)
    (case y1BadValue => k_is)
    (case y2BadValue => k_is)
    (case y3BadValue => k_is)
    (case y5BadValue => k_is)
    (case y6BadValue => k_is)
    (case y9BadValue => k_is)
    (case n_BadValue_name => k_is)
    (case w_BadValue_BadValue => first | rfl | k_is)
    (case ceq => first | rfl | k_is)
    (case lcT => k_is)
    (case v11 => first | rfl | k_is)
    (case nPT => first | rfl | k_is)
    (case z_ZERO => k_is)
    (case q_ZERO_1_l => k_is)
