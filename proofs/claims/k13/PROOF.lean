import PyProof.Rows.All
import Wide.All
import OpenK.AllK
import Wide.FinOn
import HandS.ForMost
import HandS.ForExc
import HandS.Wide
import HandS.IsInst
import HandS.Lambda
import HandS.Conv
import PyProof.ReprRoads
import PyProof.ReprLen
import HandS.Style
import HandS.ExcIs
import KE.KNestM
import HandS.EndTab
import PySem.Challenge.RW_wrecktold_k13_whole_how_many_frames_on
set_option Elab.async false
set_option linter.all false
set_option maxRecDepth 100000
set_option maxHeartbeats 4000000
/-! Mirrors: an expression of the text read as a plain function over data, one box (a list of two ints) that changes. -/
namespace Mi
open PySem PySem.Spec PyProof.Rows L2

/-- what may not be told as data: the box, and objects under way -/
structure Mu where
  box : Option Addr
  ex : List Addr
def Mu.ok (β : Mu) (a : Addr) : Prop := some a ≠ β.box ∧ a ∉ β.ex
/-- data: what a name of the text may hold -/
inductive D where
  | non | bl (b : Bool) | int (i : Int) | str (x : Str) | lst (l : List D) | tup (l : List D) | box

def SL (K : PySem.W.Frag) (β : Mu) (H : Hp) (a : Addr) (xs : List V) : Prop := (L2.Rd H a (.lst xs) ∧ β.ok a) ∨ SqL K (fun _ => none) a xs
def ST (K : PySem.W.Frag) (β : Mu) (H : Hp) (a : Addr) (xs : List V) : Prop := (L2.Rd H a (.tup xs) ∧ β.ok a) ∨ SqT K (fun _ => none) a xs
theorem rd_none {a : Addr} {u : HO} : ¬ L2.Rd (fun _ => none) a u := fun h => by
  rcases h with h | ⟨o, h⟩ <;> cases h
theorem SL.sq {K : PySem.W.Frag} {β : Mu} {H : Hp} {a : Addr} {xs : List V} (h : SL K β H a xs) : SqL K H a xs := by
  rcases h with h | h
  · exact .inl h.1
  · rcases h with h | h
    · exact (rd_none h).elim
    · exact .inr h
theorem ST.sq {K : PySem.W.Frag} {β : Mu} {H : Hp} {a : Addr} {xs : List V} (h : ST K β H a xs) : SqT K H a xs := by
  rcases h with h | h
  · exact .inl h.1
  · rcases h with h | h
    · exact (rd_none h).elim
    · exact .inr h

mutual
/-- a value is such data -/
inductive R (K : PySem.W.Frag) (β : Mu) (H : Hp) : V → D → Prop
  | non : R K β H .non .non
  | bl (b : Bool) : R K β H (.bl b) (.bl b)
  | int (i : Int) : R K β H (.int i) (.int i)
  | str (x : Str) : R K β H (.str x) (.str x)
  | lst {a : Addr} {xs : List V} {ds : List D} : SL K β H a xs → RA K β H xs ds → R K β H (.ref a) (.lst ds)
  | tup {a : Addr} {xs : List V} {ds : List D} : ST K β H a xs → RA K β H xs ds → R K β H (.ref a) (.tup ds)
  | box {a : Addr} : β.box = some a → R K β H (.ref a) .box
inductive RA (K : PySem.W.Frag) (β : Mu) (H : Hp) : List V → List D → Prop
  | nil : RA K β H [] []
  | cons {v : V} {vs : List V} {d : D} {ds : List D} : R K β H v d → RA K β H vs ds → RA K β H (v :: vs) (d :: ds)
end

/-- what is told of a heap goes on: all but the box and the tables of code -/
def Le (β : Mu) (H H' : Hp) : Prop := ∀ b o, H b = some o → some b ≠ β.box → (∀ ps, o ≠ .tbl ps) → H' b = some o
theorem Le.refl {β : Mu} {H : Hp} : Le β H H := fun _ _ h _ _ => h
theorem Le.trans {β : Mu} {H H1 H2 : Hp} (a : Le β H H1) (b : Le β H1 H2) : Le β H H2 := fun c o h n t => b c o (a c o h n t) n t
theorem Le.of {β : Mu} {H H' : Hp} (e : ∀ b o, H b = some o → H' b = some o) : Le β H H' := fun b o h _ _ => e b o h
theorem keep_new {H : Hp} {p : Addr} {o : HO} (h : H p = none) : ∀ b u, H b = some u → (upd H p o) b = some u := fun b u e => by
  rw [upd_ne (ne_of_none e h)]
  exact e
theorem Le.new {β : Mu} {H : Hp} {p : Addr} {o : HO} (h : H p = none) : Le β H (upd H p o) := .of (keep_new h)
theorem Le.rd {β : Mu} {H H' : Hp} (l : Le β H H') {a : Addr} {u : HO} (n : β.ok a) (h : L2.Rd H a u) (t : ∀ ps, u ≠ .tbl ps) : L2.Rd H' a u := by
  rcases h with h | ⟨o, h⟩
  · exact .inl (l _ _ h n.1 t)
  · exact .inr ⟨o, l _ _ h n.1 (fun ps z => by cases z)⟩
theorem SL.le {K : PySem.W.Frag} {β : Mu} {H H' : Hp} {a : Addr} {xs : List V} (h : SL K β H a xs) (l : Le β H H') : SL K β H' a xs := by
  rcases h with ⟨h, n⟩ | h
  · exact .inl ⟨l.rd n h (fun ps z => by cases z), n⟩
  · exact .inr h
theorem ST.le {K : PySem.W.Frag} {β : Mu} {H H' : Hp} {a : Addr} {xs : List V} (h : ST K β H a xs) (l : Le β H H') : ST K β H' a xs := by
  rcases h with ⟨h, n⟩ | h
  · exact .inl ⟨l.rd n h (fun ps z => by cases z), n⟩
  · exact .inr h
mutual
theorem R.le {K : PySem.W.Frag} {β : Mu} {H H' : Hp} (l : Le β H H') : ∀ {v : V} {d : D}, R K β H v d → R K β H' v d
  | _, _, .non => .non
  | _, _, .bl b => .bl b
  | _, _, .int i => .int i
  | _, _, .str x => .str x
  | _, _, .lst h r => .lst (h.le l) (RA.le l r)
  | _, _, .tup h r => .tup (h.le l) (RA.le l r)
  | _, _, .box h => .box h
theorem RA.le {K : PySem.W.Frag} {β : Mu} {H H' : Hp} (l : Le β H H') : ∀ {vs : List V} {ds : List D}, RA K β H vs ds → RA K β H' vs ds
  | _, _, .nil => .nil
  | _, _, .cons h r => .cons (R.le l h) (RA.le l r)
end
theorem RA.length {K : PySem.W.Frag} {β : Mu} {H : Hp} : ∀ {vs : List V} {ds : List D}, RA K β H vs ds → vs.length = ds.length
  | _, _, .nil => rfl
  | _, _, .cons _ r => by rw [List.length_cons, List.length_cons, RA.length r]
theorem RA.get {K : PySem.W.Frag} {β : Mu} {H : Hp} : ∀ {vs : List V} {ds : List D} {i : Nat} {d : D}, RA K β H vs ds → ds[i]? = some d → ∃ v, vs[i]? = some v ∧ R K β H v d
  | _, _, _, _, .nil, e => by simp at e
  | _, _, 0, d, .cons (v := v) h _, e => by
    have e2 := Option.some.inj e
    subst e2
    exact ⟨v, rfl, h⟩
  | _, _, i + 1, d, .cons _ r, e => by
    obtain ⟨v, h1, h2⟩ := RA.get (i := i) r (by simpa using e)
    exact ⟨v, by simpa using h1, h2⟩
theorem RA.append {K : PySem.W.Frag} {β : Mu} {H : Hp} : ∀ {vs ws : List V} {ds es : List D}, RA K β H vs ds → RA K β H ws es → RA K β H (vs ++ ws) (ds ++ es)
  | _, _, _, _, .nil, h => h
  | _, _, _, _, .cons a r, h => .cons a (RA.append r h)
theorem RA.drop {K : PySem.W.Frag} {β : Mu} {H : Hp} : ∀ {vs : List V} {ds : List D} (n : Nat), RA K β H vs ds → RA K β H (vs.drop n) (ds.drop n)
  | _, _, 0, h => by simpa using h
  | _, _, n + 1, .nil => by simpa using RA.nil
  | _, _, n + 1, .cons _ r => by simpa using RA.drop n r
theorem RA.take {K : PySem.W.Frag} {β : Mu} {H : Hp} : ∀ {vs : List V} {ds : List D} (n : Nat), RA K β H vs ds → RA K β H (vs.take n) (ds.take n)
  | _, _, 0, _ => by simpa using RA.nil
  | _, _, n + 1, .nil => by simpa using RA.nil
  | _, _, n + 1, .cons a r => by simpa using RA.cons a (RA.take n r)
theorem RA.ints {K : PySem.W.Frag} {β : Mu} {H : Hp} : ∀ ns : List Int, RA K β H (ns.map V.int) (ns.map D.int)
  | [] => .nil
  | n :: r => .cons (.int n) (RA.ints r)
theorem R.int_inv {K : PySem.W.Frag} {β : Mu} {H : Hp} {v : V} {i : Int} (h : R K β H v (.int i)) : v = .int i := by cases h; rfl
theorem R.bl_inv {K : PySem.W.Frag} {β : Mu} {H : Hp} {v : V} {b : Bool} (h : R K β H v (.bl b)) : v = .bl b := by cases h; rfl
theorem RA.ints_inv {K : PySem.W.Frag} {β : Mu} {H : Hp} : ∀ {ns : List Int} {vs : List V}, RA K β H vs (ns.map D.int) → vs = ns.map V.int
  | [], _, h => by cases h; rfl
  | n :: r, _, h => by
    cases h with
    | cons a b => rw [a.int_inv, RA.ints_inv b]; rfl

/-- the box and the tables of code stand -/
structure Good (T : List (Addr × Str)) (β : Mu) (bx : Int × Int) (H : Hp) : Prop where
  bx : ∀ b, β.box = some b → H b = some (.lst [.int bx.1, .int bx.2])
  ex : ∀ e, e ∈ β.ex → ∃ l, H e = some (.lst l)
  tb : LamX.Tabs T H
theorem Good.ext {T : List (Addr × Str)} {β : Mu} {bx : Int × Int} {H H' : Hp} (g : Good T β bx H) (e : ∀ b o, H b = some o → H' b = some o) : Good T β bx H' :=
  ⟨fun b h => e _ _ (g.bx b h), fun a ha => by
    obtain ⟨l, h⟩ := g.ex a ha
    exact ⟨l, e _ _ h⟩, g.tb.ext e⟩
theorem Good.new {T : List (Addr × Str)} {β : Mu} {bx : Int × Int} {H : Hp} {p : Addr} {o : HO} (g : Good T β bx H) (h : H p = none) : Good T β bx (upd H p o) := g.ext (keep_new h)
theorem Good.ne {T : List (Addr × Str)} {β : Mu} {bx : Int × Int} {H : Hp} {p : Addr} (g : Good T β bx H) (h : H p = none) : β.ok p := by
  refine ⟨fun z => ?_, fun z => ?_⟩
  · have := g.bx p z.symm
    rw [h] at this
    cases this
  · obtain ⟨l, this⟩ := g.ex p z
    rw [h] at this
    cases this

/-- what a piece of the text comes to: a result and the box behind it, an error that keeps data, or: nothing is told -/
inductive Res (α : Type) where
  | ok (a : α) (bx : Int × Int) | err (d : D) (bx : Int × Int) | bad
abbrev Fn (α : Type) := List (Option D) → Int × Int → Res α
def pur {α : Type} (a : α) : Fn α := fun _ bx => .ok a bx
def bnd {α γ : Type} (F : Fn α) (G : α → Fn γ) : Fn γ := fun δ bx => match F δ bx with
  | .ok a bx' => G a δ bx'
  | .err d bx' => .err d bx'
  | .bad => .bad
def lft {α : Type} (o : Option α) : Fn α := fun _ bx => match o with
  | some a => .ok a bx
  | none => .bad
/-- where one stands: the tables, the error's class -/
structure Pm where
  T : List (Addr × Str)
  CR : Addr
def OutE (K : PySem.W.Frag) (P : Pm) (β : Mu) (H : Hp) (d : D) (bx : Int × Int) (E : XK) : Prop :=
  ∀ a v H', Le β H H' → Good P.T β bx H' → H' a = some (.xd [(("at" : Str), v)]) → R K β H' v d → E (.ref P.CR) (some a) H'
/-- the end of an expression -/
def Out (K : PySem.W.Frag) (P : Pm) (β : Mu) (H : Hp) (r : Res D) (Q : VK) (E : XK) : Prop := match r with
  | .ok d bx => ∀ v H', Le β H H' → Good P.T β bx H' → R K β H' v d → Q v H'
  | .err d bx => OutE K P β H d bx E
  | .bad => False
theorem OutE.le {K : PySem.W.Frag} {P : Pm} {β : Mu} {H H1 : Hp} {d : D} {bx : Int × Int} {E : XK} (l : Le β H H1) (h : OutE K P β H d bx E) : OutE K P β H1 d bx E :=
  fun a v H' l' g x r => h a v H' (l.trans l') g x r
theorem Out.le {K : PySem.W.Frag} {P : Pm} {β : Mu} {H H1 : Hp} {r : Res D} {Q : VK} {E : XK} (l : Le β H H1) (h : Out K P β H r Q E) : Out K P β H1 r Q E := by
  cases r with
  | ok d bx => exact fun v H' l' g r => h v H' (l.trans l') g r
  | err d bx => exact OutE.le l h
  | bad => exact h
/-- the slots hold the data -/
structure Ev (K : PySem.W.Frag) (β : Mu) (H : Hp) (σ : L2.St) (δ : List (Option D)) : Prop where
  len : σ.length = δ.length
  at_ : ∀ (i : Nat) (d : D), δ[i]? = some (some d) → ∃ v, σ[i]? = some (some v) ∧ R K β H v d
theorem Ev.le {K : PySem.W.Frag} {β : Mu} {H H' : Hp} {σ : L2.St} {δ : List (Option D)} (e : Ev K β H σ δ) (l : Le β H H') : Ev K β H' σ δ :=
  ⟨e.len, fun i d h => by
    obtain ⟨v, h1, h2⟩ := e.at_ i d h
    exact ⟨v, h1, h2.le l⟩⟩
theorem Ev.set {K : PySem.W.Frag} {β : Mu} {H : Hp} {σ : L2.St} {δ : List (Option D)} (e : Ev K β H σ δ) (i : Nat) {v : V} {d : D} (r : R K β H v d) : Ev K β H (σ.set i (some v)) (δ.set i (some d)) := by
  refine ⟨by simp [e.len], fun j d' h => ?_⟩
  by_cases hj : i = j
  · subst hj
    by_cases hl : i < δ.length
    · rw [List.getElem?_set_self hl] at h
      cases h
      exact ⟨v, List.getElem?_set_self (by rw [e.len]; exact hl), r⟩
    · rw [List.getElem?_eq_none (by simp; omega)] at h
      cases h
  · rw [List.getElem?_set_ne hj] at h
    obtain ⟨v', h1, h2⟩ := e.at_ j d' h
    exact ⟨v', by rw [List.getElem?_set_ne hj]; exact h1, h2⟩

section
variable {K : PySem.W.Frag} {P : Pm} {E : XK}
def tD (K : PySem.W.Frag) (P : Pm) (E : XK) (F : Fn D) : TE := fun σ H Q => ∃ β δ bx, Ev K β H σ δ ∧ Good P.T β bx H ∧ Out K P β H (F δ bx) Q E
/-- lists of data -/
def OutA (K : PySem.W.Frag) (P : Pm) (β : Mu) (H : Hp) (r : Res (List D)) (Q : List V → Hp → Prop) (E : XK) : Prop := match r with
  | .ok ds bx => ∀ vs H', Le β H H' → Good P.T β bx H' → RA K β H' vs ds → Q vs H'
  | .err d bx => OutE K P β H d bx E
  | .bad => False
def tDA (K : PySem.W.Frag) (P : Pm) (E : XK) (F : Fn (List D)) : TA := fun σ H Q => ∃ β δ bx, Ev K β H σ δ ∧ Good P.T β bx H ∧ OutA K P β H (F δ bx) Q E
/-- tests -/
def OutT (K : PySem.W.Frag) (P : Pm) (β : Mu) (H : Hp) (r : Res Bool) (Q : Bool → Hp → Prop) (E : XK) : Prop := match r with
  | .ok b bx => ∀ H', Le β H H' → Good P.T β bx H' → Q b H'
  | .err d bx => OutE K P β H d bx E
  | .bad => False
def tDT (K : PySem.W.Frag) (P : Pm) (E : XK) (F : Fn Bool) : TT := fun σ H Q => ∃ β δ bx, Ev K β H σ δ ∧ Good P.T β bx H ∧ OutT K P β H (F δ bx) Q E

theorem at_bind {F : Fn D} {G : D → Fn D} {β : Mu} {δ : List (Option D)} {bx : Int × Int} {σ : L2.St} {H : Hp} {Q Q1 : VK} (ev : Ev K β H σ δ) (g : Good P.T β bx H) (o : Out K P β H (bnd F G δ bx) Q E)
    (k : ∀ bx' x d H1, Le β H H1 → Good P.T β bx' H1 → R K β H1 x d → Out K P β H1 (G d δ bx') Q E → Q1 x H1) : tD K P E F σ H Q1 := by
  refine ⟨β, δ, bx, ev, g, ?_⟩
  unfold bnd at o
  cases hF : F δ bx with
  | ok d bx' =>
    rw [hF] at o
    exact fun v H' l g' r => k bx' v d H' l g' r (Out.le l o)
  | err d bx' =>
    rw [hF] at o
    exact o
  | bad =>
    rw [hF] at o
    exact o
/-- the same, whatever the end is -/
theorem at_bindX {α : Type} {F : Fn D} {G : D → Fn α} {β : Mu} {δ : List (Option D)} {bx : Int × Int} {σ : L2.St} {H : Hp} {Q1 : VK} (ev : Ev K β H σ δ) (g : Good P.T β bx H)
    (he : ∀ d bx', bnd F G δ bx = .err d bx' → OutE K P β H d bx' E) (hb : bnd F G δ bx = .bad → False)
    (k : ∀ bx' x d H1, Le β H H1 → Good P.T β bx' H1 → R K β H1 x d → bnd F G δ bx = G d δ bx' → Q1 x H1) : tD K P E F σ H Q1 := by
  refine ⟨β, δ, bx, ev, g, ?_⟩
  unfold bnd at he hb k
  cases hF : F δ bx with
  | ok d bx' =>
    rw [hF] at k
    exact fun v H' l g' r => k bx' v d H' l g' r rfl
  | err d bx' =>
    rw [hF] at he
    exact he d bx' rfl
  | bad =>
    rw [hF] at hb
    exact hb rfl
end
theorem pe_imp {X : Cx} {e : Expr} {t t' : TE} (h : PE X e t) (k : ∀ σ H Q, t' σ H Q → t σ H Q) : PE X e t' := ⟨fun pins s σ H Q I q => h.run pins s σ H Q I (k σ H Q q)⟩
theorem pa_imp {X : Cx} {e : List Expr} {t t' : TA} (h : PA X e t) (k : ∀ σ H Q, t' σ H Q → t σ H Q) : PA X e t' := ⟨fun pos pins s σ H Q I q => h.run pos pins s σ H Q I (k σ H Q q)⟩
theorem pt_imp {X : Cx} {e : Expr} {t t' : TT} (h : PT X e t) (k : ∀ σ H Q, t' σ H Q → t σ H Q) : PT X e t' := ⟨fun pins s σ H Q I q => h.run pins s σ H Q I (k σ H Q q)⟩
theorem pw_imp {X : Cx} {e : Expr} {t t' : TT} (h : PW X e t) (k : ∀ σ H Q, t' σ H Q → t σ H Q) : PW X e t' := ⟨fun w pins s σ H Q I q => h.run w pins s σ H Q I (k σ H Q q)⟩
theorem ps_imp {X : Cx} {e : Stmt} {t t' : TS} (h : PS X e t) (k : ∀ D σ H, t' D σ H → t D σ H) : PS X e t' := ⟨fun pins s σ H D I q => h.run pins s σ H D I (k D σ H q)⟩
theorem pss_imp {X : Cx} {e : List Stmt} {t t' : TS} (h : PSs X e t) (k : ∀ D σ H, t' D σ H → t D σ H) : PSs X e t' := ⟨fun pins s σ H D I q => h.run pins s σ H D I (k D σ H q)⟩

abbrev ED (X : Cx) (P : Pm) (E : XK) (e : Expr) (F : Fn D) : Prop := PE X e (tD X.K P E F)
abbrev EA (X : Cx) (P : Pm) (E : XK) (es : List Expr) (F : Fn (List D)) : Prop := PA X es (tDA X.K P E F)
abbrev ET (X : Cx) (P : Pm) (E : XK) (e : Expr) (F : Fn Bool) : Prop := PT X e (tDT X.K P E F)
end Mi

set_option Elab.async false
set_option linter.all false
set_option maxRecDepth 100000
set_option maxHeartbeats 4000000
namespace Mi
open PySem PySem.Spec PyProof.Rows L2
section
variable {X : Cx} {P : Pm} {E : XK} {pos : Pos}

/-! ### names, constants -/
def fVar (i : Nat) : Fn D := fun δ bx => match δ[i]? with
  | some (some d) => .ok d bx
  | _ => .bad
theorem ed_var (i : Nat) {x : Str} (hN : X.N[i]? = some x := by rfl) (hv : Vis X.env.scope x := by first | exact Or.inl rfl | exact Or.inr (Or.inl rfl) | exact Or.inr (Or.inr rfl)) (hd : (x == ("__debug__" : Str)) = false := by decide)
    (hcd : (x == ("__classdict__" : Str)) = false := by decide) : ED X P E (.Name x pos) (fVar i) := by
  refine pe_imp (pe_var hN hv hd hcd) fun σ H Q ⟨β, δ, bx, ev, g, o⟩ => ?_
  unfold fVar at o
  split at o
  · rename_i d hd
    obtain ⟨v, h1, h2⟩ := ev.at_ i d hd
    exact ⟨v, h1, o v H .refl g h2⟩
  · exact o.elim
theorem ed_c {e : Expr} {v : V} {d : D} (h : PE X e (tC v)) (r : ∀ β H, R X.K β H v d) : ED X P E e (pur d) :=
  pe_imp h fun _ H _ ⟨β, _, _, _, g, o⟩ => o v H .refl g (r β H)
theorem ed_int {i : Int} {j} : ED X P E (.Constant (.int i) j pos) (pur (.int i)) := ed_c pe_int fun _ _ => .int i
theorem ed_bl {b : Bool} {j} : ED X P E (.Constant (.bool b) j pos) (pur (.bl b)) := ed_c pe_bl fun _ _ => .bl b
theorem ed_non {j} : ED X P E (.Constant .none j pos) (pur .non) := ed_c pe_non fun _ _ => .non
theorem ed_str {x : Str} {j} : ED X P E (.Constant (.str x) j pos) (pur (.str x)) := ed_c pe_str fun _ _ => .str x
theorem ed_glob {x : Str} {i : Int} {t : Tok} (hg : Gl X x) (hm : X.mg x = some (.int i t)) (hd : (x == ("__debug__" : Str)) = false := by decide) : ED X P E (.Name x pos) (pur (.int i)) :=
  ed_c (v := .int i) (pe_glob hg hm ⟨t, rfl⟩ hd) fun _ _ => .int i

/-! ### two operands -/
def f2 (f : Int × Int → D → D → Option D) (F G : Fn D) : Fn D := bnd F fun d => bnd G fun e => fun δ bx => lft (f bx d e) δ bx
def OpD (X : Cx) (P : Pm) (r : R2) (f : Int × Int → D → D → Option D) : Prop := ∀ (β : Mu) (bx : Int × Int) (H : Hp) (x y : V) (d e z : D) (Q : VK), Good P.T β bx H → R X.K β H x d → R X.K β H y e → f bx d e = some z →
  (∀ v H', Le β H H' → Good P.T β bx H' → R X.K β H' v z → Q v H') → r x y H Q
theorem ed_tOp {r : R2} {f : Int × Int → D → D → Option D} {F G : Fn D} (hr : OpD X P r f) : ∀ σ H Q, tD X.K P E (f2 f F G) σ H Q → tOp r (tD X.K P E F) (tD X.K P E G) σ H Q := by
  rintro σ H Q ⟨β, δ, bx, ev, g, o⟩
  refine at_bind ev g o fun bx1 x d H1 l1 g1 r1 o1 => at_bind (ev.le l1) g1 o1 fun bx2 y e H2 l2 g2 r2 o2 => ?_
  cases hf : f bx2 d e with
  | none =>
    rw [hf] at o2
    exact (show False from o2).elim
  | some z =>
    rw [hf] at o2
    exact hr β bx2 H2 x y d e z Q g2 (r1.le l2) r2 hf fun v H' l g r => o2 v H' l g r
theorem ed_bin {op : Operator} {r : R2} {f : Int × Int → D → D → Option D} {a b : Expr} {F G : Fn D} (ho : OpR X (binaryOp op) r) (hr : OpD X P r f) (ha : ED X P E a F) (hb : ED X P E b G) : ED X P E (.BinOp a op b pos) (f2 f F G) :=
  pe_imp (pe_op ho ha hb) (ed_tOp hr)
theorem ed_cmp {op : CmpOp} {r : R2} {f : Int × Int → D → D → Option D} {a b : Expr} {F G : Fn D} (ho : OpR X (compareOp op) r) (hr : OpD X P r f) (ha : ED X P E a F) (hb : ED X P E b G) (hm : behindInMarks op b = false) : ED X P E (.Compare a [op] [b] pos) (f2 f F G) :=
  pe_imp (pe_cmpR ho ha hb hm) (ed_tOp hr)

def iI (C : Int → Int → Bool) (g : Int → Int → Int) : Int × Int → D → D → Option D
  | _, .int i, .int j => if C i j = true then some (.int (g i j)) else none
  | _, _, _ => none
def iB (p : Int → Int → Bool) : Int × Int → D → D → Option D
  | _, .int i, .int j => some (.bl (p i j))
  | _, _, _ => none
theorem iI_inv {C : Int → Int → Bool} {g : Int → Int → Int} {bx : Int × Int} {d e z : D} (h : iI C g bx d e = some z) : ∃ i j, d = .int i ∧ e = .int j ∧ C i j = true ∧ z = .int (g i j) := by
  cases d <;> cases e <;> simp [iI] at h
  rename_i i j
  exact ⟨i, j, rfl, rfl, h.1, h.2.symm⟩
theorem opd_I {C' : Int → Int → Prop} {C : Int → Int → Bool} {g : Int → Int → Int} (hC : ∀ i j, C i j = true → C' i j) : OpD X P (rI C' fun i j => .int (g i j)) (iI C g) := by
  intro β bx H x y d e z Q gd rx ry h k
  obtain ⟨i, j, rfl, rfl, hc, rfl⟩ := iI_inv h
  exact ⟨i, j, rx.int_inv, ry.int_inv, hC i j hc, k _ H .refl gd (.int _)⟩
theorem opd_I0 {g : Int → Int → Int} : OpD X P (rI0 fun i j => .int (g i j)) (iI (fun _ _ => true) g) := by
  intro β bx H x y d e z Q gd rx ry h k
  obtain ⟨i, j, rfl, rfl, hc, rfl⟩ := iI_inv h
  exact ⟨i, j, rx.int_inv, ry.int_inv, k _ H .refl gd (.int _)⟩
theorem iB_inv {p : Int → Int → Bool} {bx : Int × Int} {d e z : D} (h : iB p bx d e = some z) : ∃ i j, d = .int i ∧ e = .int j ∧ z = .bl (p i j) := by
  cases d <;> cases e <;> simp [iB] at h
  rename_i i j
  exact ⟨i, j, rfl, rfl, h.symm⟩
theorem opd_B {p : Int → Int → Bool} : OpD X P (rI0 fun i j => .bl (p i j)) (iB p) := by
  intro β bx H x y d e z Q gd rx ry h k
  obtain ⟨i, j, rfl, rfl, rfl⟩ := iB_inv h
  exact ⟨i, j, rx.int_inv, ry.int_inv, k _ H .refl gd (.bl _)⟩
abbrev cAdd := iI (fun _ _ => true) fun i j => i + j
abbrev cSub := iI (fun _ _ => true) fun i j => i - j
abbrev cMul := iI (fun i j => decide (-(2 ^ 64) < i ∧ i < 2 ^ 64) || decide (-(2 ^ 64) < j ∧ j < 2 ^ 64)) fun i j => i * j
abbrev cDiv := iI (fun _ j => decide (0 < j ∧ j < 1073741824)) fun i j => i / j
abbrev cMod := iI (fun _ j => decide (0 < j)) fun i j => i % j
abbrev cPow := iI (fun i j => decide (0 ≤ j ∧ j ≤ 1000000 ∧ i.natAbs < 2 ^ 64)) fun i j => i ^ j.toNat
variable {a b : Expr} {F G : Fn D}
theorem ed_add (ha : ED X P E a F) (hb : ED X P E b G) : ED X P E (.BinOp a .Add b pos) (f2 cAdd F G) := ed_bin op_add opd_I0 ha hb
theorem ed_sub (ha : ED X P E a F) (hb : ED X P E b G) : ED X P E (.BinOp a .Sub b pos) (f2 cSub F G) := ed_bin op_sub opd_I0 ha hb
theorem ed_mul (ha : ED X P E a F) (hb : ED X P E b G) : ED X P E (.BinOp a .Mult b pos) (f2 cMul F G) := ed_bin op_mul (opd_I fun i j h => by
  rcases Bool.or_eq_true_iff.mp h with h | h
  · exact .inl (of_decide_eq_true h)
  · exact .inr (of_decide_eq_true h)) ha hb
theorem ed_div (ha : ED X P E a F) (hb : ED X P E b G) : ED X P E (.BinOp a .FloorDiv b pos) (f2 cDiv F G) := ed_bin op_fdiv (opd_I fun i j h => (of_decide_eq_true h : (0 : Int) < j ∧ j < 1073741824)) ha hb
theorem ed_mod (ha : ED X P E a F) (hb : ED X P E b G) : ED X P E (.BinOp a .Mod b pos) (f2 cMod F G) := ed_bin op_mod (opd_I fun i j h => of_decide_eq_true h) ha hb
theorem ed_pow (ha : ED X P E a F) (hb : ED X P E b G) : ED X P E (.BinOp a .Pow b pos) (f2 cPow F G) := ed_bin op_pow (opd_I fun i j h => (of_decide_eq_true h : (0 : Int) ≤ j ∧ j ≤ 1000000 ∧ i.natAbs < 2 ^ 64)) ha hb
theorem ed_lt (ha : ED X P E a F) (hb : ED X P E b G) : ED X P E (.Compare a [.Lt] [b] pos) (f2 (iB fun i j => decide (i < j)) F G) := ed_cmp op_lt opd_B ha hb (nomark _)
theorem ed_le (ha : ED X P E a F) (hb : ED X P E b G) : ED X P E (.Compare a [.LtE] [b] pos) (f2 (iB fun i j => decide (i ≤ j)) F G) := ed_cmp op_le opd_B ha hb (nomark _)
theorem ed_gt (ha : ED X P E a F) (hb : ED X P E b G) : ED X P E (.Compare a [.Gt] [b] pos) (f2 (iB fun i j => decide (j < i)) F G) := ed_cmp op_gt opd_B ha hb (nomark _)
theorem ed_ge (ha : ED X P E a F) (hb : ED X P E b G) : ED X P E (.Compare a [.GtE] [b] pos) (f2 (iB fun i j => decide (j ≤ i)) F G) := ed_cmp op_ge opd_B ha hb (nomark _)

/-! ### one operand -/
def f1 (f : D → Option D) (F : Fn D) : Fn D := bnd F fun d => lft (f d)
def UnD (X : Cx) (P : Pm) (r : V → Hp → VK → Prop) (f : D → Option D) : Prop := ∀ (β : Mu) (bx : Int × Int) (H : Hp) (x : V) (d z : D) (Q : VK), Good P.T β bx H → R X.K β H x d → f d = some z →
  (∀ v H', Le β H H' → Good P.T β bx H' → R X.K β H' v z → Q v H') → r x H Q
theorem ed_t1 {r : V → Hp → VK → Prop} {f : D → Option D} {F : Fn D} (hr : UnD X P r f) : ∀ σ H Q, tD X.K P E (f1 f F) σ H Q → (tD X.K P E F) σ H fun x H1 => r x H1 Q := by
  rintro σ H Q ⟨β, δ, bx, ev, g, o⟩
  refine at_bind ev g o fun bx1 x d H1 l1 g1 r1 o1 => ?_
  cases hf : f d with
  | none =>
    rw [hf] at o1
    exact (show False from o1).elim
  | some z =>
    rw [hf] at o1
    exact hr β bx1 H1 x d z Q g1 r1 hf fun v H' l g r => o1 v H' l g r
def cNeg : D → Option D
  | .int i => some (.int (-i))
  | _ => none
theorem ed_neg (ha : ED X P E a F) : ED X P E (.UnaryOp .USub a pos) (f1 cNeg F) := pe_imp (pe_un un_neg ha) (ed_t1 fun β bx H x d z Q g r h k => by
  cases d <;> simp [cNeg] at h
  subst h
  exact ⟨_, r.int_inv, k _ H .refl g (.int _)⟩)
def cNot : D → Option D
  | .bl b => some (.bl (!b))
  | _ => none
theorem ed_not (ha : ED X P E a F) : ED X P E (.UnaryOp .Not a pos) (f1 cNot F) := pe_imp (pe_not ha) (ed_t1 (r := fun x H Q => ∃ c, x = .bl c ∧ Q (.bl (!c)) H) fun β bx H x d z Q g r h k => by
  cases d <;> simp [cNot] at h
  subst h
  exact ⟨_, r.bl_inv, k _ H .refl g (.bl _)⟩)
def isNon : D → Bool
  | .non => true
  | _ => false
theorem isNon_of {K : PySem.W.Frag} {β : Mu} {H : Hp} {v : V} {d : D} (r : R K β H v d) : decide (v = .non) = isNon d := by
  cases r <;> simp [isNon]
def cIsN : D → Option D := fun d => some (.bl (isNon d))
def cNotN : D → Option D := fun d => some (.bl (!isNon d))
theorem ed_isN {j pos'} (ha : ED X P E a F) : ED X P E (.Compare a [.Is] [.Constant .none j pos'] pos) (f1 cIsN F) := pe_imp (pe_cmp (pc_isN ha)) (ed_t1 (r := fun x H Q => Q (.bl (decide (x = .non))) H) fun β bx H x d z Q g r h k => by
  cases h
  rw [isNon_of r]
  exact k _ H .refl g (.bl _))
theorem ed_notN {j pos'} (ha : ED X P E a F) : ED X P E (.Compare a [.IsNot] [.Constant .none j pos'] pos) (f1 cNotN F) := pe_imp (pe_cmp (pc_notN ha)) (ed_t1 (r := fun x H Q => Q (.bl (!decide (x = .non))) H) fun β bx H x d z Q g r h k => by
  cases h
  rw [isNon_of r]
  exact k _ H .refl g (.bl _))

/-! ### and, or, if -/
def toB : D → Option Bool
  | .bl b => some b
  | _ => none
/-- a result's truth, the rest by it -/
def fIfB {α : Type} (F : Fn D) (A B : Fn α) : Fn α := bnd F fun d => fun δ bx => match toB d with
  | some true => A δ bx
  | some false => B δ bx
  | none => .bad
theorem toB_inv {d : D} {b : Bool} (h : toB d = some b) : d = .bl b := by
  cases d <;> simp [toB] at h
  rw [h]
variable {rest : List Expr}
theorem ed_one {op} (h : ED X P E a F) : ED X P E (.BoolOp op [a] pos) F := pe_one h
theorem ed_and (ha : ED X P E a F) (hb : ED X P E (.BoolOp .And (b :: rest) pos) G) : ED X P E (.BoolOp .And (a :: b :: rest) pos) (fIfB F G (pur (.bl false))) := by
  refine pe_imp (pe_and ha hb) ?_
  rintro σ H Q ⟨β, δ, bx, ev, g, o⟩
  refine at_bind ev g o fun bx1 x d H1 l1 g1 r1 o1 => ?_
  split at o1
  · rename_i h
    cases toB_inv h
    exact ⟨true, r1.bl_inv, iteT ⟨β, δ, bx1, ev.le l1, g1, o1⟩⟩
  · rename_i h
    cases toB_inv h
    exact ⟨false, r1.bl_inv, iteF (o1 _ H1 .refl g1 (.bl _))⟩
  · exact o1.elim
theorem ed_or (ha : ED X P E a F) (hb : ED X P E (.BoolOp .Or (b :: rest) pos) G) : ED X P E (.BoolOp .Or (a :: b :: rest) pos) (fIfB F (pur (.bl true)) G) := by
  refine pe_imp (pe_or ha hb) ?_
  rintro σ H Q ⟨β, δ, bx, ev, g, o⟩
  refine at_bind ev g o fun bx1 x d H1 l1 g1 r1 o1 => ?_
  split at o1
  · rename_i h
    cases toB_inv h
    exact ⟨true, r1.bl_inv, iteT (o1 _ H1 .refl g1 (.bl _))⟩
  · rename_i h
    cases toB_inv h
    exact ⟨false, r1.bl_inv, iteF ⟨β, δ, bx1, ev.le l1, g1, o1⟩⟩
  · exact o1.elim

/-! ### tests -/
theorem att_bind {K : PySem.W.Frag} {α : Type} {F : Fn D} {Gt : D → Fn Bool} {β : Mu} {δ : List (Option D)} {bx : Int × Int} {σ : L2.St} {H : Hp} {Q : Bool → Hp → Prop} {Q1 : VK} (ev : Ev K β H σ δ) (g : Good P.T β bx H) (o : OutT K P β H (bnd F Gt δ bx) Q E)
    (k : ∀ bx' x d H1, Le β H H1 → Good P.T β bx' H1 → R K β H1 x d → OutT K P β H1 (Gt d δ bx') Q E → Q1 x H1) : tD K P E F σ H Q1 := by
  refine ⟨β, δ, bx, ev, g, ?_⟩
  unfold bnd at o
  cases hF : F δ bx with
  | ok d bx' =>
    rw [hF] at o
    refine fun v H' l g' r => k bx' v d H' l g' r ?_
    dsimp only at o
    cases hr : Gt d δ bx' with
    | ok b bx'' =>
      rw [hr] at o
      exact fun H'' l2 g2 => o H'' (l.trans l2) g2
    | err e bx'' =>
      rw [hr] at o
      exact OutE.le l o
    | bad =>
      rw [hr] at o
      exact o
  | err d bx' =>
    rw [hF] at o
    exact o
  | bad =>
    rw [hF] at o
    exact o
/-- data as a test -/
def fB (F : Fn D) : Fn Bool := bnd F fun d => lft (toB d)
theorem tB_of {σ : L2.St} {H : Hp} {Q : Bool → Hp → Prop} (h : tDT X.K P E (fB F) σ H Q) : tD X.K P E F σ H fun x H1 => ∃ c, x = .bl c ∧ Q c H1 := by
  obtain ⟨β, δ, bx, ev, g, o⟩ := h
  refine att_bind (α := Unit) ev g o fun bx1 x d H1 l1 g1 r1 o1 => ?_
  cases hb : toB d with
  | none =>
    rw [hb] at o1
    exact (show False from o1).elim
  | some c =>
    rw [hb] at o1
    cases toB_inv hb
    exact ⟨c, r1.bl_inv, o1 H1 .refl g1⟩
/-- a name, a call as a test -/
theorem et_val {e : Expr} (h : ED X P E e F) (he : ∀ whole, isTrue e X.env whole = (do let v ← whole; standAt e.pos; holding [v] (truthy v)) := by intro _; rfl) : ET X P E e (fB F) :=
  pt_imp (pt_val h he) fun _ _ _ q => tB_of q
theorem et_cmp {op : CmpOp} {r : R2} {f : Int × Int → D → D → Option D} (ho : OpR X (compareOp op) r) (hr : OpD X P r f) (ha : ED X P E a F) (hb : ED X P E b G) (hm : behindInMarks op b = false) : ET X P E (.Compare a [op] [b] pos) (fB (f2 f F G)) :=
  pt_imp (pt_cmpR ho ha hb hm) fun σ H Q q => ed_tOp hr σ H _ (tB_of q)
theorem et_lt (ha : ED X P E a F) (hb : ED X P E b G) : ET X P E (.Compare a [.Lt] [b] pos) (fB (f2 (iB fun i j => decide (i < j)) F G)) := et_cmp op_lt opd_B ha hb (nomark _)
theorem et_le (ha : ED X P E a F) (hb : ED X P E b G) : ET X P E (.Compare a [.LtE] [b] pos) (fB (f2 (iB fun i j => decide (i ≤ j)) F G)) := et_cmp op_le opd_B ha hb (nomark _)
theorem et_gt (ha : ED X P E a F) (hb : ED X P E b G) : ET X P E (.Compare a [.Gt] [b] pos) (fB (f2 (iB fun i j => decide (j < i)) F G)) := et_cmp op_gt opd_B ha hb (nomark _)
theorem et_ge (ha : ED X P E a F) (hb : ED X P E b G) : ET X P E (.Compare a [.GtE] [b] pos) (fB (f2 (iB fun i j => decide (j ≤ i)) F G)) := et_cmp op_ge opd_B ha hb (nomark _)
theorem et_isN {j pos'} (ha : ED X P E a F) : ET X P E (.Compare a [.Is] [.Constant .none j pos'] pos) (fB (f1 cIsN F)) :=
  pt_imp (pt_cmp (pc_isN ha)) fun σ H Q q => ed_t1 (r := fun x H Q => Q (.bl (decide (x = .non))) H) (fun β bx H x d z Q g r h k => by
    cases h
    rw [isNon_of r]
    exact k _ H .refl g (.bl _)) σ H _ (tB_of q)
theorem et_notN {j pos'} (ha : ED X P E a F) : ET X P E (.Compare a [.IsNot] [.Constant .none j pos'] pos) (fB (f1 cNotN F)) :=
  pt_imp (pt_cmp (pc_notN ha)) fun σ H Q q => ed_t1 (r := fun x H Q => Q (.bl (!decide (x = .non))) H) (fun β bx H x d z Q g r h k => by
    cases h
    rw [isNon_of r]
    exact k _ H .refl g (.bl _)) σ H _ (tB_of q)

/-- tests one behind another -/
def fIfT {α : Type} (C : Fn Bool) (A B : Fn α) : Fn α := bnd C fun c => if c = true then A else B
theorem atB_bind {K : PySem.W.Frag} {C : Fn Bool} {Gt : Bool → Fn Bool} {β : Mu} {δ : List (Option D)} {bx : Int × Int} {σ : L2.St} {H : Hp} {Q Q1 : Bool → Hp → Prop} (ev : Ev K β H σ δ) (g : Good P.T β bx H) (o : OutT K P β H (bnd C Gt δ bx) Q E)
    (k : ∀ bx' c H1, Le β H H1 → Good P.T β bx' H1 → OutT K P β H1 (Gt c δ bx') Q E → Q1 c H1) : tDT K P E C σ H Q1 := by
  refine ⟨β, δ, bx, ev, g, ?_⟩
  unfold bnd at o
  cases hF : C δ bx with
  | ok d bx' =>
    rw [hF] at o
    refine fun H' l g' => k bx' d H' l g' ?_
    dsimp only at o
    cases hr : Gt d δ bx' with
    | ok b bx'' =>
      rw [hr] at o
      exact fun H'' l2 g2 => o H'' (l.trans l2) g2
    | err e bx'' =>
      rw [hr] at o
      exact OutE.le l o
    | bad =>
      rw [hr] at o
      exact o
  | err d bx' =>
    rw [hF] at o
    exact o
  | bad =>
    rw [hF] at o
    exact o
abbrev EW (X : Cx) (P : Pm) (E : XK) (e : Expr) (F : Fn Bool) : Prop := PW X e (tDT X.K P E F)
variable {A B : Fn Bool}
theorem ew_and1 (ha : ET X P E a A) : EW X P E (.BoolOp .And [a] pos) A := pw_and1 ha
theorem ew_or1 (ha : ET X P E a A) : EW X P E (.BoolOp .Or [a] pos) A := pw_or1 ha
theorem ew_and (ha : ET X P E a A) (hb : EW X P E (.BoolOp .And (b :: rest) pos) B) : EW X P E (.BoolOp .And (a :: b :: rest) pos) (fIfT A B (pur false)) := by
  refine pw_imp (pw_and ha hb) ?_
  rintro σ H Q ⟨β, δ, bx, ev, g, o⟩
  refine atB_bind ev g o fun bx1 c H1 l1 g1 o1 => ?_
  cases c with
  | true => exact iteT ⟨β, δ, bx1, ev.le l1, g1, by simpa using o1⟩
  | false => exact iteF ((show OutT X.K P β H1 (.ok false bx1) Q E by simpa [pur] using o1) H1 .refl g1)
theorem ew_or (ha : ET X P E a A) (hb : EW X P E (.BoolOp .Or (b :: rest) pos) B) : EW X P E (.BoolOp .Or (a :: b :: rest) pos) (fIfT A (pur true) B) := by
  refine pw_imp (pw_or ha hb) ?_
  rintro σ H Q ⟨β, δ, bx, ev, g, o⟩
  refine atB_bind ev g o fun bx1 c H1 l1 g1 o1 => ?_
  cases c with
  | false => exact iteF ⟨β, δ, bx1, ev.le l1, g1, by simpa using o1⟩
  | true => exact iteT ((show OutT X.K P β H1 (.ok true bx1) Q E by simpa [pur] using o1) H1 .refl g1)
theorem et_w {e : Expr} (h : EW X P E e A) : ET X P E e A := h.pt
def fNot (A : Fn Bool) : Fn Bool := bnd A fun c => pur (!c)
theorem et_not (ha : ET X P E a A) : ET X P E (.UnaryOp .Not a pos) (fNot A) := by
  refine pt_imp (pt_not ha) ?_
  rintro σ H Q ⟨β, δ, bx, ev, g, o⟩
  exact atB_bind ev g o fun bx1 c H1 l1 g1 o1 => o1 H1 .refl g1
/-- a if c else b -/
theorem atT_bind {K : PySem.W.Frag} {C : Fn Bool} {Gt : Bool → Fn D} {β : Mu} {δ : List (Option D)} {bx : Int × Int} {σ : L2.St} {H : Hp} {Q : VK} {Q1 : Bool → Hp → Prop} (ev : Ev K β H σ δ) (g : Good P.T β bx H) (o : Out K P β H (bnd C Gt δ bx) Q E)
    (k : ∀ bx' c H1, Le β H H1 → Good P.T β bx' H1 → Out K P β H1 (Gt c δ bx') Q E → Q1 c H1) : tDT K P E C σ H Q1 := by
  refine ⟨β, δ, bx, ev, g, ?_⟩
  unfold bnd at o
  cases hF : C δ bx with
  | ok d bx' =>
    rw [hF] at o
    exact fun H' l g' => k bx' d H' l g' (Out.le l o)
  | err d bx' =>
    rw [hF] at o
    exact o
  | bad =>
    rw [hF] at o
    exact o
theorem ed_ifExp {c : Expr} {C : Fn Bool} (hc : ET X P E c C) (ha : ED X P E a F) (hb : ED X P E b G) : ED X P E (.IfExp c a b pos) (fIfT C F G) := by
  refine pe_imp (pe_ifExp hc ha hb) ?_
  rintro σ H Q ⟨β, δ, bx, ev, g, o⟩
  refine atT_bind ev g o fun bx1 c H1 l1 g1 o1 => ?_
  cases c with
  | true => exact iteT ⟨β, δ, bx1, ev.le l1, g1, by simpa using o1⟩
  | false => exact iteF ⟨β, δ, bx1, ev.le l1, g1, by simpa using o1⟩
/-- a ∘ b ∘ c on ints -/
def fChain (p q : Int → Int → Bool) (F G J : Fn D) : Fn D := bnd F fun d => bnd G fun e => fun δ bx => match iB p bx d e with
  | some (.bl true) => bnd J (fun z => fun δ bx => lft (iB q bx e z) δ bx) δ bx
  | some (.bl false) => .ok (.bl false) bx
  | _ => .bad
theorem ed_tChain {p q : Int → Int → Bool} {J : Fn D} : ∀ σ H Q, tD X.K P E (fChain p q F G J) σ H Q → tChain (rI0 fun i j => .bl (p i j)) (rI0 fun i j => .bl (q i j)) (tD X.K P E F) (tD X.K P E G) (tD X.K P E J) σ H Q := by
  rintro σ H Q ⟨β, δ, bx, ev, g, o⟩
  refine at_bind ev g o fun bx1 x d H1 l1 g1 r1 o1 => at_bind (ev.le l1) g1 o1 fun bx2 y e H2 l2 g2 r2 o2 => ?_
  split at o2
  · rename_i h0
    have h := h0
    obtain ⟨i, j, rfl, rfl, _⟩ := iB_inv h0
    refine ⟨i, j, (r1.le l2).int_inv, r2.int_inv, true, ?_, ?_⟩
    · exact congrArg V.bl (D.bl.inj (Option.some.inj (show some (D.bl (p i j)) = some (D.bl true) by first | exact h | exact h0)))
    refine iteT (at_bind ((ev.le l1).le l2) g2 o2 fun bx3 z f H3 l3 g3 r3 o3 => ?_)
    cases hz : iB q bx3 (.int j) f with
    | none =>
      rw [hz] at o3
      exact (show False from o3).elim
    | some w =>
      rw [hz] at o3
      obtain ⟨j', k', e1, rfl, rfl⟩ := iB_inv hz
      cases e1
      exact ⟨j, k', (r2.le l3).int_inv, r3.int_inv, o3 _ H3 .refl g3 (.bl _)⟩
  · rename_i h0
    have h := h0
    obtain ⟨i, j, rfl, rfl, _⟩ := iB_inv h0
    refine ⟨i, j, (r1.le l2).int_inv, r2.int_inv, false, ?_, iteF (o2 _ H2 .refl g2 (.bl _))⟩
    exact congrArg V.bl (D.bl.inj (Option.some.inj (show some (D.bl (p i j)) = some (D.bl false) by first | exact h | exact h0)))
  · exact o2.elim
section
variable {c : Expr} {J : Fn D}
theorem ed_chain {op op' : CmpOp} {p q : Int → Int → Bool} (ho : OpR X (compareOp op) (rI0 fun i j => .bl (p i j))) (ho' : OpR X (compareOp op') (rI0 fun i j => .bl (q i j))) (ha : ED X P E a F) (hb : ED X P E b G) (hc : ED X P E c J)
    (hm : lastMarks [op, op'] [b, c] = false := by with_unfolding_all rfl) : ED X P E (.Compare a [op, op'] [b, c] pos) (fChain p q F G J) := pe_imp (pe_chain ho ho' ha hb hc hm) ed_tChain
theorem et_chain {op op' : CmpOp} {p q : Int → Int → Bool} (ho : OpR X (compareOp op) (rI0 fun i j => .bl (p i j))) (ho' : OpR X (compareOp op') (rI0 fun i j => .bl (q i j))) (ha : ED X P E a F) (hb : ED X P E b G) (hc : ED X P E c J)
    (hm : lastMarks [op, op'] [b, c] = false := by with_unfolding_all rfl) : ET X P E (.Compare a [op, op'] [b, c] pos) (fB (fChain p q F G J)) := pt_imp (pt_chain ho ho' ha hb hc hm) fun σ H Q h => ed_tChain σ H _ (tB_of h)
end
end
end Mi

set_option Elab.async false
set_option linter.all false
set_option maxRecDepth 100000
set_option maxHeartbeats 4000000
namespace Mi
open PySem PySem.Spec PyProof.Rows L2
/-! ### any end -/
def OutX {α : Type} (P : Pm) (K : PySem.W.Frag) (β : Mu) (H : Hp) (r : Res α) (E : XK) (k : α → Int × Int → Hp → Prop) : Prop := match r with
  | .ok a bx => ∀ H', Le β H H' → Good P.T β bx H' → k a bx H'
  | .err d bx => OutE K P β H d bx E
  | .bad => False
section
variable {K : PySem.W.Frag} {P : Pm} {E : XK} {β : Mu} {δ : List (Option D)} {bx : Int × Int} {σ : L2.St} {H H1 : Hp} {α γ : Type}
theorem OutX.le {r : Res α} {k : α → Int × Int → Hp → Prop} (l : Le β H H1) (h : OutX P K β H r E k) : OutX P K β H1 r E k := by
  cases r with
  | ok a bx => exact fun H' l' g => h H' (l.trans l') g
  | err d bx => exact OutE.le l h
  | bad => exact h
theorem Out.x {r : Res D} {Q : VK} (o : Out K P β H r Q E) : OutX P K β H r E fun d _ H' => ∀ v, R K β H' v d → Q v H' := by
  cases r with
  | ok a bx => exact fun H' l' g v r => o v H' l' g r
  | err d bx => exact o
  | bad => exact o
theorem OutA.x {r : Res (List D)} {Q : List V → Hp → Prop} (o : OutA K P β H r Q E) : OutX P K β H r E fun d _ H' => ∀ v, RA K β H' v d → Q v H' := by
  cases r with
  | ok a bx => exact fun H' l' g v r => o v H' l' g r
  | err d bx => exact o
  | bad => exact o
theorem OutT.x {r : Res Bool} {Q : Bool → Hp → Prop} (o : OutT K P β H r Q E) : OutX P K β H r E fun d _ H' => Q d H' := by
  cases r with
  | ok a bx => exact fun H' l' g => o H' l' g
  | err d bx => exact o
  | bad => exact o
theorem x_bind {F : Fn α} {G : α → Fn γ} {k : γ → Int × Int → Hp → Prop} (o : OutX P K β H (bnd F G δ bx) E k) : OutX P K β H (F δ bx) E fun a bx' H1 => Le β H H1 → OutX P K β H1 (G a δ bx') E k := by
  unfold bnd at o
  cases hF : F δ bx with
  | ok d bx' =>
    rw [hF] at o
    exact fun H' l' g l => OutX.le l o
  | err d bx' =>
    rw [hF] at o
    exact o
  | bad =>
    rw [hF] at o
    exact o
theorem d_bind {F : Fn D} {G : D → Fn γ} {k : γ → Int × Int → Hp → Prop} {Q1 : VK} (ev : Ev K β H σ δ) (g : Good P.T β bx H) (o : OutX P K β H (bnd F G δ bx) E k)
    (h : ∀ bx' x d H1, Le β H H1 → Good P.T β bx' H1 → R K β H1 x d → OutX P K β H1 (G d δ bx') E k → Q1 x H1) : tD K P E F σ H Q1 := by
  have o2 := x_bind o
  refine ⟨β, δ, bx, ev, g, ?_⟩
  cases hF : F δ bx with
  | ok d bx' =>
    rw [hF] at o2
    exact fun v H' l g' r => h bx' v d H' l g' r (o2 H' l g' l)
  | err d bx' =>
    rw [hF] at o2
    exact o2
  | bad =>
    rw [hF] at o2
    exact o2
theorem a_bind {F : Fn (List D)} {G : List D → Fn γ} {k : γ → Int × Int → Hp → Prop} {Q1 : List V → Hp → Prop} (ev : Ev K β H σ δ) (g : Good P.T β bx H) (o : OutX P K β H (bnd F G δ bx) E k)
    (h : ∀ bx' x d H1, Le β H H1 → Good P.T β bx' H1 → RA K β H1 x d → OutX P K β H1 (G d δ bx') E k → Q1 x H1) : tDA K P E F σ H Q1 := by
  have o2 := x_bind o
  refine ⟨β, δ, bx, ev, g, ?_⟩
  cases hF : F δ bx with
  | ok d bx' =>
    rw [hF] at o2
    exact fun v H' l g' r => h bx' v d H' l g' r (o2 H' l g' l)
  | err d bx' =>
    rw [hF] at o2
    exact o2
  | bad =>
    rw [hF] at o2
    exact o2
theorem t_bind {F : Fn Bool} {G : Bool → Fn γ} {k : γ → Int × Int → Hp → Prop} {Q1 : Bool → Hp → Prop} (ev : Ev K β H σ δ) (g : Good P.T β bx H) (o : OutX P K β H (bnd F G δ bx) E k)
    (h : ∀ bx' x H1, Le β H H1 → Good P.T β bx' H1 → OutX P K β H1 (G x δ bx') E k → Q1 x H1) : tDT K P E F σ H Q1 := by
  have o2 := x_bind o
  refine ⟨β, δ, bx, ev, g, ?_⟩
  cases hF : F δ bx with
  | ok d bx' =>
    rw [hF] at o2
    exact fun H' l g' => h bx' d H' l g' (o2 H' l g' l)
  | err d bx' =>
    rw [hF] at o2
    exact o2
  | bad =>
    rw [hF] at o2
    exact o2
theorem OutX.lft {o : Option α} {k : α → Int × Int → Hp → Prop} (g : Good P.T β bx H) (h : OutX P K β H (Mi.lft o δ bx) E k) : ∃ a, o = some a ∧ k a bx H := by
  cases o with
  | none => exact h.elim
  | some a => exact ⟨a, rfl, h H .refl g⟩
theorem OutX.lft' {o : Option α} {k : α → Int × Int → Hp → Prop} (h : OutX P K β H (Mi.lft o δ bx) E k) : ∃ a, o = some a ∧ ∀ H', Le β H H' → Good P.T β bx H' → k a bx H' := by
  cases o with
  | none => exact h.elim
  | some a => exact ⟨a, rfl, h⟩
end
section
variable {X : Cx} {P : Pm} {E : XK} {pos : Pos} {a b : Expr} {F G : Fn D} {es : List Expr} {A : Fn (List D)}
/-! ### argument lists -/
def fCons (F : Fn D) (A : Fn (List D)) : Fn (List D) := bnd F fun d => bnd A fun ds => pur (d :: ds)
theorem ea_nil : EA X P E [] (pur []) := pa_imp pa_nil fun _ H _ ⟨β, _, _, _, g, o⟩ => o [] H .refl g .nil
theorem ea_cons (ha : ED X P E a F) (hr : EA X P E es A) (hs : starEach (a :: es) X.env = (false, eval a X.env) :: starEach es X.env := by rfl) : EA X P E (a :: es) (fCons F A) := by
  refine pa_imp (pa_cons ha hr hs) ?_
  rintro σ H Q ⟨β, δ, bx, ev, g, o⟩
  exact d_bind ev g o.x fun bx1 x d H1 l1 g1 r1 o1 => a_bind (ev.le l1) g1 o1 fun bx2 y e H2 l2 g2 r2 o2 => o2 H2 .refl g2 _ (.cons (r1.le l2) r2)
/-- from a list of arguments to a value -/
def fA (f : List D → Option D) (A : Fn (List D)) : Fn D := bnd A fun ds => lft (f ds)
def CallD (X : Cx) (P : Pm) (r : List V → Hp → VK → Prop) (f : List D → Option D) : Prop := ∀ (β : Mu) (bx : Int × Int) (H : Hp) (xs : List V) (ds : List D) (z : D) (Q : VK), Good P.T β bx H → RA X.K β H xs ds → f ds = some z →
  (∀ v H', Le β H H' → Good P.T β bx H' → R X.K β H' v z → Q v H') → r xs H Q
theorem ed_tA {r : List V → Hp → VK → Prop} {f : List D → Option D} (hr : CallD X P r f) : ∀ σ H Q, tD X.K P E (fA f A) σ H Q → (tDA X.K P E A) σ H fun xs H1 => r xs H1 Q := by
  rintro σ H Q ⟨β, δ, bx, ev, g, o⟩
  refine a_bind ev g o.x fun bx1 xs ds H1 l1 g1 r1 o1 => ?_
  obtain ⟨z, hz, k⟩ := o1.lft'
  exact hr β bx1 H1 xs ds z Q g1 r1 hz fun v H' l g r => k H' l g v r
/-- displays -/
def cTup : List D → Option D := fun ds => if ds.length ≤ 1000 then some (.tup ds) else none
def cLst : List D → Option D := fun ds => if ds.length ≤ 1000 then some (.lst ds) else none
theorem le1000 {n : Nat} (h : n ≤ 1000) : n ≤ sizeLine := Nat.le_of_lt (small1000 h)
theorem ed_tup {x1} (h : EA X P E es A) : ED X P E (.Tuple es x1 pos) (fA cTup A) := pe_imp (pe_tup h) (ed_tA (r := fun xs H Q => xs.length ≤ sizeLine ∧ ∀ p, H p = none → Q (.ref p) (upd H p (.tup xs))) fun β bx H xs ds z Q g r h k => by
  unfold cTup at h
  split at h
  · rename_i hl
    cases h
    exact ⟨by rw [r.length]; exact le1000 hl, fun p hp => k _ _ (.new hp) (g.new hp) (.tup (.inl ⟨.inl upd_same, g.ne hp⟩) (r.le (.new hp)))⟩
  · cases h)
theorem ed_lst (h : EA X P E es A) : ED X P E (.List es pos) (fA cLst A) := pe_imp (pe_lst h) (ed_tA (r := fun xs H Q => xs.length ≤ sizeLine ∧ ∀ p, H p = none → Q (.ref p) (upd H p (.lst xs))) fun β bx H xs ds z Q g r h k => by
  unfold cLst at h
  split at h
  · rename_i hl
    cases h
    exact ⟨by rw [r.length]; exact le1000 hl, fun p hp => k _ _ (.new hp) (g.new hp) (.lst (.inl ⟨.inl upd_same, g.ne hp⟩) (r.le (.new hp)))⟩
  · cases h)
/-! ### items -/
def cIx : Int × Int → D → D → Option D
  | _, .lst l, .int i => atI l i
  | _, .tup l, .int i => atI l i
  | bx, .box, .int i => if i = 0 then some (.int bx.1) else if i = 1 then some (.int bx.2) else none
  | _, _, _ => none
theorem ra_atI {K : PySem.W.Frag} {β : Mu} {H : Hp} {vs : List V} {ds : List D} {i : Int} {d : D} (r : RA K β H vs ds) (h : atI ds i = some d) : ∃ v, atI vs i = some v ∧ R K β H v d := by
  unfold atI at h ⊢
  rw [r.length]
  cases hj : ixN ds.length i with
  | none =>
    rw [hj] at h
    cases h
  | some j =>
    rw [hj] at h
    exact r.get h
theorem opd_ix : OpD X P (rIx X.K) cIx := by
  intro β bx H x y d e z Q g rx ry h k
  cases rx <;> cases ry <;> simp only [cIx] at h <;> try (cases h; done)
  · rename_i a xs ds s ra i
    obtain ⟨v, h1, h2⟩ := ra_atI ra h
    exact .inl ⟨a, xs, i, v, rfl, rfl, s.sq, h1, k v H .refl g h2⟩
  · rename_i a xs ds s ra i
    obtain ⟨v, h1, h2⟩ := ra_atI ra h
    exact .inr (.inl ⟨a, xs, i, v, rfl, rfl, s.sq, h1, k v H .refl g h2⟩)
  · rename_i a hb i
    have hH := g.bx a hb
    by_cases h0 : i = 0
    · subst h0
      rw [if_pos rfl] at h
      cases h
      exact .inl ⟨a, _, 0, _, rfl, rfl, SqL.of hH, rfl, k _ H .refl g (.int _)⟩
    · rw [if_neg h0] at h
      by_cases h1 : i = 1
      · subst h1
        rw [if_pos rfl] at h
        cases h
        exact .inl ⟨a, _, 1, _, rfl, rfl, SqL.of hH, rfl, k _ H .refl g (.int _)⟩
      · rw [if_neg h1] at h
        cases h
theorem ed_ix (ha : ED X P E a F) (hb : ED X P E b G) (hs : PlainIx b) : ED X P E (.Subscript a b pos) (f2 cIx F G) := pe_imp (pe_ix ix_seq ha hb hs) (ed_tOp opd_ix)
/-! ### slices of tuples, tuples one behind another -/
def cutD (ds : List D) (lo hi : Option Int) : List D := (ds.drop (HT.sIx ds.length 0 lo)).take (HT.sIx ds.length ds.length hi - HT.sIx ds.length 0 lo)
theorem RA.cut {K : PySem.W.Frag} {β : Mu} {H : Hp} {vs : List V} {ds : List D} (r : RA K β H vs ds) (lo hi : Option Int) : RA K β H (cutV vs lo hi) (cutD ds lo hi) := by
  unfold cutV cutD
  rw [r.length]
  exact (r.drop _).take _
def cCut (lo hi : Option Int) : D → Option D
  | .tup l => if HT.sIx l.length 0 lo = 0 ∧ HT.sIx l.length l.length hi = l.length then none else some (.tup (cutD l lo hi))
  | .lst l => none
  | _ => none
theorem und_cut {lo hi : Option Int} : UnD X P (fun x H Q => rSlT X.K x lo hi H Q) (cCut lo hi) := by
  intro β bx H x d z Q g r h k
  cases r <;> simp only [cCut] at h <;> try (cases h; done)
  rename_i a xs ds s ra
  split at h
  · cases h
  · rename_i hn
    cases h
    refine ⟨a, xs, rfl, s.sq, by rw [ra.length]; exact hn, fun p hp => k _ _ (.new hp) (g.new hp) (.tup (.inl ⟨.inl upd_same, g.ne hp⟩) ((ra.cut lo hi).le (.new hp)))⟩
theorem ed_cutFrom {i : Int} {j p1 p2} (ha : ED X P E a F) : ED X P E (.Subscript a (.Slice (some (.Constant (.int i) j p1)) none none p2) pos) (f1 (cCut (some i) none) F) :=
  pe_imp (pe_slice sl_tup ha (po_some pe_int) po_none) fun σ H Q h => by
    have q := ed_t1 (und_cut (lo := some i) (hi := none)) σ H Q h
    refine (?_ : tSl (rSlT X.K) (tD X.K P E F) (tPart (tC (.int i))) tNoPart σ H Q)
    unfold tSl tPart tC tNoPart
    obtain ⟨β, δ, bx, ev, g, o⟩ := q
    refine ⟨β, δ, bx, ev, g, ?_⟩
    cases hF : F δ bx with
    | ok d bx' =>
      rw [hF] at o
      exact fun v H' l g r => ⟨i, rfl, o v H' l g r⟩
    | err d bx' =>
      rw [hF] at o
      exact o
    | bad =>
      rw [hF] at o
      exact o
theorem ed_cutTo {i : Int} {j p1 p2} (ha : ED X P E a F) : ED X P E (.Subscript a (.Slice none (some (.Constant (.int i) j p1)) none p2) pos) (f1 (cCut none (some i)) F) :=
  pe_imp (pe_slice sl_tup ha po_none (po_some pe_int)) fun σ H Q h => by
    have q := ed_t1 (und_cut (lo := none) (hi := some i)) σ H Q h
    refine (?_ : tSl (rSlT X.K) (tD X.K P E F) tNoPart (tPart (tC (.int i))) σ H Q)
    unfold tSl tPart tC tNoPart
    obtain ⟨β, δ, bx, ev, g, o⟩ := q
    refine ⟨β, δ, bx, ev, g, ?_⟩
    cases hF : F δ bx with
    | ok d bx' =>
      rw [hF] at o
      exact fun v H' l g r => ⟨i, rfl, o v H' l g r⟩
    | err d bx' =>
      rw [hF] at o
      exact o
    | bad =>
      rw [hF] at o
      exact o
def cCat : Int × Int → D → D → Option D
  | _, .tup [], _ => none
  | _, .tup (x :: l), .tup m => if (x :: l).length + m.length ≤ 1000 then some (.tup ((x :: l) ++ m)) else none
  | _, _, _ => none
theorem opd_cat : OpD X P (rCatT X.K) cCat := by
  intro β bx H x y d e z Q g rx ry h k
  cases rx with
  | tup s ra =>
    rename_i a xs ds
    cases ds with
    | nil => simp only [cCat] at h; cases h
    | cons d0 ds =>
      cases ry with
      | tup s2 rb =>
        rename_i b ys es
        simp only [cCat] at h
        split at h
        · rename_i hl
          cases h
          refine ⟨a, b, xs, ys, rfl, rfl, s.sq, s2.sq, fun z => ?_, ?_, fun z => ?_, fun _ p hp => ?_⟩
          · have := ra.length
            rw [z] at this
            cases this
          · rw [ra.length, rb.length]
            exact le1000 hl
          · subst z
            cases rb
            exact k _ H .refl g (by rw [List.append_nil]; exact .tup s ra)
          · exact k _ _ (.new hp) (g.new hp) (.tup (.inl ⟨.inl upd_same, g.ne hp⟩) ((ra.append rb).le (.new hp)))
        · cases h
      | non => simp only [cCat] at h; cases h
      | bl _ => simp only [cCat] at h; cases h
      | int _ => simp only [cCat] at h; cases h
      | str _ => simp only [cCat] at h; cases h
      | lst _ _ => simp only [cCat] at h; cases h
      | box _ => simp only [cCat] at h; cases h
  | non => simp only [cCat] at h; cases h
  | bl _ => simp only [cCat] at h; cases h
  | int _ => simp only [cCat] at h; cases h
  | str _ => simp only [cCat] at h; cases h
  | lst _ _ => simp only [cCat] at h; cases h
  | box _ => simp only [cCat] at h; cases h
/-- + of tuples; of ints -/
theorem ed_cat (ha : ED X P E a F) (hb : ED X P E b G) : ED X P E (.BinOp a .Add b pos) (f2 cCat F G) := ed_bin op_catT opd_cat ha hb

/-! ### built-in functions -/
theorem ed_blt {x : Str} {id : String} {r : List V → Hp → VK → Prop} {f : List D → Option D} {p : Pos} {e : Expr} (hc : CallR X (.builtin id) r) (hr : CallD X P r f) (hg : Gl X x) (hm : X.mg x = none) (hv : bootBuiltins x = some (.builtin id)) (ha : EA X P E (e :: es) A)
    (hn : x ≠ "__name__" := by decide) (hdb : (x == ("__debug__" : Str)) = false := by decide) (he : starEach (e :: es) X.env = (false, eval e X.env) :: starEach es X.env := by rfl) (hpl : (backTo pos (starEach es X.env)).any (·.1) = false := by rfl) : ED X P E (.Call (.Name x p) (e :: es) [] pos) (fA f A) :=
  pe_imp (pe_callB hc hg hm hv ha hn hdb he hpl) (ed_tA hr)
theorem ed_ty {x : Str} {T : String} {r : List V → Hp → VK → Prop} {f : List D → Option D} {p : Pos} {e : Expr} (hc : CallR X (.type T) r) (hr : CallD X P r f) (hg : Gl X x) (hm : X.mg x = none) (hv : bootBuiltins x = some (.type T)) (ha : EA X P E (e :: es) A)
    (hn : x ≠ "__name__" := by decide) (hdb : (x == ("__debug__" : Str)) = false := by decide) (he : starEach (e :: es) X.env = (false, eval e X.env) :: starEach es X.env := by rfl) (hpl : (backTo pos (starEach es X.env)).any (·.1) = false := by rfl) : ED X P E (.Call (.Name x p) (e :: es) [] pos) (fA f A) :=
  pe_imp (pe_callTy hc hg hm hv ha hn hdb he hpl) (ed_tA hr)
theorem RA.one {K : PySem.W.Frag} {β : Mu} {H : Hp} {xs : List V} {d : D} (r : RA K β H xs [d]) : ∃ v, xs = [v] ∧ R K β H v d := by
  cases r with
  | cons a b => cases b; exact ⟨_, rfl, a⟩
theorem RA.two {K : PySem.W.Frag} {β : Mu} {H : Hp} {xs : List V} {d e : D} (r : RA K β H xs [d, e]) : ∃ v w, xs = [v, w] ∧ R K β H v d ∧ R K β H w e := by
  cases r with
  | cons a b =>
    obtain ⟨w, rfl, h⟩ := b.one
    exact ⟨_, _, rfl, a, h⟩
def cLen : List D → Option D
  | [.lst l] => some (.int l.length)
  | [.tup l] => some (.int l.length)
  | _ => none
theorem cd_len : CallD X P (fun xs H Q => ∃ p ys, xs = [.ref p] ∧ (SqL X.K H p ys ∨ SqT X.K H p ys) ∧ Q (.int ys.length) H) cLen := by
  intro β bx H xs ds z Q g r h k
  unfold cLen at h
  split at h
  · cases h
    obtain ⟨v, rfl, r1⟩ := r.one
    cases r1 with
    | lst s ra => exact ⟨_, _, rfl, .inl s.sq, by rw [ra.length]; exact k _ H .refl g (.int _)⟩
  · cases h
    obtain ⟨v, rfl, r1⟩ := r.one
    cases r1 with
    | tup s ra => exact ⟨_, _, rfl, .inr s.sq, by rw [ra.length]; exact k _ H .refl g (.int _)⟩
  · cases h
def cAbs : List D → Option D
  | [.int i] => some (.int (if i < 0 then -i else i))
  | _ => none
theorem cd_abs : CallD X P (fun xs H Q => ∃ i, xs = [.int i] ∧ Q (.int (if i < 0 then -i else i)) H) cAbs := by
  intro β bx H xs ds z Q g r h k
  unfold cAbs at h
  split at h
  · cases h
    obtain ⟨v, rfl, r1⟩ := r.one
    exact ⟨_, by rw [r1.int_inv], k _ H .refl g (.int _)⟩
  · cases h
def cInt : List D → Option D
  | [.int i] => some (.int i)
  | _ => none
theorem cd_int : CallD X P (fun xs H Q => (∃ i, xs = [.int i] ∧ Q (.int i) H) ∨ ∃ k, xs = [.bl k] ∧ Q (.int (if k then 1 else 0)) H) cInt := by
  intro β bx H xs ds z Q g r h k
  unfold cInt at h
  split at h
  · cases h
    obtain ⟨v, rfl, r1⟩ := r.one
    exact .inl ⟨_, by rw [r1.int_inv], k _ H .refl g (.int _)⟩
  · cases h
def cMax : List D → Option D
  | [.int i, .int j] => some (.int (if j > i then j else i))
  | _ => none
theorem cd_max : CallD X P (fun xs H Q => ∃ i j, xs = [.int i, .int j] ∧ Q (.int (if j > i then j else i)) H) cMax := by
  intro β bx H xs ds z Q g r h k
  unfold cMax at h
  split at h
  · cases h
    obtain ⟨v, w, rfl, r1, r2⟩ := r.two
    exact ⟨_, _, by rw [r1.int_inv, r2.int_inv], k _ H .refl g (.int _)⟩
  · cases h
def cMin : List D → Option D
  | [.int i, .int j] => some (.int (if j < i then j else i))
  | _ => none
theorem cd_min : CallD X P (fun xs H Q => ∃ i j, xs = [.int i, .int j] ∧ Q (.int (if j < i then j else i)) H) cMin := by
  intro β bx H xs ds z Q g r h k
  unfold cMin at h
  split at h
  · cases h
    obtain ⟨v, w, rfl, r1, r2⟩ := r.two
    exact ⟨_, _, by rw [r1.int_inv, r2.int_inv], k _ H .refl g (.int _)⟩
  · cases h
/-- list(x) -/
def cListOf : List D → Option D
  | [.lst l] => some (.lst l)
  | [.tup l] => some (.lst l)
  | _ => none
theorem cd_listOf : CallD X P (fun xs H Q => ∃ p ys, xs = [.ref p] ∧ (SqL X.K H p ys ∨ SqT X.K H p ys) ∧ ∀ l, H l = none → Q (.ref l) (upd H l (.lst ys))) cListOf := by
  intro β bx H xs ds z Q g r h k
  unfold cListOf at h
  split at h
  · cases h
    obtain ⟨v, rfl, r1⟩ := r.one
    cases r1 with
    | lst s ra => exact ⟨_, _, rfl, .inl s.sq, fun p hp => k _ _ (.new hp) (g.new hp) (.lst (.inl ⟨.inl upd_same, g.ne hp⟩) (ra.le (.new hp)))⟩
  · cases h
    obtain ⟨v, rfl, r1⟩ := r.one
    cases r1 with
    | tup s ra => exact ⟨_, _, rfl, .inr s.sq, fun p hp => k _ _ (.new hp) (g.new hp) (.lst (.inl ⟨.inl upd_same, g.ne hp⟩) (ra.le (.new hp)))⟩
  · cases h
/-- tuple(x) -/
def cTupOf : List D → Option D
  | [.lst l] => some (.tup l)
  | [.tup l] => some (.tup l)
  | _ => none
theorem cd_tupOf : CallD X P (fun xs H Q => ∃ p ys, xs = [.ref p] ∧ ((SqL X.K H p ys ∧ ∀ l, H l = none → Q (.ref l) (upd H l (.tup ys))) ∨ (SqT X.K H p ys ∧ Q (.ref p) H))) cTupOf := by
  intro β bx H xs ds z Q g r h k
  unfold cTupOf at h
  split at h
  · cases h
    obtain ⟨v, rfl, r1⟩ := r.one
    cases r1 with
    | lst s ra => exact ⟨_, _, rfl, .inl ⟨s.sq, fun p hp => k _ _ (.new hp) (g.new hp) (.tup (.inl ⟨.inl upd_same, g.ne hp⟩) (ra.le (.new hp)))⟩⟩
  · cases h
    obtain ⟨v, rfl, r1⟩ := r.one
    cases r1 with
    | tup s ra => exact ⟨_, _, rfl, .inr ⟨s.sq, k _ H .refl g (.tup s ra)⟩⟩
  · cases h
/-- sum(xs) of ints -/
def toInts : List D → Option (List Int)
  | [] => some []
  | .int i :: r => (toInts r).map (i :: ·)
  | _ => none
theorem toInts_inv : ∀ {l : List D} {ns : List Int}, toInts l = some ns → l = ns.map D.int
  | [], ns, h => by cases h; rfl
  | .int i :: r, ns, h => by
    simp only [toInts] at h
    cases hr : toInts r with
    | none => rw [hr] at h; cases h
    | some ms =>
      rw [hr] at h
      cases h
      rw [toInts_inv hr]
      rfl
  | .non :: _, _, h => by cases h
  | .bl _ :: _, _, h => by cases h
  | .str _ :: _, _, h => by cases h
  | .lst _ :: _, _, h => by cases h
  | .tup _ :: _, _, h => by cases h
  | .box :: _, _, h => by cases h
def cSum : List D → Option D
  | [.lst l] => (toInts l).map fun ns => .int ns.sum
  | _ => none
theorem cd_sum : CallD X P (rSum X.K) cSum := by
  intro β bx H xs ds z Q g r h k
  unfold cSum at h
  split at h
  · rename_i l
    cases hn : toInts l with
    | none => rw [hn] at h; cases h
    | some ns =>
      rw [hn] at h
      cases h
      obtain ⟨v, rfl, r1⟩ := r.one
      cases r1 with
      | lst s ra =>
        rw [toInts_inv hn] at ra
        rw [ra.ints_inv] at s
        exact ⟨_, ns, rfl, s.sq, k _ H .refl g (.int _)⟩
  · cases h
end
end Mi

set_option Elab.async false
set_option linter.all false
set_option maxRecDepth 100000
set_option maxHeartbeats 4000000
namespace Mi
open PySem PySem.Spec PyProof.Rows L2
/-! ### types -/
def D.ty : D → String
  | .non => "NoneType"
  | .bl _ => "bool"
  | .int _ => "int"
  | .str _ => "str"
  | .lst _ => "list"
  | .tup _ => "tuple"
  | .box => "list"
theorem tyx {K : PySem.W.Frag} {T : List (Addr × Str)} {β : Mu} {bx : Int × Int} {H : Hp} {v : V} {d : D} (g : Good T β bx H) (r : R K β H v d) : TyX K H v (.type d.ty) := by
  cases r with
  | non => exact .base .non
  | bl b => exact .base (.bl b)
  | int i => exact .base (.int i)
  | str x => exact .base (.str x)
  | lst s ra =>
    rcases s with ⟨h | ⟨o, h⟩, _⟩ | h
    · exact .base (.lst h)
    · exact .base (.frz h)
    · rcases h with h | ⟨o, its, n, hk, hc, _⟩
      · exact (rd_none h).elim
      · exact .kList hk hc
  | tup s ra =>
    rcases s with ⟨h | ⟨o, h⟩, _⟩ | h
    · exact .base (.tup h)
    · exact .fTuple h
    · rcases h with h | ⟨o, its, n, hk, hc, _⟩
      · exact (rd_none h).elim
      · exact .kTuple hk hc
  | box hb => exact .base (.lst (g.bx _ hb))
/-- isinstance(x, T) -/
def cIsi (T : String) : D → Option D := fun d => (kitB d.ty T).map D.bl
def cIsi2 (T U : String) : D → Option D := fun d => match kitB d.ty T, kitB d.ty U with
  | some p, some q => some (.bl (p || q))
  | _, _ => none
section
variable {X : Cx} {P : Pm} {E : XK} {pos : Pos} {a b : Expr} {F G : Fn D}
theorem ed_isi {x c : Str} {T : String} {p p2 : Pos} (hg : Gl X x) (hm : X.mg x = none) (hv : bootBuiltins x = some (.builtin "isinstance")) (ha : ED X P E a F) (gc : Gl X c) (mc : X.mg c = none) (vc : bootBuiltins c = some (.type T))
    (hn : x ≠ "__name__" := by decide) (hdb : (x == ("__debug__" : Str)) = false := by decide) (hn2 : c ≠ "__name__" := by decide) (hdb2 : (c == ("__debug__" : Str)) = false := by decide)
    (h1 : starEach (a :: [.Name c p2]) X.env = (false, eval a X.env) :: starEach [.Name c p2] X.env := by rfl) (h2 : (backTo pos (starEach [.Name c p2] X.env)).any (·.1) = false := by rfl)
    (h3 : starEach [.Name c p2] X.env = (false, eval (.Name c p2) X.env) :: starEach [] X.env := by rfl) : ED X P E (.Call (.Name x p) (a :: [.Name c p2]) [] pos) (f1 (cIsi T) F) := by
  refine pe_imp (pe_callB call_isi hg hm hv (pa_cons ha (pa_cons (pe_bltn (v := .ty T) gc mc vc rfl hn2 hdb2) pa_nil h3) h1) hn hdb h1 h2) fun σ H Q h => ?_
  refine ed_t1 (r := fun y H Q => rIsi X.K [y, .ty T] H Q) (fun β bx H y d z Q g r h k => ?_) σ H Q h
  unfold cIsi at h
  cases hk : kitB d.ty T with
  | none => rw [hk] at h; cases h
  | some c =>
    rw [hk] at h
    cases h
    exact ⟨y, .ty T, .type d.ty, .type T, c, rfl, .ty T, tyx g r, kit_ty hk, k _ H .refl g (.bl c)⟩
theorem ed_isi2 {x c e : Str} {T U : String} {p p2 p3 p4 : Pos} {x1} (hg : Gl X x) (hm : X.mg x = none) (hv : bootBuiltins x = some (.builtin "isinstance")) (ha : ED X P E a F) (gc : Gl X c) (mc : X.mg c = none) (vc : bootBuiltins c = some (.type T)) (ge : Gl X e) (me : X.mg e = none) (ve : bootBuiltins e = some (.type U))
    (hn : x ≠ "__name__" := by decide) (hdb : (x == ("__debug__" : Str)) = false := by decide) (hn2 : c ≠ "__name__" := by decide) (hdb2 : (c == ("__debug__" : Str)) = false := by decide) (hn3 : e ≠ "__name__" := by decide) (hdb3 : (e == ("__debug__" : Str)) = false := by decide)
    (h1 : starEach (a :: [.Tuple [.Name c p2, .Name e p3] x1 p4]) X.env = (false, eval a X.env) :: starEach [.Tuple [.Name c p2, .Name e p3] x1 p4] X.env := by rfl) (h2 : (backTo pos (starEach [.Tuple [.Name c p2, .Name e p3] x1 p4] X.env)).any (·.1) = false := by rfl)
    (h3 : starEach [.Tuple [.Name c p2, .Name e p3] x1 p4] X.env = (false, eval (.Tuple [.Name c p2, .Name e p3] x1 p4) X.env) :: starEach [] X.env := by rfl)
    (h4 : starEach [.Name c p2, .Name e p3] X.env = (false, eval (.Name c p2) X.env) :: starEach [.Name e p3] X.env := by rfl) (h5 : starEach [.Name e p3] X.env = (false, eval (.Name e p3) X.env) :: starEach [] X.env := by rfl) :
    ED X P E (.Call (.Name x p) (a :: [.Tuple [.Name c p2, .Name e p3] x1 p4]) [] pos) (f1 (cIsi2 T U) F) := by
  refine pe_imp (pe_callB call_isiT hg hm hv (pa_cons ha (pa_cons (pe_tup (pa_cons (pe_bltn (v := .ty T) gc mc vc rfl hn2 hdb2) (pa_cons (pe_bltn (v := .ty U) ge me ve rfl hn3 hdb3) pa_nil h5) h4)) pa_nil h3) h1) hn hdb h1 h2) fun σ H Q h => ?_
  refine ed_t1 (r := fun y H Q => [V.ty T, V.ty U].length ≤ sizeLine ∧ ∀ q, H q = none → rIsiT X.K [y, .ref q] (upd H q (.tup [.ty T, .ty U])) Q) (fun β bx H y d z Q g r h k => ?_) σ H Q h
  refine ⟨le1000 (by show 2 ≤ 1000; omega), fun q hq => ?_⟩
  unfold cIsi2 at h
  cases hk : kitB d.ty T with
  | none => rw [hk] at h; cases h
  | some c =>
    cases hl : kitB d.ty U with
    | none => rw [hk, hl] at h; cases h
    | some c2 =>
      rw [hk, hl] at h
      cases h
      refine ⟨y, q, [.ty T, .ty U], .type d.ty, [.type T, .type U], c || c2, rfl, upd_same, .cons (.ty T) (.cons (.ty U) .nil), tyx (g.new hq) (r.le (.new hq)), ?_, k _ _ (.new hq) (g.new hq) (.bl _)⟩
      refine kitAny_cons (kit_ty hk) (fun e => ?_) (fun e => by rw [e]; rfl)
      refine kitAny_cons (kit_ty hl) (fun e2 => by rw [e, e2]; rfl) (fun e2 => by rw [e2, Bool.or_true])
end
/-! ### data as the library's data -/
mutual
def D.py : D → PyData
  | .non => .none
  | .bl b => .bool b
  | .int i => .int i
  | .str x => .str x
  | .lst l => .list (D.pyAll l)
  | .tup l => .tuple (D.pyAll l)
  | .box => .none
def D.pyAll : List D → List PyData
  | [] => []
  | d :: r => d.py :: D.pyAll r
end
mutual
def D.pure : D → Bool
  | .box => false
  | .lst l => D.pureAll l
  | .tup l => D.pureAll l
  | _ => true
def D.pureAll : List D → Bool
  | [] => true
  | d :: r => d.pure && D.pureAll r
end
mutual
theorem R.dp {K : PySem.W.Frag} {β : Mu} {H : Hp} : ∀ {v : V} {d : D}, R K β H v d → d.pure = true → Dp K H v d.py
  | _, _, .non, _ => .non
  | _, _, .bl b, _ => .bl b
  | _, _, .int i, _ => .int i
  | _, _, .str x, _ => .str x
  | _, _, .lst s ra, h => .lst s.sq (RA.dp ra h)
  | _, _, .tup s ra, h => .tup s.sq (RA.dp ra h)
  | _, _, .box _, h => nomatch h
theorem RA.dp {K : PySem.W.Frag} {β : Mu} {H : Hp} : ∀ {vs : List V} {ds : List D}, RA K β H vs ds → D.pureAll ds = true → DpAll K H vs (D.pyAll ds)
  | _, _, .nil, _ => .nil
  | _, _, .cons r ra, h => .cons (R.dp r (Bool.and_eq_true_iff.mp h).1) (RA.dp ra (Bool.and_eq_true_iff.mp h).2)
end
mutual
theorem D.noDict : ∀ d : D, d.py.hasDict = false
  | .non => rfl
  | .bl _ => rfl
  | .int _ => rfl
  | .str _ => rfl
  | .lst l => D.noDictAll l
  | .tup l => D.noDictAll l
  | .box => rfl
theorem D.noDictAll : ∀ l : List D, PyData.hasDictAll (D.pyAll l) = false
  | [] => rfl
  | d :: r => by
    show (d.py.hasDict || PyData.hasDictAll (D.pyAll r)) = false
    rw [D.noDict d, D.noDictAll r]
    rfl
end
def cEqD : Int × Int → D → D → Option D := fun _ d e => if (d.pure && e.pure && SeqAt.shaped d.py && SeqAt.shaped e.py) = true then some (.bl (PyData.eqv d.py e.py)) else none
def cNeD : Int × Int → D → D → Option D := fun _ d e => if (d.pure && e.pure && SeqAt.shaped d.py && SeqAt.shaped e.py) = true then some (.bl (!PyData.eqv d.py e.py)) else none
def cRepr : List D → Option D
  | [d] => if (d.pure && d.py.showable && decide (d.py.depth ≤ 60) && decide (d.py.shown.length ≤ sizeLine)) = true then some (.str d.py.shown) else none
  | _ => none
section
variable {X : Cx} {P : Pm} {E : XK} {pos : Pos} {a b : Expr} {F G : Fn D} {es : List Expr} {A : Fn (List D)}
theorem opd_eqD : OpD X P (rEqD X.K) cEqD := by
  intro β bx H x y d e z Q g rx ry h k
  unfold cEqD at h
  split at h
  · rename_i hc
    cases h
    simp only [Bool.and_eq_true] at hc
    exact ⟨d.py, e.py, rx.dp hc.1.1.1, ry.dp hc.1.1.2, hc.1.2, hc.2, k _ H .refl g (.bl _)⟩
  · cases h
theorem opd_neD : OpD X P (rNeD X.K) cNeD := by
  intro β bx H x y d e z Q g rx ry h k
  unfold cNeD at h
  split at h
  · rename_i hc
    cases h
    simp only [Bool.and_eq_true] at hc
    exact ⟨d.py, e.py, rx.dp hc.1.1.1, ry.dp hc.1.1.2, hc.1.2, hc.2, k _ H .refl g (.bl _)⟩
  · cases h
theorem ed_eq (hu : X.A.units + 64 < cLine) (ha : ED X P E a F) (hb : ED X P E b G) : ED X P E (.Compare a [.Eq] [b] pos) (f2 cEqD F G) := ed_cmp (op_eqD hu) opd_eqD ha hb (nomark _)
theorem ed_ne (hu : X.A.units + 64 < cLine) (ha : ED X P E a F) (hb : ED X P E b G) : ED X P E (.Compare a [.NotEq] [b] pos) (f2 cNeD F G) := ed_cmp (op_neD hu) opd_neD ha hb (nomark _)
theorem et_eq (hu : X.A.units + 64 < cLine) (ha : ED X P E a F) (hb : ED X P E b G) : ET X P E (.Compare a [.Eq] [b] pos) (fB (f2 cEqD F G)) := et_cmp (op_eqD hu) opd_eqD ha hb (nomark _)
theorem et_ne (hu : X.A.units + 64 < cLine) (ha : ED X P E a F) (hb : ED X P E b G) : ET X P E (.Compare a [.NotEq] [b] pos) (fB (f2 cNeD F G)) := et_cmp (op_neD hu) opd_neD ha hb (nomark _)
/-! ### repr -/
def rRepr (K : PySem.W.Frag) : List V → Hp → VK → Prop := fun xs H Q => ∃ x d, xs = [x] ∧ Dp K H x d ∧ d.showable = true ∧ d.hasDict = false ∧ d.depth ≤ 60 ∧ d.shown.length ≤ sizeLine ∧ Q (.str d.shown) H
theorem call_repr (hga : X.A.guards = some []) (hu : X.A.units + 64 < cLine) : CallR X (.builtin "repr") (rRepr X.K) := by
  intro pins s σ H xs us Q I r h
  obtain ⟨x, d, rfl, hd, h1, h2, h3, h4, q⟩ := h
  obtain ⟨u, rfl, rx⟩ := vals1 r
  obtain ⟨as, rr⟩ := hd.reads I d x u rx
  have fin : ∀ h' t tk, (∀ b o, s.heap.get? b = some o → h'.get? b = some o) → EP X pins σ Q (.str d.shown t) { s with heap := h', toks := tk } := fun h' t tk k => ⟨.str d.shown, H, I.kept k, ⟨t, rfl⟩, q⟩
  cases x with
  | ref a =>
    obtain rfl : u = Value.ref a := rx
    exact repr_of_reads' rr h1 (PyData.noDict_hsm h2) hga (by omega) (fun _ _ e => e) (fun h' t tk k => fin h' t tk k) h4
  | non =>
    cases hd
    obtain rfl : u = Value.none := rx
    exact PySem.P.repr_of_none (fin s.heap _ _ fun _ _ e => e)
  | bl b =>
    cases hd
    obtain rfl : u = Value.bool b := rx
    exact PySem.P.repr_of_bool (fin s.heap _ _ fun _ _ e => e)
  | int i =>
    cases hd
    obtain ⟨t, rfl⟩ := rx
    exact PySem.P.repr_of_int (of_decide_eq_true h1) (fin s.heap _ _ fun _ _ e => e)
  | str y =>
    cases hd
    obtain ⟨t, rfl⟩ := rx
    exact PySem.P.repr_of_str (fin s.heap _ _ fun _ _ e => e) h4
  | byt _ => cases hd
  | flt _ => cases hd
  | ty _ => cases hd
theorem cd_repr : CallD X P (rRepr X.K) cRepr := by
  intro β bx H xs ds z Q g r h k
  unfold cRepr at h
  split at h
  · split at h
    · rename_i d hc
      cases h
      simp only [Bool.and_eq_true, decide_eq_true_eq] at hc
      obtain ⟨v, rfl, r1⟩ := r.one
      exact ⟨v, d.py, rfl, r1.dp hc.1.1.1, hc.1.1.2, d.noDict, hc.1.2, hc.2, k _ H .refl g (.str _)⟩
    · cases h
  · cases h
/-! ### tuple(range(a, b, c)) -/
def rng3 (a b c : Int) (n : Nat) : List V := (List.range n).map fun i => V.int (a + (i : Nat) * c)
def cTupRg : List D → Option D
  | [.int a, .int b, .int c] => if 0 < c ∧ c < 1073741824 ∧ -(2 ^ 40) < a ∧ a < 2 ^ 40 ∧ -(2 ^ 40) < b ∧ b < 2 ^ 40 ∧ Builtin.Range.rangeSize a b c ≤ 1000 then some (.tup ((List.range (Builtin.Range.rangeSize a b c).toNat).map fun i => D.int (a + (i : Nat) * c))) else none
  | _ => none
theorem range_nn {a b c : Int} (hc : 0 < c) : 0 ≤ Builtin.Range.rangeSize a b c := by
  unfold Builtin.Range.rangeSize
  rw [if_pos hc]
  split
  · have := Int.ediv_nonneg (a := b - a - 1) (b := c) (by omega) (by omega)
    omega
  · omega
theorem RA.rng {K : PySem.W.Frag} {β : Mu} {H : Hp} (f : Nat → Int) : ∀ l : List Nat, RA K β H (l.map fun i => V.int (f i)) (l.map fun i => D.int (f i))
  | [] => .nil
  | i :: r => .cons (.int _) (RA.rng f r)
theorem ra_three {K : PySem.W.Frag} {β : Mu} {H : Hp} {xs : List V} {d e f : D} (r : RA K β H xs [d, e, f]) : ∃ u v w, xs = [u, v, w] ∧ R K β H u d ∧ R K β H v e ∧ R K β H w f := by
  cases r with
  | cons a b =>
    obtain ⟨v, w, rfl, h1, h2⟩ := b.two
    exact ⟨_, _, _, rfl, a, h1, h2⟩
theorem small3 {a b c : Int} (hc : 0 < c) (h3 : c < 1073741824) (ha : -(2 ^ 40) < a) (ha' : a < 2 ^ 40) (hb : -(2 ^ 40) < b) (hb' : b < 2 ^ 40) (hs : Builtin.Range.rangeSize a b c ≤ 1000) : Builtin.Range.small a b c = true := by
  have h0 := range_nn (a := a) (b := b) hc
  have hm : Builtin.Range.rangeSize a b c * c ≤ 1000 * 1073741824 := by
    have h1 : Builtin.Range.rangeSize a b c * c ≤ 1000 * c := Int.mul_le_mul_of_nonneg_right hs (by omega)
    omega
  have hm0 : 0 ≤ Builtin.Range.rangeSize a b c * c := Int.mul_nonneg h0 (by omega)
  unfold Builtin.Range.small Builtin.Range.rangeFitsLong
  rw [if_pos hc]
  simp only [Bool.and_eq_true, Bool.or_eq_true, decide_eq_true_eq, beq_iff_eq]
  generalize Builtin.Range.rangeSize a b c = n at *
  refine ⟨⟨⟨⟨by omega, by omega⟩, by omega, by omega⟩, by omega, by omega⟩, .inr ⟨by omega, by omega⟩⟩
theorem ed_tupRg {x y z : Expr} {p p2 pos2 : Pos} (hc : X.calm = true) (g1 : Gl X "tuple") (m1 : X.mg "tuple" = none) (g2 : Gl X "range") (m2 : X.mg "range" = none) (ha : EA X P E [x, y, z] A)
    (h1 : starEach [x, y, z] X.env = (false, eval x X.env) :: starEach [y, z] X.env := by rfl) (h2 : (backTo pos2 (starEach [y, z] X.env)).any (·.1) = false := by rfl)
    (h3 : starEach [.Call (.Name "range" p2) [x, y, z] [] pos2] X.env = (false, eval (.Call (.Name "range" p2) [x, y, z] [] pos2) X.env) :: starEach [] X.env := by rfl) :
    ED X P E (.Call (.Name "tuple" p) [.Call (.Name "range" p2) [x, y, z] [] pos2] [] pos) (fA cTupRg A) := by
  refine ⟨fun pins s σ H Q I h => ?_⟩
  have h' : (tDA X.K P E A) σ H fun xs H1 => ∃ a b c : Int, xs = [V.int a, V.int b, V.int c] ∧ (0 < c ∧ c < 1073741824 ∧ -(2 ^ 40) < a ∧ a < 2 ^ 40 ∧ -(2 ^ 40) < b ∧ b < 2 ^ 40 ∧ Builtin.Range.rangeSize a b c ≤ 1000) ∧
      ∀ q, H1 q = none → Q (.ref q) (upd H1 q (.tup (rng3 a b c (Builtin.Range.rangeSize a b c).toNat))) := by
    refine ed_tA (f := cTupRg) (r := fun xs H1 Q => ∃ a b c : Int, xs = [V.int a, V.int b, V.int c] ∧ (0 < c ∧ c < 1073741824 ∧ -(2 ^ 40) < a ∧ a < 2 ^ 40 ∧ -(2 ^ 40) < b ∧ b < 2 ^ 40 ∧ Builtin.Range.rangeSize a b c ≤ 1000) ∧
      ∀ q, H1 q = none → Q (.ref q) (upd H1 q (.tup (rng3 a b c (Builtin.Range.rangeSize a b c).toNat)))) (fun β bx H xs ds z Q g r h k => ?_) σ H Q h
    unfold cTupRg at h
    split at h
    · rename_i a b c
      split at h
      · rename_i hb
        cases h
        obtain ⟨u, v, w, rfl, r1, r2, r3⟩ := ra_three r
        refine ⟨a, b, c, by rw [r1.int_inv, r2.int_inv, r3.int_inv], hb, fun q hq => k _ _ (.new hq) (g.new hq) (.tup (.inl ⟨.inl upd_same, g.ne hq⟩) ?_)⟩
        exact RA.rng (fun i => a + (i : Nat) * c) _
      · cases h
    · cases h
  refine Call_ (ld_blt I g1 m1 boot_tuple (PyProof.Rows.callWith_type1 (args_cons (thn (?_ : wpAny (model X.prog X.w) X.A (eval (.Call (.Name "range" p2) [x, y, z] [] pos2) X.env) (fun x s' => ∃ (r : Addr) (a b c : Int) (t u v : Tok) (H' : Hp), x = .ref r ∧ IsRange s'.heap r a b c t u v ∧ Inv X pins σ H' s' ∧
      (0 < c ∧ c < 1073741824 ∧ -(2 ^ 40) < a ∧ a < 2 ^ 40 ∧ -(2 ^ 40) < b ∧ b < 2 ^ 40 ∧ Builtin.Range.rangeSize a b c ≤ 1000) ∧ ∀ q, H' q = none → Q (.ref q) (upd H' q (.tup (rng3 a b c (Builtin.Range.rangeSize a b c).toNat)))) X.xe s) fun x s1 ⟨r, a, b, c, t, u, v, H1, ex, hr, I1, ok, q⟩ => args_nil ?_) h3) h3))
  · refine wpAny_Call_Name_kw (ld_blt I g2 m2 boot_range ?_)
    refine PyProof.Rows.callWith_type1 (thn (ha.run pos2 pins s σ H _ I h') fun us s1 ⟨vs, H1, I1, r1, a, b, c, ev, ok, q⟩ => ?_) h1 h2
    subst ev
    cases r1 with
    | cons ra rr =>
      cases rr with
      | cons rb rr =>
        cases rr with
        | cons rc rr =>
          cases rr
          obtain ⟨t, rfl⟩ := ra
          obtain ⟨u, rfl⟩ := rb
          obtain ⟨v, rfl⟩ := rc
          refine call_range_3 (by omega) ?_ (.inl (PyProof.noPylong_small (by omega)))
          exact ⟨_, a, b, c, t, u, v, H1, rfl, IsRange.new _ _ _ _ _ _ _, I1.kept fun b u e => Heap.get?_push_of_some _ e, ok, q⟩
  · subst ex
    obtain ⟨b1, b2, b3, b4, b5, b6, b7⟩ := ok
    have nn := range_nn (a := a) (b := b) b1
    refine call_tuple_range (n := (Builtin.Range.rangeSize a b c).toNat) (I1.ok.hd hc) hr (small3 b1 b2 b3 b4 b5 b6 b7) (by omega) (by omega) fun h' tk acc hk hi => ?_
    have I2 : Inv X pins σ H1 { s1 with heap := h', toks := tk } := I1.kept hk
    have hv : Vals (rng3 a b c (Builtin.Range.rangeSize a b c).toNat) acc.toList := by
      have e : acc.toList.length = (Builtin.Range.rangeSize a b c).toNat := by
        rw [Array.length_toList]
        exact hi.1
      unfold rng3
      rw [← e]
      exact vals_of_get acc.toList _ fun j u hj => hi.2 j u (by rw [← hj, Array.getElem?_toList])
    refine ⟨.ref h'.objs.size, upd H1 h'.objs.size (.tup (rng3 a b c (Builtin.Range.rangeSize a b c).toNat)), I2.laid (t' := tk) (fun c o e => Heap.get?_push_of_some _ e) (Nat.le_refl _) ?_, rfl, q _ (I2.hok.fresh (Nat.le_refl _))⟩
    refine ⟨?_, acc.toList, hv, ?_⟩
    · unfold rng3
      rw [List.length_map, List.length_range]
      exact le1000 (by omega)
    · rw [Array.toArray_toList]
      exact IsTup.new _ _
end
end Mi

set_option Elab.async false
set_option linter.all false
set_option maxRecDepth 100000
set_option maxHeartbeats 4000000
namespace Mi
open PySem PySem.Spec PyProof.Rows L2
/-! ### defs by their functions on data -/
def spD (K : PySem.W.Frag) (P : Pm) (n : Nat) (f : List D → Int × Int → Res D) : Sp := fun vs H Q E => ∃ β ds bx, vs.length = n ∧ RA K β H vs ds ∧ Good P.T β bx H ∧ Out K P β H (f ds bx) Q E
theorem spD_len {K : PySem.W.Frag} {P : Pm} {n : Nat} {f : List D → Int × Int → Res D} : ∀ vs H Q E, spD K P n f vs H Q E → vs.length = n := fun _ _ _ _ ⟨_, _, _, h, _⟩ => h
theorem OutX.out {K : PySem.W.Frag} {P : Pm} {β : Mu} {H : Hp} {r : Res D} {Q : VK} {E : XK} (o : OutX P K β H r E fun d _ H' => ∀ v, R K β H' v d → Q v H') : Out K P β H r Q E := by
  cases r with
  | ok d bx => exact fun v H' l g r => o H' l g v r
  | err d bx => exact o
  | bad => exact o
def fCall (g : List D → Int × Int → Res D) (A : Fn (List D)) : Fn D := bnd A fun ds => fun _ bx => g ds bx
section
variable {X : Cx} {P : Pm} {E : XK} {pos : Pos} {a b : Expr} {F G : Fn D} {es : List Expr} {A : Fn (List D)}
variable {CX : CXT} {k n : Nat} {f : Addr} {fd : FuncData} {ps : List Str} {g : List D → Int × Int → Res D} {x : Str} {p : Pos} {e : Expr}
theorem ed_call (F : FnOk X.prog X.w X.K X.mg X.base CX k f fd ps (spD X.K P n g)) (hr : Room k X.A) (hg : Gl X x) (hm : X.mg x = some (.ref f)) (hk : PySem.W.keepIn X.K (.ref f) = true) (hb : Binds X.K fd ps []) (hx : Passes CX X E) (hn : (e :: es).length = n)
    (ha : EA X P E (e :: es) A) (hdb : (x == ("__debug__" : Str)) = false := by decide) (he : starEach (e :: es) X.env = (false, eval e X.env) :: starEach es X.env := by rfl) (hpl : (backTo pos (starEach es X.env)).any (·.1) = false := by rfl)
    (hA : ∀ δ bx ds bx', A δ bx = .ok ds bx' → ds.length = n) :
    ED X P E (.Call (.Name x p) (e :: es) [] pos) (fCall g A) := by
  refine pe_imp (pe_call F hr hg hm hk hb .nil hx ha hdb he hpl) ?_
  rintro σ H Q ⟨β, δ, bx, ev, gd, o⟩
  have o2 := x_bind o.x
  refine ⟨β, δ, bx, ev, gd, ?_⟩
  cases hF : A δ bx with
  | ok ds bx' =>
    rw [hF] at o2
    refine fun vs H' l g' r => ?_
    show spD X.K P n g (vs ++ []) H' Q E
    rw [List.append_nil]
    exact ⟨β, ds, bx', by rw [r.length]; exact hA _ _ _ _ hF, r, g', (o2 H' l g' l).out⟩
  | err d bx' =>
    rw [hF] at o2
    exact o2
  | bad =>
    rw [hF] at o2
    exact o2
theorem bnd_ok {α γ : Type} {F : Fn α} {G : α → Fn γ} {δ : List (Option D)} {bx bx' : Int × Int} {a : α} (h : F δ bx = .ok a bx') : bnd F G δ bx = G a δ bx' := by unfold bnd; rw [h]
theorem bnd_err {α γ : Type} {F : Fn α} {G : α → Fn γ} {δ : List (Option D)} {bx bx' : Int × Int} {d : D} (h : F δ bx = .err d bx') : bnd F G δ bx = .err d bx' := by unfold bnd; rw [h]
theorem bnd_bad {α γ : Type} {F : Fn α} {G : α → Fn γ} {δ : List (Option D)} {bx : Int × Int} (h : F δ bx = .bad) : bnd F G δ bx = .bad := by unfold bnd; rw [h]
/-- how long a list of arguments is -/
theorem len_nil {δ bx ds bx'} (h : (pur [] : Fn (List D)) δ bx = .ok ds bx') : ds.length = 0 := by
  cases h
  rfl
theorem len_cons {F : Fn D} {A : Fn (List D)} {n : Nat} (hA : ∀ δ bx ds bx', A δ bx = .ok ds bx' → ds.length = n) : ∀ δ bx ds bx', fCons F A δ bx = .ok ds bx' → ds.length = n + 1 := by
  intro δ bx ds bx' h
  unfold fCons at h
  cases hF : F δ bx with
  | ok d bx1 =>
    rw [bnd_ok hF] at h
    cases h2 : A δ bx1 with
    | ok ds2 bx2 =>
      rw [bnd_ok h2] at h
      have := hA _ _ _ _ h2
      cases h
      rw [List.length_cons, this]
    | err e bx2 => rw [bnd_err h2] at h; cases h
    | bad => rw [bnd_bad h2] at h; cases h
  | err e bx1 => rw [bnd_err hF] at h; cases h
  | bad => rw [bnd_bad hF] at h; cases h
/-- keywords -/
abbrev EK (X : Cx) (P : Pm) (E : XK) (kws : List Keyword) (A : Fn (List D)) : Prop := PK X kws (tDA X.K P E A)
theorem pk_imp {kws : List Keyword} {t t' : TA} (h : PK X kws t) (k : ∀ σ H Q, t' σ H Q → t σ H Q) : PK X kws t' := ⟨fun pos pins s σ H Q I q => h.run pos pins s σ H Q I (k σ H Q q)⟩
variable {kws : List Keyword}
theorem ek_nil : EK X P E [] (pur []) := pk_imp pk_nil fun _ H _ ⟨β, _, _, _, g, o⟩ => o [] H .refl g .nil
theorem ek_cons {nm : Option Str} {kpos : Pos} (ha : ED X P E a F) (hr : EK X P E kws A) : EK X P E (⟨nm, a, kpos⟩ :: kws) (fCons F A) := by
  refine pk_imp (pk_cons ha hr) ?_
  rintro σ H Q ⟨β, δ, bx, ev, g, o⟩
  exact d_bind ev g o.x fun bx1 x d H1 l1 g1 r1 o1 => a_bind (ev.le l1) g1 o1 fun bx2 y e H2 l2 g2 r2 o2 => o2 H2 .refl g2 _ (.cons (r1.le l2) r2)
def pick {α : Type} (z : α) (π : List Nat) (l : List α) : List α := π.map fun i => l.getD i z
theorem vals_getD : ∀ {vs : List V} {us : List Value} (i : Nat), Vals vs us → L2.RelV (vs.getD i .non) (us.getD i .none)
  | _, _, i, .nil => by simp [L2.RelV]
  | _, _, 0, .cons r _ => by simpa using r
  | _, _, i + 1, .cons _ t => by simpa using vals_getD i t
theorem ra_getD {K : PySem.W.Frag} {β : Mu} {H : Hp} : ∀ {vs : List V} {ds : List D} (i : Nat), RA K β H vs ds → R K β H (vs.getD i .non) (ds.getD i .non)
  | _, _, i, .nil => by simpa using R.non
  | _, _, 0, .cons r _ => by simpa using r
  | _, _, i + 1, .cons _ t => by simpa using ra_getD i t
theorem vals_pick {vs : List V} {us : List Value} (r : Vals vs us) : ∀ π : List Nat, Vals (pick .non π vs) (pick .none π us)
  | [] => .nil
  | i :: π => .cons (vals_getD i r) (vals_pick r π)
theorem ra_pick {K : PySem.W.Frag} {β : Mu} {H : Hp} {vs : List V} {ds : List D} (r : RA K β H vs ds) : ∀ π : List Nat, RA K β H (pick .non π vs) (pick .non π ds)
  | [] => .nil
  | i :: π => .cons (ra_getD i r) (ra_pick r π)
def fCallK (g : List D → Int × Int → Res D) (π : List Nat) (A : Fn (List D)) : Fn D := bnd A fun ds => fun _ bx => g (pick .non π ds) bx
theorem ed_callK {ks : List Str} (π : List Nat) (F : FnOk X.prog X.w X.K X.mg X.base CX k f fd ps (spD X.K P n g)) (hr : Room k X.A) (hg : Gl X x) (hm : X.mg x = some (.ref f)) (hk : PySem.W.keepIn X.K (.ref f) = true)
    (hb : ∀ (s : Shared) (ws : List Value), X.K.In s.heap → ws.length = ks.length → BindsTo s fd ⟨[], ks.zip ws⟩ (ps.zip (pick .none π ws))) (hx : Passes CX X E) (hp : π.length = n) (hpn : ps.length = n)
    (ha : EK X P E kws A) (hA : ∀ δ bx ds bx', A δ bx = .ok ds bx' → ds.length = ks.length) (hall : (backToKw pos (keywordEach kws X.env)).all (·.1.isSome) = true := by rfl) (hks : (backToKw pos (keywordEach kws X.env)).filterMap (·.1) = ks := by rfl) (hdb : (x == ("__debug__" : Str)) = false := by decide)
    (hpl : ((backTo pos (starEach [] X.env)).any (·.1) || (backToKw pos (keywordEach kws X.env)).any (·.1.isNone)) = false := by rfl) :
    ED X P E (.Call (.Name x p) [] kws pos) (fCallK g π A) := by
  refine ⟨fun pins s σ H Q I h => ?_⟩
  obtain ⟨β, δ, bx, ev, gd, o⟩ := h
  have o2 := x_bind o.x
  have h' : (tDA X.K P E A) σ H fun zs H1 => ∃ β ds bx, zs.length = ks.length ∧ RA X.K β H1 zs ds ∧ Good P.T β bx H1 ∧ Out X.K P β H1 (g (pick .non π ds) bx) Q E := by
    refine ⟨β, δ, bx, ev, gd, ?_⟩
    cases hF : A δ bx with
    | ok ds bx' =>
      rw [hF] at o2
      exact fun vs H' l g' r => ⟨β, ds, bx', by rw [r.length]; exact hA _ _ _ _ hF, r, g', (o2 H' l g' l).out⟩
    | err d bx' =>
      rw [hF] at o2
      exact o2
    | bad =>
      rw [hF] at o2
      exact o2
  refine wpAny_Call_Name_kw (ld_glob I hg hm ?_ hdb)
  refine PySem.W.callWith_KW0 (h₀ := X.base) I.ok.mod.kin hk hall ?_ hpl
  refine thn (ha.run pos pins s σ H _ I h') fun ws s2 ⟨zs, H2, I2, rz, β2, ds, bx2, hl, ra, g2, o3⟩ => ⟨I2.kIn, ?_⟩
  rw [hks]
  have hl2 : ws.length = ks.length := by rw [← rz.length]; exact hl
  refine wpAny_call (codeAny_mono (F.run X.A X.stack s2 H2 ⟨[] ++ [], ks.zip ws⟩ (pick .none π ws) (pick .non π zs) Q E hr I2.env0 (hb s2 ws I2.kIn hl2) (vals_pick rz π) ⟨β2, pick .non π ds, bx2, by unfold pick; rw [List.length_map]; exact hp, ra_pick ra π, g2, o3⟩) fun r s' hq => ?_)
  cases r with
  | error e => exact hx pins σ H2 s2 e s' I2 hq
  | ok fl =>
    cases fl with
    | ret u => exact I2.after hq
    | next => exact False.elim hq
    | brk => exact False.elim hq
    | cont => exact False.elim hq
end

/-! ### statements -/
inductive Rs where
  | nx (δ : List (Option D)) (bx : Int × Int) | rt (d : D) (bx : Int × Int) | er (d : D) (bx : Int × Int) | bad
abbrev Sn := List (Option D) → Int × Int → Rs
def OutS (K : PySem.W.Frag) (P : Pm) (β : Mu) (H : Hp) (r : Rs) (Z : Ends) (E : XK) : Prop := match r with
  | .nx δ bx => ∀ σ' H', Le β H H' → Good P.T β bx H' → Ev K β H' σ' δ → Z.nx σ' H'
  | .rt d bx => ∀ v H', Le β H H' → Good P.T β bx H' → R K β H' v d → Z.rt v H'
  | .er d bx => OutE K P β H d bx E
  | .bad => False
theorem OutS.le {K : PySem.W.Frag} {P : Pm} {β : Mu} {H H1 : Hp} {r : Rs} {Z : Ends} {E : XK} (l : Le β H H1) (h : OutS K P β H r Z E) : OutS K P β H1 r Z E := by
  cases r with
  | nx δ bx => exact fun σ H' l' g r => h σ H' (l.trans l') g r
  | rt d bx => exact fun v H' l' g r => h v H' (l.trans l') g r
  | er d bx => exact OutE.le l h
  | bad => exact h
def tDS (K : PySem.W.Frag) (P : Pm) (E : XK) (S : Sn) : TS := fun Z σ H => ∃ β δ bx, Ev K β H σ δ ∧ Good P.T β bx H ∧ OutS K P β H (S δ bx) Z E
abbrev SD (X : Cx) (P : Pm) (E : XK) (s : Stmt) (S : Sn) : Prop := PS X s (tDS X.K P E S)
abbrev SSD (X : Cx) (P : Pm) (E : XK) (s : List Stmt) (S : Sn) : Prop := PSs X s (tDS X.K P E S)
/-- from an expression's end to a statement -/
def sOf {α : Type} (F : Fn α) (k : α → Sn) : Sn := fun δ bx => match F δ bx with
  | .ok a bx' => k a δ bx'
  | .err d bx' => .er d bx'
  | .bad => .bad
section
variable {K : PySem.W.Frag} {P : Pm} {E : XK} {β : Mu} {δ : List (Option D)} {bx : Int × Int} {σ : L2.St} {H : Hp} {Z : Ends}
theorem sd_bind {F : Fn D} {k : D → Sn} {Q1 : VK} (ev : Ev K β H σ δ) (g : Good P.T β bx H) (o : OutS K P β H (sOf F k δ bx) Z E)
    (h : ∀ bx' x d H1, Le β H H1 → Good P.T β bx' H1 → R K β H1 x d → OutS K P β H1 (k d δ bx') Z E → Q1 x H1) : tD K P E F σ H Q1 := by
  refine ⟨β, δ, bx, ev, g, ?_⟩
  unfold sOf at o
  cases hF : F δ bx with
  | ok d bx' =>
    rw [hF] at o
    exact fun v H' l g' r => h bx' v d H' l g' r (OutS.le l o)
  | err d bx' =>
    rw [hF] at o
    exact o
  | bad =>
    rw [hF] at o
    exact o
theorem sa_bind {F : Fn (List D)} {k : List D → Sn} {Q1 : List V → Hp → Prop} (ev : Ev K β H σ δ) (g : Good P.T β bx H) (o : OutS K P β H (sOf F k δ bx) Z E)
    (h : ∀ bx' x d H1, Le β H H1 → Good P.T β bx' H1 → RA K β H1 x d → OutS K P β H1 (k d δ bx') Z E → Q1 x H1) : tDA K P E F σ H Q1 := by
  refine ⟨β, δ, bx, ev, g, ?_⟩
  unfold sOf at o
  cases hF : F δ bx with
  | ok d bx' =>
    rw [hF] at o
    exact fun v H' l g' r => h bx' v d H' l g' r (OutS.le l o)
  | err d bx' =>
    rw [hF] at o
    exact o
  | bad =>
    rw [hF] at o
    exact o
theorem st_bind {F : Fn Bool} {k : Bool → Sn} {Q1 : Bool → Hp → Prop} (ev : Ev K β H σ δ) (g : Good P.T β bx H) (o : OutS K P β H (sOf F k δ bx) Z E)
    (h : ∀ bx' c H1, Le β H H1 → Good P.T β bx' H1 → OutS K P β H1 (k c δ bx') Z E → Q1 c H1) : tDT K P E F σ H Q1 := by
  refine ⟨β, δ, bx, ev, g, ?_⟩
  unfold sOf at o
  cases hF : F δ bx with
  | ok d bx' =>
    rw [hF] at o
    exact fun H' l g' => h bx' d H' l g' (OutS.le l o)
  | err d bx' =>
    rw [hF] at o
    exact o
  | bad =>
    rw [hF] at o
    exact o
end
def sNext : Sn := fun δ bx => .nx δ bx
def sSeq (S T : Sn) : Sn := fun δ bx => match S δ bx with
  | .nx δ' bx' => T δ' bx'
  | .rt d bx' => .rt d bx'
  | .er d bx' => .er d bx'
  | .bad => .bad
def sSet (i : Nat) (F : Fn D) : Sn := sOf F fun d δ bx => .nx (δ.set i (some d)) bx
def sRet (F : Fn D) : Sn := sOf F fun d _ bx => .rt d bx
def sDrop (F : Fn D) : Sn := sOf F fun _ δ bx => .nx δ bx
def sIf (C : Fn Bool) (S T : Sn) : Sn := sOf C fun c => if c = true then S else T
def setAll : List Nat → List D → List (Option D) → Option (List (Option D))
  | [], [], δ => some δ
  | i :: is, d :: ds, δ => setAll is ds (δ.set i (some d))
  | _, _, _ => none
def toSeq : D → Option (List D)
  | .lst l => some l
  | .tup l => some l
  | _ => none
def sUnp (is : List Nat) (F : Fn D) : Sn := sOf F fun d δ bx => match (toSeq d).bind fun l => setAll is l δ with
  | some δ' => .nx δ' bx
  | none => .bad
def sPar (i j : Nat) (A : Fn (List D)) : Sn := sOf A fun ds δ bx => match ds with
  | [d, e] => .nx ((δ.set i (some d)).set j (some e)) bx
  | _ => .bad
section
variable {X : Cx} {P : Pm} {E : XK} {pos : Pos} {a b e : Expr} {F G : Fn D} {es : List Expr} {A : Fn (List D)} {C : Fn Bool} {S T : Sn} {st : Stmt} {ss tt : List Stmt}
theorem ssd_nil : SSD X P E [] sNext := pss_imp pss_nil fun Z σ H ⟨β, δ, bx, ev, g, o⟩ => o σ H .refl g ev
theorem ssd_cons (h1 : SD X P E st S) (h2 : SSD X P E ss T) : SSD X P E (st :: ss) (sSeq S T) := by
  refine pss_imp (pss_cons h1 h2) ?_
  rintro Z σ H ⟨β, δ, bx, ev, g, o⟩
  refine ⟨β, δ, bx, ev, g, ?_⟩
  unfold sSeq at o
  cases hF : S δ bx with
  | nx δ' bx' =>
    rw [hF] at o
    exact fun σ' H' l g' ev' => ⟨β, δ', bx', ev', g', OutS.le l o⟩
  | rt d bx' =>
    rw [hF] at o
    exact o
  | er d bx' =>
    rw [hF] at o
    exact o
  | bad =>
    rw [hF] at o
    exact o
theorem ssd_one (h1 : SD X P E st S) : SSD X P E [st] (sSeq S sNext) := ssd_cons h1 ssd_nil
theorem sd_set (i : Nat) {x : Str} {p : Pos} (hN : X.N.Nodup) (hi : X.N[i]? = some x) (hx : Loc X.env.scope x) (he : ED X P E e F) (hs : swapsWith e (some (.Name x p)) pos.line X.env = pure false := by rfl) (hf : X.fn x = true ∨ X.env.scope.names.lookup x = some .local := by first | exact .inl rfl | exact .inr rfl | assumption) :
    SD X P E (.Assign [.Name x p] e pos) (sSet i F) := by
  refine ps_imp (ps_set hN hi hx he hs hf) ?_
  rintro Z σ H ⟨β, δ, bx, ev, g, o⟩
  exact sd_bind ev g o fun bx' x d H1 l1 g1 r1 o1 => o1 _ H1 .refl g1 ((ev.le l1).set i r1)
theorem sd_ret (he : ED X P E e F) : SD X P E (.Return (some e) pos) (sRet F) := by
  refine ps_imp (ps_ret he) ?_
  rintro Z σ H ⟨β, δ, bx, ev, g, o⟩
  exact sd_bind ev g o fun bx' x d H1 l1 g1 r1 o1 => o1 _ H1 .refl g1 r1
theorem sd_if {c : Expr} (hc : ET X P E c C) (h1 : SSD X P E ss S) (h2 : SSD X P E tt T) : SD X P E (.If c ss tt pos) (sIf C S T) := by
  refine ps_imp (ps_if hc h1 h2) ?_
  rintro Z σ H ⟨β, δ, bx, ev, g, o⟩
  refine st_bind ev g o fun bx' c H1 l1 g1 o1 => ?_
  cases c with
  | true => exact iteT ⟨β, δ, bx', ev.le l1, g1, by simpa using o1⟩
  | false => exact iteF ⟨β, δ, bx', ev.le l1, g1, by simpa using o1⟩
theorem sd_par (i j : Nat) {x y : Str} {px py pt : Pos} {kt k2 pt2} (hc : X.calm = true) (hN : X.N.Nodup) (hi : X.N[i]? = some x) (hj : X.N[j]? = some y) (hij : i ≠ j)
    (hx : X.env.scope.names.lookup x = some .local) (hy : X.env.scope.names.lookup y = some .local) (ha : EA X P E [a, b] A)
    (hw : swappedStores [.Tuple [.Name x px, .Name y py] kt pt] (.Tuple [a, b] k2 pt2) X.env = pure (some [x, y]))
    (hs : swapsWithSole [.Tuple [.Name x px, .Name y py] kt pt] (.Tuple [a, b] k2 pt2) pos.line X.env = pure false := by rfl) :
    SD X P E (.Assign [.Tuple [.Name x px, .Name y py] kt pt] (.Tuple [a, b] k2 pt2) pos) (sPar i j A) := by
  refine ps_imp (ps_par hc hN hi hj hij hx hy ha hw hs) ?_
  rintro Z σ H ⟨β, δ, bx, ev, g, o⟩
  refine sa_bind ev g o fun bx' x ds H1 l1 g1 r1 o1 => ?_
  split at o1
  · obtain ⟨v, w, rfl, h1, h2⟩ := r1.two
    exact ⟨v, w, rfl, o1 _ H1 .refl g1 (((ev.le l1).set i h1).set j h2)⟩
  · exact o1.elim
/-- names one behind another -/
def tNames : List Nat → TGs
  | [] => gNil
  | i :: is => gCons (gName i) (tNames is)
theorem tNames_of {K : PySem.W.Frag} {β : Mu} {H : Hp} {Z : L2.St → Hp → Prop} : ∀ {is : List Nat} {ds : List D} {δ δ' : List (Option D)} {vs : List V} {σ : L2.St}, setAll is ds δ = some δ' → RA K β H vs ds → Ev K β H σ δ → (∀ σ', Ev K β H σ' δ' → Z σ' H) → tNames is vs σ H Z
  | [], [], δ, δ', vs, σ, h, r, ev, k => by
    cases r
    cases h
    exact ⟨rfl, k σ ev⟩
  | [], _ :: _, _, _, _, _, h, _, _, _ => by cases h
  | _ :: _, [], _, _, _, _, h, _, _, _ => by cases h
  | i :: is, d :: ds, δ, δ', _, σ, h, .cons (v := v) (vs := vs) r ra, ev, k => ⟨v, vs, rfl, tNames_of (is := is) h ra (ev.set i r) k⟩
theorem setAll_len : ∀ {is : List Nat} {ds : List D} {δ δ' : List (Option D)}, setAll is ds δ = some δ' → ds.length = is.length
  | [], [], _, _, _ => rfl
  | [], _ :: _, _, _, h => by cases h
  | _ :: _, [], _, _, h => by cases h
  | i :: is, d :: ds, δ, δ', h => by
    rw [List.length_cons, List.length_cons, setAll_len (is := is) h]
theorem pg_or {tg : Expr} {t u : TG} (h1 : PG X tg t) (h2 : PG X tg u) : PG X tg (fun v σ H Q => t v σ H Q ∨ u v σ H Q) :=
  ⟨fun pins s σ H v w Q I r h => h.elim (fun h => h1.run pins s σ H v w Q I r h) (fun h => h2.run pins s σ H v w Q I r h)⟩
theorem sd_unp (is : List Nat) {kk : Nat} {p : Pos} {tgs : List Expr} (hc : X.calm = true) (ht : PGs X tgs (tNames is)) (hl : is.length = tgs.length) (he : ED X P E e F)
    (hn : (assignEach tgs X.env).length = is.length := by rfl) (hst : (assignEach tgs X.env).findIdx? (·.1) = none := by rfl)
    (hs : swapsWithSole [.Tuple tgs kk p] e pos.line X.env = pure false := by rfl) (hw : swappedStores [.Tuple tgs kk p] e X.env = pure none := by rfl) (h1 : (assignEach [.Tuple tgs kk p] X.env).map (·.2) = [assign (.Tuple tgs kk p) X.env] := by rfl) :
    SD X P E (.Assign [.Tuple tgs kk p] e pos) (sUnp is F) := by
  refine ps_imp (ps_asg he (pg_or (pg_tup hc ht hn hst) (pg_lst hc ht hn hst)) hs hw h1) ?_
  rintro Z σ H ⟨β, δ, bx, ev, g, o⟩
  refine sd_bind ev g o fun bx' x d H1 l1 g1 r1 o1 => ?_
  split at o1
  · rename_i δ' hδ
    cases r1 with
    | lst s ra => exact .inr ⟨_, _, rfl, s.sq, by rw [ra.length]; exact setAll_len hδ, tNames_of hδ ra (ev.le l1) fun σ' ev' => o1 σ' H1 .refl g1 ev'⟩
    | tup s ra => exact .inl ⟨_, _, rfl, s.sq, by rw [ra.length]; exact setAll_len hδ, tNames_of hδ ra (ev.le l1) fun σ' ev' => o1 σ' H1 .refl g1 ev'⟩
    | non => cases hδ
    | bl _ => cases hδ
    | int _ => cases hδ
    | str _ => cases hδ
    | box _ => cases hδ
  · exact o1.elim
end

/-! ### a def of the text keeps the promise -/
def fnD (N : List Str) (S : Sn) : List D → Int × Int → Res D := fun ds bx => match S (ds.map some ++ List.replicate (N.length - ds.length) none) bx with
  | .nx _ bx' => .ok .non bx'
  | .rt d bx' => .ok d bx'
  | .er d bx' => .err d bx'
  | .bad => .bad
def noErr : Res D → Res D
  | .ok d bx => .ok d bx
  | _ => .bad
theorem ev_start {K : PySem.W.Frag} {β : Mu} {H : Hp} {N : List Str} {vs : List V} {ds : List D} (r : RA K β H vs ds) : Ev K β H (L2.start N vs) (ds.map some ++ List.replicate (N.length - ds.length) none) := by
  refine ⟨by unfold L2.start; rw [r.length]; simp [r.length], fun i d h => ?_⟩
  by_cases hi : i < ds.length
  · rw [List.getElem?_append_left (by simpa using hi), List.getElem?_map] at h
    cases hd : ds[i]? with
    | none => rw [hd] at h; cases h
    | some d' =>
      rw [hd] at h
      cases h
      obtain ⟨v, h1, h2⟩ := r.get hd
      refine ⟨v, ?_, h2⟩
      unfold L2.start
      rw [List.getElem?_append_left (by rw [List.length_map, r.length]; exact hi), List.getElem?_map, h1]
      rfl
  · rw [List.getElem?_append_right (by simpa using hi)] at h
    have := List.mem_of_getElem? h
    rw [List.mem_replicate] at this
    cases this.2
theorem fn_end {K : PySem.W.Frag} {P : Pm} {N : List Str} {S : Sn} {vs : List V} {H : Hp} {Q : VK} {E : XK} {n : Nat} (h : spD K P n (fnD N S) vs H Q E) : tDS K P E S { nx := fun _ H' => Q .non H', rt := Q } (L2.start N vs) H := by
  obtain ⟨β, ds, bx, hl, r, g, o⟩ := h
  refine ⟨β, _, bx, ev_start r, g, ?_⟩
  unfold fnD at o
  cases hS : S (ds.map some ++ List.replicate (N.length - ds.length) none) bx with
  | nx δ bx' =>
    rw [hS] at o
    exact fun σ' H' l g' ev => o .non H' l g' .non
  | rt d bx' =>
    rw [hS] at o
    exact o
  | er d bx' =>
    rw [hS] at o
    exact o
  | bad =>
    rw [hS] at o
    exact o
section
variable {Pg : Program} {w : World} {K : PySem.W.Frag} {mg : Str → Option Value} {base : Heap} {P : Pm}
/-- a def that raises nothing -/
theorem fn_ok {x qual : Str} {st : Stmt} {f : Addr} {fd : FuncData} {N ps : List Str} {k n : Nat} {S : Sn} (F : Fun K x qual st f fd) (sc : FnScope N ps (defScope st)) (hn : ps.length = n)
    (hb : ∀ (cdv : Value) (A : Around) (outer : List Env) (s : Shared) (H : Hp), Room k (A.deeper (envOfC qual (defScope st) s.heap.objs.size f cdv)) →
      SSD (cxOf CX0 Pg w K mg base N qual (defScope st) f cdv A outer s H E0).nox P E0 (defBody st) S) : FnOk Pg w K mg base CX0 (k + 1) f fd ps (spD K P n fun ds bx => noErr (fnD N S ds bx)) := by
  refine F.ok sc (fun vs H Q E h => (spD_len _ _ _ _ h).trans hn.symm) fun cdv A outer s H vs Q E hr h => ?_
  have hs : spD K P n (fnD N S) vs H Q E0 := by
    obtain ⟨β, ds, bx, h1, h2, h3, o⟩ := h
    refine ⟨β, ds, bx, h1, h2, h3, ?_⟩
    replace o : Out K P β H (noErr (fnD N S ds bx)) Q E := o
    cases hF : fnD N S ds bx with
    | ok d bx' =>
      rw [hF] at o
      exact o
    | err d bx' =>
      rw [hF] at o
      exact o.elim
    | bad =>
      rw [hF] at o
      exact o
  exact ⟨tDS K P E0 S, (hb cdv A outer s H hr), fn_end hs⟩
end
end Mi

set_option Elab.async false
set_option linter.all false
set_option maxRecDepth 100000
set_option maxHeartbeats 4000000
namespace PySem
namespace RefX
open PySem.W PySem.Calls PyProof.Rows PySem.HandSPX
/-! ### the text of __init__ -/
def iA (p1 p2 : Pos) : Arguments := { posonlyargs := [], args := [{ arg := "self", annotation := none, pos := p1 }, { arg := "at", annotation := none, pos := p2 }], vararg := none, kwonlyargs := [], kw_defaults := [], kwarg := none, defaults := [] }
def iB (q1 q2 q3 q4 : Pos) : List Stmt := [.Assign [.Attribute (.Name "self" q1) "at" q2] (.Name "at" q3) q4]
def iS : Scope := { kind := .function, names := [(PySem.Str.ofString "self", .local), (PySem.Str.ofString "at", .local)], isGenerator := false, isCoroutine := false, more := [] }
/-- what the written part says of Low, at C, and of its __init__, at fI -/
structure LowTxt (K : Frag) (mg : Str → Option Value) (C fI : Addr) : Prop where
  gC : mg "Refused" = some (.ref C)
  cls : ∃ nm q N bs bm sn sub ab col dd k0 k1 k2 k3 k5, K.lookup C = some (excClassObj nm q C N bs bm true sn sub ab col dd k0 k1 k2 k3 k5 "ValueError.__new__") ∧ refsVE bm = true
  sa : findIn K (.ref C) "__setattr__" = some (some (.builtin "object.__setattr__"))
  ga : findIn K (.ref C) "__getattribute__" = some (some (.builtin "BaseException.__getattribute__"))
  gg : findIn K (.ref C) "__getattr__" = some none
  noN : findIn K (.ref C) "at" = some none
  iC : findIn K (.ref C) "__init__" = some (some (.ref fI))
  tC : typeIn K (.ref fI) = some (.type "function")
  kC : keepIn K (.ref C) = true
  exC : subIn K (.ref C) (.type "BaseException") = some true
  tyC : typeIn K (.ref C) = some (.type "type")
  hdC : hasDictIn K C = true
  te : exmOne K (.ref C) (.ref C) = some true
  fn : ∃ (oc : Value) (od : Option Addr) (doc pm : Value) (an : Option Addr) (cdv ct : Value) (osl : Array (Option Value)) (p1 p2 q1 q2 q3 q4 : Pos),
    K.lookup fI = some ⟨oc, od, .func (fnOf "__init__" "Refused.__init__" (iA p1 p2) (iB q1 q2 q3 q4) iS .none .none doc pm an cdv ct), osl⟩ ∧ codeIn K cdv "Refused.__init__" = true
theorem one_size (v : Value) : [v].length ≤ sizeLine := by
  rw [sizeLine_eq]
  exact (by decide : 1 ≤ 16777216)
theorem kept_but {K : Frag} {h h' : Heap} {x : Addr} (X : K.In h) (hx : K.lookup x = none) (k : ∀ b o, b ≠ x → h.get? b = some o → h'.get? b = some o) : K.In h' := fun a o e =>
  k a o (fun z => by rw [z, hx] at e; cases e) (X a o e)
theorem ldC {M : Model} {s : Shared} {name : Str} {scope : Scope} {L a : Addr} {cd : Value} {m : Str → Option Value} {x : Str} {pos : Pos} {v : Value} {Q : Value → Shared → Prop} {A : Around} {E : Value → Shared → Prop} (hn : s.heap.Ns L m) (hv : m x = some v) (h : Q v s)
    (hk : scope.kind = .function := by rfl) (hl : (envOfC name scope L a cd).kindOf x = some .local := by rfl) (hd : (x == ("__debug__" : Str)) = false := by decide) :
    wpAny M A (eval (.Name x pos) (envOfC name scope L a cd)) Q E s := wpAny_Name (wpAny_loadName_local hk hl hn hv h) hd
/-- what __init__ leaves of a fresh exception at x -/
structure InitEnd (h h' : Heap) (x C dx t1 : Addr) (v : Value) : Prop where
  keep : ∀ b o, b ≠ x → h.get? b = some o → h'.get? b = some o
  obj : h'.get? x = some { cls := .ref C, dict := some dx, data := .fields #[.ref t1, .none, .none, .none, .bool false, .none] }
  dbig : h.objs.size ≤ dx
  dne : dx ≠ x
  ns : h'.Ns1 dx (fun y => if y = "at" then some v else none)
/-- a made Low -/
structure OwnMade (h h' : Heap) (e C d : Addr) (v : Value) : Prop where
  keep : ∀ b o, h.get? b = some o → h'.get? b = some o
  new : h.objs.size ≤ e
  obj : ∃ oe vs, h'.get? e = some oe ∧ oe.cls = .ref C ∧ oe.dict = some d ∧ oe.data = .fields vs ∧ vs[1]? = some .none
  dbig : h.objs.size ≤ d
  dne : d ≠ e
  ns : h'.Ns1 d (fun y => if y = "at" then some v else none)
section
variable {prog : Program} {w : World} {A : Around} {E : Value → Shared → Prop} {R : Result → Shared → Prop} {s : Shared} {K : Frag} {mg : Str → Option Value} {C fI : Addr}
theorem low_init (T : LowTxt K mg C fI) {x t0 : Addr} {v : Value} (X : K.In s.heap) (hlim : s.heap.NoLimit) (hx : s.heap.get? x = some (excO C t0)) (hnx : K.lookup x = none) (hroom : A.depth < recursionLimit)
    (hq : ∀ h' tk dx, InitEnd s.heap h' x C dx t0 v → R (.ok (.ret .none)) { s with heap := h', toks := tk }) :
    codeAny (model prog w) A (.call (.ref fI) ⟨[.ref x, v], []⟩) R s := by
  obtain ⟨oc, od, doc, pm, an, cdv, ct, osl, p1, p2, q1, q2, q3, q4, ho, hcd⟩ := T.fn
  obtain ⟨nm, q, N, bs, bm, sn, sub, ab, col, dd, k0, k1, k2, k3, k5, hC, hbm⟩ := T.cls
  have hcl : clsIn K C = some { name := nm, bases := bs, mro := .ref C :: bm, ns := N, qualname := q, hasDict := true, slotNames := sn, subclasses := sub, abstract := ab, collection := col, hasDel := false } := by unfold clsIn; rw [hC] <;> rfl
  refine Att.call_fn (binds := [("self", .ref x), ("at", v)]) X hlim ho hcd hroom (BindsTo.of_eq (by first | rfl | with_unfolding_all rfl)) (by first | rfl | decide | with_unfolding_all rfl) (fun s₁ IC => ?_) rfl rfl rfl
  obtain ⟨h₁, tk₁, rfl⟩ := IC.toInCall.same
  have k : ∀ b o, s.heap.get? b = some o → h₁.get? b = some o := IC.toInCall.keep
  have hn := IC.toInCall.ns
  have hxL : s.heap.objs.size ≠ x := Nat.ne_of_gt (Heap.lt_size hx)
  have X₁ : K.In h₁ := X.keeps k
  have hx₁ := k _ _ hx
  -- self.by = by
  show wpAny _ _ (execs _ _) _ _ _
  refine wpAny_execs_cons (plainObj_wpAny_Assign_Attribute ?_)
  refine ldC (v := v) hn (by first | rfl | with_unfolding_all rfl | kernel_rfl) (ldC (v := .ref x) hn (by first | rfl | with_unfolding_all rfl | kernel_rfl) ?_)
  refine set_plain X₁ (ox := excO C t0) (od := none) ⟨hx₁, rfl, rfl, trivial⟩ T.sa ?_
  refine exc_osa X₁ hx₁ hcl (show refsVE (.ref C :: bm) = true from hbm) rfl T.noN (fun h₃ tk₃ dx k₃ dn dne hx₃ hn₃ => ?_)
  show wpAny _ _ (execs _ _) _ _ _
  have z : s.heap.objs.size < h₁.objs.size := hn.lt
  exact wpAny_execs_nil (hq h₃ tk₃ dx ⟨fun b o hb e => k₃ b o hb (k b o e), hx₃, Nat.le_of_lt (Nat.lt_of_lt_of_le z dn), dne, hn₃⟩)
theorem low_made (T : LowTxt K mg C fI) {v : Value} (X : K.In s.heap) (hlim : s.heap.NoLimit) (hroom : A.depth + 1 < recursionLimit)
    (hq : ∀ h' tk e d, OwnMade s.heap h' e C d v → R (.ok (.ret (.ref e))) { s with heap := h', toks := tk }) :
    codeAny (model prog w) A (.call (.ref C) ⟨[v], []⟩) R s := by
  obtain ⟨nm, q, N, bs, bm, sn, sub, ab, col, dd, k0, k1, k2, k3, k5, hC, hbm⟩ := T.cls
  obtain ⟨hp, g, dr, tk, os⟩ := s
  have k : ∀ b o, hp.get? b = some o → ((hp.push (kdv_tup [v])).push (excO C hp.objs.size)).get? b = some o := fun b o e => Heap.get?_push_of_some _ (Heap.get?_push_of_some _ e)
  have hget : ((hp.push (kdv_tup [v])).push (excO C hp.objs.size)).get? (hp.objs.size + 1) = some (excO C hp.objs.size) := by heap_get
  have hnx : K.lookup (hp.objs.size + 1) = none := by
    cases e : K.lookup (hp.objs.size + 1) with
    | none => rfl
    | some o =>
      have z : hp.get? (hp.objs.size + 1) = some o := X _ _ e
      exact absurd (Nat.lt_of_succ_lt (Heap.lt_size z)) (Nat.lt_irrefl _)
  refine call_own F.excBase_ValueError (fun X => refsVE_contains X bm hbm) (X _ _ hC) (looks_findIn X T.iC) (fun self => bind_fn X self T.tC) (one_size v) ?_
  refine low_init (s := ⟨(hp.push (kdv_tup [v])).push (excO C hp.objs.size), g, dr, tk, os⟩) T (X.keeps k) (hlim.keeps k) hget hnx ?_ fun h' tk' dx ⟨k', hx, dn, dne, hns⟩ => ?_
  · show A.depth + 1 < recursionLimit
    exact hroom
  · have old : ∀ b o, hp.get? b = some o → h'.get? b = some o := fun b o e => k' b o (Nat.ne_of_lt (Nat.lt_succ_of_lt (Heap.lt_size e))) (k b o e)
    have z : hp.objs.size + 1 + 1 ≤ dx := by
      first
        | (simpa only [Heap.size_push] using dn)
        | exact dn
        | (have q := dn; rw [Heap.size_push, Heap.size_push] at q; exact q)
    exact ⟨rfl, hq h' tk' (hp.objs.size + 1) dx ⟨old, Nat.le_succ _, ⟨_, _, hx, rfl, rfl, rfl, rfl⟩, Nat.le_trans (Nat.le_trans (Nat.le_succ _) (Nat.le_succ _)) z, dne, hns⟩⟩
end
end RefX
end PySem
namespace L2
open PySem PySem.Spec PyProof.Rows
theorem relO_low {v : V} {v' : Value} (r : RelV v v') (f : Str) : RelO (List.lookup f [(("at" : Str), v)]) (if f = "at" then some v' else none) := by
  by_cases hw : f = "at"
  · subst hw
    rw [if_pos rfl]
    have q : List.lookup ("at" : Str) [(("at" : Str), v)] = some v := by simp [List.lookup]
    rw [q]
    exact r
  · rw [if_neg hw]
    have qw : (f == ("at" : Str)) = false := by simpa using hw
    have q2 : List.lookup f [(("at" : Str), v)] = none := by simp [List.lookup, qw]
    rw [q2]
    trivial
section
variable {X : Cx} {C fI : Addr}
/-- Low(e) -/
def tMkLow (C : Addr) (ta : TA) : St → Hp → XK → Prop := fun σ H Q => ta σ H fun vs H1 => ∃ v, vs = [v] ∧ ∀ d, H1 d = none → Q (.ref C) (some d) (upd H1 d (.xd [(("at" : Str), v)]))
theorem pmk_low {a : Expr} {ta : TA} {p pos : Pos} {k : Nat} (T : PySem.RefX.LowTxt X.K X.mg C fI) (hr : Room k X.A) (ha : PA X [a] ta) (hg : Gl X "Refused" := by rfl)
    (he : starEach (a :: []) X.env = (false, eval a X.env) :: starEach [] X.env := by rfl) (hpl : (backTo pos (starEach [] X.env)).any (·.1) = false := by rfl) :
    PMk X (.Call (.Name "Refused" p) [a] [] pos) (tMkLow C ta) := by
  intro pins s σ H Q I h
  refine wpAny_Call_Name_kw (ld_glob I hg T.gC ?_)
  refine PySem.W.callWith_K (h₀ := X.base) I.ok.mod.kin T.kC (thn (ha.run pos pins s σ H _ I h) fun us s1 hh => ?_) he hpl
  obtain ⟨vs, H1, I1, r1, v, ev, q1⟩ := hh
  subst ev
  refine ⟨I1.kIn, ?_⟩
  cases r1 with
  | cons rv rn =>
    rename_i v' us'
    cases rn
    show wpAny _ _ (call (.ref C) [v']) _ _ _
    have hlim := I1.nolimit
    obtain ⟨hp, g, dr, tk, os⟩ := s1
    refine wpAny_call (PySem.RefX.low_made T I1.kIn hlim (by have := hr.dp; omega) fun h' tk' e d M => ?_)
    show MkP X pins σ Q (.ref e) ⟨h', g, dr, tk', os⟩
    obtain ⟨oe, fv, hoe, hc, hd, hdat, h1⟩ := M.obj
    have hns := M.ns
    obtain ⟨G', g1, g2⟩ := restrict h' fun b => decide (b ≠ e)
    have gk : ∀ b, b ≠ e → G'.get? b = h'.get? b := fun b hb => g1 b (decide_eq_true hb)
    have ge : G'.get? e = none := g2 e (by simp)
    have old : ∀ b o, hp.get? b = some o → G'.get? b = some o := fun b o q => (gk b (Nat.ne_of_lt (Nat.lt_of_lt_of_le (Heap.lt_size q) M.new))).trans (M.keep b o q)
    have ob : ObjOk X.prog X.w (upd H1 d (.xd [(("at" : Str), v)])) G' d (.xd [(("at" : Str), v)]) :=
      ⟨_, hns.at (fun o q => (gk d M.dne).trans q), fun f => relO_low rv f⟩
    have J : Inv X pins σ (upd H1 d (.xd [(("at" : Str), v)])) ⟨G', g, dr, tk', os⟩ := I1.laid (t' := tk') old M.dbig ob
    refine ⟨e, oe, fv, ⟨G', g, dr, tk', os⟩, _, .ref C, some d, rfl, J, fun b o q => ?_, ge, hoe, ⟨hc, hd⟩, hdat, h1, ?_, rfl, I1.bare, raises_own T.exC T.tyC, q1 d (I1.hok.fresh M.dbig)⟩
    · by_cases hb : b = e
      · have q' : G'.get? b = some o := q
        rw [hb, ge] at q'; cases q'
      · exact (gk b hb).symm.trans q
    · rw [upd_ne (Ne.symm M.dne)]
      exact I1.hok.fresh M.new
/-- raise Low(e) -/
def tRaiseLow (C : Addr) (W : WX) (ta : TA) : TS := fun _ σ H => tMkLow C ta σ H fun cls d H' => W cls d σ H'
theorem ps_raiseLow {a : Expr} {ta : TA} {W : WX} {p pos pos2 : Pos} {k : Nat} (hc : X.calm = true) (T : PySem.RefX.LowTxt X.K X.mg C fI) (hr : Room k X.A) (tk : Takes X W) (ha : PA X [a] ta) (hg : Gl X "Refused" := by rfl)
    (he : starEach (a :: []) X.env = (false, eval a X.env) :: starEach [] X.env := by rfl) (hpl : (backTo pos (starEach [] X.env)).any (·.1) = false := by rfl) :
    PS X (.Raise (some (.Call (.Name "Refused" p) [a] [] pos)) none pos2) (tRaiseLow C W ta) := ps_raise hc tk (pmk_low T hr ha hg he hpl)
/-- low.by, low the exception that the suite holds (at a; its class cls, its dict d) -/
def tByLow (C : Addr) (a : Addr) (cls : Value) (d : Option Addr) (te : TE) : TE := fun σ H Q => te σ H fun x H1 => x = .ref a ∧ cls = .ref C ∧ ∃ (dd : Addr) (v : V), d = some dd ∧ H1 dd = some (.xd [(("at" : Str), v)]) ∧ Q v H1
theorem pe_byLow {a : Addr} {oe : Obj} {cls : Value} {d : Option Addr} {pn : List (Addr × Obj)} {e : Expr} {te : TE} {pos : Pos} (T : PySem.RefX.LowTxt X.K X.mg C fI) (hz : Zc cls d oe) (hf : ∃ vs, oe.data = .fields vs) (he : PE (X.suite a ((a, oe) :: pn)) e te)
    (hb : attributeBase e "at" X.env (eval e X.env) = eval e X.env := by rfl) :
    PE (X.suite a ((a, oe) :: pn)) (.Attribute e "at" pos) (tByLow C a cls d te) := by
  refine ⟨fun pins s σ H Q I h => ?_⟩
  refine attr_of hb (thn (he.run pins s σ H _ I h) fun u s1 hh => ?_)
  obtain ⟨x, H1, I1, rx, ex, ec, dd, v, ed, ea, q⟩ := hh
  subst ex
  obtain rfl : u = Value.ref a := rx
  subst ec
  subst ed
  obtain ⟨ha, _⟩ := I1.pin (a, oe) (List.mem_append_left _ List.mem_cons_self)
  obtain ⟨vs, hd⟩ := hf
  have hx : ObjOk X.prog X.w H1 s1.heap dd (.xd [(("at" : Str), v)]) := I1.hok dd _ ea
  obtain ⟨mA, hns, hr⟩ := hx
  obtain ⟨od, ho, hl⟩ := lookIn_ns hns
  have l : List.lookup ("at" : Str) [(("at" : Str), v)] = some v := by simp [List.lookup]
  obtain ⟨u, hu, ru⟩ := RelO.some_of (v := v) (o := mA "at") (by rw [← l]; exact hr "at")
  have J : PySem.W.InstAt s1.heap a oe C (some od) := ⟨ha, hz.1, by unfold PySem.W.notCls; rw [hd] <;> rfl, by rw [hz.2]; exact ho⟩
  exact HandSPX.exc_get I1.kIn J T.ga T.gg T.exC (PySem.W.findObj_own T.hdC T.noN rfl (by rw [hl, hu])) (handed_of ru) ⟨v, H1, I1.tok _, ru, q⟩
end
end L2

set_option Elab.async false
set_option linter.all false
set_option maxRecDepth 100000
set_option maxHeartbeats 4000000
namespace Mi
open PySem PySem.Spec PyProof.Rows L2
open PySem.W (Frag kitOne kit_cls)
/-! ### isinstance that is true, of an exception with its own dict -/
theorem kit_true {K : Frag} {x t c : Value} {Z : Heap → Prop} (ty : ∀ (M : Model) (h : Heap), K.In h → Z h → PySem.W.Looks M h (typeOf x) t) (ne : (t == c) = false) (e : kitOne K t c = some true) :
    Answers (fun s => K.In s.heap ∧ Z s.heap) x c true := by
  rintro dep tk prog w A R ⟨h0, g, d, tt, os⟩ ⟨⟨X, p⟩, hq⟩
  have LT := ty (model prog w) h0 X p
  unfold kitOne at e
  rw [if_neg (by rw [ne]; exact Bool.false_ne_true)] at e
  obtain ⟨hty, his, hsub⟩ := kit_cls (M := model prog w) X e
  have LI : PySem.W.Looks (model prog w) h0 (isInstance x c) true := LT.andThen hsub
  unfold Builtin.«isinstance.nested»
  refine wpAny_bind (LT.at ?_)
  rw [if_neg (by rw [ne]; exact Bool.false_ne_true)]
  refine wpAny_bind (hty.at ?_)
  rw [if_pos (by decide)]
  k_delta "plainIsInstance"
  refine wpAny_bind (wpAny_bind (his.at ?_))
  simp only [Bool.not_true, Bool.false_eq_true, if_false]
  refine wpAny_bind (LI.at ?_)
  first
    | exact wpAny_pure (wpAny_pure (hq tt))
    | (simp only [if_true]; first | exact wpAny_pure (wpAny_pure (hq tt)) | exact wpAny_pure (hq tt) | exact wpAny_bind (wpAny_pure (wpAny_pure (hq tt))))
theorem call_isX {X : Cx} {a C B : Addr} {cls : Value} {d : Option Addr} {oe : Obj} {pn : List (Addr × Obj)} (hz : Zc cls d oe) (hf : ∃ vs, oe.data = .fields vs) (hne : C ≠ B) (hk : kitOne X.K (.ref C) (.ref B) = some true) :
    CallR (X.suite a ((a, oe) :: pn)) (.builtin "isinstance") (fun xs H Q => xs = [.ref a, .ref B] ∧ cls = .ref C ∧ (∃ dd fs, d = some dd ∧ H dd = some (.xd fs)) ∧ Q (.bl true) H) := by
  intro pins s σ H xs us Q I r h
  obtain ⟨rfl, rfl, ⟨dd, fs, rfl, hd⟩, q⟩ := h
  obtain ⟨u1, u2, rfl, r1, r2⟩ := vals2 r
  obtain rfl : u1 = Value.ref a := r1
  obtain rfl : u2 = Value.ref B := r2
  obtain ⟨hget, _⟩ := I.pin (a, oe) (List.mem_append.mpr (.inl List.mem_cons_self))
  obtain ⟨vs, hv⟩ := hf
  obtain ⟨mA, hns, _⟩ := (show ObjOk X.prog X.w H s.heap dd (.xd fs) from I.hok dd _ hd)
  obtain ⟨od, ho, _⟩ := lookIn_ns hns
  have J : PySem.W.InstAt s.heap a oe C (some od) := ⟨hget, hz.1, by unfold PySem.W.notCls; rw [hv], by rw [hz.2]; exact ho⟩
  exact call_isinstance (S := fun _ R s => (X.K.In s.heap ∧ PySem.W.InstAt s.heap a oe C (some od)) ∧ ∀ tk, R (.ok (.ret (.bool true))) { s with toks := tk })
    (fun prog w A R s hs => isinstance_outer (kit_true (Z := fun h => PySem.W.InstAt h a oe C (some od)) (fun _ _ _ (J : PySem.W.InstAt _ a oe C (some od)) => J.type) (by exact beq_eq_false_iff_ne.mpr fun z => hne (Value.ref.inj z)) hk 0 _ prog w A R s hs) (fun z => nomatch z)) ⟨⟨I.kIn, J⟩, fun tk => ⟨.bl true, H, I.tok tk, rfl, q⟩⟩

/-! ### raise, defs that raise -/
def sRaise (F : Fn D) : Sn := sOf F fun d _ bx => .er d bx
section
variable {X : Cx} {P : Pm} {E : XK} {pos : Pos} {a : Expr} {F : Fn D}
theorem sOf_cons {k : D → Sn} {δ : List (Option D)} {bx : Int × Int} : sOf (fCons F (pur [])) (fun ds => match ds with | [d] => k d | _ => fun _ _ => .bad) δ bx = sOf F k δ bx := by
  unfold sOf
  cases hF : F δ bx with
  | ok d bx1 =>
    rw [show fCons F (pur []) δ bx = .ok [d] bx1 from bnd_ok hF]
  | err d bx1 => rw [show fCons F (pur []) δ bx = .err d bx1 from bnd_err hF]
  | bad => rw [show fCons F (pur []) δ bx = .bad from bnd_bad hF]
theorem sd_raise {fI : Addr} {k : Nat} {p pos2 : Pos} (hc : X.calm = true) (T : PySem.RefX.LowTxt X.K X.mg P.CR fI) (hr : Room k X.A) (tk : Takes X fun cls d _ H => E cls d H) (ha : ED X P E a F) (hg : Gl X "Refused" := by rfl)
    (h1 : starEach (a :: []) X.env = (false, eval a X.env) :: starEach [] X.env := by rfl) (h2 : (backTo pos (starEach [] X.env)).any (·.1) = false := by rfl) :
    SD X P E (.Raise (some (.Call (.Name "Refused" p) [a] [] pos)) none pos2) (sRaise F) := by
  refine ps_imp (ps_raiseLow hc T hr tk (ea_cons (P := P) (E := E) ha ea_nil h1) hg h1 h2) ?_
  rintro Z σ H ⟨β, δ, bx, ev, g, o⟩
  unfold sRaise at o
  rw [← sOf_cons] at o
  refine sa_bind ev g o fun bx' vs ds H1 l1 g1 r1 o1 => ?_
  split at o1
  · rename_i d
    obtain ⟨v, rfl, rv⟩ := r1.one
    exact ⟨v, rfl, fun q hq => o1 q v _ (.new hq) (g1.new hq) upd_same (rv.le (.new hq))⟩
  · exact o1.elim
end
theorem pass0' {X : Cx} {E : XK} : Passes CX0 X E := fun _ _ _ _ _ _ _ h => h.elim
section
variable {Pg : Program} {w : World} {K : PySem.W.Frag} {mg : Str → Option Value} {base : Heap} {P : Pm}
theorem fn_okX {x qual : Str} {st : Stmt} {f : Addr} {fd : FuncData} {N ps : List Str} {k n : Nat} {S : Sn} (F : Fun K x qual st f fd) (sc : FnScope N ps (defScope st)) (hn : ps.length = n)
    (hb : ∀ (cdv : Value) (A : Around) (outer : List Env) (s : Shared) (H : Hp) (E : XK), Room k (A.deeper (envOfC qual (defScope st) s.heap.objs.size f cdv)) →
      SSD (cxOf (L2.CX Pg w) Pg w K mg base N qual (defScope st) f cdv A outer s H E) P E (defBody st) S) : FnOk Pg w K mg base (L2.CX Pg w) (k + 1) f fd ps (spD K P n (fnD N S)) :=
  F.okX sc (fun vs H Q E h => (spD_len _ _ _ _ h).trans hn.symm) fun cdv A outer s H vs Q E hr h => ⟨tDS K P E S, hb cdv A outer s H E hr, fn_end h⟩
end
/-! ### heard(lambda: e): what a call tells or is refused with -/
theorem takes_len {X : Cx} {W : WX} (t : Takes X W) : Takes X (fun cls d σ H => σ.length = X.N.length → W cls d σ H) := fun u s' ⟨a, B, sI, pins, σ, H, cls, d, e, I, nb, up, sky, na, os, ag, w⟩ =>
  t u s' ⟨a, B, sI, pins, σ, H, cls, d, e, I, nb, up, sky, na, os, ag, w I.len⟩
/-- the error's part -/
def EHeard (K : PySem.W.Frag) (CR : Addr) (Q : VK) : XK := fun cls d H' => cls = .ref CR ∧ ∃ dd v pd, d = some dd ∧ H' dd = some (.xd [(("at" : Str), v)]) ∧ Dp K H' v pd ∧ pd.showable = true ∧ pd.hasDict = false ∧ pd.depth ≤ 60 ∧ pd.shown.length ≤ sizeLine ∧
  ∀ p, H' p = none → Q (.ref p) (upd H' p (.tup [.str "refused", .str pd.shown, .bl true]))
def TTHeard (K : PySem.W.Frag) (CR : Addr) : (XK → Hp → VK → Prop) → Hp → VK → Prop := fun tl H Q =>
  tl (EHeard K CR Q) H fun v H' => [V.str "told", v].length ≤ sizeLine ∧ ∀ p, H' p = none → Q (.ref p) (upd H' p (.tup [.str "told", v]))
theorem b_repr : bootBuiltins ("repr" : Str) = some (.builtin "repr") := by decide +kernel
theorem b_isinstance : bootBuiltins ("isinstance" : Str) = some (.builtin "isinstance") := by decide +kernel
theorem nd_heard : (["_law_ask", "fault"] : List Str).Nodup := by decide +kernel
theorem heard_gives {X : Cx} {x q : Str} {sg : Scope} {g CR B fI : Addr} {cdg : Value} {k : Nat} {j1 j2 k1 k2 : Nat} {p0 p1 p2 p3 p4 p5 p6 p7 p8 p9 q1 q2 q3 q4 q5 q6 q7 q8 q9 : Pos}
    (hga : X.A.guards = some []) (hr : Room (k + 2) X.A) (T : PySem.RefX.LowTxt X.K X.mg CR fI) (hne : CR ≠ B) (hk : PySem.W.kitOne X.K (.ref CR) (.ref B) = some true) (gB : X.mg "WreckError" = some (.ref B)) (gr : X.mg "repr" = none) (gi : X.mg "isinstance" = none)
    (s1 : sg.names.lookup ("Refused" : Str) = some .globalImplicit) (s2 : sg.names.lookup ("repr" : Str) = some .globalImplicit) (s3 : sg.names.lookup ("isinstance" : Str) = some .globalImplicit) (s4 : sg.names.lookup ("WreckError" : Str) = some .globalImplicit) (s5 : sg.names.lookup ("fault" : Str) = some .local) (s6 : sg.names.lookup ("_law_ask" : Str) = some .local) :
    LamX.GivesTo X ["_law_ask", "fault"] x sg g cdg [.Try [.Return (some (.Tuple [.Constant (.str "told") j1 p0, .Call (.Name "_law_ask" p1) [] [] p2] k1 p3)) p4]
      [.ExceptHandler (some (.Name "Refused" p5)) (some "fault") [.Return (some (.Tuple [.Constant (.str "refused") j2 p6, .Call (.Name "repr" p7) [.Attribute (.Name "fault" p8) "at" p9] [] q1, .Call (.Name "isinstance" q2) [.Name "fault" q3, .Name "WreckError" q4] [] q5] k2 q6)) q7] q8] [] [] q9] "_law_ask" q (TTHeard X.K CR) := by
  intro f c' s H Q tl act hc h
  have hga' : (X.A.deeper (envOfC x sg s.heap.objs.size g cdg)).guards = some [] := hga
  have hr' : Room (k + 1) (X.A.deeper (envOfC x sg s.heap.objs.size g cdg)) := hr.deeper _
  refine ⟨_, pss_one (ps_try_as (X := (cxOf C8.CX0 X.prog X.w X.K X.mg X.base ["_law_ask", "fault"] x sg g cdg X.A X.stack s H C8.E0).nox) (i := 1) (c := .ref CR) (Wout := fun _ _ _ _ => False)
      (tb := fun W D σ H => ∃ Ech : XK, (∀ cls d σ' H', Ech cls d H' → σ'.length = 2 → W cls d σ' H') ∧ σ[0]? = some (some (.ref f)) ∧ H c' = some (LamX.CodeO c' q) ∧ tl Ech H fun v H' => [V.str "told", v].length ≤ sizeLine ∧ ∀ p, H' p = none → D.rt (.ref p) (upd H' p (.tup [.str "told", v])))
      rfl rfl nd_heard rfl s5 ⟨s1, by decide, .inl T.gC⟩ LamX.takes0 (fun W pn xe tk _ => ?_) (fun a oe cls d pn hz hf => pss_one (ps_ret (pe_tup (pa_cons pe_str (pa_cons
        (pe_callB (show CallR (((cxOf C8.CX0 X.prog X.w X.K X.mg X.base ["_law_ask", "fault"] x sg g cdg X.A X.stack s H C8.E0).nox).suite a ((a, oe) :: pn)) (.builtin "repr") (rRepr X.K) from call_repr (X := ((cxOf C8.CX0 X.prog X.w X.K X.mg X.base ["_law_ask", "fault"] x sg g cdg X.A X.stack s H C8.E0).nox).suite a ((a, oe) :: pn)) hga' hr'.units) (by exact s2) (by exact gr) b_repr (pa_cons (pe_byLow (X := (cxOf C8.CX0 X.prog X.w X.K X.mg X.base ["_law_ask", "fault"] x sg g cdg X.A X.stack s H C8.E0).nox) T hz hf (pv 1 rfl (.inl s5))) pa_nil))
        (pa_cons (pe_callB (call_isX (X := (cxOf C8.CX0 X.prog X.w X.K X.mg X.base ["_law_ask", "fault"] x sg g cdg X.A X.stack s H C8.E0).nox) hz hf hne hk) (by exact s3) (by exact gi) b_isinstance (pa_cons (pv 1 rfl (.inl s5)) (pa_cons (pe_glob (v := .ref B) (by exact s4) (by exact gB) rfl) pa_nil))) pa_nil))))))), ?_⟩
  · refine ⟨fun pins s' σ H' D I h' => ?_⟩
    obtain ⟨Ech, hW, h1, h2, h3⟩ := h'
    have hp := act _ pn xe Ech p1 p2 (takes_len tk) fun cls d σ' H' he hl => hW cls d σ' H' he hl
    have hq := pss_one (ps_ret (pos := p4) (pe_tup (x1 := k1) (pos := p3) (pa_cons (pe_str (x := "told") (j := j1) (pos := p0)) (pa_cons hp pa_nil))))
    exact hq.run pins s' σ H' D I ⟨h1, h2, h3⟩
  · refine ⟨EHeard X.K CR Q, fun cls d σ' H' ⟨e1, dd, v, pd, e2, e3, e4, e5, e6, e7, e8, e9⟩ hl => ⟨true, ?_, fun _ a ha => ?_, fun z => nomatch z⟩, rfl, hc, h⟩
    · rw [e1]
      exact T.te
    · rw [e1]
      have h1 : (σ'.set 1 (some (V.ref a)))[1]? = some (some (V.ref a)) := List.getElem?_set_self (by omega)
      refine ⟨.ref a, h1, rfl, rfl, dd, v, e2, e3, v, pd, rfl, e4, e5, e6, e7, e8, .ref a, h1, rfl, rfl, ⟨dd, _, e2, e3⟩, le1000 (by show 3 ≤ 1000; omega), e9⟩
end Mi

set_option Elab.async false
set_option linter.all false
set_option maxRecDepth 100000
set_option maxHeartbeats 4000000
namespace Mi
open PySem PySem.Spec PyProof.Rows L2
def showOk (d : D) : Bool := d.pure && d.py.showable && decide (d.py.depth ≤ 60) && decide (d.py.shown.length ≤ sizeLine)
def hRes : Res D → Res D
  | .ok d bx => .ok (.tup [.str "told", d]) bx
  | .err d bx => if showOk d = true then .ok (.tup [.str "refused", .str d.py.shown, .bl true]) bx else .bad
  | .bad => .bad
def fHeard (F : Fn D) : Fn D := fun δ bx => hRes (F δ bx)
theorem heard_of {K : PySem.W.Frag} {P : Pm} {E : XK} {F : Fn D} {σ : L2.St} {H : Hp} {Q : VK} (h : tD K P E (fHeard F) σ H Q) : LamX.tLam P.T (TTHeard K P.CR) (fun E' => tD K P E' F) σ H Q := by
  obtain ⟨β, δ, bx, ev, g, o⟩ := h
  refine ⟨g.tb, fun H1 x t1 => ?_⟩
  have l : Le β H H1 := fun b o e _ t => x b o e t
  have g1 : Good P.T β bx H1 := ⟨fun b hb => x _ _ (g.bx b hb) (fun ps z => by cases z), fun e he => by
    obtain ⟨l, h⟩ := g.ex e he
    exact ⟨l, x _ _ h (fun ps z => by cases z)⟩, t1⟩
  refine ⟨β, δ, bx, ev.le l, g1, ?_⟩
  unfold fHeard at o
  cases hF : F δ bx with
  | ok d bx' =>
    rw [hF] at o
    exact fun v H' l' g' r => ⟨le1000 (by show 2 ≤ 1000; omega), fun p hp => o _ _ ((l.trans l').trans (.new hp)) (g'.new hp) (.tup (.inl ⟨.inl upd_same, g'.ne hp⟩) (.cons (.str _) (.cons (r.le (.new hp)) .nil)))⟩
  | err d bx' =>
    rw [hF] at o
    have o' : Out K P β H (if showOk d = true then .ok (.tup [.str "refused", .str d.py.shown, .bl true]) bx' else .bad) Q E := o
    split at o'
    · rename_i hs
      unfold showOk at hs
      simp only [Bool.and_eq_true, decide_eq_true_eq] at hs
      exact fun a v H' l' g' hx r => ⟨rfl, a, v, d.py, rfl, hx, r.dp hs.1.1.1, hs.1.1.2, d.noDict, hs.1.2, hs.2, fun p hp => o' _ _ ((l.trans l').trans (.new hp)) (g'.new hp) (.tup (.inl ⟨.inl upd_same, g'.ne hp⟩) (.cons (.str _) (.cons (.str _) (.cons (.bl _) .nil))))⟩
    · exact o'.elim
  | bad =>
    rw [hF] at o
    exact o.elim
section
variable {X : Cx} {P : Pm} {E : XK} {F : Fn D}
theorem ed_heard {x a : Str} {g c Pt : Addr} {k : Nat} {pg : Arguments} {bg : List Stmt} {sg : Scope} {dV kV doc pm cdv ct oc : Value} {an od : Option Addr} {osl : Array (Option Value)} {Ng : List Str}
    {params : Arguments} {body : Expr} {scope : Scope} {p lpos pos : Pos} (hg : Gl X x) (hm : X.mg x = some (.ref g)) (hk : PySem.W.keepIn X.K (.ref g) = true)
    (lk : X.K.lookup g = some ⟨oc, od, .func (PySem.W.fnOf x x pg bg sg dV kV doc pm an cdv ct), osl⟩) (hcg : PySem.W.codeIn X.K cdv x = true) (hb : L2.Binds X.K (PySem.W.fnOf x x pg bg sg dV kV doc pm an cdv ct) [a] []) (Sg : FnScope Ng [a] sg) (hNg : Ng[0]? = some a) (hva : Vis sg a)
    (hG : LamX.GivesTo X Ng x sg g cdv bg a (X.env.qual ++ "<lambda>") (TTHeard X.K P.CR))
    (TB : LamX.TabB X.base X.mg c Pt) (hcode : X.env.code = .ref c) (hmT : (Pt, X.env.qual ++ "<lambda>") ∈ P.T) (hu : ∀ q ∈ P.T, q.1 = Pt → q.2 = X.env.qual ++ "<lambda>") (hr : Room (k + 2) X.A) (L : LamX.LamS X.env.scope scope) (hdef : defaultsOf params X.env = ([], []))
    (hbind : ∀ (q : Str) (cl : List (Str × Addr)) (pm cv ctv : Value), bindArgs (PySem.W.kla_fn "<lambda>" q params body scope cl pm cv ctv) ⟨[], []⟩ = pure [])
    (hbody : ∀ (A : Around) (outer : List Env) (s : Shared) (H : Hp) (E' : XK) (f c' : Addr), Room k (A.deeper (LamX.lamEnv X scope s.heap.objs.size f c')) → ED (LamX.lamCx X A outer s H E' scope f c') P E' body F)
    (hdb : (x == ("__debug__" : Str)) = false := by decide) (hd : (a == ("__debug__" : Str)) = false := by decide) (hcd : (a == ("__classdict__" : Str)) = false := by decide) :
    ED X P E (.Call (.Name x p) [.Lambda params body scope lpos] [] pos) (fHeard F) :=
  pe_imp (LamX.pe_lamcall (t := fun E' => tD X.K P E' F) hg hm hk lk hcg hb Sg hNg hva hG TB hcode hmT hu hr L hdef hbind hbody hdb hd hcd) fun _ _ _ h => heard_of h
end
end Mi

set_option Elab.async false
set_option linter.all false
set_option maxRecDepth 100000
set_option maxHeartbeats 4000000
namespace Mi
open PySem PySem.Spec PyProof.Rows L2
/-! ### objects under way -/
def Mu.hide (β : Mu) (a : Addr) : Mu := ⟨β.box, a :: β.ex⟩
theorem rd_ne {H : Hp} {a b : Addr} {u : HO} (h : L2.Rd H b u) (n : H a = none) : b ≠ a := fun z => by
  subst z
  rcases h with h | ⟨o, h⟩ <;> rw [n] at h <;> cases h
theorem Mu.hide_ok {β : Mu} {a b : Addr} (h : β.ok b) (n : b ≠ a) : (β.hide a).ok b := ⟨h.1, fun z => by
  rcases List.mem_cons.mp z with z | z
  · exact n z
  · exact h.2 z⟩
theorem Mu.hide_ok' {β : Mu} {a b : Addr} (h : (β.hide a).ok b) : β.ok b ∧ b ≠ a := ⟨⟨h.1, fun z => h.2 (List.mem_cons_of_mem _ z)⟩, fun z => h.2 (z ▸ List.mem_cons_self)⟩
mutual
theorem R.hide {K : PySem.W.Frag} {β : Mu} {H : Hp} {a : Addr} (n : H a = none) : ∀ {v : V} {d : D}, R K β H v d → R K (β.hide a) H v d
  | _, _, .non => .non
  | _, _, .bl b => .bl b
  | _, _, .int i => .int i
  | _, _, .str x => .str x
  | _, _, .lst h r => .lst (h.imp (fun h => ⟨h.1, Mu.hide_ok h.2 (rd_ne h.1 n)⟩) id) (RA.hide n r)
  | _, _, .tup h r => .tup (h.imp (fun h => ⟨h.1, Mu.hide_ok h.2 (rd_ne h.1 n)⟩) id) (RA.hide n r)
  | _, _, .box h => .box h
theorem RA.hide {K : PySem.W.Frag} {β : Mu} {H : Hp} {a : Addr} (n : H a = none) : ∀ {vs : List V} {ds : List D}, RA K β H vs ds → RA K (β.hide a) H vs ds
  | _, _, .nil => .nil
  | _, _, .cons h r => .cons (R.hide n h) (RA.hide n r)
end
mutual
theorem R.seen {K : PySem.W.Frag} {β : Mu} {H : Hp} {a : Addr} : ∀ {v : V} {d : D}, R K (β.hide a) H v d → R K β H v d
  | _, _, .non => .non
  | _, _, .bl b => .bl b
  | _, _, .int i => .int i
  | _, _, .str x => .str x
  | _, _, .lst h r => .lst (h.imp (fun h => ⟨h.1, (Mu.hide_ok' h.2).1⟩) id) (RA.seen r)
  | _, _, .tup h r => .tup (h.imp (fun h => ⟨h.1, (Mu.hide_ok' h.2).1⟩) id) (RA.seen r)
  | _, _, .box h => .box h
theorem RA.seen {K : PySem.W.Frag} {β : Mu} {H : Hp} {a : Addr} : ∀ {vs : List V} {ds : List D}, RA K (β.hide a) H vs ds → RA K β H vs ds
  | _, _, .nil => .nil
  | _, _, .cons h r => .cons (R.seen h) (RA.seen r)
end
theorem rd_upd {H : Hp} {a b : Addr} {u o : HO} (h : L2.Rd H b u) (n : b ≠ a) : L2.Rd (upd H a o) b u := by
  rcases h with h | ⟨q, h⟩
  · exact .inl (by rw [upd_ne n]; exact h)
  · exact .inr ⟨q, by rw [upd_ne n]; exact h⟩
mutual
theorem R.upd {K : PySem.W.Frag} {β : Mu} {H : Hp} {a : Addr} {o : HO} : ∀ {v : V} {d : D}, R K (β.hide a) H v d → R K (β.hide a) (upd H a o) v d
  | _, _, .non => .non
  | _, _, .bl b => .bl b
  | _, _, .int i => .int i
  | _, _, .str x => .str x
  | _, _, .lst h r => .lst (h.imp (fun h => ⟨rd_upd h.1 (Mu.hide_ok' h.2).2, h.2⟩) id) (RA.upd r)
  | _, _, .tup h r => .tup (h.imp (fun h => ⟨rd_upd h.1 (Mu.hide_ok' h.2).2, h.2⟩) id) (RA.upd r)
  | _, _, .box h => .box h
theorem RA.upd {K : PySem.W.Frag} {β : Mu} {H : Hp} {a : Addr} {o : HO} : ∀ {vs : List V} {ds : List D}, RA K (β.hide a) H vs ds → RA K (β.hide a) (upd H a o) vs ds
  | _, _, .nil => .nil
  | _, _, .cons h r => .cons (R.upd h) (RA.upd r)
end
theorem Ev.hide {K : PySem.W.Frag} {β : Mu} {H : Hp} {σ : L2.St} {δ : List (Option D)} {a : Addr} (e : Ev K β H σ δ) (n : H a = none) : Ev K (β.hide a) H σ δ := ⟨e.len, fun i d h => by
  obtain ⟨v, h1, h2⟩ := e.at_ i d h
  exact ⟨v, h1, h2.hide n⟩⟩
theorem Ev.seen {K : PySem.W.Frag} {β : Mu} {H : Hp} {σ : L2.St} {δ : List (Option D)} {a : Addr} (e : Ev K (β.hide a) H σ δ) : Ev K β H σ δ := ⟨e.len, fun i d h => by
  obtain ⟨v, h1, h2⟩ := e.at_ i d h
  exact ⟨v, h1, h2.seen⟩⟩
theorem Ev.upd {K : PySem.W.Frag} {β : Mu} {H : Hp} {σ : L2.St} {δ : List (Option D)} {a : Addr} {o : HO} (e : Ev K (β.hide a) H σ δ) : Ev K (β.hide a) (upd H a o) σ δ := ⟨e.len, fun i d h => by
  obtain ⟨v, h1, h2⟩ := e.at_ i d h
  exact ⟨v, h1, h2.upd⟩⟩
theorem Ev.none_ {K : PySem.W.Frag} {β : Mu} {H : Hp} {σ : L2.St} {δ : List (Option D)} (e : Ev K β H σ δ) (i : Nat) : Ev K β H (σ.set i none) (δ.set i none) := by
  refine ⟨by simp [e.len], fun j d h => ?_⟩
  by_cases hj : i = j
  · subst hj
    by_cases hl : i < δ.length
    · rw [List.getElem?_set_self hl] at h
      cases h
    · rw [List.getElem?_eq_none (by simp; omega)] at h
      cases h
  · rw [List.getElem?_set_ne hj] at h
    obtain ⟨v, h1, h2⟩ := e.at_ j d h
    exact ⟨v, by rw [List.getElem?_set_ne hj]; exact h1, h2⟩
theorem tabs_upd {T : List (Addr × Str)} {H : Hp} {a : Addr} {l l' : List V} (t : LamX.Tabs T H) (h : H a = some (.lst l)) : LamX.Tabs T (upd H a (.lst l')) := fun p hp => by
  obtain ⟨ps, h1, h2, h3⟩ := t p hp
  refine ⟨ps, by rw [upd_ne (fun z => by rw [z, h] at h1; cases h1)]; exact h1, h2, fun pos cv hc => ?_⟩
  obtain ⟨c, e1, e2⟩ := h3 pos cv hc
  exact ⟨c, e1, by rw [upd_ne (fun z => by rw [z, h] at e2; unfold LamX.CodeO at e2; cases e2)]; exact e2⟩
/-- the hidden list is written -/
theorem Good.upd {T : List (Addr × Str)} {β : Mu} {bx : Int × Int} {H : Hp} {a : Addr} {l l' : List V} (g : Good T (β.hide a) bx H) (ok : β.ok a) (h : H a = some (.lst l)) : Good T (β.hide a) bx (upd H a (.lst l')) := by
  refine ⟨fun b hb => ?_, fun e he => ?_, tabs_upd g.tb h⟩
  · rw [upd_ne (fun z => ok.1 (by rw [← z]; exact hb.symm))]
    exact g.bx b hb
  · by_cases z : e = a
    · subst z
      exact ⟨l', upd_same⟩
    · obtain ⟨m, hm⟩ := g.ex e he
      exact ⟨m, by rw [upd_ne z]; exact hm⟩
theorem Good.hide {T : List (Addr × Str)} {β : Mu} {bx : Int × Int} {H : Hp} {a : Addr} {l : List V} (g : Good T β bx H) (h : H a = some (.lst l)) : Good T (β.hide a) bx H := ⟨g.bx, fun e he => by
  rcases List.mem_cons.mp he with z | z
  · exact ⟨l, z ▸ h⟩
  · exact g.ex e z, g.tb⟩
theorem Good.seen {T : List (Addr × Str)} {β : Mu} {bx : Int × Int} {H : Hp} {a : Addr} (g : Good T (β.hide a) bx H) : Good T β bx H := ⟨g.bx, fun e he => g.ex e (List.mem_cons_of_mem _ he), g.tb⟩

/-! ### ranges that are walked -/
def tDI (K : PySem.W.Frag) (P : Pm) (E : XK) (F : Fn (Int × Nat)) : TI := fun σ H R => ∃ β δ bx, Ev K β H σ δ ∧ Good P.T β bx H ∧ OutX P K β H (F δ bx) E fun p _ H1 => R (Itr p.1 p.2) H1
def fRg1 (A : Fn (List D)) : Fn (Int × Nat) := bnd A fun ds => fun _ bx => match ds with
  | [.int j] => if -(2 ^ 62) ≤ j ∧ j < 2 ^ 62 then .ok (0, j.toNat) bx else .bad
  | _ => .bad
def fRg2 (A : Fn (List D)) : Fn (Int × Nat) := bnd A fun ds => fun _ bx => match ds with
  | [.int i, .int j] => if -(2 ^ 62) ≤ i ∧ i < 2 ^ 62 ∧ -(2 ^ 62) ≤ j ∧ j < 2 ^ 62 then .ok (i, (j - i).toNat) bx else .bad
  | _ => .bad
theorem pi_imp {X : Cx} {tg it : Expr} {t t' : TI} (h : PI X tg it t) (k : ∀ σ H Q, t' σ H Q → t σ H Q) : PI X tg it t' := ⟨fun pins s σ H Q I q => h.run pins s σ H Q I (k σ H Q q)⟩
section
variable {X : Cx} {P : Pm} {E : XK} {pos : Pos} {tg a b : Expr} {A : Fn (List D)}
theorem ei_rg1 {p : Pos} (hg : Gl X "range") (hm : X.mg "range" = none) (ha : EA X P E [a] A) (hs : starEach [a] X.env = [(false, eval a X.env)] := by rfl) : PI X tg (.Call (.Name "range" p) [a] [] pos) (tDI X.K P E (fRg1 A)) := by
  refine pi_imp (pi_range1 hg hm ha hs) ?_
  rintro σ H Q ⟨β, δ, bx, ev, g, o⟩
  refine a_bind ev g o fun bx1 xs ds H1 l1 g1 r1 o1 => ?_
  split at o1
  · split at o1
    · rename_i j hj
      obtain ⟨v, rfl, r⟩ := r1.one
      exact ⟨j, by rw [r.int_inv], hj.1, hj.2, o1 H1 .refl g1⟩
    · exact o1.elim
  · exact o1.elim
theorem ei_rg2 {p : Pos} (hg : Gl X "range") (hm : X.mg "range" = none) (ha : EA X P E [a, b] A) (hs : starEach [a, b] X.env = [(false, eval a X.env), (false, eval b X.env)] := by rfl) (hs2 : starEach [b] X.env = [(false, eval b X.env)] := by rfl) : PI X tg (.Call (.Name "range" p) [a, b] [] pos) (tDI X.K P E (fRg2 A)) := by
  refine pi_imp (pi_range2 hg hm ha hs hs2) ?_
  rintro σ H Q ⟨β, δ, bx, ev, g, o⟩
  refine a_bind ev g o fun bx1 xs ds H1 l1 g1 r1 o1 => ?_
  split at o1
  · split at o1
    · rename_i i j hj
      obtain ⟨v, w, rfl, r, r'⟩ := r1.two
      exact ⟨i, j, by rw [r.int_inv, r'.int_inv], hj, o1 H1 .refl g1⟩
    · exact o1.elim
  · exact o1.elim

/-! ### list comprehensions over a range -/
def lcGo (x : Nat) (δ : List (Option D)) (C : Fn Bool) (F : Fn D) : Nat → Int → Int × Int → List D → Res D
  | 0, _, bx, acc => .ok (.lst acc) bx
  | n + 1, i, bx, acc => match C (δ.set x (some (.int i))) bx with
    | .ok true bx1 => (match F (δ.set x (some (.int i))) bx1 with
      | .ok d bx2 => lcGo x δ C F n (i + 1) bx2 (acc ++ [d])
      | _ => .bad)
    | .ok false bx1 => lcGo x δ C F n (i + 1) bx1 acc
    | _ => .bad
def fLc (x : Nat) (Fi : Fn (Int × Nat)) (C : Fn Bool) (F : Fn D) : Fn D := bnd Fi fun p => fun δ bx => if p.2 ≤ 100000 then lcGo x (δ.set x none) C F p.2 p.1 bx [] else .bad
theorem tLc_of {K : PySem.W.Frag} {x : Nat} {Fi : Fn (Int × Nat)} {C : Fn Bool} {F : Fn D} : ∀ σ H Q, tD K P E (fLc x Fi C F) σ H Q → tLc (tDI K P E Fi) (gName x) (tDT K P E C) (tD K P E F) [x] σ H Q := by
  rintro σ H Q ⟨β, δ, bx, ev, g, o⟩
  have o2 := x_bind o.x
  refine ⟨β, δ, bx, ev, g, ?_⟩
  cases hF : Fi δ bx with
  | bad =>
    rw [hF] at o2
    exact o2
  | err d bx' =>
    rw [hF] at o2
    exact o2
  | ok p bx1 =>
    rw [hF] at o2
    obtain ⟨lo, n⟩ := p
    intro H1 l1 g1 Dd hD
    have o3 := o2 H1 l1 g1 l1
    dsimp only at o3
    split at o3
    case isFalse => exact o3.elim
    case isTrue hn =>
    have okD := g1.ne hD
    have ev1 : Ev K (β.hide Dd) H1 (σ.set x none) (δ.set x none) := ((ev.le l1).hide hD).none_ x
    refine lc_range (fun i H => ∃ bx' acc ds, Le β H1 H ∧ Good P.T (β.hide Dd) bx' H ∧ RA K (β.hide Dd) H acc ds ∧ H Dd = some (.lst acc) ∧ acc.length ≤ i ∧ i ≤ n ∧ OutX P K β H1 (lcGo x (δ.set x none) C F (n - i) (lo + i) bx' ds) E fun d _ H' => ∀ v, R K β H' v d → Q v H') ?_ ?_ ?_
    · exact ⟨bx1, [], [], .new hD, (g1.new hD).hide upd_same, .nil, upd_same, Nat.le_refl _, Nat.zero_le _, by simpa using o3⟩
    · rintro i Hi hi ⟨bx', acc, ds, li, gi, ra, hd, hl, hin, oi⟩
      have ei : n - i = (n - (i + 1)) + 1 := by omega
      rw [ei] at oi
      have evi : Ev K (β.hide Dd) Hi ((σ.set x none).set x (some (.int (lo + i)))) ((δ.set x none).set x (some (.int (lo + i)))) := Ev.set (ev1.le li) x (.int _)
      refine ⟨by show ((σ.set x none).set x (some (.int (lo + i)))).set x none = σ.set x none; simp, ?_⟩
      refine ⟨β.hide Dd, _, bx', evi, gi, ?_⟩
      have er : (lo + (i : Int)) + 1 = lo + ((i + 1 : Nat) : Int) := by omega
      cases hC : C ((δ.set x none).set x (some (.int (lo + i)))) bx' with
      | bad =>
        simp only [lcGo, hC] at oi
        exact oi
      | err d b =>
        simp only [lcGo, hC] at oi
        exact oi.elim
      | ok c bx2 =>
        intro H3 l3 g3
        cases c with
        | false =>
          simp only [lcGo, hC] at oi
          rw [er] at oi
          refine iteF ⟨bx2, acc, ds, li.trans l3, g3, ra.le l3, ?_, by omega, by omega, oi⟩
          exact l3 _ _ hd okD.1 (fun ps z => by cases z)
        | true =>
          refine iteT ⟨β.hide Dd, _, bx2, evi.le l3, g3, ?_⟩
          cases hE : F ((δ.set x none).set x (some (.int (lo + i)))) bx2 with
          | bad =>
            simp only [lcGo, hC, hE] at oi
            exact oi
          | err d b =>
            simp only [lcGo, hC, hE] at oi
            exact oi.elim
          | ok d bx3 =>
            simp only [lcGo, hC, hE] at oi
            rw [er] at oi
            intro y H4 l4 g4 ry
            have hd4 : H4 Dd = some (.lst acc) := (Le.trans l3 l4) _ _ hd okD.1 (fun ps z => by cases z)
            refine ⟨acc, hd4, ?_, bx3, acc ++ [y], ds ++ [d], ?_, g4.upd okD hd4, ((ra.le (Le.trans l3 l4)).append (.cons ry .nil)).upd, upd_same, by rw [List.length_append]; simp; omega, by omega, oi⟩
            · rw [sizeLine_eq]
              omega
            · intro b ob hb nb tb
              rw [upd_ne (fun z => by rw [z, hD] at hb; cases hb)]
              exact ((li.trans l3).trans l4) b ob hb nb tb
    · rintro Hn ⟨bx', acc, ds, li, gi, ra, hd, hl, _, oi⟩
      rw [Nat.sub_self] at oi
      exact oi Hn li gi.seen _ (.lst (.inl ⟨.inl hd, okD⟩) ra.seen)
variable {nm : Str} {pn : Pos} {elt iter : Expr} {scope : Scope} {x : Nat} {Fi : Fn (Int × Nat)} {C : Fn Bool} {F : Fn D} {ifs : List Expr}
abbrev blkX (X : Cx) (scope : Scope) (s : Shared) (H : Hp) (Cc : Addr) (cl : List (Str × Addr)) (fp : List Addr) : Cx := X.blk s H scope (compEnvC scope cl Cc X.env) fp
theorem ed_lc (hc : X.calm = true) (hN : X.N.Nodup) (hi : PI X (.Name nm pn) iter (tDI X.K P E Fi)) (ok : BlkOk X.N X.env.scope scope [(nm, x)])
    (hg : ∀ (s : Shared) (H : Hp) (Cc : Addr) (cl : List (Str × Addr)) (fp : List Addr), PG (blkX X scope s H Cc cl fp) (.Name nm pn) (gName x)) (ht : ∀ (s : Shared) (H : Hp) (Cc : Addr) (cl : List (Str × Addr)) (fp : List Addr), PTs (blkX X scope s H Cc cl fp) ifs (tDT X.K P E C))
    (he : ∀ (s : Shared) (H : Hp) (Cc : Addr) (cl : List (Str × Addr)) (fp : List Addr), ED (blkX X scope s H Cc cl fp) P E elt F) (hs : ∀ x, foldedSetIterable iter X.env x = pure x := by intro _; rfl) :
    ED X P E (.ListComp elt [⟨.Name nm pn, iter, ifs, 0⟩] scope pos) (fLc x Fi C F) := pe_imp (pe_lc hc hN hi ok hg ht he hs) tLc_of
theorem sd_setLc {i : Nat} {y : Str} {py spos : Pos} (hc : X.calm = true) (hN : X.N.Nodup) (hy : X.N[i]? = some y) (hyl : X.env.scope.names.lookup y = some .local)
    (hsw : swapsWith (.ListComp elt [⟨.Name nm pn, iter, ifs, 0⟩] scope pos) (some (.Name y py)) spos.line X.env = pure true) (hi : PI X (.Name nm pn) iter (tDI X.K P E Fi)) (ok : BlkOk X.N X.env.scope scope [(nm, x)])
    (hg : ∀ (s : Shared) (H : Hp) (Cc : Addr) (cl : List (Str × Addr)) (fp : List Addr), PG (blkX X scope s H Cc cl fp) (.Name nm pn) (gName x)) (ht : ∀ (s : Shared) (H : Hp) (Cc : Addr) (cl : List (Str × Addr)) (fp : List Addr), PTs (blkX X scope s H Cc cl fp) ifs (tDT X.K P E C))
    (he : ∀ (s : Shared) (H : Hp) (Cc : Addr) (cl : List (Str × Addr)) (fp : List Addr), ED (blkX X scope s H Cc cl fp) P E elt F) (hs : ∀ x, foldedSetIterable iter X.env x = pure x := by intro _; rfl) :
    SD X P E (.Assign [.Name y py] (.ListComp elt [⟨.Name nm pn, iter, ifs, 0⟩] scope pos) spos) (sSet i (fLc x Fi C F)) := by
  refine ps_imp (ps_setLc (te := tD X.K P E F) hc hN hy hyl hsw hi ok hg ht he hs) ?_
  rintro Z σ H ⟨β, δ, bx, ev, g, o⟩
  refine tLc_of σ H _ (sd_bind ev g o fun bx' x d H1 l1 g1 r1 o1 => o1 _ H1 .refl g1 ((ev.le l1).set i r1))
theorem et_yes : PTs X [] (tDT X.K P E (pur true)) := ⟨fun pins s σ H Q I ⟨β, δ, bx, ev, g, o⟩ => pts_nil.run pins s σ H Q I (o H .refl g)⟩
theorem et_one {c : Expr} (h : ET X P E c C) : PTs X [c] (tDT X.K P E C) := pts_one h
end
end Mi

set_option Elab.async false
set_option linter.all false
set_option maxRecDepth 100000
set_option maxHeartbeats 4000000
namespace Mi
open PySem PySem.Spec PyProof.Rows L2
theorem ok_ne {β : Mu} {a b : Addr} (h : β.ok b) (hb : β.box = some a) : b ≠ a := fun z => h.1 (by rw [hb, z])
mutual
theorem R.updB {K : PySem.W.Frag} {β : Mu} {H : Hp} {a : Addr} {o : HO} (hb : β.box = some a) : ∀ {v : V} {d : D}, R K β H v d → R K β (L2.upd H a o) v d
  | _, _, .non => .non
  | _, _, .bl b => .bl b
  | _, _, .int i => .int i
  | _, _, .str x => .str x
  | _, _, .lst h r => .lst (h.imp (fun h => ⟨rd_upd h.1 (ok_ne h.2 hb), h.2⟩) id) (RA.updB hb r)
  | _, _, .tup h r => .tup (h.imp (fun h => ⟨rd_upd h.1 (ok_ne h.2 hb), h.2⟩) id) (RA.updB hb r)
  | _, _, .box h => .box h
theorem RA.updB {K : PySem.W.Frag} {β : Mu} {H : Hp} {a : Addr} {o : HO} (hb : β.box = some a) : ∀ {vs : List V} {ds : List D}, RA K β H vs ds → RA K β (L2.upd H a o) vs ds
  | _, _, .nil => .nil
  | _, _, .cons h r => .cons (R.updB hb h) (RA.updB hb r)
end
theorem Ev.updB {K : PySem.W.Frag} {β : Mu} {H : Hp} {σ : L2.St} {δ : List (Option D)} {a : Addr} {o : HO} (e : Ev K β H σ δ) (hb : β.box = some a) : Ev K β (L2.upd H a o) σ δ := ⟨e.len, fun i d h => by
  obtain ⟨v, h1, h2⟩ := e.at_ i d h
  exact ⟨v, h1, h2.updB hb⟩⟩
theorem Le.updB {β : Mu} {H : Hp} {a : Addr} {o : HO} (hb : β.box = some a) : Le β H (L2.upd H a o) := fun b u h n _ => by
  rw [upd_ne (fun z => n (by rw [hb, z]))]
  exact h
theorem Good.updB {T : List (Addr × Str)} {β : Mu} {bx : Int × Int} {H : Hp} {a : Addr} (g : Good T β bx H) (hb : β.box = some a) (i j : Int) : Good T β (i, j) (L2.upd H a (.lst [.int i, .int j])) := by
  refine ⟨fun b h => ?_, fun e he => ?_, tabs_upd g.tb (g.bx a hb)⟩
  · rw [hb] at h
    cases h
    exact upd_same
  · by_cases z : e = a
    · subst z
      exact ⟨_, upd_same⟩
    · obtain ⟨m, hm⟩ := g.ex e he
      exact ⟨m, by rw [upd_ne z]; exact hm⟩
def isBox : Option (Option D) → Bool
  | some (some .box) => true
  | _ => false
def sStore (j : Nat) (i : Int) (F : Fn D) : Sn := sOf F fun d δ bx => match d with
  | .int n => if isBox δ[j]? = true then (if i = 0 then .nx δ (n, bx.2) else if i = 1 then .nx δ (bx.1, n) else .bad) else .bad
  | _ => .bad
theorem isBox_inv {o : Option (Option D)} (h : isBox o = true) : o = some (some .box) := by
  unfold isBox at h
  split at h
  · rfl
  · cases h
section
variable {X : Cx} {P : Pm} {E : XK} {pos : Pos} {F : Fn D} {e : Expr}
theorem sd_store (j : Nat) {x : Str} {i : Int} {kk} {p1 p2 p3 : Pos} (hN : X.N[j]? = some x) (hv : Vis X.env.scope x) (he : ED X P E e F) (hd : (x == ("__debug__" : Str)) = false := by decide) (hcd : (x == ("__classdict__" : Str)) = false := by decide)
    (hs : swapsWithSole [.Subscript (.Name x p1) (.Constant (.int i) kk p2) p3] e pos.line X.env = pure false := by rfl) (hw : swappedStores [.Subscript (.Name x p1) (.Constant (.int i) kk p2) p3] e X.env = pure none := by rfl)
    (h1 : (assignEach [.Subscript (.Name x p1) (.Constant (.int i) kk p2) p3] X.env).map (·.2) = [assign (.Subscript (.Name x p1) (.Constant (.int i) kk p2) p3) X.env] := by rfl)
    (ha : ∀ v, assign (.Subscript (.Name x p1) (.Constant (.int i) kk p2) p3) X.env v = (do
      let ov ← holding [v] (eval (.Name x p1) X.env)
      let iv ← holding [v, ov] (eval (.Constant (.int i) kk p2) X.env)
      standAt p3
      holding [v, ov, iv] (setItem ov iv v)
      release [v, ov, iv] []) := by intro _; rfl) :
    SD X P E (.Assign [.Subscript (.Name x p1) (.Constant (.int i) kk p2) p3] e pos) (sStore j i F) := by
  refine ps_imp (ps_asg he (pg_sub (pe_var hN hv hd hcd) pe_int set_list ha) hs hw h1) ?_
  rintro Z σ H ⟨β, δ, bx, ev, g, o⟩
  refine sd_bind ev g o fun bx' v d H1 l1 g1 r1 o1 => ?_
  cases d with
  | int n =>
    dsimp only at o1
    split at o1
    case isFalse => exact o1.elim
    case isTrue hb =>
    have hb := isBox_inv hb
    obtain ⟨w, h2, h3⟩ := ev.at_ j .box hb
    cases h3 with
    | box hbx =>
      rename_i a
      have hH := g1.bx a hbx
      obtain rfl := r1.int_inv
      split at o1
      · rename_i h0
        subst h0
        exact ⟨_, h2, a, _, 0, 0, rfl, rfl, hH, rfl, o1 _ _ (.updB hbx) (g1.updB hbx n bx'.2) ((ev.le l1).updB hbx)⟩
      · split at o1
        · rename_i h0
          subst h0
          exact ⟨_, h2, a, _, 1, 1, rfl, rfl, hH, rfl, o1 _ _ (.updB hbx) (g1.updB hbx bx'.1 n) ((ev.le l1).updB hbx)⟩
        · exact o1.elim
  | non => exact o1.elim
  | bl _ => exact o1.elim
  | str _ => exact o1.elim
  | lst _ => exact o1.elim
  | tup _ => exact o1.elim
  | box => exact o1.elim
/-! ### for x in a list -/
def forL (x : Nat) (S : Sn) : List D → Sn
  | [], δ, bx => .nx δ bx
  | d :: r, δ, bx => match S (δ.set x (some d)) bx with
    | .nx δ' bx' => forL x S r δ' bx'
    | .rt e bx' => .rt e bx'
    | .er e bx' => .er e bx'
    | .bad => .bad
def sForL (x : Nat) (F : Fn D) (S : Sn) : Sn := sOf F fun d => match d with
  | .lst l => forL x S l
  | _ => fun _ _ => .bad
theorem sd_forL {x : Nat} {nm : Str} {pn : Pos} {it : Expr} {body : List Stmt} {S : Sn} (hp : PassesOwn (model X.prog X.w) X.A X.env X.xe) (hc : X.calm = true) (he : ED X P E it F) (hg : PG X (.Name nm pn) (gName x)) (hb : SSD X P E body S)
    (hs : ∀ x, foldedSetIterable it X.env x = pure x := by intro _; rfl) : SD X P E (.For (.Name nm pn) it body [] pos) (sForL x F S) := by
  refine ps_imp (ps_for hp hc (pi_list he) hg hb hs) ?_
  rintro Z σ H ⟨β, δ, bx, ev, g, o⟩
  refine sd_bind ev g o fun bx1 v d H1 l1 g1 r1 o1 => ?_
  cases r1 with
  | non => exact o1.elim
  | bl _ => exact o1.elim
  | int _ => exact o1.elim
  | str _ => exact o1.elim
  | tup _ _ => exact o1.elim
  | box _ => exact o1.elim
  | lst s ra =>
    rename_i a xs ds
    refine ⟨a, rfl, ⟨xs, s.sq⟩, for_list (xs := xs) (fun i σ' H' => ∃ δ' bx', Le β H1 H' ∧ Ev X.K β H' σ' δ' ∧ Good P.T β bx' H' ∧ OutS X.K P β H1 (forL x S (ds.drop i) δ' bx') Z E) ⟨δ, bx1, .refl, ev.le l1, g1, by simpa using o1⟩ (fun i σ' H' _ ⟨_, _, l, _⟩ => (s.le l).sq) ?_ ?_⟩
    · rintro i y σ' H' hi ⟨δ', bx', l, ev', g', o'⟩
      have hlt : i < ds.length := by
        rw [← ra.length]
        exact (List.getElem?_eq_some_iff.mp hi).1
      have hdi : ds[i]? = some ds[i] := List.getElem?_eq_getElem hlt
      obtain ⟨y', hy1, hy2⟩ := ra.get hdi
      rw [hi] at hy1
      cases hy1
      rw [List.drop_eq_getElem_cons hlt] at o'
      refine ⟨β, _, bx', ev'.set x (hy2.le l), g', ?_⟩
      cases hS : S (δ'.set x (some ds[i])) bx' with
      | nx δ2 bx2 =>
        simp only [forL, hS] at o'
        exact fun σ2 H2 l2 g2 ev2 => ⟨δ2, bx2, l.trans l2, ev2, g2, o'⟩
      | rt e b =>
        simp only [forL, hS] at o'
        exact fun v H2 l2 g2 r => o' v H2 (l.trans l2) g2 r
      | er e b =>
        simp only [forL, hS] at o'
        exact OutE.le l o'
      | bad =>
        simp only [forL, hS] at o'
        exact o'
    · rintro σ' H' ⟨δ', bx', l, ev', g', o'⟩
      rw [ra.length, List.drop_length] at o'
      exact o' σ' H' l g' ev'
end
end Mi

set_option Elab.async false
set_option linter.all false
set_option maxRecDepth 100000
set_option maxHeartbeats 4000000
namespace Mi
open PySem PySem.Spec PyProof.Rows L2
/-- a def of the text that keeps its promise, by its name -/
structure Df (Pg : Program) (w : World) (K : PySem.W.Frag) (mg : Str → Option Value) (base : Heap) (P : Pm) (CX : CXT) (j : Nat) (x : Str) (st : Stmt) (ps : List Str) (m : List D → Int × Int → Res D) : Prop where
  ex : ∃ (f : Addr) (fd : FuncData), mg x = some (.ref f) ∧ Fun K x x st f fd ∧ L2.Binds K fd ps [] ∧ FnOk Pg w K mg base CX j f fd ps (spD K P ps.length m)
section
variable {X : Cx} {P : Pm} {E : XK} {pos : Pos} {es : List Expr} {A : Fn (List D)} {CX : CXT} {k : Nat} {st : Stmt} {ps : List Str} {m : List D → Int × Int → Res D} {x : Str} {p : Pos} {e : Expr} {kws : List Keyword}
theorem ed_callD (d : Df X.prog X.w X.K X.mg X.base P CX k x st ps m) (hr : Room k X.A) (hx : Passes CX X E) (hg : Gl X x) (ha : EA X P E (e :: es) A) (hA : ∀ δ bx ds bx', A δ bx = .ok ds bx' → ds.length = ps.length) (hn : (e :: es).length = ps.length := by rfl)
    (hdb : (x == ("__debug__" : Str)) = false := by decide) (he : starEach (e :: es) X.env = (false, eval e X.env) :: starEach es X.env := by rfl) (hpl : (backTo pos (starEach es X.env)).any (·.1) = false := by rfl) :
    ED X P E (.Call (.Name x p) (e :: es) [] pos) (fCall m A) := by
  obtain ⟨f, fd, h1, h2, h3, h4⟩ := d.ex
  exact ed_call h4 hr hg h1 h2.kp h3 hx hn ha hdb he hpl hA
theorem bindsK {K : PySem.W.Frag} {x qual : Str} {st : Stmt} {f : Addr} {fd : FuncData} {ps ks : List Str} {π : List Nat} (F : Fun K x qual st f fd)
    (h : ∀ (kV doc pm : Value) (an : Option Addr) (cdv ct : Value) (ws : List Value), ws.length = ks.length → bindArgs (PySem.W.fnOf x qual (defArgs st) (defBody st) (defScope st) .none kV doc pm an cdv ct) ⟨[], ks.zip ws⟩ = pure (ps.zip (pick .none π ws))) :
    ∀ (s : Shared) (ws : List Value), K.In s.heap → ws.length = ks.length → BindsTo s fd ⟨[], ks.zip ws⟩ (ps.zip (pick .none π ws)) := by
  obtain ⟨oc, od, kV, doc, pm, an, cdv, ct, osl, rfl, lk, hcd⟩ := F.ex
  exact fun s ws _ hl => .of_eq (h kV doc pm an cdv ct ws hl)
theorem ed_callDK {ks : List Str} (π : List Nat) (d : Df X.prog X.w X.K X.mg X.base P CX k x st ps m) (hr : Room k X.A) (hx : Passes CX X E) (hg : Gl X x)
    (hb : ∀ (kV doc pm : Value) (an : Option Addr) (cdv ct : Value) (ws : List Value), ws.length = ks.length → bindArgs (PySem.W.fnOf x x (defArgs st) (defBody st) (defScope st) .none kV doc pm an cdv ct) ⟨[], ks.zip ws⟩ = pure (ps.zip (pick .none π ws)))
    (ha : EK X P E kws A) (hA : ∀ δ bx ds bx', A δ bx = .ok ds bx' → ds.length = ks.length) (hp : π.length = ps.length := by rfl) (hall : (backToKw pos (keywordEach kws X.env)).all (·.1.isSome) = true := by rfl) (hks : (backToKw pos (keywordEach kws X.env)).filterMap (·.1) = ks := by rfl)
    (hdb : (x == ("__debug__" : Str)) = false := by decide) (hpl : ((backTo pos (starEach [] X.env)).any (·.1) || (backToKw pos (keywordEach kws X.env)).any (·.1.isNone)) = false := by rfl) :
    ED X P E (.Call (.Name x p) [] kws pos) (fCallK m π A) := by
  obtain ⟨f, fd, h1, h2, h3, h4⟩ := d.ex
  exact ed_callK π h4 hr hg h1 h2.kp (bindsK h2 hb) hx hp rfl ha hA hall hks hdb hpl
theorem ed_globE {i : Int} (hg : Gl X x) (hm : ∃ t, X.mg x = some (.int i t)) (hd : (x == ("__debug__" : Str)) = false := by decide) : ED X P E (.Name x pos) (pur (.int i)) := by
  obtain ⟨t, h⟩ := hm
  exact ed_glob hg h hd
theorem sd_expr {F : Fn D} {e : Expr} (he : ED X P E e F) (hs : swapsWith e none pos.line X.env = pure false := by rfl) : SD X P E (.Expr e pos) (sDrop F) := by
  refine ps_imp (ps_expr he hs) ?_
  rintro Z σ H ⟨β, δ, bx, ev, g, o⟩
  exact sd_bind ev g o fun bx' x d H1 l1 g1 r1 o1 => o1 _ H1 .refl g1 (ev.le l1)
theorem passX {W : WX} (tk : Takes X W) (hW : ∀ cls d σ H, E cls d H → W cls d σ H) : Passes (L2.CX X.prog X.w) X E := passes_call tk hW
end
theorem b_int : bootBuiltins ("int" : Str) = some (.type "int") := by decide +kernel
theorem b_bool : bootBuiltins ("bool" : Str) = some (.type "bool") := by decide +kernel
theorem b_list : bootBuiltins ("list" : Str) = some (.type "list") := by decide +kernel
theorem b_tuple : bootBuiltins ("tuple" : Str) = some (.type "tuple") := by decide +kernel
theorem b_len : bootBuiltins ("len" : Str) = some (.builtin "len") := by decide +kernel
theorem b_abs : bootBuiltins ("abs" : Str) = some (.builtin "abs") := by decide +kernel
theorem b_max : bootBuiltins ("max" : Str) = some (.builtin "max") := by decide +kernel
theorem b_min : bootBuiltins ("min" : Str) = some (.builtin "min") := by decide +kernel
theorem b_sum : bootBuiltins ("sum" : Str) = some (.builtin "sum") := by decide +kernel
section
variable {Pg : Program} {w : World} {K : PySem.W.Frag} {mg : Str → Option Value} {base : Heap} {P : Pm}
theorem df_ok {x : Str} {st : Stmt} {f : Addr} {fd : FuncData} {N ps : List Str} {k : Nat} {S : Sn} (hm : mg x = some (.ref f)) (F : Fun K x x st f fd) (B : L2.Binds K fd ps []) (sc : FnScope N ps (defScope st))
    (hb : ∀ (cdv : Value) (A : Around) (outer : List Env) (s : Shared) (H : Hp), Room k (A.deeper (envOfC x (defScope st) s.heap.objs.size f cdv)) →
      SSD (cxOf CX0 Pg w K mg base N x (defScope st) f cdv A outer s H E0).nox P E0 (defBody st) S) : Df Pg w K mg base P CX0 (k + 1) x st ps (fun ds bx => noErr (fnD N S ds bx)) :=
  ⟨f, fd, hm, F, B, fn_ok F sc rfl hb⟩
theorem df_okX {x : Str} {st : Stmt} {f : Addr} {fd : FuncData} {N ps : List Str} {k : Nat} {S : Sn} (hm : mg x = some (.ref f)) (F : Fun K x x st f fd) (B : L2.Binds K fd ps []) (sc : FnScope N ps (defScope st))
    (hb : ∀ (cdv : Value) (A : Around) (outer : List Env) (s : Shared) (H : Hp) (E : XK), Room k (A.deeper (envOfC x (defScope st) s.heap.objs.size f cdv)) →
      SSD (cxOf (L2.CX Pg w) Pg w K mg base N x (defScope st) f cdv A outer s H E) P E (defBody st) S) : Df Pg w K mg base P (L2.CX Pg w) (k + 1) x st ps (fnD N S) :=
  ⟨f, fd, hm, F, B, fn_okX F sc rfl hb⟩
end
end Mi

set_option Elab.async false
set_option linter.all false
set_option maxRecDepth 100000
set_option maxHeartbeats 4000000
namespace Mi
open PySem PySem.Spec PyProof.Rows L2
/-! ### defs that show data: nothing is being shown where they are called -/
structure FnG (Pg : Program) (w : World) (K : PySem.W.Frag) (mg : Str → Option Value) (base : Heap) (CX : CXT) (k : Nat) (f : Addr) (fd : FuncData) (ps : List Str) (sp : Sp) : Prop where
  len : ∀ vs H Q E, sp vs H Q E → vs.length = ps.length
  run : ∀ (A : Around) (outer : List Env) (s : Shared) (H : Hp) (args : Args) (us : List Value) (vs : List V) (Q : VK) (E : XK), A.guards = some [] → Room k A → Env0 Pg w K mg base A outer s H → BindsTo s fd args (ps.zip us) → Vals vs us → sp vs H Q E →
    codeAny (model Pg w) A (.call (.ref f) args) (CR CX outer Pg w H s Q E) s
structure DfG (Pg : Program) (w : World) (K : PySem.W.Frag) (mg : Str → Option Value) (base : Heap) (P : Pm) (CX : CXT) (j : Nat) (x : Str) (st : Stmt) (ps : List Str) (m : List D → Int × Int → Res D) : Prop where
  ex : ∃ (f : Addr) (fd : FuncData), mg x = some (.ref f) ∧ Fun K x x st f fd ∧ L2.Binds K fd ps [] ∧ FnG Pg w K mg base CX j f fd ps (spD K P ps.length m)
section
variable {X : Cx} {P : Pm} {E : XK} {pos : Pos} {es : List Expr} {A : Fn (List D)} {CX : CXT} {k : Nat} {st : Stmt} {ps : List Str} {m : List D → Int × Int → Res D} {x : Str} {p : Pos} {e : Expr}
theorem ed_callG (hga : X.A.guards = some []) (d : DfG X.prog X.w X.K X.mg X.base P CX k x st ps m) (hr : Room k X.A) (hx : Passes CX X E) (hg : Gl X x) (ha : EA X P E (e :: es) A) (hA : ∀ δ bx ds bx', A δ bx = .ok ds bx' → ds.length = ps.length)
    (hdb : (x == ("__debug__" : Str)) = false := by decide) (he : starEach (e :: es) X.env = (false, eval e X.env) :: starEach es X.env := by rfl) (hpl : (backTo pos (starEach es X.env)).any (·.1) = false := by rfl) :
    ED X P E (.Call (.Name x p) (e :: es) [] pos) (fCall m A) := by
  obtain ⟨f, fd, hm, hF, hb, F⟩ := d.ex
  refine ⟨fun pins s σ H Q I h => ?_⟩
  obtain ⟨β, δ, bx, ev, gd, o⟩ := h
  have o2 := x_bind o.x
  have h' : (tDA X.K P E A) σ H fun zs H1 => spD X.K P ps.length m zs H1 Q E := by
    refine ⟨β, δ, bx, ev, gd, ?_⟩
    cases hF : A δ bx with
    | ok ds bx' =>
      rw [hF] at o2
      exact fun vs H' l g' r => ⟨β, ds, bx', by rw [r.length]; exact hA _ _ _ _ hF, r, g', (o2 H' l g' l).out⟩
    | err d bx' =>
      rw [hF] at o2
      exact o2
    | bad =>
      rw [hF] at o2
      exact o2
  refine wpAny_Call_Name_kw (ld_glob I hg hm ?_ hdb)
  refine PySem.W.callWith_K (h₀ := X.base) I.ok.mod.kin hF.kp (thn (ha.run pos pins s σ H _ I h') fun us s1 hs => ?_) he hpl
  obtain ⟨vs, H1, I1, r, q⟩ := hs
  refine ⟨I1.kIn, ?_⟩
  have hl : us.length = ps.length := by rw [← r.length]; exact F.len _ _ _ _ q
  have hbb := hb s1 us I1.kIn (by rw [List.append_nil]; exact hl)
  rw [List.append_nil] at hbb
  show wpAny _ _ (call (.ref f) us) _ _ _
  refine wpAny_call (codeAny_mono (F.run X.A X.stack s1 H1 ⟨us, []⟩ us vs Q E hga hr I1.env0 hbb r q) fun rr s' hq => ?_)
  match rr, hq with
  | .error er, hq => exact hx pins σ H1 s1 er s' I1 hq
  | .ok fl, hq =>
    cases fl
    all_goals first
      | exact I1.after hq
      | exact False.elim hq
end
section
variable {Pg : Program} {w : World} {K : PySem.W.Frag} {mg : Str → Option Value} {base : Heap} {P : Pm}
theorem fnG_ok {x qual : Str} {params : Arguments} {body : List Stmt} {scope : Scope} {f : Addr} {dV kV doc pm cdv ct oc : Value} {an od : Option Addr} {osl : Array (Option Value)} {N ps : List Str} {k : Nat} {S : Sn}
    (lk : K.lookup f = some ⟨oc, od, .func (PySem.W.fnOf x qual params body scope dV kV doc pm an cdv ct), osl⟩) (hcd : PySem.W.codeIn K cdv qual = true) (sc : FnScope N ps scope)
    (hb : ∀ (A : Around) (outer : List Env) (s : Shared) (H : Hp), A.guards = some [] → Room k (A.deeper (envOfC qual scope s.heap.objs.size f cdv)) →
      SSD (cxOf CX0 Pg w K mg base N qual scope f cdv A outer s H E0).nox P E0 body S) :
    FnG Pg w K mg base CX0 (k + 1) f (PySem.W.fnOf x qual params body scope dV kV doc pm an cdv ct) ps (spD K P ps.length fun ds bx => noErr (fnD N S ds bx)) := by
  refine ⟨fun vs H Q E h => spD_len _ _ _ _ h, fun A outer s H args us vs Q E hg hr e0 hbn r h => ?_⟩
  have hs : spD K P ps.length (fnD N S) vs H Q E0 := by
    obtain ⟨β, ds, bx, h1, h2, h3, o⟩ := h
    refine ⟨β, ds, bx, h1, h2, h3, ?_⟩
    replace o : Out K P β H (noErr (fnD N S ds bx)) Q E := o
    cases hF : fnD N S ds bx with
    | ok d bx' =>
      rw [hF] at o
      exact o
    | err d bx' =>
      rw [hF] at o
      exact o.elim
    | bad =>
      rw [hF] at o
      exact o
  have z := LamX.run_ofS (CX := CX0) (E := E0) (Q := Q) lk hcd sc hr e0 hbn r (spD_len _ _ _ _ h) fun hr' => ⟨tDS K P E0 S, (hb A outer s H hg hr').nox, fn_end hs⟩
  refine codeAny_mono z fun rr s' hq => ?_
  match rr, hq with
  | .ok _, hq => exact hq
  | .error _, hq => exact False.elim hq
end
end Mi

set_option Elab.async false
set_option linter.all false
set_option maxRecDepth 100000
set_option maxHeartbeats 4000000
namespace Mi
open PySem PySem.Spec PyProof.Rows L2
/-! ### the end of a law whose defs show data: the law is called where nothing is being shown -/
abbrev tabE : Obj := { cls := .none, data := .fields #[] }
abbrev lstE (vs : List Value) : Obj := { cls := .type "list", data := .seq vs.toArray }
/-- what is tracked at the law's call: the tables, and the script if it is no object of the text -/
def H₀ (K : PySem.W.Frag) (a : Addr) (vs : List Value) (ns : List Int) (T : List Addr) : Hp := fun b =>
  if b ∈ T then some (.tbl #[]) else if b = a ∧ (K.lookup a).isNone = true then some (.frz (lstE vs) (.lst (ns.map V.int))) else none
section
variable {Pg : Program} {w : World} {K : PySem.W.Frag} {a : Addr} {vs : List Value} {ns : List Int} {T : List Addr} {h : Heap}
theorem H₀_tab {b : Addr} (hb : b ∈ T) : H₀ K a vs ns T b = some (.tbl #[]) := if_pos hb
theorem H₀_cases (b : Addr) : (b ∈ T ∧ H₀ K a vs ns T b = some (.tbl #[])) ∨ (b ∉ T ∧ b = a ∧ K.lookup a = none ∧ H₀ K a vs ns T b = some (.frz (lstE vs) (.lst (ns.map V.int)))) ∨ (b ∉ T ∧ H₀ K a vs ns T b = none) := by
  by_cases h1 : b ∈ T
  · exact .inl ⟨h1, if_pos h1⟩
  · by_cases h2 : b = a ∧ (K.lookup a).isNone = true
    · refine .inr (.inl ⟨h1, h2.1, Option.isNone_iff_eq_none.mp h2.2, ?_⟩)
      unfold H₀
      rw [if_neg h1, if_pos h2]
    · refine .inr (.inr ⟨h1, ?_⟩)
      unfold H₀
      rw [if_neg h1, if_neg h2]
theorem H₀_ok (hT : ∀ b, b ∈ T → h.get? b = some tabE) (ha : h.get? a = some (lstE vs)) (hi : IntsAre vs ns) (hl : ns.length ≤ sizeLine) : HOk Pg w (H₀ K a vs ns T) h := fun b o e => by
  rcases H₀_cases (K := K) (a := a) (vs := vs) (ns := ns) (T := T) b with ⟨h1, h2⟩ | ⟨_, rfl, _, h2⟩ | ⟨_, h2⟩
  · rw [h2] at e
    cases e
    exact hT b h1
  · rw [h2] at e
    cases e
    exact ⟨ha, by rw [List.length_map]; exact hl, vs, _, vals_ints hi, ha⟩
  · rw [h2] at e
    cases e
theorem H₀_seq (X : K.In h) (ha : h.get? a = some (lstE vs)) (hi : IntsAre vs ns) (hl : ns.length ≤ sizeLine) (aT : a ∉ T) : SqL K (H₀ K a vs ns T) a (ns.map V.int) := by
  rcases H₀_cases (K := K) (a := a) (vs := vs) (ns := ns) (T := T) a with ⟨h1, _⟩ | ⟨_, _, _, h2⟩ | ⟨_, h2⟩
  · exact (aT h1).elim
  · exact .inl (.inr ⟨_, h2⟩)
  · cases hk : K.lookup a with
    | none =>
      unfold H₀ at h2
      rw [if_neg aT, if_pos ⟨rfl, by rw [hk]; rfl⟩] at h2
      cases h2
    | some o =>
      have e := X a o hk
      rw [ha] at e
      cases e
      exact .inr ⟨_, vs.toArray, _, hk, rfl, rfl, rfl, by rw [List.size_toArray, hi.length]; exact hl, by simpa using vals_ints hi⟩
end
/-- the law's call, from what holds at any ground on which it may stand -/
theorem law_callG {Pg : Program} {w : World} {K : PySem.W.Frag} {mg mb : Str → Option Value} {fa a : Addr} {cs : List (Addr × Addr)} {s₁ : Shared} {vs : List Value} {ns : List Int}
    (KX : K.In s₁.heap) (hns : s₁.heap.Ns mainGlobals mg) (hb : s₁.heap.Ns builtinsNs mb) (hbb : ∀ x : Str, x ≠ "__name__" → mb x = bootBuiltins x) (hlim : s₁.heap.NoLimit) (hg : s₁.gens = #[])
    (hT : ∀ p ∈ cs, s₁.heap.get? p.2 = some tabE) (nT : ∀ p ∈ cs, K.lookup p.2 = none) (C : ∀ p ∈ cs, PySem.W.CodeHd s₁.heap p.1 p.2)
    (hbm : ∃ (bm : Addr) (ob : Obj), mg "__builtins__" = some (.ref bm) ∧ bm ≠ builtinsNs ∧ s₁.heap.get? bm = some ob ∧ ob.cls = .type "module" ∧ ob.dict = some builtinsNs ∧ ob.data = .plain)
    (ha : s₁.heap.get? a = some (lstE vs)) (hi : IntsAre vs ns) (hl : ns.length ≤ sizeLine)
    (call : ∀ (base : Heap) (H : Hp), Env0 Pg w K mg base callerA [] s₁ H → (∀ p ∈ cs, LamX.TabB base mg p.1 p.2) → (∀ p ∈ cs, H p.2 = some (.tbl #[])) → SqL K H a (ns.map V.int) →
      codeAny (model Pg w) callerA (.call (.ref fa) ⟨[.ref a], []⟩) (CR CX0 [] Pg w H s₁ (fun v _ => v = .bl true) E0) s₁) :
    codeAny (model Pg w) callerA (.call (.ref fa) ⟨[.ref a], []⟩) (fun r s' => r = .ok (.ret (.bool true)) ∧ OldK s₁.heap s'.heap ∧ s'.os = s₁.os ∧ AllBare s'.gens) s₁ := by
  obtain ⟨T, eT⟩ : ∃ T, T = cs.map (·.2) := ⟨_, rfl⟩
  have inT : ∀ p ∈ cs, p.2 ∈ T := fun p hp => eT ▸ List.mem_map.mpr ⟨p, hp, rfl⟩
  have ofT : ∀ b, b ∈ T → ∃ p ∈ cs, p.2 = b := fun b h => by
    rw [eT] at h
    exact List.mem_map.mp h
  have tT : ∀ b, b ∈ T → s₁.heap.get? b = some tabE := fun b h => by
    obtain ⟨p, hp, rfl⟩ := ofT b h
    exact hT p hp
  have aT : a ∉ T := fun z => by
    have q := (tT a z).symm.trans ha
    injection q with q
    have q2 := congrArg Obj.data q
    cases q2
  -- an object that is neither the script nor a table is not tracked
  have free : ∀ b, b ≠ a → b ∉ T → H₀ K a vs ns T b = none := fun b h1 h2 => by
    rcases H₀_cases (K := K) (a := a) (vs := vs) (ns := ns) (T := T) b with ⟨h, _⟩ | ⟨_, h, _⟩ | ⟨_, h⟩
    · exact (h2 h).elim
    · exact (h1 h).elim
    · exact h
  have plain : ∀ b o, s₁.heap.get? b = some o → (∀ its n, o.data ≠ .seq its n) → o.data ≠ .fields #[] → H₀ K a vs ns T b = none := fun b o e n1 n2 => by
    refine free b (fun z => ?_) fun z => ?_
    · rw [z, ha] at e
      cases e
      exact n1 _ _ rfl
    · rw [tT b z] at e
      cases e
      exact n2 rfl
  have nsOf : ∀ {b : Addr} {m : Str → Option Value}, s₁.heap.Ns b m → (hidT s₁.heap (H₀ K a vs ns T)).Ns b m := by
    rintro b m ⟨o, es, ep, e, d, r⟩
    refine ⟨o, es, ep, hidT_get e (plain b o e (fun its n z => ?_) fun z => ?_), d, r⟩ <;> rw [d] at z <;> cases z
  have KB : K.In (hidT s₁.heap (H₀ K a vs ns T)) := fun b o e => by
    refine hidT_get (KX b o e) ?_
    rcases H₀_cases (K := K) (a := a) (vs := vs) (ns := ns) (T := T) b with ⟨h, _⟩ | ⟨_, rfl, h, _⟩ | ⟨_, h⟩
    · obtain ⟨p, hp, rfl⟩ := ofT b h
      rw [nT p hp] at e
      cases e
    · rw [h] at e
      cases e
    · exact h
  have gOf : ∀ b, s₁.heap.get? b = some tabE → b ≠ mainGlobals := fun b e z => by
    obtain ⟨o, es, ep, e2, d, _⟩ := hns
    rw [← z, e] at e2
    cases e2
    cases d
  have TB : ∀ p ∈ cs, LamX.TabB (hidT s₁.heap (H₀ K a vs ns T)) mg p.1 p.2 := fun p hp => by
    refine ⟨?_, ?_, fun z => gOf _ (hT p hp) z.symm⟩
    · obtain ⟨o, us, file, tf, flags, tg, inF, text, tt, e1, r1, r2, r3, r⟩ := C p hp
      refine ⟨o, us, file, tf, flags, tg, inF, text, tt, hidT_get e1 (plain _ o e1 (fun its n z => ?_) fun z => ?_), r1, r2, r3, r⟩
      · rw [r2] at z
        cases z
      · rw [r2] at z
        cases z
        simp at r3
    · obtain ⟨bm, ob, b1, b2, b3, b4, b5, b6⟩ := hbm
      refine ⟨bm, ob, b1, b2, fun z => ?_, fun z => ?_, hidT_get b3 (plain _ ob b3 (fun its n z => ?_) fun z => ?_), b4, b5, b6⟩
      · obtain ⟨o, es, ep, e2, d, _⟩ := hns
        rw [← z, b3] at e2
        cases e2
        rw [b6] at d
        cases d
      · rw [z, hT p hp] at b3
        cases b3
        cases b6
      · rw [b6] at z
        cases z
      · rw [b6] at z
        cases z
  have hok : HOk Pg w (H₀ K a vs ns T) s₁.heap := H₀_ok tT ha hi hl
  have e0 : Env0 Pg w K mg (hidT s₁.heap (H₀ K a vs ns T)) callerA [] s₁ (H₀ K a vs ns T) :=
    ⟨rfl, ⟨KB, nsOf hns, ⟨mb, nsOf hb, hbb⟩, let ⟨mc, h1, h2⟩ := hlim; ⟨mc, nsOf h1, h2⟩⟩, fun b o e => of_hidT e, Nat.le_of_eq (hidT_size _ _), trivial, fun b h => (nomatch h), hok, .of_eq hg⟩
  refine codeAny_mono (call _ _ e0 TB (fun p hp => H₀_tab (inT p hp)) (H₀_seq KX ha hi hl aT)) fun r s' h => ?_
  match r, h with
  | .error _, h => exact h.elim
  | .ok .next, h => exact h.elim
  | .ok .brk, h => exact h.elim
  | .ok .cont, h => exact h.elim
  | .ok (.ret u), ⟨v, H', os, bare, un, hok', r', q⟩ =>
    have q' : v = .bl true := q
    subst q'
    obtain rfl : u = Value.bool true := r'
    have grown : ∀ p ∈ cs, ∃ more : Array Value, s'.heap.get? p.2 = some { cls := .none, data := .fields more } := fun p hp => by
      obtain ⟨more, z⟩ := un.tbls p.2 #[] (H₀_tab (inT p hp))
      exact ⟨_, hok' p.2 _ z⟩
    have stays : ∀ b o, b ∉ T → s₁.heap.get? b = some o → s'.heap.get? b = some o := fun b o nb e => by
      rcases H₀_cases (K := K) (a := a) (vs := vs) (ns := ns) (T := T) b with ⟨h, _⟩ | ⟨_, rfl, _, h⟩ | ⟨_, h⟩
      · exact (nb h).elim
      · obtain ⟨e2, _⟩ := hok' b _ (un.frzs b _ _ h)
        rw [ha] at e
        cases e
        exact e2
      · exact un.keep b o e h (fun z => nomatch z) (fun z => nomatch z)
    refine ⟨rfl, ⟨fun b o e => ?_, fun b o e => ?_⟩, os, bare⟩
    · by_cases hb : b ∈ T
      · obtain ⟨p, hp, rfl⟩ := ofT b hb
        obtain ⟨more, hm⟩ := grown p hp
        rw [hT p hp] at e
        cases e
        exact .inr (.inl ⟨((C p hp).tab (hT p hp)).isCodeTable, rfl, #[], more, rfl, by rw [Array.empty_append]; exact hm⟩)
      · exact .inl (stays b o hb e)
    · by_cases hb : b ∈ T
      · obtain ⟨p, hp, rfl⟩ := ofT b hb
        obtain ⟨more, hm⟩ := grown p hp
        exact ⟨_, hm⟩
      · exact ⟨o, stays b o hb e⟩
/-- what is asked of a law at the head's heap -/
def LawAt (l : PySem.W.OpenLaw) (w : World) (K : PySem.W.Frag) (n : Nat) (mg : Str → Option Value) (fa : Addr) (h : Heap) : Prop :=
  ∃ cs : List (Addr × Addr), (∀ p ∈ cs, h.get? p.2 = some tabE) ∧ (∀ p ∈ cs, K.lookup p.2 = none) ∧ (∀ p ∈ cs, PySem.W.CodeHd h p.1 p.2) ∧
    ∀ (base : Heap) (H : Hp) (s₁ : Shared) (a : Addr) (ns : List Int), ns.length ≤ n → Env0 l.prog w K mg base callerA [] s₁ H → (∀ p ∈ cs, LamX.TabB base mg p.1 p.2) → (∀ p ∈ cs, H p.2 = some (.tbl #[])) → SqL K H a (ns.map V.int) →
      codeAny (model l.prog w) callerA (.call (.ref fa) ⟨[.ref a], []⟩) (CR CX0 [] l.prog w H s₁ (fun v _ => v = .bl true) E0) s₁
theorem walkG {l : PySem.W.OpenLaw} {n : Nat} {q : Program} {loose : List Str} {XP : (Str → Option Value) → Heap → Prop} {YP : World → Heap → Prop} {d : DefRec} {K : Params → PySem.W.Frag}
    (hn : l.most = some n) (hn2 : n ≤ sizeLine) (hdf : d.params.defaults = []) (hY : ∀ (w : World) (h : Heap), YP w h → (K w.params).In h)
    (F : ∀ (w : World) (mg : Str → Option Value) (fa : Addr) (h : Heap), YP w h → (K w.params).In h → h.Ns mainGlobals mg → mg d.name = some (.ref fa) → LawAt l w (K w.params) n mg fa h) :
    PySem.W.WalkO q loose XP YP l.row.toRowW d [] (fun f vs => PySem.call f vs) := by
  refine Att.attach_callB hn hdf fun w s₀ s₁ mg mb fa o pm cd doc a vs ns G Y ho hd hcd hmg hobj hints hlen hbits hg => ?_
  have KX := hY w _ Y
  obtain ⟨cs, hT, nT, C, hc⟩ := F w mg fa _ Y KX G.T.g hmg
  exact law_callG KX G.T.g G.T.b G.T.builtins G.T.nolimit hg hT nT C G.T.bmain hobj hints (Nat.le_trans hlen hn2) fun base H e0 tb hH hS => hc base H s₁ a ns hlen e0 tb hH hS
end Mi

set_option Elab.async false
set_option linter.all false
set_option maxRecDepth 100000
set_option maxHeartbeats 4000000
namespace K13
open PySem PySem.Spec PyProof.Rows L2 Mi
def topS (i : Nat) : Stmt := PySem.Challenge.pw_wrecktold_k13_whole_how_many_frames_on.main.body.getD i (.Pass ⟨0, 0, 0, 0⟩)
structure Txt (K : PySem.W.Frag) (mg : Str → Option Value) (P : Pm) (fI : Addr) : Prop where
  isinstance : mg "isinstance" = none
  int : mg "int" = none
  bool : mg "bool" = none
  list : mg "list" = none
  tuple : mg "tuple" = none
  len : mg "len" = none
  range : mg "range" = none
  repr : mg "repr" = none
  abs : mg "abs" = none
  max : mg "max" = none
  min : mg "min" = none
  sum : mg "sum" = none
  MOST_TICKS : ∃ t, mg "MOST_TICKS" = some (.int 100 t)
  MOST_WAY : ∃ t, mg "MOST_WAY" = some (.int 1000 t)
  MOST_STAMPS : ∃ t, mg "MOST_STAMPS" = some (.int 1000 t)
  NUMBERS : ∃ t, mg "NUMBERS" = some (.int 256 t)
  LAST_STAMP : ∃ t, mg "LAST_STAMP" = some (.int 1000000 t)
  low : PySem.RefX.LowTxt K mg P.CR fI
section
variable {Pg : Program} {w : World} {K : PySem.W.Frag} {mg : Str → Option Value} {base : Heap} {P : Pm} {fI : Addr}
abbrev N_is_integer : List Str := ["value"]
def S_is_integer : Sn := (sSeq (sRet (fIfB (f1 (cIsi "int") (fVar 0)) (f1 cNot (f1 (cIsi "bool") (fVar 0))) (pur (.bl false)))) sNext)
def m_is_integer : List D → Int × Int → Res D := fun ds bx => noErr (fnD N_is_integer S_is_integer ds bx)
theorem nd_is_integer : N_is_integer.Nodup := by decide +kernel
theorem sc_is_integer : FnScope N_is_integer ["value"] (defScope (topS 4)) := ⟨rfl, rfl, rfl, by decide +kernel, rfl, by decide +kernel, by decide +kernel⟩
theorem ok_is_integer {f : Addr} {fd : FuncData} (T : Txt K mg P fI)  (hm : mg "is_integer" = some (.ref f)) (F : Fun K "is_integer" "is_integer" (topS 4) f fd) (B : L2.Binds K fd ["value"] []) : Df Pg w K mg base P CX0 1 "is_integer" (topS 4) ["value"] m_is_integer :=
  df_ok (N := N_is_integer) (S := S_is_integer) (k := 0) hm F B sc_is_integer fun cdv A outer s H hr => (ssd_cons (sd_ret (ed_and (ed_isi (by rfl) T.isinstance b_isinstance (ed_var 0) (by rfl) T.int b_int) (ed_one (ed_not (ed_isi (by rfl) T.isinstance b_isinstance (ed_var 0) (by rfl) T.bool b_bool)))))
      ssd_nil)

abbrev N_is_within : List Str := ["value", "least", "most"]
def S_is_within : Sn := (sSeq (sRet (fIfB (fCall m_is_integer (fCons (fVar 0) (pur []))) (fChain (fun i j => decide (i ≤ j)) (fun i j => decide (i ≤ j)) (fVar 1) (fVar 0) (fVar 2)) (pur (.bl false)))) sNext)
def m_is_within : List D → Int × Int → Res D := fun ds bx => noErr (fnD N_is_within S_is_within ds bx)
theorem nd_is_within : N_is_within.Nodup := by decide +kernel
theorem sc_is_within : FnScope N_is_within ["value", "least", "most"] (defScope (topS 5)) := ⟨rfl, rfl, rfl, by decide +kernel, rfl, by decide +kernel, by decide +kernel⟩
theorem ok_is_within {f : Addr} {fd : FuncData} (T : Txt K mg P fI) (D_is_integer : Df Pg w K mg base P CX0 1 "is_integer" (topS 4) ["value"] m_is_integer) (hm : mg "is_within" = some (.ref f)) (F : Fun K "is_within" "is_within" (topS 5) f fd) (B : L2.Binds K fd ["value", "least", "most"] []) : Df Pg w K mg base P CX0 2 "is_within" (topS 5) ["value", "least", "most"] m_is_within :=
  df_ok (N := N_is_within) (S := S_is_within) (k := 1) hm F B sc_is_within fun cdv A outer s H hr => (ssd_cons (sd_ret (ed_and (ed_callD D_is_integer (hr.mono (by decide)) pass0' (by rfl) (ea_cons (ed_var 0) ea_nil) (len_cons (fun _ _ _ _ h => len_nil h))) (ed_one (ed_chain op_le op_le (ed_var 1) (ed_var 0) (ed_var 2)))))
      ssd_nil)

abbrev N_is_below : List Str := ["value", "bound"]
def S_is_below : Sn := (sSeq (sRet (fIfB (fCall m_is_integer (fCons (fVar 0) (pur []))) (fChain (fun i j => decide (i ≤ j)) (fun i j => decide (i < j)) (pur (.int 0)) (fVar 0) (fVar 1)) (pur (.bl false)))) sNext)
def m_is_below : List D → Int × Int → Res D := fun ds bx => noErr (fnD N_is_below S_is_below ds bx)
theorem nd_is_below : N_is_below.Nodup := by decide +kernel
theorem sc_is_below : FnScope N_is_below ["value", "bound"] (defScope (topS 6)) := ⟨rfl, rfl, rfl, by decide +kernel, rfl, by decide +kernel, by decide +kernel⟩
theorem ok_is_below {f : Addr} {fd : FuncData} (T : Txt K mg P fI) (D_is_integer : Df Pg w K mg base P CX0 1 "is_integer" (topS 4) ["value"] m_is_integer) (hm : mg "is_below" = some (.ref f)) (F : Fun K "is_below" "is_below" (topS 6) f fd) (B : L2.Binds K fd ["value", "bound"] []) : Df Pg w K mg base P CX0 2 "is_below" (topS 6) ["value", "bound"] m_is_below :=
  df_ok (N := N_is_below) (S := S_is_below) (k := 1) hm F B sc_is_below fun cdv A outer s H hr => (ssd_cons (sd_ret (ed_and (ed_callD D_is_integer (hr.mono (by decide)) pass0' (by rfl) (ea_cons (ed_var 0) ea_nil) (len_cons (fun _ _ _ _ h => len_nil h))) (ed_one (ed_chain op_le op_lt ed_int (ed_var 0) (ed_var 1)))))
      ssd_nil)

abbrev N_is_sequence : List Str := ["value"]
def S_is_sequence : Sn := (sSeq (sRet (f1 (cIsi2 "list" "tuple") (fVar 0))) sNext)
def m_is_sequence : List D → Int × Int → Res D := fun ds bx => noErr (fnD N_is_sequence S_is_sequence ds bx)
theorem nd_is_sequence : N_is_sequence.Nodup := by decide +kernel
theorem sc_is_sequence : FnScope N_is_sequence ["value"] (defScope (topS 7)) := ⟨rfl, rfl, rfl, by decide +kernel, rfl, by decide +kernel, by decide +kernel⟩
theorem ok_is_sequence {f : Addr} {fd : FuncData} (T : Txt K mg P fI)  (hm : mg "is_sequence" = some (.ref f)) (F : Fun K "is_sequence" "is_sequence" (topS 7) f fd) (B : L2.Binds K fd ["value"] []) : Df Pg w K mg base P CX0 1 "is_sequence" (topS 7) ["value"] m_is_sequence :=
  df_ok (N := N_is_sequence) (S := S_is_sequence) (k := 0) hm F B sc_is_sequence fun cdv A outer s H hr => (ssd_cons (sd_ret (ed_isi2 (by rfl) T.isinstance b_isinstance (ed_var 0) (by rfl) T.list b_list (by rfl) T.tuple b_tuple))
      ssd_nil)

abbrev N_has_parts : List Str := ["value", "many"]
def S_has_parts : Sn := (sSeq (sRet (fIfB (fCall m_is_sequence (fCons (fVar 0) (pur []))) (f2 cEqD (fA cLen (fCons (fVar 0) (pur []))) (fVar 1)) (pur (.bl false)))) sNext)
def m_has_parts : List D → Int × Int → Res D := fun ds bx => noErr (fnD N_has_parts S_has_parts ds bx)
theorem nd_has_parts : N_has_parts.Nodup := by decide +kernel
theorem sc_has_parts : FnScope N_has_parts ["value", "many"] (defScope (topS 8)) := ⟨rfl, rfl, rfl, by decide +kernel, rfl, by decide +kernel, by decide +kernel⟩
theorem ok_has_parts {f : Addr} {fd : FuncData} (T : Txt K mg P fI) (D_is_sequence : Df Pg w K mg base P CX0 1 "is_sequence" (topS 7) ["value"] m_is_sequence) (hm : mg "has_parts" = some (.ref f)) (F : Fun K "has_parts" "has_parts" (topS 8) f fd) (B : L2.Binds K fd ["value", "many"] []) : Df Pg w K mg base P CX0 2 "has_parts" (topS 8) ["value", "many"] m_has_parts :=
  df_ok (N := N_has_parts) (S := S_has_parts) (k := 1) hm F B sc_has_parts fun cdv A outer s H hr => (ssd_cons (sd_ret (ed_and (ed_callD D_is_sequence (hr.mono (by decide)) pass0' (by rfl) (ea_cons (ed_var 0) ea_nil) (len_cons (fun _ _ _ _ h => len_nil h))) (ed_one (ed_eq hr.units (ed_blt call_len_seq cd_len (by rfl) T.len b_len (ea_cons (ed_var 0) ea_nil)) (ed_var 1)))))
      ssd_nil)

abbrev N__is_range : List Str := ["low", "high", "least", "most"]
def S__is_range : Sn := (sSeq (sRet (fIfB (fCall m_is_within (fCons (fVar 0) (fCons (fVar 2) (fCons (fVar 3) (pur []))))) (fCall m_is_within (fCons (fVar 1) (fCons (fVar 0) (fCons (fVar 3) (pur []))))) (pur (.bl false)))) sNext)
def m__is_range : List D → Int × Int → Res D := fun ds bx => noErr (fnD N__is_range S__is_range ds bx)
theorem nd__is_range : N__is_range.Nodup := by decide +kernel
theorem sc__is_range : FnScope N__is_range ["low", "high", "least", "most"] (defScope (topS 15)) := ⟨rfl, rfl, rfl, by decide +kernel, rfl, by decide +kernel, by decide +kernel⟩
theorem ok__is_range {f : Addr} {fd : FuncData} (T : Txt K mg P fI) (D_is_within : Df Pg w K mg base P CX0 2 "is_within" (topS 5) ["value", "least", "most"] m_is_within) (hm : mg "_is_range" = some (.ref f)) (F : Fun K "_is_range" "_is_range" (topS 15) f fd) (B : L2.Binds K fd ["low", "high", "least", "most"] []) : Df Pg w K mg base P CX0 3 "_is_range" (topS 15) ["low", "high", "least", "most"] m__is_range :=
  df_ok (N := N__is_range) (S := S__is_range) (k := 2) hm F B sc__is_range fun cdv A outer s H hr => (ssd_cons (sd_ret (ed_and (ed_callD D_is_within (hr.mono (by decide)) pass0' (by rfl) (ea_cons (ed_var 0) (ea_cons (ed_var 2) (ea_cons (ed_var 3) ea_nil))) (len_cons (len_cons (len_cons (fun _ _ _ _ h => len_nil h))))) (ed_one (ed_callD D_is_within (hr.mono (by decide)) pass0' (by rfl) (ea_cons (ed_var 1) (ea_cons (ed_var 0) (ea_cons (ed_var 3) ea_nil))) (len_cons (len_cons (len_cons (fun _ _ _ _ h => len_nil h))))))))
      ssd_nil)

abbrev N_is_source : List Str := ["value", "low", "high", "least", "most", "gap", "pause"]
def S_is_source : Sn := (sSeq (sIf (fNot (fB (fCall m_has_parts (fCons (fVar 0) (fCons (pur (.int 6)) (pur [])))))) (sSeq (sRet (pur (.bl false))) sNext) sNext) (sSeq (sUnp [1, 2, 3, 4, 5, 6] (fVar 0)) (sSeq (sIf (fIfT (fNot (fB (fCall m__is_range (fCons (fVar 1) (fCons (fVar 2) (fCons (pur (.int 1)) (fCons (pur (.int 100)) (pur [])))))))) (pur true) (fNot (fB (fCall m__is_range (fCons (fVar 3) (fCons (fVar 4) (fCons (pur (.int 0)) (fCons (pur (.int 1000)) (pur []))))))))) (sSeq (sRet (pur (.bl false))) sNext) sNext) (sSeq (sRet (fIfB (fCall m__is_range (fCons (fVar 5) (fCons (fVar 6) (fCons (pur (.int 1)) (fCons (pur (.int 1000)) (pur [])))))) (f2 (iB fun i j => decide (j < i)) (f2 cMul (fVar 1) (fVar 5)) (f2 cSub (fVar 4) (fVar 3))) (pur (.bl false)))) sNext))))
def m_is_source : List D → Int × Int → Res D := fun ds bx => noErr (fnD N_is_source S_is_source ds bx)
theorem nd_is_source : N_is_source.Nodup := by decide +kernel
theorem sc_is_source : FnScope N_is_source ["value"] (defScope (topS 16)) := ⟨rfl, rfl, rfl, by decide +kernel, rfl, by decide +kernel, by decide +kernel⟩
theorem ok_is_source {f : Addr} {fd : FuncData} (T : Txt K mg P fI) (D_has_parts : Df Pg w K mg base P CX0 2 "has_parts" (topS 8) ["value", "many"] m_has_parts) (D__is_range : Df Pg w K mg base P CX0 3 "_is_range" (topS 15) ["low", "high", "least", "most"] m__is_range) (hm : mg "is_source" = some (.ref f)) (F : Fun K "is_source" "is_source" (topS 16) f fd) (B : L2.Binds K fd ["value"] []) : Df Pg w K mg base P CX0 4 "is_source" (topS 16) ["value"] m_is_source :=
  df_ok (N := N_is_source) (S := S_is_source) (k := 3) hm F B sc_is_source fun cdv A outer s H hr => (ssd_cons (sd_if (et_not (et_val (ed_callD D_has_parts (hr.mono (by decide)) pass0' (by rfl) (ea_cons (ed_var 0) (ea_cons ed_int ea_nil)) (len_cons (len_cons (fun _ _ _ _ h => len_nil h)))))) (ssd_cons (sd_ret ed_bl)
      ssd_nil) ssd_nil)
      (ssd_cons (sd_unp [1, 2, 3, 4, 5, 6] rfl (pgs_cons (pg_name (i := 1) nd_is_source rfl (.inl rfl)) (pgs_cons (pg_name (i := 2) nd_is_source rfl (.inl rfl)) (pgs_cons (pg_name (i := 3) nd_is_source rfl (.inl rfl)) (pgs_cons (pg_name (i := 4) nd_is_source rfl (.inl rfl)) (pgs_cons (pg_name (i := 5) nd_is_source rfl (.inl rfl)) (pgs_cons (pg_name (i := 6) nd_is_source rfl (.inl rfl)) pgs_nil)))))) rfl (ed_var 0))
      (ssd_cons (sd_if (et_w (ew_or (et_not (et_val (ed_callD D__is_range (hr.mono (by decide)) pass0' (by rfl) (ea_cons (ed_var 1) (ea_cons (ed_var 2) (ea_cons ed_int (ea_cons (ed_globE (by rfl) T.MOST_TICKS) ea_nil)))) (len_cons (len_cons (len_cons (len_cons (fun _ _ _ _ h => len_nil h)))))))) (ew_or1 (et_not (et_val (ed_callD D__is_range (hr.mono (by decide)) pass0' (by rfl) (ea_cons (ed_var 3) (ea_cons (ed_var 4) (ea_cons ed_int (ea_cons (ed_globE (by rfl) T.MOST_WAY) ea_nil)))) (len_cons (len_cons (len_cons (len_cons (fun _ _ _ _ h => len_nil h))))))))))) (ssd_cons (sd_ret ed_bl)
      ssd_nil) ssd_nil)
      (ssd_cons (sd_ret (ed_and (ed_callD D__is_range (hr.mono (by decide)) pass0' (by rfl) (ea_cons (ed_var 5) (ea_cons (ed_var 6) (ea_cons ed_int (ea_cons (ed_globE (by rfl) T.MOST_STAMPS) ea_nil)))) (len_cons (len_cons (len_cons (len_cons (fun _ _ _ _ h => len_nil h)))))) (ed_one (ed_gt (ed_mul (ed_var 1) (ed_var 5)) (ed_sub (ed_var 4) (ed_var 3))))))
      ssd_nil))))

abbrev N__is_mark : List Str := ["value"]
def S__is_mark : Sn := (sSeq (sRet (fIfB (fCall m_has_parts (fCons (fVar 0) (fCons (pur (.int 2)) (pur [])))) (fIfB (fCall m_is_below (fCons (f2 cIx (fVar 0) (pur (.int 0))) (fCons (pur (.int 256)) (pur [])))) (fCall m_is_within (fCons (f2 cIx (fVar 0) (pur (.int 1))) (fCons (pur (.int 0)) (fCons (pur (.int 1000000)) (pur []))))) (pur (.bl false))) (pur (.bl false)))) sNext)
def m__is_mark : List D → Int × Int → Res D := fun ds bx => noErr (fnD N__is_mark S__is_mark ds bx)
theorem nd__is_mark : N__is_mark.Nodup := by decide +kernel
theorem sc__is_mark : FnScope N__is_mark ["value"] (defScope (topS 18)) := ⟨rfl, rfl, rfl, by decide +kernel, rfl, by decide +kernel, by decide +kernel⟩
theorem ok__is_mark {f : Addr} {fd : FuncData} (T : Txt K mg P fI) (D_has_parts : Df Pg w K mg base P CX0 2 "has_parts" (topS 8) ["value", "many"] m_has_parts) (D_is_below : Df Pg w K mg base P CX0 2 "is_below" (topS 6) ["value", "bound"] m_is_below) (D_is_within : Df Pg w K mg base P CX0 2 "is_within" (topS 5) ["value", "least", "most"] m_is_within) (hm : mg "_is_mark" = some (.ref f)) (F : Fun K "_is_mark" "_is_mark" (topS 18) f fd) (B : L2.Binds K fd ["value"] []) : Df Pg w K mg base P CX0 3 "_is_mark" (topS 18) ["value"] m__is_mark :=
  df_ok (N := N__is_mark) (S := S__is_mark) (k := 2) hm F B sc__is_mark fun cdv A outer s H hr => (ssd_cons (sd_ret (ed_and (ed_callD D_has_parts (hr.mono (by decide)) pass0' (by rfl) (ea_cons (ed_var 0) (ea_cons ed_int ea_nil)) (len_cons (len_cons (fun _ _ _ _ h => len_nil h)))) (ed_and (ed_callD D_is_below (hr.mono (by decide)) pass0' (by rfl) (ea_cons (ed_ix (ed_var 0) ed_int (fun _ _ => rfl)) (ea_cons (ed_globE (by rfl) T.NUMBERS) ea_nil)) (len_cons (len_cons (fun _ _ _ _ h => len_nil h)))) (ed_one (ed_callD D_is_within (hr.mono (by decide)) pass0' (by rfl) (ea_cons (ed_ix (ed_var 0) ed_int (fun _ _ => rfl)) (ea_cons ed_int (ea_cons (ed_globE (by rfl) T.LAST_STAMP) ea_nil))) (len_cons (len_cons (len_cons (fun _ _ _ _ h => len_nil h)))))))))
      ssd_nil)

abbrev N__need_source : List Str := ["value"]
def S__need_source : Sn := (sSeq (sIf (fNot (fB (fCall m_is_source (fCons (fVar 0) (pur []))))) (sSeq (sRaise (fVar 0)) sNext) sNext) sNext)
def m__need_source : List D → Int × Int → Res D := fnD N__need_source S__need_source
theorem nd__need_source : N__need_source.Nodup := by decide +kernel
theorem sc__need_source : FnScope N__need_source ["value"] (defScope (topS 19)) := ⟨rfl, rfl, rfl, by decide +kernel, rfl, by decide +kernel, by decide +kernel⟩
theorem ok__need_source {f : Addr} {fd : FuncData} (T : Txt K mg P fI) (D_is_source : Df Pg w K mg base P CX0 4 "is_source" (topS 16) ["value"] m_is_source) (hm : mg "_need_source" = some (.ref f)) (F : Fun K "_need_source" "_need_source" (topS 19) f fd) (B : L2.Binds K fd ["value"] []) : Df Pg w K mg base P (L2.CX Pg w) 5 "_need_source" (topS 19) ["value"] m__need_source :=
  df_okX (N := N__need_source) (S := S__need_source) (k := 4) hm F B sc__need_source fun cdv A outer s H E hr => (ssd_cons (sd_if (et_not (et_val (ed_callD D_is_source (hr.mono (by decide)) pass0' (by rfl) (ea_cons (ed_var 0) ea_nil) (len_cons (fun _ _ _ _ h => len_nil h))))) (ssd_cons (sd_raise rfl T.low hr (takes_of rfl rfl rfl rfl) (ed_var 0))
      ssd_nil) ssd_nil)
      ssd_nil)

abbrev N__need_mark : List Str := ["value"]
def S__need_mark : Sn := (sSeq (sIf (fNot (fB (fCall m__is_mark (fCons (fVar 0) (pur []))))) (sSeq (sRaise (fVar 0)) sNext) sNext) sNext)
def m__need_mark : List D → Int × Int → Res D := fnD N__need_mark S__need_mark
theorem nd__need_mark : N__need_mark.Nodup := by decide +kernel
theorem sc__need_mark : FnScope N__need_mark ["value"] (defScope (topS 20)) := ⟨rfl, rfl, rfl, by decide +kernel, rfl, by decide +kernel, by decide +kernel⟩
theorem ok__need_mark {f : Addr} {fd : FuncData} (T : Txt K mg P fI) (D__is_mark : Df Pg w K mg base P CX0 3 "_is_mark" (topS 18) ["value"] m__is_mark) (hm : mg "_need_mark" = some (.ref f)) (F : Fun K "_need_mark" "_need_mark" (topS 20) f fd) (B : L2.Binds K fd ["value"] []) : Df Pg w K mg base P (L2.CX Pg w) 4 "_need_mark" (topS 20) ["value"] m__need_mark :=
  df_okX (N := N__need_mark) (S := S__need_mark) (k := 3) hm F B sc__need_mark fun cdv A outer s H E hr => (ssd_cons (sd_if (et_not (et_val (ed_callD D__is_mark (hr.mono (by decide)) pass0' (by rfl) (ea_cons (ed_var 0) ea_nil) (len_cons (fun _ _ _ _ h => len_nil h))))) (ssd_cons (sd_raise rfl T.low hr (takes_of rfl rfl rfl rfl) (ed_var 0))
      ssd_nil) ssd_nil)
      ssd_nil)

abbrev N_rounded_up : List Str := ["many", "by"]
def S_rounded_up : Sn := (sSeq (sRet (f1 cNeg (f2 cDiv (f1 cNeg (fVar 0)) (fVar 1)))) sNext)
def m_rounded_up : List D → Int × Int → Res D := fun ds bx => noErr (fnD N_rounded_up S_rounded_up ds bx)
theorem nd_rounded_up : N_rounded_up.Nodup := by decide +kernel
theorem sc_rounded_up : FnScope N_rounded_up ["many", "by"] (defScope (topS 21)) := ⟨rfl, rfl, rfl, by decide +kernel, rfl, by decide +kernel, by decide +kernel⟩
theorem ok_rounded_up {f : Addr} {fd : FuncData} (T : Txt K mg P fI)  (hm : mg "rounded_up" = some (.ref f)) (F : Fun K "rounded_up" "rounded_up" (topS 21) f fd) (B : L2.Binds K fd ["many", "by"] []) : Df Pg w K mg base P CX0 1 "rounded_up" (topS 21) ["many", "by"] m_rounded_up :=
  df_ok (N := N_rounded_up) (S := S_rounded_up) (k := 0) hm F B sc_rounded_up fun cdv A outer s H hr => (ssd_cons (sd_ret (ed_neg (ed_div (ed_neg (ed_var 0)) (ed_var 1))))
      ssd_nil)

abbrev N__first_count : List Str := ["source", "one", "other", "pause", "least"]
def S__first_count : Sn := (sSeq (sSet 3 (f2 cIx (fVar 0) (pur (.int 5)))) (sSeq (sSet 4 (fCall m_rounded_up (fCons (f2 cSub (f2 cIx (fVar 2) (pur (.int 1))) (f2 cIx (fVar 1) (pur (.int 1)))) (fCons (fVar 3) (pur []))))) (sSeq (sRet (f2 cAdd (fVar 4) (f2 cMod (f2 cSub (f2 cSub (f2 cIx (fVar 2) (pur (.int 0))) (f2 cIx (fVar 1) (pur (.int 0)))) (fVar 4)) (pur (.int 256))))) sNext)))
def m__first_count : List D → Int × Int → Res D := fun ds bx => noErr (fnD N__first_count S__first_count ds bx)
theorem nd__first_count : N__first_count.Nodup := by decide +kernel
theorem sc__first_count : FnScope N__first_count ["source", "one", "other"] (defScope (topS 22)) := ⟨rfl, rfl, rfl, by decide +kernel, rfl, by decide +kernel, by decide +kernel⟩
theorem ok__first_count {f : Addr} {fd : FuncData} (T : Txt K mg P fI) (D_rounded_up : Df Pg w K mg base P CX0 1 "rounded_up" (topS 21) ["many", "by"] m_rounded_up) (hm : mg "_first_count" = some (.ref f)) (F : Fun K "_first_count" "_first_count" (topS 22) f fd) (B : L2.Binds K fd ["source", "one", "other"] []) : Df Pg w K mg base P CX0 2 "_first_count" (topS 22) ["source", "one", "other"] m__first_count :=
  df_ok (N := N__first_count) (S := S__first_count) (k := 1) hm F B sc__first_count fun cdv A outer s H hr => (ssd_cons (sd_set 3 nd__first_count rfl (.inl rfl) (ed_ix (ed_var 0) ed_int (fun _ _ => rfl)))
      (ssd_cons (sd_set 4 nd__first_count rfl (.inl rfl) (ed_callD D_rounded_up (hr.mono (by decide)) pass0' (by rfl) (ea_cons (ed_sub (ed_ix (ed_var 2) ed_int (fun _ _ => rfl)) (ed_ix (ed_var 1) ed_int (fun _ _ => rfl))) (ea_cons (ed_var 3) ea_nil)) (len_cons (len_cons (fun _ _ _ _ h => len_nil h)))))
      (ssd_cons (sd_ret (ed_add (ed_var 4) (ed_mod (ed_sub (ed_sub (ed_ix (ed_var 2) ed_int (fun _ _ => rfl)) (ed_ix (ed_var 1) ed_int (fun _ _ => rfl))) (ed_var 4)) (ed_globE (by rfl) T.NUMBERS))))
      ssd_nil)))

abbrev N__last_count : List Str := ["source", "one", "other", "gap"]
def S__last_count : Sn := (sSeq (sSet 3 (f2 cIx (fVar 0) (pur (.int 4)))) (sSeq (sRet (f2 cDiv (f2 cSub (f2 cIx (fVar 2) (pur (.int 1))) (f2 cIx (fVar 1) (pur (.int 1)))) (fVar 3))) sNext))
def m__last_count : List D → Int × Int → Res D := fun ds bx => noErr (fnD N__last_count S__last_count ds bx)
theorem nd__last_count : N__last_count.Nodup := by decide +kernel
theorem sc__last_count : FnScope N__last_count ["source", "one", "other"] (defScope (topS 23)) := ⟨rfl, rfl, rfl, by decide +kernel, rfl, by decide +kernel, by decide +kernel⟩
theorem ok__last_count {f : Addr} {fd : FuncData} (T : Txt K mg P fI)  (hm : mg "_last_count" = some (.ref f)) (F : Fun K "_last_count" "_last_count" (topS 23) f fd) (B : L2.Binds K fd ["source", "one", "other"] []) : Df Pg w K mg base P CX0 1 "_last_count" (topS 23) ["source", "one", "other"] m__last_count :=
  df_ok (N := N__last_count) (S := S__last_count) (k := 0) hm F B sc__last_count fun cdv A outer s H hr => (ssd_cons (sd_set 3 nd__last_count rfl (.inl rfl) (ed_ix (ed_var 0) ed_int (fun _ _ => rfl)))
      (ssd_cons (sd_ret (ed_div (ed_sub (ed_ix (ed_var 2) ed_int (fun _ _ => rfl)) (ed_ix (ed_var 1) ed_int (fun _ _ => rfl))) (ed_var 3)))
      ssd_nil))

abbrev N__counts : List Str := ["source", "one", "other"]
def S__counts : Sn := (sSeq (sRet (fA cTupRg (fCons (fCall m__first_count (fCons (fVar 0) (fCons (fVar 1) (fCons (fVar 2) (pur []))))) (fCons (f2 cAdd (fCall m__last_count (fCons (fVar 0) (fCons (fVar 1) (fCons (fVar 2) (pur []))))) (pur (.int 1))) (fCons (pur (.int 256)) (pur [])))))) sNext)
def m__counts : List D → Int × Int → Res D := fun ds bx => noErr (fnD N__counts S__counts ds bx)
theorem nd__counts : N__counts.Nodup := by decide +kernel
theorem sc__counts : FnScope N__counts ["source", "one", "other"] (defScope (topS 24)) := ⟨rfl, rfl, rfl, by decide +kernel, rfl, by decide +kernel, by decide +kernel⟩
theorem ok__counts {f : Addr} {fd : FuncData} (T : Txt K mg P fI) (D__first_count : Df Pg w K mg base P CX0 2 "_first_count" (topS 22) ["source", "one", "other"] m__first_count) (D__last_count : Df Pg w K mg base P CX0 1 "_last_count" (topS 23) ["source", "one", "other"] m__last_count) (hm : mg "_counts" = some (.ref f)) (F : Fun K "_counts" "_counts" (topS 24) f fd) (B : L2.Binds K fd ["source", "one", "other"] []) : Df Pg w K mg base P CX0 3 "_counts" (topS 24) ["source", "one", "other"] m__counts :=
  df_ok (N := N__counts) (S := S__counts) (k := 2) hm F B sc__counts fun cdv A outer s H hr => (ssd_cons (sd_ret (ed_tupRg rfl (by rfl) T.tuple (by rfl) T.range (ea_cons (ed_callD D__first_count (hr.mono (by decide)) pass0' (by rfl) (ea_cons (ed_var 0) (ea_cons (ed_var 1) (ea_cons (ed_var 2) ea_nil))) (len_cons (len_cons (len_cons (fun _ _ _ _ h => len_nil h))))) (ea_cons (ed_add (ed_callD D__last_count (hr.mono (by decide)) pass0' (by rfl) (ea_cons (ed_var 0) (ea_cons (ed_var 1) (ea_cons (ed_var 2) ea_nil))) (len_cons (len_cons (len_cons (fun _ _ _ _ h => len_nil h))))) ed_int) (ea_cons (ed_globE (by rfl) T.NUMBERS) ea_nil)))))
      ssd_nil)

abbrev N_counts : List Str := ["source", "one", "other"]
def S_counts : Sn := (sSeq (sDrop (fCall m__need_source (fCons (fVar 0) (pur [])))) (sSeq (sDrop (fCall m__need_mark (fCons (fVar 1) (pur [])))) (sSeq (sDrop (fCall m__need_mark (fCons (fVar 2) (pur [])))) (sSeq (sIf (fB (f2 (iB fun i j => decide (i ≤ j)) (f2 cIx (fVar 2) (pur (.int 1))) (f2 cIx (fVar 1) (pur (.int 1))))) (sSeq (sRaise (fVar 2)) sNext) sNext) (sSeq (sRet (fCall m__counts (fCons (fVar 0) (fCons (fVar 1) (fCons (fVar 2) (pur [])))))) sNext)))))
def m_counts : List D → Int × Int → Res D := fnD N_counts S_counts
theorem nd_counts : N_counts.Nodup := by decide +kernel
theorem sc_counts : FnScope N_counts ["source", "one", "other"] (defScope (topS 25)) := ⟨rfl, rfl, rfl, by decide +kernel, rfl, by decide +kernel, by decide +kernel⟩
theorem ok_counts {f : Addr} {fd : FuncData} (T : Txt K mg P fI) (D__need_source : Df Pg w K mg base P (L2.CX Pg w) 5 "_need_source" (topS 19) ["value"] m__need_source) (D__need_mark : Df Pg w K mg base P (L2.CX Pg w) 4 "_need_mark" (topS 20) ["value"] m__need_mark) (D__counts : Df Pg w K mg base P CX0 3 "_counts" (topS 24) ["source", "one", "other"] m__counts) (hm : mg "counts" = some (.ref f)) (F : Fun K "counts" "counts" (topS 25) f fd) (B : L2.Binds K fd ["source", "one", "other"] []) : Df Pg w K mg base P (L2.CX Pg w) 6 "counts" (topS 25) ["source", "one", "other"] m_counts :=
  df_okX (N := N_counts) (S := S_counts) (k := 5) hm F B sc_counts fun cdv A outer s H E hr => (ssd_cons (sd_expr (ed_callD D__need_source (hr.mono (by decide)) (passX (takes_of rfl rfl rfl rfl) fun _ _ _ _ h => h) (by rfl) (ea_cons (ed_var 0) ea_nil) (len_cons (fun _ _ _ _ h => len_nil h))))
      (ssd_cons (sd_expr (ed_callD D__need_mark (hr.mono (by decide)) (passX (takes_of rfl rfl rfl rfl) fun _ _ _ _ h => h) (by rfl) (ea_cons (ed_var 1) ea_nil) (len_cons (fun _ _ _ _ h => len_nil h))))
      (ssd_cons (sd_expr (ed_callD D__need_mark (hr.mono (by decide)) (passX (takes_of rfl rfl rfl rfl) fun _ _ _ _ h => h) (by rfl) (ea_cons (ed_var 2) ea_nil) (len_cons (fun _ _ _ _ h => len_nil h))))
      (ssd_cons (sd_if (et_le (ed_ix (ed_var 2) ed_int (fun _ _ => rfl)) (ed_ix (ed_var 1) ed_int (fun _ _ => rfl))) (ssd_cons (sd_raise rfl T.low hr (takes_of rfl rfl rfl rfl) (ed_var 2))
      ssd_nil) ssd_nil)
      (ssd_cons (sd_ret (ed_callD D__counts (hr.mono (by decide)) pass0' (by rfl) (ea_cons (ed_var 0) (ea_cons (ed_var 1) (ea_cons (ed_var 2) ea_nil))) (len_cons (len_cons (len_cons (fun _ _ _ _ h => len_nil h))))))
      ssd_nil)))))

abbrev N_ahead_counts : List Str := ["source", "one"]
def S_ahead_counts : Sn := (sSeq (sDrop (fCall m__need_source (fCons (fVar 0) (pur [])))) (sSeq (sDrop (fCall m__need_mark (fCons (fVar 1) (pur [])))) (sSeq (sRet (fA cTupRg (fCons (f2 cIx (fVar 1) (pur (.int 0))) (fCons (f2 cAdd (f2 cDiv (f2 cIx (fVar 1) (pur (.int 1))) (f2 cIx (fVar 0) (pur (.int 4)))) (pur (.int 1))) (fCons (pur (.int 256)) (pur [])))))) sNext)))
def m_ahead_counts : List D → Int × Int → Res D := fnD N_ahead_counts S_ahead_counts
theorem nd_ahead_counts : N_ahead_counts.Nodup := by decide +kernel
theorem sc_ahead_counts : FnScope N_ahead_counts ["source", "one"] (defScope (topS 26)) := ⟨rfl, rfl, rfl, by decide +kernel, rfl, by decide +kernel, by decide +kernel⟩
theorem ok_ahead_counts {f : Addr} {fd : FuncData} (T : Txt K mg P fI) (D__need_source : Df Pg w K mg base P (L2.CX Pg w) 5 "_need_source" (topS 19) ["value"] m__need_source) (D__need_mark : Df Pg w K mg base P (L2.CX Pg w) 4 "_need_mark" (topS 20) ["value"] m__need_mark) (hm : mg "ahead_counts" = some (.ref f)) (F : Fun K "ahead_counts" "ahead_counts" (topS 26) f fd) (B : L2.Binds K fd ["source", "one"] []) : Df Pg w K mg base P (L2.CX Pg w) 6 "ahead_counts" (topS 26) ["source", "one"] m_ahead_counts :=
  df_okX (N := N_ahead_counts) (S := S_ahead_counts) (k := 5) hm F B sc_ahead_counts fun cdv A outer s H E hr => (ssd_cons (sd_expr (ed_callD D__need_source (hr.mono (by decide)) (passX (takes_of rfl rfl rfl rfl) fun _ _ _ _ h => h) (by rfl) (ea_cons (ed_var 0) ea_nil) (len_cons (fun _ _ _ _ h => len_nil h))))
      (ssd_cons (sd_expr (ed_callD D__need_mark (hr.mono (by decide)) (passX (takes_of rfl rfl rfl rfl) fun _ _ _ _ h => h) (by rfl) (ea_cons (ed_var 1) ea_nil) (len_cons (fun _ _ _ _ h => len_nil h))))
      (ssd_cons (sd_ret (ed_tupRg rfl (by rfl) T.tuple (by rfl) T.range (ea_cons (ed_ix (ed_var 1) ed_int (fun _ _ => rfl)) (ea_cons (ed_add (ed_div (ed_ix (ed_var 1) ed_int (fun _ _ => rfl)) (ed_ix (ed_var 0) ed_int (fun _ _ => rfl))) ed_int) (ea_cons (ed_globE (by rfl) T.NUMBERS) ea_nil)))))
      ssd_nil)))

abbrev N_doubt_span : List Str := ["source", "gap", "pause", "few", "stamps"]
def S_doubt_span : Sn := (sSeq (sDrop (fCall m__need_source (fCons (fVar 0) (pur [])))) (sSeq (sPar 1 2 (fCons (f2 cIx (fVar 0) (pur (.int 4))) (fCons (f2 cIx (fVar 0) (pur (.int 5))) (pur [])))) (sSeq (sIf (fB (f2 cEqD (fVar 1) (fVar 2))) (sSeq (sRet (pur .non)) sNext) sNext) (sSeq (sSet 3 (fCall m_rounded_up (fCons (f2 cMul (pur (.int 256)) (fVar 1)) (fCons (f2 cSub (fVar 2) (fVar 1)) (pur []))))) (sSeq (sSet 4 (f2 cMul (fVar 1) (f2 cAdd (fVar 3) (pur (.int 256))))) (sSeq (sRet (fIfT (fB (f2 (iB fun i j => decide (i ≤ j)) (fVar 4) (pur (.int 1000000)))) (fVar 4) (pur .non))) sNext))))))
def m_doubt_span : List D → Int × Int → Res D := fnD N_doubt_span S_doubt_span
theorem nd_doubt_span : N_doubt_span.Nodup := by decide +kernel
theorem sc_doubt_span : FnScope N_doubt_span ["source"] (defScope (topS 27)) := ⟨rfl, rfl, rfl, by decide +kernel, rfl, by decide +kernel, by decide +kernel⟩
theorem ok_doubt_span {f : Addr} {fd : FuncData} (T : Txt K mg P fI) (D__need_source : Df Pg w K mg base P (L2.CX Pg w) 5 "_need_source" (topS 19) ["value"] m__need_source) (D_rounded_up : Df Pg w K mg base P CX0 1 "rounded_up" (topS 21) ["many", "by"] m_rounded_up) (hm : mg "doubt_span" = some (.ref f)) (F : Fun K "doubt_span" "doubt_span" (topS 27) f fd) (B : L2.Binds K fd ["source"] []) : Df Pg w K mg base P (L2.CX Pg w) 6 "doubt_span" (topS 27) ["source"] m_doubt_span :=
  df_okX (N := N_doubt_span) (S := S_doubt_span) (k := 5) hm F B sc_doubt_span fun cdv A outer s H E hr => (ssd_cons (sd_expr (ed_callD D__need_source (hr.mono (by decide)) (passX (takes_of rfl rfl rfl rfl) fun _ _ _ _ h => h) (by rfl) (ea_cons (ed_var 0) ea_nil) (len_cons (fun _ _ _ _ h => len_nil h))))
      (ssd_cons (sd_par 1 2 rfl nd_doubt_span rfl rfl (by decide) rfl rfl (ea_cons (ed_ix (ed_var 0) ed_int (fun _ _ => rfl)) (ea_cons (ed_ix (ed_var 0) ed_int (fun _ _ => rfl)) ea_nil)) (by rfl))
      (ssd_cons (sd_if (et_eq hr.units (ed_var 1) (ed_var 2)) (ssd_cons (sd_ret ed_non)
      ssd_nil) ssd_nil)
      (ssd_cons (sd_set 3 nd_doubt_span rfl (.inl rfl) (ed_callD D_rounded_up (hr.mono (by decide)) pass0' (by rfl) (ea_cons (ed_mul (ed_globE (by rfl) T.NUMBERS) (ed_var 1)) (ea_cons (ed_sub (ed_var 2) (ed_var 1)) ea_nil)) (len_cons (len_cons (fun _ _ _ _ h => len_nil h)))))
      (ssd_cons (sd_set 4 nd_doubt_span rfl (.inl rfl) (ed_mul (ed_var 1) (ed_add (ed_var 3) (ed_globE (by rfl) T.NUMBERS))))
      (ssd_cons (sd_ret (ed_ifExp (et_le (ed_var 4) (ed_globE (by rfl) T.LAST_STAMP)) (ed_var 4) ed_non))
      ssd_nil))))))

end
end K13

set_option Elab.async false
set_option linter.all false
set_option maxRecDepth 100000
set_option maxHeartbeats 4000000
namespace K13
open PySem PySem.Spec PyProof.Rows L2 Mi
section
variable {Pg : Program} {w : World} {K : PySem.W.Frag} {mg : Str → Option Value} {base : Heap} {P : Pm} {fI : Addr}
abbrev N__law_box : List Str := ["_law_script", "_law_k", "_law_cell", "_law_great"]
def S__law_box : Sn := (sSeq (sSet 2 (f2 cAdd (f2 cMul (pur (.int 13183)) (fVar 1)) (pur (.int 6421)))) (sSeq (sIf (fB (f2 (iB fun i j => decide (i < j)) (fVar 1) (fA cLen (fCons (fVar 0) (pur []))))) (sSeq (sSet 2 (fA cAbs (fCons (fA cInt (fCons (f2 cIx (fVar 0) (fVar 1)) (pur []))) (pur [])))) sNext) (sSeq (sIf (fB (f2 (iB fun i j => decide (j < i)) (fA cLen (fCons (fVar 0) (pur []))) (pur (.int 0)))) (sSeq (sSet 2 (f2 cAdd (fVar 2) (f2 cMul (f2 cMod (fA cInt (fCons (fA cAbs (fCons (fA cInt (fCons (f2 cIx (fVar 0) (f2 cMod (fA cInt (fCons (fVar 1) (pur []))) (fA cLen (fCons (fVar 0) (pur []))))) (pur []))) (pur []))) (pur []))) (pur (.int 2147483563))) (pur (.int 96007))))) sNext) sNext) sNext)) (sSeq (sSet 3 (fIfT (fB (f2 (iB fun i j => decide (j ≤ i)) (fVar 2) (f2 cPow (pur (.int 10)) (pur (.int 18))))) (fVar 2) (pur (.int 0)))) (sSeq (sRet (fA cLst (fCons (fVar 3) (fCons (f2 cAdd (f2 cMod (fA cInt (fCons (f2 cAdd (f2 cMul (f2 cMod (fA cInt (fCons (fVar 2) (pur []))) (pur (.int 2147483563))) (pur (.int 55900007))) (f2 cMul (pur (.int 6421)) (fVar 1))) (pur []))) (pur (.int 2147483563))) (pur (.int 1))) (pur []))))) sNext))))
def m__law_box : List D → Int × Int → Res D := fun ds bx => noErr (fnD N__law_box S__law_box ds bx)
theorem nd__law_box : N__law_box.Nodup := by decide +kernel
theorem sc__law_box : FnScope N__law_box ["_law_script", "_law_k"] (defScope (topS 29)) := ⟨rfl, rfl, rfl, by decide +kernel, rfl, by decide +kernel, by decide +kernel⟩
theorem ok__law_box {f : Addr} {fd : FuncData} (T : Txt K mg P fI)  (hm : mg "_law_box" = some (.ref f)) (F : Fun K "_law_box" "_law_box" (topS 29) f fd) (B : L2.Binds K fd ["_law_script", "_law_k"] []) : Df Pg w K mg base P CX0 1 "_law_box" (topS 29) ["_law_script", "_law_k"] m__law_box :=
  df_ok (N := N__law_box) (S := S__law_box) (k := 0) hm F B sc__law_box fun cdv A outer s H hr => (ssd_cons (sd_set 2 nd__law_box rfl (.inl rfl) (ed_add (ed_mul ed_int (ed_var 1)) ed_int))
      (ssd_cons (sd_if (et_lt (ed_var 1) (ed_blt call_len_seq cd_len (by rfl) T.len b_len (ea_cons (ed_var 0) ea_nil))) (ssd_cons (sd_set 2 nd__law_box rfl (.inl rfl) (ed_blt call_abs cd_abs (by rfl) T.abs b_abs (ea_cons (ed_ty call_int1 cd_int (by rfl) T.int b_int (ea_cons (ed_ix (ed_var 0) (ed_var 1) (fun _ _ => rfl)) ea_nil)) ea_nil)))
      ssd_nil) (ssd_cons (sd_if (et_gt (ed_blt call_len_seq cd_len (by rfl) T.len b_len (ea_cons (ed_var 0) ea_nil)) ed_int) (ssd_cons (sd_set 2 nd__law_box rfl (.inl rfl) (ed_add (ed_var 2) (ed_mul (ed_mod (ed_ty call_int1 cd_int (by rfl) T.int b_int (ea_cons (ed_blt call_abs cd_abs (by rfl) T.abs b_abs (ea_cons (ed_ty call_int1 cd_int (by rfl) T.int b_int (ea_cons (ed_ix (ed_var 0) (ed_mod (ed_ty call_int1 cd_int (by rfl) T.int b_int (ea_cons (ed_var 1) ea_nil)) (ed_blt call_len_seq cd_len (by rfl) T.len b_len (ea_cons (ed_var 0) ea_nil))) (fun _ _ => rfl)) ea_nil)) ea_nil)) ea_nil)) ed_int) ed_int)))
      ssd_nil) ssd_nil)
      ssd_nil))
      (ssd_cons (sd_set 3 nd__law_box rfl (.inl rfl) (ed_ifExp (et_ge (ed_var 2) (ed_pow ed_int ed_int)) (ed_var 2) ed_int))
      (ssd_cons (sd_ret (ed_lst (ea_cons (ed_var 3) (ea_cons (ed_add (ed_mod (ed_ty call_int1 cd_int (by rfl) T.int b_int (ea_cons (ed_add (ed_mul (ed_mod (ed_ty call_int1 cd_int (by rfl) T.int b_int (ea_cons (ed_var 2) ea_nil)) ed_int) ed_int) (ed_mul ed_int (ed_var 1))) ea_nil)) ed_int) ed_int) ea_nil))))
      ssd_nil))))

abbrev N__law_take : List Str := ["_law_box_here", "_law_many", "_law_digit", "_law_raw"]
def S__law_take : Sn := (sSeq (sIf (fB (f2 (iB fun i j => decide (j < i)) (f2 cIx (fVar 0) (pur (.int 0))) (pur (.int 0)))) (sSeq (sSet 2 (f2 cMod (fA cInt (fCons (f2 cIx (fVar 0) (pur (.int 0))) (pur []))) (fVar 1))) (sSeq (sStore 0 0 (f2 cDiv (f2 cIx (fVar 0) (pur (.int 0))) (fVar 1))) (sSeq (sRet (fVar 2)) sNext))) sNext) (sSeq (sSet 3 (f2 cMod (fA cInt (fCons (f2 cAdd (f2 cMul (f2 cIx (fVar 0) (pur (.int 1))) (pur (.int 39373))) (pur (.int 101))) (pur []))) (pur (.int 2147483647)))) (sSeq (sStore 0 1 (f2 cAdd (f2 cMod (fA cInt (fCons (f2 cAdd (f2 cMul (fVar 3) (pur (.int 40692))) (pur (.int 17))) (pur []))) (pur (.int 2147483563))) (pur (.int 1)))) (sSeq (sRet (f2 cMod (fA cInt (fCons (f2 cDiv (f2 cAdd (f2 cMul (fVar 3) (pur (.int 2147483629))) (f2 cIx (fVar 0) (pur (.int 1)))) (pur (.int 8233))) (pur []))) (fVar 1))) sNext))))
def m__law_take : List D → Int × Int → Res D := fun ds bx => noErr (fnD N__law_take S__law_take ds bx)
theorem nd__law_take : N__law_take.Nodup := by decide +kernel
theorem sc__law_take : FnScope N__law_take ["_law_box_here", "_law_many"] (defScope (topS 30)) := ⟨rfl, rfl, rfl, by decide +kernel, rfl, by decide +kernel, by decide +kernel⟩
theorem ok__law_take {f : Addr} {fd : FuncData} (T : Txt K mg P fI)  (hm : mg "_law_take" = some (.ref f)) (F : Fun K "_law_take" "_law_take" (topS 30) f fd) (B : L2.Binds K fd ["_law_box_here", "_law_many"] []) : Df Pg w K mg base P CX0 1 "_law_take" (topS 30) ["_law_box_here", "_law_many"] m__law_take :=
  df_ok (N := N__law_take) (S := S__law_take) (k := 0) hm F B sc__law_take fun cdv A outer s H hr => (ssd_cons (sd_if (et_gt (ed_ix (ed_var 0) ed_int (fun _ _ => rfl)) ed_int) (ssd_cons (sd_set 2 nd__law_take rfl (.inl rfl) (ed_mod (ed_ty call_int1 cd_int (by rfl) T.int b_int (ea_cons (ed_ix (ed_var 0) ed_int (fun _ _ => rfl)) ea_nil)) (ed_var 1)))
      (ssd_cons (sd_store 0 rfl (by first | exact Or.inl rfl | exact Or.inr (Or.inl rfl)) (ed_div (ed_ix (ed_var 0) ed_int (fun _ _ => rfl)) (ed_var 1)))
      (ssd_cons (sd_ret (ed_var 2))
      ssd_nil))) ssd_nil)
      (ssd_cons (sd_set 3 nd__law_take rfl (.inl rfl) (ed_mod (ed_ty call_int1 cd_int (by rfl) T.int b_int (ea_cons (ed_add (ed_mul (ed_ix (ed_var 0) ed_int (fun _ _ => rfl)) ed_int) ed_int) ea_nil)) ed_int))
      (ssd_cons (sd_store 0 rfl (by first | exact Or.inl rfl | exact Or.inr (Or.inl rfl)) (ed_add (ed_mod (ed_ty call_int1 cd_int (by rfl) T.int b_int (ea_cons (ed_add (ed_mul (ed_var 3) ed_int) ed_int) ea_nil)) ed_int) ed_int))
      (ssd_cons (sd_ret (ed_mod (ed_ty call_int1 cd_int (by rfl) T.int b_int (ea_cons (ed_div (ed_add (ed_mul (ed_var 3) ed_int) (ed_ix (ed_var 0) ed_int (fun _ _ => rfl))) ed_int) ea_nil)) (ed_var 1)))
      ssd_nil))))

abbrev N__law_pick : List Str := ["_law_box_here", "_law_some"]
def S__law_pick : Sn := (sSeq (sRet (f2 cIx (fVar 1) (fCall m__law_take (fCons (fVar 0) (fCons (fA cLen (fCons (fVar 1) (pur []))) (pur [])))))) sNext)
def m__law_pick : List D → Int × Int → Res D := fun ds bx => noErr (fnD N__law_pick S__law_pick ds bx)
theorem nd__law_pick : N__law_pick.Nodup := by decide +kernel
theorem sc__law_pick : FnScope N__law_pick ["_law_box_here", "_law_some"] (defScope (topS 31)) := ⟨rfl, rfl, rfl, by decide +kernel, rfl, by decide +kernel, by decide +kernel⟩
theorem ok__law_pick {f : Addr} {fd : FuncData} (T : Txt K mg P fI) (D__law_take : Df Pg w K mg base P CX0 1 "_law_take" (topS 30) ["_law_box_here", "_law_many"] m__law_take) (hm : mg "_law_pick" = some (.ref f)) (F : Fun K "_law_pick" "_law_pick" (topS 31) f fd) (B : L2.Binds K fd ["_law_box_here", "_law_some"] []) : Df Pg w K mg base P CX0 2 "_law_pick" (topS 31) ["_law_box_here", "_law_some"] m__law_pick :=
  df_ok (N := N__law_pick) (S := S__law_pick) (k := 1) hm F B sc__law_pick fun cdv A outer s H hr => (ssd_cons (sd_ret (ed_ix (ed_var 1) (ed_callD D__law_take (hr.mono (by decide)) pass0' (by rfl) (ea_cons (ed_var 0) (ea_cons (ed_blt call_len_seq cd_len (by rfl) T.len b_len (ea_cons (ed_var 1) ea_nil)) ea_nil)) (len_cons (len_cons (fun _ _ _ _ h => len_nil h)))) (fun _ _ => rfl)))
      ssd_nil)

abbrev N__law_source : List Str := ["_law_box_here", "_law_gap", "_law_pause", "_law_low", "_law_least"]
def S__law_source : Sn := (sSeq (sSet 1 (f2 cAdd (pur (.int 1)) (fCall m__law_take (fCons (fVar 0) (fCons (pur (.int 4)) (pur [])))))) (sSeq (sSet 2 (f2 cAdd (fVar 1) (fCall m__law_pick (fCons (fVar 0) (fCons (fA cLst (fCons (pur (.int 0)) (fCons (pur (.int 1)) (fCons (pur (.int 2)) (fCons (pur (.int 3)) (fCons (pur (.int 9)) (pur []))))))) (pur [])))))) (sSeq (sPar 3 4 (fCons (f2 cAdd (pur (.int 1)) (fCall m__law_take (fCons (fVar 0) (fCons (pur (.int 3)) (pur []))))) (fCons (fCall m__law_take (fCons (fVar 0) (fCons (pur (.int 3)) (pur [])))) (pur [])))) (sSeq (sRet (fA cTup (fCons (fVar 3) (fCons (f2 cAdd (fVar 3) (fCall m__law_take (fCons (fVar 0) (fCons (pur (.int 3)) (pur []))))) (fCons (fVar 4) (fCons (f2 cAdd (fVar 4) (fCall m__law_take (fCons (fVar 0) (fCons (f2 cMul (fVar 3) (fVar 1)) (pur []))))) (fCons (fVar 1) (fCons (fVar 2) (pur []))))))))) sNext))))
def m__law_source : List D → Int × Int → Res D := fun ds bx => noErr (fnD N__law_source S__law_source ds bx)
theorem nd__law_source : N__law_source.Nodup := by decide +kernel
theorem sc__law_source : FnScope N__law_source ["_law_box_here"] (defScope (topS 32)) := ⟨rfl, rfl, rfl, by decide +kernel, rfl, by decide +kernel, by decide +kernel⟩
theorem ok__law_source {f : Addr} {fd : FuncData} (T : Txt K mg P fI) (D__law_take : Df Pg w K mg base P CX0 1 "_law_take" (topS 30) ["_law_box_here", "_law_many"] m__law_take) (D__law_pick : Df Pg w K mg base P CX0 2 "_law_pick" (topS 31) ["_law_box_here", "_law_some"] m__law_pick) (hm : mg "_law_source" = some (.ref f)) (F : Fun K "_law_source" "_law_source" (topS 32) f fd) (B : L2.Binds K fd ["_law_box_here"] []) : Df Pg w K mg base P CX0 3 "_law_source" (topS 32) ["_law_box_here"] m__law_source :=
  df_ok (N := N__law_source) (S := S__law_source) (k := 2) hm F B sc__law_source fun cdv A outer s H hr => (ssd_cons (sd_set 1 nd__law_source rfl (.inl rfl) (ed_add ed_int (ed_callD D__law_take (hr.mono (by decide)) pass0' (by rfl) (ea_cons (ed_var 0) (ea_cons ed_int ea_nil)) (len_cons (len_cons (fun _ _ _ _ h => len_nil h))))))
      (ssd_cons (sd_set 2 nd__law_source rfl (.inl rfl) (ed_add (ed_var 1) (ed_callD D__law_pick (hr.mono (by decide)) pass0' (by rfl) (ea_cons (ed_var 0) (ea_cons (ed_lst (ea_cons ed_int (ea_cons ed_int (ea_cons ed_int (ea_cons ed_int (ea_cons ed_int ea_nil)))))) ea_nil)) (len_cons (len_cons (fun _ _ _ _ h => len_nil h))))))
      (ssd_cons (sd_par 3 4 rfl nd__law_source rfl rfl (by decide) rfl rfl (ea_cons (ed_add ed_int (ed_callD D__law_take (hr.mono (by decide)) pass0' (by rfl) (ea_cons (ed_var 0) (ea_cons ed_int ea_nil)) (len_cons (len_cons (fun _ _ _ _ h => len_nil h))))) (ea_cons (ed_callD D__law_take (hr.mono (by decide)) pass0' (by rfl) (ea_cons (ed_var 0) (ea_cons ed_int ea_nil)) (len_cons (len_cons (fun _ _ _ _ h => len_nil h)))) ea_nil)) (by rfl))
      (ssd_cons (sd_ret (ed_tup (ea_cons (ed_var 3) (ea_cons (ed_add (ed_var 3) (ed_callD D__law_take (hr.mono (by decide)) pass0' (by rfl) (ea_cons (ed_var 0) (ea_cons ed_int ea_nil)) (len_cons (len_cons (fun _ _ _ _ h => len_nil h))))) (ea_cons (ed_var 4) (ea_cons (ed_add (ed_var 4) (ed_callD D__law_take (hr.mono (by decide)) pass0' (by rfl) (ea_cons (ed_var 0) (ea_cons (ed_mul (ed_var 3) (ed_var 1)) ea_nil)) (len_cons (len_cons (fun _ _ _ _ h => len_nil h))))) (ea_cons (ed_var 1) (ea_cons (ed_var 2) ea_nil))))))))
      ssd_nil))))

abbrev N__law_counts : List Str := ["_law_source_here", "_law_one", "_law_other", "_law_span", "_law_many"]
def S__law_counts : Sn := (sSeq (sSet 3 (f2 cSub (f2 cIx (fVar 2) (pur (.int 1))) (f2 cIx (fVar 1) (pur (.int 1))))) (sSeq (sRet (fA cTupOf (fCons (fLc 4 (fRg2 (fCons (pur (.int 1)) (fCons (f2 cAdd (f2 cDiv (fVar 3) (f2 cIx (fVar 0) (pur (.int 4)))) (pur (.int 1))) (pur [])))) (fIfT (fB (f2 (iB fun i j => decide (i ≤ j)) (fVar 3) (f2 cMul (f2 cIx (fVar 0) (pur (.int 5))) (fVar 4)))) (fB (f2 cEqD (f2 cMod (f2 cSub (f2 cAdd (f2 cIx (fVar 1) (pur (.int 0))) (fVar 4)) (f2 cIx (fVar 2) (pur (.int 0)))) (pur (.int 256))) (pur (.int 0)))) (pur false)) (fVar 4)) (pur [])))) sNext))
def m__law_counts : List D → Int × Int → Res D := fun ds bx => noErr (fnD N__law_counts S__law_counts ds bx)
theorem nd__law_counts : N__law_counts.Nodup := by decide +kernel
theorem sc__law_counts : FnScope N__law_counts ["_law_source_here", "_law_one", "_law_other"] (defScope (topS 33)) := ⟨rfl, rfl, rfl, by decide +kernel, rfl, by decide +kernel, by decide +kernel⟩
theorem ok__law_counts {f : Addr} {fd : FuncData} (T : Txt K mg P fI)  (hm : mg "_law_counts" = some (.ref f)) (F : Fun K "_law_counts" "_law_counts" (topS 33) f fd) (B : L2.Binds K fd ["_law_source_here", "_law_one", "_law_other"] []) : Df Pg w K mg base P CX0 1 "_law_counts" (topS 33) ["_law_source_here", "_law_one", "_law_other"] m__law_counts :=
  df_ok (N := N__law_counts) (S := S__law_counts) (k := 0) hm F B sc__law_counts fun cdv A outer s H hr => (ssd_cons (sd_set 3 nd__law_counts rfl (.inr rfl) (ed_sub (ed_ix (ed_var 2) ed_int (fun _ _ => rfl)) (ed_ix (ed_var 1) ed_int (fun _ _ => rfl))))
      (ssd_cons (sd_ret (ed_ty call_tuple_of cd_tupOf (by rfl) T.tuple b_tuple (ea_cons (ed_lc rfl nd__law_counts (ei_rg2 (by rfl) T.range (ea_cons ed_int (ea_cons (ed_add (ed_div (ed_var 3) (ed_ix (ed_var 0) ed_int (fun _ _ => rfl))) ed_int) ea_nil))) (blkOk_by (N := N__law_counts) (sc := defScope (topS 33)) (by decide +kernel)) (fun _ _ _ _ _ => pg_name (i := 4) nd__law_counts rfl (by first | exact .inl rfl | exact .inr rfl)) (fun _ _ _ _ _ => (et_one (et_w (ew_and (et_le (ed_var 3) (ed_mul (ed_ix (ed_var 0) ed_int (fun _ _ => rfl)) (ed_var 4))) (ew_and1 (et_eq hr.units (ed_mod (ed_sub (ed_add (ed_ix (ed_var 1) ed_int (fun _ _ => rfl)) (ed_var 4)) (ed_ix (ed_var 2) ed_int (fun _ _ => rfl))) ed_int) ed_int)))))) (fun _ _ _ _ _ => (ed_var 4))) ea_nil)))
      ssd_nil))

abbrev N__law_doubt_right : List Str := ["_law_box_here", "_law_source_here", "_law_told", "_law_gap", "_law_pause", "_law_two", "_law_many", "_law_span"]
def S__law_doubt_right : Sn := (sSeq (sUnp [2, 3, 4] (fA cTup (fCons (fCall m_doubt_span (fCons (fVar 1) (pur []))) (fCons (f2 cIx (fVar 1) (pur (.int 4))) (fCons (f2 cIx (fVar 1) (pur (.int 5))) (pur [])))))) (sSeq (sIf (fB (f2 cEqD (fVar 3) (fVar 4))) (sSeq (sRet (fIfB (f1 cIsN (fVar 2)) (f1 cIsN (fCallK m_doubt_span [0] (fCons (fA cListOf (fCons (fVar 1) (pur []))) (pur [])))) (pur (.bl false)))) sNext) sNext) (sSeq (sIf (fIfT (fNot (fB (f1 (cIsi "int") (fVar 2)))) (pur true) (fB (f2 (iB fun i j => decide (j < i)) (fVar 2) (f2 cPow (pur (.int 10)) (pur (.int 6)))))) (sSeq (sRet (pur (.bl false))) sNext) sNext) (sSeq (sSet 5 (fLc 6 (fRg2 (fCons (pur (.int 1)) (fCons (f2 cAdd (f2 cDiv (fVar 2) (fVar 3)) (pur (.int 1))) (pur [])))) (fB (fChain (fun i j => decide (i ≤ j)) (fun i j => decide (i ≤ j)) (f2 cMul (fVar 3) (f2 cAdd (fVar 6) (pur (.int 256)))) (fVar 2) (f2 cMul (fVar 4) (fVar 6)))) (fVar 6))) (sSeq (sIf (fIfT (fB (f2 cEqD (fVar 5) (fA cLst (pur [])))) (pur true) (fB (f2 (iB fun i j => decide (i < j)) (fA cLen (fCons (fCall m_counts (fCons (fVar 1) (fCons (fA cTup (fCons (pur (.int 0)) (fCons (pur (.int 0)) (pur [])))) (fCons (fA cTup (fCons (f2 cMod (f2 cIx (fVar 5) (pur (.int 0))) (pur (.int 256))) (fCons (fVar 2) (pur [])))) (pur []))))) (pur []))) (pur (.int 2))))) (sSeq (sRet (pur (.bl false))) sNext) sNext) (sSeq (sForL 7 (fA cLst (fCons (f2 cSub (fVar 2) (pur (.int 1))) (fCons (fA cMax (fCons (pur (.int 1)) (fCons (f2 cSub (f2 cSub (fVar 2) (pur (.int 1))) (fCall m__law_take (fCons (fVar 0) (fCons (fVar 2) (pur []))))) (pur [])))) (pur [])))) (sSeq (sIf (fB (f2 (iB fun i j => decide (j ≤ i)) (f2 cSub (f2 cDiv (fVar 7) (fVar 3)) (f2 cDiv (f2 cSub (f2 cAdd (fVar 7) (fVar 4)) (pur (.int 1))) (fVar 4))) (pur (.int 256)))) (sSeq (sRet (pur (.bl false))) sNext) sNext) sNext)) (sSeq (sRet (pur (.bl true))) sNext)))))))
def m__law_doubt_right : List D → Int × Int → Res D := fun ds bx => noErr (fnD N__law_doubt_right S__law_doubt_right ds bx)
theorem nd__law_doubt_right : N__law_doubt_right.Nodup := by decide +kernel
theorem sc__law_doubt_right : FnScope N__law_doubt_right ["_law_box_here", "_law_source_here"] (defScope (topS 35)) := ⟨rfl, rfl, rfl, by decide +kernel, rfl, by decide +kernel, by decide +kernel⟩
theorem ok__law_doubt_right {f : Addr} {fd : FuncData} (T : Txt K mg P fI) (D_doubt_span : Df Pg w K mg base P (L2.CX Pg w) 6 "doubt_span" (topS 27) ["source"] m_doubt_span) (D_counts : Df Pg w K mg base P (L2.CX Pg w) 6 "counts" (topS 25) ["source", "one", "other"] m_counts) (D__law_take : Df Pg w K mg base P CX0 1 "_law_take" (topS 30) ["_law_box_here", "_law_many"] m__law_take) (hm : mg "_law_doubt_right" = some (.ref f)) (F : Fun K "_law_doubt_right" "_law_doubt_right" (topS 35) f fd) (B : L2.Binds K fd ["_law_box_here", "_law_source_here"] []) : Df Pg w K mg base P CX0 7 "_law_doubt_right" (topS 35) ["_law_box_here", "_law_source_here"] m__law_doubt_right :=
  df_ok (N := N__law_doubt_right) (S := S__law_doubt_right) (k := 6) hm F B sc__law_doubt_right fun cdv A outer s H hr => (ssd_cons (sd_unp [2, 3, 4] rfl (pgs_cons (pg_name (i := 2) nd__law_doubt_right rfl (.inr rfl)) (pgs_cons (pg_name (i := 3) nd__law_doubt_right rfl (.inr rfl)) (pgs_cons (pg_name (i := 4) nd__law_doubt_right rfl (.inr rfl)) pgs_nil))) rfl (ed_tup (ea_cons (ed_callD D_doubt_span (hr.mono (by decide)) passL (by rfl) (ea_cons (ed_var 1) ea_nil) (len_cons (fun _ _ _ _ h => len_nil h))) (ea_cons (ed_ix (ed_var 1) ed_int (fun _ _ => rfl)) (ea_cons (ed_ix (ed_var 1) ed_int (fun _ _ => rfl)) ea_nil)))))
      (ssd_cons (sd_if (et_eq hr.units (ed_var 3) (ed_var 4)) (ssd_cons (sd_ret (ed_and (ed_isN (ed_var 2)) (ed_one (ed_isN (ed_callDK (ks := ["source"]) [0] D_doubt_span (hr.mono (by decide)) passL (by rfl) (fun _ _ _ _ _ _ ws hl => match ws, hl with | [_], _ => rfl) (ek_cons (ed_ty call_list_of cd_listOf (by rfl) T.list b_list (ea_cons (ed_var 1) ea_nil)) ek_nil) (len_cons (fun _ _ _ _ h => len_nil h)))))))
      ssd_nil) ssd_nil)
      (ssd_cons (sd_if (et_w (ew_or (et_not (et_val (ed_isi (by rfl) T.isinstance b_isinstance (ed_var 2) (by rfl) T.int b_int))) (ew_or1 (et_gt (ed_var 2) (ed_pow ed_int ed_int))))) (ssd_cons (sd_ret ed_bl)
      ssd_nil) ssd_nil)
      (ssd_cons (sd_setLc (i := 5) rfl nd__law_doubt_right rfl rfl (sw_true rfl rfl rfl (by decide +kernel)) (ei_rg2 (by rfl) T.range (ea_cons ed_int (ea_cons (ed_add (ed_div (ed_var 2) (ed_var 3)) ed_int) ea_nil))) (blkOk_by (N := N__law_doubt_right) (sc := defScope (topS 35)) (by decide +kernel)) (fun _ _ _ _ _ => pg_name (i := 6) nd__law_doubt_right rfl (by first | exact .inl rfl | exact .inr rfl)) (fun _ _ _ _ _ => (et_one (et_chain op_le op_le (ed_mul (ed_var 3) (ed_add (ed_var 6) ed_int)) (ed_var 2) (ed_mul (ed_var 4) (ed_var 6))))) (fun _ _ _ _ _ => (ed_var 6)))
      (ssd_cons (sd_if (et_w (ew_or (et_eq hr.units (ed_var 5) (ed_lst ea_nil)) (ew_or1 (et_lt (ed_blt call_len_seq cd_len (by rfl) T.len b_len (ea_cons (ed_callD D_counts (hr.mono (by decide)) passL (by rfl) (ea_cons (ed_var 1) (ea_cons (ed_tup (ea_cons ed_int (ea_cons ed_int ea_nil))) (ea_cons (ed_tup (ea_cons (ed_mod (ed_ix (ed_var 5) ed_int (fun _ _ => rfl)) ed_int) (ea_cons (ed_var 2) ea_nil))) ea_nil))) (len_cons (len_cons (len_cons (fun _ _ _ _ h => len_nil h))))) ea_nil)) ed_int)))) (ssd_cons (sd_ret ed_bl)
      ssd_nil) ssd_nil)
      (ssd_cons (sd_forL PassesOwn.never rfl (ed_lst (ea_cons (ed_sub (ed_var 2) ed_int) (ea_cons (ed_blt (call_max2 rfl) cd_max (by rfl) T.max b_max (ea_cons ed_int (ea_cons (ed_sub (ed_sub (ed_var 2) ed_int) (ed_callD D__law_take (hr.mono (by decide)) pass0' (by rfl) (ea_cons (ed_var 0) (ea_cons (ed_var 2) ea_nil)) (len_cons (len_cons (fun _ _ _ _ h => len_nil h))))) ea_nil))) ea_nil))) (pg_name (i := 7) nd__law_doubt_right rfl (.inl rfl)) (ssd_cons (sd_if (et_ge (ed_sub (ed_div (ed_var 7) (ed_var 3)) (ed_div (ed_sub (ed_add (ed_var 7) (ed_var 4)) ed_int) (ed_var 4))) ed_int) (ssd_cons (sd_ret ed_bl)
      ssd_nil) ssd_nil)
      ssd_nil))
      (ssd_cons (sd_ret ed_bl)
      ssd_nil)))))))

end
end K13

set_option Elab.async false
set_option linter.all false
set_option maxRecDepth 100000
set_option maxHeartbeats 4000000
namespace K13
open PySem PySem.Spec PyProof.Rows L2 Mi
section
variable {Pg : Program} {w : World} {K : PySem.W.Frag} {mg : Str → Option Value} {base : Heap} {P : Pm} {fI : Addr}
abbrev N__law_none_right : List Str := ["_law_box_here", "_law_source_here", "_law_bad", "_law_odd", "_law_early"]
def S__law_none_right : Sn := (sSeq (sSet 2 (fCall m__law_pick (fCons (fVar 0) (fCons (fA cLst (fCons (pur .non) (fCons (fA cTup (pur [])) (fCons (f1 (cCut none (some 5)) (fVar 1)) (fCons (f2 cCat (fA cTup (fCons (pur (.int 0)) (pur []))) (f1 (cCut (some 1) none) (fVar 1))) (fCons (f2 cCat (f1 (cCut none (some 4)) (fVar 1)) (fA cTup (fCons (pur (.int 5)) (fCons (pur (.int 4)) (pur []))))) (fCons (fA cLst (fCons (pur (.int 1)) (fCons (pur (.int 1)) (fCons (pur (.int 0)) (fCons (pur (.int 9)) (fCons (pur (.int 2)) (fCons (pur (.int 5)) (pur [])))))))) (fCons (f2 cCat (fA cTup (fCons (pur (.bl true)) (pur []))) (f1 (cCut (some 1) none) (fVar 1))) (fCons (f2 cCat (f1 (cCut none (some 5)) (fVar 1)) (fA cTup (fCons (pur (.int 1001)) (pur [])))) (pur [])))))))))) (pur []))))) (sSeq (sSet 3 (fCall m__law_pick (fCons (fVar 0) (fCons (fA cLst (fCons (pur .non) (fCons (pur (.int 5)) (fCons (fA cTup (fCons (pur (.int 256)) (fCons (pur (.int 0)) (pur [])))) (fCons (fA cTup (fCons (pur (.int 0)) (fCons (f2 cAdd (f2 cPow (pur (.int 10)) (pur (.int 6))) (pur (.int 1))) (pur [])))) (fCons (fA cTup (fCons (pur (.int 0)) (pur []))) (fCons (fA cTup (fCons (pur (.bl true)) (fCons (pur (.int 0)) (pur [])))) (fCons (fA cTup (fCons (f2 cSub (pur (.int 0)) (pur (.int 1))) (fCons (pur (.int 0)) (pur [])))) (fCons (fA cTup (fCons (pur (.int 0)) (fCons (pur (.int 0)) (fCons (pur (.int 0)) (pur []))))) (pur [])))))))))) (pur []))))) (sSeq (sIf (fB (f2 cNeD (fHeard (fCall m_counts (fCons (fVar 2) (fCons (fVar 3) (fCons (fVar 3) (pur [])))))) (fA cTup (fCons (pur (.str "refused")) (fCons (fA cRepr (fCons (fVar 2) (pur []))) (fCons (pur (.bl true)) (pur []))))))) (sSeq (sRet (pur (.bl false))) sNext) sNext) (sSeq (sIf (fB (f2 cNeD (fHeard (fCall m_doubt_span (fCons (fVar 2) (pur [])))) (fA cTup (fCons (pur (.str "refused")) (fCons (fA cRepr (fCons (fVar 2) (pur []))) (fCons (pur (.bl true)) (pur []))))))) (sSeq (sRet (pur (.bl false))) sNext) sNext) (sSeq (sIf (fB (f2 cNeD (fHeard (fCall m_counts (fCons (fVar 1) (fCons (fVar 3) (fCons (pur .non) (pur [])))))) (fA cTup (fCons (pur (.str "refused")) (fCons (fA cRepr (fCons (fVar 3) (pur []))) (fCons (pur (.bl true)) (pur []))))))) (sSeq (sRet (pur (.bl false))) sNext) sNext) (sSeq (sIf (fB (f2 cNeD (fHeard (fCall m_counts (fCons (fVar 1) (fCons (fA cTup (fCons (pur (.int 0)) (fCons (pur (.int 0)) (pur [])))) (fCons (fVar 3) (pur [])))))) (fA cTup (fCons (pur (.str "refused")) (fCons (fA cRepr (fCons (fVar 3) (pur []))) (fCons (pur (.bl true)) (pur []))))))) (sSeq (sRet (pur (.bl false))) sNext) sNext) (sSeq (sSet 4 (fA cTup (fCons (fCall m__law_take (fCons (fVar 0) (fCons (pur (.int 256)) (pur [])))) (fCons (f2 cAdd (pur (.int 40)) (fCall m__law_take (fCons (fVar 0) (fCons (pur (.int 2)) (pur []))))) (pur []))))) (sSeq (sIf (fB (f2 cNeD (fHeard (fCall m_counts (fCons (fVar 1) (fCons (fA cTup (fCons (pur (.int 0)) (fCons (pur (.int 41)) (pur [])))) (fCons (fVar 4) (pur [])))))) (fA cTup (fCons (pur (.str "refused")) (fCons (fA cRepr (fCons (fVar 4) (pur []))) (fCons (pur (.bl true)) (pur []))))))) (sSeq (sRet (pur (.bl false))) sNext) sNext) (sSeq (sIf (fB (f2 cNeD (fHeard (fCall m_ahead_counts (fCons (fVar 2) (fCons (fVar 3) (pur []))))) (fA cTup (fCons (pur (.str "refused")) (fCons (fA cRepr (fCons (fVar 2) (pur []))) (fCons (pur (.bl true)) (pur []))))))) (sSeq (sRet (pur (.bl false))) sNext) sNext) (sSeq (sRet (f2 cEqD (fHeard (fCall m_ahead_counts (fCons (fVar 1) (fCons (fVar 3) (pur []))))) (fA cTup (fCons (pur (.str "refused")) (fCons (fA cRepr (fCons (fVar 3) (pur []))) (fCons (pur (.bl true)) (pur []))))))) sNext))))))))))
def m__law_none_right : List D → Int × Int → Res D := fun ds bx => noErr (fnD N__law_none_right S__law_none_right ds bx)
theorem nd__law_none_right : N__law_none_right.Nodup := by decide +kernel
theorem sc__law_none_right : FnScope N__law_none_right ["_law_box_here", "_law_source_here"] (defScope (topS 36)) := ⟨rfl, rfl, rfl, by decide +kernel, rfl, by decide +kernel, by decide +kernel⟩
abbrev lamQ : Str := (envOfC "_law_none_right" (defScope (topS 36)) 0 0 .none).qual ++ "<lambda>"
theorem sc_heard : FnScope ["_law_ask", "fault"] ["_law_ask"] (defScope (topS 34)) := ⟨rfl, rfl, rfl, by decide +kernel, rfl, by decide +kernel, by decide +kernel⟩
theorem ok__law_none_right (T : Txt K mg P fI) (D__law_pick : Df Pg w K mg base P CX0 2 "_law_pick" (topS 31) ["_law_box_here", "_law_some"] m__law_pick) (D__law_take : Df Pg w K mg base P CX0 1 "_law_take" (topS 30) ["_law_box_here", "_law_many"] m__law_take) (D_counts : Df Pg w K mg base P (L2.CX Pg w) 6 "counts" (topS 25) ["source", "one", "other"] m_counts) (D_doubt_span : Df Pg w K mg base P (L2.CX Pg w) 6 "doubt_span" (topS 27) ["source"] m_doubt_span) (D_ahead_counts : Df Pg w K mg base P (L2.CX Pg w) 6 "ahead_counts" (topS 26) ["source", "one"] m_ahead_counts) {aH B c36 P36 : Addr} {ocH kVH docH pmH cdH ctH : Value} {odH anH : Option Addr} {oslH : Array (Option Value)}
    (gH : mg "_law_heard" = some (.ref aH)) (kH : PySem.W.keepIn K (.ref aH) = true) (lH : K.lookup aH = some ⟨ocH, odH, .func (PySem.W.fnOf "_law_heard" "_law_heard" (defArgs (topS 34)) (defBody (topS 34)) (defScope (topS 34)) .none kVH docH pmH anH cdH ctH), oslH⟩) (cH : PySem.W.codeIn K cdH "_law_heard" = true)
    (bH : L2.Binds K (PySem.W.fnOf "_law_heard" "_law_heard" (defArgs (topS 34)) (defBody (topS 34)) (defScope (topS 34)) .none kVH docH pmH anH cdH ctH) ["_law_ask"] []) (ne : P.CR ≠ B) (kit : PySem.W.kitOne K (.ref P.CR) (.ref B) = some true) (gB : mg "WreckError" = some (.ref B))
    (TB : LamX.TabB base mg c36 P36) (mT : (P36, lamQ) ∈ P.T) (uT : ∀ q ∈ P.T, q.1 = P36 → q.2 = lamQ)
    {oc36 kV36 doc36 pm36 ct36 : Value} {od36 an36 : Option Addr} {osl36 : Array (Option Value)} {f : Addr} (l36 : K.lookup f = some ⟨oc36, od36, .func (PySem.W.fnOf "_law_none_right" "_law_none_right" (defArgs (topS 36)) (defBody (topS 36)) (defScope (topS 36)) .none kV36 doc36 pm36 an36 (.ref c36) ct36), osl36⟩) (cd36 : PySem.W.codeIn K (.ref c36) "_law_none_right" = true) (k36 : PySem.W.keepIn K (.ref f) = true) (hm : mg "_law_none_right" = some (.ref f)) : DfG Pg w K mg base P CX0 9 "_law_none_right" (topS 36) ["_law_box_here", "_law_source_here"] m__law_none_right :=
  ⟨f, _, hm, fun_mk (st := topS 36) l36 cd36 k36, (fun_mk (st := topS 36) l36 cd36 k36).binds fun _ _ _ _ _ _ us hl => match us, hl with | [_, _], _ => rfl, fnG_ok (k := 8) (N := N__law_none_right) (S := S__law_none_right) l36 cd36 sc__law_none_right fun A outer s H hga hr => (ssd_cons (sd_set 2 nd__law_none_right rfl (.inr rfl) (ed_callD D__law_pick (hr.mono (by decide)) pass0' (by rfl) (ea_cons (ed_var 0) (ea_cons (ed_lst (ea_cons ed_non (ea_cons (ed_tup ea_nil) (ea_cons (ed_cutTo (ed_var 1)) (ea_cons (ed_cat (ed_tup (ea_cons ed_int ea_nil)) (ed_cutFrom (ed_var 1))) (ea_cons (ed_cat (ed_cutTo (ed_var 1)) (ed_tup (ea_cons ed_int (ea_cons ed_int ea_nil)))) (ea_cons (ed_lst (ea_cons ed_int (ea_cons ed_int (ea_cons ed_int (ea_cons ed_int (ea_cons ed_int (ea_cons ed_int ea_nil))))))) (ea_cons (ed_cat (ed_tup (ea_cons ed_bl ea_nil)) (ed_cutFrom (ed_var 1))) (ea_cons (ed_cat (ed_cutTo (ed_var 1)) (ed_tup (ea_cons ed_int ea_nil))) ea_nil))))))))) ea_nil)) (len_cons (len_cons (fun _ _ _ _ h => len_nil h)))))
      (ssd_cons (sd_set 3 nd__law_none_right rfl (.inr rfl) (ed_callD D__law_pick (hr.mono (by decide)) pass0' (by rfl) (ea_cons (ed_var 0) (ea_cons (ed_lst (ea_cons ed_non (ea_cons ed_int (ea_cons (ed_tup (ea_cons ed_int (ea_cons ed_int ea_nil))) (ea_cons (ed_tup (ea_cons ed_int (ea_cons (ed_add (ed_pow ed_int ed_int) ed_int) ea_nil))) (ea_cons (ed_tup (ea_cons ed_int ea_nil)) (ea_cons (ed_tup (ea_cons ed_bl (ea_cons ed_int ea_nil))) (ea_cons (ed_tup (ea_cons (ed_sub ed_int ed_int) (ea_cons ed_int ea_nil))) (ea_cons (ed_tup (ea_cons ed_int (ea_cons ed_int (ea_cons ed_int ea_nil)))) ea_nil))))))))) ea_nil)) (len_cons (len_cons (fun _ _ _ _ h => len_nil h)))))
      (ssd_cons (sd_if (et_ne hr.units (ed_heard (k := 6) (by rfl) gH kH lH cH bH sc_heard rfl (.inl rfl) (heard_gives (k := 0) hga (hr.mono (by decide)) T.low ne kit gB T.repr T.isinstance rfl rfl rfl rfl rfl rfl) TB rfl mT uT (hr.mono (by decide)) (LamX.lamS_by (sc := defScope (topS 36)) (by decide +kernel)) rfl (fun _ _ _ _ _ => rfl) fun A outer s H E f c hr2 => (ed_callD D_counts (hr2.mono (by decide)) (passX (takes_of rfl rfl rfl rfl) fun _ _ _ _ h => h) (by rfl) (ea_cons (ed_var 2) (ea_cons (ed_var 3) (ea_cons (ed_var 3) ea_nil))) (len_cons (len_cons (len_cons (fun _ _ _ _ h => len_nil h)))))) (ed_tup (ea_cons ed_str (ea_cons (ed_blt (call_repr hga hr.units) cd_repr (by rfl) T.repr b_repr (ea_cons (ed_var 2) ea_nil)) (ea_cons ed_bl ea_nil))))) (ssd_cons (sd_ret ed_bl)
      ssd_nil) ssd_nil)
      (ssd_cons (sd_if (et_ne hr.units (ed_heard (k := 6) (by rfl) gH kH lH cH bH sc_heard rfl (.inl rfl) (heard_gives (k := 0) hga (hr.mono (by decide)) T.low ne kit gB T.repr T.isinstance rfl rfl rfl rfl rfl rfl) TB rfl mT uT (hr.mono (by decide)) (LamX.lamS_by (sc := defScope (topS 36)) (by decide +kernel)) rfl (fun _ _ _ _ _ => rfl) fun A outer s H E f c hr2 => (ed_callD D_doubt_span (hr2.mono (by decide)) (passX (takes_of rfl rfl rfl rfl) fun _ _ _ _ h => h) (by rfl) (ea_cons (ed_var 2) ea_nil) (len_cons (fun _ _ _ _ h => len_nil h)))) (ed_tup (ea_cons ed_str (ea_cons (ed_blt (call_repr hga hr.units) cd_repr (by rfl) T.repr b_repr (ea_cons (ed_var 2) ea_nil)) (ea_cons ed_bl ea_nil))))) (ssd_cons (sd_ret ed_bl)
      ssd_nil) ssd_nil)
      (ssd_cons (sd_if (et_ne hr.units (ed_heard (k := 6) (by rfl) gH kH lH cH bH sc_heard rfl (.inl rfl) (heard_gives (k := 0) hga (hr.mono (by decide)) T.low ne kit gB T.repr T.isinstance rfl rfl rfl rfl rfl rfl) TB rfl mT uT (hr.mono (by decide)) (LamX.lamS_by (sc := defScope (topS 36)) (by decide +kernel)) rfl (fun _ _ _ _ _ => rfl) fun A outer s H E f c hr2 => (ed_callD D_counts (hr2.mono (by decide)) (passX (takes_of rfl rfl rfl rfl) fun _ _ _ _ h => h) (by rfl) (ea_cons (ed_var 1) (ea_cons (ed_var 3) (ea_cons ed_non ea_nil))) (len_cons (len_cons (len_cons (fun _ _ _ _ h => len_nil h)))))) (ed_tup (ea_cons ed_str (ea_cons (ed_blt (call_repr hga hr.units) cd_repr (by rfl) T.repr b_repr (ea_cons (ed_var 3) ea_nil)) (ea_cons ed_bl ea_nil))))) (ssd_cons (sd_ret ed_bl)
      ssd_nil) ssd_nil)
      (ssd_cons (sd_if (et_ne hr.units (ed_heard (k := 6) (by rfl) gH kH lH cH bH sc_heard rfl (.inl rfl) (heard_gives (k := 0) hga (hr.mono (by decide)) T.low ne kit gB T.repr T.isinstance rfl rfl rfl rfl rfl rfl) TB rfl mT uT (hr.mono (by decide)) (LamX.lamS_by (sc := defScope (topS 36)) (by decide +kernel)) rfl (fun _ _ _ _ _ => rfl) fun A outer s H E f c hr2 => (ed_callD D_counts (hr2.mono (by decide)) (passX (takes_of rfl rfl rfl rfl) fun _ _ _ _ h => h) (by rfl) (ea_cons (ed_var 1) (ea_cons (ed_tup (ea_cons ed_int (ea_cons ed_int ea_nil))) (ea_cons (ed_var 3) ea_nil))) (len_cons (len_cons (len_cons (fun _ _ _ _ h => len_nil h)))))) (ed_tup (ea_cons ed_str (ea_cons (ed_blt (call_repr hga hr.units) cd_repr (by rfl) T.repr b_repr (ea_cons (ed_var 3) ea_nil)) (ea_cons ed_bl ea_nil))))) (ssd_cons (sd_ret ed_bl)
      ssd_nil) ssd_nil)
      (ssd_cons (sd_set 4 nd__law_none_right rfl (.inr rfl) (ed_tup (ea_cons (ed_callD D__law_take (hr.mono (by decide)) pass0' (by rfl) (ea_cons (ed_var 0) (ea_cons ed_int ea_nil)) (len_cons (len_cons (fun _ _ _ _ h => len_nil h)))) (ea_cons (ed_add ed_int (ed_callD D__law_take (hr.mono (by decide)) pass0' (by rfl) (ea_cons (ed_var 0) (ea_cons ed_int ea_nil)) (len_cons (len_cons (fun _ _ _ _ h => len_nil h))))) ea_nil))))
      (ssd_cons (sd_if (et_ne hr.units (ed_heard (k := 6) (by rfl) gH kH lH cH bH sc_heard rfl (.inl rfl) (heard_gives (k := 0) hga (hr.mono (by decide)) T.low ne kit gB T.repr T.isinstance rfl rfl rfl rfl rfl rfl) TB rfl mT uT (hr.mono (by decide)) (LamX.lamS_by (sc := defScope (topS 36)) (by decide +kernel)) rfl (fun _ _ _ _ _ => rfl) fun A outer s H E f c hr2 => (ed_callD D_counts (hr2.mono (by decide)) (passX (takes_of rfl rfl rfl rfl) fun _ _ _ _ h => h) (by rfl) (ea_cons (ed_var 1) (ea_cons (ed_tup (ea_cons ed_int (ea_cons ed_int ea_nil))) (ea_cons (ed_var 4) ea_nil))) (len_cons (len_cons (len_cons (fun _ _ _ _ h => len_nil h)))))) (ed_tup (ea_cons ed_str (ea_cons (ed_blt (call_repr hga hr.units) cd_repr (by rfl) T.repr b_repr (ea_cons (ed_var 4) ea_nil)) (ea_cons ed_bl ea_nil))))) (ssd_cons (sd_ret ed_bl)
      ssd_nil) ssd_nil)
      (ssd_cons (sd_if (et_ne hr.units (ed_heard (k := 6) (by rfl) gH kH lH cH bH sc_heard rfl (.inl rfl) (heard_gives (k := 0) hga (hr.mono (by decide)) T.low ne kit gB T.repr T.isinstance rfl rfl rfl rfl rfl rfl) TB rfl mT uT (hr.mono (by decide)) (LamX.lamS_by (sc := defScope (topS 36)) (by decide +kernel)) rfl (fun _ _ _ _ _ => rfl) fun A outer s H E f c hr2 => (ed_callD D_ahead_counts (hr2.mono (by decide)) (passX (takes_of rfl rfl rfl rfl) fun _ _ _ _ h => h) (by rfl) (ea_cons (ed_var 2) (ea_cons (ed_var 3) ea_nil)) (len_cons (len_cons (fun _ _ _ _ h => len_nil h))))) (ed_tup (ea_cons ed_str (ea_cons (ed_blt (call_repr hga hr.units) cd_repr (by rfl) T.repr b_repr (ea_cons (ed_var 2) ea_nil)) (ea_cons ed_bl ea_nil))))) (ssd_cons (sd_ret ed_bl)
      ssd_nil) ssd_nil)
      (ssd_cons (sd_ret (ed_eq hr.units (ed_heard (k := 6) (by rfl) gH kH lH cH bH sc_heard rfl (.inl rfl) (heard_gives (k := 0) hga (hr.mono (by decide)) T.low ne kit gB T.repr T.isinstance rfl rfl rfl rfl rfl rfl) TB rfl mT uT (hr.mono (by decide)) (LamX.lamS_by (sc := defScope (topS 36)) (by decide +kernel)) rfl (fun _ _ _ _ _ => rfl) fun A outer s H E f c hr2 => (ed_callD D_ahead_counts (hr2.mono (by decide)) (passX (takes_of rfl rfl rfl rfl) fun _ _ _ _ h => h) (by rfl) (ea_cons (ed_var 1) (ea_cons (ed_var 3) ea_nil)) (len_cons (len_cons (fun _ _ _ _ h => len_nil h))))) (ed_tup (ea_cons ed_str (ea_cons (ed_blt (call_repr hga hr.units) cd_repr (by rfl) T.repr b_repr (ea_cons (ed_var 3) ea_nil)) (ea_cons ed_bl ea_nil))))))
      ssd_nil))))))))))⟩

end
end K13

set_option Elab.async false
set_option linter.all false
set_option maxRecDepth 100000
set_option maxHeartbeats 4000000
namespace K13
open PySem PySem.Spec PyProof.Rows L2 Mi
def Sb : Sn := (sSeq (sSet 2 (f2 cAdd (f2 cMul (pur (.int 13183)) (fVar 1)) (pur (.int 6421)))) (sSeq (sIf (fB (f2 (iB fun i j => decide (i < j)) (fVar 1) (fA cLen (fCons (fVar 0) (pur []))))) (sSeq (sSet 2 (fA cAbs (fCons (fA cInt (fCons (f2 cIx (fVar 0) (fVar 1)) (pur []))) (pur [])))) sNext) (sSeq (sIf (fB (f2 (iB fun i j => decide (j < i)) (fA cLen (fCons (fVar 0) (pur []))) (pur (.int 0)))) (sSeq (sSet 2 (f2 cAdd (fVar 2) (f2 cMul (f2 cMod (fA cInt (fCons (fA cAbs (fCons (fA cInt (fCons (f2 cIx (fVar 0) (f2 cMod (fA cInt (fCons (fVar 1) (pur []))) (fA cLen (fCons (fVar 0) (pur []))))) (pur []))) (pur []))) (pur []))) (pur (.int 2147483563))) (pur (.int 96007))))) sNext) sNext) sNext)) (sSeq (sSet 3 (fIfT (fB (f2 (iB fun i j => decide (j ≤ i)) (fVar 2) (f2 cPow (pur (.int 10)) (pur (.int 18))))) (fVar 2) (pur (.int 0)))) sNext)))
def Ab : Fn (List D) := (fCons (fVar 3) (fCons (f2 cAdd (f2 cMod (fA cInt (fCons (f2 cAdd (f2 cMul (f2 cMod (fA cInt (fCons (fVar 2) (pur []))) (pur (.int 2147483563))) (pur (.int 55900007))) (f2 cMul (pur (.int 6421)) (fVar 1))) (pur []))) (pur (.int 2147483563))) (pur (.int 1))) (pur [])))
abbrev N_law : List Str := ["_law_script", "_law_k", "_law_box_here", "_law_source_here", "_law_number", "_law_many", "_law_stamp", "_law_span", "_law_turn", "_law_one", "_law_other", "_law_due", "_law_ahead", "_law_late"]
def Sr : Sn := (sSeq (sUnp [3, 4] (fA cTup (fCons (fCall m__law_source (fCons (fVar 2) (pur []))) (fCons (fCall m__law_take (fCons (fVar 2) (fCons (pur (.int 256)) (pur [])))) (pur []))))) (sSeq (sSet 5 (f2 cAdd (pur (.int 1)) (fCall m__law_take (fCons (fVar 2) (fCons (fCall m__law_pick (fCons (fVar 2) (fCons (fA cLst (fCons (pur (.int 4)) (fCons (pur (.int 30)) (fCons (pur (.int 600)) (pur []))))) (pur [])))) (pur [])))))) (sSeq (sSet 6 (fCall m__law_take (fCons (fVar 2) (fCons (pur (.int 300)) (pur []))))) (sSeq (sSet 7 (f2 cAdd (fA cSum (fCons (fLc 8 (fRg1 (fCons (fA cMin (fCons (fVar 5) (fCons (pur (.int 40)) (pur [])))) (pur []))) (pur true) (f2 cAdd (f2 cIx (fVar 3) (pur (.int 4))) (fCall m__law_take (fCons (fVar 2) (fCons (f2 cAdd (f2 cSub (f2 cIx (fVar 3) (pur (.int 5))) (f2 cIx (fVar 3) (pur (.int 4)))) (pur (.int 1))) (pur [])))))) (pur []))) (f2 cMul (fA cMax (fCons (pur (.int 0)) (fCons (f2 cSub (fVar 5) (pur (.int 40))) (pur [])))) (f2 cIx (fVar 3) (pur (.int 4)))))) (sSeq (sSet 9 (fA cTup (fCons (fVar 4) (fCons (fVar 6) (pur []))))) (sSeq (sSet 10 (fCall m__law_pick (fCons (fVar 2) (fCons (fA cLst (fCons (fA cTup (fCons (f2 cMod (f2 cAdd (fVar 4) (fVar 5)) (pur (.int 256))) (fCons (f2 cAdd (fVar 6) (fVar 7)) (pur [])))) (fCons (fA cTup (fCons (f2 cMod (f2 cAdd (fVar 4) (fVar 5)) (pur (.int 256))) (fCons (f2 cAdd (fVar 6) (fVar 7)) (pur [])))) (fCons (fA cTup (fCons (fCall m__law_take (fCons (fVar 2) (fCons (pur (.int 256)) (pur [])))) (fCons (f2 cAdd (f2 cAdd (fVar 6) (pur (.int 1))) (fCall m__law_take (fCons (fVar 2) (fCons (pur (.int 900)) (pur []))))) (pur [])))) (pur []))))) (pur []))))) (sSeq (sSet 11 (fCall m__law_counts (fCons (fVar 3) (fCons (fVar 9) (fCons (fVar 10) (pur [])))))) (sSeq (sIf (fB (f2 cNeD (fA cRepr (fCons (fA cLst (fCons (fCall m_counts (fCons (fVar 3) (fCons (fVar 9) (fCons (fVar 10) (pur []))))) (fCons (fCallK m_counts [2, 1, 0] (fCons (fA cListOf (fCons (fVar 10) (pur []))) (fCons (fA cListOf (fCons (fVar 9) (pur []))) (fCons (fA cListOf (fCons (fVar 3) (pur []))) (pur []))))) (pur [])))) (pur []))) (fA cRepr (fCons (fA cLst (fCons (fVar 11) (fCons (fVar 11) (pur [])))) (pur []))))) (sSeq (sRet (pur (.bl false))) sNext) sNext) (sSeq (sSet 11 (fA cTupOf (fCons (fLc 12 (fRg1 (fCons (f2 cAdd (f2 cDiv (fVar 6) (f2 cIx (fVar 3) (pur (.int 4)))) (pur (.int 1))) (pur []))) (fB (f2 cEqD (f2 cMod (fVar 12) (pur (.int 256))) (fVar 4))) (fVar 12)) (pur [])))) (sSeq (sIf (fB (f2 cNeD (fA cRepr (fCons (fA cLst (fCons (fCall m_ahead_counts (fCons (fVar 3) (fCons (fVar 9) (pur [])))) (fCons (fCallK m_ahead_counts [1, 0] (fCons (fA cListOf (fCons (fVar 9) (pur []))) (fCons (fVar 3) (pur [])))) (pur [])))) (pur []))) (fA cRepr (fCons (fA cLst (fCons (fVar 11) (fCons (fVar 11) (pur [])))) (pur []))))) (sSeq (sRet (pur (.bl false))) sNext) sNext) (sSeq (sSet 13 (fA cTup (fCons (fVar 4) (fCons (f2 cAdd (pur (.int 700)) (fCall m__law_take (fCons (fVar 2) (fCons (pur (.int 700)) (pur []))))) (pur []))))) (sSeq (sIf (fB (f2 cNeD (fCall m_ahead_counts (fCons (fVar 3) (fCons (fVar 13) (pur [])))) (fA cTupOf (fCons (fLc 12 (fRg1 (fCons (f2 cAdd (f2 cDiv (f2 cIx (fVar 13) (pur (.int 1))) (f2 cIx (fVar 3) (pur (.int 4)))) (pur (.int 1))) (pur []))) (fB (f2 cEqD (f2 cMod (fVar 12) (pur (.int 256))) (fVar 4))) (fVar 12)) (pur []))))) (sSeq (sRet (pur (.bl false))) sNext) sNext) (sSeq (sIf (fIfT (fNot (fB (fCall m__law_doubt_right (fCons (fVar 2) (fCons (fVar 3) (pur [])))))) (pur true) (fNot (fB (fCall m__law_none_right (fCons (fVar 2) (fCons (fVar 3) (pur []))))))) (sSeq (sRet (pur (.bl false))) sNext) sNext) sNext)))))))))))))
def Se : Sn := (sSeq (sRet (f2 cEqD (fA cRepr (fCons (fA cLst (fCons (fCall m_doubt_span (fCons (fA cTup (fCons (pur (.int 1)) (fCons (pur (.int 1)) (fCons (pur (.int 0)) (fCons (pur (.int 0)) (fCons (pur (.int 62)) (fCons (pur (.int 63)) (pur [])))))))) (pur []))) (fCons (fCall m_doubt_span (fCons (fA cTup (fCons (pur (.int 1)) (fCons (pur (.int 1)) (fCons (pur (.int 0)) (fCons (pur (.int 0)) (fCons (pur (.int 63)) (fCons (pur (.int 64)) (pur [])))))))) (pur []))) (pur [])))) (pur []))) (pur (.str "[999936, None]")))) sNext)
theorem nd_law : N_law.Nodup := by decide +kernel
theorem sc_law : FnScope N_law ["_law_script"] (defScope (topS 37)) := ⟨rfl, rfl, rfl, by decide +kernel, rfl, by decide +kernel, by decide +kernel⟩
def β0 : Mu := ⟨none, []⟩
/-- the box that a script gives for its k-th round -/
structure BoxOk (ns : List Int) (k : Int) (g r : Int) : Prop where
  pre : ∃ δ' , Sb ([some (D.lst (ns.map D.int)), some (D.int k)] ++ List.replicate 2 none : List (Option D)) (0, 0) = .nx δ' (0, 0) ∧ Ab δ' (0, 0) = .ok [.int g, .int r] (0, 0)
def spBox (K : PySem.W.Frag) (P : Pm) : Sp := fun vs H Q _ => ∃ (v : V) (ns : List Int) (k g r : Int), vs = [v, .int k] ∧ R K β0 H v (.lst (ns.map D.int)) ∧ LamX.Tabs P.T H ∧ BoxOk ns k g r ∧
  ∀ p H1, Le β0 H H1 → LamX.Tabs P.T H1 → H1 p = none → Q (.ref p) (upd H1 p (.lst [.int g, .int r]))
theorem good0 {T : List (Addr × Str)} {H : Hp} {bx : Int × Int} (t : LamX.Tabs T H) : Good T β0 bx H := ⟨fun _ h => (nomatch h), fun _ h => (nomatch h), t⟩
section
variable {Pg : Program} {w : World} {K : PySem.W.Frag} {mg : Str → Option Value} {base : Heap} {P : Pm} {fI : Addr}

/-- three statements, then a new list of two is handed back -/
theorem box_reads {X : Cx} {P : Pm} {s1 s2 s3 : Stmt} {S1 S2 S3 : Sn} {A : Fn (List D)} {e1 e2 : Expr} {p1 p2 : Pos} (h1 : SD X P E0 s1 S1) (h2 : SD X P E0 s2 S2) (h3 : SD X P E0 s3 S3) (ha : EA X P E0 [e1, e2] A) :
    PSs X [s1, s2, s3, .Return (some (.List [e1, e2] p1)) p2] (fun Z σ H => ∃ δ bx, Ev X.K β0 H σ δ ∧ LamX.Tabs P.T H ∧ ∃ δ' g r, (sSeq S1 (sSeq S2 (sSeq S3 sNext))) δ bx = .nx δ' bx ∧ A δ' bx = .ok [.int g, .int r] bx ∧
      ∀ p H1, Le β0 H H1 → LamX.Tabs P.T H1 → H1 p = none → Z.rt (.ref p) (upd H1 p (.lst [.int g, .int r]))) := by
  refine pss_imp (pss_cons h1 (pss_cons h2 (pss_cons h3 (pss_one (ps_ret (pe_lst ha)))))) ?_
  rintro Z σ H ⟨δ, bx, ev, tb, δ', g, r, hS, hA, k⟩
  refine ⟨β0, δ, bx, ev, good0 tb, ?_⟩
  unfold sSeq at hS
  cases e1 : S1 δ bx with
  | rt _ _ => rw [e1] at hS; cases hS
  | er _ _ => rw [e1] at hS; cases hS
  | bad => rw [e1] at hS; cases hS
  | nx δ1 bx1 =>
    rw [e1] at hS
    intro σ1 H1 l1 g1 ev1
    refine ⟨β0, δ1, bx1, ev1, g1, ?_⟩
    dsimp only at hS
    cases e2 : S2 δ1 bx1 with
    | rt _ _ => rw [e2] at hS; cases hS
    | er _ _ => rw [e2] at hS; cases hS
    | bad => rw [e2] at hS; cases hS
    | nx δ2 bx2 =>
      rw [e2] at hS
      intro σ2 H2 l2 g2 ev2
      refine ⟨β0, δ2, bx2, ev2, g2, ?_⟩
      dsimp only at hS
      cases e3 : S3 δ2 bx2 with
      | rt _ _ => rw [e3] at hS; cases hS
      | er _ _ => rw [e3] at hS; cases hS
      | bad => rw [e3] at hS; cases hS
      | nx δ3 bx3 =>
        rw [e3] at hS
        have hS' : Rs.nx δ3 bx3 = Rs.nx δ' bx := hS
        injection hS' with q1 q2
        subst q1
        subst q2
        intro σ3 H3 l3 g3 ev3
        refine ⟨β0, δ3, bx3, ev3, g3, ?_⟩
        rw [hA]
        intro vs H4 l4 g4 ra
        have hv : vs = [.int g, .int r] := (RA.ints_inv (ns := [g, r]) ra)
        subst hv
        exact ⟨le1000 (by show 2 ≤ 1000; omega), fun p hp => k p H4 (((l1.trans l2).trans l3).trans l4) g4.tb hp⟩
theorem ok_box {f : Addr} {fd : FuncData} (T : Txt K mg P fI) (F : Fun K "_law_box" "_law_box" (topS 29) f fd) : FnOk Pg w K mg base CX0 1 f fd ["_law_script", "_law_k"] (spBox K P) := by
  refine F.ok sc__law_box (fun vs H Q E h => ?_) (fun cdv A outer s H vs Q E hr h => ?_)
  · obtain ⟨v, ns, k, g, r, rfl, _⟩ := h
    rfl
  · obtain ⟨v, ns, k, g, r, rfl, rv, tb, ⟨δ', hS, hA⟩, q⟩ := h
    refine ⟨_, box_reads (P := P)
      (sd_set 2 nd__law_box rfl (.inl rfl) (ed_add (ed_mul ed_int (ed_var 1)) ed_int))
      (sd_if (et_lt (ed_var 1) (ed_blt call_len_seq cd_len (by rfl) T.len b_len (ea_cons (ed_var 0) ea_nil))) (ssd_cons (sd_set 2 nd__law_box rfl (.inl rfl) (ed_blt call_abs cd_abs (by rfl) T.abs b_abs (ea_cons (ed_ty call_int1 cd_int (by rfl) T.int b_int (ea_cons (ed_ix (ed_var 0) (ed_var 1) (fun _ _ => rfl)) ea_nil)) ea_nil)))
      ssd_nil) (ssd_cons (sd_if (et_gt (ed_blt call_len_seq cd_len (by rfl) T.len b_len (ea_cons (ed_var 0) ea_nil)) ed_int) (ssd_cons (sd_set 2 nd__law_box rfl (.inl rfl) (ed_add (ed_var 2) (ed_mul (ed_mod (ed_ty call_int1 cd_int (by rfl) T.int b_int (ea_cons (ed_blt call_abs cd_abs (by rfl) T.abs b_abs (ea_cons (ed_ty call_int1 cd_int (by rfl) T.int b_int (ea_cons (ed_ix (ed_var 0) (ed_mod (ed_ty call_int1 cd_int (by rfl) T.int b_int (ea_cons (ed_var 1) ea_nil)) (ed_blt call_len_seq cd_len (by rfl) T.len b_len (ea_cons (ed_var 0) ea_nil))) (fun _ _ => rfl)) ea_nil)) ea_nil)) ea_nil)) ed_int) ed_int)))
      ssd_nil) ssd_nil)
      ssd_nil))
      (sd_set 3 nd__law_box rfl (.inl rfl) (ed_ifExp (et_ge (ed_var 2) (ed_pow ed_int ed_int)) (ed_var 2) ed_int))
      (ea_cons (ed_var 3) (ea_cons (ed_add (ed_mod (ed_ty call_int1 cd_int (by rfl) T.int b_int (ea_cons (ed_add (ed_mul (ed_mod (ed_ty call_int1 cd_int (by rfl) T.int b_int (ea_cons (ed_var 2) ea_nil)) ed_int) ed_int) (ed_mul ed_int (ed_var 1))) ea_nil)) ed_int) ed_int) ea_nil)), ([some (D.lst (ns.map D.int)), some (D.int k)] ++ List.replicate 2 none : List (Option D)), (0, 0), ev_start (N := N__law_box) (ds := [D.lst (ns.map D.int), D.int k]) (.cons rv (.cons (.int k) .nil)), tb, δ', g, r, hS, hA, q⟩
end
end K13

set_option Elab.async false
set_option linter.all false
set_option maxRecDepth 100000
set_option maxHeartbeats 4000000
namespace K13
open PySem PySem.Spec PyProof.Rows L2 Mi
def δ0 (ns : List Int) (k : Int) : List (Option D) := some (D.lst (ns.map D.int)) :: some (D.int k) :: some D.box :: List.replicate 11 none
/-- a round of the law goes on to the next one -/
def RoundOk (ns : List Int) (k g r : Int) : Prop := ∃ δ' bx', Sr (δ0 ns k) (g, r) = .nx δ' bx' ∧ δ'.length = 14 ∧ δ'[0]? = some (some (D.lst (ns.map D.int)))
def EndOk : Prop := ∀ bx, Se (List.replicate 14 none) bx = .rt (.bl true) bx
mutual
theorem R.boxed {K : PySem.W.Frag} {H : Hp} {p : Addr} (n : H p = none) : ∀ {v : V} {d : D}, R K β0 H v d → R K ⟨some p, []⟩ H v d
  | _, _, .non => .non
  | _, _, .bl b => .bl b
  | _, _, .int i => .int i
  | _, _, .str x => .str x
  | _, _, .lst h r => .lst (h.imp (fun h => ⟨h.1, ⟨fun z => rd_ne h.1 n (Option.some.inj z), fun z => nomatch z⟩⟩) id) (RA.boxed n r)
  | _, _, .tup h r => .tup (h.imp (fun h => ⟨h.1, ⟨fun z => rd_ne h.1 n (Option.some.inj z), fun z => nomatch z⟩⟩) id) (RA.boxed n r)
  | _, _, .box h => nomatch h
theorem RA.boxed {K : PySem.W.Frag} {H : Hp} {p : Addr} (n : H p = none) : ∀ {vs : List V} {ds : List D}, RA K β0 H vs ds → RA K ⟨some p, []⟩ H vs ds
  | _, _, .nil => .nil
  | _, _, .cons h r => .cons (R.boxed n h) (RA.boxed n r)
end
theorem R.unboxed {K : PySem.W.Frag} {β : Mu} {H : Hp} {v : V} {ns : List Int} (h : R K β H v (.lst (ns.map D.int))) : R K β0 H v (.lst (ns.map D.int)) := by
  cases h with
  | lst s ra =>
    have e := ra.ints_inv
    subst e
    exact .lst (s.imp (fun h => ⟨h.1, ⟨fun z => (nomatch z), fun z => (nomatch z)⟩⟩) id) (RA.ints ns)
def spLawD (K : PySem.W.Frag) (P : Pm) : Sp := fun vs H Q _ => ∃ (v : V) (ns : List Int), vs = [v] ∧ R K β0 H v (.lst (ns.map D.int)) ∧ LamX.Tabs P.T H ∧ ns.length ≤ 63 ∧ ∀ H', Q (.bl true) H'
section
variable {Pg : Program} {w : World} {K : PySem.W.Frag} {mg : Str → Option Value} {base : Heap} {P : Pm} {fI : Addr}

theorem law_reads {X : Cx} {P : Pm} {ns : List Int} (hb : ∀ k : Nat, k < 5 → ∃ g r, BoxOk ns k g r) (ho : ∀ (k : Nat) (g r : Int), k < 5 → RoundOk ns k g r) (he : EndOk) {σ : L2.St} {H : Hp} {v : V} {Q : VK}
    (hs : σ.length = 14) (h0 : σ[0]? = some (some v)) (hv : R X.K β0 H v (.lst (ns.map D.int))) (tb : LamX.Tabs P.T H) (hQ : ∀ H', Q (.bl true) H') :
    (tSeq (tFor (iRng1 (tCons (tC (.int 5)) tNil)) (gName 1) (tSeq (tAsg (tCall (spBox X.K P) [] E0 (tCons (tVar 0) (tCons (tVar 1) tNil))) (gName 2)) (tDS X.K P E0 Sr))) (tDS X.K P E0 Se)) { nx := fun _ H' => Q .non H', rt := Q } σ H := by
  refine ⟨5, rfl, by decide, by decide, for_range (lo := 0) (n := 5) (fun i σ H => σ.length = 14 ∧ ∃ v, σ[0]? = some (some v) ∧ R X.K β0 H v (.lst (ns.map D.int)) ∧ LamX.Tabs P.T H) ⟨hs, v, h0, hv, tb⟩ ?_ ?_⟩
  · rintro i σ H hi ⟨hl, v, h0, hv, tb⟩
    obtain ⟨g, r, bo⟩ := hb i hi
    have e0 : (σ.set 1 (some (V.int (0 + (i : Int)))))[0]? = some (some v) := by rw [List.getElem?_set_ne (by decide)]; exact h0
    have e1 : (σ.set 1 (some (V.int (0 + (i : Int)))))[1]? = some (some (V.int (i : Int))) := by rw [List.getElem?_set_self (by omega), Int.zero_add]
    refine ⟨v, e0, V.int i, e1, v, ns, i, g, r, rfl, hv, tb, bo, fun p H1 l t hp => ?_⟩
    obtain ⟨δ', bx', hS, hl', hz⟩ := ho i g r hi
    refine ⟨⟨some p, []⟩, δ0 ns i, (g, r), ⟨?_, fun j d hj => ?_⟩, ⟨fun b hb => ?_, fun _ h => (nomatch h), t.ext (keep_new hp)⟩, ?_⟩
    · show ((σ.set 1 _).set 2 _).length = _
      rw [List.length_set, List.length_set, hl]
      rfl
    · match j, hj with
      | 0, hj =>
        cases hj
        refine ⟨v, ?_, R.le (.new hp) (R.boxed hp (R.le l hv))⟩
        show ((σ.set 1 _).set 2 _)[0]? = _
        rw [List.getElem?_set_ne (by decide)]
        exact e0
      | 1, hj =>
        cases hj
        refine ⟨V.int i, ?_, .int _⟩
        show ((σ.set 1 _).set 2 _)[1]? = _
        rw [List.getElem?_set_ne (by decide)]
        exact e1
      | 2, hj =>
        cases hj
        refine ⟨.ref p, ?_, .box rfl⟩
        show ((σ.set 1 _).set 2 _)[2]? = _
        exact List.getElem?_set_self (by rw [List.length_set]; omega)
      | j + 3, hj =>
        have hj' : (List.replicate 11 (none : Option D))[j]? = some (some d) := hj
        have := List.mem_of_getElem? hj'
        rw [List.mem_replicate] at this
        cases this.2
    · cases hb
      exact upd_same
    · rw [hS]
      intro σ' H' l' g' ev'
      obtain ⟨v', h1, h2⟩ := ev'.at_ 0 _ hz
      exact ⟨by rw [ev'.len]; exact hl', v', h1, R.unboxed h2, g'.tb⟩
  · rintro σ H ⟨hl, v, h0, hv, tb⟩
    refine ⟨β0, List.replicate 14 none, (0, 0), ⟨by rw [hl, List.length_replicate], fun j d hj => ?_⟩, good0 tb, ?_⟩
    · have := List.mem_of_getElem? hj
      rw [List.mem_replicate] at this
      cases this.2
    · rw [he]
      intro v' H' _ _ r
      rw [r.bl_inv]
      exact hQ H'
theorem ok_law (T : Txt K mg P fI) (D__law_take : Df Pg w K mg base P CX0 1 "_law_take" (topS 30) ["_law_box_here", "_law_many"] m__law_take) (D__law_pick : Df Pg w K mg base P CX0 2 "_law_pick" (topS 31) ["_law_box_here", "_law_some"] m__law_pick) (D__law_counts : Df Pg w K mg base P CX0 1 "_law_counts" (topS 33) ["_law_source_here", "_law_one", "_law_other"] m__law_counts) (D__law_source : Df Pg w K mg base P CX0 3 "_law_source" (topS 32) ["_law_box_here"] m__law_source) (D_ahead_counts : Df Pg w K mg base P (L2.CX Pg w) 6 "ahead_counts" (topS 26) ["source", "one"] m_ahead_counts) (D__law_doubt_right : Df Pg w K mg base P CX0 7 "_law_doubt_right" (topS 35) ["_law_box_here", "_law_source_here"] m__law_doubt_right) (D_doubt_span : Df Pg w K mg base P (L2.CX Pg w) 6 "doubt_span" (topS 27) ["source"] m_doubt_span) (D_counts : Df Pg w K mg base P (L2.CX Pg w) 6 "counts" (topS 25) ["source", "one", "other"] m_counts) (D__law_none_right : DfG Pg w K mg base P CX0 9 "_law_none_right" (topS 36) ["_law_box_here", "_law_source_here"] m__law_none_right)
    {aB : Addr} {fdB : FuncData} (gB : mg "_law_box" = some (.ref aB)) (FB : Fun K "_law_box" "_law_box" (topS 29) aB fdB) (bB : L2.Binds K fdB ["_law_script", "_law_k"] [])
    (hb : ∀ (ns : List Int) (k : Nat), ns.length ≤ 63 → k < 5 → ∃ g r, BoxOk ns k g r) (ho : ∀ (ns : List Int) (k : Nat) (g r : Int), ns.length ≤ 63 → k < 5 → RoundOk ns k g r) (he : EndOk)
    {oc kV doc pm cdv ct : Value} {od an : Option Addr} {osl : Array (Option Value)} {f : Addr} (l : K.lookup f = some ⟨oc, od, .func (PySem.W.fnOf "law" "law" (defArgs (topS 37)) (defBody (topS 37)) (defScope (topS 37)) .none kV doc pm an cdv ct), osl⟩) (cd : PySem.W.codeIn K cdv "law" = true) :
    FnG Pg w K mg base CX0 10 f (PySem.W.fnOf "law" "law" (defArgs (topS 37)) (defBody (topS 37)) (defScope (topS 37)) .none kV doc pm an cdv ct) ["_law_script"] (spLawD K P) := by
  have GB : FnOk Pg w K mg base CX0 1 aB fdB ["_law_script", "_law_k"] (spBox K P) := ok_box T FB
  refine ⟨fun vs H Q E h => ?_, fun A outer s H args us vs Q E hga e0r e0 hbn r h => ?_⟩
  · obtain ⟨v, ns, rfl, _⟩ := h
    rfl
  · obtain ⟨v, ns, rfl, hv, tb, hn, hQ⟩ := h
    have z := LamX.run_ofS (CX := CX0) (E := E0) (Q := Q) (k := 9) l cd sc_law e0r e0 hbn r rfl fun hr => ⟨_, PSs.nox (X := cxOf CX0 Pg w K mg base N_law "law" (defScope (topS 37)) f cdv A outer s H E0) (
      pss_cons (ps_for PassesOwn.never rfl (pi_range1 (by rfl) T.range (pa_cons pe_int pa_nil)) (pg_name (i := 1) nd_law rfl (.inl rfl))
        (pss_cons (ps_set (i := 2) nd_law rfl (.inr rfl) (pe_call GB (hr.mono (by decide)) (by rfl) gB FB.kp bB .nil pass0 (pa_cons (pv 0) (pa_cons (pv 1) pa_nil))))
        (show PSs (cxOf CX0 Pg w K mg base N_law "law" (defScope (topS 37)) f cdv A outer s H E0).nox _ (tDS K P E0 Sr) from (ssd_cons (sd_unp [3, 4] rfl (pgs_cons (pg_name (i := 3) nd_law rfl (.inr rfl)) (pgs_cons (pg_name (i := 4) nd_law rfl (.inr rfl)) pgs_nil)) rfl (ed_tup (ea_cons (ed_callD D__law_source (hr.mono (by decide)) pass0' (by rfl) (ea_cons (ed_var 2) ea_nil) (len_cons (fun _ _ _ _ h => len_nil h))) (ea_cons (ed_callD D__law_take (hr.mono (by decide)) pass0' (by rfl) (ea_cons (ed_var 2) (ea_cons ed_int ea_nil)) (len_cons (len_cons (fun _ _ _ _ h => len_nil h)))) ea_nil))))
      (ssd_cons (sd_set 5 nd_law rfl (.inl rfl) (ed_add ed_int (ed_callD D__law_take (hr.mono (by decide)) pass0' (by rfl) (ea_cons (ed_var 2) (ea_cons (ed_callD D__law_pick (hr.mono (by decide)) pass0' (by rfl) (ea_cons (ed_var 2) (ea_cons (ed_lst (ea_cons ed_int (ea_cons ed_int (ea_cons ed_int ea_nil)))) ea_nil)) (len_cons (len_cons (fun _ _ _ _ h => len_nil h)))) ea_nil)) (len_cons (len_cons (fun _ _ _ _ h => len_nil h))))))
      (ssd_cons (sd_set 6 nd_law rfl (.inl rfl) (ed_callD D__law_take (hr.mono (by decide)) pass0' (by rfl) (ea_cons (ed_var 2) (ea_cons ed_int ea_nil)) (len_cons (len_cons (fun _ _ _ _ h => len_nil h)))))
      (ssd_cons (sd_set 7 nd_law rfl (.inl rfl) (ed_add (ed_blt (cr_sum rfl) cd_sum (by rfl) T.sum b_sum (ea_cons (ed_lc rfl nd_law (ei_rg1 (by rfl) T.range (ea_cons (ed_blt (call_min2 rfl) cd_min (by rfl) T.min b_min (ea_cons (ed_var 5) (ea_cons ed_int ea_nil))) ea_nil)) (blkOk_by (N := N_law) (sc := defScope (topS 37)) (by decide +kernel)) (fun _ _ _ _ _ => pg_name (i := 8) nd_law rfl (by first | exact .inl rfl | exact .inr rfl)) (fun _ _ _ _ _ => et_yes) (fun _ _ _ _ _ => (ed_add (ed_ix (ed_var 3) ed_int (fun _ _ => rfl)) (ed_callD D__law_take (hr.mono (by decide)) pass0' (by rfl) (ea_cons (ed_var 2) (ea_cons (ed_add (ed_sub (ed_ix (ed_var 3) ed_int (fun _ _ => rfl)) (ed_ix (ed_var 3) ed_int (fun _ _ => rfl))) ed_int) ea_nil)) (len_cons (len_cons (fun _ _ _ _ h => len_nil h))))))) ea_nil)) (ed_mul (ed_blt (call_max2 rfl) cd_max (by rfl) T.max b_max (ea_cons ed_int (ea_cons (ed_sub (ed_var 5) ed_int) ea_nil))) (ed_ix (ed_var 3) ed_int (fun _ _ => rfl)))))
      (ssd_cons (sd_set 9 nd_law rfl (.inl rfl) (ed_tup (ea_cons (ed_var 4) (ea_cons (ed_var 6) ea_nil))))
      (ssd_cons (sd_set 10 nd_law rfl (.inl rfl) (ed_callD D__law_pick (hr.mono (by decide)) pass0' (by rfl) (ea_cons (ed_var 2) (ea_cons (ed_lst (ea_cons (ed_tup (ea_cons (ed_mod (ed_add (ed_var 4) (ed_var 5)) ed_int) (ea_cons (ed_add (ed_var 6) (ed_var 7)) ea_nil))) (ea_cons (ed_tup (ea_cons (ed_mod (ed_add (ed_var 4) (ed_var 5)) ed_int) (ea_cons (ed_add (ed_var 6) (ed_var 7)) ea_nil))) (ea_cons (ed_tup (ea_cons (ed_callD D__law_take (hr.mono (by decide)) pass0' (by rfl) (ea_cons (ed_var 2) (ea_cons ed_int ea_nil)) (len_cons (len_cons (fun _ _ _ _ h => len_nil h)))) (ea_cons (ed_add (ed_add (ed_var 6) ed_int) (ed_callD D__law_take (hr.mono (by decide)) pass0' (by rfl) (ea_cons (ed_var 2) (ea_cons ed_int ea_nil)) (len_cons (len_cons (fun _ _ _ _ h => len_nil h))))) ea_nil))) ea_nil)))) ea_nil)) (len_cons (len_cons (fun _ _ _ _ h => len_nil h)))))
      (ssd_cons (sd_set 11 nd_law rfl (.inl rfl) (ed_callD D__law_counts (hr.mono (by decide)) pass0' (by rfl) (ea_cons (ed_var 3) (ea_cons (ed_var 9) (ea_cons (ed_var 10) ea_nil))) (len_cons (len_cons (len_cons (fun _ _ _ _ h => len_nil h))))))
      (ssd_cons (sd_if (et_ne hr.units (ed_blt (call_repr hga hr.units) cd_repr (by rfl) T.repr b_repr (ea_cons (ed_lst (ea_cons (ed_callD D_counts (hr.mono (by decide)) passL (by rfl) (ea_cons (ed_var 3) (ea_cons (ed_var 9) (ea_cons (ed_var 10) ea_nil))) (len_cons (len_cons (len_cons (fun _ _ _ _ h => len_nil h))))) (ea_cons (ed_callDK (ks := ["other", "one", "source"]) [2, 1, 0] D_counts (hr.mono (by decide)) passL (by rfl) (fun _ _ _ _ _ _ ws hl => match ws, hl with | [_, _, _], _ => rfl) (ek_cons (ed_ty call_list_of cd_listOf (by rfl) T.list b_list (ea_cons (ed_var 10) ea_nil)) (ek_cons (ed_ty call_list_of cd_listOf (by rfl) T.list b_list (ea_cons (ed_var 9) ea_nil)) (ek_cons (ed_ty call_list_of cd_listOf (by rfl) T.list b_list (ea_cons (ed_var 3) ea_nil)) ek_nil))) (len_cons (len_cons (len_cons (fun _ _ _ _ h => len_nil h))))) ea_nil))) ea_nil)) (ed_blt (call_repr hga hr.units) cd_repr (by rfl) T.repr b_repr (ea_cons (ed_lst (ea_cons (ed_var 11) (ea_cons (ed_var 11) ea_nil))) ea_nil))) (ssd_cons (sd_ret ed_bl)
      ssd_nil) ssd_nil)
      (ssd_cons (sd_set 11 nd_law rfl (.inl rfl) (ed_ty call_tuple_of cd_tupOf (by rfl) T.tuple b_tuple (ea_cons (ed_lc rfl nd_law (ei_rg1 (by rfl) T.range (ea_cons (ed_add (ed_div (ed_var 6) (ed_ix (ed_var 3) ed_int (fun _ _ => rfl))) ed_int) ea_nil)) (blkOk_by (N := N_law) (sc := defScope (topS 37)) (by decide +kernel)) (fun _ _ _ _ _ => pg_name (i := 12) nd_law rfl (by first | exact .inl rfl | exact .inr rfl)) (fun _ _ _ _ _ => (et_one (et_eq hr.units (ed_mod (ed_var 12) ed_int) (ed_var 4)))) (fun _ _ _ _ _ => (ed_var 12))) ea_nil)))
      (ssd_cons (sd_if (et_ne hr.units (ed_blt (call_repr hga hr.units) cd_repr (by rfl) T.repr b_repr (ea_cons (ed_lst (ea_cons (ed_callD D_ahead_counts (hr.mono (by decide)) passL (by rfl) (ea_cons (ed_var 3) (ea_cons (ed_var 9) ea_nil)) (len_cons (len_cons (fun _ _ _ _ h => len_nil h)))) (ea_cons (ed_callDK (ks := ["one", "source"]) [1, 0] D_ahead_counts (hr.mono (by decide)) passL (by rfl) (fun _ _ _ _ _ _ ws hl => match ws, hl with | [_, _], _ => rfl) (ek_cons (ed_ty call_list_of cd_listOf (by rfl) T.list b_list (ea_cons (ed_var 9) ea_nil)) (ek_cons (ed_var 3) ek_nil)) (len_cons (len_cons (fun _ _ _ _ h => len_nil h)))) ea_nil))) ea_nil)) (ed_blt (call_repr hga hr.units) cd_repr (by rfl) T.repr b_repr (ea_cons (ed_lst (ea_cons (ed_var 11) (ea_cons (ed_var 11) ea_nil))) ea_nil))) (ssd_cons (sd_ret ed_bl)
      ssd_nil) ssd_nil)
      (ssd_cons (sd_set 13 nd_law rfl (.inl rfl) (ed_tup (ea_cons (ed_var 4) (ea_cons (ed_add ed_int (ed_callD D__law_take (hr.mono (by decide)) pass0' (by rfl) (ea_cons (ed_var 2) (ea_cons ed_int ea_nil)) (len_cons (len_cons (fun _ _ _ _ h => len_nil h))))) ea_nil))))
      (ssd_cons (sd_if (et_ne hr.units (ed_callD D_ahead_counts (hr.mono (by decide)) passL (by rfl) (ea_cons (ed_var 3) (ea_cons (ed_var 13) ea_nil)) (len_cons (len_cons (fun _ _ _ _ h => len_nil h)))) (ed_ty call_tuple_of cd_tupOf (by rfl) T.tuple b_tuple (ea_cons (ed_lc rfl nd_law (ei_rg1 (by rfl) T.range (ea_cons (ed_add (ed_div (ed_ix (ed_var 13) ed_int (fun _ _ => rfl)) (ed_ix (ed_var 3) ed_int (fun _ _ => rfl))) ed_int) ea_nil)) (blkOk_by (N := N_law) (sc := defScope (topS 37)) (by decide +kernel)) (fun _ _ _ _ _ => pg_name (i := 12) nd_law rfl (by first | exact .inl rfl | exact .inr rfl)) (fun _ _ _ _ _ => (et_one (et_eq hr.units (ed_mod (ed_var 12) ed_int) (ed_var 4)))) (fun _ _ _ _ _ => (ed_var 12))) ea_nil))) (ssd_cons (sd_ret ed_bl)
      ssd_nil) ssd_nil)
      (ssd_cons (sd_if (et_w (ew_or (et_not (et_val (ed_callD D__law_doubt_right (hr.mono (by decide)) pass0' (by rfl) (ea_cons (ed_var 2) (ea_cons (ed_var 3) ea_nil)) (len_cons (len_cons (fun _ _ _ _ h => len_nil h)))))) (ew_or1 (et_not (et_val (ed_callG hga D__law_none_right (hr.mono (by decide)) pass0' (by rfl) (ea_cons (ed_var 2) (ea_cons (ed_var 3) ea_nil)) (len_cons (len_cons (fun _ _ _ _ h => len_nil h))))))))) (ssd_cons (sd_ret ed_bl)
      ssd_nil) ssd_nil)
      ssd_nil))))))))))))))))
      (show PSs (cxOf CX0 Pg w K mg base N_law "law" (defScope (topS 37)) f cdv A outer s H E0).nox _ (tDS K P E0 Se) from (ssd_cons (sd_ret (ed_eq hr.units (ed_blt (call_repr hga hr.units) cd_repr (by rfl) T.repr b_repr (ea_cons (ed_lst (ea_cons (ed_callD D_doubt_span (hr.mono (by decide)) passL (by rfl) (ea_cons (ed_tup (ea_cons ed_int (ea_cons ed_int (ea_cons ed_int (ea_cons ed_int (ea_cons ed_int (ea_cons ed_int ea_nil))))))) ea_nil) (len_cons (fun _ _ _ _ h => len_nil h))) (ea_cons (ed_callD D_doubt_span (hr.mono (by decide)) passL (by rfl) (ea_cons (ed_tup (ea_cons ed_int (ea_cons ed_int (ea_cons ed_int (ea_cons ed_int (ea_cons ed_int (ea_cons ed_int ea_nil))))))) ea_nil) (len_cons (fun _ _ _ _ h => len_nil h))) ea_nil))) ea_nil)) ed_str))
      ssd_nil))),
      law_reads (X := cxOf CX0 Pg w K mg base N_law "law" (defScope (topS 37)) f cdv A outer s H E0) (fun k hk => hb ns k hn hk) (fun k g r hk => ho ns k g r hn hk) he rfl rfl hv tb hQ⟩
    refine codeAny_mono z fun rr s' hq => ?_
    match rr, hq with
    | .ok _, hq => exact hq
    | .error _, hq => exact False.elim hq
end
end K13

set_option Elab.async false
set_option linter.all false
set_option maxRecDepth 100000
set_option maxHeartbeats 4000000
namespace K13
open PySem PySem.Spec PyProof.Rows L2 Mi
theorem kb1 : kitB "int" "int" = some true := by decide +kernel
theorem kb2 : kitB "bool" "int" = some true := by decide +kernel
theorem kb3 : kitB "NoneType" "int" = some false := by decide +kernel
theorem kb4 : kitB "tuple" "int" = some false := by decide +kernel
theorem kb5 : kitB "list" "int" = some false := by decide +kernel
theorem kb6 : kitB "str" "int" = some false := by decide +kernel
theorem kb7 : kitB "int" "bool" = some false := by decide +kernel
theorem kb8 : kitB "bool" "bool" = some true := by decide +kernel
theorem kc1 : kitB "int" "list" = some false := by decide +kernel
theorem kc2 : kitB "bool" "list" = some false := by decide +kernel
theorem kc3 : kitB "NoneType" "list" = some false := by decide +kernel
theorem kc4 : kitB "tuple" "list" = some false := by decide +kernel
theorem kc5 : kitB "list" "list" = some true := by decide +kernel
theorem kc6 : kitB "str" "list" = some false := by decide +kernel
theorem kd1 : kitB "int" "tuple" = some false := by decide +kernel
theorem kd2 : kitB "bool" "tuple" = some false := by decide +kernel
theorem kd3 : kitB "NoneType" "tuple" = some false := by decide +kernel
theorem kd4 : kitB "tuple" "tuple" = some true := by decide +kernel
theorem kd5 : kitB "list" "tuple" = some false := by decide +kernel
theorem kd6 : kitB "str" "tuple" = some false := by decide +kernel
def isI : D → Bool
  | .int _ => true
  | _ => false
def inR : D → Int → Int → Bool
  | .int i, a, b => decide (a ≤ i) && decide (i ≤ b)
  | _, _, _ => false
def isS : D → Bool
  | .lst _ => true
  | .tup _ => true
  | .box => true
  | _ => false
def hasP : D → Nat → Bool
  | .lst l, n => l.length == n
  | .tup l, n => l.length == n
  | _, _ => false
theorem m_int (d : D) (bx : Int × Int) : m_is_integer [d] bx = .ok (.bl (isI d)) bx := by
  cases d <;> simp [fnD, noErr, sSeq, sRet, sOf, sNext, sSet, sIf, sDrop, sRaise, sUnp, sPar, setAll, toSeq, fVar, fCall, fCons, fA, fB, fNot, fIfB, fIfT, fChain, f1, f2, bnd, pur, lft, toB, iB, iI, cIx, cLen, cTup, cLst, cNot, isNon, cIsN, atI, ixN, cAbs, cInt, cMax, cMin, cIsi, cIsi2, D.ty, kb1, kb2, kb3, kb4, kb5, kb6, kb7, kb8, kc1, kc2, kc3, kc4, kc5, kc6, kd1, kd2, kd3, kd4, kd5, kd6, m_is_integer, S_is_integer, isI]
theorem m_within (d : D) (a b : Int) (bx : Int × Int) : m_is_within [d, .int a, .int b] bx = .ok (.bl (inR d a b)) bx := by
  cases d with
  | int i => by_cases h : a ≤ i <;> simp [fnD, noErr, sSeq, sRet, sOf, sNext, sSet, sIf, sDrop, sRaise, sUnp, sPar, setAll, toSeq, fVar, fCall, fCons, fA, fB, fNot, fIfB, fIfT, fChain, f1, f2, bnd, pur, lft, toB, iB, iI, cIx, cLen, cTup, cLst, cNot, isNon, cIsN, atI, ixN, cAbs, cInt, cMax, cMin, cIsi, cIsi2, D.ty, kb1, kb2, kb3, kb4, kb5, kb6, kb7, kb8, kc1, kc2, kc3, kc4, kc5, kc6, kd1, kd2, kd3, kd4, kd5, kd6, m_is_within, S_is_within, m_int, isI, inR, h]
  | _ => simp [fnD, noErr, sSeq, sRet, sOf, sNext, sSet, sIf, sDrop, sRaise, sUnp, sPar, setAll, toSeq, fVar, fCall, fCons, fA, fB, fNot, fIfB, fIfT, fChain, f1, f2, bnd, pur, lft, toB, iB, iI, cIx, cLen, cTup, cLst, cNot, isNon, cIsN, atI, ixN, cAbs, cInt, cMax, cMin, cIsi, cIsi2, D.ty, kb1, kb2, kb3, kb4, kb5, kb6, kb7, kb8, kc1, kc2, kc3, kc4, kc5, kc6, kd1, kd2, kd3, kd4, kd5, kd6, m_is_within, S_is_within, m_int, isI, inR]
theorem m_below (d : D) (b : Int) (bx : Int × Int) : m_is_below [d, .int b] bx = .ok (.bl (inR d 0 (b - 1))) bx := by
  cases d with
  | int i =>
    have e : decide (i ≤ b - 1) = decide (i < b) := by congr 1; exact propext ⟨fun h => by omega, fun h => by omega⟩
    by_cases h : 0 ≤ i <;> simp [fnD, noErr, sSeq, sRet, sOf, sNext, sSet, sIf, sDrop, sRaise, sUnp, sPar, setAll, toSeq, fVar, fCall, fCons, fA, fB, fNot, fIfB, fIfT, fChain, f1, f2, bnd, pur, lft, toB, iB, iI, cIx, cLen, cTup, cLst, cNot, isNon, cIsN, atI, ixN, cAbs, cInt, cMax, cMin, cIsi, cIsi2, D.ty, kb1, kb2, kb3, kb4, kb5, kb6, kb7, kb8, kc1, kc2, kc3, kc4, kc5, kc6, kd1, kd2, kd3, kd4, kd5, kd6, m_is_below, S_is_below, m_int, isI, inR, h, e]
  | _ => simp [fnD, noErr, sSeq, sRet, sOf, sNext, sSet, sIf, sDrop, sRaise, sUnp, sPar, setAll, toSeq, fVar, fCall, fCons, fA, fB, fNot, fIfB, fIfT, fChain, f1, f2, bnd, pur, lft, toB, iB, iI, cIx, cLen, cTup, cLst, cNot, isNon, cIsN, atI, ixN, cAbs, cInt, cMax, cMin, cIsi, cIsi2, D.ty, kb1, kb2, kb3, kb4, kb5, kb6, kb7, kb8, kc1, kc2, kc3, kc4, kc5, kc6, kd1, kd2, kd3, kd4, kd5, kd6, m_is_below, S_is_below, m_int, isI, inR]
theorem m_seq (d : D) (bx : Int × Int) : m_is_sequence [d] bx = .ok (.bl (isS d)) bx := by
  cases d <;> simp [fnD, noErr, sSeq, sRet, sOf, sNext, sSet, sIf, sDrop, sRaise, sUnp, sPar, setAll, toSeq, fVar, fCall, fCons, fA, fB, fNot, fIfB, fIfT, fChain, f1, f2, bnd, pur, lft, toB, iB, iI, cIx, cLen, cTup, cLst, cNot, isNon, cIsN, atI, ixN, cAbs, cInt, cMax, cMin, cIsi, cIsi2, D.ty, kb1, kb2, kb3, kb4, kb5, kb6, kb7, kb8, kc1, kc2, kc3, kc4, kc5, kc6, kd1, kd2, kd3, kd4, kd5, kd6, m_is_sequence, S_is_sequence, isS]
theorem eqI (bx : Int × Int) (i j : Int) : cEqD bx (.int i) (.int j) = some (.bl (i == j)) := by
  simp [fnD, noErr, sSeq, sRet, sOf, sNext, sSet, sIf, sDrop, sRaise, sUnp, sPar, setAll, toSeq, fVar, fCall, fCons, fA, fB, fNot, fIfB, fIfT, fChain, f1, f2, bnd, pur, lft, toB, iB, iI, cIx, cLen, cTup, cLst, cNot, isNon, cIsN, atI, ixN, cAbs, cInt, cMax, cMin, cIsi, cIsi2, D.ty, kb1, kb2, kb3, kb4, kb5, kb6, kb7, kb8, kc1, kc2, kc3, kc4, kc5, kc6, kd1, kd2, kd3, kd4, kd5, kd6, cEqD, D.pure, D.py, SeqAt.shaped, PyData.canLay0, PyData.depth, PyData.eqv]
theorem eNat (a b : Nat) : ((a : Int) == (b : Int)) = (a == b) := by
  rw [Bool.eq_iff_iff, beq_iff_eq, beq_iff_eq]
  exact ⟨fun h => by omega, fun h => by omega⟩
theorem m_has (d : D) (n : Nat) (bx : Int × Int) (h : d ≠ .box) : m_has_parts [d, .int n] bx = .ok (.bl (hasP d n)) bx := by
  cases d with
  | box => exact (h rfl).elim
  | lst l => simp [fnD, noErr, sSeq, sRet, sOf, sNext, sSet, sIf, sDrop, sRaise, sUnp, sPar, setAll, toSeq, fVar, fCall, fCons, fA, fB, fNot, fIfB, fIfT, fChain, f1, f2, bnd, pur, lft, toB, iB, iI, cIx, cLen, cTup, cLst, cNot, isNon, cIsN, atI, ixN, cAbs, cInt, cMax, cMin, cIsi, cIsi2, D.ty, kb1, kb2, kb3, kb4, kb5, kb6, kb7, kb8, kc1, kc2, kc3, kc4, kc5, kc6, kd1, kd2, kd3, kd4, kd5, kd6, m_has_parts, S_has_parts, m_seq, isS, hasP, eqI, eNat]
  | tup l => simp [fnD, noErr, sSeq, sRet, sOf, sNext, sSet, sIf, sDrop, sRaise, sUnp, sPar, setAll, toSeq, fVar, fCall, fCons, fA, fB, fNot, fIfB, fIfT, fChain, f1, f2, bnd, pur, lft, toB, iB, iI, cIx, cLen, cTup, cLst, cNot, isNon, cIsN, atI, ixN, cAbs, cInt, cMax, cMin, cIsi, cIsi2, D.ty, kb1, kb2, kb3, kb4, kb5, kb6, kb7, kb8, kc1, kc2, kc3, kc4, kc5, kc6, kd1, kd2, kd3, kd4, kd5, kd6, m_has_parts, S_has_parts, m_seq, isS, hasP, eqI, eNat]
  | _ => simp [fnD, noErr, sSeq, sRet, sOf, sNext, sSet, sIf, sDrop, sRaise, sUnp, sPar, setAll, toSeq, fVar, fCall, fCons, fA, fB, fNot, fIfB, fIfT, fChain, f1, f2, bnd, pur, lft, toB, iB, iI, cIx, cLen, cTup, cLst, cNot, isNon, cIsN, atI, ixN, cAbs, cInt, cMax, cMin, cIsi, cIsi2, D.ty, kb1, kb2, kb3, kb4, kb5, kb6, kb7, kb8, kc1, kc2, kc3, kc4, kc5, kc6, kd1, kd2, kd3, kd4, kd5, kd6, m_has_parts, S_has_parts, m_seq, isS, hasP, eqI]
def rngB (lo hi : D) (a b : Int) : Bool := match lo with | .int i => inR lo a b && inR hi i b | _ => false
theorem m_rng (lo hi : D) (a b : Int) (bx : Int × Int) : m__is_range [lo, hi, .int a, .int b] bx = .ok (.bl (rngB lo hi a b)) bx := by
  cases lo with
  | int i => cases h : inR (.int i) a b <;> simp [fnD, noErr, sSeq, sRet, sOf, sNext, sSet, sIf, sDrop, sRaise, sUnp, sPar, setAll, toSeq, fVar, fCall, fCons, fA, fB, fNot, fIfB, fIfT, fChain, f1, f2, bnd, pur, lft, toB, iB, iI, cIx, cLen, cTup, cLst, cNot, isNon, cIsN, atI, ixN, cAbs, cInt, cMax, cMin, cIsi, cIsi2, D.ty, kb1, kb2, kb3, kb4, kb5, kb6, kb7, kb8, kc1, kc2, kc3, kc4, kc5, kc6, kd1, kd2, kd3, kd4, kd5, kd6, m__is_range, S__is_range, m_within, rngB, h]
  | _ => simp [fnD, noErr, sSeq, sRet, sOf, sNext, sSet, sIf, sDrop, sRaise, sUnp, sPar, setAll, toSeq, fVar, fCall, fCons, fA, fB, fNot, fIfB, fIfT, fChain, f1, f2, bnd, pur, lft, toB, iB, iI, cIx, cLen, cTup, cLst, cNot, isNon, cIsN, atI, ixN, cAbs, cInt, cMax, cMin, cIsi, cIsi2, D.ty, kb1, kb2, kb3, kb4, kb5, kb6, kb7, kb8, kc1, kc2, kc3, kc4, kc5, kc6, kd1, kd2, kd3, kd4, kd5, kd6, m__is_range, S__is_range, m_within, rngB, inR]
/-- six whole numbers are a source -/
def srcI (low high least most gap pause : Int) : Prop := 1 ≤ low ∧ low ≤ 100 ∧ low ≤ high ∧ high ≤ 100 ∧ 0 ≤ least ∧ least ≤ 1000 ∧ least ≤ most ∧ most ≤ 1000 ∧ 1 ≤ gap ∧ gap ≤ 1000 ∧ gap ≤ pause ∧ pause ≤ 1000 ∧ most - least < low * gap
def Six (s : D) (L : List D) : Prop := (s = .tup L ∨ s = .lst L) ∧ L.length = 6
theorem six_has {s : D} {L : List D} (h : Six s L) (bx : Int × Int) : m_has_parts [s, .int 6] bx = .ok (.bl true) bx ∧ toSeq s = some L := by
  obtain ⟨hs, hl⟩ := h
  rcases hs with rfl | rfl
  · exact ⟨(m_has _ 6 bx (by simp [fnD, noErr, sSeq, sRet, sOf, sNext, sSet, sIf, sDrop, sRaise, sUnp, sPar, setAll, toSeq, fVar, fCall, fCons, fA, fB, fNot, fIfB, fIfT, fChain, f1, f2, bnd, pur, lft, toB, iB, iI, cIx, cLen, cTup, cLst, cNot, isNon, cIsN, atI, ixN, cAbs, cInt, cMax, cMin, cIsi, cIsi2, D.ty, kb1, kb2, kb3, kb4, kb5, kb6, kb7, kb8, kc1, kc2, kc3, kc4, kc5, kc6, kd1, kd2, kd3, kd4, kd5, kd6])).trans (by simp [fnD, noErr, sSeq, sRet, sOf, sNext, sSet, sIf, sDrop, sRaise, sUnp, sPar, setAll, toSeq, fVar, fCall, fCons, fA, fB, fNot, fIfB, fIfT, fChain, f1, f2, bnd, pur, lft, toB, iB, iI, cIx, cLen, cTup, cLst, cNot, isNon, cIsN, atI, ixN, cAbs, cInt, cMax, cMin, cIsi, cIsi2, D.ty, kb1, kb2, kb3, kb4, kb5, kb6, kb7, kb8, kc1, kc2, kc3, kc4, kc5, kc6, kd1, kd2, kd3, kd4, kd5, kd6, hasP, hl]), rfl⟩
  · exact ⟨(m_has _ 6 bx (by simp [fnD, noErr, sSeq, sRet, sOf, sNext, sSet, sIf, sDrop, sRaise, sUnp, sPar, setAll, toSeq, fVar, fCall, fCons, fA, fB, fNot, fIfB, fIfT, fChain, f1, f2, bnd, pur, lft, toB, iB, iI, cIx, cLen, cTup, cLst, cNot, isNon, cIsN, atI, ixN, cAbs, cInt, cMax, cMin, cIsi, cIsi2, D.ty, kb1, kb2, kb3, kb4, kb5, kb6, kb7, kb8, kc1, kc2, kc3, kc4, kc5, kc6, kd1, kd2, kd3, kd4, kd5, kd6])).trans (by simp [fnD, noErr, sSeq, sRet, sOf, sNext, sSet, sIf, sDrop, sRaise, sUnp, sPar, setAll, toSeq, fVar, fCall, fCons, fA, fB, fNot, fIfB, fIfT, fChain, f1, f2, bnd, pur, lft, toB, iB, iI, cIx, cLen, cTup, cLst, cNot, isNon, cIsN, atI, ixN, cAbs, cInt, cMax, cMin, cIsi, cIsi2, D.ty, kb1, kb2, kb3, kb4, kb5, kb6, kb7, kb8, kc1, kc2, kc3, kc4, kc5, kc6, kd1, kd2, kd3, kd4, kd5, kd6, hasP, hl]), rfl⟩
theorem src_ok {s : D} {low high least most gap pause : Int} (hs : Six s [.int low, .int high, .int least, .int most, .int gap, .int pause]) (h : srcI low high least most gap pause) (bx : Int × Int) : m_is_source [s] bx = .ok (.bl true) bx := by
  obtain ⟨hp, hq⟩ := six_has hs bx
  obtain ⟨a1, a2, a3, a4, b1, b2, b3, b4, c1, c2, c3, c4, d⟩ := h
  have g : (-18446744073709551616 < low ∧ low < 18446744073709551616) := by omega
  simp [fnD, noErr, sSeq, sRet, sOf, sNext, sSet, sIf, sDrop, sRaise, sUnp, sPar, setAll, fVar, fCall, fCons, fA, fB, fNot, fIfB, fIfT, fChain, f1, f2, bnd, pur, lft, toB, iB, iI, cIx, cLen, cTup, cLst, cNot, isNon, cIsN, atI, ixN, cAbs, cInt, cMax, cMin, cIsi, cIsi2, D.ty, kb1, kb2, kb3, kb4, kb5, kb6, kb7, kb8, kc1, kc2, kc3, kc4, kc5, kc6, kd1, kd2, kd3, kd4, kd5, kd6, -toSeq, m_is_source, S_is_source, hp, hq, m_rng, rngB, inR, a1, a2, a3, a4, b1, b2, b3, b4, c1, c2, c3, c4, g, d]
theorem src_len {s : D} (h : hasP s 6 = false) (hb : s ≠ .box) (bx : Int × Int) : m_is_source [s] bx = .ok (.bl false) bx := by
  have hp : m_has_parts [s, .int 6] bx = .ok (.bl false) bx := (m_has s 6 bx hb).trans (by rw [h])
  simp [fnD, noErr, sSeq, sRet, sOf, sNext, sSet, sIf, sDrop, sRaise, sUnp, sPar, setAll, toSeq, fVar, fCall, fCons, fA, fB, fNot, fIfB, fIfT, fChain, f1, f2, bnd, pur, lft, toB, iB, iI, cIx, cLen, cTup, cLst, cNot, isNon, cIsN, atI, ixN, cAbs, cInt, cMax, cMin, cIsi, cIsi2, D.ty, kb1, kb2, kb3, kb4, kb5, kb6, kb7, kb8, kc1, kc2, kc3, kc4, kc5, kc6, kd1, kd2, kd3, kd4, kd5, kd6, m_is_source, S_is_source, hp]
theorem src_12 {s a b c d e f : D} (hs : Six s [a, b, c, d, e, f]) (h : rngB a b 1 100 = false ∨ rngB c d 0 1000 = false) (bx : Int × Int) : m_is_source [s] bx = .ok (.bl false) bx := by
  obtain ⟨hp, hq⟩ := six_has hs bx
  cases h1 : rngB a b 1 100 with
  | false => simp [fnD, noErr, sSeq, sRet, sOf, sNext, sSet, sIf, sDrop, sRaise, sUnp, sPar, setAll, fVar, fCall, fCons, fA, fB, fNot, fIfB, fIfT, fChain, f1, f2, bnd, pur, lft, toB, iB, iI, cIx, cLen, cTup, cLst, cNot, isNon, cIsN, atI, ixN, cAbs, cInt, cMax, cMin, cIsi, cIsi2, D.ty, kb1, kb2, kb3, kb4, kb5, kb6, kb7, kb8, kc1, kc2, kc3, kc4, kc5, kc6, kd1, kd2, kd3, kd4, kd5, kd6, -toSeq, m_is_source, S_is_source, hp, hq, m_rng, h1]
  | true =>
    rw [h1] at h
    rcases h with h | h
    · cases h
    · simp [fnD, noErr, sSeq, sRet, sOf, sNext, sSet, sIf, sDrop, sRaise, sUnp, sPar, setAll, fVar, fCall, fCons, fA, fB, fNot, fIfB, fIfT, fChain, f1, f2, bnd, pur, lft, toB, iB, iI, cIx, cLen, cTup, cLst, cNot, isNon, cIsN, atI, ixN, cAbs, cInt, cMax, cMin, cIsi, cIsi2, D.ty, kb1, kb2, kb3, kb4, kb5, kb6, kb7, kb8, kc1, kc2, kc3, kc4, kc5, kc6, kd1, kd2, kd3, kd4, kd5, kd6, -toSeq, m_is_source, S_is_source, hp, hq, m_rng, h1, h]
theorem src_3 {s a b c d e f : D} (hs : Six s [a, b, c, d, e, f]) (h : rngB e f 1 1000 = false) (bx : Int × Int) : m_is_source [s] bx = .ok (.bl false) bx := by
  obtain ⟨hp, hq⟩ := six_has hs bx
  cases h1 : rngB a b 1 100 with
  | false => exact src_12 hs (.inl h1) bx
  | true =>
    cases h2 : rngB c d 0 1000 with
    | false => exact src_12 hs (.inr h2) bx
    | true => simp [fnD, noErr, sSeq, sRet, sOf, sNext, sSet, sIf, sDrop, sRaise, sUnp, sPar, setAll, fVar, fCall, fCons, fA, fB, fNot, fIfB, fIfT, fChain, f1, f2, bnd, pur, lft, toB, iB, iI, cIx, cLen, cTup, cLst, cNot, isNon, cIsN, atI, ixN, cAbs, cInt, cMax, cMin, cIsi, cIsi2, D.ty, kb1, kb2, kb3, kb4, kb5, kb6, kb7, kb8, kc1, kc2, kc3, kc4, kc5, kc6, kd1, kd2, kd3, kd4, kd5, kd6, -toSeq, m_is_source, S_is_source, hp, hq, m_rng, h1, h2, h]
theorem src_119 (bx : Int × Int) : m_is_source [.lst [.int 1, .int 1, .int 0, .int 9, .int 2, .int 5]] bx = .ok (.bl false) bx := by
  obtain ⟨hp, hq⟩ := six_has (s := .lst [.int 1, .int 1, .int 0, .int 9, .int 2, .int 5]) ⟨.inr rfl, rfl⟩ bx
  simp [fnD, noErr, sSeq, sRet, sOf, sNext, sSet, sIf, sDrop, sRaise, sUnp, sPar, setAll, fVar, fCall, fCons, fA, fB, fNot, fIfB, fIfT, fChain, f1, f2, bnd, pur, lft, toB, iB, iI, cIx, cLen, cTup, cLst, cNot, isNon, cIsN, atI, ixN, cAbs, cInt, cMax, cMin, cIsi, cIsi2, D.ty, kb1, kb2, kb3, kb4, kb5, kb6, kb7, kb8, kc1, kc2, kc3, kc4, kc5, kc6, kd1, kd2, kd3, kd4, kd5, kd6, -toSeq, m_is_source, S_is_source, hp, hq, m_rng, rngB, inR]
/-! ### marks -/
theorem mark_ok {s : D} {n t : Int} (hs : s = .tup [.int n, .int t] ∨ s = .lst [.int n, .int t]) (h1 : 0 ≤ n) (h2 : n < 256) (h3 : 0 ≤ t) (h4 : t ≤ 1000000) (bx : Int × Int) : m__is_mark [s] bx = .ok (.bl true) bx := by
  have hp : m_has_parts [s, .int 2] bx = .ok (.bl true) bx := by rcases hs with rfl | rfl <;> exact m_has _ 2 bx (by simp [fnD, noErr, sSeq, sRet, sOf, sNext, sSet, sIf, sDrop, sRaise, sUnp, sPar, setAll, toSeq, fVar, fCall, fCons, fA, fB, fNot, fIfB, fIfT, fChain, f1, f2, bnd, pur, lft, toB, iB, iI, cIx, cLen, cTup, cLst, cNot, isNon, cIsN, atI, ixN, cAbs, cInt, cMax, cMin, cIsi, cIsi2, D.ty, kb1, kb2, kb3, kb4, kb5, kb6, kb7, kb8, kc1, kc2, kc3, kc4, kc5, kc6, kd1, kd2, kd3, kd4, kd5, kd6])
  have h2' : n ≤ 255 := by omega
  rcases hs with rfl | rfl <;> simp [fnD, noErr, sSeq, sRet, sOf, sNext, sSet, sIf, sDrop, sRaise, sUnp, sPar, setAll, toSeq, fVar, fCall, fCons, fA, fB, fNot, fIfB, fIfT, fChain, f1, f2, bnd, pur, lft, toB, iB, iI, cIx, cLen, cTup, cLst, cNot, isNon, cIsN, atI, ixN, cAbs, cInt, cMax, cMin, cIsi, cIsi2, D.ty, kb1, kb2, kb3, kb4, kb5, kb6, kb7, kb8, kc1, kc2, kc3, kc4, kc5, kc6, kd1, kd2, kd3, kd4, kd5, kd6, m__is_mark, S__is_mark, hp, m_below, m_within, inR, h1, h2', h3, h4]
theorem mark_len {s : D} (h : hasP s 2 = false) (hb : s ≠ .box) (bx : Int × Int) : m__is_mark [s] bx = .ok (.bl false) bx := by
  have hp : m_has_parts [s, .int 2] bx = .ok (.bl false) bx := (m_has s 2 bx hb).trans (by rw [h])
  simp [fnD, noErr, sSeq, sRet, sOf, sNext, sSet, sIf, sDrop, sRaise, sUnp, sPar, setAll, toSeq, fVar, fCall, fCons, fA, fB, fNot, fIfB, fIfT, fChain, f1, f2, bnd, pur, lft, toB, iB, iI, cIx, cLen, cTup, cLst, cNot, isNon, cIsN, atI, ixN, cAbs, cInt, cMax, cMin, cIsi, cIsi2, D.ty, kb1, kb2, kb3, kb4, kb5, kb6, kb7, kb8, kc1, kc2, kc3, kc4, kc5, kc6, kd1, kd2, kd3, kd4, kd5, kd6, m__is_mark, S__is_mark, hp]
theorem mark_bad {a b : D} (h : inR a 0 255 = false ∨ inR b 0 1000000 = false) (bx : Int × Int) : m__is_mark [.tup [a, b]] bx = .ok (.bl false) bx := by
  have hp : m_has_parts [.tup [a, b], .int 2] bx = .ok (.bl true) bx := m_has _ 2 bx (by simp [fnD, noErr, sSeq, sRet, sOf, sNext, sSet, sIf, sDrop, sRaise, sUnp, sPar, setAll, toSeq, fVar, fCall, fCons, fA, fB, fNot, fIfB, fIfT, fChain, f1, f2, bnd, pur, lft, toB, iB, iI, cIx, cLen, cTup, cLst, cNot, isNon, cIsN, atI, ixN, cAbs, cInt, cMax, cMin, cIsi, cIsi2, D.ty, kb1, kb2, kb3, kb4, kb5, kb6, kb7, kb8, kc1, kc2, kc3, kc4, kc5, kc6, kd1, kd2, kd3, kd4, kd5, kd6])
  cases h1 : inR a 0 255 with
  | false => simp [fnD, noErr, sSeq, sRet, sOf, sNext, sSet, sIf, sDrop, sRaise, sUnp, sPar, setAll, toSeq, fVar, fCall, fCons, fA, fB, fNot, fIfB, fIfT, fChain, f1, f2, bnd, pur, lft, toB, iB, iI, cIx, cLen, cTup, cLst, cNot, isNon, cIsN, atI, ixN, cAbs, cInt, cMax, cMin, cIsi, cIsi2, D.ty, kb1, kb2, kb3, kb4, kb5, kb6, kb7, kb8, kc1, kc2, kc3, kc4, kc5, kc6, kd1, kd2, kd3, kd4, kd5, kd6, m__is_mark, S__is_mark, hp, m_below, m_within, h1]
  | true =>
    rw [h1] at h
    rcases h with h | h
    · cases h
    · simp [fnD, noErr, sSeq, sRet, sOf, sNext, sSet, sIf, sDrop, sRaise, sUnp, sPar, setAll, toSeq, fVar, fCall, fCons, fA, fB, fNot, fIfB, fIfT, fChain, f1, f2, bnd, pur, lft, toB, iB, iI, cIx, cLen, cTup, cLst, cNot, isNon, cIsN, atI, ixN, cAbs, cInt, cMax, cMin, cIsi, cIsi2, D.ty, kb1, kb2, kb3, kb4, kb5, kb6, kb7, kb8, kc1, kc2, kc3, kc4, kc5, kc6, kd1, kd2, kd3, kd4, kd5, kd6, m__is_mark, S__is_mark, hp, m_below, m_within, h1, h]
theorem needS {s : D} {b : Bool} {bx : Int × Int} (h : m_is_source [s] bx = .ok (.bl b) bx) : m__need_source [s] bx = if b = true then .ok .non bx else .err s bx := by
  cases b <;> simp [fnD, noErr, sSeq, sRet, sOf, sNext, sSet, sIf, sDrop, sRaise, sUnp, sPar, setAll, toSeq, fVar, fCall, fCons, fA, fB, fNot, fIfB, fIfT, fChain, f1, f2, bnd, pur, lft, toB, iB, iI, cIx, cLen, cTup, cLst, cNot, isNon, cIsN, atI, ixN, cAbs, cInt, cMax, cMin, cIsi, cIsi2, D.ty, kb1, kb2, kb3, kb4, kb5, kb6, kb7, kb8, kc1, kc2, kc3, kc4, kc5, kc6, kd1, kd2, kd3, kd4, kd5, kd6, m__need_source, S__need_source, h]
theorem needM {s : D} {b : Bool} {bx : Int × Int} (h : m__is_mark [s] bx = .ok (.bl b) bx) : m__need_mark [s] bx = if b = true then .ok .non bx else .err s bx := by
  cases b <;> simp [fnD, noErr, sSeq, sRet, sOf, sNext, sSet, sIf, sDrop, sRaise, sUnp, sPar, setAll, toSeq, fVar, fCall, fCons, fA, fB, fNot, fIfB, fIfT, fChain, f1, f2, bnd, pur, lft, toB, iB, iI, cIx, cLen, cTup, cLst, cNot, isNon, cIsN, atI, ixN, cAbs, cInt, cMax, cMin, cIsi, cIsi2, D.ty, kb1, kb2, kb3, kb4, kb5, kb6, kb7, kb8, kc1, kc2, kc3, kc4, kc5, kc6, kd1, kd2, kd3, kd4, kd5, kd6, m__need_mark, S__need_mark, h]
end K13

set_option Elab.async false
set_option linter.all false
set_option maxRecDepth 100000
set_option maxHeartbeats 4000000
namespace K13
open PySem PySem.Spec PyProof.Rows L2 Mi
def Pair (s a b : D) : Prop := s = .tup [a, b] ∨ s = .lst [a, b]
/-- the least whole number that is not below a part -/
def up (a b : Int) : Int := -(-a / b)
theorem up_spec {a b : Int} (hb : 0 < b) : a ≤ b * up a b ∧ b * (up a b - 1) < a := by
  have h1 := Int.mul_ediv_add_emod (-a) b
  have h2 := Int.emod_nonneg (-a) (Int.ne_of_gt hb)
  have h3 := Int.emod_lt_of_pos (-a) hb
  have e : b * up a b = -(b * (-a / b)) := by unfold up; rw [Int.mul_neg]
  rw [Int.mul_sub, Int.mul_one]
  omega
theorem up_least {a b m : Int} (hb : 0 < b) : a ≤ b * m ↔ up a b ≤ m := by
  have h := up_spec (a := a) hb
  constructor
  · intro q
    have h3 : up a b - 1 < m := Int.lt_of_mul_lt_mul_left (Int.lt_of_lt_of_le h.2 q) (Int.le_of_lt hb)
    omega
  · intro q
    exact Int.le_trans h.1 (Int.mul_le_mul_of_nonneg_left q (Int.le_of_lt hb))
theorem up_pos {a b : Int} (hb : 0 < b) (ha : 0 < a) : 0 < up a b ∧ up a b ≤ a := by
  have h := up_spec (a := a) hb
  constructor
  · by_cases z : up a b ≤ 0
    · have : b * up a b ≤ 0 := by have := Int.mul_le_mul_of_nonneg_left z (Int.le_of_lt hb); simpa using this
      omega
    · omega
  · exact (up_least hb).mp (by have : 1 * a ≤ b * a := Int.mul_le_mul_of_nonneg_right hb (Int.le_of_lt ha); omega)
theorem r_up {a b : Int} (h1 : 0 < b) (h2 : b < 1073741824) (bx : Int × Int) : m_rounded_up [.int a, .int b] bx = .ok (.int (up a b)) bx := by
  simp [fnD, noErr, sSeq, sRet, sOf, sNext, sSet, sIf, sDrop, sRaise, sUnp, sPar, setAll, toSeq, fVar, fCall, fCons, fA, fB, fNot, fIfB, fIfT, fChain, f1, f2, bnd, pur, lft, toB, iB, iI, cIx, cLen, cTup, cLst, cNot, isNon, cIsN, atI, ixN, cAbs, cInt, cMax, cMin, cIsi, cIsi2, D.ty, kb1, kb2, kb3, kb4, kb5, kb6, kb7, kb8, kc1, kc2, kc3, kc4, kc5, kc6, kd1, kd2, kd3, kd4, kd5, kd6, m_rounded_up, S_rounded_up, cNeg, iI, h1, h2, up]
def fst_ (pause n1 t1 n2 t2 : Int) : Int := up (t2 - t1) pause + (n2 - n1 - up (t2 - t1) pause) % 256
theorem first_ok {s one other : D} {low high least most gap pause n1 t1 n2 t2 : Int} (hs : Six s [.int low, .int high, .int least, .int most, .int gap, .int pause]) (h : srcI low high least most gap pause)
    (h1 : Pair one (.int n1) (.int t1)) (h2 : Pair other (.int n2) (.int t2)) (bx : Int × Int) : m__first_count [s, one, other] bx = .ok (.int (fst_ pause n1 t1 n2 t2)) bx := by
  obtain ⟨a1, a2, a3, a4, b1, b2, b3, b4, c1, c2, c3, c4, d⟩ := h
  have r := fun bx => r_up (a := t2 - t1) (b := pause) (by omega) (by omega) bx
  rcases hs.1 with rfl | rfl <;> rcases h1 with rfl | rfl <;> rcases h2 with rfl | rfl <;> simp [fnD, noErr, sSeq, sRet, sOf, sNext, sSet, sIf, sDrop, sRaise, sUnp, sPar, setAll, toSeq, fVar, fCall, fCons, fA, fB, fNot, fIfB, fIfT, fChain, f1, f2, bnd, pur, lft, toB, iB, iI, cIx, cLen, cTup, cLst, cNot, isNon, cIsN, atI, ixN, cAbs, cInt, cMax, cMin, cIsi, cIsi2, D.ty, kb1, kb2, kb3, kb4, kb5, kb6, kb7, kb8, kc1, kc2, kc3, kc4, kc5, kc6, kd1, kd2, kd3, kd4, kd5, kd6, m__first_count, S__first_count, iI, r, fst_]
theorem last_ok {s one other : D} {low high least most gap pause n1 t1 n2 t2 : Int} (hs : Six s [.int low, .int high, .int least, .int most, .int gap, .int pause]) (h : srcI low high least most gap pause)
    (h1 : Pair one (.int n1) (.int t1)) (h2 : Pair other (.int n2) (.int t2)) (bx : Int × Int) : m__last_count [s, one, other] bx = .ok (.int ((t2 - t1) / gap)) bx := by
  obtain ⟨a1, a2, a3, a4, b1, b2, b3, b4, c1, c2, c3, c4, d⟩ := h
  have g1 : 0 < gap := by omega
  have g2 : gap < 1073741824 := by omega
  rcases hs.1 with rfl | rfl <;> rcases h1 with rfl | rfl <;> rcases h2 with rfl | rfl <;> simp [fnD, noErr, sSeq, sRet, sOf, sNext, sSet, sIf, sDrop, sRaise, sUnp, sPar, setAll, toSeq, fVar, fCall, fCons, fA, fB, fNot, fIfB, fIfT, fChain, f1, f2, bnd, pur, lft, toB, iB, iI, cIx, cLen, cTup, cLst, cNot, isNon, cIsN, atI, ixN, cAbs, cInt, cMax, cMin, cIsi, cIsi2, D.ty, kb1, kb2, kb3, kb4, kb5, kb6, kb7, kb8, kc1, kc2, kc3, kc4, kc5, kc6, kd1, kd2, kd3, kd4, kd5, kd6, m__last_count, S__last_count, iI, g1, g2]
/-- every 256th number from a to b -/
def prog (a b : Int) : List D := (List.range (Builtin.Range.rangeSize a (b + 1) 256).toNat).map fun i => D.int (a + (i : Nat) * 256)
theorem tupRg {a b : Int} (h1 : -1 ≤ a) (h2 : a < 1000000) (h3 : -1 ≤ b) (h4 : b ≤ 200000) : cTupRg [.int a, .int (b + 1), .int 256] = some (.tup (prog a b)) := by
  have z : Builtin.Range.rangeSize a (b + 1) 256 ≤ 1000 := by
    unfold Builtin.Range.rangeSize
    simp only [gt_iff_lt, Int.reduceLT, if_true]
    split <;> omega
  unfold cTupRg
  dsimp only
  rw [if_pos (by refine ⟨by omega, by omega, by omega, by omega, by omega, by omega, z⟩)]
  rfl
theorem div_le_ {d g : Int} (hd : 0 ≤ d) (hg : 0 < g) : 0 ≤ d / g ∧ d / g ≤ d := ⟨Int.ediv_nonneg hd (Int.le_of_lt hg), Int.ediv_le_self g hd⟩
theorem fst_bd {pause n1 t1 n2 t2 : Int} (hp : 0 < pause) (ht : t1 < t2) : 0 < fst_ pause n1 t1 n2 t2 ∧ fst_ pause n1 t1 n2 t2 < t2 - t1 + 256 := by
  have h := up_pos (a := t2 - t1) hp (by omega)
  unfold fst_
  omega
def Mark (n t : Int) : Prop := 0 ≤ n ∧ n < 256 ∧ 0 ≤ t ∧ t ≤ 1000000
theorem needM_ok {s : D} {n t : Int} (hs : Pair s (.int n) (.int t)) (h : Mark n t) (bx : Int × Int) : m__need_mark [s] bx = .ok .non bx := by
  rw [needM (mark_ok hs h.1 h.2.1 h.2.2.1 h.2.2.2 bx)]
  rfl
theorem needS_ok {s : D} {low high least most gap pause : Int} (hs : Six s [.int low, .int high, .int least, .int most, .int gap, .int pause]) (h : srcI low high least most gap pause) (bx : Int × Int) : m__need_source [s] bx = .ok .non bx := by
  rw [needS (src_ok hs h bx)]
  rfl
theorem counts_ok {s one other : D} {low high least most gap pause n1 t1 n2 t2 : Int} (hs : Six s [.int low, .int high, .int least, .int most, .int gap, .int pause]) (h : srcI low high least most gap pause)
    (h1 : Pair one (.int n1) (.int t1)) (h2 : Pair other (.int n2) (.int t2)) (m1 : Mark n1 t1) (m2 : Mark n2 t2) (lt : t1 < t2) (hi : t2 - t1 ≤ 100000) (bx : Int × Int) :
    m_counts [s, one, other] bx = .ok (.tup (prog (fst_ pause n1 t1 n2 t2) ((t2 - t1) / gap))) bx := by
  have e0 := fun bx => needS_ok hs h bx
  have e1 := fun bx => needM_ok h1 m1 bx
  have e2 := fun bx => needM_ok h2 m2 bx
  have e3 := fun bx => first_ok hs h h1 h2 bx
  have e4 := fun bx => last_ok hs h h1 h2 bx
  have h' := h
  obtain ⟨a1, a2, a3, a4, b1, b2, b3, b4, c1, c2, c3, c4, d⟩ := h
  have f := fst_bd (pause := pause) (n1 := n1) (t1 := t1) (n2 := n2) (t2 := t2) (by omega) lt
  have q := div_le_ (d := t2 - t1) (g := gap) (by omega) (by omega)
  have e5 := tupRg (a := fst_ pause n1 t1 n2 t2) (b := (t2 - t1) / gap) (by omega) (by omega) (by omega) (by omega)
  have e6 : ∀ bx, m__counts [s, one, other] bx = .ok (.tup (prog (fst_ pause n1 t1 n2 t2) ((t2 - t1) / gap))) bx := fun bx => by
    simp [fnD, noErr, sSeq, sRet, sOf, sNext, sSet, sIf, sDrop, sRaise, sUnp, sPar, setAll, toSeq, fVar, fCall, fCons, fA, fB, fNot, fIfB, fIfT, fChain, f1, f2, bnd, pur, lft, toB, iB, iI, cIx, cLen, cTup, cLst, cNot, isNon, cIsN, atI, ixN, cAbs, cInt, cMax, cMin, cIsi, cIsi2, D.ty, kb1, kb2, kb3, kb4, kb5, kb6, kb7, kb8, kc1, kc2, kc3, kc4, kc5, kc6, kd1, kd2, kd3, kd4, kd5, kd6, m__counts, S__counts, e3, e4, iI, e5]
  have l : ¬ t2 ≤ t1 := by omega
  have i1 : ∀ bx, cIx bx one (.int 1) = some (.int t1) := fun bx => by rcases h1 with rfl | rfl <;> rfl
  have i2 : ∀ bx, cIx bx other (.int 1) = some (.int t2) := fun bx => by rcases h2 with rfl | rfl <;> rfl
  simp [fnD, noErr, sSeq, sRet, sOf, sNext, sSet, sIf, sDrop, sRaise, sUnp, sPar, setAll, toSeq, fVar, fCall, fCons, fA, fB, fNot, fIfB, fIfT, fChain, f1, f2, bnd, pur, lft, toB, iB, iI, cLen, cTup, cLst, cNot, isNon, cIsN, atI, ixN, cAbs, cInt, cMax, cMin, cIsi, cIsi2, D.ty, kb1, kb2, kb3, kb4, kb5, kb6, kb7, kb8, kc1, kc2, kc3, kc4, kc5, kc6, kd1, kd2, kd3, kd4, kd5, kd6, -cIx, m_counts, S_counts, e0, e1, e2, e6, i1, i2, l]
theorem ahead_ok {s one : D} {low high least most gap pause n1 t1 : Int} (hs : Six s [.int low, .int high, .int least, .int most, .int gap, .int pause]) (h : srcI low high least most gap pause)
    (h1 : Pair one (.int n1) (.int t1)) (m1 : Mark n1 t1) (hi : t1 ≤ 100000) (bx : Int × Int) :
    m_ahead_counts [s, one] bx = .ok (.tup (prog n1 (t1 / gap))) bx := by
  have e0 := fun bx => needS_ok hs h bx
  have e1 := fun bx => needM_ok h1 m1 bx
  obtain ⟨a1, a2, a3, a4, b1, b2, b3, b4, c1, c2, c3, c4, d⟩ := h
  obtain ⟨q1, q2, q3, q4⟩ := m1
  have q := div_le_ (d := t1) (g := gap) (by omega) (by omega)
  have e5 := tupRg (a := n1) (b := t1 / gap) (by omega) (by omega) (by omega) (by omega)
  have i0 : ∀ bx, cIx bx one (.int 0) = some (.int n1) := fun bx => by rcases h1 with rfl | rfl <;> rfl
  have i1 : ∀ bx, cIx bx one (.int 1) = some (.int t1) := fun bx => by rcases h1 with rfl | rfl <;> rfl
  have i4 : ∀ bx, cIx bx s (.int 4) = some (.int gap) := fun bx => by rcases hs.1 with rfl | rfl <;> rfl
  have g1 : 0 < gap := by omega
  have g2 : gap < 1073741824 := by omega
  simp [fnD, noErr, sSeq, sRet, sOf, sNext, sSet, sIf, sDrop, sRaise, sUnp, sPar, setAll, toSeq, fVar, fCall, fCons, fA, fB, fNot, fIfB, fIfT, fChain, f1, f2, bnd, pur, lft, toB, iB, iI, cLen, cTup, cLst, cNot, isNon, cIsN, atI, ixN, cAbs, cInt, cMax, cMin, cIsi, cIsi2, D.ty, kb1, kb2, kb3, kb4, kb5, kb6, kb7, kb8, kc1, kc2, kc3, kc4, kc5, kc6, kd1, kd2, kd3, kd4, kd5, kd6, -cIx, m_ahead_counts, S_ahead_counts, e0, e1, iI, g1, g2, i0, i1, i4, e5]
def span (gap pause : Int) : Int := gap * (up (256 * gap) (pause - gap) + 256)
theorem doubt_eq {s : D} {low high least most gap : Int} (hs : Six s [.int low, .int high, .int least, .int most, .int gap, .int gap]) (h : srcI low high least most gap gap) (bx : Int × Int) :
    m_doubt_span [s] bx = .ok .non bx := by
  have e0 := fun bx => needS_ok hs h bx
  have i4 : ∀ bx, cIx bx s (.int 4) = some (.int gap) := fun bx => by rcases hs.1 with rfl | rfl <;> rfl
  have i5 : ∀ bx, cIx bx s (.int 5) = some (.int gap) := fun bx => by rcases hs.1 with rfl | rfl <;> rfl
  simp [fnD, noErr, sSeq, sRet, sOf, sNext, sSet, sIf, sDrop, sRaise, sUnp, sPar, setAll, toSeq, fVar, fCall, fCons, fA, fB, fNot, fIfB, fIfT, fChain, f1, f2, bnd, pur, lft, toB, iB, iI, cLen, cTup, cLst, cNot, isNon, cIsN, atI, ixN, cAbs, cInt, cMax, cMin, cIsi, cIsi2, D.ty, kb1, kb2, kb3, kb4, kb5, kb6, kb7, kb8, kc1, kc2, kc3, kc4, kc5, kc6, kd1, kd2, kd3, kd4, kd5, kd6, -cIx, m_doubt_span, S_doubt_span, e0, i4, i5, eqI]
theorem doubt_ne {s : D} {low high least most gap pause : Int} (hs : Six s [.int low, .int high, .int least, .int most, .int gap, .int pause]) (h : srcI low high least most gap pause) (ne : gap ≠ pause) (bx : Int × Int) :
    m_doubt_span [s] bx = .ok (if span gap pause ≤ 1000000 then .int (span gap pause) else .non) bx := by
  have e0 := fun bx => needS_ok hs h bx
  have i4 : ∀ bx, cIx bx s (.int 4) = some (.int gap) := fun bx => by rcases hs.1 with rfl | rfl <;> rfl
  have i5 : ∀ bx, cIx bx s (.int 5) = some (.int pause) := fun bx => by rcases hs.1 with rfl | rfl <;> rfl
  obtain ⟨a1, a2, a3, a4, b1, b2, b3, b4, c1, c2, c3, c4, d⟩ := h
  have r := fun bx => r_up (a := 256 * gap) (b := pause - gap) (by omega) (by omega) bx
  have g : (-18446744073709551616 < gap ∧ gap < 18446744073709551616) := by omega
  have z : span gap pause = gap * (up (256 * gap) (pause - gap) + 256) := rfl
  by_cases k : span gap pause ≤ 1000000
  · simp [fnD, noErr, sSeq, sRet, sOf, sNext, sSet, sIf, sDrop, sRaise, sUnp, sPar, setAll, toSeq, fVar, fCall, fCons, fA, fB, fNot, fIfB, fIfT, fChain, f1, f2, bnd, pur, lft, toB, iB, iI, cLen, cTup, cLst, cNot, isNon, cIsN, atI, ixN, cAbs, cInt, cMax, cMin, cIsi, cIsi2, D.ty, kb1, kb2, kb3, kb4, kb5, kb6, kb7, kb8, kc1, kc2, kc3, kc4, kc5, kc6, kd1, kd2, kd3, kd4, kd5, kd6, -cIx, m_doubt_span, S_doubt_span, e0, i4, i5, eqI, ne, iI, r, g, ← z, k]
  · simp [fnD, noErr, sSeq, sRet, sOf, sNext, sSet, sIf, sDrop, sRaise, sUnp, sPar, setAll, toSeq, fVar, fCall, fCons, fA, fB, fNot, fIfB, fIfT, fChain, f1, f2, bnd, pur, lft, toB, iB, iI, cLen, cTup, cLst, cNot, isNon, cIsN, atI, ixN, cAbs, cInt, cMax, cMin, cIsi, cIsi2, D.ty, kb1, kb2, kb3, kb4, kb5, kb6, kb7, kb8, kc1, kc2, kc3, kc4, kc5, kc6, kd1, kd2, kd3, kd4, kd5, kd6, -cIx, m_doubt_span, S_doubt_span, e0, i4, i5, eqI, ne, iI, r, g, ← z, k]
end K13

set_option Elab.async false
set_option linter.all false
set_option maxRecDepth 100000
set_option maxHeartbeats 4000000
namespace K13
open PySem PySem.Spec PyProof.Rows L2 Mi
theorem eqZ (i j : Int) (bx : Int × Int) : cEqD bx (.int i) (.int j) = some (.bl (decide (i = j))) := eqI bx i j
/-! ### drawing -/
theorem take_ok {n : Int} (h1 : 0 < n) (h2 : n < 1073741824) (bx : Int × Int) : ∃ d bx', m__law_take [.box, .int n] bx = .ok (.int d) bx' ∧ 0 ≤ d ∧ d < n := by
  obtain ⟨g, r⟩ := bx
  by_cases h : 0 < g
  · refine ⟨g % n, (g / n, r), ?_, Int.emod_nonneg _ (by omega), Int.emod_lt_of_pos _ h1⟩
    simp [fnD, noErr, sSeq, sRet, sOf, sNext, sSet, sIf, sDrop, sRaise, sUnp, sPar, setAll, toSeq, fVar, fCall, fCons, fA, fB, fNot, fIfB, fIfT, fChain, f1, f2, bnd, pur, lft, toB, iB, iI, cIx, cLen, cTup, cLst, cNot, isNon, cIsN, atI, ixN, cAbs, cInt, cMax, cMin, m__law_take, S__law_take, sStore, isBox, iI, h, h1, h2]
  · have p1 := Int.emod_nonneg (r * 39373 + 101) (b := 2147483647) (by omega)
    have p2 := Int.emod_lt_of_pos (r * 39373 + 101) (b := 2147483647) (by omega)
    have p3 : -18446744073709551616 < (r * 39373 + 101) % 2147483647 := by omega
    have p4 : (r * 39373 + 101) % 2147483647 < 18446744073709551616 := by omega
    refine ⟨((r * 39373 + 101) % 2147483647 * 2147483629 + (((r * 39373 + 101) % 2147483647 * 40692 + 17) % 2147483563 + 1)) / 8233 % n, (g, ((r * 39373 + 101) % 2147483647 * 40692 + 17) % 2147483563 + 1), ?_, Int.emod_nonneg _ (by omega), Int.emod_lt_of_pos _ h1⟩
    simp [fnD, noErr, sSeq, sRet, sOf, sNext, sSet, sIf, sDrop, sRaise, sUnp, sPar, setAll, toSeq, fVar, fCall, fCons, fA, fB, fNot, fIfB, fIfT, fChain, f1, f2, bnd, pur, lft, toB, iB, iI, cIx, cLen, cTup, cLst, cNot, isNon, cIsN, atI, ixN, cAbs, cInt, cMax, cMin, m__law_take, S__law_take, sStore, isBox, iI, h, h1, h2, p3, p4]
theorem atI_of {l : List D} {d : Int} (h1 : 0 ≤ d) (h2 : d < l.length) : ∃ x ∈ l, atI l d = some x := by
  have e : ixN l.length d = some d.toNat := by unfold ixN; rw [if_pos h1, if_pos h2]
  have h3 : d.toNat < l.length := by omega
  refine ⟨l[d.toNat], List.getElem_mem h3, ?_⟩
  unfold atI
  rw [e]
  exact List.getElem?_eq_getElem h3
theorem pick_ok {l : List D} (h1 : 0 < l.length) (h2 : l.length < 1073741824) (bx : Int × Int) : ∃ d bx', m__law_pick [.box, .lst l] bx = .ok d bx' ∧ d ∈ l := by
  obtain ⟨d, bx', e, p1, p2⟩ := take_ok (n := l.length) (by omega) (by omega) bx
  obtain ⟨x, hx, e2⟩ := atI_of p1 p2
  refine ⟨x, bx', ?_, hx⟩
  simp [fnD, noErr, sSeq, sRet, sOf, sNext, sSet, sIf, sDrop, sRaise, sUnp, sPar, setAll, toSeq, fVar, fCall, fCons, fA, fB, fNot, fIfB, fIfT, fChain, f1, f2, bnd, pur, lft, toB, iB, iI, cIx, cLen, cTup, cLst, cNot, isNon, cIsN, ixN, cAbs, cInt, cMax, cMin, -atI, m__law_pick, S__law_pick, e, e2]
/-- what a source drawn here is -/
structure Src (low high least most gap pause : Int) : Prop where
  ok : srcI low high least most gap pause
  lo : low ≤ 3
  gp : gap ≤ 4
  pa : pause = gap ∨ pause = gap + 1 ∨ pause = gap + 2 ∨ pause = gap + 3 ∨ pause = gap + 9
theorem source_ok (bx : Int × Int) : ∃ low high least most gap pause bx', m__law_source [.box] bx = .ok (.tup [.int low, .int high, .int least, .int most, .int gap, .int pause]) bx' ∧ Src low high least most gap pause := by
  obtain ⟨g, bx1, e1, p1, p2⟩ := take_ok (n := 4) (by decide) (by decide) bx
  obtain ⟨x, bx2, e2, hx⟩ := pick_ok (l := [.int 0, .int 1, .int 2, .int 3, .int 9]) (by decide) (by decide) bx1
  obtain ⟨i, rfl, hi⟩ : ∃ i, x = .int i ∧ (i = 0 ∨ i = 1 ∨ i = 2 ∨ i = 3 ∨ i = 9) := by
    simp only [List.mem_cons, List.not_mem_nil, or_false] at hx
    rcases hx with rfl | rfl | rfl | rfl | rfl <;> exact ⟨_, rfl, by decide⟩
  obtain ⟨lo, bx3, e3, p3, p4⟩ := take_ok (n := 3) (by decide) (by decide) bx2
  obtain ⟨ls, bx4, e4, p5, p6⟩ := take_ok (n := 3) (by decide) (by decide) bx3
  obtain ⟨hi', bx5, e5, p7, p8⟩ := take_ok (n := 3) (by decide) (by decide) bx4
  have pr : 1 ≤ (1 + lo) * (1 + g) ∧ (1 + lo) * (1 + g) ≤ 12 := by
    have : lo = 0 ∨ lo = 1 ∨ lo = 2 := by omega
    rcases this with rfl | rfl | rfl <;> omega
  obtain ⟨mo, bx6, e6, p9, p10⟩ := take_ok (n := (1 + lo) * (1 + g)) (by omega) (by omega) bx5
  refine ⟨1 + lo, 1 + lo + hi', ls, ls + mo, 1 + g, 1 + g + i, bx6, ?_, ⟨?_, by omega, by omega, by omega⟩⟩
  · have q1 : -18446744073709551616 < 1 + lo := by omega
    have q2 : 1 + lo < 18446744073709551616 := by omega
    simp [fnD, noErr, sSeq, sRet, sOf, sNext, sSet, sIf, sDrop, sRaise, sUnp, sPar, setAll, toSeq, fVar, fCall, fCons, fA, fB, fNot, fIfB, fIfT, fChain, f1, f2, bnd, pur, lft, toB, iB, iI, cIx, cLen, cTup, cLst, cNot, isNon, cIsN, atI, ixN, cAbs, cInt, cMax, cMin, m__law_source, S__law_source, e1, e2, e3, e4, e5, e6, iI, q1, q2]
  · unfold srcI
    omega
/-! ### lists that a comprehension makes -/
theorem lcGo_ok {x : Nat} {δ : List (Option D)} {C : Fn Bool} {F : Fn D} {p : Int → Bool} (hC : ∀ i bx, C (δ.set x (some (.int i))) bx = .ok (p i) bx) (hF : ∀ i bx, F (δ.set x (some (.int i))) bx = .ok (.int i) bx) :
    ∀ (n : Nat) (i : Int) (bx : Int × Int) (acc : List D), lcGo x δ C F n i bx acc = .ok (.lst (acc ++ (((List.range n).map fun k => i + (k : Nat)).filter p).map D.int)) bx
  | 0, i, bx, acc => by simp [fnD, noErr, sSeq, sRet, sOf, sNext, sSet, sIf, sDrop, sRaise, sUnp, sPar, setAll, toSeq, fVar, fCall, fCons, fA, fB, fNot, fIfB, fIfT, fChain, f1, f2, bnd, pur, lft, toB, iB, iI, cIx, cLen, cTup, cLst, cNot, isNon, cIsN, atI, ixN, cAbs, cInt, cMax, cMin, lcGo]
  | n + 1, i, bx, acc => by
    have ih := fun j acc => lcGo_ok hC hF n j bx acc
    have e : (List.range (n + 1)).map (fun k => i + (k : Nat)) = i :: (List.range n).map (fun k => i + 1 + (k : Nat)) := by
      rw [List.range_succ_eq_map, List.map_cons, List.map_map]
      congr 1
      · simp [fnD, noErr, sSeq, sRet, sOf, sNext, sSet, sIf, sDrop, sRaise, sUnp, sPar, setAll, toSeq, fVar, fCall, fCons, fA, fB, fNot, fIfB, fIfT, fChain, f1, f2, bnd, pur, lft, toB, iB, iI, cIx, cLen, cTup, cLst, cNot, isNon, cIsN, atI, ixN, cAbs, cInt, cMax, cMin]
      · apply List.map_congr_left
        intro k _
        simp only [Function.comp, Nat.succ_eq_add_one, Int.natCast_add, Int.natCast_one]
        omega
    rw [e]
    unfold lcGo
    rw [hC i bx]
    cases hp : p i with
    | false => simp [fnD, noErr, sSeq, sRet, sOf, sNext, sSet, sIf, sDrop, sRaise, sUnp, sPar, setAll, toSeq, fVar, fCall, fCons, fA, fB, fNot, fIfB, fIfT, fChain, f1, f2, bnd, pur, lft, toB, iB, iI, cIx, cLen, cTup, cLst, cNot, isNon, cIsN, atI, ixN, cAbs, cInt, cMax, cMin, ih, hp]
    | true => simp [fnD, noErr, sSeq, sRet, sOf, sNext, sSet, sIf, sDrop, sRaise, sUnp, sPar, setAll, toSeq, fVar, fCall, fCons, fA, fB, fNot, fIfB, fIfT, fChain, f1, f2, bnd, pur, lft, toB, iB, iI, cIx, cLen, cTup, cLst, cNot, isNon, cIsN, atI, ixN, cAbs, cInt, cMax, cMin, ih, hp, hF]
/-- two rising lists with the same members are one list -/
theorem rise_eq : ∀ {l m : List Int}, l.Pairwise (· < ·) → m.Pairwise (· < ·) → (∀ x, x ∈ l ↔ x ∈ m) → l = m
  | [], [], _, _, _ => rfl
  | [], y :: m, _, _, h => by have := (h y).mpr List.mem_cons_self; cases this
  | x :: l, [], _, _, h => by have := (h x).mp List.mem_cons_self; cases this
  | x :: l, y :: m, h1, h2, h => by
    obtain ⟨a1, b1⟩ := List.pairwise_cons.mp h1
    obtain ⟨a2, b2⟩ := List.pairwise_cons.mp h2
    have e : x = y := by
      rcases List.mem_cons.mp ((h x).mp List.mem_cons_self) with e | e
      · exact e
      · rcases List.mem_cons.mp ((h y).mpr List.mem_cons_self) with e' | e'
        · exact e'.symm
        · have q1 := a2 x e
          have q2 := a1 y e'
          omega
    subst e
    congr 1
    refine rise_eq b1 b2 fun z => ⟨fun hz => ?_, fun hz => ?_⟩
    · rcases List.mem_cons.mp ((h z).mp (List.mem_cons_of_mem _ hz)) with e | e
      · subst e
        have := a1 z hz
        omega
      · exact e
    · rcases List.mem_cons.mp ((h z).mpr (List.mem_cons_of_mem _ hz)) with e | e
      · subst e
        have := a2 z hz
        omega
      · exact e
theorem rng_rise (n : Nat) (i s : Int) (hs : 0 < s) : ((List.range n).map fun k : Nat => i + (k : Int) * s).Pairwise (· < ·) := by
  rw [List.pairwise_map]
  refine List.Pairwise.imp ?_ List.pairwise_lt_range
  intro a b h
  have : (a : Int) * s < (b : Int) * s := Int.mul_lt_mul_of_pos_right (by omega) hs
  omega
theorem mem_prog {a b x : Int} : x ∈ ((List.range (Builtin.Range.rangeSize a (b + 1) 256).toNat).map fun i : Nat => a + (i : Int) * 256) ↔ a ≤ x ∧ x ≤ b ∧ (x - a) % 256 = 0 := by
  rw [List.mem_map]
  have e : Builtin.Range.rangeSize a (b + 1) 256 = if a ≤ b then (b - a) / 256 + 1 else 0 := by
    unfold Builtin.Range.rangeSize
    simp only [gt_iff_lt, Int.reduceLT, if_true]
    by_cases h : a ≤ b
    · rw [if_pos h, if_pos (by omega)]
      congr 2
      omega
    · rw [if_neg h, if_neg (by omega)]
  rw [e]
  constructor
  · rintro ⟨i, hi, rfl⟩
    rw [List.mem_range] at hi
    split at hi <;> omega
  · rintro ⟨h1, h2, h3⟩
    refine ⟨((x - a) / 256).toNat, ?_, ?_⟩
    · rw [List.mem_range, if_pos (by omega)]
      omega
    · omega
/-- a list of what stands in a stretch is every 256th number of it -/
theorem filter_prog {n : Nat} {i a b : Int} {p : Int → Bool} (h : ∀ x, (i ≤ x ∧ x < i + n ∧ p x = true) ↔ (a ≤ x ∧ x ≤ b ∧ (x - a) % 256 = 0)) :
    (((List.range n).map fun k : Nat => i + (k : Int)).filter p).map D.int = prog a b := by
  have z : ((List.range n).map fun k : Nat => i + (k : Int)).filter p = ((List.range (Builtin.Range.rangeSize a (b + 1) 256).toNat).map fun i : Nat => a + (i : Int) * 256) := by
    refine rise_eq (List.Pairwise.filter _ ?_) (rng_rise _ _ _ (by decide)) fun x => ?_
    · have := rng_rise n i 1 (by decide)
      simpa only [Int.mul_one] using this
    · rw [mem_prog, List.mem_filter, List.mem_map, ← h x]
      constructor
      · rintro ⟨⟨k, hk, rfl⟩, hp⟩
        rw [List.mem_range] at hk
        exact ⟨by omega, by omega, hp⟩
      · rintro ⟨h1, h2, h3⟩
        exact ⟨⟨(x - i).toNat, by rw [List.mem_range]; omega, by omega⟩, h3⟩
  rw [z, prog, List.map_map]
  rfl
end K13

set_option Elab.async false
set_option linter.all false
set_option maxRecDepth 100000
set_option maxHeartbeats 4000000
namespace K13
open PySem PySem.Spec PyProof.Rows L2 Mi
section
variable {S T : Sn} {δ δ' : List (Option D)} {bx bx' bx2 : Int × Int} {d z : D} {ds : List D} {F : Fn D} {A : Fn (List D)} {C : Fn Bool} {r : Rs}
theorem sSeq_nx (h : S δ bx = .nx δ' bx') : sSeq S T δ bx = T δ' bx' := by unfold sSeq; rw [h]
theorem sSeq_rt (h : S δ bx = .rt d bx') : sSeq S T δ bx = .rt d bx' := by unfold sSeq; rw [h]
theorem sSet_ok {i : Nat} (h : F δ bx = .ok d bx') : sSet i F δ bx = .nx (δ.set i (some d)) bx' := by unfold sSet sOf; rw [h]
theorem sRet_ok (h : F δ bx = .ok d bx') : sRet F δ bx = .rt d bx' := by unfold sRet sOf; rw [h]
theorem sIf_no (h : C δ bx = .ok false bx') (h2 : T δ bx' = r) : sIf C S T δ bx = r := by unfold sIf sOf; rw [h]; exact h2
theorem sIf_yes (h : C δ bx = .ok true bx') (h2 : S δ bx' = r) : sIf C S T δ bx = r := by unfold sIf sOf; rw [h]; exact h2
theorem fA_ok {f : List D → Option D} (h : A δ bx = .ok ds bx') (h2 : f ds = some z) : fA f A δ bx = .ok z bx' := by unfold fA bnd; rw [h]; show lft (f ds) δ bx' = _; rw [h2]; rfl
theorem fCons_ok (h : F δ bx = .ok d bx') (h2 : A δ bx' = .ok ds bx2) : fCons F A δ bx = .ok (d :: ds) bx2 := by unfold fCons bnd; rw [h]; show bnd A _ δ bx' = _; unfold bnd; rw [h2]; rfl
theorem fCall_ok {g : List D → Int × Int → Res D} (h : A δ bx = .ok ds bx') (h2 : g ds bx' = .ok z bx2) : fCall g A δ bx = .ok z bx2 := by unfold fCall bnd; rw [h]; exact h2
theorem fLc_ok {x : Nat} {Fi : Fn (Int × Nat)} {lo : Int} {n : Nat} {p : Int → Bool} (hi : Fi δ bx = .ok (lo, n) bx) (hn : n ≤ 100000) (hC : ∀ i bx, C ((δ.set x none).set x (some (.int i))) bx = .ok (p i) bx)
    (hF : ∀ i bx, F ((δ.set x none).set x (some (.int i))) bx = .ok (.int i) bx) : fLc x Fi C F δ bx = .ok (.lst ((((List.range n).map fun k => lo + (k : Nat)).filter p).map D.int)) bx := by
  unfold fLc bnd
  rw [hi]
  show (if n ≤ 100000 then lcGo x (δ.set x none) C F n lo bx [] else .bad) = _
  rw [if_pos hn, lcGo_ok hC hF n lo bx []]
  rfl
theorem fn_rt {N : List Str} (h : S (ds.map some ++ List.replicate (N.length - ds.length) none) bx = .rt d bx') : noErr (fnD N S ds bx) = .ok d bx' := by unfold fnD; rw [h]; rfl
end
/-- the counts by trying -/
theorem lawcounts_ok {low high least most gap pause n1 t1 n2 t2 : Int} (h : srcI low high least most gap pause) (lt : t1 < t2) (hi : t2 - t1 ≤ 100000) (bx : Int × Int) :
    m__law_counts [.tup [.int low, .int high, .int least, .int most, .int gap, .int pause], .tup [.int n1, .int t1], .tup [.int n2, .int t2]] bx = .ok (.tup (prog (fst_ pause n1 t1 n2 t2) ((t2 - t1) / gap))) bx := by
  obtain ⟨a1, a2, a3, a4, b1, b2, b3, b4, c1, c2, c3, c4, d⟩ := h
  have g1 : 0 < gap := by omega
  have g2 : gap < 1073741824 := by omega
  have q := div_le_ (d := t2 - t1) (g := gap) (by omega) (by omega)
  have p1 : -18446744073709551616 < pause := by omega
  have p2 : pause < 18446744073709551616 := by omega
  have z1 : -(4611686018427387904 : Int) ≤ (t2 - t1) / gap + 1 := by omega
  have z2 : (t2 - t1) / gap + 1 < 4611686018427387904 := by omega
  refine fn_rt ((sSeq_nx (sSet_ok (d := .int (t2 - t1)) (bx' := bx) (by simp [fnD, noErr, sSeq, sRet, sOf, sNext, sSet, sIf, sDrop, sRaise, sUnp, sPar, setAll, toSeq, fVar, fCall, fCons, fA, fB, fNot, fIfB, fIfT, fChain, f1, f2, bnd, pur, lft, toB, iB, iI, cIx, cLen, cTup, cLst, cNot, isNon, cIsN, atI, ixN, cAbs, cInt, cMax, cMin, eqZ, iI]))).trans (sSeq_rt ?_))
  refine (sRet_ok (fA_ok (fCons_ok (bx2 := bx) (fLc_ok (lo := 1) (n := ((t2 - t1) / gap + 1 - 1).toNat) (p := fun m => decide (t2 - t1 ≤ pause * m) && decide ((n1 + m - n2) % 256 = 0)) ?_ ?_ (fun i bx => ?_) fun i bx => ?_) rfl) rfl)).trans ?_
  · simp [fnD, noErr, sSeq, sRet, sOf, sNext, sSet, sIf, sDrop, sRaise, sUnp, sPar, setAll, toSeq, fVar, fCall, fCons, fA, fB, fNot, fIfB, fIfT, fChain, f1, f2, bnd, pur, lft, toB, iB, iI, cIx, cLen, cTup, cLst, cNot, isNon, cIsN, atI, ixN, cAbs, cInt, cMax, cMin, eqZ, fRg2, iI, g1, g2, z1, z2]
  · omega
  · by_cases k : t2 - t1 ≤ pause * i <;> simp [fnD, noErr, sSeq, sRet, sOf, sNext, sSet, sIf, sDrop, sRaise, sUnp, sPar, setAll, toSeq, fVar, fCall, fCons, fA, fB, fNot, fIfB, fIfT, fChain, f1, f2, bnd, pur, lft, toB, iB, iI, cIx, cLen, cTup, cLst, cNot, isNon, cIsN, atI, ixN, cAbs, cInt, cMax, cMin, eqZ, iI, p1, p2, k]
  · simp [fnD, noErr, sSeq, sRet, sOf, sNext, sSet, sIf, sDrop, sRaise, sUnp, sPar, setAll, toSeq, fVar, fCall, fCons, fA, fB, fNot, fIfB, fIfT, fChain, f1, f2, bnd, pur, lft, toB, iB, iI, cIx, cLen, cTup, cLst, cNot, isNon, cIsN, atI, ixN, cAbs, cInt, cMax, cMin, eqZ]
  · have u := up_pos (a := t2 - t1) (b := pause) (by omega) (by omega)
    rw [filter_prog (a := fst_ pause n1 t1 n2 t2) (b := (t2 - t1) / gap)]
    intro x
    have e := up_least (a := t2 - t1) (b := pause) (m := x) (by omega)
    simp only [Bool.and_eq_true, decide_eq_true_eq, e]
    unfold fst_
    omega
/-! ### the doubt span -/
theorem span_bd {gap pause : Int} (h1 : 1 ≤ gap) (h2 : gap ≤ 4) (h3 : gap < pause) : 256 < span gap pause ∧ span gap pause ≤ 5120 ∧ 1 ≤ up (256 * gap) (pause - gap) := by
  have u := up_pos (a := 256 * gap) (b := pause - gap) (by omega) (by omega)
  unfold span
  have : gap = 1 ∨ gap = 2 ∨ gap = 3 ∨ gap = 4 := by omega
  rcases this with rfl | rfl | rfl | rfl <;> omega
theorem span_few {gap pause m : Int} (h3 : gap < pause) : gap * (m + 256) ≤ pause * m ↔ up (256 * gap) (pause - gap) ≤ m := by
  rw [← up_least (by omega), Int.mul_add, Int.sub_mul, Int.mul_comm 256 gap]
  omega
theorem span_over {gap pause x : Int} (h1 : 1 ≤ gap) (h3 : gap < pause) (hx : x < span gap pause) : ¬ 256 ≤ x / gap - (x + pause - 1) / pause := by
  intro k
  generalize hm : (x + pause - 1) / pause = m at k
  have e1 : x ≤ pause * m := by
    have h := Int.mul_ediv_add_emod (x + pause - 1) pause
    have h' := Int.emod_lt_of_pos (x + pause - 1) (b := pause) (by omega)
    rw [hm] at h
    omega
  have e2 : gap * (m + 256) ≤ x := by
    have h := Int.mul_ediv_self_le (x := x) (k := gap) (by omega)
    have h' : gap * (m + 256) ≤ gap * (x / gap) := Int.mul_le_mul_of_nonneg_left (by omega) (by omega)
    omega
  have e3 := (span_few h3).mp (Int.le_trans e2 e1)
  have e4 : span gap pause ≤ gap * (m + 256) := Int.mul_le_mul_of_nonneg_left (by omega) (by omega)
  omega
theorem ints_pure : ∀ l : List Int, D.pureAll (l.map D.int) = true
  | [] => rfl
  | i :: r => by
    show (true && D.pureAll (r.map D.int)) = true
    rw [ints_pure r]
    rfl
theorem ints_py : ∀ l : List Int, D.pyAll (l.map D.int) = l.map PyData.int
  | [] => rfl
  | i :: r => by
    show PyData.int i :: D.pyAll (r.map D.int) = _
    rw [ints_py r]
    rfl
theorem ints_lay : ∀ l : List Int, PyData.canLayAll0 (l.map PyData.int) = true
  | [] => by simp [fnD, noErr, sSeq, sRet, sOf, sNext, sSet, sIf, sDrop, sRaise, sUnp, sPar, setAll, toSeq, fVar, fCall, fCons, fA, fB, fNot, fIfB, fIfT, fChain, f1, f2, bnd, pur, lft, toB, iB, iI, cIx, cLen, cTup, cLst, cNot, isNon, cIsN, atI, ixN, cAbs, cInt, cMax, cMin, eqZ, PyData.canLayAll0]
  | i :: r => by
    simp [fnD, noErr, sSeq, sRet, sOf, sNext, sSet, sIf, sDrop, sRaise, sUnp, sPar, setAll, toSeq, fVar, fCall, fCons, fA, fB, fNot, fIfB, fIfT, fChain, f1, f2, bnd, pur, lft, toB, iB, iI, cIx, cLen, cTup, cLst, cNot, isNon, cIsN, atI, ixN, cAbs, cInt, cMax, cMin, eqZ, PyData.canLayAll0, PyData.canLay0, ints_lay r]
theorem ints_depth : ∀ l : List Int, PyData.depthAll (l.map PyData.int) = 0
  | [] => by simp [fnD, noErr, sSeq, sRet, sOf, sNext, sSet, sIf, sDrop, sRaise, sUnp, sPar, setAll, toSeq, fVar, fCall, fCons, fA, fB, fNot, fIfB, fIfT, fChain, f1, f2, bnd, pur, lft, toB, iB, iI, cIx, cLen, cTup, cLst, cNot, isNon, cIsN, atI, ixN, cAbs, cInt, cMax, cMin, eqZ, PyData.depthAll]
  | i :: r => by simp [fnD, noErr, sSeq, sRet, sOf, sNext, sSet, sIf, sDrop, sRaise, sUnp, sPar, setAll, toSeq, fVar, fCall, fCons, fA, fB, fNot, fIfB, fIfT, fChain, f1, f2, bnd, pur, lft, toB, iB, iI, cIx, cLen, cTup, cLst, cNot, isNon, cIsN, atI, ixN, cAbs, cInt, cMax, cMin, eqZ, PyData.depthAll, PyData.depth, ints_depth r]
theorem eq_nil (i : Int) (l : List Int) (bx : Int × Int) : cEqD bx (.lst ((i :: l).map D.int)) (.lst []) = some (.bl false) := by
  have e := ints_lay (i :: l)
  have e2 := ints_depth (i :: l)
  have e3 := ints_py (i :: l)
  have e4 := ints_pure (i :: l)
  unfold cEqD
  rw [if_pos]
  · simp only [D.py, e3, D.pyAll, List.map_cons, PyData.eqv, PyData.eqvAll]
  · simp [fnD, noErr, sSeq, sRet, sOf, sNext, sSet, sIf, sDrop, sRaise, sUnp, sPar, setAll, toSeq, fVar, fCall, fCons, fA, fB, fNot, fIfB, fIfT, fChain, f1, f2, bnd, pur, lft, toB, iB, iI, cIx, cLen, cTup, cLst, cNot, isNon, cIsN, atI, ixN, cAbs, cInt, cMax, cMin, eqZ, -List.map_cons, D.pure, D.py, e3, e4, D.pyAll, D.pureAll, SeqAt.shaped, PyData.canLay0, e, PyData.depth, e2, PyData.canLayAll0, PyData.depthAll]
end K13

set_option Elab.async false
set_option linter.all false
set_option maxRecDepth 100000
set_option maxHeartbeats 4000000
namespace K13
open PySem PySem.Spec PyProof.Rows L2 Mi
abbrev srcT (low high least most gap pause : Int) : D := .tup [.int low, .int high, .int least, .int most, .int gap, .int pause]
theorem six_t {low high least most gap pause : Int} : Six (srcT low high least most gap pause) [.int low, .int high, .int least, .int most, .int gap, .int pause] := ⟨.inl rfl, rfl⟩
theorem forL_nx {x : Nat} {S : Sn} {P : Int → Prop} {J : List (Option D) → Prop} (h : ∀ i δ bx, P i → J δ → ∃ δ', S (δ.set x (some (.int i))) bx = .nx δ' bx ∧ J δ') : ∀ (l : List Int) (δ : List (Option D)) (bx : Int × Int), (∀ i ∈ l, P i) → J δ → ∃ δ', forL x S (l.map D.int) δ bx = .nx δ' bx ∧ J δ'
  | [], δ, bx, _, j => ⟨δ, rfl, j⟩
  | i :: r, δ, bx, hl, j => by
    obtain ⟨δ1, e, j1⟩ := h i δ bx (hl i List.mem_cons_self) j
    obtain ⟨δ2, e2, j2⟩ := forL_nx h r δ1 bx (fun k hk => hl k (List.mem_cons_of_mem _ hk)) j1
    refine ⟨δ2, ?_, j2⟩
    show forL x S (.int i :: r.map D.int) δ bx = _
    unfold forL
    rw [e]
    exact e2
theorem sForL_ok {x : Nat} {F : Fn D} {S : Sn} {δ : List (Option D)} {bx bx' : Int × Int} {l : List D} (h : F δ bx = .ok (.lst l) bx') : sForL x F S δ bx = forL x S l δ bx' := by unfold sForL sOf; rw [h]
theorem doubt_right {low high least most gap pause : Int} (h : Src low high least most gap pause) (bx : Int × Int) : ∃ bx', m__law_doubt_right [.box, srcT low high least most gap pause] bx = .ok (.bl true) bx' := by
  by_cases eq : gap = pause
  · subst eq
    have e1 := fun bx => doubt_eq (s := srcT low high least most gap gap) six_t h.ok bx
    have e2 := fun bx => doubt_eq (s := .lst [.int low, .int high, .int least, .int most, .int gap, .int gap]) ⟨.inr rfl, rfl⟩ h.ok bx
    refine ⟨bx, fn_rt ((sSeq_nx (δ' := [some .box, some (srcT low high least most gap gap), some .non, some (.int gap), some (.int gap), none, none, none]) (bx' := bx) (by simp [fnD, noErr, sSeq, sRet, sOf, sNext, sSet, sIf, sDrop, sRaise, sUnp, sPar, setAll, toSeq, fVar, fCall, fCons, fA, fB, fNot, fIfB, fIfT, fChain, f1, f2, bnd, pur, lft, toB, iB, iI, cIx, cLen, cTup, cLst, cNot, isNon, cIsN, atI, ixN, cAbs, cInt, cMax, cMin, eqZ, e1])).trans (sSeq_rt ?_))⟩
    simp [fnD, noErr, sSeq, sRet, sOf, sNext, sSet, sIf, sDrop, sRaise, sUnp, sPar, setAll, toSeq, fVar, fCall, fCons, fA, fB, fNot, fIfB, fIfT, fChain, f1, f2, bnd, pur, lft, toB, iB, iI, cIx, cLen, cTup, cLst, cNot, isNon, cIsN, atI, ixN, cAbs, cInt, cMax, cMin, eqZ, fCallK, pick, cListOf, e1, e2]
  · obtain ⟨ok, lo, gp, pa⟩ := h
    have ok' := ok
    obtain ⟨a1, a2, a3, a4, b1, b2, b3, b4, c1, c2, c3, c4, d⟩ := ok
    have ne : gap < pause := by omega
    have bd := span_bd c1 gp ne
    have sp : span gap pause = gap * (up (256 * gap) (pause - gap) + 256) := rfl
    have few := span_few (gap := gap) (pause := pause) (m := up (256 * gap) (pause - gap)) ne
    have over := fun x => span_over (x := x) c1 ne
    have e1 := fun bx => doubt_ne (s := srcT low high least most gap pause) six_t ok' eq bx
    simp only [show span gap pause ≤ 1000000 from by omega, if_true] at e1
    generalize hf : up (256 * gap) (pause - gap) = f at bd sp few
    have few' := few.mpr (Int.le_refl _)
    generalize ht : span gap pause = told at bd sp over e1
    have g1 : 0 < gap := by omega
    have g2 : gap < 1073741824 := by omega
    have p1 : 0 < pause := by omega
    have p2 : pause < 1073741824 := by omega
    have q := div_le_ (d := told) (g := gap) (by omega) g1
    have w1 : -18446744073709551616 < gap := by omega
    have w2 : gap < 18446744073709551616 := by omega
    have w3 : -18446744073709551616 < pause := by omega
    have w4 : pause < 18446744073709551616 := by omega
    have z1 : -(4611686018427387904 : Int) ≤ told / gap + 1 := by omega
    have z2 : told / gap + 1 < 4611686018427387904 := by omega
    have nl : ¬ (1000000 : Int) < told := by omega
    -- the counts that are two
    obtain ⟨p, hp⟩ : ∃ p : Int → Bool, p = fun m => decide (gap * (m + 256) ≤ told) && decide (told ≤ pause * m) := ⟨_, rfl⟩
    obtain ⟨two, htwo⟩ : ∃ two, two = ((List.range (told / gap + 1 - 1).toNat).map fun k : Nat => 1 + (k : Int)).filter p := ⟨_, rfl⟩
    have mem : f ∈ two := by
      have dv : told / gap = f + 256 := by rw [sp, Int.mul_ediv_cancel_left _ (by omega)]
      rw [htwo, List.mem_filter, List.mem_map]
      refine ⟨⟨(f - 1).toNat, by rw [List.mem_range, dv]; omega, by omega⟩, ?_⟩
      rw [hp]
      simp only [Bool.and_eq_true, decide_eq_true_eq]
      exact ⟨by omega, by omega⟩
    obtain ⟨m, r, hm⟩ : ∃ m r, two = m :: r := by
      cases two with
      | nil => cases mem
      | cons m r => exact ⟨m, r, rfl⟩
    have pm : gap * (m + 256) ≤ told ∧ told ≤ pause * m := by
      have : m ∈ two := by rw [hm]; exact List.mem_cons_self
      rw [htwo, List.mem_filter, hp] at this
      simpa only [Bool.and_eq_true, decide_eq_true_eq] using this.2
    have um := (up_least (a := told) (b := pause) (m := m) p1).mp pm.2
    have dm : m + 256 ≤ told / gap := Int.le_ediv_of_mul_le g1 (by rw [Int.mul_comm]; exact pm.1)
    have cn := fun bx => counts_ok (one := .tup [.int 0, .int 0]) (other := .tup [.int (m % 256), .int told]) (n1 := 0) (t1 := 0) (n2 := m % 256) (t2 := told) (s := srcT low high least most gap pause) six_t ok' (.inl rfl) (.inl rfl) ⟨by omega, by omega, by omega, by omega⟩ ⟨by omega, by omega, by omega, by omega⟩ (by omega) (by omega) bx
    simp only [Int.sub_zero] at cn
    have ln : 2 ≤ (prog (fst_ pause 0 0 (m % 256) told) (told / gap)).length := by
      unfold prog
      rw [List.length_map, List.length_range]
      have e : fst_ pause 0 0 (m % 256) told + 256 ≤ told / gap := by
        unfold fst_
        simp only [Int.sub_zero]
        omega
      unfold Builtin.Range.rangeSize
      simp only [gt_iff_lt, Int.reduceLT, if_true]
      rw [if_pos (by omega)]
      omega
    generalize prog (fst_ pause 0 0 (m % 256) told) (told / gap) = pl at cn ln
    have ln' : ¬ (pl.length : Int) < 2 := by omega
    obtain ⟨t, bx1, et, t1, t2⟩ := take_ok (n := told) (by omega) (by omega) bx
    refine ⟨bx1, fn_rt ((sSeq_nx (δ' := [some .box, some (srcT low high least most gap pause), some (.int told), some (.int gap), some (.int pause), none, none, none]) (bx' := bx) (by simp [fnD, noErr, sSeq, sRet, sOf, sNext, sSet, sIf, sDrop, sRaise, sUnp, sPar, setAll, toSeq, fVar, fCall, fCons, fA, fB, fNot, fIfB, fIfT, fChain, f1, f2, bnd, pur, lft, toB, iB, iI, cIx, cLen, cTup, cLst, cNot, isNon, cIsN, atI, ixN, cAbs, cInt, cMax, cMin, eqZ, e1])).trans ?_)⟩
    refine (sSeq_nx (sIf_no (bx' := bx) (by simp [fnD, noErr, sSeq, sRet, sOf, sNext, sSet, sIf, sDrop, sRaise, sUnp, sPar, setAll, toSeq, fVar, fCall, fCons, fA, fB, fNot, fIfB, fIfT, fChain, f1, f2, bnd, pur, lft, toB, iB, iI, cIx, cLen, cTup, cLst, cNot, isNon, cIsN, atI, ixN, cAbs, cInt, cMax, cMin, eqZ, eq]) rfl)).trans ?_
    refine (sSeq_nx (sIf_no (bx' := bx) (by simp [fnD, noErr, sSeq, sRet, sOf, sNext, sSet, sIf, sDrop, sRaise, sUnp, sPar, setAll, toSeq, fVar, fCall, fCons, fA, fB, fNot, fIfB, fIfT, fChain, f1, f2, bnd, pur, lft, toB, iB, iI, cIx, cLen, cTup, cLst, cNot, isNon, cIsN, atI, ixN, cAbs, cInt, cMax, cMin, eqZ, cIsi, D.ty, kb1, cPow, iI, nl]) rfl)).trans ?_
    refine (sSeq_nx (sSet_ok (bx' := bx) (fLc_ok (lo := 1) (n := (told / gap + 1 - 1).toNat) (p := p) ?_ (by omega) (fun i bx => ?_) fun i bx => ?_))).trans ?_
    · simp [fnD, noErr, sSeq, sRet, sOf, sNext, sSet, sIf, sDrop, sRaise, sUnp, sPar, setAll, toSeq, fVar, fCall, fCons, fA, fB, fNot, fIfB, fIfT, fChain, f1, f2, bnd, pur, lft, toB, iB, iI, cIx, cLen, cTup, cLst, cNot, isNon, cIsN, atI, ixN, cAbs, cInt, cMax, cMin, eqZ, fRg2, iI, g1, g2, z1, z2]
    · rw [hp]
      by_cases k : gap * (i + 256) ≤ told <;> simp [fnD, noErr, sSeq, sRet, sOf, sNext, sSet, sIf, sDrop, sRaise, sUnp, sPar, setAll, toSeq, fVar, fCall, fCons, fA, fB, fNot, fIfB, fIfT, fChain, f1, f2, bnd, pur, lft, toB, iB, iI, cIx, cLen, cTup, cLst, cNot, isNon, cIsN, atI, ixN, cAbs, cInt, cMax, cMin, eqZ, iI, w1, w2, w3, w4, k]
    · simp [fnD, noErr, sSeq, sRet, sOf, sNext, sSet, sIf, sDrop, sRaise, sUnp, sPar, setAll, toSeq, fVar, fCall, fCons, fA, fB, fNot, fIfB, fIfT, fChain, f1, f2, bnd, pur, lft, toB, iB, iI, cIx, cLen, cTup, cLst, cNot, isNon, cIsN, atI, ixN, cAbs, cInt, cMax, cMin, eqZ]
    rw [← htwo, hm]
    refine (sSeq_nx (sIf_no (bx' := bx) ?_ rfl)).trans ?_
    · have e := eq_nil m r bx
      simp only [List.map_cons] at e
      simp [fnD, noErr, sSeq, sRet, sOf, sNext, sSet, sIf, sDrop, sRaise, sUnp, sPar, setAll, toSeq, fVar, fCall, fCons, fA, fB, fNot, fIfB, fIfT, fChain, f1, f2, bnd, pur, lft, toB, iB, iI, cIx, cLen, cTup, cLst, cNot, isNon, cIsN, atI, ixN, cAbs, cInt, cMax, cMin, eqZ, e, cn, iI, ln']
    obtain ⟨δ', ef, -⟩ := forL_nx (x := 7) (S := sSeq (sIf (fB (f2 (iB fun i j => decide (j ≤ i)) (f2 cSub (f2 cDiv (fVar 7) (fVar 3)) (f2 cDiv (f2 cSub (f2 cAdd (fVar 7) (fVar 4)) (pur (.int 1))) (fVar 4))) (pur (.int 256)))) (sSeq (sRet (pur (.bl false))) sNext) sNext) sNext)
      (P := fun x => x < told) (J := fun δ => ∃ a0 a1 a2 a5 a6 a7, δ = [a0, a1, a2, some (.int gap), some (.int pause), a5, a6, a7])
      (fun i δ bx hi ⟨a0, a1, a2, a5, a6, a7, hδ⟩ => by
        subst hδ
        have ov := over i hi
        refine ⟨[a0, a1, a2, some (.int gap), some (.int pause), a5, a6, some (.int i)], ?_, ⟨_, _, _, _, _, _, rfl⟩⟩
        simp [fnD, noErr, sSeq, sRet, sOf, sNext, sSet, sIf, sDrop, sRaise, sUnp, sPar, setAll, toSeq, fVar, fCall, fCons, fA, fB, fNot, fIfB, fIfT, fChain, f1, f2, bnd, pur, lft, toB, iB, iI, cIx, cLen, cTup, cLst, cNot, isNon, cIsN, atI, ixN, cAbs, cInt, cMax, cMin, eqZ, iI, g1, g2, p1, p2, ov])
      [told - 1, if told - 1 - t > 1 then told - 1 - t else 1] [some .box, some (srcT low high least most gap pause), some (.int told), some (.int gap), some (.int pause), some (.lst ((m :: r).map D.int)), none, none] bx1
      (fun x hx => by
        simp only [List.mem_cons, List.not_mem_nil, or_false] at hx
        rcases hx with rfl | rfl
        · omega
        · split <;> omega) ⟨_, _, _, _, _, _, rfl⟩
    refine (sSeq_nx (δ' := δ') (bx' := bx1) ?_).trans (sSeq_rt (sRet_ok rfl))
    have e9 : (fA cLst (fCons (f2 cSub (fVar 2) (pur (.int 1))) (fCons (fA cMax (fCons (pur (.int 1)) (fCons (f2 cSub (f2 cSub (fVar 2) (pur (.int 1))) (fCall m__law_take (fCons (fVar 0) (fCons (fVar 2) (pur []))))) (pur [])))) (pur [])))) [some .box, some (srcT low high least most gap pause), some (.int told), some (.int gap), some (.int pause), some (.lst ((m :: r).map D.int)), none, none] bx = .ok (.lst ([told - 1, if told - 1 - t > 1 then told - 1 - t else 1].map D.int)) bx1 := by
      simp [fnD, noErr, sSeq, sRet, sOf, sNext, sSet, sIf, sDrop, sRaise, sUnp, sPar, setAll, toSeq, fVar, fCall, fCons, fA, fB, fNot, fIfB, fIfT, fChain, f1, f2, bnd, pur, lft, toB, iB, iI, cIx, cLen, cTup, cLst, cNot, isNon, cIsN, atI, ixN, cAbs, cInt, cMax, cMin, eqZ, et, iI]
    exact (sForL_ok e9).trans ef
end K13

set_option Elab.async false
set_option linter.all false
set_option maxRecDepth 100000
set_option maxHeartbeats 4000000
namespace K13
open PySem PySem.Spec PyProof.Rows L2 Mi
/-! ### what can be shown, and its text -/
mutual
def plain : PyData → Bool
  | .none | .bool _ | .int _ => true
  | .list xs | .tuple xs => plainAll xs
  | .str _ | .dict _ => false
def plainAll : List PyData → Bool
  | [] => true
  | x :: xs => plain x && plainAll xs
end
theorem ok_of (s : String) : PyData.strOk (Str.ofString s) = true := by
  rw [Str.ofString_eq_toList]
  unfold PyData.strOk
  simp only [List.all_toArray, List.all_map, List.all_eq_true, Function.comp, decide_eq_true_eq]
  intro c _
  have h := c.valid
  simp only [UInt32.isValidChar, Nat.isValidChar] at h
  show c.val.toNat < 1114112
  omega
theorem ok_append {x y : Str} (hx : PyData.strOk x = true) (hy : PyData.strOk y = true) : PyData.strOk (x ++ y) = true := by
  unfold PyData.strOk at hx hy ⊢
  rw [PySem.Str.cps_append, Array.all_append, hx, hy]
  rfl
theorem ok_from : ∀ (ts : List Str) (k : Nat) (acc : Str), PyData.strOk acc = true → (∀ t ∈ ts, PyData.strOk t = true) → PyData.strOk (textFrom k acc ts) = true
  | [], _, _, h, _ => h
  | t :: ts, k, acc, h, ht => by
    unfold textFrom
    exact ok_from ts _ _ (ok_append (ok_append h (ok_of _)) (ht t List.mem_cons_self)) fun x hx => ht x (List.mem_cons_of_mem _ hx)
theorem ok_join (sep : Str) (hs : PyData.strOk sep = true) : ∀ ts : List Str, (∀ t ∈ ts, PyData.strOk t = true) → PyData.strOk (Str.join sep ts) = true
  | [], _ => by simp [fnD, noErr, sSeq, sRet, sOf, sNext, sSet, sIf, sDrop, sRaise, sUnp, sPar, setAll, toSeq, fVar, fCall, fCons, fA, fB, fNot, fIfB, fIfT, fChain, f1, f2, bnd, pur, lft, toB, iB, iI, cIx, cLen, cTup, cLst, cNot, isNon, cIsN, atI, ixN, cAbs, cInt, cMax, cMin, eqZ, Str.join, Str.empty, PyData.strOk]
  | [x], h => h x List.mem_cons_self
  | x :: y :: r, h => ok_append (ok_append (h x List.mem_cons_self) hs) (ok_join sep hs (y :: r) fun z hz => h z (List.mem_cons_of_mem _ hz))
mutual
theorem shown_ok : ∀ d : PyData, plain d = true → PyData.strOk d.shown = true
  | .none, _ => ok_of _
  | .bool b, _ => by cases b <;> exact ok_of _
  | .int i, _ => ok_of _
  | .list xs, h => by
    simp only [PyData.shown, listText]
    exact ok_append (ok_from _ _ _ (ok_of _) (shown_oks xs (by simpa only [plain] using h))) (ok_of _)
  | .tuple xs, h => by
    simp only [PyData.shown, tupleText]
    refine ok_append (ok_append (ok_of _) (ok_join _ (ok_of _) _ (shown_oks xs (by simpa only [plain] using h)))) ?_
    split <;> exact ok_of _
  | .str _, h => by simp only [plain] at h; cases h
  | .dict _, h => by simp only [plain] at h; cases h
theorem shown_oks : ∀ xs : List PyData, plainAll xs = true → ∀ t ∈ PyData.shownAll xs, PyData.strOk t = true
  | [], _, _, h => by simp only [PyData.shownAll] at h; cases h
  | x :: xs, hp, t, h => by
    simp only [plainAll, Bool.and_eq_true] at hp
    simp only [PyData.shownAll, List.mem_cons] at h
    rcases h with rfl | h
    · exact shown_ok x hp.1
    · exact shown_oks xs hp.2 t h
end
/-- small enough to be shown -/
structure Fit (d : D) (a b : Nat) : Prop where
  pu : d.pure = true
  pl : plain d.py = true
  sh : d.py.showable = true
  la : d.py.canLay0 = true
  si : d.py.intsShort 13 = true
  de : d.py.depth ≤ a
  we : d.py.weight ≤ b
structure Fits (l : List D) (a b : Nat) : Prop where
  pu : D.pureAll l = true
  pl : plainAll (D.pyAll l) = true
  sh : PyData.showableAll (D.pyAll l) = true
  la : PyData.canLayAll0 (D.pyAll l) = true
  si : PyData.intsShortAll 13 (D.pyAll l) = true
  de : PyData.depthAll (D.pyAll l) ≤ a
  we : PyData.weightAll (D.pyAll l) ≤ l.length * (b + 1)
theorem Fits.of {a b : Nat} : ∀ {l : List D}, (∀ d ∈ l, Fit d a b) → Fits l a b
  | [], _ => ⟨rfl, by simp [fnD, noErr, sSeq, sRet, sOf, sNext, sSet, sIf, sDrop, sRaise, sUnp, sPar, setAll, toSeq, fVar, fCall, fCons, fA, fB, fNot, fIfB, fIfT, fChain, f1, f2, bnd, pur, lft, toB, iB, iI, cIx, cLen, cTup, cLst, cNot, isNon, cIsN, atI, ixN, cAbs, cInt, cMax, cMin, eqZ, D.pyAll, plainAll], by simp [fnD, noErr, sSeq, sRet, sOf, sNext, sSet, sIf, sDrop, sRaise, sUnp, sPar, setAll, toSeq, fVar, fCall, fCons, fA, fB, fNot, fIfB, fIfT, fChain, f1, f2, bnd, pur, lft, toB, iB, iI, cIx, cLen, cTup, cLst, cNot, isNon, cIsN, atI, ixN, cAbs, cInt, cMax, cMin, eqZ, D.pyAll, PyData.showableAll], by simp [fnD, noErr, sSeq, sRet, sOf, sNext, sSet, sIf, sDrop, sRaise, sUnp, sPar, setAll, toSeq, fVar, fCall, fCons, fA, fB, fNot, fIfB, fIfT, fChain, f1, f2, bnd, pur, lft, toB, iB, iI, cIx, cLen, cTup, cLst, cNot, isNon, cIsN, atI, ixN, cAbs, cInt, cMax, cMin, eqZ, D.pyAll, PyData.canLayAll0], by simp [fnD, noErr, sSeq, sRet, sOf, sNext, sSet, sIf, sDrop, sRaise, sUnp, sPar, setAll, toSeq, fVar, fCall, fCons, fA, fB, fNot, fIfB, fIfT, fChain, f1, f2, bnd, pur, lft, toB, iB, iI, cIx, cLen, cTup, cLst, cNot, isNon, cIsN, atI, ixN, cAbs, cInt, cMax, cMin, eqZ, D.pyAll, PyData.intsShortAll], by simp [fnD, noErr, sSeq, sRet, sOf, sNext, sSet, sIf, sDrop, sRaise, sUnp, sPar, setAll, toSeq, fVar, fCall, fCons, fA, fB, fNot, fIfB, fIfT, fChain, f1, f2, bnd, pur, lft, toB, iB, iI, cIx, cLen, cTup, cLst, cNot, isNon, cIsN, atI, ixN, cAbs, cInt, cMax, cMin, eqZ, D.pyAll, PyData.depthAll], by simp [fnD, noErr, sSeq, sRet, sOf, sNext, sSet, sIf, sDrop, sRaise, sUnp, sPar, setAll, toSeq, fVar, fCall, fCons, fA, fB, fNot, fIfB, fIfT, fChain, f1, f2, bnd, pur, lft, toB, iB, iI, cIx, cLen, cTup, cLst, cNot, isNon, cIsN, atI, ixN, cAbs, cInt, cMax, cMin, eqZ, D.pyAll, PyData.weightAll]⟩
  | d :: r, h => by
    have h1 := h d List.mem_cons_self
    have h2 := Fits.of (l := r) fun x hx => h x (List.mem_cons_of_mem _ hx)
    refine ⟨?_, ?_, ?_, ?_, ?_, ?_, ?_⟩
    · simp [fnD, noErr, sSeq, sRet, sOf, sNext, sSet, sIf, sDrop, sRaise, sUnp, sPar, setAll, toSeq, fVar, fCall, fCons, fA, fB, fNot, fIfB, fIfT, fChain, f1, f2, bnd, pur, lft, toB, iB, iI, cIx, cLen, cTup, cLst, cNot, isNon, cIsN, atI, ixN, cAbs, cInt, cMax, cMin, eqZ, D.pureAll, h1.pu, h2.pu]
    · simp [fnD, noErr, sSeq, sRet, sOf, sNext, sSet, sIf, sDrop, sRaise, sUnp, sPar, setAll, toSeq, fVar, fCall, fCons, fA, fB, fNot, fIfB, fIfT, fChain, f1, f2, bnd, pur, lft, toB, iB, iI, cIx, cLen, cTup, cLst, cNot, isNon, cIsN, atI, ixN, cAbs, cInt, cMax, cMin, eqZ, D.pyAll, plainAll, h1.pl, h2.pl]
    · simp [fnD, noErr, sSeq, sRet, sOf, sNext, sSet, sIf, sDrop, sRaise, sUnp, sPar, setAll, toSeq, fVar, fCall, fCons, fA, fB, fNot, fIfB, fIfT, fChain, f1, f2, bnd, pur, lft, toB, iB, iI, cIx, cLen, cTup, cLst, cNot, isNon, cIsN, atI, ixN, cAbs, cInt, cMax, cMin, eqZ, D.pyAll, PyData.showableAll, h1.sh, h2.sh]
    · simp [fnD, noErr, sSeq, sRet, sOf, sNext, sSet, sIf, sDrop, sRaise, sUnp, sPar, setAll, toSeq, fVar, fCall, fCons, fA, fB, fNot, fIfB, fIfT, fChain, f1, f2, bnd, pur, lft, toB, iB, iI, cIx, cLen, cTup, cLst, cNot, isNon, cIsN, atI, ixN, cAbs, cInt, cMax, cMin, eqZ, D.pyAll, PyData.canLayAll0, h1.la, h2.la]
    · simp [fnD, noErr, sSeq, sRet, sOf, sNext, sSet, sIf, sDrop, sRaise, sUnp, sPar, setAll, toSeq, fVar, fCall, fCons, fA, fB, fNot, fIfB, fIfT, fChain, f1, f2, bnd, pur, lft, toB, iB, iI, cIx, cLen, cTup, cLst, cNot, isNon, cIsN, atI, ixN, cAbs, cInt, cMax, cMin, eqZ, D.pyAll, PyData.intsShortAll, h1.si, h2.si]
    · simp only [D.pyAll, PyData.depthAll]
      exact Nat.max_le.mpr ⟨h1.de, h2.de⟩
    · have e1 := h1.we
      have e2 := h2.we
      simp only [D.pyAll, PyData.weightAll, List.length_cons, Nat.succ_mul]
      omega
theorem Fit.lst {l : List D} {a b : Nat} (h : ∀ d ∈ l, Fit d a b) : Fit (.lst l) (a + 1) (l.length * (b + 1)) := by
  have f := Fits.of h
  exact ⟨f.pu, by simp only [D.py, plain]; exact f.pl, by simp only [D.py, PyData.showable]; exact f.sh, by simp only [D.py, PyData.canLay0]; exact f.la, by simp only [D.py, PyData.intsShort]; exact f.si, by simp only [D.py, PyData.depth]; have := f.de; omega, by simp only [D.py, PyData.weight]; exact f.we⟩
theorem Fit.tup {l : List D} {a b : Nat} (h : ∀ d ∈ l, Fit d a b) : Fit (.tup l) (a + 1) (l.length * (b + 1)) := by
  have f := Fits.of h
  exact ⟨f.pu, by simp only [D.py, plain]; exact f.pl, by simp only [D.py, PyData.showable]; exact f.sh, by simp only [D.py, PyData.canLay0]; exact f.la, by simp only [D.py, PyData.intsShort]; exact f.si, by simp only [D.py, PyData.depth]; have := f.de; omega, by simp only [D.py, PyData.weight]; exact f.we⟩
theorem Fit.int {i : Int} (h : -1000000000 ≤ i ∧ i ≤ 1000000000) : Fit (.int i) 0 31 := by
  have n : i.natAbs ≤ 1000000000 := by omega
  have l : i.natAbs.log2 < 30 := by
    by_cases z : i.natAbs = 0
    · rw [z]; decide
    · exact (Nat.log2_lt z).mpr (by omega)
  refine ⟨rfl, rfl, ?_, rfl, ?_, Nat.le_refl _, ?_⟩
  · simp only [D.py, PyData.showable, decide_eq_true_eq]; omega
  · simp only [D.py, PyData.intsShort, decide_eq_true_eq]; exact PyData.shown_int_le (by omega)
  · simp only [D.py, PyData.weight]; split <;> omega
theorem Fit.bl (c : Bool) : Fit (.bl c) 0 31 := ⟨rfl, rfl, rfl, rfl, rfl, Nat.le_refl _, by simp [fnD, noErr, sSeq, sRet, sOf, sNext, sSet, sIf, sDrop, sRaise, sUnp, sPar, setAll, toSeq, fVar, fCall, fCons, fA, fB, fNot, fIfB, fIfT, fChain, f1, f2, bnd, pur, lft, toB, iB, iI, cIx, cLen, cTup, cLst, cNot, isNon, cIsN, atI, ixN, cAbs, cInt, cMax, cMin, eqZ, D.py, PyData.weight]⟩
theorem Fit.non : Fit .non 0 31 := ⟨rfl, rfl, rfl, rfl, rfl, Nat.le_refl _, by simp [fnD, noErr, sSeq, sRet, sOf, sNext, sSet, sIf, sDrop, sRaise, sUnp, sPar, setAll, toSeq, fVar, fCall, fCons, fA, fB, fNot, fIfB, fIfT, fChain, f1, f2, bnd, pur, lft, toB, iB, iI, cIx, cLen, cTup, cLst, cNot, isNon, cIsN, atI, ixN, cAbs, cInt, cMax, cMin, eqZ, D.py, PyData.weight]⟩
theorem Fit.ok {d : D} {a b : Nat} (h : Fit d a b) (ha : a ≤ 60) (hb : b ≤ 1048576) : showOk d = true ∧ cRepr [d] = some (.str d.py.shown) ∧ PyData.strOk d.py.shown = true := by
  have de := h.de
  have we := h.we
  have l : PyData.layable0 d.py = true := by
    unfold PyData.layable0
    simp only [Bool.and_eq_true, decide_eq_true_eq]
    refine ⟨⟨h.la, by omega⟩, by omega⟩
  have f := PyData.shown_fits_of_layable0 (B := 13) (by decide) (by decide) l h.si
  have k : (d.pure && d.py.showable && decide (d.py.depth ≤ 60) && decide (d.py.shown.length ≤ sizeLine)) = true := by
    simp only [Bool.and_eq_true, decide_eq_true_eq]
    exact ⟨⟨⟨h.pu, h.sh⟩, by omega⟩, f⟩
  exact ⟨k, by unfold cRepr; dsimp only; rw [if_pos k], shown_ok _ h.pl⟩
theorem eq_str {x : Str} (hx : PyData.strOk x = true) (bx : Int × Int) : cEqD bx (.str x) (.str x) = some (.bl true) ∧ cNeD bx (.str x) (.str x) = some (.bl false) := by
  constructor
  · simp [fnD, noErr, sSeq, sRet, sOf, sNext, sSet, sIf, sDrop, sRaise, sUnp, sPar, setAll, toSeq, fVar, fCall, fCons, fA, fB, fNot, fIfB, fIfT, fChain, f1, f2, bnd, pur, lft, toB, iB, iI, cIx, cLen, cTup, cLst, cNot, isNon, cIsN, atI, ixN, cAbs, cInt, cMax, cMin, eqZ, cEqD, D.pure, D.py, SeqAt.shaped, PyData.canLay0, PyData.depth, PyData.eqv, hx]
  · simp [fnD, noErr, sSeq, sRet, sOf, sNext, sSet, sIf, sDrop, sRaise, sUnp, sPar, setAll, toSeq, fVar, fCall, fCons, fA, fB, fNot, fIfB, fIfT, fChain, f1, f2, bnd, pur, lft, toB, iB, iI, cIx, cLen, cTup, cLst, cNot, isNon, cIsN, atI, ixN, cAbs, cInt, cMax, cMin, eqZ, cNeD, D.pure, D.py, SeqAt.shaped, PyData.canLay0, PyData.depth, PyData.eqv, hx]
theorem eq_said {x y : Str} (hx : PyData.strOk x = true) (hy : PyData.strOk y = true) (bx : Int × Int) : cEqD bx (.tup [.str y, .str x, .bl true]) (.tup [.str y, .str x, .bl true]) = some (.bl true) ∧ cNeD bx (.tup [.str y, .str x, .bl true]) (.tup [.str y, .str x, .bl true]) = some (.bl false) := by
  constructor
  · simp [fnD, noErr, sSeq, sRet, sOf, sNext, sSet, sIf, sDrop, sRaise, sUnp, sPar, setAll, toSeq, fVar, fCall, fCons, fA, fB, fNot, fIfB, fIfT, fChain, f1, f2, bnd, pur, lft, toB, iB, iI, cIx, cLen, cTup, cLst, cNot, isNon, cIsN, atI, ixN, cAbs, cInt, cMax, cMin, eqZ, cEqD, D.pure, D.pureAll, D.py, D.pyAll, SeqAt.shaped, PyData.canLay0, PyData.canLayAll0, PyData.depth, PyData.depthAll, PyData.eqv, PyData.eqvAll, hx, hy]
  · simp [fnD, noErr, sSeq, sRet, sOf, sNext, sSet, sIf, sDrop, sRaise, sUnp, sPar, setAll, toSeq, fVar, fCall, fCons, fA, fB, fNot, fIfB, fIfT, fChain, f1, f2, bnd, pur, lft, toB, iB, iI, cIx, cLen, cTup, cLst, cNot, isNon, cIsN, atI, ixN, cAbs, cInt, cMax, cMin, eqZ, cNeD, D.pure, D.pureAll, D.py, D.pyAll, SeqAt.shaped, PyData.canLay0, PyData.canLayAll0, PyData.depth, PyData.depthAll, PyData.eqv, PyData.eqvAll, hx, hy]
/-! ### what is refused -/
section
variable {δ : List (Option D)} {bx : Int × Int} {F : Fn D} {d : D} {a b i : Nat}
theorem heard_bad (h : F δ bx = .err d bx) (f : showOk d = true) : fHeard F δ bx = .ok (.tup [.str "refused", .str d.py.shown, .bl true]) bx := by
  unfold fHeard hRes
  rw [h]
  dsimp only
  rw [if_pos f]
theorem said (f : cRepr [d] = some (.str d.py.shown)) (hi : δ[i]? = some (some d)) : fA cTup (fCons (pur (.str "refused")) (fCons (fA cRepr (fCons (fVar i) (pur []))) (fCons (pur (.bl true)) (pur [])))) δ bx = .ok (.tup [.str "refused", .str d.py.shown, .bl true]) bx := by
  simp [fnD, noErr, sSeq, sRet, sOf, sNext, sSet, sIf, sDrop, sRaise, sUnp, sPar, setAll, toSeq, fVar, fCall, fCons, fA, fB, fNot, fIfB, fIfT, fChain, f1, f2, bnd, pur, lft, toB, iB, iI, cIx, cLen, cTup, cLst, cNot, isNon, cIsN, atI, ixN, cAbs, cInt, cMax, cMin, eqZ, hi, f]
theorem check (h : F δ bx = .err d bx) (f : Fit d a b) (ha : a ≤ 60) (hb : b ≤ 1048576) (hi : δ[i]? = some (some d)) : fB (f2 cNeD (fHeard F) (fA cTup (fCons (pur (.str "refused")) (fCons (fA cRepr (fCons (fVar i) (pur []))) (fCons (pur (.bl true)) (pur [])))))) δ bx = .ok false bx := by
  obtain ⟨f1', f2', f3⟩ := f.ok ha hb
  have e1 := heard_bad h f1'
  have e2 := said (bx := bx) f2' hi
  have e3 := (eq_said f3 (ok_of "refused") bx).2
  unfold fB f2 bnd
  dsimp only
  rw [e1]
  dsimp only
  rw [e2]
  dsimp only
  rw [e3]
  rfl
theorem check_eq (h : F δ bx = .err d bx) (f : Fit d a b) (ha : a ≤ 60) (hb : b ≤ 1048576) (hi : δ[i]? = some (some d)) : f2 cEqD (fHeard F) (fA cTup (fCons (pur (.str "refused")) (fCons (fA cRepr (fCons (fVar i) (pur []))) (fCons (pur (.bl true)) (pur []))))) δ bx = .ok (.bl true) bx := by
  obtain ⟨f1', f2', f3⟩ := f.ok ha hb
  have e1 := heard_bad h f1'
  have e2 := said (bx := bx) f2' hi
  have e3 := (eq_said f3 (ok_of "refused") bx).1
  unfold f2 bnd
  dsimp only
  rw [e1]
  dsimp only
  rw [e2]
  dsimp only
  rw [e3]
  rfl
end
end K13

set_option Elab.async false
set_option linter.all false
set_option maxRecDepth 100000
set_option maxHeartbeats 4000000
namespace K13
open PySem PySem.Spec PyProof.Rows L2 Mi
/-- no source, and small enough to be shown -/
structure Bad (d : D) : Prop where
  no : ∀ bx, m_is_source [d] bx = .ok (.bl false) bx
  fit : ∃ a b, a ≤ 60 ∧ b ≤ 1048576 ∧ Fit d a b
structure Odd (d : D) : Prop where
  no : ∀ bx, m__is_mark [d] bx = .ok (.bl false) bx
  fit : ∃ a b, a ≤ 60 ∧ b ≤ 1048576 ∧ Fit d a b
theorem fit_tup {l : List D} (h : ∀ d ∈ l, Fit d 0 31) (hl : l.length ≤ 100) : ∃ a b, a ≤ 60 ∧ b ≤ 1048576 ∧ Fit (.tup l) a b := ⟨_, _, by decide, by omega, Fit.tup h⟩
theorem fit_lst {l : List D} (h : ∀ d ∈ l, Fit d 0 31) (hl : l.length ≤ 100) : ∃ a b, a ≤ 60 ∧ b ≤ 1048576 ∧ Fit (.lst l) a b := ⟨_, _, by decide, by omega, Fit.lst h⟩
theorem fit0 {d : D} (h : Fit d 0 31) : ∃ a b, a ≤ 60 ∧ b ≤ 1048576 ∧ Fit d a b := ⟨_, _, by decide, by decide, h⟩
theorem all2 {a b : D} {p : D → Prop} (ha : p a) (hb : p b) : ∀ d ∈ [a, b], p d := by simp [fnD, noErr, sSeq, sRet, sOf, sNext, sSet, sIf, sDrop, sRaise, sUnp, sPar, setAll, toSeq, fVar, fCall, fCons, fA, fB, fNot, fIfB, fIfT, fChain, f1, f2, bnd, pur, lft, toB, iB, iI, cIx, cLen, cTup, cLst, cNot, isNon, cIsN, atI, ixN, cAbs, cInt, cMax, cMin, eqZ, ha, hb]
theorem all5 {a b c d e : D} {p : D → Prop} (ha : p a) (hb : p b) (hc : p c) (hd : p d) (he : p e) : ∀ x ∈ [a, b, c, d, e], p x := by simp [fnD, noErr, sSeq, sRet, sOf, sNext, sSet, sIf, sDrop, sRaise, sUnp, sPar, setAll, toSeq, fVar, fCall, fCons, fA, fB, fNot, fIfB, fIfT, fChain, f1, f2, bnd, pur, lft, toB, iB, iI, cIx, cLen, cTup, cLst, cNot, isNon, cIsN, atI, ixN, cAbs, cInt, cMax, cMin, eqZ, ha, hb, hc, hd, he]
theorem all6 {a b c d e f : D} {p : D → Prop} (ha : p a) (hb : p b) (hc : p c) (hd : p d) (he : p e) (hf : p f) : ∀ x ∈ [a, b, c, d, e, f], p x := by simp [fnD, noErr, sSeq, sRet, sOf, sNext, sSet, sIf, sDrop, sRaise, sUnp, sPar, setAll, toSeq, fVar, fCall, fCons, fA, fB, fNot, fIfB, fIfT, fChain, f1, f2, bnd, pur, lft, toB, iB, iI, cIx, cLen, cTup, cLst, cNot, isNon, cIsN, atI, ixN, cAbs, cInt, cMax, cMin, eqZ, ha, hb, hc, hd, he, hf]
abbrev bads (low high least most gap pause : Int) : List D := [.non, .tup [], .tup [.int low, .int high, .int least, .int most, .int gap], .tup [.int 0, .int high, .int least, .int most, .int gap, .int pause], .tup [.int low, .int high, .int least, .int most, .int 5, .int 4],
  .lst [.int 1, .int 1, .int 0, .int 9, .int 2, .int 5], .tup [.bl true, .int high, .int least, .int most, .int gap, .int pause], .tup [.int low, .int high, .int least, .int most, .int gap, .int 1001]]
abbrev odds : List D := [.non, .int 5, .tup [.int 256, .int 0], .tup [.int 0, .int 1000001], .tup [.int 0], .tup [.bl true, .int 0], .tup [.int (-1), .int 0], .tup [.int 0, .int 0, .int 0]]
theorem bads_bad {low high least most gap pause : Int} (h : Src low high least most gap pause) : ∀ d ∈ bads low high least most gap pause, Bad d := by
  obtain ⟨⟨a1, a2, a3, a4, b1, b2, b3, b4, c1, c2, c3, c4, q⟩, lo, gp, pa⟩ := h
  have f1 : Fit (.int low) 0 31 := .int (by omega)
  have f2 : Fit (.int high) 0 31 := .int (by omega)
  have f3 : Fit (.int least) 0 31 := .int (by omega)
  have f4 : Fit (.int most) 0 31 := .int (by omega)
  have f5 : Fit (.int gap) 0 31 := .int (by omega)
  have f6 : Fit (.int pause) 0 31 := .int (by omega)
  intro d hd
  simp only [List.mem_cons, List.not_mem_nil, or_false] at hd
  rcases hd with rfl | rfl | rfl | rfl | rfl | rfl | rfl | rfl
  · exact ⟨fun bx => src_len rfl (by simp [fnD, noErr, sSeq, sRet, sOf, sNext, sSet, sIf, sDrop, sRaise, sUnp, sPar, setAll, toSeq, fVar, fCall, fCons, fA, fB, fNot, fIfB, fIfT, fChain, f1, f2, bnd, pur, lft, toB, iB, iI, cIx, cLen, cTup, cLst, cNot, isNon, cIsN, atI, ixN, cAbs, cInt, cMax, cMin, eqZ]) bx, fit0 .non⟩
  · exact ⟨fun bx => src_len rfl (by simp [fnD, noErr, sSeq, sRet, sOf, sNext, sSet, sIf, sDrop, sRaise, sUnp, sPar, setAll, toSeq, fVar, fCall, fCons, fA, fB, fNot, fIfB, fIfT, fChain, f1, f2, bnd, pur, lft, toB, iB, iI, cIx, cLen, cTup, cLst, cNot, isNon, cIsN, atI, ixN, cAbs, cInt, cMax, cMin, eqZ]) bx, fit_tup (by simp [fnD, noErr, sSeq, sRet, sOf, sNext, sSet, sIf, sDrop, sRaise, sUnp, sPar, setAll, toSeq, fVar, fCall, fCons, fA, fB, fNot, fIfB, fIfT, fChain, f1, f2, bnd, pur, lft, toB, iB, iI, cIx, cLen, cTup, cLst, cNot, isNon, cIsN, atI, ixN, cAbs, cInt, cMax, cMin, eqZ]) (by decide)⟩
  · exact ⟨fun bx => src_len rfl (by simp [fnD, noErr, sSeq, sRet, sOf, sNext, sSet, sIf, sDrop, sRaise, sUnp, sPar, setAll, toSeq, fVar, fCall, fCons, fA, fB, fNot, fIfB, fIfT, fChain, f1, f2, bnd, pur, lft, toB, iB, iI, cIx, cLen, cTup, cLst, cNot, isNon, cIsN, atI, ixN, cAbs, cInt, cMax, cMin, eqZ]) bx, fit_tup (all5 f1 f2 f3 f4 f5) (by simp [fnD, noErr, sSeq, sRet, sOf, sNext, sSet, sIf, sDrop, sRaise, sUnp, sPar, setAll, toSeq, fVar, fCall, fCons, fA, fB, fNot, fIfB, fIfT, fChain, f1, f2, bnd, pur, lft, toB, iB, iI, cIx, cLen, cTup, cLst, cNot, isNon, cIsN, atI, ixN, cAbs, cInt, cMax, cMin, eqZ])⟩
  · exact ⟨fun bx => src_12 ⟨.inl rfl, rfl⟩ (.inl (by simp [fnD, noErr, sSeq, sRet, sOf, sNext, sSet, sIf, sDrop, sRaise, sUnp, sPar, setAll, toSeq, fVar, fCall, fCons, fA, fB, fNot, fIfB, fIfT, fChain, f1, f2, bnd, pur, lft, toB, iB, iI, cIx, cLen, cTup, cLst, cNot, isNon, cIsN, atI, ixN, cAbs, cInt, cMax, cMin, eqZ, rngB, inR])) bx, fit_tup (all6 (.int (by decide)) f2 f3 f4 f5 f6) (by simp [fnD, noErr, sSeq, sRet, sOf, sNext, sSet, sIf, sDrop, sRaise, sUnp, sPar, setAll, toSeq, fVar, fCall, fCons, fA, fB, fNot, fIfB, fIfT, fChain, f1, f2, bnd, pur, lft, toB, iB, iI, cIx, cLen, cTup, cLst, cNot, isNon, cIsN, atI, ixN, cAbs, cInt, cMax, cMin, eqZ])⟩
  · exact ⟨fun bx => src_3 ⟨.inl rfl, rfl⟩ (by simp [fnD, noErr, sSeq, sRet, sOf, sNext, sSet, sIf, sDrop, sRaise, sUnp, sPar, setAll, toSeq, fVar, fCall, fCons, fA, fB, fNot, fIfB, fIfT, fChain, f1, f2, bnd, pur, lft, toB, iB, iI, cIx, cLen, cTup, cLst, cNot, isNon, cIsN, atI, ixN, cAbs, cInt, cMax, cMin, eqZ, rngB, inR]) bx, fit_tup (all6 f1 f2 f3 f4 (.int (by decide)) (.int (by decide))) (by simp [fnD, noErr, sSeq, sRet, sOf, sNext, sSet, sIf, sDrop, sRaise, sUnp, sPar, setAll, toSeq, fVar, fCall, fCons, fA, fB, fNot, fIfB, fIfT, fChain, f1, f2, bnd, pur, lft, toB, iB, iI, cIx, cLen, cTup, cLst, cNot, isNon, cIsN, atI, ixN, cAbs, cInt, cMax, cMin, eqZ])⟩
  · exact ⟨fun bx => src_119 bx, fit_lst (all6 (.int (by decide)) (.int (by decide)) (.int (by decide)) (.int (by decide)) (.int (by decide)) (.int (by decide))) (by simp [fnD, noErr, sSeq, sRet, sOf, sNext, sSet, sIf, sDrop, sRaise, sUnp, sPar, setAll, toSeq, fVar, fCall, fCons, fA, fB, fNot, fIfB, fIfT, fChain, f1, f2, bnd, pur, lft, toB, iB, iI, cIx, cLen, cTup, cLst, cNot, isNon, cIsN, atI, ixN, cAbs, cInt, cMax, cMin, eqZ])⟩
  · exact ⟨fun bx => src_12 ⟨.inl rfl, rfl⟩ (.inl (by simp [fnD, noErr, sSeq, sRet, sOf, sNext, sSet, sIf, sDrop, sRaise, sUnp, sPar, setAll, toSeq, fVar, fCall, fCons, fA, fB, fNot, fIfB, fIfT, fChain, f1, f2, bnd, pur, lft, toB, iB, iI, cIx, cLen, cTup, cLst, cNot, isNon, cIsN, atI, ixN, cAbs, cInt, cMax, cMin, eqZ, rngB])) bx, fit_tup (all6 (.bl true) f2 f3 f4 f5 f6) (by simp [fnD, noErr, sSeq, sRet, sOf, sNext, sSet, sIf, sDrop, sRaise, sUnp, sPar, setAll, toSeq, fVar, fCall, fCons, fA, fB, fNot, fIfB, fIfT, fChain, f1, f2, bnd, pur, lft, toB, iB, iI, cIx, cLen, cTup, cLst, cNot, isNon, cIsN, atI, ixN, cAbs, cInt, cMax, cMin, eqZ])⟩
  · exact ⟨fun bx => src_3 ⟨.inl rfl, rfl⟩ (by simp [fnD, noErr, sSeq, sRet, sOf, sNext, sSet, sIf, sDrop, sRaise, sUnp, sPar, setAll, toSeq, fVar, fCall, fCons, fA, fB, fNot, fIfB, fIfT, fChain, f1, f2, bnd, pur, lft, toB, iB, iI, cIx, cLen, cTup, cLst, cNot, isNon, cIsN, atI, ixN, cAbs, cInt, cMax, cMin, eqZ, rngB, inR]) bx, fit_tup (all6 f1 f2 f3 f4 f5 (.int (by decide))) (by simp [fnD, noErr, sSeq, sRet, sOf, sNext, sSet, sIf, sDrop, sRaise, sUnp, sPar, setAll, toSeq, fVar, fCall, fCons, fA, fB, fNot, fIfB, fIfT, fChain, f1, f2, bnd, pur, lft, toB, iB, iI, cIx, cLen, cTup, cLst, cNot, isNon, cIsN, atI, ixN, cAbs, cInt, cMax, cMin, eqZ])⟩
theorem odds_odd : ∀ d ∈ odds, Odd d := by
  intro d hd
  simp only [List.mem_cons, List.not_mem_nil, or_false] at hd
  rcases hd with rfl | rfl | rfl | rfl | rfl | rfl | rfl | rfl
  · exact ⟨fun bx => mark_len rfl (by simp [fnD, noErr, sSeq, sRet, sOf, sNext, sSet, sIf, sDrop, sRaise, sUnp, sPar, setAll, toSeq, fVar, fCall, fCons, fA, fB, fNot, fIfB, fIfT, fChain, f1, f2, bnd, pur, lft, toB, iB, iI, cIx, cLen, cTup, cLst, cNot, isNon, cIsN, atI, ixN, cAbs, cInt, cMax, cMin, eqZ]) bx, fit0 .non⟩
  · exact ⟨fun bx => mark_len rfl (by simp [fnD, noErr, sSeq, sRet, sOf, sNext, sSet, sIf, sDrop, sRaise, sUnp, sPar, setAll, toSeq, fVar, fCall, fCons, fA, fB, fNot, fIfB, fIfT, fChain, f1, f2, bnd, pur, lft, toB, iB, iI, cIx, cLen, cTup, cLst, cNot, isNon, cIsN, atI, ixN, cAbs, cInt, cMax, cMin, eqZ]) bx, fit0 (.int (by decide))⟩
  · exact ⟨fun bx => mark_bad (.inl (by simp [fnD, noErr, sSeq, sRet, sOf, sNext, sSet, sIf, sDrop, sRaise, sUnp, sPar, setAll, toSeq, fVar, fCall, fCons, fA, fB, fNot, fIfB, fIfT, fChain, f1, f2, bnd, pur, lft, toB, iB, iI, cIx, cLen, cTup, cLst, cNot, isNon, cIsN, atI, ixN, cAbs, cInt, cMax, cMin, eqZ, inR])) bx, fit_tup (all2 (.int (by decide)) (.int (by decide))) (by simp [fnD, noErr, sSeq, sRet, sOf, sNext, sSet, sIf, sDrop, sRaise, sUnp, sPar, setAll, toSeq, fVar, fCall, fCons, fA, fB, fNot, fIfB, fIfT, fChain, f1, f2, bnd, pur, lft, toB, iB, iI, cIx, cLen, cTup, cLst, cNot, isNon, cIsN, atI, ixN, cAbs, cInt, cMax, cMin, eqZ])⟩
  · exact ⟨fun bx => mark_bad (.inr (by simp [fnD, noErr, sSeq, sRet, sOf, sNext, sSet, sIf, sDrop, sRaise, sUnp, sPar, setAll, toSeq, fVar, fCall, fCons, fA, fB, fNot, fIfB, fIfT, fChain, f1, f2, bnd, pur, lft, toB, iB, iI, cIx, cLen, cTup, cLst, cNot, isNon, cIsN, atI, ixN, cAbs, cInt, cMax, cMin, eqZ, inR])) bx, fit_tup (all2 (.int (by decide)) (.int (by decide))) (by simp [fnD, noErr, sSeq, sRet, sOf, sNext, sSet, sIf, sDrop, sRaise, sUnp, sPar, setAll, toSeq, fVar, fCall, fCons, fA, fB, fNot, fIfB, fIfT, fChain, f1, f2, bnd, pur, lft, toB, iB, iI, cIx, cLen, cTup, cLst, cNot, isNon, cIsN, atI, ixN, cAbs, cInt, cMax, cMin, eqZ])⟩
  · exact ⟨fun bx => mark_len rfl (by simp [fnD, noErr, sSeq, sRet, sOf, sNext, sSet, sIf, sDrop, sRaise, sUnp, sPar, setAll, toSeq, fVar, fCall, fCons, fA, fB, fNot, fIfB, fIfT, fChain, f1, f2, bnd, pur, lft, toB, iB, iI, cIx, cLen, cTup, cLst, cNot, isNon, cIsN, atI, ixN, cAbs, cInt, cMax, cMin, eqZ]) bx, fit_tup (by simp [fnD, noErr, sSeq, sRet, sOf, sNext, sSet, sIf, sDrop, sRaise, sUnp, sPar, setAll, toSeq, fVar, fCall, fCons, fA, fB, fNot, fIfB, fIfT, fChain, f1, f2, bnd, pur, lft, toB, iB, iI, cIx, cLen, cTup, cLst, cNot, isNon, cIsN, atI, ixN, cAbs, cInt, cMax, cMin, eqZ]; exact .int (by decide)) (by simp [fnD, noErr, sSeq, sRet, sOf, sNext, sSet, sIf, sDrop, sRaise, sUnp, sPar, setAll, toSeq, fVar, fCall, fCons, fA, fB, fNot, fIfB, fIfT, fChain, f1, f2, bnd, pur, lft, toB, iB, iI, cIx, cLen, cTup, cLst, cNot, isNon, cIsN, atI, ixN, cAbs, cInt, cMax, cMin, eqZ])⟩
  · exact ⟨fun bx => mark_bad (.inl (by simp [fnD, noErr, sSeq, sRet, sOf, sNext, sSet, sIf, sDrop, sRaise, sUnp, sPar, setAll, toSeq, fVar, fCall, fCons, fA, fB, fNot, fIfB, fIfT, fChain, f1, f2, bnd, pur, lft, toB, iB, iI, cIx, cLen, cTup, cLst, cNot, isNon, cIsN, atI, ixN, cAbs, cInt, cMax, cMin, eqZ, inR])) bx, fit_tup (all2 (.bl true) (.int (by decide))) (by simp [fnD, noErr, sSeq, sRet, sOf, sNext, sSet, sIf, sDrop, sRaise, sUnp, sPar, setAll, toSeq, fVar, fCall, fCons, fA, fB, fNot, fIfB, fIfT, fChain, f1, f2, bnd, pur, lft, toB, iB, iI, cIx, cLen, cTup, cLst, cNot, isNon, cIsN, atI, ixN, cAbs, cInt, cMax, cMin, eqZ])⟩
  · exact ⟨fun bx => mark_bad (.inl (by simp [fnD, noErr, sSeq, sRet, sOf, sNext, sSet, sIf, sDrop, sRaise, sUnp, sPar, setAll, toSeq, fVar, fCall, fCons, fA, fB, fNot, fIfB, fIfT, fChain, f1, f2, bnd, pur, lft, toB, iB, iI, cIx, cLen, cTup, cLst, cNot, isNon, cIsN, atI, ixN, cAbs, cInt, cMax, cMin, eqZ, inR])) bx, fit_tup (all2 (.int (by decide)) (.int (by decide))) (by simp [fnD, noErr, sSeq, sRet, sOf, sNext, sSet, sIf, sDrop, sRaise, sUnp, sPar, setAll, toSeq, fVar, fCall, fCons, fA, fB, fNot, fIfB, fIfT, fChain, f1, f2, bnd, pur, lft, toB, iB, iI, cIx, cLen, cTup, cLst, cNot, isNon, cIsN, atI, ixN, cAbs, cInt, cMax, cMin, eqZ])⟩
  · exact ⟨fun bx => mark_len rfl (by simp [fnD, noErr, sSeq, sRet, sOf, sNext, sSet, sIf, sDrop, sRaise, sUnp, sPar, setAll, toSeq, fVar, fCall, fCons, fA, fB, fNot, fIfB, fIfT, fChain, f1, f2, bnd, pur, lft, toB, iB, iI, cIx, cLen, cTup, cLst, cNot, isNon, cIsN, atI, ixN, cAbs, cInt, cMax, cMin, eqZ]) bx, fit_tup (by simp [fnD, noErr, sSeq, sRet, sOf, sNext, sSet, sIf, sDrop, sRaise, sUnp, sPar, setAll, toSeq, fVar, fCall, fCons, fA, fB, fNot, fIfB, fIfT, fChain, f1, f2, bnd, pur, lft, toB, iB, iI, cIx, cLen, cTup, cLst, cNot, isNon, cIsN, atI, ixN, cAbs, cInt, cMax, cMin, eqZ]; exact .int (by decide)) (by simp [fnD, noErr, sSeq, sRet, sOf, sNext, sSet, sIf, sDrop, sRaise, sUnp, sPar, setAll, toSeq, fVar, fCall, fCons, fA, fB, fNot, fIfB, fIfT, fChain, f1, f2, bnd, pur, lft, toB, iB, iI, cIx, cLen, cTup, cLst, cNot, isNon, cIsN, atI, ixN, cAbs, cInt, cMax, cMin, eqZ])⟩
theorem needS_bad {d : D} (h : Bad d) (bx : Int × Int) : m__need_source [d] bx = .err d bx := by
  rw [needS (h.no bx)]
  rfl
theorem needM_bad {d : D} (h : Odd d) (bx : Int × Int) : m__need_mark [d] bx = .err d bx := by
  rw [needM (h.no bx)]
  rfl
theorem none_right {low high least most gap pause : Int} (h : Src low high least most gap pause) (bx : Int × Int) : ∃ bx', m__law_none_right [.box, srcT low high least most gap pause] bx = .ok (.bl true) bx' := by
  obtain ⟨bad, bx1, e1, m1⟩ := pick_ok (l := bads low high least most gap pause) (by simp [fnD, noErr, sSeq, sRet, sOf, sNext, sSet, sIf, sDrop, sRaise, sUnp, sPar, setAll, toSeq, fVar, fCall, fCons, fA, fB, fNot, fIfB, fIfT, fChain, f1, f2, bnd, pur, lft, toB, iB, iI, cIx, cLen, cTup, cLst, cNot, isNon, cIsN, atI, ixN, cAbs, cInt, cMax, cMin, eqZ]) (by simp [fnD, noErr, sSeq, sRet, sOf, sNext, sSet, sIf, sDrop, sRaise, sUnp, sPar, setAll, toSeq, fVar, fCall, fCons, fA, fB, fNot, fIfB, fIfT, fChain, f1, f2, bnd, pur, lft, toB, iB, iI, cIx, cLen, cTup, cLst, cNot, isNon, cIsN, atI, ixN, cAbs, cInt, cMax, cMin, eqZ]) bx
  obtain ⟨odd, bx2, e2, m2⟩ := pick_ok (l := odds) (by decide) (by decide) bx1
  have hb := bads_bad h bad m1
  have ho := odds_odd odd m2
  obtain ⟨ab, bb, k1, k2, fb⟩ := hb.fit
  obtain ⟨ao, bo, k3, k4, fo⟩ := ho.fit
  obtain ⟨t1, bx3, e3, p1, p2⟩ := take_ok (n := 256) (by decide) (by decide) bx2
  obtain ⟨t2, bx4, e4, p3, p4⟩ := take_ok (n := 2) (by decide) (by decide) bx3
  have q1 := fun bx => needS_bad hb bx
  have q2 := fun bx => needM_bad ho bx
  have q3 := fun bx => needS_ok (s := srcT low high least most gap pause) six_t h.ok bx
  have fe : Fit (.tup [.int t1, .int (40 + t2)]) 1 64 := Fit.tup (l := [.int t1, .int (40 + t2)]) (all2 (.int (by omega)) (.int (by omega)))
  have q4 := fun bx => needM_ok (s := .tup [.int t1, .int (40 + t2)]) (.inl rfl) ⟨by omega, by omega, by omega, by omega⟩ bx
  have q5 := fun bx => needM_ok (s := .tup [.int 0, .int 41]) (.inl rfl) ⟨by omega, by omega, by omega, by omega⟩ bx
  have q6 := fun bx => needM_ok (s := .tup [.int 0, .int 0]) (.inl rfl) ⟨by omega, by omega, by omega, by omega⟩ bx
  have l41 : 40 + t2 ≤ 41 := by omega
  refine ⟨bx4, fn_rt ((sSeq_nx (sSet_ok (d := bad) (bx' := bx1) ?_)).trans ?_)⟩
  · simp [fnD, noErr, sSeq, sRet, sOf, sNext, sSet, sIf, sDrop, sRaise, sUnp, sPar, setAll, toSeq, fVar, fCall, fCons, fA, fB, fNot, fIfB, fIfT, fChain, f1, f2, bnd, pur, lft, toB, iB, iI, cIx, cLen, cTup, cLst, cNot, isNon, cIsN, ixN, cAbs, cInt, cMax, cMin, eqZ, -atI, cCut, cCat, Mi.cutD, HT.sIx, e1]
  refine (sSeq_nx (sSet_ok (d := odd) (bx' := bx2) ?_)).trans ?_
  · simp [fnD, noErr, sSeq, sRet, sOf, sNext, sSet, sIf, sDrop, sRaise, sUnp, sPar, setAll, toSeq, fVar, fCall, fCons, fA, fB, fNot, fIfB, fIfT, fChain, f1, f2, bnd, pur, lft, toB, iB, iI, cIx, cLen, cTup, cLst, cNot, isNon, cIsN, atI, ixN, cAbs, cInt, cMax, cMin, eqZ, cPow, iI, e2]
  refine (sSeq_nx (sIf_no (bx' := bx2) (check (d := bad) (by simp [fnD, noErr, sSeq, sRet, sOf, sNext, sSet, sIf, sDrop, sRaise, sUnp, sPar, setAll, toSeq, fVar, fCall, fCons, fA, fB, fNot, fIfB, fIfT, fChain, f1, f2, bnd, pur, lft, toB, iB, iI, cIx, cLen, cTup, cLst, cNot, isNon, cIsN, atI, ixN, cAbs, cInt, cMax, cMin, eqZ, m_counts, S_counts, q1]) fb k1 k2 (by simp [fnD, noErr, sSeq, sRet, sOf, sNext, sSet, sIf, sDrop, sRaise, sUnp, sPar, setAll, toSeq, fVar, fCall, fCons, fA, fB, fNot, fIfB, fIfT, fChain, f1, f2, bnd, pur, lft, toB, iB, iI, cIx, cLen, cTup, cLst, cNot, isNon, cIsN, atI, ixN, cAbs, cInt, cMax, cMin, eqZ])) rfl)).trans ?_
  refine (sSeq_nx (sIf_no (bx' := bx2) (check (d := bad) (by simp [fnD, noErr, sSeq, sRet, sOf, sNext, sSet, sIf, sDrop, sRaise, sUnp, sPar, setAll, toSeq, fVar, fCall, fCons, fA, fB, fNot, fIfB, fIfT, fChain, f1, f2, bnd, pur, lft, toB, iB, iI, cIx, cLen, cTup, cLst, cNot, isNon, cIsN, atI, ixN, cAbs, cInt, cMax, cMin, eqZ, m_doubt_span, S_doubt_span, q1]) fb k1 k2 (by simp [fnD, noErr, sSeq, sRet, sOf, sNext, sSet, sIf, sDrop, sRaise, sUnp, sPar, setAll, toSeq, fVar, fCall, fCons, fA, fB, fNot, fIfB, fIfT, fChain, f1, f2, bnd, pur, lft, toB, iB, iI, cIx, cLen, cTup, cLst, cNot, isNon, cIsN, atI, ixN, cAbs, cInt, cMax, cMin, eqZ])) rfl)).trans ?_
  refine (sSeq_nx (sIf_no (bx' := bx2) (check (d := odd) (by simp [fnD, noErr, sSeq, sRet, sOf, sNext, sSet, sIf, sDrop, sRaise, sUnp, sPar, setAll, toSeq, fVar, fCall, fCons, fA, fB, fNot, fIfB, fIfT, fChain, f1, f2, bnd, pur, lft, toB, iB, iI, cIx, cLen, cTup, cLst, cNot, isNon, cIsN, atI, ixN, cAbs, cInt, cMax, cMin, eqZ, m_counts, S_counts, q2, q3]) fo k3 k4 (by simp [fnD, noErr, sSeq, sRet, sOf, sNext, sSet, sIf, sDrop, sRaise, sUnp, sPar, setAll, toSeq, fVar, fCall, fCons, fA, fB, fNot, fIfB, fIfT, fChain, f1, f2, bnd, pur, lft, toB, iB, iI, cIx, cLen, cTup, cLst, cNot, isNon, cIsN, atI, ixN, cAbs, cInt, cMax, cMin, eqZ])) rfl)).trans ?_
  refine (sSeq_nx (sIf_no (bx' := bx2) (check (d := odd) (by simp [fnD, noErr, sSeq, sRet, sOf, sNext, sSet, sIf, sDrop, sRaise, sUnp, sPar, setAll, toSeq, fVar, fCall, fCons, fA, fB, fNot, fIfB, fIfT, fChain, f1, f2, bnd, pur, lft, toB, iB, iI, cIx, cLen, cTup, cLst, cNot, isNon, cIsN, atI, ixN, cAbs, cInt, cMax, cMin, eqZ, m_counts, S_counts, q2, q3, q6]) fo k3 k4 (by simp [fnD, noErr, sSeq, sRet, sOf, sNext, sSet, sIf, sDrop, sRaise, sUnp, sPar, setAll, toSeq, fVar, fCall, fCons, fA, fB, fNot, fIfB, fIfT, fChain, f1, f2, bnd, pur, lft, toB, iB, iI, cIx, cLen, cTup, cLst, cNot, isNon, cIsN, atI, ixN, cAbs, cInt, cMax, cMin, eqZ])) rfl)).trans ?_
  refine (sSeq_nx (sSet_ok (d := .tup [.int t1, .int (40 + t2)]) (bx' := bx4) (by simp [fnD, noErr, sSeq, sRet, sOf, sNext, sSet, sIf, sDrop, sRaise, sUnp, sPar, setAll, toSeq, fVar, fCall, fCons, fA, fB, fNot, fIfB, fIfT, fChain, f1, f2, bnd, pur, lft, toB, iB, iI, cIx, cLen, cTup, cLst, cNot, isNon, cIsN, atI, ixN, cAbs, cInt, cMax, cMin, eqZ, e3, e4, iI]))).trans ?_
  refine (sSeq_nx (sIf_no (bx' := bx4) (check (d := .tup [.int t1, .int (40 + t2)]) (by simp [fnD, noErr, sSeq, sRet, sOf, sNext, sSet, sIf, sDrop, sRaise, sUnp, sPar, setAll, toSeq, fVar, fCall, fCons, fA, fB, fNot, fIfB, fIfT, fChain, f1, f2, bnd, pur, lft, toB, iB, iI, cIx, cLen, cTup, cLst, cNot, isNon, cIsN, atI, ixN, cAbs, cInt, cMax, cMin, eqZ, m_counts, S_counts, q3, q4, q5, l41]) fe (by decide) (by decide) (by simp [fnD, noErr, sSeq, sRet, sOf, sNext, sSet, sIf, sDrop, sRaise, sUnp, sPar, setAll, toSeq, fVar, fCall, fCons, fA, fB, fNot, fIfB, fIfT, fChain, f1, f2, bnd, pur, lft, toB, iB, iI, cIx, cLen, cTup, cLst, cNot, isNon, cIsN, atI, ixN, cAbs, cInt, cMax, cMin, eqZ])) rfl)).trans ?_
  refine (sSeq_nx (sIf_no (bx' := bx4) (check (d := bad) (by simp [fnD, noErr, sSeq, sRet, sOf, sNext, sSet, sIf, sDrop, sRaise, sUnp, sPar, setAll, toSeq, fVar, fCall, fCons, fA, fB, fNot, fIfB, fIfT, fChain, f1, f2, bnd, pur, lft, toB, iB, iI, cIx, cLen, cTup, cLst, cNot, isNon, cIsN, atI, ixN, cAbs, cInt, cMax, cMin, eqZ, m_ahead_counts, S_ahead_counts, q1]) fb k1 k2 (by simp [fnD, noErr, sSeq, sRet, sOf, sNext, sSet, sIf, sDrop, sRaise, sUnp, sPar, setAll, toSeq, fVar, fCall, fCons, fA, fB, fNot, fIfB, fIfT, fChain, f1, f2, bnd, pur, lft, toB, iB, iI, cIx, cLen, cTup, cLst, cNot, isNon, cIsN, atI, ixN, cAbs, cInt, cMax, cMin, eqZ])) rfl)).trans ?_
  exact sSeq_rt (sRet_ok (check_eq (d := odd) (by simp [fnD, noErr, sSeq, sRet, sOf, sNext, sSet, sIf, sDrop, sRaise, sUnp, sPar, setAll, toSeq, fVar, fCall, fCons, fA, fB, fNot, fIfB, fIfT, fChain, f1, f2, bnd, pur, lft, toB, iB, iI, cIx, cLen, cTup, cLst, cNot, isNon, cIsN, atI, ixN, cAbs, cInt, cMax, cMin, eqZ, m_ahead_counts, S_ahead_counts, q2, q3]) fo k3 k4 (by simp [fnD, noErr, sSeq, sRet, sOf, sNext, sSet, sIf, sDrop, sRaise, sUnp, sPar, setAll, toSeq, fVar, fCall, fCons, fA, fB, fNot, fIfB, fIfT, fChain, f1, f2, bnd, pur, lft, toB, iB, iI, cIx, cLen, cTup, cLst, cNot, isNon, cIsN, atI, ixN, cAbs, cInt, cMax, cMin, eqZ])))
end K13

set_option Elab.async false
set_option linter.all false
set_option maxRecDepth 100000
set_option maxHeartbeats 4000000
namespace K13
open PySem PySem.Spec PyProof.Rows L2 Mi
/-! ### the end -/
theorem endOk : EndOk := fun bx => by
  have s1 : srcI 1 1 0 0 62 63 := by unfold srcI; decide
  have s2 : srcI 1 1 0 0 63 64 := by unfold srcI; decide
  have e1 := fun bx => doubt_ne (s := srcT 1 1 0 0 62 63) six_t s1 (by decide) bx
  have e2 := fun bx => doubt_ne (s := srcT 1 1 0 0 63 64) six_t s2 (by decide) bx
  rw [show span 62 63 = 999936 from by decide] at e1
  rw [show span 63 64 = 1032192 from by decide] at e2
  simp only [Int.reduceLE, if_true, if_false] at e1 e2
  have f : Fit (.lst [.int 999936, .non]) 1 64 := Fit.lst (l := [.int 999936, .non]) (all2 (.int (by decide)) .non)
  obtain ⟨-, f2', f3⟩ := f.ok (by decide) (by decide)
  have tx : (D.lst [.int 999936, .non]).py.shown = Str.ofString "[999936, None]" := by decide +kernel
  rw [tx] at f2'
  have q := (eq_str (ok_of "[999936, None]") bx).1
  unfold Se
  refine sSeq_rt (sRet_ok ?_)
  simp [fnD, noErr, sSeq, sRet, sOf, sNext, sSet, sIf, sDrop, sRaise, sUnp, sPar, setAll, toSeq, fVar, fCall, fCons, fA, fB, fNot, fIfB, fIfT, fChain, f1, f2, bnd, pur, lft, toB, iB, iI, cIx, cLen, cTup, cLst, cNot, isNon, cIsN, atI, ixN, cAbs, cInt, cMax, cMin, eqZ, e1, e2, f2', q]
/-! ### the box -/
theorem at_int {ns : List Int} {i : Int} (h1 : 0 ≤ i) (h2 : i < ns.length) : ∃ x, atI (ns.map D.int) i = some (.int x) := by
  obtain ⟨x, hx, e⟩ := atI_of (l := ns.map D.int) h1 (by rw [List.length_map]; exact h2)
  obtain ⟨j, _, rfl⟩ := List.mem_map.mp hx
  exact ⟨j, e⟩
theorem boxOk (ns : List Int) (k : Nat) (hl : ns.length ≤ 63) (hk : k < 5) : ∃ g r, BoxOk ns k g r := by
  have w1 : -18446744073709551616 < (k : Int) := by omega
  have w2 : (k : Int) < 18446744073709551616 := by omega
  -- what the cell is given
  have cell : ∃ c : Int, (sIf (fB (f2 (iB fun i j => decide (i < j)) (fVar 1) (fA cLen (fCons (fVar 0) (pur []))))) (sSeq (sSet 2 (fA cAbs (fCons (fA cInt (fCons (f2 cIx (fVar 0) (fVar 1)) (pur []))) (pur [])))) sNext) (sSeq (sIf (fB (f2 (iB fun i j => decide (j < i)) (fA cLen (fCons (fVar 0) (pur []))) (pur (.int 0)))) (sSeq (sSet 2 (f2 cAdd (fVar 2) (f2 cMul (f2 cMod (fA cInt (fCons (fA cAbs (fCons (fA cInt (fCons (f2 cIx (fVar 0) (f2 cMod (fA cInt (fCons (fVar 1) (pur []))) (fA cLen (fCons (fVar 0) (pur []))))) (pur []))) (pur []))) (pur []))) (pur (.int 2147483563))) (pur (.int 96007))))) sNext) sNext) sNext)) [some (D.lst (ns.map D.int)), some (D.int k), some (D.int (13183 * k + 6421)), none] (0, 0) = .nx [some (D.lst (ns.map D.int)), some (D.int k), some (D.int c), none] (0, 0) := by
    by_cases h : (k : Int) < ns.length
    · obtain ⟨x, hx⟩ := at_int (i := k) (by omega) h
      refine ⟨if x < 0 then -x else x, ?_⟩
      simp [fnD, noErr, sSeq, sRet, sOf, sNext, sSet, sIf, sDrop, sRaise, sUnp, sPar, setAll, toSeq, fVar, fCall, fCons, fA, fB, fNot, fIfB, fIfT, fChain, f1, f2, bnd, pur, lft, toB, iB, iI, cIx, cLen, cTup, cLst, cNot, isNon, cIsN, ixN, cAbs, cInt, cMax, cMin, eqZ, -atI, h, hx]
    · by_cases h0 : 0 < ns.length
      · have p1 := Int.emod_nonneg (k : Int) (b := (ns.length : Int)) (by omega)
        have p2 := Int.emod_lt_of_pos (k : Int) (b := (ns.length : Int)) (by omega)
        obtain ⟨x, hx⟩ := at_int (i := (k : Int) % ns.length) p1 p2
        refine ⟨13183 * k + 6421 + (if x < 0 then -x else x) % 2147483563 * 96007, ?_⟩
        have h0' : (0 : Int) < ns.length := by omega
        simp [fnD, noErr, sSeq, sRet, sOf, sNext, sSet, sIf, sDrop, sRaise, sUnp, sPar, setAll, toSeq, fVar, fCall, fCons, fA, fB, fNot, fIfB, fIfT, fChain, f1, f2, bnd, pur, lft, toB, iB, iI, cIx, cLen, cTup, cLst, cNot, isNon, cIsN, ixN, cAbs, cInt, cMax, cMin, eqZ, -atI, h, h0, h0', hx, iI]
      · have z : ns.length = 0 := by omega
        refine ⟨13183 * k + 6421, ?_⟩
        have nk : ¬ (k : Int) < 0 := by omega
        simp [fnD, noErr, sSeq, sRet, sOf, sNext, sSet, sIf, sDrop, sRaise, sUnp, sPar, setAll, toSeq, fVar, fCall, fCons, fA, fB, fNot, fIfB, fIfT, fChain, f1, f2, bnd, pur, lft, toB, iB, iI, cIx, cLen, cTup, cLst, cNot, isNon, cIsN, ixN, cAbs, cInt, cMax, cMin, eqZ, -atI, h, z, nk]
  obtain ⟨c, hc⟩ := cell
  refine ⟨if 1000000000000000000 ≤ c then c else 0, (c % 2147483563 * 55900007 + 6421 * k) % 2147483563 + 1, ⟨[some (D.lst (ns.map D.int)), some (D.int k), some (D.int c), some (D.int (if 1000000000000000000 ≤ c then c else 0))], ?_, ?_⟩⟩
  · unfold Sb
    refine (sSeq_nx (sSet_ok (d := .int (13183 * k + 6421)) (bx' := (0, 0)) (by simp [fnD, noErr, sSeq, sRet, sOf, sNext, sSet, sIf, sDrop, sRaise, sUnp, sPar, setAll, toSeq, fVar, fCall, fCons, fA, fB, fNot, fIfB, fIfT, fChain, f1, f2, bnd, pur, lft, toB, iB, iI, cIx, cLen, cTup, cLst, cNot, isNon, cIsN, atI, ixN, cAbs, cInt, cMax, cMin, eqZ, iI, w1, w2]))).trans ?_
    refine (sSeq_nx hc).trans ?_
    refine (sSeq_nx (sSet_ok (d := .int (if 1000000000000000000 ≤ c then c else 0)) (bx' := (0, 0)) ?_)).trans rfl
    by_cases k18 : 1000000000000000000 ≤ c <;> simp [fnD, noErr, sSeq, sRet, sOf, sNext, sSet, sIf, sDrop, sRaise, sUnp, sPar, setAll, toSeq, fVar, fCall, fCons, fA, fB, fNot, fIfB, fIfT, fChain, f1, f2, bnd, pur, lft, toB, iB, iI, cIx, cLen, cTup, cLst, cNot, isNon, cIsN, atI, ixN, cAbs, cInt, cMax, cMin, eqZ, cPow, iI, k18]
  · simp [fnD, noErr, sSeq, sRet, sOf, sNext, sSet, sIf, sDrop, sRaise, sUnp, sPar, setAll, toSeq, fVar, fCall, fCons, fA, fB, fNot, fIfB, fIfT, fChain, f1, f2, bnd, pur, lft, toB, iB, iI, cIx, cLen, cTup, cLst, cNot, isNon, cIsN, atI, ixN, cAbs, cInt, cMax, cMin, eqZ, Ab, iI, w1, w2]
end K13

set_option Elab.async false
set_option linter.all false
set_option maxRecDepth 100000
set_option maxHeartbeats 4000000
namespace K13
open PySem PySem.Spec PyProof.Rows L2 Mi
theorem f2_ok {f : Int × Int → D → D → Option D} {F G : Fn D} {δ : List (Option D)} {bx bx1 bx2 : Int × Int} {d e z : D} (h1 : F δ bx = .ok d bx1) (h2 : G δ bx1 = .ok e bx2) (h3 : f bx2 d e = some z) : f2 f F G δ bx = .ok z bx2 := by
  unfold f2 bnd
  dsimp only
  rw [h1]
  dsimp only
  rw [h2]
  dsimp only
  rw [h3]
  rfl
theorem fB_ok {F : Fn D} {δ : List (Option D)} {bx bx1 : Int × Int} {c : Bool} (h : F δ bx = .ok (.bl c) bx1) : fB F δ bx = .ok c bx1 := by
  unfold fB bnd
  rw [h]
  rfl
theorem fLc_lc {x : Nat} {Fi : Fn (Int × Nat)} {C : Fn Bool} {F : Fn D} {δ : List (Option D)} {bx : Int × Int} {lo : Int} {n : Nat} {r : Res D} (hi : Fi δ bx = .ok (lo, n) bx) (hn : n ≤ 100000) (h : lcGo x (δ.set x none) C F n lo bx [] = r) : fLc x Fi C F δ bx = r := by
  unfold fLc bnd
  rw [hi]
  show (if n ≤ 100000 then lcGo x (δ.set x none) C F n lo bx [] else .bad) = _
  rw [if_pos hn, h]
/-- a list made with draws -/
theorem lcGo_draw {x : Nat} {δ : List (Option D)} {F : Fn D} {lo hi : Int} (hF : ∀ i bx, ∃ j bx', F (δ.set x (some (.int i))) bx = .ok (.int j) bx' ∧ lo ≤ j ∧ j ≤ hi) :
    ∀ (n : Nat) (i : Int) (bx : Int × Int) (acc : List D), ∃ (ms : List Int) (bx' : Int × Int), lcGo x δ (pur true) F n i bx acc = .ok (.lst (acc ++ ms.map D.int)) bx' ∧ ms.length = n ∧ ∀ j ∈ ms, lo ≤ j ∧ j ≤ hi
  | 0, i, bx, acc => ⟨[], bx, by simp [fnD, noErr, sSeq, sRet, sOf, sNext, sSet, sIf, sDrop, sRaise, sUnp, sPar, setAll, toSeq, fVar, fCall, fCons, fA, fB, fNot, fIfB, fIfT, fChain, f1, f2, bnd, pur, lft, toB, iB, iI, cIx, cLen, cTup, cLst, cNot, isNon, cIsN, atI, ixN, cAbs, cInt, cMax, cMin, eqZ, lcGo], rfl, by simp [fnD, noErr, sSeq, sRet, sOf, sNext, sSet, sIf, sDrop, sRaise, sUnp, sPar, setAll, toSeq, fVar, fCall, fCons, fA, fB, fNot, fIfB, fIfT, fChain, f1, f2, bnd, pur, lft, toB, iB, iI, cIx, cLen, cTup, cLst, cNot, isNon, cIsN, atI, ixN, cAbs, cInt, cMax, cMin, eqZ]⟩
  | n + 1, i, bx, acc => by
    obtain ⟨j, bx1, e, h1, h2⟩ := hF i bx
    obtain ⟨ms, bx2, e2, hl, hm⟩ := lcGo_draw hF n (i + 1) bx1 (acc ++ [.int j])
    refine ⟨j :: ms, bx2, ?_, by rw [List.length_cons, hl], fun y hy => ?_⟩
    · unfold lcGo
      simp [fnD, noErr, sSeq, sRet, sOf, sNext, sSet, sIf, sDrop, sRaise, sUnp, sPar, setAll, toSeq, fVar, fCall, fCons, fA, fB, fNot, fIfB, fIfT, fChain, f1, f2, bnd, pur, lft, toB, iB, iI, cIx, cLen, cTup, cLst, cNot, isNon, cIsN, atI, ixN, cAbs, cInt, cMax, cMin, eqZ, e, e2]
    · rcases List.mem_cons.mp hy with rfl | hy
      · exact ⟨h1, h2⟩
      · exact hm y hy
theorem toInts_map : ∀ l : List Int, toInts (l.map D.int) = some l
  | [] => rfl
  | i :: r => by
    show (toInts (r.map D.int)).map (i :: ·) = _
    rw [toInts_map r]
    rfl
theorem sum_bd {lo hi : Int} (h0 : 0 ≤ lo) : ∀ {l : List Int}, (∀ j ∈ l, lo ≤ j ∧ j ≤ hi) → (l.length : Int) * lo ≤ l.sum ∧ l.sum ≤ (l.length : Int) * hi
  | [], _ => by simp [fnD, noErr, sSeq, sRet, sOf, sNext, sSet, sIf, sDrop, sRaise, sUnp, sPar, setAll, toSeq, fVar, fCall, fCons, fA, fB, fNot, fIfB, fIfT, fChain, f1, f2, bnd, pur, lft, toB, iB, iI, cIx, cLen, cTup, cLst, cNot, isNon, cIsN, atI, ixN, cAbs, cInt, cMax, cMin, eqZ]
  | i :: r, h => by
    have h1 := h i List.mem_cons_self
    have h2 := sum_bd h0 (l := r) fun j hj => h j (List.mem_cons_of_mem _ hj)
    simp only [List.sum_cons, List.length_cons, Int.natCast_add, Int.natCast_one, Int.add_mul, Int.one_mul]
    omega
theorem prog_ints (a b : Int) : ∃ l : List Int, prog a b = l.map D.int ∧ (∀ x ∈ l, a ≤ x ∧ x ≤ b) ∧ l.length = (prog a b).length := by
  refine ⟨(List.range (Builtin.Range.rangeSize a (b + 1) 256).toNat).map fun i : Nat => a + (i : Int) * 256, ?_, fun x hx => ?_, ?_⟩
  · rw [prog, List.map_map]
    rfl
  · exact ⟨(mem_prog.mp hx).1, (mem_prog.mp hx).2.1⟩
  · rw [prog, List.length_map, List.length_map]
theorem prog_len {a b : Int} (h : b - a ≤ 20000) : (prog a b).length ≤ 80 := by
  rw [prog, List.length_map, List.length_range]
  unfold Builtin.Range.rangeSize
  simp only [gt_iff_lt, Int.reduceLT, if_true]
  split <;> omega
theorem prog_fit {a b : Int} (h1 : 0 ≤ a) (h2 : b ≤ 20000) : ∀ d ∈ prog a b, Fit d 0 31 := by
  obtain ⟨l, e, hl, -⟩ := prog_ints a b
  rw [e]
  intro d hd
  obtain ⟨x, hx, rfl⟩ := List.mem_map.mp hd
  have := hl x hx
  exact .int (by omega)
theorem eqvAll_ints : ∀ l : List Int, PyData.eqvAll (l.map PyData.int) (l.map PyData.int) = true
  | [] => by simp [fnD, noErr, sSeq, sRet, sOf, sNext, sSet, sIf, sDrop, sRaise, sUnp, sPar, setAll, toSeq, fVar, fCall, fCons, fA, fB, fNot, fIfB, fIfT, fChain, f1, f2, bnd, pur, lft, toB, iB, iI, cIx, cLen, cTup, cLst, cNot, isNon, cIsN, atI, ixN, cAbs, cInt, cMax, cMin, eqZ, PyData.eqvAll]
  | i :: r => by simp [fnD, noErr, sSeq, sRet, sOf, sNext, sSet, sIf, sDrop, sRaise, sUnp, sPar, setAll, toSeq, fVar, fCall, fCons, fA, fB, fNot, fIfB, fIfT, fChain, f1, f2, bnd, pur, lft, toB, iB, iI, cIx, cLen, cTup, cLst, cNot, isNon, cIsN, atI, ixN, cAbs, cInt, cMax, cMin, eqZ, PyData.eqvAll, PyData.eqv, eqvAll_ints r]
theorem ne_prog (a b : Int) (bx : Int × Int) : cNeD bx (.tup (prog a b)) (.tup (prog a b)) = some (.bl false) := by
  obtain ⟨l, e, -, -⟩ := prog_ints a b
  rw [e]
  have e1 := ints_lay l
  have e2 := ints_depth l
  have e3 := ints_py l
  have e4 := ints_pure l
  have e5 := eqvAll_ints l
  unfold cNeD
  rw [if_pos]
  · simp only [D.py, e3, PyData.eqv, e5, Bool.not_true]
  · simp [fnD, noErr, sSeq, sRet, sOf, sNext, sSet, sIf, sDrop, sRaise, sUnp, sPar, setAll, toSeq, fVar, fCall, fCons, fA, fB, fNot, fIfB, fIfT, fChain, f1, f2, bnd, pur, lft, toB, iB, iI, cIx, cLen, cTup, cLst, cNot, isNon, cIsN, atI, ixN, cAbs, cInt, cMax, cMin, eqZ, D.pure, D.py, e3, e4, SeqAt.shaped, PyData.canLay0, e1, PyData.depth, e2]
theorem fit2 {a b : Int} (h1 : 0 ≤ a) (h2 : b ≤ 20000) : cRepr [.lst [.tup (prog a b), .tup (prog a b)]] = some (.str (D.lst [.tup (prog a b), .tup (prog a b)]).py.shown) ∧ PyData.strOk (D.lst [.tup (prog a b), .tup (prog a b)]).py.shown = true := by
  have l := prog_len (a := a) (b := b) (by omega)
  have f : Fit (.tup (prog a b)) 1 2560 := by
    have f := Fit.tup (prog_fit h1 h2)
    exact ⟨f.pu, f.pl, f.sh, f.la, f.si, f.de, by have := f.we; omega⟩
  exact (Fit.lst (l := [.tup (prog a b), .tup (prog a b)]) (all2 f f)).ok (by decide) (by simp [fnD, noErr, sSeq, sRet, sOf, sNext, sSet, sIf, sDrop, sRaise, sUnp, sPar, setAll, toSeq, fVar, fCall, fCons, fA, fB, fNot, fIfB, fIfT, fChain, f1, f2, bnd, pur, lft, toB, iB, iI, cIx, cLen, cTup, cLst, cNot, isNon, cIsN, atI, ixN, cAbs, cInt, cMax, cMin, eqZ]) |>.2
theorem roundOk (ns : List Int) (k : Nat) (g r : Int) (hl : ns.length ≤ 63) (hk : k < 5) : RoundOk ns k g r := by
  unfold RoundOk δ0
  generalize D.lst (ns.map D.int) = sc
  generalize D.int (k : Int) = kk
  generalize ((g, r) : Int × Int) = bx
  obtain ⟨low, high, least, most, gap, pause, bx1, e1, S⟩ := source_ok bx
  have ok := S.ok
  obtain ⟨a1, a2, a3, a4, b1, b2, b3, b4, c1, c2, c3, c4, q⟩ := S.ok
  have lo := S.lo
  have gp := S.gp
  have pa := S.pa
  obtain ⟨number, bx2, e2, n1, n2⟩ := take_ok (n := 256) (by decide) (by decide) bx1
  obtain ⟨x, bx3, e3, hx⟩ := pick_ok (l := [.int 4, .int 30, .int 600]) (by decide) (by decide) bx2
  obtain ⟨i, rfl, hi1, hi2⟩ : ∃ i, x = .int i ∧ 4 ≤ i ∧ i ≤ 600 := by
    simp only [List.mem_cons, List.not_mem_nil, or_false] at hx
    rcases hx with rfl | rfl | rfl <;> exact ⟨_, rfl, by decide, by decide⟩
  obtain ⟨m', bx4, e4, m1, m2⟩ := take_ok (n := i) (by omega) (by omega) bx3
  obtain ⟨many, hmany⟩ : ∃ many, many = 1 + m' := ⟨_, rfl⟩
  obtain ⟨stamp, bx5, e5, s1, s2⟩ := take_ok (n := 300) (by decide) (by decide) bx4
  have w1 : -18446744073709551616 < gap := by omega
  have w2 : gap < 18446744073709551616 := by omega
  have g1 : 0 < gap := by omega
  have g2 : gap < 1073741824 := by omega
  -- the stamps between
  obtain ⟨mn, hmn⟩ : ∃ mn : Int, mn = if 40 < many then 40 else many := ⟨_, rfl⟩
  obtain ⟨ms, bx6, e6, lm, bm⟩ := lcGo_draw (x := 8) (δ := [some sc, some kk, some .box, some (srcT low high least most gap pause), some (.int number), some (.int many), some (.int stamp), none, none, none, none, none, none, none]) (lo := 1) (hi := 13)
    (F := f2 cAdd (f2 cIx (fVar 3) (pur (.int 4))) (fCall m__law_take (fCons (fVar 2) (fCons (f2 cAdd (f2 cSub (f2 cIx (fVar 3) (pur (.int 5))) (f2 cIx (fVar 3) (pur (.int 4)))) (pur (.int 1))) (pur [])))))
    (fun i bx => by
      obtain ⟨t, bx', et, p1, p2⟩ := take_ok (n := pause - gap + 1) (by omega) (by omega) bx
      refine ⟨gap + t, bx', ?_, by omega, by omega⟩
      simp [fnD, noErr, sSeq, sRet, sOf, sNext, sSet, sIf, sDrop, sRaise, sUnp, sPar, setAll, toSeq, fVar, fCall, fCons, fA, fB, fNot, fIfB, fIfT, fChain, f1, f2, bnd, pur, lft, toB, iB, iI, cIx, cLen, cTup, cLst, cNot, isNon, cIsN, atI, ixN, cAbs, cInt, cMax, cMin, eqZ, iI, et]) mn.toNat 0 bx5 []
  have sb := sum_bd (by decide) bm
  rw [lm] at sb
  obtain ⟨sm, hsm⟩ : ∃ sm, sm = ms.sum := ⟨_, rfl⟩
  rw [← hsm] at sb
  obtain ⟨mx, hmx⟩ : ∃ mx : Int, mx = if many - 40 > 0 then many - 40 else 0 := ⟨_, rfl⟩
  obtain ⟨span_, hspan⟩ : ∃ span_ : Int, span_ = sm + mx * gap := ⟨_, rfl⟩
  have mg : 0 ≤ mx * gap ∧ mx * gap ≤ mx * 4 := ⟨Int.mul_nonneg (by split at hmx <;> omega) (by omega), Int.mul_le_mul_of_nonneg_left gp (by split at hmx <;> omega)⟩
  have spb : 0 < span_ ∧ span_ ≤ 7000 := by
    split at hmx <;> split at hmn <;> omega
  -- the other mark
  obtain ⟨u, bx7, e7, u1, u2⟩ := take_ok (n := 256) (by decide) (by decide) bx6
  obtain ⟨v, bx8, e8, v1, v2⟩ := take_ok (n := 900) (by decide) (by decide) bx7
  obtain ⟨o, bx9, e9, ho⟩ := pick_ok (l := [.tup [.int ((number + many) % 256), .int (stamp + span_)], .tup [.int ((number + many) % 256), .int (stamp + span_)], .tup [.int u, .int (stamp + 1 + v)]]) (by simp [fnD, noErr, sSeq, sRet, sOf, sNext, sSet, sIf, sDrop, sRaise, sUnp, sPar, setAll, toSeq, fVar, fCall, fCons, fA, fB, fNot, fIfB, fIfT, fChain, f1, f2, bnd, pur, lft, toB, iB, iI, cIx, cLen, cTup, cLst, cNot, isNon, cIsN, atI, ixN, cAbs, cInt, cMax, cMin, eqZ]) (by simp [fnD, noErr, sSeq, sRet, sOf, sNext, sSet, sIf, sDrop, sRaise, sUnp, sPar, setAll, toSeq, fVar, fCall, fCons, fA, fB, fNot, fIfB, fIfT, fChain, f1, f2, bnd, pur, lft, toB, iB, iI, cIx, cLen, cTup, cLst, cNot, isNon, cIsN, atI, ixN, cAbs, cInt, cMax, cMin, eqZ]) bx8
  obtain ⟨n', t', rfl, o1, o2, o3, o4⟩ : ∃ n' t', o = .tup [.int n', .int t'] ∧ 0 ≤ n' ∧ n' < 256 ∧ stamp < t' ∧ t' ≤ stamp + 7000 := by
    simp only [List.mem_cons, List.not_mem_nil, or_false] at ho
    rcases ho with rfl | rfl | rfl
    · exact ⟨_, _, rfl, by omega, by omega, by omega, by omega⟩
    · exact ⟨_, _, rfl, by omega, by omega, by omega, by omega⟩
    · exact ⟨_, _, rfl, by omega, by omega, by omega, by omega⟩
  obtain ⟨w, bx10, e10, y1, y2⟩ := take_ok (n := 700) (by decide) (by decide) bx9
  obtain ⟨bx11, e11⟩ := doubt_right S bx10
  obtain ⟨bx12, e12⟩ := none_right S bx11
  have mk1 : Mark number stamp := ⟨by omega, by omega, by omega, by omega⟩
  have mk2 : Mark n' t' := ⟨by omega, by omega, by omega, by omega⟩
  have mk3 : Mark number (700 + w) := ⟨by omega, by omega, by omega, by omega⟩
  have k1 := fun bx => counts_ok (s := srcT low high least most gap pause) (one := .tup [.int number, .int stamp]) (other := .tup [.int n', .int t']) six_t ok (.inl rfl) (.inl rfl) mk1 mk2 (by omega) (by omega) bx
  have k2 := fun bx => counts_ok (s := .lst [.int low, .int high, .int least, .int most, .int gap, .int pause]) (one := .lst [.int number, .int stamp]) (other := .lst [.int n', .int t']) ⟨.inr rfl, rfl⟩ ok (.inr rfl) (.inr rfl) mk1 mk2 (by omega) (by omega) bx
  have k3 := fun bx => lawcounts_ok (n1 := number) (t1 := stamp) (n2 := n') (t2 := t') ok (by omega) (by omega) bx
  have k4 := fun bx => ahead_ok (s := srcT low high least most gap pause) (one := .tup [.int number, .int stamp]) six_t ok (.inl rfl) mk1 (by omega) bx
  have k5 := fun bx => ahead_ok (s := srcT low high least most gap pause) (one := .lst [.int number, .int stamp]) six_t ok (.inr rfl) mk1 (by omega) bx
  have k6 := fun bx => ahead_ok (s := srcT low high least most gap pause) (one := .tup [.int number, .int (700 + w)]) six_t ok (.inl rfl) mk3 (by omega) bx
  have q1 := div_le_ (d := t' - stamp) (g := gap) (by omega) g1
  have q2 := div_le_ (d := stamp) (g := gap) (by omega) g1
  have q3 := div_le_ (d := 700 + w) (g := gap) (by omega) g1
  have q4 := fst_bd (pause := pause) (n1 := number) (t1 := stamp) (n2 := n') (t2 := t') (by omega) (by omega)
  obtain ⟨r1, r2⟩ := fit2 (a := fst_ pause number stamp n' t') (b := (t' - stamp) / gap) (by omega) (by omega)
  obtain ⟨r3, r4⟩ := fit2 (a := number) (b := stamp / gap) (by omega) (by omega)
  have r5 := fun bx => (eq_str r2 bx).2
  have r6 := fun bx => (eq_str r4 bx).2
  have r7 := fun bx => ne_prog number ((700 + w) / gap) bx
  have z1 : -(4611686018427387904 : Int) ≤ stamp / gap + 1 := by omega
  have z2 : stamp / gap + 1 < 4611686018427387904 := by omega
  have z3 : -(4611686018427387904 : Int) ≤ (700 + w) / gap + 1 := by omega
  have z4 : (700 + w) / gap + 1 < 4611686018427387904 := by omega
  have fp : ∀ b : Int, 0 ≤ b → (((List.range (b + 1).toNat).map fun k : Nat => (0 : Int) + (k : Int)).filter fun m => decide (m % 256 = number)).map D.int = prog number b := fun b hb => filter_prog (by
    intro x
    simp only [decide_eq_true_eq]
    omega)
  refine ⟨[some sc, some kk, some .box, some (srcT low high least most gap pause), some (.int number), some (.int many), some (.int stamp), some (.int span_), none, some (.tup [.int number, .int stamp]), some (.tup [.int n', .int t']), some (.tup (prog number (stamp / gap))), none, some (.tup [.int number, .int (700 + w)])], bx12, ?_, rfl, rfl⟩
  unfold Sr
  refine (sSeq_nx (δ' := [some sc, some kk, some .box, some (srcT low high least most gap pause), some (.int number), none, none, none, none, none, none, none, none, none]) (bx' := bx2) ?_).trans ?_
  · simp [fnD, noErr, sSeq, sRet, sOf, sNext, sSet, sIf, sDrop, sRaise, sUnp, sPar, setAll, toSeq, fVar, fCall, fCons, fA, fB, fNot, fIfB, fIfT, fChain, f1, f2, bnd, pur, lft, toB, iB, iI, cIx, cLen, cTup, cLst, cNot, isNon, cIsN, atI, ixN, cAbs, cInt, cMax, cMin, eqZ, e1, e2]
  refine (sSeq_nx (δ' := [some sc, some kk, some .box, some (srcT low high least most gap pause), some (.int number), some (.int many), none, none, none, none, none, none, none, none]) (bx' := bx4) ?_).trans ?_
  · simp [fnD, noErr, sSeq, sRet, sOf, sNext, sSet, sIf, sDrop, sRaise, sUnp, sPar, setAll, toSeq, fVar, fCall, fCons, fA, fB, fNot, fIfB, fIfT, fChain, f1, f2, bnd, pur, lft, toB, iB, iI, cIx, cLen, cTup, cLst, cNot, isNon, cIsN, atI, ixN, cAbs, cInt, cMax, cMin, eqZ, iI, e3, e4, hmany]
  refine (sSeq_nx (δ' := [some sc, some kk, some .box, some (srcT low high least most gap pause), some (.int number), some (.int many), some (.int stamp), none, none, none, none, none, none, none]) (bx' := bx5) ?_).trans ?_
  · simp [fnD, noErr, sSeq, sRet, sOf, sNext, sSet, sIf, sDrop, sRaise, sUnp, sPar, setAll, toSeq, fVar, fCall, fCons, fA, fB, fNot, fIfB, fIfT, fChain, f1, f2, bnd, pur, lft, toB, iB, iI, cIx, cLen, cTup, cLst, cNot, isNon, cIsN, atI, ixN, cAbs, cInt, cMax, cMin, eqZ, e5]
  refine (sSeq_nx (δ' := [some sc, some kk, some .box, some (srcT low high least most gap pause), some (.int number), some (.int many), some (.int stamp), some (.int span_), none, none, none, none, none, none]) (bx' := bx6) ?_).trans ?_
  · refine (sSet_ok (d := .int span_) (bx' := bx6) ?_).trans rfl
    refine f2_ok (fA_ok (fCons_ok (fLc_lc (lo := 0) (n := mn.toNat) (by simp [fnD, noErr, sSeq, sRet, sOf, sNext, sSet, sIf, sDrop, sRaise, sUnp, sPar, setAll, toSeq, fVar, fCall, fCons, fA, fB, fNot, fIfB, fIfT, fChain, f1, f2, bnd, pur, lft, toB, iB, iI, cIx, cLen, cTup, cLst, cNot, isNon, cIsN, atI, ixN, cAbs, cInt, cMax, cMin, eqZ, fRg1, hmn]; split <;> omega) (by split at hmn <;> omega) e6) rfl) (z := .int sm) ?_) (e := .int (mx * gap)) (bx2 := bx6) (by simp [fnD, noErr, sSeq, sRet, sOf, sNext, sSet, sIf, sDrop, sRaise, sUnp, sPar, setAll, toSeq, fVar, fCall, fCons, fA, fB, fNot, fIfB, fIfT, fChain, f1, f2, bnd, pur, lft, toB, iB, iI, cIx, cLen, cTup, cLst, cNot, isNon, cIsN, atI, ixN, cAbs, cInt, cMax, cMin, eqZ, iI, w1, w2, hmx]) (by simp [fnD, noErr, sSeq, sRet, sOf, sNext, sSet, sIf, sDrop, sRaise, sUnp, sPar, setAll, toSeq, fVar, fCall, fCons, fA, fB, fNot, fIfB, fIfT, fChain, f1, f2, bnd, pur, lft, toB, iB, iI, cIx, cLen, cTup, cLst, cNot, isNon, cIsN, atI, ixN, cAbs, cInt, cMax, cMin, eqZ, iI, hspan])
    rw [List.nil_append, hsm]
    show (toInts (ms.map D.int)).map _ = _
    rw [toInts_map]
    rfl
  refine (sSeq_nx (δ' := [some sc, some kk, some .box, some (srcT low high least most gap pause), some (.int number), some (.int many), some (.int stamp), some (.int span_), none, some (.tup [.int number, .int stamp]), none, none, none, none]) (bx' := bx6) ?_).trans ?_
  · simp [fnD, noErr, sSeq, sRet, sOf, sNext, sSet, sIf, sDrop, sRaise, sUnp, sPar, setAll, toSeq, fVar, fCall, fCons, fA, fB, fNot, fIfB, fIfT, fChain, f1, f2, bnd, pur, lft, toB, iB, iI, cIx, cLen, cTup, cLst, cNot, isNon, cIsN, atI, ixN, cAbs, cInt, cMax, cMin, eqZ]
  refine (sSeq_nx (δ' := [some sc, some kk, some .box, some (srcT low high least most gap pause), some (.int number), some (.int many), some (.int stamp), some (.int span_), none, some (.tup [.int number, .int stamp]), some (.tup [.int n', .int t']), none, none, none]) (bx' := bx9) ?_).trans ?_
  · simp [fnD, noErr, sSeq, sRet, sOf, sNext, sSet, sIf, sDrop, sRaise, sUnp, sPar, setAll, toSeq, fVar, fCall, fCons, fA, fB, fNot, fIfB, fIfT, fChain, f1, f2, bnd, pur, lft, toB, iB, iI, cIx, cLen, cTup, cLst, cNot, isNon, cIsN, atI, ixN, cAbs, cInt, cMax, cMin, eqZ, iI, e7, e8, e9]
  refine (sSeq_nx (δ' := [some sc, some kk, some .box, some (srcT low high least most gap pause), some (.int number), some (.int many), some (.int stamp), some (.int span_), none, some (.tup [.int number, .int stamp]), some (.tup [.int n', .int t']), some (.tup (prog (fst_ pause number stamp n' t') ((t' - stamp) / gap))), none, none]) (bx' := bx9) ?_).trans ?_
  · simp [fnD, noErr, sSeq, sRet, sOf, sNext, sSet, sIf, sDrop, sRaise, sUnp, sPar, setAll, toSeq, fVar, fCall, fCons, fA, fB, fNot, fIfB, fIfT, fChain, f1, f2, bnd, pur, lft, toB, iB, iI, cIx, cLen, cTup, cLst, cNot, isNon, cIsN, atI, ixN, cAbs, cInt, cMax, cMin, eqZ, k3]
  refine (sSeq_nx (sIf_no (bx' := bx9) (by simp [fnD, noErr, sSeq, sRet, sOf, sNext, sSet, sIf, sDrop, sRaise, sUnp, sPar, setAll, toSeq, fVar, fCall, fCons, fA, fB, fNot, fIfB, fIfT, fChain, f1, f2, bnd, pur, lft, toB, iB, iI, cIx, cLen, cTup, cLst, cNot, isNon, cIsN, atI, ixN, cAbs, cInt, cMax, cMin, eqZ, fCallK, pick, cListOf, k1, k2, r1, r5]) rfl)).trans ?_
  refine (sSeq_nx (δ' := [some sc, some kk, some .box, some (srcT low high least most gap pause), some (.int number), some (.int many), some (.int stamp), some (.int span_), none, some (.tup [.int number, .int stamp]), some (.tup [.int n', .int t']), some (.tup (prog number (stamp / gap))), none, none]) (bx' := bx9) ?_).trans ?_
  · refine (sSet_ok (d := .tup (prog number (stamp / gap))) (bx' := bx9) (fA_ok (fCons_ok (bx2 := bx9) (fLc_ok (lo := 0) (n := (stamp / gap + 1).toNat) (p := fun m => decide (m % 256 = number)) ?_ (by omega) (fun i bx => by simp [fnD, noErr, sSeq, sRet, sOf, sNext, sSet, sIf, sDrop, sRaise, sUnp, sPar, setAll, toSeq, fVar, fCall, fCons, fA, fB, fNot, fIfB, fIfT, fChain, f1, f2, bnd, pur, lft, toB, iB, iI, cIx, cLen, cTup, cLst, cNot, isNon, cIsN, atI, ixN, cAbs, cInt, cMax, cMin, eqZ, iI]) fun i bx => by simp [fnD, noErr, sSeq, sRet, sOf, sNext, sSet, sIf, sDrop, sRaise, sUnp, sPar, setAll, toSeq, fVar, fCall, fCons, fA, fB, fNot, fIfB, fIfT, fChain, f1, f2, bnd, pur, lft, toB, iB, iI, cIx, cLen, cTup, cLst, cNot, isNon, cIsN, atI, ixN, cAbs, cInt, cMax, cMin, eqZ]) rfl) (by rw [fp _ q2.1]; rfl))).trans rfl
    simp [fnD, noErr, sSeq, sRet, sOf, sNext, sSet, sIf, sDrop, sRaise, sUnp, sPar, setAll, toSeq, fVar, fCall, fCons, fA, fB, fNot, fIfB, fIfT, fChain, f1, f2, bnd, pur, lft, toB, iB, iI, cIx, cLen, cTup, cLst, cNot, isNon, cIsN, atI, ixN, cAbs, cInt, cMax, cMin, eqZ, fRg1, iI, g1, g2, z1, z2]
  refine (sSeq_nx (sIf_no (bx' := bx9) (by simp [fnD, noErr, sSeq, sRet, sOf, sNext, sSet, sIf, sDrop, sRaise, sUnp, sPar, setAll, toSeq, fVar, fCall, fCons, fA, fB, fNot, fIfB, fIfT, fChain, f1, f2, bnd, pur, lft, toB, iB, iI, cIx, cLen, cTup, cLst, cNot, isNon, cIsN, atI, ixN, cAbs, cInt, cMax, cMin, eqZ, fCallK, pick, cListOf, k4, k5, r3, r6]) rfl)).trans ?_
  refine (sSeq_nx (δ' := [some sc, some kk, some .box, some (srcT low high least most gap pause), some (.int number), some (.int many), some (.int stamp), some (.int span_), none, some (.tup [.int number, .int stamp]), some (.tup [.int n', .int t']), some (.tup (prog number (stamp / gap))), none, some (.tup [.int number, .int (700 + w)])]) (bx' := bx10) ?_).trans ?_
  · simp [fnD, noErr, sSeq, sRet, sOf, sNext, sSet, sIf, sDrop, sRaise, sUnp, sPar, setAll, toSeq, fVar, fCall, fCons, fA, fB, fNot, fIfB, fIfT, fChain, f1, f2, bnd, pur, lft, toB, iB, iI, cIx, cLen, cTup, cLst, cNot, isNon, cIsN, atI, ixN, cAbs, cInt, cMax, cMin, eqZ, iI, e10]
  refine (sSeq_nx (sIf_no (bx' := bx10) ?_ rfl)).trans ?_
  · refine fB_ok (f2_ok (bx1 := bx10) (bx2 := bx10) (d := .tup (prog number ((700 + w) / gap))) (e := .tup (prog number ((700 + w) / gap))) (by simp [fnD, noErr, sSeq, sRet, sOf, sNext, sSet, sIf, sDrop, sRaise, sUnp, sPar, setAll, toSeq, fVar, fCall, fCons, fA, fB, fNot, fIfB, fIfT, fChain, f1, f2, bnd, pur, lft, toB, iB, iI, cIx, cLen, cTup, cLst, cNot, isNon, cIsN, atI, ixN, cAbs, cInt, cMax, cMin, eqZ, k6]) (fA_ok (fCons_ok (bx2 := bx10) (fLc_ok (lo := 0) (n := ((700 + w) / gap + 1).toNat) (p := fun m => decide (m % 256 = number)) ?_ (by omega) (fun i bx => by simp [fnD, noErr, sSeq, sRet, sOf, sNext, sSet, sIf, sDrop, sRaise, sUnp, sPar, setAll, toSeq, fVar, fCall, fCons, fA, fB, fNot, fIfB, fIfT, fChain, f1, f2, bnd, pur, lft, toB, iB, iI, cIx, cLen, cTup, cLst, cNot, isNon, cIsN, atI, ixN, cAbs, cInt, cMax, cMin, eqZ, iI]) fun i bx => by simp [fnD, noErr, sSeq, sRet, sOf, sNext, sSet, sIf, sDrop, sRaise, sUnp, sPar, setAll, toSeq, fVar, fCall, fCons, fA, fB, fNot, fIfB, fIfT, fChain, f1, f2, bnd, pur, lft, toB, iB, iI, cIx, cLen, cTup, cLst, cNot, isNon, cIsN, atI, ixN, cAbs, cInt, cMax, cMin, eqZ]) rfl) (by rw [fp _ q3.1]; rfl)) (r7 bx10))
    simp [fnD, noErr, sSeq, sRet, sOf, sNext, sSet, sIf, sDrop, sRaise, sUnp, sPar, setAll, toSeq, fVar, fCall, fCons, fA, fB, fNot, fIfB, fIfT, fChain, f1, f2, bnd, pur, lft, toB, iB, iI, cIx, cLen, cTup, cLst, cNot, isNon, cIsN, atI, ixN, cAbs, cInt, cMax, cMin, eqZ, fRg1, iI, g1, g2, z3, z4]
  refine (sSeq_nx (sIf_no (bx' := bx12) (by simp [fnD, noErr, sSeq, sRet, sOf, sNext, sSet, sIf, sDrop, sRaise, sUnp, sPar, setAll, toSeq, fVar, fCall, fCons, fA, fB, fNot, fIfB, fIfT, fChain, f1, f2, bnd, pur, lft, toB, iB, iI, cIx, cLen, cTup, cLst, cNot, isNon, cIsN, atI, ixN, cAbs, cInt, cMax, cMin, eqZ, e11, e12]) rfl)).trans rfl
end K13

set_option Elab.async false
set_option linter.all false
set_option maxRecDepth 100000
set_option maxHeartbeats 4000000
namespace K13
open PySem PySem.Spec PyProof.Rows L2 Mi
theorem kit_mk {K : PySem.W.Frag} {C B : Addr} (ne : C ≠ B) (i : PySem.W.isClsIn K B = true) (t : PySem.W.typeIn K (.ref B) = some (.type "type")) (s : PySem.W.subIn K (.ref C) (.ref B) = some true) : PySem.W.kitOne K (.ref C) (.ref B) = some true := by
  unfold PySem.W.kitOne PySem.W.kitCls
  rw [if_neg (by intro z; exact ne (Value.ref.inj (beq_iff_eq.mp z)))]
  have i' : (PySem.W.clsIn K B).isSome = true := i
  dsimp only
  rw [if_pos (by rw [i', t]; rfl)]
  exact s
theorem all_mk {l : PySem.W.OpenLaw} {w : World} {K : PySem.W.Frag} {h : Heap} {mg : Str → Option Value} {fa C B c36 P36 fI : Addr} {f4 : Addr} {oc4 kV4 dc4 pm4 ct4 : Value} {od4 an4 : Option Addr} {sl4 : Array (Option Value)} {cd4 : Value} {f5 : Addr} {oc5 kV5 dc5 pm5 ct5 : Value} {od5 an5 : Option Addr} {sl5 : Array (Option Value)} {cd5 : Value} {f6 : Addr} {oc6 kV6 dc6 pm6 ct6 : Value} {od6 an6 : Option Addr} {sl6 : Array (Option Value)} {cd6 : Value} {f7 : Addr} {oc7 kV7 dc7 pm7 ct7 : Value} {od7 an7 : Option Addr} {sl7 : Array (Option Value)} {cd7 : Value} {f8 : Addr} {oc8 kV8 dc8 pm8 ct8 : Value} {od8 an8 : Option Addr} {sl8 : Array (Option Value)} {cd8 : Value} {f15 : Addr} {oc15 kV15 dc15 pm15 ct15 : Value} {od15 an15 : Option Addr} {sl15 : Array (Option Value)} {cd15 : Value} {f16 : Addr} {oc16 kV16 dc16 pm16 ct16 : Value} {od16 an16 : Option Addr} {sl16 : Array (Option Value)} {cd16 : Value} {f18 : Addr} {oc18 kV18 dc18 pm18 ct18 : Value} {od18 an18 : Option Addr} {sl18 : Array (Option Value)} {cd18 : Value} {f19 : Addr} {oc19 kV19 dc19 pm19 ct19 : Value} {od19 an19 : Option Addr} {sl19 : Array (Option Value)} {cd19 : Value} {f20 : Addr} {oc20 kV20 dc20 pm20 ct20 : Value} {od20 an20 : Option Addr} {sl20 : Array (Option Value)} {cd20 : Value} {f21 : Addr} {oc21 kV21 dc21 pm21 ct21 : Value} {od21 an21 : Option Addr} {sl21 : Array (Option Value)} {cd21 : Value} {f22 : Addr} {oc22 kV22 dc22 pm22 ct22 : Value} {od22 an22 : Option Addr} {sl22 : Array (Option Value)} {cd22 : Value} {f23 : Addr} {oc23 kV23 dc23 pm23 ct23 : Value} {od23 an23 : Option Addr} {sl23 : Array (Option Value)} {cd23 : Value} {f24 : Addr} {oc24 kV24 dc24 pm24 ct24 : Value} {od24 an24 : Option Addr} {sl24 : Array (Option Value)} {cd24 : Value} {f25 : Addr} {oc25 kV25 dc25 pm25 ct25 : Value} {od25 an25 : Option Addr} {sl25 : Array (Option Value)} {cd25 : Value} {f26 : Addr} {oc26 kV26 dc26 pm26 ct26 : Value} {od26 an26 : Option Addr} {sl26 : Array (Option Value)} {cd26 : Value} {f27 : Addr} {oc27 kV27 dc27 pm27 ct27 : Value} {od27 an27 : Option Addr} {sl27 : Array (Option Value)} {cd27 : Value} {f29 : Addr} {oc29 kV29 dc29 pm29 ct29 : Value} {od29 an29 : Option Addr} {sl29 : Array (Option Value)} {cd29 : Value} {f30 : Addr} {oc30 kV30 dc30 pm30 ct30 : Value} {od30 an30 : Option Addr} {sl30 : Array (Option Value)} {cd30 : Value} {f31 : Addr} {oc31 kV31 dc31 pm31 ct31 : Value} {od31 an31 : Option Addr} {sl31 : Array (Option Value)} {cd31 : Value} {f32 : Addr} {oc32 kV32 dc32 pm32 ct32 : Value} {od32 an32 : Option Addr} {sl32 : Array (Option Value)} {cd32 : Value} {f33 : Addr} {oc33 kV33 dc33 pm33 ct33 : Value} {od33 an33 : Option Addr} {sl33 : Array (Option Value)} {cd33 : Value} {f34 : Addr} {oc34 kV34 dc34 pm34 ct34 : Value} {od34 an34 : Option Addr} {sl34 : Array (Option Value)} {cd34 : Value} {f35 : Addr} {oc35 kV35 dc35 pm35 ct35 : Value} {od35 an35 : Option Addr} {sl35 : Array (Option Value)} {cd35 : Value} {f36 : Addr} {oc36 kV36 dc36 pm36 ct36 : Value} {od36 an36 : Option Addr} {sl36 : Array (Option Value)} {f37 : Addr} {oc37 kV37 dc37 pm37 ct37 : Value} {od37 an37 : Option Addr} {sl37 : Array (Option Value)} {cd37 : Value} {tMOST_TICKS : Tok} {tMOST_WAY : Tok} {tMOST_STAMPS : Tok} {tNUMBERS : Tok} {tLAST_STAMP : Tok} {nm q : Str} {N : Addr} {bs bm : List Value} {sn : List Str} {sub : List Value} {ab : Bool} {col : Option Bool} {dd : Option Addr} {m0 m1 m2 m3 m5 : Option Value} {odI anI : Option Addr} {slI : Array (Option Value)} {ocI dcI pmI cdI ctI : Value}
    (X : K.In h) (G : h.Ns mainGlobals mg) (hfa : mg "law" = some (.ref fa))
    (a4 : PySem.W.nsIn K mainGlobals "is_integer" = some (some (.ref f4)))
    (l4 : K.lookup f4 = some ⟨oc4, od4, .func (PySem.W.fnOf "is_integer" "is_integer" (defArgs (topS 4)) (defBody (topS 4)) (defScope (topS 4)) .none kV4 dc4 pm4 an4 cd4 ct4), sl4⟩)
    (c4x : PySem.W.codeIn K cd4 "is_integer" = true)
    (k4 : PySem.W.keepIn K (.ref f4) = true)
    (a5 : PySem.W.nsIn K mainGlobals "is_within" = some (some (.ref f5)))
    (l5 : K.lookup f5 = some ⟨oc5, od5, .func (PySem.W.fnOf "is_within" "is_within" (defArgs (topS 5)) (defBody (topS 5)) (defScope (topS 5)) .none kV5 dc5 pm5 an5 cd5 ct5), sl5⟩)
    (c5x : PySem.W.codeIn K cd5 "is_within" = true)
    (k5 : PySem.W.keepIn K (.ref f5) = true)
    (a6 : PySem.W.nsIn K mainGlobals "is_below" = some (some (.ref f6)))
    (l6 : K.lookup f6 = some ⟨oc6, od6, .func (PySem.W.fnOf "is_below" "is_below" (defArgs (topS 6)) (defBody (topS 6)) (defScope (topS 6)) .none kV6 dc6 pm6 an6 cd6 ct6), sl6⟩)
    (c6x : PySem.W.codeIn K cd6 "is_below" = true)
    (k6 : PySem.W.keepIn K (.ref f6) = true)
    (a7 : PySem.W.nsIn K mainGlobals "is_sequence" = some (some (.ref f7)))
    (l7 : K.lookup f7 = some ⟨oc7, od7, .func (PySem.W.fnOf "is_sequence" "is_sequence" (defArgs (topS 7)) (defBody (topS 7)) (defScope (topS 7)) .none kV7 dc7 pm7 an7 cd7 ct7), sl7⟩)
    (c7x : PySem.W.codeIn K cd7 "is_sequence" = true)
    (k7 : PySem.W.keepIn K (.ref f7) = true)
    (a8 : PySem.W.nsIn K mainGlobals "has_parts" = some (some (.ref f8)))
    (l8 : K.lookup f8 = some ⟨oc8, od8, .func (PySem.W.fnOf "has_parts" "has_parts" (defArgs (topS 8)) (defBody (topS 8)) (defScope (topS 8)) .none kV8 dc8 pm8 an8 cd8 ct8), sl8⟩)
    (c8x : PySem.W.codeIn K cd8 "has_parts" = true)
    (k8 : PySem.W.keepIn K (.ref f8) = true)
    (a15 : PySem.W.nsIn K mainGlobals "_is_range" = some (some (.ref f15)))
    (l15 : K.lookup f15 = some ⟨oc15, od15, .func (PySem.W.fnOf "_is_range" "_is_range" (defArgs (topS 15)) (defBody (topS 15)) (defScope (topS 15)) .none kV15 dc15 pm15 an15 cd15 ct15), sl15⟩)
    (c15x : PySem.W.codeIn K cd15 "_is_range" = true)
    (k15 : PySem.W.keepIn K (.ref f15) = true)
    (a16 : PySem.W.nsIn K mainGlobals "is_source" = some (some (.ref f16)))
    (l16 : K.lookup f16 = some ⟨oc16, od16, .func (PySem.W.fnOf "is_source" "is_source" (defArgs (topS 16)) (defBody (topS 16)) (defScope (topS 16)) .none kV16 dc16 pm16 an16 cd16 ct16), sl16⟩)
    (c16x : PySem.W.codeIn K cd16 "is_source" = true)
    (k16 : PySem.W.keepIn K (.ref f16) = true)
    (a18 : PySem.W.nsIn K mainGlobals "_is_mark" = some (some (.ref f18)))
    (l18 : K.lookup f18 = some ⟨oc18, od18, .func (PySem.W.fnOf "_is_mark" "_is_mark" (defArgs (topS 18)) (defBody (topS 18)) (defScope (topS 18)) .none kV18 dc18 pm18 an18 cd18 ct18), sl18⟩)
    (c18x : PySem.W.codeIn K cd18 "_is_mark" = true)
    (k18 : PySem.W.keepIn K (.ref f18) = true)
    (a19 : PySem.W.nsIn K mainGlobals "_need_source" = some (some (.ref f19)))
    (l19 : K.lookup f19 = some ⟨oc19, od19, .func (PySem.W.fnOf "_need_source" "_need_source" (defArgs (topS 19)) (defBody (topS 19)) (defScope (topS 19)) .none kV19 dc19 pm19 an19 cd19 ct19), sl19⟩)
    (c19x : PySem.W.codeIn K cd19 "_need_source" = true)
    (k19 : PySem.W.keepIn K (.ref f19) = true)
    (a20 : PySem.W.nsIn K mainGlobals "_need_mark" = some (some (.ref f20)))
    (l20 : K.lookup f20 = some ⟨oc20, od20, .func (PySem.W.fnOf "_need_mark" "_need_mark" (defArgs (topS 20)) (defBody (topS 20)) (defScope (topS 20)) .none kV20 dc20 pm20 an20 cd20 ct20), sl20⟩)
    (c20x : PySem.W.codeIn K cd20 "_need_mark" = true)
    (k20 : PySem.W.keepIn K (.ref f20) = true)
    (a21 : PySem.W.nsIn K mainGlobals "rounded_up" = some (some (.ref f21)))
    (l21 : K.lookup f21 = some ⟨oc21, od21, .func (PySem.W.fnOf "rounded_up" "rounded_up" (defArgs (topS 21)) (defBody (topS 21)) (defScope (topS 21)) .none kV21 dc21 pm21 an21 cd21 ct21), sl21⟩)
    (c21x : PySem.W.codeIn K cd21 "rounded_up" = true)
    (k21 : PySem.W.keepIn K (.ref f21) = true)
    (a22 : PySem.W.nsIn K mainGlobals "_first_count" = some (some (.ref f22)))
    (l22 : K.lookup f22 = some ⟨oc22, od22, .func (PySem.W.fnOf "_first_count" "_first_count" (defArgs (topS 22)) (defBody (topS 22)) (defScope (topS 22)) .none kV22 dc22 pm22 an22 cd22 ct22), sl22⟩)
    (c22x : PySem.W.codeIn K cd22 "_first_count" = true)
    (k22 : PySem.W.keepIn K (.ref f22) = true)
    (a23 : PySem.W.nsIn K mainGlobals "_last_count" = some (some (.ref f23)))
    (l23 : K.lookup f23 = some ⟨oc23, od23, .func (PySem.W.fnOf "_last_count" "_last_count" (defArgs (topS 23)) (defBody (topS 23)) (defScope (topS 23)) .none kV23 dc23 pm23 an23 cd23 ct23), sl23⟩)
    (c23x : PySem.W.codeIn K cd23 "_last_count" = true)
    (k23 : PySem.W.keepIn K (.ref f23) = true)
    (a24 : PySem.W.nsIn K mainGlobals "_counts" = some (some (.ref f24)))
    (l24 : K.lookup f24 = some ⟨oc24, od24, .func (PySem.W.fnOf "_counts" "_counts" (defArgs (topS 24)) (defBody (topS 24)) (defScope (topS 24)) .none kV24 dc24 pm24 an24 cd24 ct24), sl24⟩)
    (c24x : PySem.W.codeIn K cd24 "_counts" = true)
    (k24 : PySem.W.keepIn K (.ref f24) = true)
    (a25 : PySem.W.nsIn K mainGlobals "counts" = some (some (.ref f25)))
    (l25 : K.lookup f25 = some ⟨oc25, od25, .func (PySem.W.fnOf "counts" "counts" (defArgs (topS 25)) (defBody (topS 25)) (defScope (topS 25)) .none kV25 dc25 pm25 an25 cd25 ct25), sl25⟩)
    (c25x : PySem.W.codeIn K cd25 "counts" = true)
    (k25 : PySem.W.keepIn K (.ref f25) = true)
    (a26 : PySem.W.nsIn K mainGlobals "ahead_counts" = some (some (.ref f26)))
    (l26 : K.lookup f26 = some ⟨oc26, od26, .func (PySem.W.fnOf "ahead_counts" "ahead_counts" (defArgs (topS 26)) (defBody (topS 26)) (defScope (topS 26)) .none kV26 dc26 pm26 an26 cd26 ct26), sl26⟩)
    (c26x : PySem.W.codeIn K cd26 "ahead_counts" = true)
    (k26 : PySem.W.keepIn K (.ref f26) = true)
    (a27 : PySem.W.nsIn K mainGlobals "doubt_span" = some (some (.ref f27)))
    (l27 : K.lookup f27 = some ⟨oc27, od27, .func (PySem.W.fnOf "doubt_span" "doubt_span" (defArgs (topS 27)) (defBody (topS 27)) (defScope (topS 27)) .none kV27 dc27 pm27 an27 cd27 ct27), sl27⟩)
    (c27x : PySem.W.codeIn K cd27 "doubt_span" = true)
    (k27 : PySem.W.keepIn K (.ref f27) = true)
    (a29 : PySem.W.nsIn K mainGlobals "_law_box" = some (some (.ref f29)))
    (l29 : K.lookup f29 = some ⟨oc29, od29, .func (PySem.W.fnOf "_law_box" "_law_box" (defArgs (topS 29)) (defBody (topS 29)) (defScope (topS 29)) .none kV29 dc29 pm29 an29 cd29 ct29), sl29⟩)
    (c29x : PySem.W.codeIn K cd29 "_law_box" = true)
    (k29 : PySem.W.keepIn K (.ref f29) = true)
    (a30 : PySem.W.nsIn K mainGlobals "_law_take" = some (some (.ref f30)))
    (l30 : K.lookup f30 = some ⟨oc30, od30, .func (PySem.W.fnOf "_law_take" "_law_take" (defArgs (topS 30)) (defBody (topS 30)) (defScope (topS 30)) .none kV30 dc30 pm30 an30 cd30 ct30), sl30⟩)
    (c30x : PySem.W.codeIn K cd30 "_law_take" = true)
    (k30 : PySem.W.keepIn K (.ref f30) = true)
    (a31 : PySem.W.nsIn K mainGlobals "_law_pick" = some (some (.ref f31)))
    (l31 : K.lookup f31 = some ⟨oc31, od31, .func (PySem.W.fnOf "_law_pick" "_law_pick" (defArgs (topS 31)) (defBody (topS 31)) (defScope (topS 31)) .none kV31 dc31 pm31 an31 cd31 ct31), sl31⟩)
    (c31x : PySem.W.codeIn K cd31 "_law_pick" = true)
    (k31 : PySem.W.keepIn K (.ref f31) = true)
    (a32 : PySem.W.nsIn K mainGlobals "_law_source" = some (some (.ref f32)))
    (l32 : K.lookup f32 = some ⟨oc32, od32, .func (PySem.W.fnOf "_law_source" "_law_source" (defArgs (topS 32)) (defBody (topS 32)) (defScope (topS 32)) .none kV32 dc32 pm32 an32 cd32 ct32), sl32⟩)
    (c32x : PySem.W.codeIn K cd32 "_law_source" = true)
    (k32 : PySem.W.keepIn K (.ref f32) = true)
    (a33 : PySem.W.nsIn K mainGlobals "_law_counts" = some (some (.ref f33)))
    (l33 : K.lookup f33 = some ⟨oc33, od33, .func (PySem.W.fnOf "_law_counts" "_law_counts" (defArgs (topS 33)) (defBody (topS 33)) (defScope (topS 33)) .none kV33 dc33 pm33 an33 cd33 ct33), sl33⟩)
    (c33x : PySem.W.codeIn K cd33 "_law_counts" = true)
    (k33 : PySem.W.keepIn K (.ref f33) = true)
    (a34 : PySem.W.nsIn K mainGlobals "_law_heard" = some (some (.ref f34)))
    (l34 : K.lookup f34 = some ⟨oc34, od34, .func (PySem.W.fnOf "_law_heard" "_law_heard" (defArgs (topS 34)) (defBody (topS 34)) (defScope (topS 34)) .none kV34 dc34 pm34 an34 cd34 ct34), sl34⟩)
    (c34x : PySem.W.codeIn K cd34 "_law_heard" = true)
    (k34 : PySem.W.keepIn K (.ref f34) = true)
    (a35 : PySem.W.nsIn K mainGlobals "_law_doubt_right" = some (some (.ref f35)))
    (l35 : K.lookup f35 = some ⟨oc35, od35, .func (PySem.W.fnOf "_law_doubt_right" "_law_doubt_right" (defArgs (topS 35)) (defBody (topS 35)) (defScope (topS 35)) .none kV35 dc35 pm35 an35 cd35 ct35), sl35⟩)
    (c35x : PySem.W.codeIn K cd35 "_law_doubt_right" = true)
    (k35 : PySem.W.keepIn K (.ref f35) = true)
    (a36 : PySem.W.nsIn K mainGlobals "_law_none_right" = some (some (.ref f36)))
    (l36 : K.lookup f36 = some ⟨oc36, od36, .func (PySem.W.fnOf "_law_none_right" "_law_none_right" (defArgs (topS 36)) (defBody (topS 36)) (defScope (topS 36)) .none kV36 dc36 pm36 an36 (.ref c36) ct36), sl36⟩)
    (c36x : PySem.W.codeIn K (.ref c36) "_law_none_right" = true)
    (k36 : PySem.W.keepIn K (.ref f36) = true)
    (a37 : PySem.W.nsIn K mainGlobals "law" = some (some (.ref f37)))
    (l37 : K.lookup f37 = some ⟨oc37, od37, .func (PySem.W.fnOf "law" "law" (defArgs (topS 37)) (defBody (topS 37)) (defScope (topS 37)) .none kV37 dc37 pm37 an37 cd37 ct37), sl37⟩)
    (c37x : PySem.W.codeIn K cd37 "law" = true)
    (k37 : PySem.W.keepIn K (.ref f37) = true)
    (vMOST_TICKS : PySem.W.nsIn K mainGlobals "MOST_TICKS" = some (some (.int 100 tMOST_TICKS)))
    (vMOST_WAY : PySem.W.nsIn K mainGlobals "MOST_WAY" = some (some (.int 1000 tMOST_WAY)))
    (vMOST_STAMPS : PySem.W.nsIn K mainGlobals "MOST_STAMPS" = some (some (.int 1000 tMOST_STAMPS)))
    (vNUMBERS : PySem.W.nsIn K mainGlobals "NUMBERS" = some (some (.int 256 tNUMBERS)))
    (vLAST_STAMP : PySem.W.nsIn K mainGlobals "LAST_STAMP" = some (some (.int 1000000 tLAST_STAMP)))
    (zisinstance : PySem.W.nsIn K mainGlobals "isinstance" = some none)
    (zint : PySem.W.nsIn K mainGlobals "int" = some none)
    (zbool : PySem.W.nsIn K mainGlobals "bool" = some none)
    (zlist : PySem.W.nsIn K mainGlobals "list" = some none)
    (ztuple : PySem.W.nsIn K mainGlobals "tuple" = some none)
    (zlen : PySem.W.nsIn K mainGlobals "len" = some none)
    (zrange : PySem.W.nsIn K mainGlobals "range" = some none)
    (zrepr : PySem.W.nsIn K mainGlobals "repr" = some none)
    (zabs : PySem.W.nsIn K mainGlobals "abs" = some none)
    (zmax : PySem.W.nsIn K mainGlobals "max" = some none)
    (zmin : PySem.W.nsIn K mainGlobals "min" = some none)
    (zsum : PySem.W.nsIn K mainGlobals "sum" = some none)
    (aC : PySem.W.nsIn K mainGlobals "Refused" = some (some (.ref C)))
    (aB : PySem.W.nsIn K mainGlobals "WreckError" = some (some (.ref B)))
    (xL : K.lookup C = some (PySem.excClassObj nm q C N bs bm true sn sub ab col dd m0 m1 m2 m3 m5 "ValueError.__new__"))
    (rv : PySem.HandSPX.refsVE bm = true)
    (sa : PySem.W.findIn K (.ref C) "__setattr__" = some (some (.builtin "object.__setattr__")))
    (ga : PySem.W.findIn K (.ref C) "__getattribute__" = some (some (.builtin "BaseException.__getattribute__")))
    (gg : PySem.W.findIn K (.ref C) "__getattr__" = some none)
    (nb : PySem.W.findIn K (.ref C) "at" = some none)
    (aI : PySem.W.findIn K (.ref C) "__init__" = some (some (.ref fI)))
    (tI : PySem.W.typeIn K (.ref fI) = some (.type "function"))
    (lI : K.lookup fI = some ⟨ocI, odI, .func (PySem.W.fnOf "__init__" "Refused.__init__" (PySem.RefX.iA ⟨6, 17, 6, 21⟩ ⟨6, 23, 6, 25⟩) (PySem.RefX.iB ⟨7, 8, 7, 12⟩ ⟨7, 8, 7, 15⟩ ⟨7, 18, 7, 20⟩ ⟨7, 8, 7, 20⟩) PySem.RefX.iS .none .none dcI pmI anI cdI ctI), slI⟩)
    (cI : PySem.W.codeIn K cdI "Refused.__init__" = true)
    (kC : PySem.W.keepIn K (.ref C) = true)
    (eC : PySem.W.subIn K (.ref C) (.type "BaseException") = some true)
    (tC : PySem.W.typeIn K (.ref C) = some (.type "type"))
    (hC : PySem.W.hasDictIn K C = true)
    (iC : PySem.W.isClsIn K C = true)
    (sC : PySem.W.subIn K (.ref C) (.ref C) = some true)
    (tB : PySem.W.typeIn K (.ref B) = some (.type "type"))
    (iB : PySem.W.isClsIn K B = true)
    (sB : PySem.W.subIn K (.ref C) (.ref B) = some true)
    (ne : C ≠ B)
    (hP : h.get? P36 = some tabE)
    (nP : K.lookup P36 = none)
    (hd : PySem.W.codeHdIn K c36 P36 = true) : LawAt l w K 63 mg fa h := by
  have e := hfa.symm.trans (PySem.W.mg_of X G a37)
  cases e
  refine ⟨[(c36, P36)], fun p hp => ?_, fun p hp => ?_, fun p hp => ?_, fun base H s₁ a ns hn e0 TBs hH hS => ?_⟩
  · cases List.mem_singleton.mp hp
    exact hP
  · cases List.mem_singleton.mp hp
    exact nP
  · cases List.mem_singleton.mp hp
    exact PySem.W.codeHd_of_K X hd
  · have kit := kit_mk ne iB tB sB
    have low : PySem.RefX.LowTxt K mg (Pm.mk [(P36, lamQ)] C).CR fI :=
      { gC := PySem.W.mg_of X G aC, cls := ⟨nm, q, N, bs, bm, sn, sub, ab, col, dd, m0, m1, m2, m3, m5, xL, rv⟩, sa := sa, ga := ga, gg := gg, noN := nb, iC := aI, tC := tI, kC := kC, exC := eC, tyC := tC, hdC := hC, te := PySem.W.exm_ref eC hC tC sC,
        fn := ⟨_, _, _, _, _, _, _, _, _, _, _, _, _, _, lI, cI⟩ }
    have T : Txt K mg (Pm.mk [(P36, lamQ)] C) fI := { isinstance := PySem.W.mg_none_of X G zisinstance, int := PySem.W.mg_none_of X G zint, bool := PySem.W.mg_none_of X G zbool, list := PySem.W.mg_none_of X G zlist, tuple := PySem.W.mg_none_of X G ztuple, len := PySem.W.mg_none_of X G zlen, range := PySem.W.mg_none_of X G zrange, repr := PySem.W.mg_none_of X G zrepr, abs := PySem.W.mg_none_of X G zabs, max := PySem.W.mg_none_of X G zmax, min := PySem.W.mg_none_of X G zmin, sum := PySem.W.mg_none_of X G zsum, MOST_TICKS := ⟨_, PySem.W.mg_of X G vMOST_TICKS⟩, MOST_WAY := ⟨_, PySem.W.mg_of X G vMOST_WAY⟩, MOST_STAMPS := ⟨_, PySem.W.mg_of X G vMOST_STAMPS⟩, NUMBERS := ⟨_, PySem.W.mg_of X G vNUMBERS⟩, LAST_STAMP := ⟨_, PySem.W.mg_of X G vLAST_STAMP⟩, low := low }
    have F4 := fun_mk (st := topS 4) l4 c4x k4
    have b4 := F4.binds (ps := ["value"]) fun _ _ _ _ _ _ us hl => match us, hl with | [_], _ => rfl
    have D_is_integer := ok_is_integer (Pg := l.prog) (w := w) (base := base) T  (PySem.W.mg_of X G a4) F4 b4
    have F5 := fun_mk (st := topS 5) l5 c5x k5
    have b5 := F5.binds (ps := ["value", "least", "most"]) fun _ _ _ _ _ _ us hl => match us, hl with | [_, _, _], _ => rfl
    have D_is_within := ok_is_within (Pg := l.prog) (w := w) (base := base) T D_is_integer (PySem.W.mg_of X G a5) F5 b5
    have F6 := fun_mk (st := topS 6) l6 c6x k6
    have b6 := F6.binds (ps := ["value", "bound"]) fun _ _ _ _ _ _ us hl => match us, hl with | [_, _], _ => rfl
    have D_is_below := ok_is_below (Pg := l.prog) (w := w) (base := base) T D_is_integer (PySem.W.mg_of X G a6) F6 b6
    have F7 := fun_mk (st := topS 7) l7 c7x k7
    have b7 := F7.binds (ps := ["value"]) fun _ _ _ _ _ _ us hl => match us, hl with | [_], _ => rfl
    have D_is_sequence := ok_is_sequence (Pg := l.prog) (w := w) (base := base) T  (PySem.W.mg_of X G a7) F7 b7
    have F8 := fun_mk (st := topS 8) l8 c8x k8
    have b8 := F8.binds (ps := ["value", "many"]) fun _ _ _ _ _ _ us hl => match us, hl with | [_, _], _ => rfl
    have D_has_parts := ok_has_parts (Pg := l.prog) (w := w) (base := base) T D_is_sequence (PySem.W.mg_of X G a8) F8 b8
    have F15 := fun_mk (st := topS 15) l15 c15x k15
    have b15 := F15.binds (ps := ["low", "high", "least", "most"]) fun _ _ _ _ _ _ us hl => match us, hl with | [_, _, _, _], _ => rfl
    have D__is_range := ok__is_range (Pg := l.prog) (w := w) (base := base) T D_is_within (PySem.W.mg_of X G a15) F15 b15
    have F16 := fun_mk (st := topS 16) l16 c16x k16
    have b16 := F16.binds (ps := ["value"]) fun _ _ _ _ _ _ us hl => match us, hl with | [_], _ => rfl
    have D_is_source := ok_is_source (Pg := l.prog) (w := w) (base := base) T D_has_parts D__is_range (PySem.W.mg_of X G a16) F16 b16
    have F18 := fun_mk (st := topS 18) l18 c18x k18
    have b18 := F18.binds (ps := ["value"]) fun _ _ _ _ _ _ us hl => match us, hl with | [_], _ => rfl
    have D__is_mark := ok__is_mark (Pg := l.prog) (w := w) (base := base) T D_has_parts D_is_below D_is_within (PySem.W.mg_of X G a18) F18 b18
    have F19 := fun_mk (st := topS 19) l19 c19x k19
    have b19 := F19.binds (ps := ["value"]) fun _ _ _ _ _ _ us hl => match us, hl with | [_], _ => rfl
    have D__need_source := ok__need_source (Pg := l.prog) (w := w) (base := base) T D_is_source (PySem.W.mg_of X G a19) F19 b19
    have F20 := fun_mk (st := topS 20) l20 c20x k20
    have b20 := F20.binds (ps := ["value"]) fun _ _ _ _ _ _ us hl => match us, hl with | [_], _ => rfl
    have D__need_mark := ok__need_mark (Pg := l.prog) (w := w) (base := base) T D__is_mark (PySem.W.mg_of X G a20) F20 b20
    have F21 := fun_mk (st := topS 21) l21 c21x k21
    have b21 := F21.binds (ps := ["many", "by"]) fun _ _ _ _ _ _ us hl => match us, hl with | [_, _], _ => rfl
    have D_rounded_up := ok_rounded_up (Pg := l.prog) (w := w) (base := base) T  (PySem.W.mg_of X G a21) F21 b21
    have F22 := fun_mk (st := topS 22) l22 c22x k22
    have b22 := F22.binds (ps := ["source", "one", "other"]) fun _ _ _ _ _ _ us hl => match us, hl with | [_, _, _], _ => rfl
    have D__first_count := ok__first_count (Pg := l.prog) (w := w) (base := base) T D_rounded_up (PySem.W.mg_of X G a22) F22 b22
    have F23 := fun_mk (st := topS 23) l23 c23x k23
    have b23 := F23.binds (ps := ["source", "one", "other"]) fun _ _ _ _ _ _ us hl => match us, hl with | [_, _, _], _ => rfl
    have D__last_count := ok__last_count (Pg := l.prog) (w := w) (base := base) T  (PySem.W.mg_of X G a23) F23 b23
    have F24 := fun_mk (st := topS 24) l24 c24x k24
    have b24 := F24.binds (ps := ["source", "one", "other"]) fun _ _ _ _ _ _ us hl => match us, hl with | [_, _, _], _ => rfl
    have D__counts := ok__counts (Pg := l.prog) (w := w) (base := base) T D__first_count D__last_count (PySem.W.mg_of X G a24) F24 b24
    have F25 := fun_mk (st := topS 25) l25 c25x k25
    have b25 := F25.binds (ps := ["source", "one", "other"]) fun _ _ _ _ _ _ us hl => match us, hl with | [_, _, _], _ => rfl
    have D_counts := ok_counts (Pg := l.prog) (w := w) (base := base) T D__need_source D__need_mark D__counts (PySem.W.mg_of X G a25) F25 b25
    have F26 := fun_mk (st := topS 26) l26 c26x k26
    have b26 := F26.binds (ps := ["source", "one"]) fun _ _ _ _ _ _ us hl => match us, hl with | [_, _], _ => rfl
    have D_ahead_counts := ok_ahead_counts (Pg := l.prog) (w := w) (base := base) T D__need_source D__need_mark (PySem.W.mg_of X G a26) F26 b26
    have F27 := fun_mk (st := topS 27) l27 c27x k27
    have b27 := F27.binds (ps := ["source"]) fun _ _ _ _ _ _ us hl => match us, hl with | [_], _ => rfl
    have D_doubt_span := ok_doubt_span (Pg := l.prog) (w := w) (base := base) T D__need_source D_rounded_up (PySem.W.mg_of X G a27) F27 b27
    have F30 := fun_mk (st := topS 30) l30 c30x k30
    have b30 := F30.binds (ps := ["_law_box_here", "_law_many"]) fun _ _ _ _ _ _ us hl => match us, hl with | [_, _], _ => rfl
    have D__law_take := ok__law_take (Pg := l.prog) (w := w) (base := base) T  (PySem.W.mg_of X G a30) F30 b30
    have F31 := fun_mk (st := topS 31) l31 c31x k31
    have b31 := F31.binds (ps := ["_law_box_here", "_law_some"]) fun _ _ _ _ _ _ us hl => match us, hl with | [_, _], _ => rfl
    have D__law_pick := ok__law_pick (Pg := l.prog) (w := w) (base := base) T D__law_take (PySem.W.mg_of X G a31) F31 b31
    have F32 := fun_mk (st := topS 32) l32 c32x k32
    have b32 := F32.binds (ps := ["_law_box_here"]) fun _ _ _ _ _ _ us hl => match us, hl with | [_], _ => rfl
    have D__law_source := ok__law_source (Pg := l.prog) (w := w) (base := base) T D__law_take D__law_pick (PySem.W.mg_of X G a32) F32 b32
    have F33 := fun_mk (st := topS 33) l33 c33x k33
    have b33 := F33.binds (ps := ["_law_source_here", "_law_one", "_law_other"]) fun _ _ _ _ _ _ us hl => match us, hl with | [_, _, _], _ => rfl
    have D__law_counts := ok__law_counts (Pg := l.prog) (w := w) (base := base) T  (PySem.W.mg_of X G a33) F33 b33
    have F35 := fun_mk (st := topS 35) l35 c35x k35
    have b35 := F35.binds (ps := ["_law_box_here", "_law_source_here"]) fun _ _ _ _ _ _ us hl => match us, hl with | [_, _], _ => rfl
    have D__law_doubt_right := ok__law_doubt_right (Pg := l.prog) (w := w) (base := base) T D_doubt_span D_counts D__law_take (PySem.W.mg_of X G a35) F35 b35
    have F34 := fun_mk (st := topS 34) l34 c34x k34
    have b34 := F34.binds (ps := ["_law_ask"]) fun _ _ _ _ _ _ us hl => match us, hl with | [_], _ => rfl
    have D_nr := ok__law_none_right (Pg := l.prog) (w := w) (base := base) (B := B) T D__law_pick D__law_take D_counts D_doubt_span D_ahead_counts (PySem.W.mg_of X G a34) k34 l34 c34x b34 ne kit (PySem.W.mg_of X G aB) (TBs _ List.mem_cons_self) List.mem_cons_self (fun q hq _ => by cases List.mem_singleton.mp hq; rfl) l36 c36x k36 (PySem.W.mg_of X G a36)
    have FB := fun_mk (st := topS 29) l29 c29x k29
    have bB := FB.binds (ps := ["_law_script", "_law_k"]) fun _ _ _ _ _ _ us hl => match us, hl with | [_, _], _ => rfl
    have L := ok_law (Pg := l.prog) (w := w) (base := base) T D__law_take D__law_pick D__law_counts D__law_source D_ahead_counts D__law_doubt_right D_doubt_span D_counts D_nr (PySem.W.mg_of X G a29) FB bB boxOk roundOk endOk l37 c37x
    refine L.run callerA [] s₁ H ⟨[.ref a], []⟩ [.ref a] [.ref a] (fun v _ => v = .bl true) E0 rfl ⟨rfl, by decide, by decide⟩ e0 (.of_eq rfl) (.cons rfl .nil) ⟨.ref a, ns, rfl, ?_, fun p hp => ?_, hn, fun _ => rfl⟩
    · rcases hS with hS | hS
      · exact .lst (.inl ⟨hS, ⟨fun z => (nomatch z), fun z => (nomatch z)⟩⟩) (RA.ints ns)
      · exact .lst (.inr (.inr hS)) (RA.ints ns)
    · cases List.mem_singleton.mp hp
      exact LamX.TabS.nil (hH _ List.mem_cons_self)
end K13
open PySem PySem.W PyProof.Rows in
set_option maxRecDepth 100000 in
set_option maxHeartbeats 0 in
theorem PySem.Challenge.cw_wrecktold_k13_whole_how_many_frames_on_holds : PySem.Challenge.rw_wrecktold_k13_whole_how_many_frames_on.Holds := by
  w_on; o_law; k_head; (case hw => w_witness2)
  k_fill
  refine Mi.walkG (l := PySem.Challenge.rw_wrecktold_k13_whole_how_many_frames_on) (n := 63) rfl (by decide) rfl (fun w h Y => PySem.W.km_in_of Y) ?F
  case F =>
    intro w mg fa h Y KX G hmg
    have hT8 := PySem.W.km_tabs_of Y
    refine' K13.all_mk KX G hmg ?a4 ?l4 ?c4x ?k4 ?a5 ?l5 ?c5x ?k5 ?a6 ?l6 ?c6x ?k6 ?a7 ?l7 ?c7x ?k7 ?a8 ?l8 ?c8x ?k8 ?a15 ?l15 ?c15x ?k15 ?a16 ?l16 ?c16x ?k16 ?a18 ?l18 ?c18x ?k18 ?a19 ?l19 ?c19x ?k19 ?a20 ?l20 ?c20x ?k20 ?a21 ?l21 ?c21x ?k21 ?a22 ?l22 ?c22x ?k22 ?a23 ?l23 ?c23x ?k23 ?a24 ?l24 ?c24x ?k24 ?a25 ?l25 ?c25x ?k25 ?a26 ?l26 ?c26x ?k26 ?a27 ?l27 ?c27x ?k27 ?a29 ?l29 ?c29x ?k29 ?a30 ?l30 ?c30x ?k30 ?a31 ?l31 ?c31x ?k31 ?a32 ?l32 ?c32x ?k32 ?a33 ?l33 ?c33x ?k33 ?a34 ?l34 ?c34x ?k34 ?a35 ?l35 ?c35x ?k35 ?a36 ?l36 ?c36x ?k36 ?a37 ?l37 ?c37x ?k37 ?vMOST_TICKS ?vMOST_WAY ?vMOST_STAMPS ?vNUMBERS ?vLAST_STAMP ?zisinstance ?zint ?zbool ?zlist ?ztuple ?zlen ?zrange ?zrepr ?zabs ?zmax ?zmin ?zsum ?aC ?aB ?xL ?rv ?sa ?ga ?gg ?nb ?aI ?tI ?lI ?cI ?kC ?eC ?tC ?hC ?iC ?sC ?tB ?iB ?sB ?ne ?hP ?nP ?hd
    (case a4 => k_is)
    (case l4 => k_is)
    (case c4x => k_is)
    (case k4 => k_is)
    (case a5 => k_is)
    (case l5 => k_is)
    (case c5x => k_is)
    (case k5 => k_is)
    (case a6 => k_is)
    (case l6 => k_is)
    (case c6x => k_is)
    (case k6 => k_is)
    (case a7 => k_is)
    (case l7 => k_is)
    (case c7x => k_is)
    (case k7 => k_is)
    (case a8 => k_is)
    (case l8 => k_is)
    (case c8x => k_is)
    (case k8 => k_is)
    (case a15 => k_is)
    (case l15 => k_is)
    (case c15x => k_is)
    (case k15 => k_is)
    (case a16 => k_is)
    (case l16 => k_is)
    (case c16x => k_is)
    (case k16 => k_is)
    (case a18 => k_is)
    (case l18 => k_is)
    (case c18x => k_is)
    (case k18 => k_is)
    (case a19 => k_is)
    (case l19 => k_is)
    (case c19x => k_is)
    (case k19 => k_is)
    (case a20 => k_is)
    (case l20 => k_is)
    (case c20x => k_is)
    (case k20 => k_is)
    (case a21 => k_is)
    (case l21 => k_is)
    (case c21x => k_is)
    (case k21 => k_is)
    (case a22 => k_is)
    (case l22 => k_is)
    (case c22x => k_is)
    (case k22 => k_is)
    (case a23 => k_is)
    (case l23 => k_is)
    (case c23x => k_is)
    (case k23 => k_is)
    (case a24 => k_is)
    (case l24 => k_is)
    (case c24x => k_is)
    (case k24 => k_is)
    (case a25 => k_is)
    (case l25 => k_is)
    (case c25x => k_is)
    (case k25 => k_is)
    (case a26 => k_is)
    (case l26 => k_is)
    (case c26x => k_is)
    (case k26 => k_is)
    (case a27 => k_is)
    (case l27 => k_is)
    (case c27x => k_is)
    (case k27 => k_is)
    (case a29 => k_is)
    (case l29 => k_is)
    (case c29x => k_is)
    (case k29 => k_is)
    (case a30 => k_is)
    (case l30 => k_is)
    (case c30x => k_is)
    (case k30 => k_is)
    (case a31 => k_is)
    (case l31 => k_is)
    (case c31x => k_is)
    (case k31 => k_is)
    (case a32 => k_is)
    (case l32 => k_is)
    (case c32x => k_is)
    (case k32 => k_is)
    (case a33 => k_is)
    (case l33 => k_is)
    (case c33x => k_is)
    (case k33 => k_is)
    (case a34 => k_is)
    (case l34 => k_is)
    (case c34x => k_is)
    (case k34 => k_is)
    (case a35 => k_is)
    (case l35 => k_is)
    (case c35x => k_is)
    (case k35 => k_is)
    (case a36 => k_is)
    (case l36 => k_is)
    (case c36x => k_is)
    (case k36 => k_is)
    (case a37 => k_is)
    (case l37 => k_is)
    (case c37x => k_is)
    (case k37 => k_is)
    (case vMOST_TICKS => k_is)
    (case vMOST_WAY => k_is)
    (case vMOST_STAMPS => k_is)
    (case vNUMBERS => k_is)
    (case vLAST_STAMP => k_is)
    (case zisinstance => k_is)
    (case zint => k_is)
    (case zbool => k_is)
    (case zlist => k_is)
    (case ztuple => k_is)
    (case zlen => k_is)
    (case zrange => k_is)
    (case zrepr => k_is)
    (case zabs => k_is)
    (case zmax => k_is)
    (case zmin => k_is)
    (case zsum => k_is)
    (case aC => k_is)
    (case aB => k_is)
    (case xL => k_is)
    (case rv => first | rfl | decide +kernel)
    (case sa => k_is)
    (case ga => k_is)
    (case gg => k_is)
    (case nb => k_is)
    (case aI => k_is)
    (case tI => k_is)
    (case lI => k_is)
    (case cI => k_is)
    (case kC => k_is)
    (case eC => k_is)
    (case tC => k_is)
    (case hC => k_is)
    (case iC => k_is)
    (case sC => first | rfl | k_is)
    (case tB => k_is)
    (case iB => k_is)
    (case sB => k_is)
    (case ne => decide)
    (case hP => exact hT8 _ List.mem_cons_self)
    (case nP => first | k_is | kernel_rfl | rfl)
    (case hd => first | k_is | kernel_rfl)

