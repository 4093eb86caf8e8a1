import PyProof.Rows.All
import Wide.All
import OpenK.AllK
import Wide.FinOn
import HandS.ForMost
import HandS.ForExc
import HandS.Wide
import HandS.IsInst
import HandS.Lambda
import HandS.Conv
import PyProof.ReprRoads
import PyProof.ReprLen
import HandS.TupAny
import HandS.Text
import HandS.Style
import HandS.ExcIs
import HandS.Zip
import KE.KNestM
import HandS.EndTab
import PyProof.GenQ
import HandS.AnyAll
import HandS.GenOver
import PySem.Challenge.RW_wrecktold_k14_whole_runs_of_a_boot
import HandS.Head0
import HandS.Head1
import HandS.Head2
import HandS.HeadEnd
import HandS.HeadHook1
import HandS.HeadHook2
import HandS.HeadHook3
import HandS.HeadHook4
section
set_option Elab.async false
set_option linter.all false
set_option maxRecDepth 100000
set_option maxHeartbeats 4000000
/-! Mirrors: an expression of the text read as a plain function over data, one box (a list of two ints) that changes. -/
namespace Ms
open PySem PySem.Spec PyProof.Rows L2

/-- what may not be told as data: the cells that live, and objects under way -/
structure Mu where
  cs : List (Addr × Bool)
  ex : List Addr
def Mu.ok (β : Mu) (a : Addr) : Prop := (a, true) ∉ β.cs ∧ a ∉ β.ex
/-- data: what a name of the text may hold -/
inductive D where
  | non | bl (b : Bool) | int (i : Int) | str (x : Str) | lst (l : List D) | tup (l : List D) | ref (k : Nat) | fn (x : Str) | scr (l : List Int)
/-- what changes: lists that grow -/
inductive Cell where
  | lst (l : List D) | dead
abbrev Sto := List Cell

def SL (β : Mu) (H : Hp) (a : Addr) (xs : List V) : Prop := L2.Rd H a (.lst xs) ∧ β.ok a
def ST (β : Mu) (H : Hp) (a : Addr) (xs : List V) : Prop := L2.Rd H a (.tup xs) ∧ β.ok a
def SS (K : PySem.W.Frag) (β : Mu) (H : Hp) (a : Addr) (xs : List V) : Prop := (L2.Rd H a (.lst xs) ∧ β.ok a) ∨ SqL K (fun _ => none) a xs
theorem SL.sq {K : PySem.W.Frag} {β : Mu} {H : Hp} {a : Addr} {xs : List V} (h : SL β H a xs) : SqL K H a xs := .inl h.1
theorem ST.sq {K : PySem.W.Frag} {β : Mu} {H : Hp} {a : Addr} {xs : List V} (h : ST β H a xs) : SqT K H a xs := .inl h.1
theorem rd_none {a : Addr} {u : HO} : ¬ L2.Rd (fun _ => none) a u := fun h => by
  rcases h with h | ⟨o, h⟩ <;> cases h
theorem SS.sq {K : PySem.W.Frag} {β : Mu} {H : Hp} {a : Addr} {xs : List V} (h : SS K β H a xs) : SqL K H a xs := by
  rcases h with h | h
  · exact .inl h.1
  · rcases h with h | h
    · exact (rd_none h).elim
    · exact .inr h
mutual
/-- a value is such data -/
inductive R (K : PySem.W.Frag) (β : Mu) (H : Hp) : V → D → Prop
  | non : R K β H .non .non
  | bl (b : Bool) : R K β H (.bl b) (.bl b)
  | int (i : Int) : R K β H (.int i) (.int i)
  | str (x : Str) : R K β H (.str x) (.str x)
  | lst {a : Addr} {xs : List V} {ds : List D} : SL β H a xs → RA K β H xs ds → R K β H (.ref a) (.lst ds)
  | tup {a : Addr} {xs : List V} {ds : List D} : ST β H a xs → RA K β H xs ds → R K β H (.ref a) (.tup ds)
  | ref {a : Addr} {k : Nat} {b : Bool} : β.cs[k]? = some (a, b) → R K β H (.ref a) (.ref k)
  | fn {a : Addr} {x : Str} : PySem.W.nsIn K mainGlobals x = some (some (.ref a)) → PySem.W.keepIn K (.ref a) = true → R K β H (.ref a) (.fn x)
  | scr {a : Addr} {ns : List Int} : SS K β H a (ns.map V.int) → R K β H (.ref a) (.scr ns)
inductive RA (K : PySem.W.Frag) (β : Mu) (H : Hp) : List V → List D → Prop
  | nil : RA K β H [] []
  | cons {v : V} {vs : List V} {d : D} {ds : List D} : R K β H v d → RA K β H vs ds → RA K β H (v :: vs) (d :: ds)
end

/-- what is told of a heap goes on: all but the cells and the tables of code; cells are never forgotten, and new ones are new -/
structure Le (β : Mu) (H : Hp) (β' : Mu) (H' : Hp) : Prop where
  cs : ∀ (k : Nat) (a : Addr) (b : Bool), β.cs[k]? = some (a, b) → ∃ b', β'.cs[k]? = some (a, b') ∧ (b' = true → b = true)
  nw : ∀ (k : Nat) (a : Addr) (b : Bool), β'.cs[k]? = some (a, b) → β.cs[k]? = none → ∀ o, H a = some o → ∃ ps, o = .tbl ps
  e1 : ∀ e, e ∈ β.ex → e ∈ β'.ex
  e2 : ∀ e, e ∈ β'.ex → e ∉ β.ex → ∀ o, H e = some o → ∃ ps, o = .tbl ps
  kp : ∀ b o, H b = some o → (b, true) ∉ β.cs → (∀ ps, o ≠ .tbl ps) → H' b = some o
  dm : ∀ b o, H b = some o → (∀ ps, o ≠ .tbl ps) → ∃ o', H' b = some o' ∧ ∀ ps, o' ≠ .tbl ps
theorem Le.refl {β : Mu} {H : Hp} : Le β H β H := ⟨fun k a b h => ⟨b, h, id⟩, fun k a b h n => (by rw [n] at h; cases h), fun _ h => h, fun e h n => (n h).elim, fun _ _ h _ _ => h, fun b o h t => ⟨o, h, t⟩⟩
theorem Le.live {β β' : Mu} {H H' : Hp} (l : Le β H β' H') {a : Addr} {o : HO} (h : H a = some o) (t : ∀ ps, o ≠ .tbl ps) (n : (a, true) ∉ β.cs) : (a, true) ∉ β'.cs := fun z => by
  obtain ⟨k, hk⟩ := List.getElem?_of_mem z
  cases e : β.cs[k]? with
  | none =>
    obtain ⟨ps, z⟩ := l.nw k a true hk e o h
    exact t ps z
  | some p =>
    obtain ⟨a', b⟩ := p
    obtain ⟨b', h1, h2⟩ := l.cs k a' b e
    rw [hk] at h1
    cases h1
    have := h2 rfl
    subst this
    exact n (List.mem_of_getElem? e)
theorem Le.trans {β β1 β2 : Mu} {H H1 H2 : Hp} (a : Le β H β1 H1) (b : Le β1 H1 β2 H2) : Le β H β2 H2 := by
  refine ⟨fun k c t h => ?_, fun k c t h n o ho => ?_, fun e h => b.e1 e (a.e1 e h), fun e h n o ho => ?_, fun c o h n t => ?_, fun c o h t => ?_⟩
  · obtain ⟨t1, h1, i1⟩ := a.cs k c t h
    obtain ⟨t2, h2, i2⟩ := b.cs k c t1 h1
    exact ⟨t2, h2, fun z => i1 (i2 z)⟩
  · cases e : β1.cs[k]? with
    | none =>
      have q := b.nw k c t h e
      by_cases ht : ∃ ps, o = .tbl ps
      · exact ht
      · obtain ⟨o', z, t'⟩ := a.dm c o ho (fun ps z => ht ⟨ps, z⟩)
        obtain ⟨ps, z2⟩ := q o' z
        exact (t' ps z2).elim
    | some p =>
      obtain ⟨c', t'⟩ := p
      obtain ⟨t2, h2, _⟩ := b.cs k c' t' e
      rw [h] at h2
      cases h2
      exact a.nw k c t' e n o ho
  · by_cases hm : e ∈ β1.ex
    · exact a.e2 e hm n o ho
    · have q := b.e2 e h hm
      by_cases ht : ∃ ps, o = .tbl ps
      · exact ht
      · obtain ⟨o', z, t'⟩ := a.dm e o ho (fun ps z => ht ⟨ps, z⟩)
        obtain ⟨ps, z2⟩ := q o' z
        exact (t' ps z2).elim
  · exact b.kp c o (a.kp c o h n t) (a.live h t n) t
  · obtain ⟨o', h', t'⟩ := a.dm c o h t
    exact b.dm c o' h' t'
theorem Le.of {β : Mu} {H H' : Hp} (e : ∀ b o, H b = some o → H' b = some o) : Le β H β H' := ⟨fun k a b h => ⟨b, h, id⟩, fun k a b h n => (by rw [n] at h; cases h), fun _ h => h, fun e h n => (n h).elim, fun b o h _ _ => e b o h, fun b o h t => ⟨o, e b o h, t⟩⟩
theorem Le.ext {β : Mu} {H H' : Hp} (e : ∀ b o, H b = some o → (∀ ps, o ≠ .tbl ps) → H' b = some o) : Le β H β H' := ⟨fun k a b h => ⟨b, h, id⟩, fun k a b h n => (by rw [n] at h; cases h), fun _ h => h, fun e h n => (n h).elim, fun b o h _ t => e b o h t, fun b o h t => ⟨o, e b o h t, t⟩⟩
theorem keep_new {H : Hp} {p : Addr} {o : HO} (h : H p = none) : ∀ b u, H b = some u → (upd H p o) b = some u := fun b u e => by
  rw [upd_ne (ne_of_none e h)]
  exact e
theorem Le.new {β : Mu} {H : Hp} {p : Addr} {o : HO} (h : H p = none) : Le β H β (upd H p o) := .of (keep_new h)
theorem rd_some {H : Hp} {a : Addr} {u : HO} (t : ∀ ps, u ≠ .tbl ps) (h : L2.Rd H a u) : ∃ o, H a = some o ∧ ∀ ps, o ≠ .tbl ps := by
  rcases h with h | ⟨o, h⟩
  · exact ⟨_, h, t⟩
  · exact ⟨_, h, fun ps z => by cases z⟩
theorem Le.rd {β β' : Mu} {H H' : Hp} (l : Le β H β' H') {a : Addr} {u : HO} (n : β.ok a) (h : L2.Rd H a u) (t : ∀ ps, u ≠ .tbl ps) : L2.Rd H' a u := by
  rcases h with h | ⟨o, h⟩
  · exact .inl (l.kp _ _ h n.1 t)
  · exact .inr ⟨o, l.kp _ _ h n.1 (fun ps z => by cases z)⟩
theorem Le.ok {β β' : Mu} {H H' : Hp} (l : Le β H β' H') {a : Addr} {u : HO} (n : β.ok a) (h : L2.Rd H a u) (t : ∀ ps, u ≠ .tbl ps) : β'.ok a := by
  obtain ⟨o, h, t⟩ := rd_some t h
  exact ⟨l.live h t n.1, fun z => by
    obtain ⟨ps, z2⟩ := l.e2 a z n.2 o h
    exact t ps z2⟩
theorem SL.le {β β' : Mu} {H H' : Hp} {a : Addr} {xs : List V} (h : SL β H a xs) (l : Le β H β' H') : SL β' H' a xs := ⟨l.rd h.2 h.1 (fun ps z => by cases z), l.ok h.2 h.1 (fun ps z => by cases z)⟩
theorem ST.le {β β' : Mu} {H H' : Hp} {a : Addr} {xs : List V} (h : ST β H a xs) (l : Le β H β' H') : ST β' H' a xs := ⟨l.rd h.2 h.1 (fun ps z => by cases z), l.ok h.2 h.1 (fun ps z => by cases z)⟩
theorem SS.le {K : PySem.W.Frag} {β β' : Mu} {H H' : Hp} {a : Addr} {xs : List V} (h : SS K β H a xs) (l : Le β H β' H') : SS K β' H' a xs := by
  rcases h with ⟨h, n⟩ | h
  · exact .inl ⟨l.rd n h (fun ps z => by cases z), l.ok n h (fun ps z => by cases z)⟩
  · exact .inr h
mutual
theorem R.le {K : PySem.W.Frag} {β β' : Mu} {H H' : Hp} (l : Le β H β' H') : ∀ {v : V} {d : D}, R K β H v d → R K β' H' v d
  | _, _, .non => .non
  | _, _, .bl b => .bl b
  | _, _, .int i => .int i
  | _, _, .str x => .str x
  | _, _, .lst h r => .lst (h.le l) (RA.le l r)
  | _, _, .tup h r => .tup (h.le l) (RA.le l r)
  | _, _, .ref h => by
    obtain ⟨b', h', _⟩ := l.cs _ _ _ h
    exact .ref h'
  | _, _, .fn h k => .fn h k
  | _, _, .scr h => .scr (h.le l)
theorem RA.le {K : PySem.W.Frag} {β β' : Mu} {H H' : Hp} (l : Le β H β' H') : ∀ {vs : List V} {ds : List D}, RA K β H vs ds → RA K β' H' vs ds
  | _, _, .nil => .nil
  | _, _, .cons h r => .cons (R.le l h) (RA.le l r)
end
theorem RA.length {K : PySem.W.Frag} {β : Mu} {H : Hp} : ∀ {vs : List V} {ds : List D}, RA K β H vs ds → vs.length = ds.length
  | _, _, .nil => rfl
  | _, _, .cons _ r => by rw [List.length_cons, List.length_cons, RA.length r]
theorem RA.get {K : PySem.W.Frag} {β : Mu} {H : Hp} : ∀ {vs : List V} {ds : List D} {i : Nat} {d : D}, RA K β H vs ds → ds[i]? = some d → ∃ v, vs[i]? = some v ∧ R K β H v d
  | _, _, _, _, .nil, e => by simp at e
  | _, _, 0, d, .cons (v := v) h _, e => by
    have e2 := Option.some.inj e
    subst e2
    exact ⟨v, rfl, h⟩
  | _, _, i + 1, d, .cons _ r, e => by
    obtain ⟨v, h1, h2⟩ := RA.get (i := i) r (by simpa using e)
    exact ⟨v, by simpa using h1, h2⟩
theorem RA.append {K : PySem.W.Frag} {β : Mu} {H : Hp} : ∀ {vs ws : List V} {ds es : List D}, RA K β H vs ds → RA K β H ws es → RA K β H (vs ++ ws) (ds ++ es)
  | _, _, _, _, .nil, h => h
  | _, _, _, _, .cons a r, h => .cons a (RA.append r h)
theorem RA.drop {K : PySem.W.Frag} {β : Mu} {H : Hp} : ∀ {vs : List V} {ds : List D} (n : Nat), RA K β H vs ds → RA K β H (vs.drop n) (ds.drop n)
  | _, _, 0, h => by simpa using h
  | _, _, n + 1, .nil => by simpa using RA.nil
  | _, _, n + 1, .cons _ r => by simpa using RA.drop n r
theorem RA.take {K : PySem.W.Frag} {β : Mu} {H : Hp} : ∀ {vs : List V} {ds : List D} (n : Nat), RA K β H vs ds → RA K β H (vs.take n) (ds.take n)
  | _, _, 0, _ => by simpa using RA.nil
  | _, _, n + 1, .nil => by simpa using RA.nil
  | _, _, n + 1, .cons a r => by simpa using RA.cons a (RA.take n r)
theorem RA.ints {K : PySem.W.Frag} {β : Mu} {H : Hp} : ∀ ns : List Int, RA K β H (ns.map V.int) (ns.map D.int)
  | [] => .nil
  | n :: r => .cons (.int n) (RA.ints r)
theorem R.int_inv {K : PySem.W.Frag} {β : Mu} {H : Hp} {v : V} {i : Int} (h : R K β H v (.int i)) : v = .int i := by cases h; rfl
theorem R.bl_inv {K : PySem.W.Frag} {β : Mu} {H : Hp} {v : V} {b : Bool} (h : R K β H v (.bl b)) : v = .bl b := by cases h; rfl
theorem RA.ints_inv {K : PySem.W.Frag} {β : Mu} {H : Hp} : ∀ {ns : List Int} {vs : List V}, RA K β H vs (ns.map D.int) → vs = ns.map V.int
  | [], _, h => by cases h; rfl
  | n :: r, _, h => by
    cases h with
    | cons a b => rw [a.int_inv, RA.ints_inv b]; rfl

/-- what a cell holds -/
def CellOk (K : PySem.W.Frag) (β : Mu) (H : Hp) (a : Addr) (b : Bool) : Cell → Prop
  | .lst ds => b = true ∧ ∃ xs, H a = some (.lst xs) ∧ RA K β H xs ds
  | .dead => b = false
/-- the cells and the tables of code stand -/
structure Good (K : PySem.W.Frag) (T : List (Addr × Str)) (β : Mu) (st : Sto) (H : Hp) : Prop where
  ln : β.cs.length = st.length
  cs : ∀ (k : Nat) (a : Addr) (b : Bool), β.cs[k]? = some (a, b) → ∃ c, st[k]? = some c ∧ CellOk K β H a b c
  inj : ∀ (i j : Nat) (a : Addr) (b : Bool), β.cs[i]? = some (a, true) → β.cs[j]? = some (a, b) → i = j
  sm : ∀ (k : Nat) (a : Addr) (b : Bool), β.cs[k]? = some (a, b) → ∃ o, H a = some o ∧ ∀ ps, o ≠ .tbl ps
  ex : ∀ e, e ∈ β.ex → (∃ l, H e = some (.lst l)) ∧ ∀ b, (e, b) ∉ β.cs
  tb : LamX.Tabs T H
theorem CellOk.le {K : PySem.W.Frag} {β β' : Mu} {H H' : Hp} {a : Addr} {b : Bool} {c : Cell} (h : CellOk K β H a b c) (l : Le β H β' H') (s : ∀ xs, H a = some (.lst xs) → H' a = some (.lst xs)) : CellOk K β' H' a b c := by
  cases c with
  | dead => exact h
  | lst ds =>
    obtain ⟨h1, xs, h2, h3⟩ := h
    exact ⟨h1, xs, s xs h2, h3.le l⟩
theorem Good.ext {K : PySem.W.Frag} {T : List (Addr × Str)} {β : Mu} {st : Sto} {H H' : Hp} (g : Good K T β st H) (e : ∀ b o, H b = some o → H' b = some o) : Good K T β st H' :=
  ⟨g.ln, fun k a b h => by
    obtain ⟨c, h1, h2⟩ := g.cs k a b h
    exact ⟨c, h1, h2.le (.of e) fun xs z => e _ _ z⟩, g.inj, fun k a b h => by
    obtain ⟨o, z, t⟩ := g.sm k a b h
    exact ⟨o, e _ _ z, t⟩, fun a ha => by
    obtain ⟨⟨l, h⟩, n⟩ := g.ex a ha
    exact ⟨⟨l, e _ _ h⟩, n⟩, g.tb.ext e⟩
theorem Good.new {K : PySem.W.Frag} {T : List (Addr × Str)} {β : Mu} {st : Sto} {H : Hp} {p : Addr} {o : HO} (g : Good K T β st H) (h : H p = none) : Good K T β st (upd H p o) := g.ext (keep_new h)
theorem Good.ne {K : PySem.W.Frag} {T : List (Addr × Str)} {β : Mu} {st : Sto} {H : Hp} {p : Addr} (g : Good K T β st H) (h : H p = none) : β.ok p := by
  refine ⟨fun z => ?_, fun z => ?_⟩
  · obtain ⟨k, hk⟩ := List.getElem?_of_mem z
    obtain ⟨o, this, _⟩ := g.sm k p true hk
    rw [h] at this
    cases this
  · obtain ⟨⟨l, this⟩, _⟩ := g.ex p z
    rw [h] at this
    cases this
/-- a list of data, also one that grows, as it is now -/
def vl (st : Sto) : D → Option (List D)
  | .lst l => some l
  | .ref k => match st[k]? with
    | some (.lst l) => some l
    | _ => none
  | _ => none
theorem R.vl {K : PySem.W.Frag} {T : List (Addr × Str)} {β : Mu} {st : Sto} {H : Hp} {v : V} {d : D} {ds : List D} (r : R K β H v d) (g : Good K T β st H) (h : vl st d = some ds) : ∃ a xs, v = .ref a ∧ L2.Rd H a (.lst xs) ∧ RA K β H xs ds := by
  cases r with
  | lst s ra =>
    cases h
    exact ⟨_, _, rfl, s.1, ra⟩
  | ref hk =>
    rename_i a k b
    obtain ⟨c, h1, h2⟩ := g.cs _ _ _ hk
    simp only [Ms.vl, h1] at h
    cases c with
    | dead => cases h
    | lst l =>
      cases h
      obtain ⟨_, xs, h3, h4⟩ := h2
      exact ⟨a, xs, rfl, .inl h3, h4⟩
  | non => cases h
  | bl _ => cases h
  | int _ => cases h
  | str _ => cases h
  | tup _ _ => cases h
  | fn _ _ => cases h
  | scr _ => cases h

/-- what a piece of the text comes to: a result and the cells behind it, an error that keeps data, or: nothing is told -/
inductive Res (α : Type) where
  | ok (a : α) (st : Sto) | err (c : Str) (d : D) (st : Sto) | bad
abbrev Fn (α : Type) := List (Option D) → Sto → Res α
def pur {α : Type} (a : α) : Fn α := fun _ bx => .ok a bx
def bnd {α γ : Type} (F : Fn α) (G : α → Fn γ) : Fn γ := fun δ bx => match F δ bx with
  | .ok a bx' => G a δ bx'
  | .err c d bx' => .err c d bx'
  | .bad => .bad
def lft {α : Type} (o : Option α) : Fn α := fun _ bx => match o with
  | some a => .ok a bx
  | none => .bad
/-- where one stands: the tables, the errors' classes -/
structure Pm where
  T : List (Addr × Str)
  CR : Str → Addr
def OutE (K : PySem.W.Frag) (P : Pm) (β : Mu) (H : Hp) (c : Str) (d : D) (bx : Sto) (E : XK) : Prop :=
  ∀ β' a v H', Le β H β' H' → Good K P.T β' bx H' → H' a = some (.xd [(("at" : Str), v)]) → R K β' H' v d → E (.ref (P.CR c)) (some a) H'
/-- the end of an expression -/
def Out (K : PySem.W.Frag) (P : Pm) (β : Mu) (H : Hp) (r : Res D) (Q : VK) (E : XK) : Prop := match r with
  | .ok d bx => ∀ β' v H', Le β H β' H' → Good K P.T β' bx H' → R K β' H' v d → Q v H'
  | .err c d bx => OutE K P β H c d bx E
  | .bad => False
theorem OutE.le {K : PySem.W.Frag} {P : Pm} {β β1 : Mu} {H H1 : Hp} {c : Str} {d : D} {bx : Sto} {E : XK} (l : Le β H β1 H1) (h : OutE K P β H c d bx E) : OutE K P β1 H1 c d bx E :=
  fun β' a v H' l' g x r => h β' a v H' (l.trans l') g x r
theorem Out.le {K : PySem.W.Frag} {P : Pm} {β β1 : Mu} {H H1 : Hp} {r : Res D} {Q : VK} {E : XK} (l : Le β H β1 H1) (h : Out K P β H r Q E) : Out K P β1 H1 r Q E := by
  cases r with
  | ok d bx => exact fun β' v H' l' g r => h β' v H' (l.trans l') g r
  | err c d bx => exact OutE.le l h
  | bad => exact h
/-- the slots hold the data -/
structure Ev (K : PySem.W.Frag) (β : Mu) (H : Hp) (σ : L2.St) (δ : List (Option D)) : Prop where
  len : σ.length = δ.length
  at_ : ∀ (i : Nat) (d : D), δ[i]? = some (some d) → ∃ v, σ[i]? = some (some v) ∧ R K β H v d
theorem Ev.le {K : PySem.W.Frag} {β β' : Mu} {H H' : Hp} {σ : L2.St} {δ : List (Option D)} (e : Ev K β H σ δ) (l : Le β H β' H') : Ev K β' H' σ δ :=
  ⟨e.len, fun i d h => by
    obtain ⟨v, h1, h2⟩ := e.at_ i d h
    exact ⟨v, h1, h2.le l⟩⟩
theorem Ev.set {K : PySem.W.Frag} {β : Mu} {H : Hp} {σ : L2.St} {δ : List (Option D)} (e : Ev K β H σ δ) (i : Nat) {v : V} {d : D} (r : R K β H v d) : Ev K β H (σ.set i (some v)) (δ.set i (some d)) := by
  refine ⟨by simp [e.len], fun j d' h => ?_⟩
  by_cases hj : i = j
  · subst hj
    by_cases hl : i < δ.length
    · rw [List.getElem?_set_self hl] at h
      cases h
      exact ⟨v, List.getElem?_set_self (by rw [e.len]; exact hl), r⟩
    · rw [List.getElem?_eq_none (by simp; omega)] at h
      cases h
  · rw [List.getElem?_set_ne hj] at h
    obtain ⟨v', h1, h2⟩ := e.at_ j d' h
    exact ⟨v', by rw [List.getElem?_set_ne hj]; exact h1, h2⟩

section
variable {K : PySem.W.Frag} {P : Pm} {E : XK}
def tD (K : PySem.W.Frag) (P : Pm) (E : XK) (F : Fn D) : TE := fun σ H Q => ∃ β δ bx, Ev K β H σ δ ∧ Good K P.T β bx H ∧ Out K P β H (F δ bx) Q E
/-- lists of data -/
def OutA (K : PySem.W.Frag) (P : Pm) (β : Mu) (H : Hp) (r : Res (List D)) (Q : List V → Hp → Prop) (E : XK) : Prop := match r with
  | .ok ds bx => ∀ β' vs H', Le β H β' H' → Good K P.T β' bx H' → RA K β' H' vs ds → Q vs H'
  | .err c d bx => OutE K P β H c d bx E
  | .bad => False
def tDA (K : PySem.W.Frag) (P : Pm) (E : XK) (F : Fn (List D)) : TA := fun σ H Q => ∃ β δ bx, Ev K β H σ δ ∧ Good K P.T β bx H ∧ OutA K P β H (F δ bx) Q E
/-- tests -/
def OutT (K : PySem.W.Frag) (P : Pm) (β : Mu) (H : Hp) (r : Res Bool) (Q : Bool → Hp → Prop) (E : XK) : Prop := match r with
  | .ok b bx => ∀ β' H', Le β H β' H' → Good K P.T β' bx H' → Q b H'
  | .err c d bx => OutE K P β H c d bx E
  | .bad => False
def tDT (K : PySem.W.Frag) (P : Pm) (E : XK) (F : Fn Bool) : TT := fun σ H Q => ∃ β δ bx, Ev K β H σ δ ∧ Good K P.T β bx H ∧ OutT K P β H (F δ bx) Q E

theorem at_bind {F : Fn D} {G : D → Fn D} {β : Mu} {δ : List (Option D)} {bx : Sto} {σ : L2.St} {H : Hp} {Q Q1 : VK} (ev : Ev K β H σ δ) (g : Good K P.T β bx H) (o : Out K P β H (bnd F G δ bx) Q E)
    (k : ∀ β1 bx' x d H1, Le β H β1 H1 → Good K P.T β1 bx' H1 → R K β1 H1 x d → Out K P β1 H1 (G d δ bx') Q E → Q1 x H1) : tD K P E F σ H Q1 := by
  refine ⟨β, δ, bx, ev, g, ?_⟩
  unfold bnd at o
  cases hF : F δ bx with
  | ok d bx' =>
    rw [hF] at o
    exact fun β' v H' l g' r => k β' bx' v d H' l g' r (Out.le l o)
  | err c d bx' =>
    rw [hF] at o
    exact o
  | bad =>
    rw [hF] at o
    exact o
/-- the same, whatever the end is -/
theorem at_bindX {α : Type} {F : Fn D} {G : D → Fn α} {β : Mu} {δ : List (Option D)} {bx : Sto} {σ : L2.St} {H : Hp} {Q1 : VK} (ev : Ev K β H σ δ) (g : Good K P.T β bx H)
    (he : ∀ c d bx', bnd F G δ bx = .err c d bx' → OutE K P β H c d bx' E) (hb : bnd F G δ bx = .bad → False)
    (k : ∀ β1 bx' x d H1, Le β H β1 H1 → Good K P.T β1 bx' H1 → R K β1 H1 x d → bnd F G δ bx = G d δ bx' → Q1 x H1) : tD K P E F σ H Q1 := by
  refine ⟨β, δ, bx, ev, g, ?_⟩
  unfold bnd at he hb k
  cases hF : F δ bx with
  | ok d bx' =>
    rw [hF] at k
    exact fun β' v H' l g' r => k β' bx' v d H' l g' r rfl
  | err c d bx' =>
    rw [hF] at he
    exact he c d bx' rfl
  | bad =>
    rw [hF] at hb
    exact hb rfl
end
theorem pe_imp {X : Cx} {e : Expr} {t t' : TE} (h : PE X e t) (k : ∀ σ H Q, t' σ H Q → t σ H Q) : PE X e t' := ⟨fun pins s σ H Q I q => h.run pins s σ H Q I (k σ H Q q)⟩
theorem pa_imp {X : Cx} {e : List Expr} {t t' : TA} (h : PA X e t) (k : ∀ σ H Q, t' σ H Q → t σ H Q) : PA X e t' := ⟨fun pos pins s σ H Q I q => h.run pos pins s σ H Q I (k σ H Q q)⟩
theorem pt_imp {X : Cx} {e : Expr} {t t' : TT} (h : PT X e t) (k : ∀ σ H Q, t' σ H Q → t σ H Q) : PT X e t' := ⟨fun pins s σ H Q I q => h.run pins s σ H Q I (k σ H Q q)⟩
theorem pw_imp {X : Cx} {e : Expr} {t t' : TT} (h : PW X e t) (k : ∀ σ H Q, t' σ H Q → t σ H Q) : PW X e t' := ⟨fun w pins s σ H Q I q => h.run w pins s σ H Q I (k σ H Q q)⟩
theorem ps_imp {X : Cx} {e : Stmt} {t t' : TS} (h : PS X e t) (k : ∀ D σ H, t' D σ H → t D σ H) : PS X e t' := ⟨fun pins s σ H D I q => h.run pins s σ H D I (k D σ H q)⟩
theorem pss_imp {X : Cx} {e : List Stmt} {t t' : TS} (h : PSs X e t) (k : ∀ D σ H, t' D σ H → t D σ H) : PSs X e t' := ⟨fun pins s σ H D I q => h.run pins s σ H D I (k D σ H q)⟩

abbrev ED (X : Cx) (P : Pm) (E : XK) (e : Expr) (F : Fn D) : Prop := PE X e (tD X.K P E F)
abbrev EA (X : Cx) (P : Pm) (E : XK) (es : List Expr) (F : Fn (List D)) : Prop := PA X es (tDA X.K P E F)
abbrev ET (X : Cx) (P : Pm) (E : XK) (e : Expr) (F : Fn Bool) : Prop := PT X e (tDT X.K P E F)
end Ms

end
section
set_option Elab.async false
set_option linter.all false
set_option maxRecDepth 100000
set_option maxHeartbeats 4000000
namespace Ms
open PySem PySem.Spec PyProof.Rows L2
section
variable {X : Cx} {P : Pm} {E : XK} {pos : Pos}

/-! ### names, constants -/
def fVar (i : Nat) : Fn D := fun δ bx => match δ[i]? with
  | some (some d) => .ok d bx
  | _ => .bad
theorem ed_var (i : Nat) {x : Str} (hN : X.N[i]? = some x := by rfl) (hv : Vis X.env.scope x := by first | exact Or.inl rfl | exact Or.inr (Or.inl rfl) | exact Or.inr (Or.inr rfl)) (hd : (x == ("__debug__" : Str)) = false := by decide)
    (hcd : (x == ("__classdict__" : Str)) = false := by decide) : ED X P E (.Name x pos) (fVar i) := by
  refine pe_imp (pe_var hN hv hd hcd) fun σ H Q ⟨β, δ, bx, ev, g, o⟩ => ?_
  unfold fVar at o
  split at o
  · rename_i d hd
    obtain ⟨v, h1, h2⟩ := ev.at_ i d hd
    exact ⟨v, h1, o _ v H .refl g h2⟩
  · exact o.elim
theorem ed_c {e : Expr} {v : V} {d : D} (h : PE X e (tC v)) (r : ∀ β H, R X.K β H v d) : ED X P E e (pur d) :=
  pe_imp h fun _ H _ ⟨β, _, _, _, g, o⟩ => o _ v H .refl g (r β H)
theorem ed_int {i : Int} {j} : ED X P E (.Constant (.int i) j pos) (pur (.int i)) := ed_c pe_int fun _ _ => .int i
theorem ed_bl {b : Bool} {j} : ED X P E (.Constant (.bool b) j pos) (pur (.bl b)) := ed_c pe_bl fun _ _ => .bl b
theorem ed_non {j} : ED X P E (.Constant .none j pos) (pur .non) := ed_c pe_non fun _ _ => .non
theorem ed_str {x : Str} {j} : ED X P E (.Constant (.str x) j pos) (pur (.str x)) := ed_c pe_str fun _ _ => .str x
theorem ed_glob {x : Str} {i : Int} {t : Tok} (hg : Gl X x) (hm : X.mg x = some (.int i t)) (hd : (x == ("__debug__" : Str)) = false := by decide) : ED X P E (.Name x pos) (pur (.int i)) :=
  ed_c (v := .int i) (pe_glob hg hm ⟨t, rfl⟩ hd) fun _ _ => .int i

/-! ### two operands -/
def f2 (f : Sto → D → D → Option D) (F G : Fn D) : Fn D := bnd F fun d => bnd G fun e => fun δ bx => lft (f bx d e) δ bx
def OpD (X : Cx) (P : Pm) (r : R2) (f : Sto → D → D → Option D) : Prop := ∀ (β : Mu) (bx : Sto) (H : Hp) (x y : V) (d e z : D) (Q : VK), Good X.K P.T β bx H → R X.K β H x d → R X.K β H y e → f bx d e = some z →
  (∀ v H', Le β H β H' → Good X.K P.T β bx H' → R X.K β H' v z → Q v H') → r x y H Q
theorem ed_tOp {r : R2} {f : Sto → D → D → Option D} {F G : Fn D} (hr : OpD X P r f) : ∀ σ H Q, tD X.K P E (f2 f F G) σ H Q → tOp r (tD X.K P E F) (tD X.K P E G) σ H Q := by
  rintro σ H Q ⟨β, δ, bx, ev, g, o⟩
  refine at_bind ev g o fun β1 bx1 x d H1 l1 g1 r1 o1 => at_bind (ev.le l1) g1 o1 fun β2 bx2 y e H2 l2 g2 r2 o2 => ?_
  cases hf : f bx2 d e with
  | none =>
    rw [hf] at o2
    exact (show False from o2).elim
  | some z =>
    rw [hf] at o2
    exact hr β2 bx2 H2 x y d e z Q g2 (r1.le l2) r2 hf fun v H' l g r => o2 β2 v H' l g r
theorem ed_bin {op : Operator} {r : R2} {f : Sto → D → D → Option D} {a b : Expr} {F G : Fn D} (ho : OpR X (binaryOp op) r) (hr : OpD X P r f) (ha : ED X P E a F) (hb : ED X P E b G) : ED X P E (.BinOp a op b pos) (f2 f F G) :=
  pe_imp (pe_op ho ha hb) (ed_tOp hr)
theorem ed_cmp {op : CmpOp} {r : R2} {f : Sto → D → D → Option D} {a b : Expr} {F G : Fn D} (ho : OpR X (compareOp op) r) (hr : OpD X P r f) (ha : ED X P E a F) (hb : ED X P E b G) (hm : behindInMarks op b = false) : ED X P E (.Compare a [op] [b] pos) (f2 f F G) :=
  pe_imp (pe_cmpR ho ha hb hm) (ed_tOp hr)

def iI (C : Int → Int → Bool) (g : Int → Int → Int) : Sto → D → D → Option D
  | _, .int i, .int j => if C i j = true then some (.int (g i j)) else none
  | _, _, _ => none
def iB (p : Int → Int → Bool) : Sto → D → D → Option D
  | _, .int i, .int j => some (.bl (p i j))
  | _, _, _ => none
theorem iI_inv {C : Int → Int → Bool} {g : Int → Int → Int} {bx : Sto} {d e z : D} (h : iI C g bx d e = some z) : ∃ i j, d = .int i ∧ e = .int j ∧ C i j = true ∧ z = .int (g i j) := by
  cases d <;> cases e <;> simp [iI] at h
  rename_i i j
  exact ⟨i, j, rfl, rfl, h.1, h.2.symm⟩
theorem opd_I {C' : Int → Int → Prop} {C : Int → Int → Bool} {g : Int → Int → Int} (hC : ∀ i j, C i j = true → C' i j) : OpD X P (rI C' fun i j => .int (g i j)) (iI C g) := by
  intro β bx H x y d e z Q gd rx ry h k
  obtain ⟨i, j, rfl, rfl, hc, rfl⟩ := iI_inv h
  exact ⟨i, j, rx.int_inv, ry.int_inv, hC i j hc, k _ H .refl gd (.int _)⟩
theorem opd_I0 {g : Int → Int → Int} : OpD X P (rI0 fun i j => .int (g i j)) (iI (fun _ _ => true) g) := by
  intro β bx H x y d e z Q gd rx ry h k
  obtain ⟨i, j, rfl, rfl, hc, rfl⟩ := iI_inv h
  exact ⟨i, j, rx.int_inv, ry.int_inv, k _ H .refl gd (.int _)⟩
theorem iB_inv {p : Int → Int → Bool} {bx : Sto} {d e z : D} (h : iB p bx d e = some z) : ∃ i j, d = .int i ∧ e = .int j ∧ z = .bl (p i j) := by
  cases d <;> cases e <;> simp [iB] at h
  rename_i i j
  exact ⟨i, j, rfl, rfl, h.symm⟩
theorem opd_B {p : Int → Int → Bool} : OpD X P (rI0 fun i j => .bl (p i j)) (iB p) := by
  intro β bx H x y d e z Q gd rx ry h k
  obtain ⟨i, j, rfl, rfl, rfl⟩ := iB_inv h
  exact ⟨i, j, rx.int_inv, ry.int_inv, k _ H .refl gd (.bl _)⟩
abbrev cAdd := iI (fun _ _ => true) fun i j => i + j
abbrev cSub := iI (fun _ _ => true) fun i j => i - j
abbrev cMul := iI (fun i j => decide (-(2 ^ 64) < i ∧ i < 2 ^ 64) || decide (-(2 ^ 64) < j ∧ j < 2 ^ 64)) fun i j => i * j
abbrev cDiv := iI (fun _ j => decide (0 < j ∧ j < 1073741824)) fun i j => i / j
abbrev cMod := iI (fun _ j => decide (0 < j)) fun i j => i % j
abbrev cPow := iI (fun i j => decide (0 ≤ j ∧ j ≤ 1000000 ∧ i.natAbs < 2 ^ 64)) fun i j => i ^ j.toNat
variable {a b : Expr} {F G : Fn D}
theorem ed_add (ha : ED X P E a F) (hb : ED X P E b G) : ED X P E (.BinOp a .Add b pos) (f2 cAdd F G) := ed_bin op_add opd_I0 ha hb
theorem ed_sub (ha : ED X P E a F) (hb : ED X P E b G) : ED X P E (.BinOp a .Sub b pos) (f2 cSub F G) := ed_bin op_sub opd_I0 ha hb
theorem ed_mul (ha : ED X P E a F) (hb : ED X P E b G) : ED X P E (.BinOp a .Mult b pos) (f2 cMul F G) := ed_bin op_mul (opd_I fun i j h => by
  rcases Bool.or_eq_true_iff.mp h with h | h
  · exact .inl (of_decide_eq_true h)
  · exact .inr (of_decide_eq_true h)) ha hb
theorem ed_div (ha : ED X P E a F) (hb : ED X P E b G) : ED X P E (.BinOp a .FloorDiv b pos) (f2 cDiv F G) := ed_bin op_fdiv (opd_I fun i j h => (of_decide_eq_true h : (0 : Int) < j ∧ j < 1073741824)) ha hb
theorem ed_mod (ha : ED X P E a F) (hb : ED X P E b G) : ED X P E (.BinOp a .Mod b pos) (f2 cMod F G) := ed_bin op_mod (opd_I fun i j h => of_decide_eq_true h) ha hb
theorem ed_pow (ha : ED X P E a F) (hb : ED X P E b G) : ED X P E (.BinOp a .Pow b pos) (f2 cPow F G) := ed_bin op_pow (opd_I fun i j h => (of_decide_eq_true h : (0 : Int) ≤ j ∧ j ≤ 1000000 ∧ i.natAbs < 2 ^ 64)) ha hb
theorem ed_lt (ha : ED X P E a F) (hb : ED X P E b G) : ED X P E (.Compare a [.Lt] [b] pos) (f2 (iB fun i j => decide (i < j)) F G) := ed_cmp op_lt opd_B ha hb (nomark _)
theorem ed_le (ha : ED X P E a F) (hb : ED X P E b G) : ED X P E (.Compare a [.LtE] [b] pos) (f2 (iB fun i j => decide (i ≤ j)) F G) := ed_cmp op_le opd_B ha hb (nomark _)
theorem ed_gt (ha : ED X P E a F) (hb : ED X P E b G) : ED X P E (.Compare a [.Gt] [b] pos) (f2 (iB fun i j => decide (j < i)) F G) := ed_cmp op_gt opd_B ha hb (nomark _)
theorem ed_ge (ha : ED X P E a F) (hb : ED X P E b G) : ED X P E (.Compare a [.GtE] [b] pos) (f2 (iB fun i j => decide (j ≤ i)) F G) := ed_cmp op_ge opd_B ha hb (nomark _)

/-! ### one operand -/
def f1 (f : Sto → D → Option D) (F : Fn D) : Fn D := bnd F fun d => fun δ bx => lft (f bx d) δ bx
def UnD (X : Cx) (P : Pm) (r : V → Hp → VK → Prop) (f : Sto → D → Option D) : Prop := ∀ (β : Mu) (bx : Sto) (H : Hp) (x : V) (d z : D) (Q : VK), Good X.K P.T β bx H → R X.K β H x d → f bx d = some z →
  (∀ v H', Le β H β H' → Good X.K P.T β bx H' → R X.K β H' v z → Q v H') → r x H Q
theorem ed_t1 {r : V → Hp → VK → Prop} {f : Sto → D → Option D} {F : Fn D} (hr : UnD X P r f) : ∀ σ H Q, tD X.K P E (f1 f F) σ H Q → (tD X.K P E F) σ H fun x H1 => r x H1 Q := by
  rintro σ H Q ⟨β, δ, bx, ev, g, o⟩
  refine at_bind ev g o fun β1 bx1 x d H1 l1 g1 r1 o1 => ?_
  cases hf : f bx1 d with
  | none =>
    rw [hf] at o1
    exact (show False from o1).elim
  | some z =>
    rw [hf] at o1
    exact hr β1 bx1 H1 x d z Q g1 r1 hf fun v H' l g r => o1 β1 v H' l g r
def cNeg : Sto → D → Option D
  | _, .int i => some (.int (-i))
  | _, _ => none
theorem ed_neg (ha : ED X P E a F) : ED X P E (.UnaryOp .USub a pos) (f1 cNeg F) := pe_imp (pe_un un_neg ha) (ed_t1 fun β bx H x d z Q g r h k => by
  cases d <;> simp [cNeg] at h
  subst h
  exact ⟨_, r.int_inv, k _ H .refl g (.int _)⟩)
def cNot : Sto → D → Option D
  | _, .bl b => some (.bl (!b))
  | _, _ => none
theorem ed_not (ha : ED X P E a F) : ED X P E (.UnaryOp .Not a pos) (f1 cNot F) := pe_imp (pe_not ha) (ed_t1 (r := fun x H Q => ∃ c, x = .bl c ∧ Q (.bl (!c)) H) fun β bx H x d z Q g r h k => by
  cases d <;> simp [cNot] at h
  subst h
  exact ⟨_, r.bl_inv, k _ H .refl g (.bl _)⟩)
def isNon : D → Bool
  | .non => true
  | _ => false
theorem isNon_of {K : PySem.W.Frag} {β : Mu} {H : Hp} {v : V} {d : D} (r : R K β H v d) : decide (v = .non) = isNon d := by
  cases r <;> simp [isNon]
def cIsN : Sto → D → Option D := fun _ d => some (.bl (isNon d))
def cNotN : Sto → D → Option D := fun _ d => some (.bl (!isNon d))
theorem ed_isN {j pos'} (ha : ED X P E a F) : ED X P E (.Compare a [.Is] [.Constant .none j pos'] pos) (f1 cIsN F) := pe_imp (pe_cmp (pc_isN ha)) (ed_t1 (r := fun x H Q => Q (.bl (decide (x = .non))) H) fun β bx H x d z Q g r h k => by
  cases h
  rw [isNon_of r]
  exact k _ H .refl g (.bl _))
theorem ed_notN {j pos'} (ha : ED X P E a F) : ED X P E (.Compare a [.IsNot] [.Constant .none j pos'] pos) (f1 cNotN F) := pe_imp (pe_cmp (pc_notN ha)) (ed_t1 (r := fun x H Q => Q (.bl (!decide (x = .non))) H) fun β bx H x d z Q g r h k => by
  cases h
  rw [isNon_of r]
  exact k _ H .refl g (.bl _))

/-! ### and, or, if -/
def toB : D → Option Bool
  | .bl b => some b
  | _ => none
/-- a result's truth, the rest by it -/
def fIfB {α : Type} (F : Fn D) (A B : Fn α) : Fn α := bnd F fun d => fun δ bx => match toB d with
  | some true => A δ bx
  | some false => B δ bx
  | none => .bad
theorem toB_inv {d : D} {b : Bool} (h : toB d = some b) : d = .bl b := by
  cases d <;> simp [toB] at h
  rw [h]
variable {rest : List Expr}
theorem ed_one {op} (h : ED X P E a F) : ED X P E (.BoolOp op [a] pos) F := pe_one h
theorem ed_and (ha : ED X P E a F) (hb : ED X P E (.BoolOp .And (b :: rest) pos) G) : ED X P E (.BoolOp .And (a :: b :: rest) pos) (fIfB F G (pur (.bl false))) := by
  refine pe_imp (pe_and ha hb) ?_
  rintro σ H Q ⟨β, δ, bx, ev, g, o⟩
  refine at_bind ev g o fun β1 bx1 x d H1 l1 g1 r1 o1 => ?_
  split at o1
  · rename_i h
    cases toB_inv h
    exact ⟨true, r1.bl_inv, iteT ⟨β1, δ, bx1, ev.le l1, g1, o1⟩⟩
  · rename_i h
    cases toB_inv h
    exact ⟨false, r1.bl_inv, iteF (o1 _ _ H1 .refl g1 (.bl _))⟩
  · exact o1.elim
theorem ed_or (ha : ED X P E a F) (hb : ED X P E (.BoolOp .Or (b :: rest) pos) G) : ED X P E (.BoolOp .Or (a :: b :: rest) pos) (fIfB F (pur (.bl true)) G) := by
  refine pe_imp (pe_or ha hb) ?_
  rintro σ H Q ⟨β, δ, bx, ev, g, o⟩
  refine at_bind ev g o fun β1 bx1 x d H1 l1 g1 r1 o1 => ?_
  split at o1
  · rename_i h
    cases toB_inv h
    exact ⟨true, r1.bl_inv, iteT (o1 _ _ H1 .refl g1 (.bl _))⟩
  · rename_i h
    cases toB_inv h
    exact ⟨false, r1.bl_inv, iteF ⟨β1, δ, bx1, ev.le l1, g1, o1⟩⟩
  · exact o1.elim

/-! ### tests -/
theorem att_bind {K : PySem.W.Frag} {α : Type} {F : Fn D} {Gt : D → Fn Bool} {β : Mu} {δ : List (Option D)} {bx : Sto} {σ : L2.St} {H : Hp} {Q : Bool → Hp → Prop} {Q1 : VK} (ev : Ev K β H σ δ) (g : Good K P.T β bx H) (o : OutT K P β H (bnd F Gt δ bx) Q E)
    (k : ∀ β1 bx' x d H1, Le β H β1 H1 → Good K P.T β1 bx' H1 → R K β1 H1 x d → OutT K P β1 H1 (Gt d δ bx') Q E → Q1 x H1) : tD K P E F σ H Q1 := by
  refine ⟨β, δ, bx, ev, g, ?_⟩
  unfold bnd at o
  cases hF : F δ bx with
  | ok d bx' =>
    rw [hF] at o
    refine fun β' v H' l g' r => k β' bx' v d H' l g' r ?_
    dsimp only at o
    cases hr : Gt d δ bx' with
    | ok b bx'' =>
      rw [hr] at o
      exact fun β'' H'' l2 g2 => o β'' H'' (l.trans l2) g2
    | err c e bx'' =>
      rw [hr] at o
      exact OutE.le l o
    | bad =>
      rw [hr] at o
      exact o
  | err c d bx' =>
    rw [hF] at o
    exact o
  | bad =>
    rw [hF] at o
    exact o
/-- data as a test -/
def fB (F : Fn D) : Fn Bool := bnd F fun d => lft (toB d)
theorem tB_of {σ : L2.St} {H : Hp} {Q : Bool → Hp → Prop} (h : tDT X.K P E (fB F) σ H Q) : tD X.K P E F σ H fun x H1 => ∃ c, x = .bl c ∧ Q c H1 := by
  obtain ⟨β, δ, bx, ev, g, o⟩ := h
  refine att_bind (α := Unit) ev g o fun β1 bx1 x d H1 l1 g1 r1 o1 => ?_
  cases hb : toB d with
  | none =>
    rw [hb] at o1
    exact (show False from o1).elim
  | some c =>
    rw [hb] at o1
    cases toB_inv hb
    exact ⟨c, r1.bl_inv, o1 _ H1 .refl g1⟩
/-- a name, a call as a test -/
theorem et_val {e : Expr} (h : ED X P E e F) (he : ∀ whole, isTrue e X.env whole = (do let v ← whole; standAt e.pos; holding [v] (truthy v)) := by intro _; rfl) : ET X P E e (fB F) :=
  pt_imp (pt_val h he) fun _ _ _ q => tB_of q
theorem et_cmp {op : CmpOp} {r : R2} {f : Sto → D → D → Option D} (ho : OpR X (compareOp op) r) (hr : OpD X P r f) (ha : ED X P E a F) (hb : ED X P E b G) (hm : behindInMarks op b = false) : ET X P E (.Compare a [op] [b] pos) (fB (f2 f F G)) :=
  pt_imp (pt_cmpR ho ha hb hm) fun σ H Q q => ed_tOp hr σ H _ (tB_of q)
theorem et_lt (ha : ED X P E a F) (hb : ED X P E b G) : ET X P E (.Compare a [.Lt] [b] pos) (fB (f2 (iB fun i j => decide (i < j)) F G)) := et_cmp op_lt opd_B ha hb (nomark _)
theorem et_le (ha : ED X P E a F) (hb : ED X P E b G) : ET X P E (.Compare a [.LtE] [b] pos) (fB (f2 (iB fun i j => decide (i ≤ j)) F G)) := et_cmp op_le opd_B ha hb (nomark _)
theorem et_gt (ha : ED X P E a F) (hb : ED X P E b G) : ET X P E (.Compare a [.Gt] [b] pos) (fB (f2 (iB fun i j => decide (j < i)) F G)) := et_cmp op_gt opd_B ha hb (nomark _)
theorem et_ge (ha : ED X P E a F) (hb : ED X P E b G) : ET X P E (.Compare a [.GtE] [b] pos) (fB (f2 (iB fun i j => decide (j ≤ i)) F G)) := et_cmp op_ge opd_B ha hb (nomark _)
theorem et_isN {j pos'} (ha : ED X P E a F) : ET X P E (.Compare a [.Is] [.Constant .none j pos'] pos) (fB (f1 cIsN F)) :=
  pt_imp (pt_cmp (pc_isN ha)) fun σ H Q q => ed_t1 (r := fun x H Q => Q (.bl (decide (x = .non))) H) (fun β bx H x d z Q g r h k => by
    cases h
    rw [isNon_of r]
    exact k _ H .refl g (.bl _)) σ H _ (tB_of q)
theorem et_notN {j pos'} (ha : ED X P E a F) : ET X P E (.Compare a [.IsNot] [.Constant .none j pos'] pos) (fB (f1 cNotN F)) :=
  pt_imp (pt_cmp (pc_notN ha)) fun σ H Q q => ed_t1 (r := fun x H Q => Q (.bl (!decide (x = .non))) H) (fun β bx H x d z Q g r h k => by
    cases h
    rw [isNon_of r]
    exact k _ H .refl g (.bl _)) σ H _ (tB_of q)

/-- tests one behind another -/
def fIfT {α : Type} (C : Fn Bool) (A B : Fn α) : Fn α := bnd C fun c => if c = true then A else B
theorem atB_bind {K : PySem.W.Frag} {C : Fn Bool} {Gt : Bool → Fn Bool} {β : Mu} {δ : List (Option D)} {bx : Sto} {σ : L2.St} {H : Hp} {Q Q1 : Bool → Hp → Prop} (ev : Ev K β H σ δ) (g : Good K P.T β bx H) (o : OutT K P β H (bnd C Gt δ bx) Q E)
    (k : ∀ β1 bx' c H1, Le β H β1 H1 → Good K P.T β1 bx' H1 → OutT K P β1 H1 (Gt c δ bx') Q E → Q1 c H1) : tDT K P E C σ H Q1 := by
  refine ⟨β, δ, bx, ev, g, ?_⟩
  unfold bnd at o
  cases hF : C δ bx with
  | ok d bx' =>
    rw [hF] at o
    refine fun β' H' l g' => k β' bx' d H' l g' ?_
    dsimp only at o
    cases hr : Gt d δ bx' with
    | ok b bx'' =>
      rw [hr] at o
      exact fun β'' H'' l2 g2 => o β'' H'' (l.trans l2) g2
    | err c e bx'' =>
      rw [hr] at o
      exact OutE.le l o
    | bad =>
      rw [hr] at o
      exact o
  | err c d bx' =>
    rw [hF] at o
    exact o
  | bad =>
    rw [hF] at o
    exact o
abbrev EW (X : Cx) (P : Pm) (E : XK) (e : Expr) (F : Fn Bool) : Prop := PW X e (tDT X.K P E F)
variable {A B : Fn Bool}
theorem ew_and1 (ha : ET X P E a A) : EW X P E (.BoolOp .And [a] pos) A := pw_and1 ha
theorem ew_or1 (ha : ET X P E a A) : EW X P E (.BoolOp .Or [a] pos) A := pw_or1 ha
theorem ew_and (ha : ET X P E a A) (hb : EW X P E (.BoolOp .And (b :: rest) pos) B) : EW X P E (.BoolOp .And (a :: b :: rest) pos) (fIfT A B (pur false)) := by
  refine pw_imp (pw_and ha hb) ?_
  rintro σ H Q ⟨β, δ, bx, ev, g, o⟩
  refine atB_bind ev g o fun β1 bx1 c H1 l1 g1 o1 => ?_
  cases c with
  | true => exact iteT ⟨β1, δ, bx1, ev.le l1, g1, by simpa using o1⟩
  | false => exact iteF ((show OutT X.K P β1 H1 (.ok false bx1) Q E by simpa [pur] using o1) _ H1 .refl g1)
theorem ew_or (ha : ET X P E a A) (hb : EW X P E (.BoolOp .Or (b :: rest) pos) B) : EW X P E (.BoolOp .Or (a :: b :: rest) pos) (fIfT A (pur true) B) := by
  refine pw_imp (pw_or ha hb) ?_
  rintro σ H Q ⟨β, δ, bx, ev, g, o⟩
  refine atB_bind ev g o fun β1 bx1 c H1 l1 g1 o1 => ?_
  cases c with
  | false => exact iteF ⟨β1, δ, bx1, ev.le l1, g1, by simpa using o1⟩
  | true => exact iteT ((show OutT X.K P β1 H1 (.ok true bx1) Q E by simpa [pur] using o1) _ H1 .refl g1)
theorem et_w {e : Expr} (h : EW X P E e A) : ET X P E e A := h.pt
def fNot (A : Fn Bool) : Fn Bool := bnd A fun c => pur (!c)
theorem et_not (ha : ET X P E a A) : ET X P E (.UnaryOp .Not a pos) (fNot A) := by
  refine pt_imp (pt_not ha) ?_
  rintro σ H Q ⟨β, δ, bx, ev, g, o⟩
  exact atB_bind ev g o fun β1 bx1 c H1 l1 g1 o1 => o1 _ H1 .refl g1
/-- a if c else b -/
theorem atT_bind {K : PySem.W.Frag} {C : Fn Bool} {Gt : Bool → Fn D} {β : Mu} {δ : List (Option D)} {bx : Sto} {σ : L2.St} {H : Hp} {Q : VK} {Q1 : Bool → Hp → Prop} (ev : Ev K β H σ δ) (g : Good K P.T β bx H) (o : Out K P β H (bnd C Gt δ bx) Q E)
    (k : ∀ β1 bx' c H1, Le β H β1 H1 → Good K P.T β1 bx' H1 → Out K P β1 H1 (Gt c δ bx') Q E → Q1 c H1) : tDT K P E C σ H Q1 := by
  refine ⟨β, δ, bx, ev, g, ?_⟩
  unfold bnd at o
  cases hF : C δ bx with
  | ok d bx' =>
    rw [hF] at o
    exact fun β' H' l g' => k β' bx' d H' l g' (Out.le l o)
  | err c d bx' =>
    rw [hF] at o
    exact o
  | bad =>
    rw [hF] at o
    exact o
theorem ed_ifExp {c : Expr} {C : Fn Bool} (hc : ET X P E c C) (ha : ED X P E a F) (hb : ED X P E b G) : ED X P E (.IfExp c a b pos) (fIfT C F G) := by
  refine pe_imp (pe_ifExp hc ha hb) ?_
  rintro σ H Q ⟨β, δ, bx, ev, g, o⟩
  refine atT_bind ev g o fun β1 bx1 c H1 l1 g1 o1 => ?_
  cases c with
  | true => exact iteT ⟨β1, δ, bx1, ev.le l1, g1, by simpa using o1⟩
  | false => exact iteF ⟨β1, δ, bx1, ev.le l1, g1, by simpa using o1⟩
/-- a ∘ b ∘ c on ints -/
def fChain (p q : Int → Int → Bool) (F G J : Fn D) : Fn D := bnd F fun d => bnd G fun e => fun δ bx => match iB p bx d e with
  | some (.bl true) => bnd J (fun z => fun δ bx => lft (iB q bx e z) δ bx) δ bx
  | some (.bl false) => .ok (.bl false) bx
  | _ => .bad
theorem ed_tChain {p q : Int → Int → Bool} {J : Fn D} : ∀ σ H Q, tD X.K P E (fChain p q F G J) σ H Q → tChain (rI0 fun i j => .bl (p i j)) (rI0 fun i j => .bl (q i j)) (tD X.K P E F) (tD X.K P E G) (tD X.K P E J) σ H Q := by
  rintro σ H Q ⟨β, δ, bx, ev, g, o⟩
  refine at_bind ev g o fun β1 bx1 x d H1 l1 g1 r1 o1 => at_bind (ev.le l1) g1 o1 fun β2 bx2 y e H2 l2 g2 r2 o2 => ?_
  split at o2
  · rename_i h0
    have h := h0
    obtain ⟨i, j, rfl, rfl, _⟩ := iB_inv h0
    refine ⟨i, j, (r1.le l2).int_inv, r2.int_inv, true, ?_, ?_⟩
    · exact congrArg V.bl (D.bl.inj (Option.some.inj (show some (D.bl (p i j)) = some (D.bl true) by first | exact h | exact h0)))
    refine iteT (at_bind ((ev.le l1).le l2) g2 o2 fun β3 bx3 z f H3 l3 g3 r3 o3 => ?_)
    cases hz : iB q bx3 (.int j) f with
    | none =>
      rw [hz] at o3
      exact (show False from o3).elim
    | some w =>
      rw [hz] at o3
      obtain ⟨j', k', e1, rfl, rfl⟩ := iB_inv hz
      cases e1
      exact ⟨j, k', (r2.le l3).int_inv, r3.int_inv, o3 _ _ H3 .refl g3 (.bl _)⟩
  · rename_i h0
    have h := h0
    obtain ⟨i, j, rfl, rfl, _⟩ := iB_inv h0
    refine ⟨i, j, (r1.le l2).int_inv, r2.int_inv, false, ?_, iteF (o2 _ _ H2 .refl g2 (.bl _))⟩
    exact congrArg V.bl (D.bl.inj (Option.some.inj (show some (D.bl (p i j)) = some (D.bl false) by first | exact h | exact h0)))
  · exact o2.elim
section
variable {c : Expr} {J : Fn D}
theorem ed_chain {op op' : CmpOp} {p q : Int → Int → Bool} (ho : OpR X (compareOp op) (rI0 fun i j => .bl (p i j))) (ho' : OpR X (compareOp op') (rI0 fun i j => .bl (q i j))) (ha : ED X P E a F) (hb : ED X P E b G) (hc : ED X P E c J)
    (hm : lastMarks [op, op'] [b, c] = false := by with_unfolding_all rfl) : ED X P E (.Compare a [op, op'] [b, c] pos) (fChain p q F G J) := pe_imp (pe_chain ho ho' ha hb hc hm) ed_tChain
theorem et_chain {op op' : CmpOp} {p q : Int → Int → Bool} (ho : OpR X (compareOp op) (rI0 fun i j => .bl (p i j))) (ho' : OpR X (compareOp op') (rI0 fun i j => .bl (q i j))) (ha : ED X P E a F) (hb : ED X P E b G) (hc : ED X P E c J)
    (hm : lastMarks [op, op'] [b, c] = false := by with_unfolding_all rfl) : ET X P E (.Compare a [op, op'] [b, c] pos) (fB (fChain p q F G J)) := pt_imp (pt_chain ho ho' ha hb hc hm) fun σ H Q h => ed_tChain σ H _ (tB_of h)
end
end
end Ms

end
section
set_option Elab.async false
set_option linter.all false
set_option maxRecDepth 100000
set_option maxHeartbeats 4000000
namespace Ms
open PySem PySem.Spec PyProof.Rows L2
/-! ### any end -/
def OutX {α : Type} (P : Pm) (K : PySem.W.Frag) (β : Mu) (H : Hp) (r : Res α) (E : XK) (k : α → Mu → Sto → Hp → Prop) : Prop := match r with
  | .ok a bx => ∀ β' H', Le β H β' H' → Good K P.T β' bx H' → k a β' bx H'
  | .err c d bx => OutE K P β H c d bx E
  | .bad => False
section
variable {K : PySem.W.Frag} {P : Pm} {E : XK} {β β1 : Mu} {δ : List (Option D)} {bx : Sto} {σ : L2.St} {H H1 : Hp} {α γ : Type}
theorem OutX.le {r : Res α} {k : α → Mu → Sto → Hp → Prop} (l : Le β H β1 H1) (h : OutX P K β H r E k) : OutX P K β1 H1 r E k := by
  cases r with
  | ok a bx => exact fun β' H' l' g => h β' H' (l.trans l') g
  | err c d bx => exact OutE.le l h
  | bad => exact h
theorem Out.x {r : Res D} {Q : VK} (o : Out K P β H r Q E) : OutX P K β H r E fun d β' _ H' => ∀ v, R K β' H' v d → Q v H' := by
  cases r with
  | ok a bx => exact fun β' H' l' g v r => o β' v H' l' g r
  | err c d bx => exact o
  | bad => exact o
theorem OutA.x {r : Res (List D)} {Q : List V → Hp → Prop} (o : OutA K P β H r Q E) : OutX P K β H r E fun d β' _ H' => ∀ v, RA K β' H' v d → Q v H' := by
  cases r with
  | ok a bx => exact fun β' H' l' g v r => o β' v H' l' g r
  | err c d bx => exact o
  | bad => exact o
theorem OutT.x {r : Res Bool} {Q : Bool → Hp → Prop} (o : OutT K P β H r Q E) : OutX P K β H r E fun d _ _ H' => Q d H' := by
  cases r with
  | ok a bx => exact fun β' H' l' g => o β' H' l' g
  | err c d bx => exact o
  | bad => exact o
theorem x_bind {F : Fn α} {G : α → Fn γ} {k : γ → Mu → Sto → Hp → Prop} (o : OutX P K β H (bnd F G δ bx) E k) : OutX P K β H (F δ bx) E fun a β1 bx' H1 => Le β H β1 H1 → OutX P K β1 H1 (G a δ bx') E k := by
  unfold bnd at o
  cases hF : F δ bx with
  | ok d bx' =>
    rw [hF] at o
    exact fun β' H' l' g l => OutX.le l o
  | err c d bx' =>
    rw [hF] at o
    exact o
  | bad =>
    rw [hF] at o
    exact o
theorem d_bind {F : Fn D} {G : D → Fn γ} {k : γ → Mu → Sto → Hp → Prop} {Q1 : VK} (ev : Ev K β H σ δ) (g : Good K P.T β bx H) (o : OutX P K β H (bnd F G δ bx) E k)
    (h : ∀ β1 bx' x d H1, Le β H β1 H1 → Good K P.T β1 bx' H1 → R K β1 H1 x d → OutX P K β1 H1 (G d δ bx') E k → Q1 x H1) : tD K P E F σ H Q1 := by
  have o2 := x_bind o
  refine ⟨β, δ, bx, ev, g, ?_⟩
  cases hF : F δ bx with
  | ok d bx' =>
    rw [hF] at o2
    exact fun β' v H' l g' r => h β' bx' v d H' l g' r (o2 β' H' l g' l)
  | err c d bx' =>
    rw [hF] at o2
    exact o2
  | bad =>
    rw [hF] at o2
    exact o2
theorem a_bind {F : Fn (List D)} {G : List D → Fn γ} {k : γ → Mu → Sto → Hp → Prop} {Q1 : List V → Hp → Prop} (ev : Ev K β H σ δ) (g : Good K P.T β bx H) (o : OutX P K β H (bnd F G δ bx) E k)
    (h : ∀ β1 bx' x d H1, Le β H β1 H1 → Good K P.T β1 bx' H1 → RA K β1 H1 x d → OutX P K β1 H1 (G d δ bx') E k → Q1 x H1) : tDA K P E F σ H Q1 := by
  have o2 := x_bind o
  refine ⟨β, δ, bx, ev, g, ?_⟩
  cases hF : F δ bx with
  | ok d bx' =>
    rw [hF] at o2
    exact fun β' v H' l g' r => h β' bx' v d H' l g' r (o2 β' H' l g' l)
  | err c d bx' =>
    rw [hF] at o2
    exact o2
  | bad =>
    rw [hF] at o2
    exact o2
theorem t_bind {F : Fn Bool} {G : Bool → Fn γ} {k : γ → Mu → Sto → Hp → Prop} {Q1 : Bool → Hp → Prop} (ev : Ev K β H σ δ) (g : Good K P.T β bx H) (o : OutX P K β H (bnd F G δ bx) E k)
    (h : ∀ β1 bx' x H1, Le β H β1 H1 → Good K P.T β1 bx' H1 → OutX P K β1 H1 (G x δ bx') E k → Q1 x H1) : tDT K P E F σ H Q1 := by
  have o2 := x_bind o
  refine ⟨β, δ, bx, ev, g, ?_⟩
  cases hF : F δ bx with
  | ok d bx' =>
    rw [hF] at o2
    exact fun β' H' l g' => h β' bx' d H' l g' (o2 β' H' l g' l)
  | err c d bx' =>
    rw [hF] at o2
    exact o2
  | bad =>
    rw [hF] at o2
    exact o2
theorem OutX.lft {o : Option α} {k : α → Mu → Sto → Hp → Prop} (g : Good K P.T β bx H) (h : OutX P K β H (Ms.lft o δ bx) E k) : ∃ a, o = some a ∧ k a β bx H := by
  cases o with
  | none => exact h.elim
  | some a => exact ⟨a, rfl, h β H .refl g⟩
theorem OutX.lft' {o : Option α} {k : α → Mu → Sto → Hp → Prop} (h : OutX P K β H (Ms.lft o δ bx) E k) : ∃ a, o = some a ∧ ∀ β' H', Le β H β' H' → Good K P.T β' bx H' → k a β' bx H' := by
  cases o with
  | none => exact h.elim
  | some a => exact ⟨a, rfl, h⟩
end
/-- a tuple of data -/
def vt : D → Option (List D)
  | .tup l => some l
  | _ => none
def vsc : D → Option (List D)
  | .scr l => some (l.map D.int)
  | d => vt d
/-- a list or a tuple, as it is now -/
def vs (st : Sto) (d : D) : Option (List D) := match vl st d with
  | some l => some l
  | none => vsc d
theorem R.vt {K : PySem.W.Frag} {β : Mu} {H : Hp} {v : V} {d : D} {ds : List D} (r : R K β H v d) (h : vt d = some ds) : ∃ a xs, v = .ref a ∧ L2.Rd H a (.tup xs) ∧ RA K β H xs ds := by
  cases r with
  | tup s ra =>
    cases h
    exact ⟨_, _, rfl, s.1, ra⟩
  | lst _ _ => cases h
  | ref _ => cases h
  | non => cases h
  | bl _ => cases h
  | int _ => cases h
  | str _ => cases h
  | fn _ _ => cases h
  | scr _ => cases h
theorem R.vs {K : PySem.W.Frag} {T : List (Addr × Str)} {β : Mu} {st : Sto} {H : Hp} {v : V} {d : D} {ds : List D} (r : R K β H v d) (g : Good K T β st H) (h : vs st d = some ds) : ∃ a xs, v = .ref a ∧ (SqL K H a xs ∨ SqT K H a xs) ∧ RA K β H xs ds := by
  unfold Ms.vs at h
  split at h
  · rename_i l hl
    cases h
    obtain ⟨a, xs, e, s, ra⟩ := r.vl g hl
    exact ⟨a, xs, e, .inl (.inl s), ra⟩
  · unfold vsc at h
    split at h
    · cases h
      cases r with
      | scr s => exact ⟨_, _, rfl, .inl s.sq, RA.ints _⟩
    · obtain ⟨a, xs, e, s, ra⟩ := r.vt h
      exact ⟨a, xs, e, .inr (.inl s), ra⟩
theorem leM {n : Nat} (h : n ≤ 1000000) : n ≤ sizeLine := by
  rw [sizeLine_eq]
  omega
section
variable {X : Cx} {P : Pm} {E : XK} {pos : Pos} {a b : Expr} {F G : Fn D} {es : List Expr} {A : Fn (List D)}
/-! ### argument lists -/
def fCons (F : Fn D) (A : Fn (List D)) : Fn (List D) := bnd F fun d => bnd A fun ds => pur (d :: ds)
theorem ea_nil : EA X P E [] (pur []) := pa_imp pa_nil fun _ H _ ⟨β, _, _, _, g, o⟩ => o _ [] H .refl g .nil
theorem ea_cons (ha : ED X P E a F) (hr : EA X P E es A) (hs : starEach (a :: es) X.env = (false, eval a X.env) :: starEach es X.env := by rfl) : EA X P E (a :: es) (fCons F A) := by
  refine pa_imp (pa_cons ha hr hs) ?_
  rintro σ H Q ⟨β, δ, bx, ev, g, o⟩
  exact d_bind ev g o.x fun β1 bx1 x d H1 l1 g1 r1 o1 => a_bind (ev.le l1) g1 o1 fun β2 bx2 y e H2 l2 g2 r2 o2 => o2 _ H2 .refl g2 _ (.cons (r1.le l2) r2)
/-- from a list of arguments to a value -/
def fA (f : Sto → List D → Option D) (A : Fn (List D)) : Fn D := bnd A fun ds => fun δ bx => lft (f bx ds) δ bx
def CallD (X : Cx) (P : Pm) (r : List V → Hp → VK → Prop) (f : Sto → List D → Option D) : Prop := ∀ (β : Mu) (bx : Sto) (H : Hp) (xs : List V) (ds : List D) (z : D) (Q : VK), Good X.K P.T β bx H → RA X.K β H xs ds → f bx ds = some z →
  (∀ v H', Le β H β H' → Good X.K P.T β bx H' → R X.K β H' v z → Q v H') → r xs H Q
theorem ed_tA {r : List V → Hp → VK → Prop} {f : Sto → List D → Option D} (hr : CallD X P r f) : ∀ σ H Q, tD X.K P E (fA f A) σ H Q → (tDA X.K P E A) σ H fun xs H1 => r xs H1 Q := by
  rintro σ H Q ⟨β, δ, bx, ev, g, o⟩
  refine a_bind ev g o.x fun β1 bx1 xs ds H1 l1 g1 r1 o1 => ?_
  obtain ⟨z, hz, k⟩ := o1.lft'
  exact hr β1 bx1 H1 xs ds z Q g1 r1 hz fun v H' l g r => k β1 H' l g v r
/-- displays -/
def cTup : Sto → List D → Option D := fun _ ds => if ds.length ≤ 1000 then some (.tup ds) else none
def cLst : Sto → List D → Option D := fun _ ds => if ds.length ≤ 1000 then some (.lst ds) else none
theorem le1000 {n : Nat} (h : n ≤ 1000) : n ≤ sizeLine := Nat.le_of_lt (small1000 h)
theorem ed_tup {x1} (h : EA X P E es A) : ED X P E (.Tuple es x1 pos) (fA cTup A) := pe_imp (pe_tup h) (ed_tA (r := fun xs H Q => xs.length ≤ sizeLine ∧ ∀ p, H p = none → Q (.ref p) (upd H p (.tup xs))) fun β bx H xs ds z Q g r h k => by
  unfold cTup at h
  split at h
  · rename_i hl
    cases h
    exact ⟨by rw [r.length]; exact le1000 hl, fun p hp => k _ _ (.new hp) (g.new hp) (.tup ⟨.inl upd_same, g.ne hp⟩ (r.le (.new hp)))⟩
  · cases h)
theorem ed_lst (h : EA X P E es A) : ED X P E (.List es pos) (fA cLst A) := pe_imp (pe_lst h) (ed_tA (r := fun xs H Q => xs.length ≤ sizeLine ∧ ∀ p, H p = none → Q (.ref p) (upd H p (.lst xs))) fun β bx H xs ds z Q g r h k => by
  unfold cLst at h
  split at h
  · rename_i hl
    cases h
    exact ⟨by rw [r.length]; exact le1000 hl, fun p hp => k _ _ (.new hp) (g.new hp) (.lst ⟨.inl upd_same, g.ne hp⟩ (r.le (.new hp)))⟩
  · cases h)
/-! ### items -/
def cIx (st : Sto) (d e : D) : Option D := match e with
  | .int i => (match vs st d with
    | some l => atI l i
    | none => match d with
      | .str x => if x.length ≤ 1000000 then (atI x.cps.toList i).map fun c => .str ⟨#[c]⟩ else none
      | _ => none)
  | _ => none
theorem ra_atI {K : PySem.W.Frag} {β : Mu} {H : Hp} {vs : List V} {ds : List D} {i : Int} {d : D} (r : RA K β H vs ds) (h : atI ds i = some d) : ∃ v, atI vs i = some v ∧ R K β H v d := by
  unfold atI at h ⊢
  rw [r.length]
  cases hj : ixN ds.length i with
  | none =>
    rw [hj] at h
    cases h
  | some j =>
    rw [hj] at h
    exact r.get h
theorem opd_ix : OpD X P (rIx X.K) cIx := by
  intro β bx H x y d e z Q g rx ry h k
  unfold cIx at h
  split at h
  · rename_i i
    obtain rfl := ry.int_inv
    split at h
    · rename_i l hl
      obtain ⟨a, xs, rfl, s, ra⟩ := rx.vs g hl
      obtain ⟨v, h1, h2⟩ := ra_atI ra h
      rcases s with s | s
      · exact .inl ⟨a, xs, i, v, rfl, rfl, s, h1, k v H .refl g h2⟩
      · exact .inr (.inl ⟨a, xs, i, v, rfl, rfl, s, h1, k v H .refl g h2⟩)
    · split at h
      · rename_i w _
        split at h
        · rename_i hs
          cases hc : atI w.cps.toList i with
          | none => rw [hc] at h; cases h
          | some c =>
            rw [hc] at h
            cases h
            cases rx
            exact .inr (.inr ⟨w, i, c, rfl, rfl, leM hs, hc, k _ H .refl g (.str _)⟩)
        · cases h
      · cases h
  · cases h
theorem ed_ix (ha : ED X P E a F) (hb : ED X P E b G) (hs : PlainIx b) : ED X P E (.Subscript a b pos) (f2 cIx F G) := pe_imp (pe_ix ix_seq ha hb hs) (ed_tOp opd_ix)
/-! ### slices, whatever is cut -/
def cutD (ds : List D) (lo hi : Option Int) : List D := (ds.drop (HT.sIx ds.length 0 lo)).take (HT.sIx ds.length ds.length hi - HT.sIx ds.length 0 lo)
theorem RA.cut {K : PySem.W.Frag} {β : Mu} {H : Hp} {vs : List V} {ds : List D} (r : RA K β H vs ds) (lo hi : Option Int) : RA K β H (cutV vs lo hi) (cutD ds lo hi) := by
  unfold cutV cutD
  rw [r.length]
  exact (r.drop _).take _
def cSl (st : Sto) (d : D) (lo hi : Option Int) : Option D := match vl st d with
  | some l => some (.lst (cutD l lo hi))
  | none => match d with
    | .tup l => some (.tup (cutD l lo hi))
    | .str x => if x.length ≤ 1000000 then some (.str (cutS x lo hi)) else none
    | _ => none
def rSlAny (K : PySem.W.Frag) : V → Option Int → Option Int → Hp → VK → Prop := fun x lo hi H Q => rSlL K x lo hi H Q ∨ rSlA K x lo hi H Q ∨ rSlS x lo hi H Q
theorem sl_any : SlR X (rSlAny X.K) := fun pins s σ H x v vl vu lo hi sl Q I rx hs pl pu h => h.elim (fun h => sl_list pins s σ H x v vl vu lo hi sl Q I rx hs pl pu h) fun h =>
  h.elim (fun h => sl_tupA pins s σ H x v vl vu lo hi sl Q I rx hs pl pu h) fun h => sl_str pins s σ H x v vl vu lo hi sl Q I rx hs pl pu h
theorem sl_of {β : Mu} {bx : Sto} {H : Hp} {x : V} {d z : D} {lo hi : Option Int} {Q : VK} (g : Good X.K P.T β bx H) (r : R X.K β H x d) (h : cSl bx d lo hi = some z) (k : ∀ v H', Le β H β H' → Good X.K P.T β bx H' → R X.K β H' v z → Q v H') : rSlAny X.K x lo hi H Q := by
  unfold cSl at h
  split at h
  · rename_i l hl
    cases h
    obtain ⟨a, xs, rfl, s, ra⟩ := r.vl g hl
    exact .inl ⟨a, xs, rfl, .inl s, fun p hp => k _ _ (.new hp) (g.new hp) (.lst ⟨.inl upd_same, g.ne hp⟩ ((ra.cut lo hi).le (.new hp)))⟩
  · split at h
    · cases h
      cases r with
      | tup s ra =>
        rename_i l _ a xs
        refine .inr (.inl ⟨a, xs, rfl, s.sq, fun hw => ?_, fun _ p hp => k _ _ (.new hp) (g.new hp) (.tup ⟨.inl upd_same, g.ne hp⟩ ((ra.cut lo hi).le (.new hp)))⟩)
        have e : cutD l lo hi = l := by
          unfold cutD
          rw [ra.length] at hw
          rw [hw.1, hw.2]
          simp
        rw [e] at k
        exact k _ H .refl g (.tup s ra)
    · rename_i w _
      split at h
      · rename_i hs
        cases h
        cases r
        exact .inr (.inr ⟨w, rfl, leM hs, k _ H .refl g (.str _)⟩)
      · cases h
    · cases h
def fPoN : Fn (Option Int) := pur none
def fPo (F : Fn D) : Fn (Option Int) := bnd F fun d => fun δ bx => match d with
  | .int i => .ok (some i) bx
  | _ => .bad
def fSl (F : Fn D) (A B : Fn (Option Int)) : Fn D := bnd F fun d => bnd A fun lo => bnd B fun hi => fun δ bx => lft (cSl bx d lo hi) δ bx
def tPO (K : PySem.W.Frag) (P : Pm) (E : XK) (A : Fn (Option Int)) : TO := fun σ H Q => ∃ β δ bx, Ev K β H σ δ ∧ Good K P.T β bx H ∧ OutX P K β H (A δ bx) E fun o _ _ H' => Q o H'
abbrev EPO (X : Cx) (P : Pm) (E : XK) (e : Option Expr) (A : Fn (Option Int)) : Prop := PO X e (tPO X.K P E A)
theorem po_imp {e : Option Expr} {t t' : TO} (h : PO X e t) (k : ∀ σ H Q, t' σ H Q → t σ H Q) : PO X e t' := ⟨fun pins s σ H Q I q => h.run pins s σ H Q I (k σ H Q q)⟩
theorem epo_none : EPO X P E none fPoN := po_imp po_none fun σ H Q ⟨β, _, _, _, g, o⟩ => o _ H .refl g
theorem epo_some (ha : ED X P E a F) : EPO X P E (some a) (fPo F) := by
  refine po_imp (po_some ha) ?_
  rintro σ H Q ⟨β, δ, bx, ev, g, o⟩
  refine d_bind ev g o fun β1 bx1 x d H1 l1 g1 r1 o1 => ?_
  split at o1
  · exact ⟨_, r1.int_inv, o1 _ H1 .refl g1⟩
  · exact o1.elim
theorem o_bind {γ : Type} {β : Mu} {δ : List (Option D)} {bx : Sto} {σ : L2.St} {H : Hp} {A : Fn (Option Int)} {G : Option Int → Fn γ} {k : γ → Mu → Sto → Hp → Prop} {Q1 : Option Int → Hp → Prop} (ev : Ev X.K β H σ δ) (g : Good X.K P.T β bx H) (o : OutX P X.K β H (bnd A G δ bx) E k)
    (h : ∀ β1 bx' x H1, Le β H β1 H1 → Good X.K P.T β1 bx' H1 → OutX P X.K β1 H1 (G x δ bx') E k → Q1 x H1) : tPO X.K P E A σ H Q1 := by
  have o2 := x_bind o
  refine ⟨β, δ, bx, ev, g, ?_⟩
  cases hF : A δ bx with
  | ok d bx' =>
    rw [hF] at o2
    exact fun β' H' l g' => h β' bx' d H' l g' (o2 β' H' l g' l)
  | err c d bx' =>
    rw [hF] at o2
    exact o2
  | bad =>
    rw [hF] at o2
    exact o2
theorem ed_sl {lo hi : Option Expr} {p2 : Pos} {B C : Fn (Option Int)} (ha : ED X P E a F) (hl : EPO X P E lo B) (hh : EPO X P E hi C) : ED X P E (.Subscript a (.Slice lo hi none p2) pos) (fSl F B C) := by
  refine pe_imp (pe_slice sl_any ha hl hh) ?_
  rintro σ H Q ⟨β, δ, bx, ev, g, o⟩
  refine d_bind ev g o.x fun β1 bx1 x d H1 l1 g1 r1 o1 => o_bind (ev.le l1) g1 o1 fun β2 bx2 lo' H2 l2 g2 o2 => o_bind ((ev.le l1).le l2) g2 o2 fun β3 bx3 hi' H3 l3 g3 o3 => ?_
  obtain ⟨z, hz, k⟩ := o3.lft'
  exact sl_of g3 ((r1.le l2).le l3) hz fun v H' l g r => k β3 H' l g v r
/-! ### + of any kind -/
def rCatL : R2 := fun x y H Q => ∃ l b xs zs, x = .ref l ∧ y = .ref b ∧ L2.Rd H l (.lst xs) ∧ L2.Rd H b (.lst zs) ∧ xs.length + zs.length ≤ sizeLine ∧ ∀ p, H p = none → Q (.ref p) (upd H p (.lst (xs ++ zs)))
theorem op_catL : OpR X (binaryOp .Add) rCatL := by
  intro pins s σ H x y v u Q I rx ry h
  obtain ⟨l, b, xs, zs, rfl, rfl, hH, hB, hz, q⟩ := h
  cases rx
  cases ry
  obtain ⟨z, its, n, r, e⟩ := hH.ok I.hok
  obtain ⟨z2, its2, n2, r2, e2⟩ := hB.ok I.hok
  have hl := r.length
  have hl2 := r2.length
  refine PySem.P.add_list e e2 ?_ (by rw [List.size_toArray, List.size_toArray]; omega)
  have ea : its.toArray ++ its2.toArray = (its ++ its2).toArray := by simp
  rw [ea]
  exact ⟨.ref _, _, I.lnew (t' := s.toks) (r.append r2) (by rw [List.length_append]; omega), rfl, q _ I.fresh⟩
abbrev rInt : R2 := rI0 fun i j => .int (i + j)
def rStrP : R2 := fun x y H Q => ∃ i j, x = .str i ∧ y = .str j ∧ i.length + j.length ≤ sizeLine ∧ Q (.str (i ++ j)) H
def rPlus (K : PySem.W.Frag) : R2 := fun x y H Q => rInt x y H Q ∨ rStrP x y H Q ∨ rCatA K x y H Q ∨ rCatL x y H Q
theorem op_plus : OpR X (binaryOp .Add) (rPlus X.K) := op_add.or (OpR.or (r := rStrP) op_add_str (op_catA.or op_catL))
def cPlus (st : Sto) (d e : D) : Option D := match d with
  | .int i => (match e with
    | .int j => some (.int (i + j))
    | _ => none)
  | .str x => (match e with
    | .str y => if x.length + y.length ≤ 1000000 then some (.str (x ++ y)) else none
    | _ => none)
  | .tup l => (match e with
    | .tup m => if l.length + m.length ≤ 1000000 then some (.tup (l ++ m)) else none
    | _ => none)
  | d => (match vl st d, vl st e with
    | some l, some m => if l.length + m.length ≤ 1000000 then some (.lst (l ++ m)) else none
    | _, _ => none)
theorem opd_plus : OpD X P (rPlus X.K) cPlus := by
  intro β bx H x y d e z Q g rx ry h k
  unfold cPlus at h
  split at h
  · split at h
    · cases h
      exact .inl ⟨_, _, rx.int_inv, ry.int_inv, k _ H .refl g (.int _)⟩
    · cases h
  · split at h
    · split at h
      · rename_i hs
        cases h
        cases rx
        cases ry
        exact .inr (.inl ⟨_, _, rfl, rfl, leM hs, k _ H .refl g (.str _)⟩)
      · cases h
    · cases h
  · split at h
    · split at h
      · rename_i hs
        cases h
        cases rx with
        | tup s ra =>
          cases ry with
          | tup s2 rb =>
            rename_i a xs b ys
            refine .inr (.inr (.inl ⟨a, b, xs, ys, rfl, rfl, s.sq, s2.sq, by rw [ra.length, rb.length]; exact leM hs, fun z => ?_, fun _ z => ?_, fun _ _ p hp => ?_⟩))
            · subst z
              cases ra
              exact k _ H .refl g (.tup s2 rb)
            · subst z
              cases rb
              exact k _ H .refl g (by rw [List.append_nil]; exact .tup s ra)
            · exact k _ _ (.new hp) (g.new hp) (.tup ⟨.inl upd_same, g.ne hp⟩ ((ra.append rb).le (.new hp)))
      · cases h
    · cases h
  · split at h
    · split at h
      · rename_i l m hl hm hs
        cases h
        obtain ⟨a, xs, rfl, s, ra⟩ := rx.vl g hl
        obtain ⟨b, ys, rfl, s2, rb⟩ := ry.vl g hm
        exact .inr (.inr (.inr ⟨a, b, xs, ys, rfl, rfl, s, s2, by rw [ra.length, rb.length]; exact leM hs, fun p hp => k _ _ (.new hp) (g.new hp) (.lst ⟨.inl upd_same, g.ne hp⟩ ((ra.append rb).le (.new hp)))⟩))
      · cases h
    · cases h
theorem ed_plus (ha : ED X P E a F) (hb : ED X P E b G) : ED X P E (.BinOp a .Add b pos) (f2 cPlus F G) := ed_bin op_plus opd_plus ha hb
/-! ### in, not in: flat items -/
def D.flat : D → Bool
  | .non => true
  | .bl _ => true
  | .int _ => true
  | .str _ => true
  | _ => false
def eqF : D → D → Bool
  | .non, .non => true
  | .bl a, .bl b => a == b
  | .bl a, .int b => (if a then 1 else 0) == b
  | .int a, .bl b => a == (if b then 1 else 0)
  | .int a, .int b => a == b
  | .str a, .str b => a == b
  | _, _ => false
theorem R.flat {K : PySem.W.Frag} {β : Mu} {H : Hp} {v : V} {d : D} (r : R K β H v d) (h : d.flat = true) : flatV v = true := by
  cases r <;> first | rfl | cases h
theorem R.eqF {K : PySem.W.Frag} {β : Mu} {H : Hp} {v w : V} {d e : D} (r : R K β H v d) (r2 : R K β H w e) (h : d.flat = true) (h2 : e.flat = true) : eqV v w = Ms.eqF d e := by
  cases r <;> first | (cases h; done) | (cases r2 <;> first | (cases h2; done) | rfl)
theorem RA.flat {K : PySem.W.Frag} {β : Mu} {H : Hp} : ∀ {vs : List V} {ds : List D}, RA K β H vs ds → ds.all D.flat = true → vs.all flatV = true
  | _, _, .nil, _ => rfl
  | _, _, .cons r ra, h => by
    rw [List.all_cons, Bool.and_eq_true] at h ⊢
    exact ⟨r.flat h.1, RA.flat ra h.2⟩
theorem RA.inF {K : PySem.W.Frag} {β : Mu} {H : Hp} {v : V} {d : D} (r : R K β H v d) (h : d.flat = true) : ∀ {vs : List V} {ds : List D}, RA K β H vs ds → ds.all D.flat = true → inV v vs = ds.any fun y => Ms.eqF y d
  | _, _, .nil, _ => rfl
  | _, _, .cons r2 ra, h2 => by
    rw [List.all_cons, Bool.and_eq_true] at h2
    have q := RA.inF r h ra h2.2
    unfold inV at q ⊢
    rw [List.any_cons, List.any_cons, r2.eqF r h2.1 h, q]
def cIn (neg : Bool) (st : Sto) (d e : D) : Option D := match vs st e with
  | some ds => if (d.flat && ds.all D.flat) = true then some (.bl (if neg then !(ds.any fun y => eqF y d) else (ds.any fun y => eqF y d))) else none
  | none => none
theorem opd_in {neg : Bool} : OpD X P (rIn X.K neg) (cIn neg) := by
  intro β bx H x y d e z Q g rx ry h k
  unfold cIn at h
  split at h
  · rename_i ds hd
    split at h
    · rename_i hf
      cases h
      rw [Bool.and_eq_true] at hf
      obtain ⟨a, xs, rfl, s, ra⟩ := ry.vs g hd
      refine ⟨a, xs, rfl, s, rx.flat hf.1, ra.flat hf.2, ?_⟩
      rw [RA.inF rx hf.1 ra hf.2]
      exact k _ H .refl g (.bl _)
    · cases h
  · cases h
theorem ed_in (ha : ED X P E a F) (hb : ED X P E b G) (hm : behindInMarks .In b = false := by rfl) : ED X P E (.Compare a [.In] [b] pos) (f2 (cIn false) F G) := ed_cmp op_in_seq opd_in ha hb hm
theorem ed_notIn (ha : ED X P E a F) (hb : ED X P E b G) (hm : behindInMarks .NotIn b = false := by rfl) : ED X P E (.Compare a [.NotIn] [b] pos) (f2 (cIn true) F G) := ed_cmp op_notIn_seq opd_in ha hb hm
theorem et_in (ha : ED X P E a F) (hb : ED X P E b G) (hm : behindInMarks .In b = false := by rfl) : ET X P E (.Compare a [.In] [b] pos) (fB (f2 (cIn false) F G)) := et_cmp op_in_seq opd_in ha hb hm
theorem et_notIn (ha : ED X P E a F) (hb : ED X P E b G) (hm : behindInMarks .NotIn b = false := by rfl) : ET X P E (.Compare a [.NotIn] [b] pos) (fB (f2 (cIn true) F G)) := et_cmp op_notIn_seq opd_in ha hb hm

/-! ### built-in functions -/
theorem ed_blt {x : Str} {id : String} {r : List V → Hp → VK → Prop} {f : Sto → List D → Option D} {p : Pos} {e : Expr} (hc : CallR X (.builtin id) r) (hr : CallD X P r f) (hg : Gl X x) (hm : X.mg x = none) (hv : bootBuiltins x = some (.builtin id)) (ha : EA X P E (e :: es) A)
    (hn : x ≠ "__name__" := by decide) (hdb : (x == ("__debug__" : Str)) = false := by decide) (he : starEach (e :: es) X.env = (false, eval e X.env) :: starEach es X.env := by rfl) (hpl : (backTo pos (starEach es X.env)).any (·.1) = false := by rfl) : ED X P E (.Call (.Name x p) (e :: es) [] pos) (fA f A) :=
  pe_imp (pe_callB hc hg hm hv ha hn hdb he hpl) (ed_tA hr)
theorem ed_ty {x : Str} {T : String} {r : List V → Hp → VK → Prop} {f : Sto → List D → Option D} {p : Pos} {e : Expr} (hc : CallR X (.type T) r) (hr : CallD X P r f) (hg : Gl X x) (hm : X.mg x = none) (hv : bootBuiltins x = some (.type T)) (ha : EA X P E (e :: es) A)
    (hn : x ≠ "__name__" := by decide) (hdb : (x == ("__debug__" : Str)) = false := by decide) (he : starEach (e :: es) X.env = (false, eval e X.env) :: starEach es X.env := by rfl) (hpl : (backTo pos (starEach es X.env)).any (·.1) = false := by rfl) : ED X P E (.Call (.Name x p) (e :: es) [] pos) (fA f A) :=
  pe_imp (pe_callTy hc hg hm hv ha hn hdb he hpl) (ed_tA hr)
theorem RA.one {K : PySem.W.Frag} {β : Mu} {H : Hp} {xs : List V} {d : D} (r : RA K β H xs [d]) : ∃ v, xs = [v] ∧ R K β H v d := by
  cases r with
  | cons a b => cases b; exact ⟨_, rfl, a⟩
theorem RA.two {K : PySem.W.Frag} {β : Mu} {H : Hp} {xs : List V} {d e : D} (r : RA K β H xs [d, e]) : ∃ v w, xs = [v, w] ∧ R K β H v d ∧ R K β H w e := by
  cases r with
  | cons a b =>
    obtain ⟨w, rfl, h⟩ := b.one
    exact ⟨_, _, rfl, a, h⟩
theorem CallR.or {f : Value} {r r' : List V → Hp → VK → Prop} (h : CallR X f r) (h' : CallR X f r') : CallR X f (fun xs H Q => r xs H Q ∨ r' xs H Q) := fun pins s σ H xs us Q I rv q => q.elim (fun q => h pins s σ H xs us Q I rv q) fun q => h' pins s σ H xs us Q I rv q
def rLenS (K : PySem.W.Frag) : List V → Hp → VK → Prop := fun xs H Q => ∃ p ys, xs = [.ref p] ∧ (SqL K H p ys ∨ SqT K H p ys) ∧ Q (.int ys.length) H
def rLenT : List V → Hp → VK → Prop := fun xs H Q => ∃ z, xs = [.str z] ∧ z.length ≤ sizeLine ∧ Q (.int z.length) H
def rLen (K : PySem.W.Frag) : List V → Hp → VK → Prop := fun xs H Q => rLenS K xs H Q ∨ rLenT xs H Q
theorem call_lenA : CallR X (.builtin "len") (rLen X.K) := CallR.or (r := rLenS X.K) (r' := rLenT) call_len_seq call_len_str
def cLen (st : Sto) : List D → Option D
  | [d] => (match vs st d with
    | some l => some (.int l.length)
    | none => match d with
      | .str x => if x.length ≤ 1000000 then some (.int x.length) else none
      | _ => none)
  | _ => none
theorem cd_len : CallD X P (rLen X.K) cLen := by
  intro β bx H xs ds z Q g r h k
  unfold cLen at h
  split at h
  · obtain ⟨v, rfl, r1⟩ := r.one
    split at h
    · rename_i l hl
      cases h
      obtain ⟨a, ys, rfl, s, ra⟩ := r1.vs g hl
      exact .inl ⟨a, ys, rfl, s, by rw [ra.length]; exact k _ H .refl g (.int _)⟩
    · split at h
      · split at h
        · rename_i hs
          cases h
          cases r1
          exact .inr ⟨_, rfl, leM hs, k _ H .refl g (.int _)⟩
        · cases h
      · cases h
  · cases h
def cAbs : Sto → List D → Option D
  | _, [.int i] => some (.int (if i < 0 then -i else i))
  | _, _ => none
theorem cd_abs : CallD X P (fun xs H Q => ∃ i, xs = [.int i] ∧ Q (.int (if i < 0 then -i else i)) H) cAbs := by
  intro β bx H xs ds z Q g r h k
  unfold cAbs at h
  split at h
  · cases h
    obtain ⟨v, rfl, r1⟩ := r.one
    exact ⟨_, by rw [r1.int_inv], k _ H .refl g (.int _)⟩
  · cases h
def cInt : Sto → List D → Option D
  | _, [.int i] => some (.int i)
  | _, _ => none
theorem cd_int : CallD X P (fun xs H Q => (∃ i, xs = [.int i] ∧ Q (.int i) H) ∨ ∃ k, xs = [.bl k] ∧ Q (.int (if k then 1 else 0)) H) cInt := by
  intro β bx H xs ds z Q g r h k
  unfold cInt at h
  split at h
  · cases h
    obtain ⟨v, rfl, r1⟩ := r.one
    exact .inl ⟨_, by rw [r1.int_inv], k _ H .refl g (.int _)⟩
  · cases h
def cMax : Sto → List D → Option D
  | _, [.int i, .int j] => some (.int (if j > i then j else i))
  | _, _ => none
theorem cd_max : CallD X P (fun xs H Q => ∃ i j, xs = [.int i, .int j] ∧ Q (.int (if j > i then j else i)) H) cMax := by
  intro β bx H xs ds z Q g r h k
  unfold cMax at h
  split at h
  · cases h
    obtain ⟨v, w, rfl, r1, r2⟩ := r.two
    exact ⟨_, _, by rw [r1.int_inv, r2.int_inv], k _ H .refl g (.int _)⟩
  · cases h
def cMin : Sto → List D → Option D
  | _, [.int i, .int j] => some (.int (if j < i then j else i))
  | _, _ => none
theorem cd_min : CallD X P (fun xs H Q => ∃ i j, xs = [.int i, .int j] ∧ Q (.int (if j < i then j else i)) H) cMin := by
  intro β bx H xs ds z Q g r h k
  unfold cMin at h
  split at h
  · cases h
    obtain ⟨v, w, rfl, r1, r2⟩ := r.two
    exact ⟨_, _, by rw [r1.int_inv, r2.int_inv], k _ H .refl g (.int _)⟩
  · cases h
/-- list(x) -/
def cListOf (st : Sto) : List D → Option D
  | [d] => (vs st d).map D.lst
  | _ => none
theorem cd_listOf : CallD X P (fun xs H Q => ∃ p ys, xs = [.ref p] ∧ (SqL X.K H p ys ∨ SqT X.K H p ys) ∧ ∀ l, H l = none → Q (.ref l) (upd H l (.lst ys))) cListOf := by
  intro β bx H xs ds z Q g r h k
  unfold cListOf at h
  split at h
  · obtain ⟨v, rfl, r1⟩ := r.one
    rename_i d
    cases hl : vs bx d with
    | none => rw [hl] at h; cases h
    | some l =>
      rw [hl] at h
      cases h
      obtain ⟨a, ys, rfl, s, ra⟩ := r1.vs g hl
      exact ⟨a, ys, rfl, s, fun p hp => k _ _ (.new hp) (g.new hp) (.lst ⟨.inl upd_same, g.ne hp⟩ (ra.le (.new hp)))⟩
  · cases h
/-- tuple(x) -/
def cTupOf (st : Sto) : List D → Option D
  | [d] => (match vl st d with
    | some l => some (.tup l)
    | none => (vt d).map D.tup)
  | _ => none
theorem cd_tupOf : CallD X P (fun xs H Q => ∃ p ys, xs = [.ref p] ∧ ((SqL X.K H p ys ∧ ∀ l, H l = none → Q (.ref l) (upd H l (.tup ys))) ∨ (SqT X.K H p ys ∧ Q (.ref p) H))) cTupOf := by
  intro β bx H xs ds z Q g r h k
  unfold cTupOf at h
  split at h
  · obtain ⟨v, rfl, r1⟩ := r.one
    split at h
    · rename_i l hl
      cases h
      obtain ⟨a, ys, rfl, s, ra⟩ := r1.vl g hl
      exact ⟨a, ys, rfl, .inl ⟨.inl s, fun p hp => k _ _ (.new hp) (g.new hp) (.tup ⟨.inl upd_same, g.ne hp⟩ (ra.le (.new hp)))⟩⟩
    · cases r1 with
      | tup s ra =>
        cases h
        exact ⟨_, _, rfl, .inr ⟨s.sq, k _ H .refl g (.tup s ra)⟩⟩
      | lst _ _ => cases h
      | ref _ => cases h
      | non => cases h
      | bl _ => cases h
      | int _ => cases h
      | str _ => cases h
      | fn _ _ => cases h
      | scr _ => cases h
  · cases h
/-- sum(xs) of ints -/
def toInts : List D → Option (List Int)
  | [] => some []
  | .int i :: r => (toInts r).map (i :: ·)
  | _ => none
theorem toInts_inv : ∀ {l : List D} {ns : List Int}, toInts l = some ns → l = ns.map D.int
  | [], ns, h => by cases h; rfl
  | .int i :: r, ns, h => by
    simp only [toInts] at h
    cases hr : toInts r with
    | none => rw [hr] at h; cases h
    | some ms =>
      rw [hr] at h
      cases h
      rw [toInts_inv hr]
      rfl
  | .non :: _, _, h => by cases h
  | .bl _ :: _, _, h => by cases h
  | .str _ :: _, _, h => by cases h
  | .lst _ :: _, _, h => by cases h
  | .tup _ :: _, _, h => by cases h
  | .ref _ :: _, _, h => by cases h
  | .fn _ :: _, _, h => by cases h
  | .scr _ :: _, _, h => by cases h
theorem toInts_map : ∀ ns : List Int, toInts (ns.map D.int) = some ns
  | [] => rfl
  | n :: r => by simp only [List.map_cons, toInts, toInts_map r, Option.map_some]
def cSum (st : Sto) : List D → Option D
  | [d] => ((vl st d).bind toInts).map fun ns => .int ns.sum
  | _ => none
theorem cd_ints {β : Mu} {bx : Sto} {H : Hp} {v : V} {d : D} {ns : List Int} (g : Good X.K P.T β bx H) (r : R X.K β H v d) (h : (vl bx d).bind toInts = some ns) : ∃ a, v = .ref a ∧ SqL X.K H a (ns.map V.int) := by
  cases hl : vl bx d with
  | none => rw [hl] at h; cases h
  | some l =>
    rw [hl] at h
    have e := toInts_inv (show toInts l = some ns from h)
    subst e
    obtain ⟨a, xs, rfl, s, ra⟩ := r.vl g hl
    rw [ra.ints_inv] at s
    exact ⟨a, rfl, .inl s⟩
theorem cd_sum : CallD X P (rSum X.K) cSum := by
  intro β bx H xs ds z Q g r h k
  unfold cSum at h
  split at h
  · rename_i d
    obtain ⟨v, rfl, r1⟩ := r.one
    cases hn : (vl bx d).bind toInts with
    | none => rw [hn] at h; cases h
    | some ns =>
      rw [hn] at h
      cases h
      obtain ⟨a, rfl, s⟩ := cd_ints g r1 hn
      exact ⟨a, ns, rfl, s, k _ H .refl g (.int _)⟩
  · cases h
end
end Ms

end
section
set_option Elab.async false
set_option linter.all false
set_option maxRecDepth 100000
set_option maxHeartbeats 4000000
namespace Ms
open PySem PySem.Spec PyProof.Rows L2
/-! ### types -/
def D.ty (st : Sto) : D → Option String
  | .non => some "NoneType"
  | .bl _ => some "bool"
  | .int _ => some "int"
  | .str _ => some "str"
  | .lst _ => some "list"
  | .tup _ => some "tuple"
  | .ref k => (vl st (.ref k)).map fun _ => "list"
  | .fn _ => none
  | .scr _ => none
theorem tyx {K : PySem.W.Frag} {T : List (Addr × Str)} {β : Mu} {bx : Sto} {H : Hp} {v : V} {d : D} {t : String} (g : Good K T β bx H) (r : R K β H v d) (e : d.ty bx = some t) : TyX K H v (.type t) := by
  cases r with
  | non => cases e; exact .base .non
  | bl b => cases e; exact .base (.bl b)
  | int i => cases e; exact .base (.int i)
  | str x => cases e; exact .base (.str x)
  | lst s ra =>
    cases e
    rcases s with ⟨h | ⟨o, h⟩, _⟩
    · exact .base (.lst h)
    · exact .base (.frz h)
  | tup s ra =>
    cases e
    rcases s with ⟨h | ⟨o, h⟩, _⟩
    · exact .base (.tup h)
    · exact .fTuple h
  | ref hk =>
    rename_i a k b
    have e' : (vl bx (.ref k)).map (fun _ => "list") = some t := e
    cases hl : vl bx (.ref k) with
    | none => rw [hl] at e'; cases e'
    | some l =>
      rw [hl] at e'
      cases e'
      obtain ⟨a', xs, e2, s, _⟩ := (R.ref (K := K) (β := β) (H := H) hk).vl g hl
      cases e2
      rcases s with h | ⟨o, h⟩
      · exact .base (.lst h)
      · exact .base (.frz h)
  | fn _ _ => cases e
  | scr _ => cases e
/-- isinstance(x, T) -/
def cIsi (T : String) (st : Sto) (d : D) : Option D := (d.ty st).bind fun t => (kitB t T).map D.bl
def cIsi2 (T U : String) (st : Sto) (d : D) : Option D := (d.ty st).bind fun t => match kitB t T, kitB t U with
  | some p, some q => some (.bl (p || q))
  | _, _ => none
section
variable {X : Cx} {P : Pm} {E : XK} {pos : Pos} {a b : Expr} {F G : Fn D}
theorem ed_isi {x c : Str} {T : String} {p p2 : Pos} (hg : Gl X x) (hm : X.mg x = none) (hv : bootBuiltins x = some (.builtin "isinstance")) (ha : ED X P E a F) (gc : Gl X c) (mc : X.mg c = none) (vc : bootBuiltins c = some (.type T))
    (hn : x ≠ "__name__" := by decide) (hdb : (x == ("__debug__" : Str)) = false := by decide) (hn2 : c ≠ "__name__" := by decide) (hdb2 : (c == ("__debug__" : Str)) = false := by decide)
    (h1 : starEach (a :: [.Name c p2]) X.env = (false, eval a X.env) :: starEach [.Name c p2] X.env := by rfl) (h2 : (backTo pos (starEach [.Name c p2] X.env)).any (·.1) = false := by rfl)
    (h3 : starEach [.Name c p2] X.env = (false, eval (.Name c p2) X.env) :: starEach [] X.env := by rfl) : ED X P E (.Call (.Name x p) (a :: [.Name c p2]) [] pos) (f1 (cIsi T) F) := by
  refine pe_imp (pe_callB call_isi hg hm hv (pa_cons ha (pa_cons (pe_bltn (v := .ty T) gc mc vc rfl hn2 hdb2) pa_nil h3) h1) hn hdb h1 h2) fun σ H Q h => ?_
  refine ed_t1 (r := fun y H Q => rIsi X.K [y, .ty T] H Q) (fun β bx H y d z Q g r h k => ?_) σ H Q h
  unfold cIsi at h
  cases ht : d.ty bx with
  | none => rw [ht] at h; cases h
  | some t =>
  rw [ht] at h
  replace h : (kitB t T).map D.bl = some z := h
  cases hk : kitB t T with
  | none => rw [hk] at h; cases h
  | some c =>
    rw [hk] at h
    cases h
    exact ⟨y, .ty T, .type t, .type T, c, rfl, .ty T, tyx g r ht, kit_ty hk, k _ H .refl g (.bl c)⟩
theorem ed_isi2 {x c e : Str} {T U : String} {p p2 p3 p4 : Pos} {x1} (hg : Gl X x) (hm : X.mg x = none) (hv : bootBuiltins x = some (.builtin "isinstance")) (ha : ED X P E a F) (gc : Gl X c) (mc : X.mg c = none) (vc : bootBuiltins c = some (.type T)) (ge : Gl X e) (me : X.mg e = none) (ve : bootBuiltins e = some (.type U))
    (hn : x ≠ "__name__" := by decide) (hdb : (x == ("__debug__" : Str)) = false := by decide) (hn2 : c ≠ "__name__" := by decide) (hdb2 : (c == ("__debug__" : Str)) = false := by decide) (hn3 : e ≠ "__name__" := by decide) (hdb3 : (e == ("__debug__" : Str)) = false := by decide)
    (h1 : starEach (a :: [.Tuple [.Name c p2, .Name e p3] x1 p4]) X.env = (false, eval a X.env) :: starEach [.Tuple [.Name c p2, .Name e p3] x1 p4] X.env := by rfl) (h2 : (backTo pos (starEach [.Tuple [.Name c p2, .Name e p3] x1 p4] X.env)).any (·.1) = false := by rfl)
    (h3 : starEach [.Tuple [.Name c p2, .Name e p3] x1 p4] X.env = (false, eval (.Tuple [.Name c p2, .Name e p3] x1 p4) X.env) :: starEach [] X.env := by rfl)
    (h4 : starEach [.Name c p2, .Name e p3] X.env = (false, eval (.Name c p2) X.env) :: starEach [.Name e p3] X.env := by rfl) (h5 : starEach [.Name e p3] X.env = (false, eval (.Name e p3) X.env) :: starEach [] X.env := by rfl) :
    ED X P E (.Call (.Name x p) (a :: [.Tuple [.Name c p2, .Name e p3] x1 p4]) [] pos) (f1 (cIsi2 T U) F) := by
  refine pe_imp (pe_callB call_isiT hg hm hv (pa_cons ha (pa_cons (pe_tup (pa_cons (pe_bltn (v := .ty T) gc mc vc rfl hn2 hdb2) (pa_cons (pe_bltn (v := .ty U) ge me ve rfl hn3 hdb3) pa_nil h5) h4)) pa_nil h3) h1) hn hdb h1 h2) fun σ H Q h => ?_
  refine ed_t1 (r := fun y H Q => [V.ty T, V.ty U].length ≤ sizeLine ∧ ∀ q, H q = none → rIsiT X.K [y, .ref q] (upd H q (.tup [.ty T, .ty U])) Q) (fun β bx H y d z Q g r h k => ?_) σ H Q h
  refine ⟨le1000 (by show 2 ≤ 1000; omega), fun q hq => ?_⟩
  unfold cIsi2 at h
  cases ht : d.ty bx with
  | none => rw [ht] at h; cases h
  | some t =>
  rw [ht] at h
  replace h : (match kitB t T, kitB t U with
  | some p, some q => some (D.bl (p || q))
  | _, _ => none) = some z := h
  cases hk : kitB t T with
  | none => rw [hk] at h; cases h
  | some c =>
    cases hl : kitB t U with
    | none => rw [hk, hl] at h; cases h
    | some c2 =>
      rw [hk, hl] at h
      cases h
      refine ⟨y, q, [.ty T, .ty U], .type t, [.type T, .type U], c || c2, rfl, upd_same, .cons (.ty T) (.cons (.ty U) .nil), tyx (g.new hq) (r.le (.new hq)) ht, ?_, k _ _ (.new hq) (g.new hq) (.bl _)⟩
      refine kitAny_cons (kit_ty hk) (fun e => ?_) (fun e => by rw [e]; rfl)
      refine kitAny_cons (kit_ty hl) (fun e2 => by rw [e, e2]; rfl) (fun e2 => by rw [e2, Bool.or_true])
end
/-! ### data as the library's data -/
mutual
def D.py : D → PyData
  | .non => .none
  | .bl b => .bool b
  | .int i => .int i
  | .str x => .str x
  | .lst l => .list (D.pyAll l)
  | .tup l => .tuple (D.pyAll l)
  | .ref _ => .none
  | .fn _ => .none
  | .scr _ => .none
def D.pyAll : List D → List PyData
  | [] => []
  | d :: r => d.py :: D.pyAll r
end
mutual
def D.pure : D → Bool
  | .ref _ => false
  | .fn _ => false
  | .scr _ => false
  | .lst l => D.pureAll l
  | .tup l => D.pureAll l
  | _ => true
def D.pureAll : List D → Bool
  | [] => true
  | d :: r => d.pure && D.pureAll r
end
mutual
theorem R.dp {K : PySem.W.Frag} {β : Mu} {H : Hp} : ∀ {v : V} {d : D}, R K β H v d → d.pure = true → Dp K H v d.py
  | _, _, .non, _ => .non
  | _, _, .bl b, _ => .bl b
  | _, _, .int i, _ => .int i
  | _, _, .str x, _ => .str x
  | _, _, .lst s ra, h => .lst s.sq (RA.dp ra h)
  | _, _, .tup s ra, h => .tup s.sq (RA.dp ra h)
  | _, _, .ref _, h => nomatch h
  | _, _, .fn _ _, h => nomatch h
  | _, _, .scr _, h => nomatch h
theorem RA.dp {K : PySem.W.Frag} {β : Mu} {H : Hp} : ∀ {vs : List V} {ds : List D}, RA K β H vs ds → D.pureAll ds = true → DpAll K H vs (D.pyAll ds)
  | _, _, .nil, _ => .nil
  | _, _, .cons r ra, h => .cons (R.dp r (Bool.and_eq_true_iff.mp h).1) (RA.dp ra (Bool.and_eq_true_iff.mp h).2)
end
mutual
theorem D.noDict : ∀ d : D, d.py.hasDict = false
  | .non => rfl
  | .bl _ => rfl
  | .int _ => rfl
  | .str _ => rfl
  | .lst l => D.noDictAll l
  | .tup l => D.noDictAll l
  | .ref _ => rfl
  | .fn _ => rfl
  | .scr _ => rfl
theorem D.noDictAll : ∀ l : List D, PyData.hasDictAll (D.pyAll l) = false
  | [] => rfl
  | d :: r => by
    show (d.py.hasDict || PyData.hasDictAll (D.pyAll r)) = false
    rw [D.noDict d, D.noDictAll r]
    rfl
end
/-- a list that grows as it is now -/
def dr (st : Sto) (d : D) : D := match d with
  | .ref k => (match st[k]? with
    | some (.lst l) => .lst l
    | _ => .ref k)
  | d => d
theorem R.dpr {K : PySem.W.Frag} {T : List (Addr × Str)} {β : Mu} {st : Sto} {H : Hp} {v : V} {d : D} (r : R K β H v d) (g : Good K T β st H) (h : (dr st d).pure = true) : Dp K H v (dr st d).py := by
  cases d with
  | ref k =>
    cases hc : st[k]? with
    | none => simp only [dr, hc] at h; cases h
    | some c =>
      cases c with
      | dead => simp only [dr, hc] at h; cases h
      | lst l =>
        simp only [dr, hc] at h ⊢
        obtain ⟨a, xs, rfl, s, ra⟩ := r.vl g (show Ms.vl st (.ref k) = some l by simp only [Ms.vl, hc])
        exact .lst (.inl s) (ra.dp h)
  | non => exact r.dp h
  | bl _ => exact r.dp h
  | int _ => exact r.dp h
  | str _ => exact r.dp h
  | lst _ => exact r.dp h
  | tup _ => exact r.dp h
  | fn _ => exact r.dp h
  | scr _ => exact r.dp h
def eqOk (d e : D) : Bool := d.pure && e.pure && SeqAt.shaped d.py && SeqAt.shaped e.py
def cEqD : Sto → D → D → Option D := fun st d e => if eqOk (dr st d) (dr st e) = true then some (.bl (PyData.eqv (dr st d).py (dr st e).py)) else none
def cNeD : Sto → D → D → Option D := fun st d e => if eqOk (dr st d) (dr st e) = true then some (.bl (!PyData.eqv (dr st d).py (dr st e).py)) else none
def cRepr (st : Sto) : List D → Option D
  | [d] => if ((dr st d).pure && (dr st d).py.showable && decide ((dr st d).py.depth ≤ 60) && decide ((dr st d).py.shown.length ≤ sizeLine)) = true then some (.str (dr st d).py.shown) else none
  | _ => none
section
variable {X : Cx} {P : Pm} {E : XK} {pos : Pos} {a b : Expr} {F G : Fn D} {es : List Expr} {A : Fn (List D)}
theorem opd_eqD : OpD X P (rEqD X.K) cEqD := by
  intro β bx H x y d e z Q g rx ry h k
  unfold cEqD at h
  split at h
  · rename_i hc
    cases h
    simp only [eqOk, Bool.and_eq_true] at hc
    exact ⟨_, _, rx.dpr g hc.1.1.1, ry.dpr g hc.1.1.2, hc.1.2, hc.2, k _ H .refl g (.bl _)⟩
  · cases h
theorem opd_neD : OpD X P (rNeD X.K) cNeD := by
  intro β bx H x y d e z Q g rx ry h k
  unfold cNeD at h
  split at h
  · rename_i hc
    cases h
    simp only [eqOk, Bool.and_eq_true] at hc
    exact ⟨_, _, rx.dpr g hc.1.1.1, ry.dpr g hc.1.1.2, hc.1.2, hc.2, k _ H .refl g (.bl _)⟩
  · cases h
theorem ed_eq (hu : X.A.units + 64 < cLine) (ha : ED X P E a F) (hb : ED X P E b G) : ED X P E (.Compare a [.Eq] [b] pos) (f2 cEqD F G) := ed_cmp (op_eqD hu) opd_eqD ha hb (nomark _)
theorem ed_ne (hu : X.A.units + 64 < cLine) (ha : ED X P E a F) (hb : ED X P E b G) : ED X P E (.Compare a [.NotEq] [b] pos) (f2 cNeD F G) := ed_cmp (op_neD hu) opd_neD ha hb (nomark _)
theorem et_eq (hu : X.A.units + 64 < cLine) (ha : ED X P E a F) (hb : ED X P E b G) : ET X P E (.Compare a [.Eq] [b] pos) (fB (f2 cEqD F G)) := et_cmp (op_eqD hu) opd_eqD ha hb (nomark _)
theorem et_ne (hu : X.A.units + 64 < cLine) (ha : ED X P E a F) (hb : ED X P E b G) : ET X P E (.Compare a [.NotEq] [b] pos) (fB (f2 cNeD F G)) := et_cmp (op_neD hu) opd_neD ha hb (nomark _)
/-! ### repr -/
def rRepr (K : PySem.W.Frag) : List V → Hp → VK → Prop := fun xs H Q => ∃ x d, xs = [x] ∧ Dp K H x d ∧ d.showable = true ∧ d.hasDict = false ∧ d.depth ≤ 60 ∧ d.shown.length ≤ sizeLine ∧ Q (.str d.shown) H
theorem call_repr (hga : X.A.guards = some []) (hu : X.A.units + 64 < cLine) : CallR X (.builtin "repr") (rRepr X.K) := by
  intro pins s σ H xs us Q I r h
  obtain ⟨x, d, rfl, hd, h1, h2, h3, h4, q⟩ := h
  obtain ⟨u, rfl, rx⟩ := vals1 r
  obtain ⟨as, rr⟩ := hd.reads I d x u rx
  have fin : ∀ h' t tk, (∀ b o, s.heap.get? b = some o → h'.get? b = some o) → EP X pins σ Q (.str d.shown t) { s with heap := h', toks := tk } := fun h' t tk k => ⟨.str d.shown, H, I.kept k, ⟨t, rfl⟩, q⟩
  cases x with
  | ref a =>
    obtain rfl : u = Value.ref a := rx
    exact repr_of_reads' rr h1 (PyData.noDict_hsm h2) hga (by omega) (fun _ _ e => e) (fun h' t tk k => fin h' t tk k) h4
  | non =>
    cases hd
    obtain rfl : u = Value.none := rx
    exact PySem.P.repr_of_none (fin s.heap _ _ fun _ _ e => e)
  | bl b =>
    cases hd
    obtain rfl : u = Value.bool b := rx
    exact PySem.P.repr_of_bool (fin s.heap _ _ fun _ _ e => e)
  | int i =>
    cases hd
    obtain ⟨t, rfl⟩ := rx
    exact PySem.P.repr_of_int (of_decide_eq_true h1) (fin s.heap _ _ fun _ _ e => e)
  | str y =>
    cases hd
    obtain ⟨t, rfl⟩ := rx
    exact PySem.P.repr_of_str (fin s.heap _ _ fun _ _ e => e) h4
  | byt _ => cases hd
  | flt _ => cases hd
  | ty _ => cases hd
theorem cd_repr : CallD X P (rRepr X.K) cRepr := by
  intro β bx H xs ds z Q g r h k
  unfold cRepr at h
  split at h
  · split at h
    · rename_i d hc
      cases h
      simp only [Bool.and_eq_true, decide_eq_true_eq] at hc
      obtain ⟨v, rfl, r1⟩ := r.one
      exact ⟨v, _, rfl, r1.dpr g hc.1.1.1, hc.1.1.2, D.noDict _, hc.1.2, hc.2, k _ H .refl g (.str _)⟩
    · cases h
  · cases h
/-! ### tuple(range(a, b, c)) -/
def rng3 (a b c : Int) (n : Nat) : List V := (List.range n).map fun i => V.int (a + (i : Nat) * c)
def cTupRg : Sto → List D → Option D
  | _, [.int a, .int b, .int c] => if 0 < c ∧ c < 1073741824 ∧ -(2 ^ 40) < a ∧ a < 2 ^ 40 ∧ -(2 ^ 40) < b ∧ b < 2 ^ 40 ∧ Builtin.Range.rangeSize a b c ≤ 1000 then some (.tup ((List.range (Builtin.Range.rangeSize a b c).toNat).map fun i => D.int (a + (i : Nat) * c))) else none
  | _, _ => none
theorem range_nn {a b c : Int} (hc : 0 < c) : 0 ≤ Builtin.Range.rangeSize a b c := by
  unfold Builtin.Range.rangeSize
  rw [if_pos hc]
  split
  · have := Int.ediv_nonneg (a := b - a - 1) (b := c) (by omega) (by omega)
    omega
  · omega
theorem RA.rng {K : PySem.W.Frag} {β : Mu} {H : Hp} (f : Nat → Int) : ∀ l : List Nat, RA K β H (l.map fun i => V.int (f i)) (l.map fun i => D.int (f i))
  | [] => .nil
  | i :: r => .cons (.int _) (RA.rng f r)
theorem ra_three {K : PySem.W.Frag} {β : Mu} {H : Hp} {xs : List V} {d e f : D} (r : RA K β H xs [d, e, f]) : ∃ u v w, xs = [u, v, w] ∧ R K β H u d ∧ R K β H v e ∧ R K β H w f := by
  cases r with
  | cons a b =>
    obtain ⟨v, w, rfl, h1, h2⟩ := b.two
    exact ⟨_, _, _, rfl, a, h1, h2⟩
theorem small3 {a b c : Int} (hc : 0 < c) (h3 : c < 1073741824) (ha : -(2 ^ 40) < a) (ha' : a < 2 ^ 40) (hb : -(2 ^ 40) < b) (hb' : b < 2 ^ 40) (hs : Builtin.Range.rangeSize a b c ≤ 1000) : Builtin.Range.small a b c = true := by
  have h0 := range_nn (a := a) (b := b) hc
  have hm : Builtin.Range.rangeSize a b c * c ≤ 1000 * 1073741824 := by
    have h1 : Builtin.Range.rangeSize a b c * c ≤ 1000 * c := Int.mul_le_mul_of_nonneg_right hs (by omega)
    omega
  have hm0 : 0 ≤ Builtin.Range.rangeSize a b c * c := Int.mul_nonneg h0 (by omega)
  unfold Builtin.Range.small Builtin.Range.rangeFitsLong
  rw [if_pos hc]
  simp only [Bool.and_eq_true, Bool.or_eq_true, decide_eq_true_eq, beq_iff_eq]
  generalize Builtin.Range.rangeSize a b c = n at *
  refine ⟨⟨⟨⟨by omega, by omega⟩, by omega, by omega⟩, by omega, by omega⟩, .inr ⟨by omega, by omega⟩⟩
theorem ed_tupRg {x y z : Expr} {p p2 pos2 : Pos} (hc : X.calm = true) (g1 : Gl X "tuple") (m1 : X.mg "tuple" = none) (g2 : Gl X "range") (m2 : X.mg "range" = none) (ha : EA X P E [x, y, z] A)
    (h1 : starEach [x, y, z] X.env = (false, eval x X.env) :: starEach [y, z] X.env := by rfl) (h2 : (backTo pos2 (starEach [y, z] X.env)).any (·.1) = false := by rfl)
    (h3 : starEach [.Call (.Name "range" p2) [x, y, z] [] pos2] X.env = (false, eval (.Call (.Name "range" p2) [x, y, z] [] pos2) X.env) :: starEach [] X.env := by rfl) :
    ED X P E (.Call (.Name "tuple" p) [.Call (.Name "range" p2) [x, y, z] [] pos2] [] pos) (fA cTupRg A) := by
  refine ⟨fun pins s σ H Q I h => ?_⟩
  have h' : (tDA X.K P E A) σ H fun xs H1 => ∃ a b c : Int, xs = [V.int a, V.int b, V.int c] ∧ (0 < c ∧ c < 1073741824 ∧ -(2 ^ 40) < a ∧ a < 2 ^ 40 ∧ -(2 ^ 40) < b ∧ b < 2 ^ 40 ∧ Builtin.Range.rangeSize a b c ≤ 1000) ∧
      ∀ q, H1 q = none → Q (.ref q) (upd H1 q (.tup (rng3 a b c (Builtin.Range.rangeSize a b c).toNat))) := by
    refine ed_tA (f := cTupRg) (r := fun xs H1 Q => ∃ a b c : Int, xs = [V.int a, V.int b, V.int c] ∧ (0 < c ∧ c < 1073741824 ∧ -(2 ^ 40) < a ∧ a < 2 ^ 40 ∧ -(2 ^ 40) < b ∧ b < 2 ^ 40 ∧ Builtin.Range.rangeSize a b c ≤ 1000) ∧
      ∀ q, H1 q = none → Q (.ref q) (upd H1 q (.tup (rng3 a b c (Builtin.Range.rangeSize a b c).toNat)))) (fun β bx H xs ds z Q g r h k => ?_) σ H Q h
    unfold cTupRg at h
    split at h
    · rename_i a b c
      split at h
      · rename_i hb
        cases h
        obtain ⟨u, v, w, rfl, r1, r2, r3⟩ := ra_three r
        refine ⟨a, b, c, by rw [r1.int_inv, r2.int_inv, r3.int_inv], hb, fun q hq => k _ _ (.new hq) (g.new hq) (.tup ⟨.inl upd_same, g.ne hq⟩ ?_)⟩
        exact RA.rng (fun i => a + (i : Nat) * c) _
      · cases h
    · cases h
  refine Call_ (ld_blt I g1 m1 boot_tuple (PyProof.Rows.callWith_type1 (args_cons (thn (?_ : wpAny (model X.prog X.w) X.A (eval (.Call (.Name "range" p2) [x, y, z] [] pos2) X.env) (fun x s' => ∃ (r : Addr) (a b c : Int) (t u v : Tok) (H' : Hp), x = .ref r ∧ IsRange s'.heap r a b c t u v ∧ Inv X pins σ H' s' ∧
      (0 < c ∧ c < 1073741824 ∧ -(2 ^ 40) < a ∧ a < 2 ^ 40 ∧ -(2 ^ 40) < b ∧ b < 2 ^ 40 ∧ Builtin.Range.rangeSize a b c ≤ 1000) ∧ ∀ q, H' q = none → Q (.ref q) (upd H' q (.tup (rng3 a b c (Builtin.Range.rangeSize a b c).toNat)))) X.xe s) fun x s1 ⟨r, a, b, c, t, u, v, H1, ex, hr, I1, ok, q⟩ => args_nil ?_) h3) h3))
  · refine wpAny_Call_Name_kw (ld_blt I g2 m2 boot_range ?_)
    refine PyProof.Rows.callWith_type1 (thn (ha.run pos2 pins s σ H _ I h') fun us s1 ⟨vs, H1, I1, r1, a, b, c, ev, ok, q⟩ => ?_) h1 h2
    subst ev
    cases r1 with
    | cons ra rr =>
      cases rr with
      | cons rb rr =>
        cases rr with
        | cons rc rr =>
          cases rr
          obtain ⟨t, rfl⟩ := ra
          obtain ⟨u, rfl⟩ := rb
          obtain ⟨v, rfl⟩ := rc
          refine call_range_3 (by omega) ?_ (.inl (PyProof.noPylong_small (by omega)))
          exact ⟨_, a, b, c, t, u, v, H1, rfl, IsRange.new _ _ _ _ _ _ _, I1.kept fun b u e => Heap.get?_push_of_some _ e, ok, q⟩
  · subst ex
    obtain ⟨b1, b2, b3, b4, b5, b6, b7⟩ := ok
    have nn := range_nn (a := a) (b := b) b1
    refine call_tuple_range (n := (Builtin.Range.rangeSize a b c).toNat) (I1.ok.hd hc) hr (small3 b1 b2 b3 b4 b5 b6 b7) (by omega) (by omega) fun h' tk acc hk hi => ?_
    have I2 : Inv X pins σ H1 { s1 with heap := h', toks := tk } := I1.kept hk
    have hv : Vals (rng3 a b c (Builtin.Range.rangeSize a b c).toNat) acc.toList := by
      have e : acc.toList.length = (Builtin.Range.rangeSize a b c).toNat := by
        rw [Array.length_toList]
        exact hi.1
      unfold rng3
      rw [← e]
      exact vals_of_get acc.toList _ fun j u hj => hi.2 j u (by rw [← hj, Array.getElem?_toList])
    refine ⟨.ref h'.objs.size, upd H1 h'.objs.size (.tup (rng3 a b c (Builtin.Range.rangeSize a b c).toNat)), I2.laid (t' := tk) (fun c o e => Heap.get?_push_of_some _ e) (Nat.le_refl _) ?_, rfl, q _ (I2.hok.fresh (Nat.le_refl _))⟩
    refine ⟨?_, acc.toList, hv, ?_⟩
    · unfold rng3
      rw [List.length_map, List.length_range]
      exact le1000 (by omega)
    · rw [Array.toArray_toList]
      exact IsTup.new _ _
end
end Ms

end
section
set_option Elab.async false
set_option linter.all false
set_option maxRecDepth 100000
set_option maxHeartbeats 4000000
namespace Ms
open PySem PySem.Spec PyProof.Rows L2
/-! ### defs by their functions on data -/
def spD (K : PySem.W.Frag) (P : Pm) (n : Nat) (f : List D → Sto → Res D) : Sp := fun vs H Q E => ∃ β ds bx, vs.length = n ∧ RA K β H vs ds ∧ Good K P.T β bx H ∧ Out K P β H (f ds bx) Q E
theorem spD_len {K : PySem.W.Frag} {P : Pm} {n : Nat} {f : List D → Sto → Res D} : ∀ vs H Q E, spD K P n f vs H Q E → vs.length = n := fun _ _ _ _ ⟨_, _, _, h, _⟩ => h
theorem OutX.out {K : PySem.W.Frag} {P : Pm} {β : Mu} {H : Hp} {r : Res D} {Q : VK} {E : XK} (o : OutX P K β H r E fun d β' _ H' => ∀ v, R K β' H' v d → Q v H') : Out K P β H r Q E := by
  cases r with
  | ok d bx => exact fun β' v H' l g r => o β' H' l g v r
  | err c d bx => exact o
  | bad => exact o
def fCall (g : List D → Sto → Res D) (A : Fn (List D)) : Fn D := bnd A fun ds => fun _ bx => g ds bx
section
variable {X : Cx} {P : Pm} {E : XK} {pos : Pos} {a b : Expr} {F G : Fn D} {es : List Expr} {A : Fn (List D)}
variable {CX : CXT} {k n : Nat} {f : Addr} {fd : FuncData} {ps : List Str} {g : List D → Sto → Res D} {x : Str} {p : Pos} {e : Expr}
theorem ed_call (F : FnOk X.prog X.w X.K X.mg X.base CX k f fd ps (spD X.K P n g)) (hr : Room k X.A) (hg : Gl X x) (hm : X.mg x = some (.ref f)) (hk : PySem.W.keepIn X.K (.ref f) = true) (hb : Binds X.K fd ps []) (hx : Passes CX X E) (hn : (e :: es).length = n)
    (ha : EA X P E (e :: es) A) (hdb : (x == ("__debug__" : Str)) = false := by decide) (he : starEach (e :: es) X.env = (false, eval e X.env) :: starEach es X.env := by rfl) (hpl : (backTo pos (starEach es X.env)).any (·.1) = false := by rfl)
    (hA : ∀ δ bx ds bx', A δ bx = .ok ds bx' → ds.length = n) :
    ED X P E (.Call (.Name x p) (e :: es) [] pos) (fCall g A) := by
  refine pe_imp (pe_call F hr hg hm hk hb .nil hx ha hdb he hpl) ?_
  rintro σ H Q ⟨β, δ, bx, ev, gd, o⟩
  have o2 := x_bind o.x
  refine ⟨β, δ, bx, ev, gd, ?_⟩
  cases hF : A δ bx with
  | ok ds bx' =>
    rw [hF] at o2
    refine fun β' vs H' l g' r => ?_
    show spD X.K P n g (vs ++ []) H' Q E
    rw [List.append_nil]
    exact ⟨β', ds, bx', by rw [r.length]; exact hA _ _ _ _ hF, r, g', (o2 β' H' l g' l).out⟩
  | err c d bx' =>
    rw [hF] at o2
    exact o2
  | bad =>
    rw [hF] at o2
    exact o2
theorem bnd_ok {α γ : Type} {F : Fn α} {G : α → Fn γ} {δ : List (Option D)} {bx bx' : Sto} {a : α} (h : F δ bx = .ok a bx') : bnd F G δ bx = G a δ bx' := by unfold bnd; rw [h]
theorem bnd_err {α γ : Type} {F : Fn α} {G : α → Fn γ} {δ : List (Option D)} {bx bx' : Sto} {c : Str} {d : D} (h : F δ bx = .err c d bx') : bnd F G δ bx = .err c d bx' := by unfold bnd; rw [h]
theorem bnd_bad {α γ : Type} {F : Fn α} {G : α → Fn γ} {δ : List (Option D)} {bx : Sto} (h : F δ bx = .bad) : bnd F G δ bx = .bad := by unfold bnd; rw [h]
/-- how long a list of arguments is -/
theorem len_nil {δ bx ds bx'} (h : (pur [] : Fn (List D)) δ bx = .ok ds bx') : ds.length = 0 := by
  cases h
  rfl
theorem len_cons {F : Fn D} {A : Fn (List D)} {n : Nat} (hA : ∀ δ bx ds bx', A δ bx = .ok ds bx' → ds.length = n) : ∀ δ bx ds bx', fCons F A δ bx = .ok ds bx' → ds.length = n + 1 := by
  intro δ bx ds bx' h
  unfold fCons at h
  cases hF : F δ bx with
  | ok d bx1 =>
    rw [bnd_ok hF] at h
    cases h2 : A δ bx1 with
    | ok ds2 bx2 =>
      rw [bnd_ok h2] at h
      have := hA _ _ _ _ h2
      cases h
      rw [List.length_cons, this]
    | err c e bx2 => rw [bnd_err h2] at h; cases h
    | bad => rw [bnd_bad h2] at h; cases h
  | err c e bx1 => rw [bnd_err hF] at h; cases h
  | bad => rw [bnd_bad hF] at h; cases h
/-- keywords -/
abbrev EK (X : Cx) (P : Pm) (E : XK) (kws : List Keyword) (A : Fn (List D)) : Prop := PK X kws (tDA X.K P E A)
theorem pk_imp {kws : List Keyword} {t t' : TA} (h : PK X kws t) (k : ∀ σ H Q, t' σ H Q → t σ H Q) : PK X kws t' := ⟨fun pos pins s σ H Q I q => h.run pos pins s σ H Q I (k σ H Q q)⟩
variable {kws : List Keyword}
theorem ek_nil : EK X P E [] (pur []) := pk_imp pk_nil fun _ H _ ⟨β, _, _, _, g, o⟩ => o _ [] H .refl g .nil
theorem ek_cons {nm : Option Str} {kpos : Pos} (ha : ED X P E a F) (hr : EK X P E kws A) : EK X P E (⟨nm, a, kpos⟩ :: kws) (fCons F A) := by
  refine pk_imp (pk_cons ha hr) ?_
  rintro σ H Q ⟨β, δ, bx, ev, g, o⟩
  exact d_bind ev g o.x fun β1 bx1 x d H1 l1 g1 r1 o1 => a_bind (ev.le l1) g1 o1 fun β2 bx2 y e H2 l2 g2 r2 o2 => o2 _ H2 .refl g2 _ (.cons (r1.le l2) r2)
def pick {α : Type} (z : α) (π : List Nat) (l : List α) : List α := π.map fun i => l.getD i z
theorem vals_getD : ∀ {vs : List V} {us : List Value} (i : Nat), Vals vs us → L2.RelV (vs.getD i .non) (us.getD i .none)
  | _, _, i, .nil => by simp [L2.RelV]
  | _, _, 0, .cons r _ => by simpa using r
  | _, _, i + 1, .cons _ t => by simpa using vals_getD i t
theorem ra_getD {K : PySem.W.Frag} {β : Mu} {H : Hp} : ∀ {vs : List V} {ds : List D} (i : Nat), RA K β H vs ds → R K β H (vs.getD i .non) (ds.getD i .non)
  | _, _, i, .nil => by simpa using R.non
  | _, _, 0, .cons r _ => by simpa using r
  | _, _, i + 1, .cons _ t => by simpa using ra_getD i t
theorem vals_pick {vs : List V} {us : List Value} (r : Vals vs us) : ∀ π : List Nat, Vals (pick .non π vs) (pick .none π us)
  | [] => .nil
  | i :: π => .cons (vals_getD i r) (vals_pick r π)
theorem ra_pick {K : PySem.W.Frag} {β : Mu} {H : Hp} {vs : List V} {ds : List D} (r : RA K β H vs ds) : ∀ π : List Nat, RA K β H (pick .non π vs) (pick .non π ds)
  | [] => .nil
  | i :: π => .cons (ra_getD i r) (ra_pick r π)
def fCallK (g : List D → Sto → Res D) (π : List Nat) (A : Fn (List D)) : Fn D := bnd A fun ds => fun _ bx => g (pick .non π ds) bx
theorem ed_callK {ks : List Str} (π : List Nat) (F : FnOk X.prog X.w X.K X.mg X.base CX k f fd ps (spD X.K P n g)) (hr : Room k X.A) (hg : Gl X x) (hm : X.mg x = some (.ref f)) (hk : PySem.W.keepIn X.K (.ref f) = true)
    (hb : ∀ (s : Shared) (ws : List Value), X.K.In s.heap → ws.length = ks.length → BindsTo s fd ⟨[], ks.zip ws⟩ (ps.zip (pick .none π ws))) (hx : Passes CX X E) (hp : π.length = n) (hpn : ps.length = n)
    (ha : EK X P E kws A) (hA : ∀ δ bx ds bx', A δ bx = .ok ds bx' → ds.length = ks.length) (hall : (backToKw pos (keywordEach kws X.env)).all (·.1.isSome) = true := by rfl) (hks : (backToKw pos (keywordEach kws X.env)).filterMap (·.1) = ks := by rfl) (hdb : (x == ("__debug__" : Str)) = false := by decide)
    (hpl : ((backTo pos (starEach [] X.env)).any (·.1) || (backToKw pos (keywordEach kws X.env)).any (·.1.isNone)) = false := by rfl) :
    ED X P E (.Call (.Name x p) [] kws pos) (fCallK g π A) := by
  refine ⟨fun pins s σ H Q I h => ?_⟩
  obtain ⟨β, δ, bx, ev, gd, o⟩ := h
  have o2 := x_bind o.x
  have h' : (tDA X.K P E A) σ H fun zs H1 => ∃ β ds bx, zs.length = ks.length ∧ RA X.K β H1 zs ds ∧ Good X.K P.T β bx H1 ∧ Out X.K P β H1 (g (pick .non π ds) bx) Q E := by
    refine ⟨β, δ, bx, ev, gd, ?_⟩
    cases hF : A δ bx with
    | ok ds bx' =>
      rw [hF] at o2
      exact fun β' vs H' l g' r => ⟨β', ds, bx', by rw [r.length]; exact hA _ _ _ _ hF, r, g', (o2 β' H' l g' l).out⟩
    | err c d bx' =>
      rw [hF] at o2
      exact o2
    | bad =>
      rw [hF] at o2
      exact o2
  refine wpAny_Call_Name_kw (ld_glob I hg hm ?_ hdb)
  refine PySem.W.callWith_KW0 (h₀ := X.base) I.ok.mod.kin hk hall ?_ hpl
  refine thn (ha.run pos pins s σ H _ I h') fun ws s2 ⟨zs, H2, I2, rz, β2, ds, bx2, hl, ra, g2, o3⟩ => ⟨I2.kIn, ?_⟩
  rw [hks]
  have hl2 : ws.length = ks.length := by rw [← rz.length]; exact hl
  refine wpAny_call (codeAny_mono (F.run X.A X.stack s2 H2 ⟨[] ++ [], ks.zip ws⟩ (pick .none π ws) (pick .non π zs) Q E hr I2.env0 (hb s2 ws I2.kIn hl2) (vals_pick rz π) ⟨β2, pick .non π ds, bx2, by unfold pick; rw [List.length_map]; exact hp, ra_pick ra π, g2, o3⟩) fun r s' hq => ?_)
  cases r with
  | error e => exact hx pins σ H2 s2 e s' I2 hq
  | ok fl =>
    cases fl with
    | ret u => exact I2.after hq
    | next => exact False.elim hq
    | brk => exact False.elim hq
    | cont => exact False.elim hq
end

/-! ### statements -/
inductive Rs where
  | nx (δ : List (Option D)) (bx : Sto) | rt (d : D) (bx : Sto) | er (c : Str) (d : D) (bx : Sto) | bad
abbrev Sn := List (Option D) → Sto → Rs
def OutS (K : PySem.W.Frag) (P : Pm) (β : Mu) (H : Hp) (r : Rs) (Z : Ends) (E : XK) : Prop := match r with
  | .nx δ bx => ∀ β' σ' H', Le β H β' H' → Good K P.T β' bx H' → Ev K β' H' σ' δ → Z.nx σ' H'
  | .rt d bx => ∀ β' v H', Le β H β' H' → Good K P.T β' bx H' → R K β' H' v d → Z.rt v H'
  | .er c d bx => OutE K P β H c d bx E
  | .bad => False
theorem OutS.le {K : PySem.W.Frag} {P : Pm} {β β1 : Mu} {H H1 : Hp} {r : Rs} {Z : Ends} {E : XK} (l : Le β H β1 H1) (h : OutS K P β H r Z E) : OutS K P β1 H1 r Z E := by
  cases r with
  | nx δ bx => exact fun β' σ H' l' g r => h β' σ H' (l.trans l') g r
  | rt d bx => exact fun β' v H' l' g r => h β' v H' (l.trans l') g r
  | er c d bx => exact OutE.le l h
  | bad => exact h
def tDS (K : PySem.W.Frag) (P : Pm) (E : XK) (S : Sn) : TS := fun Z σ H => ∃ β δ bx, Ev K β H σ δ ∧ Good K P.T β bx H ∧ OutS K P β H (S δ bx) Z E
abbrev SD (X : Cx) (P : Pm) (E : XK) (s : Stmt) (S : Sn) : Prop := PS X s (tDS X.K P E S)
abbrev SSD (X : Cx) (P : Pm) (E : XK) (s : List Stmt) (S : Sn) : Prop := PSs X s (tDS X.K P E S)
/-- from an expression's end to a statement -/
def sOf {α : Type} (F : Fn α) (k : α → Sn) : Sn := fun δ bx => match F δ bx with
  | .ok a bx' => k a δ bx'
  | .err c d bx' => .er c d bx'
  | .bad => .bad
section
variable {K : PySem.W.Frag} {P : Pm} {E : XK} {β : Mu} {δ : List (Option D)} {bx : Sto} {σ : L2.St} {H : Hp} {Z : Ends}
theorem sd_bind {F : Fn D} {k : D → Sn} {Q1 : VK} (ev : Ev K β H σ δ) (g : Good K P.T β bx H) (o : OutS K P β H (sOf F k δ bx) Z E)
    (h : ∀ β1 bx' x d H1, Le β H β1 H1 → Good K P.T β1 bx' H1 → R K β1 H1 x d → OutS K P β1 H1 (k d δ bx') Z E → Q1 x H1) : tD K P E F σ H Q1 := by
  refine ⟨β, δ, bx, ev, g, ?_⟩
  unfold sOf at o
  cases hF : F δ bx with
  | ok d bx' =>
    rw [hF] at o
    exact fun β' v H' l g' r => h β' bx' v d H' l g' r (OutS.le l o)
  | err c d bx' =>
    rw [hF] at o
    exact o
  | bad =>
    rw [hF] at o
    exact o
theorem sa_bind {F : Fn (List D)} {k : List D → Sn} {Q1 : List V → Hp → Prop} (ev : Ev K β H σ δ) (g : Good K P.T β bx H) (o : OutS K P β H (sOf F k δ bx) Z E)
    (h : ∀ β1 bx' x d H1, Le β H β1 H1 → Good K P.T β1 bx' H1 → RA K β1 H1 x d → OutS K P β1 H1 (k d δ bx') Z E → Q1 x H1) : tDA K P E F σ H Q1 := by
  refine ⟨β, δ, bx, ev, g, ?_⟩
  unfold sOf at o
  cases hF : F δ bx with
  | ok d bx' =>
    rw [hF] at o
    exact fun β' v H' l g' r => h β' bx' v d H' l g' r (OutS.le l o)
  | err c d bx' =>
    rw [hF] at o
    exact o
  | bad =>
    rw [hF] at o
    exact o
theorem st_bind {F : Fn Bool} {k : Bool → Sn} {Q1 : Bool → Hp → Prop} (ev : Ev K β H σ δ) (g : Good K P.T β bx H) (o : OutS K P β H (sOf F k δ bx) Z E)
    (h : ∀ β1 bx' c H1, Le β H β1 H1 → Good K P.T β1 bx' H1 → OutS K P β1 H1 (k c δ bx') Z E → Q1 c H1) : tDT K P E F σ H Q1 := by
  refine ⟨β, δ, bx, ev, g, ?_⟩
  unfold sOf at o
  cases hF : F δ bx with
  | ok d bx' =>
    rw [hF] at o
    exact fun β' H' l g' => h β' bx' d H' l g' (OutS.le l o)
  | err c d bx' =>
    rw [hF] at o
    exact o
  | bad =>
    rw [hF] at o
    exact o
end
def sNext : Sn := fun δ bx => .nx δ bx
def sSeq (S T : Sn) : Sn := fun δ bx => match S δ bx with
  | .nx δ' bx' => T δ' bx'
  | .rt d bx' => .rt d bx'
  | .er c d bx' => .er c d bx'
  | .bad => .bad
def sSet (i : Nat) (F : Fn D) : Sn := sOf F fun d δ bx => .nx (δ.set i (some d)) bx
def sRet (F : Fn D) : Sn := sOf F fun d _ bx => .rt d bx
def sDrop (F : Fn D) : Sn := sOf F fun _ δ bx => .nx δ bx
def sIf (C : Fn Bool) (S T : Sn) : Sn := sOf C fun c => if c = true then S else T
def setAll : List Nat → List D → List (Option D) → Option (List (Option D))
  | [], [], δ => some δ
  | i :: is, d :: ds, δ => setAll is ds (δ.set i (some d))
  | _, _, _ => none
def sUnp (is : List Nat) (F : Fn D) : Sn := sOf F fun d δ bx => match (vs bx d).bind fun l => setAll is l δ with
  | some δ' => .nx δ' bx
  | none => .bad
def sPar (i j : Nat) (A : Fn (List D)) : Sn := sOf A fun ds δ bx => match ds with
  | [d, e] => .nx ((δ.set i (some d)).set j (some e)) bx
  | _ => .bad
section
variable {X : Cx} {P : Pm} {E : XK} {pos : Pos} {a b e : Expr} {F G : Fn D} {es : List Expr} {A : Fn (List D)} {C : Fn Bool} {S T : Sn} {st : Stmt} {ss tt : List Stmt}
theorem ssd_nil : SSD X P E [] sNext := pss_imp pss_nil fun Z σ H ⟨β, δ, bx, ev, g, o⟩ => o _ σ H .refl g ev
theorem ssd_cons (h1 : SD X P E st S) (h2 : SSD X P E ss T) : SSD X P E (st :: ss) (sSeq S T) := by
  refine pss_imp (pss_cons h1 h2) ?_
  rintro Z σ H ⟨β, δ, bx, ev, g, o⟩
  refine ⟨β, δ, bx, ev, g, ?_⟩
  unfold sSeq at o
  cases hF : S δ bx with
  | nx δ' bx' =>
    rw [hF] at o
    exact fun β' σ' H' l g' ev' => ⟨β', δ', bx', ev', g', OutS.le l o⟩
  | rt d bx' =>
    rw [hF] at o
    exact o
  | er c d bx' =>
    rw [hF] at o
    exact o
  | bad =>
    rw [hF] at o
    exact o
theorem ssd_one (h1 : SD X P E st S) : SSD X P E [st] (sSeq S sNext) := ssd_cons h1 ssd_nil
theorem sd_set (i : Nat) {x : Str} {p : Pos} (hN : X.N.Nodup) (hi : X.N[i]? = some x) (hx : Loc X.env.scope x) (he : ED X P E e F) (hs : swapsWith e (some (.Name x p)) pos.line X.env = pure false := by rfl) (hf : X.fn x = true ∨ X.env.scope.names.lookup x = some .local := by first | exact .inl rfl | exact .inr rfl | assumption) :
    SD X P E (.Assign [.Name x p] e pos) (sSet i F) := by
  refine ps_imp (ps_set hN hi hx he hs hf) ?_
  rintro Z σ H ⟨β, δ, bx, ev, g, o⟩
  exact sd_bind ev g o fun β1 bx' x d H1 l1 g1 r1 o1 => o1 _ _ H1 .refl g1 ((ev.le l1).set i r1)
theorem sd_ret (he : ED X P E e F) : SD X P E (.Return (some e) pos) (sRet F) := by
  refine ps_imp (ps_ret he) ?_
  rintro Z σ H ⟨β, δ, bx, ev, g, o⟩
  exact sd_bind ev g o fun β1 bx' x d H1 l1 g1 r1 o1 => o1 _ _ H1 .refl g1 r1
theorem sd_if {c : Expr} (hc : ET X P E c C) (h1 : SSD X P E ss S) (h2 : SSD X P E tt T) : SD X P E (.If c ss tt pos) (sIf C S T) := by
  refine ps_imp (ps_if hc h1 h2) ?_
  rintro Z σ H ⟨β, δ, bx, ev, g, o⟩
  refine st_bind ev g o fun β1 bx' c H1 l1 g1 o1 => ?_
  cases c with
  | true => exact iteT ⟨β1, δ, bx', ev.le l1, g1, by simpa using o1⟩
  | false => exact iteF ⟨β1, δ, bx', ev.le l1, g1, by simpa using o1⟩
theorem sd_par (i j : Nat) {x y : Str} {px py pt : Pos} {kt k2 pt2} (hc : X.calm = true) (hN : X.N.Nodup) (hi : X.N[i]? = some x) (hj : X.N[j]? = some y) (hij : i ≠ j)
    (hx : X.env.scope.names.lookup x = some .local) (hy : X.env.scope.names.lookup y = some .local) (ha : EA X P E [a, b] A)
    (hw : swappedStores [.Tuple [.Name x px, .Name y py] kt pt] (.Tuple [a, b] k2 pt2) X.env = pure (some [x, y]))
    (hs : swapsWithSole [.Tuple [.Name x px, .Name y py] kt pt] (.Tuple [a, b] k2 pt2) pos.line X.env = pure false := by rfl) :
    SD X P E (.Assign [.Tuple [.Name x px, .Name y py] kt pt] (.Tuple [a, b] k2 pt2) pos) (sPar i j A) := by
  refine ps_imp (ps_par hc hN hi hj hij hx hy ha hw hs) ?_
  rintro Z σ H ⟨β, δ, bx, ev, g, o⟩
  refine sa_bind ev g o fun β1 bx' x ds H1 l1 g1 r1 o1 => ?_
  split at o1
  · obtain ⟨v, w, rfl, h1, h2⟩ := r1.two
    exact ⟨v, w, rfl, o1 _ _ H1 .refl g1 (((ev.le l1).set i h1).set j h2)⟩
  · exact o1.elim
/-- names one behind another -/
def tNames : List Nat → TGs
  | [] => gNil
  | i :: is => gCons (gName i) (tNames is)
theorem tNames_of {K : PySem.W.Frag} {β : Mu} {H : Hp} {Z : L2.St → Hp → Prop} : ∀ {is : List Nat} {ds : List D} {δ δ' : List (Option D)} {vs : List V} {σ : L2.St}, setAll is ds δ = some δ' → RA K β H vs ds → Ev K β H σ δ → (∀ σ', Ev K β H σ' δ' → Z σ' H) → tNames is vs σ H Z
  | [], [], δ, δ', vs, σ, h, r, ev, k => by
    cases r
    cases h
    exact ⟨rfl, k σ ev⟩
  | [], _ :: _, _, _, _, _, h, _, _, _ => by cases h
  | _ :: _, [], _, _, _, _, h, _, _, _ => by cases h
  | i :: is, d :: ds, δ, δ', _, σ, h, .cons (v := v) (vs := vs) r ra, ev, k => ⟨v, vs, rfl, tNames_of (is := is) h ra (ev.set i r) k⟩
theorem setAll_len : ∀ {is : List Nat} {ds : List D} {δ δ' : List (Option D)}, setAll is ds δ = some δ' → ds.length = is.length
  | [], [], _, _, _ => rfl
  | [], _ :: _, _, _, h => by cases h
  | _ :: _, [], _, _, h => by cases h
  | i :: is, d :: ds, δ, δ', h => by
    rw [List.length_cons, List.length_cons, setAll_len (is := is) h]
theorem pg_or {tg : Expr} {t u : TG} (h1 : PG X tg t) (h2 : PG X tg u) : PG X tg (fun v σ H Q => t v σ H Q ∨ u v σ H Q) :=
  ⟨fun pins s σ H v w Q I r h => h.elim (fun h => h1.run pins s σ H v w Q I r h) (fun h => h2.run pins s σ H v w Q I r h)⟩
theorem sd_unp (is : List Nat) {kk : Nat} {p : Pos} {tgs : List Expr} (hc : X.calm = true) (ht : PGs X tgs (tNames is)) (hl : is.length = tgs.length) (he : ED X P E e F)
    (hn : (assignEach tgs X.env).length = is.length := by rfl) (hst : (assignEach tgs X.env).findIdx? (·.1) = none := by rfl)
    (hs : swapsWithSole [.Tuple tgs kk p] e pos.line X.env = pure false := by rfl) (hw : swappedStores [.Tuple tgs kk p] e X.env = pure none := by rfl) (h1 : (assignEach [.Tuple tgs kk p] X.env).map (·.2) = [assign (.Tuple tgs kk p) X.env] := by rfl) :
    SD X P E (.Assign [.Tuple tgs kk p] e pos) (sUnp is F) := by
  refine ps_imp (ps_asg he (pg_or (pg_tup hc ht hn hst) (pg_lst hc ht hn hst)) hs hw h1) ?_
  rintro Z σ H ⟨β, δ, bx, ev, g, o⟩
  refine sd_bind ev g o fun β1 bx' x d H1 l1 g1 r1 o1 => ?_
  split at o1
  · rename_i δ' hδ
    cases hl : vs bx' d with
    | none => rw [hl] at hδ; cases hδ
    | some l =>
      rw [hl] at hδ
      replace hδ : setAll is l δ = some δ' := hδ
      obtain ⟨a, xs, rfl, s, ra⟩ := r1.vs g1 hl
      rcases s with s | s
      · exact .inr ⟨_, _, rfl, s, by rw [ra.length]; exact setAll_len hδ, tNames_of hδ ra (ev.le l1) fun σ' ev' => o1 _ σ' H1 .refl g1 ev'⟩
      · exact .inl ⟨_, _, rfl, s, by rw [ra.length]; exact setAll_len hδ, tNames_of hδ ra (ev.le l1) fun σ' ev' => o1 _ σ' H1 .refl g1 ev'⟩
  · exact o1.elim
end

/-! ### a def of the text keeps the promise -/
def fnD (N : List Str) (S : Sn) : List D → Sto → Res D := fun ds bx => match S (ds.map some ++ List.replicate (N.length - ds.length) none) bx with
  | .nx _ bx' => .ok .non bx'
  | .rt d bx' => .ok d bx'
  | .er c d bx' => .err c d bx'
  | .bad => .bad
def noErr : Res D → Res D
  | .ok d bx => .ok d bx
  | _ => .bad
theorem ev_start {K : PySem.W.Frag} {β : Mu} {H : Hp} {N : List Str} {vs : List V} {ds : List D} (r : RA K β H vs ds) : Ev K β H (L2.start N vs) (ds.map some ++ List.replicate (N.length - ds.length) none) := by
  refine ⟨by unfold L2.start; rw [r.length]; simp [r.length], fun i d h => ?_⟩
  by_cases hi : i < ds.length
  · rw [List.getElem?_append_left (by simpa using hi), List.getElem?_map] at h
    cases hd : ds[i]? with
    | none => rw [hd] at h; cases h
    | some d' =>
      rw [hd] at h
      cases h
      obtain ⟨v, h1, h2⟩ := r.get hd
      refine ⟨v, ?_, h2⟩
      unfold L2.start
      rw [List.getElem?_append_left (by rw [List.length_map, r.length]; exact hi), List.getElem?_map, h1]
      rfl
  · rw [List.getElem?_append_right (by simpa using hi)] at h
    have := List.mem_of_getElem? h
    rw [List.mem_replicate] at this
    cases this.2
theorem fn_end {K : PySem.W.Frag} {P : Pm} {N : List Str} {S : Sn} {vs : List V} {H : Hp} {Q : VK} {E : XK} {n : Nat} (h : spD K P n (fnD N S) vs H Q E) : tDS K P E S { nx := fun _ H' => Q .non H', rt := Q } (L2.start N vs) H := by
  obtain ⟨β, ds, bx, hl, r, g, o⟩ := h
  refine ⟨β, _, bx, ev_start r, g, ?_⟩
  unfold fnD at o
  cases hS : S (ds.map some ++ List.replicate (N.length - ds.length) none) bx with
  | nx δ bx' =>
    rw [hS] at o
    exact fun β' σ' H' l g' ev => o _ .non H' l g' .non
  | rt d bx' =>
    rw [hS] at o
    exact o
  | er d bx' =>
    rw [hS] at o
    exact o
  | bad =>
    rw [hS] at o
    exact o
section
variable {Pg : Program} {w : World} {K : PySem.W.Frag} {mg : Str → Option Value} {base : Heap} {P : Pm}
/-- a def that raises nothing -/
theorem fn_ok {x qual : Str} {st : Stmt} {f : Addr} {fd : FuncData} {N ps : List Str} {k n : Nat} {S : Sn} (F : Fun K x qual st f fd) (sc : FnScope N ps (defScope st)) (hn : ps.length = n)
    (hb : ∀ (cdv : Value) (A : Around) (outer : List Env) (s : Shared) (H : Hp), Room k (A.deeper (envOfC qual (defScope st) s.heap.objs.size f cdv)) →
      SSD (cxOf CX0 Pg w K mg base N qual (defScope st) f cdv A outer s H E0).nox P E0 (defBody st) S) : FnOk Pg w K mg base CX0 (k + 1) f fd ps (spD K P n fun ds bx => noErr (fnD N S ds bx)) := by
  refine F.ok sc (fun vs H Q E h => (spD_len _ _ _ _ h).trans hn.symm) fun cdv A outer s H vs Q E hr h => ?_
  have hs : spD K P n (fnD N S) vs H Q E0 := by
    obtain ⟨β, ds, bx, h1, h2, h3, o⟩ := h
    refine ⟨β, ds, bx, h1, h2, h3, ?_⟩
    replace o : Out K P β H (noErr (fnD N S ds bx)) Q E := o
    cases hF : fnD N S ds bx with
    | ok d bx' =>
      rw [hF] at o
      exact o
    | err c d bx' =>
      rw [hF] at o
      exact o.elim
    | bad =>
      rw [hF] at o
      exact o
  exact ⟨tDS K P E0 S, (hb cdv A outer s H hr), fn_end hs⟩
end
end Ms

end
section
set_option Elab.async false
set_option linter.all false
set_option maxRecDepth 100000
set_option maxHeartbeats 4000000
namespace PySem
namespace RefX
open PySem.W PySem.Calls PyProof.Rows PySem.HandSPX
/-! ### the text of __init__ -/
def iA (p1 p2 : Pos) : Arguments := { posonlyargs := [], args := [{ arg := "self", annotation := none, pos := p1 }, { arg := "at", annotation := none, pos := p2 }], vararg := none, kwonlyargs := [], kw_defaults := [], kwarg := none, defaults := [] }
def iB (q1 q2 q3 q4 : Pos) : List Stmt := [.Assign [.Attribute (.Name "self" q1) "at" q2] (.Name "at" q3) q4]
def iS : Scope := { kind := .function, names := [(PySem.Str.ofString "self", .local), (PySem.Str.ofString "at", .local)], isGenerator := false, isCoroutine := false, more := [] }
/-- what the written part says of Low, at C, and of its __init__, at fI -/
structure LowTxt (cn qn : Str) (K : Frag) (mg : Str → Option Value) (C fI : Addr) : Prop where
  gC : mg cn = some (.ref C)
  cls : ∃ nm q N bs bm sn sub ab col dd k0 k1 k2 k3 k5, K.lookup C = some (excClassObj nm q C N bs bm true sn sub ab col dd k0 k1 k2 k3 k5 "ValueError.__new__") ∧ refsVE bm = true
  sa : findIn K (.ref C) "__setattr__" = some (some (.builtin "object.__setattr__"))
  ga : findIn K (.ref C) "__getattribute__" = some (some (.builtin "BaseException.__getattribute__"))
  gg : findIn K (.ref C) "__getattr__" = some none
  noN : findIn K (.ref C) "at" = some none
  iC : findIn K (.ref C) "__init__" = some (some (.ref fI))
  tC : typeIn K (.ref fI) = some (.type "function")
  kC : keepIn K (.ref C) = true
  exC : subIn K (.ref C) (.type "BaseException") = some true
  tyC : typeIn K (.ref C) = some (.type "type")
  hdC : hasDictIn K C = true
  te : exmOne K (.ref C) (.ref C) = some true
  fn : ∃ (oc : Value) (od : Option Addr) (doc pm : Value) (an : Option Addr) (cdv ct : Value) (osl : Array (Option Value)) (p1 p2 q1 q2 q3 q4 : Pos),
    K.lookup fI = some ⟨oc, od, .func (fnOf "__init__" qn (iA p1 p2) (iB q1 q2 q3 q4) iS .none .none doc pm an cdv ct), osl⟩ ∧ codeIn K cdv qn = true
theorem one_size (v : Value) : [v].length ≤ sizeLine := by
  rw [sizeLine_eq]
  exact (by decide : 1 ≤ 16777216)
theorem kept_but {K : Frag} {h h' : Heap} {x : Addr} (X : K.In h) (hx : K.lookup x = none) (k : ∀ b o, b ≠ x → h.get? b = some o → h'.get? b = some o) : K.In h' := fun a o e =>
  k a o (fun z => by rw [z, hx] at e; cases e) (X a o e)
theorem ldC {M : Model} {s : Shared} {name : Str} {scope : Scope} {L a : Addr} {cd : Value} {m : Str → Option Value} {x : Str} {pos : Pos} {v : Value} {Q : Value → Shared → Prop} {A : Around} {E : Value → Shared → Prop} (hn : s.heap.Ns L m) (hv : m x = some v) (h : Q v s)
    (hk : scope.kind = .function := by rfl) (hl : (envOfC name scope L a cd).kindOf x = some .local := by rfl) (hd : (x == ("__debug__" : Str)) = false := by decide) :
    wpAny M A (eval (.Name x pos) (envOfC name scope L a cd)) Q E s := wpAny_Name (wpAny_loadName_local hk hl hn hv h) hd
/-- what __init__ leaves of a fresh exception at x -/
structure InitEnd (h h' : Heap) (x C dx t1 : Addr) (v : Value) : Prop where
  keep : ∀ b o, b ≠ x → h.get? b = some o → h'.get? b = some o
  obj : h'.get? x = some { cls := .ref C, dict := some dx, data := .fields #[.ref t1, .none, .none, .none, .bool false, .none] }
  dbig : h.objs.size ≤ dx
  dne : dx ≠ x
  ns : h'.Ns1 dx (fun y => if y = "at" then some v else none)
/-- a made Low -/
structure OwnMade (h h' : Heap) (e C d : Addr) (v : Value) : Prop where
  keep : ∀ b o, h.get? b = some o → h'.get? b = some o
  new : h.objs.size ≤ e
  obj : ∃ oe vs, h'.get? e = some oe ∧ oe.cls = .ref C ∧ oe.dict = some d ∧ oe.data = .fields vs ∧ vs[1]? = some .none
  dbig : h.objs.size ≤ d
  dne : d ≠ e
  ns : h'.Ns1 d (fun y => if y = "at" then some v else none)
section
variable {prog : Program} {w : World} {A : Around} {E : Value → Shared → Prop} {R : Result → Shared → Prop} {s : Shared} {K : Frag} {mg : Str → Option Value} {C fI : Addr} {cn qn : Str}
theorem low_init (T : LowTxt cn qn K mg C fI) {x t0 : Addr} {v : Value} (X : K.In s.heap) (hlim : s.heap.NoLimit) (hx : s.heap.get? x = some (excO C t0)) (hnx : K.lookup x = none) (hroom : A.depth < recursionLimit)
    (hq : ∀ h' tk dx, InitEnd s.heap h' x C dx t0 v → R (.ok (.ret .none)) { s with heap := h', toks := tk }) :
    codeAny (model prog w) A (.call (.ref fI) ⟨[.ref x, v], []⟩) R s := by
  obtain ⟨oc, od, doc, pm, an, cdv, ct, osl, p1, p2, q1, q2, q3, q4, ho, hcd⟩ := T.fn
  obtain ⟨nm, q, N, bs, bm, sn, sub, ab, col, dd, k0, k1, k2, k3, k5, hC, hbm⟩ := T.cls
  have hcl : clsIn K C = some { name := nm, bases := bs, mro := .ref C :: bm, ns := N, qualname := q, hasDict := true, slotNames := sn, subclasses := sub, abstract := ab, collection := col, hasDel := false } := by unfold clsIn; rw [hC] <;> rfl
  refine Att.call_fn (binds := [("self", .ref x), ("at", v)]) X hlim ho hcd hroom (BindsTo.of_eq (by first | rfl | with_unfolding_all rfl)) (by first | rfl | decide | with_unfolding_all rfl) (fun s₁ IC => ?_) rfl rfl rfl
  obtain ⟨h₁, tk₁, rfl⟩ := IC.toInCall.same
  have k : ∀ b o, s.heap.get? b = some o → h₁.get? b = some o := IC.toInCall.keep
  have hn := IC.toInCall.ns
  have hxL : s.heap.objs.size ≠ x := Nat.ne_of_gt (Heap.lt_size hx)
  have X₁ : K.In h₁ := X.keeps k
  have hx₁ := k _ _ hx
  -- self.by = by
  show wpAny _ _ (execs _ _) _ _ _
  refine wpAny_execs_cons (plainObj_wpAny_Assign_Attribute ?_)
  refine ldC (v := v) hn (by first | rfl | with_unfolding_all rfl | kernel_rfl) (ldC (v := .ref x) hn (by first | rfl | with_unfolding_all rfl | kernel_rfl) ?_)
  refine set_plain X₁ (ox := excO C t0) (od := none) ⟨hx₁, rfl, rfl, trivial⟩ T.sa ?_
  refine exc_osa X₁ hx₁ hcl (show refsVE (.ref C :: bm) = true from hbm) rfl T.noN (fun h₃ tk₃ dx k₃ dn dne hx₃ hn₃ => ?_)
  show wpAny _ _ (execs _ _) _ _ _
  have z : s.heap.objs.size < h₁.objs.size := hn.lt
  exact wpAny_execs_nil (hq h₃ tk₃ dx ⟨fun b o hb e => k₃ b o hb (k b o e), hx₃, Nat.le_of_lt (Nat.lt_of_lt_of_le z dn), dne, hn₃⟩)
theorem low_made (T : LowTxt cn qn K mg C fI) {v : Value} (X : K.In s.heap) (hlim : s.heap.NoLimit) (hroom : A.depth + 1 < recursionLimit)
    (hq : ∀ h' tk e d, OwnMade s.heap h' e C d v → R (.ok (.ret (.ref e))) { s with heap := h', toks := tk }) :
    codeAny (model prog w) A (.call (.ref C) ⟨[v], []⟩) R s := by
  obtain ⟨nm, q, N, bs, bm, sn, sub, ab, col, dd, k0, k1, k2, k3, k5, hC, hbm⟩ := T.cls
  obtain ⟨hp, g, dr, tk, os⟩ := s
  have k : ∀ b o, hp.get? b = some o → ((hp.push (kdv_tup [v])).push (excO C hp.objs.size)).get? b = some o := fun b o e => Heap.get?_push_of_some _ (Heap.get?_push_of_some _ e)
  have hget : ((hp.push (kdv_tup [v])).push (excO C hp.objs.size)).get? (hp.objs.size + 1) = some (excO C hp.objs.size) := by heap_get
  have hnx : K.lookup (hp.objs.size + 1) = none := by
    cases e : K.lookup (hp.objs.size + 1) with
    | none => rfl
    | some o =>
      have z : hp.get? (hp.objs.size + 1) = some o := X _ _ e
      exact absurd (Nat.lt_of_succ_lt (Heap.lt_size z)) (Nat.lt_irrefl _)
  refine call_own F.excBase_ValueError (fun X => refsVE_contains X bm hbm) (X _ _ hC) (looks_findIn X T.iC) (fun self => bind_fn X self T.tC) (one_size v) ?_
  refine low_init (s := ⟨(hp.push (kdv_tup [v])).push (excO C hp.objs.size), g, dr, tk, os⟩) T (X.keeps k) (hlim.keeps k) hget hnx ?_ fun h' tk' dx ⟨k', hx, dn, dne, hns⟩ => ?_
  · show A.depth + 1 < recursionLimit
    exact hroom
  · have old : ∀ b o, hp.get? b = some o → h'.get? b = some o := fun b o e => k' b o (Nat.ne_of_lt (Nat.lt_succ_of_lt (Heap.lt_size e))) (k b o e)
    have z : hp.objs.size + 1 + 1 ≤ dx := by
      first
        | (simpa only [Heap.size_push] using dn)
        | exact dn
        | (have q := dn; rw [Heap.size_push, Heap.size_push] at q; exact q)
    exact ⟨rfl, hq h' tk' (hp.objs.size + 1) dx ⟨old, Nat.le_succ _, ⟨_, _, hx, rfl, rfl, rfl, rfl⟩, Nat.le_trans (Nat.le_trans (Nat.le_succ _) (Nat.le_succ _)) z, dne, hns⟩⟩
end
end RefX
end PySem
namespace L2
open PySem PySem.Spec PyProof.Rows
theorem relO_low {v : V} {v' : Value} (r : RelV v v') (f : Str) : RelO (List.lookup f [(("at" : Str), v)]) (if f = "at" then some v' else none) := by
  by_cases hw : f = "at"
  · subst hw
    rw [if_pos rfl]
    have q : List.lookup ("at" : Str) [(("at" : Str), v)] = some v := by simp [List.lookup]
    rw [q]
    exact r
  · rw [if_neg hw]
    have qw : (f == ("at" : Str)) = false := by simpa using hw
    have q2 : List.lookup f [(("at" : Str), v)] = none := by simp [List.lookup, qw]
    rw [q2]
    trivial
section
variable {X : Cx} {C fI : Addr} {cn qn : Str}
/-- Low(e) -/
def tMkLow (C : Addr) (ta : TA) : St → Hp → XK → Prop := fun σ H Q => ta σ H fun vs H1 => ∃ v, vs = [v] ∧ ∀ d, H1 d = none → Q (.ref C) (some d) (upd H1 d (.xd [(("at" : Str), v)]))
theorem pmk_low {a : Expr} {ta : TA} {p pos : Pos} {k : Nat} (T : PySem.RefX.LowTxt cn qn X.K X.mg C fI) (hr : Room k X.A) (ha : PA X [a] ta) (hg : Gl X cn := by rfl) (hdb : (cn == ("__debug__" : Str)) = false := by decide)
    (he : starEach (a :: []) X.env = (false, eval a X.env) :: starEach [] X.env := by rfl) (hpl : (backTo pos (starEach [] X.env)).any (·.1) = false := by rfl) :
    PMk X (.Call (.Name cn p) [a] [] pos) (tMkLow C ta) := by
  intro pins s σ H Q I h
  refine wpAny_Call_Name_kw (ld_glob I hg T.gC ?_ hdb)
  refine PySem.W.callWith_K (h₀ := X.base) I.ok.mod.kin T.kC (thn (ha.run pos pins s σ H _ I h) fun us s1 hh => ?_) he hpl
  obtain ⟨vs, H1, I1, r1, v, ev, q1⟩ := hh
  subst ev
  refine ⟨I1.kIn, ?_⟩
  cases r1 with
  | cons rv rn =>
    rename_i v' us'
    cases rn
    show wpAny _ _ (call (.ref C) [v']) _ _ _
    have hlim := I1.nolimit
    obtain ⟨hp, g, dr, tk, os⟩ := s1
    refine wpAny_call (PySem.RefX.low_made T I1.kIn hlim (by have := hr.dp; omega) fun h' tk' e d M => ?_)
    show MkP X pins σ Q (.ref e) ⟨h', g, dr, tk', os⟩
    obtain ⟨oe, fv, hoe, hc, hd, hdat, h1⟩ := M.obj
    have hns := M.ns
    obtain ⟨G', g1, g2⟩ := restrict h' fun b => decide (b ≠ e)
    have gk : ∀ b, b ≠ e → G'.get? b = h'.get? b := fun b hb => g1 b (decide_eq_true hb)
    have ge : G'.get? e = none := g2 e (by simp)
    have old : ∀ b o, hp.get? b = some o → G'.get? b = some o := fun b o q => (gk b (Nat.ne_of_lt (Nat.lt_of_lt_of_le (Heap.lt_size q) M.new))).trans (M.keep b o q)
    have ob : ObjOk X.prog X.w (upd H1 d (.xd [(("at" : Str), v)])) G' d (.xd [(("at" : Str), v)]) :=
      ⟨_, hns.at (fun o q => (gk d M.dne).trans q), fun f => relO_low rv f⟩
    have J : Inv X pins σ (upd H1 d (.xd [(("at" : Str), v)])) ⟨G', g, dr, tk', os⟩ := I1.laid (t' := tk') old M.dbig ob
    refine ⟨e, oe, fv, ⟨G', g, dr, tk', os⟩, _, .ref C, some d, rfl, J, fun b o q => ?_, ge, hoe, ⟨hc, hd⟩, hdat, h1, ?_, rfl, I1.bare, raises_own T.exC T.tyC, q1 d (I1.hok.fresh M.dbig)⟩
    · by_cases hb : b = e
      · have q' : G'.get? b = some o := q
        rw [hb, ge] at q'; cases q'
      · exact (gk b hb).symm.trans q
    · rw [upd_ne (Ne.symm M.dne)]
      exact I1.hok.fresh M.new
/-- raise Low(e) -/
def tRaiseLow (C : Addr) (W : WX) (ta : TA) : TS := fun _ σ H => tMkLow C ta σ H fun cls d H' => W cls d σ H'
theorem ps_raiseLow {a : Expr} {ta : TA} {W : WX} {p pos pos2 : Pos} {k : Nat} (hc : X.calm = true) (T : PySem.RefX.LowTxt cn qn X.K X.mg C fI) (hr : Room k X.A) (tk : Takes X W) (ha : PA X [a] ta) (hg : Gl X cn := by rfl) (hdb : (cn == ("__debug__" : Str)) = false := by decide)
    (he : starEach (a :: []) X.env = (false, eval a X.env) :: starEach [] X.env := by rfl) (hpl : (backTo pos (starEach [] X.env)).any (·.1) = false := by rfl) :
    PS X (.Raise (some (.Call (.Name cn p) [a] [] pos)) none pos2) (tRaiseLow C W ta) := ps_raise hc tk (pmk_low T hr ha hg hdb he hpl)
/-- low.by, low the exception that the suite holds (at a; its class cls, its dict d) -/
def tByLow (C : Addr) (a : Addr) (cls : Value) (d : Option Addr) (te : TE) : TE := fun σ H Q => te σ H fun x H1 => x = .ref a ∧ cls = .ref C ∧ ∃ (dd : Addr) (v : V), d = some dd ∧ H1 dd = some (.xd [(("at" : Str), v)]) ∧ Q v H1
theorem pe_byLow {a : Addr} {oe : Obj} {cls : Value} {d : Option Addr} {pn : List (Addr × Obj)} {e : Expr} {te : TE} {pos : Pos} (T : PySem.RefX.LowTxt cn qn X.K X.mg C fI) (hz : Zc cls d oe) (hf : ∃ vs, oe.data = .fields vs) (he : PE (X.suite a ((a, oe) :: pn)) e te)
    (hb : attributeBase e "at" X.env (eval e X.env) = eval e X.env := by rfl) :
    PE (X.suite a ((a, oe) :: pn)) (.Attribute e "at" pos) (tByLow C a cls d te) := by
  refine ⟨fun pins s σ H Q I h => ?_⟩
  refine attr_of hb (thn (he.run pins s σ H _ I h) fun u s1 hh => ?_)
  obtain ⟨x, H1, I1, rx, ex, ec, dd, v, ed, ea, q⟩ := hh
  subst ex
  obtain rfl : u = Value.ref a := rx
  subst ec
  subst ed
  obtain ⟨ha, _⟩ := I1.pin (a, oe) (List.mem_append_left _ List.mem_cons_self)
  obtain ⟨vs, hd⟩ := hf
  have hx : ObjOk X.prog X.w H1 s1.heap dd (.xd [(("at" : Str), v)]) := I1.hok dd _ ea
  obtain ⟨mA, hns, hr⟩ := hx
  obtain ⟨od, ho, hl⟩ := lookIn_ns hns
  have l : List.lookup ("at" : Str) [(("at" : Str), v)] = some v := by simp [List.lookup]
  obtain ⟨u, hu, ru⟩ := RelO.some_of (v := v) (o := mA "at") (by rw [← l]; exact hr "at")
  have J : PySem.W.InstAt s1.heap a oe C (some od) := ⟨ha, hz.1, by unfold PySem.W.notCls; rw [hd] <;> rfl, by rw [hz.2]; exact ho⟩
  exact HandSPX.exc_get I1.kIn J T.ga T.gg T.exC (PySem.W.findObj_own T.hdC T.noN rfl (by rw [hl, hu])) (handed_of ru) ⟨v, H1, I1.tok _, ru, q⟩
end
end L2

end
section
set_option Elab.async false
set_option linter.all false
set_option maxRecDepth 100000
set_option maxHeartbeats 4000000
namespace Ms
open PySem PySem.Spec PyProof.Rows L2
open PySem.W (Frag kitOne kit_cls)
/-! ### isinstance that is true, of an exception with its own dict -/
theorem kit_true {K : Frag} {x t c : Value} {Z : Heap → Prop} (ty : ∀ (M : Model) (h : Heap), K.In h → Z h → PySem.W.Looks M h (typeOf x) t) (ne : (t == c) = false) (e : kitOne K t c = some true) :
    Answers (fun s => K.In s.heap ∧ Z s.heap) x c true := by
  rintro dep tk prog w A R ⟨h0, g, d, tt, os⟩ ⟨⟨X, p⟩, hq⟩
  have LT := ty (model prog w) h0 X p
  unfold kitOne at e
  rw [if_neg (by rw [ne]; exact Bool.false_ne_true)] at e
  obtain ⟨hty, his, hsub⟩ := kit_cls (M := model prog w) X e
  have LI : PySem.W.Looks (model prog w) h0 (isInstance x c) true := LT.andThen hsub
  unfold Builtin.«isinstance.nested»
  refine wpAny_bind (LT.at ?_)
  rw [if_neg (by rw [ne]; exact Bool.false_ne_true)]
  refine wpAny_bind (hty.at ?_)
  rw [if_pos (by decide)]
  k_delta "plainIsInstance"
  refine wpAny_bind (wpAny_bind (his.at ?_))
  simp only [Bool.not_true, Bool.false_eq_true, if_false]
  refine wpAny_bind (LI.at ?_)
  first
    | exact wpAny_pure (wpAny_pure (hq tt))
    | (simp only [if_true]; first | exact wpAny_pure (wpAny_pure (hq tt)) | exact wpAny_pure (hq tt) | exact wpAny_bind (wpAny_pure (wpAny_pure (hq tt))))
theorem call_isX {X : Cx} {a C B : Addr} {cls : Value} {d : Option Addr} {oe : Obj} {pn : List (Addr × Obj)} (hz : Zc cls d oe) (hf : ∃ vs, oe.data = .fields vs) (hne : C ≠ B) (hk : kitOne X.K (.ref C) (.ref B) = some true) :
    CallR (X.suite a ((a, oe) :: pn)) (.builtin "isinstance") (fun xs H Q => xs = [.ref a, .ref B] ∧ cls = .ref C ∧ (∃ dd fs, d = some dd ∧ H dd = some (.xd fs)) ∧ Q (.bl true) H) := by
  intro pins s σ H xs us Q I r h
  obtain ⟨rfl, rfl, ⟨dd, fs, rfl, hd⟩, q⟩ := h
  obtain ⟨u1, u2, rfl, r1, r2⟩ := vals2 r
  obtain rfl : u1 = Value.ref a := r1
  obtain rfl : u2 = Value.ref B := r2
  obtain ⟨hget, _⟩ := I.pin (a, oe) (List.mem_append.mpr (.inl List.mem_cons_self))
  obtain ⟨vs, hv⟩ := hf
  obtain ⟨mA, hns, _⟩ := (show ObjOk X.prog X.w H s.heap dd (.xd fs) from I.hok dd _ hd)
  obtain ⟨od, ho, _⟩ := lookIn_ns hns
  have J : PySem.W.InstAt s.heap a oe C (some od) := ⟨hget, hz.1, by unfold PySem.W.notCls; rw [hv], by rw [hz.2]; exact ho⟩
  exact call_isinstance (S := fun _ R s => (X.K.In s.heap ∧ PySem.W.InstAt s.heap a oe C (some od)) ∧ ∀ tk, R (.ok (.ret (.bool true))) { s with toks := tk })
    (fun prog w A R s hs => isinstance_outer (kit_true (Z := fun h => PySem.W.InstAt h a oe C (some od)) (fun _ _ _ (J : PySem.W.InstAt _ a oe C (some od)) => J.type) (by exact beq_eq_false_iff_ne.mpr fun z => hne (Value.ref.inj z)) hk 0 _ prog w A R s hs) (fun z => nomatch z)) ⟨⟨I.kIn, J⟩, fun tk => ⟨.bl true, H, I.tok tk, rfl, q⟩⟩

/-! ### raise, defs that raise -/
def sRaise (cn : Str) (F : Fn D) : Sn := sOf F fun d _ bx => .er cn d bx
section
variable {X : Cx} {P : Pm} {E : XK} {pos : Pos} {a : Expr} {F : Fn D}
theorem sOf_cons {k : D → Sn} {δ : List (Option D)} {bx : Sto} : sOf (fCons F (pur [])) (fun ds => match ds with | [d] => k d | _ => fun _ _ => .bad) δ bx = sOf F k δ bx := by
  unfold sOf
  cases hF : F δ bx with
  | ok d bx1 =>
    rw [show fCons F (pur []) δ bx = .ok [d] bx1 from bnd_ok hF]
  | err c d bx1 => rw [show fCons F (pur []) δ bx = .err c d bx1 from bnd_err hF]
  | bad => rw [show fCons F (pur []) δ bx = .bad from bnd_bad hF]
theorem sd_raise {cn qn : Str} {fI : Addr} {k : Nat} {p pos2 : Pos} (hc : X.calm = true) (T : PySem.RefX.LowTxt cn qn X.K X.mg (P.CR cn) fI) (hr : Room k X.A) (tk : Takes X fun cls d _ H => E cls d H) (ha : ED X P E a F) (hg : Gl X cn := by rfl) (hdb : (cn == ("__debug__" : Str)) = false := by decide)
    (h1 : starEach (a :: []) X.env = (false, eval a X.env) :: starEach [] X.env := by rfl) (h2 : (backTo pos (starEach [] X.env)).any (·.1) = false := by rfl) :
    SD X P E (.Raise (some (.Call (.Name cn p) [a] [] pos)) none pos2) (sRaise cn F) := by
  refine ps_imp (ps_raiseLow hc T hr tk (ea_cons (P := P) (E := E) ha ea_nil h1) hg hdb h1 h2) ?_
  rintro Z σ H ⟨β, δ, bx, ev, g, o⟩
  unfold sRaise at o
  rw [← sOf_cons] at o
  refine sa_bind ev g o fun β1 bx' vs ds H1 l1 g1 r1 o1 => ?_
  split at o1
  · rename_i d
    obtain ⟨v, rfl, rv⟩ := r1.one
    exact ⟨v, rfl, fun q hq => o1 _ q v _ (.new hq) (g1.new hq) upd_same (rv.le (.new hq))⟩
  · exact o1.elim
end
theorem pass0' {X : Cx} {E : XK} : Passes CX0 X E := fun _ _ _ _ _ _ _ h => h.elim
section
variable {Pg : Program} {w : World} {K : PySem.W.Frag} {mg : Str → Option Value} {base : Heap} {P : Pm}
theorem fn_okX {x qual : Str} {st : Stmt} {f : Addr} {fd : FuncData} {N ps : List Str} {k n : Nat} {S : Sn} (F : Fun K x qual st f fd) (sc : FnScope N ps (defScope st)) (hn : ps.length = n)
    (hb : ∀ (cdv : Value) (A : Around) (outer : List Env) (s : Shared) (H : Hp) (E : XK), Room k (A.deeper (envOfC qual (defScope st) s.heap.objs.size f cdv)) →
      SSD (cxOf (L2.CX Pg w) Pg w K mg base N qual (defScope st) f cdv A outer s H E) P E (defBody st) S) : FnOk Pg w K mg base (L2.CX Pg w) (k + 1) f fd ps (spD K P n (fnD N S)) :=
  F.okX sc (fun vs H Q E h => (spD_len _ _ _ _ h).trans hn.symm) fun cdv A outer s H vs Q E hr h => ⟨tDS K P E S, hb cdv A outer s H E hr, fn_end h⟩
end
/-! ### heard(lambda: e): what a call tells or is refused with -/
theorem takes_len {X : Cx} {W : WX} (t : Takes X W) : Takes X (fun cls d σ H => σ.length = X.N.length → W cls d σ H) := fun u s' ⟨a, B, sI, pins, σ, H, cls, d, e, I, nb, up, sky, na, os, ag, w⟩ =>
  t u s' ⟨a, B, sI, pins, σ, H, cls, d, e, I, nb, up, sky, na, os, ag, w I.len⟩
/-- the error's part -/
def EHeard (K : PySem.W.Frag) (CR : Addr) (Q : VK) : XK := fun cls d H' => cls = .ref CR ∧ ∃ dd v pd, d = some dd ∧ H' dd = some (.xd [(("at" : Str), v)]) ∧ Dp K H' v pd ∧ pd.showable = true ∧ pd.hasDict = false ∧ pd.depth ≤ 60 ∧ pd.shown.length ≤ sizeLine ∧
  ∀ p, H' p = none → Q (.ref p) (upd H' p (.tup [.str "refused", .str pd.shown, .bl true]))
def TTHeard (K : PySem.W.Frag) (CR : Addr) : (XK → Hp → VK → Prop) → Hp → VK → Prop := fun tl H Q =>
  tl (EHeard K CR Q) H fun v H' => [V.str "told", v].length ≤ sizeLine ∧ ∀ p, H' p = none → Q (.ref p) (upd H' p (.tup [.str "told", v]))
theorem b_repr : bootBuiltins ("repr" : Str) = some (.builtin "repr") := by decide +kernel
theorem b_isinstance : bootBuiltins ("isinstance" : Str) = some (.builtin "isinstance") := by decide +kernel
theorem nd_heard : (["_law_ask", "fault"] : List Str).Nodup := by decide +kernel
theorem heard_gives {X : Cx} {x q qn : Str} {sg : Scope} {g CR B fI : Addr} {cdg : Value} {k : Nat} {j1 j2 k1 k2 : Nat} {p0 p1 p2 p3 p4 p5 p6 p7 p8 p9 q1 q2 q3 q4 q5 q6 q7 q8 q9 : Pos}
    (hga : X.A.guards = some []) (hr : Room (k + 2) X.A) (T : PySem.RefX.LowTxt "Refused" qn X.K X.mg CR fI) (hne : CR ≠ B) (hk : PySem.W.kitOne X.K (.ref CR) (.ref B) = some true) (gB : X.mg "WreckError" = some (.ref B)) (gr : X.mg "repr" = none) (gi : X.mg "isinstance" = none)
    (s1 : sg.names.lookup ("Refused" : Str) = some .globalImplicit) (s2 : sg.names.lookup ("repr" : Str) = some .globalImplicit) (s3 : sg.names.lookup ("isinstance" : Str) = some .globalImplicit) (s4 : sg.names.lookup ("WreckError" : Str) = some .globalImplicit) (s5 : sg.names.lookup ("fault" : Str) = some .local) (s6 : sg.names.lookup ("_law_ask" : Str) = some .local) :
    LamX.GivesTo X ["_law_ask", "fault"] x sg g cdg [.Try [.Return (some (.Tuple [.Constant (.str "told") j1 p0, .Call (.Name "_law_ask" p1) [] [] p2] k1 p3)) p4]
      [.ExceptHandler (some (.Name "Refused" p5)) (some "fault") [.Return (some (.Tuple [.Constant (.str "refused") j2 p6, .Call (.Name "repr" p7) [.Attribute (.Name "fault" p8) "at" p9] [] q1, .Call (.Name "isinstance" q2) [.Name "fault" q3, .Name "WreckError" q4] [] q5] k2 q6)) q7] q8] [] [] q9] "_law_ask" q (TTHeard X.K CR) := by
  intro f c' s H Q tl act hc h
  have hga' : (X.A.deeper (envOfC x sg s.heap.objs.size g cdg)).guards = some [] := hga
  have hr' : Room (k + 1) (X.A.deeper (envOfC x sg s.heap.objs.size g cdg)) := hr.deeper _
  refine ⟨_, pss_one (ps_try_as (X := (cxOf C8.CX0 X.prog X.w X.K X.mg X.base ["_law_ask", "fault"] x sg g cdg X.A X.stack s H C8.E0).nox) (i := 1) (c := .ref CR) (Wout := fun _ _ _ _ => False)
      (tb := fun W D σ H => ∃ Ech : XK, (∀ cls d σ' H', Ech cls d H' → σ'.length = 2 → W cls d σ' H') ∧ σ[0]? = some (some (.ref f)) ∧ H c' = some (LamX.CodeO c' q) ∧ tl Ech H fun v H' => [V.str "told", v].length ≤ sizeLine ∧ ∀ p, H' p = none → D.rt (.ref p) (upd H' p (.tup [.str "told", v])))
      rfl rfl nd_heard rfl s5 ⟨s1, by decide, .inl T.gC⟩ LamX.takes0 (fun W pn xe tk _ => ?_) (fun a oe cls d pn hz hf => pss_one (ps_ret (pe_tup (pa_cons pe_str (pa_cons
        (pe_callB (show CallR (((cxOf C8.CX0 X.prog X.w X.K X.mg X.base ["_law_ask", "fault"] x sg g cdg X.A X.stack s H C8.E0).nox).suite a ((a, oe) :: pn)) (.builtin "repr") (rRepr X.K) from call_repr (X := ((cxOf C8.CX0 X.prog X.w X.K X.mg X.base ["_law_ask", "fault"] x sg g cdg X.A X.stack s H C8.E0).nox).suite a ((a, oe) :: pn)) hga' hr'.units) (by exact s2) (by exact gr) b_repr (pa_cons (pe_byLow (X := (cxOf C8.CX0 X.prog X.w X.K X.mg X.base ["_law_ask", "fault"] x sg g cdg X.A X.stack s H C8.E0).nox) T hz hf (pv 1 rfl (.inl s5))) pa_nil))
        (pa_cons (pe_callB (call_isX (X := (cxOf C8.CX0 X.prog X.w X.K X.mg X.base ["_law_ask", "fault"] x sg g cdg X.A X.stack s H C8.E0).nox) hz hf hne hk) (by exact s3) (by exact gi) b_isinstance (pa_cons (pv 1 rfl (.inl s5)) (pa_cons (pe_glob (v := .ref B) (by exact s4) (by exact gB) rfl) pa_nil))) pa_nil))))))), ?_⟩
  · refine ⟨fun pins s' σ H' D I h' => ?_⟩
    obtain ⟨Ech, hW, h1, h2, h3⟩ := h'
    have hp := act _ pn xe Ech p1 p2 (takes_len tk) fun cls d σ' H' he hl => hW cls d σ' H' he hl
    have hq := pss_one (ps_ret (pos := p4) (pe_tup (x1 := k1) (pos := p3) (pa_cons (pe_str (x := "told") (j := j1) (pos := p0)) (pa_cons hp pa_nil))))
    exact hq.run pins s' σ H' D I ⟨h1, h2, h3⟩
  · refine ⟨EHeard X.K CR Q, fun cls d σ' H' ⟨e1, dd, v, pd, e2, e3, e4, e5, e6, e7, e8, e9⟩ hl => ⟨true, ?_, fun _ a ha => ?_, fun z => nomatch z⟩, rfl, hc, h⟩
    · rw [e1]
      exact T.te
    · rw [e1]
      have h1 : (σ'.set 1 (some (V.ref a)))[1]? = some (some (V.ref a)) := List.getElem?_set_self (by omega)
      refine ⟨.ref a, h1, rfl, rfl, dd, v, e2, e3, v, pd, rfl, e4, e5, e6, e7, e8, .ref a, h1, rfl, rfl, ⟨dd, _, e2, e3⟩, le1000 (by show 3 ≤ 1000; omega), e9⟩
end Ms

end
section
set_option Elab.async false
set_option linter.all false
set_option maxRecDepth 100000
set_option maxHeartbeats 4000000
namespace Ms
open PySem PySem.Spec PyProof.Rows L2
def showOk (d : D) : Bool := d.pure && d.py.showable && decide (d.py.depth ≤ 60) && decide (d.py.shown.length ≤ sizeLine)
def hRes : Res D → Res D
  | .ok d bx => .ok (.tup [.str "told", d]) bx
  | .err c d bx => if c = "Refused" then (if showOk d = true then .ok (.tup [.str "refused", .str d.py.shown, .bl true]) bx else .bad) else .bad
  | .bad => .bad
def fHeard (F : Fn D) : Fn D := fun δ bx => hRes (F δ bx)
theorem heard_of {K : PySem.W.Frag} {P : Pm} {E : XK} {F : Fn D} {σ : L2.St} {H : Hp} {Q : VK} (h : tD K P E (fHeard F) σ H Q) : LamX.tLam P.T (TTHeard K (P.CR "Refused")) (fun E' => tD K P E' F) σ H Q := by
  obtain ⟨β, δ, bx, ev, g, o⟩ := h
  refine ⟨g.tb, fun H1 x t1 => ?_⟩
  have l : Le β H β H1 := .ext x
  have x' : ∀ b o, H b = some o → (∀ ps, o ≠ .tbl ps) → H1 b = some o := x
  have sm : ∀ (k : Nat) (a : Addr) (b : Bool), β.cs[k]? = some (a, b) → ∃ o, H1 a = some o ∧ ∀ ps, o ≠ .tbl ps := fun k a b h => by
    obtain ⟨o, z, t⟩ := g.sm k a b h
    exact ⟨o, x' _ _ z t, t⟩
  have g1 : Good K P.T β bx H1 := ⟨g.ln, fun k a b h => by
    obtain ⟨c, h1, h2⟩ := g.cs k a b h
    exact ⟨c, h1, h2.le l fun xs z => x _ _ z (fun ps z => by cases z)⟩, g.inj, sm, fun e he => by
    obtain ⟨⟨l, h⟩, n⟩ := g.ex e he
    exact ⟨⟨l, x _ _ h (fun ps z => by cases z)⟩, n⟩, t1⟩
  refine ⟨β, δ, bx, ev.le l, g1, ?_⟩
  unfold fHeard at o
  cases hF : F δ bx with
  | ok d bx' =>
    rw [hF] at o
    exact fun β' v H' l' g' r => ⟨le1000 (by show 2 ≤ 1000; omega), fun p hp => o _ _ _ ((l.trans l').trans (.new hp)) (g'.new hp) (.tup ⟨.inl upd_same, g'.ne hp⟩ (.cons (.str _) (.cons (r.le (.new hp)) .nil)))⟩
  | err c d bx' =>
    rw [hF] at o
    have o' : Out K P β H (if c = "Refused" then (if showOk d = true then .ok (.tup [.str "refused", .str d.py.shown, .bl true]) bx' else .bad) else .bad) Q E := o
    split at o'
    · rename_i hcn
      subst hcn
      split at o'
      · rename_i hs
        unfold showOk at hs
        simp only [Bool.and_eq_true, decide_eq_true_eq] at hs
        exact fun β' a v H' l' g' hx r => ⟨rfl, a, v, d.py, rfl, hx, r.dp hs.1.1.1, hs.1.1.2, d.noDict, hs.1.2, hs.2, fun p hp => o' _ _ _ ((l.trans l').trans (.new hp)) (g'.new hp) (.tup ⟨.inl upd_same, g'.ne hp⟩ (.cons (.str _) (.cons (.str _) (.cons (.bl _) .nil))))⟩
      · exact o'.elim
    · exact o'.elim
  | bad =>
    rw [hF] at o
    exact o.elim
section
variable {X : Cx} {P : Pm} {E : XK} {F : Fn D}
theorem ed_heard {x a : Str} {g c Pt : Addr} {k : Nat} {pg : Arguments} {bg : List Stmt} {sg : Scope} {dV kV doc pm cdv ct oc : Value} {an od : Option Addr} {osl : Array (Option Value)} {Ng : List Str}
    {params : Arguments} {body : Expr} {scope : Scope} {p lpos pos : Pos} (hg : Gl X x) (hm : X.mg x = some (.ref g)) (hk : PySem.W.keepIn X.K (.ref g) = true)
    (lk : X.K.lookup g = some ⟨oc, od, .func (PySem.W.fnOf x x pg bg sg dV kV doc pm an cdv ct), osl⟩) (hcg : PySem.W.codeIn X.K cdv x = true) (hb : L2.Binds X.K (PySem.W.fnOf x x pg bg sg dV kV doc pm an cdv ct) [a] []) (Sg : FnScope Ng [a] sg) (hNg : Ng[0]? = some a) (hva : Vis sg a)
    (hG : LamX.GivesTo X Ng x sg g cdv bg a (X.env.qual ++ "<lambda>") (TTHeard X.K (P.CR "Refused")))
    (TB : LamX.TabB X.base X.mg c Pt) (hcode : X.env.code = .ref c) (hmT : (Pt, X.env.qual ++ "<lambda>") ∈ P.T) (hu : ∀ q ∈ P.T, q.1 = Pt → q.2 = X.env.qual ++ "<lambda>") (hr : Room (k + 2) X.A) (L : LamX.LamS X.env.scope scope) (hdef : defaultsOf params X.env = ([], []))
    (hbind : ∀ (q : Str) (cl : List (Str × Addr)) (pm cv ctv : Value), bindArgs (PySem.W.kla_fn "<lambda>" q params body scope cl pm cv ctv) ⟨[], []⟩ = pure [])
    (hbody : ∀ (A : Around) (outer : List Env) (s : Shared) (H : Hp) (E' : XK) (f c' : Addr), Room k (A.deeper (LamX.lamEnv X scope s.heap.objs.size f c')) → ED (LamX.lamCx X A outer s H E' scope f c') P E' body F)
    (hdb : (x == ("__debug__" : Str)) = false := by decide) (hd : (a == ("__debug__" : Str)) = false := by decide) (hcd : (a == ("__classdict__" : Str)) = false := by decide) :
    ED X P E (.Call (.Name x p) [.Lambda params body scope lpos] [] pos) (fHeard F) :=
  pe_imp (LamX.pe_lamcall (t := fun E' => tD X.K P E' F) hg hm hk lk hcg hb Sg hNg hva hG TB hcode hmT hu hr L hdef hbind hbody hdb hd hcd) fun _ _ _ h => heard_of h
end
end Ms

end
section
set_option Elab.async false
set_option linter.all false
set_option maxRecDepth 100000
set_option maxHeartbeats 4000000
namespace Ms
open PySem PySem.Spec PyProof.Rows L2
/-! ### objects under way: a list that a comprehension makes -/
def Mu.hide (β : Mu) (a : Addr) : Mu := ⟨β.cs, a :: β.ex⟩
def Mu.back (β : Mu) (ex : List Addr) : Mu := ⟨β.cs, ex⟩
theorem rd_ne {H : Hp} {a b : Addr} {u : HO} (h : L2.Rd H b u) (n : H a = none) : b ≠ a := fun z => by
  subst z
  rcases h with h | ⟨o, h⟩ <;> rw [n] at h <;> cases h
theorem rd_upd {H : Hp} {a b : Addr} {u o : HO} (h : L2.Rd H b u) (n : b ≠ a) : L2.Rd (upd H a o) b u := by
  rcases h with h | ⟨q, h⟩
  · exact .inl (by rw [upd_ne n]; exact h)
  · exact .inr ⟨q, by rw [upd_ne n]; exact h⟩
/-- a new object that is under way -/
theorem Le.hide {β : Mu} {H : Hp} {a : Addr} {o : HO} (n : H a = none) : Le β H (β.hide a) (upd H a o) := ⟨fun k c b h => ⟨b, h, id⟩, fun k c b h z => (by
    have z' : (β.hide a).cs[k]? = none := z
    rw [z'] at h
    cases h), fun e h => List.mem_cons_of_mem _ h, fun e h z o ho => (by
    rcases List.mem_cons.mp h with h | h
    · rw [h, n] at ho
      cases ho
    · exact (z h).elim), fun b u h _ _ => keep_new n b u h, fun b u h t => ⟨u, keep_new n b u h, t⟩⟩
/-- written once more -/
theorem Le.updN {β β' : Mu} {H H' : Hp} {a : Addr} {l l' : List V} (l0 : Le β H β' H') (n : H a = none) (h : H' a = some (.lst l)) : Le β H β' (upd H' a (.lst l')) := ⟨l0.cs, l0.nw, l0.e1, l0.e2, fun b u hb nb t => by
    rw [upd_ne (ne_of_none hb n)]
    exact l0.kp b u hb nb t, fun b u hb t => by
    rw [upd_ne (ne_of_none hb n)]
    exact l0.dm b u hb t⟩
theorem Le.back {β β' : Mu} {H H' : Hp} (l : Le β H β' H') : Le β H (β'.back β.ex) H' := ⟨l.cs, l.nw, fun _ h => h, fun e h n => (n h).elim, l.kp, l.dm⟩
theorem back_ok {β : Mu} {ex : List Addr} {a : Addr} (s : ∀ e, e ∈ ex → e ∈ β.ex) (h : β.ok a) : (β.back ex).ok a := ⟨h.1, fun z => h.2 (s a z)⟩
mutual
theorem R.back {K : PySem.W.Frag} {β : Mu} {H : Hp} {ex : List Addr} (s : ∀ e, e ∈ ex → e ∈ β.ex) : ∀ {v : V} {d : D}, R K β H v d → R K (β.back ex) H v d
  | _, _, .non => .non
  | _, _, .bl b => .bl b
  | _, _, .int i => .int i
  | _, _, .str x => .str x
  | _, _, .lst h r => .lst ⟨h.1, back_ok s h.2⟩ (RA.back s r)
  | _, _, .tup h r => .tup ⟨h.1, back_ok s h.2⟩ (RA.back s r)
  | _, _, .ref h => .ref h
  | _, _, .fn h k => .fn h k
  | _, _, .scr h => .scr (h.imp (fun h => ⟨h.1, back_ok s h.2⟩) id)
theorem RA.back {K : PySem.W.Frag} {β : Mu} {H : Hp} {ex : List Addr} (s : ∀ e, e ∈ ex → e ∈ β.ex) : ∀ {vs : List V} {ds : List D}, RA K β H vs ds → RA K (β.back ex) H vs ds
  | _, _, .nil => .nil
  | _, _, .cons h r => .cons (R.back s h) (RA.back s r)
end
mutual
/-- what is told does not speak of an object that is under way, or of a cell's own -/
theorem R.upd {K : PySem.W.Frag} {β : Mu} {H : Hp} {a : Addr} {o : HO} (n : ¬ β.ok a) : ∀ {v : V} {d : D}, R K β H v d → R K β (upd H a o) v d
  | _, _, .non => .non
  | _, _, .bl b => .bl b
  | _, _, .int i => .int i
  | _, _, .str x => .str x
  | _, _, .lst h r => .lst ⟨rd_upd h.1 (fun z => n (z ▸ h.2)), h.2⟩ (RA.upd n r)
  | _, _, .tup h r => .tup ⟨rd_upd h.1 (fun z => n (z ▸ h.2)), h.2⟩ (RA.upd n r)
  | _, _, .ref h => .ref h
  | _, _, .fn h k => .fn h k
  | _, _, .scr h => .scr (h.imp (fun h => ⟨rd_upd h.1 (fun z => n (z ▸ h.2)), h.2⟩) id)
theorem RA.upd {K : PySem.W.Frag} {β : Mu} {H : Hp} {a : Addr} {o : HO} (n : ¬ β.ok a) : ∀ {vs : List V} {ds : List D}, RA K β H vs ds → RA K β (upd H a o) vs ds
  | _, _, .nil => .nil
  | _, _, .cons h r => .cons (R.upd n h) (RA.upd n r)
end
theorem Ev.upd {K : PySem.W.Frag} {β : Mu} {H : Hp} {σ : L2.St} {δ : List (Option D)} {a : Addr} {o : HO} (e : Ev K β H σ δ) (n : ¬ β.ok a) : Ev K β (upd H a o) σ δ := ⟨e.len, fun i d h => by
  obtain ⟨v, h1, h2⟩ := e.at_ i d h
  exact ⟨v, h1, h2.upd n⟩⟩
theorem Ev.none_ {K : PySem.W.Frag} {β : Mu} {H : Hp} {σ : L2.St} {δ : List (Option D)} (e : Ev K β H σ δ) (i : Nat) : Ev K β H (σ.set i none) (δ.set i none) := by
  refine ⟨by simp [e.len], fun j d h => ?_⟩
  by_cases hj : i = j
  · subst hj
    by_cases hl : i < δ.length
    · rw [List.getElem?_set_self hl] at h
      cases h
    · rw [List.getElem?_eq_none (by simp; omega)] at h
      cases h
  · rw [List.getElem?_set_ne hj] at h
    obtain ⟨v, h1, h2⟩ := e.at_ j d h
    exact ⟨v, by rw [List.getElem?_set_ne hj]; exact h1, h2⟩
theorem tabs_upd {T : List (Addr × Str)} {H : Hp} {a : Addr} {l l' : List V} (t : LamX.Tabs T H) (h : H a = some (.lst l)) : LamX.Tabs T (upd H a (.lst l')) := fun p hp => by
  obtain ⟨ps, h1, h2, h3⟩ := t p hp
  refine ⟨ps, by rw [upd_ne (fun z => by rw [z, h] at h1; cases h1)]; exact h1, h2, fun pos cv hc => ?_⟩
  obtain ⟨c, e1, e2⟩ := h3 pos cv hc
  exact ⟨c, e1, by rw [upd_ne (fun z => by rw [z, h] at e2; unfold LamX.CodeO at e2; cases e2)]; exact e2⟩
section
variable {K : PySem.W.Frag} {T : List (Addr × Str)} {β : Mu} {st : Sto} {H : Hp} {a : Addr} {l l' xs : List V} {ds : List D} {k : Nat} {b : Bool}
/-- the list under way is written -/
theorem Good.updX (g : Good K T β st H) (x : a ∈ β.ex) (h : H a = some (.lst l)) : Good K T β st (upd H a (.lst l')) := by
  have n : ¬ β.ok a := fun z => z.2 x
  have nc := (g.ex a x).2
  refine ⟨g.ln, fun k c b hk => ?_, g.inj, fun k c b hk => ?_, fun e he => ?_, tabs_upd g.tb h⟩
  · obtain ⟨cl, h1, h2⟩ := g.cs k c b hk
    refine ⟨cl, h1, ?_⟩
    cases cl with
    | dead => exact h2
    | lst ds =>
      obtain ⟨h3, xs, h4, h5⟩ := h2
      exact ⟨h3, xs, by rw [upd_ne (show c ≠ a from fun z => nc b (by rw [← z]; exact List.mem_of_getElem? hk))]; exact h4, h5.upd n⟩
  · obtain ⟨o, h1, h2⟩ := g.sm k c b hk
    exact ⟨o, by rw [upd_ne (show c ≠ a from fun z => nc b (by rw [← z]; exact List.mem_of_getElem? hk))]; exact h1, h2⟩
  · obtain ⟨⟨m, hm⟩, q⟩ := g.ex e he
    by_cases z : e = a
    · exact ⟨⟨l', z ▸ upd_same⟩, q⟩
    · exact ⟨⟨m, by rw [upd_ne z]; exact hm⟩, q⟩
theorem Good.hide (g : Good K T β st H) (n : H a = none) : Good K T (β.hide a) st (upd H a (.lst l)) := by
  refine ⟨g.ln, fun k c b hk => ?_, g.inj, fun k c b hk => ?_, fun e he => ?_, (g.new n).tb⟩
  · obtain ⟨cl, h1, h2⟩ := g.cs k c b hk
    refine ⟨cl, h1, ?_⟩
    cases cl with
    | dead => exact h2
    | lst ds =>
      obtain ⟨h3, xs, h4, h5⟩ := h2
      exact ⟨h3, xs, keep_new n _ _ h4, h5.le (.hide n)⟩
  · obtain ⟨o, h1, h2⟩ := g.sm k c b hk
    exact ⟨o, keep_new n _ _ h1, h2⟩
  · rcases List.mem_cons.mp he with rfl | he
    · refine ⟨⟨l, upd_same⟩, fun b z => ?_⟩
      obtain ⟨k, hk⟩ := List.getElem?_of_mem z
      obtain ⟨o, h1, _⟩ := g.sm k _ _ hk
      rw [n] at h1
      cases h1
    · obtain ⟨⟨m, hm⟩, q⟩ := g.ex e he
      exact ⟨⟨m, keep_new n _ _ hm⟩, q⟩
theorem Good.back {ex : List Addr} (g : Good K T β st H) (s : ∀ e, e ∈ ex → e ∈ β.ex) : Good K T (β.back ex) st H := ⟨g.ln, fun k c b hk => by
  obtain ⟨cl, h1, h2⟩ := g.cs k c b hk
  refine ⟨cl, h1, ?_⟩
  cases cl with
  | dead => exact h2
  | lst ds =>
    obtain ⟨h3, xs, h4, h5⟩ := h2
    exact ⟨h3, xs, h4, h5.back s⟩, g.inj, g.sm, fun e he => g.ex e (s e he), g.tb⟩

/-! ### cells -/
def Mu.cell (β : Mu) (a : Addr) : Mu := ⟨β.cs ++ [(a, true)], β.ex⟩
theorem cell_get {β : Mu} {a c : Addr} {k : Nat} {b : Bool} (h : (β.cell a).cs[k]? = some (c, b)) : β.cs[k]? = some (c, b) ∨ (k = β.cs.length ∧ c = a ∧ b = true) := by
  have h' : (β.cs ++ [(a, true)])[k]? = some (c, b) := h
  by_cases hk : k < β.cs.length
  · rw [List.getElem?_append_left hk] at h'
    exact .inl h'
  · rw [List.getElem?_append_right (by omega)] at h'
    by_cases hz : k - β.cs.length = 0
    · rw [hz] at h'
      cases h'
      exact .inr ⟨by omega, rfl, rfl⟩
    · rw [List.getElem?_eq_none (by simp; omega)] at h'
      cases h'
theorem cell_old {β : Mu} {a : Addr} {k : Nat} {p : Addr × Bool} (h : β.cs[k]? = some p) : (β.cell a).cs[k]? = some p := by
  show (β.cs ++ [(a, true)])[k]? = some p
  rw [List.getElem?_append_left (List.getElem?_eq_some_iff.mp h).1]
  exact h
theorem Le.cell (n : H a = none) {o : HO} : Le β H (β.cell a) (upd H a o) := ⟨fun k c b h => ⟨b, cell_old h, id⟩, fun k c b h z u hu => (by
    rcases cell_get h with h | ⟨_, rfl, _⟩
    · rw [z] at h
      cases h
    · rw [n] at hu
      cases hu), fun _ h => h, fun e h z => (z h).elim, fun b u h _ _ => keep_new n b u h, fun b u h t => ⟨u, keep_new n b u h, t⟩⟩
theorem Good.cell (g : Good K T β st H) (n : H a = none) (r : RA K β H xs ds) : Good K T (β.cell a) (st ++ [.lst ds]) (upd H a (.lst xs)) := by
  have l : Le β H (β.cell a) (upd H a (.lst xs)) := .cell n
  have fr : ∀ k c b, β.cs[k]? = some (c, b) → c ≠ a := fun k c b hk z => by
    obtain ⟨o, h1, _⟩ := g.sm k c b hk
    rw [z, n] at h1
    cases h1
  refine ⟨?_, fun k c b hk => ?_, fun i j c b hi hj => ?_, fun k c b hk => ?_, fun e he => ?_, (g.new n).tb⟩
  · show (β.cs ++ [(a, true)]).length = _
    rw [List.length_append, List.length_append, g.ln]
    rfl
  · rcases cell_get hk with h | ⟨rfl, rfl, rfl⟩
    · obtain ⟨cl, h1, h2⟩ := g.cs k c b h
      exact ⟨cl, by rw [List.getElem?_append_left (List.getElem?_eq_some_iff.mp h1).1]; exact h1, h2.le l fun ys z => keep_new n _ _ z⟩
    · refine ⟨.lst ds, by rw [g.ln, List.getElem?_append_right (Nat.le_refl _), Nat.sub_self]; rfl, rfl, xs, upd_same, r.le l⟩
  · rcases cell_get hi with h | ⟨rfl, rfl, _⟩
    · rcases cell_get hj with h' | ⟨rfl, rfl, _⟩
      · exact g.inj i j c b h h'
      · exact (fr _ _ _ h rfl).elim
    · rcases cell_get hj with h' | ⟨rfl, _, _⟩
      · exact (fr _ _ _ h' rfl).elim
      · rfl
  · rcases cell_get hk with h | ⟨rfl, rfl, rfl⟩
    · obtain ⟨o, h1, h2⟩ := g.sm k c b h
      exact ⟨o, keep_new n _ _ h1, h2⟩
    · exact ⟨_, upd_same, fun ps z => by cases z⟩
  · obtain ⟨⟨m, hm⟩, q⟩ := g.ex e he
    refine ⟨⟨m, keep_new n _ _ hm⟩, fun b z => ?_⟩
    rcases List.mem_append.mp (show (e, b) ∈ β.cs ++ [(a, true)] from z) with z | z
    · exact q b z
    · cases List.mem_singleton.mp z
      rw [n] at hm
      cases hm
theorem R.cell {β : Mu} {st : Sto} {H' : Hp} (g : β.cs.length = st.length) : R K (β.cell a) H' (.ref a) (.ref st.length) := .ref (b := true) (by
  show (β.cs ++ [(a, true)])[st.length]? = _
  rw [← g, List.getElem?_append_right (Nat.le_refl _), Nat.sub_self]
  rfl)
/-- what a living cell is -/
theorem R.live {v : V} {l : List D} (r : R K β H v (.ref k)) (g : Good K T β st H) (h : st[k]? = some (.lst l)) : ∃ a xs, v = .ref a ∧ β.cs[k]? = some (a, true) ∧ H a = some (.lst xs) ∧ RA K β H xs l := by
  cases r with
  | ref hk =>
    obtain ⟨c, h1, h2⟩ := g.cs _ _ _ hk
    rw [h] at h1
    cases h1
    obtain ⟨rfl, xs, h3, h4⟩ := h2
    exact ⟨_, xs, rfl, hk, h3, h4⟩
theorem Le.put (hk : β.cs[k]? = some (a, true)) (h : H a = some (.lst l)) : Le β H β (upd H a (.lst l')) := ⟨fun k c b h => ⟨b, h, id⟩, fun k c b h n => (by rw [n] at h; cases h), fun _ h => h, fun e h n => (n h).elim, fun b u hb nb _ => by
    rw [upd_ne (show b ≠ a from fun z => nb (by rw [z]; exact List.mem_of_getElem? hk))]
    exact hb, fun b u hb t => by
    by_cases z : b = a
    · exact ⟨.lst l', by rw [z]; exact upd_same, fun ps z => by cases z⟩
    · exact ⟨u, by rw [upd_ne z]; exact hb, t⟩⟩
theorem Good.put (g : Good K T β st H) (hk : β.cs[k]? = some (a, true)) (h : H a = some (.lst l)) (r : RA K β H xs ds) : Good K T β (st.set k (.lst ds)) (upd H a (.lst xs)) := by
  have n : ¬ β.ok a := fun z => z.1 (List.mem_of_getElem? hk)
  have hlt : k < st.length := by
    rw [← g.ln]
    exact (List.getElem?_eq_some_iff.mp hk).1
  refine ⟨by rw [List.length_set]; exact g.ln, fun j c b hj => ?_, g.inj, fun j c b hj => ?_, fun e he => ?_, tabs_upd g.tb h⟩
  · by_cases z : k = j
    · subst z
      rw [hk] at hj
      cases hj
      exact ⟨.lst ds, List.getElem?_set_self hlt, rfl, xs, upd_same, r.upd n⟩
    · obtain ⟨cl, h1, h2⟩ := g.cs j c b hj
      refine ⟨cl, by rw [List.getElem?_set_ne z]; exact h1, ?_⟩
      cases cl with
      | dead => exact h2
      | lst ds =>
        obtain ⟨rfl, ys, h4, h5⟩ := h2
        exact ⟨rfl, ys, by rw [upd_ne (show c ≠ a from fun q => z (g.inj k j a true hk (by rw [← q]; exact hj)))]; exact h4, h5.upd n⟩
  · obtain ⟨o, h1, h2⟩ := g.sm j c b hj
    by_cases z : c = a
    · exact ⟨.lst xs, by rw [z]; exact upd_same, fun ps z => by cases z⟩
    · exact ⟨o, by rw [upd_ne z]; exact h1, h2⟩
  · obtain ⟨⟨m, hm⟩, q⟩ := g.ex e he
    exact ⟨⟨m, by rw [upd_ne (show e ≠ a from fun z => q true (by rw [z]; exact List.mem_of_getElem? hk))]; exact hm⟩, q⟩
/-- a cell that is let go: its list changes no more -/
def Mu.frz (β : Mu) (k : Nat) (a : Addr) : Mu := ⟨β.cs.set k (a, false), β.ex⟩
theorem frz_get {c : Addr} {j : Nat} (h : (β.frz k a).cs[j]? = some (c, b)) : (j = k ∧ c = a ∧ b = false) ∨ (j ≠ k ∧ β.cs[j]? = some (c, b)) := by
  have h' : (β.cs.set k (a, false))[j]? = some (c, b) := h
  by_cases z : k = j
  · subst z
    rw [List.getElem?_set_self' ] at h'
    cases hk : β.cs[k]? with
    | none => rw [hk] at h'; cases h'
    | some p =>
      rw [hk] at h'
      cases h'
      exact .inl ⟨rfl, rfl, rfl⟩
  · rw [List.getElem?_set_ne z] at h'
    exact .inr ⟨fun q => z q.symm, h'⟩
theorem Le.frz (hk : β.cs[k]? = some (a, true)) : Le β H (β.frz k a) H := ⟨fun j c b h => by
    by_cases z : k = j
    · subst z
      rw [hk] at h
      cases h
      exact ⟨false, by show (β.cs.set k (a, false))[k]? = _; rw [List.getElem?_set_self (List.getElem?_eq_some_iff.mp hk).1], fun q => by cases q⟩
    · exact ⟨b, by show (β.cs.set k (a, false))[j]? = _; rw [List.getElem?_set_ne z]; exact h, id⟩, fun j c b h n => (by
    rcases frz_get h with ⟨rfl, _, _⟩ | ⟨_, h⟩
    · rw [n] at hk
      cases hk
    · rw [n] at h
      cases h), fun _ h => h, fun e h n => (n h).elim, fun b u h _ _ => h, fun b u h t => ⟨u, h, t⟩⟩
theorem frz_ok (g : Good K T β st H) (hk : β.cs[k]? = some (a, true)) : (β.frz k a).ok a := by
  refine ⟨fun z => ?_, fun z => (g.ex a z).2 true (List.mem_of_getElem? hk)⟩
  obtain ⟨j, hj⟩ := List.getElem?_of_mem z
  rcases frz_get hj with ⟨_, _, q⟩ | ⟨q, h⟩
  · cases q
  · exact q (g.inj k j a true hk h).symm
theorem Good.frz (g : Good K T β st H) (hk : β.cs[k]? = some (a, true)) : Good K T (β.frz k a) (st.set k .dead) H := by
  have hlt : k < st.length := by
    rw [← g.ln]
    exact (List.getElem?_eq_some_iff.mp hk).1
  refine ⟨by show (β.cs.set k (a, false)).length = _; rw [List.length_set, List.length_set]; exact g.ln, fun j c b hj => ?_, fun i j c b hi hj => ?_, fun j c b hj => ?_, fun e he => ?_, g.tb⟩
  · rcases frz_get hj with ⟨rfl, rfl, rfl⟩ | ⟨z, hj⟩
    · exact ⟨.dead, List.getElem?_set_self hlt, rfl⟩
    · obtain ⟨cl, h1, h2⟩ := g.cs j c b hj
      exact ⟨cl, by rw [List.getElem?_set_ne (Ne.symm z)]; exact h1, h2.le (.frz hk) fun _ q => q⟩
  · rcases frz_get hi with ⟨_, _, q⟩ | ⟨z, hi⟩
    · cases q
    · rcases frz_get hj with ⟨rfl, rfl, _⟩ | ⟨_, hj⟩
      · rename_i hi' _
        exact (z (g.inj i j c true (by first | exact hi | exact hi') hk)).elim
      · exact g.inj i j c b hi hj
  · rcases frz_get hj with ⟨rfl, rfl, rfl⟩ | ⟨_, hj⟩
    · exact g.sm _ _ _ hk
    · exact g.sm _ _ _ hj
  · obtain ⟨m, q⟩ := g.ex e he
    refine ⟨m, fun b z => ?_⟩
    obtain ⟨j, hj⟩ := List.getElem?_of_mem z
    rcases frz_get hj with ⟨_, rfl, _⟩ | ⟨_, hj⟩
    · exact q true (List.mem_of_getElem? hk)
    · exact q b (List.mem_of_getElem? hj)
end
/-! ### what makes, changes, lets go a cell -/
def fNew (A : Fn (List D)) : Fn D := bnd A fun ds => fun _ bx => if ds.length ≤ 1000000 then .ok (.ref bx.length) (bx ++ [.lst ds]) else .bad
/-- list(x), a list that will change -/
def fNewOf (F : Fn D) : Fn D := bnd F fun d => fun _ bx => match vs bx d with
  | some ds => .ok (.ref bx.length) (bx ++ [.lst ds])
  | none => .bad
def sFrz (i : Nat) : Sn := fun δ bx => match δ[i]? with
  | some (some (.ref k)) => (match bx[k]? with
    | some (.lst l) => .nx (δ.set i (some (.lst l))) (bx.set k .dead)
    | _ => .bad)
  | _ => .bad
def appK (k : Nat) (e : D) : Sn := fun δ bx => match bx[k]? with
  | some (.lst l) => if l.length < 1000000 then .nx δ (bx.set k (.lst (l ++ [e]))) else .bad
  | _ => .bad
def sApp (F G : Fn D) : Sn := sOf F fun d δ bx => match d with
  | .ref k => (match bx[k]? with
    | some (.lst _) => sOf G (appK k) δ bx
    | _ => .bad)
  | _ => .bad
/-- x[i] = e -/
def sPut (F G J : Fn D) : Sn := sOf F fun e => sOf G fun d => sOf J fun i => fun δ bx => match d, i with
  | .ref k, .int i => (match bx[k]? with
    | some (.lst l) => (match ixN l.length i with
      | some j => .nx δ (bx.set k (.lst (l.set j e)))
      | none => .bad)
    | _ => .bad)
  | _, _ => .bad
theorem RA.set {K : PySem.W.Frag} {β : Mu} {H : Hp} {v : V} {d : D} (r : R K β H v d) : ∀ {vs : List V} {ds : List D} (j : Nat), RA K β H vs ds → RA K β H (vs.set j v) (ds.set j d)
  | _, _, _, .nil => .nil
  | _, _, 0, .cons _ ra => .cons r ra
  | _, _, j + 1, .cons a ra => .cons a (RA.set r j ra)
section
variable {X : Cx} {P : Pm} {E : XK} {pos : Pos} {a b : Expr} {F G J : Fn D} {es : List Expr} {A : Fn (List D)} {ss : List Stmt} {S : Sn}
theorem ed_lstM (h : EA X P E es A) : ED X P E (.List es pos) (fNew A) := by
  refine pe_imp (pe_lst h) ?_
  rintro σ H Q ⟨β, δ, bx, ev, g, o⟩
  refine a_bind ev g o.x fun β1 bx1 xs ds H1 l1 g1 r1 o1 => ?_
  split at o1
  · rename_i hl
    exact ⟨by rw [r1.length]; exact leM hl, fun p hp => o1 _ _ (.cell hp) (g1.cell hp r1) _ (.cell g1.ln)⟩
  · exact o1.elim
theorem ed_listM {p : Pos} (hg : Gl X "list") (hm : X.mg "list" = none) (hv : bootBuiltins "list" = some (.type "list")) (ha : ED X P E a F)
    (he : starEach (a :: []) X.env = (false, eval a X.env) :: starEach [] X.env := by rfl) (hpl : (backTo pos (starEach [] X.env)).any (·.1) = false := by rfl) : ED X P E (.Call (.Name "list" p) [a] [] pos) (fNewOf F) := by
  refine pe_imp (pe_callTy call_list_of hg hm hv (ea_cons ha ea_nil he) (by decide) (by decide) he hpl) ?_
  rintro σ H Q ⟨β, δ, bx, ev, g, o⟩
  have o' : OutX P X.K β H (bnd (fCons F (pur [])) (fun ds => match ds with | [d] => (fun _ bx => match vs bx d with | some ds => .ok (.ref bx.length) (bx ++ [.lst ds]) | none => .bad) | _ => fun _ _ => .bad) δ bx) E fun d β' _ H' => ∀ v, R X.K β' H' v d → Q v H' := by
    have o := o.x
    unfold fNewOf at o
    cases hF : F δ bx with
    | ok d bx1 => rw [bnd_ok hF] at o; rw [bnd_ok (show fCons F (pur []) δ bx = .ok [d] bx1 from bnd_ok hF)]; exact o
    | err c d bx1 => rw [bnd_err hF] at o; rw [bnd_err (show fCons F (pur []) δ bx = .err c d bx1 from bnd_err hF)]; exact o
    | bad => rw [bnd_bad hF] at o; exact o.elim
  refine a_bind ev g o' fun β1 bx1 xs ds H1 l1 g1 r1 o1 => ?_
  split at o1
  · obtain ⟨v, rfl, r⟩ := r1.one
    split at o1
    · rename_i ds hd
      obtain ⟨a, ys, rfl, s, ra⟩ := r.vs g1 hd
      exact ⟨a, ys, rfl, s, fun p hp => o1 _ _ (.cell hp) (g1.cell hp ra) _ (.cell g1.ln)⟩
    · exact o1.elim
  · exact o1.elim
theorem ssd_frz (i : Nat) (h : SSD X P E ss S) : SSD X P E ss (sSeq (sFrz i) S) := by
  refine pss_imp h ?_
  rintro Z σ H ⟨β, δ, bx, ev, g, o⟩
  unfold sSeq sFrz at o
  split at o
  · rename_i o'
    split at o'
    · rename_i k hk
      split at o'
      · rename_i l hl
        cases o'
        obtain ⟨v, h1, h2⟩ := ev.at_ i _ hk
        obtain ⟨a, xs, rfl, h3, h4, h5⟩ := h2.live g hl
        refine ⟨β.frz k a, _, _, ?_, g.frz h3, OutS.le (.frz h3) o⟩
        have e2 : Ev X.K (β.frz k a) H σ δ := ev.le (.frz h3)
        have e3 := e2.set i (.lst ⟨.inl h4, frz_ok g h3⟩ (h5.le (.frz h3)))
        have e4 : σ.set i (some (V.ref a)) = σ := by
          refine List.ext_getElem? fun j => ?_
          by_cases z : i = j
          · subst z
            rw [List.getElem?_set_self (List.getElem?_eq_some_iff.mp h1).1, h1]
          · rw [List.getElem?_set_ne z]
        rw [e4] at e3
        exact e3
      · cases o'
    · cases o'
  all_goals first
    | exact o.elim
    | (rename_i o'; split at o' <;> first | (split at o' <;> cases o') | cases o')
theorem sd_app {apos cpos : Pos} (ha : ED X P E a F) (hb : ED X P E b G)
    (hbase : attributeBase a "append" X.env (eval a X.env) = eval a X.env := by rfl)
    (hfew : ((backTo cpos (starEach [b] X.env)).all (fun x => !x.1) && (backToKw cpos (keywordEach [] X.env)).all (fun x => x.1.isSome)
      && decide ([b].length + ([] : List Keyword).length + (if ([] : List Keyword).isEmpty then 0 else 1) < 30)) = true := by rfl)
    (hline : (apos.endLine == cpos.line) = true := by rfl) (hs : starEach [b] X.env = (false, eval b X.env) :: starEach [] X.env := by rfl) (hplain : (backTo cpos (starEach [] X.env)).any (·.1) = false := by rfl)
    (hsw : swapsWith (.Call (.Attribute a "append" apos) [b] [] cpos) none pos.line X.env = pure false := by rfl) :
    SD X P E (.Expr (.Call (.Attribute a "append" apos) [b] [] cpos) pos) (sApp F G) := by
  refine ps_imp (ps_expr (pe_bm PySem.F.plainAttrs_list PySem.F.slot_list_append PySem.F.type_list_append mt_append ha (ea_cons hb ea_nil hs) hbase hfew hline hs hplain) hsw) ?_
  rintro Z σ H ⟨β, δ, bx, ev, g, o⟩
  refine sd_bind ev g o fun β1 bx1 x d H1 l1 g1 r1 o1 => ?_
  cases d with
  | ref k =>
    dsimp only at o1
    split at o1
    · rename_i l0 hl0
      obtain ⟨a, xs, rfl, _, h4, _⟩ := r1.live g1 hl0
      refine ⟨.inl ⟨rfl, xs, SqL.of h4⟩, ?_⟩
      rw [← sOf_cons] at o1
      refine sa_bind (ev.le l1) g1 o1 fun β2 bx2 ys ds H2 l2 g2 r2 o3 => ?_
      split at o3
      · obtain ⟨y, rfl, ry⟩ := r2.one
        unfold appK at o3
        split at o3
        · rename_i l hl
          split at o3
          · rename_i hlen
            obtain ⟨a', xs', e, h5, h6, h7⟩ := (r1.le l2).live g2 hl
            cases e
            refine ⟨a, xs', y, rfl, rfl, h6, ?_, o3 β2 _ _ (.put h5 h6) (g2.put h5 h6 (h7.append (.cons ry .nil))) (((ev.le l1).le l2).upd fun z => z.1 (List.mem_of_getElem? h5))⟩
            rw [h7.length]
            rw [sizeLine_eq]
            omega
          · exact o3.elim
        · exact o3.elim
      · exact o3.elim
    · exact o1.elim
  | non => exact o1.elim
  | bl _ => exact o1.elim
  | int _ => exact o1.elim
  | str _ => exact o1.elim
  | lst _ => exact o1.elim
  | tup _ => exact o1.elim
  | fn _ => exact o1.elim
  | scr _ => exact o1.elim
theorem sd_put {e o i : Expr} {p3 : Pos} (he : ED X P E e F) (ho : ED X P E o G) (hi : ED X P E i J)
    (hs : swapsWithSole [.Subscript o i p3] e pos.line X.env = pure false := by rfl) (hw : swappedStores [.Subscript o i p3] e X.env = pure none := by rfl)
    (h1 : (assignEach [.Subscript o i p3] X.env).map (·.2) = [assign (.Subscript o i p3) X.env] := by rfl)
    (ha : ∀ v, assign (.Subscript o i p3) X.env v = (do
      let ov ← holding [v] (eval o X.env)
      let iv ← holding [v, ov] (eval i X.env)
      standAt p3
      holding [v, ov, iv] (setItem ov iv v)
      release [v, ov, iv] []) := by intro _; rfl) :
    SD X P E (.Assign [.Subscript o i p3] e pos) (sPut F G J) := by
  refine ps_imp (ps_asg he (pg_sub ho hi set_list ha) hs hw h1) ?_
  rintro Z σ H ⟨β, δ, bx, ev, g, o⟩
  refine sd_bind ev g o fun β1 bx1 v d1 H1 l1 g1 r1 o1 => ?_
  refine sd_bind (ev.le l1) g1 o1 fun β2 bx2 x d H2 l2 g2 r2 o2 => ?_
  refine sd_bind ((ev.le l1).le l2) g2 o2 fun β3 bx3 y d3 H3 l3 g3 r3 o3 => ?_
  split at o3
  · rename_i k i'
    split at o3
    · rename_i l hl
      split at o3
      · rename_i j hj
        obtain ⟨a, xs, e, h5, h6, h7⟩ := (r2.le l3).live g3 hl
        subst e
        exact ⟨a, xs, i', j, rfl, r3.int_inv, h6, by rw [h7.length]; exact hj, o3 β3 _ _ (.put h5 h6) (g3.put h5 h6 (RA.set ((r1.le l2).le l3) j h7)) ((((ev.le l1).le l2).le l3).upd fun z => z.1 (List.mem_of_getElem? h5))⟩
      · exact o3.elim
    · exact o3.elim
  · exact o3.elim
end
end Ms

end
section
set_option Elab.async false
set_option linter.all false
set_option maxRecDepth 100000
set_option maxHeartbeats 4000000
namespace Ms
open PySem PySem.Spec PyProof.Rows L2 RZ
/-! ### what is walked: data one behind another -/
structure Wk (K : PySem.W.Frag) (T : List (Addr × Str)) (β0 : Mu) (H0 : Hp) (J : It) (ds : List D) : Prop where
  goes : ∀ (i : Nat) (β : Mu) (st : Sto) (H : Hp), i < ds.length → Le β0 H0 β H → Good K T β st H → J.go i H
  yields : ∀ (i : Nat) (d : D) (β : Mu) (st : Sto) (H : Hp) (x : V) (H' : Hp), ds[i]? = some d → Le β0 H0 β H → Good K T β st H → J.yld i H x H' → (∀ b o, H b = some o → H' b = some o) ∧ R K β H' x d
  stops : ∀ (β : Mu) (st : Sto) (H : Hp), Le β0 H0 β H → Good K T β st H → J.stop ds.length H
def tDL (K : PySem.W.Frag) (P : Pm) (E : XK) (F : Fn (List D)) : TI := fun σ H Rr => ∃ β δ bx, Ev K β H σ δ ∧ Good K P.T β bx H ∧ OutX P K β H (F δ bx) E fun ds β' bx' H1 => Good K P.T β' bx' H1 → ∀ J, Wk K P.T β' H1 J ds → Rr J H1
theorem pi_imp {X : Cx} {tg it : Expr} {t t' : TI} (h : PI X tg it t) (k : ∀ σ H Q, t' σ H Q → t σ H Q) : PI X tg it t' := ⟨fun pins s σ H Q I q => h.run pins s σ H Q I (k σ H Q q)⟩
abbrev EI (X : Cx) (P : Pm) (E : XK) (tg it : Expr) (F : Fn (List D)) : Prop := PI X tg it (tDL X.K P E F)
def rgl (lo : Int) (n : Nat) : List D := (List.range n).map fun (i : Nat) => D.int (lo + i)
theorem rgl_get {lo : Int} {n i : Nat} {d : D} (h : (rgl lo n)[i]? = some d) : d = .int (lo + i) := by
  unfold rgl at h
  rw [List.getElem?_map] at h
  cases hr : (List.range n)[i]? with
  | none => rw [hr] at h; cases h
  | some j =>
    rw [hr] at h
    cases h
    obtain ⟨h1, h2⟩ := List.getElem?_eq_some_iff.mp hr
    rw [List.getElem_range] at h2
    rw [h2]
theorem rgl_len {lo : Int} {n : Nat} : (rgl lo n).length = n := by unfold rgl; rw [List.length_map, List.length_range]
section
variable {K : PySem.W.Frag} {T : List (Addr × Str)} {β : Mu} {H : Hp}
theorem wk_range (lo : Int) (n : Nat) : Wk K T β H (Itr lo n) (rgl lo n) := ⟨fun i β st H hi _ _ => by rw [rgl_len] at hi; exact hi, fun i d β st H x H' hd _ _ y => by
    obtain ⟨rfl, rfl⟩ := y
    rw [rgl_get hd]
    exact ⟨fun _ _ h => h, .int _⟩, fun β st H _ _ => by rw [rgl_len]; exact Nat.le_refl _⟩
theorem wk_list {a : Addr} {xs : List V} {ds : List D} (s : SL β H a xs) (ra : RA K β H xs ds) : Wk K T β H (Itl K a) ds := ⟨fun i β' st H' hi l _ => ⟨xs, xs[i]'(by rw [ra.length]; exact hi), (s.le l).sq, by simp⟩, fun i d β' st H' x H2 hd l g y => by
    obtain ⟨rfl, h⟩ := y
    obtain ⟨v, h1, h2⟩ := ra.get hd
    have := h xs (s.le l).sq
    rw [h1] at this
    cases this
    exact ⟨fun _ _ h => h, h2.le l⟩, fun β' st H' l _ => ⟨xs, (s.le l).sq, by rw [ra.length]; exact Nat.le_refl _⟩⟩
theorem wk_scr {a : Addr} {ns : List Int} (s : SS K β H a (ns.map V.int)) : Wk K T β H (Itl K a) (ns.map D.int) := ⟨fun i β' st H' hi l _ => ⟨ns.map V.int, (ns.map V.int)[i]'(by rw [List.length_map] at hi ⊢; exact hi), (s.le l).sq, by simp⟩, fun i d β' st H' x H2 hd l g y => by
    obtain ⟨rfl, h⟩ := y
    obtain ⟨v, h1, h2⟩ := (RA.ints (K := K) (β := β') (H := H2) ns).get hd
    have := h _ (s.le l).sq
    rw [h1] at this
    cases this
    exact ⟨fun _ _ h => h, h2⟩, fun β' st H' l _ => ⟨_, (s.le l).sq, by rw [List.length_map, List.length_map]; exact Nat.le_refl _⟩⟩
theorem wk_tup {a : Addr} {xs : List V} {ds : List D} (s : ST β H a xs) (ra : RA K β H xs ds) : Wk K T β H (Itt K a) ds := ⟨fun i β' st H' hi l _ => ⟨xs, xs[i]'(by rw [ra.length]; exact hi), (s.le l).sq, by simp⟩, fun i d β' st H' x H2 hd l g y => by
    obtain ⟨rfl, h⟩ := y
    obtain ⟨v, h1, h2⟩ := ra.get hd
    have := h xs (s.le l).sq
    rw [h1] at this
    cases this
    exact ⟨fun _ _ h => h, h2.le l⟩, fun β' st H' l _ => ⟨xs, (s.le l).sq, by rw [ra.length]; exact Nat.le_refl _⟩⟩
def signs (x : Str) : List D := x.cps.toList.map fun c => D.str ⟨#[c]⟩
theorem wk_str {x : Str} : Wk K T β H (Its x) (signs x) := ⟨fun i β st H hi _ _ => by simpa [signs, Its] using hi, fun i d β st H v H' hd _ _ y => by
    obtain ⟨rfl, c, hc, rfl⟩ := y
    unfold signs at hd
    rw [List.getElem?_map, Array.getElem?_toList, hc] at hd
    cases hd
    exact ⟨fun _ _ h => h, .str _⟩, fun β st H _ _ => by simp [signs, Its]⟩
def zipD : List D → List D → List D
  | x :: r, y :: t => .tup [x, y] :: zipD r t
  | _, _ => []
theorem zip_get : ∀ {ds es : List D} {i : Nat} {z : D}, (zipD ds es)[i]? = some z → ∃ x y, z = .tup [x, y] ∧ ds[i]? = some x ∧ es[i]? = some y
  | x :: r, y :: t, 0, z, h => by cases h; exact ⟨x, y, rfl, rfl, rfl⟩
  | x :: r, y :: t, i + 1, z, h => by
    obtain ⟨u, v, h1, h2, h3⟩ := zip_get (ds := r) (es := t) (i := i) h
    exact ⟨u, v, h1, h2, h3⟩
  | [], _, _, _, h => by simp [zipD] at h
  | _ :: _, [], _, _, h => by simp [zipD] at h
theorem zip_len : ∀ {ds es : List D}, (zipD ds es).length = min ds.length es.length
  | [], es => by simp [zipD]
  | _ :: _, [] => by simp [zipD]
  | x :: r, y :: t => by
    simp only [zipD, List.length_cons]
    rw [zip_len (ds := r) (es := t)]
    omega
theorem wk_zipL {a b : Addr} {xs ys : List V} {ds es : List D} (s : SL β H a xs) (s2 : SL β H b ys) (ra : RA K β H xs ds) (rb : RA K β H ys es) : Wk K T β H (Itz K a b) (zipD ds es) := ⟨fun i β' st H' hi l _ => by
    rw [zip_len] at hi
    exact ⟨xs, ys, xs[i]'(by rw [ra.length]; omega), ys[i]'(by rw [rb.length]; omega), (s.le l).sq, (s2.le l).sq, by simp, by simp⟩, fun i d β' st H' v H2 hd l g y => by
    obtain ⟨Tt, x, y, rfl, hT, rfl, h1, h2⟩ := y
    obtain ⟨p, q, rfl, h3, h4⟩ := zip_get hd
    obtain ⟨x', e1, r1⟩ := ra.get h3
    obtain ⟨y', e2, r2⟩ := rb.get h4
    have z1 := h1 xs (s.le l).sq
    have z2 := h2 ys (s2.le l).sq
    rw [e1] at z1
    rw [e2] at z2
    cases z1
    cases z2
    exact ⟨keep_new hT, .tup ⟨.inl upd_same, g.ne hT⟩ (.cons ((r1.le l).le (.new hT)) (.cons ((r2.le l).le (.new hT)) .nil))⟩, fun β' st H' l _ => by
    refine ⟨xs, ys, (s.le l).sq, (s2.le l).sq, ?_⟩
    rw [zip_len, ra.length, rb.length]
    omega⟩
theorem wk_zipT {a b : Addr} {xs ys : List V} {ds es : List D} (s : ST β H a xs) (s2 : ST β H b ys) (ra : RA K β H xs ds) (rb : RA K β H ys es) : Wk K T β H (ItzT K a b) (zipD ds es) := ⟨fun i β' st H' hi l _ => by
    rw [zip_len] at hi
    exact ⟨xs, ys, xs[i]'(by rw [ra.length]; omega), ys[i]'(by rw [rb.length]; omega), (s.le l).sq, (s2.le l).sq, by simp, by simp⟩, fun i d β' st H' v H2 hd l g y => by
    obtain ⟨Tt, x, y, rfl, hT, rfl, h1, h2⟩ := y
    obtain ⟨p, q, rfl, h3, h4⟩ := zip_get hd
    obtain ⟨x', e1, r1⟩ := ra.get h3
    obtain ⟨y', e2, r2⟩ := rb.get h4
    have z1 := h1 xs (s.le l).sq
    have z2 := h2 ys (s2.le l).sq
    rw [e1] at z1
    rw [e2] at z2
    cases z1
    cases z2
    exact ⟨keep_new hT, .tup ⟨.inl upd_same, g.ne hT⟩ (.cons ((r1.le l).le (.new hT)) (.cons ((r2.le l).le (.new hT)) .nil))⟩, fun β' st H' l _ => by
    refine ⟨xs, ys, (s.le l).sq, (s2.le l).sq, ?_⟩
    rw [zip_len, ra.length, rb.length]
    omega⟩
def enumD : Nat → List D → List D
  | _, [] => []
  | i, x :: r => .tup [.int (i : Nat), x] :: enumD (i + 1) r
theorem enum_get : ∀ {k : Nat} {ds : List D} {i : Nat} {z : D}, (enumD k ds)[i]? = some z → ∃ x, z = .tup [.int ((k + i : Nat) : Int), x] ∧ ds[i]? = some x
  | k, x :: r, 0, z, h => by cases h; exact ⟨x, rfl, rfl⟩
  | k, x :: r, i + 1, z, h => by
    obtain ⟨u, h1, h2⟩ := enum_get (k := k + 1) (ds := r) (i := i) h
    exact ⟨u, by rw [h1]; have : k + 1 + i = k + (i + 1) := by omega
                 rw [this], h2⟩
  | _, [], _, _, h => by simp [enumD] at h
theorem enum_len : ∀ {k : Nat} {ds : List D}, (enumD k ds).length = ds.length
  | _, [] => rfl
  | k, x :: r => by simp only [enumD, List.length_cons]; rw [enum_len (k := k + 1) (ds := r)]
theorem wk_enumL {a : Addr} {xs : List V} {ds : List D} (s : SL β H a xs) (ra : RA K β H xs ds) : Wk K T β H (Ite K a) (enumD 0 ds) := ⟨fun i β' st H' hi l _ => by
    rw [enum_len] at hi
    exact ⟨xs, xs[i]'(by rw [ra.length]; omega), (s.le l).sq, by simp⟩, fun i d β' st H' v H2 hd l g y => by
    obtain ⟨Tt, x, rfl, hT, rfl, h1⟩ := y
    obtain ⟨p, rfl, h3⟩ := enum_get hd
    obtain ⟨x', e1, r1⟩ := ra.get h3
    have z1 := h1 xs (s.le l).sq
    rw [e1] at z1
    cases z1
    rw [Nat.zero_add]
    exact ⟨keep_new hT, .tup ⟨.inl upd_same, g.ne hT⟩ (.cons (.int _) (.cons ((r1.le l).le (.new hT)) .nil))⟩, fun β' st H' l _ => ⟨xs, (s.le l).sq, by rw [enum_len, ra.length]; exact Nat.le_refl _⟩⟩
end
/-- a list, a tuple, a text -/
def iAny (K : PySem.W.Frag) (tl : TE) : TI := fun σ H Rr => tl σ H fun x H1 => (∃ a, x = .ref a ∧ (∃ xs, SqL K H1 a xs) ∧ Rr (Itl K a) H1) ∨ (∃ a, x = .ref a ∧ (∃ xs, SqT K H1 a xs) ∧ Rr (Itt K a) H1) ∨ (∃ w, x = .str w ∧ Rr (Its w) H1)
theorem pi_any {X : Cx} {tg l : Expr} {tl : TE} (hl : PE X l tl) : PI X tg l (iAny X.K tl) := by
  refine ⟨fun pins s σ H Rr I h => ?_⟩
  refine thn (hl.run pins s σ H _ I h) fun v s1 ⟨x, H1, I1, r1, q1⟩ => ?_
  rcases q1 with ⟨a, e, ⟨xs, hq⟩, q⟩ | ⟨a, e, ⟨xs, hq⟩, q⟩ | ⟨w, e, q⟩
  · subst e
    cases r1
    obtain ⟨its, rv, p, hz⟩ := I1.list hq
    refine wpAny_pyIter_list p.isList ?_
    refine ⟨s1.heap.objs.size, [s1.heap.objs.size], _, _, H1, rfl, I1.kept (t' := s1.toks) fun b o e => Heap.get?_push_of_some _ e, turn_list a _, ⟨_, Heap.get?_push_size _ rfl, rfl, rfl⟩, fun b hb => ?_, q⟩
    have e : b = s1.heap.objs.size := by simpa using hb
    subst e
    exact I1.fpOk (Nat.le_refl _) (I1.hok.fresh (Nat.le_refl _))
  · subst e
    cases r1
    obtain ⟨its, rv, p, hz⟩ := I1.tuple hq
    refine wpAny_pyIter_tuple (show s1.heap.IsTuple a its.toArray from p) ?_
    refine ⟨s1.heap.objs.size, [s1.heap.objs.size], _, _, H1, rfl, I1.kept (t' := s1.toks) fun b o e => Heap.get?_push_of_some _ e, turn_tuple a _, ⟨_, Heap.get?_push_size _ rfl, rfl, rfl⟩, fun b hb => ?_, q⟩
    have e : b = s1.heap.objs.size := by simpa using hb
    subst e
    exact I1.fpOk (Nat.le_refl _) (I1.hok.fresh (Nat.le_refl _))
  · subst e
    obtain ⟨t, rfl⟩ := r1
    cases ha : w.cps.all (· < 128)
    · exact wpAny_pyIter_wide ha (pi_one (tk := s1.toks) I1 _ (turn_str _ w t "str_iterator" (.inr rfl)) ⟨_, Heap.get?_push_size _ rfl, rfl, rfl⟩ q)
    · exact wpAny_pyIter_ascii ha (pi_one (tk := s1.toks) I1 _ (turn_str _ w t "str_ascii_iterator" (.inl rfl)) ⟨_, Heap.get?_push_size _ rfl, rfl, rfl⟩ q)
def wlk : D → Option (List D)
  | .lst l => some l
  | .tup l => some l
  | .scr l => some (l.map D.int)
  | .str x => some (signs x)
  | _ => none
def fWk (F : Fn D) : Fn (List D) := bnd F fun d => lft (wlk d)
def fRg1 (A : Fn (List D)) : Fn (List D) := bnd A fun ds => fun _ bx => match ds with
  | [.int j] => if -(2 ^ 62) ≤ j ∧ j < 2 ^ 62 then .ok (rgl 0 j.toNat) bx else .bad
  | _ => .bad
def fRg2 (A : Fn (List D)) : Fn (List D) := bnd A fun ds => fun _ bx => match ds with
  | [.int i, .int j] => if -(2 ^ 62) ≤ i ∧ i < 2 ^ 62 ∧ -(2 ^ 62) ≤ j ∧ j < 2 ^ 62 then .ok (rgl i (j - i).toNat) bx else .bad
  | _ => .bad
def fZip (A : Fn (List D)) : Fn (List D) := bnd A fun ds => fun _ bx => match ds with
  | [.lst l, .lst m] => .ok (zipD l m) bx
  | [.tup l, .tup m] => .ok (zipD l m) bx
  | _ => .bad
def fEnum (A : Fn (List D)) : Fn (List D) := bnd A fun ds => fun _ bx => match ds with
  | [.lst l] => .ok (enumD 0 l) bx
  | _ => .bad
section
variable {X : Cx} {P : Pm} {E : XK} {pos : Pos} {tg a b : Expr} {A : Fn (List D)} {F : Fn D}
theorem ei_any (ha : ED X P E a F) : EI X P E tg a (fWk F) := by
  refine pi_imp (pi_any ha) ?_
  rintro σ H Q ⟨β, δ, bx, ev, g, o⟩
  refine d_bind ev g o fun β1 bx1 x d H1 l1 g1 r1 o1 => ?_
  obtain ⟨ds, hd, k⟩ := OutX.lft' o1
  have q := k β1 H1 .refl g1 g1
  cases r1 with
  | lst s ra => cases hd; exact .inl ⟨_, rfl, ⟨_, s.sq⟩, q _ (wk_list s ra)⟩
  | tup s ra => cases hd; exact .inr (.inl ⟨_, rfl, ⟨_, s.sq⟩, q _ (wk_tup s ra)⟩)
  | scr s => cases hd; exact .inl ⟨_, rfl, ⟨_, s.sq⟩, q _ (wk_scr s)⟩
  | str x => cases hd; exact .inr (.inr ⟨_, rfl, q _ wk_str⟩)
  | non => cases hd
  | bl _ => cases hd
  | int _ => cases hd
  | ref _ => cases hd
  | fn _ _ => cases hd
theorem ei_rg1 {p : Pos} (hg : Gl X "range") (hm : X.mg "range" = none) (ha : EA X P E [a] A) (hs : starEach [a] X.env = [(false, eval a X.env)] := by rfl) : EI X P E tg (.Call (.Name "range" p) [a] [] pos) (fRg1 A) := by
  refine pi_imp (pi_range1 hg hm ha hs) ?_
  rintro σ H Q ⟨β, δ, bx, ev, g, o⟩
  refine a_bind ev g o fun β1 bx1 xs ds H1 l1 g1 r1 o1 => ?_
  split at o1
  · split at o1
    · rename_i j hj
      obtain ⟨v, rfl, r⟩ := r1.one
      exact ⟨j, by rw [r.int_inv], hj.1, hj.2, o1 β1 H1 .refl g1 g1 _ (wk_range _ _)⟩
    · exact o1.elim
  · exact o1.elim
theorem ei_rg2 {p : Pos} (hg : Gl X "range") (hm : X.mg "range" = none) (ha : EA X P E [a, b] A) (hs : starEach [a, b] X.env = [(false, eval a X.env), (false, eval b X.env)] := by rfl) (hs2 : starEach [b] X.env = [(false, eval b X.env)] := by rfl) : EI X P E tg (.Call (.Name "range" p) [a, b] [] pos) (fRg2 A) := by
  refine pi_imp (pi_range2 hg hm ha hs hs2) ?_
  rintro σ H Q ⟨β, δ, bx, ev, g, o⟩
  refine a_bind ev g o fun β1 bx1 xs ds H1 l1 g1 r1 o1 => ?_
  split at o1
  · split at o1
    · rename_i i j hj
      obtain ⟨v, w, rfl, r, r'⟩ := r1.two
      exact ⟨i, j, by rw [r.int_inv, r'.int_inv], hj, o1 β1 H1 .refl g1 g1 _ (wk_range _ _)⟩
    · exact o1.elim
  · exact o1.elim
theorem ei_zip {p tpos : Pos} {elts : List Expr} {kk : Nat} (hg : Gl X "zip") (hm : X.mg "zip" = none) (ha : EA X P E [a, b] A)
    (hs : starEach [a, b] X.env = (false, eval a X.env) :: starEach [b] X.env := by rfl) (hpl : (backTo pos (starEach [b] X.env)).any (·.1) = false := by rfl) : EI X P E (.Tuple elts kk tpos) (.Call (.Name "zip" p) [a, b] [] pos) (fZip A) := by
  refine pi_imp (pi_zipA hg hm ha hs hpl) ?_
  rintro σ H Q ⟨β, δ, bx, ev, g, o⟩
  refine a_bind ev g o fun β1 bx1 xs ds H1 l1 g1 r1 o1 => ?_
  split at o1
  · obtain ⟨v, w, rfl, r, r'⟩ := r1.two
    have q := o1 β1 H1 .refl g1 g1
    cases r with
    | lst s ra => cases r' with
      | lst s2 rb => exact ⟨_, _, _, _, rfl, .inl ⟨s.sq, s2.sq, q _ (wk_zipL s s2 ra rb)⟩⟩
  · obtain ⟨v, w, rfl, r, r'⟩ := r1.two
    have q := o1 β1 H1 .refl g1 g1
    cases r with
    | tup s ra => cases r' with
      | tup s2 rb => exact ⟨_, _, _, _, rfl, .inr ⟨s.sq, s2.sq, q _ (wk_zipT s s2 ra rb)⟩⟩
  · exact o1.elim
theorem ei_enum {p tpos : Pos} {elts : List Expr} {kk : Nat} (hg : Gl X "enumerate") (hm : X.mg "enumerate" = none) (ha : EA X P E [a] A) (hs : starEach [a] X.env = [(false, eval a X.env)] := by rfl) : EI X P E (.Tuple elts kk tpos) (.Call (.Name "enumerate" p) [a] [] pos) (fEnum A) := by
  refine pi_imp (pi_enum hg hm ha hs) ?_
  rintro σ H Q ⟨β, δ, bx, ev, g, o⟩
  refine a_bind ev g o fun β1 bx1 xs ds H1 l1 g1 r1 o1 => ?_
  split at o1
  · obtain ⟨v, rfl, r⟩ := r1.one
    have q := o1 β1 H1 .refl g1 g1
    cases r with
    | lst s ra => exact ⟨_, _, rfl, s.sq, q _ (wk_enumL s ra)⟩
  · exact o1.elim
end
/-! ### what a turn binds -/
abbrev Bd := Sto → List (Option D) → D → Option (List (Option D))
def bOne (i : Nat) : Bd := fun _ δ d => some (δ.set i (some d))
def bTup (is : List Nat) : Bd := fun bx δ d => (vs bx d).bind fun l => setAll is l δ
/-- the target t binds the slots is, by b -/
def GD (K : PySem.W.Frag) (t : TG) (is : List Nat) (b : Bd) : Prop := ∀ (T : List (Addr × Str)) (β : Mu) (st : Sto) (δ δ' : List (Option D)) (σ : L2.St) (H : Hp) (v : V) (d : D) (Q : L2.St → Hp → Prop), Ev K β H σ δ → Good K T β st H → R K β H v d → b st δ d = some δ' →
  (∀ σ', Ev K β H σ' δ' → (∀ vs, (∀ i ∈ is, i ∈ vs) → wipe σ' vs = wipe σ vs) → Q σ' H) → t v σ H Q
theorem wipe_get (σ : L2.St) : ∀ (vs : List Nat) (j : Nat), (wipe σ vs)[j]? = if j ∈ vs ∧ j < σ.length then some none else σ[j]?
  | [], j => by simp [wipe]
  | v :: vs, j => by
    show ((wipe σ vs).set v none)[j]? = _
    by_cases h : v = j
    · subst h
      by_cases hl : v < σ.length
      · rw [List.getElem?_set_self (by rw [wipe_length]; exact hl), if_pos ⟨List.mem_cons_self, hl⟩]
      · rw [List.getElem?_eq_none (by rw [List.length_set, wipe_length]; omega), if_neg (fun z => hl z.2), List.getElem?_eq_none (by omega)]
    · rw [List.getElem?_set_ne h, wipe_get σ vs j]
      by_cases hj : j ∈ vs ∧ j < σ.length
      · rw [if_pos hj, if_pos ⟨List.mem_cons_of_mem _ hj.1, hj.2⟩]
      · rw [if_neg hj, if_neg (fun z => hj ⟨(List.mem_cons.mp z.1).resolve_left (Ne.symm h), z.2⟩)]
theorem wipe_set {σ : L2.St} {i : Nat} {o : Option V} {vs : List Nat} (h : i ∈ vs) : wipe (σ.set i o) vs = wipe σ vs := by
  refine List.ext_getElem? fun j => ?_
  rw [wipe_get, wipe_get, List.length_set]
  by_cases hj : j ∈ vs ∧ j < σ.length
  · rw [if_pos hj, if_pos hj]
  · rw [if_neg hj, if_neg hj]
    by_cases e : i = j
    · subst e
      have : ¬ i < σ.length := fun z => hj ⟨h, z⟩
      rw [List.getElem?_eq_none (by rw [List.length_set]; omega), List.getElem?_eq_none (by omega)]
    · rw [List.getElem?_set_ne e]
theorem gd_one {K : PySem.W.Frag} (i : Nat) : GD K (gName i) [i] (bOne i) := fun T β st δ δ' σ H v d Q ev g r hb k => by
  cases hb
  exact k _ (ev.set i r) fun vs h => wipe_set (h i List.mem_cons_self)
theorem tNames_ofW {K : PySem.W.Frag} {β : Mu} {H : Hp} {Z : L2.St → Hp → Prop} : ∀ {is : List Nat} {ds : List D} {δ δ' : List (Option D)} {vs : List V} {σ : L2.St}, setAll is ds δ = some δ' → RA K β H vs ds → Ev K β H σ δ → (∀ σ', Ev K β H σ' δ' → (∀ ws, (∀ i ∈ is, i ∈ ws) → wipe σ' ws = wipe σ ws) → Z σ' H) → tNames is vs σ H Z
  | [], [], δ, δ', vs, σ, h, r, ev, k => by
    cases r
    cases h
    exact ⟨rfl, k σ ev fun _ _ => rfl⟩
  | [], _ :: _, _, _, _, _, h, _, _, _ => by cases h
  | _ :: _, [], _, _, _, _, h, _, _, _ => by cases h
  | i :: is, d :: ds, δ, δ', _, σ, h, .cons (v := v) (vs := vs) r ra, ev, k => ⟨v, vs, rfl, tNames_ofW (is := is) h ra (ev.set i r) fun σ' ev' hw => k σ' ev' fun ws hm => (hw ws fun j hj => hm j (List.mem_cons_of_mem _ hj)).trans (wipe_set (hm i List.mem_cons_self))⟩
abbrev gTL (K : PySem.W.Frag) (n : Nat) (is : List Nat) : TG := fun v σ H Q => gTup K n (tNames is) v σ H Q ∨ gLst K n (tNames is) v σ H Q
theorem gd_tup {K : PySem.W.Frag} (is : List Nat) {n : Nat} (hn : is.length = n) : GD K (gTL K n is) is (bTup is) := fun T β st δ δ' σ H v d Q ev g r hb k => by
  unfold bTup at hb
  cases hl : vs st d with
  | none => rw [hl] at hb; cases hb
  | some l =>
    rw [hl] at hb
    replace hb : setAll is l δ = some δ' := hb
    obtain ⟨a, xs, rfl, s, ra⟩ := r.vs g hl
    rcases s with s | s
    · exact .inr ⟨_, _, rfl, s, by rw [ra.length, ← hn]; exact setAll_len hb, tNames_ofW hb ra ev k⟩
    · exact .inl ⟨_, _, rfl, s, by rw [ra.length, ← hn]; exact setAll_len hb, tNames_ofW hb ra ev k⟩
theorem pg_tl {X : Cx} {is : List Nat} {kk : Nat} {p : Pos} {tgs : List Expr} {n : Nat} (hc : X.calm = true) (ht : PGs X tgs (tNames is)) (hn : (assignEach tgs X.env).length = n := by rfl) (hst : (assignEach tgs X.env).findIdx? (·.1) = none := by rfl) : PG X (.Tuple tgs kk p) (gTL X.K n is) :=
  pg_or (pg_tup hc ht hn hst) (pg_lst hc ht hn hst)
/-! ### for -/
def forL (b : Bd) (S : Sn) : List D → Sn
  | [], δ, bx => .nx δ bx
  | d :: r, δ, bx => match b bx δ d with
    | none => .bad
    | some δ1 => match S δ1 bx with
      | .nx δ' bx' => forL b S r δ' bx'
      | .rt e bx' => .rt e bx'
      | .er c e bx' => .er c e bx'
      | .bad => .bad
def sFor (b : Bd) (F : Fn (List D)) (S : Sn) : Sn := sOf F fun ds => forL b S ds
section
variable {X : Cx} {P : Pm} {E : XK} {pos : Pos}
theorem sd_for {t : TG} {is : List Nat} {b : Bd} {tg it : Expr} {body : List Stmt} {F : Fn (List D)} {S : Sn} (hp : PassesOwn (model X.prog X.w) X.A X.env X.xe) (hc : X.calm = true) (hi : EI X P E tg it F) (hg : PG X tg t) (hgd : GD X.K t is b) (hb : SSD X P E body S)
    (hs : ∀ x, foldedSetIterable it X.env x = pure x := by intro _; rfl) : SD X P E (.For tg it body [] pos) (sFor b F S) := by
  refine ps_imp (ps_for hp hc hi hg hb hs) ?_
  rintro Z σ H ⟨β, δ, bx, ev, g, o⟩
  refine ⟨β, δ, bx, ev, g, ?_⟩
  unfold sFor sOf at o
  cases hF : F δ bx with
  | bad =>
    rw [hF] at o
    exact o
  | err c d bx' =>
    rw [hF] at o
    exact o
  | ok ds bx1 =>
    rw [hF] at o
    intro β1 H1 l1 g1 _ J wk
    refine ⟨fun i m σ' H' => m = ds.length - i ∧ i ≤ ds.length ∧ ∃ β' δ' bx', Le β1 H1 β' H' ∧ Ev X.K β' H' σ' δ' ∧ Good X.K P.T β' bx' H' ∧ OutS X.K P β1 H1 (forL b S (ds.drop i) δ' bx') Z E, ⟨ds.length, rfl, Nat.zero_le _, β1, δ, bx1, .refl, ev.le l1, g1, OutS.le l1 (by simpa using o)⟩, ?_⟩
    rintro i m σ' H' ⟨rfl, hi, β', δ', bx', l, ev', g', o'⟩
    by_cases hlt : i < ds.length
    · refine .inr ⟨wk.goes i β' bx' H' hlt l g', fun σ2 H2 => ∃ β2 δ2 bx2, Le β1 H1 β2 H2 ∧ Ev X.K β2 H2 σ2 δ2 ∧ Good X.K P.T β2 bx2 H2 ∧ OutS X.K P β1 H1 (forL b S (ds.drop (i + 1)) δ2 bx2) Z E, fun σ2 H2 h => ⟨ds.length - (i + 1), by omega, rfl, hlt, h⟩, fun x H2 y => ?_⟩
      have hdi : ds[i]? = some ds[i] := List.getElem?_eq_getElem hlt
      obtain ⟨kp, rx⟩ := wk.yields i _ β' bx' H' x H2 hdi l g' y
      rw [List.drop_eq_getElem_cons hlt] at o'
      simp only [forL] at o'
      cases hbd : b bx' δ' ds[i] with
      | none =>
        rw [hbd] at o'
        exact o'.elim
      | some δ1 =>
        rw [hbd] at o'
        dsimp only at o'
        refine hgd P.T β' bx' δ' δ1 σ' H2 x _ _ (ev'.le (.of kp)) (g'.ext kp) rx hbd fun σ3 ev3 _ => ?_
        refine ⟨β', δ1, bx', ev3, g'.ext kp, ?_⟩
        have lk := l.trans (.of kp)
        cases hS : S δ1 bx' with
        | nx δ2 bx2 =>
          rw [hS] at o'
          exact fun β2 σ2 H4 l2 g2 ev2 => ⟨β2, δ2, bx2, lk.trans l2, ev2, g2, o'⟩
        | rt e b =>
          rw [hS] at o'
          exact fun β2 v H4 l2 g2 r => o' β2 v H4 (lk.trans l2) g2 r
        | er c e b =>
          rw [hS] at o'
          exact OutE.le lk o'
        | bad =>
          rw [hS] at o'
          exact o'
    · have e : i = ds.length := by omega
      subst e
      rw [List.drop_length] at o'
      exact .inl ⟨wk.stops β' bx' H' l g', o' β' σ' H' l g' ev'⟩
end
/-! ### list comprehensions -/
def unset : List Nat → List (Option D) → List (Option D)
  | [], δ => δ
  | i :: is, δ => (unset is δ).set i none
def lcGo (b : Bd) (δ : List (Option D)) (C : Fn Bool) (F : Fn D) : List D → Sto → List D → Res (List D)
  | [], bx, acc => .ok acc bx
  | d :: r, bx, acc => match b bx δ d with
    | none => .bad
    | some δ1 => match C δ1 bx with
      | .ok true bx1 => (match F δ1 bx1 with
        | .ok d bx2 => lcGo b δ C F r bx2 (acc ++ [d])
        | _ => .bad)
      | .ok false bx1 => lcGo b δ C F r bx1 acc
      | _ => .bad
def fLcA (is : List Nat) (b : Bd) (Fi : Fn (List D)) (C : Fn Bool) (F : Fn D) : Fn (List D) := bnd Fi fun ds => fun δ bx => if ds.length ≤ 1000000 then lcGo b (unset is δ) C F ds bx [] else .bad
def fLc (is : List Nat) (b : Bd) (Fi : Fn (List D)) (C : Fn Bool) (F : Fn D) : Fn D := bnd (fLcA is b Fi C F) fun l => pur (.lst l)
def fLcM (is : List Nat) (b : Bd) (Fi : Fn (List D)) (C : Fn Bool) (F : Fn D) : Fn D := bnd (fLcA is b Fi C F) fun l => fun _ bx => .ok (.ref bx.length) (bx ++ [.lst l])
theorem Ev.unset {K : PySem.W.Frag} {β : Mu} {H : Hp} {σ : L2.St} {δ : List (Option D)} (e : Ev K β H σ δ) : ∀ is : List Nat, Ev K β H (wipe σ is) (Ms.unset is δ)
  | [] => e
  | i :: is => (Ev.unset e is).none_ i
def LcK (K : PySem.W.Frag) (β : Mu) (H : Hp) (Q : VK) : List D → Mu → Sto → Hp → Prop := fun ds βi _ Hi => ∀ p xs, (∀ o, H p = some o → ∃ ps, o = .tbl ps) → p ∈ βi.ex → p ∉ β.ex → Hi p = some (.lst xs) → RA K βi Hi xs ds → Q (.ref p) Hi
theorem wipe_wipe (σ : L2.St) (is : List Nat) : wipe (wipe σ is) is = wipe σ is := by
  refine List.ext_getElem? fun j => ?_
  rw [wipe_get, wipe_length, wipe_get]
  by_cases hj : j ∈ is ∧ j < σ.length
  · rw [if_pos hj, if_pos hj]
  · rw [if_neg hj]
theorem hid_kp {K : PySem.W.Frag} {T : List (Addr × Str)} {β β' : Mu} {st : Sto} {H H' : Hp} {p : Addr} {l : List V} (le : Le β H β' H') (g : Good K T β st H) (hx : p ∈ β.ex) (h : H p = some (.lst l)) : H' p = some (.lst l) := le.kp _ _ h ((g.ex p hx).2 true) fun ps z => by cases z
theorem Le.cellAt {K : PySem.W.Frag} {T : List (Addr × Str)} {β βi : Mu} {st : Sto} {H Hi : Hp} {p : Addr} (l : Le β H βi Hi) (h0 : ∀ o, H p = some o → ∃ ps, o = .tbl ps) (g : Good K T βi st Hi) (hp : p ∈ βi.ex) : Le β H ((βi.back β.ex).cell p) Hi := ⟨fun k a b h => by
    obtain ⟨b', h1, h2⟩ := l.cs k a b h
    exact ⟨b', cell_old h1, h2⟩, fun k a b h n o ho => by
    rcases cell_get h with h | ⟨_, rfl, _⟩
    · exact l.nw k a b h n o ho
    · exact h0 o ho, fun _ h => h, fun e h n => (n h).elim, l.kp, l.dm⟩
theorem cellAt_ok {β βi : Mu} {p a : Addr} (s : ∀ e, e ∈ β.ex → e ∈ βi.ex) (hp : p ∈ βi.ex) (h : βi.ok a) : ((βi.back β.ex).cell p).ok a := by
  refine ⟨fun z => ?_, fun z => h.2 (s a z)⟩
  rcases List.mem_append.mp (show (a, true) ∈ βi.cs ++ [(p, true)] from z) with z | z
  · exact h.1 z
  · cases List.mem_singleton.mp z
    exact h.2 hp
mutual
theorem R.cellAt {K : PySem.W.Frag} {β βi : Mu} {H : Hp} {p : Addr} (s : ∀ e, e ∈ β.ex → e ∈ βi.ex) (hp : p ∈ βi.ex) : ∀ {v : V} {d : D}, R K βi H v d → R K ((βi.back β.ex).cell p) H v d
  | _, _, .non => .non
  | _, _, .bl b => .bl b
  | _, _, .int i => .int i
  | _, _, .str x => .str x
  | _, _, .lst h r => .lst ⟨h.1, cellAt_ok s hp h.2⟩ (RA.cellAt s hp r)
  | _, _, .tup h r => .tup ⟨h.1, cellAt_ok s hp h.2⟩ (RA.cellAt s hp r)
  | _, _, .ref h => .ref (cell_old h)
  | _, _, .fn h k => .fn h k
  | _, _, .scr h => .scr (h.imp (fun h => ⟨h.1, cellAt_ok s hp h.2⟩) id)
theorem RA.cellAt {K : PySem.W.Frag} {β βi : Mu} {H : Hp} {p : Addr} (s : ∀ e, e ∈ β.ex → e ∈ βi.ex) (hp : p ∈ βi.ex) : ∀ {vs : List V} {ds : List D}, RA K βi H vs ds → RA K ((βi.back β.ex).cell p) H vs ds
  | _, _, .nil => .nil
  | _, _, .cons h r => .cons (R.cellAt s hp h) (RA.cellAt s hp r)
end
theorem Good.cellAt {K : PySem.W.Frag} {T : List (Addr × Str)} {β βi : Mu} {st : Sto} {H : Hp} {p : Addr} {xs : List V} {ds : List D} (g : Good K T βi st H) (s : ∀ e, e ∈ β.ex → e ∈ βi.ex) (hp : p ∈ βi.ex) (np : p ∉ β.ex) (h : H p = some (.lst xs)) (r : RA K βi H xs ds) : Good K T ((βi.back β.ex).cell p) (st ++ [.lst ds]) H := by
  have nc := (g.ex p hp).2
  refine ⟨?_, fun k c b hk => ?_, fun i j c b hi hj => ?_, fun k c b hk => ?_, fun e he => ?_, g.tb⟩
  · show (βi.cs ++ [(p, true)]).length = _
    rw [List.length_append, List.length_append, g.ln]
    rfl
  · rcases cell_get hk with h' | ⟨rfl, rfl, rfl⟩
    · obtain ⟨cl, h1, h2⟩ := g.cs k c b h'
      refine ⟨cl, by rw [List.getElem?_append_left (List.getElem?_eq_some_iff.mp h1).1]; exact h1, ?_⟩
      cases cl with
      | dead => exact h2
      | lst es =>
        obtain ⟨h3, ys, h4, h5⟩ := h2
        exact ⟨h3, ys, h4, h5.cellAt s hp⟩
    · refine ⟨.lst ds, ?_, rfl, xs, h, r.cellAt s hp⟩
      show (st ++ [.lst ds])[βi.cs.length]? = _
      rw [g.ln, List.getElem?_append_right (Nat.le_refl _), Nat.sub_self]
      rfl
  · rcases cell_get hi with h' | ⟨rfl, rfl, _⟩
    · rcases cell_get hj with h'' | ⟨rfl, rfl, _⟩
      · exact g.inj i j c b h' h''
      · exact (nc true (List.mem_of_getElem? h')).elim
    · rcases cell_get hj with h'' | ⟨rfl, _, _⟩
      · exact (nc b (List.mem_of_getElem? h'')).elim
      · rfl
  · rcases cell_get hk with h' | ⟨rfl, rfl, rfl⟩
    · exact g.sm k c b h'
    · exact ⟨_, h, fun ps z => by cases z⟩
  · obtain ⟨m, q⟩ := g.ex e (s e he)
    refine ⟨m, fun b z => ?_⟩
    rcases List.mem_append.mp (show (e, b) ∈ βi.cs ++ [(p, true)] from z) with z | z
    · exact q b z
    · cases List.mem_singleton.mp z
      exact np he
theorem lc_core_of {K : PySem.W.Frag} {P : Pm} {E : XK} {t : TG} {is : List Nat} {b : Bd} {Fi : Fn (List D)} {C : Fn Bool} {F : Fn D} (hgd : GD K t is b) {β : Mu} {δ : List (Option D)} {bx : Sto} {σ : L2.St} {H : Hp} {Q : VK} (ev : Ev K β H σ δ) (g : Good K P.T β bx H)
    (o : OutX P K β H (fLcA is b Fi C F δ bx) E (LcK K β H Q)) : tLc (tDL K P E Fi) t (tDT K P E C) (tD K P E F) is σ H Q := by
  have o2 := x_bind o
  refine ⟨β, δ, bx, ev, g, ?_⟩
  cases hF : Fi δ bx with
  | bad =>
    rw [hF] at o2
    exact o2
  | err c d bx' =>
    rw [hF] at o2
    exact o2
  | ok ds bx1 =>
    rw [hF] at o2
    intro β1 H1 l1 g1 _ J wk Dd hD
    have o3 := o2 β1 H1 l1 g1 l1
    split at o3
    case isFalse => exact o3.elim
    case isTrue hn =>
    have hD0 : ∀ o, H Dd = some o → ∃ ps, o = .tbl ps := fun u e => by
      by_cases ht : ∃ ps, u = .tbl ps
      · exact ht
      · obtain ⟨o', z, _⟩ := l1.dm Dd u e fun ps z => ht ⟨ps, z⟩
        rw [hD] at z
        cases z
    have ev1 : Ev K (β1.hide Dd) (upd H1 Dd (.lst [])) (wipe σ is) (Ms.unset is δ) := ((ev.le l1).le (.hide hD)).unset is
    have le0 : Le β1 H1 (β1.hide Dd) (upd H1 Dd (.lst [])) := .hide hD
    refine ⟨fun i m Hc => m = ds.length - i ∧ i ≤ ds.length ∧ ∃ βi bx' acc as, Le β1 H1 βi Hc ∧ Dd ∈ βi.ex ∧ Ev K βi Hc (wipe σ is) (Ms.unset is δ) ∧ Good K P.T βi bx' Hc ∧ RA K βi Hc acc as ∧ Hc Dd = some (.lst acc) ∧ acc.length ≤ i ∧
      OutX P K β1 H1 (lcGo b (Ms.unset is δ) C F (ds.drop i) bx' as) E (LcK K β H Q),
      ⟨ds.length, rfl, Nat.zero_le _, β1.hide Dd, bx1, [], [], le0, List.mem_cons_self, ev1, g1.hide hD, .nil, upd_same, Nat.le_refl _, by simpa using o3⟩, ?_⟩
    rintro i m Hi ⟨rfl, hi, βi, bx', acc, as, li, hx, evi, gi, ra, hd, hl, oi⟩
    have nok : ∀ {β' : Mu}, Dd ∈ β'.ex → ¬ β'.ok Dd := fun h z => z.2 h
    by_cases hlt : i < ds.length
    · refine .inr ⟨wk.goes i βi bx' Hi hlt li gi, fun Hc => ∃ βi bx' acc as, Le β1 H1 βi Hc ∧ Dd ∈ βi.ex ∧ Ev K βi Hc (wipe σ is) (Ms.unset is δ) ∧ Good K P.T βi bx' Hc ∧ RA K βi Hc acc as ∧ Hc Dd = some (.lst acc) ∧ acc.length ≤ i + 1 ∧
        OutX P K β1 H1 (lcGo b (Ms.unset is δ) C F (ds.drop (i + 1)) bx' as) E (LcK K β H Q), fun H2 h => ⟨ds.length - (i + 1), by omega, rfl, hlt, h⟩, fun x H2 y => ?_⟩
      have hdi : ds[i]? = some ds[i] := List.getElem?_eq_getElem hlt
      obtain ⟨kp, rx⟩ := wk.yields i _ βi bx' Hi x H2 hdi li gi y
      have lk : Le βi Hi βi H2 := .of kp
      rw [List.drop_eq_getElem_cons hlt] at oi
      simp only [lcGo] at oi
      cases hbd : b bx' (Ms.unset is δ) ds[i] with
      | none =>
        rw [hbd] at oi
        exact oi.elim
      | some δ1 =>
        rw [hbd] at oi
        dsimp only at oi
        refine hgd P.T βi bx' _ δ1 _ H2 x _ _ (evi.le lk) (gi.ext kp) rx hbd fun σ3 ev3 hw => ?_
        refine ⟨(hw is fun _ h => h).trans (wipe_wipe σ is), βi, δ1, bx', ev3, gi.ext kp, ?_⟩
        cases hC : C δ1 bx' with
        | bad =>
          rw [hC] at oi
          exact oi
        | err c d b =>
          rw [hC] at oi
          exact oi.elim
        | ok c bx2 =>
          rw [hC] at oi
          intro β3 H3 l3 g3
          cases c with
          | false =>
            dsimp only at oi
            refine iteF ⟨β3, bx2, acc, as, (li.trans lk).trans l3, l3.e1 _ hx, (evi.le lk).le l3, g3, (ra.le lk).le l3, ?_, by omega, oi⟩
            exact hid_kp l3 (gi.ext kp) hx (kp _ _ hd)
          | true =>
            dsimp only at oi
            refine iteT ⟨β3, δ1, bx2, ev3.le l3, g3, ?_⟩
            cases hE : F δ1 bx2 with
            | bad =>
              rw [hE] at oi
              exact oi
            | err c d b =>
              rw [hE] at oi
              exact oi.elim
            | ok d bx3 =>
              rw [hE] at oi
              intro β4 y H4 l4 g4 ry
              have hx3 := l3.e1 _ hx
              have hx4 := l4.e1 _ hx3
              have hd3 : H3 Dd = some (.lst acc) := hid_kp l3 (gi.ext kp) hx (kp _ _ hd)
              have hd4 : H4 Dd = some (.lst acc) := hid_kp l4 g3 hx3 hd3
              have la := ((li.trans lk).trans l3).trans l4
              refine ⟨acc, hd4, by rw [sizeLine_eq]; omega, β4, bx3, acc ++ [y], as ++ [d], la.updN hD hd4, hx4, (((evi.le lk).le l3).le l4).upd (nok hx4), g4.updX hx4 hd4, ((((ra.le lk).le l3).le l4).append (.cons ry .nil)).upd (nok hx4), upd_same, by rw [List.length_append]; simp; omega, oi⟩
    · have e : i = ds.length := by omega
      subst e
      rw [List.drop_length] at oi
      simp only [lcGo] at oi
      have nx : Dd ∉ β.ex := fun z => (g1.ne hD).2 (l1.e1 _ z)
      exact .inl ⟨wk.stops βi bx' Hi li gi, oi βi Hi li gi Dd acc hD0 hx nx hd ra⟩
section
variable {X : Cx} {P : Pm} {E : XK} {pos : Pos} {t : TG} {is : List Nat} {b : Bd} {tg iter elt : Expr} {scope : Scope} {Fi : Fn (List D)} {C : Fn Bool} {F : Fn D} {ifs : List Expr} {own : List (Str × Nat)}
theorem tLc_of (hgd : GD X.K t is b) : ∀ σ H Q, tD X.K P E (fLc is b Fi C F) σ H Q → tLc (tDL X.K P E Fi) t (tDT X.K P E C) (tD X.K P E F) is σ H Q := by
  rintro σ H Q ⟨β, δ, bx, ev, g, o⟩
  refine lc_core_of hgd ev g ?_
  unfold fLc bnd at o
  cases hF : fLcA is b Fi C F δ bx with
  | bad => rw [hF] at o; exact o
  | err c d bx' => rw [hF] at o; exact o
  | ok ds bx' =>
    rw [hF] at o
    exact fun βi Hi l gi p xs _ hp np h ra => o (βi.back β.ex) (.ref p) Hi l.back (gi.back l.e1) (.lst ⟨.inl h, fun z => (gi.ex p hp).2 true z, np⟩ (ra.back l.e1))
theorem tLcM_of (hgd : GD X.K t is b) : ∀ σ H Q, tD X.K P E (fLcM is b Fi C F) σ H Q → tLc (tDL X.K P E Fi) t (tDT X.K P E C) (tD X.K P E F) is σ H Q := by
  rintro σ H Q ⟨β, δ, bx, ev, g, o⟩
  refine lc_core_of hgd ev g ?_
  unfold fLcM bnd at o
  cases hF : fLcA is b Fi C F δ bx with
  | bad => rw [hF] at o; exact o
  | err c d bx' => rw [hF] at o; exact o
  | ok ds bx' =>
    rw [hF] at o
    exact fun βi Hi l gi p xs h0 hp np h ra => o ((βi.back β.ex).cell p) (.ref p) Hi (l.cellAt h0 gi hp) (gi.cellAt l.e1 hp np h ra) (.cell gi.ln)
abbrev blkX (X : Cx) (scope : Scope) (s : Shared) (H : Hp) (Cc : Addr) (cl : List (Str × Addr)) (fp : List Addr) : Cx := X.blk s H scope (compEnvC scope cl Cc X.env) fp
theorem ed_lc (hc : X.calm = true) (hN : X.N.Nodup) (hi : EI X P E tg iter Fi) (ok : BlkOk X.N X.env.scope scope own) (hgd : GD X.K t (own.map (·.2)) b)
    (hg : ∀ (s : Shared) (H : Hp) (Cc : Addr) (cl : List (Str × Addr)) (fp : List Addr), PG (blkX X scope s H Cc cl fp) tg t) (ht : ∀ (s : Shared) (H : Hp) (Cc : Addr) (cl : List (Str × Addr)) (fp : List Addr), PTs (blkX X scope s H Cc cl fp) ifs (tDT X.K P E C))
    (he : ∀ (s : Shared) (H : Hp) (Cc : Addr) (cl : List (Str × Addr)) (fp : List Addr), ED (blkX X scope s H Cc cl fp) P E elt F) (hs : ∀ x, foldedSetIterable iter X.env x = pure x := by intro _; rfl) :
    ED X P E (.ListComp elt [⟨tg, iter, ifs, 0⟩] scope pos) (fLc (own.map (·.2)) b Fi C F) := pe_imp (pe_lc hc hN hi ok hg ht he hs) (tLc_of hgd)
theorem ed_lcM (hc : X.calm = true) (hN : X.N.Nodup) (hi : EI X P E tg iter Fi) (ok : BlkOk X.N X.env.scope scope own) (hgd : GD X.K t (own.map (·.2)) b)
    (hg : ∀ (s : Shared) (H : Hp) (Cc : Addr) (cl : List (Str × Addr)) (fp : List Addr), PG (blkX X scope s H Cc cl fp) tg t) (ht : ∀ (s : Shared) (H : Hp) (Cc : Addr) (cl : List (Str × Addr)) (fp : List Addr), PTs (blkX X scope s H Cc cl fp) ifs (tDT X.K P E C))
    (he : ∀ (s : Shared) (H : Hp) (Cc : Addr) (cl : List (Str × Addr)) (fp : List Addr), ED (blkX X scope s H Cc cl fp) P E elt F) (hs : ∀ x, foldedSetIterable iter X.env x = pure x := by intro _; rfl) :
    ED X P E (.ListComp elt [⟨tg, iter, ifs, 0⟩] scope pos) (fLcM (own.map (·.2)) b Fi C F) := pe_imp (pe_lc hc hN hi ok hg ht he hs) (tLcM_of hgd)
theorem sd_setLc {i : Nat} {y : Str} {py spos : Pos} (hc : X.calm = true) (hN : X.N.Nodup) (hy : X.N[i]? = some y) (hyl : X.env.scope.names.lookup y = some .local)
    (hsw : swapsWith (.ListComp elt [⟨tg, iter, ifs, 0⟩] scope pos) (some (.Name y py)) spos.line X.env = pure true) (hi : EI X P E tg iter Fi) (ok : BlkOk X.N X.env.scope scope own) (hgd : GD X.K t (own.map (·.2)) b)
    (hg : ∀ (s : Shared) (H : Hp) (Cc : Addr) (cl : List (Str × Addr)) (fp : List Addr), PG (blkX X scope s H Cc cl fp) tg t) (ht : ∀ (s : Shared) (H : Hp) (Cc : Addr) (cl : List (Str × Addr)) (fp : List Addr), PTs (blkX X scope s H Cc cl fp) ifs (tDT X.K P E C))
    (he : ∀ (s : Shared) (H : Hp) (Cc : Addr) (cl : List (Str × Addr)) (fp : List Addr), ED (blkX X scope s H Cc cl fp) P E elt F) (hs : ∀ x, foldedSetIterable iter X.env x = pure x := by intro _; rfl) :
    SD X P E (.Assign [.Name y py] (.ListComp elt [⟨tg, iter, ifs, 0⟩] scope pos) spos) (sSet i (fLc (own.map (·.2)) b Fi C F)) := by
  refine ps_imp (ps_setLc (te := tD X.K P E F) hc hN hy hyl hsw hi ok hg ht he hs) ?_
  rintro Z σ H ⟨β, δ, bx, ev, g, o⟩
  refine tLc_of hgd σ H _ (sd_bind ev g o fun β1 bx' x d H1 l1 g1 r1 o1 => o1 _ _ H1 .refl g1 ((ev.le l1).set i r1))
theorem sd_setLcM {i : Nat} {y : Str} {py spos : Pos} (hc : X.calm = true) (hN : X.N.Nodup) (hy : X.N[i]? = some y) (hyl : X.env.scope.names.lookup y = some .local)
    (hsw : swapsWith (.ListComp elt [⟨tg, iter, ifs, 0⟩] scope pos) (some (.Name y py)) spos.line X.env = pure true) (hi : EI X P E tg iter Fi) (ok : BlkOk X.N X.env.scope scope own) (hgd : GD X.K t (own.map (·.2)) b)
    (hg : ∀ (s : Shared) (H : Hp) (Cc : Addr) (cl : List (Str × Addr)) (fp : List Addr), PG (blkX X scope s H Cc cl fp) tg t) (ht : ∀ (s : Shared) (H : Hp) (Cc : Addr) (cl : List (Str × Addr)) (fp : List Addr), PTs (blkX X scope s H Cc cl fp) ifs (tDT X.K P E C))
    (he : ∀ (s : Shared) (H : Hp) (Cc : Addr) (cl : List (Str × Addr)) (fp : List Addr), ED (blkX X scope s H Cc cl fp) P E elt F) (hs : ∀ x, foldedSetIterable iter X.env x = pure x := by intro _; rfl) :
    SD X P E (.Assign [.Name y py] (.ListComp elt [⟨tg, iter, ifs, 0⟩] scope pos) spos) (sSet i (fLcM (own.map (·.2)) b Fi C F)) := by
  refine ps_imp (ps_setLc (te := tD X.K P E F) hc hN hy hyl hsw hi ok hg ht he hs) ?_
  rintro Z σ H ⟨β, δ, bx, ev, g, o⟩
  refine tLcM_of hgd σ H _ (sd_bind ev g o fun β1 bx' x d H1 l1 g1 r1 o1 => o1 _ _ H1 .refl g1 ((ev.le l1).set i r1))
theorem et_yes : PTs X [] (tDT X.K P E (pur true)) := ⟨fun pins s σ H Q I ⟨β, δ, bx, ev, g, o⟩ => pts_nil.run pins s σ H Q I (o _ H .refl g)⟩
theorem et_one {c : Expr} (h : ET X P E c C) : PTs X [c] (tDT X.K P E C) := pts_one h
end
end Ms

end
section
set_option Elab.async false
set_option linter.all false
set_option maxRecDepth 100000
set_option maxHeartbeats 4000000
namespace Ms
open PySem PySem.Spec PyProof.Rows L2
/-- a def of the text that keeps its promise, by its name -/
structure Df (Pg : Program) (w : World) (K : PySem.W.Frag) (mg : Str → Option Value) (base : Heap) (P : Pm) (CX : CXT) (j : Nat) (x : Str) (st : Stmt) (ps : List Str) (m : List D → Sto → Res D) : Prop where
  ex : ∃ (f : Addr) (fd : FuncData), mg x = some (.ref f) ∧ Fun K x x st f fd ∧ L2.Binds K fd ps [] ∧ FnOk Pg w K mg base CX j f fd ps (spD K P ps.length m)
section
variable {X : Cx} {P : Pm} {E : XK} {pos : Pos} {es : List Expr} {A : Fn (List D)} {CX : CXT} {k : Nat} {st : Stmt} {ps : List Str} {m : List D → Sto → Res D} {x : Str} {p : Pos} {e : Expr} {kws : List Keyword}
theorem ed_callD (d : Df X.prog X.w X.K X.mg X.base P CX k x st ps m) (hr : Room k X.A) (hx : Passes CX X E) (hg : Gl X x) (ha : EA X P E (e :: es) A) (hA : ∀ δ bx ds bx', A δ bx = .ok ds bx' → ds.length = ps.length) (hn : (e :: es).length = ps.length := by rfl)
    (hdb : (x == ("__debug__" : Str)) = false := by decide) (he : starEach (e :: es) X.env = (false, eval e X.env) :: starEach es X.env := by rfl) (hpl : (backTo pos (starEach es X.env)).any (·.1) = false := by rfl) :
    ED X P E (.Call (.Name x p) (e :: es) [] pos) (fCall m A) := by
  obtain ⟨f, fd, h1, h2, h3, h4⟩ := d.ex
  exact ed_call h4 hr hg h1 h2.kp h3 hx hn ha hdb he hpl hA
theorem bindsK {K : PySem.W.Frag} {x qual : Str} {st : Stmt} {f : Addr} {fd : FuncData} {ps ks : List Str} {π : List Nat} (F : Fun K x qual st f fd)
    (h : ∀ (kV doc pm : Value) (an : Option Addr) (cdv ct : Value) (ws : List Value), ws.length = ks.length → bindArgs (PySem.W.fnOf x qual (defArgs st) (defBody st) (defScope st) .none kV doc pm an cdv ct) ⟨[], ks.zip ws⟩ = pure (ps.zip (pick .none π ws))) :
    ∀ (s : Shared) (ws : List Value), K.In s.heap → ws.length = ks.length → BindsTo s fd ⟨[], ks.zip ws⟩ (ps.zip (pick .none π ws)) := by
  obtain ⟨oc, od, kV, doc, pm, an, cdv, ct, osl, rfl, lk, hcd⟩ := F.ex
  exact fun s ws _ hl => .of_eq (h kV doc pm an cdv ct ws hl)
theorem ed_callDK {ks : List Str} (π : List Nat) (d : Df X.prog X.w X.K X.mg X.base P CX k x st ps m) (hr : Room k X.A) (hx : Passes CX X E) (hg : Gl X x)
    (hb : ∀ (kV doc pm : Value) (an : Option Addr) (cdv ct : Value) (ws : List Value), ws.length = ks.length → bindArgs (PySem.W.fnOf x x (defArgs st) (defBody st) (defScope st) .none kV doc pm an cdv ct) ⟨[], ks.zip ws⟩ = pure (ps.zip (pick .none π ws)))
    (ha : EK X P E kws A) (hA : ∀ δ bx ds bx', A δ bx = .ok ds bx' → ds.length = ks.length) (hp : π.length = ps.length := by rfl) (hall : (backToKw pos (keywordEach kws X.env)).all (·.1.isSome) = true := by rfl) (hks : (backToKw pos (keywordEach kws X.env)).filterMap (·.1) = ks := by rfl)
    (hdb : (x == ("__debug__" : Str)) = false := by decide) (hpl : ((backTo pos (starEach [] X.env)).any (·.1) || (backToKw pos (keywordEach kws X.env)).any (·.1.isNone)) = false := by rfl) :
    ED X P E (.Call (.Name x p) [] kws pos) (fCallK m π A) := by
  obtain ⟨f, fd, h1, h2, h3, h4⟩ := d.ex
  exact ed_callK π h4 hr hg h1 h2.kp (bindsK h2 hb) hx hp rfl ha hA hall hks hdb hpl
theorem ed_globS {w : Str} (hg : Gl X x) (hm : ∃ t, X.mg x = some (.str w t)) (hd : (x == ("__debug__" : Str)) = false := by decide) : ED X P E (.Name x pos) (pur (.str w)) := by
  obtain ⟨t, h⟩ := hm
  exact ed_c (v := .str w) (pe_glob hg h ⟨t, rfl⟩ hd) fun _ _ => .str w
theorem ed_globE {i : Int} (hg : Gl X x) (hm : ∃ t, X.mg x = some (.int i t)) (hd : (x == ("__debug__" : Str)) = false := by decide) : ED X P E (.Name x pos) (pur (.int i)) := by
  obtain ⟨t, h⟩ := hm
  exact ed_glob hg h hd
theorem sd_expr {F : Fn D} {e : Expr} (he : ED X P E e F) (hs : swapsWith e none pos.line X.env = pure false := by rfl) : SD X P E (.Expr e pos) (sDrop F) := by
  refine ps_imp (ps_expr he hs) ?_
  rintro Z σ H ⟨β, δ, bx, ev, g, o⟩
  exact sd_bind ev g o fun β1 bx' x d H1 l1 g1 r1 o1 => o1 _ _ H1 .refl g1 (ev.le l1)
theorem passX {W : WX} (tk : Takes X W) (hW : ∀ cls d σ H, E cls d H → W cls d σ H) : Passes (L2.CX X.prog X.w) X E := passes_call tk hW
end
theorem b_int : bootBuiltins ("int" : Str) = some (.type "int") := by decide +kernel
theorem b_bool : bootBuiltins ("bool" : Str) = some (.type "bool") := by decide +kernel
theorem b_list : bootBuiltins ("list" : Str) = some (.type "list") := by decide +kernel
theorem b_tuple : bootBuiltins ("tuple" : Str) = some (.type "tuple") := by decide +kernel
theorem b_len : bootBuiltins ("len" : Str) = some (.builtin "len") := by decide +kernel
theorem b_abs : bootBuiltins ("abs" : Str) = some (.builtin "abs") := by decide +kernel
theorem b_max : bootBuiltins ("max" : Str) = some (.builtin "max") := by decide +kernel
theorem b_min : bootBuiltins ("min" : Str) = some (.builtin "min") := by decide +kernel
theorem b_range : bootBuiltins ("range" : Str) = some (.type "range") := by decide +kernel
theorem b_all : bootBuiltins ("all" : Str) = some (.builtin "all") := by decide +kernel
theorem b_sum : bootBuiltins ("sum" : Str) = some (.builtin "sum") := by decide +kernel
section
variable {Pg : Program} {w : World} {K : PySem.W.Frag} {mg : Str → Option Value} {base : Heap} {P : Pm}
theorem df_ok {x : Str} {st : Stmt} {f : Addr} {fd : FuncData} {N ps : List Str} {k : Nat} {S : Sn} (hm : mg x = some (.ref f)) (F : Fun K x x st f fd) (B : L2.Binds K fd ps []) (sc : FnScope N ps (defScope st))
    (hb : ∀ (cdv : Value) (A : Around) (outer : List Env) (s : Shared) (H : Hp), Room k (A.deeper (envOfC x (defScope st) s.heap.objs.size f cdv)) →
      SSD (cxOf CX0 Pg w K mg base N x (defScope st) f cdv A outer s H E0).nox P E0 (defBody st) S) : Df Pg w K mg base P CX0 (k + 1) x st ps (fun ds bx => noErr (fnD N S ds bx)) :=
  ⟨f, fd, hm, F, B, fn_ok F sc rfl hb⟩
theorem df_okX {x : Str} {st : Stmt} {f : Addr} {fd : FuncData} {N ps : List Str} {k : Nat} {S : Sn} (hm : mg x = some (.ref f)) (F : Fun K x x st f fd) (B : L2.Binds K fd ps []) (sc : FnScope N ps (defScope st))
    (hb : ∀ (cdv : Value) (A : Around) (outer : List Env) (s : Shared) (H : Hp) (E : XK), Room k (A.deeper (envOfC x (defScope st) s.heap.objs.size f cdv)) →
      SSD (cxOf (L2.CX Pg w) Pg w K mg base N x (defScope st) f cdv A outer s H E) P E (defBody st) S) : Df Pg w K mg base P (L2.CX Pg w) (k + 1) x st ps (fnD N S) :=
  ⟨f, fd, hm, F, B, fn_okX F sc rfl hb⟩
end
end Ms

end
section
set_option Elab.async false
set_option linter.all false
set_option maxRecDepth 100000
set_option maxHeartbeats 4000000
namespace Ms
open PySem PySem.Spec PyProof.Rows L2
/-! ### defs that show data: nothing is being shown where they are called -/
structure FnG (Pg : Program) (w : World) (K : PySem.W.Frag) (mg : Str → Option Value) (base : Heap) (CX : CXT) (k : Nat) (f : Addr) (fd : FuncData) (ps : List Str) (sp : Sp) : Prop where
  len : ∀ vs H Q E, sp vs H Q E → vs.length = ps.length
  run : ∀ (A : Around) (outer : List Env) (s : Shared) (H : Hp) (args : Args) (us : List Value) (vs : List V) (Q : VK) (E : XK), A.guards = some [] → Room k A → Env0 Pg w K mg base A outer s H → BindsTo s fd args (ps.zip us) → Vals vs us → sp vs H Q E →
    codeAny (model Pg w) A (.call (.ref f) args) (CR CX outer Pg w H s Q E) s
structure DfG (Pg : Program) (w : World) (K : PySem.W.Frag) (mg : Str → Option Value) (base : Heap) (P : Pm) (CX : CXT) (j : Nat) (x : Str) (st : Stmt) (ps : List Str) (m : List D → Sto → Res D) : Prop where
  ex : ∃ (f : Addr) (fd : FuncData), mg x = some (.ref f) ∧ Fun K x x st f fd ∧ L2.Binds K fd ps [] ∧ FnG Pg w K mg base CX j f fd ps (spD K P ps.length m)
section
variable {X : Cx} {P : Pm} {E : XK} {pos : Pos} {es : List Expr} {A : Fn (List D)} {CX : CXT} {k : Nat} {st : Stmt} {ps : List Str} {m : List D → Sto → Res D} {x : Str} {p : Pos} {e : Expr}
theorem ed_callG (hga : X.A.guards = some []) (d : DfG X.prog X.w X.K X.mg X.base P CX k x st ps m) (hr : Room k X.A) (hx : Passes CX X E) (hg : Gl X x) (ha : EA X P E (e :: es) A) (hA : ∀ δ bx ds bx', A δ bx = .ok ds bx' → ds.length = ps.length)
    (hdb : (x == ("__debug__" : Str)) = false := by decide) (he : starEach (e :: es) X.env = (false, eval e X.env) :: starEach es X.env := by rfl) (hpl : (backTo pos (starEach es X.env)).any (·.1) = false := by rfl) :
    ED X P E (.Call (.Name x p) (e :: es) [] pos) (fCall m A) := by
  obtain ⟨f, fd, hm, hF, hb, F⟩ := d.ex
  refine ⟨fun pins s σ H Q I h => ?_⟩
  obtain ⟨β, δ, bx, ev, gd, o⟩ := h
  have o2 := x_bind o.x
  have h' : (tDA X.K P E A) σ H fun zs H1 => spD X.K P ps.length m zs H1 Q E := by
    refine ⟨β, δ, bx, ev, gd, ?_⟩
    cases hF : A δ bx with
    | ok ds bx' =>
      rw [hF] at o2
      exact fun β' vs H' l g' r => ⟨β', ds, bx', by rw [r.length]; exact hA _ _ _ _ hF, r, g', (o2 β' H' l g' l).out⟩
    | err c d bx' =>
      rw [hF] at o2
      exact o2
    | bad =>
      rw [hF] at o2
      exact o2
  refine wpAny_Call_Name_kw (ld_glob I hg hm ?_ hdb)
  refine PySem.W.callWith_K (h₀ := X.base) I.ok.mod.kin hF.kp (thn (ha.run pos pins s σ H _ I h') fun us s1 hs => ?_) he hpl
  obtain ⟨vs, H1, I1, r, q⟩ := hs
  refine ⟨I1.kIn, ?_⟩
  have hl : us.length = ps.length := by rw [← r.length]; exact F.len _ _ _ _ q
  have hbb := hb s1 us I1.kIn (by rw [List.append_nil]; exact hl)
  rw [List.append_nil] at hbb
  show wpAny _ _ (call (.ref f) us) _ _ _
  refine wpAny_call (codeAny_mono (F.run X.A X.stack s1 H1 ⟨us, []⟩ us vs Q E hga hr I1.env0 hbb r q) fun rr s' hq => ?_)
  match rr, hq with
  | .error er, hq => exact hx pins σ H1 s1 er s' I1 hq
  | .ok fl, hq =>
    cases fl
    all_goals first
      | exact I1.after hq
      | exact False.elim hq
end
section
variable {Pg : Program} {w : World} {K : PySem.W.Frag} {mg : Str → Option Value} {base : Heap} {P : Pm}
theorem fnG_ok {x qual : Str} {params : Arguments} {body : List Stmt} {scope : Scope} {f : Addr} {dV kV doc pm cdv ct oc : Value} {an od : Option Addr} {osl : Array (Option Value)} {N ps : List Str} {k : Nat} {S : Sn}
    (lk : K.lookup f = some ⟨oc, od, .func (PySem.W.fnOf x qual params body scope dV kV doc pm an cdv ct), osl⟩) (hcd : PySem.W.codeIn K cdv qual = true) (sc : FnScope N ps scope)
    (hb : ∀ (A : Around) (outer : List Env) (s : Shared) (H : Hp), A.guards = some [] → Room k (A.deeper (envOfC qual scope s.heap.objs.size f cdv)) →
      SSD (cxOf CX0 Pg w K mg base N qual scope f cdv A outer s H E0).nox P E0 body S) :
    FnG Pg w K mg base CX0 (k + 1) f (PySem.W.fnOf x qual params body scope dV kV doc pm an cdv ct) ps (spD K P ps.length fun ds bx => noErr (fnD N S ds bx)) := by
  refine ⟨fun vs H Q E h => spD_len _ _ _ _ h, fun A outer s H args us vs Q E hg hr e0 hbn r h => ?_⟩
  have hs : spD K P ps.length (fnD N S) vs H Q E0 := by
    obtain ⟨β, ds, bx, h1, h2, h3, o⟩ := h
    refine ⟨β, ds, bx, h1, h2, h3, ?_⟩
    replace o : Out K P β H (noErr (fnD N S ds bx)) Q E := o
    cases hF : fnD N S ds bx with
    | ok d bx' =>
      rw [hF] at o
      exact o
    | err c d bx' =>
      rw [hF] at o
      exact o.elim
    | bad =>
      rw [hF] at o
      exact o
  have z := LamX.run_ofS (CX := CX0) (E := E0) (Q := Q) lk hcd sc hr e0 hbn r (spD_len _ _ _ _ h) fun hr' => ⟨tDS K P E0 S, (hb A outer s H hg hr').nox, fn_end hs⟩
  refine codeAny_mono z fun rr s' hq => ?_
  match rr, hq with
  | .ok _, hq => exact hq
  | .error _, hq => exact False.elim hq
end
end Ms

end
section
set_option Elab.async false
set_option linter.all false
set_option maxRecDepth 100000
set_option maxHeartbeats 4000000
namespace Ms
open PySem PySem.Spec PyProof.Rows L2
/-! ### the end of a law whose defs show data: the law is called where nothing is being shown -/
abbrev tabE : Obj := { cls := .none, data := .fields #[] }
abbrev lstE (vs : List Value) : Obj := { cls := .type "list", data := .seq vs.toArray }
/-- what is tracked at the law's call: the tables, and the script if it is no object of the text -/
def H₀ (K : PySem.W.Frag) (a : Addr) (vs : List Value) (ns : List Int) (T : List Addr) : Hp := fun b =>
  if b ∈ T then some (.tbl #[]) else if b = a ∧ (K.lookup a).isNone = true then some (.frz (lstE vs) (.lst (ns.map V.int))) else none
section
variable {Pg : Program} {w : World} {K : PySem.W.Frag} {a : Addr} {vs : List Value} {ns : List Int} {T : List Addr} {h : Heap}
theorem H₀_tab {b : Addr} (hb : b ∈ T) : H₀ K a vs ns T b = some (.tbl #[]) := if_pos hb
theorem H₀_cases (b : Addr) : (b ∈ T ∧ H₀ K a vs ns T b = some (.tbl #[])) ∨ (b ∉ T ∧ b = a ∧ K.lookup a = none ∧ H₀ K a vs ns T b = some (.frz (lstE vs) (.lst (ns.map V.int)))) ∨ (b ∉ T ∧ H₀ K a vs ns T b = none) := by
  by_cases h1 : b ∈ T
  · exact .inl ⟨h1, if_pos h1⟩
  · by_cases h2 : b = a ∧ (K.lookup a).isNone = true
    · refine .inr (.inl ⟨h1, h2.1, Option.isNone_iff_eq_none.mp h2.2, ?_⟩)
      unfold H₀
      rw [if_neg h1, if_pos h2]
    · refine .inr (.inr ⟨h1, ?_⟩)
      unfold H₀
      rw [if_neg h1, if_neg h2]
theorem H₀_ok (hT : ∀ b, b ∈ T → h.get? b = some tabE) (ha : h.get? a = some (lstE vs)) (hi : IntsAre vs ns) (hl : ns.length ≤ sizeLine) : HOk Pg w (H₀ K a vs ns T) h := fun b o e => by
  rcases H₀_cases (K := K) (a := a) (vs := vs) (ns := ns) (T := T) b with ⟨h1, h2⟩ | ⟨_, rfl, _, h2⟩ | ⟨_, h2⟩
  · rw [h2] at e
    cases e
    exact hT b h1
  · rw [h2] at e
    cases e
    exact ⟨ha, by rw [List.length_map]; exact hl, vs, _, vals_ints hi, ha⟩
  · rw [h2] at e
    cases e
theorem H₀_seq (X : K.In h) (ha : h.get? a = some (lstE vs)) (hi : IntsAre vs ns) (hl : ns.length ≤ sizeLine) (aT : a ∉ T) : SqL K (H₀ K a vs ns T) a (ns.map V.int) := by
  rcases H₀_cases (K := K) (a := a) (vs := vs) (ns := ns) (T := T) a with ⟨h1, _⟩ | ⟨_, _, _, h2⟩ | ⟨_, h2⟩
  · exact (aT h1).elim
  · exact .inl (.inr ⟨_, h2⟩)
  · cases hk : K.lookup a with
    | none =>
      unfold H₀ at h2
      rw [if_neg aT, if_pos ⟨rfl, by rw [hk]; rfl⟩] at h2
      cases h2
    | some o =>
      have e := X a o hk
      rw [ha] at e
      cases e
      exact .inr ⟨_, vs.toArray, _, hk, rfl, rfl, rfl, by rw [List.size_toArray, hi.length]; exact hl, by simpa using vals_ints hi⟩
end
/-- the law's call, from what holds at any ground on which it may stand -/
theorem law_callG {Pg : Program} {w : World} {K : PySem.W.Frag} {mg mb : Str → Option Value} {fa a : Addr} {cs : List (Addr × Addr)} {s₁ : Shared} {vs : List Value} {ns : List Int}
    (KX : K.In s₁.heap) (hns : s₁.heap.Ns mainGlobals mg) (hb : s₁.heap.Ns builtinsNs mb) (hbb : ∀ x : Str, x ≠ "__name__" → mb x = bootBuiltins x) (hlim : s₁.heap.NoLimit) (hg : s₁.gens = #[])
    (hT : ∀ p ∈ cs, s₁.heap.get? p.2 = some tabE) (nT : ∀ p ∈ cs, K.lookup p.2 = none) (C : ∀ p ∈ cs, PySem.W.CodeHd s₁.heap p.1 p.2)
    (hbm : ∃ (bm : Addr) (ob : Obj), mg "__builtins__" = some (.ref bm) ∧ bm ≠ builtinsNs ∧ s₁.heap.get? bm = some ob ∧ ob.cls = .type "module" ∧ ob.dict = some builtinsNs ∧ ob.data = .plain)
    (ha : s₁.heap.get? a = some (lstE vs)) (hi : IntsAre vs ns) (hl : ns.length ≤ sizeLine)
    (call : ∀ (base : Heap) (H : Hp), Env0 Pg w K mg base callerA [] s₁ H → (∀ p ∈ cs, LamX.TabB base mg p.1 p.2) → (∀ p ∈ cs, H p.2 = some (.tbl #[])) → SqL K H a (ns.map V.int) →
      codeAny (model Pg w) callerA (.call (.ref fa) ⟨[.ref a], []⟩) (CR CX0 [] Pg w H s₁ (fun v _ => v = .bl true) E0) s₁) :
    codeAny (model Pg w) callerA (.call (.ref fa) ⟨[.ref a], []⟩) (fun r s' => r = .ok (.ret (.bool true)) ∧ OldK s₁.heap s'.heap ∧ s'.os = s₁.os ∧ AllBare s'.gens) s₁ := by
  obtain ⟨T, eT⟩ : ∃ T, T = cs.map (·.2) := ⟨_, rfl⟩
  have inT : ∀ p ∈ cs, p.2 ∈ T := fun p hp => eT ▸ List.mem_map.mpr ⟨p, hp, rfl⟩
  have ofT : ∀ b, b ∈ T → ∃ p ∈ cs, p.2 = b := fun b h => by
    rw [eT] at h
    exact List.mem_map.mp h
  have tT : ∀ b, b ∈ T → s₁.heap.get? b = some tabE := fun b h => by
    obtain ⟨p, hp, rfl⟩ := ofT b h
    exact hT p hp
  have aT : a ∉ T := fun z => by
    have q := (tT a z).symm.trans ha
    injection q with q
    have q2 := congrArg Obj.data q
    cases q2
  -- an object that is neither the script nor a table is not tracked
  have free : ∀ b, b ≠ a → b ∉ T → H₀ K a vs ns T b = none := fun b h1 h2 => by
    rcases H₀_cases (K := K) (a := a) (vs := vs) (ns := ns) (T := T) b with ⟨h, _⟩ | ⟨_, h, _⟩ | ⟨_, h⟩
    · exact (h2 h).elim
    · exact (h1 h).elim
    · exact h
  have plain : ∀ b o, s₁.heap.get? b = some o → (∀ its n, o.data ≠ .seq its n) → o.data ≠ .fields #[] → H₀ K a vs ns T b = none := fun b o e n1 n2 => by
    refine free b (fun z => ?_) fun z => ?_
    · rw [z, ha] at e
      cases e
      exact n1 _ _ rfl
    · rw [tT b z] at e
      cases e
      exact n2 rfl
  have nsOf : ∀ {b : Addr} {m : Str → Option Value}, s₁.heap.Ns b m → (hidT s₁.heap (H₀ K a vs ns T)).Ns b m := by
    rintro b m ⟨o, es, ep, e, d, r⟩
    refine ⟨o, es, ep, hidT_get e (plain b o e (fun its n z => ?_) fun z => ?_), d, r⟩ <;> rw [d] at z <;> cases z
  have KB : K.In (hidT s₁.heap (H₀ K a vs ns T)) := fun b o e => by
    refine hidT_get (KX b o e) ?_
    rcases H₀_cases (K := K) (a := a) (vs := vs) (ns := ns) (T := T) b with ⟨h, _⟩ | ⟨_, rfl, h, _⟩ | ⟨_, h⟩
    · obtain ⟨p, hp, rfl⟩ := ofT b h
      rw [nT p hp] at e
      cases e
    · rw [h] at e
      cases e
    · exact h
  have gOf : ∀ b, s₁.heap.get? b = some tabE → b ≠ mainGlobals := fun b e z => by
    obtain ⟨o, es, ep, e2, d, _⟩ := hns
    rw [← z, e] at e2
    cases e2
    cases d
  have TB : ∀ p ∈ cs, LamX.TabB (hidT s₁.heap (H₀ K a vs ns T)) mg p.1 p.2 := fun p hp => by
    refine ⟨?_, ?_, fun z => gOf _ (hT p hp) z.symm⟩
    · obtain ⟨o, us, file, tf, flags, tg, inF, text, tt, e1, r1, r2, r3, r⟩ := C p hp
      refine ⟨o, us, file, tf, flags, tg, inF, text, tt, hidT_get e1 (plain _ o e1 (fun its n z => ?_) fun z => ?_), r1, r2, r3, r⟩
      · rw [r2] at z
        cases z
      · rw [r2] at z
        cases z
        simp at r3
    · obtain ⟨bm, ob, b1, b2, b3, b4, b5, b6⟩ := hbm
      refine ⟨bm, ob, b1, b2, fun z => ?_, fun z => ?_, hidT_get b3 (plain _ ob b3 (fun its n z => ?_) fun z => ?_), b4, b5, b6⟩
      · obtain ⟨o, es, ep, e2, d, _⟩ := hns
        rw [← z, b3] at e2
        cases e2
        rw [b6] at d
        cases d
      · rw [z, hT p hp] at b3
        cases b3
        cases b6
      · rw [b6] at z
        cases z
      · rw [b6] at z
        cases z
  have hok : HOk Pg w (H₀ K a vs ns T) s₁.heap := H₀_ok tT ha hi hl
  have e0 : Env0 Pg w K mg (hidT s₁.heap (H₀ K a vs ns T)) callerA [] s₁ (H₀ K a vs ns T) :=
    ⟨rfl, ⟨KB, nsOf hns, ⟨mb, nsOf hb, hbb⟩, let ⟨mc, h1, h2⟩ := hlim; ⟨mc, nsOf h1, h2⟩⟩, fun b o e => of_hidT e, Nat.le_of_eq (hidT_size _ _), trivial, fun b h => (nomatch h), hok, .of_eq hg⟩
  refine codeAny_mono (call _ _ e0 TB (fun p hp => H₀_tab (inT p hp)) (H₀_seq KX ha hi hl aT)) fun r s' h => ?_
  match r, h with
  | .error _, h => exact h.elim
  | .ok .next, h => exact h.elim
  | .ok .brk, h => exact h.elim
  | .ok .cont, h => exact h.elim
  | .ok (.ret u), ⟨v, H', os, bare, un, hok', r', q⟩ =>
    have q' : v = .bl true := q
    subst q'
    obtain rfl : u = Value.bool true := r'
    have grown : ∀ p ∈ cs, ∃ more : Array Value, s'.heap.get? p.2 = some { cls := .none, data := .fields more } := fun p hp => by
      obtain ⟨more, z⟩ := un.tbls p.2 #[] (H₀_tab (inT p hp))
      exact ⟨_, hok' p.2 _ z⟩
    have stays : ∀ b o, b ∉ T → s₁.heap.get? b = some o → s'.heap.get? b = some o := fun b o nb e => by
      rcases H₀_cases (K := K) (a := a) (vs := vs) (ns := ns) (T := T) b with ⟨h, _⟩ | ⟨_, rfl, _, h⟩ | ⟨_, h⟩
      · exact (nb h).elim
      · obtain ⟨e2, _⟩ := hok' b _ (un.frzs b _ _ h)
        rw [ha] at e
        cases e
        exact e2
      · exact un.keep b o e h (fun z => nomatch z) (fun z => nomatch z)
    refine ⟨rfl, ⟨fun b o e => ?_, fun b o e => ?_⟩, os, bare⟩
    · by_cases hb : b ∈ T
      · obtain ⟨p, hp, rfl⟩ := ofT b hb
        obtain ⟨more, hm⟩ := grown p hp
        rw [hT p hp] at e
        cases e
        exact .inr (.inl ⟨((C p hp).tab (hT p hp)).isCodeTable, rfl, #[], more, rfl, by rw [Array.empty_append]; exact hm⟩)
      · exact .inl (stays b o hb e)
    · by_cases hb : b ∈ T
      · obtain ⟨p, hp, rfl⟩ := ofT b hb
        obtain ⟨more, hm⟩ := grown p hp
        exact ⟨_, hm⟩
      · exact ⟨o, stays b o hb e⟩
/-- what is asked of a law at the head's heap -/
def LawAt (l : PySem.W.OpenLaw) (w : World) (K : PySem.W.Frag) (n : Nat) (mg : Str → Option Value) (fa : Addr) (h : Heap) : Prop :=
  ∃ cs : List (Addr × Addr), (∀ p ∈ cs, h.get? p.2 = some tabE) ∧ (∀ p ∈ cs, K.lookup p.2 = none) ∧ (∀ p ∈ cs, PySem.W.CodeHd h p.1 p.2) ∧
    ∀ (base : Heap) (H : Hp) (s₁ : Shared) (a : Addr) (ns : List Int), ns.length ≤ n → Env0 l.prog w K mg base callerA [] s₁ H → (∀ p ∈ cs, LamX.TabB base mg p.1 p.2) → (∀ p ∈ cs, H p.2 = some (.tbl #[])) → SqL K H a (ns.map V.int) →
      codeAny (model l.prog w) callerA (.call (.ref fa) ⟨[.ref a], []⟩) (CR CX0 [] l.prog w H s₁ (fun v _ => v = .bl true) E0) s₁
theorem walkG {l : PySem.W.OpenLaw} {n : Nat} {q : Program} {loose : List Str} {XP : (Str → Option Value) → Heap → Prop} {YP : World → Heap → Prop} {d : DefRec} {K : Params → PySem.W.Frag}
    (hn : l.most = some n) (hn2 : n ≤ sizeLine) (hdf : d.params.defaults = []) (hY : ∀ (w : World) (h : Heap), YP w h → (K w.params).In h)
    (F : ∀ (w : World) (mg : Str → Option Value) (fa : Addr) (h : Heap), YP w h → (K w.params).In h → h.Ns mainGlobals mg → mg d.name = some (.ref fa) → LawAt l w (K w.params) n mg fa h) :
    PySem.W.WalkO q loose XP YP l.row.toRowW d [] (fun f vs => PySem.call f vs) := by
  refine Att.attach_callB hn hdf fun w s₀ s₁ mg mb fa o pm cd doc a vs ns G Y ho hd hcd hmg hobj hints hlen hbits hg => ?_
  have KX := hY w _ Y
  obtain ⟨cs, hT, nT, C, hc⟩ := F w mg fa _ Y KX G.T.g hmg
  exact law_callG KX G.T.g G.T.b G.T.builtins G.T.nolimit hg hT nT C G.T.bmain hobj hints (Nat.le_trans hlen hn2) fun base H e0 tb hH hS => hc base H s₁ a ns hlen e0 tb hH hS
end Ms

end
section
set_option Elab.async false
set_option linter.all false
set_option maxRecDepth 100000
set_option maxHeartbeats 4000000
namespace GenZ
open PySem PySem.Spec PyProof.Rows L2 LamX
/-! ### the walk of all, any -/
section
variable {prog : Program} {w : World} {A : Around} {I : Addr}
theorem all_loop (St : Nat → Shared → Prop) (Qt Qf : Shared → Prop)
    (step : ∀ n s, St n s → wpAny (model prog w) A.in1 (pyNext (.ref I)) (fun r s' => match r with | none => Qt s' | some v => ∃ b, v = .bool b ∧ (b = false → Qf s') ∧ (b = true → ∃ m, m < n ∧ St m s')) (fun _ _ => False) s) :
    ∀ (n : Nat) (s : Shared), St n s → codeAny (model prog w) A (.builtin "all.loop" ⟨[.ref I], []⟩) (fun r s' => (r = .ok (.ret (.bool true)) ∧ Qt s') ∨ (r = .ok (.ret (.bool false)) ∧ Qf s')) s := by
  intro n
  induction n using Nat.strongRecOn with
  | ind n ih =>
    intro s hst
    refine codeAny_builtin F.entry_all_loop ?_
    rw [Around.under_plainId F.plain_all_loop _]
    show wpAny _ A.in1 (pyNext (.ref I) >>= _) _ _ s
    refine wpAny_bind (wpAny_mono (step n s hst) (fun r s' h => ?_) fun _ _ z => z.elim)
    cases r with
    | none =>
      refine wpAny_bind (wpAny_rule (wpAny_pure ?_))
      exact .inl ⟨rfl, h⟩
    | some v =>
      obtain ⟨b, rfl, h1, h2⟩ := h
      refine wpAny_bind (wpAny_holding (wpAny_truthy_bool ?_))
      refine wpAny_bind (wpAny_letGo ?_)
      cases b with
      | true =>
        simp only [if_true]
        obtain ⟨m, hm, hs⟩ := h2 rfl
        exact wpAny_pure ⟨plainId_quiet F.plain_all_loop _, ih m hm s' hs⟩
      | false =>
        simp only [Bool.false_eq_true, if_false]
        refine wpAny_bind (wpAny_rule (wpAny_pure ?_))
        exact .inr ⟨rfl, h1 rfl⟩
end
/-! ### the frame of a generator expression -/
/-- the context of its element: the frame at C, the generator's object pinned -/
abbrev gnx (X : Cx) (A : Around) (s : Shared) (H : Hp) (env : Env) (fp : List Addr) (pn : List (Addr × Obj)) : Cx :=
  { X with A := A, s_0 := s, H_0 := H, env := env, outer := X.stack, stack := env :: X.stack, ex := fp, fn := fun _ => false, pn := pn, xe := fun _ _ => False }
abbrev gEnv (X : Cx) (scope : Scope) (C : Addr) (code : Value) : Env := genEnv scope (cloFrom X.env.cells scope.names []) C code builtinsNs X.env
structure GnOk (sc scope : Scope) : Prop where
  co : scope.isCoroutine = false
  cell : ∀ y ∈ scope.names, y.2 ≠ .cell
  dot : scope.names.lookup (".0" : Str) = some NameKind.local
section
variable {X : Cx} {pins : List (Addr × Obj)} {σ : L2.St} {H : Hp} {s s5 : Shared}
theorem gn_start {scope : Scope} {own : List (Str × Nat)} {fp : List Addr} {A : Around} {code : Value} {a : Addr} {go : Obj} {it : Value} (I : Inv X pins σ H s) (I5 : Inv X pins σ H s5) (ok : BlkOk X.N X.env.scope scope own) (G : GnOk X.env.scope scope) (hN : X.N.Nodup) (hfp : ∀ b ∈ fp, FpOk X pins H b ∧ b < s.heap.objs.size)
    (hh : A.handled = none) (hA : A.frames = some (gEnv X scope s.heap.objs.size code :: X.stack)) (kp : ∀ b o, s.heap.get? b = some o → s5.heap.get? b = some o) (hns : s5.heap.Ns s.heap.objs.size (fun y => if y = ".0" then some it else none)) (hos : s5.os = s.os)
    (ha : s5.heap.get? a = some go) (hal : s.heap.objs.size < a) (hgo : ∀ v, go.data ≠ .cell v) :
    Inv (gnx X A s H (gEnv X scope s.heap.objs.size code) fp [(a, go)]) [] (wipe σ (own.map (·.2))) H s5 := by
  have hfree : ∀ y ∈ scope.names, y.2 = .free → ∃ c, X.env.cells.lookup y.1 = some c := fun y hy e => by
    rcases ok.free y hy e with k | k
    · exact I.ok.has _ (.inl k)
    · exact I.ok.has _ (.inr k)
  have cm : ∀ {y c}, (y, c) ∈ cloFrom X.env.cells scope.names [] → X.env.cells.lookup y = some c ∧ c < s.heap.objs.size := fun {y c} hm => by
    rcases cloFrom_mem hm with hm | ⟨h1, rfl⟩
    · cases hm
    · obtain ⟨c, hc⟩ := hfree _ h1 rfl
      rw [hc]
      obtain ⟨w, z⟩ := I.cell _ _ hc
      exact ⟨rfl, z.lt⟩
  have cm2 : ∀ {y c}, (cloFrom X.env.cells scope.names []).lookup y = some c → X.env.cells.lookup y = some c ∧ c < s.heap.objs.size := fun {y c} e => cm (PySem.mem_of_lookup e)
  have look : ∀ {y}, scope.names.lookup y = some .free → ∃ c, (cloFrom X.env.cells scope.names []).lookup y = some c ∧ X.env.cells.lookup y = some c := fun {y} hl => by
    have hy : (y, NameKind.free) ∈ scope.names := PySem.mem_of_lookup hl
    obtain ⟨c', e'⟩ := mem_lookup (cloFrom_has (cells := X.env.cells) (acc := []) hy)
    exact ⟨c', e', (cm2 e').1⟩
  have okB : (gnx X A s H (gEnv X scope s.heap.objs.size code) fp [(a, go)]).Ok := by
    refine ⟨I.ok.mod, ok.kind, I.ok.glob, rfl, Nat.le_refl _, fun y z c e1 e2 => I.ok.inj y z c (cm2 e1).1 (cm2 e2).1, fun y hy => ?_, fun y c z e => absurd z Bool.false_ne_true, fun _ => hh, hA, .inr ⟨rfl, rfl⟩, fun b hb => ⟨Nat.ne_of_lt (hfp b hb).2, fun y c e z => (hfp b hb).1.2.2.2.2.1 y c (cm2 e).1 z⟩, I.bs, Nat.le_trans I.ok.bsz I.sz, fun b o e hb => ?_, fun b hb z => ?_, I.stack, I.stkFree⟩
    · have hy : scope.names.lookup y = some .cell ∨ scope.names.lookup y = some .free := hy
      rcases hy with hy | hy
      · exact absurd rfl (G.cell _ (PySem.mem_of_lookup hy))
      · obtain ⟨c, h1, _⟩ := look hy
        exact ⟨c, h1⟩
    · rcases (hfp b hb).1.2.2.2.1 with z | z
      · exact I.ok.noex b o e z
      · exact absurd (Nat.lt_of_lt_of_le (Heap.lt_size e) (Nat.le_trans I.ok.bsz z)) (Nat.lt_irrefl _)
    · rcases List.mem_cons.mp (I.stkSub b z) with z | z
      · exact (hfp b hb).1.2.1 z
      · exact (hfp b hb).1.2.2.1 z
  refine ⟨okB, hos, I5.bare, Un.kept kp, ⟨_, hns, fun i y av e1 e2 e3 => ?_⟩, fun y c e => ?_, I.hok.fresh (Nat.le_refl _), fun y c e => I.freeC y c (cm2 e).1, fun p hp => ?_, I5.hok, by rw [wipe_length]; exact I.len⟩
  · obtain ⟨e2, hne⟩ := wipe_some e2
    have no : ∀ k, scope.names.lookup y = some k → ¬ (k = .local ∨ k = .cell) := fun k e hh => by
      rcases ok.own _ (PySem.mem_of_lookup e) hh with e' | e'
      · obtain ⟨p, hp, hpy⟩ := List.mem_map.mp e'
        have e3 := ok.ix p hp
        have : p.1 = y := hpy
        rw [this] at e3
        exact hne (List.mem_map.mpr ⟨p, hp, nodup_ix hN e3 e1⟩)
      · exact e' (List.mem_of_getElem? e1)
    have e3 : Vis scope y := e3
    have hf : scope.names.lookup y = some .free := by
      rcases e3 with e3 | e3 | e3
      · exact absurd (.inl rfl) (no _ e3)
      · exact absurd (.inr rfl) (no _ e3)
      · exact e3
    obtain ⟨m, hn, hl⟩ := I.loc
    have hvis : Vis X.env.scope y := (ok.free _ (PySem.mem_of_lookup hf) rfl).elim (fun k => .inr (.inl k)) (fun k => .inr (.inr k))
    obtain ⟨w, r, q⟩ := hl i y av e1 e2 hvis
    refine ⟨w, r, .inr ⟨.inr hf, ?_⟩⟩
    obtain ⟨c, h1, h2⟩ := look hf
    rcases q with ⟨k, _⟩ | ⟨_, c', e', z⟩
    · have k : X.env.scope.names.lookup y = some .local := k
      rcases ok.free _ (PySem.mem_of_lookup hf) rfl with k' | k' <;> rw [show X.env.scope.names.lookup y = _ from k'] at k <;> cases k
    · rw [h2] at e'; cases e'
      exact ⟨c, h1, z.keeps kp⟩
  · obtain ⟨w, z⟩ := I.cell y c (cm2 e).1
    exact ⟨w, z.keeps kp⟩
  · have hp : p ∈ [(a, go)] ++ [] := hp
    rw [List.append_nil] at hp
    rw [List.mem_singleton.mp hp]
    refine ⟨ha, I.hok.fresh (Nat.le_of_lt hal), Nat.ne_of_gt hal, fun z => ?_, hgo⟩
    rcases List.mem_cons.mp (I.stkSub a z) with z | z
    · have := I.lt
      rw [← z] at this
      exact absurd (Nat.lt_trans this hal) (Nat.lt_irrefl _)
    · exact I.nofs (Nat.le_of_lt hal) z
end
/-! ### the loop of a generator expression -/
theorem inv_same {X : Cx} {pins : List (Addr × Obj)} {σ : L2.St} {H : Hp} {s s' : Shared} (I : Inv X pins σ H s) (e1 : s'.os = s.os) (e2 : AllBare s'.gens) (e3 : s'.heap = s.heap) : Inv X pins σ H s' :=
  ⟨I.ok, e1.trans I.os, e2, by rw [e3]; exact I.base, by rw [e3]; exact I.loc, by rw [e3]; exact I.cell, I.free, I.freeC, by rw [e3]; exact I.pin, by rw [e3]; exact I.hok, I.len⟩
/-- it ends -/
def GR (X : Cx) (Qt : Hp → Prop) : Nat → Shared → Shared → Prop := fun _ _ s => ∃ pins σ H, Inv X pins σ H s ∧ Qt H
/-- it hands out a test's answer -/
def GY (X : Cx) (Qf : Hp → Prop) : Protocol := fun _ _ v s kap => ∃ (b : Bool) (H : Hp), v = .bool b ∧ (∃ pins σ, Inv X pins σ H s) ∧ (b = false → Qf H) ∧ (b = true → ∀ s'', s''.os = s.os → AllBare s''.gens → s''.heap = s.heap → kap (.send .none) s'')
section
variable {X : Cx} {A : Around} {elt tg iter : Expr} {scope : Scope} {pos : Pos} {it : Addr} {fp : List Addr} {tn : Nat → Heap → Prop} {J : It} {g : TG} {te : TE} {vs : List Nat} {σ0 : L2.St} {W : Nat → Nat → Hp → Prop} {Qt Qf : Hp → Prop}
theorem gn_loop (hA : X.A = A.over (.compLoop (.GeneratorExp elt [⟨tg, iter, [], 0⟩] scope pos) 0 (.ref it) .none X.env) []) (hc : X.calm = true) (hco : X.env.scope.isCoroutine = false) (hfp : X.ex = fp) (hxe : X.xe = fun _ _ => False) (hpn : ∀ p ∈ X.pn, p.1 ∉ fp)
    (T : Turn X.prog X.w X.K tg J fp it tn) (pg : PG X tg g) (pe : PE X elt te)
    (turn : ∀ i m H, W i m H → (J.stop i H ∧ Qt H) ∨ (J.go i H ∧ ∃ m', m = m' + 1 ∧ ∃ Nx : Hp → Prop, (∀ H', Nx H' → ∃ k, k ≤ m' ∧ W (i + 1) k H') ∧ ∀ x H', J.yld i H x H' → g x (wipe σ0 vs) H' fun σ2 H2 => wipe σ2 vs = wipe σ0 vs ∧
      te σ2 H2 fun y H3 => ∃ b, y = .bl b ∧ (b = true → Nx H3) ∧ (b = false → Qf H3))) :
    ∀ (n m i : Nat) (H : Hp) (s s₀ : Shared), m ≤ n → Inv X [] (wipe σ0 vs) H s → tn i s.heap → (∀ b ∈ fp, H b = none) → W i m H →
      Seg (model X.prog X.w) A (fun n s₀ r s₁ => r = .ok .next ∧ GR X Qt n s₀ s₁) (GY X Qf) n s₀ (.compLoop (.GeneratorExp elt [⟨tg, iter, [], 0⟩] scope pos) 0 (.ref it) .none X.env)
        ((model X.prog X.w).den (.compLoop (.GeneratorExp elt [⟨tg, iter, [], 0⟩] scope pos) 0 (.ref it) .none X.env)) [] s := by
  have stat : ∀ {σ' : L2.St} {H' : Hp} {s' : Shared}, Inv X [] σ' H' s' → (∀ b ∈ fp, H' b = none) → ∀ b ∈ fp, FpOk X [] H' b := fun {σ' H' s'} I' hn b hb =>
    ⟨hn b hb, (I'.ok.exf b (by rw [hfp]; exact hb)).1, I'.ok.exfs b (by rw [hfp]; exact hb), .inl (by rw [hfp]; exact hb), fun x c e => (I'.ok.exf b (by rw [hfp]; exact hb)).2 x c e, fun p hp z => hpn p (by simpa using hp) (by rw [z]; exact hb)⟩
  intro n
  induction n with
  | zero =>
    intro m i H s s₀ hm I st nf w
    rcases turn i m H w with ⟨stop, qq⟩ | ⟨go, m', e, _⟩
    · show Seg _ A _ _ _ s₀ _ ((compTurn (.GeneratorExp elt [⟨tg, iter, [], 0⟩] scope pos) 0 (.ref it) .none X.env).onRaise (leaving X.env)) [] s
      rw [compTurn_gen, Sem.onRaise_eq_wrap]
      refine seg_bind_wrap (wpAny_standAt ?_)
      refine seg_bind_wrap ?_
      rw [← hA]
      refine wpAny_mono (T.done X rfl rfl rfl hc i [] s _ H (fun _ _ => False) I (stat I nf) st stop) (fun r s1 h => ?_) fun _ _ z => z.elim
      obtain ⟨rfl, I1⟩ := h
      exact seg_end (.ok .next) ⟨rfl, _, _, _, I1, qq⟩
    · omega
  | succ n ih =>
    intro m i H s s₀ hm I st nf w
    rcases turn i m H w with ⟨stop, qq⟩ | ⟨go, m', e, Nx, hNx, step⟩
    · show Seg _ A _ _ _ s₀ _ ((compTurn (.GeneratorExp elt [⟨tg, iter, [], 0⟩] scope pos) 0 (.ref it) .none X.env).onRaise (leaving X.env)) [] s
      rw [compTurn_gen, Sem.onRaise_eq_wrap]
      refine seg_bind_wrap (wpAny_standAt ?_)
      refine seg_bind_wrap ?_
      rw [← hA]
      refine wpAny_mono (T.done X rfl rfl rfl hc i [] s _ H (fun _ _ => False) I (stat I nf) st stop) (fun r s1 h => ?_) fun _ _ z => z.elim
      obtain ⟨rfl, I1⟩ := h
      exact seg_end (.ok .next) ⟨rfl, _, _, _, I1, qq⟩
    · subst e
      show Seg _ A _ _ _ s₀ _ ((compTurn (.GeneratorExp elt [⟨tg, iter, [], 0⟩] scope pos) 0 (.ref it) .none X.env).onRaise (leaving X.env)) [] s
      rw [compTurn_gen, Sem.onRaise_eq_wrap]
      refine seg_bind_wrap (wpAny_standAt ?_)
      refine seg_bind_wrap ?_
      rw [← hA]
      refine wpAny_mono (T.item X rfl rfl rfl hc i [] s _ H (fun _ _ => False) I (stat I nf) st go) (fun r s1 h => ?_) fun _ _ z => z.elim
      obtain ⟨u, rfl, h1⟩ := h
      refine seg_bind_wrap ?_
      rw [← hA]
      refine wpAny_mono h1 (fun _ s2 h => ?_) fun _ _ z => z.elim
      obtain ⟨x, H2, I2, r2, y2, st2, n2⟩ := h
      have I2' := I2.pinned (stat I2 n2) (T.obj _ _ st2)
      refine seg_bind_wrap ?_
      rw [← hA]
      refine wpAny_mono (pg.run _ s2 _ H2 x u _ I2' r2 (step x H2 y2)) (fun _ s3 h => ?_) fun _ _ z => by rw [hxe] at z; exact z.elim
      obtain ⟨σ3, H3, I3, hw, q3⟩ := h
      refine seg_bind_wrap (wpAny_tests_nil ?_)
      simp only [if_true]
      have hy : ∀ v, yieldOut X.env v = yieldValue v := fun v => by simp only [yieldOut, hco, Bool.false_eq_true, if_false]
      simp only [hy]
      rw [Sem.bind_eq_wrap', Sem.bind_eq_wrap', Sem.wrap_wrap, Sem.wrap_wrap]
      refine seg_wrap ?_
      rw [← hA]
      refine wpAny_mono (pe.run _ s3 σ3 H3 _ I3 q3) (fun v s4 h => ?_) fun _ _ z => by rw [hxe] at z; exact z.elim
      obtain ⟨yv, H4, I4, r4, b, rfl, ht, hf⟩ := h
      obtain rfl : v = Value.bool b := r4
      refine seg_at (seg_yield rfl rfl rfl ⟨b, H4, rfl, ⟨_, _, I4⟩, hf, fun hb s'' e1 e2 e3 => ?_⟩)
      obtain ⟨k, hk, w'⟩ := hNx H4 (ht hb)
      have pin' : ∀ b ∈ fp, ∀ o, s2.heap.get? b = some o → s4.heap.get? b = some o ∧ H4 b = none := fun b hb o e =>
        let z := I4.pin (b, o) (List.mem_append_right _ (List.mem_append_right _ (mem_pinsAt hb e)))
        ⟨z.1, z.2.1⟩
      have hl : (wipe σ0 vs).length = σ3.length := by rw [← hw, wipe_length]
      have I5 : Inv X [] (wipe σ0 vs) H4 s4 := (I4.unpinned (pins := [])).weak hl (fun j v e => by rw [← hw] at e; exact (wipe_some e).1)
      refine seg_again rfl (ih k (i + 1) H4 s'' s'' (by omega) (inv_same I5 e1 e2 e3) (by rw [e3]; exact T.keep _ _ _ st2 fun b hb o e => (pin' b hb o e).1) (fun b hb => ?_) w')
      obtain ⟨o, e, _⟩ := T.obj _ _ st2 b hb
      exact (pin' b hb o e).2
end
theorem gn_begin {X : Cx} {A : Around} {R : GenEnd} {Y : Protocol} {n : Nat} {s₀ s : Shared} {elt tg iter : Expr} {scope : Scope} {pos : Pos} {it : Addr} {fp : List Addr} {tn : Nat → Heap → Prop} {J : It} {env : Env}
    (T : Turn X.prog X.w X.K tg J fp it tn) (st : tn 0 s.heap)
    (loop : Seg (model X.prog X.w) A R Y n s₀ (.compLoop (.GeneratorExp elt [⟨tg, iter, [], 0⟩] scope pos) 0 (.ref it) .none env) ((model X.prog X.w).den (.compLoop (.GeneratorExp elt [⟨tg, iter, [], 0⟩] scope pos) 0 (.ref it) .none env)) [] s) :
    Seg (model X.prog X.w) A R Y n s₀ (.compStart (.GeneratorExp elt [⟨tg, iter, [], 0⟩] scope pos) 0 (.ref it) .none env) ((model X.prog X.w).den (.compStart (.GeneratorExp elt [⟨tg, iter, [], 0⟩] scope pos) 0 (.ref it) .none env)) [] s := by
  show Seg _ A _ _ _ s₀ _ ((compStart (.GeneratorExp elt [⟨tg, iter, [], 0⟩] scope pos) 0 (.ref it) .none env).onRaise (leaving env)) [] s
  unfold compStart
  rw [Sem.onRaise_eq_wrap]
  show Seg _ A _ _ _ s₀ _ ((ask >>= _).wrap _ _ _ _) [] s
  refine seg_bind_wrap (wpAny_askSetting ?_)
  split
  · exact seg_again rfl loop
  · first
      | exact seg_bind_wrap (wpAny_rule (seg_bind_wrap (wpAny_standAt (seg_bind_wrap (T.self _ 0 s _ _ st (seg_again rfl loop))))))
      | (refine seg_bind_wrap (wpAny_rule ?_); show Seg _ A _ _ _ s₀ _ ((standAt iter.pos >>= _).wrap _ _ _ _) [] s; exact seg_bind_wrap (wpAny_standAt (seg_bind_wrap (T.self _ 0 s _ _ st (seg_again rfl loop)))))
/-! ### all(.. for .. in ..) -/
theorem bare_setGen {s : Shared} {g : Nat} {x : GenState} (h : AllBare s.gens) (hx : x.bare = true) : AllBare (s.setGen g x).gens := by
  intro y hy
  have hy : y ∈ s.gens.setIfInBounds g x := hy
  rcases Array.mem_or_eq_of_mem_setIfInBounds hy with h1 | h1
  · exact h y h1
  · rw [h1]; exact hx
def tAllG (T : List (Addr × Str)) (wi : TI) (g : TG) (te : TE) (vs : List Nat) : TE := fun σ H Q => wi σ H fun J H1 => Tabs T H1 ∧ ∀ H2, ExtN H1 H2 → Tabs T H2 → ∃ W : Nat → Nat → Hp → Prop, (∃ m, W 0 m H2) ∧ ∀ i m H, W i m H →
  (J.stop i H ∧ Q (.bl true) H) ∨ (J.go i H ∧ ∃ m', m = m' + 1 ∧ ∃ Nx : Hp → Prop, (∀ H', Nx H' → ∃ k, k ≤ m' ∧ W (i + 1) k H') ∧ ∀ x H', J.yld i H x H' → g x (wipe σ vs) H' fun σ2 H2 => wipe σ2 vs = wipe σ vs ∧
    te σ2 H2 fun y H3 => ∃ b, y = .bl b ∧ (b = true → Nx H3) ∧ (b = false → Q (.bl false) H3))
section
variable {X : Cx} {elt tg iter : Expr} {scope : Scope} {own : List (Str × Nat)} {T : List (Addr × Str)} {c P : Addr} {p pos gpos : Pos} {wi : TI} {g : TG} {te : TE} {k : Nat}
theorem pe_allG (hr : Room (k + 2) X.A) (hc : X.calm = true) (hN : X.N.Nodup) (hg : Gl X "all") (hm : X.mg "all" = none) (hb : bootBuiltins "all" = some (.builtin "all")) (TB : TabB X.base X.mg c P) (hcode : X.env.code = .ref c)
    (hmT : (P, X.env.qual ++ "<genexpr>") ∈ T) (hu : ∀ p ∈ T, p.1 = P → p.2 = X.env.qual ++ "<genexpr>") (hi : PI X tg iter wi) (ok : BlkOk X.N X.env.scope scope own) (G : GnOk X.env.scope scope)
    (hpg : ∀ A s H C code fp pn, Room k A → PG (gnx X A s H (gEnv X scope C code) fp pn) tg g) (hpe : ∀ A s H C code fp pn, Room k A → PE (gnx X A s H (gEnv X scope C code) fp pn) elt te) (hs : ∀ v, genFold iter X.env v = pure v)
    (he : starEach [.GeneratorExp elt [⟨tg, iter, [], 0⟩] scope gpos] X.env = (false, eval (.GeneratorExp elt [⟨tg, iter, [], 0⟩] scope gpos) X.env) :: starEach [] X.env := by rfl) :
    PE X (.Call (.Name "all" p) [.GeneratorExp elt [⟨tg, iter, [], 0⟩] scope gpos] [] pos) (tAllG T wi g te (own.map (·.2))) := by
  refine ⟨fun pins s σ H Q I h => ?_⟩
  have hfree : ∀ y ∈ scope.names, y.2 = .free → ∃ c, X.env.cells.lookup y.1 = some c := fun y hy e => by
    rcases ok.free y hy e with k | k
    · exact I.ok.has _ (.inl k)
    · exact I.ok.has _ (.inr k)
  refine wpAny_Call_Name_kw (ld_blt I hg hm hb ?_)
  refine PyProof.Rows.callWith_builtin1 ?_ he (by rfl)
  rw [he]
  show wpAny _ _ (spliced ((false, eval (.GeneratorExp elt [⟨tg, iter, [], 0⟩] scope gpos) X.env) :: backTo pos (starEach [] X.env))) _ _ s
  refine Calls.spliced_cons (wpAny_GeneratorExp_make G.co (closure_ok hfree) G.cell G.dot ok.kind hr.depth ?_ hs)
  refine thn (hi.run pins s σ H _ I h) fun xv s1 hx => thn hx fun itv s2 h2 => ?_
  obtain ⟨it, fp, tn, J, H2, rfl, I2, T_, st2, f2, tabs, q⟩ := h2
  refine ⟨I2.nolimit, ?_⟩
  obtain ⟨ps, hP, ht, ha⟩ := tabs _ hmT
  have hP' : s2.heap.get? P = some { cls := .none, data := .fields ps } := I2.hok P _ hP
  have cd : PySem.W.CodeHd s2.heap c P := TB.code.keeps I2.bk
  have sz : ∀ b ∈ fp, b < s2.heap.objs.size := fun b hb => by
    obtain ⟨o, e, _⟩ := T_.obj _ _ st2 b hb
    exact Heap.lt_size e
  have fpP : ∀ b ∈ fp, b ≠ P := fun b hb z => by
    have := (f2 b hb).1
    rw [z, hP] at this
    cases this
  -- behind the code object
  have cont : ∀ (code : Value) (H3 : Hp) (s3 : Shared), Inv X pins σ H3 s3 → ExtN H2 H3 → Tabs T H3 → tn 0 s3.heap → (∀ b ∈ fp, FpOk X pins H3 b ∧ b < s3.heap.objs.size) →
      wpAny (model X.prog X.w) X.A (builtinsFor X.env.globals X.env.builtins) (fun bi s₄ => ∀ h', h'.Ns s₄.heap.objs.size (fun y => if y = ".0" then some (.ref it) else none) → Heap.SameBut s₄.heap.objs.size (s₄.heap.push { cls := .type "frame", data := .dict #[] }) h' →
        wpAny (model X.prog X.w) X.A (spliced (backTo pos (starEach [] X.env))) (fun vs s' => wpAny (model X.prog X.w) X.A (call (.builtin "all") (Value.ref h'.objs.size :: vs)) (EP X pins σ Q) X.xe s') X.xe { s₄ with
            gens := s₄.gens.push (.fresh (.compStart (.GeneratorExp elt [⟨tg, iter, [], 0⟩] scope gpos) 0 (.ref it) .none (genEnv scope (cloFrom X.env.cells scope.names []) s₄.heap.objs.size code bi X.env))),
            toks := s₄.toks + 1 + 1 + 1,
            heap := h'.push { cls := .type "generator", data := .fields #[.int s₄.gens.size 0, .str "<genexpr>" (s₄.toks + 1), .str (X.env.qual ++ "<genexpr>") (s₄.toks + 1 + 1)] } }) X.xe s3 := by
    intro code H3 s3 I3 ext3 tab3 st3 f3
    obtain ⟨bm, ob, e1, e2, e3, e4, e5, e6, e7, e8⟩ := TB.bm
    refine wpAny_builtinsFor (m := X.mg) (by rw [I3.ok.glob]; exact I3.mod.glob.keeps I3.bk) e1 e2 (I3.bk _ _ e5) e6 e7 e8 ?_
    intro h' hns hsb
    have hsz : h'.objs.size = s3.heap.objs.size + 1 := by rw [hsb.1, Heap.size_push]
    generalize hgo : ({ cls := .type "generator", data := .fields #[.int s3.gens.size 0, .str "<genexpr>" (s3.toks + 1), .str (X.env.qual ++ "<genexpr>") (s3.toks + 1 + 1)] } : Obj) = go
    have hgen : ∀ h : Heap, h.get? h'.objs.size = some go → h.IsGen h'.objs.size s3.gens.size := fun h e => ⟨go, _, _, e, by rw [← hgo], by rw [← hgo], by rw [← hgo]⟩
    have hgc : ∀ v, go.data ≠ .cell v := fun v z => by rw [← hgo] at z; cases z
    have hpush : (h'.push go).get? h'.objs.size = some go := by rw [← hgo]; exact Heap.get?_push_size _ rfl
    have keep' : ∀ b o, s3.heap.get? b = some o → h'.get? b = some o := fun b o e => hsb.extBut b o (Nat.ne_of_lt (Heap.lt_size e)) (Heap.get?_push_of_some _ e)
    have keep5 : ∀ b o, s3.heap.get? b = some o → (h'.push go).get? b = some o := fun b o e => Heap.get?_push_of_some _ (keep' b o e)
    generalize ha5 : h'.objs.size = a at hsz hgen hpush ⊢
    generalize hs5 : ({ s3 with
            gens := s3.gens.push (.fresh (.compStart (.GeneratorExp elt [⟨tg, iter, [], 0⟩] scope gpos) 0 (.ref it) .none (genEnv scope (cloFrom X.env.cells scope.names []) s3.heap.objs.size code builtinsNs X.env))),
            toks := s3.toks + 1 + 1 + 1,
            heap := h'.push go } : Shared) = s5
    have h5 : s5.heap = h'.push go := by rw [← hs5]
    have os5 : s5.os = s3.os := by rw [← hs5]
    have gn5 : s5.gens[s3.gens.size]? = some (.fresh (.compStart (.GeneratorExp elt [⟨tg, iter, [], 0⟩] scope gpos) 0 (.ref it) .none (gEnv X scope s3.heap.objs.size code))) := by rw [← hs5]; exact Array.getElem?_push_size ..
    have ba5 : AllBare s5.gens := by rw [← hs5]; exact I3.bare.push rfl
    have kp5 : ∀ b o, s3.heap.get? b = some o → s5.heap.get? b = some o := by rw [h5]; exact keep5
    have I5 : Inv X pins σ H3 s5 := I3.call' (ch := []) os5 (Un.kept kp5) (I3.hok.kept kp5) ba5 fun b z => by simp at z
    clear hs5
    obtain ⟨W, ⟨m0, w0⟩, turn⟩ := q H3 ext3 tab3
    -- the generator's frame
    generalize hcl : Code.compLoop (.GeneratorExp elt [⟨tg, iter, [], 0⟩] scope gpos) 0 (.ref it) .none (gEnv X scope s3.heap.objs.size code) = cl
    have hAf : (X.A.in1.in1.over cl []).frames = some (gEnv X scope s3.heap.objs.size code :: X.stack) := by
      rw [← hcl]
      have e : X.A.in1.in1.frames = some X.stack := I3.ok.frames
      show pushEnvs [gEnv X scope s3.heap.objs.size code] (pushEnvs [] X.A.in1.in1.frames) = _
      rw [e]
      rfl
    have hAr : Room k (X.A.in1.in1.over cl []) := by
      rw [← hcl]
      refine ⟨hr.hd, ?_, ?_⟩
      · have := hr.dp
        show X.A.depth + 1 + 3 * k + 5 < _
        omega
      · have := hr.un
        show X.A.units + 2 + 3 + 16 * k + 200 < _
        omega
    have IG : Inv (gnx X (X.A.in1.in1.over cl []) s3 H3 (gEnv X scope s3.heap.objs.size code) fp [(a, go)]) [] (wipe σ (own.map (·.2))) H3 s5 :=
      gn_start I3 I5 ok G hN f3 hAr.hd hAf kp5 (by rw [h5]; exact hns.push _) os5 (by rw [h5]; exact hpush) (by omega) hgc
    have hal : s3.heap.objs.size < a := by omega
    have R0 : hr.hd = hr.hd := rfl
    have I3' : Inv X pins σ H3 s3 := I3
    -- back in the def's context
    have back : ∀ {ps' : List (Addr × Obj)} {σ' : L2.St} {H' : Hp} {s' : Shared}, Inv (gnx X (X.A.in1.in1.over cl []) s3 H3 (gEnv X scope s3.heap.objs.size code) fp [(a, go)]) ps' σ' H' s' → Inv X pins σ H' s' := fun {ps' σ' H' s'} J => by
      refine I3.call' (ch := fp) J.os J.base J.hok J.bare fun b hb => ⟨(f3 b hb).1.2.2.2.1, (f3 b hb).1.2.1, (f3 b hb).1.2.2.2.2.1, (f3 b hb).1.2.2.2.2.2⟩
    have isg : ∀ {ps' : List (Addr × Obj)} {σ' : L2.St} {H' : Hp} {s' : Shared}, Inv (gnx X (X.A.in1.in1.over cl []) s3 H3 (gEnv X scope s3.heap.objs.size code) fp [(a, go)]) ps' σ' H' s' → s'.heap.IsGen a s3.gens.size := fun {ps' σ' H' s'} J =>
      hgen _ (J.pin (a, go) (List.mem_append_left _ (List.mem_singleton.mpr rfl))).1
    have seg0 : ∀ s'' : Shared, s''.os = s5.os → AllBare s''.gens → s''.heap = s5.heap → Seg (model X.prog X.w) X.A.in1.in1 (fun n s₀ r s₁ => r = .ok .next ∧ GR (gnx X (X.A.in1.in1.over cl []) s3 H3 (gEnv X scope s3.heap.objs.size code) fp [(a, go)]) (fun H => Q (.bl true) H) n s₀ s₁)
        (GY (gnx X (X.A.in1.in1.over cl []) s3 H3 (gEnv X scope s3.heap.objs.size code) fp [(a, go)]) (fun H => Q (.bl false) H)) m0 s'' (.compStart (.GeneratorExp elt [⟨tg, iter, [], 0⟩] scope gpos) 0 (.ref it) .none (gEnv X scope s3.heap.objs.size code))
        ((model X.prog X.w).den (.compStart (.GeneratorExp elt [⟨tg, iter, [], 0⟩] scope gpos) 0 (.ref it) .none (gEnv X scope s3.heap.objs.size code))) [] s'' := fun s'' z1 z2 z3 => by
      have st5 : tn 0 s''.heap := T_.keep _ _ _ st3 fun b _ o e => by rw [z3]; exact kp5 b o e
      refine gn_begin T_ st5 ?_
      refine gn_loop (X := gnx X (X.A.in1.in1.over cl []) s3 H3 (gEnv X scope s3.heap.objs.size code) fp [(a, go)]) (by rw [← hcl]) hc G.co rfl rfl (fun p hp z => ?_) T_ (hpg _ _ _ _ _ _ _ hAr) (hpe _ _ _ _ _ _ _ hAr) turn m0 m0 0 H3 s'' s'' (Nat.le_refl _) (inv_same IG z1 z2 z3) st5 (fun b hb => (f3 b hb).1.1) w0
      rw [List.mem_singleton.mp hp] at z
      exact Nat.lt_irrefl _ (Nat.lt_trans (f3 a z).2 hal)
    refine Calls.spliced_nil ?_
    refine call_function_tree F.kind_all F.plain_all F.entry_all (F.args_all1 _) ?_
    unfold Builtin.«all»
    refine wpAny_bind (m := oneArg "all" _) (wpAny_pure ?_)
    refine wpAny_bind (wpAny_pyIter_gen (isg IG) ?_)
    refine wpAny_pure ⟨plainId_quiet F.plain_all_loop _, ?_⟩
    refine codeAny_mono (all_loop (fun n s => ∃ gs, s.gens[s3.gens.size]? = some gs ∧ (∃ ps' σ' H', Inv (gnx X (X.A.in1.in1.over cl []) s3 H3 (gEnv X scope s3.heap.objs.size code) fp [(a, go)]) ps' σ' H' s) ∧
      gs.Goes (model X.prog X.w) X.A.in1.in1 (fun n s₀ r s₁ => r = .ok .next ∧ GR (gnx X (X.A.in1.in1.over cl []) s3 H3 (gEnv X scope s3.heap.objs.size code) fp [(a, go)]) (fun H => Q (.bl true) H) n s₀ s₁)
        (GY (gnx X (X.A.in1.in1.over cl []) s3 H3 (gEnv X scope s3.heap.objs.size code) fp [(a, go)]) (fun H => Q (.bl false) H)) n (.send .none) (s.setGen s3.gens.size .running))
      (fun s' => ∃ H', Inv X pins σ H' s' ∧ Q (.bl true) H') (fun s' => ∃ H', Inv X pins σ H' s' ∧ Q (.bl false) H') ?_ m0 s5 ⟨_, gn5, ⟨_, _, _, IG⟩, rfl, seg0 _ rfl (bare_setGen ba5 rfl) rfl⟩) fun r s' h => ?_
    · rintro n s ⟨gs, hgs, ⟨ps', σ', H', J⟩, hgo2⟩
      have hsize : s3.gens.size + 1 ≤ s.gens.size := by
        rcases Nat.lt_or_ge s3.gens.size s.gens.size with z | z
        · exact z
        · rw [Array.getElem?_eq_none z] at hgs
          cases hgs
      refine GenW.wpAny_gsz hsize ?_
      refine wpAny_pyNext_genexpQ (P := GR (gnx X (X.A.in1.in1.over cl []) s3 H3 (gEnv X scope s3.heap.objs.size code) fp [(a, go)]) (fun H => Q (.bl true) H)) hr.hd J.nolimit hr.depth (isg J) hgs hgo2 (fun v s₁ gs' hb hv => ?_) (fun s₁ hp h'' hk => ?_)
      · obtain ⟨b, H4, rfl, ⟨ps4, σ4, J4⟩, hf, ht⟩ := hv
        intro hsz4
        have J5 : Inv (gnx X (X.A.in1.in1.over cl []) s3 H3 (gEnv X scope s3.heap.objs.size code) fp [(a, go)]) ps4 σ4 H4 (s₁.setGen s3.gens.size gs') := inv_same J4 rfl (bare_setGen J4.bare hb) rfl
        refine ⟨b, rfl, fun e => ⟨H4, back J5, hf e⟩, fun e => ?_⟩
        have kk := ht e ((s₁.setGen s3.gens.size gs').setGen s3.gens.size .running) rfl (bare_setGen J5.bare rfl) rfl
        cases n with
        | zero => exact kk.elim
        | succ n =>
          have hlt : s3.gens.size < (s₁.setGen s3.gens.size gs').gens.size := hsz4
          refine ⟨n, Nat.lt_succ_self n, gs', ?_, ⟨_, _, _, J5⟩, kk⟩
          have hlt' : s3.gens.size < s₁.gens.size := by
            have : (s₁.setGen s3.gens.size gs').gens.size = s₁.gens.size := by simp [Shared.setGen]
            omega
          exact setGen_self (Array.getElem?_eq_getElem hlt')
      · obtain ⟨ps4, σ4, H4, J4, qq⟩ := hp
        intro _
        have J5 : Inv (gnx X (X.A.in1.in1.over cl []) s3 H3 (gEnv X scope s3.heap.objs.size code) fp [(a, go)]) ps4 σ4 H4 (s₁.setGen s3.gens.size .finished) := inv_same J4 rfl (bare_setGen J4.bare rfl) rfl
        exact ⟨H4, (back J5).kept hk, qq⟩
    · rcases h with ⟨rfl, H', J, qq⟩ | ⟨rfl, H', J, qq⟩
      · exact ⟨.bl true, H', J, rfl, qq⟩
      · exact ⟨.bl false, H', J, rfl, qq⟩
  cases hf : codeAmong gpos ps.toList with
  | none =>
    refine wpAny_genexprCodeX hcode (cd.code hP' ht) (cd.tab hP') hf fun c' h' tk hx hge hlt hco' hrec htab' _ => ?_
    obtain ⟨c2, oc, vs, t, e2, hoc, hd, hv⟩ := hrec
    cases e2
    have nC : H2 c' = none := I2.hok.fresh hge
    have I3 := inv_table (t' := tk) (more := #[rawInt gpos.line, rawInt gpos.col, .ref c']) (h' := h') I2 hP hx htab'.2 hge ⟨oc, vs, t, hoc, hd, hv⟩
    have hE : ExtN H2 (upd (upd H2 P (.tbl (ps ++ #[rawInt gpos.line, rawInt gpos.col, .ref c']))) c' (CodeO c' (X.env.qual ++ "<genexpr>"))) := fun b o e n => by
      rw [upd_ne (ne_of_none e nC), upd_ne (fun z => n ps (Option.some.inj (e.symm.trans (by rw [z]; exact hP))))]
      exact e
    have eL : (ps ++ #[rawInt gpos.line, rawInt gpos.col, .ref c']).toList = ps.toList ++ [rawInt gpos.line, rawInt gpos.col, .ref c'] := by simp
    refine cont _ _ _ I3 hE (fun p hp => ?_) (T_.keep _ _ _ st2 fun b hb o e => hx b o (fpP b hb) e) fun b hb => ⟨⟨?_, (f2 b hb).2⟩, ?_⟩
    · by_cases hb : p.1 = P
      · rw [hu p hp hb, hb]
        refine ⟨_, by rw [upd_ne (ne_of_none hP nC), upd_same], by rw [eL]; exact PySem.TriplesOk_snoc _ _ _ _ ht, fun p' cv hcv => ?_⟩
        rw [eL] at hcv
        rcases among_app _ ht hcv with z | z
        · obtain ⟨c0, e1, e2⟩ := ha p' cv z
          exact ⟨c0, e1, hE _ _ e2 codeO_ne⟩
        · exact ⟨c', z, upd_same⟩
      · obtain ⟨ps', a1, a2, a3⟩ := tabs p hp
        refine ⟨ps', by rw [upd_ne (ne_of_none a1 nC), upd_ne hb]; exact a1, a2, fun p' cv hcv => ?_⟩
        obtain ⟨c0, e1, e2⟩ := a3 p' cv hcv
        exact ⟨c0, e1, hE _ _ e2 codeO_ne⟩
    · have hlt2 := sz b hb
      rw [upd_ne (Nat.ne_of_lt (Nat.lt_of_lt_of_le hlt2 hge)), upd_ne (fpP b hb)]
      exact (f2 b hb).1
    · exact Nat.lt_of_lt_of_le (sz b hb) (Nat.le_trans hge (Nat.le_of_lt hlt))
  | some cv =>
    refine wpAny_genexprCode_hit hcode (cd.code hP' ht) hf ?_
    exact cont cv H2 s2 I2 (ExtN.refl H2) tabs st2 fun b hb => ⟨f2 b hb, sz b hb⟩
end
end GenZ

end
section
set_option Elab.async false
set_option linter.all false
set_option maxRecDepth 100000
set_option maxHeartbeats 4000000
namespace Ms
open PySem PySem.Spec PyProof.Rows L2
/-! ### all(.. for .. in ..) -/
def allGo (b : Bd) (δ : List (Option D)) (F : Fn D) : List D → Sto → Res D
  | [], bx => .ok (.bl true) bx
  | d :: r, bx => match b bx δ d with
    | none => .bad
    | some δ1 => match F δ1 bx with
      | .ok (.bl true) bx1 => allGo b δ F r bx1
      | .ok (.bl false) bx1 => .ok (.bl false) bx1
      | _ => .bad
def fAllG (is : List Nat) (b : Bd) (Fi : Fn (List D)) (F : Fn D) : Fn D := bnd Fi fun ds => fun δ bx => allGo b (unset is δ) F ds bx
theorem Good.extN {K : PySem.W.Frag} {T : List (Addr × Str)} {β : Mu} {st : Sto} {H H' : Hp} (g : Good K T β st H) (x : ∀ b o, H b = some o → (∀ ps, o ≠ .tbl ps) → H' b = some o) (t : LamX.Tabs T H') : Good K T β st H' :=
  ⟨g.ln, fun k a b h => by
    obtain ⟨c, h1, h2⟩ := g.cs k a b h
    exact ⟨c, h1, h2.le (.ext x) fun xs z => x _ _ z (fun ps z => by cases z)⟩, g.inj, fun k a b h => by
    obtain ⟨o, z, t⟩ := g.sm k a b h
    exact ⟨o, x _ _ z t, t⟩, fun e he => by
    obtain ⟨⟨l, h⟩, n⟩ := g.ex e he
    exact ⟨⟨l, x _ _ h (fun ps z => by cases z)⟩, n⟩, t⟩
theorem tAll_of {K : PySem.W.Frag} {P : Pm} {E : XK} {t : TG} {is : List Nat} {b : Bd} {Fi : Fn (List D)} {F : Fn D} (hgd : GD K t is b) : ∀ σ H Q, tD K P E (fAllG is b Fi F) σ H Q → GenZ.tAllG P.T (tDL K P E Fi) t (tD K P E F) is σ H Q := by
  rintro σ H Q ⟨β, δ, bx, ev, g, o⟩
  have o2 := x_bind o.x
  refine ⟨β, δ, bx, ev, g, ?_⟩
  cases hF : Fi δ bx with
  | bad =>
    rw [hF] at o2
    exact o2
  | err c d bx' =>
    rw [hF] at o2
    exact o2
  | ok ds bx1 =>
    rw [hF] at o2
    intro β1 H1 l1 g1 _ J wk
    refine ⟨g1.tb, fun H2 x t2 => ?_⟩
    have o3 := o2 β1 H1 l1 g1 l1
    have lx : Le β1 H1 β1 H2 := .ext x
    refine ⟨fun i m Hc => m = ds.length - i ∧ i ≤ ds.length ∧ ∃ βi bx', Le β1 H1 βi Hc ∧ Ev K βi Hc (wipe σ is) (Ms.unset is δ) ∧ Good K P.T βi bx' Hc ∧ OutX P K β1 H1 (allGo b (Ms.unset is δ) F (ds.drop i) bx') E fun d β' _ H' => ∀ v, R K β' H' v d → Q v H',
      ⟨ds.length, rfl, Nat.zero_le _, β1, bx1, lx, ((ev.le l1).le lx).unset is, g1.extN x t2, by simpa using o3⟩, ?_⟩
    rintro i m Hi ⟨rfl, hi, βi, bx', li, evi, gi, oi⟩
    by_cases hlt : i < ds.length
    · refine .inr ⟨wk.goes i βi bx' Hi hlt li gi, ds.length - (i + 1), by omega, fun Hc => ∃ βi bx', Le β1 H1 βi Hc ∧ Ev K βi Hc (wipe σ is) (Ms.unset is δ) ∧ Good K P.T βi bx' Hc ∧ OutX P K β1 H1 (allGo b (Ms.unset is δ) F (ds.drop (i + 1)) bx') E fun d β' _ H' => ∀ v, R K β' H' v d → Q v H',
        fun H2 h => ⟨ds.length - (i + 1), Nat.le_refl _, rfl, hlt, h⟩, fun x H2 y => ?_⟩
      have hdi : ds[i]? = some ds[i] := List.getElem?_eq_getElem hlt
      obtain ⟨kp, rx⟩ := wk.yields i _ βi bx' Hi x H2 hdi li gi y
      have lk : Le βi Hi βi H2 := .of kp
      rw [List.drop_eq_getElem_cons hlt] at oi
      simp only [allGo] at oi
      cases hbd : b bx' (Ms.unset is δ) ds[i] with
      | none =>
        rw [hbd] at oi
        exact oi.elim
      | some δ1 =>
        rw [hbd] at oi
        dsimp only at oi
        refine hgd P.T βi bx' _ δ1 _ H2 x _ _ (evi.le lk) (gi.ext kp) rx hbd fun σ3 ev3 hw => ?_
        refine ⟨(hw is fun _ h => h).trans (wipe_wipe σ is), βi, δ1, bx', ev3, gi.ext kp, ?_⟩
        cases hE : F δ1 bx' with
        | bad =>
          rw [hE] at oi
          exact oi
        | err c d b =>
          rw [hE] at oi
          exact oi.elim
        | ok d bx3 =>
          rw [hE] at oi
          intro β4 y H4 l4 g4 ry
          cases d with
          | bl c =>
            cases c with
            | true => exact ⟨true, ry.bl_inv, fun _ => ⟨β4, bx3, (li.trans lk).trans l4, (evi.le lk).le l4, g4, oi⟩, fun z => nomatch z⟩
            | false => exact ⟨false, ry.bl_inv, (fun z => nomatch z), fun _ => oi β4 H4 ((li.trans lk).trans l4) g4 _ (.bl false)⟩
          | _ => exact oi.elim
    · have e : i = ds.length := by omega
      subst e
      rw [List.drop_length] at oi
      exact .inl ⟨wk.stops βi bx' Hi li gi, oi βi Hi li gi _ (.bl true)⟩
section
variable {X : Cx} {elt tg iter : Expr} {scope : Scope} {own : List (Str × Nat)} {P : Pm} {E : XK} {c Pt : Addr} {p pos gpos : Pos} {t : TG} {b : Bd} {Fi : Fn (List D)} {F : Fn D} {k : Nat}
theorem ed_allG (hr : Room (k + 2) X.A) (hc : X.calm = true) (hN : X.N.Nodup) (hg : Gl X "all") (hm : X.mg "all" = none) (hb : bootBuiltins "all" = some (.builtin "all")) (TB : LamX.TabB X.base X.mg c Pt) (hcode : X.env.code = .ref c)
    (hmT : (Pt, X.env.qual ++ "<genexpr>") ∈ P.T) (hu : ∀ p ∈ P.T, p.1 = Pt → p.2 = X.env.qual ++ "<genexpr>") (hi : EI X P E tg iter Fi) (ok : BlkOk X.N X.env.scope scope own) (G : GenZ.GnOk X.env.scope scope) (hgd : GD X.K t (own.map (·.2)) b)
    (hpg : ∀ A s H C code fp pn, Room k A → PG (GenZ.gnx X A s H (GenZ.gEnv X scope C code) fp pn) tg t) (hpe : ∀ A s H C code fp pn, Room k A → ED (GenZ.gnx X A s H (GenZ.gEnv X scope C code) fp pn) P E elt F) (hs : ∀ v, genFold iter X.env v = pure v)
    (he : starEach [.GeneratorExp elt [⟨tg, iter, [], 0⟩] scope gpos] X.env = (false, eval (.GeneratorExp elt [⟨tg, iter, [], 0⟩] scope gpos) X.env) :: starEach [] X.env := by rfl) :
    ED X P E (.Call (.Name "all" p) [.GeneratorExp elt [⟨tg, iter, [], 0⟩] scope gpos] [] pos) (fAllG (own.map (·.2)) b Fi F) :=
  pe_imp (GenZ.pe_allG hr hc hN hg hm hb TB hcode hmT hu hi ok G hpg hpe hs he) (tAll_of hgd)
end
end Ms

end
section
set_option Elab.async false
set_option linter.all false
set_option maxRecDepth 100000
set_option maxHeartbeats 4000000
namespace Ms
open PySem PySem.Spec PyProof.Rows L2
/-! ### defs, by whether nothing may be being shown where they are called -/
structure FnB (gd : Bool) (Pg : Program) (w : World) (K : PySem.W.Frag) (mg : Str → Option Value) (base : Heap) (CX : CXT) (k : Nat) (f : Addr) (fd : FuncData) (ps : List Str) (sp : Sp) : Prop where
  len : ∀ vs H Q E, sp vs H Q E → vs.length = ps.length
  run : ∀ (A : Around) (outer : List Env) (s : Shared) (H : Hp) (args : Args) (us : List Value) (vs : List V) (Q : VK) (E : XK), (gd = true → A.guards = some []) → Room k A → Env0 Pg w K mg base A outer s H → BindsTo s fd args (ps.zip us) → Vals vs us → sp vs H Q E →
    codeAny (model Pg w) A (.call (.ref f) args) (CR CX outer Pg w H s Q E) s
structure DfB (gd : Bool) (Pg : Program) (w : World) (K : PySem.W.Frag) (mg : Str → Option Value) (base : Heap) (P : Pm) (CX : CXT) (j : Nat) (x : Str) (st : Stmt) (ps : List Str) (m : List D → Sto → Res D) : Prop where
  ex : ∃ (f : Addr) (fd : FuncData), mg x = some (.ref f) ∧ Fun K x x st f fd ∧ L2.Binds K fd ps [] ∧ FnB gd Pg w K mg base CX j f fd ps (spD K P ps.length m)
section
variable {X : Cx} {P : Pm} {E : XK} {pos : Pos} {es : List Expr} {A : Fn (List D)} {CX : CXT} {k : Nat} {st : Stmt} {ps : List Str} {m : List D → Sto → Res D} {x : Str} {p : Pos} {e : Expr} {gd : Bool} {kws : List Keyword}
theorem ed_callB (hga : gd = true → X.A.guards = some []) (d : DfB gd X.prog X.w X.K X.mg X.base P CX k x st ps m) (hr : Room k X.A) (hx : Passes CX X E) (hg : Gl X x) (ha : EA X P E (e :: es) A) (hA : ∀ δ bx ds bx', A δ bx = .ok ds bx' → ds.length = ps.length)
    (hdb : (x == ("__debug__" : Str)) = false := by decide) (he : starEach (e :: es) X.env = (false, eval e X.env) :: starEach es X.env := by rfl) (hpl : (backTo pos (starEach es X.env)).any (·.1) = false := by rfl) :
    ED X P E (.Call (.Name x p) (e :: es) [] pos) (fCall m A) := by
  obtain ⟨f, fd, hm, hF, hb, F⟩ := d.ex
  refine ⟨fun pins s σ H Q I h => ?_⟩
  obtain ⟨β, δ, bx, ev, gd, o⟩ := h
  have o2 := x_bind o.x
  have h' : (tDA X.K P E A) σ H fun zs H1 => spD X.K P ps.length m zs H1 Q E := by
    refine ⟨β, δ, bx, ev, gd, ?_⟩
    cases hF : A δ bx with
    | ok ds bx' =>
      rw [hF] at o2
      exact fun β' vs H' l g' r => ⟨β', ds, bx', by rw [r.length]; exact hA _ _ _ _ hF, r, g', (o2 β' H' l g' l).out⟩
    | err c d bx' =>
      rw [hF] at o2
      exact o2
    | bad =>
      rw [hF] at o2
      exact o2
  refine wpAny_Call_Name_kw (ld_glob I hg hm ?_ hdb)
  refine PySem.W.callWith_K (h₀ := X.base) I.ok.mod.kin hF.kp (thn (ha.run pos pins s σ H _ I h') fun us s1 hs => ?_) he hpl
  obtain ⟨vs, H1, I1, r, q⟩ := hs
  refine ⟨I1.kIn, ?_⟩
  have hl : us.length = ps.length := by rw [← r.length]; exact F.len _ _ _ _ q
  have hbb := hb s1 us I1.kIn (by rw [List.append_nil]; exact hl)
  rw [List.append_nil] at hbb
  show wpAny _ _ (call (.ref f) us) _ _ _
  refine wpAny_call (codeAny_mono (F.run X.A X.stack s1 H1 ⟨us, []⟩ us vs Q E hga hr I1.env0 hbb r q) fun rr s' hq => ?_)
  match rr, hq with
  | .error er, hq => exact hx pins σ H1 s1 er s' I1 hq
  | .ok fl, hq =>
    cases fl
    all_goals first
      | exact I1.after hq
      | exact False.elim hq
theorem ed_callB0 (hga : gd = true → X.A.guards = some []) (d : DfB gd X.prog X.w X.K X.mg X.base P CX k x st [] m) (hr : Room k X.A) (hx : Passes CX X E) (hg : Gl X x) (hdb : (x == ("__debug__" : Str)) = false := by decide) :
    ED X P E (.Call (.Name x p) [] [] pos) (fCall m (pur [])) := by
  obtain ⟨f, fd, hm, hF, hb, F⟩ := d.ex
  refine ⟨fun pins s σ H Q I h => ?_⟩
  obtain ⟨β, δ, bx, ev, gd, o⟩ := h
  have h' : spD X.K P ([] : List Str).length m [] H Q E := ⟨β, [], bx, rfl, .nil, gd, o⟩
  refine wpAny_Call_Name_kw (ld_glob I hg hm ?_ hdb)
  refine PySem.W.callWith_K0 I.kIn hF.kp ?_
  have hbb := hb s [] I.kIn rfl
  show wpAny _ _ (call (.ref f) []) _ _ _
  refine wpAny_call (codeAny_mono (F.run X.A X.stack s H ⟨[], []⟩ [] [] Q E hga hr I.env0 hbb .nil h') fun rr s' hq => ?_)
  match rr, hq with
  | .error er, hq => exact hx pins σ H s er s' I hq
  | .ok fl, hq =>
    cases fl
    all_goals first
      | exact I.after hq
      | exact False.elim hq
theorem ed_callBK {ks : List Str} (π : List Nat) (hga : gd = true → X.A.guards = some []) (d : DfB gd X.prog X.w X.K X.mg X.base P CX k x st ps m) (hr : Room k X.A) (hx : Passes CX X E) (hg : Gl X x)
    (hb : ∀ (kV doc pm : Value) (an : Option Addr) (cdv ct : Value) (ws : List Value), ws.length = ks.length → bindArgs (PySem.W.fnOf x x (defArgs st) (defBody st) (defScope st) .none kV doc pm an cdv ct) ⟨[], ks.zip ws⟩ = pure (ps.zip (pick .none π ws)))
    (ha : EK X P E kws A) (hA : ∀ δ bx ds bx', A δ bx = .ok ds bx' → ds.length = ks.length) (hp : π.length = ps.length := by rfl) (hall : (backToKw pos (keywordEach kws X.env)).all (·.1.isSome) = true := by rfl) (hks : (backToKw pos (keywordEach kws X.env)).filterMap (·.1) = ks := by rfl)
    (hdb : (x == ("__debug__" : Str)) = false := by decide) (hpl : ((backTo pos (starEach [] X.env)).any (·.1) || (backToKw pos (keywordEach kws X.env)).any (·.1.isNone)) = false := by rfl) :
    ED X P E (.Call (.Name x p) [] kws pos) (fCallK m π A) := by
  obtain ⟨f, fd, hm, h2, hb0, F⟩ := d.ex
  have hbk := bindsK h2 hb
  refine ⟨fun pins s σ H Q I h => ?_⟩
  obtain ⟨β, δ, bx, ev, gd, o⟩ := h
  have o2 := x_bind o.x
  have h' : (tDA X.K P E A) σ H fun zs H1 => ∃ β ds bx, zs.length = ks.length ∧ RA X.K β H1 zs ds ∧ Good X.K P.T β bx H1 ∧ Out X.K P β H1 (m (pick .non π ds) bx) Q E := by
    refine ⟨β, δ, bx, ev, gd, ?_⟩
    cases hF : A δ bx with
    | ok ds bx' =>
      rw [hF] at o2
      exact fun β' vs H' l g' r => ⟨β', ds, bx', by rw [r.length]; exact hA _ _ _ _ hF, r, g', (o2 β' H' l g' l).out⟩
    | err c d bx' =>
      rw [hF] at o2
      exact o2
    | bad =>
      rw [hF] at o2
      exact o2
  refine wpAny_Call_Name_kw (ld_glob I hg hm ?_ hdb)
  refine PySem.W.callWith_KW0 (h₀ := X.base) I.ok.mod.kin h2.kp hall ?_ hpl
  refine thn (ha.run pos pins s σ H _ I h') fun ws s2 ⟨zs, H2, I2, rz, β2, ds, bx2, hl, ra, g2, o3⟩ => ⟨I2.kIn, ?_⟩
  rw [hks]
  have hl2 : ws.length = ks.length := by rw [← rz.length]; exact hl
  refine wpAny_call (codeAny_mono (F.run X.A X.stack s2 H2 ⟨[] ++ [], ks.zip ws⟩ (pick .none π ws) (pick .non π zs) Q E hga hr I2.env0 (hbk s2 ws I2.kIn hl2) (vals_pick rz π) ⟨β2, pick .non π ds, bx2, by unfold pick; rw [List.length_map]; exact hp, ra_pick ra π, g2, o3⟩) fun r s' hq => ?_)
  cases r with
  | error e => exact hx pins σ H2 s2 e s' I2 hq
  | ok fl =>
    cases fl with
    | ret u => exact I2.after hq
    | next => exact False.elim hq
    | brk => exact False.elim hq
    | cont => exact False.elim hq
end
section
variable {Pg : Program} {w : World} {K : PySem.W.Frag} {mg : Str → Option Value} {base : Heap} {P : Pm} {gd : Bool}
variable {x : Str} {st : Stmt} {f : Addr} {kV doc pm cdv ct oc : Value} {an od : Option Addr} {osl : Array (Option Value)} {N ps : List Str} {k : Nat} {S : Sn}
/-- a def that lets no error out -/
theorem df_B0 (lk : K.lookup f = some ⟨oc, od, .func (PySem.W.fnOf x x (defArgs st) (defBody st) (defScope st) .none kV doc pm an cdv ct), osl⟩) (hcd : PySem.W.codeIn K cdv x = true) (kp : PySem.W.keepIn K (.ref f) = true) (hm : mg x = some (.ref f)) (sc : FnScope N ps (defScope st))
    (hbd : ∀ (kV doc pm : Value) (an : Option Addr) (cdv ct : Value) (us : List Value), us.length = ps.length → bindArgs (PySem.W.fnOf x x (defArgs st) (defBody st) (defScope st) .none kV doc pm an cdv ct) ⟨us, []⟩ = pure (ps.zip us))
    (hb : ∀ (A : Around) (outer : List Env) (s : Shared) (H : Hp), (gd = true → A.guards = some []) → Room k (A.deeper (envOfC x (defScope st) s.heap.objs.size f cdv)) →
      SSD (cxOf CX0 Pg w K mg base N x (defScope st) f cdv A outer s H E0).nox P E0 (defBody st) S) :
    DfB gd Pg w K mg base P CX0 (k + 1) x st ps (fun ds bx => noErr (fnD N S ds bx)) := by
  have F0 := fun_mk (st := st) lk hcd kp
  refine ⟨f, _, hm, F0, F0.binds hbd, fun vs H Q E h => spD_len _ _ _ _ h, fun A outer s H args us vs Q E hg hr e0 hbn r h => ?_⟩
  have hs : spD K P ps.length (fnD N S) vs H Q E0 := by
    obtain ⟨β, ds, bx, h1, h2, h3, o⟩ := h
    refine ⟨β, ds, bx, h1, h2, h3, ?_⟩
    replace o : Out K P β H (noErr (fnD N S ds bx)) Q E := o
    cases hF : fnD N S ds bx with
    | ok d bx' =>
      rw [hF] at o
      exact o
    | err c d bx' =>
      rw [hF] at o
      exact o.elim
    | bad =>
      rw [hF] at o
      exact o
  have z := LamX.run_ofS (CX := CX0) (E := E0) (Q := Q) lk hcd sc hr e0 hbn r (spD_len _ _ _ _ h) fun hr' => ⟨tDS K P E0 S, (hb A outer s H hg hr').nox, fn_end hs⟩
  refine codeAny_mono z fun rr s' hq => ?_
  match rr, hq with
  | .ok _, hq => exact hq
  | .error _, hq => exact False.elim hq
/-- a def that may raise -/
theorem df_BX (lk : K.lookup f = some ⟨oc, od, .func (PySem.W.fnOf x x (defArgs st) (defBody st) (defScope st) .none kV doc pm an cdv ct), osl⟩) (hcd : PySem.W.codeIn K cdv x = true) (kp : PySem.W.keepIn K (.ref f) = true) (hm : mg x = some (.ref f)) (sc : FnScope N ps (defScope st))
    (hbd : ∀ (kV doc pm : Value) (an : Option Addr) (cdv ct : Value) (us : List Value), us.length = ps.length → bindArgs (PySem.W.fnOf x x (defArgs st) (defBody st) (defScope st) .none kV doc pm an cdv ct) ⟨us, []⟩ = pure (ps.zip us))
    (hb : ∀ (A : Around) (outer : List Env) (s : Shared) (H : Hp) (E : XK), (gd = true → A.guards = some []) → Room k (A.deeper (envOfC x (defScope st) s.heap.objs.size f cdv)) →
      SSD (cxOf (L2.CX Pg w) Pg w K mg base N x (defScope st) f cdv A outer s H E) P E (defBody st) S) :
    DfB gd Pg w K mg base P (L2.CX Pg w) (k + 1) x st ps (fnD N S) := by
  have F0 := fun_mk (st := st) lk hcd kp
  refine ⟨f, _, hm, F0, F0.binds hbd, fun vs H Q E h => spD_len _ _ _ _ h, fun A outer s H args us vs Q E hg hr e0 hbn r h => ?_⟩
  exact LamX.run_ofS (CX := L2.CX Pg w) (E := E) (Q := Q) lk hcd sc hr e0 hbn r (spD_len _ _ _ _ h) fun hr' => ⟨tDS K P E S, hb A outer s H E hg hr', fn_end h⟩
end
/-! ### what else is written in the texts -/
section
variable {X : Cx} {P : Pm} {E : XK} {pos : Pos} {a b : Expr} {F G : Fn D} {es : List Expr} {A : Fn (List D)}
def cIsB (neg : Bool) : Sto → D → D → Option D
  | _, .bl i, .bl j => some (.bl (if neg then !decide (i = j) else decide (i = j)))
  | _, _, _ => none
theorem opd_isB : OpD X P (fun x y H Q => ∃ a b, x = .bl a ∧ y = .bl b ∧ Q (.bl (decide (a = b))) H) (cIsB false) := by
  intro β bx H x y d e z Q g rx ry h k
  unfold cIsB at h
  split at h
  · cases h
    exact ⟨_, _, rx.bl_inv, ry.bl_inv, k _ H .refl g (.bl _)⟩
  · cases h
theorem opd_notB : OpD X P (fun x y H Q => ∃ a b, x = .bl a ∧ y = .bl b ∧ Q (.bl (!decide (a = b))) H) (cIsB true) := by
  intro β bx H x y d e z Q g rx ry h k
  unfold cIsB at h
  split at h
  · cases h
    exact ⟨_, _, rx.bl_inv, ry.bl_inv, k _ H .refl g (.bl _)⟩
  · cases h
theorem ed_isB (ha : ED X P E a F) (hb : ED X P E b G) : ED X P E (.Compare a [.Is] [b] pos) (f2 (cIsB false) F G) := ed_cmp op_isBl opd_isB ha hb (nomark _)
theorem ed_notB (ha : ED X P E a F) (hb : ED X P E b G) : ED X P E (.Compare a [.IsNot] [b] pos) (f2 (cIsB true) F G) := ed_cmp op_notBl opd_notB ha hb (nomark _)
theorem et_isB (ha : ED X P E a F) (hb : ED X P E b G) : ET X P E (.Compare a [.Is] [b] pos) (fB (f2 (cIsB false) F G)) := et_cmp op_isBl opd_isB ha hb (nomark _)
theorem et_notB (ha : ED X P E a F) (hb : ED X P E b G) : ET X P E (.Compare a [.IsNot] [b] pos) (fB (f2 (cIsB true) F G)) := et_cmp op_notBl opd_notB ha hb (nomark _)
/-- all(xs) of a list of answers -/
def toBls : List D → Option (List Bool)
  | [] => some []
  | .bl b :: r => (toBls r).map (b :: ·)
  | _ => none
theorem toBls_inv : ∀ {l : List D} {ns : List Bool}, toBls l = some ns → l = ns.map D.bl
  | [], ns, h => by cases h; rfl
  | .bl i :: r, ns, h => by
    simp only [toBls] at h
    cases hr : toBls r with
    | none => rw [hr] at h; cases h
    | some ms =>
      rw [hr] at h
      cases h
      rw [toBls_inv hr]
      rfl
  | .non :: _, _, h => by cases h
  | .int _ :: _, _, h => by cases h
  | .str _ :: _, _, h => by cases h
  | .lst _ :: _, _, h => by cases h
  | .tup _ :: _, _, h => by cases h
  | .ref _ :: _, _, h => by cases h
  | .fn _ :: _, _, h => by cases h
  | .scr _ :: _, _, h => by cases h
theorem toBls_map : ∀ ns : List Bool, toBls (ns.map D.bl) = some ns
  | [] => rfl
  | n :: r => by simp only [List.map_cons, toBls, toBls_map r, Option.map_some]
theorem RA.bls_inv {K : PySem.W.Frag} {β : Mu} {H : Hp} : ∀ {ns : List Bool} {vs : List V}, RA K β H vs (ns.map D.bl) → vs = ns.map V.bl
  | [], _, h => by cases h; rfl
  | n :: r, _, h => by
    cases h with
    | cons a b => rw [a.bl_inv, RA.bls_inv b]; rfl
def cAll (st : Sto) : List D → Option D
  | [d] => ((vl st d).bind toBls).map fun bs => .bl (bs.all id)
  | _ => none
theorem cd_all : CallD X P (rAll X.K) cAll := by
  intro β bx H xs ds z Q g r h k
  unfold cAll at h
  split at h
  · rename_i d
    obtain ⟨v, rfl, r1⟩ := r.one
    cases hl : vl bx d with
    | none => rw [hl] at h; cases h
    | some l =>
      rw [hl] at h
      replace h : (toBls l).map (fun bs => D.bl (bs.all id)) = some z := h
      cases hb : toBls l with
      | none => rw [hb] at h; cases h
      | some bs =>
        rw [hb] at h
        cases h
        have e := toBls_inv hb
        subst e
        obtain ⟨a, xs, rfl, s, ra⟩ := r1.vl g hl
        rw [ra.bls_inv] at s
        exact ⟨a, bs, rfl, .inl s, k _ H .refl g (.bl _)⟩
  · cases h
end
end Ms
namespace Ms
theorem noG {p : Prop} : (false = true → p) := fun z => nomatch z
theorem yesG {p : Prop} (h : p) : (true = true → p) := fun _ => h
end Ms

end
section
set_option Elab.async false
set_option linter.all false
set_option maxRecDepth 100000
set_option maxHeartbeats 4000000
namespace Ms
open PySem PySem.Spec PyProof.Rows L2
/-! ### what a mirror comes to, by what is wanted of it -/
def W {α : Type} (r : Res α) (Q : α → Sto → Prop) (E : Str → D → Sto → Prop) : Prop := match r with
  | .ok a bx => Q a bx
  | .err c d bx => E c d bx
  | .bad => False
def WS (r : Rs) (N : List (Option D) → Sto → Prop) (R : D → Sto → Prop) (E : Str → D → Sto → Prop) : Prop := match r with
  | .nx δ bx => N δ bx
  | .rt d bx => R d bx
  | .er c d bx => E c d bx
  | .bad => False
abbrev NoE : Str → D → Sto → Prop := fun _ _ _ => False
section
variable {α γ : Type} {δ : List (Option D)} {bx : Sto} {Q : α → Sto → Prop} {E : Str → D → Sto → Prop} {N : List (Option D) → Sto → Prop} {Rt : D → Sto → Prop}
theorem W.imp {r : Res α} {Q' : α → Sto → Prop} {E' : Str → D → Sto → Prop} (h : W r Q E) (k : ∀ a bx, Q a bx → Q' a bx) (e : ∀ c d bx, E c d bx → E' c d bx) : W r Q' E' := by
  cases r with
  | ok a bx => exact k _ _ h
  | err c d bx => exact e _ _ _ h
  | bad => exact h
theorem W.to {r : Res α} {Q' : α → Sto → Prop} {E' : Str → D → Sto → Prop} (h : W r Q NoE) (k : ∀ a bx, Q a bx → Q' a bx) : W r Q' E' := h.imp k fun _ _ _ z => z.elim
theorem WS.imp {r : Rs} {N' : List (Option D) → Sto → Prop} {R' : D → Sto → Prop} {E' : Str → D → Sto → Prop} (h : WS r N Rt E) (n : ∀ δ bx, N δ bx → N' δ bx) (k : ∀ a bx, Rt a bx → R' a bx) (e : ∀ c d bx, E c d bx → E' c d bx) : WS r N' R' E' := by
  cases r with
  | nx δ bx => exact n _ _ h
  | rt a bx => exact k _ _ h
  | er c d bx => exact e _ _ _ h
  | bad => exact h
theorem W.ok_iff {r : Res α} : (∃ a bx, r = .ok a bx ∧ Q a bx) ↔ W r Q NoE := by
  cases r with
  | ok a bx => exact ⟨fun ⟨_, _, e, h⟩ => by cases e; exact h, fun h => ⟨a, bx, rfl, h⟩⟩
  | err c d bx => exact ⟨fun ⟨_, _, e, _⟩ => (nomatch e), fun h => h.elim⟩
  | bad => exact ⟨fun ⟨_, _, e, _⟩ => (nomatch e), fun h => h.elim⟩
theorem W_ok {a : α} : W (.ok a bx) Q E ↔ Q a bx := Iff.rfl
theorem W_err {c : Str} {d : D} : W (.err c d bx : Res α) Q E ↔ E c d bx := Iff.rfl
theorem W_bad : W (.bad : Res α) Q E ↔ False := Iff.rfl
theorem W_pur {a : α} : W (pur a δ bx) Q E ↔ Q a bx := Iff.rfl
theorem W_bnd {F : Fn γ} {G : γ → Fn α} : W (bnd F G δ bx) Q E ↔ W (F δ bx) (fun a bx' => W (G a δ bx') Q E) E := by
  unfold bnd
  cases F δ bx <;> rfl
theorem W_lft {o : Option α} : W (lft o δ bx) Q E ↔ ∃ a, o = some a ∧ Q a bx := by
  cases o with
  | none => exact ⟨fun h => h.elim, fun ⟨_, e, _⟩ => (nomatch e)⟩
  | some a => exact ⟨fun h => ⟨a, rfl, h⟩, fun ⟨_, e, h⟩ => by cases e; exact h⟩
theorem WS_of {F : Fn α} {k : α → Sn} : WS (sOf F k δ bx) N Rt E ↔ W (F δ bx) (fun a bx' => WS (k a δ bx') N Rt E) E := by
  unfold sOf
  cases F δ bx <;> rfl
theorem WS_seq {S T : Sn} : WS (sSeq S T δ bx) N Rt E ↔ WS (S δ bx) (fun δ' bx' => WS (T δ' bx') N Rt E) Rt E := by
  unfold sSeq
  cases S δ bx <;> rfl
theorem WS_next : WS (sNext δ bx) N Rt E ↔ N δ bx := Iff.rfl
theorem WS_set {i : Nat} {F : Fn D} : WS (sSet i F δ bx) N Rt E ↔ W (F δ bx) (fun d bx' => N (δ.set i (some d)) bx') E := WS_of
theorem WS_ret {F : Fn D} : WS (sRet F δ bx) N Rt E ↔ W (F δ bx) Rt E := WS_of
theorem WS_drop {F : Fn D} : WS (sDrop F δ bx) N Rt E ↔ W (F δ bx) (fun _ bx' => N δ bx') E := WS_of
theorem WS_raise {c : Str} {F : Fn D} : WS (sRaise c F δ bx) N Rt E ↔ W (F δ bx) (fun d bx' => E c d bx') E := WS_of
theorem WS_if {C : Fn Bool} {S T : Sn} : WS (sIf C S T δ bx) N Rt E ↔ W (C δ bx) (fun c bx' => WS ((if c = true then S else T) δ bx') N Rt E) E := WS_of
theorem W_fnD {N : List Str} {S : Sn} {ds : List D} {Q : D → Sto → Prop} : W (fnD N S ds bx) Q E ↔ WS (S (ds.map some ++ List.replicate (N.length - ds.length) none) bx) (fun _ bx' => Q .non bx') Q E := by
  unfold fnD
  cases S (ds.map some ++ List.replicate (N.length - ds.length) none) bx <;> rfl
theorem W_noErr {r : Res D} {Q : D → Sto → Prop} : W (noErr r) Q E ↔ W r Q NoE := by
  cases r <;> rfl
theorem W_call {m : List D → Sto → Res D} {A : Fn (List D)} {Q : D → Sto → Prop} : W (fCall m A δ bx) Q E ↔ W (A δ bx) (fun ds bx' => W (m ds bx') Q E) E := W_bnd
theorem W_callK {m : List D → Sto → Res D} {π : List Nat} {A : Fn (List D)} {Q : D → Sto → Prop} : W (fCallK m π A δ bx) Q E ↔ W (A δ bx) (fun ds bx' => W (m (pick .non π ds) bx') Q E) E := W_bnd
theorem W_cons {F : Fn D} {A : Fn (List D)} {Q : List D → Sto → Prop} : W (fCons F A δ bx) Q E ↔ W (F δ bx) (fun d bx' => W (A δ bx') (fun ds bx'' => Q (d :: ds) bx'') E) E := by
  unfold fCons
  rw [W_bnd]
  refine iff_of_eq (congrArg (fun k => W (F δ bx) k E) (funext fun d => funext fun bx' => propext ?_))
  rw [W_bnd]
  rfl
theorem W_f1 {f : Sto → D → Option D} {F : Fn D} {Q : D → Sto → Prop} : W (f1 f F δ bx) Q E ↔ W (F δ bx) (fun d bx' => ∃ z, f bx' d = some z ∧ Q z bx') E := by
  unfold f1
  rw [W_bnd]
  exact iff_of_eq (congrArg (fun k => W (F δ bx) k E) (funext fun d => funext fun bx' => propext W_lft))
theorem W_fA {f : Sto → List D → Option D} {A : Fn (List D)} {Q : D → Sto → Prop} : W (fA f A δ bx) Q E ↔ W (A δ bx) (fun ds bx' => ∃ z, f bx' ds = some z ∧ Q z bx') E := by
  unfold fA
  rw [W_bnd]
  exact iff_of_eq (congrArg (fun k => W (A δ bx) k E) (funext fun d => funext fun bx' => propext W_lft))
theorem W_f2 {f : Sto → D → D → Option D} {F G : Fn D} {Q : D → Sto → Prop} : W (f2 f F G δ bx) Q E ↔ W (F δ bx) (fun d bx' => W (G δ bx') (fun e bx'' => ∃ z, f bx'' d e = some z ∧ Q z bx'') E) E := by
  unfold f2
  rw [W_bnd]
  refine iff_of_eq (congrArg (fun k => W (F δ bx) k E) (funext fun d => funext fun bx' => propext ?_))
  rw [W_bnd]
  exact iff_of_eq (congrArg (fun k => W (G δ bx') k E) (funext fun d => funext fun bx' => propext W_lft))
theorem W_B {F : Fn D} {Q : Bool → Sto → Prop} : W (fB F δ bx) Q E ↔ W (F δ bx) (fun d bx' => ∃ b, toB d = some b ∧ Q b bx') E := by
  unfold fB
  rw [W_bnd]
  exact iff_of_eq (congrArg (fun k => W (F δ bx) k E) (funext fun d => funext fun bx' => propext W_lft))
theorem W_ifT {C : Fn Bool} {A B : Fn α} : W (fIfT C A B δ bx) Q E ↔ W (C δ bx) (fun c bx' => W ((if c = true then A else B) δ bx') Q E) E := W_bnd
theorem W_ifB {F : Fn D} {A B : Fn α} : W (fIfB F A B δ bx) Q E ↔ W (F δ bx) (fun d bx' => ∃ b, toB d = some b ∧ W ((if b = true then A else B) δ bx') Q E) E := by
  unfold fIfB
  rw [W_bnd]
  refine iff_of_eq (congrArg (fun k => W (F δ bx) k E) (funext fun d => funext fun bx' => propext ?_))
  cases h : toB d with
  | none => exact ⟨fun h => h.elim, fun ⟨_, e, _⟩ => (nomatch e)⟩
  | some b =>
    cases b
    · exact ⟨fun h => ⟨false, rfl, h⟩, fun ⟨_, e, h⟩ => by cases e; exact h⟩
    · exact ⟨fun h => ⟨true, rfl, h⟩, fun ⟨_, e, h⟩ => by cases e; exact h⟩
theorem W_not {A : Fn Bool} {Q : Bool → Sto → Prop} : W (fNot A δ bx) Q E ↔ W (A δ bx) (fun c bx' => Q (!c) bx') E := W_bnd
theorem WS_unp {is : List Nat} {F : Fn D} : WS (sUnp is F δ bx) N Rt E ↔ W (F δ bx) (fun d bx' => ∃ δ', (vs bx' d).bind (fun l => setAll is l δ) = some δ' ∧ N δ' bx') E := by
  unfold sUnp
  rw [WS_of]
  refine iff_of_eq (congrArg (fun k => W (F δ bx) k E) (funext fun d => funext fun bx' => propext ?_))
  cases h : (vs bx' d).bind fun l => setAll is l δ with
  | none => exact ⟨fun h => h.elim, fun ⟨_, e, _⟩ => (nomatch e)⟩
  | some b => exact ⟨fun h => ⟨b, rfl, h⟩, fun ⟨_, e, h⟩ => by cases e; exact h⟩
theorem WS_par {i j : Nat} {A : Fn (List D)} : WS (sPar i j A δ bx) N Rt E ↔ W (A δ bx) (fun ds bx' => ∃ d e, ds = [d, e] ∧ N ((δ.set i (some d)).set j (some e)) bx') E := by
  unfold sPar
  rw [WS_of]
  refine iff_of_eq (congrArg (fun k => W (A δ bx) k E) (funext fun ds => funext fun bx' => propext ?_))
  match ds with
  | [d, e] => exact ⟨fun h => ⟨d, e, rfl, h⟩, fun ⟨_, _, e, h⟩ => by cases e; exact h⟩
  | [] => exact ⟨fun h => h.elim, fun ⟨_, _, e, _⟩ => (nomatch e)⟩
  | [_] => exact ⟨fun h => h.elim, fun ⟨_, _, e, _⟩ => (nomatch e)⟩
  | _ :: _ :: _ :: _ => exact ⟨fun h => h.elim, fun ⟨_, _, e, _⟩ => (nomatch e)⟩
theorem WS_for {b : Bd} {Fi : Fn (List D)} {S : Sn} : WS (sFor b Fi S δ bx) N Rt E ↔ W (Fi δ bx) (fun ds bx' => WS (forL b S ds δ bx') N Rt E) E := WS_of
theorem W_wk {F : Fn D} {Q : List D → Sto → Prop} : W (fWk F δ bx) Q E ↔ W (F δ bx) (fun d bx' => ∃ l, wlk d = some l ∧ Q l bx') E := by
  unfold fWk
  rw [W_bnd]
  exact iff_of_eq (congrArg (fun k => W (F δ bx) k E) (funext fun d => funext fun bx' => propext W_lft))
theorem W_po {F : Fn D} {Q : Option Int → Sto → Prop} : W (fPo F δ bx) Q E ↔ W (F δ bx) (fun d bx' => ∃ i, d = .int i ∧ Q (some i) bx') E := by
  unfold fPo
  rw [W_bnd]
  refine iff_of_eq (congrArg (fun k => W (F δ bx) k E) (funext fun d => funext fun bx' => propext ?_))
  cases d with
  | int i => exact ⟨fun h => ⟨i, rfl, h⟩, fun ⟨_, e, h⟩ => by cases e; exact h⟩
  | _ => exact ⟨fun h => h.elim, fun ⟨_, e, _⟩ => (nomatch e)⟩
theorem W_sl {F : Fn D} {A B : Fn (Option Int)} {Q : D → Sto → Prop} : W (fSl F A B δ bx) Q E ↔ W (F δ bx) (fun d bx1 => W (A δ bx1) (fun lo bx2 => W (B δ bx2) (fun hi bx3 => ∃ z, cSl bx3 d lo hi = some z ∧ Q z bx3) E) E) E := by
  unfold fSl
  rw [W_bnd]
  refine iff_of_eq (congrArg (fun k => W (F δ bx) k E) (funext fun d => funext fun bx' => propext ?_))
  rw [W_bnd]
  refine iff_of_eq (congrArg (fun k => W (A δ bx') k E) (funext fun d => funext fun bx' => propext ?_))
  rw [W_bnd]
  exact iff_of_eq (congrArg (fun k => W (B δ bx') k E) (funext fun d => funext fun bx' => propext W_lft))
theorem W_poN {Q : Option Int → Sto → Prop} : W (fPoN δ bx) Q E ↔ Q none bx := Iff.rfl
theorem W_chain {p q : Int → Int → Bool} {F G J : Fn D} {Q : D → Sto → Prop} : W (fChain p q F G J δ bx) Q E ↔ W (F δ bx) (fun d bx1 => W (G δ bx1) (fun e bx2 => ∃ i j, d = .int i ∧ e = .int j ∧ (if p i j = true then W (J δ bx2) (fun z bx3 => ∃ k, z = .int k ∧ Q (.bl (q j k)) bx3) E else Q (.bl false) bx2)) E) E := by
  unfold fChain
  rw [W_bnd]
  refine iff_of_eq (congrArg (fun k => W (F δ bx) k E) (funext fun d => funext fun bx1 => propext ?_))
  rw [W_bnd]
  refine iff_of_eq (congrArg (fun k => W (G δ bx1) k E) (funext fun e => funext fun bx2 => propext ?_))
  cases d with
  | int i =>
    cases e with
    | int j =>
      cases hp : p i j with
      | true =>
        simp only [iB, hp]
        rw [W_bnd]
        have : (∃ i_1 j_1, D.int i = D.int i_1 ∧ D.int j = D.int j_1 ∧ if p i_1 j_1 = true then W (J δ bx2) (fun z bx3 => ∃ k, z = .int k ∧ Q (.bl (q j_1 k)) bx3) E else Q (.bl false) bx2) ↔ W (J δ bx2) (fun z bx3 => ∃ k, z = .int k ∧ Q (.bl (q j k)) bx3) E := by
          refine ⟨fun ⟨i1, j1, e1, e2, h⟩ => ?_, fun h => ⟨i, j, rfl, rfl, ?_⟩⟩
          · cases e1
            cases e2
            rw [if_pos hp] at h
            exact h
          · rw [if_pos hp]
            exact h
        rw [this]
        refine iff_of_eq (congrArg (fun k => W (J δ bx2) k E) (funext fun z => funext fun bx3 => propext ?_))
        rw [W_lft]
        cases z with
        | int k => exact ⟨fun ⟨_, e, h⟩ => by cases e; exact ⟨k, rfl, h⟩, fun ⟨_, e, h⟩ => by cases e; exact ⟨_, rfl, h⟩⟩
        | _ => exact ⟨fun ⟨_, e, _⟩ => (nomatch e), fun ⟨_, e, _⟩ => (nomatch e)⟩
      | false =>
        simp only [iB, hp]
        refine ⟨fun h => ⟨i, j, rfl, rfl, ?_⟩, fun ⟨i1, j1, e1, e2, h⟩ => ?_⟩
        · rw [hp]
          exact h
        · cases e1
          cases e2
          rw [hp] at h
          exact h
    | _ => exact ⟨fun h => h.elim, fun ⟨_, _, _, e, _⟩ => (nomatch e)⟩
  | _ => cases e <;> exact ⟨fun h => h.elim, fun ⟨_, _, e, _⟩ => (nomatch e)⟩
theorem W_new {A : Fn (List D)} {Q : D → Sto → Prop} : W (fNew A δ bx) Q E ↔ W (A δ bx) (fun ds bx' => ds.length ≤ 1000000 ∧ Q (.ref bx'.length) (bx' ++ [.lst ds])) E := by
  unfold fNew
  rw [W_bnd]
  refine iff_of_eq (congrArg (fun k => W (A δ bx) k E) (funext fun ds => funext fun bx' => propext ?_))
  by_cases h : ds.length ≤ 1000000
  · rw [if_pos h]
    exact ⟨fun q => ⟨h, q⟩, fun q => q.2⟩
  · rw [if_neg h]
    exact ⟨fun q => q.elim, fun q => h q.1⟩
theorem W_newOf {F : Fn D} {Q : D → Sto → Prop} : W (fNewOf F δ bx) Q E ↔ W (F δ bx) (fun d bx' => ∃ l, vs bx' d = some l ∧ Q (.ref bx'.length) (bx' ++ [.lst l])) E := by
  unfold fNewOf
  rw [W_bnd]
  refine iff_of_eq (congrArg (fun k => W (F δ bx) k E) (funext fun d => funext fun bx' => propext ?_))
  cases h : vs bx' d with
  | none => exact ⟨fun h => h.elim, fun ⟨_, e, _⟩ => (nomatch e)⟩
  | some b => exact ⟨fun h => ⟨b, rfl, h⟩, fun ⟨_, e, h⟩ => by cases e; exact h⟩
theorem WS_put {F G J : Fn D} : WS (sPut F G J δ bx) N Rt E ↔ W (F δ bx) (fun e bx1 => W (G δ bx1) (fun d bx2 => W (J δ bx2) (fun i bx3 => ∃ k n l j, d = .ref k ∧ i = .int n ∧ bx3[k]? = some (.lst l) ∧ ixN l.length n = some j ∧ N δ (bx3.set k (.lst (l.set j e)))) E) E) E := by
  unfold sPut
  rw [WS_of]
  refine iff_of_eq (congrArg (fun k => W (F δ bx) k E) (funext fun e => funext fun bx1 => propext ?_))
  rw [WS_of]
  refine iff_of_eq (congrArg (fun k => W (G δ bx1) k E) (funext fun d => funext fun bx2 => propext ?_))
  rw [WS_of]
  refine iff_of_eq (congrArg (fun k => W (J δ bx2) k E) (funext fun i => funext fun bx3 => propext ?_))
  constructor
  · intro h
    split at h
    · split at h
      · split at h
        · exact ⟨_, _, _, _, rfl, rfl, by assumption, by assumption, h⟩
        · exact h.elim
      · exact h.elim
    · exact h.elim
  · rintro ⟨k, n, l, j, rfl, rfl, h1, h2, h3⟩
    simp only [h1, h2]
    exact h3
theorem WS_frz {i : Nat} : WS (sFrz i δ bx) N Rt E ↔ ∃ k l, δ[i]? = some (some (.ref k)) ∧ bx[k]? = some (.lst l) ∧ N (δ.set i (some (.lst l))) (bx.set k .dead) := by
  unfold sFrz
  constructor
  · intro h
    split at h
    · split at h
      · exact ⟨_, _, by assumption, by assumption, h⟩
      · exact h.elim
    · exact h.elim
  · rintro ⟨k, l, h1, h2, h3⟩
    simp only [h1, h2]
    exact h3
theorem WS_app {F G : Fn D} : WS (sApp F G δ bx) N Rt E ↔ W (F δ bx) (fun d bx1 => ∃ k l0, d = .ref k ∧ bx1[k]? = some (.lst l0) ∧ W (G δ bx1) (fun e bx2 => ∃ l, bx2[k]? = some (.lst l) ∧ l.length < 1000000 ∧ N δ (bx2.set k (.lst (l ++ [e])))) E) E := by
  unfold sApp
  rw [WS_of]
  refine iff_of_eq (congrArg (fun k => W (F δ bx) k E) (funext fun d => funext fun bx1 => propext ?_))
  have key : ∀ k, WS (sOf G (appK k) δ bx1) N Rt E ↔ W (G δ bx1) (fun e bx2 => ∃ l, bx2[k]? = some (.lst l) ∧ l.length < 1000000 ∧ N δ (bx2.set k (.lst (l ++ [e])))) E := fun k => by
    rw [WS_of]
    refine iff_of_eq (congrArg (fun k => W (G δ bx1) k E) (funext fun e => funext fun bx2 => propext ?_))
    unfold appK
    constructor
    · intro h
      split at h
      · split at h
        · exact ⟨_, by assumption, by assumption, h⟩
        · exact h.elim
      · exact h.elim
    · rintro ⟨l, h1, h2, h3⟩
      simp only [h1, h2, if_true]
      exact h3
  constructor
  · intro h
    split at h
    · split at h
      · exact ⟨_, _, rfl, by assumption, (key _).mp h⟩
      · exact h.elim
    · exact h.elim
  · rintro ⟨k, l0, rfl, h1, h2⟩
    simp only [h1]
    exact (key _).mpr h2
/-! ### loops -/
theorem for_rule {b : Bd} {S : Sn} {ds : List D} (I : Nat → List (Option D) → Sto → Prop) (h0 : I 0 δ bx) (hd : ∀ δ bx, I ds.length δ bx → N δ bx)
    (step : ∀ i d δ bx, ds[i]? = some d → I i δ bx → ∃ δ1, b bx δ d = some δ1 ∧ WS (S δ1 bx) (I (i + 1)) Rt E) : WS (forL b S ds δ bx) N Rt E := by
  induction ds generalizing δ bx I with
  | nil => exact hd _ _ h0
  | cons d r ih =>
    obtain ⟨δ1, e, h⟩ := step 0 d δ bx rfl h0
    simp only [forL, e]
    cases hS : S δ1 bx with
    | nx δ' bx' =>
      rw [hS] at h
      exact ih (fun i => I (i + 1)) h hd fun i d' δ bx hi hI => step (i + 1) d' δ bx hi hI
    | rt d' bx' => rw [hS] at h; exact h
    | er c d' bx' => rw [hS] at h; exact h
    | bad => rw [hS] at h; exact h
theorem lc_rule {b : Bd} {C : Fn Bool} {F : Fn D} {ds acc : List D} {Q : List D → Sto → Prop} (I : Nat → List D → Sto → Prop) (h0 : I 0 acc bx) (hd : ∀ acc bx, I ds.length acc bx → Q acc bx)
    (step : ∀ i d acc bx, ds[i]? = some d → I i acc bx → ∃ δ1, b bx δ d = some δ1 ∧ W (C δ1 bx) (fun c bx1 => if c = true then W (F δ1 bx1) (fun y bx2 => I (i + 1) (acc ++ [y]) bx2) NoE else I (i + 1) acc bx1) NoE) : W (lcGo b δ C F ds bx acc) Q E := by
  induction ds generalizing acc bx I with
  | nil => exact hd _ _ h0
  | cons d r ih =>
    obtain ⟨δ1, e, h⟩ := step 0 d acc bx rfl h0
    simp only [lcGo, e]
    cases hC : C δ1 bx with
    | bad => rw [hC] at h; exact h.elim
    | err _ _ _ => rw [hC] at h; exact h.elim
    | ok c bx1 =>
      rw [hC] at h
      replace h : if c = true then W (F δ1 bx1) (fun y bx2 => I 1 (acc ++ [y]) bx2) NoE else I 1 acc bx1 := h
      cases c with
      | false => exact ih (fun i => I (i + 1)) (by simpa using h) hd fun i d' acc bx hi hI => step (i + 1) d' acc bx hi hI
      | true =>
        rw [if_pos rfl] at h
        dsimp only
        cases hF : F δ1 bx1 with
        | bad => rw [hF] at h; exact h.elim
        | err _ _ _ => rw [hF] at h; exact h.elim
        | ok y bx2 =>
          rw [hF] at h
          exact ih (fun i => I (i + 1)) h hd fun i d' acc bx hi hI => step (i + 1) d' acc bx hi hI
/-- a comprehension that draws nothing -/
theorem lc_pure {b : Bd} {C : Fn Bool} {F : Fn D} {c : D → Bool} {f : D → D} : ∀ {ds acc : List D}, (∀ d ∈ ds, ∃ δ1, b bx δ d = some δ1 ∧ C δ1 bx = .ok (c d) bx ∧ (c d = true → F δ1 bx = .ok (f d) bx)) → lcGo b δ C F ds bx acc = .ok (acc ++ (ds.filter c).map f) bx
  | [], acc, _ => by simp [lcGo]
  | d :: r, acc, h => by
    obtain ⟨δ1, e, h1, h2⟩ := h d List.mem_cons_self
    have ih := fun acc => lc_pure (ds := r) (acc := acc) fun d hd => h d (List.mem_cons_of_mem _ hd)
    simp only [lcGo, e, h1]
    cases hc : c d with
    | true =>
      simp only [h2 hc]
      rw [ih, List.filter_cons_of_pos hc, List.map_cons, List.append_assoc]
      rfl
    | false =>
      simp only []
      rw [ih, List.filter_cons_of_neg (by simp [hc])]
theorem all_pure {b : Bd} {F : Fn D} {p : D → Bool} : ∀ {ds : List D}, (∀ d ∈ ds, ∃ δ1, b bx δ d = some δ1 ∧ F δ1 bx = .ok (.bl (p d)) bx) → allGo b δ F ds bx = .ok (.bl (ds.all p)) bx
  | [], _ => by simp [allGo]
  | d :: r, h => by
    obtain ⟨δ1, e, h1⟩ := h d List.mem_cons_self
    have ih := all_pure (ds := r) fun d hd => h d (List.mem_cons_of_mem _ hd)
    simp only [allGo, e, h1]
    cases hc : p d with
    | true => simp only []; rw [ih, List.all_cons, hc, Bool.true_and]
    | false => simp only []; rw [List.all_cons, hc, Bool.false_and]
end
end Ms

end
section
set_option Elab.async false
set_option linter.all false
set_option maxRecDepth 100000
set_option maxHeartbeats 4000000
namespace K14
open PySem PySem.Spec PyProof.Rows L2 Ms
abbrev N__law_box : List Str := ["_law_script", "_law_k", "_law_cell", "_law_great"]
def S__law_box : Sn := (sSeq (sSet 2 (f2 cPlus (f2 cMul (pur (.int 13241)) (fVar 1)) (pur (.int 6521)))) (sSeq (sIf (fB (f2 (iB fun i j => decide (i < j)) (fVar 1) (fA cLen (fCons (fVar 0) (pur []))))) (sSeq (sSet 2 (fA cAbs (fCons (fA cInt (fCons (f2 cIx (fVar 0) (fVar 1)) (pur []))) (pur [])))) sNext) (sSeq (sIf (fB (f2 (iB fun i j => decide (j < i)) (fA cLen (fCons (fVar 0) (pur []))) (pur (.int 0)))) (sSeq (sSet 2 (f2 cPlus (fVar 2) (f2 cMul (f2 cMod (fA cInt (fCons (fA cAbs (fCons (fA cInt (fCons (f2 cIx (fVar 0) (f2 cMod (fA cInt (fCons (fVar 1) (pur []))) (fA cLen (fCons (fVar 0) (pur []))))) (pur []))) (pur []))) (pur []))) (pur (.int 2147483563))) (pur (.int 95003))))) sNext) sNext) sNext)) (sSeq (sSet 3 (fIfT (fB (f2 (iB fun i j => decide (j ≤ i)) (fVar 2) (f2 cPow (pur (.int 10)) (pur (.int 18))))) (fVar 2) (pur (.int 0)))) (sSeq (sRet (fNew (fCons (fVar 3) (fCons (f2 cPlus (f2 cMod (fA cInt (fCons (f2 cPlus (f2 cMul (f2 cMod (fA cInt (fCons (fVar 2) (pur []))) (pur (.int 2147483563))) (pur (.int 55780009))) (f2 cMul (pur (.int 6521)) (fVar 1))) (pur []))) (pur (.int 2147483563))) (pur (.int 1))) (pur []))))) sNext))))
def m__law_box : List D → Sto → Res D := fun ds bx => noErr (fnD N__law_box S__law_box ds bx)

abbrev N__law_take : List Str := ["_law_box_here", "_law_many", "_law_digit", "_law_raw"]
def S__law_take : Sn := (sSeq (sIf (fB (f2 (iB fun i j => decide (j < i)) (f2 cIx (fVar 0) (pur (.int 0))) (pur (.int 0)))) (sSeq (sSet 2 (f2 cMod (fA cInt (fCons (f2 cIx (fVar 0) (pur (.int 0))) (pur []))) (fVar 1))) (sSeq (sPut (f2 cDiv (f2 cIx (fVar 0) (pur (.int 0))) (fVar 1)) (fVar 0) (pur (.int 0))) (sSeq (sRet (fVar 2)) sNext))) sNext) (sSeq (sSet 3 (f2 cMod (fA cInt (fCons (f2 cPlus (f2 cMul (f2 cIx (fVar 0) (pur (.int 1))) (pur (.int 39373))) (pur (.int 101))) (pur []))) (pur (.int 2147483647)))) (sSeq (sPut (f2 cPlus (f2 cMod (fA cInt (fCons (f2 cPlus (f2 cMul (fVar 3) (pur (.int 40692))) (pur (.int 17))) (pur []))) (pur (.int 2147483563))) (pur (.int 1))) (fVar 0) (pur (.int 1))) (sSeq (sRet (f2 cMod (fA cInt (fCons (f2 cDiv (f2 cPlus (f2 cMul (fVar 3) (pur (.int 2147483629))) (f2 cIx (fVar 0) (pur (.int 1)))) (pur (.int 8233))) (pur []))) (fVar 1))) sNext))))
def m__law_take : List D → Sto → Res D := fun ds bx => noErr (fnD N__law_take S__law_take ds bx)

abbrev N__law_pick : List Str := ["_law_box_here", "_law_some"]
def S__law_pick : Sn := (sSeq (sRet (f2 cIx (fVar 1) (fCall m__law_take (fCons (fVar 0) (fCons (fA cLen (fCons (fVar 1) (pur []))) (pur [])))))) sNext)
def m__law_pick : List D → Sto → Res D := fun ds bx => noErr (fnD N__law_pick S__law_pick ds bx)

abbrev N__law_source : List Str := ["_law_box_here", "_law_gap", "_law_pause", "_law_low", "_law_least"]
def S__law_source : Sn := (sSeq (sSet 1 (f2 cPlus (pur (.int 1)) (fCall m__law_take (fCons (fVar 0) (fCons (pur (.int 4)) (pur [])))))) (sSeq (sSet 2 (f2 cPlus (fVar 1) (fCall m__law_pick (fCons (fVar 0) (fCons (fA cLst (fCons (pur (.int 0)) (fCons (pur (.int 1)) (fCons (pur (.int 2)) (fCons (pur (.int 3)) (fCons (pur (.int 9)) (pur []))))))) (pur [])))))) (sSeq (sPar 3 4 (fCons (f2 cPlus (pur (.int 1)) (fCall m__law_take (fCons (fVar 0) (fCons (pur (.int 3)) (pur []))))) (fCons (fCall m__law_take (fCons (fVar 0) (fCons (pur (.int 3)) (pur [])))) (pur [])))) (sSeq (sRet (fA cTup (fCons (fVar 3) (fCons (f2 cPlus (fVar 3) (fCall m__law_take (fCons (fVar 0) (fCons (pur (.int 3)) (pur []))))) (fCons (fVar 4) (fCons (f2 cPlus (fVar 4) (fCall m__law_take (fCons (fVar 0) (fCons (f2 cMul (fVar 3) (fVar 1)) (pur []))))) (fCons (fVar 1) (fCons (fVar 2) (pur []))))))))) sNext))))
def m__law_source : List D → Sto → Res D := fun ds bx => noErr (fnD N__law_source S__law_source ds bx)

abbrev N__law_run : List Str := ["_law_box_here", "_law_source_here", "_law_many", "_law_stamp", "_law_found", "_law_at"]
def S__law_run : Sn := (sSeq (sPar 3 4 (fCons (fCall m__law_take (fCons (fVar 0) (fCons (pur (.int 20)) (pur [])))) (fCons (fNew (pur [])) (pur [])))) (sSeq (sFor (bOne 5) (fRg1 (fCons (fVar 2) (pur []))) (sSeq (sApp (fVar 4) (fA cTup (fCons (f2 cMod (fVar 5) (pur (.int 256))) (fCons (fVar 3) (pur []))))) (sSeq (sSet 3 (f2 cPlus (f2 cPlus (fVar 3) (f2 cIx (fVar 1) (pur (.int 4)))) (fCall m__law_take (fCons (fVar 0) (fCons (f2 cPlus (f2 cSub (f2 cIx (fVar 1) (pur (.int 5))) (f2 cIx (fVar 1) (pur (.int 4)))) (pur (.int 1))) (pur [])))))) sNext))) (sSeq (sFrz 4) (sSeq (sRet (fVar 4)) sNext))))
def m__law_run : List D → Sto → Res D := fun ds bx => noErr (fnD N__law_run S__law_run ds bx)

abbrev N_is_sequence : List Str := ["value"]
def S_is_sequence : Sn := (sSeq (sRet (f1 (cIsi2 "list" "tuple") (fVar 0))) sNext)
def m_is_sequence : List D → Sto → Res D := fun ds bx => noErr (fnD N_is_sequence S_is_sequence ds bx)

abbrev N_has_parts : List Str := ["value", "many"]
def S_has_parts : Sn := (sSeq (sRet (fIfB (fCall m_is_sequence (fCons (fVar 0) (pur []))) (f2 cEqD (fA cLen (fCons (fVar 0) (pur []))) (fVar 1)) (pur (.bl false)))) sNext)
def m_has_parts : List D → Sto → Res D := fun ds bx => noErr (fnD N_has_parts S_has_parts ds bx)

abbrev N_is_integer : List Str := ["value"]
def S_is_integer : Sn := (sSeq (sRet (fIfB (f1 (cIsi "int") (fVar 0)) (f1 cNot (f1 (cIsi "bool") (fVar 0))) (pur (.bl false)))) sNext)
def m_is_integer : List D → Sto → Res D := fun ds bx => noErr (fnD N_is_integer S_is_integer ds bx)

abbrev N_is_within : List Str := ["value", "least", "most"]
def S_is_within : Sn := (sSeq (sRet (fIfB (fCall m_is_integer (fCons (fVar 0) (pur []))) (fChain (fun i j => decide (i ≤ j)) (fun i j => decide (i ≤ j)) (fVar 1) (fVar 0) (fVar 2)) (pur (.bl false)))) sNext)
def m_is_within : List D → Sto → Res D := fun ds bx => noErr (fnD N_is_within S_is_within ds bx)

abbrev N__is_range : List Str := ["low", "high", "least", "most"]
def S__is_range : Sn := (sSeq (sRet (fIfB (fCall m_is_within (fCons (fVar 0) (fCons (fVar 2) (fCons (fVar 3) (pur []))))) (fCall m_is_within (fCons (fVar 1) (fCons (fVar 0) (fCons (fVar 3) (pur []))))) (pur (.bl false)))) sNext)
def m__is_range : List D → Sto → Res D := fun ds bx => noErr (fnD N__is_range S__is_range ds bx)

abbrev N_is_source : List Str := ["value", "low", "high", "least", "most", "gap", "pause"]
def S_is_source : Sn := (sSeq (sIf (fNot (fB (fCall m_has_parts (fCons (fVar 0) (fCons (pur (.int 6)) (pur [])))))) (sSeq (sRet (pur (.bl false))) sNext) sNext) (sSeq (sUnp [1, 2, 3, 4, 5, 6] (fVar 0)) (sSeq (sIf (fIfT (fNot (fB (fCall m__is_range (fCons (fVar 1) (fCons (fVar 2) (fCons (pur (.int 1)) (fCons (pur (.int 100)) (pur [])))))))) (pur true) (fNot (fB (fCall m__is_range (fCons (fVar 3) (fCons (fVar 4) (fCons (pur (.int 0)) (fCons (pur (.int 1000)) (pur []))))))))) (sSeq (sRet (pur (.bl false))) sNext) sNext) (sSeq (sRet (fIfB (fCall m__is_range (fCons (fVar 5) (fCons (fVar 6) (fCons (pur (.int 1)) (fCons (pur (.int 1000)) (pur [])))))) (f2 (iB fun i j => decide (j < i)) (f2 cMul (fVar 1) (fVar 5)) (f2 cSub (fVar 4) (fVar 3))) (pur (.bl false)))) sNext))))
def m_is_source : List D → Sto → Res D := fun ds bx => noErr (fnD N_is_source S_is_source ds bx)

abbrev N__need_source : List Str := ["value"]
def S__need_source : Sn := (sSeq (sIf (fNot (fB (fCall m_is_source (fCons (fVar 0) (pur []))))) (sSeq (sRaise "Refused" (fVar 0)) sNext) sNext) sNext)
def m__need_source : List D → Sto → Res D := fnD N__need_source S__need_source

abbrev N_is_below : List Str := ["value", "bound"]
def S_is_below : Sn := (sSeq (sRet (fIfB (fCall m_is_integer (fCons (fVar 0) (pur []))) (fChain (fun i j => decide (i ≤ j)) (fun i j => decide (i < j)) (pur (.int 0)) (fVar 0) (fVar 1)) (pur (.bl false)))) sNext)
def m_is_below : List D → Sto → Res D := fun ds bx => noErr (fnD N_is_below S_is_below ds bx)

abbrev N__is_mark : List Str := ["value"]
def S__is_mark : Sn := (sSeq (sRet (fIfB (fCall m_has_parts (fCons (fVar 0) (fCons (pur (.int 2)) (pur [])))) (fIfB (fCall m_is_below (fCons (f2 cIx (fVar 0) (pur (.int 0))) (fCons (pur (.int 256)) (pur [])))) (fCall m_is_within (fCons (f2 cIx (fVar 0) (pur (.int 1))) (fCons (pur (.int 0)) (fCons (pur (.int 1000000)) (pur []))))) (pur (.bl false))) (pur (.bl false)))) sNext)
def m__is_mark : List D → Sto → Res D := fun ds bx => noErr (fnD N__is_mark S__is_mark ds bx)

abbrev N__need_mark : List Str := ["value"]
def S__need_mark : Sn := (sSeq (sIf (fNot (fB (fCall m__is_mark (fCons (fVar 0) (pur []))))) (sSeq (sRaise "Refused" (fVar 0)) sNext) sNext) sNext)
def m__need_mark : List D → Sto → Res D := fnD N__need_mark S__need_mark

abbrev N_rounded_up : List Str := ["many", "by"]
def S_rounded_up : Sn := (sSeq (sRet (f1 cNeg (f2 cDiv (f1 cNeg (fVar 0)) (fVar 1)))) sNext)
def m_rounded_up : List D → Sto → Res D := fun ds bx => noErr (fnD N_rounded_up S_rounded_up ds bx)

abbrev N__first_count : List Str := ["source", "one", "other", "pause", "least"]
def S__first_count : Sn := (sSeq (sSet 3 (f2 cIx (fVar 0) (pur (.int 5)))) (sSeq (sSet 4 (fCall m_rounded_up (fCons (f2 cSub (f2 cIx (fVar 2) (pur (.int 1))) (f2 cIx (fVar 1) (pur (.int 1)))) (fCons (fVar 3) (pur []))))) (sSeq (sRet (f2 cPlus (fVar 4) (f2 cMod (f2 cSub (f2 cSub (f2 cIx (fVar 2) (pur (.int 0))) (f2 cIx (fVar 1) (pur (.int 0)))) (fVar 4)) (pur (.int 256))))) sNext)))
def m__first_count : List D → Sto → Res D := fun ds bx => noErr (fnD N__first_count S__first_count ds bx)

abbrev N__last_count : List Str := ["source", "one", "other", "gap"]
def S__last_count : Sn := (sSeq (sSet 3 (f2 cIx (fVar 0) (pur (.int 4)))) (sSeq (sRet (f2 cDiv (f2 cSub (f2 cIx (fVar 2) (pur (.int 1))) (f2 cIx (fVar 1) (pur (.int 1)))) (fVar 3))) sNext))
def m__last_count : List D → Sto → Res D := fun ds bx => noErr (fnD N__last_count S__last_count ds bx)

abbrev N__counts : List Str := ["source", "one", "other"]
def S__counts : Sn := (sSeq (sRet (fA cTupRg (fCons (fCall m__first_count (fCons (fVar 0) (fCons (fVar 1) (fCons (fVar 2) (pur []))))) (fCons (f2 cPlus (fCall m__last_count (fCons (fVar 0) (fCons (fVar 1) (fCons (fVar 2) (pur []))))) (pur (.int 1))) (fCons (pur (.int 256)) (pur [])))))) sNext)
def m__counts : List D → Sto → Res D := fun ds bx => noErr (fnD N__counts S__counts ds bx)

abbrev N_counts : List Str := ["source", "one", "other"]
def S_counts : Sn := (sSeq (sDrop (fCall m__need_source (fCons (fVar 0) (pur [])))) (sSeq (sDrop (fCall m__need_mark (fCons (fVar 1) (pur [])))) (sSeq (sDrop (fCall m__need_mark (fCons (fVar 2) (pur [])))) (sSeq (sIf (fB (f2 (iB fun i j => decide (i ≤ j)) (f2 cIx (fVar 2) (pur (.int 1))) (f2 cIx (fVar 1) (pur (.int 1))))) (sSeq (sRaise "Refused" (fVar 2)) sNext) sNext) (sSeq (sRet (fCall m__counts (fCons (fVar 0) (fCons (fVar 1) (fCons (fVar 2) (pur [])))))) sNext)))))
def m_counts : List D → Sto → Res D := fnD N_counts S_counts

abbrev N_ahead_counts : List Str := ["source", "one"]
def S_ahead_counts : Sn := (sSeq (sDrop (fCall m__need_source (fCons (fVar 0) (pur [])))) (sSeq (sDrop (fCall m__need_mark (fCons (fVar 1) (pur [])))) (sSeq (sRet (fA cTupRg (fCons (f2 cIx (fVar 1) (pur (.int 0))) (fCons (f2 cPlus (f2 cDiv (f2 cIx (fVar 1) (pur (.int 1))) (f2 cIx (fVar 0) (pur (.int 4)))) (pur (.int 1))) (fCons (pur (.int 256)) (pur [])))))) sNext)))
def m_ahead_counts : List D → Sto → Res D := fnD N_ahead_counts S_ahead_counts

abbrev N_run_to : List Str := ["source", "one", "count", "told", "at"]
def S_run_to : Sn := (sSeq (sSet 3 (fCall m_ahead_counts (fCons (fVar 0) (fCons (fVar 1) (pur []))))) (sSeq (sIf (fIfT (fNot (fB (fCall m_is_integer (fCons (fVar 2) (pur []))))) (pur true) (fB (f2 (cIn true) (fVar 2) (fVar 3)))) (sSeq (sRaise "Refused" (fVar 2)) sNext) sNext) (sSeq (sRet (fA cTupOf (fCons (fLc [4] (bOne 4) (fRg1 (fCons (f2 cPlus (fVar 2) (pur (.int 1))) (pur []))) (pur true) (fA cTup (fCons (f2 cMod (fVar 4) (pur (.int 256))) (fCons (f2 cSub (f2 cIx (fVar 1) (pur (.int 1))) (f2 cMul (f2 cIx (fVar 0) (pur (.int 4))) (f2 cSub (fVar 2) (fVar 4)))) (pur []))))) (pur [])))) sNext)))
def m_run_to : List D → Sto → Res D := fnD N_run_to S_run_to

abbrev N_run_between : List Str := ["source", "one", "other", "count", "told", "stamps", "at"]
def S_run_between : Sn := (sSeq (sSet 4 (fCall m_counts (fCons (fVar 0) (fCons (fVar 1) (fCons (fVar 2) (pur [])))))) (sSeq (sIf (fIfT (fNot (fB (fCall m_is_integer (fCons (fVar 3) (pur []))))) (pur true) (fB (f2 (cIn true) (fVar 3) (fVar 4)))) (sSeq (sRaise "Refused" (fVar 3)) sNext) sNext) (sSeq (sSet 5 (f2 cSub (f2 cIx (fVar 2) (pur (.int 1))) (f2 cIx (fVar 1) (pur (.int 1))))) (sSeq (sRet (fA cTupOf (fCons (fLc [6] (bOne 6) (fRg1 (fCons (f2 cPlus (fVar 3) (pur (.int 1))) (pur []))) (pur true) (fA cTup (fCons (f2 cMod (f2 cPlus (f2 cIx (fVar 1) (pur (.int 0))) (fVar 6)) (pur (.int 256))) (fCons (f2 cPlus (f2 cIx (fVar 1) (pur (.int 1))) (f2 cDiv (f2 cMul (fVar 5) (fVar 6)) (fVar 3))) (pur []))))) (pur [])))) sNext))))
def m_run_between : List D → Sto → Res D := fnD N_run_between S_run_between

abbrev N__law_bent : List Str := ["_law_box_here", "_law_run_here", "_law_at", "_law_way", "_law_number", "_law_stamp", "_law_odd", "_law_mark"]
def S__law_bent : Sn := (sSeq (sPar 2 3 (fCons (fCall m__law_take (fCons (fVar 0) (fCons (fA cLen (fCons (fVar 1) (pur []))) (pur [])))) (fCons (fCall m__law_take (fCons (fVar 0) (fCons (pur (.int 6)) (pur [])))) (pur [])))) (sSeq (sUnp [4, 5] (f2 cIx (fVar 1) (fVar 2))) (sSeq (sSet 6 (fCall m__law_pick (fCons (fVar 0) (fCons (fA cLst (fCons (fA cTup (fCons (f2 cPlus (fVar 4) (pur (.int 1))) (fCons (fVar 5) (pur [])))) (fCons (fA cTup (fCons (fVar 4) (fCons (f2 cPlus (fVar 5) (pur (.int 1))) (pur [])))) (fCons (fA cTup (fCons (fVar 4) (fCons (fA cMax (fCons (pur (.int 0)) (fCons (f2 cSub (fVar 5) (pur (.int 1))) (pur [])))) (pur [])))) (fCons (fA cTup (fCons (fVar 4) (pur []))) (fCons (fA cTup (fCons (pur (.int 256)) (fCons (fVar 5) (pur [])))) (fCons (fA cTup (fCons (pur (.bl true)) (fCons (fVar 5) (pur [])))) (fCons (pur .non) (pur []))))))))) (pur []))))) (sSeq (sIf (fB (f2 cEqD (fVar 3) (pur (.int 0)))) (sSeq (sRet (f2 cPlus (fSl (fVar 1) fPoN (fPo (fVar 2))) (fSl (fVar 1) (fPo (f2 cPlus (fVar 2) (pur (.int 1)))) fPoN))) sNext) sNext) (sSeq (sIf (fB (f2 cEqD (fVar 3) (pur (.int 1)))) (sSeq (sRet (fCall m__law_pick (fCons (fVar 0) (fCons (fA cLst (fCons (pur .non) (fCons (pur (.int 5)) (fCons (fA cTup (pur [])) (fCons (pur (.str "0")) (pur [])))))) (pur []))))) sNext) sNext) (sSeq (sRet (fIfT (fB (f2 (iB fun i j => decide (i < j)) (fVar 3) (pur (.int 4)))) (f2 cPlus (f2 cPlus (fSl (fVar 1) fPoN (fPo (fVar 2))) (fA cLst (fCons (fVar 6) (pur [])))) (fSl (fVar 1) (fPo (f2 cPlus (fVar 2) (pur (.int 1)))) fPoN)) (fLc [7] (bOne 7) (fWk (fVar 1)) (pur true) (fA cListOf (fCons (fVar 7) (pur [])))))) sNext))))))
def m__law_bent : List D → Sto → Res D := fun ds bx => noErr (fnD N__law_bent S__law_bent ds bx)

abbrev N__law_is_run : List Str := ["_law_source_here", "_law_value", "_law_mark", "_law_one", "_law_at", "_law_step"]
def S__law_is_run : Sn := (sSeq (sIf (fNot (fB (f1 (cIsi2 "list" "tuple") (fVar 1)))) (sSeq (sRet (pur (.bl false))) sNext) sNext) (sSeq (sFor (bOne 2) (fWk (fVar 1)) (sSeq (sIf (fIfT (fNot (fB (f1 (cIsi2 "list" "tuple") (fVar 2)))) (pur true) (fIfT (fB (f2 cNeD (fA cLen (fCons (fVar 2) (pur []))) (pur (.int 2)))) (pur true) (fB (f2 cNeD (fLc [3] (bOne 3) (fWk (fVar 2)) (fIfT (fNot (fB (f1 (cIsi "int") (fVar 3)))) (pur true) (fB (f1 (cIsi "bool") (fVar 3)))) (fVar 3)) (fA cLst (pur [])))))) (sSeq (sRet (pur (.bl false))) sNext) sNext) (sSeq (sIf (fIfT (fNot (fB (fChain (fun i j => decide (i ≤ j)) (fun i j => decide (i < j)) (pur (.int 0)) (f2 cIx (fVar 2) (pur (.int 0))) (pur (.int 256))))) (pur true) (fNot (fB (fChain (fun i j => decide (i ≤ j)) (fun i j => decide (i ≤ j)) (pur (.int 0)) (f2 cIx (fVar 2) (pur (.int 1))) (f2 cPow (pur (.int 10)) (pur (.int 6))))))) (sSeq (sRet (pur (.bl false))) sNext) sNext) sNext))) (sSeq (sFor (bOne 4) (fRg2 (fCons (pur (.int 1)) (fCons (fA cLen (fCons (fVar 1) (pur []))) (pur [])))) (sSeq (sSet 5 (f2 cSub (f2 cIx (f2 cIx (fVar 1) (fVar 4)) (pur (.int 1))) (f2 cIx (f2 cIx (fVar 1) (f2 cSub (fVar 4) (pur (.int 1)))) (pur (.int 1))))) (sSeq (sIf (fIfT (fB (f2 cNeD (f2 cMod (f2 cSub (f2 cPlus (f2 cIx (f2 cIx (fVar 1) (f2 cSub (fVar 4) (pur (.int 1)))) (pur (.int 0))) (pur (.int 1))) (f2 cIx (f2 cIx (fVar 1) (fVar 4)) (pur (.int 0)))) (pur (.int 256))) (pur (.int 0)))) (pur true) (fIfT (fB (f2 (iB fun i j => decide (i < j)) (fVar 5) (f2 cIx (fVar 0) (pur (.int 4))))) (pur true) (fB (f2 (iB fun i j => decide (j < i)) (fVar 5) (f2 cIx (fVar 0) (pur (.int 5))))))) (sSeq (sRet (pur (.bl false))) sNext) sNext) sNext))) (sSeq (sRet (pur (.bl true))) sNext))))
def m__law_is_run : List D → Sto → Res D := fun ds bx => noErr (fnD N__law_is_run S__law_is_run ds bx)

abbrev N__follow : List Str := ["source", "one", "other"]
def S__follow : Sn := (sSeq (sRet (fIfB (f2 cEqD (f2 cIx (fVar 2) (pur (.int 0))) (f2 cMod (f2 cPlus (f2 cIx (fVar 1) (pur (.int 0))) (pur (.int 1))) (pur (.int 256)))) (fChain (fun i j => decide (i ≤ j)) (fun i j => decide (i ≤ j)) (f2 cIx (fVar 0) (pur (.int 4))) (f2 cSub (f2 cIx (fVar 2) (pur (.int 1))) (f2 cIx (fVar 1) (pur (.int 1)))) (f2 cIx (fVar 0) (pur (.int 5)))) (pur (.bl false)))) sNext)
def m__follow : List D → Sto → Res D := fun ds bx => noErr (fnD N__follow S__follow ds bx)

abbrev N_run_holds : List Str := ["source", "value", "mark", "one", "other"]
def S_run_holds : Sn := (sSeq (sDrop (fCall m__need_source (fCons (fVar 0) (pur [])))) (sSeq (sIf (fIfT (fNot (fB (fCall m_is_sequence (fCons (fVar 1) (pur []))))) (pur true) (fNot (fB (fAllG [2] (bOne 2) (fWk (fVar 1)) (fCall m__is_mark (fCons (fVar 2) (pur []))))))) (sSeq (sRet (pur (.bl false))) sNext) sNext) (sSeq (sRet (fA cAll (fCons (fLc [3, 4] (bTup [3, 4]) (fZip (fCons (fVar 1) (fCons (fSl (fVar 1) (fPo (pur (.int 1))) fPoN) (pur [])))) (pur true) (fCall m__follow (fCons (fVar 0) (fCons (fVar 3) (fCons (fVar 4) (pur [])))))) (pur [])))) sNext)))
def m_run_holds : List D → Sto → Res D := fnD N_run_holds S_run_holds

abbrev N__law_refused_right : List Str := ["_law_box_here", "_law_source_here", "_law_one", "_law_other", "_law_odd", "_law_bad"]
def S__law_refused_right : Sn := (sSeq (sSet 4 (fCall m__law_pick (fCons (fVar 0) (fCons (fA cLst (fCons (pur .non) (fCons (pur (.int 5)) (fCons (fA cTup (fCons (pur (.int 256)) (fCons (pur (.int 0)) (pur [])))) (fCons (fA cTup (fCons (pur (.int 0)) (pur []))) (fCons (fA cTup (fCons (pur (.bl true)) (fCons (pur (.int 0)) (pur [])))) (fCons (fA cTup (fCons (pur (.int 0)) (fCons (f2 cSub (pur (.int 0)) (pur (.int 1))) (pur [])))) (pur [])))))))) (pur []))))) (sSeq (sIf (fB (f2 cNeD (fHeard (fCall m_run_between (fCons (fVar 1) (fCons (fVar 4) (fCons (fVar 3) (fCons (pur .non) (pur []))))))) (fA cTup (fCons (pur (.str "refused")) (fCons (fA cRepr (fCons (fVar 4) (pur []))) (fCons (pur (.bl true)) (pur []))))))) (sSeq (sRet (pur (.bl false))) sNext) sNext) (sSeq (sIf (fB (f2 cNeD (fHeard (fCall m_run_between (fCons (fVar 1) (fCons (fVar 2) (fCons (fVar 4) (fCons (pur .non) (pur []))))))) (fA cTup (fCons (pur (.str "refused")) (fCons (fA cRepr (fCons (fVar 4) (pur []))) (fCons (pur (.bl true)) (pur []))))))) (sSeq (sRet (pur (.bl false))) sNext) sNext) (sSeq (sIf (fB (f2 cNeD (fHeard (fCall m_run_to (fCons (fVar 1) (fCons (fVar 4) (fCons (pur .non) (pur [])))))) (fA cTup (fCons (pur (.str "refused")) (fCons (fA cRepr (fCons (fVar 4) (pur []))) (fCons (pur (.bl true)) (pur []))))))) (sSeq (sRet (pur (.bl false))) sNext) sNext) (sSeq (sSet 5 (fCall m__law_pick (fCons (fVar 0) (fCons (fA cLst (fCons (pur .non) (fCons (fA cTup (pur [])) (fCons (fSl (fVar 1) fPoN (fPo (pur (.int 5)))) (pur []))))) (pur []))))) (sSeq (sIf (fB (f2 cNeD (fHeard (fCall m_run_holds (fCons (fVar 5) (fCons (pur .non) (pur []))))) (fA cTup (fCons (pur (.str "refused")) (fCons (fA cRepr (fCons (fVar 5) (pur []))) (fCons (pur (.bl true)) (pur []))))))) (sSeq (sRet (pur (.bl false))) sNext) sNext) (sSeq (sIf (fB (f2 cNeD (fHeard (fCall m_run_between (fCons (fVar 1) (fCons (fVar 3) (fCons (fVar 2) (fCons (pur .non) (pur []))))))) (fA cTup (fCons (pur (.str "refused")) (fCons (fA cRepr (fCons (fVar 2) (pur []))) (fCons (pur (.bl true)) (pur []))))))) (sSeq (sRet (pur (.bl false))) sNext) sNext) (sSeq (sIf (fB (f2 cNeD (fHeard (fCall m_run_between (fCons (fVar 5) (fCons (pur .non) (fCons (pur .non) (fCons (pur .non) (pur []))))))) (fA cTup (fCons (pur (.str "refused")) (fCons (fA cRepr (fCons (fVar 5) (pur []))) (fCons (pur (.bl true)) (pur []))))))) (sSeq (sRet (pur (.bl false))) sNext) sNext) (sSeq (sIf (fB (f2 cNeD (fHeard (fCall m_run_to (fCons (fVar 5) (fCons (pur .non) (fCons (pur .non) (pur [])))))) (fA cTup (fCons (pur (.str "refused")) (fCons (fA cRepr (fCons (fVar 5) (pur []))) (fCons (pur (.bl true)) (pur []))))))) (sSeq (sRet (pur (.bl false))) sNext) sNext) (sSeq (sRet (pur (.bl true))) sNext))))))))))
def m__law_refused_right : List D → Sto → Res D := fun ds bx => noErr (fnD N__law_refused_right S__law_refused_right ds bx)

abbrev N_law : List Str := ["_law_script", "_law_k", "_law_box_here", "_law_source_here", "_law_run_here", "_law_first", "_law_last", "_law_one", "_law_other", "_law_some", "_law_many", "_law_told", "_law_ahead", "_law_turn", "_law_value", "_law_due", "_law_odd", "_law_none"]
def S_law : Sn := (sSeq (sFor (bOne 1) (fRg1 (fCons (pur (.int 4)) (pur []))) (sSeq (sSet 2 (fCall m__law_box (fCons (fVar 0) (fCons (fVar 1) (pur []))))) (sSeq (sSet 3 (fCall m__law_source (fCons (fVar 2) (pur [])))) (sSeq (sSet 4 (fCall m__law_run (fCons (fVar 2) (fCons (fVar 3) (fCons (f2 cPlus (pur (.int 2)) (fCall m__law_take (fCons (fVar 2) (fCons (fCall m__law_pick (fCons (fVar 2) (fCons (fA cLst (fCons (pur (.int 5)) (fCons (pur (.int 9)) (fCons (pur (.int 9)) (fCons (pur (.int 400)) (pur [])))))) (pur [])))) (pur []))))) (pur [])))))) (sSeq (sSet 5 (fCall m__law_take (fCons (fVar 2) (fCons (f2 cSub (fA cLen (fCons (fVar 4) (pur []))) (pur (.int 1))) (pur []))))) (sSeq (sSet 6 (f2 cPlus (f2 cPlus (fVar 5) (pur (.int 1))) (fCall m__law_take (fCons (fVar 2) (fCons (f2 cSub (f2 cSub (fA cLen (fCons (fVar 4) (pur []))) (pur (.int 1))) (fVar 5)) (pur [])))))) (sSeq (sUnp [7, 8] (fA cTup (fCons (f2 cIx (fVar 4) (fVar 5)) (fCons (f2 cIx (fVar 4) (fVar 6)) (pur []))))) (sSeq (sSet 9 (fCall m_counts (fCons (fVar 3) (fCons (fVar 7) (fCons (fVar 8) (pur [])))))) (sSeq (sIf (fB (f2 (cIn true) (f2 cSub (fVar 6) (fVar 5)) (fVar 9))) (sSeq (sRet (pur (.bl false))) sNext) sNext) (sSeq (sFor (bOne 10) (fWk (fA cLst (fCons (f2 cSub (fVar 6) (fVar 5)) (fCons (fCall m__law_pick (fCons (fVar 2) (fCons (fVar 9) (pur [])))) (pur []))))) (sSeq (sSet 11 (fCall m_run_between (fCons (fVar 3) (fCons (fVar 7) (fCons (fVar 8) (fCons (fVar 10) (pur []))))))) (sSeq (sIf (fIfT (fNot (fB (f1 (cIsi "tuple") (fVar 11)))) (pur true) (fIfT (fNot (fB (fCall m__law_is_run (fCons (fVar 3) (fCons (fVar 11) (pur [])))))) (pur true) (fIfT (fB (f2 cNeD (fA cLen (fCons (fVar 11) (pur []))) (f2 cPlus (fVar 10) (pur (.int 1))))) (pur true) (fIfT (fB (f2 cNeD (f2 cIx (fVar 11) (pur (.int 0))) (fVar 7))) (pur true) (fB (f2 cNeD (f2 cIx (fVar 11) (fVar 10)) (fVar 8))))))) (sSeq (sRet (pur (.bl false))) sNext) sNext) (sSeq (sIf (fIfT (fB (f2 (cIsB true) (fCall m_run_holds (fCons (fVar 3) (fCons (fVar 11) (pur [])))) (pur (.bl true)))) (pur true) (fNot (fB (fCall m__law_is_run (fCons (fVar 3) (fCons (fCallK m_run_between [3, 2, 1, 0] (fCons (fVar 10) (fCons (fA cListOf (fCons (fVar 8) (pur []))) (fCons (fA cListOf (fCons (fVar 7) (pur []))) (fCons (fVar 3) (pur [])))))) (pur []))))))) (sSeq (sRet (pur (.bl false))) sNext) sNext) sNext)))) (sSeq (sSet 12 (fCall m_ahead_counts (fCons (fVar 3) (fCons (fVar 8) (pur []))))) (sSeq (sIf (fB (f2 (cIn true) (fVar 6) (fVar 12))) (sSeq (sRet (pur (.bl false))) sNext) sNext) (sSeq (sSet 10 (fCall m__law_pick (fCons (fVar 2) (fCons (fVar 12) (pur []))))) (sSeq (sSet 11 (fCall m_run_to (fCons (fVar 3) (fCons (fVar 8) (fCons (fVar 10) (pur [])))))) (sSeq (sIf (fIfT (fNot (fB (f1 (cIsi "tuple") (fVar 11)))) (pur true) (fIfT (fNot (fB (fCall m__law_is_run (fCons (fVar 3) (fCons (fVar 11) (pur [])))))) (pur true) (fIfT (fB (f2 cNeD (fA cLen (fCons (fVar 11) (pur []))) (f2 cPlus (fVar 10) (pur (.int 1))))) (pur true) (fIfT (fB (f2 cNeD (f2 cIx (f2 cIx (fVar 11) (pur (.int 0))) (pur (.int 0))) (pur (.int 0)))) (pur true) (fB (f2 cNeD (f2 cIx (fVar 11) (fVar 10)) (fVar 8))))))) (sSeq (sRet (pur (.bl false))) sNext) sNext) (sSeq (sFor (bOne 13) (fRg1 (fCons (pur (.int 4)) (pur []))) (sSeq (sSet 14 (fCall m__law_bent (fCons (fVar 2) (fCons (fSl (fVar 4) fPoN (fPo (pur (.int 8)))) (pur []))))) (sSeq (sSet 15 (fCall m__law_is_run (fCons (fVar 3) (fCons (fVar 14) (pur []))))) (sSeq (sIf (fB (f2 cNeD (fA cRepr (fCons (fA cLst (fCons (fCall m_run_holds (fCons (fVar 3) (fCons (fVar 14) (pur [])))) (fCons (fCallK m_run_holds [1, 0] (fCons (fVar 14) (fCons (fA cListOf (fCons (fVar 3) (pur []))) (pur [])))) (pur [])))) (pur []))) (fA cRepr (fCons (fA cLst (fCons (fVar 15) (fCons (fVar 15) (pur [])))) (pur []))))) (sSeq (sRet (pur (.bl false))) sNext) sNext) sNext)))) (sSeq (sSet 16 (fCall m__law_pick (fCons (fVar 2) (fCons (fA cLst (fCons (pur .non) (fCons (f2 cPlus (f2 cIx (fVar 9) (pur (.int 0))) (pur (.int 1))) (fCons (pur (.int 0)) (fCons (fIfT (fB (f2 cNeD (f2 cIx (fVar 9) (pur (.int 0))) (pur (.int 1)))) (pur (.bl true)) (pur (.bl false))) (fCons (pur (.str "1")) (fCons (f2 cSub (pur (.int 0)) (pur (.int 1))) (pur [])))))))) (pur []))))) (sSeq (sIf (fB (f2 cNeD (fHeard (fCall m_run_between (fCons (fVar 3) (fCons (fVar 7) (fCons (fVar 8) (fCons (fVar 16) (pur []))))))) (fA cTup (fCons (pur (.str "refused")) (fCons (fA cRepr (fCons (fVar 16) (pur []))) (fCons (pur (.bl true)) (pur []))))))) (sSeq (sRet (pur (.bl false))) sNext) sNext) (sSeq (sSet 17 (fCall m__law_pick (fCons (fVar 2) (fCons (fA cLst (fCons (pur .non) (fCons (f2 cPlus (f2 cIx (fVar 12) (pur (.int 0))) (pur (.int 1))) (fCons (f2 cSub (pur (.int 0)) (pur (.int 1))) (fCons (pur (.str "0")) (pur [])))))) (pur []))))) (sSeq (sIf (fB (f2 cNeD (fHeard (fCall m_run_to (fCons (fVar 3) (fCons (fVar 8) (fCons (fVar 17) (pur [])))))) (fA cTup (fCons (pur (.str "refused")) (fCons (fA cRepr (fCons (fVar 17) (pur []))) (fCons (pur (.bl true)) (pur []))))))) (sSeq (sRet (pur (.bl false))) sNext) sNext) (sSeq (sIf (fNot (fB (fCall m__law_refused_right (fCons (fVar 2) (fCons (fVar 3) (fCons (fVar 7) (fCons (fVar 8) (pur [])))))))) (sSeq (sRet (pur (.bl false))) sNext) sNext) sNext))))))))))))))))))))) (sSeq (sRet (pur (.bl true))) sNext))
def m_law : List D → Sto → Res D := fun ds bx => noErr (fnD N_law S_law ds bx)
/-- what the mathematics gives: at every script the law's mirror is true -/
def LawIs : Prop := ∀ ns : List Int, ns.length ≤ 63 → ∃ st, m_law [.scr ns] [] = .ok (.bl true) st
end K14

end
section
set_option Elab.async false
set_option linter.all false
set_option maxRecDepth 100000
set_option maxHeartbeats 4000000
namespace K14
open PySem PySem.Spec PyProof.Rows L2 Ms
def topS (i : Nat) : Stmt := PySem.Challenge.pw_wrecktold_k14_whole_runs_of_a_boot.main.body.getD i (.Pass ⟨0, 0, 0, 0⟩)
structure Txt (K : PySem.W.Frag) (mg : Str → Option Value) (P : Pm) (fI_Refused : Addr) : Prop where
  abs : mg "abs" = none
  all : mg "all" = none
  bool : mg "bool" = none
  int : mg "int" = none
  isinstance : mg "isinstance" = none
  len : mg "len" = none
  list : mg "list" = none
  max : mg "max" = none
  range : mg "range" = none
  repr : mg "repr" = none
  tuple : mg "tuple" = none
  zip : mg "zip" = none
  MOST_TICKS : ∃ t, mg "MOST_TICKS" = some (.int 100 t)
  MOST_WAY : ∃ t, mg "MOST_WAY" = some (.int 1000 t)
  MOST_STAMPS : ∃ t, mg "MOST_STAMPS" = some (.int 1000 t)
  NUMBERS : ∃ t, mg "NUMBERS" = some (.int 256 t)
  LAST_STAMP : ∃ t, mg "LAST_STAMP" = some (.int 1000000 t)
  low_Refused : PySem.RefX.LowTxt "Refused" "Refused.__init__" K mg (P.CR "Refused") fI_Refused
  heard : ∃ (aH : Addr) (ocH kVH docH pmH cdH ctH : Value) (odH anH : Option Addr) (oslH : Array (Option Value)), mg "_law_heard" = some (.ref aH) ∧ PySem.W.keepIn K (.ref aH) = true ∧
    K.lookup aH = some ⟨ocH, odH, .func (PySem.W.fnOf "_law_heard" "_law_heard" (defArgs (topS 39)) (defBody (topS 39)) (defScope (topS 39)) .none kVH docH pmH anH cdH ctH), oslH⟩ ∧ PySem.W.codeIn K cdH "_law_heard" = true ∧
    L2.Binds K (PySem.W.fnOf "_law_heard" "_law_heard" (defArgs (topS 39)) (defBody (topS 39)) (defScope (topS 39)) .none kVH docH pmH anH cdH ctH) ["_law_ask"] []
  wr : ∃ B, mg "WreckError" = some (.ref B) ∧ P.CR "Refused" ≠ B ∧ PySem.W.kitOne K (.ref (P.CR "Refused")) (.ref B) = some true
theorem sc_heard : FnScope ["_law_ask", "fault"] ["_law_ask"] (defScope (topS 39)) := ⟨rfl, rfl, rfl, by decide +kernel, rfl, by decide +kernel, by decide +kernel⟩
theorem hrd {X : Cx} {P : Pm} {E : XK} {F : Fn D} {c Pt fI_Refused : Addr} {k : Nat} {params : Arguments} {body : Expr} {scope : Scope} {p lpos pos : Pos} (T : Txt X.K X.mg P fI_Refused) (hga : X.A.guards = some []) (hr : Room (k + 2) X.A)
    (TB : LamX.TabB X.base X.mg c Pt) (hcode : X.env.code = .ref c) (hmT : (Pt, X.env.qual ++ "<lambda>") ∈ P.T) (hu : ∀ q ∈ P.T, q.1 = Pt → q.2 = X.env.qual ++ "<lambda>") (L : LamX.LamS X.env.scope scope) (hdef : defaultsOf params X.env = ([], []))
    (hbind : ∀ (q : Str) (cl : List (Str × Addr)) (pm cv ctv : Value), bindArgs (PySem.W.kla_fn "<lambda>" q params body scope cl pm cv ctv) ⟨[], []⟩ = pure [])
    (hbody : ∀ (A : Around) (outer : List Env) (s : Shared) (H : Hp) (E' : XK) (f c' : Addr), Room k (A.deeper (LamX.lamEnv X scope s.heap.objs.size f c')) → ED (LamX.lamCx X A outer s H E' scope f c') P E' body F) (hg : Gl X "_law_heard" := by rfl) :
    ED X P E (.Call (.Name "_law_heard" p) [.Lambda params body scope lpos] [] pos) (fHeard F) := by
  obtain ⟨aH, ocH, kVH, docH, pmH, cdH, ctH, odH, anH, oslH, gH, kH, lH, cH, bH⟩ := T.heard
  obtain ⟨B, gB, ne, kit⟩ := T.wr
  exact ed_heard hg gH kH lH cH bH sc_heard rfl (.inl rfl) (heard_gives (k := 0) hga (hr.mono (Nat.le_add_left 2 k)) T.low_Refused ne kit gB T.repr T.isinstance rfl rfl rfl rfl rfl rfl) TB hcode hmT hu hr L hdef hbind hbody
section
variable {Pg : Program} {w : World} {K : PySem.W.Frag} {mg : Str → Option Value} {base : Heap} {P : Pm} {fI_Refused : Addr}
theorem nd__law_box : N__law_box.Nodup := by decide +kernel
theorem sc__law_box : FnScope N__law_box ["_law_script", "_law_k"] (defScope (topS 32)) := ⟨rfl, rfl, rfl, by decide +kernel, rfl, by decide +kernel, by decide +kernel⟩
theorem ok__law_box {f : Addr} {oc kV doc pm cdv ct : Value} {od an : Option Addr} {osl : Array (Option Value)} (T : Txt K mg P fI_Refused)   (l32 : K.lookup f = some ⟨oc, od, .func (PySem.W.fnOf "_law_box" "_law_box" (defArgs (topS 32)) (defBody (topS 32)) (defScope (topS 32)) .none kV doc pm an cdv ct), osl⟩) (hcd : PySem.W.codeIn K cdv "_law_box" = true) (kp : PySem.W.keepIn K (.ref f) = true) (hm : mg "_law_box" = some (.ref f)) : DfB false Pg w K mg base P CX0 1 "_law_box" (topS 32) ["_law_script", "_law_k"] m__law_box :=
  df_B0 (gd := false) (N := N__law_box) (S := S__law_box) (k := 0) l32 hcd kp hm sc__law_box (fun _ _ _ _ _ _ us hl => match us, hl with | [_, _], _ => rfl) fun A outer s H hga hr => (ssd_cons (sd_set 2 nd__law_box rfl (.inl rfl) (ed_plus (ed_mul ed_int (ed_var 1)) ed_int))
      (ssd_cons (sd_if (et_lt (ed_var 1) (ed_blt call_lenA cd_len (by rfl) T.len b_len (ea_cons (ed_var 0) ea_nil))) (ssd_cons (sd_set 2 nd__law_box rfl (.inl rfl) (ed_blt call_abs cd_abs (by rfl) T.abs b_abs (ea_cons (ed_ty call_int1 cd_int (by rfl) T.int b_int (ea_cons (ed_ix (ed_var 0) (ed_var 1) (fun _ _ => rfl)) ea_nil)) ea_nil)))
      ssd_nil) (ssd_cons (sd_if (et_gt (ed_blt call_lenA cd_len (by rfl) T.len b_len (ea_cons (ed_var 0) ea_nil)) ed_int) (ssd_cons (sd_set 2 nd__law_box rfl (.inl rfl) (ed_plus (ed_var 2) (ed_mul (ed_mod (ed_ty call_int1 cd_int (by rfl) T.int b_int (ea_cons (ed_blt call_abs cd_abs (by rfl) T.abs b_abs (ea_cons (ed_ty call_int1 cd_int (by rfl) T.int b_int (ea_cons (ed_ix (ed_var 0) (ed_mod (ed_ty call_int1 cd_int (by rfl) T.int b_int (ea_cons (ed_var 1) ea_nil)) (ed_blt call_lenA cd_len (by rfl) T.len b_len (ea_cons (ed_var 0) ea_nil))) (fun _ _ => rfl)) ea_nil)) ea_nil)) ea_nil)) ed_int) ed_int)))
      ssd_nil) ssd_nil)
      ssd_nil))
      (ssd_cons (sd_set 3 nd__law_box rfl (.inl rfl) (ed_ifExp (et_ge (ed_var 2) (ed_pow ed_int ed_int)) (ed_var 2) ed_int))
      (ssd_cons (sd_ret (ed_lstM (ea_cons (ed_var 3) (ea_cons (ed_plus (ed_mod (ed_ty call_int1 cd_int (by rfl) T.int b_int (ea_cons (ed_plus (ed_mul (ed_mod (ed_ty call_int1 cd_int (by rfl) T.int b_int (ea_cons (ed_var 2) ea_nil)) ed_int) ed_int) (ed_mul ed_int (ed_var 1))) ea_nil)) ed_int) ed_int) ea_nil))))
      ssd_nil))))

theorem nd__law_take : N__law_take.Nodup := by decide +kernel
theorem sc__law_take : FnScope N__law_take ["_law_box_here", "_law_many"] (defScope (topS 33)) := ⟨rfl, rfl, rfl, by decide +kernel, rfl, by decide +kernel, by decide +kernel⟩
theorem ok__law_take {f : Addr} {oc kV doc pm cdv ct : Value} {od an : Option Addr} {osl : Array (Option Value)} (T : Txt K mg P fI_Refused)   (l33 : K.lookup f = some ⟨oc, od, .func (PySem.W.fnOf "_law_take" "_law_take" (defArgs (topS 33)) (defBody (topS 33)) (defScope (topS 33)) .none kV doc pm an cdv ct), osl⟩) (hcd : PySem.W.codeIn K cdv "_law_take" = true) (kp : PySem.W.keepIn K (.ref f) = true) (hm : mg "_law_take" = some (.ref f)) : DfB false Pg w K mg base P CX0 1 "_law_take" (topS 33) ["_law_box_here", "_law_many"] m__law_take :=
  df_B0 (gd := false) (N := N__law_take) (S := S__law_take) (k := 0) l33 hcd kp hm sc__law_take (fun _ _ _ _ _ _ us hl => match us, hl with | [_, _], _ => rfl) fun A outer s H hga hr => (ssd_cons (sd_if (et_gt (ed_ix (ed_var 0) ed_int (fun _ _ => rfl)) ed_int) (ssd_cons (sd_set 2 nd__law_take rfl (.inl rfl) (ed_mod (ed_ty call_int1 cd_int (by rfl) T.int b_int (ea_cons (ed_ix (ed_var 0) ed_int (fun _ _ => rfl)) ea_nil)) (ed_var 1)))
      (ssd_cons (sd_put (ed_div (ed_ix (ed_var 0) ed_int (fun _ _ => rfl)) (ed_var 1)) (ed_var 0) ed_int)
      (ssd_cons (sd_ret (ed_var 2))
      ssd_nil))) ssd_nil)
      (ssd_cons (sd_set 3 nd__law_take rfl (.inl rfl) (ed_mod (ed_ty call_int1 cd_int (by rfl) T.int b_int (ea_cons (ed_plus (ed_mul (ed_ix (ed_var 0) ed_int (fun _ _ => rfl)) ed_int) ed_int) ea_nil)) ed_int))
      (ssd_cons (sd_put (ed_plus (ed_mod (ed_ty call_int1 cd_int (by rfl) T.int b_int (ea_cons (ed_plus (ed_mul (ed_var 3) ed_int) ed_int) ea_nil)) ed_int) ed_int) (ed_var 0) ed_int)
      (ssd_cons (sd_ret (ed_mod (ed_ty call_int1 cd_int (by rfl) T.int b_int (ea_cons (ed_div (ed_plus (ed_mul (ed_var 3) ed_int) (ed_ix (ed_var 0) ed_int (fun _ _ => rfl))) ed_int) ea_nil)) (ed_var 1)))
      ssd_nil))))

theorem nd__law_pick : N__law_pick.Nodup := by decide +kernel
theorem sc__law_pick : FnScope N__law_pick ["_law_box_here", "_law_some"] (defScope (topS 34)) := ⟨rfl, rfl, rfl, by decide +kernel, rfl, by decide +kernel, by decide +kernel⟩
theorem ok__law_pick {f : Addr} {oc kV doc pm cdv ct : Value} {od an : Option Addr} {osl : Array (Option Value)} (T : Txt K mg P fI_Refused) (D__law_take : DfB false Pg w K mg base P CX0 1 "_law_take" (topS 33) ["_law_box_here", "_law_many"] m__law_take)  (l34 : K.lookup f = some ⟨oc, od, .func (PySem.W.fnOf "_law_pick" "_law_pick" (defArgs (topS 34)) (defBody (topS 34)) (defScope (topS 34)) .none kV doc pm an cdv ct), osl⟩) (hcd : PySem.W.codeIn K cdv "_law_pick" = true) (kp : PySem.W.keepIn K (.ref f) = true) (hm : mg "_law_pick" = some (.ref f)) : DfB false Pg w K mg base P CX0 2 "_law_pick" (topS 34) ["_law_box_here", "_law_some"] m__law_pick :=
  df_B0 (gd := false) (N := N__law_pick) (S := S__law_pick) (k := 1) l34 hcd kp hm sc__law_pick (fun _ _ _ _ _ _ us hl => match us, hl with | [_, _], _ => rfl) fun A outer s H hga hr => (ssd_cons (sd_ret (ed_ix (ed_var 1) (ed_callB noG D__law_take (hr.mono (by decide)) pass0' (by rfl) (ea_cons (ed_var 0) (ea_cons (ed_blt call_lenA cd_len (by rfl) T.len b_len (ea_cons (ed_var 1) ea_nil)) ea_nil)) (len_cons (len_cons (fun _ _ _ _ h => len_nil h)))) (fun _ _ => rfl)))
      ssd_nil)

theorem nd__law_source : N__law_source.Nodup := by decide +kernel
theorem sc__law_source : FnScope N__law_source ["_law_box_here"] (defScope (topS 35)) := ⟨rfl, rfl, rfl, by decide +kernel, rfl, by decide +kernel, by decide +kernel⟩
theorem ok__law_source {f : Addr} {oc kV doc pm cdv ct : Value} {od an : Option Addr} {osl : Array (Option Value)} (T : Txt K mg P fI_Refused) (D__law_take : DfB false Pg w K mg base P CX0 1 "_law_take" (topS 33) ["_law_box_here", "_law_many"] m__law_take) (D__law_pick : DfB false Pg w K mg base P CX0 2 "_law_pick" (topS 34) ["_law_box_here", "_law_some"] m__law_pick)  (l35 : K.lookup f = some ⟨oc, od, .func (PySem.W.fnOf "_law_source" "_law_source" (defArgs (topS 35)) (defBody (topS 35)) (defScope (topS 35)) .none kV doc pm an cdv ct), osl⟩) (hcd : PySem.W.codeIn K cdv "_law_source" = true) (kp : PySem.W.keepIn K (.ref f) = true) (hm : mg "_law_source" = some (.ref f)) : DfB false Pg w K mg base P CX0 3 "_law_source" (topS 35) ["_law_box_here"] m__law_source :=
  df_B0 (gd := false) (N := N__law_source) (S := S__law_source) (k := 2) l35 hcd kp hm sc__law_source (fun _ _ _ _ _ _ us hl => match us, hl with | [_], _ => rfl) fun A outer s H hga hr => (ssd_cons (sd_set 1 nd__law_source rfl (.inl rfl) (ed_plus ed_int (ed_callB noG D__law_take (hr.mono (by decide)) pass0' (by rfl) (ea_cons (ed_var 0) (ea_cons ed_int ea_nil)) (len_cons (len_cons (fun _ _ _ _ h => len_nil h))))))
      (ssd_cons (sd_set 2 nd__law_source rfl (.inl rfl) (ed_plus (ed_var 1) (ed_callB noG D__law_pick (hr.mono (by decide)) pass0' (by rfl) (ea_cons (ed_var 0) (ea_cons (ed_lst (ea_cons ed_int (ea_cons ed_int (ea_cons ed_int (ea_cons ed_int (ea_cons ed_int ea_nil)))))) ea_nil)) (len_cons (len_cons (fun _ _ _ _ h => len_nil h))))))
      (ssd_cons (sd_par 3 4 rfl nd__law_source rfl rfl (by decide) rfl rfl (ea_cons (ed_plus ed_int (ed_callB noG D__law_take (hr.mono (by decide)) pass0' (by rfl) (ea_cons (ed_var 0) (ea_cons ed_int ea_nil)) (len_cons (len_cons (fun _ _ _ _ h => len_nil h))))) (ea_cons (ed_callB noG D__law_take (hr.mono (by decide)) pass0' (by rfl) (ea_cons (ed_var 0) (ea_cons ed_int ea_nil)) (len_cons (len_cons (fun _ _ _ _ h => len_nil h)))) ea_nil)) (by rfl))
      (ssd_cons (sd_ret (ed_tup (ea_cons (ed_var 3) (ea_cons (ed_plus (ed_var 3) (ed_callB noG D__law_take (hr.mono (by decide)) pass0' (by rfl) (ea_cons (ed_var 0) (ea_cons ed_int ea_nil)) (len_cons (len_cons (fun _ _ _ _ h => len_nil h))))) (ea_cons (ed_var 4) (ea_cons (ed_plus (ed_var 4) (ed_callB noG D__law_take (hr.mono (by decide)) pass0' (by rfl) (ea_cons (ed_var 0) (ea_cons (ed_mul (ed_var 3) (ed_var 1)) ea_nil)) (len_cons (len_cons (fun _ _ _ _ h => len_nil h))))) (ea_cons (ed_var 1) (ea_cons (ed_var 2) ea_nil))))))))
      ssd_nil))))

theorem nd__law_run : N__law_run.Nodup := by decide +kernel
theorem sc__law_run : FnScope N__law_run ["_law_box_here", "_law_source_here", "_law_many"] (defScope (topS 36)) := ⟨rfl, rfl, rfl, by decide +kernel, rfl, by decide +kernel, by decide +kernel⟩
theorem ok__law_run {f : Addr} {oc kV doc pm cdv ct : Value} {od an : Option Addr} {osl : Array (Option Value)} (T : Txt K mg P fI_Refused) (D__law_take : DfB false Pg w K mg base P CX0 1 "_law_take" (topS 33) ["_law_box_here", "_law_many"] m__law_take)  (l36 : K.lookup f = some ⟨oc, od, .func (PySem.W.fnOf "_law_run" "_law_run" (defArgs (topS 36)) (defBody (topS 36)) (defScope (topS 36)) .none kV doc pm an cdv ct), osl⟩) (hcd : PySem.W.codeIn K cdv "_law_run" = true) (kp : PySem.W.keepIn K (.ref f) = true) (hm : mg "_law_run" = some (.ref f)) : DfB false Pg w K mg base P CX0 2 "_law_run" (topS 36) ["_law_box_here", "_law_source_here", "_law_many"] m__law_run :=
  df_B0 (gd := false) (N := N__law_run) (S := S__law_run) (k := 1) l36 hcd kp hm sc__law_run (fun _ _ _ _ _ _ us hl => match us, hl with | [_, _, _], _ => rfl) fun A outer s H hga hr => (ssd_cons (sd_par 3 4 rfl nd__law_run rfl rfl (by decide) rfl rfl (ea_cons (ed_callB noG D__law_take (hr.mono (by decide)) pass0' (by rfl) (ea_cons (ed_var 0) (ea_cons ed_int ea_nil)) (len_cons (len_cons (fun _ _ _ _ h => len_nil h)))) (ea_cons (ed_lstM ea_nil) ea_nil)) (by rfl))
      (ssd_cons (sd_for PassesOwn.never rfl (ei_rg1 (by rfl) T.range (ea_cons (ed_var 2) ea_nil)) (pg_name (i := 5) nd__law_run rfl (.inl rfl)) (gd_one 5) (ssd_cons (sd_app (ed_var 4) (ed_tup (ea_cons (ed_mod (ed_var 5) ed_int) (ea_cons (ed_var 3) ea_nil))))
      (ssd_cons (sd_set 3 nd__law_run rfl (.inl rfl) (ed_plus (ed_plus (ed_var 3) (ed_ix (ed_var 1) ed_int (fun _ _ => rfl))) (ed_callB noG D__law_take (hr.mono (by decide)) pass0' (by rfl) (ea_cons (ed_var 0) (ea_cons (ed_plus (ed_sub (ed_ix (ed_var 1) ed_int (fun _ _ => rfl)) (ed_ix (ed_var 1) ed_int (fun _ _ => rfl))) ed_int) ea_nil)) (len_cons (len_cons (fun _ _ _ _ h => len_nil h))))))
      ssd_nil)))
      (ssd_frz 4 (ssd_cons (sd_ret (ed_var 4))
      ssd_nil))))

theorem nd_is_sequence : N_is_sequence.Nodup := by decide +kernel
theorem sc_is_sequence : FnScope N_is_sequence ["value"] (defScope (topS 7)) := ⟨rfl, rfl, rfl, by decide +kernel, rfl, by decide +kernel, by decide +kernel⟩
theorem ok_is_sequence {f : Addr} {oc kV doc pm cdv ct : Value} {od an : Option Addr} {osl : Array (Option Value)} (T : Txt K mg P fI_Refused)   (l7 : K.lookup f = some ⟨oc, od, .func (PySem.W.fnOf "is_sequence" "is_sequence" (defArgs (topS 7)) (defBody (topS 7)) (defScope (topS 7)) .none kV doc pm an cdv ct), osl⟩) (hcd : PySem.W.codeIn K cdv "is_sequence" = true) (kp : PySem.W.keepIn K (.ref f) = true) (hm : mg "is_sequence" = some (.ref f)) : DfB false Pg w K mg base P CX0 1 "is_sequence" (topS 7) ["value"] m_is_sequence :=
  df_B0 (gd := false) (N := N_is_sequence) (S := S_is_sequence) (k := 0) l7 hcd kp hm sc_is_sequence (fun _ _ _ _ _ _ us hl => match us, hl with | [_], _ => rfl) fun A outer s H hga hr => (ssd_cons (sd_ret (ed_isi2 (by rfl) T.isinstance b_isinstance (ed_var 0) (by rfl) T.list b_list (by rfl) T.tuple b_tuple))
      ssd_nil)

theorem nd_has_parts : N_has_parts.Nodup := by decide +kernel
theorem sc_has_parts : FnScope N_has_parts ["value", "many"] (defScope (topS 8)) := ⟨rfl, rfl, rfl, by decide +kernel, rfl, by decide +kernel, by decide +kernel⟩
theorem ok_has_parts {f : Addr} {oc kV doc pm cdv ct : Value} {od an : Option Addr} {osl : Array (Option Value)} (T : Txt K mg P fI_Refused) (D_is_sequence : DfB false Pg w K mg base P CX0 1 "is_sequence" (topS 7) ["value"] m_is_sequence)  (l8 : K.lookup f = some ⟨oc, od, .func (PySem.W.fnOf "has_parts" "has_parts" (defArgs (topS 8)) (defBody (topS 8)) (defScope (topS 8)) .none kV doc pm an cdv ct), osl⟩) (hcd : PySem.W.codeIn K cdv "has_parts" = true) (kp : PySem.W.keepIn K (.ref f) = true) (hm : mg "has_parts" = some (.ref f)) : DfB false Pg w K mg base P CX0 2 "has_parts" (topS 8) ["value", "many"] m_has_parts :=
  df_B0 (gd := false) (N := N_has_parts) (S := S_has_parts) (k := 1) l8 hcd kp hm sc_has_parts (fun _ _ _ _ _ _ us hl => match us, hl with | [_, _], _ => rfl) fun A outer s H hga hr => (ssd_cons (sd_ret (ed_and (ed_callB noG D_is_sequence (hr.mono (by decide)) pass0' (by rfl) (ea_cons (ed_var 0) ea_nil) (len_cons (fun _ _ _ _ h => len_nil h))) (ed_one (ed_eq hr.units (ed_blt call_lenA cd_len (by rfl) T.len b_len (ea_cons (ed_var 0) ea_nil)) (ed_var 1)))))
      ssd_nil)

theorem nd_is_integer : N_is_integer.Nodup := by decide +kernel
theorem sc_is_integer : FnScope N_is_integer ["value"] (defScope (topS 4)) := ⟨rfl, rfl, rfl, by decide +kernel, rfl, by decide +kernel, by decide +kernel⟩
theorem ok_is_integer {f : Addr} {oc kV doc pm cdv ct : Value} {od an : Option Addr} {osl : Array (Option Value)} (T : Txt K mg P fI_Refused)   (l4 : K.lookup f = some ⟨oc, od, .func (PySem.W.fnOf "is_integer" "is_integer" (defArgs (topS 4)) (defBody (topS 4)) (defScope (topS 4)) .none kV doc pm an cdv ct), osl⟩) (hcd : PySem.W.codeIn K cdv "is_integer" = true) (kp : PySem.W.keepIn K (.ref f) = true) (hm : mg "is_integer" = some (.ref f)) : DfB false Pg w K mg base P CX0 1 "is_integer" (topS 4) ["value"] m_is_integer :=
  df_B0 (gd := false) (N := N_is_integer) (S := S_is_integer) (k := 0) l4 hcd kp hm sc_is_integer (fun _ _ _ _ _ _ us hl => match us, hl with | [_], _ => rfl) fun A outer s H hga hr => (ssd_cons (sd_ret (ed_and (ed_isi (by rfl) T.isinstance b_isinstance (ed_var 0) (by rfl) T.int b_int) (ed_one (ed_not (ed_isi (by rfl) T.isinstance b_isinstance (ed_var 0) (by rfl) T.bool b_bool)))))
      ssd_nil)

theorem nd_is_within : N_is_within.Nodup := by decide +kernel
theorem sc_is_within : FnScope N_is_within ["value", "least", "most"] (defScope (topS 5)) := ⟨rfl, rfl, rfl, by decide +kernel, rfl, by decide +kernel, by decide +kernel⟩
theorem ok_is_within {f : Addr} {oc kV doc pm cdv ct : Value} {od an : Option Addr} {osl : Array (Option Value)} (T : Txt K mg P fI_Refused) (D_is_integer : DfB false Pg w K mg base P CX0 1 "is_integer" (topS 4) ["value"] m_is_integer)  (l5 : K.lookup f = some ⟨oc, od, .func (PySem.W.fnOf "is_within" "is_within" (defArgs (topS 5)) (defBody (topS 5)) (defScope (topS 5)) .none kV doc pm an cdv ct), osl⟩) (hcd : PySem.W.codeIn K cdv "is_within" = true) (kp : PySem.W.keepIn K (.ref f) = true) (hm : mg "is_within" = some (.ref f)) : DfB false Pg w K mg base P CX0 2 "is_within" (topS 5) ["value", "least", "most"] m_is_within :=
  df_B0 (gd := false) (N := N_is_within) (S := S_is_within) (k := 1) l5 hcd kp hm sc_is_within (fun _ _ _ _ _ _ us hl => match us, hl with | [_, _, _], _ => rfl) fun A outer s H hga hr => (ssd_cons (sd_ret (ed_and (ed_callB noG D_is_integer (hr.mono (by decide)) pass0' (by rfl) (ea_cons (ed_var 0) ea_nil) (len_cons (fun _ _ _ _ h => len_nil h))) (ed_one (ed_chain op_le op_le (ed_var 1) (ed_var 0) (ed_var 2)))))
      ssd_nil)

theorem nd__is_range : N__is_range.Nodup := by decide +kernel
theorem sc__is_range : FnScope N__is_range ["low", "high", "least", "most"] (defScope (topS 15)) := ⟨rfl, rfl, rfl, by decide +kernel, rfl, by decide +kernel, by decide +kernel⟩
theorem ok__is_range {f : Addr} {oc kV doc pm cdv ct : Value} {od an : Option Addr} {osl : Array (Option Value)} (T : Txt K mg P fI_Refused) (D_is_within : DfB false Pg w K mg base P CX0 2 "is_within" (topS 5) ["value", "least", "most"] m_is_within)  (l15 : K.lookup f = some ⟨oc, od, .func (PySem.W.fnOf "_is_range" "_is_range" (defArgs (topS 15)) (defBody (topS 15)) (defScope (topS 15)) .none kV doc pm an cdv ct), osl⟩) (hcd : PySem.W.codeIn K cdv "_is_range" = true) (kp : PySem.W.keepIn K (.ref f) = true) (hm : mg "_is_range" = some (.ref f)) : DfB false Pg w K mg base P CX0 3 "_is_range" (topS 15) ["low", "high", "least", "most"] m__is_range :=
  df_B0 (gd := false) (N := N__is_range) (S := S__is_range) (k := 2) l15 hcd kp hm sc__is_range (fun _ _ _ _ _ _ us hl => match us, hl with | [_, _, _, _], _ => rfl) fun A outer s H hga hr => (ssd_cons (sd_ret (ed_and (ed_callB noG D_is_within (hr.mono (by decide)) pass0' (by rfl) (ea_cons (ed_var 0) (ea_cons (ed_var 2) (ea_cons (ed_var 3) ea_nil))) (len_cons (len_cons (len_cons (fun _ _ _ _ h => len_nil h))))) (ed_one (ed_callB noG D_is_within (hr.mono (by decide)) pass0' (by rfl) (ea_cons (ed_var 1) (ea_cons (ed_var 0) (ea_cons (ed_var 3) ea_nil))) (len_cons (len_cons (len_cons (fun _ _ _ _ h => len_nil h))))))))
      ssd_nil)

theorem nd_is_source : N_is_source.Nodup := by decide +kernel
theorem sc_is_source : FnScope N_is_source ["value"] (defScope (topS 16)) := ⟨rfl, rfl, rfl, by decide +kernel, rfl, by decide +kernel, by decide +kernel⟩
theorem ok_is_source {f : Addr} {oc kV doc pm cdv ct : Value} {od an : Option Addr} {osl : Array (Option Value)} (T : Txt K mg P fI_Refused) (D_has_parts : DfB false Pg w K mg base P CX0 2 "has_parts" (topS 8) ["value", "many"] m_has_parts) (D__is_range : DfB false Pg w K mg base P CX0 3 "_is_range" (topS 15) ["low", "high", "least", "most"] m__is_range)  (l16 : K.lookup f = some ⟨oc, od, .func (PySem.W.fnOf "is_source" "is_source" (defArgs (topS 16)) (defBody (topS 16)) (defScope (topS 16)) .none kV doc pm an cdv ct), osl⟩) (hcd : PySem.W.codeIn K cdv "is_source" = true) (kp : PySem.W.keepIn K (.ref f) = true) (hm : mg "is_source" = some (.ref f)) : DfB false Pg w K mg base P CX0 4 "is_source" (topS 16) ["value"] m_is_source :=
  df_B0 (gd := false) (N := N_is_source) (S := S_is_source) (k := 3) l16 hcd kp hm sc_is_source (fun _ _ _ _ _ _ us hl => match us, hl with | [_], _ => rfl) fun A outer s H hga hr => (ssd_cons (sd_if (et_not (et_val (ed_callB noG D_has_parts (hr.mono (by decide)) pass0' (by rfl) (ea_cons (ed_var 0) (ea_cons ed_int ea_nil)) (len_cons (len_cons (fun _ _ _ _ h => len_nil h)))))) (ssd_cons (sd_ret ed_bl)
      ssd_nil) ssd_nil)
      (ssd_cons (sd_unp [1, 2, 3, 4, 5, 6] rfl (pgs_cons (pg_name (i := 1) nd_is_source rfl (.inl rfl)) (pgs_cons (pg_name (i := 2) nd_is_source rfl (.inl rfl)) (pgs_cons (pg_name (i := 3) nd_is_source rfl (.inl rfl)) (pgs_cons (pg_name (i := 4) nd_is_source rfl (.inl rfl)) (pgs_cons (pg_name (i := 5) nd_is_source rfl (.inl rfl)) (pgs_cons (pg_name (i := 6) nd_is_source rfl (.inl rfl)) pgs_nil)))))) rfl (ed_var 0))
      (ssd_cons (sd_if (et_w (ew_or (et_not (et_val (ed_callB noG D__is_range (hr.mono (by decide)) pass0' (by rfl) (ea_cons (ed_var 1) (ea_cons (ed_var 2) (ea_cons ed_int (ea_cons (ed_globE (by rfl) T.MOST_TICKS) ea_nil)))) (len_cons (len_cons (len_cons (len_cons (fun _ _ _ _ h => len_nil h)))))))) (ew_or1 (et_not (et_val (ed_callB noG D__is_range (hr.mono (by decide)) pass0' (by rfl) (ea_cons (ed_var 3) (ea_cons (ed_var 4) (ea_cons ed_int (ea_cons (ed_globE (by rfl) T.MOST_WAY) ea_nil)))) (len_cons (len_cons (len_cons (len_cons (fun _ _ _ _ h => len_nil h))))))))))) (ssd_cons (sd_ret ed_bl)
      ssd_nil) ssd_nil)
      (ssd_cons (sd_ret (ed_and (ed_callB noG D__is_range (hr.mono (by decide)) pass0' (by rfl) (ea_cons (ed_var 5) (ea_cons (ed_var 6) (ea_cons ed_int (ea_cons (ed_globE (by rfl) T.MOST_STAMPS) ea_nil)))) (len_cons (len_cons (len_cons (len_cons (fun _ _ _ _ h => len_nil h)))))) (ed_one (ed_gt (ed_mul (ed_var 1) (ed_var 5)) (ed_sub (ed_var 4) (ed_var 3))))))
      ssd_nil))))

theorem nd__need_source : N__need_source.Nodup := by decide +kernel
theorem sc__need_source : FnScope N__need_source ["value"] (defScope (topS 19)) := ⟨rfl, rfl, rfl, by decide +kernel, rfl, by decide +kernel, by decide +kernel⟩
theorem ok__need_source {f : Addr} {oc kV doc pm cdv ct : Value} {od an : Option Addr} {osl : Array (Option Value)} (T : Txt K mg P fI_Refused) (D_is_source : DfB false Pg w K mg base P CX0 4 "is_source" (topS 16) ["value"] m_is_source)  (l19 : K.lookup f = some ⟨oc, od, .func (PySem.W.fnOf "_need_source" "_need_source" (defArgs (topS 19)) (defBody (topS 19)) (defScope (topS 19)) .none kV doc pm an cdv ct), osl⟩) (hcd : PySem.W.codeIn K cdv "_need_source" = true) (kp : PySem.W.keepIn K (.ref f) = true) (hm : mg "_need_source" = some (.ref f)) : DfB false Pg w K mg base P (L2.CX Pg w) 5 "_need_source" (topS 19) ["value"] m__need_source :=
  df_BX (gd := false) (N := N__need_source) (S := S__need_source) (k := 4) l19 hcd kp hm sc__need_source (fun _ _ _ _ _ _ us hl => match us, hl with | [_], _ => rfl) fun A outer s H E hga hr => (ssd_cons (sd_if (et_not (et_val (ed_callB noG D_is_source (hr.mono (by decide)) pass0' (by rfl) (ea_cons (ed_var 0) ea_nil) (len_cons (fun _ _ _ _ h => len_nil h))))) (ssd_cons (sd_raise rfl T.low_Refused hr (takes_of rfl rfl rfl rfl) (ed_var 0))
      ssd_nil) ssd_nil)
      ssd_nil)

theorem nd_is_below : N_is_below.Nodup := by decide +kernel
theorem sc_is_below : FnScope N_is_below ["value", "bound"] (defScope (topS 6)) := ⟨rfl, rfl, rfl, by decide +kernel, rfl, by decide +kernel, by decide +kernel⟩
theorem ok_is_below {f : Addr} {oc kV doc pm cdv ct : Value} {od an : Option Addr} {osl : Array (Option Value)} (T : Txt K mg P fI_Refused) (D_is_integer : DfB false Pg w K mg base P CX0 1 "is_integer" (topS 4) ["value"] m_is_integer)  (l6 : K.lookup f = some ⟨oc, od, .func (PySem.W.fnOf "is_below" "is_below" (defArgs (topS 6)) (defBody (topS 6)) (defScope (topS 6)) .none kV doc pm an cdv ct), osl⟩) (hcd : PySem.W.codeIn K cdv "is_below" = true) (kp : PySem.W.keepIn K (.ref f) = true) (hm : mg "is_below" = some (.ref f)) : DfB false Pg w K mg base P CX0 2 "is_below" (topS 6) ["value", "bound"] m_is_below :=
  df_B0 (gd := false) (N := N_is_below) (S := S_is_below) (k := 1) l6 hcd kp hm sc_is_below (fun _ _ _ _ _ _ us hl => match us, hl with | [_, _], _ => rfl) fun A outer s H hga hr => (ssd_cons (sd_ret (ed_and (ed_callB noG D_is_integer (hr.mono (by decide)) pass0' (by rfl) (ea_cons (ed_var 0) ea_nil) (len_cons (fun _ _ _ _ h => len_nil h))) (ed_one (ed_chain op_le op_lt ed_int (ed_var 0) (ed_var 1)))))
      ssd_nil)

theorem nd__is_mark : N__is_mark.Nodup := by decide +kernel
theorem sc__is_mark : FnScope N__is_mark ["value"] (defScope (topS 18)) := ⟨rfl, rfl, rfl, by decide +kernel, rfl, by decide +kernel, by decide +kernel⟩
theorem ok__is_mark {f : Addr} {oc kV doc pm cdv ct : Value} {od an : Option Addr} {osl : Array (Option Value)} (T : Txt K mg P fI_Refused) (D_has_parts : DfB false Pg w K mg base P CX0 2 "has_parts" (topS 8) ["value", "many"] m_has_parts) (D_is_below : DfB false Pg w K mg base P CX0 2 "is_below" (topS 6) ["value", "bound"] m_is_below) (D_is_within : DfB false Pg w K mg base P CX0 2 "is_within" (topS 5) ["value", "least", "most"] m_is_within)  (l18 : K.lookup f = some ⟨oc, od, .func (PySem.W.fnOf "_is_mark" "_is_mark" (defArgs (topS 18)) (defBody (topS 18)) (defScope (topS 18)) .none kV doc pm an cdv ct), osl⟩) (hcd : PySem.W.codeIn K cdv "_is_mark" = true) (kp : PySem.W.keepIn K (.ref f) = true) (hm : mg "_is_mark" = some (.ref f)) : DfB false Pg w K mg base P CX0 3 "_is_mark" (topS 18) ["value"] m__is_mark :=
  df_B0 (gd := false) (N := N__is_mark) (S := S__is_mark) (k := 2) l18 hcd kp hm sc__is_mark (fun _ _ _ _ _ _ us hl => match us, hl with | [_], _ => rfl) fun A outer s H hga hr => (ssd_cons (sd_ret (ed_and (ed_callB noG D_has_parts (hr.mono (by decide)) pass0' (by rfl) (ea_cons (ed_var 0) (ea_cons ed_int ea_nil)) (len_cons (len_cons (fun _ _ _ _ h => len_nil h)))) (ed_and (ed_callB noG D_is_below (hr.mono (by decide)) pass0' (by rfl) (ea_cons (ed_ix (ed_var 0) ed_int (fun _ _ => rfl)) (ea_cons (ed_globE (by rfl) T.NUMBERS) ea_nil)) (len_cons (len_cons (fun _ _ _ _ h => len_nil h)))) (ed_one (ed_callB noG D_is_within (hr.mono (by decide)) pass0' (by rfl) (ea_cons (ed_ix (ed_var 0) ed_int (fun _ _ => rfl)) (ea_cons ed_int (ea_cons (ed_globE (by rfl) T.LAST_STAMP) ea_nil))) (len_cons (len_cons (len_cons (fun _ _ _ _ h => len_nil h)))))))))
      ssd_nil)

theorem nd__need_mark : N__need_mark.Nodup := by decide +kernel
theorem sc__need_mark : FnScope N__need_mark ["value"] (defScope (topS 20)) := ⟨rfl, rfl, rfl, by decide +kernel, rfl, by decide +kernel, by decide +kernel⟩
theorem ok__need_mark {f : Addr} {oc kV doc pm cdv ct : Value} {od an : Option Addr} {osl : Array (Option Value)} (T : Txt K mg P fI_Refused) (D__is_mark : DfB false Pg w K mg base P CX0 3 "_is_mark" (topS 18) ["value"] m__is_mark)  (l20 : K.lookup f = some ⟨oc, od, .func (PySem.W.fnOf "_need_mark" "_need_mark" (defArgs (topS 20)) (defBody (topS 20)) (defScope (topS 20)) .none kV doc pm an cdv ct), osl⟩) (hcd : PySem.W.codeIn K cdv "_need_mark" = true) (kp : PySem.W.keepIn K (.ref f) = true) (hm : mg "_need_mark" = some (.ref f)) : DfB false Pg w K mg base P (L2.CX Pg w) 4 "_need_mark" (topS 20) ["value"] m__need_mark :=
  df_BX (gd := false) (N := N__need_mark) (S := S__need_mark) (k := 3) l20 hcd kp hm sc__need_mark (fun _ _ _ _ _ _ us hl => match us, hl with | [_], _ => rfl) fun A outer s H E hga hr => (ssd_cons (sd_if (et_not (et_val (ed_callB noG D__is_mark (hr.mono (by decide)) pass0' (by rfl) (ea_cons (ed_var 0) ea_nil) (len_cons (fun _ _ _ _ h => len_nil h))))) (ssd_cons (sd_raise rfl T.low_Refused hr (takes_of rfl rfl rfl rfl) (ed_var 0))
      ssd_nil) ssd_nil)
      ssd_nil)

theorem nd_rounded_up : N_rounded_up.Nodup := by decide +kernel
theorem sc_rounded_up : FnScope N_rounded_up ["many", "by"] (defScope (topS 21)) := ⟨rfl, rfl, rfl, by decide +kernel, rfl, by decide +kernel, by decide +kernel⟩
theorem ok_rounded_up {f : Addr} {oc kV doc pm cdv ct : Value} {od an : Option Addr} {osl : Array (Option Value)} (T : Txt K mg P fI_Refused)   (l21 : K.lookup f = some ⟨oc, od, .func (PySem.W.fnOf "rounded_up" "rounded_up" (defArgs (topS 21)) (defBody (topS 21)) (defScope (topS 21)) .none kV doc pm an cdv ct), osl⟩) (hcd : PySem.W.codeIn K cdv "rounded_up" = true) (kp : PySem.W.keepIn K (.ref f) = true) (hm : mg "rounded_up" = some (.ref f)) : DfB false Pg w K mg base P CX0 1 "rounded_up" (topS 21) ["many", "by"] m_rounded_up :=
  df_B0 (gd := false) (N := N_rounded_up) (S := S_rounded_up) (k := 0) l21 hcd kp hm sc_rounded_up (fun _ _ _ _ _ _ us hl => match us, hl with | [_, _], _ => rfl) fun A outer s H hga hr => (ssd_cons (sd_ret (ed_neg (ed_div (ed_neg (ed_var 0)) (ed_var 1))))
      ssd_nil)

theorem nd__first_count : N__first_count.Nodup := by decide +kernel
theorem sc__first_count : FnScope N__first_count ["source", "one", "other"] (defScope (topS 22)) := ⟨rfl, rfl, rfl, by decide +kernel, rfl, by decide +kernel, by decide +kernel⟩
theorem ok__first_count {f : Addr} {oc kV doc pm cdv ct : Value} {od an : Option Addr} {osl : Array (Option Value)} (T : Txt K mg P fI_Refused) (D_rounded_up : DfB false Pg w K mg base P CX0 1 "rounded_up" (topS 21) ["many", "by"] m_rounded_up)  (l22 : K.lookup f = some ⟨oc, od, .func (PySem.W.fnOf "_first_count" "_first_count" (defArgs (topS 22)) (defBody (topS 22)) (defScope (topS 22)) .none kV doc pm an cdv ct), osl⟩) (hcd : PySem.W.codeIn K cdv "_first_count" = true) (kp : PySem.W.keepIn K (.ref f) = true) (hm : mg "_first_count" = some (.ref f)) : DfB false Pg w K mg base P CX0 2 "_first_count" (topS 22) ["source", "one", "other"] m__first_count :=
  df_B0 (gd := false) (N := N__first_count) (S := S__first_count) (k := 1) l22 hcd kp hm sc__first_count (fun _ _ _ _ _ _ us hl => match us, hl with | [_, _, _], _ => rfl) fun A outer s H hga hr => (ssd_cons (sd_set 3 nd__first_count rfl (.inl rfl) (ed_ix (ed_var 0) ed_int (fun _ _ => rfl)))
      (ssd_cons (sd_set 4 nd__first_count rfl (.inl rfl) (ed_callB noG D_rounded_up (hr.mono (by decide)) pass0' (by rfl) (ea_cons (ed_sub (ed_ix (ed_var 2) ed_int (fun _ _ => rfl)) (ed_ix (ed_var 1) ed_int (fun _ _ => rfl))) (ea_cons (ed_var 3) ea_nil)) (len_cons (len_cons (fun _ _ _ _ h => len_nil h)))))
      (ssd_cons (sd_ret (ed_plus (ed_var 4) (ed_mod (ed_sub (ed_sub (ed_ix (ed_var 2) ed_int (fun _ _ => rfl)) (ed_ix (ed_var 1) ed_int (fun _ _ => rfl))) (ed_var 4)) (ed_globE (by rfl) T.NUMBERS))))
      ssd_nil)))

theorem nd__last_count : N__last_count.Nodup := by decide +kernel
theorem sc__last_count : FnScope N__last_count ["source", "one", "other"] (defScope (topS 23)) := ⟨rfl, rfl, rfl, by decide +kernel, rfl, by decide +kernel, by decide +kernel⟩
theorem ok__last_count {f : Addr} {oc kV doc pm cdv ct : Value} {od an : Option Addr} {osl : Array (Option Value)} (T : Txt K mg P fI_Refused)   (l23 : K.lookup f = some ⟨oc, od, .func (PySem.W.fnOf "_last_count" "_last_count" (defArgs (topS 23)) (defBody (topS 23)) (defScope (topS 23)) .none kV doc pm an cdv ct), osl⟩) (hcd : PySem.W.codeIn K cdv "_last_count" = true) (kp : PySem.W.keepIn K (.ref f) = true) (hm : mg "_last_count" = some (.ref f)) : DfB false Pg w K mg base P CX0 1 "_last_count" (topS 23) ["source", "one", "other"] m__last_count :=
  df_B0 (gd := false) (N := N__last_count) (S := S__last_count) (k := 0) l23 hcd kp hm sc__last_count (fun _ _ _ _ _ _ us hl => match us, hl with | [_, _, _], _ => rfl) fun A outer s H hga hr => (ssd_cons (sd_set 3 nd__last_count rfl (.inl rfl) (ed_ix (ed_var 0) ed_int (fun _ _ => rfl)))
      (ssd_cons (sd_ret (ed_div (ed_sub (ed_ix (ed_var 2) ed_int (fun _ _ => rfl)) (ed_ix (ed_var 1) ed_int (fun _ _ => rfl))) (ed_var 3)))
      ssd_nil))

theorem nd__counts : N__counts.Nodup := by decide +kernel
theorem sc__counts : FnScope N__counts ["source", "one", "other"] (defScope (topS 24)) := ⟨rfl, rfl, rfl, by decide +kernel, rfl, by decide +kernel, by decide +kernel⟩
theorem ok__counts {f : Addr} {oc kV doc pm cdv ct : Value} {od an : Option Addr} {osl : Array (Option Value)} (T : Txt K mg P fI_Refused) (D__first_count : DfB false Pg w K mg base P CX0 2 "_first_count" (topS 22) ["source", "one", "other"] m__first_count) (D__last_count : DfB false Pg w K mg base P CX0 1 "_last_count" (topS 23) ["source", "one", "other"] m__last_count)  (l24 : K.lookup f = some ⟨oc, od, .func (PySem.W.fnOf "_counts" "_counts" (defArgs (topS 24)) (defBody (topS 24)) (defScope (topS 24)) .none kV doc pm an cdv ct), osl⟩) (hcd : PySem.W.codeIn K cdv "_counts" = true) (kp : PySem.W.keepIn K (.ref f) = true) (hm : mg "_counts" = some (.ref f)) : DfB false Pg w K mg base P CX0 3 "_counts" (topS 24) ["source", "one", "other"] m__counts :=
  df_B0 (gd := false) (N := N__counts) (S := S__counts) (k := 2) l24 hcd kp hm sc__counts (fun _ _ _ _ _ _ us hl => match us, hl with | [_, _, _], _ => rfl) fun A outer s H hga hr => (ssd_cons (sd_ret (ed_tupRg rfl (by rfl) T.tuple (by rfl) T.range (ea_cons (ed_callB noG D__first_count (hr.mono (by decide)) pass0' (by rfl) (ea_cons (ed_var 0) (ea_cons (ed_var 1) (ea_cons (ed_var 2) ea_nil))) (len_cons (len_cons (len_cons (fun _ _ _ _ h => len_nil h))))) (ea_cons (ed_plus (ed_callB noG D__last_count (hr.mono (by decide)) pass0' (by rfl) (ea_cons (ed_var 0) (ea_cons (ed_var 1) (ea_cons (ed_var 2) ea_nil))) (len_cons (len_cons (len_cons (fun _ _ _ _ h => len_nil h))))) ed_int) (ea_cons (ed_globE (by rfl) T.NUMBERS) ea_nil)))))
      ssd_nil)

theorem nd_counts : N_counts.Nodup := by decide +kernel
theorem sc_counts : FnScope N_counts ["source", "one", "other"] (defScope (topS 25)) := ⟨rfl, rfl, rfl, by decide +kernel, rfl, by decide +kernel, by decide +kernel⟩
theorem ok_counts {f : Addr} {oc kV doc pm cdv ct : Value} {od an : Option Addr} {osl : Array (Option Value)} (T : Txt K mg P fI_Refused) (D__need_source : DfB false Pg w K mg base P (L2.CX Pg w) 5 "_need_source" (topS 19) ["value"] m__need_source) (D__need_mark : DfB false Pg w K mg base P (L2.CX Pg w) 4 "_need_mark" (topS 20) ["value"] m__need_mark) (D__counts : DfB false Pg w K mg base P CX0 3 "_counts" (topS 24) ["source", "one", "other"] m__counts)  (l25 : K.lookup f = some ⟨oc, od, .func (PySem.W.fnOf "counts" "counts" (defArgs (topS 25)) (defBody (topS 25)) (defScope (topS 25)) .none kV doc pm an cdv ct), osl⟩) (hcd : PySem.W.codeIn K cdv "counts" = true) (kp : PySem.W.keepIn K (.ref f) = true) (hm : mg "counts" = some (.ref f)) : DfB false Pg w K mg base P (L2.CX Pg w) 6 "counts" (topS 25) ["source", "one", "other"] m_counts :=
  df_BX (gd := false) (N := N_counts) (S := S_counts) (k := 5) l25 hcd kp hm sc_counts (fun _ _ _ _ _ _ us hl => match us, hl with | [_, _, _], _ => rfl) fun A outer s H E hga hr => (ssd_cons (sd_expr (ed_callB noG D__need_source (hr.mono (by decide)) (passX (takes_of rfl rfl rfl rfl) fun _ _ _ _ h => h) (by rfl) (ea_cons (ed_var 0) ea_nil) (len_cons (fun _ _ _ _ h => len_nil h))))
      (ssd_cons (sd_expr (ed_callB noG D__need_mark (hr.mono (by decide)) (passX (takes_of rfl rfl rfl rfl) fun _ _ _ _ h => h) (by rfl) (ea_cons (ed_var 1) ea_nil) (len_cons (fun _ _ _ _ h => len_nil h))))
      (ssd_cons (sd_expr (ed_callB noG D__need_mark (hr.mono (by decide)) (passX (takes_of rfl rfl rfl rfl) fun _ _ _ _ h => h) (by rfl) (ea_cons (ed_var 2) ea_nil) (len_cons (fun _ _ _ _ h => len_nil h))))
      (ssd_cons (sd_if (et_le (ed_ix (ed_var 2) ed_int (fun _ _ => rfl)) (ed_ix (ed_var 1) ed_int (fun _ _ => rfl))) (ssd_cons (sd_raise rfl T.low_Refused hr (takes_of rfl rfl rfl rfl) (ed_var 2))
      ssd_nil) ssd_nil)
      (ssd_cons (sd_ret (ed_callB noG D__counts (hr.mono (by decide)) pass0' (by rfl) (ea_cons (ed_var 0) (ea_cons (ed_var 1) (ea_cons (ed_var 2) ea_nil))) (len_cons (len_cons (len_cons (fun _ _ _ _ h => len_nil h))))))
      ssd_nil)))))

theorem nd_ahead_counts : N_ahead_counts.Nodup := by decide +kernel
theorem sc_ahead_counts : FnScope N_ahead_counts ["source", "one"] (defScope (topS 26)) := ⟨rfl, rfl, rfl, by decide +kernel, rfl, by decide +kernel, by decide +kernel⟩
theorem ok_ahead_counts {f : Addr} {oc kV doc pm cdv ct : Value} {od an : Option Addr} {osl : Array (Option Value)} (T : Txt K mg P fI_Refused) (D__need_source : DfB false Pg w K mg base P (L2.CX Pg w) 5 "_need_source" (topS 19) ["value"] m__need_source) (D__need_mark : DfB false Pg w K mg base P (L2.CX Pg w) 4 "_need_mark" (topS 20) ["value"] m__need_mark)  (l26 : K.lookup f = some ⟨oc, od, .func (PySem.W.fnOf "ahead_counts" "ahead_counts" (defArgs (topS 26)) (defBody (topS 26)) (defScope (topS 26)) .none kV doc pm an cdv ct), osl⟩) (hcd : PySem.W.codeIn K cdv "ahead_counts" = true) (kp : PySem.W.keepIn K (.ref f) = true) (hm : mg "ahead_counts" = some (.ref f)) : DfB false Pg w K mg base P (L2.CX Pg w) 6 "ahead_counts" (topS 26) ["source", "one"] m_ahead_counts :=
  df_BX (gd := false) (N := N_ahead_counts) (S := S_ahead_counts) (k := 5) l26 hcd kp hm sc_ahead_counts (fun _ _ _ _ _ _ us hl => match us, hl with | [_, _], _ => rfl) fun A outer s H E hga hr => (ssd_cons (sd_expr (ed_callB noG D__need_source (hr.mono (by decide)) (passX (takes_of rfl rfl rfl rfl) fun _ _ _ _ h => h) (by rfl) (ea_cons (ed_var 0) ea_nil) (len_cons (fun _ _ _ _ h => len_nil h))))
      (ssd_cons (sd_expr (ed_callB noG D__need_mark (hr.mono (by decide)) (passX (takes_of rfl rfl rfl rfl) fun _ _ _ _ h => h) (by rfl) (ea_cons (ed_var 1) ea_nil) (len_cons (fun _ _ _ _ h => len_nil h))))
      (ssd_cons (sd_ret (ed_tupRg rfl (by rfl) T.tuple (by rfl) T.range (ea_cons (ed_ix (ed_var 1) ed_int (fun _ _ => rfl)) (ea_cons (ed_plus (ed_div (ed_ix (ed_var 1) ed_int (fun _ _ => rfl)) (ed_ix (ed_var 0) ed_int (fun _ _ => rfl))) ed_int) (ea_cons (ed_globE (by rfl) T.NUMBERS) ea_nil)))))
      ssd_nil)))

theorem nd_run_to : N_run_to.Nodup := by decide +kernel
theorem sc_run_to : FnScope N_run_to ["source", "one", "count"] (defScope (topS 30)) := ⟨rfl, rfl, rfl, by decide +kernel, rfl, by decide +kernel, by decide +kernel⟩
theorem ok_run_to {f : Addr} {oc kV doc pm cdv ct : Value} {od an : Option Addr} {osl : Array (Option Value)} (T : Txt K mg P fI_Refused) (D_ahead_counts : DfB false Pg w K mg base P (L2.CX Pg w) 6 "ahead_counts" (topS 26) ["source", "one"] m_ahead_counts) (D_is_integer : DfB false Pg w K mg base P CX0 1 "is_integer" (topS 4) ["value"] m_is_integer)  (l30 : K.lookup f = some ⟨oc, od, .func (PySem.W.fnOf "run_to" "run_to" (defArgs (topS 30)) (defBody (topS 30)) (defScope (topS 30)) .none kV doc pm an cdv ct), osl⟩) (hcd : PySem.W.codeIn K cdv "run_to" = true) (kp : PySem.W.keepIn K (.ref f) = true) (hm : mg "run_to" = some (.ref f)) : DfB false Pg w K mg base P (L2.CX Pg w) 7 "run_to" (topS 30) ["source", "one", "count"] m_run_to :=
  df_BX (gd := false) (N := N_run_to) (S := S_run_to) (k := 6) l30 hcd kp hm sc_run_to (fun _ _ _ _ _ _ us hl => match us, hl with | [_, _, _], _ => rfl) fun A outer s H E hga hr => (ssd_cons (sd_set 3 nd_run_to rfl (.inl rfl) (ed_callB noG D_ahead_counts (hr.mono (by decide)) (passX (takes_of rfl rfl rfl rfl) fun _ _ _ _ h => h) (by rfl) (ea_cons (ed_var 0) (ea_cons (ed_var 1) ea_nil)) (len_cons (len_cons (fun _ _ _ _ h => len_nil h)))))
      (ssd_cons (sd_if (et_w (ew_or (et_not (et_val (ed_callB noG D_is_integer (hr.mono (by decide)) pass0' (by rfl) (ea_cons (ed_var 2) ea_nil) (len_cons (fun _ _ _ _ h => len_nil h))))) (ew_or1 (et_notIn (ed_var 2) (ed_var 3))))) (ssd_cons (sd_raise rfl T.low_Refused hr (takes_of rfl rfl rfl rfl) (ed_var 2))
      ssd_nil) ssd_nil)
      (ssd_cons (sd_ret (ed_ty call_tuple_of cd_tupOf (by rfl) T.tuple b_tuple (ea_cons (ed_lc (own := [("at", 4)]) rfl nd_run_to (ei_rg1 (by rfl) T.range (ea_cons (ed_plus (ed_var 2) ed_int) ea_nil)) (blkOk_by (own := [("at", 4)]) (N := N_run_to) (sc := defScope (topS 30)) (by decide +kernel)) (gd_one 4) (fun _ _ _ _ _ => (pg_name (i := 4) nd_run_to rfl (by first | exact .inl rfl | exact .inr rfl))) (fun _ _ _ _ _ => et_yes) (fun _ _ _ _ _ => (ed_tup (ea_cons (ed_mod (ed_var 4) (ed_globE (by rfl) T.NUMBERS)) (ea_cons (ed_sub (ed_ix (ed_var 1) ed_int (fun _ _ => rfl)) (ed_mul (ed_ix (ed_var 0) ed_int (fun _ _ => rfl)) (ed_sub (ed_var 2) (ed_var 4)))) ea_nil))))) ea_nil)))
      ssd_nil)))

theorem nd_run_between : N_run_between.Nodup := by decide +kernel
theorem sc_run_between : FnScope N_run_between ["source", "one", "other", "count"] (defScope (topS 29)) := ⟨rfl, rfl, rfl, by decide +kernel, rfl, by decide +kernel, by decide +kernel⟩
theorem ok_run_between {f : Addr} {oc kV doc pm cdv ct : Value} {od an : Option Addr} {osl : Array (Option Value)} (T : Txt K mg P fI_Refused) (D_counts : DfB false Pg w K mg base P (L2.CX Pg w) 6 "counts" (topS 25) ["source", "one", "other"] m_counts) (D_is_integer : DfB false Pg w K mg base P CX0 1 "is_integer" (topS 4) ["value"] m_is_integer)  (l29 : K.lookup f = some ⟨oc, od, .func (PySem.W.fnOf "run_between" "run_between" (defArgs (topS 29)) (defBody (topS 29)) (defScope (topS 29)) .none kV doc pm an cdv ct), osl⟩) (hcd : PySem.W.codeIn K cdv "run_between" = true) (kp : PySem.W.keepIn K (.ref f) = true) (hm : mg "run_between" = some (.ref f)) : DfB false Pg w K mg base P (L2.CX Pg w) 7 "run_between" (topS 29) ["source", "one", "other", "count"] m_run_between :=
  df_BX (gd := false) (N := N_run_between) (S := S_run_between) (k := 6) l29 hcd kp hm sc_run_between (fun _ _ _ _ _ _ us hl => match us, hl with | [_, _, _, _], _ => rfl) fun A outer s H E hga hr => (ssd_cons (sd_set 4 nd_run_between rfl (.inl rfl) (ed_callB noG D_counts (hr.mono (by decide)) (passX (takes_of rfl rfl rfl rfl) fun _ _ _ _ h => h) (by rfl) (ea_cons (ed_var 0) (ea_cons (ed_var 1) (ea_cons (ed_var 2) ea_nil))) (len_cons (len_cons (len_cons (fun _ _ _ _ h => len_nil h))))))
      (ssd_cons (sd_if (et_w (ew_or (et_not (et_val (ed_callB noG D_is_integer (hr.mono (by decide)) pass0' (by rfl) (ea_cons (ed_var 3) ea_nil) (len_cons (fun _ _ _ _ h => len_nil h))))) (ew_or1 (et_notIn (ed_var 3) (ed_var 4))))) (ssd_cons (sd_raise rfl T.low_Refused hr (takes_of rfl rfl rfl rfl) (ed_var 3))
      ssd_nil) ssd_nil)
      (ssd_cons (sd_set 5 nd_run_between rfl (.inr rfl) (ed_sub (ed_ix (ed_var 2) ed_int (fun _ _ => rfl)) (ed_ix (ed_var 1) ed_int (fun _ _ => rfl))))
      (ssd_cons (sd_ret (ed_ty call_tuple_of cd_tupOf (by rfl) T.tuple b_tuple (ea_cons (ed_lc (own := [("at", 6)]) rfl nd_run_between (ei_rg1 (by rfl) T.range (ea_cons (ed_plus (ed_var 3) ed_int) ea_nil)) (blkOk_by (own := [("at", 6)]) (N := N_run_between) (sc := defScope (topS 29)) (by decide +kernel)) (gd_one 6) (fun _ _ _ _ _ => (pg_name (i := 6) nd_run_between rfl (by first | exact .inl rfl | exact .inr rfl))) (fun _ _ _ _ _ => et_yes) (fun _ _ _ _ _ => (ed_tup (ea_cons (ed_mod (ed_plus (ed_ix (ed_var 1) ed_int (fun _ _ => rfl)) (ed_var 6)) (ed_globE (by rfl) T.NUMBERS)) (ea_cons (ed_plus (ed_ix (ed_var 1) ed_int (fun _ _ => rfl)) (ed_div (ed_mul (ed_var 5) (ed_var 6)) (ed_var 3))) ea_nil))))) ea_nil)))
      ssd_nil))))

theorem nd__law_bent : N__law_bent.Nodup := by decide +kernel
theorem sc__law_bent : FnScope N__law_bent ["_law_box_here", "_law_run_here"] (defScope (topS 38)) := ⟨rfl, rfl, rfl, by decide +kernel, rfl, by decide +kernel, by decide +kernel⟩
theorem ok__law_bent {f : Addr} {oc kV doc pm cdv ct : Value} {od an : Option Addr} {osl : Array (Option Value)} (T : Txt K mg P fI_Refused) (D__law_pick : DfB false Pg w K mg base P CX0 2 "_law_pick" (topS 34) ["_law_box_here", "_law_some"] m__law_pick) (D__law_take : DfB false Pg w K mg base P CX0 1 "_law_take" (topS 33) ["_law_box_here", "_law_many"] m__law_take)  (l38 : K.lookup f = some ⟨oc, od, .func (PySem.W.fnOf "_law_bent" "_law_bent" (defArgs (topS 38)) (defBody (topS 38)) (defScope (topS 38)) .none kV doc pm an cdv ct), osl⟩) (hcd : PySem.W.codeIn K cdv "_law_bent" = true) (kp : PySem.W.keepIn K (.ref f) = true) (hm : mg "_law_bent" = some (.ref f)) : DfB false Pg w K mg base P CX0 3 "_law_bent" (topS 38) ["_law_box_here", "_law_run_here"] m__law_bent :=
  df_B0 (gd := false) (N := N__law_bent) (S := S__law_bent) (k := 2) l38 hcd kp hm sc__law_bent (fun _ _ _ _ _ _ us hl => match us, hl with | [_, _], _ => rfl) fun A outer s H hga hr => (ssd_cons (sd_par 2 3 rfl nd__law_bent rfl rfl (by decide) rfl rfl (ea_cons (ed_callB noG D__law_take (hr.mono (by decide)) pass0' (by rfl) (ea_cons (ed_var 0) (ea_cons (ed_blt call_lenA cd_len (by rfl) T.len b_len (ea_cons (ed_var 1) ea_nil)) ea_nil)) (len_cons (len_cons (fun _ _ _ _ h => len_nil h)))) (ea_cons (ed_callB noG D__law_take (hr.mono (by decide)) pass0' (by rfl) (ea_cons (ed_var 0) (ea_cons ed_int ea_nil)) (len_cons (len_cons (fun _ _ _ _ h => len_nil h)))) ea_nil)) (by rfl))
      (ssd_cons (sd_unp [4, 5] rfl (pgs_cons (pg_name (i := 4) nd__law_bent rfl (.inl rfl)) (pgs_cons (pg_name (i := 5) nd__law_bent rfl (.inl rfl)) pgs_nil)) rfl (ed_ix (ed_var 1) (ed_var 2) (fun _ _ => rfl)))
      (ssd_cons (sd_set 6 nd__law_bent rfl (.inl rfl) (ed_callB noG D__law_pick (hr.mono (by decide)) pass0' (by rfl) (ea_cons (ed_var 0) (ea_cons (ed_lst (ea_cons (ed_tup (ea_cons (ed_plus (ed_var 4) ed_int) (ea_cons (ed_var 5) ea_nil))) (ea_cons (ed_tup (ea_cons (ed_var 4) (ea_cons (ed_plus (ed_var 5) ed_int) ea_nil))) (ea_cons (ed_tup (ea_cons (ed_var 4) (ea_cons (ed_blt (call_max2 rfl) cd_max (by rfl) T.max b_max (ea_cons ed_int (ea_cons (ed_sub (ed_var 5) ed_int) ea_nil))) ea_nil))) (ea_cons (ed_tup (ea_cons (ed_var 4) ea_nil)) (ea_cons (ed_tup (ea_cons ed_int (ea_cons (ed_var 5) ea_nil))) (ea_cons (ed_tup (ea_cons ed_bl (ea_cons (ed_var 5) ea_nil))) (ea_cons ed_non ea_nil)))))))) ea_nil)) (len_cons (len_cons (fun _ _ _ _ h => len_nil h)))))
      (ssd_cons (sd_if (et_eq hr.units (ed_var 3) ed_int) (ssd_cons (sd_ret (ed_plus (ed_sl (ed_var 1) epo_none (epo_some (ed_var 2))) (ed_sl (ed_var 1) (epo_some (ed_plus (ed_var 2) ed_int)) epo_none)))
      ssd_nil) ssd_nil)
      (ssd_cons (sd_if (et_eq hr.units (ed_var 3) ed_int) (ssd_cons (sd_ret (ed_callB noG D__law_pick (hr.mono (by decide)) pass0' (by rfl) (ea_cons (ed_var 0) (ea_cons (ed_lst (ea_cons ed_non (ea_cons ed_int (ea_cons (ed_tup ea_nil) (ea_cons ed_str ea_nil))))) ea_nil)) (len_cons (len_cons (fun _ _ _ _ h => len_nil h)))))
      ssd_nil) ssd_nil)
      (ssd_cons (sd_ret (ed_ifExp (et_lt (ed_var 3) ed_int) (ed_plus (ed_plus (ed_sl (ed_var 1) epo_none (epo_some (ed_var 2))) (ed_lst (ea_cons (ed_var 6) ea_nil))) (ed_sl (ed_var 1) (epo_some (ed_plus (ed_var 2) ed_int)) epo_none)) (ed_lc (own := [("_law_mark", 7)]) rfl nd__law_bent (ei_any (ed_var 1)) (blkOk_by (own := [("_law_mark", 7)]) (N := N__law_bent) (sc := defScope (topS 38)) (by decide +kernel)) (gd_one 7) (fun _ _ _ _ _ => (pg_name (i := 7) nd__law_bent rfl (by first | exact .inl rfl | exact .inr rfl))) (fun _ _ _ _ _ => et_yes) (fun _ _ _ _ _ => (ed_ty call_list_of cd_listOf (by rfl) T.list b_list (ea_cons (ed_var 7) ea_nil))))))
      ssd_nil))))))

theorem nd__law_is_run : N__law_is_run.Nodup := by decide +kernel
theorem sc__law_is_run : FnScope N__law_is_run ["_law_source_here", "_law_value"] (defScope (topS 37)) := ⟨rfl, rfl, rfl, by decide +kernel, rfl, by decide +kernel, by decide +kernel⟩
theorem ok__law_is_run {f : Addr} {oc kV doc pm cdv ct : Value} {od an : Option Addr} {osl : Array (Option Value)} (T : Txt K mg P fI_Refused)   (l37 : K.lookup f = some ⟨oc, od, .func (PySem.W.fnOf "_law_is_run" "_law_is_run" (defArgs (topS 37)) (defBody (topS 37)) (defScope (topS 37)) .none kV doc pm an cdv ct), osl⟩) (hcd : PySem.W.codeIn K cdv "_law_is_run" = true) (kp : PySem.W.keepIn K (.ref f) = true) (hm : mg "_law_is_run" = some (.ref f)) : DfB false Pg w K mg base P CX0 1 "_law_is_run" (topS 37) ["_law_source_here", "_law_value"] m__law_is_run :=
  df_B0 (gd := false) (N := N__law_is_run) (S := S__law_is_run) (k := 0) l37 hcd kp hm sc__law_is_run (fun _ _ _ _ _ _ us hl => match us, hl with | [_, _], _ => rfl) fun A outer s H hga hr => (ssd_cons (sd_if (et_not (et_val (ed_isi2 (by rfl) T.isinstance b_isinstance (ed_var 1) (by rfl) T.list b_list (by rfl) T.tuple b_tuple))) (ssd_cons (sd_ret ed_bl)
      ssd_nil) ssd_nil)
      (ssd_cons (sd_for PassesOwn.never rfl (ei_any (ed_var 1)) (pg_name (i := 2) nd__law_is_run rfl (.inl rfl)) (gd_one 2) (ssd_cons (sd_if (et_w (ew_or (et_not (et_val (ed_isi2 (by rfl) T.isinstance b_isinstance (ed_var 2) (by rfl) T.list b_list (by rfl) T.tuple b_tuple))) (ew_or (et_ne hr.units (ed_blt call_lenA cd_len (by rfl) T.len b_len (ea_cons (ed_var 2) ea_nil)) ed_int) (ew_or1 (et_ne hr.units (ed_lc (own := [("_law_one", 3)]) rfl nd__law_is_run (ei_any (ed_var 2)) (blkOk_by (own := [("_law_one", 3)]) (N := N__law_is_run) (sc := defScope (topS 37)) (by decide +kernel)) (gd_one 3) (fun _ _ _ _ _ => (pg_name (i := 3) nd__law_is_run rfl (by first | exact .inl rfl | exact .inr rfl))) (fun _ _ _ _ _ => (et_one (et_w (ew_or (et_not (et_val (ed_isi (by rfl) T.isinstance b_isinstance (ed_var 3) (by rfl) T.int b_int))) (ew_or1 (et_val (ed_isi (by rfl) T.isinstance b_isinstance (ed_var 3) (by rfl) T.bool b_bool))))))) (fun _ _ _ _ _ => (ed_var 3))) (ed_lst ea_nil)))))) (ssd_cons (sd_ret ed_bl)
      ssd_nil) ssd_nil)
      (ssd_cons (sd_if (et_w (ew_or (et_not (et_chain op_le op_lt ed_int (ed_ix (ed_var 2) ed_int (fun _ _ => rfl)) ed_int)) (ew_or1 (et_not (et_chain op_le op_le ed_int (ed_ix (ed_var 2) ed_int (fun _ _ => rfl)) (ed_pow ed_int ed_int)))))) (ssd_cons (sd_ret ed_bl)
      ssd_nil) ssd_nil)
      ssd_nil)))
      (ssd_cons (sd_for PassesOwn.never rfl (ei_rg2 (by rfl) T.range (ea_cons ed_int (ea_cons (ed_blt call_lenA cd_len (by rfl) T.len b_len (ea_cons (ed_var 1) ea_nil)) ea_nil))) (pg_name (i := 4) nd__law_is_run rfl (.inl rfl)) (gd_one 4) (ssd_cons (sd_set 5 nd__law_is_run rfl (.inl rfl) (ed_sub (ed_ix (ed_ix (ed_var 1) (ed_var 4) (fun _ _ => rfl)) ed_int (fun _ _ => rfl)) (ed_ix (ed_ix (ed_var 1) (ed_sub (ed_var 4) ed_int) (fun _ _ => rfl)) ed_int (fun _ _ => rfl))))
      (ssd_cons (sd_if (et_w (ew_or (et_ne hr.units (ed_mod (ed_sub (ed_plus (ed_ix (ed_ix (ed_var 1) (ed_sub (ed_var 4) ed_int) (fun _ _ => rfl)) ed_int (fun _ _ => rfl)) ed_int) (ed_ix (ed_ix (ed_var 1) (ed_var 4) (fun _ _ => rfl)) ed_int (fun _ _ => rfl))) ed_int) ed_int) (ew_or (et_lt (ed_var 5) (ed_ix (ed_var 0) ed_int (fun _ _ => rfl))) (ew_or1 (et_gt (ed_var 5) (ed_ix (ed_var 0) ed_int (fun _ _ => rfl))))))) (ssd_cons (sd_ret ed_bl)
      ssd_nil) ssd_nil)
      ssd_nil)))
      (ssd_cons (sd_ret ed_bl)
      ssd_nil))))

theorem nd__follow : N__follow.Nodup := by decide +kernel
theorem sc__follow : FnScope N__follow ["source", "one", "other"] (defScope (topS 27)) := ⟨rfl, rfl, rfl, by decide +kernel, rfl, by decide +kernel, by decide +kernel⟩
theorem ok__follow {f : Addr} {oc kV doc pm cdv ct : Value} {od an : Option Addr} {osl : Array (Option Value)} (T : Txt K mg P fI_Refused)   (l27 : K.lookup f = some ⟨oc, od, .func (PySem.W.fnOf "_follow" "_follow" (defArgs (topS 27)) (defBody (topS 27)) (defScope (topS 27)) .none kV doc pm an cdv ct), osl⟩) (hcd : PySem.W.codeIn K cdv "_follow" = true) (kp : PySem.W.keepIn K (.ref f) = true) (hm : mg "_follow" = some (.ref f)) : DfB false Pg w K mg base P CX0 1 "_follow" (topS 27) ["source", "one", "other"] m__follow :=
  df_B0 (gd := false) (N := N__follow) (S := S__follow) (k := 0) l27 hcd kp hm sc__follow (fun _ _ _ _ _ _ us hl => match us, hl with | [_, _, _], _ => rfl) fun A outer s H hga hr => (ssd_cons (sd_ret (ed_and (ed_eq hr.units (ed_ix (ed_var 2) ed_int (fun _ _ => rfl)) (ed_mod (ed_plus (ed_ix (ed_var 1) ed_int (fun _ _ => rfl)) ed_int) (ed_globE (by rfl) T.NUMBERS))) (ed_one (ed_chain op_le op_le (ed_ix (ed_var 0) ed_int (fun _ _ => rfl)) (ed_sub (ed_ix (ed_var 2) ed_int (fun _ _ => rfl)) (ed_ix (ed_var 1) ed_int (fun _ _ => rfl))) (ed_ix (ed_var 0) ed_int (fun _ _ => rfl))))))
      ssd_nil)

theorem nd_run_holds : N_run_holds.Nodup := by decide +kernel
theorem sc_run_holds : FnScope N_run_holds ["source", "value"] (defScope (topS 28)) := ⟨rfl, rfl, rfl, by decide +kernel, rfl, by decide +kernel, by decide +kernel⟩
abbrev Q_run_holds : Str := (envOfC "run_holds" (defScope (topS 28)) 0 0 .none).qual ++ "<genexpr>"
theorem ok_run_holds {f c Pt : Addr} {oc kV doc pm ct : Value} {od an : Option Addr} {osl : Array (Option Value)} (T : Txt K mg P fI_Refused) (D__need_source : DfB false Pg w K mg base P (L2.CX Pg w) 5 "_need_source" (topS 19) ["value"] m__need_source) (D_is_sequence : DfB false Pg w K mg base P CX0 1 "is_sequence" (topS 7) ["value"] m_is_sequence) (D__follow : DfB false Pg w K mg base P CX0 1 "_follow" (topS 27) ["source", "one", "other"] m__follow) (D__is_mark : DfB false Pg w K mg base P CX0 3 "_is_mark" (topS 18) ["value"] m__is_mark) (TB : LamX.TabB base mg c Pt) (mT : (Pt, Q_run_holds) ∈ P.T) (uT : ∀ q ∈ P.T, q.1 = Pt → q.2 = Q_run_holds) (l28 : K.lookup f = some ⟨oc, od, .func (PySem.W.fnOf "run_holds" "run_holds" (defArgs (topS 28)) (defBody (topS 28)) (defScope (topS 28)) .none kV doc pm an (.ref c) ct), osl⟩) (hcd : PySem.W.codeIn K (.ref c) "run_holds" = true) (kp : PySem.W.keepIn K (.ref f) = true) (hm : mg "run_holds" = some (.ref f)) : DfB false Pg w K mg base P (L2.CX Pg w) 6 "run_holds" (topS 28) ["source", "value"] m_run_holds :=
  df_BX (gd := false) (N := N_run_holds) (S := S_run_holds) (k := 5) l28 hcd kp hm sc_run_holds (fun _ _ _ _ _ _ us hl => match us, hl with | [_, _], _ => rfl) fun A outer s H E hga hr => (ssd_cons (sd_expr (ed_callB noG D__need_source (hr.mono (by decide)) (passX (takes_of rfl rfl rfl rfl) fun _ _ _ _ h => h) (by rfl) (ea_cons (ed_var 0) ea_nil) (len_cons (fun _ _ _ _ h => len_nil h))))
      (ssd_cons (sd_if (et_w (ew_or (et_not (et_val (ed_callB noG D_is_sequence (hr.mono (by decide)) pass0' (by rfl) (ea_cons (ed_var 1) ea_nil) (len_cons (fun _ _ _ _ h => len_nil h))))) (ew_or1 (et_not (et_val (ed_allG (own := [("mark", 2)]) (k := 3) (hr.mono (by decide)) rfl nd_run_holds (by rfl) T.all b_all TB rfl mT uT (ei_any (ed_var 1)) (blkOk_by (own := [("mark", 2)]) (N := N_run_holds) (sc := defScope (topS 28)) (by decide +kernel)) ⟨rfl, by decide, rfl⟩ (gd_one 2) (fun _ _ _ _ _ _ _ hr3 => (pg_name (i := 2) nd_run_holds rfl (by first | exact .inl rfl | exact .inr rfl))) (fun _ _ _ _ _ _ _ hr3 => (ed_callB noG D__is_mark (hr3.mono (by decide)) pass0' (by rfl) (ea_cons (ed_var 2) ea_nil) (len_cons (fun _ _ _ _ h => len_nil h)))) (by intro _; rfl))))))) (ssd_cons (sd_ret ed_bl)
      ssd_nil) ssd_nil)
      (ssd_cons (sd_ret (ed_blt (cr_all rfl) cd_all (by rfl) T.all b_all (ea_cons (ed_lc (own := [("one", 3), ("other", 4)]) rfl nd_run_holds (ei_zip (by rfl) T.zip (ea_cons (ed_var 1) (ea_cons (ed_sl (ed_var 1) (epo_some ed_int) epo_none) ea_nil))) (blkOk_by (own := [("one", 3), ("other", 4)]) (N := N_run_holds) (sc := defScope (topS 28)) (by decide +kernel)) (gd_tup [3, 4] rfl) (fun _ _ _ _ _ => (pg_tl (is := [3, 4]) rfl (pgs_cons (pg_name (i := 3) nd_run_holds rfl (by first | exact .inl rfl | exact .inr rfl)) (pgs_cons (pg_name (i := 4) nd_run_holds rfl (by first | exact .inl rfl | exact .inr rfl)) pgs_nil)))) (fun _ _ _ _ _ => et_yes) (fun _ _ _ _ _ => (ed_callB noG D__follow (hr.mono (by decide)) pass0' (by rfl) (ea_cons (ed_var 0) (ea_cons (ed_var 3) (ea_cons (ed_var 4) ea_nil))) (len_cons (len_cons (len_cons (fun _ _ _ _ h => len_nil h))))))) ea_nil)))
      ssd_nil)))

theorem nd__law_refused_right : N__law_refused_right.Nodup := by decide +kernel
theorem sc__law_refused_right : FnScope N__law_refused_right ["_law_box_here", "_law_source_here", "_law_one", "_law_other"] (defScope (topS 40)) := ⟨rfl, rfl, rfl, by decide +kernel, rfl, by decide +kernel, by decide +kernel⟩
abbrev Q__law_refused_right : Str := (envOfC "_law_refused_right" (defScope (topS 40)) 0 0 .none).qual ++ "<lambda>"
theorem ok__law_refused_right {f c Pt : Addr} {oc kV doc pm ct : Value} {od an : Option Addr} {osl : Array (Option Value)} (T : Txt K mg P fI_Refused) (D__law_pick : DfB false Pg w K mg base P CX0 2 "_law_pick" (topS 34) ["_law_box_here", "_law_some"] m__law_pick) (D_run_between : DfB false Pg w K mg base P (L2.CX Pg w) 7 "run_between" (topS 29) ["source", "one", "other", "count"] m_run_between) (D_run_to : DfB false Pg w K mg base P (L2.CX Pg w) 7 "run_to" (topS 30) ["source", "one", "count"] m_run_to) (D_run_holds : DfB false Pg w K mg base P (L2.CX Pg w) 6 "run_holds" (topS 28) ["source", "value"] m_run_holds) (TB : LamX.TabB base mg c Pt) (mT : (Pt, Q__law_refused_right) ∈ P.T) (uT : ∀ q ∈ P.T, q.1 = Pt → q.2 = Q__law_refused_right) (l40 : K.lookup f = some ⟨oc, od, .func (PySem.W.fnOf "_law_refused_right" "_law_refused_right" (defArgs (topS 40)) (defBody (topS 40)) (defScope (topS 40)) .none kV doc pm an (.ref c) ct), osl⟩) (hcd : PySem.W.codeIn K (.ref c) "_law_refused_right" = true) (kp : PySem.W.keepIn K (.ref f) = true) (hm : mg "_law_refused_right" = some (.ref f)) : DfB true Pg w K mg base P CX0 10 "_law_refused_right" (topS 40) ["_law_box_here", "_law_source_here", "_law_one", "_law_other"] m__law_refused_right :=
  df_B0 (gd := true) (N := N__law_refused_right) (S := S__law_refused_right) (k := 9) l40 hcd kp hm sc__law_refused_right (fun _ _ _ _ _ _ us hl => match us, hl with | [_, _, _, _], _ => rfl) fun A outer s H hga hr => (ssd_cons (sd_set 4 nd__law_refused_right rfl (.inr rfl) (ed_callB noG D__law_pick (hr.mono (by decide)) pass0' (by rfl) (ea_cons (ed_var 0) (ea_cons (ed_lst (ea_cons ed_non (ea_cons ed_int (ea_cons (ed_tup (ea_cons ed_int (ea_cons ed_int ea_nil))) (ea_cons (ed_tup (ea_cons ed_int ea_nil)) (ea_cons (ed_tup (ea_cons ed_bl (ea_cons ed_int ea_nil))) (ea_cons (ed_tup (ea_cons ed_int (ea_cons (ed_sub ed_int ed_int) ea_nil))) ea_nil))))))) ea_nil)) (len_cons (len_cons (fun _ _ _ _ h => len_nil h)))))
      (ssd_cons (sd_if (et_ne hr.units (hrd (k := 7) T (hga rfl) (hr.mono (by decide)) TB rfl mT uT (LamX.lamS_by (sc := defScope (topS 40)) (by decide +kernel)) rfl (fun _ _ _ _ _ => rfl) fun A outer s H E f c hr2 => (ed_callB noG D_run_between (hr2.mono (by decide)) (passX (takes_of rfl rfl rfl rfl) fun _ _ _ _ h => h) (by rfl) (ea_cons (ed_var 1) (ea_cons (ed_var 4) (ea_cons (ed_var 3) (ea_cons ed_non ea_nil)))) (len_cons (len_cons (len_cons (len_cons (fun _ _ _ _ h => len_nil h))))))) (ed_tup (ea_cons ed_str (ea_cons (ed_blt (call_repr (hga rfl) hr.units) cd_repr (by rfl) T.repr b_repr (ea_cons (ed_var 4) ea_nil)) (ea_cons ed_bl ea_nil))))) (ssd_cons (sd_ret ed_bl)
      ssd_nil) ssd_nil)
      (ssd_cons (sd_if (et_ne hr.units (hrd (k := 7) T (hga rfl) (hr.mono (by decide)) TB rfl mT uT (LamX.lamS_by (sc := defScope (topS 40)) (by decide +kernel)) rfl (fun _ _ _ _ _ => rfl) fun A outer s H E f c hr2 => (ed_callB noG D_run_between (hr2.mono (by decide)) (passX (takes_of rfl rfl rfl rfl) fun _ _ _ _ h => h) (by rfl) (ea_cons (ed_var 1) (ea_cons (ed_var 2) (ea_cons (ed_var 4) (ea_cons ed_non ea_nil)))) (len_cons (len_cons (len_cons (len_cons (fun _ _ _ _ h => len_nil h))))))) (ed_tup (ea_cons ed_str (ea_cons (ed_blt (call_repr (hga rfl) hr.units) cd_repr (by rfl) T.repr b_repr (ea_cons (ed_var 4) ea_nil)) (ea_cons ed_bl ea_nil))))) (ssd_cons (sd_ret ed_bl)
      ssd_nil) ssd_nil)
      (ssd_cons (sd_if (et_ne hr.units (hrd (k := 7) T (hga rfl) (hr.mono (by decide)) TB rfl mT uT (LamX.lamS_by (sc := defScope (topS 40)) (by decide +kernel)) rfl (fun _ _ _ _ _ => rfl) fun A outer s H E f c hr2 => (ed_callB noG D_run_to (hr2.mono (by decide)) (passX (takes_of rfl rfl rfl rfl) fun _ _ _ _ h => h) (by rfl) (ea_cons (ed_var 1) (ea_cons (ed_var 4) (ea_cons ed_non ea_nil))) (len_cons (len_cons (len_cons (fun _ _ _ _ h => len_nil h)))))) (ed_tup (ea_cons ed_str (ea_cons (ed_blt (call_repr (hga rfl) hr.units) cd_repr (by rfl) T.repr b_repr (ea_cons (ed_var 4) ea_nil)) (ea_cons ed_bl ea_nil))))) (ssd_cons (sd_ret ed_bl)
      ssd_nil) ssd_nil)
      (ssd_cons (sd_set 5 nd__law_refused_right rfl (.inr rfl) (ed_callB noG D__law_pick (hr.mono (by decide)) pass0' (by rfl) (ea_cons (ed_var 0) (ea_cons (ed_lst (ea_cons ed_non (ea_cons (ed_tup ea_nil) (ea_cons (ed_sl (ed_var 1) epo_none (epo_some ed_int)) ea_nil)))) ea_nil)) (len_cons (len_cons (fun _ _ _ _ h => len_nil h)))))
      (ssd_cons (sd_if (et_ne hr.units (hrd (k := 6) T (hga rfl) (hr.mono (by decide)) TB rfl mT uT (LamX.lamS_by (sc := defScope (topS 40)) (by decide +kernel)) rfl (fun _ _ _ _ _ => rfl) fun A outer s H E f c hr2 => (ed_callB noG D_run_holds (hr2.mono (by decide)) (passX (takes_of rfl rfl rfl rfl) fun _ _ _ _ h => h) (by rfl) (ea_cons (ed_var 5) (ea_cons ed_non ea_nil)) (len_cons (len_cons (fun _ _ _ _ h => len_nil h))))) (ed_tup (ea_cons ed_str (ea_cons (ed_blt (call_repr (hga rfl) hr.units) cd_repr (by rfl) T.repr b_repr (ea_cons (ed_var 5) ea_nil)) (ea_cons ed_bl ea_nil))))) (ssd_cons (sd_ret ed_bl)
      ssd_nil) ssd_nil)
      (ssd_cons (sd_if (et_ne hr.units (hrd (k := 7) T (hga rfl) (hr.mono (by decide)) TB rfl mT uT (LamX.lamS_by (sc := defScope (topS 40)) (by decide +kernel)) rfl (fun _ _ _ _ _ => rfl) fun A outer s H E f c hr2 => (ed_callB noG D_run_between (hr2.mono (by decide)) (passX (takes_of rfl rfl rfl rfl) fun _ _ _ _ h => h) (by rfl) (ea_cons (ed_var 1) (ea_cons (ed_var 3) (ea_cons (ed_var 2) (ea_cons ed_non ea_nil)))) (len_cons (len_cons (len_cons (len_cons (fun _ _ _ _ h => len_nil h))))))) (ed_tup (ea_cons ed_str (ea_cons (ed_blt (call_repr (hga rfl) hr.units) cd_repr (by rfl) T.repr b_repr (ea_cons (ed_var 2) ea_nil)) (ea_cons ed_bl ea_nil))))) (ssd_cons (sd_ret ed_bl)
      ssd_nil) ssd_nil)
      (ssd_cons (sd_if (et_ne hr.units (hrd (k := 7) T (hga rfl) (hr.mono (by decide)) TB rfl mT uT (LamX.lamS_by (sc := defScope (topS 40)) (by decide +kernel)) rfl (fun _ _ _ _ _ => rfl) fun A outer s H E f c hr2 => (ed_callB noG D_run_between (hr2.mono (by decide)) (passX (takes_of rfl rfl rfl rfl) fun _ _ _ _ h => h) (by rfl) (ea_cons (ed_var 5) (ea_cons ed_non (ea_cons ed_non (ea_cons ed_non ea_nil)))) (len_cons (len_cons (len_cons (len_cons (fun _ _ _ _ h => len_nil h))))))) (ed_tup (ea_cons ed_str (ea_cons (ed_blt (call_repr (hga rfl) hr.units) cd_repr (by rfl) T.repr b_repr (ea_cons (ed_var 5) ea_nil)) (ea_cons ed_bl ea_nil))))) (ssd_cons (sd_ret ed_bl)
      ssd_nil) ssd_nil)
      (ssd_cons (sd_if (et_ne hr.units (hrd (k := 7) T (hga rfl) (hr.mono (by decide)) TB rfl mT uT (LamX.lamS_by (sc := defScope (topS 40)) (by decide +kernel)) rfl (fun _ _ _ _ _ => rfl) fun A outer s H E f c hr2 => (ed_callB noG D_run_to (hr2.mono (by decide)) (passX (takes_of rfl rfl rfl rfl) fun _ _ _ _ h => h) (by rfl) (ea_cons (ed_var 5) (ea_cons ed_non (ea_cons ed_non ea_nil))) (len_cons (len_cons (len_cons (fun _ _ _ _ h => len_nil h)))))) (ed_tup (ea_cons ed_str (ea_cons (ed_blt (call_repr (hga rfl) hr.units) cd_repr (by rfl) T.repr b_repr (ea_cons (ed_var 5) ea_nil)) (ea_cons ed_bl ea_nil))))) (ssd_cons (sd_ret ed_bl)
      ssd_nil) ssd_nil)
      (ssd_cons (sd_ret ed_bl)
      ssd_nil))))))))))

theorem nd_law : N_law.Nodup := by decide +kernel
theorem sc_law : FnScope N_law ["_law_script"] (defScope (topS 41)) := ⟨rfl, rfl, rfl, by decide +kernel, rfl, by decide +kernel, by decide +kernel⟩
abbrev Q_law : Str := (envOfC "law" (defScope (topS 41)) 0 0 .none).qual ++ "<lambda>"
theorem ok_law {f c Pt : Addr} {oc kV doc pm ct : Value} {od an : Option Addr} {osl : Array (Option Value)} (T : Txt K mg P fI_Refused) (D__law_box : DfB false Pg w K mg base P CX0 1 "_law_box" (topS 32) ["_law_script", "_law_k"] m__law_box) (D__law_source : DfB false Pg w K mg base P CX0 3 "_law_source" (topS 35) ["_law_box_here"] m__law_source) (D__law_run : DfB false Pg w K mg base P CX0 2 "_law_run" (topS 36) ["_law_box_here", "_law_source_here", "_law_many"] m__law_run) (D__law_take : DfB false Pg w K mg base P CX0 1 "_law_take" (topS 33) ["_law_box_here", "_law_many"] m__law_take) (D_counts : DfB false Pg w K mg base P (L2.CX Pg w) 6 "counts" (topS 25) ["source", "one", "other"] m_counts) (D_ahead_counts : DfB false Pg w K mg base P (L2.CX Pg w) 6 "ahead_counts" (topS 26) ["source", "one"] m_ahead_counts) (D__law_pick : DfB false Pg w K mg base P CX0 2 "_law_pick" (topS 34) ["_law_box_here", "_law_some"] m__law_pick) (D_run_to : DfB false Pg w K mg base P (L2.CX Pg w) 7 "run_to" (topS 30) ["source", "one", "count"] m_run_to) (D_run_between : DfB false Pg w K mg base P (L2.CX Pg w) 7 "run_between" (topS 29) ["source", "one", "other", "count"] m_run_between) (D__law_bent : DfB false Pg w K mg base P CX0 3 "_law_bent" (topS 38) ["_law_box_here", "_law_run_here"] m__law_bent) (D__law_is_run : DfB false Pg w K mg base P CX0 1 "_law_is_run" (topS 37) ["_law_source_here", "_law_value"] m__law_is_run) (D__law_refused_right : DfB true Pg w K mg base P CX0 10 "_law_refused_right" (topS 40) ["_law_box_here", "_law_source_here", "_law_one", "_law_other"] m__law_refused_right) (D_run_holds : DfB false Pg w K mg base P (L2.CX Pg w) 6 "run_holds" (topS 28) ["source", "value"] m_run_holds) (TB : LamX.TabB base mg c Pt) (mT : (Pt, Q_law) ∈ P.T) (uT : ∀ q ∈ P.T, q.1 = Pt → q.2 = Q_law) (l41 : K.lookup f = some ⟨oc, od, .func (PySem.W.fnOf "law" "law" (defArgs (topS 41)) (defBody (topS 41)) (defScope (topS 41)) .none kV doc pm an (.ref c) ct), osl⟩) (hcd : PySem.W.codeIn K (.ref c) "law" = true) (kp : PySem.W.keepIn K (.ref f) = true) (hm : mg "law" = some (.ref f)) : DfB true Pg w K mg base P CX0 11 "law" (topS 41) ["_law_script"] m_law :=
  df_B0 (gd := true) (N := N_law) (S := S_law) (k := 10) l41 hcd kp hm sc_law (fun _ _ _ _ _ _ us hl => match us, hl with | [_], _ => rfl) fun A outer s H hga hr => (ssd_cons (sd_for PassesOwn.never rfl (ei_rg1 (by rfl) T.range (ea_cons ed_int ea_nil)) (pg_name (i := 1) nd_law rfl (.inl rfl)) (gd_one 1) (ssd_cons (sd_set 2 nd_law rfl (.inl rfl) (ed_callB noG D__law_box (hr.mono (by decide)) pass0' (by rfl) (ea_cons (ed_var 0) (ea_cons (ed_var 1) ea_nil)) (len_cons (len_cons (fun _ _ _ _ h => len_nil h)))))
      (ssd_cons (sd_set 3 nd_law rfl (.inr rfl) (ed_callB noG D__law_source (hr.mono (by decide)) pass0' (by rfl) (ea_cons (ed_var 2) ea_nil) (len_cons (fun _ _ _ _ h => len_nil h))))
      (ssd_cons (sd_set 4 nd_law rfl (.inl rfl) (ed_callB noG D__law_run (hr.mono (by decide)) pass0' (by rfl) (ea_cons (ed_var 2) (ea_cons (ed_var 3) (ea_cons (ed_plus ed_int (ed_callB noG D__law_take (hr.mono (by decide)) pass0' (by rfl) (ea_cons (ed_var 2) (ea_cons (ed_callB noG D__law_pick (hr.mono (by decide)) pass0' (by rfl) (ea_cons (ed_var 2) (ea_cons (ed_lst (ea_cons ed_int (ea_cons ed_int (ea_cons ed_int (ea_cons ed_int ea_nil))))) ea_nil)) (len_cons (len_cons (fun _ _ _ _ h => len_nil h)))) ea_nil)) (len_cons (len_cons (fun _ _ _ _ h => len_nil h))))) ea_nil))) (len_cons (len_cons (len_cons (fun _ _ _ _ h => len_nil h))))))
      (ssd_cons (sd_set 5 nd_law rfl (.inl rfl) (ed_callB noG D__law_take (hr.mono (by decide)) pass0' (by rfl) (ea_cons (ed_var 2) (ea_cons (ed_sub (ed_blt call_lenA cd_len (by rfl) T.len b_len (ea_cons (ed_var 4) ea_nil)) ed_int) ea_nil)) (len_cons (len_cons (fun _ _ _ _ h => len_nil h)))))
      (ssd_cons (sd_set 6 nd_law rfl (.inl rfl) (ed_plus (ed_plus (ed_var 5) ed_int) (ed_callB noG D__law_take (hr.mono (by decide)) pass0' (by rfl) (ea_cons (ed_var 2) (ea_cons (ed_sub (ed_sub (ed_blt call_lenA cd_len (by rfl) T.len b_len (ea_cons (ed_var 4) ea_nil)) ed_int) (ed_var 5)) ea_nil)) (len_cons (len_cons (fun _ _ _ _ h => len_nil h))))))
      (ssd_cons (sd_unp [7, 8] rfl (pgs_cons (pg_name (i := 7) nd_law rfl (.inr rfl)) (pgs_cons (pg_name (i := 8) nd_law rfl (.inr rfl)) pgs_nil)) rfl (ed_tup (ea_cons (ed_ix (ed_var 4) (ed_var 5) (fun _ _ => rfl)) (ea_cons (ed_ix (ed_var 4) (ed_var 6) (fun _ _ => rfl)) ea_nil))))
      (ssd_cons (sd_set 9 nd_law rfl (.inl rfl) (ed_callB noG D_counts (hr.mono (by decide)) passL (by rfl) (ea_cons (ed_var 3) (ea_cons (ed_var 7) (ea_cons (ed_var 8) ea_nil))) (len_cons (len_cons (len_cons (fun _ _ _ _ h => len_nil h))))))
      (ssd_cons (sd_if (et_notIn (ed_sub (ed_var 6) (ed_var 5)) (ed_var 9)) (ssd_cons (sd_ret ed_bl)
      ssd_nil) ssd_nil)
      (ssd_cons (sd_for PassesOwn.never rfl (ei_any (ed_lst (ea_cons (ed_sub (ed_var 6) (ed_var 5)) (ea_cons (ed_callB noG D__law_pick (hr.mono (by decide)) pass0' (by rfl) (ea_cons (ed_var 2) (ea_cons (ed_var 9) ea_nil)) (len_cons (len_cons (fun _ _ _ _ h => len_nil h)))) ea_nil)))) (pg_name (i := 10) nd_law rfl (.inl rfl)) (gd_one 10) (ssd_cons (sd_set 11 nd_law rfl (.inl rfl) (ed_callB noG D_run_between (hr.mono (by decide)) passL (by rfl) (ea_cons (ed_var 3) (ea_cons (ed_var 7) (ea_cons (ed_var 8) (ea_cons (ed_var 10) ea_nil)))) (len_cons (len_cons (len_cons (len_cons (fun _ _ _ _ h => len_nil h)))))))
      (ssd_cons (sd_if (et_w (ew_or (et_not (et_val (ed_isi (by rfl) T.isinstance b_isinstance (ed_var 11) (by rfl) T.tuple b_tuple))) (ew_or (et_not (et_val (ed_callB noG D__law_is_run (hr.mono (by decide)) pass0' (by rfl) (ea_cons (ed_var 3) (ea_cons (ed_var 11) ea_nil)) (len_cons (len_cons (fun _ _ _ _ h => len_nil h)))))) (ew_or (et_ne hr.units (ed_blt call_lenA cd_len (by rfl) T.len b_len (ea_cons (ed_var 11) ea_nil)) (ed_plus (ed_var 10) ed_int)) (ew_or (et_ne hr.units (ed_ix (ed_var 11) ed_int (fun _ _ => rfl)) (ed_var 7)) (ew_or1 (et_ne hr.units (ed_ix (ed_var 11) (ed_var 10) (fun _ _ => rfl)) (ed_var 8)))))))) (ssd_cons (sd_ret ed_bl)
      ssd_nil) ssd_nil)
      (ssd_cons (sd_if (et_w (ew_or (et_notB (ed_callB noG D_run_holds (hr.mono (by decide)) passL (by rfl) (ea_cons (ed_var 3) (ea_cons (ed_var 11) ea_nil)) (len_cons (len_cons (fun _ _ _ _ h => len_nil h)))) ed_bl) (ew_or1 (et_not (et_val (ed_callB noG D__law_is_run (hr.mono (by decide)) pass0' (by rfl) (ea_cons (ed_var 3) (ea_cons (ed_callBK (ks := ["count", "other", "one", "source"]) [3, 2, 1, 0] noG D_run_between (hr.mono (by decide)) passL (by rfl) (fun _ _ _ _ _ _ ws hl => match ws, hl with | [_, _, _, _], _ => rfl) (ek_cons (ed_var 10) (ek_cons (ed_ty call_list_of cd_listOf (by rfl) T.list b_list (ea_cons (ed_var 8) ea_nil)) (ek_cons (ed_ty call_list_of cd_listOf (by rfl) T.list b_list (ea_cons (ed_var 7) ea_nil)) (ek_cons (ed_var 3) ek_nil)))) (len_cons (len_cons (len_cons (len_cons (fun _ _ _ _ h => len_nil h)))))) ea_nil)) (len_cons (len_cons (fun _ _ _ _ h => len_nil h))))))))) (ssd_cons (sd_ret ed_bl)
      ssd_nil) ssd_nil)
      ssd_nil))))
      (ssd_cons (sd_set 12 nd_law rfl (.inl rfl) (ed_callB noG D_ahead_counts (hr.mono (by decide)) passL (by rfl) (ea_cons (ed_var 3) (ea_cons (ed_var 8) ea_nil)) (len_cons (len_cons (fun _ _ _ _ h => len_nil h)))))
      (ssd_cons (sd_if (et_notIn (ed_var 6) (ed_var 12)) (ssd_cons (sd_ret ed_bl)
      ssd_nil) ssd_nil)
      (ssd_cons (sd_set 10 nd_law rfl (.inl rfl) (ed_callB noG D__law_pick (hr.mono (by decide)) pass0' (by rfl) (ea_cons (ed_var 2) (ea_cons (ed_var 12) ea_nil)) (len_cons (len_cons (fun _ _ _ _ h => len_nil h)))))
      (ssd_cons (sd_set 11 nd_law rfl (.inl rfl) (ed_callB noG D_run_to (hr.mono (by decide)) passL (by rfl) (ea_cons (ed_var 3) (ea_cons (ed_var 8) (ea_cons (ed_var 10) ea_nil))) (len_cons (len_cons (len_cons (fun _ _ _ _ h => len_nil h))))))
      (ssd_cons (sd_if (et_w (ew_or (et_not (et_val (ed_isi (by rfl) T.isinstance b_isinstance (ed_var 11) (by rfl) T.tuple b_tuple))) (ew_or (et_not (et_val (ed_callB noG D__law_is_run (hr.mono (by decide)) pass0' (by rfl) (ea_cons (ed_var 3) (ea_cons (ed_var 11) ea_nil)) (len_cons (len_cons (fun _ _ _ _ h => len_nil h)))))) (ew_or (et_ne hr.units (ed_blt call_lenA cd_len (by rfl) T.len b_len (ea_cons (ed_var 11) ea_nil)) (ed_plus (ed_var 10) ed_int)) (ew_or (et_ne hr.units (ed_ix (ed_ix (ed_var 11) ed_int (fun _ _ => rfl)) ed_int (fun _ _ => rfl)) ed_int) (ew_or1 (et_ne hr.units (ed_ix (ed_var 11) (ed_var 10) (fun _ _ => rfl)) (ed_var 8)))))))) (ssd_cons (sd_ret ed_bl)
      ssd_nil) ssd_nil)
      (ssd_cons (sd_for PassesOwn.never rfl (ei_rg1 (by rfl) T.range (ea_cons ed_int ea_nil)) (pg_name (i := 13) nd_law rfl (.inl rfl)) (gd_one 13) (ssd_cons (sd_set 14 nd_law rfl (.inl rfl) (ed_callB noG D__law_bent (hr.mono (by decide)) pass0' (by rfl) (ea_cons (ed_var 2) (ea_cons (ed_sl (ed_var 4) epo_none (epo_some ed_int)) ea_nil)) (len_cons (len_cons (fun _ _ _ _ h => len_nil h)))))
      (ssd_cons (sd_set 15 nd_law rfl (.inl rfl) (ed_callB noG D__law_is_run (hr.mono (by decide)) pass0' (by rfl) (ea_cons (ed_var 3) (ea_cons (ed_var 14) ea_nil)) (len_cons (len_cons (fun _ _ _ _ h => len_nil h)))))
      (ssd_cons (sd_if (et_ne hr.units (ed_blt (call_repr (hga rfl) hr.units) cd_repr (by rfl) T.repr b_repr (ea_cons (ed_lst (ea_cons (ed_callB noG D_run_holds (hr.mono (by decide)) passL (by rfl) (ea_cons (ed_var 3) (ea_cons (ed_var 14) ea_nil)) (len_cons (len_cons (fun _ _ _ _ h => len_nil h)))) (ea_cons (ed_callBK (ks := ["value", "source"]) [1, 0] noG D_run_holds (hr.mono (by decide)) passL (by rfl) (fun _ _ _ _ _ _ ws hl => match ws, hl with | [_, _], _ => rfl) (ek_cons (ed_var 14) (ek_cons (ed_ty call_list_of cd_listOf (by rfl) T.list b_list (ea_cons (ed_var 3) ea_nil)) ek_nil)) (len_cons (len_cons (fun _ _ _ _ h => len_nil h)))) ea_nil))) ea_nil)) (ed_blt (call_repr (hga rfl) hr.units) cd_repr (by rfl) T.repr b_repr (ea_cons (ed_lst (ea_cons (ed_var 15) (ea_cons (ed_var 15) ea_nil))) ea_nil))) (ssd_cons (sd_ret ed_bl)
      ssd_nil) ssd_nil)
      ssd_nil))))
      (ssd_cons (sd_set 16 nd_law rfl (.inr rfl) (ed_callB noG D__law_pick (hr.mono (by decide)) pass0' (by rfl) (ea_cons (ed_var 2) (ea_cons (ed_lst (ea_cons ed_non (ea_cons (ed_plus (ed_ix (ed_var 9) ed_int (fun _ _ => rfl)) ed_int) (ea_cons ed_int (ea_cons (ed_ifExp (et_ne hr.units (ed_ix (ed_var 9) ed_int (fun _ _ => rfl)) ed_int) ed_bl ed_bl) (ea_cons ed_str (ea_cons (ed_sub ed_int ed_int) ea_nil))))))) ea_nil)) (len_cons (len_cons (fun _ _ _ _ h => len_nil h)))))
      (ssd_cons (sd_if (et_ne hr.units (hrd (k := 7) T (hga rfl) (hr.mono (by decide)) TB rfl mT uT (LamX.lamS_by (sc := defScope (topS 41)) (by decide +kernel)) rfl (fun _ _ _ _ _ => rfl) fun A outer s H E f c hr2 => (ed_callB noG D_run_between (hr2.mono (by decide)) (passX (takes_of rfl rfl rfl rfl) fun _ _ _ _ h => h) (by rfl) (ea_cons (ed_var 3) (ea_cons (ed_var 7) (ea_cons (ed_var 8) (ea_cons (ed_var 16) ea_nil)))) (len_cons (len_cons (len_cons (len_cons (fun _ _ _ _ h => len_nil h))))))) (ed_tup (ea_cons ed_str (ea_cons (ed_blt (call_repr (hga rfl) hr.units) cd_repr (by rfl) T.repr b_repr (ea_cons (ed_var 16) ea_nil)) (ea_cons ed_bl ea_nil))))) (ssd_cons (sd_ret ed_bl)
      ssd_nil) ssd_nil)
      (ssd_cons (sd_set 17 nd_law rfl (.inr rfl) (ed_callB noG D__law_pick (hr.mono (by decide)) pass0' (by rfl) (ea_cons (ed_var 2) (ea_cons (ed_lst (ea_cons ed_non (ea_cons (ed_plus (ed_ix (ed_var 12) ed_int (fun _ _ => rfl)) ed_int) (ea_cons (ed_sub ed_int ed_int) (ea_cons ed_str ea_nil))))) ea_nil)) (len_cons (len_cons (fun _ _ _ _ h => len_nil h)))))
      (ssd_cons (sd_if (et_ne hr.units (hrd (k := 7) T (hga rfl) (hr.mono (by decide)) TB rfl mT uT (LamX.lamS_by (sc := defScope (topS 41)) (by decide +kernel)) rfl (fun _ _ _ _ _ => rfl) fun A outer s H E f c hr2 => (ed_callB noG D_run_to (hr2.mono (by decide)) (passX (takes_of rfl rfl rfl rfl) fun _ _ _ _ h => h) (by rfl) (ea_cons (ed_var 3) (ea_cons (ed_var 8) (ea_cons (ed_var 17) ea_nil))) (len_cons (len_cons (len_cons (fun _ _ _ _ h => len_nil h)))))) (ed_tup (ea_cons ed_str (ea_cons (ed_blt (call_repr (hga rfl) hr.units) cd_repr (by rfl) T.repr b_repr (ea_cons (ed_var 17) ea_nil)) (ea_cons ed_bl ea_nil))))) (ssd_cons (sd_ret ed_bl)
      ssd_nil) ssd_nil)
      (ssd_cons (sd_if (et_not (et_val (ed_callB (yesG (hga rfl)) D__law_refused_right (hr.mono (by decide)) pass0' (by rfl) (ea_cons (ed_var 2) (ea_cons (ed_var 3) (ea_cons (ed_var 7) (ea_cons (ed_var 8) ea_nil)))) (len_cons (len_cons (len_cons (len_cons (fun _ _ _ _ h => len_nil h)))))))) (ssd_cons (sd_ret ed_bl)
      ssd_nil) ssd_nil)
      ssd_nil)))))))))))))))))))))
      (ssd_cons (sd_ret ed_bl)
      ssd_nil))
end
end K14

end
section
set_option Elab.async false
set_option linter.all false
set_option maxRecDepth 100000
set_option maxHeartbeats 4000000
namespace Ms
open PySem PySem.Spec PyProof.Rows L2
/-! ### the end by a head that tells facts -/
theorem walkX {l : PySem.W.OpenLaw} {n : Nat} {q : Program} {loose : List Str} {XP : (Str → Option Value) → Heap → Prop} {YP : World → Heap → Prop} {d : DefRec}
    (hn : l.most = some n) (hn2 : n ≤ sizeLine) (hdf : d.params.defaults = [])
    (F : ∀ (w : World) (mg : Str → Option Value) (fa : Addr) (h : Heap), YP w h → h.Ns mainGlobals mg → mg d.name = some (.ref fa) → ∃ K : PySem.W.Frag, K.In h ∧ LawAt l w K n mg fa h) :
    PySem.W.WalkO q loose XP YP l.row.toRowW d [] (fun f vs => PySem.call f vs) := by
  refine Att.attach_callB hn hdf fun w s₀ s₁ mg mb fa o pm cd doc a vs ns G Y ho hd hcd hmg hobj hints hlen hbits hg => ?_
  obtain ⟨K, KX, cs, hT, nT, C, hc⟩ := F w mg fa _ Y G.T.g hmg
  exact law_callG KX G.T.g G.T.b G.T.builtins G.T.nolimit hg hT nT C G.T.bmain hobj hints (Nat.le_trans hlen hn2) fun base H e0 tb hH hS => hc base H s₁ a ns hlen e0 tb hH hS
section
variable {K : PySem.W.Frag} {h : Heap} {mg : Str → Option Value}
/-- a def's function object -/
theorem def_of {x : Str} {st : Stmt} {f : Addr} {fd : FuncData} (F : FunD K x x (defArgs st) (defBody st) (defScope st) [] [] f fd) :
    ∃ (oc : Value) (od : Option Addr) (kV doc pm : Value) (an : Option Addr) (c : Addr) (ct : Value) (osl : Array (Option Value)), K.lookup f = some ⟨oc, od, .func (PySem.W.fnOf x x (defArgs st) (defBody st) (defScope st) .none kV doc pm an (.ref c) ct), osl⟩ ∧
      PySem.W.codeIn K (.ref c) x = true ∧ PySem.W.keepIn K (.ref f) = true := by
  obtain ⟨oc, od, dV, kV, doc, pm, an, cdv, ct, osl, rfl, lk, hcd, hd, _⟩ := F.ex
  obtain ⟨c, rfl⟩ := He.codeIn_ref hcd
  rcases hd with ⟨_, rfl⟩ | ⟨z, _⟩
  · exact ⟨oc, od, kV, doc, pm, an, c, ct, osl, lk, hcd, F.kp⟩
  · exact (z rfl).elim
/-- a class of errors with its own __init__ -/
def lowB (K : PySem.W.Frag) (cn : Str) : Bool :=
  (match K.lookup (He.ga K cn) with
  | some ⟨.type t, _, .cls r, sl⟩ => decide (t = "type") && ((match r.mro with
      | .ref C' :: bm => decide (C' = He.ga K cn) && PySem.HandSPX.refsVE bm
      | _ => false) && (r.hasDict && (!r.hasDel && (match sl.toList with
      | [_, _, _, _, some (.builtin id), _] => decide (id = "ValueError.__new__")
      | _ => false))))
  | _ => false) &&
  (He.eqO (PySem.W.findIn K (.ref (He.ga K cn)) "__setattr__") (some (some (.builtin "object.__setattr__"))) && (He.eqO (PySem.W.findIn K (.ref (He.ga K cn)) "__getattribute__") (some (some (.builtin "BaseException.__getattribute__"))) &&
  (He.eqO (PySem.W.findIn K (.ref (He.ga K cn)) "__getattr__") (some none) && (He.eqO (PySem.W.findIn K (.ref (He.ga K cn)) "at") (some none) && (He.eqO (PySem.W.findIn K (.ref (He.ga K cn)) "__init__") (some (some (.ref (He.ma K (He.ga K cn) "__init__")))) &&
  (decide (PySem.W.typeIn K (.ref (He.ma K (He.ga K cn) "__init__")) = some (.type "function")) && (PySem.W.keepIn K (.ref (He.ga K cn)) && (decide (PySem.W.subIn K (.ref (He.ga K cn)) (.type "BaseException") = some true) && (decide (PySem.W.typeIn K (.ref (He.ga K cn)) = some (.type "type")) &&
  (PySem.W.hasDictIn K (He.ga K cn) && (decide (PySem.W.exmOne K (.ref (He.ga K cn)) (.ref (He.ga K cn)) = some true) && (match K.lookup (He.ma K (He.ga K cn) "__init__") with
  | some ⟨_, _, .func fd, _⟩ => decide (fd.kwdefaults = .none)
  | _ => false))))))))))))
theorem lowCls {C : Addr} (h : (match K.lookup C with
  | some ⟨.type t, _, .cls r, sl⟩ => decide (t = "type") && ((match r.mro with
      | .ref C' :: bm => decide (C' = C) && PySem.HandSPX.refsVE bm
      | _ => false) && (r.hasDict && (!r.hasDel && (match sl.toList with
      | [_, _, _, _, some (.builtin id), _] => decide (id = "ValueError.__new__")
      | _ => false))))
  | _ => false) = true) : ∃ nm q N bs bm sn sub ab col dd k0 k1 k2 k3 k5, K.lookup C = some (excClassObj nm q C N bs bm true sn sub ab col dd k0 k1 k2 k3 k5 "ValueError.__new__") ∧ PySem.HandSPX.refsVE bm = true := by
  cases q : K.lookup C with
  | none => rw [q] at h; cases h
  | some o =>
    rw [q] at h
    obtain ⟨oc, od, dt, sl⟩ := o
    cases oc with
    | type t =>
      cases dt with
      | cls r =>
        obtain ⟨nm, bs, mro, ns, qn, hdct, sn, sub, ab, col, hdel⟩ := r
        obtain ⟨h1, h2⟩ := He.ba h
        obtain ⟨h2, h3⟩ := He.ba h2
        obtain ⟨h3, h4⟩ := He.ba h3
        obtain ⟨h4, h5⟩ := He.ba h4
        have h1 := of_decide_eq_true h1
        subst h1
        cases mro with
        | nil => cases h2
        | cons m bm =>
          cases m with
          | ref C' =>
            obtain ⟨h6, h7⟩ := He.ba h2
            have h6 := of_decide_eq_true h6
            subst h6
            have h3 : hdct = true := h3
            subst h3
            have h4 : hdel = false := by
              have z : (!hdel) = true := h4
              simpa using z
            subst h4
            obtain ⟨sl⟩ := sl
            match sl, h5 with
            | [k0, k1, k2, k3, some (.builtin id), k5], h5 =>
              have h5 := of_decide_eq_true h5
              subst h5
              exact ⟨nm, qn, ns, bs, bm, sn, sub, ab, col, od, k0, k1, k2, k3, k5, rfl, h7⟩
          | _ => cases h2
      | _ => cases h
    | _ => cases dt <;> cases h
theorem low_of {cn qn : Str} {p1 p2 q1 q2 q3 q4 : Pos} {fd : FuncData} (X : K.In h) (G : h.Ns mainGlobals mg) (b : lowB K cn = true) (g : mg cn = some (.ref (He.ga K cn)))
    (F : FunD K "__init__" qn (PySem.RefX.iA p1 p2) (PySem.RefX.iB q1 q2 q3 q4) PySem.RefX.iS [] [] (He.fAd K (cn, some "__init__")) fd) : PySem.RefX.LowTxt cn qn K mg (He.ga K cn) (He.ma K (He.ga K cn) "__init__") := by
  unfold lowB at b
  obtain ⟨b0, b⟩ := He.ba b
  obtain ⟨b1, b⟩ := He.ba b
  obtain ⟨b2, b⟩ := He.ba b
  obtain ⟨b3, b⟩ := He.ba b
  obtain ⟨b4, b⟩ := He.ba b
  obtain ⟨b5, b⟩ := He.ba b
  obtain ⟨b6, b⟩ := He.ba b
  obtain ⟨b7, b⟩ := He.ba b
  obtain ⟨b8, b⟩ := He.ba b
  obtain ⟨b9, b⟩ := He.ba b
  obtain ⟨b10, b⟩ := He.ba b
  obtain ⟨b11, b12⟩ := He.ba b
  obtain ⟨nm, q, N, bs, bm, sn, sub, ab, col, dd, k0, k1, k2, k3, k5, e1, e2⟩ := lowCls b0
  refine { gC := g, cls := ⟨nm, q, N, bs, bm, sn, sub, ab, col, dd, k0, k1, k2, k3, k5, e1, e2⟩, sa := He.eqO_ok b1, ga := He.eqO_ok b2, gg := He.eqO_ok b3, noN := He.eqO_ok b4, iC := He.eqO_ok b5, tC := of_decide_eq_true b6, kC := b7, exC := of_decide_eq_true b8, tyC := of_decide_eq_true b9, hdC := b10, te := of_decide_eq_true b11, fn := ?_ }
  obtain ⟨oc, od, dV, kV, doc, pm, an, cdv, ct, osl, rfl, lk, hcd, hd, _⟩ := F.ex
  have lk' : K.lookup (He.ma K (He.ga K cn) "__init__") = some ⟨oc, od, .func (PySem.W.fnOf "__init__" qn (PySem.RefX.iA p1 p2) (PySem.RefX.iB q1 q2 q3 q4) PySem.RefX.iS dV kV doc pm an cdv ct), osl⟩ := lk
  rw [lk'] at b12
  have hk : kV = .none := of_decide_eq_true b12
  subst hk
  rcases hd with ⟨_, rfl⟩ | ⟨z, _⟩
  · exact ⟨oc, od, doc, pm, an, cdv, ct, osl, p1, p2, q1, q2, q3, q4, lk', hcd⟩
  · exact (z rfl).elim
end
theorem uT_of : ∀ {L : List (Addr × Str)}, (L.map (·.1)).Nodup → ∀ p ∈ L, ∀ q ∈ L, q.1 = p.1 → q.2 = p.2
  | [], _, p, h, _, _, _ => (nomatch h)
  | x :: L, n, p, hp, q, hq, e => by
    rw [List.map_cons, List.nodup_cons] at n
    rcases List.mem_cons.mp hp with h1 | h1
    · subst h1
      rcases List.mem_cons.mp hq with h2 | h2
      · rw [h2]
      · exact (n.1 (List.mem_map.mpr ⟨q, h2, e⟩)).elim
    · rcases List.mem_cons.mp hq with h2 | h2
      · subst h2
        exact (n.1 (List.mem_map.mpr ⟨p, h1, e.symm⟩)).elim
      · exact uT_of n.2 p h1 q h2 e
end Ms

end
section
set_option Elab.async false
set_option linter.all false
set_option maxRecDepth 100000
set_option maxHeartbeats 4000000
namespace K14
open PySem PySem.Spec PyProof.Rows L2 Ms
def dD__law_box : He.DefD := ⟨("_law_box", none), "_law_box", "_law_box", defArgs (topS 32), defBody (topS 32), defScope (topS 32), [], []⟩
def dD__law_take : He.DefD := ⟨("_law_take", none), "_law_take", "_law_take", defArgs (topS 33), defBody (topS 33), defScope (topS 33), [], []⟩
def dD__law_pick : He.DefD := ⟨("_law_pick", none), "_law_pick", "_law_pick", defArgs (topS 34), defBody (topS 34), defScope (topS 34), [], []⟩
def dD__law_source : He.DefD := ⟨("_law_source", none), "_law_source", "_law_source", defArgs (topS 35), defBody (topS 35), defScope (topS 35), [], []⟩
def dD__law_run : He.DefD := ⟨("_law_run", none), "_law_run", "_law_run", defArgs (topS 36), defBody (topS 36), defScope (topS 36), [], []⟩
def dD_is_sequence : He.DefD := ⟨("is_sequence", none), "is_sequence", "is_sequence", defArgs (topS 7), defBody (topS 7), defScope (topS 7), [], []⟩
def dD_has_parts : He.DefD := ⟨("has_parts", none), "has_parts", "has_parts", defArgs (topS 8), defBody (topS 8), defScope (topS 8), [], []⟩
def dD_is_integer : He.DefD := ⟨("is_integer", none), "is_integer", "is_integer", defArgs (topS 4), defBody (topS 4), defScope (topS 4), [], []⟩
def dD_is_within : He.DefD := ⟨("is_within", none), "is_within", "is_within", defArgs (topS 5), defBody (topS 5), defScope (topS 5), [], []⟩
def dD__is_range : He.DefD := ⟨("_is_range", none), "_is_range", "_is_range", defArgs (topS 15), defBody (topS 15), defScope (topS 15), [], []⟩
def dD_is_source : He.DefD := ⟨("is_source", none), "is_source", "is_source", defArgs (topS 16), defBody (topS 16), defScope (topS 16), [], []⟩
def dD__need_source : He.DefD := ⟨("_need_source", none), "_need_source", "_need_source", defArgs (topS 19), defBody (topS 19), defScope (topS 19), [], []⟩
def dD_is_below : He.DefD := ⟨("is_below", none), "is_below", "is_below", defArgs (topS 6), defBody (topS 6), defScope (topS 6), [], []⟩
def dD__is_mark : He.DefD := ⟨("_is_mark", none), "_is_mark", "_is_mark", defArgs (topS 18), defBody (topS 18), defScope (topS 18), [], []⟩
def dD__need_mark : He.DefD := ⟨("_need_mark", none), "_need_mark", "_need_mark", defArgs (topS 20), defBody (topS 20), defScope (topS 20), [], []⟩
def dD_rounded_up : He.DefD := ⟨("rounded_up", none), "rounded_up", "rounded_up", defArgs (topS 21), defBody (topS 21), defScope (topS 21), [], []⟩
def dD__first_count : He.DefD := ⟨("_first_count", none), "_first_count", "_first_count", defArgs (topS 22), defBody (topS 22), defScope (topS 22), [], []⟩
def dD__last_count : He.DefD := ⟨("_last_count", none), "_last_count", "_last_count", defArgs (topS 23), defBody (topS 23), defScope (topS 23), [], []⟩
def dD__counts : He.DefD := ⟨("_counts", none), "_counts", "_counts", defArgs (topS 24), defBody (topS 24), defScope (topS 24), [], []⟩
def dD_counts : He.DefD := ⟨("counts", none), "counts", "counts", defArgs (topS 25), defBody (topS 25), defScope (topS 25), [], []⟩
def dD_ahead_counts : He.DefD := ⟨("ahead_counts", none), "ahead_counts", "ahead_counts", defArgs (topS 26), defBody (topS 26), defScope (topS 26), [], []⟩
def dD_run_to : He.DefD := ⟨("run_to", none), "run_to", "run_to", defArgs (topS 30), defBody (topS 30), defScope (topS 30), [], []⟩
def dD_run_between : He.DefD := ⟨("run_between", none), "run_between", "run_between", defArgs (topS 29), defBody (topS 29), defScope (topS 29), [], []⟩
def dD__law_bent : He.DefD := ⟨("_law_bent", none), "_law_bent", "_law_bent", defArgs (topS 38), defBody (topS 38), defScope (topS 38), [], []⟩
def dD__law_is_run : He.DefD := ⟨("_law_is_run", none), "_law_is_run", "_law_is_run", defArgs (topS 37), defBody (topS 37), defScope (topS 37), [], []⟩
def dD__follow : He.DefD := ⟨("_follow", none), "_follow", "_follow", defArgs (topS 27), defBody (topS 27), defScope (topS 27), [], []⟩
def dD_run_holds : He.DefD := ⟨("run_holds", none), "run_holds", "run_holds", defArgs (topS 28), defBody (topS 28), defScope (topS 28), [], []⟩
def dD__law_refused_right : He.DefD := ⟨("_law_refused_right", none), "_law_refused_right", "_law_refused_right", defArgs (topS 40), defBody (topS 40), defScope (topS 40), [], []⟩
def dD_law : He.DefD := ⟨("law", none), "law", "law", defArgs (topS 41), defBody (topS 41), defScope (topS 41), [], []⟩
def dD__law_heard : He.DefD := ⟨("_law_heard", none), "_law_heard", "_law_heard", defArgs (topS 39), defBody (topS 39), defScope (topS 39), [], []⟩
def dI_Refused : He.DefD := ⟨("Refused", some "__init__"), "__init__", "Refused.__init__", PySem.RefX.iA ⟨6, 17, 6, 21⟩ ⟨6, 23, 6, 25⟩, PySem.RefX.iB ⟨7, 8, 7, 12⟩ ⟨7, 8, 7, 15⟩ ⟨7, 18, 7, 20⟩ ⟨7, 8, 7, 20⟩, PySem.RefX.iS, [], []⟩
def fn : List He.DefD := [dD__law_box, dD__law_take, dD__law_pick, dD__law_source, dD__law_run, dD_is_sequence, dD_has_parts, dD_is_integer, dD_is_within, dD__is_range, dD_is_source, dD__need_source, dD_is_below, dD__is_mark, dD__need_mark, dD_rounded_up, dD__first_count, dD__last_count, dD__counts, dD_counts, dD_ahead_counts, dD_run_to, dD_run_between, dD__law_bent, dD__law_is_run, dD__follow, dD_run_holds, dD__law_refused_right, dD_law, dD__law_heard, dI_Refused]
def fa : List He.Fa := [.glo "_law_box", .glo "_law_take", .glo "_law_pick", .glo "_law_source", .glo "_law_run", .glo "is_sequence", .glo "has_parts", .glo "is_integer", .glo "is_within", .glo "_is_range", .glo "is_source", .glo "_need_source", .glo "is_below", .glo "_is_mark", .glo "_need_mark", .glo "rounded_up", .glo "_first_count", .glo "_last_count", .glo "_counts", .glo "counts", .glo "ahead_counts", .glo "run_to", .glo "run_between", .glo "_law_bent", .glo "_law_is_run", .glo "_follow", .glo "run_holds", .glo "_law_refused_right", .glo "law", .glo "_law_heard", .glo "Refused", .glo "WreckError", .int "MOST_TICKS" 100, .int "MOST_WAY" 1000, .int "MOST_STAMPS" 1000, .int "NUMBERS" 256, .int "LAST_STAMP" 1000000, .free "abs", .free "all", .free "bool", .free "int", .free "isinstance", .free "len", .free "list", .free "max", .free "range", .free "repr", .free "tuple", .free "zip"]
def tf : List He.Defn := [("run_holds", none), ("_law_refused_right", none), ("law", none)]
def ex (K : PySem.W.Frag) : Bool := lowB K "Refused" && (decide (He.ga K "Refused" ≠ He.ga K "WreckError") && (decide (PySem.W.kitOne K (.ref (He.ga K "Refused")) (.ref (He.ga K "WreckError")) = some true) && (decide ((tf.map fun p => (He.cT K p).2).Nodup))))
theorem all_mk (MATH : LawIs) {l : PySem.W.OpenLaw} {w : World} {K : PySem.W.Frag} {h : Heap} {mg : Str → Option Value} {fa_ : Addr} (X : K.In h) (G : h.Ns mainGlobals mg) (hfa : mg "law" = some (.ref fa_)) (c : He.SaysX fa fn [] tf ex w h K) : LawAt l w K 63 mg fa_ h := by
  have cd := c.t.d
  have b0 := c.more
  unfold ex at b0
  obtain ⟨b_0, b0⟩ := He.ba b0
  obtain ⟨b_1, b0⟩ := He.ba b0
  obtain ⟨b_2, b0⟩ := He.ba b0
  have ndP := of_decide_eq_true b0
  have g32 := He.glo_ok X G (cd.fact 0 (f := .glo "_law_box") rfl)
  obtain ⟨fd32, FD32⟩ := cd.def_ 0 (d := dD__law_box) rfl
  obtain ⟨oc32, od32, kV32, dc32, pm32, an32, c32, ct32, sl32, l32, c32x, k32⟩ := def_of (x := "_law_box") (st := topS 32) FD32
  have g33 := He.glo_ok X G (cd.fact 1 (f := .glo "_law_take") rfl)
  obtain ⟨fd33, FD33⟩ := cd.def_ 1 (d := dD__law_take) rfl
  obtain ⟨oc33, od33, kV33, dc33, pm33, an33, c33, ct33, sl33, l33, c33x, k33⟩ := def_of (x := "_law_take") (st := topS 33) FD33
  have g34 := He.glo_ok X G (cd.fact 2 (f := .glo "_law_pick") rfl)
  obtain ⟨fd34, FD34⟩ := cd.def_ 2 (d := dD__law_pick) rfl
  obtain ⟨oc34, od34, kV34, dc34, pm34, an34, c34, ct34, sl34, l34, c34x, k34⟩ := def_of (x := "_law_pick") (st := topS 34) FD34
  have g35 := He.glo_ok X G (cd.fact 3 (f := .glo "_law_source") rfl)
  obtain ⟨fd35, FD35⟩ := cd.def_ 3 (d := dD__law_source) rfl
  obtain ⟨oc35, od35, kV35, dc35, pm35, an35, c35, ct35, sl35, l35, c35x, k35⟩ := def_of (x := "_law_source") (st := topS 35) FD35
  have g36 := He.glo_ok X G (cd.fact 4 (f := .glo "_law_run") rfl)
  obtain ⟨fd36, FD36⟩ := cd.def_ 4 (d := dD__law_run) rfl
  obtain ⟨oc36, od36, kV36, dc36, pm36, an36, c36, ct36, sl36, l36, c36x, k36⟩ := def_of (x := "_law_run") (st := topS 36) FD36
  have g7 := He.glo_ok X G (cd.fact 5 (f := .glo "is_sequence") rfl)
  obtain ⟨fd7, FD7⟩ := cd.def_ 5 (d := dD_is_sequence) rfl
  obtain ⟨oc7, od7, kV7, dc7, pm7, an7, c7, ct7, sl7, l7, c7x, k7⟩ := def_of (x := "is_sequence") (st := topS 7) FD7
  have g8 := He.glo_ok X G (cd.fact 6 (f := .glo "has_parts") rfl)
  obtain ⟨fd8, FD8⟩ := cd.def_ 6 (d := dD_has_parts) rfl
  obtain ⟨oc8, od8, kV8, dc8, pm8, an8, c8, ct8, sl8, l8, c8x, k8⟩ := def_of (x := "has_parts") (st := topS 8) FD8
  have g4 := He.glo_ok X G (cd.fact 7 (f := .glo "is_integer") rfl)
  obtain ⟨fd4, FD4⟩ := cd.def_ 7 (d := dD_is_integer) rfl
  obtain ⟨oc4, od4, kV4, dc4, pm4, an4, c4, ct4, sl4, l4, c4x, k4⟩ := def_of (x := "is_integer") (st := topS 4) FD4
  have g5 := He.glo_ok X G (cd.fact 8 (f := .glo "is_within") rfl)
  obtain ⟨fd5, FD5⟩ := cd.def_ 8 (d := dD_is_within) rfl
  obtain ⟨oc5, od5, kV5, dc5, pm5, an5, c5, ct5, sl5, l5, c5x, k5⟩ := def_of (x := "is_within") (st := topS 5) FD5
  have g15 := He.glo_ok X G (cd.fact 9 (f := .glo "_is_range") rfl)
  obtain ⟨fd15, FD15⟩ := cd.def_ 9 (d := dD__is_range) rfl
  obtain ⟨oc15, od15, kV15, dc15, pm15, an15, c15, ct15, sl15, l15, c15x, k15⟩ := def_of (x := "_is_range") (st := topS 15) FD15
  have g16 := He.glo_ok X G (cd.fact 10 (f := .glo "is_source") rfl)
  obtain ⟨fd16, FD16⟩ := cd.def_ 10 (d := dD_is_source) rfl
  obtain ⟨oc16, od16, kV16, dc16, pm16, an16, c16, ct16, sl16, l16, c16x, k16⟩ := def_of (x := "is_source") (st := topS 16) FD16
  have g19 := He.glo_ok X G (cd.fact 11 (f := .glo "_need_source") rfl)
  obtain ⟨fd19, FD19⟩ := cd.def_ 11 (d := dD__need_source) rfl
  obtain ⟨oc19, od19, kV19, dc19, pm19, an19, c19, ct19, sl19, l19, c19x, k19⟩ := def_of (x := "_need_source") (st := topS 19) FD19
  have g6 := He.glo_ok X G (cd.fact 12 (f := .glo "is_below") rfl)
  obtain ⟨fd6, FD6⟩ := cd.def_ 12 (d := dD_is_below) rfl
  obtain ⟨oc6, od6, kV6, dc6, pm6, an6, c6, ct6, sl6, l6, c6x, k6⟩ := def_of (x := "is_below") (st := topS 6) FD6
  have g18 := He.glo_ok X G (cd.fact 13 (f := .glo "_is_mark") rfl)
  obtain ⟨fd18, FD18⟩ := cd.def_ 13 (d := dD__is_mark) rfl
  obtain ⟨oc18, od18, kV18, dc18, pm18, an18, c18, ct18, sl18, l18, c18x, k18⟩ := def_of (x := "_is_mark") (st := topS 18) FD18
  have g20 := He.glo_ok X G (cd.fact 14 (f := .glo "_need_mark") rfl)
  obtain ⟨fd20, FD20⟩ := cd.def_ 14 (d := dD__need_mark) rfl
  obtain ⟨oc20, od20, kV20, dc20, pm20, an20, c20, ct20, sl20, l20, c20x, k20⟩ := def_of (x := "_need_mark") (st := topS 20) FD20
  have g21 := He.glo_ok X G (cd.fact 15 (f := .glo "rounded_up") rfl)
  obtain ⟨fd21, FD21⟩ := cd.def_ 15 (d := dD_rounded_up) rfl
  obtain ⟨oc21, od21, kV21, dc21, pm21, an21, c21, ct21, sl21, l21, c21x, k21⟩ := def_of (x := "rounded_up") (st := topS 21) FD21
  have g22 := He.glo_ok X G (cd.fact 16 (f := .glo "_first_count") rfl)
  obtain ⟨fd22, FD22⟩ := cd.def_ 16 (d := dD__first_count) rfl
  obtain ⟨oc22, od22, kV22, dc22, pm22, an22, c22, ct22, sl22, l22, c22x, k22⟩ := def_of (x := "_first_count") (st := topS 22) FD22
  have g23 := He.glo_ok X G (cd.fact 17 (f := .glo "_last_count") rfl)
  obtain ⟨fd23, FD23⟩ := cd.def_ 17 (d := dD__last_count) rfl
  obtain ⟨oc23, od23, kV23, dc23, pm23, an23, c23, ct23, sl23, l23, c23x, k23⟩ := def_of (x := "_last_count") (st := topS 23) FD23
  have g24 := He.glo_ok X G (cd.fact 18 (f := .glo "_counts") rfl)
  obtain ⟨fd24, FD24⟩ := cd.def_ 18 (d := dD__counts) rfl
  obtain ⟨oc24, od24, kV24, dc24, pm24, an24, c24, ct24, sl24, l24, c24x, k24⟩ := def_of (x := "_counts") (st := topS 24) FD24
  have g25 := He.glo_ok X G (cd.fact 19 (f := .glo "counts") rfl)
  obtain ⟨fd25, FD25⟩ := cd.def_ 19 (d := dD_counts) rfl
  obtain ⟨oc25, od25, kV25, dc25, pm25, an25, c25, ct25, sl25, l25, c25x, k25⟩ := def_of (x := "counts") (st := topS 25) FD25
  have g26 := He.glo_ok X G (cd.fact 20 (f := .glo "ahead_counts") rfl)
  obtain ⟨fd26, FD26⟩ := cd.def_ 20 (d := dD_ahead_counts) rfl
  obtain ⟨oc26, od26, kV26, dc26, pm26, an26, c26, ct26, sl26, l26, c26x, k26⟩ := def_of (x := "ahead_counts") (st := topS 26) FD26
  have g30 := He.glo_ok X G (cd.fact 21 (f := .glo "run_to") rfl)
  obtain ⟨fd30, FD30⟩ := cd.def_ 21 (d := dD_run_to) rfl
  obtain ⟨oc30, od30, kV30, dc30, pm30, an30, c30, ct30, sl30, l30, c30x, k30⟩ := def_of (x := "run_to") (st := topS 30) FD30
  have g29 := He.glo_ok X G (cd.fact 22 (f := .glo "run_between") rfl)
  obtain ⟨fd29, FD29⟩ := cd.def_ 22 (d := dD_run_between) rfl
  obtain ⟨oc29, od29, kV29, dc29, pm29, an29, c29, ct29, sl29, l29, c29x, k29⟩ := def_of (x := "run_between") (st := topS 29) FD29
  have g38 := He.glo_ok X G (cd.fact 23 (f := .glo "_law_bent") rfl)
  obtain ⟨fd38, FD38⟩ := cd.def_ 23 (d := dD__law_bent) rfl
  obtain ⟨oc38, od38, kV38, dc38, pm38, an38, c38, ct38, sl38, l38, c38x, k38⟩ := def_of (x := "_law_bent") (st := topS 38) FD38
  have g37 := He.glo_ok X G (cd.fact 24 (f := .glo "_law_is_run") rfl)
  obtain ⟨fd37, FD37⟩ := cd.def_ 24 (d := dD__law_is_run) rfl
  obtain ⟨oc37, od37, kV37, dc37, pm37, an37, c37, ct37, sl37, l37, c37x, k37⟩ := def_of (x := "_law_is_run") (st := topS 37) FD37
  have g27 := He.glo_ok X G (cd.fact 25 (f := .glo "_follow") rfl)
  obtain ⟨fd27, FD27⟩ := cd.def_ 25 (d := dD__follow) rfl
  obtain ⟨oc27, od27, kV27, dc27, pm27, an27, c27, ct27, sl27, l27, c27x, k27⟩ := def_of (x := "_follow") (st := topS 27) FD27
  have g28 := He.glo_ok X G (cd.fact 26 (f := .glo "run_holds") rfl)
  obtain ⟨fd28, FD28⟩ := cd.def_ 26 (d := dD_run_holds) rfl
  obtain ⟨oc28, od28, kV28, dc28, pm28, an28, c28, ct28, sl28, l28, c28x, k28⟩ := def_of (x := "run_holds") (st := topS 28) FD28
  have g40 := He.glo_ok X G (cd.fact 27 (f := .glo "_law_refused_right") rfl)
  obtain ⟨fd40, FD40⟩ := cd.def_ 27 (d := dD__law_refused_right) rfl
  obtain ⟨oc40, od40, kV40, dc40, pm40, an40, c40, ct40, sl40, l40, c40x, k40⟩ := def_of (x := "_law_refused_right") (st := topS 40) FD40
  have g41 := He.glo_ok X G (cd.fact 28 (f := .glo "law") rfl)
  obtain ⟨fd41, FD41⟩ := cd.def_ 28 (d := dD_law) rfl
  obtain ⟨oc41, od41, kV41, dc41, pm41, an41, c41, ct41, sl41, l41, c41x, k41⟩ := def_of (x := "law") (st := topS 41) FD41
  have g39 := He.glo_ok X G (cd.fact 29 (f := .glo "_law_heard") rfl)
  obtain ⟨fd39, FD39⟩ := cd.def_ 29 (d := dD__law_heard) rfl
  obtain ⟨oc39, od39, kV39, dc39, pm39, an39, c39, ct39, sl39, l39, c39x, k39⟩ := def_of (x := "_law_heard") (st := topS 39) FD39
  have gC_Refused := He.glo_ok X G (cd.fact 30 (f := .glo "Refused") rfl)
  obtain ⟨fdI_Refused, FI_Refused⟩ := cd.def_ 30 (d := dI_Refused) rfl
  have gB := He.glo_ok X G (cd.fact 31 (f := .glo "WreckError") rfl)
  have e28 : He.cT K ("run_holds", none) = (c28, He.tabOf K c28) := by
    unfold He.cT
    rw [He.codeOf_eq (p := ("run_holds", none)) l28 rfl]
  have m28 : (("run_holds", none) : He.Defn) ∈ tf := by simp [tf]
  have hP28 := c.empty _ m28
  have nP28 := c.out _ m28
  have hd28 := c.hd _ m28
  rw [e28] at hP28 nP28 hd28
  have e40 : He.cT K ("_law_refused_right", none) = (c40, He.tabOf K c40) := by
    unfold He.cT
    rw [He.codeOf_eq (p := ("_law_refused_right", none)) l40 rfl]
  have m40 : (("_law_refused_right", none) : He.Defn) ∈ tf := by simp [tf]
  have hP40 := c.empty _ m40
  have nP40 := c.out _ m40
  have hd40 := c.hd _ m40
  rw [e40] at hP40 nP40 hd40
  have e41 : He.cT K ("law", none) = (c41, He.tabOf K c41) := by
    unfold He.cT
    rw [He.codeOf_eq (p := ("law", none)) l41 rfl]
  have m41 : (("law", none) : He.Defn) ∈ tf := by simp [tf]
  have hP41 := c.empty _ m41
  have nP41 := c.out _ m41
  have hd41 := c.hd _ m41
  rw [e41] at hP41 nP41 hd41
  have e := hfa.symm.trans g41
  cases e
  refine ⟨[(c28, He.tabOf K c28), (c40, He.tabOf K c40), (c41, He.tabOf K c41)], fun p hp => ?_, fun p hp => ?_, fun p hp => ?_, fun base H s₁ a ns hn e0 TBs hH hS => ?_⟩
  · simp only [List.mem_cons, List.not_mem_nil, or_false] at hp
    rcases hp with rfl | rfl | rfl
    · exact hP28
    · exact hP40
    · exact hP41
  · simp only [List.mem_cons, List.not_mem_nil, or_false] at hp
    rcases hp with rfl | rfl | rfl
    · exact nP28
    · exact nP40
    · exact nP41
  · simp only [List.mem_cons, List.not_mem_nil, or_false] at hp
    rcases hp with rfl | rfl | rfl
    · exact PySem.W.codeHd_of_K X hd28
    · exact PySem.W.codeHd_of_K X hd40
    · exact PySem.W.codeHd_of_K X hd41
  · let TT : List (Addr × Str) := [(He.tabOf K c28, Q_run_holds), (He.tabOf K c40, Q__law_refused_right), (He.tabOf K c41, Q_law)]
    let CRf : Str → Addr := fun x => He.ga K x
    have ndT : (TT.map (·.1)).Nodup := by
      have q := ndP
      simp only [tf, List.map_cons, List.map_nil, e28, e40, e41] at q
      exact q
    have low_Refused : PySem.RefX.LowTxt "Refused" "Refused.__init__" K mg (CRf "Refused") (He.ma K (He.ga K "Refused") "__init__") := low_of X G b_0 gC_Refused FI_Refused
    have T : Txt K mg (Pm.mk TT CRf) (He.ma K (He.ga K "Refused") "__init__") := { MOST_TICKS := He.int_ok X G (cd.fact 32 (f := .int "MOST_TICKS" 100) rfl), MOST_WAY := He.int_ok X G (cd.fact 33 (f := .int "MOST_WAY" 1000) rfl), MOST_STAMPS := He.int_ok X G (cd.fact 34 (f := .int "MOST_STAMPS" 1000) rfl), NUMBERS := He.int_ok X G (cd.fact 35 (f := .int "NUMBERS" 256) rfl), LAST_STAMP := He.int_ok X G (cd.fact 36 (f := .int "LAST_STAMP" 1000000) rfl), abs := He.free_ok X G (cd.fact 37 (f := .free "abs") rfl), all := He.free_ok X G (cd.fact 38 (f := .free "all") rfl), bool := He.free_ok X G (cd.fact 39 (f := .free "bool") rfl), int := He.free_ok X G (cd.fact 40 (f := .free "int") rfl), isinstance := He.free_ok X G (cd.fact 41 (f := .free "isinstance") rfl), len := He.free_ok X G (cd.fact 42 (f := .free "len") rfl), list := He.free_ok X G (cd.fact 43 (f := .free "list") rfl), max := He.free_ok X G (cd.fact 44 (f := .free "max") rfl), range := He.free_ok X G (cd.fact 45 (f := .free "range") rfl), repr := He.free_ok X G (cd.fact 46 (f := .free "repr") rfl), tuple := He.free_ok X G (cd.fact 47 (f := .free "tuple") rfl), zip := He.free_ok X G (cd.fact 48 (f := .free "zip") rfl), low_Refused := low_Refused, heard := ⟨_, _, _, _, _, _, _, _, _, _, g39, k39, l39, c39x, (fun_mk (st := topS 39) l39 c39x k39).binds (ps := ["_law_ask"]) fun _ _ _ _ _ _ us hl => match us, hl with | [_], _ => rfl⟩, wr := ⟨_, gB, of_decide_eq_true b_1, of_decide_eq_true b_2⟩ }
    have D__law_box := ok__law_box (Pg := l.prog) (w := w) (base := base) (P := Pm.mk TT CRf) T   l32 c32x k32 g32
    have D__law_take := ok__law_take (Pg := l.prog) (w := w) (base := base) (P := Pm.mk TT CRf) T   l33 c33x k33 g33
    have D__law_pick := ok__law_pick (Pg := l.prog) (w := w) (base := base) (P := Pm.mk TT CRf) T D__law_take  l34 c34x k34 g34
    have D__law_source := ok__law_source (Pg := l.prog) (w := w) (base := base) (P := Pm.mk TT CRf) T D__law_take D__law_pick  l35 c35x k35 g35
    have D__law_run := ok__law_run (Pg := l.prog) (w := w) (base := base) (P := Pm.mk TT CRf) T D__law_take  l36 c36x k36 g36
    have D_is_sequence := ok_is_sequence (Pg := l.prog) (w := w) (base := base) (P := Pm.mk TT CRf) T   l7 c7x k7 g7
    have D_has_parts := ok_has_parts (Pg := l.prog) (w := w) (base := base) (P := Pm.mk TT CRf) T D_is_sequence  l8 c8x k8 g8
    have D_is_integer := ok_is_integer (Pg := l.prog) (w := w) (base := base) (P := Pm.mk TT CRf) T   l4 c4x k4 g4
    have D_is_within := ok_is_within (Pg := l.prog) (w := w) (base := base) (P := Pm.mk TT CRf) T D_is_integer  l5 c5x k5 g5
    have D__is_range := ok__is_range (Pg := l.prog) (w := w) (base := base) (P := Pm.mk TT CRf) T D_is_within  l15 c15x k15 g15
    have D_is_source := ok_is_source (Pg := l.prog) (w := w) (base := base) (P := Pm.mk TT CRf) T D_has_parts D__is_range  l16 c16x k16 g16
    have D__need_source := ok__need_source (Pg := l.prog) (w := w) (base := base) (P := Pm.mk TT CRf) T D_is_source  l19 c19x k19 g19
    have D_is_below := ok_is_below (Pg := l.prog) (w := w) (base := base) (P := Pm.mk TT CRf) T D_is_integer  l6 c6x k6 g6
    have D__is_mark := ok__is_mark (Pg := l.prog) (w := w) (base := base) (P := Pm.mk TT CRf) T D_has_parts D_is_below D_is_within  l18 c18x k18 g18
    have D__need_mark := ok__need_mark (Pg := l.prog) (w := w) (base := base) (P := Pm.mk TT CRf) T D__is_mark  l20 c20x k20 g20
    have D_rounded_up := ok_rounded_up (Pg := l.prog) (w := w) (base := base) (P := Pm.mk TT CRf) T   l21 c21x k21 g21
    have D__first_count := ok__first_count (Pg := l.prog) (w := w) (base := base) (P := Pm.mk TT CRf) T D_rounded_up  l22 c22x k22 g22
    have D__last_count := ok__last_count (Pg := l.prog) (w := w) (base := base) (P := Pm.mk TT CRf) T   l23 c23x k23 g23
    have D__counts := ok__counts (Pg := l.prog) (w := w) (base := base) (P := Pm.mk TT CRf) T D__first_count D__last_count  l24 c24x k24 g24
    have D_counts := ok_counts (Pg := l.prog) (w := w) (base := base) (P := Pm.mk TT CRf) T D__need_source D__need_mark D__counts  l25 c25x k25 g25
    have D_ahead_counts := ok_ahead_counts (Pg := l.prog) (w := w) (base := base) (P := Pm.mk TT CRf) T D__need_source D__need_mark  l26 c26x k26 g26
    have D_run_to := ok_run_to (Pg := l.prog) (w := w) (base := base) (P := Pm.mk TT CRf) T D_ahead_counts D_is_integer  l30 c30x k30 g30
    have D_run_between := ok_run_between (Pg := l.prog) (w := w) (base := base) (P := Pm.mk TT CRf) T D_counts D_is_integer  l29 c29x k29 g29
    have D__law_bent := ok__law_bent (Pg := l.prog) (w := w) (base := base) (P := Pm.mk TT CRf) T D__law_pick D__law_take  l38 c38x k38 g38
    have D__law_is_run := ok__law_is_run (Pg := l.prog) (w := w) (base := base) (P := Pm.mk TT CRf) T   l37 c37x k37 g37
    have D__follow := ok__follow (Pg := l.prog) (w := w) (base := base) (P := Pm.mk TT CRf) T   l27 c27x k27 g27
    have D_run_holds := ok_run_holds (Pg := l.prog) (w := w) (base := base) (P := Pm.mk TT CRf) T D__need_source D_is_sequence D__follow D__is_mark (TBs (c28, He.tabOf K c28) (by simp)) (show (He.tabOf K c28, Q_run_holds) ∈ TT from by simp [TT]) (fun q hq e => uT_of ndT (He.tabOf K c28, Q_run_holds) (by simp [TT]) q hq e) l28 c28x k28 g28
    have D__law_refused_right := ok__law_refused_right (Pg := l.prog) (w := w) (base := base) (P := Pm.mk TT CRf) T D__law_pick D_run_between D_run_to D_run_holds (TBs (c40, He.tabOf K c40) (by simp)) (show (He.tabOf K c40, Q__law_refused_right) ∈ TT from by simp [TT]) (fun q hq e => uT_of ndT (He.tabOf K c40, Q__law_refused_right) (by simp [TT]) q hq e) l40 c40x k40 g40
    have D_law := ok_law (Pg := l.prog) (w := w) (base := base) (P := Pm.mk TT CRf) T D__law_box D__law_source D__law_run D__law_take D_counts D_ahead_counts D__law_pick D_run_to D_run_between D__law_bent D__law_is_run D__law_refused_right D_run_holds (TBs (c41, He.tabOf K c41) (by simp)) (show (He.tabOf K c41, Q_law) ∈ TT from by simp [TT]) (fun q hq e => uT_of ndT (He.tabOf K c41, Q_law) (by simp [TT]) q hq e) l41 c41x k41 g41
    obtain ⟨st, hst⟩ := MATH ns hn
    obtain ⟨f0, fd0, hm0, hF0, hB0, F0⟩ := D_law.ex
    have e := hfa.symm.trans hm0
    cases e
    have bb := hB0 s₁ [.ref a] (e0.mod.kin.keeps fun b o e => (e0.bs b o e).1) rfl
    rw [List.append_nil] at bb
    refine F0.run callerA [] s₁ H ⟨[.ref a], []⟩ [.ref a] [.ref a] (fun v _ => v = .bl true) E0 (fun _ => rfl) ⟨rfl, by decide, by decide⟩ e0 bb (.cons rfl .nil) ⟨⟨[], []⟩, [.scr ns], [], rfl, .cons (.scr ?_) .nil, ⟨rfl, fun k a b z => by simp at z, fun i j a b z => by simp at z, fun k a b z => by simp at z, fun e z => (nomatch z), fun p hp => ?_⟩, ?_⟩
    · rcases hS with hS | hS
      · exact .inl ⟨hS, ⟨fun z => (nomatch z), fun z => (nomatch z)⟩⟩
      · exact .inr (.inr hS)
    · have hp' : p ∈ TT := hp
      simp only [TT, List.mem_cons, List.not_mem_nil, or_false] at hp'
      rcases hp' with rfl | rfl | rfl
      · exact LamX.TabS.nil (hH (c28, He.tabOf K c28) (by simp))
      · exact LamX.TabS.nil (hH (c40, He.tabOf K c40) (by simp))
      · exact LamX.TabS.nil (hH (c41, He.tabOf K c41) (by simp))
    · show Out K _ _ _ (m_law [.scr ns] []) _ _
      rw [hst]
      exact fun β' v H' _ _ r => r.bl_inv
abbrev Rw : PySem.W.OpenRow := PySem.W.OpenLaw.row PySem.Challenge.rw_wrecktold_k14_whole_runs_of_a_boot
def loose0 : List PySem.Str := ["is_integer", "is_within", "is_below", "is_sequence", "has_parts", "_is_range", "is_source", "_is_mark", "_need_source", "_need_mark", "rounded_up", "_first_count", "_last_count", "_counts", "counts", "ahead_counts"]
def loose1 : List PySem.Str := ["_follow", "run_holds", "run_between", "run_to", "_law_box", "_law_take", "_law_pick", "_law_source", "_law_run", "_law_is_run", "_law_bent", "_law_heard", "_law_refused_right", "WreckError", "Refused", "MOST_TICKS"]
def loose2 : List PySem.Str := ["MOST_WAY", "MOST_STAMPS", "NUMBERS", "LAST_STAMP"]
def loose : List PySem.Str := loose0 ++ loose1 ++ loose2
abbrev hk : PySem.W.Hook := He.hookX 5 fa fn [] tf ex
def ob (s : PySem.W.SharedT) : He.AlX := He.obsX 5 fa fn [] tf ex (HandSHeadRun.getT s)
theorem ob_eq (s : PySem.W.SharedT) : ob s = hk.obs s.abs := He.obsX_eq (HandSHeadRun.getT_eq s)
end K14

end
section
set_option Elab.async false
set_option linter.all false
set_option maxRecDepth 100000
set_option maxHeartbeats 4000000
namespace K14
open PySem PySem.Spec PyProof.Rows L2 Ms
theorem run (w : World) : HandSHeadRun.RunEq Rw (PySem.W.view Rw.prog [41]) hk ob 12000 loose w := by
  intro os
  kernel_rfl
end K14

end
section
set_option Elab.async false
set_option linter.all false
set_option maxRecDepth 100000
set_option maxHeartbeats 4000000
namespace Ms
open PySem PySem.Spec PyProof.Rows L2
section
variable {α γ : Type} {δ : List (Option D)} {bx : Sto} {E : Str → D → Sto → Prop} {N : List (Option D) → Sto → Prop} {Rt : D → Sto → Prop}
theorem W_var {i : Nat} {Q : D → Sto → Prop} : W (fVar i δ bx) Q E ↔ ∃ d, δ[i]? = some (some d) ∧ Q d bx := by
  unfold fVar
  constructor
  · intro h
    split at h
    · exact ⟨_, by assumption, h⟩
    · exact h.elim
  · rintro ⟨d, h1, h2⟩
    simp only [h1]
    exact h2
theorem W_rg1 {A : Fn (List D)} {Q : List D → Sto → Prop} : W (fRg1 A δ bx) Q E ↔ W (A δ bx) (fun ds bx' => ∃ j : Int, ds = [.int j] ∧ -(2 ^ 62) ≤ j ∧ j < 2 ^ 62 ∧ Q (rgl 0 j.toNat) bx') E := by
  unfold fRg1
  rw [W_bnd]
  refine iff_of_eq (congrArg (fun k => W (A δ bx) k E) (funext fun ds => funext fun bx' => propext ?_))
  constructor
  · intro h
    split at h
    · split at h
      · rename_i j hj
        exact ⟨j, rfl, hj.1, hj.2, h⟩
      · exact h.elim
    · exact h.elim
  · rintro ⟨j, rfl, h1, h2, h3⟩
    dsimp only
    rw [if_pos ⟨h1, h2⟩]
    exact h3
theorem W_rg2 {A : Fn (List D)} {Q : List D → Sto → Prop} : W (fRg2 A δ bx) Q E ↔ W (A δ bx) (fun ds bx' => ∃ i j : Int, ds = [.int i, .int j] ∧ (-(2 ^ 62) ≤ i ∧ i < 2 ^ 62 ∧ -(2 ^ 62) ≤ j ∧ j < 2 ^ 62) ∧ Q (rgl i (j - i).toNat) bx') E := by
  unfold fRg2
  rw [W_bnd]
  refine iff_of_eq (congrArg (fun k => W (A δ bx) k E) (funext fun ds => funext fun bx' => propext ?_))
  constructor
  · intro h
    split at h
    · split at h
      · rename_i i j hj
        exact ⟨i, j, rfl, hj, h⟩
      · exact h.elim
    · exact h.elim
  · rintro ⟨i, j, rfl, h1, h3⟩
    dsimp only
    rw [if_pos h1]
    exact h3
theorem W_zip {A : Fn (List D)} {Q : List D → Sto → Prop} : W (fZip A δ bx) Q E ↔ W (A δ bx) (fun ds bx' => ∃ l m, (ds = [.lst l, .lst m] ∨ ds = [.tup l, .tup m]) ∧ Q (zipD l m) bx') E := by
  unfold fZip
  rw [W_bnd]
  refine iff_of_eq (congrArg (fun k => W (A δ bx) k E) (funext fun ds => funext fun bx' => propext ?_))
  constructor
  · intro h
    split at h
    · exact ⟨_, _, .inl rfl, h⟩
    · exact ⟨_, _, .inr rfl, h⟩
    · exact h.elim
  · rintro ⟨l, m, rfl | rfl, h⟩
    · exact h
    · exact h
theorem W_enum {A : Fn (List D)} {Q : List D → Sto → Prop} : W (fEnum A δ bx) Q E ↔ W (A δ bx) (fun ds bx' => ∃ l, ds = [.lst l] ∧ Q (enumD 0 l) bx') E := by
  unfold fEnum
  rw [W_bnd]
  refine iff_of_eq (congrArg (fun k => W (A δ bx) k E) (funext fun ds => funext fun bx' => propext ?_))
  constructor
  · intro h
    split at h
    · exact ⟨_, rfl, h⟩
    · exact h.elim
  · rintro ⟨l, rfl, h⟩
    exact h
theorem W_lcA {is : List Nat} {b : Bd} {Fi : Fn (List D)} {C : Fn Bool} {F : Fn D} {Q : List D → Sto → Prop} : W (fLcA is b Fi C F δ bx) Q E ↔ W (Fi δ bx) (fun ds bx' => ds.length ≤ 1000000 ∧ W (lcGo b (unset is δ) C F ds bx' []) Q E) E := by
  unfold fLcA
  rw [W_bnd]
  refine iff_of_eq (congrArg (fun k => W (Fi δ bx) k E) (funext fun ds => funext fun bx' => propext ?_))
  by_cases h : ds.length ≤ 1000000
  · rw [if_pos h]
    exact ⟨fun q => ⟨h, q⟩, fun q => q.2⟩
  · rw [if_neg h]
    exact ⟨fun q => q.elim, fun q => h q.1⟩
theorem W_lc {is : List Nat} {b : Bd} {Fi : Fn (List D)} {C : Fn Bool} {F : Fn D} {Q : D → Sto → Prop} : W (fLc is b Fi C F δ bx) Q E ↔ W (fLcA is b Fi C F δ bx) (fun l bx' => Q (.lst l) bx') E := W_bnd
theorem W_lcM {is : List Nat} {b : Bd} {Fi : Fn (List D)} {C : Fn Bool} {F : Fn D} {Q : D → Sto → Prop} : W (fLcM is b Fi C F δ bx) Q E ↔ W (fLcA is b Fi C F δ bx) (fun l bx' => Q (.ref bx'.length) (bx' ++ [.lst l])) E := W_bnd
theorem W_allG {is : List Nat} {b : Bd} {Fi : Fn (List D)} {F : Fn D} {Q : D → Sto → Prop} : W (fAllG is b Fi F δ bx) Q E ↔ W (Fi δ bx) (fun ds bx' => W (allGo b (unset is δ) F ds bx') Q E) E := W_bnd
theorem W_heard {F : Fn D} {Q : D → Sto → Prop} : W (fHeard F δ bx) Q E ↔ W (F δ bx) (fun d bx' => Q (.tup [.str "told", d]) bx') (fun c d bx' => c = "Refused" ∧ showOk d = true ∧ Q (.tup [.str "refused", .str d.py.shown, .bl true]) bx') := by
  unfold fHeard hRes
  cases F δ bx with
  | ok d bx' => exact Iff.rfl
  | bad => exact Iff.rfl
  | err c d bx' =>
    constructor
    · intro h
      dsimp only at h
      split at h
      · split at h
        · exact ⟨by assumption, by assumption, h⟩
        · exact h.elim
      · exact h.elim
    · rintro ⟨h1, h2, h3⟩
      dsimp only
      rw [if_pos h1, if_pos h2]
      exact h3
/-! ### operations on what is known -/
theorem ev_plus {i j : Int} : cPlus bx (.int i) (.int j) = some (.int (i + j)) := rfl
theorem ev_sub {i j : Int} : cSub bx (.int i) (.int j) = some (.int (i - j)) := by simp [iI]
theorem ev_mulR {i j : Int} (h : -(2 ^ 64) < j ∧ j < 2 ^ 64) : cMul bx (.int i) (.int j) = some (.int (i * j)) := if_pos (Bool.or_eq_true_iff.mpr (.inr (decide_eq_true h)))
theorem ev_mulL {i j : Int} (h : -(2 ^ 64) < i ∧ i < 2 ^ 64) : cMul bx (.int i) (.int j) = some (.int (i * j)) := if_pos (Bool.or_eq_true_iff.mpr (.inl (decide_eq_true h)))
theorem ev_mod {i j : Int} (h : 0 < j) : cMod bx (.int i) (.int j) = some (.int (i % j)) := by simp [iI, h]
theorem ev_div {i j : Int} (h : 0 < j) (h2 : j < 1073741824) : cDiv bx (.int i) (.int j) = some (.int (i / j)) := by simp [iI, h, h2]
theorem ev_pow {i j : Int} (h : 0 ≤ j ∧ j ≤ 1000000 ∧ i.natAbs < 2 ^ 64) : cPow bx (.int i) (.int j) = some (.int (i ^ j.toNat)) := by simp [iI, decide_eq_true h]
theorem ev_iB {p : Int → Int → Bool} {i j : Int} : iB p bx (.int i) (.int j) = some (.bl (p i j)) := rfl
theorem ev_toB {b : Bool} : toB (.bl b) = some b := rfl
theorem ev_not {b : Bool} : cNot bx (.bl b) = some (.bl (!b)) := rfl
theorem ev_neg {i : Int} : cNeg bx (.int i) = some (.int (-i)) := rfl
theorem ev_isN {d : D} : cIsN bx d = some (.bl (isNon d)) := rfl
theorem ev_notN {d : D} : cNotN bx d = some (.bl (!isNon d)) := rfl
theorem ev_isB {n a b : Bool} : cIsB n bx (.bl a) (.bl b) = some (.bl (if n then !decide (a = b) else decide (a = b))) := rfl
theorem vs_lst {l : List D} : vs bx (.lst l) = some l := rfl
theorem vs_tup {l : List D} : vs bx (.tup l) = some l := rfl
theorem vs_scr {l : List Int} : vs bx (.scr l) = some (l.map D.int) := rfl
theorem vs_ref {k : Nat} {l : List D} (h : bx[k]? = some (.lst l)) : vs bx (.ref k) = some l := by simp [vs, vl, h]
theorem vs_int {i : Int} : vs bx (.int i) = none := rfl
theorem vs_non : vs bx .non = none := rfl
theorem vs_bl {b : Bool} : vs bx (.bl b) = none := rfl
theorem vs_str {x : Str} : vs bx (.str x) = none := rfl
theorem ev_ix {d : D} {i : Int} {l : List D} (h : vs bx d = some l) : cIx bx d (.int i) = atI l i := by
  unfold cIx
  rw [h]
theorem ixN_nat {n k : Nat} (h : k < n) : ixN n (k : Int) = some k := by
  unfold ixN
  rw [if_pos (by omega), if_pos (by omega)]
  congr 1
theorem atI_nat {l : List D} {k : Nat} {d : D} (h : l[k]? = some d) : atI l (k : Int) = some d := by
  unfold atI
  rw [ixN_nat (List.getElem?_eq_some_iff.mp h).1]
  exact h
theorem atI_int {l : List D} {i : Int} {d : D} (h0 : 0 ≤ i) (h : l[i.toNat]? = some d) : atI l i = some d := by
  have e : i = (i.toNat : Int) := by omega
  rw [e]
  exact atI_nat h
theorem ev_len {d : D} {l : List D} (h : vs bx d = some l) : cLen bx [d] = some (.int l.length) := by
  simp only [cLen, h]
theorem ev_int {i : Int} : cInt bx [.int i] = some (.int i) := rfl
theorem ev_abs {i : Int} : cAbs bx [.int i] = some (.int (if i < 0 then -i else i)) := rfl
theorem ev_max {i j : Int} : cMax bx [.int i, .int j] = some (.int (if j > i then j else i)) := rfl
theorem ev_min {i j : Int} : cMin bx [.int i, .int j] = some (.int (if j < i then j else i)) := rfl
theorem ev_tup {l : List D} (h : l.length ≤ 1000) : cTup bx l = some (.tup l) := if_pos h
theorem ev_lst {l : List D} (h : l.length ≤ 1000) : cLst bx l = some (.lst l) := if_pos h
theorem ev_listOf {d : D} {l : List D} (h : vs bx d = some l) : cListOf bx [d] = some (.lst l) := by simp [cListOf, h]
theorem ev_tupOfL {l : List D} : cTupOf bx [.lst l] = some (.tup l) := rfl
theorem ev_tupOfT {l : List D} : cTupOf bx [.tup l] = some (.tup l) := rfl
theorem ev_eqI {i j : Int} : cEqD bx (.int i) (.int j) = some (.bl (i == j)) := by
  simp [cEqD, eqOk, dr, D.pure, D.py, SeqAt.shaped, PyData.canLay0, PyData.depth, PyData.eqv]
theorem ev_neI {i j : Int} : cNeD bx (.int i) (.int j) = some (.bl (!(i == j))) := by
  simp [cNeD, eqOk, dr, D.pure, D.py, SeqAt.shaped, PyData.canLay0, PyData.depth, PyData.eqv]
theorem ev_isi {T t : String} {d : D} {b : Bool} (h : d.ty bx = some t) (k : kitB t T = some b) : cIsi T bx d = some (.bl b) := by
  unfold cIsi
  rw [h]
  show (kitB t T).map D.bl = _
  rw [k]
  rfl
theorem ev_isi2 {T U t : String} {d : D} {b c : Bool} (h : d.ty bx = some t) (k : kitB t T = some b) (k2 : kitB t U = some c) : cIsi2 T U bx d = some (.bl (b || c)) := by
  unfold cIsi2
  rw [h]
  show (match kitB t T, kitB t U with | some p, some q => some (D.bl (p || q)) | _, _ => none) = _
  rw [k, k2]
end
theorem kb1 : kitB "int" "int" = some true := by decide +kernel
theorem kb2 : kitB "bool" "int" = some true := by decide +kernel
theorem kb3 : kitB "NoneType" "int" = some false := by decide +kernel
theorem kb4 : kitB "tuple" "int" = some false := by decide +kernel
theorem kb5 : kitB "list" "int" = some false := by decide +kernel
theorem kb6 : kitB "str" "int" = some false := by decide +kernel
theorem ka1 : kitB "int" "bool" = some false := by decide +kernel
theorem ka2 : kitB "bool" "bool" = some true := by decide +kernel
theorem ka3 : kitB "NoneType" "bool" = some false := by decide +kernel
theorem ka4 : kitB "tuple" "bool" = some false := by decide +kernel
theorem ka5 : kitB "list" "bool" = some false := by decide +kernel
theorem ka6 : kitB "str" "bool" = some false := by decide +kernel
theorem kc1 : kitB "int" "list" = some false := by decide +kernel
theorem kc2 : kitB "bool" "list" = some false := by decide +kernel
theorem kc3 : kitB "NoneType" "list" = some false := by decide +kernel
theorem kc4 : kitB "tuple" "list" = some false := by decide +kernel
theorem kc5 : kitB "list" "list" = some true := by decide +kernel
theorem kc6 : kitB "str" "list" = some false := by decide +kernel
theorem kd1 : kitB "int" "tuple" = some false := by decide +kernel
theorem kd2 : kitB "bool" "tuple" = some false := by decide +kernel
theorem kd3 : kitB "NoneType" "tuple" = some false := by decide +kernel
theorem kd4 : kitB "tuple" "tuple" = some true := by decide +kernel
theorem kd5 : kitB "list" "tuple" = some false := by decide +kernel
theorem kd6 : kitB "str" "tuple" = some false := by decide +kernel
theorem ks1 : kitB "int" "str" = some false := by decide +kernel
theorem ks2 : kitB "bool" "str" = some false := by decide +kernel
theorem ks3 : kitB "NoneType" "str" = some false := by decide +kernel
theorem ks4 : kitB "tuple" "str" = some false := by decide +kernel
theorem ks5 : kitB "list" "str" = some false := by decide +kernel
theorem ks6 : kitB "str" "str" = some true := by decide +kernel
/-- data of one piece: no list that grows, no def -/
def D.cl : D → Bool
  | .ref _ => false
  | .fn _ => false
  | .scr _ => false
  | _ => true
def isI : D → Bool
  | .int _ => true
  | _ => false
def isS : D → Bool
  | .lst _ => true
  | .tup _ => true
  | _ => false
theorem isi_int {bx : Sto} {d : D} (h : d.cl = true) : cIsi "int" bx d = some (.bl (match d with | .int _ => true | .bl _ => true | _ => false)) := by
  cases d <;> first | (cases h; done) | exact ev_isi rfl (by first | exact kb1 | exact kb2 | exact kb3 | exact kb4 | exact kb5 | exact kb6)
theorem isi_bool {bx : Sto} {d : D} (h : d.cl = true) : cIsi "bool" bx d = some (.bl (match d with | .bl _ => true | _ => false)) := by
  cases d <;> first | (cases h; done) | exact ev_isi rfl (by first | exact ka1 | exact ka2 | exact ka3 | exact ka4 | exact ka5 | exact ka6)
theorem isi_tup {bx : Sto} {d : D} (h : d.cl = true) : cIsi "tuple" bx d = some (.bl (match d with | .tup _ => true | _ => false)) := by
  cases d <;> first | (cases h; done) | exact ev_isi rfl (by first | exact kd1 | exact kd2 | exact kd3 | exact kd4 | exact kd5 | exact kd6)
theorem isi_str {bx : Sto} {d : D} (h : d.cl = true) : cIsi "str" bx d = some (.bl (match d with | .str _ => true | _ => false)) := by
  cases d <;> first | (cases h; done) | exact ev_isi rfl (by first | exact ks1 | exact ks2 | exact ks3 | exact ks4 | exact ks5 | exact ks6)
theorem isi_seq {bx : Sto} {d : D} (h : d.cl = true) : cIsi2 "list" "tuple" bx d = some (.bl (isS d)) := by
  cases d <;> first
    | (cases h; done)
    | exact ev_isi2 (b := false) (c := false) rfl (by first | exact kc1 | exact kc2 | exact kc3 | exact kc6) (by first | exact kd1 | exact kd2 | exact kd3 | exact kd6)
    | exact ev_isi2 (b := true) (c := false) rfl kc5 kd5
    | exact ev_isi2 (b := false) (c := true) rfl kc4 kd4
/-! ### the box that a law draws from -/
/-- behind some draws: the box at b is a box, the cells beside it are as they were -/
structure Ext (b : Nat) (st st' : Sto) : Prop where
  ln : st.length ≤ st'.length
  bx : ∃ g r : Int, st'[b]? = some (.lst [.int g, .int r])
  sm : ∀ k : Nat, k < st.length → k ≠ b → st'[k]? = st[k]?
theorem Ext.refl {b : Nat} {st : Sto} (h : ∃ g r : Int, st[b]? = some (.lst [.int g, .int r])) : Ext b st st := ⟨Nat.le_refl _, h, fun _ _ _ => rfl⟩
theorem Ext.trans {b : Nat} {s1 s2 s3 : Sto} (h : Ext b s1 s2) (k : Ext b s2 s3) : Ext b s1 s3 := ⟨Nat.le_trans h.ln k.ln, k.bx, fun i hi hb => (k.sm i (Nat.lt_of_lt_of_le hi h.ln) hb).trans (h.sm i hi hb)⟩
/-- one draw -/
def sTake (c1 c2 m1 c3 c4 m2 c5 c6 : Int) : Sn := (sSeq (sIf (fB (f2 (iB fun i j => decide (j < i)) (f2 cIx (fVar 0) (pur (.int 0))) (pur (.int 0)))) (sSeq (sSet 2 (f2 cMod (fA cInt (fCons (f2 cIx (fVar 0) (pur (.int 0))) (pur []))) (fVar 1))) (sSeq (sPut (f2 cDiv (f2 cIx (fVar 0) (pur (.int 0))) (fVar 1)) (fVar 0) (pur (.int 0))) (sSeq (sRet (fVar 2)) sNext))) sNext) (sSeq (sSet 3 (f2 cMod (fA cInt (fCons (f2 cPlus (f2 cMul (f2 cIx (fVar 0) (pur (.int 1))) (pur (.int c1))) (pur (.int c2))) (pur []))) (pur (.int m1)))) (sSeq (sPut (f2 cPlus (f2 cMod (fA cInt (fCons (f2 cPlus (f2 cMul (fVar 3) (pur (.int c3))) (pur (.int c4))) (pur []))) (pur (.int m2))) (pur (.int 1))) (fVar 0) (pur (.int 1))) (sSeq (sRet (f2 cMod (fA cInt (fCons (f2 cDiv (f2 cPlus (f2 cMul (fVar 3) (pur (.int c5))) (f2 cIx (fVar 0) (pur (.int 1)))) (pur (.int c6))) (pur []))) (fVar 1))) sNext))))
theorem take_WS {c1 c2 m1 c3 c4 m2 c5 c6 : Int} (h1 : -(2 ^ 64) < c1 ∧ c1 < 2 ^ 64) (h3 : -(2 ^ 64) < c3 ∧ c3 < 2 ^ 64) (h5 : -(2 ^ 64) < c5 ∧ c5 < 2 ^ 64) (hm1 : 0 < m1) (hm2 : 0 < m2) (h6 : 0 < c6 ∧ c6 < 1073741824)
    {b : Nat} {st : Sto} {n : Int} (hb : ∃ g r : Int, st[b]? = some (.lst [.int g, .int r])) (hn : 0 < n) (hn2 : n < 1073741824) {Rt : D → Sto → Prop} {N : List (Option D) → Sto → Prop} {E : Str → D → Sto → Prop}
    (k : ∀ (i : Int) (st' : Sto), 0 ≤ i → i < n → Ext b st st' → st'.length = st.length → Rt (.int i) st') :
    WS (sTake c1 c2 m1 c3 c4 m2 c5 c6 [some (.ref b), some (.int n), none, none] st) N Rt E := by
  obtain ⟨g, r, hb⟩ := hb
  have hlt : b < st.length := (List.getElem?_eq_some_iff.mp hb).1
  have v := vs_ref hb
  have ext : ∀ g' r' : Int, Ext b st (st.set b (.lst [.int g', .int r'])) := fun g' r' => ⟨by rw [List.length_set]; exact Nat.le_refl _, ⟨g', r', List.getElem?_set_self hlt⟩, fun k _ hk => List.getElem?_set_ne (Ne.symm hk)⟩
  have a0 : ∀ x y : Int, atI [D.int x, D.int y] 0 = some (.int x) := fun _ _ => rfl
  have a1 : ∀ x y : Int, atI [D.int x, D.int y] 1 = some (.int y) := fun _ _ => rfl
  unfold sTake
  by_cases hg : 0 < g
  · simp only [WS_seq, WS_if, WS_set, WS_ret, WS_put, WS_next, W_B, W_f2, W_fA, W_cons, W_pur, W_var, ev_ix v, a0, ev_iB, ev_toB, ev_int, ev_mod hn, ev_div hn hn2, hg, decide_true, if_true, Option.some.injEq, exists_eq_left', List.getElem?_cons_zero, List.getElem?_cons_succ, List.set_cons_zero, List.set_cons_succ]
    refine ⟨b, 0, _, 0, rfl, rfl, hb, rfl, k _ _ (Int.emod_nonneg _ (by omega)) (Int.emod_lt_of_pos _ hn) (ext _ _) (by rw [List.length_set])⟩
  · simp only [WS_seq, WS_if, WS_set, WS_ret, WS_put, WS_next, W_B, W_f2, W_fA, W_cons, W_pur, W_var, ev_ix v, a0, a1, ev_iB, ev_toB, ev_int, ev_mod hm1, ev_mod hm2, ev_mulR h1, ev_mulR h3, ev_plus, hg, decide_false, Bool.false_eq_true, if_false, Option.some.injEq, exists_eq_left', List.getElem?_cons_zero, List.getElem?_cons_succ, List.set_cons_zero, List.set_cons_succ]
    refine ⟨b, 1, _, 1, rfl, rfl, hb, rfl, ?_⟩
    have v' := fun x => vs_ref (bx := st.set b (.lst [D.int g, x])) (k := b) (l := [D.int g, x]) (List.getElem?_set_self hlt)
    simp only [WS_seq, WS_ret, WS_next, W_f2, W_fA, W_cons, W_pur, W_var, ev_mulR h5, ev_plus, ev_ix (v' _), ev_int, ev_mod hn, ev_div h6.1 h6.2, List.set_cons_succ, List.set_cons_zero, a1, Option.some.injEq, exists_eq_left', List.getElem?_cons_zero, List.getElem?_cons_succ]
    exact k _ _ (Int.emod_nonneg _ (by omega)) (Int.emod_lt_of_pos _ hn) (ext _ _) (by rw [List.length_set])
end Ms

end
section
set_option Elab.async false
set_option linter.all false
set_option maxRecDepth 100000
set_option maxHeartbeats 4000000
namespace Ms
open PySem PySem.Spec PyProof.Rows L2
/-- the box that a script gives for its k-th round -/
def sBox (A B M C M2 C2 B2 M3 : Int) : Sn := (sSeq (sSet 2 (f2 cPlus (f2 cMul (pur (.int A)) (fVar 1)) (pur (.int B)))) (sSeq (sIf (fB (f2 (iB fun i j => decide (i < j)) (fVar 1) (fA cLen (fCons (fVar 0) (pur []))))) (sSeq (sSet 2 (fA cAbs (fCons (fA cInt (fCons (f2 cIx (fVar 0) (fVar 1)) (pur []))) (pur [])))) sNext) (sSeq (sIf (fB (f2 (iB fun i j => decide (j < i)) (fA cLen (fCons (fVar 0) (pur []))) (pur (.int 0)))) (sSeq (sSet 2 (f2 cPlus (fVar 2) (f2 cMul (f2 cMod (fA cInt (fCons (fA cAbs (fCons (fA cInt (fCons (f2 cIx (fVar 0) (f2 cMod (fA cInt (fCons (fVar 1) (pur []))) (fA cLen (fCons (fVar 0) (pur []))))) (pur []))) (pur []))) (pur []))) (pur (.int M))) (pur (.int C))))) sNext) sNext) sNext)) (sSeq (sSet 3 (fIfT (fB (f2 (iB fun i j => decide (j ≤ i)) (fVar 2) (f2 cPow (pur (.int 10)) (pur (.int 18))))) (fVar 2) (pur (.int 0)))) (sSeq (sRet (fNew (fCons (fVar 3) (fCons (f2 cPlus (f2 cMod (fA cInt (fCons (f2 cPlus (f2 cMul (f2 cMod (fA cInt (fCons (fVar 2) (pur []))) (pur (.int M2))) (pur (.int C2))) (f2 cMul (pur (.int B2)) (fVar 1))) (pur []))) (pur (.int M3))) (pur (.int 1))) (pur []))))) sNext))))
theorem W_if' {α : Type} {c : Bool} {A B : Fn α} {δ : List (Option D)} {bx : Sto} {Q : α → Sto → Prop} {E : Str → D → Sto → Prop} (h : c = true → W (A δ bx) Q E) (k : c = false → W (B δ bx) Q E) : W ((if c = true then A else B) δ bx) Q E := by
  cases c with
  | true => exact h rfl
  | false => exact k rfl
theorem WS_if' {c : Bool} {A B : Sn} {δ : List (Option D)} {bx : Sto} {N : List (Option D) → Sto → Prop} {R : D → Sto → Prop} {E : Str → D → Sto → Prop} (h : c = true → WS (A δ bx) N R E) (k : c = false → WS (B δ bx) N R E) : WS ((if c = true then A else B) δ bx) N R E := by
  cases c with
  | true => exact h rfl
  | false => exact k rfl
theorem box_WS {A B M C M2 C2 B2 M3 : Int} (hA : -(2 ^ 64) < A ∧ A < 2 ^ 64) (hC : -(2 ^ 64) < C ∧ C < 2 ^ 64) (hC2 : -(2 ^ 64) < C2 ∧ C2 < 2 ^ 64) (hB2 : -(2 ^ 64) < B2 ∧ B2 < 2 ^ 64) (hM : 0 < M) (hM2 : 0 < M2) (hM3 : 0 < M3) {ns : List Int} {k : Nat} {st : Sto}
    {Rt : D → Sto → Prop} {N : List (Option D) → Sto → Prop} {E : Str → D → Sto → Prop} (h : ∀ g r : Int, Rt (.ref st.length) (st ++ [.lst [.int g, .int r]])) :
    WS (sBox A B M C M2 C2 B2 M3 [some (.scr ns), some (.int k), none, none] st) N Rt E := by
  have fin : ∀ (cell : Int), WS ((sSeq (sSet 3 (fIfT (fB (f2 (iB fun i j => decide (j ≤ i)) (fVar 2) (f2 cPow (pur (.int 10)) (pur (.int 18))))) (fVar 2) (pur (.int 0)))) (sSeq (sRet (fNew (fCons (fVar 3) (fCons (f2 cPlus (f2 cMod (fA cInt (fCons (f2 cPlus (f2 cMul (f2 cMod (fA cInt (fCons (fVar 2) (pur []))) (pur (.int M2))) (pur (.int C2))) (f2 cMul (pur (.int B2)) (fVar 1))) (pur []))) (pur (.int M3))) (pur (.int 1))) (pur []))))) sNext)) [some (.scr ns), some (.int k), some (.int cell), none] st) N Rt E := fun cell => by
    simp only [WS_seq, WS_set, W_ifT, W_B, W_f2, W_pur, W_var, ev_pow (i := 10) (j := 18) (by decide), ev_iB, ev_toB, Option.some.injEq, exists_eq_left', List.getElem?_cons_zero, List.getElem?_cons_succ, List.set_cons_zero, List.set_cons_succ]
    refine W_if' (fun _ => ?_) (fun _ => ?_) <;>
    · simp only [W_var, W_pur, WS_ret, W_new, W_cons, W_f2, W_fA, ev_int, ev_mod hM2, ev_mod hM3, ev_mulR hC2, ev_mulL hB2, ev_plus, Option.some.injEq, exists_eq_left', List.getElem?_cons_zero, List.getElem?_cons_succ, List.set_cons_zero, List.set_cons_succ, List.length_cons, List.length_nil]
      exact ⟨by decide, h _ _⟩
  unfold sBox
  have v : vs st (.scr ns) = some (ns.map D.int) := vs_scr
  have vl : cLen st [.scr ns] = some (.int ns.length) := by rw [ev_len v, List.length_map]
  simp only [WS_seq (S := sSet 2 _), WS_set, W_f2, W_pur, W_var, ev_mulL hA, ev_plus, Option.some.injEq, exists_eq_left', List.getElem?_cons_zero, List.getElem?_cons_succ, List.set_cons_zero, List.set_cons_succ]
  rw [WS_seq]
  simp only [WS_if, W_B, W_f2, W_fA, W_cons, W_pur, W_var, vl, ev_iB, ev_toB, Option.some.injEq, exists_eq_left', List.getElem?_cons_zero, List.getElem?_cons_succ, List.set_cons_zero, List.set_cons_succ]
  refine WS_if' (fun hk => ?_) (fun hk => ?_)
  · have hk := of_decide_eq_true hk
    have hk' : k < ns.length := by omega
    have e : atI (ns.map D.int) (k : Int) = some (.int ns[k]) := atI_nat (by rw [List.getElem?_map, List.getElem?_eq_getElem hk']; rfl)
    simp only [WS_seq (T := sNext), WS_set, WS_next, W_f2, W_fA, W_cons, W_pur, W_var, ev_ix v, e, ev_int, ev_abs, Option.some.injEq, exists_eq_left', List.getElem?_cons_zero, List.getElem?_cons_succ, List.set_cons_zero, List.set_cons_succ]
    exact fin _
  · rw [WS_seq]
    simp only [WS_if, W_B, W_f2, W_fA, W_cons, W_pur, W_var, vl, ev_iB, ev_toB, Option.some.injEq, exists_eq_left', List.getElem?_cons_zero, List.getElem?_cons_succ, List.set_cons_zero, List.set_cons_succ]
    refine WS_if' (fun hz => ?_) (fun hz => ?_)
    · have hz := of_decide_eq_true hz
      have hz' : 0 < ns.length := by omega
      have hm : k % ns.length < ns.length := Nat.mod_lt _ hz'
      have e : atI (ns.map D.int) ((k : Int) % (ns.length : Int)) = some (.int ns[k % ns.length]) := by
        have e1 : (k : Int) % (ns.length : Int) = ((k % ns.length : Nat) : Int) := by simp
        rw [e1]
        exact atI_nat (by rw [List.getElem?_map, List.getElem?_eq_getElem hm]; rfl)
      simp only [WS_seq (T := sNext), WS_set, WS_next, W_f2, W_fA, W_cons, W_pur, W_var, vl, ev_ix v, ev_mod hz, ev_mod hM, ev_mulR hC, ev_plus, e, ev_int, ev_abs, Option.some.injEq, exists_eq_left', List.getElem?_cons_zero, List.getElem?_cons_succ, List.set_cons_zero, List.set_cons_succ]
      exact fin _
    · simp only [WS_next]
      exact fin _
end Ms

end
section
set_option Elab.async false
set_option linter.all false
set_option maxRecDepth 100000
set_option maxHeartbeats 4000000
namespace K14
open PySem PySem.Spec PyProof.Rows L2 Ms
theorem W.eq {α : Type} {r : Res α} {x : α} {bx : Sto} (h : W r (fun a b => a = x ∧ b = bx) NoE) : r = .ok x bx := by
  cases r with
  | ok a b => obtain ⟨rfl, rfl⟩ := h; rfl
  | err _ _ _ => exact h.elim
  | bad => exact h.elim
theorem W.eqE {r : Res D} {c : Str} {x : D} {bx : Sto} (h : W r (fun _ _ => False) (fun c' d b => c' = c ∧ d = x ∧ b = bx)) : r = .err c x bx := by
  cases r with
  | ok a b => exact h.elim
  | err _ _ _ => obtain ⟨rfl, rfl, rfl⟩ := h; rfl
  | bad => exact h.elim
theorem m_int {d : D} {bx : Sto} (h : d.cl = true) : m_is_integer [d] bx = .ok (.bl (isI d)) bx := W.eq (by
  unfold m_is_integer S_is_integer N_is_integer
  simp only [WS_seq, WS_if, WS_set, WS_ret, WS_drop, WS_raise, WS_next, WS_unp, WS_par, WS_for, W_B, W_f1, W_f2, W_fA, W_cons, W_pur, W_var, W_not, W_ifT, W_ifB, W_call, W_callK, W_chain, W_wk, W_sl, W_po, W_poN, W_ok, W_err, W_noErr, W_fnD, ev_plus, ev_sub, ev_iB, ev_toB, ev_not, ev_neg, ev_isN, ev_notN, ev_isB, ev_int, ev_abs, ev_max, ev_min, ev_eqI, ev_neI, Ms.isNon, Option.some.injEq, exists_eq_left', List.getElem?_cons_zero, List.getElem?_cons_succ, List.set_cons_zero, List.set_cons_succ, List.map_cons, List.map_nil, List.cons_append, List.nil_append, List.length_cons, List.length_nil, List.reduceReplicate, Nat.reduceAdd, Nat.reduceSub, Bool.not_true, Bool.not_false, Bool.false_eq_true, Bool.true_eq_false, if_true, if_false, decide_true, decide_false, D.int.injEq, D.bl.injEq, D.ref.injEq, exists_and_left, isi_int h, isi_bool h]
  cases d <;> first | (cases h; done) | simp [WS_seq, WS_if, WS_set, WS_ret, WS_drop, WS_raise, WS_next, WS_unp, WS_par, WS_for, W_B, W_f1, W_f2, W_fA, W_cons, W_pur, W_var, W_not, W_ifT, W_ifB, W_call, W_callK, W_chain, W_wk, W_sl, W_po, W_poN, W_ok, W_err, W_noErr, W_fnD, ev_plus, ev_sub, ev_iB, ev_toB, ev_not, ev_neg, ev_isN, ev_notN, ev_isB, ev_int, ev_abs, ev_max, ev_min, ev_eqI, ev_neI, Ms.isNon, Option.some.injEq, exists_eq_left', List.getElem?_cons_zero, List.getElem?_cons_succ, List.set_cons_zero, List.set_cons_succ, List.map_cons, List.map_nil, List.cons_append, List.nil_append, List.length_cons, List.length_nil, List.reduceReplicate, Nat.reduceAdd, Nat.reduceSub, Bool.not_true, Bool.not_false, Bool.false_eq_true, Bool.true_eq_false, if_true, if_false, decide_true, decide_false, D.int.injEq, D.bl.injEq, D.ref.injEq, exists_and_left, isi_bool h, isI])
def inR : D → Int → Int → Bool
  | .int i, a, b => decide (a ≤ i) && decide (i ≤ b)
  | _, _, _ => false
theorem m_within {d : D} {a b : Int} {bx : Sto} (h : d.cl = true) : m_is_within [d, .int a, .int b] bx = .ok (.bl (inR d a b)) bx := W.eq (by
  unfold m_is_within S_is_within N_is_within
  simp only [WS_seq, WS_if, WS_set, WS_ret, WS_drop, WS_raise, WS_next, WS_unp, WS_par, WS_for, W_B, W_f1, W_f2, W_fA, W_cons, W_pur, W_var, W_not, W_ifT, W_ifB, W_call, W_callK, W_chain, W_wk, W_sl, W_po, W_poN, W_ok, W_err, W_noErr, W_fnD, ev_plus, ev_sub, ev_iB, ev_toB, ev_not, ev_neg, ev_isN, ev_notN, ev_isB, ev_int, ev_abs, ev_max, ev_min, ev_eqI, ev_neI, Ms.isNon, Option.some.injEq, exists_eq_left', List.getElem?_cons_zero, List.getElem?_cons_succ, List.set_cons_zero, List.set_cons_succ, List.map_cons, List.map_nil, List.cons_append, List.nil_append, List.length_cons, List.length_nil, List.reduceReplicate, Nat.reduceAdd, Nat.reduceSub, Bool.not_true, Bool.not_false, Bool.false_eq_true, Bool.true_eq_false, if_true, if_false, decide_true, decide_false, D.int.injEq, D.bl.injEq, D.ref.injEq, exists_and_left, m_int h]
  cases d with
  | int i =>
    by_cases q : a ≤ i
    · simp [WS_seq, WS_if, WS_set, WS_ret, WS_drop, WS_raise, WS_next, WS_unp, WS_par, WS_for, W_B, W_f1, W_f2, W_fA, W_cons, W_pur, W_var, W_not, W_ifT, W_ifB, W_call, W_callK, W_chain, W_wk, W_sl, W_po, W_poN, W_ok, W_err, W_noErr, W_fnD, ev_plus, ev_sub, ev_iB, ev_toB, ev_not, ev_neg, ev_isN, ev_notN, ev_isB, ev_int, ev_abs, ev_max, ev_min, ev_eqI, ev_neI, Ms.isNon, Option.some.injEq, exists_eq_left', List.getElem?_cons_zero, List.getElem?_cons_succ, List.set_cons_zero, List.set_cons_succ, List.map_cons, List.map_nil, List.cons_append, List.nil_append, List.length_cons, List.length_nil, List.reduceReplicate, Nat.reduceAdd, Nat.reduceSub, Bool.not_true, Bool.not_false, Bool.false_eq_true, Bool.true_eq_false, if_true, if_false, decide_true, decide_false, D.int.injEq, D.bl.injEq, D.ref.injEq, exists_and_left, isI, inR, q]
      try (intros; omega)
    · simp [WS_seq, WS_if, WS_set, WS_ret, WS_drop, WS_raise, WS_next, WS_unp, WS_par, WS_for, W_B, W_f1, W_f2, W_fA, W_cons, W_pur, W_var, W_not, W_ifT, W_ifB, W_call, W_callK, W_chain, W_wk, W_sl, W_po, W_poN, W_ok, W_err, W_noErr, W_fnD, ev_plus, ev_sub, ev_iB, ev_toB, ev_not, ev_neg, ev_isN, ev_notN, ev_isB, ev_int, ev_abs, ev_max, ev_min, ev_eqI, ev_neI, Ms.isNon, Option.some.injEq, exists_eq_left', List.getElem?_cons_zero, List.getElem?_cons_succ, List.set_cons_zero, List.set_cons_succ, List.map_cons, List.map_nil, List.cons_append, List.nil_append, List.length_cons, List.length_nil, List.reduceReplicate, Nat.reduceAdd, Nat.reduceSub, Bool.not_true, Bool.not_false, Bool.false_eq_true, Bool.true_eq_false, if_true, if_false, decide_true, decide_false, D.int.injEq, D.bl.injEq, D.ref.injEq, exists_and_left, isI, inR, q]
  | _ => first | (cases h; done) | simp [WS_seq, WS_if, WS_set, WS_ret, WS_drop, WS_raise, WS_next, WS_unp, WS_par, WS_for, W_B, W_f1, W_f2, W_fA, W_cons, W_pur, W_var, W_not, W_ifT, W_ifB, W_call, W_callK, W_chain, W_wk, W_sl, W_po, W_poN, W_ok, W_err, W_noErr, W_fnD, ev_plus, ev_sub, ev_iB, ev_toB, ev_not, ev_neg, ev_isN, ev_notN, ev_isB, ev_int, ev_abs, ev_max, ev_min, ev_eqI, ev_neI, Ms.isNon, Option.some.injEq, exists_eq_left', List.getElem?_cons_zero, List.getElem?_cons_succ, List.set_cons_zero, List.set_cons_succ, List.map_cons, List.map_nil, List.cons_append, List.nil_append, List.length_cons, List.length_nil, List.reduceReplicate, Nat.reduceAdd, Nat.reduceSub, Bool.not_true, Bool.not_false, Bool.false_eq_true, Bool.true_eq_false, if_true, if_false, decide_true, decide_false, D.int.injEq, D.bl.injEq, D.ref.injEq, exists_and_left, isI, inR])
theorem m_below {d : D} {b : Int} {bx : Sto} (h : d.cl = true) : m_is_below [d, .int b] bx = .ok (.bl (inR d 0 (b - 1))) bx := W.eq (by
  unfold m_is_below S_is_below N_is_below
  simp only [WS_seq, WS_if, WS_set, WS_ret, WS_drop, WS_raise, WS_next, WS_unp, WS_par, WS_for, W_B, W_f1, W_f2, W_fA, W_cons, W_pur, W_var, W_not, W_ifT, W_ifB, W_call, W_callK, W_chain, W_wk, W_sl, W_po, W_poN, W_ok, W_err, W_noErr, W_fnD, ev_plus, ev_sub, ev_iB, ev_toB, ev_not, ev_neg, ev_isN, ev_notN, ev_isB, ev_int, ev_abs, ev_max, ev_min, ev_eqI, ev_neI, Ms.isNon, Option.some.injEq, exists_eq_left', List.getElem?_cons_zero, List.getElem?_cons_succ, List.set_cons_zero, List.set_cons_succ, List.map_cons, List.map_nil, List.cons_append, List.nil_append, List.length_cons, List.length_nil, List.reduceReplicate, Nat.reduceAdd, Nat.reduceSub, Bool.not_true, Bool.not_false, Bool.false_eq_true, Bool.true_eq_false, if_true, if_false, decide_true, decide_false, D.int.injEq, D.bl.injEq, D.ref.injEq, exists_and_left, m_int h]
  cases d with
  | int i =>
    have e : decide (i ≤ b - 1) = decide (i < b) := by congr 1; exact propext ⟨fun h => by omega, fun h => by omega⟩
    by_cases q : 0 ≤ i
    · simp [WS_seq, WS_if, WS_set, WS_ret, WS_drop, WS_raise, WS_next, WS_unp, WS_par, WS_for, W_B, W_f1, W_f2, W_fA, W_cons, W_pur, W_var, W_not, W_ifT, W_ifB, W_call, W_callK, W_chain, W_wk, W_sl, W_po, W_poN, W_ok, W_err, W_noErr, W_fnD, ev_plus, ev_sub, ev_iB, ev_toB, ev_not, ev_neg, ev_isN, ev_notN, ev_isB, ev_int, ev_abs, ev_max, ev_min, ev_eqI, ev_neI, Ms.isNon, Option.some.injEq, exists_eq_left', List.getElem?_cons_zero, List.getElem?_cons_succ, List.set_cons_zero, List.set_cons_succ, List.map_cons, List.map_nil, List.cons_append, List.nil_append, List.length_cons, List.length_nil, List.reduceReplicate, Nat.reduceAdd, Nat.reduceSub, Bool.not_true, Bool.not_false, Bool.false_eq_true, Bool.true_eq_false, if_true, if_false, decide_true, decide_false, D.int.injEq, D.bl.injEq, D.ref.injEq, exists_and_left, isI, inR, q, e]
      try (intros; omega)
    · simp [WS_seq, WS_if, WS_set, WS_ret, WS_drop, WS_raise, WS_next, WS_unp, WS_par, WS_for, W_B, W_f1, W_f2, W_fA, W_cons, W_pur, W_var, W_not, W_ifT, W_ifB, W_call, W_callK, W_chain, W_wk, W_sl, W_po, W_poN, W_ok, W_err, W_noErr, W_fnD, ev_plus, ev_sub, ev_iB, ev_toB, ev_not, ev_neg, ev_isN, ev_notN, ev_isB, ev_int, ev_abs, ev_max, ev_min, ev_eqI, ev_neI, Ms.isNon, Option.some.injEq, exists_eq_left', List.getElem?_cons_zero, List.getElem?_cons_succ, List.set_cons_zero, List.set_cons_succ, List.map_cons, List.map_nil, List.cons_append, List.nil_append, List.length_cons, List.length_nil, List.reduceReplicate, Nat.reduceAdd, Nat.reduceSub, Bool.not_true, Bool.not_false, Bool.false_eq_true, Bool.true_eq_false, if_true, if_false, decide_true, decide_false, D.int.injEq, D.bl.injEq, D.ref.injEq, exists_and_left, isI, inR, q, e]
  | _ => first | (cases h; done) | simp [WS_seq, WS_if, WS_set, WS_ret, WS_drop, WS_raise, WS_next, WS_unp, WS_par, WS_for, W_B, W_f1, W_f2, W_fA, W_cons, W_pur, W_var, W_not, W_ifT, W_ifB, W_call, W_callK, W_chain, W_wk, W_sl, W_po, W_poN, W_ok, W_err, W_noErr, W_fnD, ev_plus, ev_sub, ev_iB, ev_toB, ev_not, ev_neg, ev_isN, ev_notN, ev_isB, ev_int, ev_abs, ev_max, ev_min, ev_eqI, ev_neI, Ms.isNon, Option.some.injEq, exists_eq_left', List.getElem?_cons_zero, List.getElem?_cons_succ, List.set_cons_zero, List.set_cons_succ, List.map_cons, List.map_nil, List.cons_append, List.nil_append, List.length_cons, List.length_nil, List.reduceReplicate, Nat.reduceAdd, Nat.reduceSub, Bool.not_true, Bool.not_false, Bool.false_eq_true, Bool.true_eq_false, if_true, if_false, decide_true, decide_false, D.int.injEq, D.bl.injEq, D.ref.injEq, exists_and_left, isI, inR])
theorem m_seq {d : D} {bx : Sto} (h : d.cl = true) : m_is_sequence [d] bx = .ok (.bl (isS d)) bx := W.eq (by
  unfold m_is_sequence S_is_sequence N_is_sequence
  simp only [WS_seq, WS_if, WS_set, WS_ret, WS_drop, WS_raise, WS_next, WS_unp, WS_par, WS_for, W_B, W_f1, W_f2, W_fA, W_cons, W_pur, W_var, W_not, W_ifT, W_ifB, W_call, W_callK, W_chain, W_wk, W_sl, W_po, W_poN, W_ok, W_err, W_noErr, W_fnD, ev_plus, ev_sub, ev_iB, ev_toB, ev_not, ev_neg, ev_isN, ev_notN, ev_isB, ev_int, ev_abs, ev_max, ev_min, ev_eqI, ev_neI, Ms.isNon, Option.some.injEq, exists_eq_left', List.getElem?_cons_zero, List.getElem?_cons_succ, List.set_cons_zero, List.set_cons_succ, List.map_cons, List.map_nil, List.cons_append, List.nil_append, List.length_cons, List.length_nil, List.reduceReplicate, Nat.reduceAdd, Nat.reduceSub, Bool.not_true, Bool.not_false, Bool.false_eq_true, Bool.true_eq_false, if_true, if_false, decide_true, decide_false, D.int.injEq, D.bl.injEq, D.ref.injEq, exists_and_left, isi_seq h]
  simp [WS_seq, WS_if, WS_set, WS_ret, WS_drop, WS_raise, WS_next, WS_unp, WS_par, WS_for, W_B, W_f1, W_f2, W_fA, W_cons, W_pur, W_var, W_not, W_ifT, W_ifB, W_call, W_callK, W_chain, W_wk, W_sl, W_po, W_poN, W_ok, W_err, W_noErr, W_fnD, ev_plus, ev_sub, ev_iB, ev_toB, ev_not, ev_neg, ev_isN, ev_notN, ev_isB, ev_int, ev_abs, ev_max, ev_min, ev_eqI, ev_neI, Ms.isNon, Option.some.injEq, exists_eq_left', List.getElem?_cons_zero, List.getElem?_cons_succ, List.set_cons_zero, List.set_cons_succ, List.map_cons, List.map_nil, List.cons_append, List.nil_append, List.length_cons, List.length_nil, List.reduceReplicate, Nat.reduceAdd, Nat.reduceSub, Bool.not_true, Bool.not_false, Bool.false_eq_true, Bool.true_eq_false, if_true, if_false, decide_true, decide_false, D.int.injEq, D.bl.injEq, D.ref.injEq, exists_and_left])
def hasP : D → Nat → Bool
  | .lst l, n => l.length == n
  | .tup l, n => l.length == n
  | _, _ => false
theorem eNat (a b : Nat) : ((a : Int) == (b : Int)) = (a == b) := by
  rw [Bool.eq_iff_iff, beq_iff_eq, beq_iff_eq]
  exact ⟨fun h => by omega, fun h => by omega⟩
theorem m_has {d : D} {n : Nat} {bx : Sto} (h : d.cl = true) : m_has_parts [d, .int n] bx = .ok (.bl (hasP d n)) bx := W.eq (by
  unfold m_has_parts S_has_parts N_has_parts
  simp only [WS_seq, WS_if, WS_set, WS_ret, WS_drop, WS_raise, WS_next, WS_unp, WS_par, WS_for, W_B, W_f1, W_f2, W_fA, W_cons, W_pur, W_var, W_not, W_ifT, W_ifB, W_call, W_callK, W_chain, W_wk, W_sl, W_po, W_poN, W_ok, W_err, W_noErr, W_fnD, ev_plus, ev_sub, ev_iB, ev_toB, ev_not, ev_neg, ev_isN, ev_notN, ev_isB, ev_int, ev_abs, ev_max, ev_min, ev_eqI, ev_neI, Ms.isNon, Option.some.injEq, exists_eq_left', List.getElem?_cons_zero, List.getElem?_cons_succ, List.set_cons_zero, List.set_cons_succ, List.map_cons, List.map_nil, List.cons_append, List.nil_append, List.length_cons, List.length_nil, List.reduceReplicate, Nat.reduceAdd, Nat.reduceSub, Bool.not_true, Bool.not_false, Bool.false_eq_true, Bool.true_eq_false, if_true, if_false, decide_true, decide_false, D.int.injEq, D.bl.injEq, D.ref.injEq, exists_and_left, m_seq h]
  cases d <;> first
    | (cases h; done)
    | simp [WS_seq, WS_if, WS_set, WS_ret, WS_drop, WS_raise, WS_next, WS_unp, WS_par, WS_for, W_B, W_f1, W_f2, W_fA, W_cons, W_pur, W_var, W_not, W_ifT, W_ifB, W_call, W_callK, W_chain, W_wk, W_sl, W_po, W_poN, W_ok, W_err, W_noErr, W_fnD, ev_plus, ev_sub, ev_iB, ev_toB, ev_not, ev_neg, ev_isN, ev_notN, ev_isB, ev_int, ev_abs, ev_max, ev_min, ev_eqI, ev_neI, Ms.isNon, Option.some.injEq, exists_eq_left', List.getElem?_cons_zero, List.getElem?_cons_succ, List.set_cons_zero, List.set_cons_succ, List.map_cons, List.map_nil, List.cons_append, List.nil_append, List.length_cons, List.length_nil, List.reduceReplicate, Nat.reduceAdd, Nat.reduceSub, Bool.not_true, Bool.not_false, Bool.false_eq_true, Bool.true_eq_false, if_true, if_false, decide_true, decide_false, D.int.injEq, D.bl.injEq, D.ref.injEq, exists_and_left, isS, hasP, ev_len vs_lst, ev_len vs_tup, eNat])
def rngB (lo hi : D) (a b : Int) : Bool := match lo with | .int i => inR lo a b && inR hi i b | _ => false
theorem m_rng {lo hi : D} {a b : Int} {bx : Sto} (h1 : lo.cl = true) (h2 : hi.cl = true) : m__is_range [lo, hi, .int a, .int b] bx = .ok (.bl (rngB lo hi a b)) bx := W.eq (by
  unfold m__is_range S__is_range N__is_range
  simp only [WS_seq, WS_if, WS_set, WS_ret, WS_drop, WS_raise, WS_next, WS_unp, WS_par, WS_for, W_B, W_f1, W_f2, W_fA, W_cons, W_pur, W_var, W_not, W_ifT, W_ifB, W_call, W_callK, W_chain, W_wk, W_sl, W_po, W_poN, W_ok, W_err, W_noErr, W_fnD, ev_plus, ev_sub, ev_iB, ev_toB, ev_not, ev_neg, ev_isN, ev_notN, ev_isB, ev_int, ev_abs, ev_max, ev_min, ev_eqI, ev_neI, Ms.isNon, Option.some.injEq, exists_eq_left', List.getElem?_cons_zero, List.getElem?_cons_succ, List.set_cons_zero, List.set_cons_succ, List.map_cons, List.map_nil, List.cons_append, List.nil_append, List.length_cons, List.length_nil, List.reduceReplicate, Nat.reduceAdd, Nat.reduceSub, Bool.not_true, Bool.not_false, Bool.false_eq_true, Bool.true_eq_false, if_true, if_false, decide_true, decide_false, D.int.injEq, D.bl.injEq, D.ref.injEq, exists_and_left, m_within h1]
  cases lo with
  | int i => cases q : inR (.int i) a b <;> simp [WS_seq, WS_if, WS_set, WS_ret, WS_drop, WS_raise, WS_next, WS_unp, WS_par, WS_for, W_B, W_f1, W_f2, W_fA, W_cons, W_pur, W_var, W_not, W_ifT, W_ifB, W_call, W_callK, W_chain, W_wk, W_sl, W_po, W_poN, W_ok, W_err, W_noErr, W_fnD, ev_plus, ev_sub, ev_iB, ev_toB, ev_not, ev_neg, ev_isN, ev_notN, ev_isB, ev_int, ev_abs, ev_max, ev_min, ev_eqI, ev_neI, Ms.isNon, Option.some.injEq, exists_eq_left', List.getElem?_cons_zero, List.getElem?_cons_succ, List.set_cons_zero, List.set_cons_succ, List.map_cons, List.map_nil, List.cons_append, List.nil_append, List.length_cons, List.length_nil, List.reduceReplicate, Nat.reduceAdd, Nat.reduceSub, Bool.not_true, Bool.not_false, Bool.false_eq_true, Bool.true_eq_false, if_true, if_false, decide_true, decide_false, D.int.injEq, D.bl.injEq, D.ref.injEq, exists_and_left, m_within h2, rngB, q]
  | _ => first | (cases h1; done) | simp [WS_seq, WS_if, WS_set, WS_ret, WS_drop, WS_raise, WS_next, WS_unp, WS_par, WS_for, W_B, W_f1, W_f2, W_fA, W_cons, W_pur, W_var, W_not, W_ifT, W_ifB, W_call, W_callK, W_chain, W_wk, W_sl, W_po, W_poN, W_ok, W_err, W_noErr, W_fnD, ev_plus, ev_sub, ev_iB, ev_toB, ev_not, ev_neg, ev_isN, ev_notN, ev_isB, ev_int, ev_abs, ev_max, ev_min, ev_eqI, ev_neI, Ms.isNon, Option.some.injEq, exists_eq_left', List.getElem?_cons_zero, List.getElem?_cons_succ, List.set_cons_zero, List.set_cons_succ, List.map_cons, List.map_nil, List.cons_append, List.nil_append, List.length_cons, List.length_nil, List.reduceReplicate, Nat.reduceAdd, Nat.reduceSub, Bool.not_true, Bool.not_false, Bool.false_eq_true, Bool.true_eq_false, if_true, if_false, decide_true, decide_false, D.int.injEq, D.bl.injEq, D.ref.injEq, exists_and_left, rngB, inR])
end K14

end
section
set_option Elab.async false
set_option linter.all false
set_option maxRecDepth 100000
set_option maxHeartbeats 4000000
namespace K14
open PySem PySem.Spec PyProof.Rows L2 Ms
theorem pure_cl {d : D} (h : d.pure = true) : d.cl = true := by cases d <;> first | rfl | cases h
theorem pureAll_mem {d : D} : ∀ {l : List D}, D.pureAll l = true → d ∈ l → d.pure = true
  | x :: r, h, hd => by
    have h' := Bool.and_eq_true_iff.mp (show (x.pure && D.pureAll r) = true from h)
    rcases List.mem_cons.mp hd with rfl | hd
    · exact h'.1
    · exact pureAll_mem h'.2 hd
/-- six whole numbers are a source -/
def srcI (low high least most gap pause : Int) : Prop := 1 ≤ low ∧ low ≤ 100 ∧ low ≤ high ∧ high ≤ 100 ∧ 0 ≤ least ∧ least ≤ 1000 ∧ least ≤ most ∧ most ≤ 1000 ∧ 1 ≤ gap ∧ gap ≤ 1000 ∧ gap ≤ pause ∧ pause ≤ 1000 ∧ most - least < low * gap
theorem m_rngI {lo hi a b : Int} {bx : Sto} : m__is_range [.int lo, .int hi, .int a, .int b] bx = .ok (.bl (rngB (.int lo) (.int hi) a b)) bx := m_rng rfl rfl
def Six (s : D) (low high least most gap pause : Int) : Prop := s = .tup [.int low, .int high, .int least, .int most, .int gap, .int pause] ∨ s = .lst [.int low, .int high, .int least, .int most, .int gap, .int pause]
theorem src_ok {s : D} {low high least most gap pause : Int} (hs : Six s low high least most gap pause) (h : srcI low high least most gap pause) (bx : Sto) : m_is_source [s] bx = .ok (.bl true) bx := W.eq (by
  obtain ⟨a1, a2, a3, a4, b1, b2, b3, b4, c1, c2, c3, c4, d⟩ := h
  have g : -(2 ^ 64) < low ∧ low < 2 ^ 64 := by omega
  have e : m_has_parts [s, .int (6 : Nat)] bx = .ok (.bl true) bx := by
    rcases hs with rfl | rfl <;> exact m_has rfl
  have e' : m_has_parts [s, .int 6] bx = .ok (.bl true) bx := e
  unfold m_is_source S_is_source N_is_source
  rcases hs with rfl | rfl <;>
  · simp only [WS_seq, WS_if, WS_set, WS_ret, WS_drop, WS_raise, WS_next, WS_unp, WS_par, WS_for, W_B, W_f1, W_f2, W_fA, W_cons, W_pur, W_var, W_not, W_ifT, W_ifB, W_call, W_callK, W_chain, W_wk, W_sl, W_po, W_poN, W_ok, W_err, W_noErr, W_fnD, ev_plus, ev_sub, ev_iB, ev_toB, ev_not, ev_neg, ev_isN, ev_notN, ev_isB, ev_int, ev_abs, ev_max, ev_min, ev_eqI, ev_neI, Ms.isNon, Option.some.injEq, exists_eq_left', List.getElem?_cons_zero, List.getElem?_cons_succ, List.set_cons_zero, List.set_cons_succ, List.map_cons, List.map_nil, List.cons_append, List.nil_append, List.length_cons, List.length_nil, List.reduceReplicate, Nat.reduceAdd, Nat.reduceSub, Bool.not_true, Bool.not_false, Bool.false_eq_true, Bool.true_eq_false, if_true, if_false, decide_true, decide_false, D.int.injEq, D.bl.injEq, D.ref.injEq, exists_and_left, e', vs_tup, vs_lst, Option.bind_some, setAll, m_rngI, rngB, inR, a1, a2, a3, a4, b1, b2, b3, b4, c1, c2, c3, c4, ev_mulL g, d, Bool.and_self]
    simp)
theorem src_bad {s : D} (h : s.cl = true) (h2 : hasP s 6 = false) (bx : Sto) : m_is_source [s] bx = .ok (.bl false) bx := W.eq (by
  have e : m_has_parts [s, .int (6 : Nat)] bx = .ok (.bl false) bx := by rw [m_has h, h2]
  have e' : m_has_parts [s, .int 6] bx = .ok (.bl false) bx := e
  unfold m_is_source S_is_source N_is_source
  simp only [WS_seq, WS_if, WS_set, WS_ret, WS_drop, WS_raise, WS_next, WS_unp, WS_par, WS_for, W_B, W_f1, W_f2, W_fA, W_cons, W_pur, W_var, W_not, W_ifT, W_ifB, W_call, W_callK, W_chain, W_wk, W_sl, W_po, W_poN, W_ok, W_err, W_noErr, W_fnD, ev_plus, ev_sub, ev_iB, ev_toB, ev_not, ev_neg, ev_isN, ev_notN, ev_isB, ev_int, ev_abs, ev_max, ev_min, ev_eqI, ev_neI, Ms.isNon, Option.some.injEq, exists_eq_left', List.getElem?_cons_zero, List.getElem?_cons_succ, List.set_cons_zero, List.set_cons_succ, List.map_cons, List.map_nil, List.cons_append, List.nil_append, List.length_cons, List.length_nil, List.reduceReplicate, Nat.reduceAdd, Nat.reduceSub, Bool.not_true, Bool.not_false, Bool.false_eq_true, Bool.true_eq_false, if_true, if_false, decide_true, decide_false, D.int.injEq, D.bl.injEq, D.ref.injEq, exists_and_left, e']
  simp)
theorem needS {s : D} {bx : Sto} (h : m_is_source [s] bx = .ok (.bl true) bx) : m__need_source [s] bx = .ok .non bx := W.eq (by
  unfold m__need_source S__need_source N__need_source
  simp only [WS_seq, WS_if, WS_set, WS_ret, WS_drop, WS_raise, WS_next, WS_unp, WS_par, WS_for, W_B, W_f1, W_f2, W_fA, W_cons, W_pur, W_var, W_not, W_ifT, W_ifB, W_call, W_callK, W_chain, W_wk, W_sl, W_po, W_poN, W_ok, W_err, W_noErr, W_fnD, ev_plus, ev_sub, ev_iB, ev_toB, ev_not, ev_neg, ev_isN, ev_notN, ev_isB, ev_int, ev_abs, ev_max, ev_min, ev_eqI, ev_neI, Ms.isNon, Option.some.injEq, exists_eq_left', List.getElem?_cons_zero, List.getElem?_cons_succ, List.set_cons_zero, List.set_cons_succ, List.map_cons, List.map_nil, List.cons_append, List.nil_append, List.length_cons, List.length_nil, List.reduceReplicate, Nat.reduceAdd, Nat.reduceSub, Bool.not_true, Bool.not_false, Bool.false_eq_true, Bool.true_eq_false, if_true, if_false, decide_true, decide_false, D.int.injEq, D.bl.injEq, D.ref.injEq, exists_and_left, h]
  simp)
theorem needS' {s : D} {bx : Sto} (h : m_is_source [s] bx = .ok (.bl false) bx) : m__need_source [s] bx = .err "Refused" s bx := W.eqE (by
  unfold m__need_source S__need_source N__need_source
  simp only [WS_seq, WS_if, WS_set, WS_ret, WS_drop, WS_raise, WS_next, WS_unp, WS_par, WS_for, W_B, W_f1, W_f2, W_fA, W_cons, W_pur, W_var, W_not, W_ifT, W_ifB, W_call, W_callK, W_chain, W_wk, W_sl, W_po, W_poN, W_ok, W_err, W_noErr, W_fnD, ev_plus, ev_sub, ev_iB, ev_toB, ev_not, ev_neg, ev_isN, ev_notN, ev_isB, ev_int, ev_abs, ev_max, ev_min, ev_eqI, ev_neI, Ms.isNon, Option.some.injEq, exists_eq_left', List.getElem?_cons_zero, List.getElem?_cons_succ, List.set_cons_zero, List.set_cons_succ, List.map_cons, List.map_nil, List.cons_append, List.nil_append, List.length_cons, List.length_nil, List.reduceReplicate, Nat.reduceAdd, Nat.reduceSub, Bool.not_true, Bool.not_false, Bool.false_eq_true, Bool.true_eq_false, if_true, if_false, decide_true, decide_false, D.int.injEq, D.bl.injEq, D.ref.injEq, exists_and_left, h]
  simp)
/-! ### marks -/
def isMkL : List D → Bool
  | [a, b] => inR a 0 255 && inR b 0 1000000
  | _ => false
def isMk : D → Bool
  | .tup l => isMkL l
  | .lst l => isMkL l
  | _ => false
theorem mk_eq {d : D} {bx : Sto} (h : d.pure = true) : m__is_mark [d] bx = .ok (.bl (isMk d)) bx := W.eq (by
  have e : m_has_parts [d, .int (2 : Nat)] bx = .ok (.bl (hasP d 2)) bx := m_has (pure_cl h)
  have e' : m_has_parts [d, .int 2] bx = .ok (.bl (hasP d 2)) bx := e
  have key : ∀ l, D.pureAll l = true → (d = .tup l ∨ d = .lst l) → W (m__is_mark [d] bx) (fun a b => a = .bl (isMkL l) ∧ b = bx) NoE := fun l hl hd => by
    unfold m__is_mark S__is_mark N__is_mark
    have hv : vs bx d = some l := by rcases hd with rfl | rfl <;> rfl
    match l, hl with
    | [a, b], hl =>
      have ha := pure_cl (pureAll_mem hl (d := a) (by simp))
      have hb := pure_cl (pureAll_mem hl (d := b) (by simp))
      have hp : hasP d 2 = true := by rcases hd with rfl | rfl <;> rfl
      have a0 : atI [a, b] 0 = some a := rfl
      have a1 : atI [a, b] 1 = some b := rfl
      simp only [WS_seq, WS_if, WS_set, WS_ret, WS_drop, WS_raise, WS_next, WS_unp, WS_par, WS_for, W_B, W_f1, W_f2, W_fA, W_cons, W_pur, W_var, W_not, W_ifT, W_ifB, W_call, W_callK, W_chain, W_wk, W_sl, W_po, W_poN, W_ok, W_err, W_noErr, W_fnD, ev_plus, ev_sub, ev_iB, ev_toB, ev_not, ev_neg, ev_isN, ev_notN, ev_isB, ev_int, ev_abs, ev_max, ev_min, ev_eqI, ev_neI, Ms.isNon, Option.some.injEq, exists_eq_left', List.getElem?_cons_zero, List.getElem?_cons_succ, List.set_cons_zero, List.set_cons_succ, List.map_cons, List.map_nil, List.cons_append, List.nil_append, List.length_cons, List.length_nil, List.reduceReplicate, Nat.reduceAdd, Nat.reduceSub, Bool.not_true, Bool.not_false, Bool.false_eq_true, Bool.true_eq_false, if_true, if_false, decide_true, decide_false, D.int.injEq, D.bl.injEq, D.ref.injEq, exists_and_left, e', hp, ev_ix hv, a0, a1, m_below ha, m_within hb, isMkL]
      cases q : inR a 0 255 <;> simp [WS_seq, WS_if, WS_set, WS_ret, WS_drop, WS_raise, WS_next, WS_unp, WS_par, WS_for, W_B, W_f1, W_f2, W_fA, W_cons, W_pur, W_var, W_not, W_ifT, W_ifB, W_call, W_callK, W_chain, W_wk, W_sl, W_po, W_poN, W_ok, W_err, W_noErr, W_fnD, ev_plus, ev_sub, ev_iB, ev_toB, ev_not, ev_neg, ev_isN, ev_notN, ev_isB, ev_int, ev_abs, ev_max, ev_min, ev_eqI, ev_neI, Ms.isNon, Option.some.injEq, exists_eq_left', List.getElem?_cons_zero, List.getElem?_cons_succ, List.set_cons_zero, List.set_cons_succ, List.map_cons, List.map_nil, List.cons_append, List.nil_append, List.length_cons, List.length_nil, List.reduceReplicate, Nat.reduceAdd, Nat.reduceSub, Bool.not_true, Bool.not_false, Bool.false_eq_true, Bool.true_eq_false, if_true, if_false, decide_true, decide_false, D.int.injEq, D.bl.injEq, D.ref.injEq, exists_and_left, q, ev_ix hv, a1, m_within hb]
    | [], _ =>
      have hp : hasP d 2 = false := by rcases hd with rfl | rfl <;> rfl
      simp [WS_seq, WS_if, WS_set, WS_ret, WS_drop, WS_raise, WS_next, WS_unp, WS_par, WS_for, W_B, W_f1, W_f2, W_fA, W_cons, W_pur, W_var, W_not, W_ifT, W_ifB, W_call, W_callK, W_chain, W_wk, W_sl, W_po, W_poN, W_ok, W_err, W_noErr, W_fnD, ev_plus, ev_sub, ev_iB, ev_toB, ev_not, ev_neg, ev_isN, ev_notN, ev_isB, ev_int, ev_abs, ev_max, ev_min, ev_eqI, ev_neI, Ms.isNon, Option.some.injEq, exists_eq_left', List.getElem?_cons_zero, List.getElem?_cons_succ, List.set_cons_zero, List.set_cons_succ, List.map_cons, List.map_nil, List.cons_append, List.nil_append, List.length_cons, List.length_nil, List.reduceReplicate, Nat.reduceAdd, Nat.reduceSub, Bool.not_true, Bool.not_false, Bool.false_eq_true, Bool.true_eq_false, if_true, if_false, decide_true, decide_false, D.int.injEq, D.bl.injEq, D.ref.injEq, exists_and_left, e', hp, isMkL]
    | [_], _ =>
      have hp : hasP d 2 = false := by rcases hd with rfl | rfl <;> rfl
      simp [WS_seq, WS_if, WS_set, WS_ret, WS_drop, WS_raise, WS_next, WS_unp, WS_par, WS_for, W_B, W_f1, W_f2, W_fA, W_cons, W_pur, W_var, W_not, W_ifT, W_ifB, W_call, W_callK, W_chain, W_wk, W_sl, W_po, W_poN, W_ok, W_err, W_noErr, W_fnD, ev_plus, ev_sub, ev_iB, ev_toB, ev_not, ev_neg, ev_isN, ev_notN, ev_isB, ev_int, ev_abs, ev_max, ev_min, ev_eqI, ev_neI, Ms.isNon, Option.some.injEq, exists_eq_left', List.getElem?_cons_zero, List.getElem?_cons_succ, List.set_cons_zero, List.set_cons_succ, List.map_cons, List.map_nil, List.cons_append, List.nil_append, List.length_cons, List.length_nil, List.reduceReplicate, Nat.reduceAdd, Nat.reduceSub, Bool.not_true, Bool.not_false, Bool.false_eq_true, Bool.true_eq_false, if_true, if_false, decide_true, decide_false, D.int.injEq, D.bl.injEq, D.ref.injEq, exists_and_left, e', hp, isMkL]
    | a :: b :: c :: r, _ =>
      have hp : hasP d 2 = false := by rcases hd with rfl | rfl <;> simp [hasP]
      simp [WS_seq, WS_if, WS_set, WS_ret, WS_drop, WS_raise, WS_next, WS_unp, WS_par, WS_for, W_B, W_f1, W_f2, W_fA, W_cons, W_pur, W_var, W_not, W_ifT, W_ifB, W_call, W_callK, W_chain, W_wk, W_sl, W_po, W_poN, W_ok, W_err, W_noErr, W_fnD, ev_plus, ev_sub, ev_iB, ev_toB, ev_not, ev_neg, ev_isN, ev_notN, ev_isB, ev_int, ev_abs, ev_max, ev_min, ev_eqI, ev_neI, Ms.isNon, Option.some.injEq, exists_eq_left', List.getElem?_cons_zero, List.getElem?_cons_succ, List.set_cons_zero, List.set_cons_succ, List.map_cons, List.map_nil, List.cons_append, List.nil_append, List.length_cons, List.length_nil, List.reduceReplicate, Nat.reduceAdd, Nat.reduceSub, Bool.not_true, Bool.not_false, Bool.false_eq_true, Bool.true_eq_false, if_true, if_false, decide_true, decide_false, D.int.injEq, D.bl.injEq, D.ref.injEq, exists_and_left, e', hp, isMkL]
  cases d with
  | tup l => exact key l h (.inl rfl)
  | lst l => exact key l h (.inr rfl)
  | _ =>
    first
      | (cases h; done)
      | (unfold m__is_mark S__is_mark N__is_mark
         simp [WS_seq, WS_if, WS_set, WS_ret, WS_drop, WS_raise, WS_next, WS_unp, WS_par, WS_for, W_B, W_f1, W_f2, W_fA, W_cons, W_pur, W_var, W_not, W_ifT, W_ifB, W_call, W_callK, W_chain, W_wk, W_sl, W_po, W_poN, W_ok, W_err, W_noErr, W_fnD, ev_plus, ev_sub, ev_iB, ev_toB, ev_not, ev_neg, ev_isN, ev_notN, ev_isB, ev_int, ev_abs, ev_max, ev_min, ev_eqI, ev_neI, Ms.isNon, Option.some.injEq, exists_eq_left', List.getElem?_cons_zero, List.getElem?_cons_succ, List.set_cons_zero, List.set_cons_succ, List.map_cons, List.map_nil, List.cons_append, List.nil_append, List.length_cons, List.length_nil, List.reduceReplicate, Nat.reduceAdd, Nat.reduceSub, Bool.not_true, Bool.not_false, Bool.false_eq_true, Bool.true_eq_false, if_true, if_false, decide_true, decide_false, D.int.injEq, D.bl.injEq, D.ref.injEq, exists_and_left, e', hasP, isMk]))
theorem needM {d : D} {bx : Sto} (h : d.pure = true) (k : isMk d = true) : m__need_mark [d] bx = .ok .non bx := W.eq (by
  unfold m__need_mark S__need_mark N__need_mark
  simp only [WS_seq, WS_if, WS_set, WS_ret, WS_drop, WS_raise, WS_next, WS_unp, WS_par, WS_for, W_B, W_f1, W_f2, W_fA, W_cons, W_pur, W_var, W_not, W_ifT, W_ifB, W_call, W_callK, W_chain, W_wk, W_sl, W_po, W_poN, W_ok, W_err, W_noErr, W_fnD, ev_plus, ev_sub, ev_iB, ev_toB, ev_not, ev_neg, ev_isN, ev_notN, ev_isB, ev_int, ev_abs, ev_max, ev_min, ev_eqI, ev_neI, Ms.isNon, Option.some.injEq, exists_eq_left', List.getElem?_cons_zero, List.getElem?_cons_succ, List.set_cons_zero, List.set_cons_succ, List.map_cons, List.map_nil, List.cons_append, List.nil_append, List.length_cons, List.length_nil, List.reduceReplicate, Nat.reduceAdd, Nat.reduceSub, Bool.not_true, Bool.not_false, Bool.false_eq_true, Bool.true_eq_false, if_true, if_false, decide_true, decide_false, D.int.injEq, D.bl.injEq, D.ref.injEq, exists_and_left, mk_eq h, k]
  simp)
theorem needM' {d : D} {bx : Sto} (h : d.pure = true) (k : isMk d = false) : m__need_mark [d] bx = .err "Refused" d bx := W.eqE (by
  unfold m__need_mark S__need_mark N__need_mark
  simp only [WS_seq, WS_if, WS_set, WS_ret, WS_drop, WS_raise, WS_next, WS_unp, WS_par, WS_for, W_B, W_f1, W_f2, W_fA, W_cons, W_pur, W_var, W_not, W_ifT, W_ifB, W_call, W_callK, W_chain, W_wk, W_sl, W_po, W_poN, W_ok, W_err, W_noErr, W_fnD, ev_plus, ev_sub, ev_iB, ev_toB, ev_not, ev_neg, ev_isN, ev_notN, ev_isB, ev_int, ev_abs, ev_max, ev_min, ev_eqI, ev_neI, Ms.isNon, Option.some.injEq, exists_eq_left', List.getElem?_cons_zero, List.getElem?_cons_succ, List.set_cons_zero, List.set_cons_succ, List.map_cons, List.map_nil, List.cons_append, List.nil_append, List.length_cons, List.length_nil, List.reduceReplicate, Nat.reduceAdd, Nat.reduceSub, Bool.not_true, Bool.not_false, Bool.false_eq_true, Bool.true_eq_false, if_true, if_false, decide_true, decide_false, D.int.injEq, D.bl.injEq, D.ref.injEq, exists_and_left, mk_eq h, k]
  simp)
/-! ### counts -/
/-- the least whole number that is not below a part -/
def up (a b : Int) : Int := -(-a / b)
theorem up_spec {a b : Int} (hb : 0 < b) : a ≤ b * up a b ∧ b * (up a b - 1) < a := by
  have h1 := Int.mul_ediv_add_emod (-a) b
  have h2 := Int.emod_nonneg (-a) (Int.ne_of_gt hb)
  have h3 := Int.emod_lt_of_pos (-a) hb
  have e : b * up a b = -(b * (-a / b)) := by unfold up; rw [Int.mul_neg]
  rw [Int.mul_sub, Int.mul_one]
  omega
theorem up_least {a b m : Int} (hb : 0 < b) : a ≤ b * m ↔ up a b ≤ m := by
  have h := up_spec (a := a) hb
  constructor
  · intro q
    have h3 : up a b - 1 < m := Int.lt_of_mul_lt_mul_left (Int.lt_of_lt_of_le h.2 q) (Int.le_of_lt hb)
    omega
  · intro q
    exact Int.le_trans h.1 (Int.mul_le_mul_of_nonneg_left q (Int.le_of_lt hb))
theorem up_pos {a b : Int} (hb : 0 < b) (ha : 0 < a) : 0 < up a b ∧ up a b ≤ a := by
  have h := up_spec (a := a) hb
  constructor
  · by_cases z : up a b ≤ 0
    · have : b * up a b ≤ 0 := by have := Int.mul_le_mul_of_nonneg_left z (Int.le_of_lt hb); simpa using this
      omega
    · omega
  · exact (up_least hb).mp (by have : 1 * a ≤ b * a := Int.mul_le_mul_of_nonneg_right hb (Int.le_of_lt ha); omega)
theorem r_up {a b : Int} (h1 : 0 < b) (h2 : b < 1073741824) (bx : Sto) : m_rounded_up [.int a, .int b] bx = .ok (.int (up a b)) bx := W.eq (by
  unfold m_rounded_up S_rounded_up N_rounded_up
  simp only [WS_seq, WS_if, WS_set, WS_ret, WS_drop, WS_raise, WS_next, WS_unp, WS_par, WS_for, W_B, W_f1, W_f2, W_fA, W_cons, W_pur, W_var, W_not, W_ifT, W_ifB, W_call, W_callK, W_chain, W_wk, W_sl, W_po, W_poN, W_ok, W_err, W_noErr, W_fnD, ev_plus, ev_sub, ev_iB, ev_toB, ev_not, ev_neg, ev_isN, ev_notN, ev_isB, ev_int, ev_abs, ev_max, ev_min, ev_eqI, ev_neI, Ms.isNon, Option.some.injEq, exists_eq_left', List.getElem?_cons_zero, List.getElem?_cons_succ, List.set_cons_zero, List.set_cons_succ, List.map_cons, List.map_nil, List.cons_append, List.nil_append, List.length_cons, List.length_nil, List.reduceReplicate, Nat.reduceAdd, Nat.reduceSub, Bool.not_true, Bool.not_false, Bool.false_eq_true, Bool.true_eq_false, if_true, if_false, decide_true, decide_false, D.int.injEq, D.bl.injEq, D.ref.injEq, exists_and_left, ev_div h1 h2, up, and_self])
def fst_ (pause n1 t1 n2 t2 : Int) : Int := up (t2 - t1) pause + (n2 - n1 - up (t2 - t1) pause) % 256
def Pr (d : D) (a b : Int) : Prop := d = .tup [.int a, .int b] ∨ d = .lst [.int a, .int b]
theorem Pr.ix0 {d : D} {a b : Int} {bx : Sto} (h : Pr d a b) : cIx bx d (.int 0) = some (.int a) := by rcases h with rfl | rfl <;> rfl
theorem Pr.ix1 {d : D} {a b : Int} {bx : Sto} (h : Pr d a b) : cIx bx d (.int 1) = some (.int b) := by rcases h with rfl | rfl <;> rfl
theorem Pr.pu {d : D} {a b : Int} (h : Pr d a b) : d.pure = true := by rcases h with rfl | rfl <;> rfl
theorem Pr.mk {d : D} {a b : Int} (h : Pr d a b) (h1 : 0 ≤ a) (h2 : a < 256) (h3 : 0 ≤ b) (h4 : b ≤ 1000000) : isMk d = true := by
  have : a ≤ 255 := by omega
  rcases h with rfl | rfl <;> simp [isMk, isMkL, inR, *]
theorem Six.ix4 {s : D} {low high least most gap pause : Int} {bx : Sto} (h : Six s low high least most gap pause) : cIx bx s (.int 4) = some (.int gap) := by rcases h with rfl | rfl <;> rfl
theorem Six.ix5 {s : D} {low high least most gap pause : Int} {bx : Sto} (h : Six s low high least most gap pause) : cIx bx s (.int 5) = some (.int pause) := by rcases h with rfl | rfl <;> rfl
section
variable {s one other : D} {low high least most gap pause n1 t1 n2 t2 : Int} (hs : Six s low high least most gap pause) (h : srcI low high least most gap pause)
include hs h in
theorem first_ok (h1 : Pr one n1 t1) (h2 : Pr other n2 t2) (bx : Sto) : m__first_count [s, one, other] bx = .ok (.int (fst_ pause n1 t1 n2 t2)) bx := W.eq (by
  obtain ⟨a1, a2, a3, a4, b1, b2, b3, b4, c1, c2, c3, c4, d⟩ := h
  unfold m__first_count S__first_count N__first_count
  simp only [WS_seq, WS_if, WS_set, WS_ret, WS_drop, WS_raise, WS_next, WS_unp, WS_par, WS_for, W_B, W_f1, W_f2, W_fA, W_cons, W_pur, W_var, W_not, W_ifT, W_ifB, W_call, W_callK, W_chain, W_wk, W_sl, W_po, W_poN, W_ok, W_err, W_noErr, W_fnD, ev_plus, ev_sub, ev_iB, ev_toB, ev_not, ev_neg, ev_isN, ev_notN, ev_isB, ev_int, ev_abs, ev_max, ev_min, ev_eqI, ev_neI, Ms.isNon, Option.some.injEq, exists_eq_left', List.getElem?_cons_zero, List.getElem?_cons_succ, List.set_cons_zero, List.set_cons_succ, List.map_cons, List.map_nil, List.cons_append, List.nil_append, List.length_cons, List.length_nil, List.reduceReplicate, Nat.reduceAdd, Nat.reduceSub, Bool.not_true, Bool.not_false, Bool.false_eq_true, Bool.true_eq_false, if_true, if_false, decide_true, decide_false, D.int.injEq, D.bl.injEq, D.ref.injEq, exists_and_left, hs.ix5, h1.ix0, h1.ix1, h2.ix0, h2.ix1, r_up (show 0 < pause by omega) (show pause < 1073741824 by omega), ev_mod (show (0 : Int) < 256 by decide), fst_, and_self])
include hs h in
theorem last_ok (h1 : Pr one n1 t1) (h2 : Pr other n2 t2) (bx : Sto) : m__last_count [s, one, other] bx = .ok (.int ((t2 - t1) / gap)) bx := W.eq (by
  obtain ⟨a1, a2, a3, a4, b1, b2, b3, b4, c1, c2, c3, c4, d⟩ := h
  unfold m__last_count S__last_count N__last_count
  simp only [WS_seq, WS_if, WS_set, WS_ret, WS_drop, WS_raise, WS_next, WS_unp, WS_par, WS_for, W_B, W_f1, W_f2, W_fA, W_cons, W_pur, W_var, W_not, W_ifT, W_ifB, W_call, W_callK, W_chain, W_wk, W_sl, W_po, W_poN, W_ok, W_err, W_noErr, W_fnD, ev_plus, ev_sub, ev_iB, ev_toB, ev_not, ev_neg, ev_isN, ev_notN, ev_isB, ev_int, ev_abs, ev_max, ev_min, ev_eqI, ev_neI, Ms.isNon, Option.some.injEq, exists_eq_left', List.getElem?_cons_zero, List.getElem?_cons_succ, List.set_cons_zero, List.set_cons_succ, List.map_cons, List.map_nil, List.cons_append, List.nil_append, List.length_cons, List.length_nil, List.reduceReplicate, Nat.reduceAdd, Nat.reduceSub, Bool.not_true, Bool.not_false, Bool.false_eq_true, Bool.true_eq_false, if_true, if_false, decide_true, decide_false, D.int.injEq, D.bl.injEq, D.ref.injEq, exists_and_left, hs.ix4, h1.ix1, h2.ix1, ev_div (show 0 < gap by omega) (show gap < 1073741824 by omega), and_self])
/-- every 256th number from a to b -/
def prog (a b : Int) : List D := (List.range (Builtin.Range.rangeSize a (b + 1) 256).toNat).map fun i => D.int (a + (i : Nat) * 256)
theorem tupRg {a b : Int} {bx : Sto} (h1 : -1 ≤ a) (h2 : a < 1000000) (h3 : -1 ≤ b) (h4 : b ≤ 200000) : cTupRg bx [.int a, .int (b + 1), .int 256] = some (.tup (prog a b)) := by
  have z : Builtin.Range.rangeSize a (b + 1) 256 ≤ 1000 := by
    unfold Builtin.Range.rangeSize
    simp only [gt_iff_lt, Int.reduceLT, if_true]
    split <;> omega
  unfold cTupRg
  dsimp only
  rw [if_pos (by refine ⟨by omega, by omega, by omega, by omega, by omega, by omega, z⟩)]
  rfl
theorem mem_prog {a b i : Int} : D.int i ∈ prog a b ↔ a ≤ i ∧ i ≤ b ∧ (i - a) % 256 = 0 := by
  have key : ∀ n : Nat, n < (Builtin.Range.rangeSize a (b + 1) 256).toNat ↔ a + n * 256 ≤ b := fun n => by
    unfold Builtin.Range.rangeSize
    simp only [gt_iff_lt, Int.reduceLT, if_true]
    split <;> omega
  unfold prog
  rw [List.mem_map]
  constructor
  · rintro ⟨n, hn, e⟩
    rw [List.mem_range, key] at hn
    cases e
    omega
  · rintro ⟨h1, h2, h3⟩
    refine ⟨((i - a) / 256).toNat, ?_, ?_⟩
    · rw [List.mem_range, key]
      omega
    · congr 1
      omega
theorem prog_int {a b : Int} {d : D} (h : d ∈ prog a b) : ∃ i, d = .int i := by
  unfold prog at h
  obtain ⟨n, _, rfl⟩ := List.mem_map.mp h
  exact ⟨_, rfl⟩
theorem fst_bd (hp : 0 < pause) (ht : t1 < t2) (h1 : 0 ≤ t1) (h2 : t2 ≤ 150000) : 0 < fst_ pause n1 t1 n2 t2 ∧ fst_ pause n1 t1 n2 t2 < 1000000 := by
  have u := up_pos (a := t2 - t1) hp (by omega)
  unfold fst_
  have := Int.emod_nonneg (n2 - n1 - up (t2 - t1) pause) (show (256 : Int) ≠ 0 by decide)
  have := Int.emod_lt_of_pos (n2 - n1 - up (t2 - t1) pause) (show (0 : Int) < 256 by decide)
  omega
theorem last_bd (hg : 0 < gap) (ht : t1 < t2) (h1 : 0 ≤ t1) (h2 : t2 ≤ 150000) : 0 ≤ (t2 - t1) / gap ∧ (t2 - t1) / gap ≤ 150000 := by
  refine ⟨Int.ediv_nonneg (by omega) (by omega), ?_⟩
  have := Int.ediv_le_self (a := t2 - t1) gap (by omega)
  omega
include hs h in
theorem cs_ok (h1 : Pr one n1 t1) (h2 : Pr other n2 t2) (ht : t1 < t2) (h5 : 0 ≤ t1) (h6 : t2 ≤ 150000) (bx : Sto) : m__counts [s, one, other] bx = .ok (.tup (prog (fst_ pause n1 t1 n2 t2) ((t2 - t1) / gap))) bx := W.eq (by
  have q := h
  obtain ⟨a1, a2, a3, a4, b1, b2, b3, b4, c1, c2, c3, c4, d⟩ := q
  have f := fst_bd (n1 := n1) (n2 := n2) (show 0 < pause by omega) ht h5 h6
  have l := last_bd (show 0 < gap by omega) ht h5 h6
  unfold m__counts S__counts N__counts
  simp only [WS_seq, WS_if, WS_set, WS_ret, WS_drop, WS_raise, WS_next, WS_unp, WS_par, WS_for, W_B, W_f1, W_f2, W_fA, W_cons, W_pur, W_var, W_not, W_ifT, W_ifB, W_call, W_callK, W_chain, W_wk, W_sl, W_po, W_poN, W_ok, W_err, W_noErr, W_fnD, ev_plus, ev_sub, ev_iB, ev_toB, ev_not, ev_neg, ev_isN, ev_notN, ev_isB, ev_int, ev_abs, ev_max, ev_min, ev_eqI, ev_neI, Ms.isNon, Option.some.injEq, exists_eq_left', List.getElem?_cons_zero, List.getElem?_cons_succ, List.set_cons_zero, List.set_cons_succ, List.map_cons, List.map_nil, List.cons_append, List.nil_append, List.length_cons, List.length_nil, List.reduceReplicate, Nat.reduceAdd, Nat.reduceSub, Bool.not_true, Bool.not_false, Bool.false_eq_true, Bool.true_eq_false, if_true, if_false, decide_true, decide_false, D.int.injEq, D.bl.injEq, D.ref.injEq, exists_and_left, first_ok hs h h1 h2, last_ok hs h h1 h2, tupRg (bx := bx) (show -1 ≤ fst_ pause n1 t1 n2 t2 by omega) f.2 (show -1 ≤ (t2 - t1) / gap by omega) (show (t2 - t1) / gap ≤ 200000 by omega), and_self])
include hs h in
theorem counts_ok (h1 : Pr one n1 t1) (h2 : Pr other n2 t2) (m1 : isMk one = true) (m2 : isMk other = true) (ht : t1 < t2) (h5 : 0 ≤ t1) (h6 : t2 ≤ 150000) (bx : Sto) :
    m_counts [s, one, other] bx = .ok (.tup (prog (fst_ pause n1 t1 n2 t2) ((t2 - t1) / gap))) bx := W.eq (by
  unfold m_counts S_counts N_counts
  simp only [WS_seq, WS_if, WS_set, WS_ret, WS_drop, WS_raise, WS_next, WS_unp, WS_par, WS_for, W_B, W_f1, W_f2, W_fA, W_cons, W_pur, W_var, W_not, W_ifT, W_ifB, W_call, W_callK, W_chain, W_wk, W_sl, W_po, W_poN, W_ok, W_err, W_noErr, W_fnD, ev_plus, ev_sub, ev_iB, ev_toB, ev_not, ev_neg, ev_isN, ev_notN, ev_isB, ev_int, ev_abs, ev_max, ev_min, ev_eqI, ev_neI, Ms.isNon, Option.some.injEq, exists_eq_left', List.getElem?_cons_zero, List.getElem?_cons_succ, List.set_cons_zero, List.set_cons_succ, List.map_cons, List.map_nil, List.cons_append, List.nil_append, List.length_cons, List.length_nil, List.reduceReplicate, Nat.reduceAdd, Nat.reduceSub, Bool.not_true, Bool.not_false, Bool.false_eq_true, Bool.true_eq_false, if_true, if_false, decide_true, decide_false, D.int.injEq, D.bl.injEq, D.ref.injEq, exists_and_left, needS (src_ok hs h bx), needM h1.pu m1, needM h2.pu m2, h1.ix1, h2.ix1, show ¬ t2 ≤ t1 by omega, cs_ok hs h h1 h2 ht h5 h6, and_self])
include hs h in
theorem ahead_ok (h1 : Pr one n1 t1) (m1 : isMk one = true) (h3 : 0 ≤ n1) (h4 : n1 < 256) (h5 : 0 ≤ t1) (h6 : t1 ≤ 150000) (bx : Sto) :
    m_ahead_counts [s, one] bx = .ok (.tup (prog n1 (t1 / gap))) bx := W.eq (by
  have q := h
  obtain ⟨a1, a2, a3, a4, b1, b2, b3, b4, c1, c2, c3, c4, d⟩ := q
  have l0 : 0 ≤ t1 / gap := Int.ediv_nonneg (by omega) (by omega)
  have l1 : t1 / gap ≤ t1 := Int.ediv_le_self (a := t1) gap h5
  unfold m_ahead_counts S_ahead_counts N_ahead_counts
  simp only [WS_seq, WS_if, WS_set, WS_ret, WS_drop, WS_raise, WS_next, WS_unp, WS_par, WS_for, W_B, W_f1, W_f2, W_fA, W_cons, W_pur, W_var, W_not, W_ifT, W_ifB, W_call, W_callK, W_chain, W_wk, W_sl, W_po, W_poN, W_ok, W_err, W_noErr, W_fnD, ev_plus, ev_sub, ev_iB, ev_toB, ev_not, ev_neg, ev_isN, ev_notN, ev_isB, ev_int, ev_abs, ev_max, ev_min, ev_eqI, ev_neI, Ms.isNon, Option.some.injEq, exists_eq_left', List.getElem?_cons_zero, List.getElem?_cons_succ, List.set_cons_zero, List.set_cons_succ, List.map_cons, List.map_nil, List.cons_append, List.nil_append, List.length_cons, List.length_nil, List.reduceReplicate, Nat.reduceAdd, Nat.reduceSub, Bool.not_true, Bool.not_false, Bool.false_eq_true, Bool.true_eq_false, if_true, if_false, decide_true, decide_false, D.int.injEq, D.bl.injEq, D.ref.injEq, exists_and_left, needS (src_ok hs h bx), needM h1.pu m1, h1.ix0, h1.ix1, hs.ix4, ev_div (show 0 < gap by omega) (show gap < 1073741824 by omega), tupRg (bx := bx) (show -1 ≤ n1 by omega) (show n1 < 1000000 by omega) (show -1 ≤ t1 / gap by omega) (show t1 / gap ≤ 200000 by omega), and_self])
end
end K14

end
section
set_option Elab.async false
set_option linter.all false
set_option maxRecDepth 100000
set_option maxHeartbeats 4000000
namespace K14
open PySem PySem.Spec PyProof.Rows L2 Ms
/-! ### in -/
def inP (a b i : Int) : Bool := (prog a b).any fun y => eqF y (.int i)
theorem inP_iff {a b i : Int} : inP a b i = true ↔ a ≤ i ∧ i ≤ b ∧ (i - a) % 256 = 0 := by
  rw [← mem_prog]
  unfold inP
  rw [List.any_eq_true]
  constructor
  · rintro ⟨d, hd, e⟩
    obtain ⟨j, rfl⟩ := prog_int hd
    have : j = i := by simpa [eqF] using e
    rw [← this]
    exact hd
  · intro h
    exact ⟨_, h, by simp [eqF]⟩
theorem prog_flat (a b : Int) : (prog a b).all D.flat = true := by
  rw [List.all_eq_true]
  intro d hd
  obtain ⟨i, rfl⟩ := prog_int hd
  rfl
theorem ev_in {neg : Bool} {a b i : Int} {bx : Sto} : cIn neg bx (.int i) (.tup (prog a b)) = some (.bl (if neg then !inP a b i else inP a b i)) := by
  unfold cIn
  simp only [vs_tup, prog_flat, D.flat, Bool.and_self, if_true]
  rfl
/-! ### runs that are told -/
def btAt (n1 t1 st c : Int) (a : Nat) : D := .tup [.int ((n1 + a) % 256), .int (t1 + st * a / c)]
def bt (n1 t1 st c : Int) : List D := (List.range (c + 1).toNat).map (btAt n1 t1 st c)
def rtAt (t1 gap c : Int) (a : Nat) : D := .tup [.int ((a : Int) % 256), .int (t1 - gap * (c - a))]
def rt (t1 gap c : Int) : List D := (List.range (c + 1).toNat).map (rtAt t1 gap c)
theorem rgl_map {n : Nat} {f : D → D} : (rgl 0 n).map f = (List.range n).map fun (a : Nat) => f (.int (a : Int)) := by
  unfold rgl
  rw [List.map_map]
  refine List.map_congr_left fun a _ => ?_
  simp
theorem rgl_mem {n : Nat} {d : D} (h : d ∈ rgl 0 n) : ∃ a : Nat, d = .int a ∧ a < n := by
  unfold rgl at h
  obtain ⟨a, ha, rfl⟩ := List.mem_map.mp h
  exact ⟨a, by simp, List.mem_range.mp ha⟩
theorem filt_true {l : List D} : l.filter (fun _ => true) = l := List.filter_eq_self.mpr fun _ _ => rfl
section
variable {s one other : D} {low high least most gap pause n1 t1 n2 t2 c : Int} (hs : Six s low high least most gap pause) (h : srcI low high least most gap pause)
include hs h in
theorem between_ok (h1 : Pr one n1 t1) (h2 : Pr other n2 t2) (m1 : isMk one = true) (m2 : isMk other = true) (ht : t1 < t2) (h5 : 0 ≤ t1) (h6 : t2 ≤ 150000) (hc : inP (fst_ pause n1 t1 n2 t2) ((t2 - t1) / gap) c = true) (bx : Sto) :
    m_run_between [s, one, other, .int c] bx = .ok (.tup (bt n1 t1 (t2 - t1) c)) bx := W.eq (by
  have q := h
  obtain ⟨a1, a2, a3, a4, b1, b2, b3, b4, c1, c2, c3, c4, d⟩ := q
  have f := fst_bd (n1 := n1) (n2 := n2) (show 0 < pause by omega) ht h5 h6
  have l := last_bd (show 0 < gap by omega) ht h5 h6
  have hc' := inP_iff.mp hc
  have c0 : 0 < c := by omega
  have c1' : c < 1073741824 := by omega
  unfold m_run_between S_run_between N_run_between
  simp only [WS_seq, WS_if, WS_set, WS_ret, WS_drop, WS_raise, WS_next, WS_unp, WS_par, WS_for, W_B, W_f1, W_f2, W_fA, W_cons, W_pur, W_var, W_not, W_ifT, W_ifB, W_call, W_callK, W_chain, W_wk, W_sl, W_po, W_poN, W_ok, W_err, W_noErr, W_fnD, ev_plus, ev_sub, ev_iB, ev_toB, ev_not, ev_neg, ev_isN, ev_notN, ev_isB, ev_int, ev_abs, ev_max, ev_min, ev_eqI, ev_neI, Ms.isNon, Option.some.injEq, exists_eq_left', List.getElem?_cons_zero, List.getElem?_cons_succ, List.set_cons_zero, List.set_cons_succ, List.map_cons, List.map_nil, List.cons_append, List.nil_append, List.length_cons, List.length_nil, List.reduceReplicate, Nat.reduceAdd, Nat.reduceSub, Bool.not_true, Bool.not_false, Bool.false_eq_true, Bool.true_eq_false, if_true, if_false, decide_true, decide_false, D.int.injEq, D.bl.injEq, D.ref.injEq, exists_and_left, counts_ok hs h h1 h2 m1 m2 ht h5 h6, m_int (d := .int c) rfl, isI, ev_in, hc, h2.ix1, h1.ix1, W_lc, W_lcA, W_rg1]
  refine ⟨c + 1, rfl, by omega, by omega, by rw [rgl_len]; omega, ?_⟩
  rw [lc_pure (c := fun _ => true) (f := fun d => match d with | .int a => .tup [.int ((n1 + a) % 256), .int (t1 + (t2 - t1) * a / c)] | d => d)]
  · simp only [W_ok, ev_tupOfL, List.nil_append, filt_true, Option.some.injEq, exists_eq_left', and_true]
    rw [rgl_map]
    rfl
  · intro d hd
    obtain ⟨a, rfl, ha⟩ := rgl_mem hd
    refine ⟨_, rfl, rfl, fun _ => W.eq ?_⟩
    simp only [WS_seq, WS_if, WS_set, WS_ret, WS_drop, WS_raise, WS_next, WS_unp, WS_par, WS_for, W_B, W_f1, W_f2, W_fA, W_cons, W_pur, W_var, W_not, W_ifT, W_ifB, W_call, W_callK, W_chain, W_wk, W_sl, W_po, W_poN, W_ok, W_err, W_noErr, W_fnD, ev_plus, ev_sub, ev_iB, ev_toB, ev_not, ev_neg, ev_isN, ev_notN, ev_isB, ev_int, ev_abs, ev_max, ev_min, ev_eqI, ev_neI, Ms.isNon, Option.some.injEq, exists_eq_left', List.getElem?_cons_zero, List.getElem?_cons_succ, List.set_cons_zero, List.set_cons_succ, List.map_cons, List.map_nil, List.cons_append, List.nil_append, List.length_cons, List.length_nil, List.reduceReplicate, Nat.reduceAdd, Nat.reduceSub, Bool.not_true, Bool.not_false, Bool.false_eq_true, Bool.true_eq_false, if_true, if_false, decide_true, decide_false, D.int.injEq, D.bl.injEq, D.ref.injEq, exists_and_left, unset, h1.ix0, h1.ix1, ev_mod (show (0 : Int) < 256 by decide), ev_mulL (show -(2 ^ 64) < t2 - t1 ∧ t2 - t1 < 2 ^ 64 by omega), ev_div c0 c1', ev_tup (show [D.int ((n1 + (a : Int)) % 256), D.int (t1 + (t2 - t1) * a / c)].length ≤ 1000 by show 2 ≤ 1000; decide), and_self])
include hs h in
theorem between_bad {x : D} (h1 : Pr one n1 t1) (h2 : Pr other n2 t2) (m1 : isMk one = true) (m2 : isMk other = true) (ht : t1 < t2) (h5 : 0 ≤ t1) (h6 : t2 ≤ 150000) (hx : x.cl = true) (hc : isI x = true → ∃ i, x = .int i ∧ inP (fst_ pause n1 t1 n2 t2) ((t2 - t1) / gap) i = false) (bx : Sto) :
    m_run_between [s, one, other, x] bx = .err "Refused" x bx := W.eqE (by
  unfold m_run_between S_run_between N_run_between
  simp only [WS_seq, WS_if, WS_set, WS_ret, WS_drop, WS_raise, WS_next, WS_unp, WS_par, WS_for, W_B, W_f1, W_f2, W_fA, W_cons, W_pur, W_var, W_not, W_ifT, W_ifB, W_call, W_callK, W_chain, W_wk, W_sl, W_po, W_poN, W_ok, W_err, W_noErr, W_fnD, ev_plus, ev_sub, ev_iB, ev_toB, ev_not, ev_neg, ev_isN, ev_notN, ev_isB, ev_int, ev_abs, ev_max, ev_min, ev_eqI, ev_neI, Ms.isNon, Option.some.injEq, exists_eq_left', List.getElem?_cons_zero, List.getElem?_cons_succ, List.set_cons_zero, List.set_cons_succ, List.map_cons, List.map_nil, List.cons_append, List.nil_append, List.length_cons, List.length_nil, List.reduceReplicate, Nat.reduceAdd, Nat.reduceSub, Bool.not_true, Bool.not_false, Bool.false_eq_true, Bool.true_eq_false, if_true, if_false, decide_true, decide_false, D.int.injEq, D.bl.injEq, D.ref.injEq, exists_and_left, counts_ok hs h h1 h2 m1 m2 ht h5 h6, m_int hx]
  cases hi : isI x with
  | false => simp only [WS_seq, WS_if, WS_set, WS_ret, WS_drop, WS_raise, WS_next, WS_unp, WS_par, WS_for, W_B, W_f1, W_f2, W_fA, W_cons, W_pur, W_var, W_not, W_ifT, W_ifB, W_call, W_callK, W_chain, W_wk, W_sl, W_po, W_poN, W_ok, W_err, W_noErr, W_fnD, ev_plus, ev_sub, ev_iB, ev_toB, ev_not, ev_neg, ev_isN, ev_notN, ev_isB, ev_int, ev_abs, ev_max, ev_min, ev_eqI, ev_neI, Ms.isNon, Option.some.injEq, exists_eq_left', List.getElem?_cons_zero, List.getElem?_cons_succ, List.set_cons_zero, List.set_cons_succ, List.map_cons, List.map_nil, List.cons_append, List.nil_append, List.length_cons, List.length_nil, List.reduceReplicate, Nat.reduceAdd, Nat.reduceSub, Bool.not_true, Bool.not_false, Bool.false_eq_true, Bool.true_eq_false, if_true, if_false, decide_true, decide_false, D.int.injEq, D.bl.injEq, D.ref.injEq, exists_and_left, and_self]
  | true =>
    obtain ⟨i, rfl, hc2⟩ := hc hi
    simp only [WS_seq, WS_if, WS_set, WS_ret, WS_drop, WS_raise, WS_next, WS_unp, WS_par, WS_for, W_B, W_f1, W_f2, W_fA, W_cons, W_pur, W_var, W_not, W_ifT, W_ifB, W_call, W_callK, W_chain, W_wk, W_sl, W_po, W_poN, W_ok, W_err, W_noErr, W_fnD, ev_plus, ev_sub, ev_iB, ev_toB, ev_not, ev_neg, ev_isN, ev_notN, ev_isB, ev_int, ev_abs, ev_max, ev_min, ev_eqI, ev_neI, Ms.isNon, Option.some.injEq, exists_eq_left', List.getElem?_cons_zero, List.getElem?_cons_succ, List.set_cons_zero, List.set_cons_succ, List.map_cons, List.map_nil, List.cons_append, List.nil_append, List.length_cons, List.length_nil, List.reduceReplicate, Nat.reduceAdd, Nat.reduceSub, Bool.not_true, Bool.not_false, Bool.false_eq_true, Bool.true_eq_false, if_true, if_false, decide_true, decide_false, D.int.injEq, D.bl.injEq, D.ref.injEq, exists_and_left, ev_in, hc2, and_self])
include hs h in
theorem to_ok (h1 : Pr one n1 t1) (m1 : isMk one = true) (h3 : 0 ≤ n1) (h4 : n1 < 256) (h5 : 0 ≤ t1) (h6 : t1 ≤ 150000) (hc : inP n1 (t1 / gap) c = true) (bx : Sto) : m_run_to [s, one, .int c] bx = .ok (.tup (rt t1 gap c)) bx := W.eq (by
  have q := h
  obtain ⟨a1, a2, a3, a4, b1, b2, b3, b4, c1, c2, c3, c4, d⟩ := q
  have l1 : t1 / gap ≤ t1 := Int.ediv_le_self (a := t1) gap h5
  have hc' := inP_iff.mp hc
  unfold m_run_to S_run_to N_run_to
  simp only [WS_seq, WS_if, WS_set, WS_ret, WS_drop, WS_raise, WS_next, WS_unp, WS_par, WS_for, W_B, W_f1, W_f2, W_fA, W_cons, W_pur, W_var, W_not, W_ifT, W_ifB, W_call, W_callK, W_chain, W_wk, W_sl, W_po, W_poN, W_ok, W_err, W_noErr, W_fnD, ev_plus, ev_sub, ev_iB, ev_toB, ev_not, ev_neg, ev_isN, ev_notN, ev_isB, ev_int, ev_abs, ev_max, ev_min, ev_eqI, ev_neI, Ms.isNon, Option.some.injEq, exists_eq_left', List.getElem?_cons_zero, List.getElem?_cons_succ, List.set_cons_zero, List.set_cons_succ, List.map_cons, List.map_nil, List.cons_append, List.nil_append, List.length_cons, List.length_nil, List.reduceReplicate, Nat.reduceAdd, Nat.reduceSub, Bool.not_true, Bool.not_false, Bool.false_eq_true, Bool.true_eq_false, if_true, if_false, decide_true, decide_false, D.int.injEq, D.bl.injEq, D.ref.injEq, exists_and_left, ahead_ok hs h h1 m1 h3 h4 h5 h6, m_int (d := .int c) rfl, isI, ev_in, hc, W_lc, W_lcA, W_rg1]
  refine ⟨c + 1, rfl, by omega, by omega, by rw [rgl_len]; omega, ?_⟩
  rw [lc_pure (c := fun _ => true) (f := fun d => match d with | .int a => .tup [.int (a % 256), .int (t1 - gap * (c - a))] | d => d)]
  · simp only [W_ok, ev_tupOfL, List.nil_append, filt_true, Option.some.injEq, exists_eq_left', and_true]
    rw [rgl_map]
    rfl
  · intro d hd
    obtain ⟨a, rfl, ha⟩ := rgl_mem hd
    refine ⟨_, rfl, rfl, fun _ => W.eq ?_⟩
    simp only [WS_seq, WS_if, WS_set, WS_ret, WS_drop, WS_raise, WS_next, WS_unp, WS_par, WS_for, W_B, W_f1, W_f2, W_fA, W_cons, W_pur, W_var, W_not, W_ifT, W_ifB, W_call, W_callK, W_chain, W_wk, W_sl, W_po, W_poN, W_ok, W_err, W_noErr, W_fnD, ev_plus, ev_sub, ev_iB, ev_toB, ev_not, ev_neg, ev_isN, ev_notN, ev_isB, ev_int, ev_abs, ev_max, ev_min, ev_eqI, ev_neI, Ms.isNon, Option.some.injEq, exists_eq_left', List.getElem?_cons_zero, List.getElem?_cons_succ, List.set_cons_zero, List.set_cons_succ, List.map_cons, List.map_nil, List.cons_append, List.nil_append, List.length_cons, List.length_nil, List.reduceReplicate, Nat.reduceAdd, Nat.reduceSub, Bool.not_true, Bool.not_false, Bool.false_eq_true, Bool.true_eq_false, if_true, if_false, decide_true, decide_false, D.int.injEq, D.bl.injEq, D.ref.injEq, exists_and_left, unset, h1.ix1, hs.ix4, ev_mod (show (0 : Int) < 256 by decide), ev_mulL (show -(2 ^ 64) < gap ∧ gap < 2 ^ 64 by omega), ev_tup (show [D.int ((a : Int) % 256), D.int (t1 - gap * (c - a))].length ≤ 1000 by show 2 ≤ 1000; decide), and_self])
include hs h in
theorem to_bad {x : D} (h1 : Pr one n1 t1) (m1 : isMk one = true) (h3 : 0 ≤ n1) (h4 : n1 < 256) (h5 : 0 ≤ t1) (h6 : t1 ≤ 150000) (hx : x.cl = true) (hc : isI x = true → ∃ i, x = .int i ∧ inP n1 (t1 / gap) i = false) (bx : Sto) : m_run_to [s, one, x] bx = .err "Refused" x bx := W.eqE (by
  unfold m_run_to S_run_to N_run_to
  simp only [WS_seq, WS_if, WS_set, WS_ret, WS_drop, WS_raise, WS_next, WS_unp, WS_par, WS_for, W_B, W_f1, W_f2, W_fA, W_cons, W_pur, W_var, W_not, W_ifT, W_ifB, W_call, W_callK, W_chain, W_wk, W_sl, W_po, W_poN, W_ok, W_err, W_noErr, W_fnD, ev_plus, ev_sub, ev_iB, ev_toB, ev_not, ev_neg, ev_isN, ev_notN, ev_isB, ev_int, ev_abs, ev_max, ev_min, ev_eqI, ev_neI, Ms.isNon, Option.some.injEq, exists_eq_left', List.getElem?_cons_zero, List.getElem?_cons_succ, List.set_cons_zero, List.set_cons_succ, List.map_cons, List.map_nil, List.cons_append, List.nil_append, List.length_cons, List.length_nil, List.reduceReplicate, Nat.reduceAdd, Nat.reduceSub, Bool.not_true, Bool.not_false, Bool.false_eq_true, Bool.true_eq_false, if_true, if_false, decide_true, decide_false, D.int.injEq, D.bl.injEq, D.ref.injEq, exists_and_left, ahead_ok hs h h1 m1 h3 h4 h5 h6, m_int hx]
  cases hi : isI x with
  | false => simp only [WS_seq, WS_if, WS_set, WS_ret, WS_drop, WS_raise, WS_next, WS_unp, WS_par, WS_for, W_B, W_f1, W_f2, W_fA, W_cons, W_pur, W_var, W_not, W_ifT, W_ifB, W_call, W_callK, W_chain, W_wk, W_sl, W_po, W_poN, W_ok, W_err, W_noErr, W_fnD, ev_plus, ev_sub, ev_iB, ev_toB, ev_not, ev_neg, ev_isN, ev_notN, ev_isB, ev_int, ev_abs, ev_max, ev_min, ev_eqI, ev_neI, Ms.isNon, Option.some.injEq, exists_eq_left', List.getElem?_cons_zero, List.getElem?_cons_succ, List.set_cons_zero, List.set_cons_succ, List.map_cons, List.map_nil, List.cons_append, List.nil_append, List.length_cons, List.length_nil, List.reduceReplicate, Nat.reduceAdd, Nat.reduceSub, Bool.not_true, Bool.not_false, Bool.false_eq_true, Bool.true_eq_false, if_true, if_false, decide_true, decide_false, D.int.injEq, D.bl.injEq, D.ref.injEq, exists_and_left, and_self]
  | true =>
    obtain ⟨i, rfl, hc2⟩ := hc hi
    simp only [WS_seq, WS_if, WS_set, WS_ret, WS_drop, WS_raise, WS_next, WS_unp, WS_par, WS_for, W_B, W_f1, W_f2, W_fA, W_cons, W_pur, W_var, W_not, W_ifT, W_ifB, W_call, W_callK, W_chain, W_wk, W_sl, W_po, W_poN, W_ok, W_err, W_noErr, W_fnD, ev_plus, ev_sub, ev_iB, ev_toB, ev_not, ev_neg, ev_isN, ev_notN, ev_isB, ev_int, ev_abs, ev_max, ev_min, ev_eqI, ev_neI, Ms.isNon, Option.some.injEq, exists_eq_left', List.getElem?_cons_zero, List.getElem?_cons_succ, List.set_cons_zero, List.set_cons_succ, List.map_cons, List.map_nil, List.cons_append, List.nil_append, List.length_cons, List.length_nil, List.reduceReplicate, Nat.reduceAdd, Nat.reduceSub, Bool.not_true, Bool.not_false, Bool.false_eq_true, Bool.true_eq_false, if_true, if_false, decide_true, decide_false, D.int.injEq, D.bl.injEq, D.ref.injEq, exists_and_left, ev_in, hc2, and_self])
end
/-! ### what a run is -/
def nt : D → Int × Int
  | .tup [.int a, .int b] => (a, b)
  | .lst [.int a, .int b] => (a, b)
  | _ => (0, 0)
theorem nt_pr {d : D} (h : isMk d = true) : Pr d (nt d).1 (nt d).2 ∧ 0 ≤ (nt d).1 ∧ (nt d).1 < 256 ∧ 0 ≤ (nt d).2 ∧ (nt d).2 ≤ 1000000 := by
  have key : ∀ l, isMkL l = true → ∃ a b, l = [.int a, .int b] ∧ 0 ≤ a ∧ a < 256 ∧ 0 ≤ b ∧ b ≤ 1000000 := fun l hl => by
    match l, hl with
    | [.int a, .int b], hl =>
      simp only [isMkL, inR, Bool.and_eq_true, decide_eq_true_eq] at hl
      exact ⟨a, b, rfl, by omega, by omega, by omega, by omega⟩
    | [.int a, .non], hl => simp [isMkL, inR] at hl
    | [.int a, .bl _], hl => simp [isMkL, inR] at hl
    | [.int a, .str _], hl => simp [isMkL, inR] at hl
    | [.int a, .lst _], hl => simp [isMkL, inR] at hl
    | [.int a, .tup _], hl => simp [isMkL, inR] at hl
    | [.int a, .ref _], hl => simp [isMkL, inR] at hl
    | [.int a, .fn _], hl => simp [isMkL, inR] at hl
    | [.int a, .scr _], hl => simp [isMkL, inR] at hl
    | [.non, _], hl => simp [isMkL, inR] at hl
    | [.bl _, _], hl => simp [isMkL, inR] at hl
    | [.str _, _], hl => simp [isMkL, inR] at hl
    | [.lst _, _], hl => simp [isMkL, inR] at hl
    | [.tup _, _], hl => simp [isMkL, inR] at hl
    | [.ref _, _], hl => simp [isMkL, inR] at hl
    | [.fn _, _], hl => simp [isMkL, inR] at hl
    | [.scr _, _], hl => simp [isMkL, inR] at hl
    | [], hl => simp [isMkL] at hl
    | [_], hl => simp [isMkL] at hl
    | _ :: _ :: _ :: _, hl => simp [isMkL] at hl
  cases d with
  | tup l =>
    obtain ⟨a, b, rfl, q⟩ := key l h
    exact ⟨.inl rfl, q⟩
  | lst l =>
    obtain ⟨a, b, rfl, q⟩ := key l h
    exact ⟨.inr rfl, q⟩
  | _ => cases h
def follow (gap pause : Int) (a b : Int × Int) : Bool := (b.1 == (a.1 + 1) % 256) && (decide (gap ≤ b.2 - a.2) && decide (b.2 - a.2 ≤ pause))
def steps (gap pause : Int) (l : List D) : Bool := (l.zip (l.drop 1)).all fun p => follow gap pause (nt p.1) (nt p.2)
def isRun (gap pause : Int) : D → Bool
  | .tup l => l.all isMk && steps gap pause l
  | .lst l => l.all isMk && steps gap pause l
  | _ => false
theorem follow_ok {s one other : D} {low high least most gap pause : Int} (hs : Six s low high least most gap pause) (h1 : isMk one = true) (h2 : isMk other = true) (bx : Sto) : m__follow [s, one, other] bx = .ok (.bl (follow gap pause (nt one) (nt other))) bx := W.eq (by
  have p1 := (nt_pr h1).1
  have p2 := (nt_pr h2).1
  unfold m__follow S__follow N__follow follow
  simp only [WS_seq, WS_if, WS_set, WS_ret, WS_drop, WS_raise, WS_next, WS_unp, WS_par, WS_for, W_B, W_f1, W_f2, W_fA, W_cons, W_pur, W_var, W_not, W_ifT, W_ifB, W_call, W_callK, W_chain, W_wk, W_sl, W_po, W_poN, W_ok, W_err, W_noErr, W_fnD, ev_plus, ev_sub, ev_iB, ev_toB, ev_not, ev_neg, ev_isN, ev_notN, ev_isB, ev_int, ev_abs, ev_max, ev_min, ev_eqI, ev_neI, Ms.isNon, Option.some.injEq, exists_eq_left', List.getElem?_cons_zero, List.getElem?_cons_succ, List.set_cons_zero, List.set_cons_succ, List.map_cons, List.map_nil, List.cons_append, List.nil_append, List.length_cons, List.length_nil, List.reduceReplicate, Nat.reduceAdd, Nat.reduceSub, Bool.not_true, Bool.not_false, Bool.false_eq_true, Bool.true_eq_false, if_true, if_false, decide_true, decide_false, D.int.injEq, D.bl.injEq, D.ref.injEq, exists_and_left, p1.ix0, p1.ix1, p2.ix0, p2.ix1, hs.ix4, hs.ix5, ev_mod (show (0 : Int) < 256 by decide)]
  cases q : (nt other).1 == ((nt one).1 + 1) % 256 with
  | false => simp only [WS_seq, WS_if, WS_set, WS_ret, WS_drop, WS_raise, WS_next, WS_unp, WS_par, WS_for, W_B, W_f1, W_f2, W_fA, W_cons, W_pur, W_var, W_not, W_ifT, W_ifB, W_call, W_callK, W_chain, W_wk, W_sl, W_po, W_poN, W_ok, W_err, W_noErr, W_fnD, ev_plus, ev_sub, ev_iB, ev_toB, ev_not, ev_neg, ev_isN, ev_notN, ev_isB, ev_int, ev_abs, ev_max, ev_min, ev_eqI, ev_neI, Ms.isNon, Option.some.injEq, exists_eq_left', List.getElem?_cons_zero, List.getElem?_cons_succ, List.set_cons_zero, List.set_cons_succ, List.map_cons, List.map_nil, List.cons_append, List.nil_append, List.length_cons, List.length_nil, List.reduceReplicate, Nat.reduceAdd, Nat.reduceSub, Bool.not_true, Bool.not_false, Bool.false_eq_true, Bool.true_eq_false, if_true, if_false, decide_true, decide_false, D.int.injEq, D.bl.injEq, D.ref.injEq, exists_and_left, Bool.false_and, and_self]
  | true =>
    simp only [WS_seq, WS_if, WS_set, WS_ret, WS_drop, WS_raise, WS_next, WS_unp, WS_par, WS_for, W_B, W_f1, W_f2, W_fA, W_cons, W_pur, W_var, W_not, W_ifT, W_ifB, W_call, W_callK, W_chain, W_wk, W_sl, W_po, W_poN, W_ok, W_err, W_noErr, W_fnD, ev_plus, ev_sub, ev_iB, ev_toB, ev_not, ev_neg, ev_isN, ev_notN, ev_isB, ev_int, ev_abs, ev_max, ev_min, ev_eqI, ev_neI, Ms.isNon, Option.some.injEq, exists_eq_left', List.getElem?_cons_zero, List.getElem?_cons_succ, List.set_cons_zero, List.set_cons_succ, List.map_cons, List.map_nil, List.cons_append, List.nil_append, List.length_cons, List.length_nil, List.reduceReplicate, Nat.reduceAdd, Nat.reduceSub, Bool.not_true, Bool.not_false, Bool.false_eq_true, Bool.true_eq_false, if_true, if_false, decide_true, decide_false, D.int.injEq, D.bl.injEq, D.ref.injEq, exists_and_left, p1.ix0, p1.ix1, p2.ix0, p2.ix1, hs.ix4, hs.ix5, Bool.true_and]
    by_cases z : gap ≤ (nt other).2 - (nt one).2
    · simp [WS_seq, WS_if, WS_set, WS_ret, WS_drop, WS_raise, WS_next, WS_unp, WS_par, WS_for, W_B, W_f1, W_f2, W_fA, W_cons, W_pur, W_var, W_not, W_ifT, W_ifB, W_call, W_callK, W_chain, W_wk, W_sl, W_po, W_poN, W_ok, W_err, W_noErr, W_fnD, ev_plus, ev_sub, ev_iB, ev_toB, ev_not, ev_neg, ev_isN, ev_notN, ev_isB, ev_int, ev_abs, ev_max, ev_min, ev_eqI, ev_neI, Ms.isNon, Option.some.injEq, exists_eq_left', List.getElem?_cons_zero, List.getElem?_cons_succ, List.set_cons_zero, List.set_cons_succ, List.map_cons, List.map_nil, List.cons_append, List.nil_append, List.length_cons, List.length_nil, List.reduceReplicate, Nat.reduceAdd, Nat.reduceSub, Bool.not_true, Bool.not_false, Bool.false_eq_true, Bool.true_eq_false, if_true, if_false, decide_true, decide_false, D.int.injEq, D.bl.injEq, D.ref.injEq, exists_and_left, z, hs.ix5]
      try (intros; omega)
    · simp [WS_seq, WS_if, WS_set, WS_ret, WS_drop, WS_raise, WS_next, WS_unp, WS_par, WS_for, W_B, W_f1, W_f2, W_fA, W_cons, W_pur, W_var, W_not, W_ifT, W_ifB, W_call, W_callK, W_chain, W_wk, W_sl, W_po, W_poN, W_ok, W_err, W_noErr, W_fnD, ev_plus, ev_sub, ev_iB, ev_toB, ev_not, ev_neg, ev_isN, ev_notN, ev_isB, ev_int, ev_abs, ev_max, ev_min, ev_eqI, ev_neI, Ms.isNon, Option.some.injEq, exists_eq_left', List.getElem?_cons_zero, List.getElem?_cons_succ, List.set_cons_zero, List.set_cons_succ, List.map_cons, List.map_nil, List.cons_append, List.nil_append, List.length_cons, List.length_nil, List.reduceReplicate, Nat.reduceAdd, Nat.reduceSub, Bool.not_true, Bool.not_false, Bool.false_eq_true, Bool.true_eq_false, if_true, if_false, decide_true, decide_false, D.int.injEq, D.bl.injEq, D.ref.injEq, exists_and_left, z]
      try (intros; omega))
theorem zipD_eq : ∀ l m : List D, zipD l m = (l.zip m).map fun p => .tup [p.1, p.2]
  | [], _ => by simp [zipD]
  | _ :: _, [] => by simp [zipD]
  | x :: r, y :: t => by simp [zipD, zipD_eq r t]
theorem cut1 (l : List D) : Ms.cutD l (some 1) none = l.drop 1 := by
  unfold Ms.cutD HT.sIx
  cases l with
  | nil => rfl
  | cons x r =>
    simp
    try (rw [List.take_of_length_le]; omega)
theorem holds_ok {s : D} {low high least most gap pause : Int} (hs : Six s low high least most gap pause) (h : srcI low high least most gap pause) {v : D} (hv : v.pure = true) (hl : ∀ l, (v = .tup l ∨ v = .lst l) → l.length ≤ 1000000) (bx : Sto) :
    m_run_holds [s, v] bx = .ok (.bl (isRun gap pause v)) bx := W.eq (by
  have hcl := pure_cl hv
  have key : ∀ l, D.pureAll l = true → (v = .tup l ∨ v = .lst l) → W (m_run_holds [s, v] bx) (fun a b => a = .bl (l.all isMk && steps gap pause l) ∧ b = bx) NoE := fun l hp hvl => by
    have hw : wlk v = some l := by rcases hvl with rfl | rfl <;> rfl
    have hseq : isS v = true := by rcases hvl with rfl | rfl <;> rfl
    have hlen := hl l hvl
    unfold m_run_holds S_run_holds N_run_holds
    simp only [WS_seq, WS_if, WS_set, WS_ret, WS_drop, WS_raise, WS_next, WS_unp, WS_par, WS_for, W_B, W_f1, W_f2, W_fA, W_cons, W_pur, W_var, W_not, W_ifT, W_ifB, W_call, W_callK, W_chain, W_wk, W_sl, W_po, W_poN, W_ok, W_err, W_noErr, W_fnD, ev_plus, ev_sub, ev_iB, ev_toB, ev_not, ev_neg, ev_isN, ev_notN, ev_isB, ev_int, ev_abs, ev_max, ev_min, ev_eqI, ev_neI, Ms.isNon, Option.some.injEq, exists_eq_left', List.getElem?_cons_zero, List.getElem?_cons_succ, List.set_cons_zero, List.set_cons_succ, List.map_cons, List.map_nil, List.cons_append, List.nil_append, List.length_cons, List.length_nil, List.reduceReplicate, Nat.reduceAdd, Nat.reduceSub, Bool.not_true, Bool.not_false, Bool.false_eq_true, Bool.true_eq_false, if_true, if_false, decide_true, decide_false, D.int.injEq, D.bl.injEq, D.ref.injEq, exists_and_left, needS (src_ok hs h bx), m_seq hcl, hseq, W_allG, hw]
    rw [all_pure (p := isMk)]
    · simp only [WS_seq, WS_if, WS_set, WS_ret, WS_drop, WS_raise, WS_next, WS_unp, WS_par, WS_for, W_B, W_f1, W_f2, W_fA, W_cons, W_pur, W_var, W_not, W_ifT, W_ifB, W_call, W_callK, W_chain, W_wk, W_sl, W_po, W_poN, W_ok, W_err, W_noErr, W_fnD, ev_plus, ev_sub, ev_iB, ev_toB, ev_not, ev_neg, ev_isN, ev_notN, ev_isB, ev_int, ev_abs, ev_max, ev_min, ev_eqI, ev_neI, Ms.isNon, Option.some.injEq, exists_eq_left', List.getElem?_cons_zero, List.getElem?_cons_succ, List.set_cons_zero, List.set_cons_succ, List.map_cons, List.map_nil, List.cons_append, List.nil_append, List.length_cons, List.length_nil, List.reduceReplicate, Nat.reduceAdd, Nat.reduceSub, Bool.not_true, Bool.not_false, Bool.false_eq_true, Bool.true_eq_false, if_true, if_false, decide_true, decide_false, D.int.injEq, D.bl.injEq, D.ref.injEq, exists_and_left]
      cases hm : l.all isMk with
      | false => simp only [WS_seq, WS_if, WS_set, WS_ret, WS_drop, WS_raise, WS_next, WS_unp, WS_par, WS_for, W_B, W_f1, W_f2, W_fA, W_cons, W_pur, W_var, W_not, W_ifT, W_ifB, W_call, W_callK, W_chain, W_wk, W_sl, W_po, W_poN, W_ok, W_err, W_noErr, W_fnD, ev_plus, ev_sub, ev_iB, ev_toB, ev_not, ev_neg, ev_isN, ev_notN, ev_isB, ev_int, ev_abs, ev_max, ev_min, ev_eqI, ev_neI, Ms.isNon, Option.some.injEq, exists_eq_left', List.getElem?_cons_zero, List.getElem?_cons_succ, List.set_cons_zero, List.set_cons_succ, List.map_cons, List.map_nil, List.cons_append, List.nil_append, List.length_cons, List.length_nil, List.reduceReplicate, Nat.reduceAdd, Nat.reduceSub, Bool.not_true, Bool.not_false, Bool.false_eq_true, Bool.true_eq_false, if_true, if_false, decide_true, decide_false, D.int.injEq, D.bl.injEq, D.ref.injEq, exists_and_left, Bool.false_and, and_self]
      | true =>
        have hmk : ∀ d ∈ l, isMk d = true := List.all_eq_true.mp hm
        have e2 : ∃ z, cSl bx v (some 1) none = some z ∧ ((v = .tup l ∧ z = .tup (l.drop 1)) ∨ (v = .lst l ∧ z = .lst (l.drop 1))) := by
          rcases hvl with rfl | rfl
          · exact ⟨_, rfl, .inl ⟨rfl, by rw [cut1]⟩⟩
          · exact ⟨_, rfl, .inr ⟨rfl, by rw [cut1]⟩⟩
        obtain ⟨z, e2, e3⟩ := e2
        simp only [WS_seq, WS_if, WS_set, WS_ret, WS_drop, WS_raise, WS_next, WS_unp, WS_par, WS_for, W_B, W_f1, W_f2, W_fA, W_cons, W_pur, W_var, W_not, W_ifT, W_ifB, W_call, W_callK, W_chain, W_wk, W_sl, W_po, W_poN, W_ok, W_err, W_noErr, W_fnD, ev_plus, ev_sub, ev_iB, ev_toB, ev_not, ev_neg, ev_isN, ev_notN, ev_isB, ev_int, ev_abs, ev_max, ev_min, ev_eqI, ev_neI, Ms.isNon, Option.some.injEq, exists_eq_left', List.getElem?_cons_zero, List.getElem?_cons_succ, List.set_cons_zero, List.set_cons_succ, List.map_cons, List.map_nil, List.cons_append, List.nil_append, List.length_cons, List.length_nil, List.reduceReplicate, Nat.reduceAdd, Nat.reduceSub, Bool.not_true, Bool.not_false, Bool.false_eq_true, Bool.true_eq_false, if_true, if_false, decide_true, decide_false, D.int.injEq, D.bl.injEq, D.ref.injEq, exists_and_left, W_lc, W_lcA, W_zip, e2, Bool.true_and]
        refine ⟨l, l.drop 1, ?_, by rw [zip_len, List.length_drop]; omega, ?_⟩
        · rcases e3 with ⟨rfl, rfl⟩ | ⟨rfl, rfl⟩
          · exact .inr rfl
          · exact .inl rfl
        · rw [zipD_eq, lc_pure (c := fun _ => true) (f := fun d => match d with | .tup [x, y] => .bl (follow gap pause (nt x) (nt y)) | d => d)]
          · simp only [WS_seq, WS_if, WS_set, WS_ret, WS_drop, WS_raise, WS_next, WS_unp, WS_par, WS_for, W_B, W_f1, W_f2, W_fA, W_cons, W_pur, W_var, W_not, W_ifT, W_ifB, W_call, W_callK, W_chain, W_wk, W_sl, W_po, W_poN, W_ok, W_err, W_noErr, W_fnD, ev_plus, ev_sub, ev_iB, ev_toB, ev_not, ev_neg, ev_isN, ev_notN, ev_isB, ev_int, ev_abs, ev_max, ev_min, ev_eqI, ev_neI, Ms.isNon, Option.some.injEq, exists_eq_left', List.getElem?_cons_zero, List.getElem?_cons_succ, List.set_cons_zero, List.set_cons_succ, List.map_cons, List.map_nil, List.cons_append, List.nil_append, List.length_cons, List.length_nil, List.reduceReplicate, Nat.reduceAdd, Nat.reduceSub, Bool.not_true, Bool.not_false, Bool.false_eq_true, Bool.true_eq_false, if_true, if_false, decide_true, decide_false, D.int.injEq, D.bl.injEq, D.ref.injEq, exists_and_left, filt_true, List.map_map]
            have e4 : cAll bx [.lst (List.map ((fun d => match d with | .tup [x, y] => D.bl (follow gap pause (nt x) (nt y)) | d => d) ∘ fun p : D × D => D.tup [p.1, p.2]) (l.zip (l.drop 1)))] = some (.bl (steps gap pause l)) := by
              have e5 : List.map ((fun d => match d with | .tup [x, y] => D.bl (follow gap pause (nt x) (nt y)) | d => d) ∘ fun p : D × D => D.tup [p.1, p.2]) (l.zip (l.drop 1)) = ((l.zip (l.drop 1)).map fun p => follow gap pause (nt p.1) (nt p.2)).map D.bl := by
                rw [List.map_map]
                rfl
              rw [e5]
              unfold cAll steps
              simp only [vl, Option.bind_some, toBls_map, Option.map_some, List.all_map]
              rfl
            simp only [e4, WS_seq, WS_if, WS_set, WS_ret, WS_drop, WS_raise, WS_next, WS_unp, WS_par, WS_for, W_B, W_f1, W_f2, W_fA, W_cons, W_pur, W_var, W_not, W_ifT, W_ifB, W_call, W_callK, W_chain, W_wk, W_sl, W_po, W_poN, W_ok, W_err, W_noErr, W_fnD, ev_plus, ev_sub, ev_iB, ev_toB, ev_not, ev_neg, ev_isN, ev_notN, ev_isB, ev_int, ev_abs, ev_max, ev_min, ev_eqI, ev_neI, Ms.isNon, Option.some.injEq, exists_eq_left', List.getElem?_cons_zero, List.getElem?_cons_succ, List.set_cons_zero, List.set_cons_succ, List.map_cons, List.map_nil, List.cons_append, List.nil_append, List.length_cons, List.length_nil, List.reduceReplicate, Nat.reduceAdd, Nat.reduceSub, Bool.not_true, Bool.not_false, Bool.false_eq_true, Bool.true_eq_false, if_true, if_false, decide_true, decide_false, D.int.injEq, D.bl.injEq, D.ref.injEq, exists_and_left, and_self]
          · intro d hd
            obtain ⟨⟨x, y⟩, hxy, rfl⟩ := List.mem_map.mp hd
            have hx := hmk x (List.of_mem_zip hxy).1
            have hy := hmk y (List.mem_of_mem_drop (List.of_mem_zip hxy).2)
            refine ⟨_, rfl, rfl, fun _ => W.eq ?_⟩
            simp only [WS_seq, WS_if, WS_set, WS_ret, WS_drop, WS_raise, WS_next, WS_unp, WS_par, WS_for, W_B, W_f1, W_f2, W_fA, W_cons, W_pur, W_var, W_not, W_ifT, W_ifB, W_call, W_callK, W_chain, W_wk, W_sl, W_po, W_poN, W_ok, W_err, W_noErr, W_fnD, ev_plus, ev_sub, ev_iB, ev_toB, ev_not, ev_neg, ev_isN, ev_notN, ev_isB, ev_int, ev_abs, ev_max, ev_min, ev_eqI, ev_neI, Ms.isNon, Option.some.injEq, exists_eq_left', List.getElem?_cons_zero, List.getElem?_cons_succ, List.set_cons_zero, List.set_cons_succ, List.map_cons, List.map_nil, List.cons_append, List.nil_append, List.length_cons, List.length_nil, List.reduceReplicate, Nat.reduceAdd, Nat.reduceSub, Bool.not_true, Bool.not_false, Bool.false_eq_true, Bool.true_eq_false, if_true, if_false, decide_true, decide_false, D.int.injEq, D.bl.injEq, D.ref.injEq, exists_and_left, unset, follow_ok hs hx hy, and_self]
    · intro d hd
      refine ⟨_, rfl, W.eq ?_⟩
      simp only [WS_seq, WS_if, WS_set, WS_ret, WS_drop, WS_raise, WS_next, WS_unp, WS_par, WS_for, W_B, W_f1, W_f2, W_fA, W_cons, W_pur, W_var, W_not, W_ifT, W_ifB, W_call, W_callK, W_chain, W_wk, W_sl, W_po, W_poN, W_ok, W_err, W_noErr, W_fnD, ev_plus, ev_sub, ev_iB, ev_toB, ev_not, ev_neg, ev_isN, ev_notN, ev_isB, ev_int, ev_abs, ev_max, ev_min, ev_eqI, ev_neI, Ms.isNon, Option.some.injEq, exists_eq_left', List.getElem?_cons_zero, List.getElem?_cons_succ, List.set_cons_zero, List.set_cons_succ, List.map_cons, List.map_nil, List.cons_append, List.nil_append, List.length_cons, List.length_nil, List.reduceReplicate, Nat.reduceAdd, Nat.reduceSub, Bool.not_true, Bool.not_false, Bool.false_eq_true, Bool.true_eq_false, if_true, if_false, decide_true, decide_false, D.int.injEq, D.bl.injEq, D.ref.injEq, exists_and_left, unset, mk_eq (pureAll_mem hp hd), and_self]
  cases v with
  | tup l => exact key l hv (.inl rfl)
  | lst l => exact key l hv (.inr rfl)
  | _ =>
    first
      | (cases hv; done)
      | (unfold m_run_holds S_run_holds N_run_holds
         simp only [WS_seq, WS_if, WS_set, WS_ret, WS_drop, WS_raise, WS_next, WS_unp, WS_par, WS_for, W_B, W_f1, W_f2, W_fA, W_cons, W_pur, W_var, W_not, W_ifT, W_ifB, W_call, W_callK, W_chain, W_wk, W_sl, W_po, W_poN, W_ok, W_err, W_noErr, W_fnD, ev_plus, ev_sub, ev_iB, ev_toB, ev_not, ev_neg, ev_isN, ev_notN, ev_isB, ev_int, ev_abs, ev_max, ev_min, ev_eqI, ev_neI, Ms.isNon, Option.some.injEq, exists_eq_left', List.getElem?_cons_zero, List.getElem?_cons_succ, List.set_cons_zero, List.set_cons_succ, List.map_cons, List.map_nil, List.cons_append, List.nil_append, List.length_cons, List.length_nil, List.reduceReplicate, Nat.reduceAdd, Nat.reduceSub, Bool.not_true, Bool.not_false, Bool.false_eq_true, Bool.true_eq_false, if_true, if_false, decide_true, decide_false, D.int.injEq, D.bl.injEq, D.ref.injEq, exists_and_left, needS (src_ok hs h bx), m_seq hcl, isS, isRun, and_self]))
end K14

end
section
set_option Elab.async false
set_option linter.all false
set_option maxRecDepth 100000
set_option maxHeartbeats 4000000
namespace Ms
open PySem PySem.Spec PyProof.Rows L2
/-! ### what can be shown, and its text -/
mutual
def plain : PyData → Bool
  | .none | .bool _ | .int _ => true
  | .list xs | .tuple xs => plainAll xs
  | .str _ | .dict _ => false
def plainAll : List PyData → Bool
  | [] => true
  | x :: xs => plain x && plainAll xs
end
theorem ok_of (s : String) : PyData.strOk (Str.ofString s) = true := by
  rw [Str.ofString_eq_toList]
  unfold PyData.strOk
  simp only [List.all_toArray, List.all_map, List.all_eq_true, Function.comp, decide_eq_true_eq]
  intro c _
  have h := c.valid
  simp only [UInt32.isValidChar, Nat.isValidChar] at h
  show c.val.toNat < 1114112
  omega
theorem ok_append {x y : Str} (hx : PyData.strOk x = true) (hy : PyData.strOk y = true) : PyData.strOk (x ++ y) = true := by
  unfold PyData.strOk at hx hy ⊢
  rw [PySem.Str.cps_append, Array.all_append, hx, hy]
  rfl
theorem ok_from : ∀ (ts : List Str) (k : Nat) (acc : Str), PyData.strOk acc = true → (∀ t ∈ ts, PyData.strOk t = true) → PyData.strOk (textFrom k acc ts) = true
  | [], _, _, h, _ => h
  | t :: ts, k, acc, h, ht => by
    unfold textFrom
    exact ok_from ts _ _ (ok_append (ok_append h (ok_of _)) (ht t List.mem_cons_self)) fun x hx => ht x (List.mem_cons_of_mem _ hx)
theorem ok_join (sep : Str) (hs : PyData.strOk sep = true) : ∀ ts : List Str, (∀ t ∈ ts, PyData.strOk t = true) → PyData.strOk (Str.join sep ts) = true
  | [], _ => by simp [Str.join, Str.empty, PyData.strOk]
  | [x], h => h x List.mem_cons_self
  | x :: y :: r, h => ok_append (ok_append (h x List.mem_cons_self) hs) (ok_join sep hs (y :: r) fun z hz => h z (List.mem_cons_of_mem _ hz))
mutual
theorem shown_ok : ∀ d : PyData, plain d = true → PyData.strOk d.shown = true
  | .none, _ => ok_of _
  | .bool b, _ => by cases b <;> exact ok_of _
  | .int i, _ => ok_of _
  | .list xs, h => by
    simp only [PyData.shown, listText]
    exact ok_append (ok_from _ _ _ (ok_of _) (shown_oks xs (by simpa only [plain] using h))) (ok_of _)
  | .tuple xs, h => by
    simp only [PyData.shown, tupleText]
    refine ok_append (ok_append (ok_of _) (ok_join _ (ok_of _) _ (shown_oks xs (by simpa only [plain] using h)))) ?_
    split <;> exact ok_of _
  | .str _, h => by simp only [plain] at h; cases h
  | .dict _, h => by simp only [plain] at h; cases h
theorem shown_oks : ∀ xs : List PyData, plainAll xs = true → ∀ t ∈ PyData.shownAll xs, PyData.strOk t = true
  | [], _, _, h => by simp only [PyData.shownAll] at h; cases h
  | x :: xs, hp, t, h => by
    simp only [plainAll, Bool.and_eq_true] at hp
    simp only [PyData.shownAll, List.mem_cons] at h
    rcases h with rfl | h
    · exact shown_ok x hp.1
    · exact shown_oks xs hp.2 t h
end
/-- small enough to be shown -/
structure Fit (d : D) (a b : Nat) : Prop where
  pu : d.pure = true
  pl : plain d.py = true
  sh : d.py.showable = true
  la : d.py.canLay0 = true
  si : d.py.intsShort 13 = true
  de : d.py.depth ≤ a
  we : d.py.weight ≤ b
structure Fits (l : List D) (a b : Nat) : Prop where
  pu : D.pureAll l = true
  pl : plainAll (D.pyAll l) = true
  sh : PyData.showableAll (D.pyAll l) = true
  la : PyData.canLayAll0 (D.pyAll l) = true
  si : PyData.intsShortAll 13 (D.pyAll l) = true
  de : PyData.depthAll (D.pyAll l) ≤ a
  we : PyData.weightAll (D.pyAll l) ≤ l.length * (b + 1)
theorem Fits.of {a b : Nat} : ∀ {l : List D}, (∀ d ∈ l, Fit d a b) → Fits l a b
  | [], _ => ⟨rfl, by simp [D.pyAll, plainAll], by simp [D.pyAll, PyData.showableAll], by simp [D.pyAll, PyData.canLayAll0], by simp [D.pyAll, PyData.intsShortAll], by simp [D.pyAll, PyData.depthAll], by simp [D.pyAll, PyData.weightAll]⟩
  | d :: r, h => by
    have h1 := h d List.mem_cons_self
    have h2 := Fits.of (l := r) fun x hx => h x (List.mem_cons_of_mem _ hx)
    refine ⟨?_, ?_, ?_, ?_, ?_, ?_, ?_⟩
    · simp [D.pureAll, h1.pu, h2.pu]
    · simp [D.pyAll, plainAll, h1.pl, h2.pl]
    · simp [D.pyAll, PyData.showableAll, h1.sh, h2.sh]
    · simp [D.pyAll, PyData.canLayAll0, h1.la, h2.la]
    · simp [D.pyAll, PyData.intsShortAll, h1.si, h2.si]
    · simp only [D.pyAll, PyData.depthAll]
      exact Nat.max_le.mpr ⟨h1.de, h2.de⟩
    · have e1 := h1.we
      have e2 := h2.we
      simp only [D.pyAll, PyData.weightAll, List.length_cons, Nat.succ_mul]
      omega
theorem Fit.lst {l : List D} {a b : Nat} (h : ∀ d ∈ l, Fit d a b) : Fit (.lst l) (a + 1) (l.length * (b + 1)) := by
  have f := Fits.of h
  exact ⟨f.pu, by simp only [D.py, plain]; exact f.pl, by simp only [D.py, PyData.showable]; exact f.sh, by simp only [D.py, PyData.canLay0]; exact f.la, by simp only [D.py, PyData.intsShort]; exact f.si, by simp only [D.py, PyData.depth]; have := f.de; omega, by simp only [D.py, PyData.weight]; exact f.we⟩
theorem Fit.tup {l : List D} {a b : Nat} (h : ∀ d ∈ l, Fit d a b) : Fit (.tup l) (a + 1) (l.length * (b + 1)) := by
  have f := Fits.of h
  exact ⟨f.pu, by simp only [D.py, plain]; exact f.pl, by simp only [D.py, PyData.showable]; exact f.sh, by simp only [D.py, PyData.canLay0]; exact f.la, by simp only [D.py, PyData.intsShort]; exact f.si, by simp only [D.py, PyData.depth]; have := f.de; omega, by simp only [D.py, PyData.weight]; exact f.we⟩
theorem Fit.int {i : Int} (h : -1000000000 ≤ i ∧ i ≤ 1000000000) : Fit (.int i) 0 31 := by
  have n : i.natAbs ≤ 1000000000 := by omega
  have l : i.natAbs.log2 < 30 := by
    by_cases z : i.natAbs = 0
    · rw [z]; decide
    · exact (Nat.log2_lt z).mpr (by omega)
  refine ⟨rfl, rfl, ?_, rfl, ?_, Nat.le_refl _, ?_⟩
  · simp only [D.py, PyData.showable, decide_eq_true_eq]; omega
  · simp only [D.py, PyData.intsShort, decide_eq_true_eq]; exact PyData.shown_int_le (by omega)
  · simp only [D.py, PyData.weight]; split <;> omega
theorem Fit.bl (c : Bool) : Fit (.bl c) 0 31 := ⟨rfl, rfl, rfl, rfl, rfl, Nat.le_refl _, by simp [D.py, PyData.weight]⟩
theorem Fit.non : Fit .non 0 31 := ⟨rfl, rfl, rfl, rfl, rfl, Nat.le_refl _, by simp [D.py, PyData.weight]⟩
/-- it can be shown -/
structure Sh (d : D) : Prop where
  ok : showOk d = true
  st : PyData.strOk d.py.shown = true
theorem Fit.ok {d : D} {a b : Nat} (h : Fit d a b) (ha : a ≤ 60) (hb : b ≤ 1048576) : Sh d := by
  have de := h.de
  have we := h.we
  have l : PyData.layable0 d.py = true := by
    unfold PyData.layable0
    simp only [Bool.and_eq_true, decide_eq_true_eq]
    refine ⟨⟨h.la, by omega⟩, by omega⟩
  have f := PyData.shown_fits_of_layable0 (B := 13) (by decide) (by decide) l h.si
  have k : showOk d = true := by
    unfold showOk
    simp only [Bool.and_eq_true, decide_eq_true_eq]
    exact ⟨⟨⟨h.pu, h.sh⟩, by omega⟩, f⟩
  exact ⟨k, shown_ok _ h.pl⟩
theorem dr_pure {st : Sto} {d : D} (h : d.pure = true) : dr st d = d := by
  cases d <;> first | rfl | cases h
theorem Sh.repr {d : D} {bx : Sto} (h : Sh d) : cRepr bx [d] = some (.str d.py.shown) := by
  have k := h.ok
  have p : d.pure = true := by
    unfold showOk at k
    simp only [Bool.and_eq_true] at k
    exact k.1.1.1
  unfold cRepr
  dsimp only
  rw [dr_pure p]
  unfold showOk at k
  rw [if_pos k]
theorem Sh.non : Sh .non := Fit.non.ok (by decide) (by decide)
theorem Sh.bl (b : Bool) : Sh (.bl b) := (Fit.bl b).ok (by decide) (by decide)
theorem Sh.int {i : Int} (h : -1000000000 ≤ i ∧ i ≤ 1000000000) : Sh (.int i) := (Fit.int h).ok (by decide) (by decide)
theorem ev_eqS {x : Str} {bx : Sto} (hx : PyData.strOk x = true) : cEqD bx (.str x) (.str x) = some (.bl true) := by
  simp [cEqD, eqOk, dr, D.pure, D.py, SeqAt.shaped, PyData.canLay0, PyData.depth, PyData.eqv, hx]
theorem ev_neS {x : Str} {bx : Sto} (hx : PyData.strOk x = true) : cNeD bx (.str x) (.str x) = some (.bl false) := by
  simp [cNeD, eqOk, dr, D.pure, D.py, SeqAt.shaped, PyData.canLay0, PyData.depth, PyData.eqv, hx]
theorem ev_said {x y : Str} {bx : Sto} (hx : PyData.strOk x = true) (hy : PyData.strOk y = true) : cEqD bx (.tup [.str y, .str x, .bl true]) (.tup [.str y, .str x, .bl true]) = some (.bl true) := by
  simp [cEqD, eqOk, dr, D.pure, D.pureAll, D.py, D.pyAll, SeqAt.shaped, PyData.canLay0, PyData.canLayAll0, PyData.depth, PyData.depthAll, PyData.eqv, PyData.eqvAll, hx, hy]
theorem ev_neSaid {x y : Str} {bx : Sto} (hx : PyData.strOk x = true) (hy : PyData.strOk y = true) : cNeD bx (.tup [.str y, .str x, .bl true]) (.tup [.str y, .str x, .bl true]) = some (.bl false) := by
  simp [cNeD, eqOk, dr, D.pure, D.pureAll, D.py, D.pyAll, SeqAt.shaped, PyData.canLay0, PyData.canLayAll0, PyData.depth, PyData.depthAll, PyData.eqv, PyData.eqvAll, hx, hy]
/-- what is asked for, and refused -/
theorem W_check {F : Fn D} {δ : List (Option D)} {bx : Sto} {i : Nat} {d : D} {Q : Bool → Sto → Prop} {E : Str → D → Sto → Prop} (h : F δ bx = .err "Refused" d bx) (f : Sh d) (hi : δ[i]? = some (some d)) (q : Q false bx) :
    W (fB (f2 cNeD (fHeard F) (fA cTup (fCons (pur (.str "refused")) (fCons (fA cRepr (fCons (fVar i) (pur []))) (fCons (pur (.bl true)) (pur [])))))) δ bx) Q E := by
  rw [W_B, W_f2, W_heard, h]
  refine ⟨rfl, f.ok, ?_⟩
  simp only [W_fA, W_cons, W_pur, W_var, hi, f.repr, Option.some.injEq, exists_eq_left']
  refine ⟨_, ev_tup (by show 3 ≤ 1000; decide), _, ev_neSaid f.st (ok_of "refused"), _, rfl, q⟩
end Ms

end
section
set_option Elab.async false
set_option linter.all false
set_option maxRecDepth 100000
set_option maxHeartbeats 4000000
namespace K14
open PySem PySem.Spec PyProof.Rows L2 Ms
/-! ### draws -/
theorem take_ok {b : Nat} {st : Sto} {n : Int} (hb : ∃ g r : Int, st[b]? = some (.lst [.int g, .int r])) (hn : 0 < n) (hn2 : n < 1073741824) : W (m__law_take [.ref b, .int n] st) (fun r st' => ∃ i, r = .int i ∧ 0 ≤ i ∧ i < n ∧ Ext b st st' ∧ st'.length = st.length) NoE := by
  unfold m__law_take
  rw [W_noErr, W_fnD]
  exact take_WS (c1 := 39373) (c2 := 101) (m1 := 2147483647) (c3 := 40692) (c4 := 17) (m2 := 2147483563) (c5 := 2147483629) (c6 := 8233) (by decide) (by decide) (by decide) (by decide) (by decide) (by decide) hb hn hn2 fun i st' h1 h2 h3 h4 => ⟨i, rfl, h1, h2, h3, h4⟩
theorem box_ok {ns : List Int} {k : Nat} {st : Sto} : W (m__law_box [.scr ns, .int k] st) (fun r st' => r = .ref st.length ∧ ∃ g r : Int, st' = st ++ [.lst [.int g, .int r]]) NoE := by
  unfold m__law_box
  rw [W_noErr, W_fnD]
  exact box_WS (A := 13241) (B := 6521) (M := 2147483563) (C := 95003) (M2 := 2147483563) (C2 := 55780009) (B2 := 6521) (M3 := 2147483563) (by decide) (by decide) (by decide) (by decide) (by decide) (by decide) (by decide) fun g r => ⟨rfl, g, r, rfl⟩
theorem pick_ok {b : Nat} {st : Sto} {d : D} {l : List D} (hb : ∃ g r : Int, st[b]? = some (.lst [.int g, .int r])) (hd : d = .lst l ∨ d = .tup l) (hl : l ≠ []) (hl2 : l.length < 1073741824) : W (m__law_pick [.ref b, d] st) (fun r st' => r ∈ l ∧ Ext b st st' ∧ st'.length = st.length) NoE := by
  have hp : 0 < l.length := List.length_pos_iff.mpr hl
  unfold m__law_pick S__law_pick N__law_pick
  have v : ∀ bx, vs bx d = some l := fun bx => by rcases hd with rfl | rfl <;> rfl
  simp only [WS_seq, WS_if, WS_set, WS_ret, WS_drop, WS_raise, WS_next, WS_unp, WS_par, WS_for, W_B, W_f1, W_f2, W_fA, W_cons, W_pur, W_var, W_not, W_ifT, W_ifB, W_call, W_callK, W_chain, W_wk, W_sl, W_po, W_poN, W_ok, W_err, W_noErr, W_fnD, ev_plus, ev_sub, ev_iB, ev_toB, ev_not, ev_neg, ev_isN, ev_notN, ev_isB, ev_int, ev_abs, ev_max, ev_min, ev_eqI, ev_neI, Ms.isNon, Option.some.injEq, exists_eq_left', List.getElem?_cons_zero, List.getElem?_cons_succ, List.set_cons_zero, List.set_cons_succ, List.map_cons, List.map_nil, List.cons_append, List.nil_append, List.length_cons, List.length_nil, List.reduceReplicate, Nat.reduceAdd, Nat.reduceSub, Bool.not_true, Bool.not_false, Bool.false_eq_true, Bool.true_eq_false, if_true, if_false, decide_true, decide_false, D.int.injEq, D.bl.injEq, D.ref.injEq, exists_and_left, ev_len (v _)]
  refine (take_ok hb (by omega) (by omega)).to fun r st' ⟨i, e, h0, h1, h2, h3⟩ => ?_
  subst e
  have hi : i.toNat < l.length := by omega
  have e : atI l i = some l[i.toNat] := atI_int h0 (List.getElem?_eq_getElem hi)
  simp only [ev_ix (v _), e, Option.some.injEq, exists_eq_left']
  exact ⟨List.getElem_mem hi, h2, h3⟩
/-! ### a run by own reading -/
def okM (d : D) : Prop := d = .non ∨ ∃ l, (d = .tup l ∨ d = .lst l) ∧ ∀ x ∈ l, (∃ i, x = .int i) ∨ ∃ b, x = .bl b
theorem steps_iff {gap pause : Int} {l : List D} : steps gap pause l = true ↔ ∀ j, ∀ h : j + 1 < l.length, follow gap pause (nt l[j]) (nt l[j + 1]) = true := by
  unfold steps
  rw [List.all_eq_true]
  constructor
  · intro h j hj
    refine h (l[j], l[j + 1]) ?_
    rw [List.mem_iff_getElem]
    refine ⟨j, by rw [List.length_zip, List.length_drop]; omega, ?_⟩
    rw [List.getElem_zip, List.getElem_drop]
    congr 1
    congr 1
    omega
  · rintro h p hp
    obtain ⟨j, hj, rfl⟩ := List.mem_iff_getElem.mp hp
    rw [List.length_zip, List.length_drop] at hj
    rw [List.getElem_zip, List.getElem_drop]
    have := h j (by omega)
    simpa [Nat.add_comm] using this
theorem isRun_ok {s : D} {low high least most gap pause : Int} (hs : Six s low high least most gap pause) {v : D} (hv : v.cl = true) (hl : ∀ l, (v = .tup l ∨ v = .lst l) → l.length ≤ 1000000 ∧ ∀ d ∈ l, okM d) (bx : Sto) :
    m__law_is_run [s, v] bx = .ok (.bl (isRun gap pause v)) bx := W.eq (by
  have key : ∀ l, (v = .tup l ∨ v = .lst l) → W (m__law_is_run [s, v] bx) (fun a b => a = .bl (l.all isMk && steps gap pause l) ∧ b = bx) NoE := fun l hvl => by
    have hw : wlk v = some l := by rcases hvl with rfl | rfl <;> rfl
    have hvs : ∀ bx, vs bx v = some l := fun bx => by rcases hvl with rfl | rfl <;> rfl
    have hseq : isS v = true := by rcases hvl with rfl | rfl <;> rfl
    obtain ⟨hlen, hok⟩ := hl l hvl
    unfold m__law_is_run S__law_is_run N__law_is_run
    simp only [WS_seq, WS_if, WS_set, WS_ret, WS_drop, WS_raise, WS_next, WS_unp, WS_par, WS_for, W_B, W_f1, W_f2, W_fA, W_cons, W_pur, W_var, W_not, W_ifT, W_ifB, W_call, W_callK, W_chain, W_wk, W_sl, W_po, W_poN, W_ok, W_err, W_noErr, W_fnD, ev_plus, ev_sub, ev_iB, ev_toB, ev_not, ev_neg, ev_isN, ev_notN, ev_isB, ev_int, ev_abs, ev_max, ev_min, ev_eqI, ev_neI, Ms.isNon, Option.some.injEq, exists_eq_left', List.getElem?_cons_zero, List.getElem?_cons_succ, List.set_cons_zero, List.set_cons_succ, List.map_cons, List.map_nil, List.cons_append, List.nil_append, List.length_cons, List.length_nil, List.reduceReplicate, Nat.reduceAdd, Nat.reduceSub, Bool.not_true, Bool.not_false, Bool.false_eq_true, Bool.true_eq_false, if_true, if_false, decide_true, decide_false, D.int.injEq, D.bl.injEq, D.ref.injEq, exists_and_left, isi_seq hv, hseq, hw]
    refine for_rule (fun i δ bx' => bx' = bx ∧ (∀ j, ∀ h : j < l.length, j < i → isMk l[j] = true) ∧ ∃ x2 x3 x4 x5, δ = [some s, some v, x2, x3, x4, x5]) ⟨rfl, fun _ _ h => (nomatch h), _, _, _, _, rfl⟩ ?_ ?_
    · rintro δ bx' ⟨rfl, hm, x2, x3, x4, x5, rfl⟩
      have hmk : ∀ d ∈ l, isMk d = true := fun d hd => by
        obtain ⟨j, hj, rfl⟩ := List.mem_iff_getElem.mp hd
        exact hm j hj hj
      have hall : l.all isMk = true := List.all_eq_true.mpr hmk
      rw [hall, Bool.true_and]
      simp only [WS_seq, WS_if, WS_set, WS_ret, WS_drop, WS_raise, WS_next, WS_unp, WS_par, WS_for, W_B, W_f1, W_f2, W_fA, W_cons, W_pur, W_var, W_not, W_ifT, W_ifB, W_call, W_callK, W_chain, W_wk, W_sl, W_po, W_poN, W_ok, W_err, W_noErr, W_fnD, ev_plus, ev_sub, ev_iB, ev_toB, ev_not, ev_neg, ev_isN, ev_notN, ev_isB, ev_int, ev_abs, ev_max, ev_min, ev_eqI, ev_neI, Ms.isNon, Option.some.injEq, exists_eq_left', List.getElem?_cons_zero, List.getElem?_cons_succ, List.set_cons_zero, List.set_cons_succ, List.map_cons, List.map_nil, List.cons_append, List.nil_append, List.length_cons, List.length_nil, List.reduceReplicate, Nat.reduceAdd, Nat.reduceSub, Bool.not_true, Bool.not_false, Bool.false_eq_true, Bool.true_eq_false, if_true, if_false, decide_true, decide_false, D.int.injEq, D.bl.injEq, D.ref.injEq, exists_and_left, W_rg2, ev_len (hvs _)]
      refine ⟨1, _, rfl, by omega, for_rule (fun i δ bx2 => bx2 = bx' ∧ (∀ j, ∀ h : j + 1 < l.length, j < i → follow gap pause (nt l[j]) (nt l[j + 1]) = true) ∧ ∃ x2 x3 x4 x5, δ = [some s, some v, x2, x3, x4, x5]) ⟨rfl, fun _ _ h => (nomatch h), _, _, _, _, rfl⟩ ?_ ?_⟩
      · rintro δ bx' ⟨rfl, hf, x2, x3, x4, x5, rfl⟩
        simp only [WS_seq, WS_if, WS_set, WS_ret, WS_drop, WS_raise, WS_next, WS_unp, WS_par, WS_for, W_B, W_f1, W_f2, W_fA, W_cons, W_pur, W_var, W_not, W_ifT, W_ifB, W_call, W_callK, W_chain, W_wk, W_sl, W_po, W_poN, W_ok, W_err, W_noErr, W_fnD, ev_plus, ev_sub, ev_iB, ev_toB, ev_not, ev_neg, ev_isN, ev_notN, ev_isB, ev_int, ev_abs, ev_max, ev_min, ev_eqI, ev_neI, Ms.isNon, Option.some.injEq, exists_eq_left', List.getElem?_cons_zero, List.getElem?_cons_succ, List.set_cons_zero, List.set_cons_succ, List.map_cons, List.map_nil, List.cons_append, List.nil_append, List.length_cons, List.length_nil, List.reduceReplicate, Nat.reduceAdd, Nat.reduceSub, Bool.not_true, Bool.not_false, Bool.false_eq_true, Bool.true_eq_false, if_true, if_false, decide_true, decide_false, D.int.injEq, D.bl.injEq, D.ref.injEq, exists_and_left, and_true]
        rw [eq_comm, steps_iff]
        intro j hj
        exact hf j hj (by rw [rgl_len]; omega)
      · rintro i d δ bx' hd ⟨rfl, hf, x2, x3, x4, x5, rfl⟩
        have hi := (List.getElem?_eq_some_iff.mp hd).1
        rw [rgl_len] at hi
        have e := rgl_get hd
        subst e
        refine ⟨_, rfl, ?_⟩
        have hi1 : i + 1 < l.length := by omega
        have g1 : atI l (1 + (i : Int)) = some l[i + 1] := by
          have e : (1 + (i : Int)) = ((i + 1 : Nat) : Int) := by omega
          rw [e]
          exact Ms.atI_nat (List.getElem?_eq_getElem hi1)
        have g0 : atI l (1 + (i : Int) - 1) = some l[i] := by
          have e : (1 + (i : Int) - 1) = (i : Int) := by omega
          rw [e]
          exact Ms.atI_nat (List.getElem?_eq_getElem (by omega))
        obtain ⟨p1, q1⟩ := nt_pr (hmk l[i + 1] (List.getElem_mem _))
        obtain ⟨p0, q0⟩ := nt_pr (hmk l[i] (List.getElem_mem _))
        have fin : ∀ ok : Bool, (ok = follow gap pause (nt l[i]) (nt l[i + 1])) → ok = true → (bx' = bx' ∧ (∀ j, ∀ h : j + 1 < l.length, j < i + 1 → follow gap pause (nt l[j]) (nt l[j + 1]) = true)) := fun ok e h => ⟨rfl, fun j hj hji => by
          by_cases z : j < i
          · exact hf j hj z
          · have z : j = i := by omega
            subst z
            rw [← e, h]⟩
        have bad : follow gap pause (nt l[i]) (nt l[i + 1]) = false → steps gap pause l = false := fun h => by
          cases z : steps gap pause l with
          | false => rfl
          | true =>
            have := steps_iff.mp z i hi1
            rw [h] at this
            cases this
        simp only [WS_seq, WS_if, WS_set, WS_ret, WS_drop, WS_raise, WS_next, WS_unp, WS_par, WS_for, W_B, W_f1, W_f2, W_fA, W_cons, W_pur, W_var, W_not, W_ifT, W_ifB, W_call, W_callK, W_chain, W_wk, W_sl, W_po, W_poN, W_ok, W_err, W_noErr, W_fnD, ev_plus, ev_sub, ev_iB, ev_toB, ev_not, ev_neg, ev_isN, ev_notN, ev_isB, ev_int, ev_abs, ev_max, ev_min, ev_eqI, ev_neI, Ms.isNon, Option.some.injEq, exists_eq_left', List.getElem?_cons_zero, List.getElem?_cons_succ, List.set_cons_zero, List.set_cons_succ, List.map_cons, List.map_nil, List.cons_append, List.nil_append, List.length_cons, List.length_nil, List.reduceReplicate, Nat.reduceAdd, Nat.reduceSub, Bool.not_true, Bool.not_false, Bool.false_eq_true, Bool.true_eq_false, if_true, if_false, decide_true, decide_false, D.int.injEq, D.bl.injEq, D.ref.injEq, exists_and_left, bOne, ev_ix (hvs _), g1, g0, p1.ix0, p1.ix1, p0.ix0, p0.ix1, hs.ix4, hs.ix5, ev_mod (show (0 : Int) < 256 by decide)]
        by_cases c1 : ((nt l[i]).1 + 1 - (nt l[i + 1]).1) % 256 = 0
        · have e1 : (nt l[i + 1]).1 = ((nt l[i]).1 + 1) % 256 := by omega
          have c1' : (((nt l[i]).1 + 1 - (nt l[i + 1]).1) % 256 == 0) = true := beq_iff_eq.mpr c1
          simp only [c1', WS_seq, WS_if, WS_set, WS_ret, WS_drop, WS_raise, WS_next, WS_unp, WS_par, WS_for, W_B, W_f1, W_f2, W_fA, W_cons, W_pur, W_var, W_not, W_ifT, W_ifB, W_call, W_callK, W_chain, W_wk, W_sl, W_po, W_poN, W_ok, W_err, W_noErr, W_fnD, ev_plus, ev_sub, ev_iB, ev_toB, ev_not, ev_neg, ev_isN, ev_notN, ev_isB, ev_int, ev_abs, ev_max, ev_min, ev_eqI, ev_neI, Ms.isNon, Option.some.injEq, exists_eq_left', List.getElem?_cons_zero, List.getElem?_cons_succ, List.set_cons_zero, List.set_cons_succ, List.map_cons, List.map_nil, List.cons_append, List.nil_append, List.length_cons, List.length_nil, List.reduceReplicate, Nat.reduceAdd, Nat.reduceSub, Bool.not_true, Bool.not_false, Bool.false_eq_true, Bool.true_eq_false, if_true, if_false, decide_true, decide_false, D.int.injEq, D.bl.injEq, D.ref.injEq, exists_and_left, hs.ix4, hs.ix5]
          by_cases c2 : (nt l[i + 1]).2 - (nt l[i]).2 < gap
          · simp only [c2, WS_seq, WS_if, WS_set, WS_ret, WS_drop, WS_raise, WS_next, WS_unp, WS_par, WS_for, W_B, W_f1, W_f2, W_fA, W_cons, W_pur, W_var, W_not, W_ifT, W_ifB, W_call, W_callK, W_chain, W_wk, W_sl, W_po, W_poN, W_ok, W_err, W_noErr, W_fnD, ev_plus, ev_sub, ev_iB, ev_toB, ev_not, ev_neg, ev_isN, ev_notN, ev_isB, ev_int, ev_abs, ev_max, ev_min, ev_eqI, ev_neI, Ms.isNon, Option.some.injEq, exists_eq_left', List.getElem?_cons_zero, List.getElem?_cons_succ, List.set_cons_zero, List.set_cons_succ, List.map_cons, List.map_nil, List.cons_append, List.nil_append, List.length_cons, List.length_nil, List.reduceReplicate, Nat.reduceAdd, Nat.reduceSub, Bool.not_true, Bool.not_false, Bool.false_eq_true, Bool.true_eq_false, if_true, if_false, decide_true, decide_false, D.int.injEq, D.bl.injEq, D.ref.injEq, exists_and_left, and_true]
            rw [eq_comm]
            refine bad ?_
            unfold follow
            have : ¬ gap ≤ (nt l[i + 1]).2 - (nt l[i]).2 := by omega
            simp [this]
          · simp only [c2, WS_seq, WS_if, WS_set, WS_ret, WS_drop, WS_raise, WS_next, WS_unp, WS_par, WS_for, W_B, W_f1, W_f2, W_fA, W_cons, W_pur, W_var, W_not, W_ifT, W_ifB, W_call, W_callK, W_chain, W_wk, W_sl, W_po, W_poN, W_ok, W_err, W_noErr, W_fnD, ev_plus, ev_sub, ev_iB, ev_toB, ev_not, ev_neg, ev_isN, ev_notN, ev_isB, ev_int, ev_abs, ev_max, ev_min, ev_eqI, ev_neI, Ms.isNon, Option.some.injEq, exists_eq_left', List.getElem?_cons_zero, List.getElem?_cons_succ, List.set_cons_zero, List.set_cons_succ, List.map_cons, List.map_nil, List.cons_append, List.nil_append, List.length_cons, List.length_nil, List.reduceReplicate, Nat.reduceAdd, Nat.reduceSub, Bool.not_true, Bool.not_false, Bool.false_eq_true, Bool.true_eq_false, if_true, if_false, decide_true, decide_false, D.int.injEq, D.bl.injEq, D.ref.injEq, exists_and_left, hs.ix5]
            by_cases c3 : pause < (nt l[i + 1]).2 - (nt l[i]).2
            · simp only [c3, WS_seq, WS_if, WS_set, WS_ret, WS_drop, WS_raise, WS_next, WS_unp, WS_par, WS_for, W_B, W_f1, W_f2, W_fA, W_cons, W_pur, W_var, W_not, W_ifT, W_ifB, W_call, W_callK, W_chain, W_wk, W_sl, W_po, W_poN, W_ok, W_err, W_noErr, W_fnD, ev_plus, ev_sub, ev_iB, ev_toB, ev_not, ev_neg, ev_isN, ev_notN, ev_isB, ev_int, ev_abs, ev_max, ev_min, ev_eqI, ev_neI, Ms.isNon, Option.some.injEq, exists_eq_left', List.getElem?_cons_zero, List.getElem?_cons_succ, List.set_cons_zero, List.set_cons_succ, List.map_cons, List.map_nil, List.cons_append, List.nil_append, List.length_cons, List.length_nil, List.reduceReplicate, Nat.reduceAdd, Nat.reduceSub, Bool.not_true, Bool.not_false, Bool.false_eq_true, Bool.true_eq_false, if_true, if_false, decide_true, decide_false, D.int.injEq, D.bl.injEq, D.ref.injEq, exists_and_left, and_true]
              rw [eq_comm]
              refine bad ?_
              unfold follow
              have : ¬ (nt l[i + 1]).2 - (nt l[i]).2 ≤ pause := by omega
              simp [this]
            · simp only [c3, WS_seq, WS_if, WS_set, WS_ret, WS_drop, WS_raise, WS_next, WS_unp, WS_par, WS_for, W_B, W_f1, W_f2, W_fA, W_cons, W_pur, W_var, W_not, W_ifT, W_ifB, W_call, W_callK, W_chain, W_wk, W_sl, W_po, W_poN, W_ok, W_err, W_noErr, W_fnD, ev_plus, ev_sub, ev_iB, ev_toB, ev_not, ev_neg, ev_isN, ev_notN, ev_isB, ev_int, ev_abs, ev_max, ev_min, ev_eqI, ev_neI, Ms.isNon, Option.some.injEq, exists_eq_left', List.getElem?_cons_zero, List.getElem?_cons_succ, List.set_cons_zero, List.set_cons_succ, List.map_cons, List.map_nil, List.cons_append, List.nil_append, List.length_cons, List.length_nil, List.reduceReplicate, Nat.reduceAdd, Nat.reduceSub, Bool.not_true, Bool.not_false, Bool.false_eq_true, Bool.true_eq_false, if_true, if_false, decide_true, decide_false, D.int.injEq, D.bl.injEq, D.ref.injEq, exists_and_left]
              have : follow gap pause (nt l[i]) (nt l[i + 1]) = true := by
                unfold follow
                simp only [Bool.and_eq_true, beq_iff_eq, decide_eq_true_eq]
                omega
              obtain ⟨h1, h2⟩ := fin true this.symm rfl
              exact ⟨trivial, h2, _, _, _, _, rfl⟩
        · have e1 : ¬ (nt l[i + 1]).1 = ((nt l[i]).1 + 1) % 256 := by omega
          have c1' : (((nt l[i]).1 + 1 - (nt l[i + 1]).1) % 256 == 0) = false := by
            cases z : (((nt l[i]).1 + 1 - (nt l[i + 1]).1) % 256 == 0) with
            | false => rfl
            | true => exact (c1 (beq_iff_eq.mp z)).elim
          simp only [c1', WS_seq, WS_if, WS_set, WS_ret, WS_drop, WS_raise, WS_next, WS_unp, WS_par, WS_for, W_B, W_f1, W_f2, W_fA, W_cons, W_pur, W_var, W_not, W_ifT, W_ifB, W_call, W_callK, W_chain, W_wk, W_sl, W_po, W_poN, W_ok, W_err, W_noErr, W_fnD, ev_plus, ev_sub, ev_iB, ev_toB, ev_not, ev_neg, ev_isN, ev_notN, ev_isB, ev_int, ev_abs, ev_max, ev_min, ev_eqI, ev_neI, Ms.isNon, Option.some.injEq, exists_eq_left', List.getElem?_cons_zero, List.getElem?_cons_succ, List.set_cons_zero, List.set_cons_succ, List.map_cons, List.map_nil, List.cons_append, List.nil_append, List.length_cons, List.length_nil, List.reduceReplicate, Nat.reduceAdd, Nat.reduceSub, Bool.not_true, Bool.not_false, Bool.false_eq_true, Bool.true_eq_false, if_true, if_false, decide_true, decide_false, D.int.injEq, D.bl.injEq, D.ref.injEq, exists_and_left, and_true]
          rw [eq_comm]
          refine bad ?_
          unfold follow
          simp [e1]
    · rintro i d δ bx' hd ⟨rfl, hm, x2, x3, x4, x5, rfl⟩
      have hi := (List.getElem?_eq_some_iff.mp hd).1
      have hdi : l[i] = d := (List.getElem?_eq_some_iff.mp hd).2
      refine ⟨_, rfl, ?_⟩
      have bad : isMk d = false → (l.all isMk && steps gap pause l) = false := fun h => by
        have : l.all isMk = false := by
          cases z : l.all isMk with
          | false => rfl
          | true =>
            have := List.all_eq_true.mp z d (hdi ▸ List.getElem_mem _)
            rw [h] at this
            cases this
        rw [this, Bool.false_and]
      have good : isMk d = true → ∀ j, ∀ h : j < l.length, j < i + 1 → isMk l[j] = true := fun h j hj hji => by
        by_cases z : j < i
        · exact hm j hj z
        · have z : j = i := by omega
          subst z
          rw [hdi]
          exact h
      have hmem : d ∈ l := hdi ▸ List.getElem_mem _
      rcases hok d hmem with rfl | ⟨m, hdm, hx⟩
      · simp only [WS_seq, WS_if, WS_set, WS_ret, WS_drop, WS_raise, WS_next, WS_unp, WS_par, WS_for, W_B, W_f1, W_f2, W_fA, W_cons, W_pur, W_var, W_not, W_ifT, W_ifB, W_call, W_callK, W_chain, W_wk, W_sl, W_po, W_poN, W_ok, W_err, W_noErr, W_fnD, ev_plus, ev_sub, ev_iB, ev_toB, ev_not, ev_neg, ev_isN, ev_notN, ev_isB, ev_int, ev_abs, ev_max, ev_min, ev_eqI, ev_neI, Ms.isNon, Option.some.injEq, exists_eq_left', List.getElem?_cons_zero, List.getElem?_cons_succ, List.set_cons_zero, List.set_cons_succ, List.map_cons, List.map_nil, List.cons_append, List.nil_append, List.length_cons, List.length_nil, List.reduceReplicate, Nat.reduceAdd, Nat.reduceSub, Bool.not_true, Bool.not_false, Bool.false_eq_true, Bool.true_eq_false, if_true, if_false, decide_true, decide_false, D.int.injEq, D.bl.injEq, D.ref.injEq, exists_and_left, bOne, isi_seq (d := .non) rfl, isS, and_true]
        rw [eq_comm]
        exact bad rfl
      · have hcl : d.cl = true := by rcases hdm with rfl | rfl <;> rfl
        have hS : isS d = true := by rcases hdm with rfl | rfl <;> rfl
        have hv' : ∀ bx, vs bx d = some m := fun bx => by rcases hdm with rfl | rfl <;> rfl
        have hw' : wlk d = some m := by rcases hdm with rfl | rfl <;> rfl
        have hmk : isMk d = isMkL m := by rcases hdm with rfl | rfl <;> rfl
        simp only [WS_seq, WS_if, WS_set, WS_ret, WS_drop, WS_raise, WS_next, WS_unp, WS_par, WS_for, W_B, W_f1, W_f2, W_fA, W_cons, W_pur, W_var, W_not, W_ifT, W_ifB, W_call, W_callK, W_chain, W_wk, W_sl, W_po, W_poN, W_ok, W_err, W_noErr, W_fnD, ev_plus, ev_sub, ev_iB, ev_toB, ev_not, ev_neg, ev_isN, ev_notN, ev_isB, ev_int, ev_abs, ev_max, ev_min, ev_eqI, ev_neI, Ms.isNon, Option.some.injEq, exists_eq_left', List.getElem?_cons_zero, List.getElem?_cons_succ, List.set_cons_zero, List.set_cons_succ, List.map_cons, List.map_nil, List.cons_append, List.nil_append, List.length_cons, List.length_nil, List.reduceReplicate, Nat.reduceAdd, Nat.reduceSub, Bool.not_true, Bool.not_false, Bool.false_eq_true, Bool.true_eq_false, if_true, if_false, decide_true, decide_false, D.int.injEq, D.bl.injEq, D.ref.injEq, exists_and_left, bOne, isi_seq hcl, hS, ev_len (hv' _)]
        by_cases hm2 : m.length = 2
        · match m, hm2 with
          | [a, b'], _ =>
          have e2 : (((2 : Nat) : Int) == 2) = true := rfl
          have hc : ∀ x ∈ [a, b'], x.cl = true := fun x hxm => by
            rcases hx x hxm with ⟨_, rfl⟩ | ⟨_, rfl⟩ <;> rfl
          simp only [e2, WS_seq, WS_if, WS_set, WS_ret, WS_drop, WS_raise, WS_next, WS_unp, WS_par, WS_for, W_B, W_f1, W_f2, W_fA, W_cons, W_pur, W_var, W_not, W_ifT, W_ifB, W_call, W_callK, W_chain, W_wk, W_sl, W_po, W_poN, W_ok, W_err, W_noErr, W_fnD, ev_plus, ev_sub, ev_iB, ev_toB, ev_not, ev_neg, ev_isN, ev_notN, ev_isB, ev_int, ev_abs, ev_max, ev_min, ev_eqI, ev_neI, Ms.isNon, Option.some.injEq, exists_eq_left', List.getElem?_cons_zero, List.getElem?_cons_succ, List.set_cons_zero, List.set_cons_succ, List.map_cons, List.map_nil, List.cons_append, List.nil_append, List.length_cons, List.length_nil, List.reduceReplicate, Nat.reduceAdd, Nat.reduceSub, Bool.not_true, Bool.not_false, Bool.false_eq_true, Bool.true_eq_false, if_true, if_false, decide_true, decide_false, D.int.injEq, D.bl.injEq, D.ref.injEq, exists_and_left, W_lc, W_lcA, hw']
          refine ⟨by decide, ?_⟩
          rw [lc_pure (c := fun x => match x with | .int _ => false | _ => true) (f := fun x => x)]
          · have ix0 : ∀ bx, cIx bx d (.int 0) = some a := fun bx => by rw [ev_ix (hv' _)]; rfl
            have ix1 : ∀ bx, cIx bx d (.int 1) = some b' := fun bx => by rw [ev_ix (hv' _)]; rfl
            rcases hx a (by simp) with ⟨x, rfl⟩ | ⟨x, rfl⟩
            · rcases hx b' (by simp) with ⟨y, rfl⟩ | ⟨y, rfl⟩
              · have en : cNeD bx' (.lst (([D.int x, D.int y].filter fun x => match x with | .int _ => false | _ => true).map fun x => x)) (.lst []) = some (.bl false) := by
                  simp [cNeD, eqOk, dr, D.pure, D.pureAll, D.py, D.pyAll, SeqAt.shaped, PyData.canLay0, PyData.canLayAll0, PyData.depth, PyData.depthAll, PyData.eqv, PyData.eqvAll]
                simp only [WS_seq, WS_if, WS_set, WS_ret, WS_drop, WS_raise, WS_next, WS_unp, WS_par, WS_for, W_B, W_f1, W_f2, W_fA, W_cons, W_pur, W_var, W_not, W_ifT, W_ifB, W_call, W_callK, W_chain, W_wk, W_sl, W_po, W_poN, W_ok, W_err, W_noErr, W_fnD, ev_plus, ev_sub, ev_iB, ev_toB, ev_not, ev_neg, ev_isN, ev_notN, ev_isB, ev_int, ev_abs, ev_max, ev_min, ev_eqI, ev_neI, Ms.isNon, Option.some.injEq, exists_eq_left', List.getElem?_cons_zero, List.getElem?_cons_succ, List.set_cons_zero, List.set_cons_succ, List.map_cons, List.map_nil, List.cons_append, List.nil_append, List.length_cons, List.length_nil, List.reduceReplicate, Nat.reduceAdd, Nat.reduceSub, Bool.not_true, Bool.not_false, Bool.false_eq_true, Bool.true_eq_false, if_true, if_false, decide_true, decide_false, D.int.injEq, D.bl.injEq, D.ref.injEq, exists_and_left, ev_lst (show ([] : List D).length ≤ 1000 by decide), en, ix0, ix1, ev_pow (i := 10) (j := 6) (by decide)]
                have e6 : (10 : Int) ^ (6 : Int).toNat = 1000000 := by decide
                have hmL : isMk d = (decide (0 ≤ x) && decide (x ≤ 255) && (decide (0 ≤ y) && decide (y ≤ 1000000))) := hmk
                by_cases h1 : 0 ≤ x
                · by_cases h2 : x < 256
                  · by_cases h3 : 0 ≤ y
                    · by_cases h4 : y ≤ 1000000
                      · simp only [h1, h2, h3, h4, WS_seq, WS_if, WS_set, WS_ret, WS_drop, WS_raise, WS_next, WS_unp, WS_par, WS_for, W_B, W_f1, W_f2, W_fA, W_cons, W_pur, W_var, W_not, W_ifT, W_ifB, W_call, W_callK, W_chain, W_wk, W_sl, W_po, W_poN, W_ok, W_err, W_noErr, W_fnD, ev_plus, ev_sub, ev_iB, ev_toB, ev_not, ev_neg, ev_isN, ev_notN, ev_isB, ev_int, ev_abs, ev_max, ev_min, ev_eqI, ev_neI, Ms.isNon, Option.some.injEq, exists_eq_left', List.getElem?_cons_zero, List.getElem?_cons_succ, List.set_cons_zero, List.set_cons_succ, List.map_cons, List.map_nil, List.cons_append, List.nil_append, List.length_cons, List.length_nil, List.reduceReplicate, Nat.reduceAdd, Nat.reduceSub, Bool.not_true, Bool.not_false, Bool.false_eq_true, Bool.true_eq_false, if_true, if_false, decide_true, decide_false, D.int.injEq, D.bl.injEq, D.ref.injEq, exists_and_left]
                        have g := good (by rw [hmL]; simp [h1, h3, h4]; omega)
                        simp only [ix1, WS_seq, WS_if, WS_set, WS_ret, WS_drop, WS_raise, WS_next, WS_unp, WS_par, WS_for, W_B, W_f1, W_f2, W_fA, W_cons, W_pur, W_var, W_not, W_ifT, W_ifB, W_call, W_callK, W_chain, W_wk, W_sl, W_po, W_poN, W_ok, W_err, W_noErr, W_fnD, ev_plus, ev_sub, ev_iB, ev_toB, ev_not, ev_neg, ev_isN, ev_notN, ev_isB, ev_int, ev_abs, ev_max, ev_min, ev_eqI, ev_neI, Ms.isNon, Option.some.injEq, exists_eq_left', List.getElem?_cons_zero, List.getElem?_cons_succ, List.set_cons_zero, List.set_cons_succ, List.map_cons, List.map_nil, List.cons_append, List.nil_append, List.length_cons, List.length_nil, List.reduceReplicate, Nat.reduceAdd, Nat.reduceSub, Bool.not_true, Bool.not_false, Bool.false_eq_true, Bool.true_eq_false, if_true, if_false, decide_true, decide_false, D.int.injEq, D.bl.injEq, D.ref.injEq, exists_and_left, ev_pow (i := 10) (j := 6) (by decide), e6, h3, h4]
                        exact ⟨trivial, g, _, _, _, _, rfl⟩
                      · have := bad (by rw [hmL]; simp [h4])
                        simp only [h1, h2, h3, h4, WS_seq, WS_if, WS_set, WS_ret, WS_drop, WS_raise, WS_next, WS_unp, WS_par, WS_for, W_B, W_f1, W_f2, W_fA, W_cons, W_pur, W_var, W_not, W_ifT, W_ifB, W_call, W_callK, W_chain, W_wk, W_sl, W_po, W_poN, W_ok, W_err, W_noErr, W_fnD, ev_plus, ev_sub, ev_iB, ev_toB, ev_not, ev_neg, ev_isN, ev_notN, ev_isB, ev_int, ev_abs, ev_max, ev_min, ev_eqI, ev_neI, Ms.isNon, Option.some.injEq, exists_eq_left', List.getElem?_cons_zero, List.getElem?_cons_succ, List.set_cons_zero, List.set_cons_succ, List.map_cons, List.map_nil, List.cons_append, List.nil_append, List.length_cons, List.length_nil, List.reduceReplicate, Nat.reduceAdd, Nat.reduceSub, Bool.not_true, Bool.not_false, Bool.false_eq_true, Bool.true_eq_false, if_true, if_false, decide_true, decide_false, D.int.injEq, D.bl.injEq, D.ref.injEq, exists_and_left, ev_pow (i := 10) (j := 6) (by decide), e6, ix1, this, and_self]
                    · have := bad (by rw [hmL]; simp [h3])
                      simp only [h1, h2, h3, WS_seq, WS_if, WS_set, WS_ret, WS_drop, WS_raise, WS_next, WS_unp, WS_par, WS_for, W_B, W_f1, W_f2, W_fA, W_cons, W_pur, W_var, W_not, W_ifT, W_ifB, W_call, W_callK, W_chain, W_wk, W_sl, W_po, W_poN, W_ok, W_err, W_noErr, W_fnD, ev_plus, ev_sub, ev_iB, ev_toB, ev_not, ev_neg, ev_isN, ev_notN, ev_isB, ev_int, ev_abs, ev_max, ev_min, ev_eqI, ev_neI, Ms.isNon, Option.some.injEq, exists_eq_left', List.getElem?_cons_zero, List.getElem?_cons_succ, List.set_cons_zero, List.set_cons_succ, List.map_cons, List.map_nil, List.cons_append, List.nil_append, List.length_cons, List.length_nil, List.reduceReplicate, Nat.reduceAdd, Nat.reduceSub, Bool.not_true, Bool.not_false, Bool.false_eq_true, Bool.true_eq_false, if_true, if_false, decide_true, decide_false, D.int.injEq, D.bl.injEq, D.ref.injEq, exists_and_left, ev_pow (i := 10) (j := 6) (by decide), e6, ix1, this, and_self]
                  · have := bad (by rw [hmL]; simp; omega)
                    simp only [h1, h2, WS_seq, WS_if, WS_set, WS_ret, WS_drop, WS_raise, WS_next, WS_unp, WS_par, WS_for, W_B, W_f1, W_f2, W_fA, W_cons, W_pur, W_var, W_not, W_ifT, W_ifB, W_call, W_callK, W_chain, W_wk, W_sl, W_po, W_poN, W_ok, W_err, W_noErr, W_fnD, ev_plus, ev_sub, ev_iB, ev_toB, ev_not, ev_neg, ev_isN, ev_notN, ev_isB, ev_int, ev_abs, ev_max, ev_min, ev_eqI, ev_neI, Ms.isNon, Option.some.injEq, exists_eq_left', List.getElem?_cons_zero, List.getElem?_cons_succ, List.set_cons_zero, List.set_cons_succ, List.map_cons, List.map_nil, List.cons_append, List.nil_append, List.length_cons, List.length_nil, List.reduceReplicate, Nat.reduceAdd, Nat.reduceSub, Bool.not_true, Bool.not_false, Bool.false_eq_true, Bool.true_eq_false, if_true, if_false, decide_true, decide_false, D.int.injEq, D.bl.injEq, D.ref.injEq, exists_and_left, this, and_self]
                · have := bad (by rw [hmL]; simp [h1])
                  simp only [h1, WS_seq, WS_if, WS_set, WS_ret, WS_drop, WS_raise, WS_next, WS_unp, WS_par, WS_for, W_B, W_f1, W_f2, W_fA, W_cons, W_pur, W_var, W_not, W_ifT, W_ifB, W_call, W_callK, W_chain, W_wk, W_sl, W_po, W_poN, W_ok, W_err, W_noErr, W_fnD, ev_plus, ev_sub, ev_iB, ev_toB, ev_not, ev_neg, ev_isN, ev_notN, ev_isB, ev_int, ev_abs, ev_max, ev_min, ev_eqI, ev_neI, Ms.isNon, Option.some.injEq, exists_eq_left', List.getElem?_cons_zero, List.getElem?_cons_succ, List.set_cons_zero, List.set_cons_succ, List.map_cons, List.map_nil, List.cons_append, List.nil_append, List.length_cons, List.length_nil, List.reduceReplicate, Nat.reduceAdd, Nat.reduceSub, Bool.not_true, Bool.not_false, Bool.false_eq_true, Bool.true_eq_false, if_true, if_false, decide_true, decide_false, D.int.injEq, D.bl.injEq, D.ref.injEq, exists_and_left, this, and_self]
              · have en : cNeD bx' (.lst (([D.int x, D.bl y].filter fun x => match x with | .int _ => false | _ => true).map fun x => x)) (.lst []) = some (.bl true) := by
                  simp [cNeD, eqOk, dr, D.pure, D.pureAll, D.py, D.pyAll, SeqAt.shaped, PyData.canLay0, PyData.canLayAll0, PyData.depth, PyData.depthAll, PyData.eqv, PyData.eqvAll]
                have := bad (by rw [hmk]; simp [isMkL, inR])
                simp only [WS_seq, WS_if, WS_set, WS_ret, WS_drop, WS_raise, WS_next, WS_unp, WS_par, WS_for, W_B, W_f1, W_f2, W_fA, W_cons, W_pur, W_var, W_not, W_ifT, W_ifB, W_call, W_callK, W_chain, W_wk, W_sl, W_po, W_poN, W_ok, W_err, W_noErr, W_fnD, ev_plus, ev_sub, ev_iB, ev_toB, ev_not, ev_neg, ev_isN, ev_notN, ev_isB, ev_int, ev_abs, ev_max, ev_min, ev_eqI, ev_neI, Ms.isNon, Option.some.injEq, exists_eq_left', List.getElem?_cons_zero, List.getElem?_cons_succ, List.set_cons_zero, List.set_cons_succ, List.map_cons, List.map_nil, List.cons_append, List.nil_append, List.length_cons, List.length_nil, List.reduceReplicate, Nat.reduceAdd, Nat.reduceSub, Bool.not_true, Bool.not_false, Bool.false_eq_true, Bool.true_eq_false, if_true, if_false, decide_true, decide_false, D.int.injEq, D.bl.injEq, D.ref.injEq, exists_and_left, ev_lst (show ([] : List D).length ≤ 1000 by decide), en, this, and_self]
            · have en : cNeD bx' (.lst (([D.bl x, b'].filter fun x => match x with | .int _ => false | _ => true).map fun x => x)) (.lst []) = some (.bl true) := by
                rcases hx b' (by simp) with ⟨y, rfl⟩ | ⟨y, rfl⟩ <;>
                  simp [cNeD, eqOk, dr, D.pure, D.pureAll, D.py, D.pyAll, SeqAt.shaped, PyData.canLay0, PyData.canLayAll0, PyData.depth, PyData.depthAll, PyData.eqv, PyData.eqvAll]
              have := bad (by rw [hmk]; simp [isMkL, inR])
              simp only [WS_seq, WS_if, WS_set, WS_ret, WS_drop, WS_raise, WS_next, WS_unp, WS_par, WS_for, W_B, W_f1, W_f2, W_fA, W_cons, W_pur, W_var, W_not, W_ifT, W_ifB, W_call, W_callK, W_chain, W_wk, W_sl, W_po, W_poN, W_ok, W_err, W_noErr, W_fnD, ev_plus, ev_sub, ev_iB, ev_toB, ev_not, ev_neg, ev_isN, ev_notN, ev_isB, ev_int, ev_abs, ev_max, ev_min, ev_eqI, ev_neI, Ms.isNon, Option.some.injEq, exists_eq_left', List.getElem?_cons_zero, List.getElem?_cons_succ, List.set_cons_zero, List.set_cons_succ, List.map_cons, List.map_nil, List.cons_append, List.nil_append, List.length_cons, List.length_nil, List.reduceReplicate, Nat.reduceAdd, Nat.reduceSub, Bool.not_true, Bool.not_false, Bool.false_eq_true, Bool.true_eq_false, if_true, if_false, decide_true, decide_false, D.int.injEq, D.bl.injEq, D.ref.injEq, exists_and_left, ev_lst (show ([] : List D).length ≤ 1000 by decide), en, this, and_self]
          · intro x hxm
            refine ⟨_, rfl, W.eq ?_, fun _ => rfl⟩
            rcases hx x hxm with ⟨y, rfl⟩ | ⟨y, rfl⟩ <;>
              simp only [WS_seq, WS_if, WS_set, WS_ret, WS_drop, WS_raise, WS_next, WS_unp, WS_par, WS_for, W_B, W_f1, W_f2, W_fA, W_cons, W_pur, W_var, W_not, W_ifT, W_ifB, W_call, W_callK, W_chain, W_wk, W_sl, W_po, W_poN, W_ok, W_err, W_noErr, W_fnD, ev_plus, ev_sub, ev_iB, ev_toB, ev_not, ev_neg, ev_isN, ev_notN, ev_isB, ev_int, ev_abs, ev_max, ev_min, ev_eqI, ev_neI, Ms.isNon, Option.some.injEq, exists_eq_left', List.getElem?_cons_zero, List.getElem?_cons_succ, List.set_cons_zero, List.set_cons_succ, List.map_cons, List.map_nil, List.cons_append, List.nil_append, List.length_cons, List.length_nil, List.reduceReplicate, Nat.reduceAdd, Nat.reduceSub, Bool.not_true, Bool.not_false, Bool.false_eq_true, Bool.true_eq_false, if_true, if_false, decide_true, decide_false, D.int.injEq, D.bl.injEq, D.ref.injEq, exists_and_left, unset, isi_int (d := .int _) rfl, isi_int (d := .bl _) rfl, isi_bool (d := .int _) rfl, isi_bool (d := .bl _) rfl, and_self]
        · have e2 : ((m.length : Int) == 2) = false := by
            cases z : ((m.length : Int) == 2) with
            | false => rfl
            | true => exact (hm2 (by have := beq_iff_eq.mp z; omega)).elim
          have hb : isMk d = false := by
            rw [hmk]
            match m, hm2 with
            | [], _ => rfl
            | [_], _ => rfl
            | [_, _], h => exact (h rfl).elim
            | _ :: _ :: _ :: _, _ => rfl
          have := bad hb
          simp only [e2, WS_seq, WS_if, WS_set, WS_ret, WS_drop, WS_raise, WS_next, WS_unp, WS_par, WS_for, W_B, W_f1, W_f2, W_fA, W_cons, W_pur, W_var, W_not, W_ifT, W_ifB, W_call, W_callK, W_chain, W_wk, W_sl, W_po, W_poN, W_ok, W_err, W_noErr, W_fnD, ev_plus, ev_sub, ev_iB, ev_toB, ev_not, ev_neg, ev_isN, ev_notN, ev_isB, ev_int, ev_abs, ev_max, ev_min, ev_eqI, ev_neI, Ms.isNon, Option.some.injEq, exists_eq_left', List.getElem?_cons_zero, List.getElem?_cons_succ, List.set_cons_zero, List.set_cons_succ, List.map_cons, List.map_nil, List.cons_append, List.nil_append, List.length_cons, List.length_nil, List.reduceReplicate, Nat.reduceAdd, Nat.reduceSub, Bool.not_true, Bool.not_false, Bool.false_eq_true, Bool.true_eq_false, if_true, if_false, decide_true, decide_false, D.int.injEq, D.bl.injEq, D.ref.injEq, exists_and_left, this, and_self]
  cases v with
  | tup l => exact key l (.inl rfl)
  | lst l => exact key l (.inr rfl)
  | _ =>
    first
      | (cases hv; done)
      | (unfold m__law_is_run S__law_is_run N__law_is_run
         simp only [WS_seq, WS_if, WS_set, WS_ret, WS_drop, WS_raise, WS_next, WS_unp, WS_par, WS_for, W_B, W_f1, W_f2, W_fA, W_cons, W_pur, W_var, W_not, W_ifT, W_ifB, W_call, W_callK, W_chain, W_wk, W_sl, W_po, W_poN, W_ok, W_err, W_noErr, W_fnD, ev_plus, ev_sub, ev_iB, ev_toB, ev_not, ev_neg, ev_isN, ev_notN, ev_isB, ev_int, ev_abs, ev_max, ev_min, ev_eqI, ev_neI, Ms.isNon, Option.some.injEq, exists_eq_left', List.getElem?_cons_zero, List.getElem?_cons_succ, List.set_cons_zero, List.set_cons_succ, List.map_cons, List.map_nil, List.cons_append, List.nil_append, List.length_cons, List.length_nil, List.reduceReplicate, Nat.reduceAdd, Nat.reduceSub, Bool.not_true, Bool.not_false, Bool.false_eq_true, Bool.true_eq_false, if_true, if_false, decide_true, decide_false, D.int.injEq, D.bl.injEq, D.ref.injEq, exists_and_left, isi_seq hv, isS, isRun, and_self]))
end K14

end
section
set_option Elab.async false
set_option linter.all false
set_option maxRecDepth 100000
set_option maxHeartbeats 4000000
namespace K14
open PySem PySem.Spec PyProof.Rows L2 Ms
/-! ### refusals -/
theorem counts_e0 {s one other : D} {bx : Sto} (h : m_is_source [s] bx = .ok (.bl false) bx) : m_counts [s, one, other] bx = .err "Refused" s bx := W.eqE (by
  unfold m_counts S_counts N_counts
  simp only [WS_seq, WS_if, WS_set, WS_ret, WS_drop, WS_raise, WS_next, WS_unp, WS_par, WS_for, W_B, W_f1, W_f2, W_fA, W_cons, W_pur, W_var, W_not, W_ifT, W_ifB, W_call, W_callK, W_chain, W_wk, W_sl, W_po, W_poN, W_ok, W_err, W_noErr, W_fnD, ev_plus, ev_sub, ev_iB, ev_toB, ev_not, ev_neg, ev_isN, ev_notN, ev_isB, ev_int, ev_abs, ev_max, ev_min, ev_eqI, ev_neI, Ms.isNon, Option.some.injEq, exists_eq_left', List.getElem?_cons_zero, List.getElem?_cons_succ, List.set_cons_zero, List.set_cons_succ, List.map_cons, List.map_nil, List.cons_append, List.nil_append, List.length_cons, List.length_nil, List.reduceReplicate, Nat.reduceAdd, Nat.reduceSub, Bool.not_true, Bool.not_false, Bool.false_eq_true, Bool.true_eq_false, if_true, if_false, decide_true, decide_false, D.int.injEq, D.bl.injEq, D.ref.injEq, exists_and_left, needS' h, and_self])
theorem counts_e1 {s one other : D} {bx : Sto} (h : m_is_source [s] bx = .ok (.bl true) bx) (h1 : one.pure = true) (k : isMk one = false) : m_counts [s, one, other] bx = .err "Refused" one bx := W.eqE (by
  unfold m_counts S_counts N_counts
  simp only [WS_seq, WS_if, WS_set, WS_ret, WS_drop, WS_raise, WS_next, WS_unp, WS_par, WS_for, W_B, W_f1, W_f2, W_fA, W_cons, W_pur, W_var, W_not, W_ifT, W_ifB, W_call, W_callK, W_chain, W_wk, W_sl, W_po, W_poN, W_ok, W_err, W_noErr, W_fnD, ev_plus, ev_sub, ev_iB, ev_toB, ev_not, ev_neg, ev_isN, ev_notN, ev_isB, ev_int, ev_abs, ev_max, ev_min, ev_eqI, ev_neI, Ms.isNon, Option.some.injEq, exists_eq_left', List.getElem?_cons_zero, List.getElem?_cons_succ, List.set_cons_zero, List.set_cons_succ, List.map_cons, List.map_nil, List.cons_append, List.nil_append, List.length_cons, List.length_nil, List.reduceReplicate, Nat.reduceAdd, Nat.reduceSub, Bool.not_true, Bool.not_false, Bool.false_eq_true, Bool.true_eq_false, if_true, if_false, decide_true, decide_false, D.int.injEq, D.bl.injEq, D.ref.injEq, exists_and_left, needS h, needM' h1 k, and_self])
theorem counts_e2 {s one other : D} {bx : Sto} (h : m_is_source [s] bx = .ok (.bl true) bx) (h1 : one.pure = true) (k : isMk one = true) (h2 : other.pure = true) (k2 : isMk other = false) : m_counts [s, one, other] bx = .err "Refused" other bx := W.eqE (by
  unfold m_counts S_counts N_counts
  simp only [WS_seq, WS_if, WS_set, WS_ret, WS_drop, WS_raise, WS_next, WS_unp, WS_par, WS_for, W_B, W_f1, W_f2, W_fA, W_cons, W_pur, W_var, W_not, W_ifT, W_ifB, W_call, W_callK, W_chain, W_wk, W_sl, W_po, W_poN, W_ok, W_err, W_noErr, W_fnD, ev_plus, ev_sub, ev_iB, ev_toB, ev_not, ev_neg, ev_isN, ev_notN, ev_isB, ev_int, ev_abs, ev_max, ev_min, ev_eqI, ev_neI, Ms.isNon, Option.some.injEq, exists_eq_left', List.getElem?_cons_zero, List.getElem?_cons_succ, List.set_cons_zero, List.set_cons_succ, List.map_cons, List.map_nil, List.cons_append, List.nil_append, List.length_cons, List.length_nil, List.reduceReplicate, Nat.reduceAdd, Nat.reduceSub, Bool.not_true, Bool.not_false, Bool.false_eq_true, Bool.true_eq_false, if_true, if_false, decide_true, decide_false, D.int.injEq, D.bl.injEq, D.ref.injEq, exists_and_left, needS h, needM h1 k, needM' h2 k2, and_self])
theorem counts_e3 {s one other : D} {n1 t1 n2 t2 : Int} {bx : Sto} (h : m_is_source [s] bx = .ok (.bl true) bx) (h1 : Pr one n1 t1) (k : isMk one = true) (h2 : Pr other n2 t2) (k2 : isMk other = true) (ht : t2 ≤ t1) : m_counts [s, one, other] bx = .err "Refused" other bx := W.eqE (by
  unfold m_counts S_counts N_counts
  simp only [WS_seq, WS_if, WS_set, WS_ret, WS_drop, WS_raise, WS_next, WS_unp, WS_par, WS_for, W_B, W_f1, W_f2, W_fA, W_cons, W_pur, W_var, W_not, W_ifT, W_ifB, W_call, W_callK, W_chain, W_wk, W_sl, W_po, W_poN, W_ok, W_err, W_noErr, W_fnD, ev_plus, ev_sub, ev_iB, ev_toB, ev_not, ev_neg, ev_isN, ev_notN, ev_isB, ev_int, ev_abs, ev_max, ev_min, ev_eqI, ev_neI, Ms.isNon, Option.some.injEq, exists_eq_left', List.getElem?_cons_zero, List.getElem?_cons_succ, List.set_cons_zero, List.set_cons_succ, List.map_cons, List.map_nil, List.cons_append, List.nil_append, List.length_cons, List.length_nil, List.reduceReplicate, Nat.reduceAdd, Nat.reduceSub, Bool.not_true, Bool.not_false, Bool.false_eq_true, Bool.true_eq_false, if_true, if_false, decide_true, decide_false, D.int.injEq, D.bl.injEq, D.ref.injEq, exists_and_left, needS h, needM h1.pu k, needM h2.pu k2, h1.ix1, h2.ix1, ht, and_self])
theorem ahead_e0 {s one : D} {bx : Sto} (h : m_is_source [s] bx = .ok (.bl false) bx) : m_ahead_counts [s, one] bx = .err "Refused" s bx := W.eqE (by
  unfold m_ahead_counts S_ahead_counts N_ahead_counts
  simp only [WS_seq, WS_if, WS_set, WS_ret, WS_drop, WS_raise, WS_next, WS_unp, WS_par, WS_for, W_B, W_f1, W_f2, W_fA, W_cons, W_pur, W_var, W_not, W_ifT, W_ifB, W_call, W_callK, W_chain, W_wk, W_sl, W_po, W_poN, W_ok, W_err, W_noErr, W_fnD, ev_plus, ev_sub, ev_iB, ev_toB, ev_not, ev_neg, ev_isN, ev_notN, ev_isB, ev_int, ev_abs, ev_max, ev_min, ev_eqI, ev_neI, Ms.isNon, Option.some.injEq, exists_eq_left', List.getElem?_cons_zero, List.getElem?_cons_succ, List.set_cons_zero, List.set_cons_succ, List.map_cons, List.map_nil, List.cons_append, List.nil_append, List.length_cons, List.length_nil, List.reduceReplicate, Nat.reduceAdd, Nat.reduceSub, Bool.not_true, Bool.not_false, Bool.false_eq_true, Bool.true_eq_false, if_true, if_false, decide_true, decide_false, D.int.injEq, D.bl.injEq, D.ref.injEq, exists_and_left, needS' h, and_self])
theorem ahead_e1 {s one : D} {bx : Sto} (h : m_is_source [s] bx = .ok (.bl true) bx) (h1 : one.pure = true) (k : isMk one = false) : m_ahead_counts [s, one] bx = .err "Refused" one bx := W.eqE (by
  unfold m_ahead_counts S_ahead_counts N_ahead_counts
  simp only [WS_seq, WS_if, WS_set, WS_ret, WS_drop, WS_raise, WS_next, WS_unp, WS_par, WS_for, W_B, W_f1, W_f2, W_fA, W_cons, W_pur, W_var, W_not, W_ifT, W_ifB, W_call, W_callK, W_chain, W_wk, W_sl, W_po, W_poN, W_ok, W_err, W_noErr, W_fnD, ev_plus, ev_sub, ev_iB, ev_toB, ev_not, ev_neg, ev_isN, ev_notN, ev_isB, ev_int, ev_abs, ev_max, ev_min, ev_eqI, ev_neI, Ms.isNon, Option.some.injEq, exists_eq_left', List.getElem?_cons_zero, List.getElem?_cons_succ, List.set_cons_zero, List.set_cons_succ, List.map_cons, List.map_nil, List.cons_append, List.nil_append, List.length_cons, List.length_nil, List.reduceReplicate, Nat.reduceAdd, Nat.reduceSub, Bool.not_true, Bool.not_false, Bool.false_eq_true, Bool.true_eq_false, if_true, if_false, decide_true, decide_false, D.int.injEq, D.bl.injEq, D.ref.injEq, exists_and_left, needS h, needM' h1 k, and_self])
theorem between_e {s one other x y : D} {bx : Sto} (h : m_counts [s, one, other] bx = .err "Refused" x bx) : m_run_between [s, one, other, y] bx = .err "Refused" x bx := W.eqE (by
  unfold m_run_between S_run_between N_run_between
  simp only [WS_seq, WS_if, WS_set, WS_ret, WS_drop, WS_raise, WS_next, WS_unp, WS_par, WS_for, W_B, W_f1, W_f2, W_fA, W_cons, W_pur, W_var, W_not, W_ifT, W_ifB, W_call, W_callK, W_chain, W_wk, W_sl, W_po, W_poN, W_ok, W_err, W_noErr, W_fnD, ev_plus, ev_sub, ev_iB, ev_toB, ev_not, ev_neg, ev_isN, ev_notN, ev_isB, ev_int, ev_abs, ev_max, ev_min, ev_eqI, ev_neI, Ms.isNon, Option.some.injEq, exists_eq_left', List.getElem?_cons_zero, List.getElem?_cons_succ, List.set_cons_zero, List.set_cons_succ, List.map_cons, List.map_nil, List.cons_append, List.nil_append, List.length_cons, List.length_nil, List.reduceReplicate, Nat.reduceAdd, Nat.reduceSub, Bool.not_true, Bool.not_false, Bool.false_eq_true, Bool.true_eq_false, if_true, if_false, decide_true, decide_false, D.int.injEq, D.bl.injEq, D.ref.injEq, exists_and_left, h, and_self])
theorem to_e {s one x y : D} {bx : Sto} (h : m_ahead_counts [s, one] bx = .err "Refused" x bx) : m_run_to [s, one, y] bx = .err "Refused" x bx := W.eqE (by
  unfold m_run_to S_run_to N_run_to
  simp only [WS_seq, WS_if, WS_set, WS_ret, WS_drop, WS_raise, WS_next, WS_unp, WS_par, WS_for, W_B, W_f1, W_f2, W_fA, W_cons, W_pur, W_var, W_not, W_ifT, W_ifB, W_call, W_callK, W_chain, W_wk, W_sl, W_po, W_poN, W_ok, W_err, W_noErr, W_fnD, ev_plus, ev_sub, ev_iB, ev_toB, ev_not, ev_neg, ev_isN, ev_notN, ev_isB, ev_int, ev_abs, ev_max, ev_min, ev_eqI, ev_neI, Ms.isNon, Option.some.injEq, exists_eq_left', List.getElem?_cons_zero, List.getElem?_cons_succ, List.set_cons_zero, List.set_cons_succ, List.map_cons, List.map_nil, List.cons_append, List.nil_append, List.length_cons, List.length_nil, List.reduceReplicate, Nat.reduceAdd, Nat.reduceSub, Bool.not_true, Bool.not_false, Bool.false_eq_true, Bool.true_eq_false, if_true, if_false, decide_true, decide_false, D.int.injEq, D.bl.injEq, D.ref.injEq, exists_and_left, h, and_self])
theorem holds_e {s v : D} {bx : Sto} (h : m_is_source [s] bx = .ok (.bl false) bx) : m_run_holds [s, v] bx = .err "Refused" s bx := W.eqE (by
  unfold m_run_holds S_run_holds N_run_holds
  simp only [WS_seq, WS_if, WS_set, WS_ret, WS_drop, WS_raise, WS_next, WS_unp, WS_par, WS_for, W_B, W_f1, W_f2, W_fA, W_cons, W_pur, W_var, W_not, W_ifT, W_ifB, W_call, W_callK, W_chain, W_wk, W_sl, W_po, W_poN, W_ok, W_err, W_noErr, W_fnD, ev_plus, ev_sub, ev_iB, ev_toB, ev_not, ev_neg, ev_isN, ev_notN, ev_isB, ev_int, ev_abs, ev_max, ev_min, ev_eqI, ev_neI, Ms.isNon, Option.some.injEq, exists_eq_left', List.getElem?_cons_zero, List.getElem?_cons_succ, List.set_cons_zero, List.set_cons_succ, List.map_cons, List.map_nil, List.cons_append, List.nil_append, List.length_cons, List.length_nil, List.reduceReplicate, Nat.reduceAdd, Nat.reduceSub, Bool.not_true, Bool.not_false, Bool.false_eq_true, Bool.true_eq_false, if_true, if_false, decide_true, decide_false, D.int.injEq, D.bl.injEq, D.ref.injEq, exists_and_left, needS' h, and_self])
/-! ### the drawn source -/
abbrev Bx (b : Nat) (st : Sto) : Prop := ∃ g r : Int, st[b]? = some (.lst [.int g, .int r])
theorem source_ok {b : Nat} {st : Sto} (hb : Bx b st) : W (m__law_source [.ref b] st) (fun r st' => (∃ low high least most gap pause, r = .tup [.int low, .int high, .int least, .int most, .int gap, .int pause] ∧ srcI low high least most gap pause ∧ pause ≤ 13) ∧ Ext b st st' ∧ st'.length = st.length) NoE := by
  unfold m__law_source S__law_source N__law_source
  simp only [WS_seq, WS_if, WS_set, WS_ret, WS_drop, WS_raise, WS_next, WS_unp, WS_par, WS_for, W_B, W_f1, W_f2, W_fA, W_cons, W_pur, W_var, W_not, W_ifT, W_ifB, W_call, W_callK, W_chain, W_wk, W_sl, W_po, W_poN, W_ok, W_err, W_noErr, W_fnD, ev_plus, ev_sub, ev_iB, ev_toB, ev_not, ev_neg, ev_isN, ev_notN, ev_isB, ev_int, ev_abs, ev_max, ev_min, ev_eqI, ev_neI, Ms.isNon, Option.some.injEq, exists_eq_left', List.getElem?_cons_zero, List.getElem?_cons_succ, List.set_cons_zero, List.set_cons_succ, List.map_cons, List.map_nil, List.cons_append, List.nil_append, List.length_cons, List.length_nil, List.reduceReplicate, Nat.reduceAdd, Nat.reduceSub, Bool.not_true, Bool.not_false, Bool.false_eq_true, Bool.true_eq_false, if_true, if_false, decide_true, decide_false, D.int.injEq, D.bl.injEq, D.ref.injEq, exists_and_left]
  refine (take_ok hb (by decide) (by decide)).to fun r1 s1 ⟨i1, e1, a1, b1, x1, l1⟩ => ?_
  subst e1
  simp only [WS_seq, WS_if, WS_set, WS_ret, WS_drop, WS_raise, WS_next, WS_unp, WS_par, WS_for, W_B, W_f1, W_f2, W_fA, W_cons, W_pur, W_var, W_not, W_ifT, W_ifB, W_call, W_callK, W_chain, W_wk, W_sl, W_po, W_poN, W_ok, W_err, W_noErr, W_fnD, ev_plus, ev_sub, ev_iB, ev_toB, ev_not, ev_neg, ev_isN, ev_notN, ev_isB, ev_int, ev_abs, ev_max, ev_min, ev_eqI, ev_neI, Ms.isNon, Option.some.injEq, exists_eq_left', List.getElem?_cons_zero, List.getElem?_cons_succ, List.set_cons_zero, List.set_cons_succ, List.map_cons, List.map_nil, List.cons_append, List.nil_append, List.length_cons, List.length_nil, List.reduceReplicate, Nat.reduceAdd, Nat.reduceSub, Bool.not_true, Bool.not_false, Bool.false_eq_true, Bool.true_eq_false, if_true, if_false, decide_true, decide_false, D.int.injEq, D.bl.injEq, D.ref.injEq, exists_and_left, ev_lst, Nat.reduceLeDiff]
  refine (pick_ok x1.bx (.inl rfl) (by simp) (by decide)).to fun r2 s2 ⟨m2, x2, l2⟩ => ?_
  have e2 : ∃ i, r2 = .int i ∧ 0 ≤ i ∧ i ≤ 9 := by
    simp only [List.mem_cons, List.not_mem_nil, or_false] at m2
    rcases m2 with rfl | rfl | rfl | rfl | rfl <;> exact ⟨_, rfl, by decide, by decide⟩
  obtain ⟨i2, rfl, a2, b2⟩ := e2
  simp only [WS_seq, WS_if, WS_set, WS_ret, WS_drop, WS_raise, WS_next, WS_unp, WS_par, WS_for, W_B, W_f1, W_f2, W_fA, W_cons, W_pur, W_var, W_not, W_ifT, W_ifB, W_call, W_callK, W_chain, W_wk, W_sl, W_po, W_poN, W_ok, W_err, W_noErr, W_fnD, ev_plus, ev_sub, ev_iB, ev_toB, ev_not, ev_neg, ev_isN, ev_notN, ev_isB, ev_int, ev_abs, ev_max, ev_min, ev_eqI, ev_neI, Ms.isNon, Option.some.injEq, exists_eq_left', List.getElem?_cons_zero, List.getElem?_cons_succ, List.set_cons_zero, List.set_cons_succ, List.map_cons, List.map_nil, List.cons_append, List.nil_append, List.length_cons, List.length_nil, List.reduceReplicate, Nat.reduceAdd, Nat.reduceSub, Bool.not_true, Bool.not_false, Bool.false_eq_true, Bool.true_eq_false, if_true, if_false, decide_true, decide_false, D.int.injEq, D.bl.injEq, D.ref.injEq, exists_and_left]
  refine (take_ok x2.bx (by decide) (by decide)).to fun r3 s3 ⟨i3, e3, a3, b3, x3, l3⟩ => ?_
  subst e3
  simp only [WS_seq, WS_if, WS_set, WS_ret, WS_drop, WS_raise, WS_next, WS_unp, WS_par, WS_for, W_B, W_f1, W_f2, W_fA, W_cons, W_pur, W_var, W_not, W_ifT, W_ifB, W_call, W_callK, W_chain, W_wk, W_sl, W_po, W_poN, W_ok, W_err, W_noErr, W_fnD, ev_plus, ev_sub, ev_iB, ev_toB, ev_not, ev_neg, ev_isN, ev_notN, ev_isB, ev_int, ev_abs, ev_max, ev_min, ev_eqI, ev_neI, Ms.isNon, Option.some.injEq, exists_eq_left', List.getElem?_cons_zero, List.getElem?_cons_succ, List.set_cons_zero, List.set_cons_succ, List.map_cons, List.map_nil, List.cons_append, List.nil_append, List.length_cons, List.length_nil, List.reduceReplicate, Nat.reduceAdd, Nat.reduceSub, Bool.not_true, Bool.not_false, Bool.false_eq_true, Bool.true_eq_false, if_true, if_false, decide_true, decide_false, D.int.injEq, D.bl.injEq, D.ref.injEq, exists_and_left]
  refine (take_ok x3.bx (by decide) (by decide)).to fun r4 s4 ⟨i4, e4, a4, b4, x4, l4⟩ => ?_
  subst e4
  refine ⟨_, _, rfl, ?_⟩
  refine (take_ok x4.bx (by decide) (by decide)).to fun r5 s5 ⟨i5, e5, a5, b5, x5, l5⟩ => ?_
  subst e5
  have p : 0 < (1 + i3) * (1 + i1) := Int.mul_pos (by omega) (by omega)
  have p2 : (1 + i3) * (1 + i1) ≤ 3 * 4 := Int.mul_le_mul (by omega) (by omega) (by omega) (by omega)
  simp only [WS_seq, WS_if, WS_set, WS_ret, WS_drop, WS_raise, WS_next, WS_unp, WS_par, WS_for, W_B, W_f1, W_f2, W_fA, W_cons, W_pur, W_var, W_not, W_ifT, W_ifB, W_call, W_callK, W_chain, W_wk, W_sl, W_po, W_poN, W_ok, W_err, W_noErr, W_fnD, ev_plus, ev_sub, ev_iB, ev_toB, ev_not, ev_neg, ev_isN, ev_notN, ev_isB, ev_int, ev_abs, ev_max, ev_min, ev_eqI, ev_neI, Ms.isNon, Option.some.injEq, exists_eq_left', List.getElem?_cons_zero, List.getElem?_cons_succ, List.set_cons_zero, List.set_cons_succ, List.map_cons, List.map_nil, List.cons_append, List.nil_append, List.length_cons, List.length_nil, List.reduceReplicate, Nat.reduceAdd, Nat.reduceSub, Bool.not_true, Bool.not_false, Bool.false_eq_true, Bool.true_eq_false, if_true, if_false, decide_true, decide_false, D.int.injEq, D.bl.injEq, D.ref.injEq, exists_and_left, ev_mulL (show -(2 ^ 64) < 1 + i3 ∧ 1 + i3 < 2 ^ 64 by omega)]
  refine (take_ok x5.bx p (by omega)).to fun r6 s6 ⟨i6, e6, a6, b6, x6, l6⟩ => ?_
  subst e6
  simp only [WS_seq, WS_if, WS_set, WS_ret, WS_drop, WS_raise, WS_next, WS_unp, WS_par, WS_for, W_B, W_f1, W_f2, W_fA, W_cons, W_pur, W_var, W_not, W_ifT, W_ifB, W_call, W_callK, W_chain, W_wk, W_sl, W_po, W_poN, W_ok, W_err, W_noErr, W_fnD, ev_plus, ev_sub, ev_iB, ev_toB, ev_not, ev_neg, ev_isN, ev_notN, ev_isB, ev_int, ev_abs, ev_max, ev_min, ev_eqI, ev_neI, Ms.isNon, Option.some.injEq, exists_eq_left', List.getElem?_cons_zero, List.getElem?_cons_succ, List.set_cons_zero, List.set_cons_succ, List.map_cons, List.map_nil, List.cons_append, List.nil_append, List.length_cons, List.length_nil, List.reduceReplicate, Nat.reduceAdd, Nat.reduceSub, Bool.not_true, Bool.not_false, Bool.false_eq_true, Bool.true_eq_false, if_true, if_false, decide_true, decide_false, D.int.injEq, D.bl.injEq, D.ref.injEq, exists_and_left, ev_tup, Nat.reduceLeDiff]
  refine ⟨⟨_, _, _, _, _, _, rfl, ⟨?_, ?_, ?_, ?_, ?_, ?_, ?_, ?_, ?_, ?_, ?_, ?_, ?_⟩, ?_⟩, ((((x1.trans x2).trans x3).trans x4).trans x5).trans x6, by omega⟩ <;> omega
end K14

end
section
set_option Elab.async false
set_option linter.all false
set_option maxRecDepth 100000
set_option maxHeartbeats 4000000
namespace K14
open PySem PySem.Spec PyProof.Rows L2 Ms
/-! ### the drawn run -/
def mkAt (ts : Nat → Int) (j : Nat) : D := .tup [.int ((j : Int) % 256), .int (ts j)]
def runL (ts : Nat → Int) (n : Nat) : List D := (List.range n).map (mkAt ts)
structure Ts (gap pause : Int) (n : Nat) (ts : Nat → Int) : Prop where
  a : 0 ≤ ts 0
  b : ts 0 ≤ 19
  c : ∀ j, j + 1 < n → gap ≤ ts (j + 1) - ts j ∧ ts (j + 1) - ts j ≤ pause
theorem runL_len {ts : Nat → Int} {n : Nat} : (runL ts n).length = n := by simp [runL]
theorem runL_get {ts : Nat → Int} {n j : Nat} (h : j < n) : (runL ts n)[j]? = some (mkAt ts j) := by simp [runL, h]
theorem runL_mem {ts : Nat → Int} {n : Nat} {d : D} (h : d ∈ runL ts n) : ∃ j, j < n ∧ d = mkAt ts j := by
  unfold runL at h
  obtain ⟨j, hj, rfl⟩ := List.mem_map.mp h
  exact ⟨j, List.mem_range.mp hj, rfl⟩
theorem run_ok {b : Nat} {st : Sto} {s : D} {low high least most gap pause : Int} (hb : Bx b st) (hs : Six s low high least most gap pause) (hg : gap ≤ pause) (hp : pause - gap ≤ 1000) {n : Int} (hn : 0 ≤ n) (hn2 : n ≤ 1000) :
    W (m__law_run [.ref b, s, .int n] st) (fun r st' => (∃ ts, r = .lst (runL ts n.toNat) ∧ Ts gap pause n.toNat ts) ∧ Ext b st st') NoE := by
  have hlt : b < st.length := by obtain ⟨g, r, hb⟩ := hb; exact (List.getElem?_eq_some_iff.mp hb).1
  unfold m__law_run S__law_run N__law_run
  simp only [WS_seq, WS_if, WS_set, WS_ret, WS_drop, WS_raise, WS_next, WS_unp, WS_par, WS_for, W_B, W_f1, W_f2, W_fA, W_cons, W_pur, W_var, W_not, W_ifT, W_ifB, W_call, W_callK, W_chain, W_wk, W_sl, W_po, W_poN, W_ok, W_err, W_noErr, W_fnD, ev_plus, ev_sub, ev_iB, ev_toB, ev_not, ev_neg, ev_isN, ev_notN, ev_isB, ev_int, ev_abs, ev_max, ev_min, ev_eqI, ev_neI, Ms.isNon, Option.some.injEq, exists_eq_left', List.getElem?_cons_zero, List.getElem?_cons_succ, List.set_cons_zero, List.set_cons_succ, List.map_cons, List.map_nil, List.cons_append, List.nil_append, List.length_cons, List.length_nil, List.reduceReplicate, Nat.reduceAdd, Nat.reduceSub, Bool.not_true, Bool.not_false, Bool.false_eq_true, Bool.true_eq_false, if_true, if_false, decide_true, decide_false, D.int.injEq, D.bl.injEq, D.ref.injEq, exists_and_left, W_new, W_rg1]
  refine (take_ok hb (by decide) (by decide)).to fun r1 s1 ⟨i1, e1, a1, b1, x1, l1⟩ => ?_
  subst e1
  refine ⟨by decide, _, _, rfl, ?_⟩
  simp only [WS_seq, WS_if, WS_set, WS_ret, WS_drop, WS_raise, WS_next, WS_unp, WS_par, WS_for, W_B, W_f1, W_f2, W_fA, W_cons, W_pur, W_var, W_not, W_ifT, W_ifB, W_call, W_callK, W_chain, W_wk, W_sl, W_po, W_poN, W_ok, W_err, W_noErr, W_fnD, ev_plus, ev_sub, ev_iB, ev_toB, ev_not, ev_neg, ev_isN, ev_notN, ev_isB, ev_int, ev_abs, ev_max, ev_min, ev_eqI, ev_neI, Ms.isNon, Option.some.injEq, exists_eq_left', List.getElem?_cons_zero, List.getElem?_cons_succ, List.set_cons_zero, List.set_cons_succ, List.map_cons, List.map_nil, List.cons_append, List.nil_append, List.length_cons, List.length_nil, List.reduceReplicate, Nat.reduceAdd, Nat.reduceSub, Bool.not_true, Bool.not_false, Bool.false_eq_true, Bool.true_eq_false, if_true, if_false, decide_true, decide_false, D.int.injEq, D.bl.injEq, D.ref.injEq, exists_and_left, List.cons.injEq, and_true, exists_eq_left']
  have xc : Ext b st (s1 ++ [.lst []]) := by
    refine ⟨by rw [List.length_append]; omega, ?_, fun k h1 h2 => ?_⟩
    · obtain ⟨g, r, e⟩ := x1.bx
      exact ⟨g, r, by rw [List.getElem?_append_left (by omega)]; exact e⟩
    · rw [List.getElem?_append_left (by omega)]
      exact x1.sm k h1 h2
  refine ⟨by omega, by omega, ?_⟩
  refine for_rule (fun i δ bx' => Ext b st bx' ∧ bx'.length = st.length + 1 ∧ ∃ ts x5, bx'[st.length]? = some (.lst (runL ts i)) ∧ 0 ≤ ts 0 ∧ ts 0 ≤ 19 ∧ (∀ j, j < i → gap ≤ ts (j + 1) - ts j ∧ ts (j + 1) - ts j ≤ pause) ∧ δ = [some (.ref b), some s, some (.int n), some (.int (ts i)), some (.ref st.length), x5]) ?_ ?_ ?_
  · refine ⟨xc, by rw [List.length_append, l1]; rfl, fun _ => i1, none, ?_, a1, by show i1 ≤ 19; omega, fun _ h => (nomatch h), by rw [l1]⟩
    rw [← l1, List.getElem?_append_right (Nat.le_refl _), Nat.sub_self]
    rfl
  · rintro δ bx' ⟨x, hl, ts, x5, hc, ha, hbb, hst, rfl⟩
    have e : (rgl 0 n.toNat).length = n.toNat := rgl_len
    rw [e] at hc hst
    simp only [WS_seq, WS_if, WS_set, WS_ret, WS_drop, WS_raise, WS_next, WS_unp, WS_par, WS_for, W_B, W_f1, W_f2, W_fA, W_cons, W_pur, W_var, W_not, W_ifT, W_ifB, W_call, W_callK, W_chain, W_wk, W_sl, W_po, W_poN, W_ok, W_err, W_noErr, W_fnD, ev_plus, ev_sub, ev_iB, ev_toB, ev_not, ev_neg, ev_isN, ev_notN, ev_isB, ev_int, ev_abs, ev_max, ev_min, ev_eqI, ev_neI, Ms.isNon, Option.some.injEq, exists_eq_left', List.getElem?_cons_zero, List.getElem?_cons_succ, List.set_cons_zero, List.set_cons_succ, List.map_cons, List.map_nil, List.cons_append, List.nil_append, List.length_cons, List.length_nil, List.reduceReplicate, Nat.reduceAdd, Nat.reduceSub, Bool.not_true, Bool.not_false, Bool.false_eq_true, Bool.true_eq_false, if_true, if_false, decide_true, decide_false, D.int.injEq, D.bl.injEq, D.ref.injEq, exists_and_left, WS_frz]
    refine ⟨_, hc, ⟨ts, rfl, ha, hbb, fun j hj => hst j (by omega)⟩, ?_⟩
    refine ⟨by rw [List.length_set]; omega, ?_, fun k h1 h2 => ?_⟩
    · obtain ⟨g, r, e⟩ := x.bx
      exact ⟨g, r, by rw [List.getElem?_set_ne (by omega)]; exact e⟩
    · rw [List.getElem?_set_ne (by omega)]
      exact x.sm k h1 h2
  · rintro i d δ bx' hd ⟨x, hl, ts, x5, hc, ha, hbb, hst, rfl⟩
    have hi := (List.getElem?_eq_some_iff.mp hd).1
    rw [rgl_len] at hi
    have e := rgl_get hd
    subst e
    refine ⟨_, rfl, ?_⟩
    simp only [WS_seq, WS_if, WS_set, WS_ret, WS_drop, WS_raise, WS_next, WS_unp, WS_par, WS_for, W_B, W_f1, W_f2, W_fA, W_cons, W_pur, W_var, W_not, W_ifT, W_ifB, W_call, W_callK, W_chain, W_wk, W_sl, W_po, W_poN, W_ok, W_err, W_noErr, W_fnD, ev_plus, ev_sub, ev_iB, ev_toB, ev_not, ev_neg, ev_isN, ev_notN, ev_isB, ev_int, ev_abs, ev_max, ev_min, ev_eqI, ev_neI, Ms.isNon, Option.some.injEq, exists_eq_left', List.getElem?_cons_zero, List.getElem?_cons_succ, List.set_cons_zero, List.set_cons_succ, List.map_cons, List.map_nil, List.cons_append, List.nil_append, List.length_cons, List.length_nil, List.reduceReplicate, Nat.reduceAdd, Nat.reduceSub, Bool.not_true, Bool.not_false, Bool.false_eq_true, Bool.true_eq_false, if_true, if_false, decide_true, decide_false, D.int.injEq, D.bl.injEq, D.ref.injEq, exists_and_left, WS_app, hs.ix4, hs.ix5, ev_mod (show (0 : Int) < 256 by decide), ev_tup, Nat.reduceLeDiff]
    refine ⟨_, hc, ?_⟩
    refine ⟨_, hc, by rw [runL_len]; omega, ?_⟩
    have hcl : st.length < bx'.length := by omega
    have hbx : Bx b (bx'.set st.length (.lst (runL ts i ++ [D.tup [.int ((0 + (i : Int)) % 256), .int (ts i)]]))) := by
      obtain ⟨g, r, e⟩ := x.bx
      exact ⟨g, r, by rw [List.getElem?_set_ne (by omega)]; exact e⟩
    refine (take_ok hbx (by omega) (by omega)).to fun r2 s2 ⟨i2, e2, a2, b2, x2, l2⟩ => ?_
    subst e2
    simp only [WS_seq, WS_if, WS_set, WS_ret, WS_drop, WS_raise, WS_next, WS_unp, WS_par, WS_for, W_B, W_f1, W_f2, W_fA, W_cons, W_pur, W_var, W_not, W_ifT, W_ifB, W_call, W_callK, W_chain, W_wk, W_sl, W_po, W_poN, W_ok, W_err, W_noErr, W_fnD, ev_plus, ev_sub, ev_iB, ev_toB, ev_not, ev_neg, ev_isN, ev_notN, ev_isB, ev_int, ev_abs, ev_max, ev_min, ev_eqI, ev_neI, Ms.isNon, Option.some.injEq, exists_eq_left', List.getElem?_cons_zero, List.getElem?_cons_succ, List.set_cons_zero, List.set_cons_succ, List.map_cons, List.map_nil, List.cons_append, List.nil_append, List.length_cons, List.length_nil, List.reduceReplicate, Nat.reduceAdd, Nat.reduceSub, Bool.not_true, Bool.not_false, Bool.false_eq_true, Bool.true_eq_false, if_true, if_false, decide_true, decide_false, D.int.injEq, D.bl.injEq, D.ref.injEq, exists_and_left]
    rw [List.length_set] at l2
    refine ⟨⟨by omega, x2.bx, fun k h1 h2 => ?_⟩, by omega, fun j => if j ≤ i then ts j else ts i + gap + i2, ?_, ?_, ?_, fun j hj => ?_, some (.int (0 + (i : Int))), ?_⟩
    · rw [x2.sm k (by rw [List.length_set]; omega) h2, List.getElem?_set_ne (by omega)]
      exact x.sm k h1 h2
    · rw [x2.sm st.length (by rw [List.length_set]; omega) (by omega), List.getElem?_set_self hcl]
      congr 2
      unfold runL
      rw [List.range_succ, List.map_append]
      congr 1
      · refine List.map_congr_left fun j hj => ?_
        have := List.mem_range.mp hj
        unfold mkAt
        dsimp only
        rw [if_pos (by omega)]
      · unfold mkAt
        simp
    · simp [ha]
    · simp [hbb]
    · by_cases z : j = i
      · subst z
        dsimp only
        rw [if_neg (by omega), if_pos (Nat.le_refl _)]
        omega
      · have := hst j (by omega)
        dsimp only
        rw [if_pos (by omega), if_pos (by omega)]
        exact this
    · dsimp only
      rw [if_neg (by omega)]
end K14

end
section
set_option Elab.async false
set_option linter.all false
set_option maxRecDepth 100000
set_option maxHeartbeats 4000000
namespace K14
open PySem PySem.Spec PyProof.Rows L2 Ms
/-! ### a bent run -/
def Bent (v : D) : Prop := v.pure = true ∧ ∀ l, (v = .tup l ∨ v = .lst l) → l.length ≤ 1000000 ∧ ∀ d ∈ l, okM d
theorem pureAll_of : ∀ {l : List D}, (∀ d ∈ l, d.pure = true) → D.pureAll l = true
  | [], _ => rfl
  | d :: r, h => by
    show (d.pure && D.pureAll r) = true
    rw [h d List.mem_cons_self, pureAll_of fun x hx => h x (List.mem_cons_of_mem _ hx)]
    rfl
theorem Bent.lst {l : List D} (h : ∀ d ∈ l, okM d ∧ d.pure = true) (hl : l.length ≤ 1000000) : Bent (.lst l) := ⟨pureAll_of fun d hd => (h d hd).2, fun m hm => by
  rcases hm with e | e
  · cases e
  · cases e
    exact ⟨hl, fun d hd => (h d hd).1⟩⟩
theorem cut_mem {l : List D} {lo hi : Option Int} {d : D} (h : d ∈ Ms.cutD l lo hi) : d ∈ l := List.mem_of_mem_drop (List.mem_of_mem_take h)
theorem cut_len {l : List D} {lo hi : Option Int} : (Ms.cutD l lo hi).length ≤ l.length := by
  unfold Ms.cutD
  rw [List.length_take, List.length_drop]
  omega
theorem ev_slL {l : List D} {lo hi : Option Int} {bx : Sto} : cSl bx (.lst l) lo hi = some (.lst (Ms.cutD l lo hi)) := rfl
theorem ev_plusL {l m : List D} {bx : Sto} (h : l.length + m.length ≤ 1000000) : cPlus bx (.lst l) (.lst m) = some (.lst (l ++ m)) := if_pos h
theorem ok_pair {a t : Int} : okM (.tup [.int a, .int t]) ∧ (D.tup [.int a, .int t]).pure = true := ⟨.inr ⟨_, .inl rfl, by simp⟩, rfl⟩
theorem bent_ok {b : Nat} {st : Sto} {l : List D} (hb : Bx b st) (h0 : 0 < l.length) (h8 : l.length ≤ 8) (hl : ∀ d ∈ l, ∃ a t, d = .tup [.int a, .int t]) : W (m__law_bent [.ref b, .lst l] st) (fun v st' => Bent v ∧ Ext b st st' ∧ st'.length = st.length) NoE := by
  have hok : ∀ d ∈ l, okM d ∧ d.pure = true := fun d hd => by
    obtain ⟨a, t, rfl⟩ := hl d hd
    exact ok_pair
  have cl1 := @cut_len l
  unfold m__law_bent S__law_bent N__law_bent
  simp only [WS_seq, WS_if, WS_set, WS_ret, WS_drop, WS_raise, WS_next, WS_unp, WS_par, WS_for, W_B, W_f1, W_f2, W_fA, W_cons, W_pur, W_var, W_not, W_ifT, W_ifB, W_call, W_callK, W_chain, W_wk, W_sl, W_po, W_poN, W_ok, W_err, W_noErr, W_fnD, ev_plus, ev_sub, ev_iB, ev_toB, ev_not, ev_neg, ev_isN, ev_notN, ev_isB, ev_int, ev_abs, ev_max, ev_min, ev_eqI, ev_neI, Ms.isNon, Option.some.injEq, exists_eq_left', List.getElem?_cons_zero, List.getElem?_cons_succ, List.set_cons_zero, List.set_cons_succ, List.map_cons, List.map_nil, List.cons_append, List.nil_append, List.length_cons, List.length_nil, List.reduceReplicate, Nat.reduceAdd, Nat.reduceSub, Bool.not_true, Bool.not_false, Bool.false_eq_true, Bool.true_eq_false, if_true, if_false, decide_true, decide_false, D.int.injEq, D.bl.injEq, D.ref.injEq, exists_and_left, ev_len vs_lst]
  refine (take_ok hb (by omega) (by omega)).to fun r1 s1 ⟨i1, e1, a1, b1, x1, l1⟩ => ?_
  subst e1
  refine (take_ok x1.bx (by decide) (by decide)).to fun r2 s2 ⟨i2, e2, a2, b2, x2, l2⟩ => ?_
  subst e2
  refine ⟨_, _, rfl, ?_⟩
  have hi : i1.toNat < l.length := by omega
  obtain ⟨a, t, e⟩ := hl _ (List.getElem_mem hi)
  have ix : atI l i1 = some (.tup [.int a, .int t]) := atI_int a1 (by rw [List.getElem?_eq_getElem hi, e])
  simp only [WS_seq, WS_if, WS_set, WS_ret, WS_drop, WS_raise, WS_next, WS_unp, WS_par, WS_for, W_B, W_f1, W_f2, W_fA, W_cons, W_pur, W_var, W_not, W_ifT, W_ifB, W_call, W_callK, W_chain, W_wk, W_sl, W_po, W_poN, W_ok, W_err, W_noErr, W_fnD, ev_plus, ev_sub, ev_iB, ev_toB, ev_not, ev_neg, ev_isN, ev_notN, ev_isB, ev_int, ev_abs, ev_max, ev_min, ev_eqI, ev_neI, Ms.isNon, Option.some.injEq, exists_eq_left', List.getElem?_cons_zero, List.getElem?_cons_succ, List.set_cons_zero, List.set_cons_succ, List.map_cons, List.map_nil, List.cons_append, List.nil_append, List.length_cons, List.length_nil, List.reduceReplicate, Nat.reduceAdd, Nat.reduceSub, Bool.not_true, Bool.not_false, Bool.false_eq_true, Bool.true_eq_false, if_true, if_false, decide_true, decide_false, D.int.injEq, D.bl.injEq, D.ref.injEq, exists_and_left, ev_ix vs_lst, ix, vs_tup, Option.bind_some, setAll, ev_tup, ev_lst, Nat.reduceLeDiff]
  refine (pick_ok x2.bx (.inl rfl) (by simp) (by show 7 < 1073741824; decide)).to fun r3 s3 ⟨m3, x3, l3⟩ => ?_
  have ok3 : okM r3 ∧ r3.pure = true := by
    simp only [List.mem_cons, List.not_mem_nil, or_false] at m3
    rcases m3 with rfl | rfl | rfl | rfl | rfl | rfl | rfl
    · exact ok_pair
    · exact ok_pair
    · exact ok_pair
    · exact ⟨.inr ⟨_, .inl rfl, by simp⟩, rfl⟩
    · exact ok_pair
    · exact ⟨.inr ⟨_, .inl rfl, by simp⟩, rfl⟩
    · exact ⟨.inl rfl, rfl⟩
  have xx := (x1.trans x2).trans x3
  by_cases c0 : i2 = 0
  · have e0 : (i2 == 0) = true := beq_iff_eq.mpr c0
    have c1 := cl1 (lo := none) (hi := some i1)
    have c2 := cl1 (lo := some (i1 + 1)) (hi := none)
    simp only [WS_seq, WS_if, WS_set, WS_ret, WS_drop, WS_raise, WS_next, WS_unp, WS_par, WS_for, W_B, W_f1, W_f2, W_fA, W_cons, W_pur, W_var, W_not, W_ifT, W_ifB, W_call, W_callK, W_chain, W_wk, W_sl, W_po, W_poN, W_ok, W_err, W_noErr, W_fnD, ev_plus, ev_sub, ev_iB, ev_toB, ev_not, ev_neg, ev_isN, ev_notN, ev_isB, ev_int, ev_abs, ev_max, ev_min, ev_eqI, ev_neI, Ms.isNon, Option.some.injEq, exists_eq_left', List.getElem?_cons_zero, List.getElem?_cons_succ, List.set_cons_zero, List.set_cons_succ, List.map_cons, List.map_nil, List.cons_append, List.nil_append, List.length_cons, List.length_nil, List.reduceReplicate, Nat.reduceAdd, Nat.reduceSub, Bool.not_true, Bool.not_false, Bool.false_eq_true, Bool.true_eq_false, if_true, if_false, decide_true, decide_false, D.int.injEq, D.bl.injEq, D.ref.injEq, exists_and_left, e0, ev_slL, ev_plusL (show (Ms.cutD l none (some i1)).length + (Ms.cutD l (some (i1 + 1)) none).length ≤ 1000000 by omega)]
    refine ⟨Bent.lst (fun d hd => ?_) (by rw [List.length_append]; omega), xx, by omega⟩
    rcases List.mem_append.mp hd with h | h
    · exact hok d (cut_mem h)
    · exact hok d (cut_mem h)
  · have e0 : (i2 == 0) = false := by
      cases z : i2 == 0 with
      | false => rfl
      | true => exact (c0 (beq_iff_eq.mp z)).elim
    by_cases c1 : i2 = 1
    · have e1 : (i2 == 1) = true := beq_iff_eq.mpr c1
      simp only [WS_seq, WS_if, WS_set, WS_ret, WS_drop, WS_raise, WS_next, WS_unp, WS_par, WS_for, W_B, W_f1, W_f2, W_fA, W_cons, W_pur, W_var, W_not, W_ifT, W_ifB, W_call, W_callK, W_chain, W_wk, W_sl, W_po, W_poN, W_ok, W_err, W_noErr, W_fnD, ev_plus, ev_sub, ev_iB, ev_toB, ev_not, ev_neg, ev_isN, ev_notN, ev_isB, ev_int, ev_abs, ev_max, ev_min, ev_eqI, ev_neI, Ms.isNon, Option.some.injEq, exists_eq_left', List.getElem?_cons_zero, List.getElem?_cons_succ, List.set_cons_zero, List.set_cons_succ, List.map_cons, List.map_nil, List.cons_append, List.nil_append, List.length_cons, List.length_nil, List.reduceReplicate, Nat.reduceAdd, Nat.reduceSub, Bool.not_true, Bool.not_false, Bool.false_eq_true, Bool.true_eq_false, if_true, if_false, decide_true, decide_false, D.int.injEq, D.bl.injEq, D.ref.injEq, exists_and_left, e0, e1, ev_tup, ev_lst, Nat.reduceLeDiff]
      refine (pick_ok x3.bx (.inl rfl) (by simp) (by show 4 < 1073741824; decide)).to fun r4 s4 ⟨m4, x4, l4⟩ => ?_
      refine ⟨?_, xx.trans x4, by omega⟩
      simp only [List.mem_cons, List.not_mem_nil, or_false] at m4
      rcases m4 with rfl | rfl | rfl | rfl
      · exact ⟨rfl, fun l h => by rcases h with h | h <;> cases h⟩
      · exact ⟨rfl, fun l h => by rcases h with h | h <;> cases h⟩
      · exact ⟨rfl, fun l h => by
          rcases h with h | h
          · cases h; exact ⟨by decide, fun _ h => (nomatch h)⟩
          · cases h⟩
      · exact ⟨rfl, fun l h => by rcases h with h | h <;> cases h⟩
    · have e1 : (i2 == 1) = false := by
        cases z : i2 == 1 with
        | false => rfl
        | true => exact (c1 (beq_iff_eq.mp z)).elim
      by_cases c4 : i2 < 4
      · have c1 := cl1 (lo := none) (hi := some i1)
        have c2 := cl1 (lo := some (i1 + 1)) (hi := none)
        simp only [WS_seq, WS_if, WS_set, WS_ret, WS_drop, WS_raise, WS_next, WS_unp, WS_par, WS_for, W_B, W_f1, W_f2, W_fA, W_cons, W_pur, W_var, W_not, W_ifT, W_ifB, W_call, W_callK, W_chain, W_wk, W_sl, W_po, W_poN, W_ok, W_err, W_noErr, W_fnD, ev_plus, ev_sub, ev_iB, ev_toB, ev_not, ev_neg, ev_isN, ev_notN, ev_isB, ev_int, ev_abs, ev_max, ev_min, ev_eqI, ev_neI, Ms.isNon, Option.some.injEq, exists_eq_left', List.getElem?_cons_zero, List.getElem?_cons_succ, List.set_cons_zero, List.set_cons_succ, List.map_cons, List.map_nil, List.cons_append, List.nil_append, List.length_cons, List.length_nil, List.reduceReplicate, Nat.reduceAdd, Nat.reduceSub, Bool.not_true, Bool.not_false, Bool.false_eq_true, Bool.true_eq_false, if_true, if_false, decide_true, decide_false, D.int.injEq, D.bl.injEq, D.ref.injEq, exists_and_left, e0, e1, c4, ev_lst, Nat.reduceLeDiff, ev_slL, ev_plusL (show (Ms.cutD l none (some i1)).length + [r3].length ≤ 1000000 by show _ + 1 ≤ _; omega), ev_plusL (show (Ms.cutD l none (some i1) ++ [r3]).length + (Ms.cutD l (some (i1 + 1)) none).length ≤ 1000000 by rw [List.length_append]; show _ + 1 + _ ≤ _; omega)]
        refine ⟨Bent.lst (fun d hd => ?_) (by rw [List.length_append, List.length_append]; show _ + 1 + _ ≤ _; omega), xx, by omega⟩
        rcases List.mem_append.mp hd with h | h
        · rcases List.mem_append.mp h with h | h
          · exact hok d (cut_mem h)
          · cases List.mem_singleton.mp h
            exact ok3
        · exact hok d (cut_mem h)
      · simp only [WS_seq, WS_if, WS_set, WS_ret, WS_drop, WS_raise, WS_next, WS_unp, WS_par, WS_for, W_B, W_f1, W_f2, W_fA, W_cons, W_pur, W_var, W_not, W_ifT, W_ifB, W_call, W_callK, W_chain, W_wk, W_sl, W_po, W_poN, W_ok, W_err, W_noErr, W_fnD, ev_plus, ev_sub, ev_iB, ev_toB, ev_not, ev_neg, ev_isN, ev_notN, ev_isB, ev_int, ev_abs, ev_max, ev_min, ev_eqI, ev_neI, Ms.isNon, Option.some.injEq, exists_eq_left', List.getElem?_cons_zero, List.getElem?_cons_succ, List.set_cons_zero, List.set_cons_succ, List.map_cons, List.map_nil, List.cons_append, List.nil_append, List.length_cons, List.length_nil, List.reduceReplicate, Nat.reduceAdd, Nat.reduceSub, Bool.not_true, Bool.not_false, Bool.false_eq_true, Bool.true_eq_false, if_true, if_false, decide_true, decide_false, D.int.injEq, D.bl.injEq, D.ref.injEq, exists_and_left, e0, e1, c4, W_lc, W_lcA, wlk]
        refine ⟨by omega, ?_⟩
        rw [lc_pure (c := fun _ => true) (f := fun d => match d with | .tup m => .lst m | d => d)]
        · simp only [W_ok, List.nil_append, filt_true]
          refine ⟨Bent.lst (fun d hd => ?_) (by rw [List.length_map]; omega), xx, by omega⟩
          obtain ⟨x, hx, rfl⟩ := List.mem_map.mp hd
          obtain ⟨a, t, rfl⟩ := hl x hx
          exact ⟨.inr ⟨_, .inr rfl, by simp⟩, rfl⟩
        · intro d hd
          obtain ⟨a, t, rfl⟩ := hl d hd
          refine ⟨_, rfl, rfl, fun _ => W.eq ?_⟩
          simp only [WS_seq, WS_if, WS_set, WS_ret, WS_drop, WS_raise, WS_next, WS_unp, WS_par, WS_for, W_B, W_f1, W_f2, W_fA, W_cons, W_pur, W_var, W_not, W_ifT, W_ifB, W_call, W_callK, W_chain, W_wk, W_sl, W_po, W_poN, W_ok, W_err, W_noErr, W_fnD, ev_plus, ev_sub, ev_iB, ev_toB, ev_not, ev_neg, ev_isN, ev_notN, ev_isB, ev_int, ev_abs, ev_max, ev_min, ev_eqI, ev_neI, Ms.isNon, Option.some.injEq, exists_eq_left', List.getElem?_cons_zero, List.getElem?_cons_succ, List.set_cons_zero, List.set_cons_succ, List.map_cons, List.map_nil, List.cons_append, List.nil_append, List.length_cons, List.length_nil, List.reduceReplicate, Nat.reduceAdd, Nat.reduceSub, Bool.not_true, Bool.not_false, Bool.false_eq_true, Bool.true_eq_false, if_true, if_false, decide_true, decide_false, D.int.injEq, D.bl.injEq, D.ref.injEq, exists_and_left, unset, ev_listOf vs_tup, and_self]
end K14

end
section
set_option Elab.async false
set_option linter.all false
set_option maxRecDepth 100000
set_option maxHeartbeats 4000000
namespace K14
open PySem PySem.Spec PyProof.Rows L2 Ms
/-! ### what is no mark, and no source -/
theorem WS_check {F : Fn D} {δ : List (Option D)} {bx : Sto} {i : Nat} {d : D} {T rest : Sn} {N : List (Option D) → Sto → Prop} {R : D → Sto → Prop} {E : Str → D → Sto → Prop} (h : F δ bx = .err "Refused" d bx) (f : Sh d) (hi : δ[i]? = some (some d)) (q : WS (rest δ bx) N R E) :
    WS (sSeq (sIf (fB (f2 cNeD (fHeard F) (fA cTup (fCons (pur (.str "refused")) (fCons (fA cRepr (fCons (fVar i) (pur []))) (fCons (pur (.bl true)) (pur []))))))) T sNext) rest δ bx) N R E := by
  rw [WS_seq, WS_if]
  refine W_check h f hi ?_
  rw [if_neg (by decide), WS_next]
  exact q
theorem sh_tup {l : List D} (h : ∀ d ∈ l, Fit d 0 31) (hl : l.length ≤ 10000) : Sh (.tup l) := (Fit.tup h).ok (by decide) (by omega)
theorem refused_ok {b : Nat} {st : Sto} {s one other : D} {low high least most gap pause n1 t1 n2 t2 : Int} (hb : Bx b st) (hs : s = .tup [.int low, .int high, .int least, .int most, .int gap, .int pause]) (h : srcI low high least most gap pause)
    (p1 : Pr one n1 t1) (p2 : Pr other n2 t2) (m1 : isMk one = true) (m2 : isMk other = true) (ht : t1 < t2) (sh1 : Sh one) :
    W (m__law_refused_right [.ref b, s, one, other] st) (fun v st' => v = .bl true ∧ Ext b st st' ∧ st'.length = st.length) NoE := by
  have sOk := src_ok (.inl hs) h
  obtain ⟨z1, z2, z3, z4, z5, z6, z7, z8, z9, z10, z11, z12, z13⟩ := h
  unfold m__law_refused_right S__law_refused_right N__law_refused_right
  rw [W_noErr, W_fnD, WS_seq, WS_set]
  simp only [W_call, W_cons, W_pur, W_f2, W_fA, W_var, ev_sub, ev_tup, ev_lst, Nat.reduceLeDiff, Option.some.injEq, exists_eq_left', List.getElem?_cons_zero, List.getElem?_cons_succ, List.set_cons_zero, List.set_cons_succ, List.map_cons, List.map_nil, List.cons_append, List.nil_append, List.length_cons, List.length_nil, List.reduceReplicate, Nat.reduceAdd, Nat.reduceSub]
  refine (pick_ok hb (.inl rfl) (by simp) (by show 6 < 1073741824; decide)).to fun odd s1 ⟨mo, x1, l1⟩ => ?_
  have i0 := Fit.int (i := 0) (by decide)
  have ho : odd.pure = true ∧ isMk odd = false ∧ Sh odd := by
    simp only [List.mem_cons, List.not_mem_nil, or_false] at mo
    rcases mo with rfl | rfl | rfl | rfl | rfl | rfl
    · exact ⟨rfl, rfl, Sh.non⟩
    · exact ⟨rfl, rfl, Sh.int (by decide)⟩
    · exact ⟨rfl, rfl, sh_tup (by
        simp only [List.mem_cons, List.not_mem_nil, or_false, forall_eq_or_imp, forall_eq]
        exact ⟨Fit.int (by decide), i0⟩) (by decide)⟩
    · exact ⟨rfl, rfl, sh_tup (by
        simp only [List.mem_cons, List.not_mem_nil, or_false, forall_eq_or_imp, forall_eq]
        exact i0) (by decide)⟩
    · exact ⟨rfl, rfl, sh_tup (by
        simp only [List.mem_cons, List.not_mem_nil, or_false, forall_eq_or_imp, forall_eq]
        exact ⟨Fit.bl _, i0⟩) (by decide)⟩
    · exact ⟨rfl, rfl, sh_tup (by
        simp only [List.mem_cons, List.not_mem_nil, or_false, forall_eq_or_imp, forall_eq]
        exact ⟨i0, Fit.int (by decide)⟩) (by decide)⟩
  refine WS_check (d := odd) (show m_run_between [s, odd, other, .non] s1 = _ from between_e (counts_e1 (sOk s1) ho.1 ho.2.1)) ho.2.2 rfl ?_
  refine WS_check (d := odd) (show m_run_between [s, one, odd, .non] s1 = _ from between_e (counts_e2 (sOk s1) p1.pu m1 ho.1 ho.2.1)) ho.2.2 rfl ?_
  refine WS_check (d := odd) (show m_run_to [s, odd, .non] s1 = _ from to_e (ahead_e1 (sOk s1) ho.1 ho.2.1)) ho.2.2 rfl ?_
  rw [WS_seq, WS_set]
  have sl : cSl s1 s none (some 5) = some (.tup [.int low, .int high, .int least, .int most, .int gap]) := by rw [hs]; rfl
  simp only [W_call, W_cons, W_pur, W_f2, W_fA, W_var, W_sl, W_po, W_poN, sl, ev_sub, ev_tup, ev_lst, Nat.reduceLeDiff, Option.some.injEq, exists_eq_left', D.int.injEq, List.getElem?_cons_zero, List.getElem?_cons_succ, List.set_cons_zero, List.set_cons_succ, List.map_cons, List.map_nil, List.cons_append, List.nil_append, List.length_cons, List.length_nil, List.reduceReplicate, Nat.reduceAdd, Nat.reduceSub]
  refine (pick_ok x1.bx (.inl rfl) (by simp) (by show 3 < 1073741824; decide)).to fun bad s2 ⟨mb, x2, l2⟩ => ?_
  have hbad : bad.cl = true ∧ hasP bad 6 = false ∧ Sh bad := by
    simp only [List.mem_cons, List.not_mem_nil, or_false] at mb
    rcases mb with rfl | rfl | rfl
    · exact ⟨rfl, rfl, Sh.non⟩
    · exact ⟨rfl, rfl, sh_tup (fun _ h => (nomatch h)) (by decide)⟩
    · exact ⟨rfl, rfl, sh_tup (by
        simp only [List.mem_cons, List.not_mem_nil, or_false, forall_eq_or_imp, forall_eq]
        have p : gap ≤ 1000 := by omega
        exact ⟨Fit.int (by omega), Fit.int (by omega), Fit.int (by omega), Fit.int (by omega), Fit.int (by omega)⟩) (by show 5 ≤ 10000; decide)⟩
  have sBad := src_bad hbad.1 hbad.2.1 s2
  refine WS_check (d := bad) (show m_run_holds [bad, .non] s2 = _ from holds_e sBad) hbad.2.2 rfl ?_
  refine WS_check (d := one) (show m_run_between [s, other, one, .non] s2 = _ from between_e (counts_e3 (sOk s2) p2 m2 p1 m1 (by omega))) sh1 rfl ?_
  refine WS_check (d := bad) (show m_run_between [bad, .non, .non, .non] s2 = _ from between_e (counts_e0 sBad)) hbad.2.2 rfl ?_
  refine WS_check (d := bad) (show m_run_to [bad, .non, .non] s2 = _ from to_e (ahead_e0 sBad)) hbad.2.2 rfl ?_
  simp only [WS_seq, WS_ret, W_pur]
  exact ⟨trivial, x1.trans x2, by omega⟩
end K14

end
section
set_option Elab.async false
set_option linter.all false
set_option maxRecDepth 100000
set_option maxHeartbeats 4000000
namespace K14
open PySem PySem.Spec PyProof.Rows L2 Ms
/-! ### what is so of runs -/
theorem ts_sum {gap pause : Int} {n : Nat} {ts : Nat → Int} (h : Ts gap pause n ts) {a : Nat} : ∀ k : Nat, a + k < n → gap * k ≤ ts (a + k) - ts a ∧ ts (a + k) - ts a ≤ pause * k
  | 0, _ => by simp
  | k + 1, hk => by
    have ih := ts_sum h (a := a) k (by omega)
    have := h.c (a + k) (by omega)
    rw [show a + (k + 1) = a + k + 1 from rfl]
    have e1 : gap * ((k + 1 : Nat) : Int) = gap * k + gap := by rw [Int.natCast_add, Int.mul_add]; simp
    have e2 : pause * ((k + 1 : Nat) : Int) = pause * k + pause := by rw [Int.natCast_add, Int.mul_add]; simp
    omega
theorem ts_bd {gap pause : Int} {n : Nat} {ts : Nat → Int} (h : Ts gap pause n ts) (hg : 0 < gap) (hp : pause ≤ 13) (hn : n ≤ 402) {a : Nat} (ha : a < n) : gap * a ≤ ts a ∧ 0 ≤ ts a ∧ ts a ≤ 10000 := by
  have s := ts_sum h (a := 0) a (by omega)
  rw [Nat.zero_add] at s
  have h1 := h.a
  have h2 := h.b
  have p : pause * (a : Int) ≤ 13 * (a : Int) := Int.mul_le_mul_of_nonneg_right hp (by omega)
  have q : 0 ≤ gap * (a : Int) := Int.mul_nonneg (by omega) (by omega)
  omega
section
variable {gap pause n1 t1 n2 t2 c : Int}
theorem in_counts (hg : 0 < gap) (hp : 0 < pause) (h1 : gap * c ≤ t2 - t1) (h2 : t2 - t1 ≤ pause * c) (hn : (n2 - n1 - c) % 256 = 0) : inP (fst_ pause n1 t1 n2 t2) ((t2 - t1) / gap) c = true := by
  rw [inP_iff]
  have u := (up_least (a := t2 - t1) hp).mp h2
  have v : c ≤ (t2 - t1) / gap := (Int.le_ediv_iff_mul_le hg).mpr (by rw [Int.mul_comm]; exact h1)
  unfold fst_
  omega
theorem of_counts (hg : 0 < gap) (hp : 0 < pause) (h : inP (fst_ pause n1 t1 n2 t2) ((t2 - t1) / gap) c = true) : gap * c ≤ t2 - t1 ∧ t2 - t1 ≤ pause * c ∧ (n2 - n1 - c) % 256 = 0 := by
  rw [inP_iff] at h
  obtain ⟨h1, h2, h3⟩ := h
  refine ⟨?_, ?_, ?_⟩
  · have := (Int.le_ediv_iff_mul_le hg).mp h2
    rw [Int.mul_comm]
    exact this
  · refine (up_least hp).mpr ?_
    unfold fst_ at h1
    omega
  · unfold fst_ at h3
    omega
theorem bt_len {st : Int} (hc : 0 < c) : ((bt n1 t1 st c).length : Int) = c + 1 := by
  unfold bt
  rw [List.length_map, List.length_range]
  omega
theorem bt_at {st : Int} (hc : 0 < c) {j : Nat} (hj : (j : Int) ≤ c) : (bt n1 t1 st c)[j]? = some (btAt n1 t1 st c j) := by
  unfold bt
  rw [List.getElem?_map, List.getElem?_range (by omega)]
  rfl
theorem bt_run {st : Int} (hc : 0 < c) (hg : 0 < gap) (h1 : gap * c ≤ st) (h2 : st ≤ pause * c) (b1 : 0 ≤ t1) (b2 : t1 + st ≤ 1000000) : isRun gap pause (.tup (bt n1 t1 st c)) = true := by
  have st0 : 0 ≤ st := Int.le_trans (Int.mul_nonneg (by omega) (by omega)) h1
  show ((bt n1 t1 st c).all isMk && steps gap pause (bt n1 t1 st c)) = true
  have L : (bt n1 t1 st c).length = (c + 1).toNat := by unfold bt; rw [List.length_map, List.length_range]
  rw [Bool.and_eq_true]
  refine ⟨List.all_eq_true.mpr fun d hd => ?_, steps_iff.mpr fun j hj => ?_⟩
  · unfold bt at hd
    obtain ⟨j, hj, rfl⟩ := List.mem_map.mp hd
    have hj := List.mem_range.mp hj
    have e1 : 0 ≤ st * j / c := Int.ediv_nonneg (Int.mul_nonneg st0 (by omega)) (by omega)
    have e2 : st * j / c ≤ st := by
      have : st * (j : Int) ≤ st * c := Int.mul_le_mul_of_nonneg_left (by omega) st0
      have := Int.ediv_le_ediv hc this
      rw [Int.mul_ediv_cancel _ (by omega)] at this
      exact this
    unfold btAt isMk isMkL inR
    simp only [Bool.and_eq_true, decide_eq_true_eq]
    omega
  · have hb : j + 1 < (c + 1).toNat := by rw [← L]; exact hj
    have g0 : (bt n1 t1 st c)[j] = btAt n1 t1 st c j := by
      have := bt_at (n1 := n1) (t1 := t1) (st := st) hc (j := j) (by omega)
      rw [List.getElem?_eq_getElem (by omega)] at this
      exact Option.some.inj this
    have g1 : (bt n1 t1 st c)[j + 1] = btAt n1 t1 st c (j + 1) := by
      have := bt_at (n1 := n1) (t1 := t1) (st := st) hc (j := j + 1) (by omega)
      rw [List.getElem?_eq_getElem (by omega)] at this
      exact Option.some.inj this
    rw [g0, g1]
    have e : st * ((j + 1 : Nat) : Int) = st * j + st := by rw [Int.natCast_add, Int.mul_add]; simp
    have lo : st * (j : Int) / c + gap ≤ st * ((j + 1 : Nat) : Int) / c := by
      rw [e, ← Int.add_mul_ediv_right _ _ (show c ≠ 0 by omega)]
      exact Int.ediv_le_ediv hc (by omega)
    have hi : st * ((j + 1 : Nat) : Int) / c ≤ st * (j : Int) / c + pause := by
      rw [e, ← Int.add_mul_ediv_right _ _ (show c ≠ 0 by omega)]
      exact Int.ediv_le_ediv hc (by omega)
    unfold btAt follow nt
    simp only [Bool.and_eq_true, beq_iff_eq, decide_eq_true_eq]
    refine ⟨by omega, by omega, by omega⟩
theorem bt_first {st : Int} (hc : 0 < c) (h1 : 0 ≤ n1) (h2 : n1 < 256) : (bt n1 t1 st c)[0]? = some (.tup [.int n1, .int t1]) := by
  rw [bt_at hc (by omega)]
  unfold btAt
  have e : (n1 + ((0 : Nat) : Int)) % 256 = n1 := by omega
  rw [e]
  simp
theorem bt_last (hc : 0 < c) (hn : (n2 - n1 - c) % 256 = 0) (h1 : 0 ≤ n2) (h2 : n2 < 256) : (bt n1 t1 (t2 - t1) c)[c.toNat]? = some (.tup [.int n2, .int t2]) := by
  rw [bt_at hc (by omega)]
  unfold btAt
  have e : (n1 + ((c.toNat : Nat) : Int)) % 256 = n2 := by omega
  have e2 : ((c.toNat : Nat) : Int) = c := by omega
  have e3 : t1 + (t2 - t1) = t2 := by omega
  rw [e, e2, Int.mul_ediv_cancel _ (by omega), e3]
theorem rt_at {j : Nat} (hj : (j : Int) ≤ c) : (rt t1 gap c)[j]? = some (rtAt t1 gap c j) := by
  unfold rt
  rw [List.getElem?_map, List.getElem?_range (by omega)]
  rfl
theorem rt_len (hc : 0 ≤ c) : ((rt t1 gap c).length : Int) = c + 1 := by
  unfold rt
  rw [List.length_map, List.length_range]
  omega
theorem rt_run (hc : 0 ≤ c) (hg : 0 < gap) (hp : gap ≤ pause) (h1 : gap * c ≤ t1) (b2 : t1 ≤ 1000000) : isRun gap pause (.tup (rt t1 gap c)) = true := by
  show ((rt t1 gap c).all isMk && steps gap pause (rt t1 gap c)) = true
  have L : (rt t1 gap c).length = (c + 1).toNat := by unfold rt; rw [List.length_map, List.length_range]
  rw [Bool.and_eq_true]
  refine ⟨List.all_eq_true.mpr fun d hd => ?_, steps_iff.mpr fun j hj => ?_⟩
  · unfold rt at hd
    obtain ⟨j, hj, rfl⟩ := List.mem_map.mp hd
    have hj := List.mem_range.mp hj
    have e1 : 0 ≤ gap * (c - j) := Int.mul_nonneg (by omega) (by omega)
    have e2 : gap * (c - j) ≤ gap * c := Int.mul_le_mul_of_nonneg_left (by omega) (by omega)
    unfold rtAt isMk isMkL inR
    simp only [Bool.and_eq_true, decide_eq_true_eq]
    omega
  · have hb : j + 1 < (c + 1).toNat := by rw [← L]; exact hj
    have g0 : (rt t1 gap c)[j] = rtAt t1 gap c j := by
      have := rt_at (gap := gap) (t1 := t1) (c := c) (j := j) (by omega)
      rw [List.getElem?_eq_getElem (by omega)] at this
      exact Option.some.inj this
    have g1 : (rt t1 gap c)[j + 1] = rtAt t1 gap c (j + 1) := by
      have := rt_at (gap := gap) (t1 := t1) (c := c) (j := j + 1) (by omega)
      rw [List.getElem?_eq_getElem (by omega)] at this
      exact Option.some.inj this
    rw [g0, g1]
    have e : gap * (c - (j : Int)) = gap * (c - ((j + 1 : Nat) : Int)) + gap := by
      rw [← Int.mul_one gap, Int.mul_assoc, Int.mul_assoc, ← Int.mul_add]
      congr 1
      omega
    unfold rtAt follow nt
    simp only [Bool.and_eq_true, beq_iff_eq, decide_eq_true_eq]
    refine ⟨by omega, by omega, by omega⟩
theorem rt_last (hc : 0 ≤ c) (hn : (c - n1) % 256 = 0) (h1 : 0 ≤ n1) (h2 : n1 < 256) : (rt t1 gap c)[c.toNat]? = some (.tup [.int n1, .int t1]) := by
  rw [rt_at (by omega)]
  unfold rtAt
  have e : ((c.toNat : Nat) : Int) % 256 = n1 := by omega
  have e2 : ((c.toNat : Nat) : Int) = c := by omega
  rw [e, e2, Int.sub_self, Int.mul_zero, Int.sub_zero]
theorem in_ahead (hg : 0 < gap) (h1 : gap * c ≤ t1) (hn : (c - n1) % 256 = 0) (hn2 : n1 ≤ c) : inP n1 (t1 / gap) c = true := by
  rw [inP_iff]
  exact ⟨hn2, (Int.le_ediv_iff_mul_le hg).mpr (by rw [Int.mul_comm]; exact h1), hn⟩
theorem of_ahead (hg : 0 < gap) (h : inP n1 (t1 / gap) c = true) : gap * c ≤ t1 ∧ (c - n1) % 256 = 0 ∧ n1 ≤ c := by
  rw [inP_iff] at h
  obtain ⟨h1, h2, h3⟩ := h
  refine ⟨?_, h3, h1⟩
  have := (Int.le_ediv_iff_mul_le hg).mp h2
  rw [Int.mul_comm]
  exact this
end
theorem bt_pair {n1 t1 st c : Int} {d : D} (h : d ∈ bt n1 t1 st c) : okM d ∧ d.pure = true := by
  unfold bt at h
  obtain ⟨j, _, rfl⟩ := List.mem_map.mp h
  exact ok_pair
theorem rt_pair {t1 gap c : Int} {d : D} (h : d ∈ rt t1 gap c) : okM d ∧ d.pure = true := by
  unfold rt at h
  obtain ⟨j, _, rfl⟩ := List.mem_map.mp h
  exact ok_pair
theorem Bent.tup {l : List D} (h : ∀ d ∈ l, okM d ∧ d.pure = true) (hl : l.length ≤ 1000000) : Bent (.tup l) := ⟨pureAll_of fun d hd => (h d hd).2, fun m hm => by
  rcases hm with e | e
  · cases e
    exact ⟨hl, fun d hd => (h d hd).1⟩
  · cases e⟩
/-- both of them say the same -/
theorem both_ok {s : D} {low high least most gap pause : Int} (hs : Six s low high least most gap pause) (h : srcI low high least most gap pause) {v : D} (hv : Bent v) (bx : Sto) :
    m__law_is_run [s, v] bx = .ok (.bl (isRun gap pause v)) bx ∧ m_run_holds [s, v] bx = .ok (.bl (isRun gap pause v)) bx :=
  ⟨isRun_ok hs (pure_cl hv.1) hv.2 bx, holds_ok hs h hv.1 (fun l hl => (hv.2 l hl).1) bx⟩
theorem prog_first {a b i : Int} (h : inP a b i = true) : atI (prog a b) 0 = some (.int a) := by
  have h := inP_iff.mp h
  have k : 0 < (Builtin.Range.rangeSize a (b + 1) 256).toNat := by
    unfold Builtin.Range.rangeSize
    simp only [gt_iff_lt, Int.reduceLT, if_true]
    split <;> omega
  refine Ms.atI_int (by decide) ?_
  unfold prog
  rw [List.getElem?_map, List.getElem?_range (by simpa using k)]
  simp
theorem prog_len {a b : Int} (h1 : 0 ≤ a) (h2 : b ≤ 200000) : (prog a b).length ≤ 1000 := by
  unfold prog Builtin.Range.rangeSize
  rw [List.length_map, List.length_range]
  simp only [gt_iff_lt, Int.reduceLT, if_true]
  split <;> omega
theorem prog_in {a b : Int} {d : D} (h : d ∈ prog a b) : ∃ i, d = .int i ∧ inP a b i = true := by
  obtain ⟨i, rfl⟩ := prog_int h
  exact ⟨i, rfl, inP_iff.mpr (mem_prog.mp h)⟩
theorem ev_nePair {a t : Int} {bx : Sto} : cNeD bx (.tup [.int a, .int t]) (.tup [.int a, .int t]) = some (.bl false) := by
  simp [cNeD, eqOk, dr, D.pure, D.pureAll, D.py, D.pyAll, SeqAt.shaped, PyData.canLay0, PyData.canLayAll0, PyData.depth, PyData.depthAll, PyData.eqv, PyData.eqvAll]
end K14

end
section
set_option Elab.async false
set_option linter.all false
set_option maxRecDepth 100000
set_option maxHeartbeats 4000000
namespace K14
open PySem PySem.Spec PyProof.Rows L2 Ms
theorem len_lst {l : List D} {bx : Sto} : cLen bx [.lst l] = some (.int l.length) := ev_len vs_lst
theorem len_tup {l : List D} {bx : Sto} : cLen bx [.tup l] = some (.int l.length) := ev_len vs_tup
theorem ix_lst {l : List D} {i : Int} {bx : Sto} : cIx bx (.lst l) (.int i) = atI l i := ev_ix vs_lst
theorem ix_tup {l : List D} {i : Int} {bx : Sto} : cIx bx (.tup l) (.int i) = atI l i := ev_ix vs_tup
theorem pick4 {a b c d : D} : Ms.pick .non [3, 2, 1, 0] [a, b, c, d] = [d, c, b, a] := rfl
theorem pick2 {a b : D} : Ms.pick .non [1, 0] [a, b] = [b, a] := rfl
theorem W_ifp {c : Bool} {δ : List (Option D)} {bx : Sto} {Q : D → Sto → Prop} {E : Str → D → Sto → Prop} : W ((if c = true then pur (D.bl true) else pur (D.bl false)) δ bx) Q E ↔ Q (.bl c) bx := by cases c <;> rfl
theorem nin {a b i : Int} (h : ¬ (a ≤ i ∧ i ≤ b ∧ (i - a) % 256 = 0)) : inP a b i = false := by
  cases z : inP a b i with
  | false => rfl
  | true => exact (h (inP_iff.mp z)).elim
theorem sh_1 : Sh (.str "1") := ⟨by decide +kernel, by decide +kernel⟩
theorem sh_0 : Sh (.str "0") := ⟨by decide +kernel, by decide +kernel⟩
theorem math : LawIs := fun ns hns => by
  have key : W (m_law [.scr ns] []) (fun a _ => a = .bl true) NoE := by
    unfold m_law S_law N_law
    rw [W_noErr, W_fnD, WS_seq, WS_for]
    simp only [WS_next, W_B, W_f1, W_f2, W_fA, W_cons, W_pur, W_var, W_not, W_ifT, W_ifB, W_call, W_callK, W_chain, W_wk, W_sl, W_po, W_poN, W_ok, W_err, W_noErr, W_fnD, ev_plus, ev_sub, ev_iB, ev_toB, ev_not, ev_neg, ev_isN, ev_notN, ev_isB, ev_int, ev_abs, ev_max, ev_min, ev_eqI, ev_neI, Ms.isNon, Option.some.injEq, exists_eq_left', List.getElem?_cons_zero, List.getElem?_cons_succ, List.set_cons_zero, List.set_cons_succ, List.map_cons, List.map_nil, List.cons_append, List.nil_append, List.length_cons, List.length_nil, List.reduceReplicate, Nat.reduceAdd, Nat.reduceSub, Bool.not_true, Bool.not_false, Bool.false_eq_true, Bool.true_eq_false, if_true, if_false, decide_true, decide_false, D.int.injEq, D.bl.injEq, D.ref.injEq, exists_and_left, W_rg1]
    refine ⟨4, rfl, by decide, by decide, ?_⟩
    refine for_rule (fun i δ bx' => ∃ x1 x2 x3 x4 x5 x6 x7 x8 x9 x10 x11 x12 x13 x14 x15 x16 x17, δ = [some (.scr ns), x1, x2, x3, x4, x5, x6, x7, x8, x9, x10, x11, x12, x13, x14, x15, x16, x17]) ⟨_, _, _, _, _, _, _, _, _, _, _, _, _, _, _, _, _, rfl⟩ ?_ ?_
    · rintro δ bx' ⟨x1, x2, x3, x4, x5, x6, x7, x8, x9, x10, x11, x12, x13, x14, x15, x16, x17, rfl⟩
      simp only [WS_seq, WS_if, WS_set, WS_ret, WS_drop, WS_raise, WS_next, WS_unp, WS_par, WS_for, W_B, W_f1, W_f2, W_fA, W_cons, W_pur, W_var, W_not, W_ifT, W_ifB, W_call, W_callK, W_chain, W_wk, W_sl, W_po, W_poN, W_ok, W_err, W_noErr, W_fnD, ev_plus, ev_sub, ev_iB, ev_toB, ev_not, ev_neg, ev_isN, ev_notN, ev_isB, ev_int, ev_abs, ev_max, ev_min, ev_eqI, ev_neI, Ms.isNon, Option.some.injEq, exists_eq_left', List.getElem?_cons_zero, List.getElem?_cons_succ, List.set_cons_zero, List.set_cons_succ, List.map_cons, List.map_nil, List.cons_append, List.nil_append, List.length_cons, List.length_nil, List.reduceReplicate, Nat.reduceAdd, Nat.reduceSub, Bool.not_true, Bool.not_false, Bool.false_eq_true, Bool.true_eq_false, if_true, if_false, decide_true, decide_false, D.int.injEq, D.bl.injEq, D.ref.injEq, exists_and_left]
    · rintro i d δ bx' hd ⟨x1, x2, x3, x4, x5, x6, x7, x8, x9, x10, x11, x12, x13, x14, x15, x16, x17, rfl⟩
      have e := rgl_get hd
      rw [Int.zero_add] at e
      subst e
      refine ⟨_, rfl, ?_⟩
      rw [WS_seq, WS_set]
      simp only [WS_next, W_B, W_f1, W_f2, W_fA, W_cons, W_pur, W_var, W_not, W_ifT, W_ifB, W_call, W_callK, W_chain, W_wk, W_sl, W_po, W_poN, W_ok, W_err, W_noErr, W_fnD, ev_plus, ev_sub, ev_iB, ev_toB, ev_not, ev_neg, ev_isN, ev_notN, ev_isB, ev_int, ev_abs, ev_max, ev_min, ev_eqI, ev_neI, Ms.isNon, Option.some.injEq, exists_eq_left', List.getElem?_cons_zero, List.getElem?_cons_succ, List.set_cons_zero, List.set_cons_succ, List.map_cons, List.map_nil, List.cons_append, List.nil_append, List.length_cons, List.length_nil, List.reduceReplicate, Nat.reduceAdd, Nat.reduceSub, Bool.not_true, Bool.not_false, Bool.false_eq_true, Bool.true_eq_false, if_true, if_false, decide_true, decide_false, D.int.injEq, D.bl.injEq, D.ref.injEq, exists_and_left]
      refine box_ok.to fun r s0 h0 => ?_
      have h0' : ∃ b, r = .ref b ∧ Bx b s0 := by
        obtain ⟨e, g, r', e'⟩ := h0
        exact ⟨_, e, g, r', by rw [e', List.getElem?_append_right (Nat.le_refl _), Nat.sub_self]; rfl⟩
      obtain ⟨b, rfl, hb⟩ := h0'
      clear h0 hd
      rw [WS_seq, WS_set]
      simp only [WS_next, W_B, W_f1, W_f2, W_fA, W_cons, W_pur, W_var, W_not, W_ifT, W_ifB, W_call, W_callK, W_chain, W_wk, W_sl, W_po, W_poN, W_ok, W_err, W_noErr, W_fnD, ev_plus, ev_sub, ev_iB, ev_toB, ev_not, ev_neg, ev_isN, ev_notN, ev_isB, ev_int, ev_abs, ev_max, ev_min, ev_eqI, ev_neI, Ms.isNon, Option.some.injEq, exists_eq_left', List.getElem?_cons_zero, List.getElem?_cons_succ, List.set_cons_zero, List.set_cons_succ, List.map_cons, List.map_nil, List.cons_append, List.nil_append, List.length_cons, List.length_nil, List.reduceReplicate, Nat.reduceAdd, Nat.reduceSub, Bool.not_true, Bool.not_false, Bool.false_eq_true, Bool.true_eq_false, if_true, if_false, decide_true, decide_false, D.int.injEq, D.bl.injEq, D.ref.injEq, exists_and_left]
      refine (source_ok hb).to fun s s1 ⟨⟨low, high, least, most, gap, pause, hs, hsrc, hp13⟩, x1, l1⟩ => ?_
      have six : Six s low high least most gap pause := .inl hs
      have hg : 0 < gap := by obtain ⟨_, _, _, _, _, _, _, _, q, _⟩ := hsrc; omega
      have hgp : gap ≤ pause := by obtain ⟨_, _, _, _, _, _, _, _, _, _, q, _⟩ := hsrc; omega
      have hp : 0 < pause := by omega
      rw [WS_seq, WS_set]
      simp only [WS_next, W_B, W_f1, W_f2, W_fA, W_cons, W_pur, W_var, W_not, W_ifT, W_ifB, W_call, W_callK, W_chain, W_wk, W_sl, W_po, W_poN, W_ok, W_err, W_noErr, W_fnD, ev_plus, ev_sub, ev_iB, ev_toB, ev_not, ev_neg, ev_isN, ev_notN, ev_isB, ev_int, ev_abs, ev_max, ev_min, ev_eqI, ev_neI, Ms.isNon, Option.some.injEq, exists_eq_left', List.getElem?_cons_zero, List.getElem?_cons_succ, List.set_cons_zero, List.set_cons_succ, List.map_cons, List.map_nil, List.cons_append, List.nil_append, List.length_cons, List.length_nil, List.reduceReplicate, Nat.reduceAdd, Nat.reduceSub, Bool.not_true, Bool.not_false, Bool.false_eq_true, Bool.true_eq_false, if_true, if_false, decide_true, decide_false, D.int.injEq, D.bl.injEq, D.ref.injEq, exists_and_left, ev_lst, Nat.reduceLeDiff]
      refine (pick_ok x1.bx (.inl rfl) (by simp) (by show 4 < 1073741824; decide)).to fun rm s2 ⟨mm, x2, l2⟩ => ?_
      have em : ∃ m, rm = .int m ∧ 0 < m ∧ m ≤ 400 := by
        simp only [List.mem_cons, List.not_mem_nil, or_false] at mm
        rcases mm with rfl | rfl | rfl | rfl <;> exact ⟨_, rfl, by decide, by decide⟩
      obtain ⟨m, rfl, hm0, hm1⟩ := em
      refine (take_ok x2.bx hm0 (by omega)).to fun r3 s3 ⟨i3, e3, a3, b3, x3, l3⟩ => ?_
      subst e3
      simp only [WS_next, W_B, W_f1, W_f2, W_fA, W_cons, W_pur, W_var, W_not, W_ifT, W_ifB, W_call, W_callK, W_chain, W_wk, W_sl, W_po, W_poN, W_ok, W_err, W_noErr, W_fnD, ev_plus, ev_sub, ev_iB, ev_toB, ev_not, ev_neg, ev_isN, ev_notN, ev_isB, ev_int, ev_abs, ev_max, ev_min, ev_eqI, ev_neI, Ms.isNon, Option.some.injEq, exists_eq_left', List.getElem?_cons_zero, List.getElem?_cons_succ, List.set_cons_zero, List.set_cons_succ, List.map_cons, List.map_nil, List.cons_append, List.nil_append, List.length_cons, List.length_nil, List.reduceReplicate, Nat.reduceAdd, Nat.reduceSub, Bool.not_true, Bool.not_false, Bool.false_eq_true, Bool.true_eq_false, if_true, if_false, decide_true, decide_false, D.int.injEq, D.bl.injEq, D.ref.injEq, exists_and_left]
      refine (run_ok x3.bx six hgp (by omega) (by omega) (by omega)).to fun r4 s4 ⟨⟨ts, e4, hts⟩, x4⟩ => ?_
      subst e4
      obtain ⟨n, hn⟩ : ∃ n : Nat, n = (2 + i3).toNat := ⟨_, rfl⟩
      rw [← hn] at hts ⊢
      have hn2 : 2 ≤ n := by omega
      have hn3 : n ≤ 402 := by omega
      rw [WS_seq, WS_set]
      simp only [WS_next, W_B, W_f1, W_f2, W_fA, W_cons, W_pur, W_var, W_not, W_ifT, W_ifB, W_call, W_callK, W_chain, W_wk, W_sl, W_po, W_poN, W_ok, W_err, W_noErr, W_fnD, ev_plus, ev_sub, ev_iB, ev_toB, ev_not, ev_neg, ev_isN, ev_notN, ev_isB, ev_int, ev_abs, ev_max, ev_min, ev_eqI, ev_neI, Ms.isNon, Option.some.injEq, exists_eq_left', List.getElem?_cons_zero, List.getElem?_cons_succ, List.set_cons_zero, List.set_cons_succ, List.map_cons, List.map_nil, List.cons_append, List.nil_append, List.length_cons, List.length_nil, List.reduceReplicate, Nat.reduceAdd, Nat.reduceSub, Bool.not_true, Bool.not_false, Bool.false_eq_true, Bool.true_eq_false, if_true, if_false, decide_true, decide_false, D.int.injEq, D.bl.injEq, D.ref.injEq, exists_and_left, len_lst, runL_len]
      refine (take_ok x4.bx (by omega) (by omega)).to fun r5 s5 ⟨i5, e5, a5, b5, x5, l5⟩ => ?_
      subst e5
      obtain ⟨f, rfl⟩ : ∃ f : Nat, i5 = f := ⟨i5.toNat, by omega⟩
      rw [WS_seq, WS_set]
      simp only [WS_next, W_B, W_f1, W_f2, W_fA, W_cons, W_pur, W_var, W_not, W_ifT, W_ifB, W_call, W_callK, W_chain, W_wk, W_sl, W_po, W_poN, W_ok, W_err, W_noErr, W_fnD, ev_plus, ev_sub, ev_iB, ev_toB, ev_not, ev_neg, ev_isN, ev_notN, ev_isB, ev_int, ev_abs, ev_max, ev_min, ev_eqI, ev_neI, Ms.isNon, Option.some.injEq, exists_eq_left', List.getElem?_cons_zero, List.getElem?_cons_succ, List.set_cons_zero, List.set_cons_succ, List.map_cons, List.map_nil, List.cons_append, List.nil_append, List.length_cons, List.length_nil, List.reduceReplicate, Nat.reduceAdd, Nat.reduceSub, Bool.not_true, Bool.not_false, Bool.false_eq_true, Bool.true_eq_false, if_true, if_false, decide_true, decide_false, D.int.injEq, D.bl.injEq, D.ref.injEq, exists_and_left, len_lst, runL_len]
      refine (take_ok x5.bx (by omega) (by omega)).to fun r6 s6 ⟨i6, e6, a6, b6, x6, l6⟩ => ?_
      subst e6
      obtain ⟨k, rfl⟩ : ∃ k : Nat, i6 = k := ⟨i6.toNat, by omega⟩
      simp only [WS_next, W_B, W_f1, W_f2, W_fA, W_cons, W_pur, W_var, W_not, W_ifT, W_ifB, W_call, W_callK, W_chain, W_wk, W_sl, W_po, W_poN, W_ok, W_err, W_noErr, W_fnD, ev_plus, ev_sub, ev_iB, ev_toB, ev_not, ev_neg, ev_isN, ev_notN, ev_isB, ev_int, ev_abs, ev_max, ev_min, ev_eqI, ev_neI, Ms.isNon, Option.some.injEq, exists_eq_left', List.getElem?_cons_zero, List.getElem?_cons_succ, List.set_cons_zero, List.set_cons_succ, List.map_cons, List.map_nil, List.cons_append, List.nil_append, List.length_cons, List.length_nil, List.reduceReplicate, Nat.reduceAdd, Nat.reduceSub, Bool.not_true, Bool.not_false, Bool.false_eq_true, Bool.true_eq_false, if_true, if_false, decide_true, decide_false, D.int.injEq, D.bl.injEq, D.ref.injEq, exists_and_left]
      rw [WS_seq, WS_unp]
      obtain ⟨one, ho, g1⟩ : ∃ d, d = D.tup [.int ((f : Int) % 256), .int (ts f)] ∧ atI (runL ts n) (f : Int) = some d := ⟨_, rfl, Ms.atI_nat (runL_get (by omega))⟩
      obtain ⟨other, ht, g2⟩ : ∃ d, d = D.tup [.int (((f + 1 + k : Nat) : Int) % 256), .int (ts (f + 1 + k))] ∧ atI (runL ts n) ((f : Int) + 1 + k) = some d := ⟨_, rfl, by
        have e : (f : Int) + 1 + k = ((f + 1 + k : Nat) : Int) := by omega
        rw [e]
        exact Ms.atI_nat (runL_get (by omega))⟩
      have sm := ts_sum hts (a := f) (1 + k) (by omega)
      rw [← Nat.add_assoc] at sm
      have bd1 := ts_bd hts hg hp13 hn3 (a := f) (by omega)
      have bd2 := ts_bd hts hg hp13 hn3 (a := f + 1 + k) (by omega)
      have hn1 : 0 ≤ (f : Int) % 256 ∧ (f : Int) % 256 < 256 := by omega
      have hn2' : 0 ≤ ((f + 1 + k : Nat) : Int) % 256 ∧ ((f + 1 + k : Nat) : Int) % 256 < 256 := by omega
      have hnn : (((f + 1 + k : Nat) : Int) % 256 - (f : Int) % 256 - ((f : Int) + 1 + k - f)) % 256 = 0 := by omega
      have hnl : ((f : Int) + 1 + k - ((f + 1 + k : Nat) : Int) % 256) % 256 = 0 := by omega
      have hnl2 : ((f + 1 + k : Nat) : Int) % 256 ≤ (f : Int) + 1 + k := by omega
      have ek : ((1 + k : Nat) : Int) = (f : Int) + 1 + k - f := by omega
      rw [ek] at sm
      have bd3 : gap * ((f : Int) + 1 + k) ≤ ts (f + 1 + k) := by
        have e : (f : Int) + 1 + k = ((f + 1 + k : Nat) : Int) := by omega
        rw [e]
        exact bd2.1
      have hpos : 0 < gap * ((f : Int) + 1 + k - f) := Int.mul_pos hg (by omega)
      have htt : ts f < ts (f + 1 + k) := by omega
      obtain ⟨n1, en1⟩ : ∃ x, x = (f : Int) % 256 := ⟨_, rfl⟩
      obtain ⟨n2, en2⟩ : ∃ x, x = ((f + 1 + k : Nat) : Int) % 256 := ⟨_, rfl⟩
      obtain ⟨t1, et1⟩ : ∃ x, x = ts f := ⟨_, rfl⟩
      obtain ⟨t2, et2⟩ : ∃ x, x = ts (f + 1 + k) := ⟨_, rfl⟩
      rw [← en1] at ho hn1 hnn
      rw [← en2] at ht hn2' hnn hnl hnl2
      rw [← et1] at ho sm bd1 htt
      rw [← et2] at ht sm bd2 bd3 htt
      obtain ⟨last, el⟩ : ∃ x, x = (f : Int) + 1 + k := ⟨_, rfl⟩
      rw [← el] at hnn hnl hnl2 bd3 sm g2
      have p1 : Pr one n1 t1 := .inl ho
      have p2 : Pr other n2 t2 := .inl ht
      have m1 : isMk one = true := p1.mk hn1.1 hn1.2 bd1.2.1 (by omega)
      have m2 : isMk other = true := p2.mk hn2'.1 hn2'.2 bd2.2.1 (by omega)
      have hin := in_counts (n1 := n1) (n2 := n2) (t1 := t1) (t2 := t2) hg hp sm.1 sm.2 hnn
      have hia := in_ahead (n1 := n2) (t1 := t2) hg bd3 hnl hnl2
      simp only [WS_next, W_B, W_f1, W_f2, W_fA, W_cons, W_pur, W_var, W_not, W_ifT, W_ifB, W_call, W_callK, W_chain, W_wk, W_sl, W_po, W_poN, W_ok, W_err, W_noErr, W_fnD, ev_plus, ev_sub, ev_iB, ev_toB, ev_not, ev_neg, ev_isN, ev_notN, ev_isB, ev_int, ev_abs, ev_max, ev_min, ev_eqI, ev_neI, Ms.isNon, Option.some.injEq, exists_eq_left', List.getElem?_cons_zero, List.getElem?_cons_succ, List.set_cons_zero, List.set_cons_succ, List.map_cons, List.map_nil, List.cons_append, List.nil_append, List.length_cons, List.length_nil, List.reduceReplicate, Nat.reduceAdd, Nat.reduceSub, Bool.not_true, Bool.not_false, Bool.false_eq_true, Bool.true_eq_false, if_true, if_false, decide_true, decide_false, D.int.injEq, D.bl.injEq, D.ref.injEq, exists_and_left, ← el, ix_lst, g1, g2, ev_tup, Nat.reduceLeDiff, vs_tup, Option.bind_some, setAll]
      rw [WS_seq, WS_set]
      simp only [WS_next, W_B, W_f1, W_f2, W_fA, W_cons, W_pur, W_var, W_not, W_ifT, W_ifB, W_call, W_callK, W_chain, W_wk, W_sl, W_po, W_poN, W_ok, W_err, W_noErr, W_fnD, ev_plus, ev_sub, ev_iB, ev_toB, ev_not, ev_neg, ev_isN, ev_notN, ev_isB, ev_int, ev_abs, ev_max, ev_min, ev_eqI, ev_neI, Ms.isNon, Option.some.injEq, exists_eq_left', List.getElem?_cons_zero, List.getElem?_cons_succ, List.set_cons_zero, List.set_cons_succ, List.map_cons, List.map_nil, List.cons_append, List.nil_append, List.length_cons, List.length_nil, List.reduceReplicate, Nat.reduceAdd, Nat.reduceSub, Bool.not_true, Bool.not_false, Bool.false_eq_true, Bool.true_eq_false, if_true, if_false, decide_true, decide_false, D.int.injEq, D.bl.injEq, D.ref.injEq, exists_and_left, counts_ok six hsrc p1 p2 m1 m2 htt bd1.2.1 (show t2 ≤ 150000 by omega)]
      rw [WS_seq, WS_if]
      simp only [WS_next, W_B, W_f1, W_f2, W_fA, W_cons, W_pur, W_var, W_not, W_ifT, W_ifB, W_call, W_callK, W_chain, W_wk, W_sl, W_po, W_poN, W_ok, W_err, W_noErr, W_fnD, ev_plus, ev_sub, ev_iB, ev_toB, ev_not, ev_neg, ev_isN, ev_notN, ev_isB, ev_int, ev_abs, ev_max, ev_min, ev_eqI, ev_neI, Ms.isNon, Option.some.injEq, exists_eq_left', List.getElem?_cons_zero, List.getElem?_cons_succ, List.set_cons_zero, List.set_cons_succ, List.map_cons, List.map_nil, List.cons_append, List.nil_append, List.length_cons, List.length_nil, List.reduceReplicate, Nat.reduceAdd, Nat.reduceSub, Bool.not_true, Bool.not_false, Bool.false_eq_true, Bool.true_eq_false, if_true, if_false, decide_true, decide_false, D.int.injEq, D.bl.injEq, D.ref.injEq, exists_and_left, ev_in, hin]
      have cl := last_bd (t1 := t1) (t2 := t2) hg htt bd1.2.1 (by omega)
      have cf := fst_bd (n1 := n1) (n2 := n2) hp htt bd1.2.1 (show t2 ≤ 150000 by omega)
      have a0 := prog_first hin
      have al := prog_len (a := fst_ pause n1 t1 n2 t2) (b := (t2 - t1) / gap) (by omega) (by omega)
      have am : prog (fst_ pause n1 t1 n2 t2) ((t2 - t1) / gap) ≠ [] := fun e => by
        have := mem_prog.mpr (inP_iff.mp hin)
        rw [e] at this
        cases this
      rw [WS_seq, WS_for]
      simp only [WS_next, W_B, W_f1, W_f2, W_fA, W_cons, W_pur, W_var, W_not, W_ifT, W_ifB, W_call, W_callK, W_chain, W_wk, W_sl, W_po, W_poN, W_ok, W_err, W_noErr, W_fnD, ev_plus, ev_sub, ev_iB, ev_toB, ev_not, ev_neg, ev_isN, ev_notN, ev_isB, ev_int, ev_abs, ev_max, ev_min, ev_eqI, ev_neI, Ms.isNon, Option.some.injEq, exists_eq_left', List.getElem?_cons_zero, List.getElem?_cons_succ, List.set_cons_zero, List.set_cons_succ, List.map_cons, List.map_nil, List.cons_append, List.nil_append, List.length_cons, List.length_nil, List.reduceReplicate, Nat.reduceAdd, Nat.reduceSub, Bool.not_true, Bool.not_false, Bool.false_eq_true, Bool.true_eq_false, if_true, if_false, decide_true, decide_false, D.int.injEq, D.bl.injEq, D.ref.injEq, exists_and_left]
      refine (pick_ok x6.bx (.inr rfl) am (by omega)).to fun rc s7 ⟨mc, x7, l7⟩ => ?_
      obtain ⟨c, rfl, hc⟩ := prog_in mc
      simp only [WS_next, W_B, W_f1, W_f2, W_fA, W_cons, W_pur, W_var, W_not, W_ifT, W_ifB, W_call, W_callK, W_chain, W_wk, W_sl, W_po, W_poN, W_ok, W_err, W_noErr, W_fnD, ev_plus, ev_sub, ev_iB, ev_toB, ev_not, ev_neg, ev_isN, ev_notN, ev_isB, ev_int, ev_abs, ev_max, ev_min, ev_eqI, ev_neI, Ms.isNon, Option.some.injEq, exists_eq_left', List.getElem?_cons_zero, List.getElem?_cons_succ, List.set_cons_zero, List.set_cons_succ, List.map_cons, List.map_nil, List.cons_append, List.nil_append, List.length_cons, List.length_nil, List.reduceReplicate, Nat.reduceAdd, Nat.reduceSub, Bool.not_true, Bool.not_false, Bool.false_eq_true, Bool.true_eq_false, if_true, if_false, decide_true, decide_false, D.int.injEq, D.bl.injEq, D.ref.injEq, exists_and_left, ev_lst, Nat.reduceLeDiff, wlk]
      refine for_rule (fun i δ bx' => bx' = s7 ∧ ∃ x1 x10 x11 x12 x13 x14 x15 x16 x17, δ = [some (.scr ns), x1, some (.ref b), some s, some (.lst (runL ts n)), some (.int f), some (.int last), some one, some other, some (.tup (prog (fst_ pause n1 t1 n2 t2) ((t2 - t1) / gap))), x10, x11, x12, x13, x14, x15, x16, x17]) ⟨rfl, _, _, _, _, _, _, _, _, _, rfl⟩ ?_ ?_
      · rintro δ bx' ⟨rfl, x1, x10, x11, x12, x13, x14, x15, x16, x17, rfl⟩
        rw [WS_seq, WS_set]
        simp only [WS_next, W_B, W_f1, W_f2, W_fA, W_cons, W_pur, W_var, W_not, W_ifT, W_ifB, W_call, W_callK, W_chain, W_wk, W_sl, W_po, W_poN, W_ok, W_err, W_noErr, W_fnD, ev_plus, ev_sub, ev_iB, ev_toB, ev_not, ev_neg, ev_isN, ev_notN, ev_isB, ev_int, ev_abs, ev_max, ev_min, ev_eqI, ev_neI, Ms.isNon, Option.some.injEq, exists_eq_left', List.getElem?_cons_zero, List.getElem?_cons_succ, List.set_cons_zero, List.set_cons_succ, List.map_cons, List.map_nil, List.cons_append, List.nil_append, List.length_cons, List.length_nil, List.reduceReplicate, Nat.reduceAdd, Nat.reduceSub, Bool.not_true, Bool.not_false, Bool.false_eq_true, Bool.true_eq_false, if_true, if_false, decide_true, decide_false, D.int.injEq, D.bl.injEq, D.ref.injEq, exists_and_left, ahead_ok six hsrc p2 m2 hn2'.1 hn2'.2 bd2.2.1 (show t2 ≤ 150000 by omega)]
        rw [WS_seq, WS_if]
        simp only [WS_next, W_B, W_f1, W_f2, W_fA, W_cons, W_pur, W_var, W_not, W_ifT, W_ifB, W_call, W_callK, W_chain, W_wk, W_sl, W_po, W_poN, W_ok, W_err, W_noErr, W_fnD, ev_plus, ev_sub, ev_iB, ev_toB, ev_not, ev_neg, ev_isN, ev_notN, ev_isB, ev_int, ev_abs, ev_max, ev_min, ev_eqI, ev_neI, Ms.isNon, Option.some.injEq, exists_eq_left', List.getElem?_cons_zero, List.getElem?_cons_succ, List.set_cons_zero, List.set_cons_succ, List.map_cons, List.map_nil, List.cons_append, List.nil_append, List.length_cons, List.length_nil, List.reduceReplicate, Nat.reduceAdd, Nat.reduceSub, Bool.not_true, Bool.not_false, Bool.false_eq_true, Bool.true_eq_false, if_true, if_false, decide_true, decide_false, D.int.injEq, D.bl.injEq, D.ref.injEq, exists_and_left, ev_in, hia]
        have a1 := prog_first hia
        have l0 : 0 ≤ t2 / gap := Int.ediv_nonneg (by omega) (by omega)
        have l1' : t2 / gap ≤ t2 := Int.ediv_le_self (a := t2) gap bd2.2.1
        have bl' := prog_len (a := n2) (b := t2 / gap) hn2'.1 (by omega)
        have bm : prog n2 (t2 / gap) ≠ [] := fun e => by
          have := mem_prog.mpr (inP_iff.mp hia)
          rw [e] at this
          cases this
        rw [WS_seq, WS_set]
        simp only [WS_next, W_B, W_f1, W_f2, W_fA, W_cons, W_pur, W_var, W_not, W_ifT, W_ifB, W_call, W_callK, W_chain, W_wk, W_sl, W_po, W_poN, W_ok, W_err, W_noErr, W_fnD, ev_plus, ev_sub, ev_iB, ev_toB, ev_not, ev_neg, ev_isN, ev_notN, ev_isB, ev_int, ev_abs, ev_max, ev_min, ev_eqI, ev_neI, Ms.isNon, Option.some.injEq, exists_eq_left', List.getElem?_cons_zero, List.getElem?_cons_succ, List.set_cons_zero, List.set_cons_succ, List.map_cons, List.map_nil, List.cons_append, List.nil_append, List.length_cons, List.length_nil, List.reduceReplicate, Nat.reduceAdd, Nat.reduceSub, Bool.not_true, Bool.not_false, Bool.false_eq_true, Bool.true_eq_false, if_true, if_false, decide_true, decide_false, D.int.injEq, D.bl.injEq, D.ref.injEq, exists_and_left]
        refine (pick_ok x7.bx (.inr rfl) bm (by omega)).to fun rc s8 ⟨mc', x8, l8⟩ => ?_
        obtain ⟨c', rfl, hc2⟩ := prog_in mc'
        obtain ⟨q1, q2, q3⟩ := of_ahead hg hc2
        have c0 : 0 ≤ c' := by omega
        have c1 : c' ≤ t2 := by
          have := (inP_iff.mp hc2).2.1
          omega
        have br := rt_run c0 hg hgp q1 (by omega)
        have bl := rt_len (gap := gap) (t1 := t2) c0
        have bb : Bent (.tup (rt t2 gap c')) := Bent.tup (fun d hd => rt_pair hd) (by omega)
        have bf : atI (rt t2 gap c') 0 = some (.tup [.int 0, .int (t2 - gap * (c' - ((0 : Nat) : Int)))]) := by
          refine Ms.atI_int (by decide) ?_
          exact rt_at (by omega)
        have bf2 : ∀ x : D, atI [.int 0, x] 0 = some (.int 0) := fun _ => rfl
        have bz : atI (rt t2 gap c') c' = some other := by
          refine Ms.atI_int c0 ?_
          rw [ht]
          exact rt_last c0 q2 hn2'.1 hn2'.2
        have ne2 : cNeD s8 other other = some (.bl false) := by rw [ht]; exact ev_nePair
        have both := both_ok six hsrc bb s8
        rw [br] at both
        have cc : ((c' + 1 == c' + 1) : Bool) = true := beq_self_eq_true _
        have c00 : ((0 : Int) == 0) = true := rfl
        rw [WS_seq, WS_set]
        simp only [WS_next, W_B, W_f1, W_f2, W_fA, W_cons, W_pur, W_var, W_not, W_ifT, W_ifB, W_call, W_callK, W_chain, W_wk, W_sl, W_po, W_poN, W_ok, W_err, W_noErr, W_fnD, ev_plus, ev_sub, ev_iB, ev_toB, ev_not, ev_neg, ev_isN, ev_notN, ev_isB, ev_int, ev_abs, ev_max, ev_min, ev_eqI, ev_neI, Ms.isNon, Option.some.injEq, exists_eq_left', List.getElem?_cons_zero, List.getElem?_cons_succ, List.set_cons_zero, List.set_cons_succ, List.map_cons, List.map_nil, List.cons_append, List.nil_append, List.length_cons, List.length_nil, List.reduceReplicate, Nat.reduceAdd, Nat.reduceSub, Bool.not_true, Bool.not_false, Bool.false_eq_true, Bool.true_eq_false, if_true, if_false, decide_true, decide_false, D.int.injEq, D.bl.injEq, D.ref.injEq, exists_and_left, to_ok six hsrc p2 m2 hn2'.1 hn2'.2 bd2.2.1 (show t2 ≤ 150000 by omega) hc2]
        rw [WS_seq, WS_if]
        simp only [WS_next, W_B, W_f1, W_f2, W_fA, W_cons, W_pur, W_var, W_not, W_ifT, W_ifB, W_call, W_callK, W_chain, W_wk, W_sl, W_po, W_poN, W_ok, W_err, W_noErr, W_fnD, ev_plus, ev_sub, ev_iB, ev_toB, ev_not, ev_neg, ev_isN, ev_notN, ev_isB, ev_int, ev_abs, ev_max, ev_min, ev_eqI, ev_neI, Ms.isNon, Option.some.injEq, exists_eq_left', List.getElem?_cons_zero, List.getElem?_cons_succ, List.set_cons_zero, List.set_cons_succ, List.map_cons, List.map_nil, List.cons_append, List.nil_append, List.length_cons, List.length_nil, List.reduceReplicate, Nat.reduceAdd, Nat.reduceSub, Bool.not_true, Bool.not_false, Bool.false_eq_true, Bool.true_eq_false, if_true, if_false, decide_true, decide_false, D.int.injEq, D.bl.injEq, D.ref.injEq, exists_and_left, isi_tup (d := .tup (rt t2 gap c')) rfl, both.1, len_tup, bl, cc, ix_tup, bf, bf2, c00, bz, ne2]
        rw [WS_seq, WS_for]
        simp only [WS_next, W_B, W_f1, W_f2, W_fA, W_cons, W_pur, W_var, W_not, W_ifT, W_ifB, W_call, W_callK, W_chain, W_wk, W_sl, W_po, W_poN, W_ok, W_err, W_noErr, W_fnD, ev_plus, ev_sub, ev_iB, ev_toB, ev_not, ev_neg, ev_isN, ev_notN, ev_isB, ev_int, ev_abs, ev_max, ev_min, ev_eqI, ev_neI, Ms.isNon, Option.some.injEq, exists_eq_left', List.getElem?_cons_zero, List.getElem?_cons_succ, List.set_cons_zero, List.set_cons_succ, List.map_cons, List.map_nil, List.cons_append, List.nil_append, List.length_cons, List.length_nil, List.reduceReplicate, Nat.reduceAdd, Nat.reduceSub, Bool.not_true, Bool.not_false, Bool.false_eq_true, Bool.true_eq_false, if_true, if_false, decide_true, decide_false, D.int.injEq, D.bl.injEq, D.ref.injEq, exists_and_left, W_rg1]
        refine ⟨4, rfl, by decide, by decide, ?_⟩
        refine for_rule (fun i δ bx' => Ext b s8 bx' ∧ ∃ x13 x14 x15, δ = [some (.scr ns), x1, some (.ref b), some s, some (.lst (runL ts n)), some (.int f), some (.int last), some one, some other, some (.tup (prog (fst_ pause n1 t1 n2 t2) ((t2 - t1) / gap))), some (.int c'), some (.tup (rt t2 gap c')), some (.tup (prog n2 (t2 / gap))), x13, x14, x15, x16, x17]) ⟨Ext.refl x8.bx, _, _, _, rfl⟩ ?_ ?_
        · rintro δ bx' ⟨x9, x13, x14, x15, rfl⟩
          have sh1 : Sh one := by
            rw [ho]
            exact sh_tup (by
              simp only [List.mem_cons, List.not_mem_nil, or_false, forall_eq_or_imp, forall_eq]
              exact ⟨Fit.int (by omega), Fit.int (by omega)⟩) (by show 2 ≤ 10000; decide)
          rw [WS_seq, WS_set]
          simp only [WS_next, W_B, W_f1, W_f2, W_fA, W_cons, W_pur, W_var, W_not, W_ifT, W_ifB, W_call, W_callK, W_chain, W_wk, W_sl, W_po, W_poN, W_ok, W_err, W_noErr, W_fnD, ev_plus, ev_sub, ev_iB, ev_toB, ev_not, ev_neg, ev_isN, ev_notN, ev_isB, ev_int, ev_abs, ev_max, ev_min, ev_eqI, ev_neI, Ms.isNon, Option.some.injEq, exists_eq_left', List.getElem?_cons_zero, List.getElem?_cons_succ, List.set_cons_zero, List.set_cons_succ, List.map_cons, List.map_nil, List.cons_append, List.nil_append, List.length_cons, List.length_nil, List.reduceReplicate, Nat.reduceAdd, Nat.reduceSub, Bool.not_true, Bool.not_false, Bool.false_eq_true, Bool.true_eq_false, if_true, if_false, decide_true, decide_false, D.int.injEq, D.bl.injEq, D.ref.injEq, exists_and_left, ix_tup, a0, W_ifp, ev_lst, Nat.reduceLeDiff]
          refine (pick_ok x9.bx (.inl rfl) (by simp) (by show 6 < 1073741824; decide)).to fun odd s9 ⟨mo, x10, l10⟩ => ?_
          have hod : odd.cl = true ∧ (isI odd = true → ∃ i, odd = .int i ∧ inP (fst_ pause n1 t1 n2 t2) ((t2 - t1) / gap) i = false) ∧ Sh odd := by
            simp only [List.mem_cons, List.not_mem_nil, or_false] at mo
            rcases mo with rfl | rfl | rfl | rfl | rfl | rfl
            · exact ⟨rfl, fun h => (nomatch h), Sh.non⟩
            · exact ⟨rfl, fun _ => ⟨_, rfl, nin (by omega)⟩, Sh.int (by omega)⟩
            · exact ⟨rfl, fun _ => ⟨_, rfl, nin (by omega)⟩, Sh.int (by decide)⟩
            · exact ⟨rfl, fun h => (nomatch h), Sh.bl _⟩
            · exact ⟨rfl, fun h => (nomatch h), sh_1⟩
            · exact ⟨rfl, fun _ => ⟨_, rfl, nin (by omega)⟩, Sh.int (by decide)⟩
          refine WS_check (d := odd) (show m_run_between [s, one, other, odd] s9 = _ from between_bad six hsrc p1 p2 m1 m2 htt bd1.2.1 (show t2 ≤ 150000 by omega) hod.1 hod.2.1 s9) hod.2.2 rfl ?_
          rw [WS_seq, WS_set]
          simp only [WS_next, W_B, W_f1, W_f2, W_fA, W_cons, W_pur, W_var, W_not, W_ifT, W_ifB, W_call, W_callK, W_chain, W_wk, W_sl, W_po, W_poN, W_ok, W_err, W_noErr, W_fnD, ev_plus, ev_sub, ev_iB, ev_toB, ev_not, ev_neg, ev_isN, ev_notN, ev_isB, ev_int, ev_abs, ev_max, ev_min, ev_eqI, ev_neI, Ms.isNon, Option.some.injEq, exists_eq_left', List.getElem?_cons_zero, List.getElem?_cons_succ, List.set_cons_zero, List.set_cons_succ, List.map_cons, List.map_nil, List.cons_append, List.nil_append, List.length_cons, List.length_nil, List.reduceReplicate, Nat.reduceAdd, Nat.reduceSub, Bool.not_true, Bool.not_false, Bool.false_eq_true, Bool.true_eq_false, if_true, if_false, decide_true, decide_false, D.int.injEq, D.bl.injEq, D.ref.injEq, exists_and_left, ix_tup, a1, ev_lst, Nat.reduceLeDiff]
          refine (pick_ok x10.bx (.inl rfl) (by simp) (by show 4 < 1073741824; decide)).to fun oth s10 ⟨mt, x11, l11⟩ => ?_
          have hot : oth.cl = true ∧ (isI oth = true → ∃ i, oth = .int i ∧ inP n2 (t2 / gap) i = false) ∧ Sh oth := by
            simp only [List.mem_cons, List.not_mem_nil, or_false] at mt
            rcases mt with rfl | rfl | rfl | rfl
            · exact ⟨rfl, fun h => (nomatch h), Sh.non⟩
            · exact ⟨rfl, fun _ => ⟨_, rfl, nin (by omega)⟩, Sh.int (by omega)⟩
            · exact ⟨rfl, fun _ => ⟨_, rfl, nin (by omega)⟩, Sh.int (by decide)⟩
            · exact ⟨rfl, fun h => (nomatch h), sh_0⟩
          refine WS_check (d := oth) (show m_run_to [s, other, oth] s10 = _ from to_bad six hsrc p2 m2 hn2'.1 hn2'.2 bd2.2.1 (show t2 ≤ 150000 by omega) hot.1 hot.2.1 s10) hot.2.2 rfl ?_
          rw [WS_seq, WS_if]
          simp only [WS_next, W_B, W_f1, W_f2, W_fA, W_cons, W_pur, W_var, W_not, W_ifT, W_ifB, W_call, W_callK, W_chain, W_wk, W_sl, W_po, W_poN, W_ok, W_err, W_noErr, W_fnD, ev_plus, ev_sub, ev_iB, ev_toB, ev_not, ev_neg, ev_isN, ev_notN, ev_isB, ev_int, ev_abs, ev_max, ev_min, ev_eqI, ev_neI, Ms.isNon, Option.some.injEq, exists_eq_left', List.getElem?_cons_zero, List.getElem?_cons_succ, List.set_cons_zero, List.set_cons_succ, List.map_cons, List.map_nil, List.cons_append, List.nil_append, List.length_cons, List.length_nil, List.reduceReplicate, Nat.reduceAdd, Nat.reduceSub, Bool.not_true, Bool.not_false, Bool.false_eq_true, Bool.true_eq_false, if_true, if_false, decide_true, decide_false, D.int.injEq, D.bl.injEq, D.ref.injEq, exists_and_left]
          refine (refused_ok x11.bx hs hsrc p1 p2 m1 m2 htt sh1).to fun v s11 ⟨ev, x12, l12⟩ => ?_
          subst ev
          simp only [WS_next, W_B, W_f1, W_f2, W_fA, W_cons, W_pur, W_var, W_not, W_ifT, W_ifB, W_call, W_callK, W_chain, W_wk, W_sl, W_po, W_poN, W_ok, W_err, W_noErr, W_fnD, ev_plus, ev_sub, ev_iB, ev_toB, ev_not, ev_neg, ev_isN, ev_notN, ev_isB, ev_int, ev_abs, ev_max, ev_min, ev_eqI, ev_neI, Ms.isNon, Option.some.injEq, exists_eq_left', List.getElem?_cons_zero, List.getElem?_cons_succ, List.set_cons_zero, List.set_cons_succ, List.map_cons, List.map_nil, List.cons_append, List.nil_append, List.length_cons, List.length_nil, List.reduceReplicate, Nat.reduceAdd, Nat.reduceSub, Bool.not_true, Bool.not_false, Bool.false_eq_true, Bool.true_eq_false, if_true, if_false, decide_true, decide_false, D.int.injEq, D.bl.injEq, D.ref.injEq, exists_and_left]
          exact ⟨_, _, _, _, _, _, _, _, _, _, _, _, _, _, _, _, _, rfl⟩
        · rintro j d δ bx' hd ⟨x9, x13, x14, x15, rfl⟩
          refine ⟨_, rfl, ?_⟩
          have rl : ∀ d ∈ Ms.cutD (runL ts n) none (some 8), ∃ a t, d = .tup [.int a, .int t] := fun d hd => by
            obtain ⟨j, _, rfl⟩ := runL_mem (cut_mem hd)
            exact ⟨_, _, rfl⟩
          have r0 : 0 < (Ms.cutD (runL ts n) none (some 8)).length ∧ (Ms.cutD (runL ts n) none (some 8)).length ≤ 8 := by
            unfold Ms.cutD HT.sIx
            rw [List.length_take, List.length_drop, runL_len]
            simp
            omega
          rw [WS_seq, WS_set]
          simp only [WS_next, W_B, W_f1, W_f2, W_fA, W_cons, W_pur, W_var, W_not, W_ifT, W_ifB, W_call, W_callK, W_chain, W_wk, W_sl, W_po, W_poN, W_ok, W_err, W_noErr, W_fnD, ev_plus, ev_sub, ev_iB, ev_toB, ev_not, ev_neg, ev_isN, ev_notN, ev_isB, ev_int, ev_abs, ev_max, ev_min, ev_eqI, ev_neI, Ms.isNon, Option.some.injEq, exists_eq_left', List.getElem?_cons_zero, List.getElem?_cons_succ, List.set_cons_zero, List.set_cons_succ, List.map_cons, List.map_nil, List.cons_append, List.nil_append, List.length_cons, List.length_nil, List.reduceReplicate, Nat.reduceAdd, Nat.reduceSub, Bool.not_true, Bool.not_false, Bool.false_eq_true, Bool.true_eq_false, if_true, if_false, decide_true, decide_false, D.int.injEq, D.bl.injEq, D.ref.injEq, exists_and_left, ev_slL]
          refine (bent_ok x9.bx r0.1 r0.2 rl).to fun v s9 ⟨hv, x10, l10⟩ => ?_
          have both := both_ok six hsrc hv s9
          have six' : Six (.lst [.int low, .int high, .int least, .int most, .int gap, .int pause]) low high least most gap pause := .inr rfl
          have both' := both_ok six' hsrc hv s9
          have lo : cListOf s9 [s] = some (.lst [.int low, .int high, .int least, .int most, .int gap, .int pause]) := by rw [hs]; rfl
          obtain ⟨p, ep⟩ : ∃ p, p = isRun gap pause v := ⟨_, rfl⟩
          rw [← ep] at both both'
          have sh : Sh (.lst [.bl p, .bl p]) := (Fit.lst (a := 0) (b := 31) (by
            simp only [List.mem_cons, List.not_mem_nil, or_false, forall_eq_or_imp, forall_eq]
            exact ⟨Fit.bl _, Fit.bl _⟩)).ok (by decide) (by show 2 * 32 ≤ 1048576; decide)
          rw [WS_seq, WS_set]
          simp only [WS_next, W_B, W_f1, W_f2, W_fA, W_cons, W_pur, W_var, W_not, W_ifT, W_ifB, W_call, W_callK, W_chain, W_wk, W_sl, W_po, W_poN, W_ok, W_err, W_noErr, W_fnD, ev_plus, ev_sub, ev_iB, ev_toB, ev_not, ev_neg, ev_isN, ev_notN, ev_isB, ev_int, ev_abs, ev_max, ev_min, ev_eqI, ev_neI, Ms.isNon, Option.some.injEq, exists_eq_left', List.getElem?_cons_zero, List.getElem?_cons_succ, List.set_cons_zero, List.set_cons_succ, List.map_cons, List.map_nil, List.cons_append, List.nil_append, List.length_cons, List.length_nil, List.reduceReplicate, Nat.reduceAdd, Nat.reduceSub, Bool.not_true, Bool.not_false, Bool.false_eq_true, Bool.true_eq_false, if_true, if_false, decide_true, decide_false, D.int.injEq, D.bl.injEq, D.ref.injEq, exists_and_left, both.1]
          rw [WS_seq, WS_if]
          simp only [WS_next, W_B, W_f1, W_f2, W_fA, W_cons, W_pur, W_var, W_not, W_ifT, W_ifB, W_call, W_callK, W_chain, W_wk, W_sl, W_po, W_poN, W_ok, W_err, W_noErr, W_fnD, ev_plus, ev_sub, ev_iB, ev_toB, ev_not, ev_neg, ev_isN, ev_notN, ev_isB, ev_int, ev_abs, ev_max, ev_min, ev_eqI, ev_neI, Ms.isNon, Option.some.injEq, exists_eq_left', List.getElem?_cons_zero, List.getElem?_cons_succ, List.set_cons_zero, List.set_cons_succ, List.map_cons, List.map_nil, List.cons_append, List.nil_append, List.length_cons, List.length_nil, List.reduceReplicate, Nat.reduceAdd, Nat.reduceSub, Bool.not_true, Bool.not_false, Bool.false_eq_true, Bool.true_eq_false, if_true, if_false, decide_true, decide_false, D.int.injEq, D.bl.injEq, D.ref.injEq, exists_and_left, both.2, both'.2, lo, pick2, ev_lst, Nat.reduceLeDiff, sh.repr, ev_neS sh.st]
          exact ⟨x9.trans x10, _, _, _, rfl⟩
      · rintro j d δ bx' hd ⟨rfl, x1, x10, x11, x12, x13, x14, x15, x16, x17, rfl⟩
        have hd2 : ∃ c, d = .int c ∧ inP (fst_ pause n1 t1 n2 t2) ((t2 - t1) / gap) c = true := by
          have := List.mem_of_getElem? hd
          simp only [List.mem_cons, List.not_mem_nil, or_false] at this
          rcases this with rfl | rfl
          · exact ⟨_, rfl, hin⟩
          · exact ⟨_, rfl, hc⟩
        obtain ⟨c, rfl, hc⟩ := hd2
        refine ⟨_, rfl, ?_⟩
        have hc' := inP_iff.mp hc
        have c0 : 0 < c := by omega
        obtain ⟨q1, q2, q3⟩ := of_counts hg hp hc
        have br := bt_run (n1 := n1) (t1 := t1) c0 hg q1 q2 bd1.2.1 (by omega)
        have bl := bt_len (n1 := n1) (t1 := t1) (st := t2 - t1) c0
        have bb : Bent (.tup (bt n1 t1 (t2 - t1) c)) := Bent.tup (fun d hd => bt_pair hd) (by omega)
        have bf : atI (bt n1 t1 (t2 - t1) c) 0 = some one := by
          refine Ms.atI_int (by decide) ?_
          rw [ho]
          exact bt_first c0 hn1.1 hn1.2
        have bz : atI (bt n1 t1 (t2 - t1) c) c = some other := by
          refine Ms.atI_int (by omega) ?_
          rw [ht]
          exact bt_last c0 q3 hn2'.1 hn2'.2
        have ne1 : cNeD bx' one one = some (.bl false) := by rw [ho]; exact ev_nePair
        have ne2 : cNeD bx' other other = some (.bl false) := by rw [ht]; exact ev_nePair
        have lo1 : cListOf bx' [one] = some (.lst [.int n1, .int t1]) := by rw [ho]; rfl
        have lo2 : cListOf bx' [other] = some (.lst [.int n2, .int t2]) := by rw [ht]; rfl
        have both := both_ok six hsrc bb bx'
        rw [br] at both
        have cc : ((c + 1 == c + 1) : Bool) = true := beq_self_eq_true _
        have p1' : Pr (.lst [.int n1, .int t1]) n1 t1 := .inr rfl
        have p2' : Pr (.lst [.int n2, .int t2]) n2 t2 := .inr rfl
        have m1' := p1'.mk hn1.1 hn1.2 bd1.2.1 (by omega)
        have m2' := p2'.mk hn2'.1 hn2'.2 bd2.2.1 (by omega)
        rw [WS_seq, WS_set]
        simp only [WS_next, W_B, W_f1, W_f2, W_fA, W_cons, W_pur, W_var, W_not, W_ifT, W_ifB, W_call, W_callK, W_chain, W_wk, W_sl, W_po, W_poN, W_ok, W_err, W_noErr, W_fnD, ev_plus, ev_sub, ev_iB, ev_toB, ev_not, ev_neg, ev_isN, ev_notN, ev_isB, ev_int, ev_abs, ev_max, ev_min, ev_eqI, ev_neI, Ms.isNon, Option.some.injEq, exists_eq_left', List.getElem?_cons_zero, List.getElem?_cons_succ, List.set_cons_zero, List.set_cons_succ, List.map_cons, List.map_nil, List.cons_append, List.nil_append, List.length_cons, List.length_nil, List.reduceReplicate, Nat.reduceAdd, Nat.reduceSub, Bool.not_true, Bool.not_false, Bool.false_eq_true, Bool.true_eq_false, if_true, if_false, decide_true, decide_false, D.int.injEq, D.bl.injEq, D.ref.injEq, exists_and_left, between_ok six hsrc p1 p2 m1 m2 htt bd1.2.1 (show t2 ≤ 150000 by omega) hc]
        rw [WS_seq, WS_if]
        simp only [WS_next, W_B, W_f1, W_f2, W_fA, W_cons, W_pur, W_var, W_not, W_ifT, W_ifB, W_call, W_callK, W_chain, W_wk, W_sl, W_po, W_poN, W_ok, W_err, W_noErr, W_fnD, ev_plus, ev_sub, ev_iB, ev_toB, ev_not, ev_neg, ev_isN, ev_notN, ev_isB, ev_int, ev_abs, ev_max, ev_min, ev_eqI, ev_neI, Ms.isNon, Option.some.injEq, exists_eq_left', List.getElem?_cons_zero, List.getElem?_cons_succ, List.set_cons_zero, List.set_cons_succ, List.map_cons, List.map_nil, List.cons_append, List.nil_append, List.length_cons, List.length_nil, List.reduceReplicate, Nat.reduceAdd, Nat.reduceSub, Bool.not_true, Bool.not_false, Bool.false_eq_true, Bool.true_eq_false, if_true, if_false, decide_true, decide_false, D.int.injEq, D.bl.injEq, D.ref.injEq, exists_and_left, isi_tup (d := .tup (bt n1 t1 (t2 - t1) c)) rfl, both.1, len_tup, bl, cc, ix_tup, bf, bz, ne1, ne2]
        rw [WS_seq, WS_if]
        simp only [WS_next, W_B, W_f1, W_f2, W_fA, W_cons, W_pur, W_var, W_not, W_ifT, W_ifB, W_call, W_callK, W_chain, W_wk, W_sl, W_po, W_poN, W_ok, W_err, W_noErr, W_fnD, ev_plus, ev_sub, ev_iB, ev_toB, ev_not, ev_neg, ev_isN, ev_notN, ev_isB, ev_int, ev_abs, ev_max, ev_min, ev_eqI, ev_neI, Ms.isNon, Option.some.injEq, exists_eq_left', List.getElem?_cons_zero, List.getElem?_cons_succ, List.set_cons_zero, List.set_cons_succ, List.map_cons, List.map_nil, List.cons_append, List.nil_append, List.length_cons, List.length_nil, List.reduceReplicate, Nat.reduceAdd, Nat.reduceSub, Bool.not_true, Bool.not_false, Bool.false_eq_true, Bool.true_eq_false, if_true, if_false, decide_true, decide_false, D.int.injEq, D.bl.injEq, D.ref.injEq, exists_and_left, both.2, lo1, lo2, pick4, between_ok six hsrc p1' p2' m1' m2' htt bd1.2.1 (show t2 ≤ 150000 by omega) hc, both.1]
        exact ⟨trivial, _, _, _, _, _, _, _, _, _, rfl⟩
  obtain ⟨a, st, e, rfl⟩ := W.ok_iff.mpr key
  exact ⟨st, e⟩
end K14

end
set_option Elab.async false
set_option maxRecDepth 100000
set_option maxHeartbeats 0
open PySem PySem.W PySem.Calls PyProof.Rows in
theorem PySem.Challenge.cw_wrecktold_k14_whole_runs_of_a_boot_holds : PySem.Challenge.rw_wrecktold_k14_whole_runs_of_a_boot.Holds := by
  w_on; o_law
  refine HandSHeadRun.head_any (r := OpenLaw.row PySem.Challenge.rw_wrecktold_k14_whole_runs_of_a_boot) (q := view (OpenLaw.row PySem.Challenge.rw_wrecktold_k14_whole_runs_of_a_boot).prog [41]) (H := K14.hk) (ob := K14.ob) (M := 12000) (loose := K14.loose) (d := HandSHeadRun.topDef (OpenLaw.row PySem.Challenge.rw_wrecktold_k14_whole_runs_of_a_boot).prog 41) (kwd := []) K14.ob_eq
    (by kernel_rfl) (fun s => by kernel_rfl) K14.run (by kernel_rfl) (by kernel_rfl) (by kernel_rfl) (by rfl) (by first | assumption | decide +kernel) (by decide +kernel) ⟨rfl, rfl, rfl, rfl, rfl, by decide +kernel⟩ ?hw ?hc
  case hw => w_witness2
  case hc =>
    refine Ms.walkX (l := PySem.Challenge.rw_wrecktold_k14_whole_runs_of_a_boot) (n := 63) rfl (by decide) (by kernel_rfl) ?F
    intro w mg fa h Y G hmg0
    obtain ⟨K, KX, c⟩ := Y
    have hmg : mg ("law" : PySem.Str) = some (.ref fa) := by
      have e : (HandSHeadRun.topDef (OpenLaw.row PySem.Challenge.rw_wrecktold_k14_whole_runs_of_a_boot).prog 41).name = ("law" : PySem.Str) := by kernel_rfl
      rw [← e]
      exact hmg0
    exact ⟨K, KX, K14.all_mk K14.math KX G hmg c⟩

