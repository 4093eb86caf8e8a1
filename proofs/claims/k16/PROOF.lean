import PyProof.Rows.All
import Wide.All
import OpenK.AllK
import Wide.FinOn
import HandS.ForMost
import HandS.ForExc
import HandS.Wide
import HandS.IsInst
import HandS.Lambda
import HandS.Conv
import PyProof.ReprRoads
import PyProof.ReprLen
import HandS.TupAny
import HandS.Text
import HandS.Style
import HandS.ExcIs
import HandS.Zip
import KE.KNestM
import HandS.EndTab
import PyProof.GenQ
import HandS.AnyAll
import HandS.GenOver
import HandS.Head0
import HandS.Head1
import HandS.Head2
import HandS.HeadEnd
import HandS.HeadHook1
import HandS.HeadHook2
import HandS.HeadHook3
import HandS.HeadHook4
import HandS.SetFor
import HandS.Deep
import HandS.TupMul
import HandS.Dict
import KE.DataMinMax
import PyProof.Rows.CallKwBuiltin
import PySem.Challenge.RW_wrecktold_k16_whole_tents_by_all_paths
import PyProof.Rows.ReprOcc
section
set_option Elab.async false
set_option linter.all false
set_option maxRecDepth 100000
set_option maxHeartbeats 4000000
/-! Mirrors: an expression of the text read as a plain function over data, one box (a list of two ints) that changes. -/
namespace Ms
open PySem PySem.Spec PyProof.Rows L2

/-- what may not be told as data: the cells that live, and objects under way -/
structure Mu where
  cs : List (Addr × Bool)
  ex : List Addr
def Mu.ok (β : Mu) (a : Addr) : Prop := (a, true) ∉ β.cs ∧ a ∉ β.ex
/-- data: what a name of the text may hold -/
inductive D where
  | non | bl (b : Bool) | int (i : Int) | str (x : Str) | lst (l : List D) | tup (l : List D) | ref (k : Nat) | fn (x : Str) | scr (l : List Int)
/-- what changes: lists that grow -/
inductive Cell where
  | lst (l : List D) | dead | lam (n : Nat)
abbrev Sto := List Cell

def SL (β : Mu) (H : Hp) (a : Addr) (xs : List V) : Prop := L2.Rd H a (.lst xs) ∧ β.ok a
def ST (β : Mu) (H : Hp) (a : Addr) (xs : List V) : Prop := L2.Rd H a (.tup xs) ∧ β.ok a
def SS (K : PySem.W.Frag) (β : Mu) (H : Hp) (a : Addr) (xs : List V) : Prop := (L2.Rd H a (.lst xs) ∧ β.ok a) ∨ SqL K (fun _ => none) a xs
theorem SL.sq {K : PySem.W.Frag} {β : Mu} {H : Hp} {a : Addr} {xs : List V} (h : SL β H a xs) : SqL K H a xs := .inl h.1
theorem ST.sq {K : PySem.W.Frag} {β : Mu} {H : Hp} {a : Addr} {xs : List V} (h : ST β H a xs) : SqT K H a xs := .inl h.1
theorem rd_none {a : Addr} {u : HO} : ¬ L2.Rd (fun _ => none) a u := fun h => by
  rcases h with h | ⟨o, h⟩ <;> cases h
theorem SS.sq {K : PySem.W.Frag} {β : Mu} {H : Hp} {a : Addr} {xs : List V} (h : SS K β H a xs) : SqL K H a xs := by
  rcases h with h | h
  · exact .inl h.1
  · rcases h with h | h
    · exact (rd_none h).elim
    · exact .inr h
mutual
/-- a value is such data -/
inductive R (K : PySem.W.Frag) (β : Mu) (H : Hp) : V → D → Prop
  | non : R K β H .non .non
  | bl (b : Bool) : R K β H (.bl b) (.bl b)
  | int (i : Int) : R K β H (.int i) (.int i)
  | str (x : Str) : R K β H (.str x) (.str x)
  | lst {a : Addr} {xs : List V} {ds : List D} : SL β H a xs → RA K β H xs ds → R K β H (.ref a) (.lst ds)
  | tup {a : Addr} {xs : List V} {ds : List D} : ST β H a xs → RA K β H xs ds → R K β H (.ref a) (.tup ds)
  | ref {a : Addr} {k : Nat} {b : Bool} : β.cs[k]? = some (a, b) → R K β H (.ref a) (.ref k)
  | fn {a : Addr} {x : Str} : PySem.W.nsIn K mainGlobals x = some (some (.ref a)) → PySem.W.keepIn K (.ref a) = true → R K β H (.ref a) (.fn x)
  | scr {a : Addr} {ns : List Int} : SS K β H a (ns.map V.int) → R K β H (.ref a) (.scr ns)
inductive RA (K : PySem.W.Frag) (β : Mu) (H : Hp) : List V → List D → Prop
  | nil : RA K β H [] []
  | cons {v : V} {vs : List V} {d : D} {ds : List D} : R K β H v d → RA K β H vs ds → RA K β H (v :: vs) (d :: ds)
end

/-- what is told of a heap goes on: all but the cells and the tables of code; cells are never forgotten, and new ones are new -/
structure Le (β : Mu) (H : Hp) (β' : Mu) (H' : Hp) : Prop where
  cs : ∀ (k : Nat) (a : Addr) (b : Bool), β.cs[k]? = some (a, b) → ∃ b', β'.cs[k]? = some (a, b') ∧ (b' = true → b = true)
  nw : ∀ (k : Nat) (a : Addr) (b : Bool), β'.cs[k]? = some (a, b) → β.cs[k]? = none → ∀ o, H a = some o → ∃ ps, o = .tbl ps
  e1 : ∀ e, e ∈ β.ex → e ∈ β'.ex
  e2 : ∀ e, e ∈ β'.ex → e ∉ β.ex → ∀ o, H e = some o → ∃ ps, o = .tbl ps
  kp : ∀ b o, H b = some o → (b, true) ∉ β.cs → (∀ ps, o ≠ .tbl ps) → H' b = some o
  dm : ∀ b o, H b = some o → (∀ ps, o ≠ .tbl ps) → ∃ o', H' b = some o' ∧ ∀ ps, o' ≠ .tbl ps
theorem Le.refl {β : Mu} {H : Hp} : Le β H β H := ⟨fun k a b h => ⟨b, h, id⟩, fun k a b h n => (by rw [n] at h; cases h), fun _ h => h, fun e h n => (n h).elim, fun _ _ h _ _ => h, fun b o h t => ⟨o, h, t⟩⟩
theorem Le.live {β β' : Mu} {H H' : Hp} (l : Le β H β' H') {a : Addr} {o : HO} (h : H a = some o) (t : ∀ ps, o ≠ .tbl ps) (n : (a, true) ∉ β.cs) : (a, true) ∉ β'.cs := fun z => by
  obtain ⟨k, hk⟩ := List.getElem?_of_mem z
  cases e : β.cs[k]? with
  | none =>
    obtain ⟨ps, z⟩ := l.nw k a true hk e o h
    exact t ps z
  | some p =>
    obtain ⟨a', b⟩ := p
    obtain ⟨b', h1, h2⟩ := l.cs k a' b e
    rw [hk] at h1
    cases h1
    have := h2 rfl
    subst this
    exact n (List.mem_of_getElem? e)
theorem Le.trans {β β1 β2 : Mu} {H H1 H2 : Hp} (a : Le β H β1 H1) (b : Le β1 H1 β2 H2) : Le β H β2 H2 := by
  refine ⟨fun k c t h => ?_, fun k c t h n o ho => ?_, fun e h => b.e1 e (a.e1 e h), fun e h n o ho => ?_, fun c o h n t => ?_, fun c o h t => ?_⟩
  · obtain ⟨t1, h1, i1⟩ := a.cs k c t h
    obtain ⟨t2, h2, i2⟩ := b.cs k c t1 h1
    exact ⟨t2, h2, fun z => i1 (i2 z)⟩
  · cases e : β1.cs[k]? with
    | none =>
      have q := b.nw k c t h e
      by_cases ht : ∃ ps, o = .tbl ps
      · exact ht
      · obtain ⟨o', z, t'⟩ := a.dm c o ho (fun ps z => ht ⟨ps, z⟩)
        obtain ⟨ps, z2⟩ := q o' z
        exact (t' ps z2).elim
    | some p =>
      obtain ⟨c', t'⟩ := p
      obtain ⟨t2, h2, _⟩ := b.cs k c' t' e
      rw [h] at h2
      cases h2
      exact a.nw k c t' e n o ho
  · by_cases hm : e ∈ β1.ex
    · exact a.e2 e hm n o ho
    · have q := b.e2 e h hm
      by_cases ht : ∃ ps, o = .tbl ps
      · exact ht
      · obtain ⟨o', z, t'⟩ := a.dm e o ho (fun ps z => ht ⟨ps, z⟩)
        obtain ⟨ps, z2⟩ := q o' z
        exact (t' ps z2).elim
  · exact b.kp c o (a.kp c o h n t) (a.live h t n) t
  · obtain ⟨o', h', t'⟩ := a.dm c o h t
    exact b.dm c o' h' t'
theorem Le.of {β : Mu} {H H' : Hp} (e : ∀ b o, H b = some o → H' b = some o) : Le β H β H' := ⟨fun k a b h => ⟨b, h, id⟩, fun k a b h n => (by rw [n] at h; cases h), fun _ h => h, fun e h n => (n h).elim, fun b o h _ _ => e b o h, fun b o h t => ⟨o, e b o h, t⟩⟩
theorem Le.ext {β : Mu} {H H' : Hp} (e : ∀ b o, H b = some o → (∀ ps, o ≠ .tbl ps) → H' b = some o) : Le β H β H' := ⟨fun k a b h => ⟨b, h, id⟩, fun k a b h n => (by rw [n] at h; cases h), fun _ h => h, fun e h n => (n h).elim, fun b o h _ t => e b o h t, fun b o h t => ⟨o, e b o h t, t⟩⟩
theorem keep_new {H : Hp} {p : Addr} {o : HO} (h : H p = none) : ∀ b u, H b = some u → (upd H p o) b = some u := fun b u e => by
  rw [upd_ne (ne_of_none e h)]
  exact e
theorem Le.new {β : Mu} {H : Hp} {p : Addr} {o : HO} (h : H p = none) : Le β H β (upd H p o) := .of (keep_new h)
theorem rd_some {H : Hp} {a : Addr} {u : HO} (t : ∀ ps, u ≠ .tbl ps) (h : L2.Rd H a u) : ∃ o, H a = some o ∧ ∀ ps, o ≠ .tbl ps := by
  rcases h with h | ⟨o, h⟩
  · exact ⟨_, h, t⟩
  · exact ⟨_, h, fun ps z => by cases z⟩
theorem Le.rd {β β' : Mu} {H H' : Hp} (l : Le β H β' H') {a : Addr} {u : HO} (n : β.ok a) (h : L2.Rd H a u) (t : ∀ ps, u ≠ .tbl ps) : L2.Rd H' a u := by
  rcases h with h | ⟨o, h⟩
  · exact .inl (l.kp _ _ h n.1 t)
  · exact .inr ⟨o, l.kp _ _ h n.1 (fun ps z => by cases z)⟩
theorem Le.ok {β β' : Mu} {H H' : Hp} (l : Le β H β' H') {a : Addr} {u : HO} (n : β.ok a) (h : L2.Rd H a u) (t : ∀ ps, u ≠ .tbl ps) : β'.ok a := by
  obtain ⟨o, h, t⟩ := rd_some t h
  exact ⟨l.live h t n.1, fun z => by
    obtain ⟨ps, z2⟩ := l.e2 a z n.2 o h
    exact t ps z2⟩
theorem SL.le {β β' : Mu} {H H' : Hp} {a : Addr} {xs : List V} (h : SL β H a xs) (l : Le β H β' H') : SL β' H' a xs := ⟨l.rd h.2 h.1 (fun ps z => by cases z), l.ok h.2 h.1 (fun ps z => by cases z)⟩
theorem ST.le {β β' : Mu} {H H' : Hp} {a : Addr} {xs : List V} (h : ST β H a xs) (l : Le β H β' H') : ST β' H' a xs := ⟨l.rd h.2 h.1 (fun ps z => by cases z), l.ok h.2 h.1 (fun ps z => by cases z)⟩
theorem SS.le {K : PySem.W.Frag} {β β' : Mu} {H H' : Hp} {a : Addr} {xs : List V} (h : SS K β H a xs) (l : Le β H β' H') : SS K β' H' a xs := by
  rcases h with ⟨h, n⟩ | h
  · exact .inl ⟨l.rd n h (fun ps z => by cases z), l.ok n h (fun ps z => by cases z)⟩
  · exact .inr h
mutual
theorem R.le {K : PySem.W.Frag} {β β' : Mu} {H H' : Hp} (l : Le β H β' H') : ∀ {v : V} {d : D}, R K β H v d → R K β' H' v d
  | _, _, .non => .non
  | _, _, .bl b => .bl b
  | _, _, .int i => .int i
  | _, _, .str x => .str x
  | _, _, .lst h r => .lst (h.le l) (RA.le l r)
  | _, _, .tup h r => .tup (h.le l) (RA.le l r)
  | _, _, .ref h => by
    obtain ⟨b', h', _⟩ := l.cs _ _ _ h
    exact .ref h'
  | _, _, .fn h k => .fn h k
  | _, _, .scr h => .scr (h.le l)
theorem RA.le {K : PySem.W.Frag} {β β' : Mu} {H H' : Hp} (l : Le β H β' H') : ∀ {vs : List V} {ds : List D}, RA K β H vs ds → RA K β' H' vs ds
  | _, _, .nil => .nil
  | _, _, .cons h r => .cons (R.le l h) (RA.le l r)
end
theorem RA.length {K : PySem.W.Frag} {β : Mu} {H : Hp} : ∀ {vs : List V} {ds : List D}, RA K β H vs ds → vs.length = ds.length
  | _, _, .nil => rfl
  | _, _, .cons _ r => by rw [List.length_cons, List.length_cons, RA.length r]
theorem RA.get {K : PySem.W.Frag} {β : Mu} {H : Hp} : ∀ {vs : List V} {ds : List D} {i : Nat} {d : D}, RA K β H vs ds → ds[i]? = some d → ∃ v, vs[i]? = some v ∧ R K β H v d
  | _, _, _, _, .nil, e => by simp at e
  | _, _, 0, d, .cons (v := v) h _, e => by
    have e2 := Option.some.inj e
    subst e2
    exact ⟨v, rfl, h⟩
  | _, _, i + 1, d, .cons _ r, e => by
    obtain ⟨v, h1, h2⟩ := RA.get (i := i) r (by simpa using e)
    exact ⟨v, by simpa using h1, h2⟩
theorem RA.append {K : PySem.W.Frag} {β : Mu} {H : Hp} : ∀ {vs ws : List V} {ds es : List D}, RA K β H vs ds → RA K β H ws es → RA K β H (vs ++ ws) (ds ++ es)
  | _, _, _, _, .nil, h => h
  | _, _, _, _, .cons a r, h => .cons a (RA.append r h)
theorem RA.drop {K : PySem.W.Frag} {β : Mu} {H : Hp} : ∀ {vs : List V} {ds : List D} (n : Nat), RA K β H vs ds → RA K β H (vs.drop n) (ds.drop n)
  | _, _, 0, h => by simpa using h
  | _, _, n + 1, .nil => by simpa using RA.nil
  | _, _, n + 1, .cons _ r => by simpa using RA.drop n r
theorem RA.take {K : PySem.W.Frag} {β : Mu} {H : Hp} : ∀ {vs : List V} {ds : List D} (n : Nat), RA K β H vs ds → RA K β H (vs.take n) (ds.take n)
  | _, _, 0, _ => by simpa using RA.nil
  | _, _, n + 1, .nil => by simpa using RA.nil
  | _, _, n + 1, .cons a r => by simpa using RA.cons a (RA.take n r)
theorem RA.ints {K : PySem.W.Frag} {β : Mu} {H : Hp} : ∀ ns : List Int, RA K β H (ns.map V.int) (ns.map D.int)
  | [] => .nil
  | n :: r => .cons (.int n) (RA.ints r)
theorem R.int_inv {K : PySem.W.Frag} {β : Mu} {H : Hp} {v : V} {i : Int} (h : R K β H v (.int i)) : v = .int i := by cases h; rfl
theorem R.bl_inv {K : PySem.W.Frag} {β : Mu} {H : Hp} {v : V} {b : Bool} (h : R K β H v (.bl b)) : v = .bl b := by cases h; rfl
theorem RA.ints_inv {K : PySem.W.Frag} {β : Mu} {H : Hp} : ∀ {ns : List Int} {vs : List V}, RA K β H vs (ns.map D.int) → vs = ns.map V.int
  | [], _, h => by cases h; rfl
  | n :: r, _, h => by
    cases h with
    | cons a b => rw [a.int_inv, RA.ints_inv b]; rfl

/-- the tables of code, and what a lambda of the frame is -/
structure Tb where
  tb : List (Addr × Str)
  lm : Nat → Addr → Hp → Prop
  st : ∀ n a H H', lm n a H → (∀ b p, H b = some (.ext p) → H' b = some (.ext p)) → lm n a H'
/-- what a cell holds -/
def CellOk (K : PySem.W.Frag) (T : Tb) (β : Mu) (H : Hp) (a : Addr) (b : Bool) : Cell → Prop
  | .lst ds => b = true ∧ ∃ xs, H a = some (.lst xs) ∧ RA K β H xs ds
  | .dead => b = false
  | .lam n => b = false ∧ T.lm n a H
/-- the cells and the tables of code stand -/
structure Good (K : PySem.W.Frag) (T : Tb) (β : Mu) (st : Sto) (H : Hp) : Prop where
  ln : β.cs.length = st.length
  cs : ∀ (k : Nat) (a : Addr) (b : Bool), β.cs[k]? = some (a, b) → ∃ c, st[k]? = some c ∧ CellOk K T β H a b c
  inj : ∀ (i j : Nat) (a : Addr) (b : Bool), β.cs[i]? = some (a, true) → β.cs[j]? = some (a, b) → i = j
  sm : ∀ (k : Nat) (a : Addr) (b : Bool), β.cs[k]? = some (a, b) → ∃ o, H a = some o ∧ ∀ ps, o ≠ .tbl ps
  ex : ∀ e, e ∈ β.ex → (∃ l, H e = some (.lst l)) ∧ ∀ b, (e, b) ∉ β.cs
  tb : LamX.Tabs T.tb H
/-- what the heap tells of things other than lists stays -/
theorem Good.xk {K : PySem.W.Frag} {T : Tb} {β β' : Mu} {st : Sto} {H H' : Hp} (g : Good K T β st H) (l : Le β H β' H') : ∀ b p, H b = some (.ext p) → H' b = some (.ext p) := fun b p e => l.kp b _ e (fun z => by
  obtain ⟨i, hi⟩ := List.getElem?_of_mem z
  obtain ⟨c, h1, h2⟩ := g.cs i b true hi
  cases c with
  | dead => cases h2
  | lam n => cases h2.1
  | lst ds =>
    obtain ⟨_, xs, h3, _⟩ := h2
    rw [e] at h3
    cases h3) fun ps z => by cases z
theorem CellOk.le {K : PySem.W.Frag} {T : Tb} {β β' : Mu} {H H' : Hp} {a : Addr} {b : Bool} {c : Cell} (h : CellOk K T β H a b c) (l : Le β H β' H') (xk : ∀ b p, H b = some (.ext p) → H' b = some (.ext p)) (s : ∀ xs, H a = some (.lst xs) → H' a = some (.lst xs)) : CellOk K T β' H' a b c := by
  cases c with
  | dead => exact h
  | lam n => exact ⟨h.1, T.st n a _ _ h.2 xk⟩
  | lst ds =>
    obtain ⟨h1, xs, h2, h3⟩ := h
    exact ⟨h1, xs, s xs h2, h3.le l⟩
theorem Good.ext {K : PySem.W.Frag} {T : Tb} {β : Mu} {st : Sto} {H H' : Hp} (g : Good K T β st H) (e : ∀ b o, H b = some o → H' b = some o) : Good K T β st H' :=
  ⟨g.ln, fun k a b h => by
    obtain ⟨c, h1, h2⟩ := g.cs k a b h
    exact ⟨c, h1, h2.le (.of e) (g.xk (.of e)) fun xs z => e _ _ z⟩, g.inj, fun k a b h => by
    obtain ⟨o, z, t⟩ := g.sm k a b h
    exact ⟨o, e _ _ z, t⟩, fun a ha => by
    obtain ⟨⟨l, h⟩, n⟩ := g.ex a ha
    exact ⟨⟨l, e _ _ h⟩, n⟩, g.tb.ext e⟩
theorem Good.new {K : PySem.W.Frag} {T : Tb} {β : Mu} {st : Sto} {H : Hp} {p : Addr} {o : HO} (g : Good K T β st H) (h : H p = none) : Good K T β st (upd H p o) := g.ext (keep_new h)
theorem Good.ne {K : PySem.W.Frag} {T : Tb} {β : Mu} {st : Sto} {H : Hp} {p : Addr} (g : Good K T β st H) (h : H p = none) : β.ok p := by
  refine ⟨fun z => ?_, fun z => ?_⟩
  · obtain ⟨k, hk⟩ := List.getElem?_of_mem z
    obtain ⟨o, this, _⟩ := g.sm k p true hk
    rw [h] at this
    cases this
  · obtain ⟨⟨l, this⟩, _⟩ := g.ex p z
    rw [h] at this
    cases this
/-- a list of data, also one that grows, as it is now -/
def vl (st : Sto) : D → Option (List D)
  | .lst l => some l
  | .ref k => match st[k]? with
    | some (.lst l) => some l
    | _ => none
  | _ => none
theorem R.vl {K : PySem.W.Frag} {T : Tb} {β : Mu} {st : Sto} {H : Hp} {v : V} {d : D} {ds : List D} (r : R K β H v d) (g : Good K T β st H) (h : vl st d = some ds) : ∃ a xs, v = .ref a ∧ L2.Rd H a (.lst xs) ∧ RA K β H xs ds := by
  cases r with
  | lst s ra =>
    cases h
    exact ⟨_, _, rfl, s.1, ra⟩
  | ref hk =>
    rename_i a k b
    obtain ⟨c, h1, h2⟩ := g.cs _ _ _ hk
    simp only [Ms.vl, h1] at h
    cases c with
    | dead => cases h
    | lam n => cases h
    | lst l =>
      cases h
      obtain ⟨_, xs, h3, h4⟩ := h2
      exact ⟨a, xs, rfl, .inl h3, h4⟩
  | non => cases h
  | bl _ => cases h
  | int _ => cases h
  | str _ => cases h
  | tup _ _ => cases h
  | fn _ _ => cases h
  | scr _ => cases h

/-- what a piece of the text comes to: a result and the cells behind it, an error that keeps data, or: nothing is told -/
inductive Res (α : Type) where
  | ok (a : α) (st : Sto) | err (c : Str) (d : D) (st : Sto) | bad
abbrev Fn (α : Type) := List (Option D) → Sto → Res α
def pur {α : Type} (a : α) : Fn α := fun _ bx => .ok a bx
def bnd {α γ : Type} (F : Fn α) (G : α → Fn γ) : Fn γ := fun δ bx => match F δ bx with
  | .ok a bx' => G a δ bx'
  | .err c d bx' => .err c d bx'
  | .bad => .bad
def lft {α : Type} (o : Option α) : Fn α := fun _ bx => match o with
  | some a => .ok a bx
  | none => .bad
/-- where one stands: the tables, the errors' classes -/
structure Pm where
  T : Tb
  CR : Str → Addr
def OutE (K : PySem.W.Frag) (P : Pm) (β : Mu) (H : Hp) (c : Str) (d : D) (bx : Sto) (E : XK) : Prop :=
  ∀ β' a v H', Le β H β' H' → Good K P.T β' bx H' → H' a = some (.xd [(("at" : Str), v)]) → R K β' H' v d → E (.ref (P.CR c)) (some a) H'
/-- the end of an expression -/
def Out (K : PySem.W.Frag) (P : Pm) (β : Mu) (H : Hp) (r : Res D) (Q : VK) (E : XK) : Prop := match r with
  | .ok d bx => ∀ β' v H', Le β H β' H' → Good K P.T β' bx H' → R K β' H' v d → Q v H'
  | .err c d bx => OutE K P β H c d bx E
  | .bad => False
theorem OutE.le {K : PySem.W.Frag} {P : Pm} {β β1 : Mu} {H H1 : Hp} {c : Str} {d : D} {bx : Sto} {E : XK} (l : Le β H β1 H1) (h : OutE K P β H c d bx E) : OutE K P β1 H1 c d bx E :=
  fun β' a v H' l' g x r => h β' a v H' (l.trans l') g x r
theorem Out.le {K : PySem.W.Frag} {P : Pm} {β β1 : Mu} {H H1 : Hp} {r : Res D} {Q : VK} {E : XK} (l : Le β H β1 H1) (h : Out K P β H r Q E) : Out K P β1 H1 r Q E := by
  cases r with
  | ok d bx => exact fun β' v H' l' g r => h β' v H' (l.trans l') g r
  | err c d bx => exact OutE.le l h
  | bad => exact h
/-- the slots hold the data -/
structure Ev (K : PySem.W.Frag) (β : Mu) (H : Hp) (σ : L2.St) (δ : List (Option D)) : Prop where
  len : σ.length = δ.length
  at_ : ∀ (i : Nat) (d : D), δ[i]? = some (some d) → ∃ v, σ[i]? = some (some v) ∧ R K β H v d
theorem Ev.le {K : PySem.W.Frag} {β β' : Mu} {H H' : Hp} {σ : L2.St} {δ : List (Option D)} (e : Ev K β H σ δ) (l : Le β H β' H') : Ev K β' H' σ δ :=
  ⟨e.len, fun i d h => by
    obtain ⟨v, h1, h2⟩ := e.at_ i d h
    exact ⟨v, h1, h2.le l⟩⟩
theorem Ev.set {K : PySem.W.Frag} {β : Mu} {H : Hp} {σ : L2.St} {δ : List (Option D)} (e : Ev K β H σ δ) (i : Nat) {v : V} {d : D} (r : R K β H v d) : Ev K β H (σ.set i (some v)) (δ.set i (some d)) := by
  refine ⟨by simp [e.len], fun j d' h => ?_⟩
  by_cases hj : i = j
  · subst hj
    by_cases hl : i < δ.length
    · rw [List.getElem?_set_self hl] at h
      cases h
      exact ⟨v, List.getElem?_set_self (by rw [e.len]; exact hl), r⟩
    · rw [List.getElem?_eq_none (by simp; omega)] at h
      cases h
  · rw [List.getElem?_set_ne hj] at h
    obtain ⟨v', h1, h2⟩ := e.at_ j d' h
    exact ⟨v', by rw [List.getElem?_set_ne hj]; exact h1, h2⟩

section
variable {K : PySem.W.Frag} {P : Pm} {E : XK}
def tD (K : PySem.W.Frag) (P : Pm) (E : XK) (F : Fn D) : TE := fun σ H Q => ∃ β δ bx, Ev K β H σ δ ∧ Good K P.T β bx H ∧ Out K P β H (F δ bx) Q E
/-- lists of data -/
def OutA (K : PySem.W.Frag) (P : Pm) (β : Mu) (H : Hp) (r : Res (List D)) (Q : List V → Hp → Prop) (E : XK) : Prop := match r with
  | .ok ds bx => ∀ β' vs H', Le β H β' H' → Good K P.T β' bx H' → RA K β' H' vs ds → Q vs H'
  | .err c d bx => OutE K P β H c d bx E
  | .bad => False
def tDA (K : PySem.W.Frag) (P : Pm) (E : XK) (F : Fn (List D)) : TA := fun σ H Q => ∃ β δ bx, Ev K β H σ δ ∧ Good K P.T β bx H ∧ OutA K P β H (F δ bx) Q E
/-- tests -/
def OutT (K : PySem.W.Frag) (P : Pm) (β : Mu) (H : Hp) (r : Res Bool) (Q : Bool → Hp → Prop) (E : XK) : Prop := match r with
  | .ok b bx => ∀ β' H', Le β H β' H' → Good K P.T β' bx H' → Q b H'
  | .err c d bx => OutE K P β H c d bx E
  | .bad => False
def tDT (K : PySem.W.Frag) (P : Pm) (E : XK) (F : Fn Bool) : TT := fun σ H Q => ∃ β δ bx, Ev K β H σ δ ∧ Good K P.T β bx H ∧ OutT K P β H (F δ bx) Q E

theorem at_bind {F : Fn D} {G : D → Fn D} {β : Mu} {δ : List (Option D)} {bx : Sto} {σ : L2.St} {H : Hp} {Q Q1 : VK} (ev : Ev K β H σ δ) (g : Good K P.T β bx H) (o : Out K P β H (bnd F G δ bx) Q E)
    (k : ∀ β1 bx' x d H1, Le β H β1 H1 → Good K P.T β1 bx' H1 → R K β1 H1 x d → Out K P β1 H1 (G d δ bx') Q E → Q1 x H1) : tD K P E F σ H Q1 := by
  refine ⟨β, δ, bx, ev, g, ?_⟩
  unfold bnd at o
  cases hF : F δ bx with
  | ok d bx' =>
    rw [hF] at o
    exact fun β' v H' l g' r => k β' bx' v d H' l g' r (Out.le l o)
  | err c d bx' =>
    rw [hF] at o
    exact o
  | bad =>
    rw [hF] at o
    exact o
/-- the same, whatever the end is -/
theorem at_bindX {α : Type} {F : Fn D} {G : D → Fn α} {β : Mu} {δ : List (Option D)} {bx : Sto} {σ : L2.St} {H : Hp} {Q1 : VK} (ev : Ev K β H σ δ) (g : Good K P.T β bx H)
    (he : ∀ c d bx', bnd F G δ bx = .err c d bx' → OutE K P β H c d bx' E) (hb : bnd F G δ bx = .bad → False)
    (k : ∀ β1 bx' x d H1, Le β H β1 H1 → Good K P.T β1 bx' H1 → R K β1 H1 x d → bnd F G δ bx = G d δ bx' → Q1 x H1) : tD K P E F σ H Q1 := by
  refine ⟨β, δ, bx, ev, g, ?_⟩
  unfold bnd at he hb k
  cases hF : F δ bx with
  | ok d bx' =>
    rw [hF] at k
    exact fun β' v H' l g' r => k β' bx' v d H' l g' r rfl
  | err c d bx' =>
    rw [hF] at he
    exact he c d bx' rfl
  | bad =>
    rw [hF] at hb
    exact hb rfl
end
theorem pe_imp {X : Cx} {e : Expr} {t t' : TE} (h : PE X e t) (k : ∀ σ H Q, t' σ H Q → t σ H Q) : PE X e t' := ⟨fun pins s σ H Q I q => h.run pins s σ H Q I (k σ H Q q)⟩
theorem pa_imp {X : Cx} {e : List Expr} {t t' : TA} (h : PA X e t) (k : ∀ σ H Q, t' σ H Q → t σ H Q) : PA X e t' := ⟨fun pos pins s σ H Q I q => h.run pos pins s σ H Q I (k σ H Q q)⟩
theorem pt_imp {X : Cx} {e : Expr} {t t' : TT} (h : PT X e t) (k : ∀ σ H Q, t' σ H Q → t σ H Q) : PT X e t' := ⟨fun pins s σ H Q I q => h.run pins s σ H Q I (k σ H Q q)⟩
theorem pw_imp {X : Cx} {e : Expr} {t t' : TT} (h : PW X e t) (k : ∀ σ H Q, t' σ H Q → t σ H Q) : PW X e t' := ⟨fun w pins s σ H Q I q => h.run w pins s σ H Q I (k σ H Q q)⟩
theorem ps_imp {X : Cx} {e : Stmt} {t t' : TS} (h : PS X e t) (k : ∀ D σ H, t' D σ H → t D σ H) : PS X e t' := ⟨fun pins s σ H D I q => h.run pins s σ H D I (k D σ H q)⟩
theorem pss_imp {X : Cx} {e : List Stmt} {t t' : TS} (h : PSs X e t) (k : ∀ D σ H, t' D σ H → t D σ H) : PSs X e t' := ⟨fun pins s σ H D I q => h.run pins s σ H D I (k D σ H q)⟩

abbrev ED (X : Cx) (P : Pm) (E : XK) (e : Expr) (F : Fn D) : Prop := PE X e (tD X.K P E F)
abbrev EA (X : Cx) (P : Pm) (E : XK) (es : List Expr) (F : Fn (List D)) : Prop := PA X es (tDA X.K P E F)
abbrev ET (X : Cx) (P : Pm) (E : XK) (e : Expr) (F : Fn Bool) : Prop := PT X e (tDT X.K P E F)
end Ms

end
section
set_option Elab.async false
set_option linter.all false
set_option maxRecDepth 100000
set_option maxHeartbeats 4000000
namespace Ms
open PySem PySem.Spec PyProof.Rows L2
section
variable {X : Cx} {P : Pm} {E : XK} {pos : Pos}

/-! ### names, constants -/
def fVar (i : Nat) : Fn D := fun δ bx => match δ[i]? with
  | some (some d) => .ok d bx
  | _ => .bad
theorem ed_var (i : Nat) {x : Str} (hN : X.N[i]? = some x := by rfl) (hv : Vis X.env.scope x := by first | exact Or.inl rfl | exact Or.inr (Or.inl rfl) | exact Or.inr (Or.inr rfl)) (hd : (x == ("__debug__" : Str)) = false := by decide)
    (hcd : (x == ("__classdict__" : Str)) = false := by decide) : ED X P E (.Name x pos) (fVar i) := by
  refine pe_imp (pe_var hN hv hd hcd) fun σ H Q ⟨β, δ, bx, ev, g, o⟩ => ?_
  unfold fVar at o
  split at o
  · rename_i d hd
    obtain ⟨v, h1, h2⟩ := ev.at_ i d hd
    exact ⟨v, h1, o _ v H .refl g h2⟩
  · exact o.elim
theorem ed_c {e : Expr} {v : V} {d : D} (h : PE X e (tC v)) (r : ∀ β H, R X.K β H v d) : ED X P E e (pur d) :=
  pe_imp h fun _ H _ ⟨β, _, _, _, g, o⟩ => o _ v H .refl g (r β H)
theorem ed_int {i : Int} {j} : ED X P E (.Constant (.int i) j pos) (pur (.int i)) := ed_c pe_int fun _ _ => .int i
theorem ed_bl {b : Bool} {j} : ED X P E (.Constant (.bool b) j pos) (pur (.bl b)) := ed_c pe_bl fun _ _ => .bl b
theorem ed_non {j} : ED X P E (.Constant .none j pos) (pur .non) := ed_c pe_non fun _ _ => .non
theorem ed_str {x : Str} {j} : ED X P E (.Constant (.str x) j pos) (pur (.str x)) := ed_c pe_str fun _ _ => .str x
theorem ed_glob {x : Str} {i : Int} {t : Tok} (hg : Gl X x) (hm : X.mg x = some (.int i t)) (hd : (x == ("__debug__" : Str)) = false := by decide) : ED X P E (.Name x pos) (pur (.int i)) :=
  ed_c (v := .int i) (pe_glob hg hm ⟨t, rfl⟩ hd) fun _ _ => .int i

/-! ### two operands -/
def f2 (f : Sto → D → D → Option D) (F G : Fn D) : Fn D := bnd F fun d => bnd G fun e => fun δ bx => lft (f bx d e) δ bx
def OpD (X : Cx) (P : Pm) (r : R2) (f : Sto → D → D → Option D) : Prop := ∀ (β : Mu) (bx : Sto) (H : Hp) (x y : V) (d e z : D) (Q : VK), Good X.K P.T β bx H → R X.K β H x d → R X.K β H y e → f bx d e = some z →
  (∀ v H', Le β H β H' → Good X.K P.T β bx H' → R X.K β H' v z → Q v H') → r x y H Q
theorem ed_tOp {r : R2} {f : Sto → D → D → Option D} {F G : Fn D} (hr : OpD X P r f) : ∀ σ H Q, tD X.K P E (f2 f F G) σ H Q → tOp r (tD X.K P E F) (tD X.K P E G) σ H Q := by
  rintro σ H Q ⟨β, δ, bx, ev, g, o⟩
  refine at_bind ev g o fun β1 bx1 x d H1 l1 g1 r1 o1 => at_bind (ev.le l1) g1 o1 fun β2 bx2 y e H2 l2 g2 r2 o2 => ?_
  cases hf : f bx2 d e with
  | none =>
    rw [hf] at o2
    exact (show False from o2).elim
  | some z =>
    rw [hf] at o2
    exact hr β2 bx2 H2 x y d e z Q g2 (r1.le l2) r2 hf fun v H' l g r => o2 β2 v H' l g r
theorem ed_bin {op : Operator} {r : R2} {f : Sto → D → D → Option D} {a b : Expr} {F G : Fn D} (ho : OpR X (binaryOp op) r) (hr : OpD X P r f) (ha : ED X P E a F) (hb : ED X P E b G) : ED X P E (.BinOp a op b pos) (f2 f F G) :=
  pe_imp (pe_op ho ha hb) (ed_tOp hr)
theorem ed_cmp {op : CmpOp} {r : R2} {f : Sto → D → D → Option D} {a b : Expr} {F G : Fn D} (ho : OpR X (compareOp op) r) (hr : OpD X P r f) (ha : ED X P E a F) (hb : ED X P E b G) (hm : behindInMarks op b = false) : ED X P E (.Compare a [op] [b] pos) (f2 f F G) :=
  pe_imp (pe_cmpR ho ha hb hm) (ed_tOp hr)

def iI (C : Int → Int → Bool) (g : Int → Int → Int) : Sto → D → D → Option D
  | _, .int i, .int j => if C i j = true then some (.int (g i j)) else none
  | _, _, _ => none
def iB (p : Int → Int → Bool) : Sto → D → D → Option D
  | _, .int i, .int j => some (.bl (p i j))
  | _, _, _ => none
theorem iI_inv {C : Int → Int → Bool} {g : Int → Int → Int} {bx : Sto} {d e z : D} (h : iI C g bx d e = some z) : ∃ i j, d = .int i ∧ e = .int j ∧ C i j = true ∧ z = .int (g i j) := by
  cases d <;> cases e <;> simp [iI] at h
  rename_i i j
  exact ⟨i, j, rfl, rfl, h.1, h.2.symm⟩
theorem opd_I {C' : Int → Int → Prop} {C : Int → Int → Bool} {g : Int → Int → Int} (hC : ∀ i j, C i j = true → C' i j) : OpD X P (rI C' fun i j => .int (g i j)) (iI C g) := by
  intro β bx H x y d e z Q gd rx ry h k
  obtain ⟨i, j, rfl, rfl, hc, rfl⟩ := iI_inv h
  exact ⟨i, j, rx.int_inv, ry.int_inv, hC i j hc, k _ H .refl gd (.int _)⟩
theorem opd_I0 {g : Int → Int → Int} : OpD X P (rI0 fun i j => .int (g i j)) (iI (fun _ _ => true) g) := by
  intro β bx H x y d e z Q gd rx ry h k
  obtain ⟨i, j, rfl, rfl, hc, rfl⟩ := iI_inv h
  exact ⟨i, j, rx.int_inv, ry.int_inv, k _ H .refl gd (.int _)⟩
theorem iB_inv {p : Int → Int → Bool} {bx : Sto} {d e z : D} (h : iB p bx d e = some z) : ∃ i j, d = .int i ∧ e = .int j ∧ z = .bl (p i j) := by
  cases d <;> cases e <;> simp [iB] at h
  rename_i i j
  exact ⟨i, j, rfl, rfl, h.symm⟩
theorem opd_B {p : Int → Int → Bool} : OpD X P (rI0 fun i j => .bl (p i j)) (iB p) := by
  intro β bx H x y d e z Q gd rx ry h k
  obtain ⟨i, j, rfl, rfl, rfl⟩ := iB_inv h
  exact ⟨i, j, rx.int_inv, ry.int_inv, k _ H .refl gd (.bl _)⟩
abbrev cAdd := iI (fun _ _ => true) fun i j => i + j
abbrev cSub := iI (fun _ _ => true) fun i j => i - j
abbrev cMul := iI (fun i j => decide (-(2 ^ 64) < i ∧ i < 2 ^ 64) || decide (-(2 ^ 64) < j ∧ j < 2 ^ 64)) fun i j => i * j
abbrev cDiv := iI (fun _ j => decide (0 < j ∧ j < 1073741824)) fun i j => i / j
abbrev cMod := iI (fun _ j => decide (0 < j)) fun i j => i % j
abbrev cPow := iI (fun i j => decide (0 ≤ j ∧ j ≤ 1000000 ∧ i.natAbs < 2 ^ 64)) fun i j => i ^ j.toNat
variable {a b : Expr} {F G : Fn D}
theorem ed_add (ha : ED X P E a F) (hb : ED X P E b G) : ED X P E (.BinOp a .Add b pos) (f2 cAdd F G) := ed_bin op_add opd_I0 ha hb
theorem ed_sub (ha : ED X P E a F) (hb : ED X P E b G) : ED X P E (.BinOp a .Sub b pos) (f2 cSub F G) := ed_bin op_sub opd_I0 ha hb
theorem ed_mul (ha : ED X P E a F) (hb : ED X P E b G) : ED X P E (.BinOp a .Mult b pos) (f2 cMul F G) := ed_bin op_mul (opd_I fun i j h => by
  rcases Bool.or_eq_true_iff.mp h with h | h
  · exact .inl (of_decide_eq_true h)
  · exact .inr (of_decide_eq_true h)) ha hb
theorem ed_div (ha : ED X P E a F) (hb : ED X P E b G) : ED X P E (.BinOp a .FloorDiv b pos) (f2 cDiv F G) := ed_bin op_fdiv (opd_I fun i j h => (of_decide_eq_true h : (0 : Int) < j ∧ j < 1073741824)) ha hb
theorem ed_mod (ha : ED X P E a F) (hb : ED X P E b G) : ED X P E (.BinOp a .Mod b pos) (f2 cMod F G) := ed_bin op_mod (opd_I fun i j h => of_decide_eq_true h) ha hb
theorem ed_pow (ha : ED X P E a F) (hb : ED X P E b G) : ED X P E (.BinOp a .Pow b pos) (f2 cPow F G) := ed_bin op_pow (opd_I fun i j h => (of_decide_eq_true h : (0 : Int) ≤ j ∧ j ≤ 1000000 ∧ i.natAbs < 2 ^ 64)) ha hb
theorem ed_lt (ha : ED X P E a F) (hb : ED X P E b G) : ED X P E (.Compare a [.Lt] [b] pos) (f2 (iB fun i j => decide (i < j)) F G) := ed_cmp op_lt opd_B ha hb (nomark _)
theorem ed_le (ha : ED X P E a F) (hb : ED X P E b G) : ED X P E (.Compare a [.LtE] [b] pos) (f2 (iB fun i j => decide (i ≤ j)) F G) := ed_cmp op_le opd_B ha hb (nomark _)
theorem ed_gt (ha : ED X P E a F) (hb : ED X P E b G) : ED X P E (.Compare a [.Gt] [b] pos) (f2 (iB fun i j => decide (j < i)) F G) := ed_cmp op_gt opd_B ha hb (nomark _)
theorem ed_ge (ha : ED X P E a F) (hb : ED X P E b G) : ED X P E (.Compare a [.GtE] [b] pos) (f2 (iB fun i j => decide (j ≤ i)) F G) := ed_cmp op_ge opd_B ha hb (nomark _)

/-! ### one operand -/
def f1 (f : Sto → D → Option D) (F : Fn D) : Fn D := bnd F fun d => fun δ bx => lft (f bx d) δ bx
def UnD (X : Cx) (P : Pm) (r : V → Hp → VK → Prop) (f : Sto → D → Option D) : Prop := ∀ (β : Mu) (bx : Sto) (H : Hp) (x : V) (d z : D) (Q : VK), Good X.K P.T β bx H → R X.K β H x d → f bx d = some z →
  (∀ v H', Le β H β H' → Good X.K P.T β bx H' → R X.K β H' v z → Q v H') → r x H Q
theorem ed_t1 {r : V → Hp → VK → Prop} {f : Sto → D → Option D} {F : Fn D} (hr : UnD X P r f) : ∀ σ H Q, tD X.K P E (f1 f F) σ H Q → (tD X.K P E F) σ H fun x H1 => r x H1 Q := by
  rintro σ H Q ⟨β, δ, bx, ev, g, o⟩
  refine at_bind ev g o fun β1 bx1 x d H1 l1 g1 r1 o1 => ?_
  cases hf : f bx1 d with
  | none =>
    rw [hf] at o1
    exact (show False from o1).elim
  | some z =>
    rw [hf] at o1
    exact hr β1 bx1 H1 x d z Q g1 r1 hf fun v H' l g r => o1 β1 v H' l g r
def cNeg : Sto → D → Option D
  | _, .int i => some (.int (-i))
  | _, _ => none
theorem ed_neg (ha : ED X P E a F) : ED X P E (.UnaryOp .USub a pos) (f1 cNeg F) := pe_imp (pe_un un_neg ha) (ed_t1 fun β bx H x d z Q g r h k => by
  cases d <;> simp [cNeg] at h
  subst h
  exact ⟨_, r.int_inv, k _ H .refl g (.int _)⟩)
def cNot : Sto → D → Option D
  | _, .bl b => some (.bl (!b))
  | _, _ => none
theorem ed_not (ha : ED X P E a F) : ED X P E (.UnaryOp .Not a pos) (f1 cNot F) := pe_imp (pe_not ha) (ed_t1 (r := fun x H Q => ∃ c, x = .bl c ∧ Q (.bl (!c)) H) fun β bx H x d z Q g r h k => by
  cases d <;> simp [cNot] at h
  subst h
  exact ⟨_, r.bl_inv, k _ H .refl g (.bl _)⟩)
def isNon : D → Bool
  | .non => true
  | _ => false
theorem isNon_of {K : PySem.W.Frag} {β : Mu} {H : Hp} {v : V} {d : D} (r : R K β H v d) : decide (v = .non) = isNon d := by
  cases r <;> simp [isNon]
def cIsN : Sto → D → Option D := fun _ d => some (.bl (isNon d))
def cNotN : Sto → D → Option D := fun _ d => some (.bl (!isNon d))
theorem ed_isN {j pos'} (ha : ED X P E a F) : ED X P E (.Compare a [.Is] [.Constant .none j pos'] pos) (f1 cIsN F) := pe_imp (pe_cmp (pc_isN ha)) (ed_t1 (r := fun x H Q => Q (.bl (decide (x = .non))) H) fun β bx H x d z Q g r h k => by
  cases h
  rw [isNon_of r]
  exact k _ H .refl g (.bl _))
theorem ed_notN {j pos'} (ha : ED X P E a F) : ED X P E (.Compare a [.IsNot] [.Constant .none j pos'] pos) (f1 cNotN F) := pe_imp (pe_cmp (pc_notN ha)) (ed_t1 (r := fun x H Q => Q (.bl (!decide (x = .non))) H) fun β bx H x d z Q g r h k => by
  cases h
  rw [isNon_of r]
  exact k _ H .refl g (.bl _))

/-! ### and, or, if -/
def toB : D → Option Bool
  | .bl b => some b
  | _ => none
/-- a result's truth, the rest by it -/
def fIfB {α : Type} (F : Fn D) (A B : Fn α) : Fn α := bnd F fun d => fun δ bx => match toB d with
  | some true => A δ bx
  | some false => B δ bx
  | none => .bad
theorem toB_inv {d : D} {b : Bool} (h : toB d = some b) : d = .bl b := by
  cases d <;> simp [toB] at h
  rw [h]
variable {rest : List Expr}
theorem ed_one {op} (h : ED X P E a F) : ED X P E (.BoolOp op [a] pos) F := pe_one h
theorem ed_and (ha : ED X P E a F) (hb : ED X P E (.BoolOp .And (b :: rest) pos) G) : ED X P E (.BoolOp .And (a :: b :: rest) pos) (fIfB F G (pur (.bl false))) := by
  refine pe_imp (pe_and ha hb) ?_
  rintro σ H Q ⟨β, δ, bx, ev, g, o⟩
  refine at_bind ev g o fun β1 bx1 x d H1 l1 g1 r1 o1 => ?_
  split at o1
  · rename_i h
    cases toB_inv h
    exact ⟨true, r1.bl_inv, iteT ⟨β1, δ, bx1, ev.le l1, g1, o1⟩⟩
  · rename_i h
    cases toB_inv h
    exact ⟨false, r1.bl_inv, iteF (o1 _ _ H1 .refl g1 (.bl _))⟩
  · exact o1.elim
theorem ed_or (ha : ED X P E a F) (hb : ED X P E (.BoolOp .Or (b :: rest) pos) G) : ED X P E (.BoolOp .Or (a :: b :: rest) pos) (fIfB F (pur (.bl true)) G) := by
  refine pe_imp (pe_or ha hb) ?_
  rintro σ H Q ⟨β, δ, bx, ev, g, o⟩
  refine at_bind ev g o fun β1 bx1 x d H1 l1 g1 r1 o1 => ?_
  split at o1
  · rename_i h
    cases toB_inv h
    exact ⟨true, r1.bl_inv, iteT (o1 _ _ H1 .refl g1 (.bl _))⟩
  · rename_i h
    cases toB_inv h
    exact ⟨false, r1.bl_inv, iteF ⟨β1, δ, bx1, ev.le l1, g1, o1⟩⟩
  · exact o1.elim

/-! ### tests -/
theorem att_bind {K : PySem.W.Frag} {α : Type} {F : Fn D} {Gt : D → Fn Bool} {β : Mu} {δ : List (Option D)} {bx : Sto} {σ : L2.St} {H : Hp} {Q : Bool → Hp → Prop} {Q1 : VK} (ev : Ev K β H σ δ) (g : Good K P.T β bx H) (o : OutT K P β H (bnd F Gt δ bx) Q E)
    (k : ∀ β1 bx' x d H1, Le β H β1 H1 → Good K P.T β1 bx' H1 → R K β1 H1 x d → OutT K P β1 H1 (Gt d δ bx') Q E → Q1 x H1) : tD K P E F σ H Q1 := by
  refine ⟨β, δ, bx, ev, g, ?_⟩
  unfold bnd at o
  cases hF : F δ bx with
  | ok d bx' =>
    rw [hF] at o
    refine fun β' v H' l g' r => k β' bx' v d H' l g' r ?_
    dsimp only at o
    cases hr : Gt d δ bx' with
    | ok b bx'' =>
      rw [hr] at o
      exact fun β'' H'' l2 g2 => o β'' H'' (l.trans l2) g2
    | err c e bx'' =>
      rw [hr] at o
      exact OutE.le l o
    | bad =>
      rw [hr] at o
      exact o
  | err c d bx' =>
    rw [hF] at o
    exact o
  | bad =>
    rw [hF] at o
    exact o
/-- data as a test -/
def fB (F : Fn D) : Fn Bool := bnd F fun d => lft (toB d)
theorem tB_of {σ : L2.St} {H : Hp} {Q : Bool → Hp → Prop} (h : tDT X.K P E (fB F) σ H Q) : tD X.K P E F σ H fun x H1 => ∃ c, x = .bl c ∧ Q c H1 := by
  obtain ⟨β, δ, bx, ev, g, o⟩ := h
  refine att_bind (α := Unit) ev g o fun β1 bx1 x d H1 l1 g1 r1 o1 => ?_
  cases hb : toB d with
  | none =>
    rw [hb] at o1
    exact (show False from o1).elim
  | some c =>
    rw [hb] at o1
    cases toB_inv hb
    exact ⟨c, r1.bl_inv, o1 _ H1 .refl g1⟩
/-- a name, a call as a test -/
theorem et_val {e : Expr} (h : ED X P E e F) (he : ∀ whole, isTrue e X.env whole = (do let v ← whole; standAt e.pos; holding [v] (truthy v)) := by intro _; rfl) : ET X P E e (fB F) :=
  pt_imp (pt_val h he) fun _ _ _ q => tB_of q
theorem et_cmp {op : CmpOp} {r : R2} {f : Sto → D → D → Option D} (ho : OpR X (compareOp op) r) (hr : OpD X P r f) (ha : ED X P E a F) (hb : ED X P E b G) (hm : behindInMarks op b = false) : ET X P E (.Compare a [op] [b] pos) (fB (f2 f F G)) :=
  pt_imp (pt_cmpR ho ha hb hm) fun σ H Q q => ed_tOp hr σ H _ (tB_of q)
theorem et_lt (ha : ED X P E a F) (hb : ED X P E b G) : ET X P E (.Compare a [.Lt] [b] pos) (fB (f2 (iB fun i j => decide (i < j)) F G)) := et_cmp op_lt opd_B ha hb (nomark _)
theorem et_le (ha : ED X P E a F) (hb : ED X P E b G) : ET X P E (.Compare a [.LtE] [b] pos) (fB (f2 (iB fun i j => decide (i ≤ j)) F G)) := et_cmp op_le opd_B ha hb (nomark _)
theorem et_gt (ha : ED X P E a F) (hb : ED X P E b G) : ET X P E (.Compare a [.Gt] [b] pos) (fB (f2 (iB fun i j => decide (j < i)) F G)) := et_cmp op_gt opd_B ha hb (nomark _)
theorem et_ge (ha : ED X P E a F) (hb : ED X P E b G) : ET X P E (.Compare a [.GtE] [b] pos) (fB (f2 (iB fun i j => decide (j ≤ i)) F G)) := et_cmp op_ge opd_B ha hb (nomark _)
theorem et_isN {j pos'} (ha : ED X P E a F) : ET X P E (.Compare a [.Is] [.Constant .none j pos'] pos) (fB (f1 cIsN F)) :=
  pt_imp (pt_cmp (pc_isN ha)) fun σ H Q q => ed_t1 (r := fun x H Q => Q (.bl (decide (x = .non))) H) (fun β bx H x d z Q g r h k => by
    cases h
    rw [isNon_of r]
    exact k _ H .refl g (.bl _)) σ H _ (tB_of q)
theorem et_notN {j pos'} (ha : ED X P E a F) : ET X P E (.Compare a [.IsNot] [.Constant .none j pos'] pos) (fB (f1 cNotN F)) :=
  pt_imp (pt_cmp (pc_notN ha)) fun σ H Q q => ed_t1 (r := fun x H Q => Q (.bl (!decide (x = .non))) H) (fun β bx H x d z Q g r h k => by
    cases h
    rw [isNon_of r]
    exact k _ H .refl g (.bl _)) σ H _ (tB_of q)

/-- tests one behind another -/
def fIfT {α : Type} (C : Fn Bool) (A B : Fn α) : Fn α := bnd C fun c => if c = true then A else B
theorem atB_bind {K : PySem.W.Frag} {C : Fn Bool} {Gt : Bool → Fn Bool} {β : Mu} {δ : List (Option D)} {bx : Sto} {σ : L2.St} {H : Hp} {Q Q1 : Bool → Hp → Prop} (ev : Ev K β H σ δ) (g : Good K P.T β bx H) (o : OutT K P β H (bnd C Gt δ bx) Q E)
    (k : ∀ β1 bx' c H1, Le β H β1 H1 → Good K P.T β1 bx' H1 → OutT K P β1 H1 (Gt c δ bx') Q E → Q1 c H1) : tDT K P E C σ H Q1 := by
  refine ⟨β, δ, bx, ev, g, ?_⟩
  unfold bnd at o
  cases hF : C δ bx with
  | ok d bx' =>
    rw [hF] at o
    refine fun β' H' l g' => k β' bx' d H' l g' ?_
    dsimp only at o
    cases hr : Gt d δ bx' with
    | ok b bx'' =>
      rw [hr] at o
      exact fun β'' H'' l2 g2 => o β'' H'' (l.trans l2) g2
    | err c e bx'' =>
      rw [hr] at o
      exact OutE.le l o
    | bad =>
      rw [hr] at o
      exact o
  | err c d bx' =>
    rw [hF] at o
    exact o
  | bad =>
    rw [hF] at o
    exact o
abbrev EW (X : Cx) (P : Pm) (E : XK) (e : Expr) (F : Fn Bool) : Prop := PW X e (tDT X.K P E F)
variable {A B : Fn Bool}
theorem ew_and1 (ha : ET X P E a A) : EW X P E (.BoolOp .And [a] pos) A := pw_and1 ha
theorem ew_or1 (ha : ET X P E a A) : EW X P E (.BoolOp .Or [a] pos) A := pw_or1 ha
theorem ew_and (ha : ET X P E a A) (hb : EW X P E (.BoolOp .And (b :: rest) pos) B) : EW X P E (.BoolOp .And (a :: b :: rest) pos) (fIfT A B (pur false)) := by
  refine pw_imp (pw_and ha hb) ?_
  rintro σ H Q ⟨β, δ, bx, ev, g, o⟩
  refine atB_bind ev g o fun β1 bx1 c H1 l1 g1 o1 => ?_
  cases c with
  | true => exact iteT ⟨β1, δ, bx1, ev.le l1, g1, by simpa using o1⟩
  | false => exact iteF ((show OutT X.K P β1 H1 (.ok false bx1) Q E by simpa [pur] using o1) _ H1 .refl g1)
theorem ew_or (ha : ET X P E a A) (hb : EW X P E (.BoolOp .Or (b :: rest) pos) B) : EW X P E (.BoolOp .Or (a :: b :: rest) pos) (fIfT A (pur true) B) := by
  refine pw_imp (pw_or ha hb) ?_
  rintro σ H Q ⟨β, δ, bx, ev, g, o⟩
  refine atB_bind ev g o fun β1 bx1 c H1 l1 g1 o1 => ?_
  cases c with
  | false => exact iteF ⟨β1, δ, bx1, ev.le l1, g1, by simpa using o1⟩
  | true => exact iteT ((show OutT X.K P β1 H1 (.ok true bx1) Q E by simpa [pur] using o1) _ H1 .refl g1)
theorem et_w {e : Expr} (h : EW X P E e A) : ET X P E e A := h.pt
def fNot (A : Fn Bool) : Fn Bool := bnd A fun c => pur (!c)
theorem et_not (ha : ET X P E a A) : ET X P E (.UnaryOp .Not a pos) (fNot A) := by
  refine pt_imp (pt_not ha) ?_
  rintro σ H Q ⟨β, δ, bx, ev, g, o⟩
  exact atB_bind ev g o fun β1 bx1 c H1 l1 g1 o1 => o1 _ H1 .refl g1
/-- a if c else b -/
theorem atT_bind {K : PySem.W.Frag} {C : Fn Bool} {Gt : Bool → Fn D} {β : Mu} {δ : List (Option D)} {bx : Sto} {σ : L2.St} {H : Hp} {Q : VK} {Q1 : Bool → Hp → Prop} (ev : Ev K β H σ δ) (g : Good K P.T β bx H) (o : Out K P β H (bnd C Gt δ bx) Q E)
    (k : ∀ β1 bx' c H1, Le β H β1 H1 → Good K P.T β1 bx' H1 → Out K P β1 H1 (Gt c δ bx') Q E → Q1 c H1) : tDT K P E C σ H Q1 := by
  refine ⟨β, δ, bx, ev, g, ?_⟩
  unfold bnd at o
  cases hF : C δ bx with
  | ok d bx' =>
    rw [hF] at o
    exact fun β' H' l g' => k β' bx' d H' l g' (Out.le l o)
  | err c d bx' =>
    rw [hF] at o
    exact o
  | bad =>
    rw [hF] at o
    exact o
theorem ed_ifExp {c : Expr} {C : Fn Bool} (hc : ET X P E c C) (ha : ED X P E a F) (hb : ED X P E b G) : ED X P E (.IfExp c a b pos) (fIfT C F G) := by
  refine pe_imp (pe_ifExp hc ha hb) ?_
  rintro σ H Q ⟨β, δ, bx, ev, g, o⟩
  refine atT_bind ev g o fun β1 bx1 c H1 l1 g1 o1 => ?_
  cases c with
  | true => exact iteT ⟨β1, δ, bx1, ev.le l1, g1, by simpa using o1⟩
  | false => exact iteF ⟨β1, δ, bx1, ev.le l1, g1, by simpa using o1⟩
/-- a ∘ b ∘ c on ints -/
def fChain (p q : Int → Int → Bool) (F G J : Fn D) : Fn D := bnd F fun d => bnd G fun e => fun δ bx => match iB p bx d e with
  | some (.bl true) => bnd J (fun z => fun δ bx => lft (iB q bx e z) δ bx) δ bx
  | some (.bl false) => .ok (.bl false) bx
  | _ => .bad
theorem ed_tChain {p q : Int → Int → Bool} {J : Fn D} : ∀ σ H Q, tD X.K P E (fChain p q F G J) σ H Q → tChain (rI0 fun i j => .bl (p i j)) (rI0 fun i j => .bl (q i j)) (tD X.K P E F) (tD X.K P E G) (tD X.K P E J) σ H Q := by
  rintro σ H Q ⟨β, δ, bx, ev, g, o⟩
  refine at_bind ev g o fun β1 bx1 x d H1 l1 g1 r1 o1 => at_bind (ev.le l1) g1 o1 fun β2 bx2 y e H2 l2 g2 r2 o2 => ?_
  split at o2
  · rename_i h0
    have h := h0
    obtain ⟨i, j, rfl, rfl, _⟩ := iB_inv h0
    refine ⟨i, j, (r1.le l2).int_inv, r2.int_inv, true, ?_, ?_⟩
    · exact congrArg V.bl (D.bl.inj (Option.some.inj (show some (D.bl (p i j)) = some (D.bl true) by first | exact h | exact h0)))
    refine iteT (at_bind ((ev.le l1).le l2) g2 o2 fun β3 bx3 z f H3 l3 g3 r3 o3 => ?_)
    cases hz : iB q bx3 (.int j) f with
    | none =>
      rw [hz] at o3
      exact (show False from o3).elim
    | some w =>
      rw [hz] at o3
      obtain ⟨j', k', e1, rfl, rfl⟩ := iB_inv hz
      cases e1
      exact ⟨j, k', (r2.le l3).int_inv, r3.int_inv, o3 _ _ H3 .refl g3 (.bl _)⟩
  · rename_i h0
    have h := h0
    obtain ⟨i, j, rfl, rfl, _⟩ := iB_inv h0
    refine ⟨i, j, (r1.le l2).int_inv, r2.int_inv, false, ?_, iteF (o2 _ _ H2 .refl g2 (.bl _))⟩
    exact congrArg V.bl (D.bl.inj (Option.some.inj (show some (D.bl (p i j)) = some (D.bl false) by first | exact h | exact h0)))
  · exact o2.elim
section
variable {c : Expr} {J : Fn D}
theorem ed_chain {op op' : CmpOp} {p q : Int → Int → Bool} (ho : OpR X (compareOp op) (rI0 fun i j => .bl (p i j))) (ho' : OpR X (compareOp op') (rI0 fun i j => .bl (q i j))) (ha : ED X P E a F) (hb : ED X P E b G) (hc : ED X P E c J)
    (hm : lastMarks [op, op'] [b, c] = false := by with_unfolding_all rfl) : ED X P E (.Compare a [op, op'] [b, c] pos) (fChain p q F G J) := pe_imp (pe_chain ho ho' ha hb hc hm) ed_tChain
theorem et_chain {op op' : CmpOp} {p q : Int → Int → Bool} (ho : OpR X (compareOp op) (rI0 fun i j => .bl (p i j))) (ho' : OpR X (compareOp op') (rI0 fun i j => .bl (q i j))) (ha : ED X P E a F) (hb : ED X P E b G) (hc : ED X P E c J)
    (hm : lastMarks [op, op'] [b, c] = false := by with_unfolding_all rfl) : ET X P E (.Compare a [op, op'] [b, c] pos) (fB (fChain p q F G J)) := pt_imp (pt_chain ho ho' ha hb hc hm) fun σ H Q h => ed_tChain σ H _ (tB_of h)
end
end
end Ms

end
section
set_option Elab.async false
set_option linter.all false
set_option maxRecDepth 100000
set_option maxHeartbeats 4000000
namespace Ms
open PySem PySem.Spec PyProof.Rows L2
/-! ### any end -/
def OutX {α : Type} (P : Pm) (K : PySem.W.Frag) (β : Mu) (H : Hp) (r : Res α) (E : XK) (k : α → Mu → Sto → Hp → Prop) : Prop := match r with
  | .ok a bx => ∀ β' H', Le β H β' H' → Good K P.T β' bx H' → k a β' bx H'
  | .err c d bx => OutE K P β H c d bx E
  | .bad => False
section
variable {K : PySem.W.Frag} {P : Pm} {E : XK} {β β1 : Mu} {δ : List (Option D)} {bx : Sto} {σ : L2.St} {H H1 : Hp} {α γ : Type}
theorem OutX.le {r : Res α} {k : α → Mu → Sto → Hp → Prop} (l : Le β H β1 H1) (h : OutX P K β H r E k) : OutX P K β1 H1 r E k := by
  cases r with
  | ok a bx => exact fun β' H' l' g => h β' H' (l.trans l') g
  | err c d bx => exact OutE.le l h
  | bad => exact h
theorem Out.x {r : Res D} {Q : VK} (o : Out K P β H r Q E) : OutX P K β H r E fun d β' _ H' => ∀ v, R K β' H' v d → Q v H' := by
  cases r with
  | ok a bx => exact fun β' H' l' g v r => o β' v H' l' g r
  | err c d bx => exact o
  | bad => exact o
theorem OutA.x {r : Res (List D)} {Q : List V → Hp → Prop} (o : OutA K P β H r Q E) : OutX P K β H r E fun d β' _ H' => ∀ v, RA K β' H' v d → Q v H' := by
  cases r with
  | ok a bx => exact fun β' H' l' g v r => o β' v H' l' g r
  | err c d bx => exact o
  | bad => exact o
theorem OutT.x {r : Res Bool} {Q : Bool → Hp → Prop} (o : OutT K P β H r Q E) : OutX P K β H r E fun d _ _ H' => Q d H' := by
  cases r with
  | ok a bx => exact fun β' H' l' g => o β' H' l' g
  | err c d bx => exact o
  | bad => exact o
theorem x_bind {F : Fn α} {G : α → Fn γ} {k : γ → Mu → Sto → Hp → Prop} (o : OutX P K β H (bnd F G δ bx) E k) : OutX P K β H (F δ bx) E fun a β1 bx' H1 => Le β H β1 H1 → OutX P K β1 H1 (G a δ bx') E k := by
  unfold bnd at o
  cases hF : F δ bx with
  | ok d bx' =>
    rw [hF] at o
    exact fun β' H' l' g l => OutX.le l o
  | err c d bx' =>
    rw [hF] at o
    exact o
  | bad =>
    rw [hF] at o
    exact o
theorem d_bind {F : Fn D} {G : D → Fn γ} {k : γ → Mu → Sto → Hp → Prop} {Q1 : VK} (ev : Ev K β H σ δ) (g : Good K P.T β bx H) (o : OutX P K β H (bnd F G δ bx) E k)
    (h : ∀ β1 bx' x d H1, Le β H β1 H1 → Good K P.T β1 bx' H1 → R K β1 H1 x d → OutX P K β1 H1 (G d δ bx') E k → Q1 x H1) : tD K P E F σ H Q1 := by
  have o2 := x_bind o
  refine ⟨β, δ, bx, ev, g, ?_⟩
  cases hF : F δ bx with
  | ok d bx' =>
    rw [hF] at o2
    exact fun β' v H' l g' r => h β' bx' v d H' l g' r (o2 β' H' l g' l)
  | err c d bx' =>
    rw [hF] at o2
    exact o2
  | bad =>
    rw [hF] at o2
    exact o2
theorem a_bind {F : Fn (List D)} {G : List D → Fn γ} {k : γ → Mu → Sto → Hp → Prop} {Q1 : List V → Hp → Prop} (ev : Ev K β H σ δ) (g : Good K P.T β bx H) (o : OutX P K β H (bnd F G δ bx) E k)
    (h : ∀ β1 bx' x d H1, Le β H β1 H1 → Good K P.T β1 bx' H1 → RA K β1 H1 x d → OutX P K β1 H1 (G d δ bx') E k → Q1 x H1) : tDA K P E F σ H Q1 := by
  have o2 := x_bind o
  refine ⟨β, δ, bx, ev, g, ?_⟩
  cases hF : F δ bx with
  | ok d bx' =>
    rw [hF] at o2
    exact fun β' v H' l g' r => h β' bx' v d H' l g' r (o2 β' H' l g' l)
  | err c d bx' =>
    rw [hF] at o2
    exact o2
  | bad =>
    rw [hF] at o2
    exact o2
theorem t_bind {F : Fn Bool} {G : Bool → Fn γ} {k : γ → Mu → Sto → Hp → Prop} {Q1 : Bool → Hp → Prop} (ev : Ev K β H σ δ) (g : Good K P.T β bx H) (o : OutX P K β H (bnd F G δ bx) E k)
    (h : ∀ β1 bx' x H1, Le β H β1 H1 → Good K P.T β1 bx' H1 → OutX P K β1 H1 (G x δ bx') E k → Q1 x H1) : tDT K P E F σ H Q1 := by
  have o2 := x_bind o
  refine ⟨β, δ, bx, ev, g, ?_⟩
  cases hF : F δ bx with
  | ok d bx' =>
    rw [hF] at o2
    exact fun β' H' l g' => h β' bx' d H' l g' (o2 β' H' l g' l)
  | err c d bx' =>
    rw [hF] at o2
    exact o2
  | bad =>
    rw [hF] at o2
    exact o2
theorem OutX.lft {o : Option α} {k : α → Mu → Sto → Hp → Prop} (g : Good K P.T β bx H) (h : OutX P K β H (Ms.lft o δ bx) E k) : ∃ a, o = some a ∧ k a β bx H := by
  cases o with
  | none => exact h.elim
  | some a => exact ⟨a, rfl, h β H .refl g⟩
theorem OutX.lft' {o : Option α} {k : α → Mu → Sto → Hp → Prop} (h : OutX P K β H (Ms.lft o δ bx) E k) : ∃ a, o = some a ∧ ∀ β' H', Le β H β' H' → Good K P.T β' bx H' → k a β' bx H' := by
  cases o with
  | none => exact h.elim
  | some a => exact ⟨a, rfl, h⟩
end
/-- a tuple of data -/
def vt : D → Option (List D)
  | .tup l => some l
  | _ => none
def vsc : D → Option (List D)
  | .scr l => some (l.map D.int)
  | d => vt d
/-- a list or a tuple, as it is now -/
def vs (st : Sto) (d : D) : Option (List D) := match vl st d with
  | some l => some l
  | none => vsc d
theorem R.vt {K : PySem.W.Frag} {β : Mu} {H : Hp} {v : V} {d : D} {ds : List D} (r : R K β H v d) (h : vt d = some ds) : ∃ a xs, v = .ref a ∧ L2.Rd H a (.tup xs) ∧ RA K β H xs ds := by
  cases r with
  | tup s ra =>
    cases h
    exact ⟨_, _, rfl, s.1, ra⟩
  | lst _ _ => cases h
  | ref _ => cases h
  | non => cases h
  | bl _ => cases h
  | int _ => cases h
  | str _ => cases h
  | fn _ _ => cases h
  | scr _ => cases h
theorem R.vs {K : PySem.W.Frag} {T : Tb} {β : Mu} {st : Sto} {H : Hp} {v : V} {d : D} {ds : List D} (r : R K β H v d) (g : Good K T β st H) (h : vs st d = some ds) : ∃ a xs, v = .ref a ∧ (SqL K H a xs ∨ SqT K H a xs) ∧ RA K β H xs ds := by
  unfold Ms.vs at h
  split at h
  · rename_i l hl
    cases h
    obtain ⟨a, xs, e, s, ra⟩ := r.vl g hl
    exact ⟨a, xs, e, .inl (.inl s), ra⟩
  · unfold vsc at h
    split at h
    · cases h
      cases r with
      | scr s => exact ⟨_, _, rfl, .inl s.sq, RA.ints _⟩
    · obtain ⟨a, xs, e, s, ra⟩ := r.vt h
      exact ⟨a, xs, e, .inr (.inl s), ra⟩
theorem leM {n : Nat} (h : n ≤ 1000000) : n ≤ sizeLine := by
  rw [sizeLine_eq]
  omega
section
variable {X : Cx} {P : Pm} {E : XK} {pos : Pos} {a b : Expr} {F G : Fn D} {es : List Expr} {A : Fn (List D)}
/-! ### argument lists -/
def fCons (F : Fn D) (A : Fn (List D)) : Fn (List D) := bnd F fun d => bnd A fun ds => pur (d :: ds)
theorem ea_nil : EA X P E [] (pur []) := pa_imp pa_nil fun _ H _ ⟨β, _, _, _, g, o⟩ => o _ [] H .refl g .nil
theorem ea_cons (ha : ED X P E a F) (hr : EA X P E es A) (hs : starEach (a :: es) X.env = (false, eval a X.env) :: starEach es X.env := by rfl) : EA X P E (a :: es) (fCons F A) := by
  refine pa_imp (pa_cons ha hr hs) ?_
  rintro σ H Q ⟨β, δ, bx, ev, g, o⟩
  exact d_bind ev g o.x fun β1 bx1 x d H1 l1 g1 r1 o1 => a_bind (ev.le l1) g1 o1 fun β2 bx2 y e H2 l2 g2 r2 o2 => o2 _ H2 .refl g2 _ (.cons (r1.le l2) r2)
/-- from a list of arguments to a value -/
def fA (f : Sto → List D → Option D) (A : Fn (List D)) : Fn D := bnd A fun ds => fun δ bx => lft (f bx ds) δ bx
def CallD (X : Cx) (P : Pm) (r : List V → Hp → VK → Prop) (f : Sto → List D → Option D) : Prop := ∀ (β : Mu) (bx : Sto) (H : Hp) (xs : List V) (ds : List D) (z : D) (Q : VK), Good X.K P.T β bx H → RA X.K β H xs ds → f bx ds = some z →
  (∀ v H', Le β H β H' → Good X.K P.T β bx H' → R X.K β H' v z → Q v H') → r xs H Q
theorem ed_tA {r : List V → Hp → VK → Prop} {f : Sto → List D → Option D} (hr : CallD X P r f) : ∀ σ H Q, tD X.K P E (fA f A) σ H Q → (tDA X.K P E A) σ H fun xs H1 => r xs H1 Q := by
  rintro σ H Q ⟨β, δ, bx, ev, g, o⟩
  refine a_bind ev g o.x fun β1 bx1 xs ds H1 l1 g1 r1 o1 => ?_
  obtain ⟨z, hz, k⟩ := o1.lft'
  exact hr β1 bx1 H1 xs ds z Q g1 r1 hz fun v H' l g r => k β1 H' l g v r
/-- displays -/
def cTup : Sto → List D → Option D := fun _ ds => if ds.length ≤ 1000 then some (.tup ds) else none
def cLst : Sto → List D → Option D := fun _ ds => if ds.length ≤ 1000 then some (.lst ds) else none
theorem le1000 {n : Nat} (h : n ≤ 1000) : n ≤ sizeLine := Nat.le_of_lt (small1000 h)
theorem ed_tup {x1} (h : EA X P E es A) : ED X P E (.Tuple es x1 pos) (fA cTup A) := pe_imp (pe_tup h) (ed_tA (r := fun xs H Q => xs.length ≤ sizeLine ∧ ∀ p, H p = none → Q (.ref p) (upd H p (.tup xs))) fun β bx H xs ds z Q g r h k => by
  unfold cTup at h
  split at h
  · rename_i hl
    cases h
    exact ⟨by rw [r.length]; exact le1000 hl, fun p hp => k _ _ (.new hp) (g.new hp) (.tup ⟨.inl upd_same, g.ne hp⟩ (r.le (.new hp)))⟩
  · cases h)
theorem ed_lst (h : EA X P E es A) : ED X P E (.List es pos) (fA cLst A) := pe_imp (pe_lst h) (ed_tA (r := fun xs H Q => xs.length ≤ sizeLine ∧ ∀ p, H p = none → Q (.ref p) (upd H p (.lst xs))) fun β bx H xs ds z Q g r h k => by
  unfold cLst at h
  split at h
  · rename_i hl
    cases h
    exact ⟨by rw [r.length]; exact le1000 hl, fun p hp => k _ _ (.new hp) (g.new hp) (.lst ⟨.inl upd_same, g.ne hp⟩ (r.le (.new hp)))⟩
  · cases h)
/-! ### items -/
def cIx (st : Sto) (d e : D) : Option D := match e with
  | .int i => (match vs st d with
    | some l => atI l i
    | none => match d with
      | .str x => if x.length ≤ 1000000 then (atI x.cps.toList i).map fun c => .str ⟨#[c]⟩ else none
      | _ => none)
  | _ => none
theorem ra_atI {K : PySem.W.Frag} {β : Mu} {H : Hp} {vs : List V} {ds : List D} {i : Int} {d : D} (r : RA K β H vs ds) (h : atI ds i = some d) : ∃ v, atI vs i = some v ∧ R K β H v d := by
  unfold atI at h ⊢
  rw [r.length]
  cases hj : ixN ds.length i with
  | none =>
    rw [hj] at h
    cases h
  | some j =>
    rw [hj] at h
    exact r.get h
theorem opd_ix : OpD X P (rIx X.K) cIx := by
  intro β bx H x y d e z Q g rx ry h k
  unfold cIx at h
  split at h
  · rename_i i
    obtain rfl := ry.int_inv
    split at h
    · rename_i l hl
      obtain ⟨a, xs, rfl, s, ra⟩ := rx.vs g hl
      obtain ⟨v, h1, h2⟩ := ra_atI ra h
      rcases s with s | s
      · exact .inl ⟨a, xs, i, v, rfl, rfl, s, h1, k v H .refl g h2⟩
      · exact .inr (.inl ⟨a, xs, i, v, rfl, rfl, s, h1, k v H .refl g h2⟩)
    · split at h
      · rename_i w _
        split at h
        · rename_i hs
          cases hc : atI w.cps.toList i with
          | none => rw [hc] at h; cases h
          | some c =>
            rw [hc] at h
            cases h
            cases rx
            exact .inr (.inr ⟨w, i, c, rfl, rfl, leM hs, hc, k _ H .refl g (.str _)⟩)
        · cases h
      · cases h
  · cases h
theorem ed_ix (ha : ED X P E a F) (hb : ED X P E b G) (hs : PlainIx b) : ED X P E (.Subscript a b pos) (f2 cIx F G) := pe_imp (pe_ix ix_seq ha hb hs) (ed_tOp opd_ix)
/-! ### slices, whatever is cut -/
def cutD (ds : List D) (lo hi : Option Int) : List D := (ds.drop (HT.sIx ds.length 0 lo)).take (HT.sIx ds.length ds.length hi - HT.sIx ds.length 0 lo)
theorem RA.cut {K : PySem.W.Frag} {β : Mu} {H : Hp} {vs : List V} {ds : List D} (r : RA K β H vs ds) (lo hi : Option Int) : RA K β H (cutV vs lo hi) (cutD ds lo hi) := by
  unfold cutV cutD
  rw [r.length]
  exact (r.drop _).take _
def cSl (st : Sto) (d : D) (lo hi : Option Int) : Option D := match vl st d with
  | some l => some (.lst (cutD l lo hi))
  | none => match d with
    | .tup l => some (.tup (cutD l lo hi))
    | .str x => if x.length ≤ 1000000 then some (.str (cutS x lo hi)) else none
    | _ => none
def rSlAny (K : PySem.W.Frag) : V → Option Int → Option Int → Hp → VK → Prop := fun x lo hi H Q => rSlL K x lo hi H Q ∨ rSlA K x lo hi H Q ∨ rSlS x lo hi H Q
theorem sl_any : SlR X (rSlAny X.K) := fun pins s σ H x v vl vu lo hi sl Q I rx hs pl pu h => h.elim (fun h => sl_list pins s σ H x v vl vu lo hi sl Q I rx hs pl pu h) fun h =>
  h.elim (fun h => sl_tupA pins s σ H x v vl vu lo hi sl Q I rx hs pl pu h) fun h => sl_str pins s σ H x v vl vu lo hi sl Q I rx hs pl pu h
theorem sl_of {β : Mu} {bx : Sto} {H : Hp} {x : V} {d z : D} {lo hi : Option Int} {Q : VK} (g : Good X.K P.T β bx H) (r : R X.K β H x d) (h : cSl bx d lo hi = some z) (k : ∀ v H', Le β H β H' → Good X.K P.T β bx H' → R X.K β H' v z → Q v H') : rSlAny X.K x lo hi H Q := by
  unfold cSl at h
  split at h
  · rename_i l hl
    cases h
    obtain ⟨a, xs, rfl, s, ra⟩ := r.vl g hl
    exact .inl ⟨a, xs, rfl, .inl s, fun p hp => k _ _ (.new hp) (g.new hp) (.lst ⟨.inl upd_same, g.ne hp⟩ ((ra.cut lo hi).le (.new hp)))⟩
  · split at h
    · cases h
      cases r with
      | tup s ra =>
        rename_i l _ a xs
        refine .inr (.inl ⟨a, xs, rfl, s.sq, fun hw => ?_, fun _ p hp => k _ _ (.new hp) (g.new hp) (.tup ⟨.inl upd_same, g.ne hp⟩ ((ra.cut lo hi).le (.new hp)))⟩)
        have e : cutD l lo hi = l := by
          unfold cutD
          rw [ra.length] at hw
          rw [hw.1, hw.2]
          simp
        rw [e] at k
        exact k _ H .refl g (.tup s ra)
    · rename_i w _
      split at h
      · rename_i hs
        cases h
        cases r
        exact .inr (.inr ⟨w, rfl, leM hs, k _ H .refl g (.str _)⟩)
      · cases h
    · cases h
def fPoN : Fn (Option Int) := pur none
def fPo (F : Fn D) : Fn (Option Int) := bnd F fun d => fun δ bx => match d with
  | .int i => .ok (some i) bx
  | _ => .bad
def fSl (F : Fn D) (A B : Fn (Option Int)) : Fn D := bnd F fun d => bnd A fun lo => bnd B fun hi => fun δ bx => lft (cSl bx d lo hi) δ bx
def tPO (K : PySem.W.Frag) (P : Pm) (E : XK) (A : Fn (Option Int)) : TO := fun σ H Q => ∃ β δ bx, Ev K β H σ δ ∧ Good K P.T β bx H ∧ OutX P K β H (A δ bx) E fun o _ _ H' => Q o H'
abbrev EPO (X : Cx) (P : Pm) (E : XK) (e : Option Expr) (A : Fn (Option Int)) : Prop := PO X e (tPO X.K P E A)
theorem po_imp {e : Option Expr} {t t' : TO} (h : PO X e t) (k : ∀ σ H Q, t' σ H Q → t σ H Q) : PO X e t' := ⟨fun pins s σ H Q I q => h.run pins s σ H Q I (k σ H Q q)⟩
theorem epo_none : EPO X P E none fPoN := po_imp po_none fun σ H Q ⟨β, _, _, _, g, o⟩ => o _ H .refl g
theorem epo_some (ha : ED X P E a F) : EPO X P E (some a) (fPo F) := by
  refine po_imp (po_some ha) ?_
  rintro σ H Q ⟨β, δ, bx, ev, g, o⟩
  refine d_bind ev g o fun β1 bx1 x d H1 l1 g1 r1 o1 => ?_
  split at o1
  · exact ⟨_, r1.int_inv, o1 _ H1 .refl g1⟩
  · exact o1.elim
theorem o_bind {γ : Type} {β : Mu} {δ : List (Option D)} {bx : Sto} {σ : L2.St} {H : Hp} {A : Fn (Option Int)} {G : Option Int → Fn γ} {k : γ → Mu → Sto → Hp → Prop} {Q1 : Option Int → Hp → Prop} (ev : Ev X.K β H σ δ) (g : Good X.K P.T β bx H) (o : OutX P X.K β H (bnd A G δ bx) E k)
    (h : ∀ β1 bx' x H1, Le β H β1 H1 → Good X.K P.T β1 bx' H1 → OutX P X.K β1 H1 (G x δ bx') E k → Q1 x H1) : tPO X.K P E A σ H Q1 := by
  have o2 := x_bind o
  refine ⟨β, δ, bx, ev, g, ?_⟩
  cases hF : A δ bx with
  | ok d bx' =>
    rw [hF] at o2
    exact fun β' H' l g' => h β' bx' d H' l g' (o2 β' H' l g' l)
  | err c d bx' =>
    rw [hF] at o2
    exact o2
  | bad =>
    rw [hF] at o2
    exact o2
theorem ed_sl {lo hi : Option Expr} {p2 : Pos} {B C : Fn (Option Int)} (ha : ED X P E a F) (hl : EPO X P E lo B) (hh : EPO X P E hi C) : ED X P E (.Subscript a (.Slice lo hi none p2) pos) (fSl F B C) := by
  refine pe_imp (pe_slice sl_any ha hl hh) ?_
  rintro σ H Q ⟨β, δ, bx, ev, g, o⟩
  refine d_bind ev g o.x fun β1 bx1 x d H1 l1 g1 r1 o1 => o_bind (ev.le l1) g1 o1 fun β2 bx2 lo' H2 l2 g2 o2 => o_bind ((ev.le l1).le l2) g2 o2 fun β3 bx3 hi' H3 l3 g3 o3 => ?_
  obtain ⟨z, hz, k⟩ := o3.lft'
  exact sl_of g3 ((r1.le l2).le l3) hz fun v H' l g r => k β3 H' l g v r
/-! ### + of any kind -/
def rCatL : R2 := fun x y H Q => ∃ l b xs zs, x = .ref l ∧ y = .ref b ∧ L2.Rd H l (.lst xs) ∧ L2.Rd H b (.lst zs) ∧ xs.length + zs.length ≤ sizeLine ∧ ∀ p, H p = none → Q (.ref p) (upd H p (.lst (xs ++ zs)))
theorem op_catL : OpR X (binaryOp .Add) rCatL := by
  intro pins s σ H x y v u Q I rx ry h
  obtain ⟨l, b, xs, zs, rfl, rfl, hH, hB, hz, q⟩ := h
  cases rx
  cases ry
  obtain ⟨z, its, n, r, e⟩ := hH.ok I.hok
  obtain ⟨z2, its2, n2, r2, e2⟩ := hB.ok I.hok
  have hl := r.length
  have hl2 := r2.length
  refine PySem.P.add_list e e2 ?_ (by rw [List.size_toArray, List.size_toArray]; omega)
  have ea : its.toArray ++ its2.toArray = (its ++ its2).toArray := by simp
  rw [ea]
  exact ⟨.ref _, _, I.lnew (t' := s.toks) (r.append r2) (by rw [List.length_append]; omega), rfl, q _ I.fresh⟩
abbrev rInt : R2 := rI0 fun i j => .int (i + j)
def rStrP : R2 := fun x y H Q => ∃ i j, x = .str i ∧ y = .str j ∧ i.length + j.length ≤ sizeLine ∧ Q (.str (i ++ j)) H
def rPlus (K : PySem.W.Frag) : R2 := fun x y H Q => rInt x y H Q ∨ rStrP x y H Q ∨ rCatA K x y H Q ∨ rCatL x y H Q
theorem op_plus : OpR X (binaryOp .Add) (rPlus X.K) := op_add.or (OpR.or (r := rStrP) op_add_str (op_catA.or op_catL))
def cPlus (st : Sto) (d e : D) : Option D := match d with
  | .int i => (match e with
    | .int j => some (.int (i + j))
    | _ => none)
  | .str x => (match e with
    | .str y => if x.length + y.length ≤ 1000000 then some (.str (x ++ y)) else none
    | _ => none)
  | .tup l => (match e with
    | .tup m => if l.length + m.length ≤ 1000000 then some (.tup (l ++ m)) else none
    | _ => none)
  | d => (match vl st d, vl st e with
    | some l, some m => if l.length + m.length ≤ 1000000 then some (.lst (l ++ m)) else none
    | _, _ => none)
theorem opd_plus : OpD X P (rPlus X.K) cPlus := by
  intro β bx H x y d e z Q g rx ry h k
  unfold cPlus at h
  split at h
  · split at h
    · cases h
      exact .inl ⟨_, _, rx.int_inv, ry.int_inv, k _ H .refl g (.int _)⟩
    · cases h
  · split at h
    · split at h
      · rename_i hs
        cases h
        cases rx
        cases ry
        exact .inr (.inl ⟨_, _, rfl, rfl, leM hs, k _ H .refl g (.str _)⟩)
      · cases h
    · cases h
  · split at h
    · split at h
      · rename_i hs
        cases h
        cases rx with
        | tup s ra =>
          cases ry with
          | tup s2 rb =>
            rename_i a xs b ys
            refine .inr (.inr (.inl ⟨a, b, xs, ys, rfl, rfl, s.sq, s2.sq, by rw [ra.length, rb.length]; exact leM hs, fun z => ?_, fun _ z => ?_, fun _ _ p hp => ?_⟩))
            · subst z
              cases ra
              exact k _ H .refl g (.tup s2 rb)
            · subst z
              cases rb
              exact k _ H .refl g (by rw [List.append_nil]; exact .tup s ra)
            · exact k _ _ (.new hp) (g.new hp) (.tup ⟨.inl upd_same, g.ne hp⟩ ((ra.append rb).le (.new hp)))
      · cases h
    · cases h
  · split at h
    · split at h
      · rename_i l m hl hm hs
        cases h
        obtain ⟨a, xs, rfl, s, ra⟩ := rx.vl g hl
        obtain ⟨b, ys, rfl, s2, rb⟩ := ry.vl g hm
        exact .inr (.inr (.inr ⟨a, b, xs, ys, rfl, rfl, s, s2, by rw [ra.length, rb.length]; exact leM hs, fun p hp => k _ _ (.new hp) (g.new hp) (.lst ⟨.inl upd_same, g.ne hp⟩ ((ra.append rb).le (.new hp)))⟩))
      · cases h
    · cases h
theorem ed_plus (ha : ED X P E a F) (hb : ED X P E b G) : ED X P E (.BinOp a .Add b pos) (f2 cPlus F G) := ed_bin op_plus opd_plus ha hb
/-! ### in, not in: flat items -/
def D.flat : D → Bool
  | .non => true
  | .bl _ => true
  | .int _ => true
  | .str _ => true
  | _ => false
def eqF : D → D → Bool
  | .non, .non => true
  | .bl a, .bl b => a == b
  | .bl a, .int b => (if a then 1 else 0) == b
  | .int a, .bl b => a == (if b then 1 else 0)
  | .int a, .int b => a == b
  | .str a, .str b => a == b
  | _, _ => false
theorem R.flat {K : PySem.W.Frag} {β : Mu} {H : Hp} {v : V} {d : D} (r : R K β H v d) (h : d.flat = true) : flatV v = true := by
  cases r <;> first | rfl | cases h
theorem R.eqF {K : PySem.W.Frag} {β : Mu} {H : Hp} {v w : V} {d e : D} (r : R K β H v d) (r2 : R K β H w e) (h : d.flat = true) (h2 : e.flat = true) : eqV v w = Ms.eqF d e := by
  cases r <;> first | (cases h; done) | (cases r2 <;> first | (cases h2; done) | rfl)
theorem RA.flat {K : PySem.W.Frag} {β : Mu} {H : Hp} : ∀ {vs : List V} {ds : List D}, RA K β H vs ds → ds.all D.flat = true → vs.all flatV = true
  | _, _, .nil, _ => rfl
  | _, _, .cons r ra, h => by
    rw [List.all_cons, Bool.and_eq_true] at h ⊢
    exact ⟨r.flat h.1, RA.flat ra h.2⟩
theorem RA.inF {K : PySem.W.Frag} {β : Mu} {H : Hp} {v : V} {d : D} (r : R K β H v d) (h : d.flat = true) : ∀ {vs : List V} {ds : List D}, RA K β H vs ds → ds.all D.flat = true → inV v vs = ds.any fun y => Ms.eqF y d
  | _, _, .nil, _ => rfl
  | _, _, .cons r2 ra, h2 => by
    rw [List.all_cons, Bool.and_eq_true] at h2
    have q := RA.inF r h ra h2.2
    unfold inV at q ⊢
    rw [List.any_cons, List.any_cons, r2.eqF r h2.1 h, q]
def cIn (neg : Bool) (st : Sto) (d e : D) : Option D := match vs st e with
  | some ds => if (d.flat && ds.all D.flat) = true then some (.bl (if neg then !(ds.any fun y => eqF y d) else (ds.any fun y => eqF y d))) else none
  | none => none
theorem opd_in {neg : Bool} : OpD X P (rIn X.K neg) (cIn neg) := by
  intro β bx H x y d e z Q g rx ry h k
  unfold cIn at h
  split at h
  · rename_i ds hd
    split at h
    · rename_i hf
      cases h
      rw [Bool.and_eq_true] at hf
      obtain ⟨a, xs, rfl, s, ra⟩ := ry.vs g hd
      refine ⟨a, xs, rfl, s, rx.flat hf.1, ra.flat hf.2, ?_⟩
      rw [RA.inF rx hf.1 ra hf.2]
      exact k _ H .refl g (.bl _)
    · cases h
  · cases h
theorem ed_in (ha : ED X P E a F) (hb : ED X P E b G) (hm : behindInMarks .In b = false := by rfl) : ED X P E (.Compare a [.In] [b] pos) (f2 (cIn false) F G) := ed_cmp op_in_seq opd_in ha hb hm
theorem ed_notIn (ha : ED X P E a F) (hb : ED X P E b G) (hm : behindInMarks .NotIn b = false := by rfl) : ED X P E (.Compare a [.NotIn] [b] pos) (f2 (cIn true) F G) := ed_cmp op_notIn_seq opd_in ha hb hm
theorem et_in (ha : ED X P E a F) (hb : ED X P E b G) (hm : behindInMarks .In b = false := by rfl) : ET X P E (.Compare a [.In] [b] pos) (fB (f2 (cIn false) F G)) := et_cmp op_in_seq opd_in ha hb hm
theorem et_notIn (ha : ED X P E a F) (hb : ED X P E b G) (hm : behindInMarks .NotIn b = false := by rfl) : ET X P E (.Compare a [.NotIn] [b] pos) (fB (f2 (cIn true) F G)) := et_cmp op_notIn_seq opd_in ha hb hm

/-! ### built-in functions -/
theorem ed_blt {x : Str} {id : String} {r : List V → Hp → VK → Prop} {f : Sto → List D → Option D} {p : Pos} {e : Expr} (hc : CallR X (.builtin id) r) (hr : CallD X P r f) (hg : Gl X x) (hm : X.mg x = none) (hv : bootBuiltins x = some (.builtin id)) (ha : EA X P E (e :: es) A)
    (hn : x ≠ "__name__" := by decide) (hdb : (x == ("__debug__" : Str)) = false := by decide) (he : starEach (e :: es) X.env = (false, eval e X.env) :: starEach es X.env := by rfl) (hpl : (backTo pos (starEach es X.env)).any (·.1) = false := by rfl) : ED X P E (.Call (.Name x p) (e :: es) [] pos) (fA f A) :=
  pe_imp (pe_callB hc hg hm hv ha hn hdb he hpl) (ed_tA hr)
theorem ed_ty {x : Str} {T : String} {r : List V → Hp → VK → Prop} {f : Sto → List D → Option D} {p : Pos} {e : Expr} (hc : CallR X (.type T) r) (hr : CallD X P r f) (hg : Gl X x) (hm : X.mg x = none) (hv : bootBuiltins x = some (.type T)) (ha : EA X P E (e :: es) A)
    (hn : x ≠ "__name__" := by decide) (hdb : (x == ("__debug__" : Str)) = false := by decide) (he : starEach (e :: es) X.env = (false, eval e X.env) :: starEach es X.env := by rfl) (hpl : (backTo pos (starEach es X.env)).any (·.1) = false := by rfl) : ED X P E (.Call (.Name x p) (e :: es) [] pos) (fA f A) :=
  pe_imp (pe_callTy hc hg hm hv ha hn hdb he hpl) (ed_tA hr)
theorem RA.one {K : PySem.W.Frag} {β : Mu} {H : Hp} {xs : List V} {d : D} (r : RA K β H xs [d]) : ∃ v, xs = [v] ∧ R K β H v d := by
  cases r with
  | cons a b => cases b; exact ⟨_, rfl, a⟩
theorem RA.two {K : PySem.W.Frag} {β : Mu} {H : Hp} {xs : List V} {d e : D} (r : RA K β H xs [d, e]) : ∃ v w, xs = [v, w] ∧ R K β H v d ∧ R K β H w e := by
  cases r with
  | cons a b =>
    obtain ⟨w, rfl, h⟩ := b.one
    exact ⟨_, _, rfl, a, h⟩
theorem CallR.or {f : Value} {r r' : List V → Hp → VK → Prop} (h : CallR X f r) (h' : CallR X f r') : CallR X f (fun xs H Q => r xs H Q ∨ r' xs H Q) := fun pins s σ H xs us Q I rv q => q.elim (fun q => h pins s σ H xs us Q I rv q) fun q => h' pins s σ H xs us Q I rv q
def rLenS (K : PySem.W.Frag) : List V → Hp → VK → Prop := fun xs H Q => ∃ p ys, xs = [.ref p] ∧ (SqL K H p ys ∨ SqT K H p ys) ∧ Q (.int ys.length) H
def rLenT : List V → Hp → VK → Prop := fun xs H Q => ∃ z, xs = [.str z] ∧ z.length ≤ sizeLine ∧ Q (.int z.length) H
def rLen (K : PySem.W.Frag) : List V → Hp → VK → Prop := fun xs H Q => rLenS K xs H Q ∨ rLenT xs H Q
theorem call_lenA : CallR X (.builtin "len") (rLen X.K) := CallR.or (r := rLenS X.K) (r' := rLenT) call_len_seq call_len_str
def cLen (st : Sto) : List D → Option D
  | [d] => (match vs st d with
    | some l => some (.int l.length)
    | none => match d with
      | .str x => if x.length ≤ 1000000 then some (.int x.length) else none
      | _ => none)
  | _ => none
theorem cd_len : CallD X P (rLen X.K) cLen := by
  intro β bx H xs ds z Q g r h k
  unfold cLen at h
  split at h
  · obtain ⟨v, rfl, r1⟩ := r.one
    split at h
    · rename_i l hl
      cases h
      obtain ⟨a, ys, rfl, s, ra⟩ := r1.vs g hl
      exact .inl ⟨a, ys, rfl, s, by rw [ra.length]; exact k _ H .refl g (.int _)⟩
    · split at h
      · split at h
        · rename_i hs
          cases h
          cases r1
          exact .inr ⟨_, rfl, leM hs, k _ H .refl g (.int _)⟩
        · cases h
      · cases h
  · cases h
def cAbs : Sto → List D → Option D
  | _, [.int i] => some (.int (if i < 0 then -i else i))
  | _, _ => none
theorem cd_abs : CallD X P (fun xs H Q => ∃ i, xs = [.int i] ∧ Q (.int (if i < 0 then -i else i)) H) cAbs := by
  intro β bx H xs ds z Q g r h k
  unfold cAbs at h
  split at h
  · cases h
    obtain ⟨v, rfl, r1⟩ := r.one
    exact ⟨_, by rw [r1.int_inv], k _ H .refl g (.int _)⟩
  · cases h
def cInt : Sto → List D → Option D
  | _, [.int i] => some (.int i)
  | _, _ => none
theorem cd_int : CallD X P (fun xs H Q => (∃ i, xs = [.int i] ∧ Q (.int i) H) ∨ ∃ k, xs = [.bl k] ∧ Q (.int (if k then 1 else 0)) H) cInt := by
  intro β bx H xs ds z Q g r h k
  unfold cInt at h
  split at h
  · cases h
    obtain ⟨v, rfl, r1⟩ := r.one
    exact .inl ⟨_, by rw [r1.int_inv], k _ H .refl g (.int _)⟩
  · cases h
def cMax : Sto → List D → Option D
  | _, [.int i, .int j] => some (.int (if j > i then j else i))
  | _, _ => none
theorem cd_max : CallD X P (fun xs H Q => ∃ i j, xs = [.int i, .int j] ∧ Q (.int (if j > i then j else i)) H) cMax := by
  intro β bx H xs ds z Q g r h k
  unfold cMax at h
  split at h
  · cases h
    obtain ⟨v, w, rfl, r1, r2⟩ := r.two
    exact ⟨_, _, by rw [r1.int_inv, r2.int_inv], k _ H .refl g (.int _)⟩
  · cases h
def cMin : Sto → List D → Option D
  | _, [.int i, .int j] => some (.int (if j < i then j else i))
  | _, _ => none
theorem cd_min : CallD X P (fun xs H Q => ∃ i j, xs = [.int i, .int j] ∧ Q (.int (if j < i then j else i)) H) cMin := by
  intro β bx H xs ds z Q g r h k
  unfold cMin at h
  split at h
  · cases h
    obtain ⟨v, w, rfl, r1, r2⟩ := r.two
    exact ⟨_, _, by rw [r1.int_inv, r2.int_inv], k _ H .refl g (.int _)⟩
  · cases h
/-- list(x) -/
def cListOf (st : Sto) : List D → Option D
  | [d] => (vs st d).map D.lst
  | _ => none
theorem cd_listOf : CallD X P (fun xs H Q => ∃ p ys, xs = [.ref p] ∧ (SqL X.K H p ys ∨ SqT X.K H p ys) ∧ ∀ l, H l = none → Q (.ref l) (upd H l (.lst ys))) cListOf := by
  intro β bx H xs ds z Q g r h k
  unfold cListOf at h
  split at h
  · obtain ⟨v, rfl, r1⟩ := r.one
    rename_i d
    cases hl : vs bx d with
    | none => rw [hl] at h; cases h
    | some l =>
      rw [hl] at h
      cases h
      obtain ⟨a, ys, rfl, s, ra⟩ := r1.vs g hl
      exact ⟨a, ys, rfl, s, fun p hp => k _ _ (.new hp) (g.new hp) (.lst ⟨.inl upd_same, g.ne hp⟩ (ra.le (.new hp)))⟩
  · cases h
/-- tuple(x) -/
def cTupOf (st : Sto) : List D → Option D
  | [d] => (match vl st d with
    | some l => some (.tup l)
    | none => (vt d).map D.tup)
  | _ => none
theorem cd_tupOf : CallD X P (fun xs H Q => ∃ p ys, xs = [.ref p] ∧ ((SqL X.K H p ys ∧ ∀ l, H l = none → Q (.ref l) (upd H l (.tup ys))) ∨ (SqT X.K H p ys ∧ Q (.ref p) H))) cTupOf := by
  intro β bx H xs ds z Q g r h k
  unfold cTupOf at h
  split at h
  · obtain ⟨v, rfl, r1⟩ := r.one
    split at h
    · rename_i l hl
      cases h
      obtain ⟨a, ys, rfl, s, ra⟩ := r1.vl g hl
      exact ⟨a, ys, rfl, .inl ⟨.inl s, fun p hp => k _ _ (.new hp) (g.new hp) (.tup ⟨.inl upd_same, g.ne hp⟩ (ra.le (.new hp)))⟩⟩
    · cases r1 with
      | tup s ra =>
        cases h
        exact ⟨_, _, rfl, .inr ⟨s.sq, k _ H .refl g (.tup s ra)⟩⟩
      | lst _ _ => cases h
      | ref _ => cases h
      | non => cases h
      | bl _ => cases h
      | int _ => cases h
      | str _ => cases h
      | fn _ _ => cases h
      | scr _ => cases h
  · cases h
/-- sum(xs) of ints -/
def toInts : List D → Option (List Int)
  | [] => some []
  | .int i :: r => (toInts r).map (i :: ·)
  | _ => none
theorem toInts_inv : ∀ {l : List D} {ns : List Int}, toInts l = some ns → l = ns.map D.int
  | [], ns, h => by cases h; rfl
  | .int i :: r, ns, h => by
    simp only [toInts] at h
    cases hr : toInts r with
    | none => rw [hr] at h; cases h
    | some ms =>
      rw [hr] at h
      cases h
      rw [toInts_inv hr]
      rfl
  | .non :: _, _, h => by cases h
  | .bl _ :: _, _, h => by cases h
  | .str _ :: _, _, h => by cases h
  | .lst _ :: _, _, h => by cases h
  | .tup _ :: _, _, h => by cases h
  | .ref _ :: _, _, h => by cases h
  | .fn _ :: _, _, h => by cases h
  | .scr _ :: _, _, h => by cases h
theorem toInts_map : ∀ ns : List Int, toInts (ns.map D.int) = some ns
  | [] => rfl
  | n :: r => by simp only [List.map_cons, toInts, toInts_map r, Option.map_some]
def cSum (st : Sto) : List D → Option D
  | [d] => ((vl st d).bind toInts).map fun ns => .int ns.sum
  | _ => none
theorem cd_ints {β : Mu} {bx : Sto} {H : Hp} {v : V} {d : D} {ns : List Int} (g : Good X.K P.T β bx H) (r : R X.K β H v d) (h : (vl bx d).bind toInts = some ns) : ∃ a, v = .ref a ∧ SqL X.K H a (ns.map V.int) := by
  cases hl : vl bx d with
  | none => rw [hl] at h; cases h
  | some l =>
    rw [hl] at h
    have e := toInts_inv (show toInts l = some ns from h)
    subst e
    obtain ⟨a, xs, rfl, s, ra⟩ := r.vl g hl
    rw [ra.ints_inv] at s
    exact ⟨a, rfl, .inl s⟩
theorem cd_sum : CallD X P (rSum X.K) cSum := by
  intro β bx H xs ds z Q g r h k
  unfold cSum at h
  split at h
  · rename_i d
    obtain ⟨v, rfl, r1⟩ := r.one
    cases hn : (vl bx d).bind toInts with
    | none => rw [hn] at h; cases h
    | some ns =>
      rw [hn] at h
      cases h
      obtain ⟨a, rfl, s⟩ := cd_ints g r1 hn
      exact ⟨a, ns, rfl, s, k _ H .refl g (.int _)⟩
  · cases h
end
end Ms

end
section
set_option Elab.async false
set_option linter.all false
set_option maxRecDepth 100000
set_option maxHeartbeats 4000000
namespace Ms
open PySem PySem.Spec PyProof.Rows L2
/-! ### types -/
def D.ty (st : Sto) : D → Option String
  | .non => some "NoneType"
  | .bl _ => some "bool"
  | .int _ => some "int"
  | .str _ => some "str"
  | .lst _ => some "list"
  | .tup _ => some "tuple"
  | .ref k => (vl st (.ref k)).map fun _ => "list"
  | .fn _ => none
  | .scr _ => none
theorem tyx {K : PySem.W.Frag} {T : Tb} {β : Mu} {bx : Sto} {H : Hp} {v : V} {d : D} {t : String} (g : Good K T β bx H) (r : R K β H v d) (e : d.ty bx = some t) : TyX K H v (.type t) := by
  cases r with
  | non => cases e; exact .base .non
  | bl b => cases e; exact .base (.bl b)
  | int i => cases e; exact .base (.int i)
  | str x => cases e; exact .base (.str x)
  | lst s ra =>
    cases e
    rcases s with ⟨h | ⟨o, h⟩, _⟩
    · exact .base (.lst h)
    · exact .base (.frz h)
  | tup s ra =>
    cases e
    rcases s with ⟨h | ⟨o, h⟩, _⟩
    · exact .base (.tup h)
    · exact .fTuple h
  | ref hk =>
    rename_i a k b
    have e' : (vl bx (.ref k)).map (fun _ => "list") = some t := e
    cases hl : vl bx (.ref k) with
    | none => rw [hl] at e'; cases e'
    | some l =>
      rw [hl] at e'
      cases e'
      obtain ⟨a', xs, e2, s, _⟩ := (R.ref (K := K) (β := β) (H := H) hk).vl g hl
      cases e2
      rcases s with h | ⟨o, h⟩
      · exact .base (.lst h)
      · exact .base (.frz h)
  | fn _ _ => cases e
  | scr _ => cases e
/-- isinstance(x, T) -/
def cIsi (T : String) (st : Sto) (d : D) : Option D := (d.ty st).bind fun t => (kitB t T).map D.bl
def cIsi2 (T U : String) (st : Sto) (d : D) : Option D := (d.ty st).bind fun t => match kitB t T, kitB t U with
  | some p, some q => some (.bl (p || q))
  | _, _ => none
section
variable {X : Cx} {P : Pm} {E : XK} {pos : Pos} {a b : Expr} {F G : Fn D}
theorem ed_isi {x c : Str} {T : String} {p p2 : Pos} (hg : Gl X x) (hm : X.mg x = none) (hv : bootBuiltins x = some (.builtin "isinstance")) (ha : ED X P E a F) (gc : Gl X c) (mc : X.mg c = none) (vc : bootBuiltins c = some (.type T))
    (hn : x ≠ "__name__" := by decide) (hdb : (x == ("__debug__" : Str)) = false := by decide) (hn2 : c ≠ "__name__" := by decide) (hdb2 : (c == ("__debug__" : Str)) = false := by decide)
    (h1 : starEach (a :: [.Name c p2]) X.env = (false, eval a X.env) :: starEach [.Name c p2] X.env := by rfl) (h2 : (backTo pos (starEach [.Name c p2] X.env)).any (·.1) = false := by rfl)
    (h3 : starEach [.Name c p2] X.env = (false, eval (.Name c p2) X.env) :: starEach [] X.env := by rfl) : ED X P E (.Call (.Name x p) (a :: [.Name c p2]) [] pos) (f1 (cIsi T) F) := by
  refine pe_imp (pe_callB call_isi hg hm hv (pa_cons ha (pa_cons (pe_bltn (v := .ty T) gc mc vc rfl hn2 hdb2) pa_nil h3) h1) hn hdb h1 h2) fun σ H Q h => ?_
  refine ed_t1 (r := fun y H Q => rIsi X.K [y, .ty T] H Q) (fun β bx H y d z Q g r h k => ?_) σ H Q h
  unfold cIsi at h
  cases ht : d.ty bx with
  | none => rw [ht] at h; cases h
  | some t =>
  rw [ht] at h
  replace h : (kitB t T).map D.bl = some z := h
  cases hk : kitB t T with
  | none => rw [hk] at h; cases h
  | some c =>
    rw [hk] at h
    cases h
    exact ⟨y, .ty T, .type t, .type T, c, rfl, .ty T, tyx g r ht, kit_ty hk, k _ H .refl g (.bl c)⟩
theorem ed_isi2 {x c e : Str} {T U : String} {p p2 p3 p4 : Pos} {x1} (hg : Gl X x) (hm : X.mg x = none) (hv : bootBuiltins x = some (.builtin "isinstance")) (ha : ED X P E a F) (gc : Gl X c) (mc : X.mg c = none) (vc : bootBuiltins c = some (.type T)) (ge : Gl X e) (me : X.mg e = none) (ve : bootBuiltins e = some (.type U))
    (hn : x ≠ "__name__" := by decide) (hdb : (x == ("__debug__" : Str)) = false := by decide) (hn2 : c ≠ "__name__" := by decide) (hdb2 : (c == ("__debug__" : Str)) = false := by decide) (hn3 : e ≠ "__name__" := by decide) (hdb3 : (e == ("__debug__" : Str)) = false := by decide)
    (h1 : starEach (a :: [.Tuple [.Name c p2, .Name e p3] x1 p4]) X.env = (false, eval a X.env) :: starEach [.Tuple [.Name c p2, .Name e p3] x1 p4] X.env := by rfl) (h2 : (backTo pos (starEach [.Tuple [.Name c p2, .Name e p3] x1 p4] X.env)).any (·.1) = false := by rfl)
    (h3 : starEach [.Tuple [.Name c p2, .Name e p3] x1 p4] X.env = (false, eval (.Tuple [.Name c p2, .Name e p3] x1 p4) X.env) :: starEach [] X.env := by rfl)
    (h4 : starEach [.Name c p2, .Name e p3] X.env = (false, eval (.Name c p2) X.env) :: starEach [.Name e p3] X.env := by rfl) (h5 : starEach [.Name e p3] X.env = (false, eval (.Name e p3) X.env) :: starEach [] X.env := by rfl) :
    ED X P E (.Call (.Name x p) (a :: [.Tuple [.Name c p2, .Name e p3] x1 p4]) [] pos) (f1 (cIsi2 T U) F) := by
  refine pe_imp (pe_callB call_isiT hg hm hv (pa_cons ha (pa_cons (pe_tup (pa_cons (pe_bltn (v := .ty T) gc mc vc rfl hn2 hdb2) (pa_cons (pe_bltn (v := .ty U) ge me ve rfl hn3 hdb3) pa_nil h5) h4)) pa_nil h3) h1) hn hdb h1 h2) fun σ H Q h => ?_
  refine ed_t1 (r := fun y H Q => [V.ty T, V.ty U].length ≤ sizeLine ∧ ∀ q, H q = none → rIsiT X.K [y, .ref q] (upd H q (.tup [.ty T, .ty U])) Q) (fun β bx H y d z Q g r h k => ?_) σ H Q h
  refine ⟨le1000 (by show 2 ≤ 1000; omega), fun q hq => ?_⟩
  unfold cIsi2 at h
  cases ht : d.ty bx with
  | none => rw [ht] at h; cases h
  | some t =>
  rw [ht] at h
  replace h : (match kitB t T, kitB t U with
  | some p, some q => some (D.bl (p || q))
  | _, _ => none) = some z := h
  cases hk : kitB t T with
  | none => rw [hk] at h; cases h
  | some c =>
    cases hl : kitB t U with
    | none => rw [hk, hl] at h; cases h
    | some c2 =>
      rw [hk, hl] at h
      cases h
      refine ⟨y, q, [.ty T, .ty U], .type t, [.type T, .type U], c || c2, rfl, upd_same, .cons (.ty T) (.cons (.ty U) .nil), tyx (g.new hq) (r.le (.new hq)) ht, ?_, k _ _ (.new hq) (g.new hq) (.bl _)⟩
      refine kitAny_cons (kit_ty hk) (fun e => ?_) (fun e => by rw [e]; rfl)
      refine kitAny_cons (kit_ty hl) (fun e2 => by rw [e, e2]; rfl) (fun e2 => by rw [e2, Bool.or_true])
end
/-! ### data as the library's data -/
mutual
def D.py : D → PyData
  | .non => .none
  | .bl b => .bool b
  | .int i => .int i
  | .str x => .str x
  | .lst l => .list (D.pyAll l)
  | .tup l => .tuple (D.pyAll l)
  | .ref _ => .none
  | .fn _ => .none
  | .scr _ => .none
def D.pyAll : List D → List PyData
  | [] => []
  | d :: r => d.py :: D.pyAll r
end
mutual
def D.pure : D → Bool
  | .ref _ => false
  | .fn _ => false
  | .scr _ => false
  | .lst l => D.pureAll l
  | .tup l => D.pureAll l
  | _ => true
def D.pureAll : List D → Bool
  | [] => true
  | d :: r => d.pure && D.pureAll r
end
mutual
theorem R.dp {K : PySem.W.Frag} {β : Mu} {H : Hp} : ∀ {v : V} {d : D}, R K β H v d → d.pure = true → Dp K H v d.py
  | _, _, .non, _ => .non
  | _, _, .bl b, _ => .bl b
  | _, _, .int i, _ => .int i
  | _, _, .str x, _ => .str x
  | _, _, .lst s ra, h => .lst s.sq (RA.dp ra h)
  | _, _, .tup s ra, h => .tup s.sq (RA.dp ra h)
  | _, _, .ref _, h => nomatch h
  | _, _, .fn _ _, h => nomatch h
  | _, _, .scr _, h => nomatch h
theorem RA.dp {K : PySem.W.Frag} {β : Mu} {H : Hp} : ∀ {vs : List V} {ds : List D}, RA K β H vs ds → D.pureAll ds = true → DpAll K H vs (D.pyAll ds)
  | _, _, .nil, _ => .nil
  | _, _, .cons r ra, h => .cons (R.dp r (Bool.and_eq_true_iff.mp h).1) (RA.dp ra (Bool.and_eq_true_iff.mp h).2)
end
mutual
theorem D.noDict : ∀ d : D, d.py.hasDict = false
  | .non => rfl
  | .bl _ => rfl
  | .int _ => rfl
  | .str _ => rfl
  | .lst l => D.noDictAll l
  | .tup l => D.noDictAll l
  | .ref _ => rfl
  | .fn _ => rfl
  | .scr _ => rfl
theorem D.noDictAll : ∀ l : List D, PyData.hasDictAll (D.pyAll l) = false
  | [] => rfl
  | d :: r => by
    show (d.py.hasDict || PyData.hasDictAll (D.pyAll r)) = false
    rw [D.noDict d, D.noDictAll r]
    rfl
end
/-- a list that grows as it is now -/
def dr (st : Sto) (d : D) : D := match d with
  | .ref k => (match st[k]? with
    | some (.lst l) => .lst l
    | _ => .ref k)
  | d => d
theorem R.dpr {K : PySem.W.Frag} {T : Tb} {β : Mu} {st : Sto} {H : Hp} {v : V} {d : D} (r : R K β H v d) (g : Good K T β st H) (h : (dr st d).pure = true) : Dp K H v (dr st d).py := by
  cases d with
  | ref k =>
    cases hc : st[k]? with
    | none => simp only [dr, hc] at h; cases h
    | some c =>
      cases c with
      | dead => simp only [dr, hc] at h; cases h
      | lam n => simp only [dr, hc] at h; cases h
      | lst l =>
        simp only [dr, hc] at h ⊢
        obtain ⟨a, xs, rfl, s, ra⟩ := r.vl g (show Ms.vl st (.ref k) = some l by simp only [Ms.vl, hc])
        exact .lst (.inl s) (ra.dp h)
  | non => exact r.dp h
  | bl _ => exact r.dp h
  | int _ => exact r.dp h
  | str _ => exact r.dp h
  | lst _ => exact r.dp h
  | tup _ => exact r.dp h
  | fn _ => exact r.dp h
  | scr _ => exact r.dp h
def eqOk (d e : D) : Bool := d.pure && e.pure && SeqAt.shaped d.py && SeqAt.shaped e.py
def cEqD : Sto → D → D → Option D := fun st d e => if eqOk (dr st d) (dr st e) = true then some (.bl (PyData.eqv (dr st d).py (dr st e).py)) else none
def cNeD : Sto → D → D → Option D := fun st d e => if eqOk (dr st d) (dr st e) = true then some (.bl (!PyData.eqv (dr st d).py (dr st e).py)) else none
def cRepr (st : Sto) : List D → Option D
  | [d] => if ((dr st d).pure && (dr st d).py.showable && decide ((dr st d).py.depth ≤ 60) && decide ((dr st d).py.shown.length ≤ sizeLine)) = true then some (.str (dr st d).py.shown) else none
  | _ => none
section
variable {X : Cx} {P : Pm} {E : XK} {pos : Pos} {a b : Expr} {F G : Fn D} {es : List Expr} {A : Fn (List D)}
theorem opd_eqD : OpD X P (rEqD X.K) cEqD := by
  intro β bx H x y d e z Q g rx ry h k
  unfold cEqD at h
  split at h
  · rename_i hc
    cases h
    simp only [eqOk, Bool.and_eq_true] at hc
    exact ⟨_, _, rx.dpr g hc.1.1.1, ry.dpr g hc.1.1.2, hc.1.2, hc.2, k _ H .refl g (.bl _)⟩
  · cases h
theorem opd_neD : OpD X P (rNeD X.K) cNeD := by
  intro β bx H x y d e z Q g rx ry h k
  unfold cNeD at h
  split at h
  · rename_i hc
    cases h
    simp only [eqOk, Bool.and_eq_true] at hc
    exact ⟨_, _, rx.dpr g hc.1.1.1, ry.dpr g hc.1.1.2, hc.1.2, hc.2, k _ H .refl g (.bl _)⟩
  · cases h
theorem ed_eq (hu : X.A.units + 64 < cLine) (ha : ED X P E a F) (hb : ED X P E b G) : ED X P E (.Compare a [.Eq] [b] pos) (f2 cEqD F G) := ed_cmp (op_eqD hu) opd_eqD ha hb (nomark _)
theorem ed_ne (hu : X.A.units + 64 < cLine) (ha : ED X P E a F) (hb : ED X P E b G) : ED X P E (.Compare a [.NotEq] [b] pos) (f2 cNeD F G) := ed_cmp (op_neD hu) opd_neD ha hb (nomark _)
theorem et_eq (hu : X.A.units + 64 < cLine) (ha : ED X P E a F) (hb : ED X P E b G) : ET X P E (.Compare a [.Eq] [b] pos) (fB (f2 cEqD F G)) := et_cmp (op_eqD hu) opd_eqD ha hb (nomark _)
theorem et_ne (hu : X.A.units + 64 < cLine) (ha : ED X P E a F) (hb : ED X P E b G) : ET X P E (.Compare a [.NotEq] [b] pos) (fB (f2 cNeD F G)) := et_cmp (op_neD hu) opd_neD ha hb (nomark _)
/-! ### repr -/
def rRepr (K : PySem.W.Frag) : List V → Hp → VK → Prop := fun xs H Q => ∃ x d, xs = [x] ∧ Dp K H x d ∧ d.showable = true ∧ d.hasDict = false ∧ d.depth ≤ 60 ∧ d.shown.length ≤ sizeLine ∧ Q (.str d.shown) H
theorem call_repr (hga : X.A.guards = some []) (hu : X.A.units + 64 < cLine) : CallR X (.builtin "repr") (rRepr X.K) := by
  intro pins s σ H xs us Q I r h
  obtain ⟨x, d, rfl, hd, h1, h2, h3, h4, q⟩ := h
  obtain ⟨u, rfl, rx⟩ := vals1 r
  obtain ⟨as, rr⟩ := hd.reads I d x u rx
  have fin : ∀ h' t tk, (∀ b o, s.heap.get? b = some o → h'.get? b = some o) → EP X pins σ Q (.str d.shown t) { s with heap := h', toks := tk } := fun h' t tk k => ⟨.str d.shown, H, I.kept k, ⟨t, rfl⟩, q⟩
  cases x with
  | ref a =>
    obtain rfl : u = Value.ref a := rx
    exact repr_of_reads' rr h1 (PyData.noDict_hsm h2) hga (by omega) (fun _ _ e => e) (fun h' t tk k => fin h' t tk k) h4
  | non =>
    cases hd
    obtain rfl : u = Value.none := rx
    exact PySem.P.repr_of_none (fin s.heap _ _ fun _ _ e => e)
  | bl b =>
    cases hd
    obtain rfl : u = Value.bool b := rx
    exact PySem.P.repr_of_bool (fin s.heap _ _ fun _ _ e => e)
  | int i =>
    cases hd
    obtain ⟨t, rfl⟩ := rx
    exact PySem.P.repr_of_int (of_decide_eq_true h1) (fin s.heap _ _ fun _ _ e => e)
  | str y =>
    cases hd
    obtain ⟨t, rfl⟩ := rx
    exact PySem.P.repr_of_str (fin s.heap _ _ fun _ _ e => e) h4
  | byt _ => cases hd
  | flt _ => cases hd
  | ty _ => cases hd
theorem cd_repr : CallD X P (rRepr X.K) cRepr := by
  intro β bx H xs ds z Q g r h k
  unfold cRepr at h
  split at h
  · split at h
    · rename_i d hc
      cases h
      simp only [Bool.and_eq_true, decide_eq_true_eq] at hc
      obtain ⟨v, rfl, r1⟩ := r.one
      exact ⟨v, _, rfl, r1.dpr g hc.1.1.1, hc.1.1.2, D.noDict _, hc.1.2, hc.2, k _ H .refl g (.str _)⟩
    · cases h
  · cases h
/-! ### tuple(range(a, b, c)) -/
def rng3 (a b c : Int) (n : Nat) : List V := (List.range n).map fun i => V.int (a + (i : Nat) * c)
def cTupRg : Sto → List D → Option D
  | _, [.int a, .int b, .int c] => if 0 < c ∧ c < 1073741824 ∧ -(2 ^ 40) < a ∧ a < 2 ^ 40 ∧ -(2 ^ 40) < b ∧ b < 2 ^ 40 ∧ Builtin.Range.rangeSize a b c ≤ 1000 then some (.tup ((List.range (Builtin.Range.rangeSize a b c).toNat).map fun i => D.int (a + (i : Nat) * c))) else none
  | _, _ => none
theorem range_nn {a b c : Int} (hc : 0 < c) : 0 ≤ Builtin.Range.rangeSize a b c := by
  unfold Builtin.Range.rangeSize
  rw [if_pos hc]
  split
  · have := Int.ediv_nonneg (a := b - a - 1) (b := c) (by omega) (by omega)
    omega
  · omega
theorem RA.rng {K : PySem.W.Frag} {β : Mu} {H : Hp} (f : Nat → Int) : ∀ l : List Nat, RA K β H (l.map fun i => V.int (f i)) (l.map fun i => D.int (f i))
  | [] => .nil
  | i :: r => .cons (.int _) (RA.rng f r)
theorem ra_three {K : PySem.W.Frag} {β : Mu} {H : Hp} {xs : List V} {d e f : D} (r : RA K β H xs [d, e, f]) : ∃ u v w, xs = [u, v, w] ∧ R K β H u d ∧ R K β H v e ∧ R K β H w f := by
  cases r with
  | cons a b =>
    obtain ⟨v, w, rfl, h1, h2⟩ := b.two
    exact ⟨_, _, _, rfl, a, h1, h2⟩
theorem small3 {a b c : Int} (hc : 0 < c) (h3 : c < 1073741824) (ha : -(2 ^ 40) < a) (ha' : a < 2 ^ 40) (hb : -(2 ^ 40) < b) (hb' : b < 2 ^ 40) (hs : Builtin.Range.rangeSize a b c ≤ 1000) : Builtin.Range.small a b c = true := by
  have h0 := range_nn (a := a) (b := b) hc
  have hm : Builtin.Range.rangeSize a b c * c ≤ 1000 * 1073741824 := by
    have h1 : Builtin.Range.rangeSize a b c * c ≤ 1000 * c := Int.mul_le_mul_of_nonneg_right hs (by omega)
    omega
  have hm0 : 0 ≤ Builtin.Range.rangeSize a b c * c := Int.mul_nonneg h0 (by omega)
  unfold Builtin.Range.small Builtin.Range.rangeFitsLong
  rw [if_pos hc]
  simp only [Bool.and_eq_true, Bool.or_eq_true, decide_eq_true_eq, beq_iff_eq]
  generalize Builtin.Range.rangeSize a b c = n at *
  refine ⟨⟨⟨⟨by omega, by omega⟩, by omega, by omega⟩, by omega, by omega⟩, .inr ⟨by omega, by omega⟩⟩
theorem ed_tupRg {x y z : Expr} {p p2 pos2 : Pos} (hc : X.calm = true) (g1 : Gl X "tuple") (m1 : X.mg "tuple" = none) (g2 : Gl X "range") (m2 : X.mg "range" = none) (ha : EA X P E [x, y, z] A)
    (h1 : starEach [x, y, z] X.env = (false, eval x X.env) :: starEach [y, z] X.env := by rfl) (h2 : (backTo pos2 (starEach [y, z] X.env)).any (·.1) = false := by rfl)
    (h3 : starEach [.Call (.Name "range" p2) [x, y, z] [] pos2] X.env = (false, eval (.Call (.Name "range" p2) [x, y, z] [] pos2) X.env) :: starEach [] X.env := by rfl) :
    ED X P E (.Call (.Name "tuple" p) [.Call (.Name "range" p2) [x, y, z] [] pos2] [] pos) (fA cTupRg A) := by
  refine ⟨fun pins s σ H Q I h => ?_⟩
  have h' : (tDA X.K P E A) σ H fun xs H1 => ∃ a b c : Int, xs = [V.int a, V.int b, V.int c] ∧ (0 < c ∧ c < 1073741824 ∧ -(2 ^ 40) < a ∧ a < 2 ^ 40 ∧ -(2 ^ 40) < b ∧ b < 2 ^ 40 ∧ Builtin.Range.rangeSize a b c ≤ 1000) ∧
      ∀ q, H1 q = none → Q (.ref q) (upd H1 q (.tup (rng3 a b c (Builtin.Range.rangeSize a b c).toNat))) := by
    refine ed_tA (f := cTupRg) (r := fun xs H1 Q => ∃ a b c : Int, xs = [V.int a, V.int b, V.int c] ∧ (0 < c ∧ c < 1073741824 ∧ -(2 ^ 40) < a ∧ a < 2 ^ 40 ∧ -(2 ^ 40) < b ∧ b < 2 ^ 40 ∧ Builtin.Range.rangeSize a b c ≤ 1000) ∧
      ∀ q, H1 q = none → Q (.ref q) (upd H1 q (.tup (rng3 a b c (Builtin.Range.rangeSize a b c).toNat)))) (fun β bx H xs ds z Q g r h k => ?_) σ H Q h
    unfold cTupRg at h
    split at h
    · rename_i a b c
      split at h
      · rename_i hb
        cases h
        obtain ⟨u, v, w, rfl, r1, r2, r3⟩ := ra_three r
        refine ⟨a, b, c, by rw [r1.int_inv, r2.int_inv, r3.int_inv], hb, fun q hq => k _ _ (.new hq) (g.new hq) (.tup ⟨.inl upd_same, g.ne hq⟩ ?_)⟩
        exact RA.rng (fun i => a + (i : Nat) * c) _
      · cases h
    · cases h
  refine Call_ (ld_blt I g1 m1 boot_tuple (PyProof.Rows.callWith_type1 (args_cons (thn (?_ : wpAny (model X.prog X.w) X.A (eval (.Call (.Name "range" p2) [x, y, z] [] pos2) X.env) (fun x s' => ∃ (r : Addr) (a b c : Int) (t u v : Tok) (H' : Hp), x = .ref r ∧ IsRange s'.heap r a b c t u v ∧ Inv X pins σ H' s' ∧
      (0 < c ∧ c < 1073741824 ∧ -(2 ^ 40) < a ∧ a < 2 ^ 40 ∧ -(2 ^ 40) < b ∧ b < 2 ^ 40 ∧ Builtin.Range.rangeSize a b c ≤ 1000) ∧ ∀ q, H' q = none → Q (.ref q) (upd H' q (.tup (rng3 a b c (Builtin.Range.rangeSize a b c).toNat)))) X.xe s) fun x s1 ⟨r, a, b, c, t, u, v, H1, ex, hr, I1, ok, q⟩ => args_nil ?_) h3) h3))
  · refine wpAny_Call_Name_kw (ld_blt I g2 m2 boot_range ?_)
    refine PyProof.Rows.callWith_type1 (thn (ha.run pos2 pins s σ H _ I h') fun us s1 ⟨vs, H1, I1, r1, a, b, c, ev, ok, q⟩ => ?_) h1 h2
    subst ev
    cases r1 with
    | cons ra rr =>
      cases rr with
      | cons rb rr =>
        cases rr with
        | cons rc rr =>
          cases rr
          obtain ⟨t, rfl⟩ := ra
          obtain ⟨u, rfl⟩ := rb
          obtain ⟨v, rfl⟩ := rc
          refine call_range_3 (by omega) ?_ (.inl (PyProof.noPylong_small (by omega)))
          exact ⟨_, a, b, c, t, u, v, H1, rfl, IsRange.new _ _ _ _ _ _ _, I1.kept fun b u e => Heap.get?_push_of_some _ e, ok, q⟩
  · subst ex
    obtain ⟨b1, b2, b3, b4, b5, b6, b7⟩ := ok
    have nn := range_nn (a := a) (b := b) b1
    refine call_tuple_range (n := (Builtin.Range.rangeSize a b c).toNat) (I1.ok.hd hc) hr (small3 b1 b2 b3 b4 b5 b6 b7) (by omega) (by omega) fun h' tk acc hk hi => ?_
    have I2 : Inv X pins σ H1 { s1 with heap := h', toks := tk } := I1.kept hk
    have hv : Vals (rng3 a b c (Builtin.Range.rangeSize a b c).toNat) acc.toList := by
      have e : acc.toList.length = (Builtin.Range.rangeSize a b c).toNat := by
        rw [Array.length_toList]
        exact hi.1
      unfold rng3
      rw [← e]
      exact vals_of_get acc.toList _ fun j u hj => hi.2 j u (by rw [← hj, Array.getElem?_toList])
    refine ⟨.ref h'.objs.size, upd H1 h'.objs.size (.tup (rng3 a b c (Builtin.Range.rangeSize a b c).toNat)), I2.laid (t' := tk) (fun c o e => Heap.get?_push_of_some _ e) (Nat.le_refl _) ?_, rfl, q _ (I2.hok.fresh (Nat.le_refl _))⟩
    refine ⟨?_, acc.toList, hv, ?_⟩
    · unfold rng3
      rw [List.length_map, List.length_range]
      exact le1000 (by omega)
    · rw [Array.toArray_toList]
      exact IsTup.new _ _
end
end Ms

end
section
set_option Elab.async false
set_option linter.all false
set_option maxRecDepth 100000
set_option maxHeartbeats 4000000
namespace Ms
open PySem PySem.Spec PyProof.Rows L2
/-! ### defs by their functions on data -/
def spD (K : PySem.W.Frag) (P : Pm) (n : Nat) (f : List D → Sto → Res D) : Sp := fun vs H Q E => ∃ β ds bx, vs.length = n ∧ RA K β H vs ds ∧ Good K P.T β bx H ∧ Out K P β H (f ds bx) Q E
theorem spD_len {K : PySem.W.Frag} {P : Pm} {n : Nat} {f : List D → Sto → Res D} : ∀ vs H Q E, spD K P n f vs H Q E → vs.length = n := fun _ _ _ _ ⟨_, _, _, h, _⟩ => h
theorem OutX.out {K : PySem.W.Frag} {P : Pm} {β : Mu} {H : Hp} {r : Res D} {Q : VK} {E : XK} (o : OutX P K β H r E fun d β' _ H' => ∀ v, R K β' H' v d → Q v H') : Out K P β H r Q E := by
  cases r with
  | ok d bx => exact fun β' v H' l g r => o β' H' l g v r
  | err c d bx => exact o
  | bad => exact o
def fCall (g : List D → Sto → Res D) (A : Fn (List D)) : Fn D := bnd A fun ds => fun _ bx => g ds bx
section
variable {X : Cx} {P : Pm} {E : XK} {pos : Pos} {a b : Expr} {F G : Fn D} {es : List Expr} {A : Fn (List D)}
variable {CX : CXT} {k n : Nat} {f : Addr} {fd : FuncData} {ps : List Str} {g : List D → Sto → Res D} {x : Str} {p : Pos} {e : Expr}
theorem ed_call (F : FnOk X.prog X.w X.K X.mg X.base CX k f fd ps (spD X.K P n g)) (hr : Room k X.A) (hg : Gl X x) (hm : X.mg x = some (.ref f)) (hk : PySem.W.keepIn X.K (.ref f) = true) (hb : Binds X.K fd ps []) (hx : Passes CX X E) (hn : (e :: es).length = n)
    (ha : EA X P E (e :: es) A) (hdb : (x == ("__debug__" : Str)) = false := by decide) (he : starEach (e :: es) X.env = (false, eval e X.env) :: starEach es X.env := by rfl) (hpl : (backTo pos (starEach es X.env)).any (·.1) = false := by rfl)
    (hA : ∀ δ bx ds bx', A δ bx = .ok ds bx' → ds.length = n) :
    ED X P E (.Call (.Name x p) (e :: es) [] pos) (fCall g A) := by
  refine pe_imp (pe_call F hr hg hm hk hb .nil hx ha hdb he hpl) ?_
  rintro σ H Q ⟨β, δ, bx, ev, gd, o⟩
  have o2 := x_bind o.x
  refine ⟨β, δ, bx, ev, gd, ?_⟩
  cases hF : A δ bx with
  | ok ds bx' =>
    rw [hF] at o2
    refine fun β' vs H' l g' r => ?_
    show spD X.K P n g (vs ++ []) H' Q E
    rw [List.append_nil]
    exact ⟨β', ds, bx', by rw [r.length]; exact hA _ _ _ _ hF, r, g', (o2 β' H' l g' l).out⟩
  | err c d bx' =>
    rw [hF] at o2
    exact o2
  | bad =>
    rw [hF] at o2
    exact o2
theorem bnd_ok {α γ : Type} {F : Fn α} {G : α → Fn γ} {δ : List (Option D)} {bx bx' : Sto} {a : α} (h : F δ bx = .ok a bx') : bnd F G δ bx = G a δ bx' := by unfold bnd; rw [h]
theorem bnd_err {α γ : Type} {F : Fn α} {G : α → Fn γ} {δ : List (Option D)} {bx bx' : Sto} {c : Str} {d : D} (h : F δ bx = .err c d bx') : bnd F G δ bx = .err c d bx' := by unfold bnd; rw [h]
theorem bnd_bad {α γ : Type} {F : Fn α} {G : α → Fn γ} {δ : List (Option D)} {bx : Sto} (h : F δ bx = .bad) : bnd F G δ bx = .bad := by unfold bnd; rw [h]
/-- how long a list of arguments is -/
theorem len_nil {δ bx ds bx'} (h : (pur [] : Fn (List D)) δ bx = .ok ds bx') : ds.length = 0 := by
  cases h
  rfl
theorem len_cons {F : Fn D} {A : Fn (List D)} {n : Nat} (hA : ∀ δ bx ds bx', A δ bx = .ok ds bx' → ds.length = n) : ∀ δ bx ds bx', fCons F A δ bx = .ok ds bx' → ds.length = n + 1 := by
  intro δ bx ds bx' h
  unfold fCons at h
  cases hF : F δ bx with
  | ok d bx1 =>
    rw [bnd_ok hF] at h
    cases h2 : A δ bx1 with
    | ok ds2 bx2 =>
      rw [bnd_ok h2] at h
      have := hA _ _ _ _ h2
      cases h
      rw [List.length_cons, this]
    | err c e bx2 => rw [bnd_err h2] at h; cases h
    | bad => rw [bnd_bad h2] at h; cases h
  | err c e bx1 => rw [bnd_err hF] at h; cases h
  | bad => rw [bnd_bad hF] at h; cases h
/-- keywords -/
abbrev EK (X : Cx) (P : Pm) (E : XK) (kws : List Keyword) (A : Fn (List D)) : Prop := PK X kws (tDA X.K P E A)
theorem pk_imp {kws : List Keyword} {t t' : TA} (h : PK X kws t) (k : ∀ σ H Q, t' σ H Q → t σ H Q) : PK X kws t' := ⟨fun pos pins s σ H Q I q => h.run pos pins s σ H Q I (k σ H Q q)⟩
variable {kws : List Keyword}
theorem ek_nil : EK X P E [] (pur []) := pk_imp pk_nil fun _ H _ ⟨β, _, _, _, g, o⟩ => o _ [] H .refl g .nil
theorem ek_cons {nm : Option Str} {kpos : Pos} (ha : ED X P E a F) (hr : EK X P E kws A) : EK X P E (⟨nm, a, kpos⟩ :: kws) (fCons F A) := by
  refine pk_imp (pk_cons ha hr) ?_
  rintro σ H Q ⟨β, δ, bx, ev, g, o⟩
  exact d_bind ev g o.x fun β1 bx1 x d H1 l1 g1 r1 o1 => a_bind (ev.le l1) g1 o1 fun β2 bx2 y e H2 l2 g2 r2 o2 => o2 _ H2 .refl g2 _ (.cons (r1.le l2) r2)
def pick {α : Type} (z : α) (π : List Nat) (l : List α) : List α := π.map fun i => l.getD i z
theorem vals_getD : ∀ {vs : List V} {us : List Value} (i : Nat), Vals vs us → L2.RelV (vs.getD i .non) (us.getD i .none)
  | _, _, i, .nil => by simp [L2.RelV]
  | _, _, 0, .cons r _ => by simpa using r
  | _, _, i + 1, .cons _ t => by simpa using vals_getD i t
theorem ra_getD {K : PySem.W.Frag} {β : Mu} {H : Hp} : ∀ {vs : List V} {ds : List D} (i : Nat), RA K β H vs ds → R K β H (vs.getD i .non) (ds.getD i .non)
  | _, _, i, .nil => by simpa using R.non
  | _, _, 0, .cons r _ => by simpa using r
  | _, _, i + 1, .cons _ t => by simpa using ra_getD i t
theorem vals_pick {vs : List V} {us : List Value} (r : Vals vs us) : ∀ π : List Nat, Vals (pick .non π vs) (pick .none π us)
  | [] => .nil
  | i :: π => .cons (vals_getD i r) (vals_pick r π)
theorem ra_pick {K : PySem.W.Frag} {β : Mu} {H : Hp} {vs : List V} {ds : List D} (r : RA K β H vs ds) : ∀ π : List Nat, RA K β H (pick .non π vs) (pick .non π ds)
  | [] => .nil
  | i :: π => .cons (ra_getD i r) (ra_pick r π)
def fCallK (g : List D → Sto → Res D) (π : List Nat) (A : Fn (List D)) : Fn D := bnd A fun ds => fun _ bx => g (pick .non π ds) bx
theorem ed_callK {ks : List Str} (π : List Nat) (F : FnOk X.prog X.w X.K X.mg X.base CX k f fd ps (spD X.K P n g)) (hr : Room k X.A) (hg : Gl X x) (hm : X.mg x = some (.ref f)) (hk : PySem.W.keepIn X.K (.ref f) = true)
    (hb : ∀ (s : Shared) (ws : List Value), X.K.In s.heap → ws.length = ks.length → BindsTo s fd ⟨[], ks.zip ws⟩ (ps.zip (pick .none π ws))) (hx : Passes CX X E) (hp : π.length = n) (hpn : ps.length = n)
    (ha : EK X P E kws A) (hA : ∀ δ bx ds bx', A δ bx = .ok ds bx' → ds.length = ks.length) (hall : (backToKw pos (keywordEach kws X.env)).all (·.1.isSome) = true := by rfl) (hks : (backToKw pos (keywordEach kws X.env)).filterMap (·.1) = ks := by rfl) (hdb : (x == ("__debug__" : Str)) = false := by decide)
    (hpl : ((backTo pos (starEach [] X.env)).any (·.1) || (backToKw pos (keywordEach kws X.env)).any (·.1.isNone)) = false := by rfl) :
    ED X P E (.Call (.Name x p) [] kws pos) (fCallK g π A) := by
  refine ⟨fun pins s σ H Q I h => ?_⟩
  obtain ⟨β, δ, bx, ev, gd, o⟩ := h
  have o2 := x_bind o.x
  have h' : (tDA X.K P E A) σ H fun zs H1 => ∃ β ds bx, zs.length = ks.length ∧ RA X.K β H1 zs ds ∧ Good X.K P.T β bx H1 ∧ Out X.K P β H1 (g (pick .non π ds) bx) Q E := by
    refine ⟨β, δ, bx, ev, gd, ?_⟩
    cases hF : A δ bx with
    | ok ds bx' =>
      rw [hF] at o2
      exact fun β' vs H' l g' r => ⟨β', ds, bx', by rw [r.length]; exact hA _ _ _ _ hF, r, g', (o2 β' H' l g' l).out⟩
    | err c d bx' =>
      rw [hF] at o2
      exact o2
    | bad =>
      rw [hF] at o2
      exact o2
  refine wpAny_Call_Name_kw (ld_glob I hg hm ?_ hdb)
  refine PySem.W.callWith_KW0 (h₀ := X.base) I.ok.mod.kin hk hall ?_ hpl
  refine thn (ha.run pos pins s σ H _ I h') fun ws s2 ⟨zs, H2, I2, rz, β2, ds, bx2, hl, ra, g2, o3⟩ => ⟨I2.kIn, ?_⟩
  rw [hks]
  have hl2 : ws.length = ks.length := by rw [← rz.length]; exact hl
  refine wpAny_call (codeAny_mono (F.run X.A X.stack s2 H2 ⟨[] ++ [], ks.zip ws⟩ (pick .none π ws) (pick .non π zs) Q E hr I2.env0 (hb s2 ws I2.kIn hl2) (vals_pick rz π) ⟨β2, pick .non π ds, bx2, by unfold pick; rw [List.length_map]; exact hp, ra_pick ra π, g2, o3⟩) fun r s' hq => ?_)
  cases r with
  | error e => exact hx pins σ H2 s2 e s' I2 hq
  | ok fl =>
    cases fl with
    | ret u => exact I2.after hq
    | next => exact False.elim hq
    | brk => exact False.elim hq
    | cont => exact False.elim hq
end

/-! ### statements -/
inductive Rs where
  | nx (δ : List (Option D)) (bx : Sto) | rt (d : D) (bx : Sto) | er (c : Str) (d : D) (bx : Sto) | bad
abbrev Sn := List (Option D) → Sto → Rs
def OutS (K : PySem.W.Frag) (P : Pm) (β : Mu) (H : Hp) (r : Rs) (Z : Ends) (E : XK) : Prop := match r with
  | .nx δ bx => ∀ β' σ' H', Le β H β' H' → Good K P.T β' bx H' → Ev K β' H' σ' δ → Z.nx σ' H'
  | .rt d bx => ∀ β' v H', Le β H β' H' → Good K P.T β' bx H' → R K β' H' v d → Z.rt v H'
  | .er c d bx => OutE K P β H c d bx E
  | .bad => False
theorem OutS.le {K : PySem.W.Frag} {P : Pm} {β β1 : Mu} {H H1 : Hp} {r : Rs} {Z : Ends} {E : XK} (l : Le β H β1 H1) (h : OutS K P β H r Z E) : OutS K P β1 H1 r Z E := by
  cases r with
  | nx δ bx => exact fun β' σ H' l' g r => h β' σ H' (l.trans l') g r
  | rt d bx => exact fun β' v H' l' g r => h β' v H' (l.trans l') g r
  | er c d bx => exact OutE.le l h
  | bad => exact h
def tDS (K : PySem.W.Frag) (P : Pm) (E : XK) (S : Sn) : TS := fun Z σ H => ∃ β δ bx, Ev K β H σ δ ∧ Good K P.T β bx H ∧ OutS K P β H (S δ bx) Z E
abbrev SD (X : Cx) (P : Pm) (E : XK) (s : Stmt) (S : Sn) : Prop := PS X s (tDS X.K P E S)
abbrev SSD (X : Cx) (P : Pm) (E : XK) (s : List Stmt) (S : Sn) : Prop := PSs X s (tDS X.K P E S)
/-- from an expression's end to a statement -/
def sOf {α : Type} (F : Fn α) (k : α → Sn) : Sn := fun δ bx => match F δ bx with
  | .ok a bx' => k a δ bx'
  | .err c d bx' => .er c d bx'
  | .bad => .bad
section
variable {K : PySem.W.Frag} {P : Pm} {E : XK} {β : Mu} {δ : List (Option D)} {bx : Sto} {σ : L2.St} {H : Hp} {Z : Ends}
theorem sd_bind {F : Fn D} {k : D → Sn} {Q1 : VK} (ev : Ev K β H σ δ) (g : Good K P.T β bx H) (o : OutS K P β H (sOf F k δ bx) Z E)
    (h : ∀ β1 bx' x d H1, Le β H β1 H1 → Good K P.T β1 bx' H1 → R K β1 H1 x d → OutS K P β1 H1 (k d δ bx') Z E → Q1 x H1) : tD K P E F σ H Q1 := by
  refine ⟨β, δ, bx, ev, g, ?_⟩
  unfold sOf at o
  cases hF : F δ bx with
  | ok d bx' =>
    rw [hF] at o
    exact fun β' v H' l g' r => h β' bx' v d H' l g' r (OutS.le l o)
  | err c d bx' =>
    rw [hF] at o
    exact o
  | bad =>
    rw [hF] at o
    exact o
theorem sa_bind {F : Fn (List D)} {k : List D → Sn} {Q1 : List V → Hp → Prop} (ev : Ev K β H σ δ) (g : Good K P.T β bx H) (o : OutS K P β H (sOf F k δ bx) Z E)
    (h : ∀ β1 bx' x d H1, Le β H β1 H1 → Good K P.T β1 bx' H1 → RA K β1 H1 x d → OutS K P β1 H1 (k d δ bx') Z E → Q1 x H1) : tDA K P E F σ H Q1 := by
  refine ⟨β, δ, bx, ev, g, ?_⟩
  unfold sOf at o
  cases hF : F δ bx with
  | ok d bx' =>
    rw [hF] at o
    exact fun β' v H' l g' r => h β' bx' v d H' l g' r (OutS.le l o)
  | err c d bx' =>
    rw [hF] at o
    exact o
  | bad =>
    rw [hF] at o
    exact o
theorem st_bind {F : Fn Bool} {k : Bool → Sn} {Q1 : Bool → Hp → Prop} (ev : Ev K β H σ δ) (g : Good K P.T β bx H) (o : OutS K P β H (sOf F k δ bx) Z E)
    (h : ∀ β1 bx' c H1, Le β H β1 H1 → Good K P.T β1 bx' H1 → OutS K P β1 H1 (k c δ bx') Z E → Q1 c H1) : tDT K P E F σ H Q1 := by
  refine ⟨β, δ, bx, ev, g, ?_⟩
  unfold sOf at o
  cases hF : F δ bx with
  | ok d bx' =>
    rw [hF] at o
    exact fun β' H' l g' => h β' bx' d H' l g' (OutS.le l o)
  | err c d bx' =>
    rw [hF] at o
    exact o
  | bad =>
    rw [hF] at o
    exact o
end
def sNext : Sn := fun δ bx => .nx δ bx
def sSeq (S T : Sn) : Sn := fun δ bx => match S δ bx with
  | .nx δ' bx' => T δ' bx'
  | .rt d bx' => .rt d bx'
  | .er c d bx' => .er c d bx'
  | .bad => .bad
def sSet (i : Nat) (F : Fn D) : Sn := sOf F fun d δ bx => .nx (δ.set i (some d)) bx
def sRet (F : Fn D) : Sn := sOf F fun d _ bx => .rt d bx
def sDrop (F : Fn D) : Sn := sOf F fun _ δ bx => .nx δ bx
def sIf (C : Fn Bool) (S T : Sn) : Sn := sOf C fun c => if c = true then S else T
def setAll : List Nat → List D → List (Option D) → Option (List (Option D))
  | [], [], δ => some δ
  | i :: is, d :: ds, δ => setAll is ds (δ.set i (some d))
  | _, _, _ => none
def sUnp (is : List Nat) (F : Fn D) : Sn := sOf F fun d δ bx => match (vs bx d).bind fun l => setAll is l δ with
  | some δ' => .nx δ' bx
  | none => .bad
def sPar (i j : Nat) (A : Fn (List D)) : Sn := sOf A fun ds δ bx => match ds with
  | [d, e] => .nx ((δ.set i (some d)).set j (some e)) bx
  | _ => .bad
section
variable {X : Cx} {P : Pm} {E : XK} {pos : Pos} {a b e : Expr} {F G : Fn D} {es : List Expr} {A : Fn (List D)} {C : Fn Bool} {S T : Sn} {st : Stmt} {ss tt : List Stmt}
theorem ssd_nil : SSD X P E [] sNext := pss_imp pss_nil fun Z σ H ⟨β, δ, bx, ev, g, o⟩ => o _ σ H .refl g ev
theorem ssd_cons (h1 : SD X P E st S) (h2 : SSD X P E ss T) : SSD X P E (st :: ss) (sSeq S T) := by
  refine pss_imp (pss_cons h1 h2) ?_
  rintro Z σ H ⟨β, δ, bx, ev, g, o⟩
  refine ⟨β, δ, bx, ev, g, ?_⟩
  unfold sSeq at o
  cases hF : S δ bx with
  | nx δ' bx' =>
    rw [hF] at o
    exact fun β' σ' H' l g' ev' => ⟨β', δ', bx', ev', g', OutS.le l o⟩
  | rt d bx' =>
    rw [hF] at o
    exact o
  | er c d bx' =>
    rw [hF] at o
    exact o
  | bad =>
    rw [hF] at o
    exact o
theorem ssd_one (h1 : SD X P E st S) : SSD X P E [st] (sSeq S sNext) := ssd_cons h1 ssd_nil
theorem sd_set (i : Nat) {x : Str} {p : Pos} (hN : X.N.Nodup) (hi : X.N[i]? = some x) (hx : Loc X.env.scope x) (he : ED X P E e F) (hs : swapsWith e (some (.Name x p)) pos.line X.env = pure false := by rfl) (hf : X.fn x = true ∨ X.env.scope.names.lookup x = some .local := by first | exact .inl rfl | exact .inr rfl | assumption) :
    SD X P E (.Assign [.Name x p] e pos) (sSet i F) := by
  refine ps_imp (ps_set hN hi hx he hs hf) ?_
  rintro Z σ H ⟨β, δ, bx, ev, g, o⟩
  exact sd_bind ev g o fun β1 bx' x d H1 l1 g1 r1 o1 => o1 _ _ H1 .refl g1 ((ev.le l1).set i r1)
theorem sd_ret (he : ED X P E e F) : SD X P E (.Return (some e) pos) (sRet F) := by
  refine ps_imp (ps_ret he) ?_
  rintro Z σ H ⟨β, δ, bx, ev, g, o⟩
  exact sd_bind ev g o fun β1 bx' x d H1 l1 g1 r1 o1 => o1 _ _ H1 .refl g1 r1
theorem sd_if {c : Expr} (hc : ET X P E c C) (h1 : SSD X P E ss S) (h2 : SSD X P E tt T) : SD X P E (.If c ss tt pos) (sIf C S T) := by
  refine ps_imp (ps_if hc h1 h2) ?_
  rintro Z σ H ⟨β, δ, bx, ev, g, o⟩
  refine st_bind ev g o fun β1 bx' c H1 l1 g1 o1 => ?_
  cases c with
  | true => exact iteT ⟨β1, δ, bx', ev.le l1, g1, by simpa using o1⟩
  | false => exact iteF ⟨β1, δ, bx', ev.le l1, g1, by simpa using o1⟩
theorem sd_par (i j : Nat) {x y : Str} {px py pt : Pos} {kt k2 pt2} (hc : X.calm = true) (hN : X.N.Nodup) (hi : X.N[i]? = some x) (hj : X.N[j]? = some y) (hij : i ≠ j)
    (hx : X.env.scope.names.lookup x = some .local) (hy : X.env.scope.names.lookup y = some .local) (ha : EA X P E [a, b] A)
    (hw : swappedStores [.Tuple [.Name x px, .Name y py] kt pt] (.Tuple [a, b] k2 pt2) X.env = pure (some [x, y]))
    (hs : swapsWithSole [.Tuple [.Name x px, .Name y py] kt pt] (.Tuple [a, b] k2 pt2) pos.line X.env = pure false := by rfl) :
    SD X P E (.Assign [.Tuple [.Name x px, .Name y py] kt pt] (.Tuple [a, b] k2 pt2) pos) (sPar i j A) := by
  refine ps_imp (ps_par hc hN hi hj hij hx hy ha hw hs) ?_
  rintro Z σ H ⟨β, δ, bx, ev, g, o⟩
  refine sa_bind ev g o fun β1 bx' x ds H1 l1 g1 r1 o1 => ?_
  split at o1
  · obtain ⟨v, w, rfl, h1, h2⟩ := r1.two
    exact ⟨v, w, rfl, o1 _ _ H1 .refl g1 (((ev.le l1).set i h1).set j h2)⟩
  · exact o1.elim
/-- names one behind another -/
def tNames : List Nat → TGs
  | [] => gNil
  | i :: is => gCons (gName i) (tNames is)
theorem tNames_of {K : PySem.W.Frag} {β : Mu} {H : Hp} {Z : L2.St → Hp → Prop} : ∀ {is : List Nat} {ds : List D} {δ δ' : List (Option D)} {vs : List V} {σ : L2.St}, setAll is ds δ = some δ' → RA K β H vs ds → Ev K β H σ δ → (∀ σ', Ev K β H σ' δ' → Z σ' H) → tNames is vs σ H Z
  | [], [], δ, δ', vs, σ, h, r, ev, k => by
    cases r
    cases h
    exact ⟨rfl, k σ ev⟩
  | [], _ :: _, _, _, _, _, h, _, _, _ => by cases h
  | _ :: _, [], _, _, _, _, h, _, _, _ => by cases h
  | i :: is, d :: ds, δ, δ', _, σ, h, .cons (v := v) (vs := vs) r ra, ev, k => ⟨v, vs, rfl, tNames_of (is := is) h ra (ev.set i r) k⟩
theorem setAll_len : ∀ {is : List Nat} {ds : List D} {δ δ' : List (Option D)}, setAll is ds δ = some δ' → ds.length = is.length
  | [], [], _, _, _ => rfl
  | [], _ :: _, _, _, h => by cases h
  | _ :: _, [], _, _, h => by cases h
  | i :: is, d :: ds, δ, δ', h => by
    rw [List.length_cons, List.length_cons, setAll_len (is := is) h]
theorem pg_or {tg : Expr} {t u : TG} (h1 : PG X tg t) (h2 : PG X tg u) : PG X tg (fun v σ H Q => t v σ H Q ∨ u v σ H Q) :=
  ⟨fun pins s σ H v w Q I r h => h.elim (fun h => h1.run pins s σ H v w Q I r h) (fun h => h2.run pins s σ H v w Q I r h)⟩
theorem sd_unp (is : List Nat) {kk : Nat} {p : Pos} {tgs : List Expr} (hc : X.calm = true) (ht : PGs X tgs (tNames is)) (hl : is.length = tgs.length) (he : ED X P E e F)
    (hn : (assignEach tgs X.env).length = is.length := by rfl) (hst : (assignEach tgs X.env).findIdx? (·.1) = none := by rfl)
    (hs : swapsWithSole [.Tuple tgs kk p] e pos.line X.env = pure false := by rfl) (hw : swappedStores [.Tuple tgs kk p] e X.env = pure none := by rfl) (h1 : (assignEach [.Tuple tgs kk p] X.env).map (·.2) = [assign (.Tuple tgs kk p) X.env] := by rfl) :
    SD X P E (.Assign [.Tuple tgs kk p] e pos) (sUnp is F) := by
  refine ps_imp (ps_asg he (pg_or (pg_tup hc ht hn hst) (pg_lst hc ht hn hst)) hs hw h1) ?_
  rintro Z σ H ⟨β, δ, bx, ev, g, o⟩
  refine sd_bind ev g o fun β1 bx' x d H1 l1 g1 r1 o1 => ?_
  split at o1
  · rename_i δ' hδ
    cases hl : vs bx' d with
    | none => rw [hl] at hδ; cases hδ
    | some l =>
      rw [hl] at hδ
      replace hδ : setAll is l δ = some δ' := hδ
      obtain ⟨a, xs, rfl, s, ra⟩ := r1.vs g1 hl
      rcases s with s | s
      · exact .inr ⟨_, _, rfl, s, by rw [ra.length]; exact setAll_len hδ, tNames_of hδ ra (ev.le l1) fun σ' ev' => o1 _ σ' H1 .refl g1 ev'⟩
      · exact .inl ⟨_, _, rfl, s, by rw [ra.length]; exact setAll_len hδ, tNames_of hδ ra (ev.le l1) fun σ' ev' => o1 _ σ' H1 .refl g1 ev'⟩
  · exact o1.elim
end

/-! ### a def of the text keeps the promise -/
def fnD (N : List Str) (S : Sn) : List D → Sto → Res D := fun ds bx => match S (ds.map some ++ List.replicate (N.length - ds.length) none) bx with
  | .nx _ bx' => .ok .non bx'
  | .rt d bx' => .ok d bx'
  | .er c d bx' => .err c d bx'
  | .bad => .bad
def noErr : Res D → Res D
  | .ok d bx => .ok d bx
  | _ => .bad
theorem ev_start {K : PySem.W.Frag} {β : Mu} {H : Hp} {N : List Str} {vs : List V} {ds : List D} (r : RA K β H vs ds) : Ev K β H (L2.start N vs) (ds.map some ++ List.replicate (N.length - ds.length) none) := by
  refine ⟨by unfold L2.start; rw [r.length]; simp [r.length], fun i d h => ?_⟩
  by_cases hi : i < ds.length
  · rw [List.getElem?_append_left (by simpa using hi), List.getElem?_map] at h
    cases hd : ds[i]? with
    | none => rw [hd] at h; cases h
    | some d' =>
      rw [hd] at h
      cases h
      obtain ⟨v, h1, h2⟩ := r.get hd
      refine ⟨v, ?_, h2⟩
      unfold L2.start
      rw [List.getElem?_append_left (by rw [List.length_map, r.length]; exact hi), List.getElem?_map, h1]
      rfl
  · rw [List.getElem?_append_right (by simpa using hi)] at h
    have := List.mem_of_getElem? h
    rw [List.mem_replicate] at this
    cases this.2
theorem fn_end {K : PySem.W.Frag} {P : Pm} {N : List Str} {S : Sn} {vs : List V} {H : Hp} {Q : VK} {E : XK} {n : Nat} (h : spD K P n (fnD N S) vs H Q E) : tDS K P E S { nx := fun _ H' => Q .non H', rt := Q } (L2.start N vs) H := by
  obtain ⟨β, ds, bx, hl, r, g, o⟩ := h
  refine ⟨β, _, bx, ev_start r, g, ?_⟩
  unfold fnD at o
  cases hS : S (ds.map some ++ List.replicate (N.length - ds.length) none) bx with
  | nx δ bx' =>
    rw [hS] at o
    exact fun β' σ' H' l g' ev => o _ .non H' l g' .non
  | rt d bx' =>
    rw [hS] at o
    exact o
  | er d bx' =>
    rw [hS] at o
    exact o
  | bad =>
    rw [hS] at o
    exact o
section
variable {Pg : Program} {w : World} {K : PySem.W.Frag} {mg : Str → Option Value} {base : Heap} {P : Pm}
/-- a def that raises nothing -/
theorem fn_ok {x qual : Str} {st : Stmt} {f : Addr} {fd : FuncData} {N ps : List Str} {k n : Nat} {S : Sn} (F : Fun K x qual st f fd) (sc : FnScope N ps (defScope st)) (hn : ps.length = n)
    (hb : ∀ (cdv : Value) (A : Around) (outer : List Env) (s : Shared) (H : Hp), Room k (A.deeper (envOfC qual (defScope st) s.heap.objs.size f cdv)) →
      SSD (cxOf CX0 Pg w K mg base N qual (defScope st) f cdv A outer s H E0).nox P E0 (defBody st) S) : FnOk Pg w K mg base CX0 (k + 1) f fd ps (spD K P n fun ds bx => noErr (fnD N S ds bx)) := by
  refine F.ok sc (fun vs H Q E h => (spD_len _ _ _ _ h).trans hn.symm) fun cdv A outer s H vs Q E hr h => ?_
  have hs : spD K P n (fnD N S) vs H Q E0 := by
    obtain ⟨β, ds, bx, h1, h2, h3, o⟩ := h
    refine ⟨β, ds, bx, h1, h2, h3, ?_⟩
    replace o : Out K P β H (noErr (fnD N S ds bx)) Q E := o
    cases hF : fnD N S ds bx with
    | ok d bx' =>
      rw [hF] at o
      exact o
    | err c d bx' =>
      rw [hF] at o
      exact o.elim
    | bad =>
      rw [hF] at o
      exact o
  exact ⟨tDS K P E0 S, (hb cdv A outer s H hr), fn_end hs⟩
end
end Ms

end
section
set_option Elab.async false
set_option linter.all false
set_option maxRecDepth 100000
set_option maxHeartbeats 4000000
namespace PySem
namespace RefX
open PySem.W PySem.Calls PyProof.Rows PySem.HandSPX
/-! ### the text of __init__ -/
def iA (p1 p2 : Pos) : Arguments := { posonlyargs := [], args := [{ arg := "self", annotation := none, pos := p1 }, { arg := "at", annotation := none, pos := p2 }], vararg := none, kwonlyargs := [], kw_defaults := [], kwarg := none, defaults := [] }
def iB (q1 q2 q3 q4 : Pos) : List Stmt := [.Assign [.Attribute (.Name "self" q1) "at" q2] (.Name "at" q3) q4]
def iS : Scope := { kind := .function, names := [(PySem.Str.ofString "self", .local), (PySem.Str.ofString "at", .local)], isGenerator := false, isCoroutine := false, more := [] }
/-- what the written part says of Low, at C, and of its __init__, at fI -/
structure LowTxt (cn qn : Str) (K : Frag) (mg : Str → Option Value) (C fI : Addr) : Prop where
  gC : mg cn = some (.ref C)
  cls : ∃ nm q N bs bm sn sub ab col dd k0 k1 k2 k3 k5, K.lookup C = some (excClassObj nm q C N bs bm true sn sub ab col dd k0 k1 k2 k3 k5 "ValueError.__new__") ∧ refsVE bm = true
  sa : findIn K (.ref C) "__setattr__" = some (some (.builtin "object.__setattr__"))
  ga : findIn K (.ref C) "__getattribute__" = some (some (.builtin "BaseException.__getattribute__"))
  gg : findIn K (.ref C) "__getattr__" = some none
  noN : findIn K (.ref C) "at" = some none
  iC : findIn K (.ref C) "__init__" = some (some (.ref fI))
  tC : typeIn K (.ref fI) = some (.type "function")
  kC : keepIn K (.ref C) = true
  exC : subIn K (.ref C) (.type "BaseException") = some true
  tyC : typeIn K (.ref C) = some (.type "type")
  hdC : hasDictIn K C = true
  te : exmOne K (.ref C) (.ref C) = some true
  fn : ∃ (oc : Value) (od : Option Addr) (doc pm : Value) (an : Option Addr) (cdv ct : Value) (osl : Array (Option Value)) (p1 p2 q1 q2 q3 q4 : Pos),
    K.lookup fI = some ⟨oc, od, .func (fnOf "__init__" qn (iA p1 p2) (iB q1 q2 q3 q4) iS .none .none doc pm an cdv ct), osl⟩ ∧ codeIn K cdv qn = true
theorem one_size (v : Value) : [v].length ≤ sizeLine := by
  rw [sizeLine_eq]
  exact (by decide : 1 ≤ 16777216)
theorem kept_but {K : Frag} {h h' : Heap} {x : Addr} (X : K.In h) (hx : K.lookup x = none) (k : ∀ b o, b ≠ x → h.get? b = some o → h'.get? b = some o) : K.In h' := fun a o e =>
  k a o (fun z => by rw [z, hx] at e; cases e) (X a o e)
theorem ldC {M : Model} {s : Shared} {name : Str} {scope : Scope} {L a : Addr} {cd : Value} {m : Str → Option Value} {x : Str} {pos : Pos} {v : Value} {Q : Value → Shared → Prop} {A : Around} {E : Value → Shared → Prop} (hn : s.heap.Ns L m) (hv : m x = some v) (h : Q v s)
    (hk : scope.kind = .function := by rfl) (hl : (envOfC name scope L a cd).kindOf x = some .local := by rfl) (hd : (x == ("__debug__" : Str)) = false := by decide) :
    wpAny M A (eval (.Name x pos) (envOfC name scope L a cd)) Q E s := wpAny_Name (wpAny_loadName_local hk hl hn hv h) hd
/-- what __init__ leaves of a fresh exception at x -/
structure InitEnd (h h' : Heap) (x C dx t1 : Addr) (v : Value) : Prop where
  keep : ∀ b o, b ≠ x → h.get? b = some o → h'.get? b = some o
  obj : h'.get? x = some { cls := .ref C, dict := some dx, data := .fields #[.ref t1, .none, .none, .none, .bool false, .none] }
  dbig : h.objs.size ≤ dx
  dne : dx ≠ x
  ns : h'.Ns1 dx (fun y => if y = "at" then some v else none)
/-- a made Low -/
structure OwnMade (h h' : Heap) (e C d : Addr) (v : Value) : Prop where
  keep : ∀ b o, h.get? b = some o → h'.get? b = some o
  new : h.objs.size ≤ e
  obj : ∃ oe vs, h'.get? e = some oe ∧ oe.cls = .ref C ∧ oe.dict = some d ∧ oe.data = .fields vs ∧ vs[1]? = some .none
  dbig : h.objs.size ≤ d
  dne : d ≠ e
  ns : h'.Ns1 d (fun y => if y = "at" then some v else none)
section
variable {prog : Program} {w : World} {A : Around} {E : Value → Shared → Prop} {R : Result → Shared → Prop} {s : Shared} {K : Frag} {mg : Str → Option Value} {C fI : Addr} {cn qn : Str}
theorem low_init (T : LowTxt cn qn K mg C fI) {x t0 : Addr} {v : Value} (X : K.In s.heap) (hlim : s.heap.NoLimit) (hx : s.heap.get? x = some (excO C t0)) (hnx : K.lookup x = none) (hroom : A.depth < recursionLimit)
    (hq : ∀ h' tk dx, InitEnd s.heap h' x C dx t0 v → R (.ok (.ret .none)) { s with heap := h', toks := tk }) :
    codeAny (model prog w) A (.call (.ref fI) ⟨[.ref x, v], []⟩) R s := by
  obtain ⟨oc, od, doc, pm, an, cdv, ct, osl, p1, p2, q1, q2, q3, q4, ho, hcd⟩ := T.fn
  obtain ⟨nm, q, N, bs, bm, sn, sub, ab, col, dd, k0, k1, k2, k3, k5, hC, hbm⟩ := T.cls
  have hcl : clsIn K C = some { name := nm, bases := bs, mro := .ref C :: bm, ns := N, qualname := q, hasDict := true, slotNames := sn, subclasses := sub, abstract := ab, collection := col, hasDel := false } := by unfold clsIn; rw [hC] <;> rfl
  refine Att.call_fn (binds := [("self", .ref x), ("at", v)]) X hlim ho hcd hroom (BindsTo.of_eq (by first | rfl | with_unfolding_all rfl)) (by first | rfl | decide | with_unfolding_all rfl) (fun s₁ IC => ?_) rfl rfl rfl
  obtain ⟨h₁, tk₁, rfl⟩ := IC.toInCall.same
  have k : ∀ b o, s.heap.get? b = some o → h₁.get? b = some o := IC.toInCall.keep
  have hn := IC.toInCall.ns
  have hxL : s.heap.objs.size ≠ x := Nat.ne_of_gt (Heap.lt_size hx)
  have X₁ : K.In h₁ := X.keeps k
  have hx₁ := k _ _ hx
  -- self.by = by
  show wpAny _ _ (execs _ _) _ _ _
  refine wpAny_execs_cons (plainObj_wpAny_Assign_Attribute ?_)
  refine ldC (v := v) hn (by first | rfl | with_unfolding_all rfl | kernel_rfl) (ldC (v := .ref x) hn (by first | rfl | with_unfolding_all rfl | kernel_rfl) ?_)
  refine set_plain X₁ (ox := excO C t0) (od := none) ⟨hx₁, rfl, rfl, trivial⟩ T.sa ?_
  refine exc_osa X₁ hx₁ hcl (show refsVE (.ref C :: bm) = true from hbm) rfl T.noN (fun h₃ tk₃ dx k₃ dn dne hx₃ hn₃ => ?_)
  show wpAny _ _ (execs _ _) _ _ _
  have z : s.heap.objs.size < h₁.objs.size := hn.lt
  exact wpAny_execs_nil (hq h₃ tk₃ dx ⟨fun b o hb e => k₃ b o hb (k b o e), hx₃, Nat.le_of_lt (Nat.lt_of_lt_of_le z dn), dne, hn₃⟩)
theorem low_made (T : LowTxt cn qn K mg C fI) {v : Value} (X : K.In s.heap) (hlim : s.heap.NoLimit) (hroom : A.depth + 1 < recursionLimit)
    (hq : ∀ h' tk e d, OwnMade s.heap h' e C d v → R (.ok (.ret (.ref e))) { s with heap := h', toks := tk }) :
    codeAny (model prog w) A (.call (.ref C) ⟨[v], []⟩) R s := by
  obtain ⟨nm, q, N, bs, bm, sn, sub, ab, col, dd, k0, k1, k2, k3, k5, hC, hbm⟩ := T.cls
  obtain ⟨hp, g, dr, tk, os⟩ := s
  have k : ∀ b o, hp.get? b = some o → ((hp.push (kdv_tup [v])).push (excO C hp.objs.size)).get? b = some o := fun b o e => Heap.get?_push_of_some _ (Heap.get?_push_of_some _ e)
  have hget : ((hp.push (kdv_tup [v])).push (excO C hp.objs.size)).get? (hp.objs.size + 1) = some (excO C hp.objs.size) := by heap_get
  have hnx : K.lookup (hp.objs.size + 1) = none := by
    cases e : K.lookup (hp.objs.size + 1) with
    | none => rfl
    | some o =>
      have z : hp.get? (hp.objs.size + 1) = some o := X _ _ e
      exact absurd (Nat.lt_of_succ_lt (Heap.lt_size z)) (Nat.lt_irrefl _)
  refine call_own F.excBase_ValueError (fun X => refsVE_contains X bm hbm) (X _ _ hC) (looks_findIn X T.iC) (fun self => bind_fn X self T.tC) (one_size v) ?_
  refine low_init (s := ⟨(hp.push (kdv_tup [v])).push (excO C hp.objs.size), g, dr, tk, os⟩) T (X.keeps k) (hlim.keeps k) hget hnx ?_ fun h' tk' dx ⟨k', hx, dn, dne, hns⟩ => ?_
  · show A.depth + 1 < recursionLimit
    exact hroom
  · have old : ∀ b o, hp.get? b = some o → h'.get? b = some o := fun b o e => k' b o (Nat.ne_of_lt (Nat.lt_succ_of_lt (Heap.lt_size e))) (k b o e)
    have z : hp.objs.size + 1 + 1 ≤ dx := by
      first
        | (simpa only [Heap.size_push] using dn)
        | exact dn
        | (have q := dn; rw [Heap.size_push, Heap.size_push] at q; exact q)
    exact ⟨rfl, hq h' tk' (hp.objs.size + 1) dx ⟨old, Nat.le_succ _, ⟨_, _, hx, rfl, rfl, rfl, rfl⟩, Nat.le_trans (Nat.le_trans (Nat.le_succ _) (Nat.le_succ _)) z, dne, hns⟩⟩
end
end RefX
end PySem
namespace L2
open PySem PySem.Spec PyProof.Rows
theorem relO_low {v : V} {v' : Value} (r : RelV v v') (f : Str) : RelO (List.lookup f [(("at" : Str), v)]) (if f = "at" then some v' else none) := by
  by_cases hw : f = "at"
  · subst hw
    rw [if_pos rfl]
    have q : List.lookup ("at" : Str) [(("at" : Str), v)] = some v := by simp [List.lookup]
    rw [q]
    exact r
  · rw [if_neg hw]
    have qw : (f == ("at" : Str)) = false := by simpa using hw
    have q2 : List.lookup f [(("at" : Str), v)] = none := by simp [List.lookup, qw]
    rw [q2]
    trivial
section
variable {X : Cx} {C fI : Addr} {cn qn : Str}
/-- Low(e) -/
def tMkLow (C : Addr) (ta : TA) : St → Hp → XK → Prop := fun σ H Q => ta σ H fun vs H1 => ∃ v, vs = [v] ∧ ∀ d, H1 d = none → Q (.ref C) (some d) (upd H1 d (.xd [(("at" : Str), v)]))
theorem pmk_low {a : Expr} {ta : TA} {p pos : Pos} {k : Nat} (T : PySem.RefX.LowTxt cn qn X.K X.mg C fI) (hr : Room k X.A) (ha : PA X [a] ta) (hg : Gl X cn := by rfl) (hdb : (cn == ("__debug__" : Str)) = false := by decide)
    (he : starEach (a :: []) X.env = (false, eval a X.env) :: starEach [] X.env := by rfl) (hpl : (backTo pos (starEach [] X.env)).any (·.1) = false := by rfl) :
    PMk X (.Call (.Name cn p) [a] [] pos) (tMkLow C ta) := by
  intro pins s σ H Q I h
  refine wpAny_Call_Name_kw (ld_glob I hg T.gC ?_ hdb)
  refine PySem.W.callWith_K (h₀ := X.base) I.ok.mod.kin T.kC (thn (ha.run pos pins s σ H _ I h) fun us s1 hh => ?_) he hpl
  obtain ⟨vs, H1, I1, r1, v, ev, q1⟩ := hh
  subst ev
  refine ⟨I1.kIn, ?_⟩
  cases r1 with
  | cons rv rn =>
    rename_i v' us'
    cases rn
    show wpAny _ _ (call (.ref C) [v']) _ _ _
    have hlim := I1.nolimit
    obtain ⟨hp, g, dr, tk, os⟩ := s1
    refine wpAny_call (PySem.RefX.low_made T I1.kIn hlim (by have := hr.dp; omega) fun h' tk' e d M => ?_)
    show MkP X pins σ Q (.ref e) ⟨h', g, dr, tk', os⟩
    obtain ⟨oe, fv, hoe, hc, hd, hdat, h1⟩ := M.obj
    have hns := M.ns
    obtain ⟨G', g1, g2⟩ := restrict h' fun b => decide (b ≠ e)
    have gk : ∀ b, b ≠ e → G'.get? b = h'.get? b := fun b hb => g1 b (decide_eq_true hb)
    have ge : G'.get? e = none := g2 e (by simp)
    have old : ∀ b o, hp.get? b = some o → G'.get? b = some o := fun b o q => (gk b (Nat.ne_of_lt (Nat.lt_of_lt_of_le (Heap.lt_size q) M.new))).trans (M.keep b o q)
    have ob : ObjOk X.prog X.w (upd H1 d (.xd [(("at" : Str), v)])) G' d (.xd [(("at" : Str), v)]) :=
      ⟨_, hns.at (fun o q => (gk d M.dne).trans q), fun f => relO_low rv f⟩
    have J : Inv X pins σ (upd H1 d (.xd [(("at" : Str), v)])) ⟨G', g, dr, tk', os⟩ := I1.laid (t' := tk') old M.dbig ob
    refine ⟨e, oe, fv, ⟨G', g, dr, tk', os⟩, _, .ref C, some d, rfl, J, fun b o q => ?_, ge, hoe, ⟨hc, hd⟩, hdat, h1, ?_, rfl, I1.bare, raises_own T.exC T.tyC, q1 d (I1.hok.fresh M.dbig)⟩
    · by_cases hb : b = e
      · have q' : G'.get? b = some o := q
        rw [hb, ge] at q'; cases q'
      · exact (gk b hb).symm.trans q
    · rw [upd_ne (Ne.symm M.dne)]
      exact I1.hok.fresh M.new
/-- raise Low(e) -/
def tRaiseLow (C : Addr) (W : WX) (ta : TA) : TS := fun _ σ H => tMkLow C ta σ H fun cls d H' => W cls d σ H'
theorem ps_raiseLow {a : Expr} {ta : TA} {W : WX} {p pos pos2 : Pos} {k : Nat} (hc : X.calm = true) (T : PySem.RefX.LowTxt cn qn X.K X.mg C fI) (hr : Room k X.A) (tk : Takes X W) (ha : PA X [a] ta) (hg : Gl X cn := by rfl) (hdb : (cn == ("__debug__" : Str)) = false := by decide)
    (he : starEach (a :: []) X.env = (false, eval a X.env) :: starEach [] X.env := by rfl) (hpl : (backTo pos (starEach [] X.env)).any (·.1) = false := by rfl) :
    PS X (.Raise (some (.Call (.Name cn p) [a] [] pos)) none pos2) (tRaiseLow C W ta) := ps_raise hc tk (pmk_low T hr ha hg hdb he hpl)
/-- low.by, low the exception that the suite holds (at a; its class cls, its dict d) -/
def tByLow (C : Addr) (a : Addr) (cls : Value) (d : Option Addr) (te : TE) : TE := fun σ H Q => te σ H fun x H1 => x = .ref a ∧ cls = .ref C ∧ ∃ (dd : Addr) (v : V), d = some dd ∧ H1 dd = some (.xd [(("at" : Str), v)]) ∧ Q v H1
theorem pe_byLow {a : Addr} {oe : Obj} {cls : Value} {d : Option Addr} {pn : List (Addr × Obj)} {e : Expr} {te : TE} {pos : Pos} (T : PySem.RefX.LowTxt cn qn X.K X.mg C fI) (hz : Zc cls d oe) (hf : ∃ vs, oe.data = .fields vs) (he : PE (X.suite a ((a, oe) :: pn)) e te)
    (hb : attributeBase e "at" X.env (eval e X.env) = eval e X.env := by rfl) :
    PE (X.suite a ((a, oe) :: pn)) (.Attribute e "at" pos) (tByLow C a cls d te) := by
  refine ⟨fun pins s σ H Q I h => ?_⟩
  refine attr_of hb (thn (he.run pins s σ H _ I h) fun u s1 hh => ?_)
  obtain ⟨x, H1, I1, rx, ex, ec, dd, v, ed, ea, q⟩ := hh
  subst ex
  obtain rfl : u = Value.ref a := rx
  subst ec
  subst ed
  obtain ⟨ha, _⟩ := I1.pin (a, oe) (List.mem_append_left _ List.mem_cons_self)
  obtain ⟨vs, hd⟩ := hf
  have hx : ObjOk X.prog X.w H1 s1.heap dd (.xd [(("at" : Str), v)]) := I1.hok dd _ ea
  obtain ⟨mA, hns, hr⟩ := hx
  obtain ⟨od, ho, hl⟩ := lookIn_ns hns
  have l : List.lookup ("at" : Str) [(("at" : Str), v)] = some v := by simp [List.lookup]
  obtain ⟨u, hu, ru⟩ := RelO.some_of (v := v) (o := mA "at") (by rw [← l]; exact hr "at")
  have J : PySem.W.InstAt s1.heap a oe C (some od) := ⟨ha, hz.1, by unfold PySem.W.notCls; rw [hd] <;> rfl, by rw [hz.2]; exact ho⟩
  exact HandSPX.exc_get I1.kIn J T.ga T.gg T.exC (PySem.W.findObj_own T.hdC T.noN rfl (by rw [hl, hu])) (handed_of ru) ⟨v, H1, I1.tok _, ru, q⟩
end
end L2

end
section
set_option Elab.async false
set_option linter.all false
set_option maxRecDepth 100000
set_option maxHeartbeats 4000000
namespace Ms
open PySem PySem.Spec PyProof.Rows L2
open PySem.W (Frag kitOne kit_cls)
/-! ### isinstance that is true, of an exception with its own dict -/
theorem kit_true {K : Frag} {x t c : Value} {Z : Heap → Prop} (ty : ∀ (M : Model) (h : Heap), K.In h → Z h → PySem.W.Looks M h (typeOf x) t) (ne : (t == c) = false) (e : kitOne K t c = some true) :
    Answers (fun s => K.In s.heap ∧ Z s.heap) x c true := by
  rintro dep tk prog w A R ⟨h0, g, d, tt, os⟩ ⟨⟨X, p⟩, hq⟩
  have LT := ty (model prog w) h0 X p
  unfold kitOne at e
  rw [if_neg (by rw [ne]; exact Bool.false_ne_true)] at e
  obtain ⟨hty, his, hsub⟩ := kit_cls (M := model prog w) X e
  have LI : PySem.W.Looks (model prog w) h0 (isInstance x c) true := LT.andThen hsub
  unfold Builtin.«isinstance.nested»
  refine wpAny_bind (LT.at ?_)
  rw [if_neg (by rw [ne]; exact Bool.false_ne_true)]
  refine wpAny_bind (hty.at ?_)
  rw [if_pos (by decide)]
  k_delta "plainIsInstance"
  refine wpAny_bind (wpAny_bind (his.at ?_))
  simp only [Bool.not_true, Bool.false_eq_true, if_false]
  refine wpAny_bind (LI.at ?_)
  first
    | exact wpAny_pure (wpAny_pure (hq tt))
    | (simp only [if_true]; first | exact wpAny_pure (wpAny_pure (hq tt)) | exact wpAny_pure (hq tt) | exact wpAny_bind (wpAny_pure (wpAny_pure (hq tt))))
theorem call_isX {X : Cx} {a C B : Addr} {cls : Value} {d : Option Addr} {oe : Obj} {pn : List (Addr × Obj)} (hz : Zc cls d oe) (hf : ∃ vs, oe.data = .fields vs) (hne : C ≠ B) (hk : kitOne X.K (.ref C) (.ref B) = some true) :
    CallR (X.suite a ((a, oe) :: pn)) (.builtin "isinstance") (fun xs H Q => xs = [.ref a, .ref B] ∧ cls = .ref C ∧ (∃ dd fs, d = some dd ∧ H dd = some (.xd fs)) ∧ Q (.bl true) H) := by
  intro pins s σ H xs us Q I r h
  obtain ⟨rfl, rfl, ⟨dd, fs, rfl, hd⟩, q⟩ := h
  obtain ⟨u1, u2, rfl, r1, r2⟩ := vals2 r
  obtain rfl : u1 = Value.ref a := r1
  obtain rfl : u2 = Value.ref B := r2
  obtain ⟨hget, _⟩ := I.pin (a, oe) (List.mem_append.mpr (.inl List.mem_cons_self))
  obtain ⟨vs, hv⟩ := hf
  obtain ⟨mA, hns, _⟩ := (show ObjOk X.prog X.w H s.heap dd (.xd fs) from I.hok dd _ hd)
  obtain ⟨od, ho, _⟩ := lookIn_ns hns
  have J : PySem.W.InstAt s.heap a oe C (some od) := ⟨hget, hz.1, by unfold PySem.W.notCls; rw [hv], by rw [hz.2]; exact ho⟩
  exact call_isinstance (S := fun _ R s => (X.K.In s.heap ∧ PySem.W.InstAt s.heap a oe C (some od)) ∧ ∀ tk, R (.ok (.ret (.bool true))) { s with toks := tk })
    (fun prog w A R s hs => isinstance_outer (kit_true (Z := fun h => PySem.W.InstAt h a oe C (some od)) (fun _ _ _ (J : PySem.W.InstAt _ a oe C (some od)) => J.type) (by exact beq_eq_false_iff_ne.mpr fun z => hne (Value.ref.inj z)) hk 0 _ prog w A R s hs) (fun z => nomatch z)) ⟨⟨I.kIn, J⟩, fun tk => ⟨.bl true, H, I.tok tk, rfl, q⟩⟩

/-! ### raise, defs that raise -/
def sRaise (cn : Str) (F : Fn D) : Sn := sOf F fun d _ bx => .er cn d bx
section
variable {X : Cx} {P : Pm} {E : XK} {pos : Pos} {a : Expr} {F : Fn D}
theorem sOf_cons {k : D → Sn} {δ : List (Option D)} {bx : Sto} : sOf (fCons F (pur [])) (fun ds => match ds with | [d] => k d | _ => fun _ _ => .bad) δ bx = sOf F k δ bx := by
  unfold sOf
  cases hF : F δ bx with
  | ok d bx1 =>
    rw [show fCons F (pur []) δ bx = .ok [d] bx1 from bnd_ok hF]
  | err c d bx1 => rw [show fCons F (pur []) δ bx = .err c d bx1 from bnd_err hF]
  | bad => rw [show fCons F (pur []) δ bx = .bad from bnd_bad hF]
theorem sd_raise {cn qn : Str} {fI : Addr} {k : Nat} {p pos2 : Pos} (hc : X.calm = true) (T : PySem.RefX.LowTxt cn qn X.K X.mg (P.CR cn) fI) (hr : Room k X.A) (tk : Takes X fun cls d _ H => E cls d H) (ha : ED X P E a F) (hg : Gl X cn := by rfl) (hdb : (cn == ("__debug__" : Str)) = false := by decide)
    (h1 : starEach (a :: []) X.env = (false, eval a X.env) :: starEach [] X.env := by rfl) (h2 : (backTo pos (starEach [] X.env)).any (·.1) = false := by rfl) :
    SD X P E (.Raise (some (.Call (.Name cn p) [a] [] pos)) none pos2) (sRaise cn F) := by
  refine ps_imp (ps_raiseLow hc T hr tk (ea_cons (P := P) (E := E) ha ea_nil h1) hg hdb h1 h2) ?_
  rintro Z σ H ⟨β, δ, bx, ev, g, o⟩
  unfold sRaise at o
  rw [← sOf_cons] at o
  refine sa_bind ev g o fun β1 bx' vs ds H1 l1 g1 r1 o1 => ?_
  split at o1
  · rename_i d
    obtain ⟨v, rfl, rv⟩ := r1.one
    exact ⟨v, rfl, fun q hq => o1 _ q v _ (.new hq) (g1.new hq) upd_same (rv.le (.new hq))⟩
  · exact o1.elim
end
theorem pass0' {X : Cx} {E : XK} : Passes CX0 X E := fun _ _ _ _ _ _ _ h => h.elim
section
variable {Pg : Program} {w : World} {K : PySem.W.Frag} {mg : Str → Option Value} {base : Heap} {P : Pm}
theorem fn_okX {x qual : Str} {st : Stmt} {f : Addr} {fd : FuncData} {N ps : List Str} {k n : Nat} {S : Sn} (F : Fun K x qual st f fd) (sc : FnScope N ps (defScope st)) (hn : ps.length = n)
    (hb : ∀ (cdv : Value) (A : Around) (outer : List Env) (s : Shared) (H : Hp) (E : XK), Room k (A.deeper (envOfC qual (defScope st) s.heap.objs.size f cdv)) →
      SSD (cxOf (L2.CX Pg w) Pg w K mg base N qual (defScope st) f cdv A outer s H E) P E (defBody st) S) : FnOk Pg w K mg base (L2.CX Pg w) (k + 1) f fd ps (spD K P n (fnD N S)) :=
  F.okX sc (fun vs H Q E h => (spD_len _ _ _ _ h).trans hn.symm) fun cdv A outer s H vs Q E hr h => ⟨tDS K P E S, hb cdv A outer s H E hr, fn_end h⟩
end
/-! ### heard(lambda: e): what a call tells or is refused with -/
theorem takes_len {X : Cx} {W : WX} (t : Takes X W) : Takes X (fun cls d σ H => σ.length = X.N.length → W cls d σ H) := fun u s' ⟨a, B, sI, pins, σ, H, cls, d, e, I, nb, up, sky, na, os, ag, w⟩ =>
  t u s' ⟨a, B, sI, pins, σ, H, cls, d, e, I, nb, up, sky, na, os, ag, w I.len⟩
/-- the error's part -/
def EHeard (K : PySem.W.Frag) (CR : Addr) (Q : VK) : XK := fun cls d H' => cls = .ref CR ∧ ∃ dd v pd, d = some dd ∧ H' dd = some (.xd [(("at" : Str), v)]) ∧ Dp K H' v pd ∧ pd.showable = true ∧ pd.hasDict = false ∧ pd.depth ≤ 60 ∧ pd.shown.length ≤ sizeLine ∧
  ∀ p, H' p = none → Q (.ref p) (upd H' p (.tup [.str "refused", .str pd.shown, .bl true]))
def TTHeard (K : PySem.W.Frag) (CR : Addr) : (XK → Hp → VK → Prop) → Hp → VK → Prop := fun tl H Q =>
  tl (EHeard K CR Q) H fun v H' => [V.str "told", v].length ≤ sizeLine ∧ ∀ p, H' p = none → Q (.ref p) (upd H' p (.tup [.str "told", v]))
theorem b_repr : bootBuiltins ("repr" : Str) = some (.builtin "repr") := by decide +kernel
theorem b_isinstance : bootBuiltins ("isinstance" : Str) = some (.builtin "isinstance") := by decide +kernel
theorem nd_heard : (["_law_ask", "fault"] : List Str).Nodup := by decide +kernel
theorem heard_gives {X : Cx} {x q qn : Str} {sg : Scope} {g CR B fI : Addr} {cdg : Value} {k : Nat} {j1 j2 k1 k2 : Nat} {p0 p1 p2 p3 p4 p5 p6 p7 p8 p9 q1 q2 q3 q4 q5 q6 q7 q8 q9 : Pos}
    (hga : X.A.guards = some []) (hr : Room (k + 2) X.A) (T : PySem.RefX.LowTxt "Refused" qn X.K X.mg CR fI) (hne : CR ≠ B) (hk : PySem.W.kitOne X.K (.ref CR) (.ref B) = some true) (gB : X.mg "WreckError" = some (.ref B)) (gr : X.mg "repr" = none) (gi : X.mg "isinstance" = none)
    (s1 : sg.names.lookup ("Refused" : Str) = some .globalImplicit) (s2 : sg.names.lookup ("repr" : Str) = some .globalImplicit) (s3 : sg.names.lookup ("isinstance" : Str) = some .globalImplicit) (s4 : sg.names.lookup ("WreckError" : Str) = some .globalImplicit) (s5 : sg.names.lookup ("fault" : Str) = some .local) (s6 : sg.names.lookup ("_law_ask" : Str) = some .local) :
    LamX.GivesTo X ["_law_ask", "fault"] x sg g cdg [.Try [.Return (some (.Tuple [.Constant (.str "told") j1 p0, .Call (.Name "_law_ask" p1) [] [] p2] k1 p3)) p4]
      [.ExceptHandler (some (.Name "Refused" p5)) (some "fault") [.Return (some (.Tuple [.Constant (.str "refused") j2 p6, .Call (.Name "repr" p7) [.Attribute (.Name "fault" p8) "at" p9] [] q1, .Call (.Name "isinstance" q2) [.Name "fault" q3, .Name "WreckError" q4] [] q5] k2 q6)) q7] q8] [] [] q9] "_law_ask" q (TTHeard X.K CR) := by
  intro f c' s H Q tl act hc h
  have hga' : (X.A.deeper (envOfC x sg s.heap.objs.size g cdg)).guards = some [] := hga
  have hr' : Room (k + 1) (X.A.deeper (envOfC x sg s.heap.objs.size g cdg)) := hr.deeper _
  refine ⟨_, pss_one (ps_try_as (X := (cxOf C8.CX0 X.prog X.w X.K X.mg X.base ["_law_ask", "fault"] x sg g cdg X.A X.stack s H C8.E0).nox) (i := 1) (c := .ref CR) (Wout := fun _ _ _ _ => False)
      (tb := fun W D σ H => ∃ Ech : XK, (∀ cls d σ' H', Ech cls d H' → σ'.length = 2 → W cls d σ' H') ∧ σ[0]? = some (some (.ref f)) ∧ H c' = some (LamX.CodeO c' q) ∧ tl Ech H fun v H' => [V.str "told", v].length ≤ sizeLine ∧ ∀ p, H' p = none → D.rt (.ref p) (upd H' p (.tup [.str "told", v])))
      rfl rfl nd_heard rfl s5 ⟨s1, by decide, .inl T.gC⟩ LamX.takes0 (fun W pn xe tk _ => ?_) (fun a oe cls d pn hz hf => pss_one (ps_ret (pe_tup (pa_cons pe_str (pa_cons
        (pe_callB (show CallR (((cxOf C8.CX0 X.prog X.w X.K X.mg X.base ["_law_ask", "fault"] x sg g cdg X.A X.stack s H C8.E0).nox).suite a ((a, oe) :: pn)) (.builtin "repr") (rRepr X.K) from call_repr (X := ((cxOf C8.CX0 X.prog X.w X.K X.mg X.base ["_law_ask", "fault"] x sg g cdg X.A X.stack s H C8.E0).nox).suite a ((a, oe) :: pn)) hga' hr'.units) (by exact s2) (by exact gr) b_repr (pa_cons (pe_byLow (X := (cxOf C8.CX0 X.prog X.w X.K X.mg X.base ["_law_ask", "fault"] x sg g cdg X.A X.stack s H C8.E0).nox) T hz hf (pv 1 rfl (.inl s5))) pa_nil))
        (pa_cons (pe_callB (call_isX (X := (cxOf C8.CX0 X.prog X.w X.K X.mg X.base ["_law_ask", "fault"] x sg g cdg X.A X.stack s H C8.E0).nox) hz hf hne hk) (by exact s3) (by exact gi) b_isinstance (pa_cons (pv 1 rfl (.inl s5)) (pa_cons (pe_glob (v := .ref B) (by exact s4) (by exact gB) rfl) pa_nil))) pa_nil))))))), ?_⟩
  · refine ⟨fun pins s' σ H' D I h' => ?_⟩
    obtain ⟨Ech, hW, h1, h2, h3⟩ := h'
    have hp := act _ pn xe Ech p1 p2 (takes_len tk) fun cls d σ' H' he hl => hW cls d σ' H' he hl
    have hq := pss_one (ps_ret (pos := p4) (pe_tup (x1 := k1) (pos := p3) (pa_cons (pe_str (x := "told") (j := j1) (pos := p0)) (pa_cons hp pa_nil))))
    exact hq.run pins s' σ H' D I ⟨h1, h2, h3⟩
  · refine ⟨EHeard X.K CR Q, fun cls d σ' H' ⟨e1, dd, v, pd, e2, e3, e4, e5, e6, e7, e8, e9⟩ hl => ⟨true, ?_, fun _ a ha => ?_, fun z => nomatch z⟩, rfl, hc, h⟩
    · rw [e1]
      exact T.te
    · rw [e1]
      have h1 : (σ'.set 1 (some (V.ref a)))[1]? = some (some (V.ref a)) := List.getElem?_set_self (by omega)
      refine ⟨.ref a, h1, rfl, rfl, dd, v, e2, e3, v, pd, rfl, e4, e5, e6, e7, e8, .ref a, h1, rfl, rfl, ⟨dd, _, e2, e3⟩, le1000 (by show 3 ≤ 1000; omega), e9⟩
end Ms

end
section
set_option Elab.async false
set_option linter.all false
set_option maxRecDepth 100000
set_option maxHeartbeats 4000000
namespace Ms
open PySem PySem.Spec PyProof.Rows L2
def showOk (d : D) : Bool := d.pure && d.py.showable && decide (d.py.depth ≤ 60) && decide (d.py.shown.length ≤ sizeLine)
def hRes : Res D → Res D
  | .ok d bx => .ok (.tup [.str "told", d]) bx
  | .err c d bx => if c = "Refused" then (if showOk d = true then .ok (.tup [.str "refused", .str d.py.shown, .bl true]) bx else .bad) else .bad
  | .bad => .bad
def fHeard (F : Fn D) : Fn D := fun δ bx => hRes (F δ bx)
theorem heard_of {K : PySem.W.Frag} {P : Pm} {E : XK} {F : Fn D} {σ : L2.St} {H : Hp} {Q : VK} (h : tD K P E (fHeard F) σ H Q) : LamX.tLam P.T.tb (TTHeard K (P.CR "Refused")) (fun E' => tD K P E' F) σ H Q := by
  obtain ⟨β, δ, bx, ev, g, o⟩ := h
  refine ⟨g.tb, fun H1 x t1 => ?_⟩
  have l : Le β H β H1 := .ext x
  have x' : ∀ b o, H b = some o → (∀ ps, o ≠ .tbl ps) → H1 b = some o := x
  have sm : ∀ (k : Nat) (a : Addr) (b : Bool), β.cs[k]? = some (a, b) → ∃ o, H1 a = some o ∧ ∀ ps, o ≠ .tbl ps := fun k a b h => by
    obtain ⟨o, z, t⟩ := g.sm k a b h
    exact ⟨o, x' _ _ z t, t⟩
  have g1 : Good K P.T β bx H1 := ⟨g.ln, fun k a b h => by
    obtain ⟨c, h1, h2⟩ := g.cs k a b h
    exact ⟨c, h1, h2.le l (g.xk l) fun xs z => x _ _ z (fun ps z => by cases z)⟩, g.inj, sm, fun e he => by
    obtain ⟨⟨l, h⟩, n⟩ := g.ex e he
    exact ⟨⟨l, x _ _ h (fun ps z => by cases z)⟩, n⟩, t1⟩
  refine ⟨β, δ, bx, ev.le l, g1, ?_⟩
  unfold fHeard at o
  cases hF : F δ bx with
  | ok d bx' =>
    rw [hF] at o
    exact fun β' v H' l' g' r => ⟨le1000 (by show 2 ≤ 1000; omega), fun p hp => o _ _ _ ((l.trans l').trans (.new hp)) (g'.new hp) (.tup ⟨.inl upd_same, g'.ne hp⟩ (.cons (.str _) (.cons (r.le (.new hp)) .nil)))⟩
  | err c d bx' =>
    rw [hF] at o
    have o' : Out K P β H (if c = "Refused" then (if showOk d = true then .ok (.tup [.str "refused", .str d.py.shown, .bl true]) bx' else .bad) else .bad) Q E := o
    split at o'
    · rename_i hcn
      subst hcn
      split at o'
      · rename_i hs
        unfold showOk at hs
        simp only [Bool.and_eq_true, decide_eq_true_eq] at hs
        exact fun β' a v H' l' g' hx r => ⟨rfl, a, v, d.py, rfl, hx, r.dp hs.1.1.1, hs.1.1.2, d.noDict, hs.1.2, hs.2, fun p hp => o' _ _ _ ((l.trans l').trans (.new hp)) (g'.new hp) (.tup ⟨.inl upd_same, g'.ne hp⟩ (.cons (.str _) (.cons (.str _) (.cons (.bl _) .nil))))⟩
      · exact o'.elim
    · exact o'.elim
  | bad =>
    rw [hF] at o
    exact o.elim
section
variable {X : Cx} {P : Pm} {E : XK} {F : Fn D}
theorem ed_heard {x a : Str} {g c Pt : Addr} {k : Nat} {pg : Arguments} {bg : List Stmt} {sg : Scope} {dV kV doc pm cdv ct oc : Value} {an od : Option Addr} {osl : Array (Option Value)} {Ng : List Str}
    {params : Arguments} {body : Expr} {scope : Scope} {p lpos pos : Pos} (hg : Gl X x) (hm : X.mg x = some (.ref g)) (hk : PySem.W.keepIn X.K (.ref g) = true)
    (lk : X.K.lookup g = some ⟨oc, od, .func (PySem.W.fnOf x x pg bg sg dV kV doc pm an cdv ct), osl⟩) (hcg : PySem.W.codeIn X.K cdv x = true) (hb : L2.Binds X.K (PySem.W.fnOf x x pg bg sg dV kV doc pm an cdv ct) [a] []) (Sg : FnScope Ng [a] sg) (hNg : Ng[0]? = some a) (hva : Vis sg a)
    (hG : LamX.GivesTo X Ng x sg g cdv bg a (X.env.qual ++ "<lambda>") (TTHeard X.K (P.CR "Refused")))
    (TB : LamX.TabB X.base X.mg c Pt) (hcode : X.env.code = .ref c) (hmT : (Pt, X.env.qual ++ "<lambda>") ∈ P.T.tb) (hu : ∀ q ∈ P.T.tb, q.1 = Pt → q.2 = X.env.qual ++ "<lambda>") (hr : Room (k + 2) X.A) (L : LamX.LamS X.env.scope scope) (hdef : defaultsOf params X.env = ([], []))
    (hbind : ∀ (q : Str) (cl : List (Str × Addr)) (pm cv ctv : Value), bindArgs (PySem.W.kla_fn "<lambda>" q params body scope cl pm cv ctv) ⟨[], []⟩ = pure [])
    (hbody : ∀ (A : Around) (outer : List Env) (s : Shared) (H : Hp) (E' : XK) (f c' : Addr), Room k (A.deeper (LamX.lamEnv X scope s.heap.objs.size f c')) → ED (LamX.lamCx X A outer s H E' scope f c') P E' body F)
    (hdb : (x == ("__debug__" : Str)) = false := by decide) (hd : (a == ("__debug__" : Str)) = false := by decide) (hcd : (a == ("__classdict__" : Str)) = false := by decide) :
    ED X P E (.Call (.Name x p) [.Lambda params body scope lpos] [] pos) (fHeard F) :=
  pe_imp (LamX.pe_lamcall (t := fun E' => tD X.K P E' F) hg hm hk lk hcg hb Sg hNg hva hG TB hcode hmT hu hr L hdef hbind hbody hdb hd hcd) fun _ _ _ h => heard_of h
end
end Ms

end
section
set_option Elab.async false
set_option linter.all false
set_option maxRecDepth 100000
set_option maxHeartbeats 4000000
namespace Ms
open PySem PySem.Spec PyProof.Rows L2
/-! ### objects under way: a list that a comprehension makes -/
def Mu.hide (β : Mu) (a : Addr) : Mu := ⟨β.cs, a :: β.ex⟩
def Mu.back (β : Mu) (ex : List Addr) : Mu := ⟨β.cs, ex⟩
theorem rd_ne {H : Hp} {a b : Addr} {u : HO} (h : L2.Rd H b u) (n : H a = none) : b ≠ a := fun z => by
  subst z
  rcases h with h | ⟨o, h⟩ <;> rw [n] at h <;> cases h
theorem rd_upd {H : Hp} {a b : Addr} {u o : HO} (h : L2.Rd H b u) (n : b ≠ a) : L2.Rd (upd H a o) b u := by
  rcases h with h | ⟨q, h⟩
  · exact .inl (by rw [upd_ne n]; exact h)
  · exact .inr ⟨q, by rw [upd_ne n]; exact h⟩
/-- a new object that is under way -/
theorem Le.hide {β : Mu} {H : Hp} {a : Addr} {o : HO} (n : H a = none) : Le β H (β.hide a) (upd H a o) := ⟨fun k c b h => ⟨b, h, id⟩, fun k c b h z => (by
    have z' : (β.hide a).cs[k]? = none := z
    rw [z'] at h
    cases h), fun e h => List.mem_cons_of_mem _ h, fun e h z o ho => (by
    rcases List.mem_cons.mp h with h | h
    · rw [h, n] at ho
      cases ho
    · exact (z h).elim), fun b u h _ _ => keep_new n b u h, fun b u h t => ⟨u, keep_new n b u h, t⟩⟩
/-- written once more -/
theorem Le.updN {β β' : Mu} {H H' : Hp} {a : Addr} {l l' : List V} (l0 : Le β H β' H') (n : H a = none) (h : H' a = some (.lst l)) : Le β H β' (upd H' a (.lst l')) := ⟨l0.cs, l0.nw, l0.e1, l0.e2, fun b u hb nb t => by
    rw [upd_ne (ne_of_none hb n)]
    exact l0.kp b u hb nb t, fun b u hb t => by
    rw [upd_ne (ne_of_none hb n)]
    exact l0.dm b u hb t⟩
theorem Le.back {β β' : Mu} {H H' : Hp} (l : Le β H β' H') : Le β H (β'.back β.ex) H' := ⟨l.cs, l.nw, fun _ h => h, fun e h n => (n h).elim, l.kp, l.dm⟩
theorem back_ok {β : Mu} {ex : List Addr} {a : Addr} (s : ∀ e, e ∈ ex → e ∈ β.ex) (h : β.ok a) : (β.back ex).ok a := ⟨h.1, fun z => h.2 (s a z)⟩
mutual
theorem R.back {K : PySem.W.Frag} {β : Mu} {H : Hp} {ex : List Addr} (s : ∀ e, e ∈ ex → e ∈ β.ex) : ∀ {v : V} {d : D}, R K β H v d → R K (β.back ex) H v d
  | _, _, .non => .non
  | _, _, .bl b => .bl b
  | _, _, .int i => .int i
  | _, _, .str x => .str x
  | _, _, .lst h r => .lst ⟨h.1, back_ok s h.2⟩ (RA.back s r)
  | _, _, .tup h r => .tup ⟨h.1, back_ok s h.2⟩ (RA.back s r)
  | _, _, .ref h => .ref h
  | _, _, .fn h k => .fn h k
  | _, _, .scr h => .scr (h.imp (fun h => ⟨h.1, back_ok s h.2⟩) id)
theorem RA.back {K : PySem.W.Frag} {β : Mu} {H : Hp} {ex : List Addr} (s : ∀ e, e ∈ ex → e ∈ β.ex) : ∀ {vs : List V} {ds : List D}, RA K β H vs ds → RA K (β.back ex) H vs ds
  | _, _, .nil => .nil
  | _, _, .cons h r => .cons (R.back s h) (RA.back s r)
end
mutual
/-- what is told does not speak of an object that is under way, or of a cell's own -/
theorem R.upd {K : PySem.W.Frag} {β : Mu} {H : Hp} {a : Addr} {o : HO} (n : ¬ β.ok a) : ∀ {v : V} {d : D}, R K β H v d → R K β (upd H a o) v d
  | _, _, .non => .non
  | _, _, .bl b => .bl b
  | _, _, .int i => .int i
  | _, _, .str x => .str x
  | _, _, .lst h r => .lst ⟨rd_upd h.1 (fun z => n (z ▸ h.2)), h.2⟩ (RA.upd n r)
  | _, _, .tup h r => .tup ⟨rd_upd h.1 (fun z => n (z ▸ h.2)), h.2⟩ (RA.upd n r)
  | _, _, .ref h => .ref h
  | _, _, .fn h k => .fn h k
  | _, _, .scr h => .scr (h.imp (fun h => ⟨rd_upd h.1 (fun z => n (z ▸ h.2)), h.2⟩) id)
theorem RA.upd {K : PySem.W.Frag} {β : Mu} {H : Hp} {a : Addr} {o : HO} (n : ¬ β.ok a) : ∀ {vs : List V} {ds : List D}, RA K β H vs ds → RA K β (upd H a o) vs ds
  | _, _, .nil => .nil
  | _, _, .cons h r => .cons (R.upd n h) (RA.upd n r)
end
theorem Ev.upd {K : PySem.W.Frag} {β : Mu} {H : Hp} {σ : L2.St} {δ : List (Option D)} {a : Addr} {o : HO} (e : Ev K β H σ δ) (n : ¬ β.ok a) : Ev K β (upd H a o) σ δ := ⟨e.len, fun i d h => by
  obtain ⟨v, h1, h2⟩ := e.at_ i d h
  exact ⟨v, h1, h2.upd n⟩⟩
theorem Ev.none_ {K : PySem.W.Frag} {β : Mu} {H : Hp} {σ : L2.St} {δ : List (Option D)} (e : Ev K β H σ δ) (i : Nat) : Ev K β H (σ.set i none) (δ.set i none) := by
  refine ⟨by simp [e.len], fun j d h => ?_⟩
  by_cases hj : i = j
  · subst hj
    by_cases hl : i < δ.length
    · rw [List.getElem?_set_self hl] at h
      cases h
    · rw [List.getElem?_eq_none (by simp; omega)] at h
      cases h
  · rw [List.getElem?_set_ne hj] at h
    obtain ⟨v, h1, h2⟩ := e.at_ j d h
    exact ⟨v, by rw [List.getElem?_set_ne hj]; exact h1, h2⟩
theorem ext_upd {H : Hp} {a : Addr} {l l' : List V} (h : H a = some (.lst l)) : ∀ b p, H b = some (.ext p) → (upd H a (.lst l')) b = some (.ext p) := fun b p e => by
  rw [upd_ne (fun z => by rw [z, h] at e; cases e)]
  exact e
theorem tabs_upd {T : List (Addr × Str)} {H : Hp} {a : Addr} {l l' : List V} (t : LamX.Tabs T H) (h : H a = some (.lst l)) : LamX.Tabs T (upd H a (.lst l')) := fun p hp => by
  obtain ⟨ps, h1, h2, h3⟩ := t p hp
  refine ⟨ps, by rw [upd_ne (fun z => by rw [z, h] at h1; cases h1)]; exact h1, h2, fun pos cv hc => ?_⟩
  obtain ⟨c, e1, e2⟩ := h3 pos cv hc
  exact ⟨c, e1, by rw [upd_ne (fun z => by rw [z, h] at e2; unfold LamX.CodeO at e2; cases e2)]; exact e2⟩
section
variable {K : PySem.W.Frag} {T : Tb} {β : Mu} {st : Sto} {H : Hp} {a : Addr} {l l' xs : List V} {ds : List D} {k : Nat} {b : Bool}
/-- the list under way is written -/
theorem Good.updX (g : Good K T β st H) (x : a ∈ β.ex) (h : H a = some (.lst l)) : Good K T β st (upd H a (.lst l')) := by
  have n : ¬ β.ok a := fun z => z.2 x
  have nc := (g.ex a x).2
  refine ⟨g.ln, fun k c b hk => ?_, g.inj, fun k c b hk => ?_, fun e he => ?_, tabs_upd g.tb h⟩
  · obtain ⟨cl, h1, h2⟩ := g.cs k c b hk
    refine ⟨cl, h1, ?_⟩
    cases cl with
    | dead => exact h2
    | lam m => exact ⟨h2.1, T.st _ _ _ _ h2.2 (ext_upd h)⟩
    | lst ds =>
      obtain ⟨h3, xs, h4, h5⟩ := h2
      exact ⟨h3, xs, by rw [upd_ne (show c ≠ a from fun z => nc b (by rw [← z]; exact List.mem_of_getElem? hk))]; exact h4, h5.upd n⟩
  · obtain ⟨o, h1, h2⟩ := g.sm k c b hk
    exact ⟨o, by rw [upd_ne (show c ≠ a from fun z => nc b (by rw [← z]; exact List.mem_of_getElem? hk))]; exact h1, h2⟩
  · obtain ⟨⟨m, hm⟩, q⟩ := g.ex e he
    by_cases z : e = a
    · exact ⟨⟨l', z ▸ upd_same⟩, q⟩
    · exact ⟨⟨m, by rw [upd_ne z]; exact hm⟩, q⟩
theorem Good.hide (g : Good K T β st H) (n : H a = none) : Good K T (β.hide a) st (upd H a (.lst l)) := by
  refine ⟨g.ln, fun k c b hk => ?_, g.inj, fun k c b hk => ?_, fun e he => ?_, (g.new n).tb⟩
  · obtain ⟨cl, h1, h2⟩ := g.cs k c b hk
    refine ⟨cl, h1, ?_⟩
    cases cl with
    | dead => exact h2
    | lam m => exact ⟨h2.1, T.st _ _ _ _ h2.2 fun b p e => keep_new n _ _ e⟩
    | lst ds =>
      obtain ⟨h3, xs, h4, h5⟩ := h2
      exact ⟨h3, xs, keep_new n _ _ h4, h5.le (.hide n)⟩
  · obtain ⟨o, h1, h2⟩ := g.sm k c b hk
    exact ⟨o, keep_new n _ _ h1, h2⟩
  · rcases List.mem_cons.mp he with rfl | he
    · refine ⟨⟨l, upd_same⟩, fun b z => ?_⟩
      obtain ⟨k, hk⟩ := List.getElem?_of_mem z
      obtain ⟨o, h1, _⟩ := g.sm k _ _ hk
      rw [n] at h1
      cases h1
    · obtain ⟨⟨m, hm⟩, q⟩ := g.ex e he
      exact ⟨⟨m, keep_new n _ _ hm⟩, q⟩
theorem Good.back {ex : List Addr} (g : Good K T β st H) (s : ∀ e, e ∈ ex → e ∈ β.ex) : Good K T (β.back ex) st H := ⟨g.ln, fun k c b hk => by
  obtain ⟨cl, h1, h2⟩ := g.cs k c b hk
  refine ⟨cl, h1, ?_⟩
  cases cl with
  | dead => exact h2
  | lam m => exact h2
  | lst ds =>
    obtain ⟨h3, xs, h4, h5⟩ := h2
    exact ⟨h3, xs, h4, h5.back s⟩, g.inj, g.sm, fun e he => g.ex e (s e he), g.tb⟩

/-! ### cells -/
def Mu.cell (β : Mu) (a : Addr) : Mu := ⟨β.cs ++ [(a, true)], β.ex⟩
theorem cell_get {β : Mu} {a c : Addr} {k : Nat} {b : Bool} (h : (β.cell a).cs[k]? = some (c, b)) : β.cs[k]? = some (c, b) ∨ (k = β.cs.length ∧ c = a ∧ b = true) := by
  have h' : (β.cs ++ [(a, true)])[k]? = some (c, b) := h
  by_cases hk : k < β.cs.length
  · rw [List.getElem?_append_left hk] at h'
    exact .inl h'
  · rw [List.getElem?_append_right (by omega)] at h'
    by_cases hz : k - β.cs.length = 0
    · rw [hz] at h'
      cases h'
      exact .inr ⟨by omega, rfl, rfl⟩
    · rw [List.getElem?_eq_none (by simp; omega)] at h'
      cases h'
theorem cell_old {β : Mu} {a : Addr} {k : Nat} {p : Addr × Bool} (h : β.cs[k]? = some p) : (β.cell a).cs[k]? = some p := by
  show (β.cs ++ [(a, true)])[k]? = some p
  rw [List.getElem?_append_left (List.getElem?_eq_some_iff.mp h).1]
  exact h
theorem Le.cell (n : H a = none) {o : HO} : Le β H (β.cell a) (upd H a o) := ⟨fun k c b h => ⟨b, cell_old h, id⟩, fun k c b h z u hu => (by
    rcases cell_get h with h | ⟨_, rfl, _⟩
    · rw [z] at h
      cases h
    · rw [n] at hu
      cases hu), fun _ h => h, fun e h z => (z h).elim, fun b u h _ _ => keep_new n b u h, fun b u h t => ⟨u, keep_new n b u h, t⟩⟩
theorem Good.cell (g : Good K T β st H) (n : H a = none) (r : RA K β H xs ds) : Good K T (β.cell a) (st ++ [.lst ds]) (upd H a (.lst xs)) := by
  have l : Le β H (β.cell a) (upd H a (.lst xs)) := .cell n
  have fr : ∀ k c b, β.cs[k]? = some (c, b) → c ≠ a := fun k c b hk z => by
    obtain ⟨o, h1, _⟩ := g.sm k c b hk
    rw [z, n] at h1
    cases h1
  refine ⟨?_, fun k c b hk => ?_, fun i j c b hi hj => ?_, fun k c b hk => ?_, fun e he => ?_, (g.new n).tb⟩
  · show (β.cs ++ [(a, true)]).length = _
    rw [List.length_append, List.length_append, g.ln]
    rfl
  · rcases cell_get hk with h | ⟨rfl, rfl, rfl⟩
    · obtain ⟨cl, h1, h2⟩ := g.cs k c b h
      exact ⟨cl, by rw [List.getElem?_append_left (List.getElem?_eq_some_iff.mp h1).1]; exact h1, h2.le l (g.xk l) fun ys z => keep_new n _ _ z⟩
    · refine ⟨.lst ds, by rw [g.ln, List.getElem?_append_right (Nat.le_refl _), Nat.sub_self]; rfl, rfl, xs, upd_same, r.le l⟩
  · rcases cell_get hi with h | ⟨rfl, rfl, _⟩
    · rcases cell_get hj with h' | ⟨rfl, rfl, _⟩
      · exact g.inj i j c b h h'
      · exact (fr _ _ _ h rfl).elim
    · rcases cell_get hj with h' | ⟨rfl, _, _⟩
      · exact (fr _ _ _ h' rfl).elim
      · rfl
  · rcases cell_get hk with h | ⟨rfl, rfl, rfl⟩
    · obtain ⟨o, h1, h2⟩ := g.sm k c b h
      exact ⟨o, keep_new n _ _ h1, h2⟩
    · exact ⟨_, upd_same, fun ps z => by cases z⟩
  · obtain ⟨⟨m, hm⟩, q⟩ := g.ex e he
    refine ⟨⟨m, keep_new n _ _ hm⟩, fun b z => ?_⟩
    rcases List.mem_append.mp (show (e, b) ∈ β.cs ++ [(a, true)] from z) with z | z
    · exact q b z
    · cases List.mem_singleton.mp z
      rw [n] at hm
      cases hm
theorem R.cell {β : Mu} {st : Sto} {H' : Hp} (g : β.cs.length = st.length) : R K (β.cell a) H' (.ref a) (.ref st.length) := .ref (b := true) (by
  show (β.cs ++ [(a, true)])[st.length]? = _
  rw [← g, List.getElem?_append_right (Nat.le_refl _), Nat.sub_self]
  rfl)
/-- what a living cell is -/
theorem R.live {v : V} {l : List D} (r : R K β H v (.ref k)) (g : Good K T β st H) (h : st[k]? = some (.lst l)) : ∃ a xs, v = .ref a ∧ β.cs[k]? = some (a, true) ∧ H a = some (.lst xs) ∧ RA K β H xs l := by
  cases r with
  | ref hk =>
    obtain ⟨c, h1, h2⟩ := g.cs _ _ _ hk
    rw [h] at h1
    cases h1
    obtain ⟨rfl, xs, h3, h4⟩ := h2
    exact ⟨_, xs, rfl, hk, h3, h4⟩
theorem Le.put (hk : β.cs[k]? = some (a, true)) (h : H a = some (.lst l)) : Le β H β (upd H a (.lst l')) := ⟨fun k c b h => ⟨b, h, id⟩, fun k c b h n => (by rw [n] at h; cases h), fun _ h => h, fun e h n => (n h).elim, fun b u hb nb _ => by
    rw [upd_ne (show b ≠ a from fun z => nb (by rw [z]; exact List.mem_of_getElem? hk))]
    exact hb, fun b u hb t => by
    by_cases z : b = a
    · exact ⟨.lst l', by rw [z]; exact upd_same, fun ps z => by cases z⟩
    · exact ⟨u, by rw [upd_ne z]; exact hb, t⟩⟩
theorem Good.put (g : Good K T β st H) (hk : β.cs[k]? = some (a, true)) (h : H a = some (.lst l)) (r : RA K β H xs ds) : Good K T β (st.set k (.lst ds)) (upd H a (.lst xs)) := by
  have n : ¬ β.ok a := fun z => z.1 (List.mem_of_getElem? hk)
  have hlt : k < st.length := by
    rw [← g.ln]
    exact (List.getElem?_eq_some_iff.mp hk).1
  refine ⟨by rw [List.length_set]; exact g.ln, fun j c b hj => ?_, g.inj, fun j c b hj => ?_, fun e he => ?_, tabs_upd g.tb h⟩
  · by_cases z : k = j
    · subst z
      rw [hk] at hj
      cases hj
      exact ⟨.lst ds, List.getElem?_set_self hlt, rfl, xs, upd_same, r.upd n⟩
    · obtain ⟨cl, h1, h2⟩ := g.cs j c b hj
      refine ⟨cl, by rw [List.getElem?_set_ne z]; exact h1, ?_⟩
      cases cl with
      | dead => exact h2
      | lam m => exact ⟨h2.1, T.st _ _ _ _ h2.2 (ext_upd h)⟩
      | lst ds =>
        obtain ⟨rfl, ys, h4, h5⟩ := h2
        exact ⟨rfl, ys, by rw [upd_ne (show c ≠ a from fun q => z (g.inj k j a true hk (by rw [← q]; exact hj)))]; exact h4, h5.upd n⟩
  · obtain ⟨o, h1, h2⟩ := g.sm j c b hj
    by_cases z : c = a
    · exact ⟨.lst xs, by rw [z]; exact upd_same, fun ps z => by cases z⟩
    · exact ⟨o, by rw [upd_ne z]; exact h1, h2⟩
  · obtain ⟨⟨m, hm⟩, q⟩ := g.ex e he
    exact ⟨⟨m, by rw [upd_ne (show e ≠ a from fun z => q true (by rw [z]; exact List.mem_of_getElem? hk))]; exact hm⟩, q⟩
/-- a cell that is let go: its list changes no more -/
def Mu.frz (β : Mu) (k : Nat) (a : Addr) : Mu := ⟨β.cs.set k (a, false), β.ex⟩
theorem frz_get {c : Addr} {j : Nat} (h : (β.frz k a).cs[j]? = some (c, b)) : (j = k ∧ c = a ∧ b = false) ∨ (j ≠ k ∧ β.cs[j]? = some (c, b)) := by
  have h' : (β.cs.set k (a, false))[j]? = some (c, b) := h
  by_cases z : k = j
  · subst z
    rw [List.getElem?_set_self' ] at h'
    cases hk : β.cs[k]? with
    | none => rw [hk] at h'; cases h'
    | some p =>
      rw [hk] at h'
      cases h'
      exact .inl ⟨rfl, rfl, rfl⟩
  · rw [List.getElem?_set_ne z] at h'
    exact .inr ⟨fun q => z q.symm, h'⟩
theorem Le.frz (hk : β.cs[k]? = some (a, true)) : Le β H (β.frz k a) H := ⟨fun j c b h => by
    by_cases z : k = j
    · subst z
      rw [hk] at h
      cases h
      exact ⟨false, by show (β.cs.set k (a, false))[k]? = _; rw [List.getElem?_set_self (List.getElem?_eq_some_iff.mp hk).1], fun q => by cases q⟩
    · exact ⟨b, by show (β.cs.set k (a, false))[j]? = _; rw [List.getElem?_set_ne z]; exact h, id⟩, fun j c b h n => (by
    rcases frz_get h with ⟨rfl, _, _⟩ | ⟨_, h⟩
    · rw [n] at hk
      cases hk
    · rw [n] at h
      cases h), fun _ h => h, fun e h n => (n h).elim, fun b u h _ _ => h, fun b u h t => ⟨u, h, t⟩⟩
theorem frz_ok (g : Good K T β st H) (hk : β.cs[k]? = some (a, true)) : (β.frz k a).ok a := by
  refine ⟨fun z => ?_, fun z => (g.ex a z).2 true (List.mem_of_getElem? hk)⟩
  obtain ⟨j, hj⟩ := List.getElem?_of_mem z
  rcases frz_get hj with ⟨_, _, q⟩ | ⟨q, h⟩
  · cases q
  · exact q (g.inj k j a true hk h).symm
theorem Good.frz (g : Good K T β st H) (hk : β.cs[k]? = some (a, true)) : Good K T (β.frz k a) (st.set k .dead) H := by
  have hlt : k < st.length := by
    rw [← g.ln]
    exact (List.getElem?_eq_some_iff.mp hk).1
  refine ⟨by show (β.cs.set k (a, false)).length = _; rw [List.length_set, List.length_set]; exact g.ln, fun j c b hj => ?_, fun i j c b hi hj => ?_, fun j c b hj => ?_, fun e he => ?_, g.tb⟩
  · rcases frz_get hj with ⟨rfl, rfl, rfl⟩ | ⟨z, hj⟩
    · exact ⟨.dead, List.getElem?_set_self hlt, rfl⟩
    · obtain ⟨cl, h1, h2⟩ := g.cs j c b hj
      exact ⟨cl, by rw [List.getElem?_set_ne (Ne.symm z)]; exact h1, h2.le (.frz hk) (g.xk (.frz hk)) fun _ q => q⟩
  · rcases frz_get hi with ⟨_, _, q⟩ | ⟨z, hi⟩
    · cases q
    · rcases frz_get hj with ⟨rfl, rfl, _⟩ | ⟨_, hj⟩
      · rename_i hi' _
        exact (z (g.inj i j c true (by first | exact hi | exact hi') hk)).elim
      · exact g.inj i j c b hi hj
  · rcases frz_get hj with ⟨rfl, rfl, rfl⟩ | ⟨_, hj⟩
    · exact g.sm _ _ _ hk
    · exact g.sm _ _ _ hj
  · obtain ⟨m, q⟩ := g.ex e he
    refine ⟨m, fun b z => ?_⟩
    obtain ⟨j, hj⟩ := List.getElem?_of_mem z
    rcases frz_get hj with ⟨_, rfl, _⟩ | ⟨_, hj⟩
    · exact q true (List.mem_of_getElem? hk)
    · exact q b (List.mem_of_getElem? hj)
end
/-! ### what makes, changes, lets go a cell -/
def fNew (A : Fn (List D)) : Fn D := bnd A fun ds => fun _ bx => if ds.length ≤ 1000000 then .ok (.ref bx.length) (bx ++ [.lst ds]) else .bad
/-- list(x), a list that will change -/
def fNewOf (F : Fn D) : Fn D := bnd F fun d => fun _ bx => match vs bx d with
  | some ds => .ok (.ref bx.length) (bx ++ [.lst ds])
  | none => .bad
def sFrz (i : Nat) : Sn := fun δ bx => match δ[i]? with
  | some (some (.ref k)) => (match bx[k]? with
    | some (.lst l) => .nx (δ.set i (some (.lst l))) (bx.set k .dead)
    | _ => .bad)
  | _ => .bad
def appK (k : Nat) (e : D) : Sn := fun δ bx => match bx[k]? with
  | some (.lst l) => if l.length < 1000000 then .nx δ (bx.set k (.lst (l ++ [e]))) else .bad
  | _ => .bad
def sApp (F G : Fn D) : Sn := sOf F fun d δ bx => match d with
  | .ref k => (match bx[k]? with
    | some (.lst _) => sOf G (appK k) δ bx
    | _ => .bad)
  | _ => .bad
/-- x[i] = e -/
def sPut (F G J : Fn D) : Sn := sOf F fun e => sOf G fun d => sOf J fun i => fun δ bx => match d, i with
  | .ref k, .int i => (match bx[k]? with
    | some (.lst l) => (match ixN l.length i with
      | some j => .nx δ (bx.set k (.lst (l.set j e)))
      | none => .bad)
    | _ => .bad)
  | _, _ => .bad
theorem RA.set {K : PySem.W.Frag} {β : Mu} {H : Hp} {v : V} {d : D} (r : R K β H v d) : ∀ {vs : List V} {ds : List D} (j : Nat), RA K β H vs ds → RA K β H (vs.set j v) (ds.set j d)
  | _, _, _, .nil => .nil
  | _, _, 0, .cons _ ra => .cons r ra
  | _, _, j + 1, .cons a ra => .cons a (RA.set r j ra)
section
variable {X : Cx} {P : Pm} {E : XK} {pos : Pos} {a b : Expr} {F G J : Fn D} {es : List Expr} {A : Fn (List D)} {ss : List Stmt} {S : Sn}
theorem ed_lstM (h : EA X P E es A) : ED X P E (.List es pos) (fNew A) := by
  refine pe_imp (pe_lst h) ?_
  rintro σ H Q ⟨β, δ, bx, ev, g, o⟩
  refine a_bind ev g o.x fun β1 bx1 xs ds H1 l1 g1 r1 o1 => ?_
  split at o1
  · rename_i hl
    exact ⟨by rw [r1.length]; exact leM hl, fun p hp => o1 _ _ (.cell hp) (g1.cell hp r1) _ (.cell g1.ln)⟩
  · exact o1.elim
theorem ed_listM {p : Pos} (hg : Gl X "list") (hm : X.mg "list" = none) (hv : bootBuiltins "list" = some (.type "list")) (ha : ED X P E a F)
    (he : starEach (a :: []) X.env = (false, eval a X.env) :: starEach [] X.env := by rfl) (hpl : (backTo pos (starEach [] X.env)).any (·.1) = false := by rfl) : ED X P E (.Call (.Name "list" p) [a] [] pos) (fNewOf F) := by
  refine pe_imp (pe_callTy call_list_of hg hm hv (ea_cons ha ea_nil he) (by decide) (by decide) he hpl) ?_
  rintro σ H Q ⟨β, δ, bx, ev, g, o⟩
  have o' : OutX P X.K β H (bnd (fCons F (pur [])) (fun ds => match ds with | [d] => (fun _ bx => match vs bx d with | some ds => .ok (.ref bx.length) (bx ++ [.lst ds]) | none => .bad) | _ => fun _ _ => .bad) δ bx) E fun d β' _ H' => ∀ v, R X.K β' H' v d → Q v H' := by
    have o := o.x
    unfold fNewOf at o
    cases hF : F δ bx with
    | ok d bx1 => rw [bnd_ok hF] at o; rw [bnd_ok (show fCons F (pur []) δ bx = .ok [d] bx1 from bnd_ok hF)]; exact o
    | err c d bx1 => rw [bnd_err hF] at o; rw [bnd_err (show fCons F (pur []) δ bx = .err c d bx1 from bnd_err hF)]; exact o
    | bad => rw [bnd_bad hF] at o; exact o.elim
  refine a_bind ev g o' fun β1 bx1 xs ds H1 l1 g1 r1 o1 => ?_
  split at o1
  · obtain ⟨v, rfl, r⟩ := r1.one
    split at o1
    · rename_i ds hd
      obtain ⟨a, ys, rfl, s, ra⟩ := r.vs g1 hd
      exact ⟨a, ys, rfl, s, fun p hp => o1 _ _ (.cell hp) (g1.cell hp ra) _ (.cell g1.ln)⟩
    · exact o1.elim
  · exact o1.elim
theorem ssd_frz (i : Nat) (h : SSD X P E ss S) : SSD X P E ss (sSeq (sFrz i) S) := by
  refine pss_imp h ?_
  rintro Z σ H ⟨β, δ, bx, ev, g, o⟩
  unfold sSeq sFrz at o
  split at o
  · rename_i o'
    split at o'
    · rename_i k hk
      split at o'
      · rename_i l hl
        cases o'
        obtain ⟨v, h1, h2⟩ := ev.at_ i _ hk
        obtain ⟨a, xs, rfl, h3, h4, h5⟩ := h2.live g hl
        refine ⟨β.frz k a, _, _, ?_, g.frz h3, OutS.le (.frz h3) o⟩
        have e2 : Ev X.K (β.frz k a) H σ δ := ev.le (.frz h3)
        have e3 := e2.set i (.lst ⟨.inl h4, frz_ok g h3⟩ (h5.le (.frz h3)))
        have e4 : σ.set i (some (V.ref a)) = σ := by
          refine List.ext_getElem? fun j => ?_
          by_cases z : i = j
          · subst z
            rw [List.getElem?_set_self (List.getElem?_eq_some_iff.mp h1).1, h1]
          · rw [List.getElem?_set_ne z]
        rw [e4] at e3
        exact e3
      · cases o'
    · cases o'
  all_goals first
    | exact o.elim
    | (rename_i o'; split at o' <;> first | (split at o' <;> cases o') | cases o')
theorem sd_app {apos cpos : Pos} (ha : ED X P E a F) (hb : ED X P E b G)
    (hbase : attributeBase a "append" X.env (eval a X.env) = eval a X.env := by rfl)
    (hfew : ((backTo cpos (starEach [b] X.env)).all (fun x => !x.1) && (backToKw cpos (keywordEach [] X.env)).all (fun x => x.1.isSome)
      && decide ([b].length + ([] : List Keyword).length + (if ([] : List Keyword).isEmpty then 0 else 1) < 30)) = true := by rfl)
    (hline : (apos.endLine == cpos.line) = true := by rfl) (hs : starEach [b] X.env = (false, eval b X.env) :: starEach [] X.env := by rfl) (hplain : (backTo cpos (starEach [] X.env)).any (·.1) = false := by rfl)
    (hsw : swapsWith (.Call (.Attribute a "append" apos) [b] [] cpos) none pos.line X.env = pure false := by rfl) :
    SD X P E (.Expr (.Call (.Attribute a "append" apos) [b] [] cpos) pos) (sApp F G) := by
  refine ps_imp (ps_expr (pe_bm PySem.F.plainAttrs_list PySem.F.slot_list_append PySem.F.type_list_append mt_append ha (ea_cons hb ea_nil hs) hbase hfew hline hs hplain) hsw) ?_
  rintro Z σ H ⟨β, δ, bx, ev, g, o⟩
  refine sd_bind ev g o fun β1 bx1 x d H1 l1 g1 r1 o1 => ?_
  cases d with
  | ref k =>
    dsimp only at o1
    split at o1
    · rename_i l0 hl0
      obtain ⟨a, xs, rfl, _, h4, _⟩ := r1.live g1 hl0
      refine ⟨.inl ⟨rfl, xs, SqL.of h4⟩, ?_⟩
      rw [← sOf_cons] at o1
      refine sa_bind (ev.le l1) g1 o1 fun β2 bx2 ys ds H2 l2 g2 r2 o3 => ?_
      split at o3
      · obtain ⟨y, rfl, ry⟩ := r2.one
        unfold appK at o3
        split at o3
        · rename_i l hl
          split at o3
          · rename_i hlen
            obtain ⟨a', xs', e, h5, h6, h7⟩ := (r1.le l2).live g2 hl
            cases e
            refine ⟨a, xs', y, rfl, rfl, h6, ?_, o3 β2 _ _ (.put h5 h6) (g2.put h5 h6 (h7.append (.cons ry .nil))) (((ev.le l1).le l2).upd fun z => z.1 (List.mem_of_getElem? h5))⟩
            rw [h7.length]
            rw [sizeLine_eq]
            omega
          · exact o3.elim
        · exact o3.elim
      · exact o3.elim
    · exact o1.elim
  | non => exact o1.elim
  | bl _ => exact o1.elim
  | int _ => exact o1.elim
  | str _ => exact o1.elim
  | lst _ => exact o1.elim
  | tup _ => exact o1.elim
  | fn _ => exact o1.elim
  | scr _ => exact o1.elim
theorem sd_put {e o i : Expr} {p3 : Pos} (he : ED X P E e F) (ho : ED X P E o G) (hi : ED X P E i J)
    (hs : swapsWithSole [.Subscript o i p3] e pos.line X.env = pure false := by rfl) (hw : swappedStores [.Subscript o i p3] e X.env = pure none := by rfl)
    (h1 : (assignEach [.Subscript o i p3] X.env).map (·.2) = [assign (.Subscript o i p3) X.env] := by rfl)
    (ha : ∀ v, assign (.Subscript o i p3) X.env v = (do
      let ov ← holding [v] (eval o X.env)
      let iv ← holding [v, ov] (eval i X.env)
      standAt p3
      holding [v, ov, iv] (setItem ov iv v)
      release [v, ov, iv] []) := by intro _; rfl) :
    SD X P E (.Assign [.Subscript o i p3] e pos) (sPut F G J) := by
  refine ps_imp (ps_asg he (pg_sub ho hi set_list ha) hs hw h1) ?_
  rintro Z σ H ⟨β, δ, bx, ev, g, o⟩
  refine sd_bind ev g o fun β1 bx1 v d1 H1 l1 g1 r1 o1 => ?_
  refine sd_bind (ev.le l1) g1 o1 fun β2 bx2 x d H2 l2 g2 r2 o2 => ?_
  refine sd_bind ((ev.le l1).le l2) g2 o2 fun β3 bx3 y d3 H3 l3 g3 r3 o3 => ?_
  split at o3
  · rename_i k i'
    split at o3
    · rename_i l hl
      split at o3
      · rename_i j hj
        obtain ⟨a, xs, e, h5, h6, h7⟩ := (r2.le l3).live g3 hl
        subst e
        exact ⟨a, xs, i', j, rfl, r3.int_inv, h6, by rw [h7.length]; exact hj, o3 β3 _ _ (.put h5 h6) (g3.put h5 h6 (RA.set ((r1.le l2).le l3) j h7)) ((((ev.le l1).le l2).le l3).upd fun z => z.1 (List.mem_of_getElem? h5))⟩
      · exact o3.elim
    · exact o3.elim
  · exact o3.elim
end
end Ms

end
section
set_option Elab.async false
set_option linter.all false
set_option maxRecDepth 100000
set_option maxHeartbeats 4000000
namespace Ms
open PySem PySem.Spec PyProof.Rows L2 RZ
/-! ### what is walked: data one behind another -/
structure Wk (K : PySem.W.Frag) (T : Tb) (β0 : Mu) (H0 : Hp) (J : It) (ds : List D) : Prop where
  goes : ∀ (i : Nat) (β : Mu) (st : Sto) (H : Hp), i < ds.length → Le β0 H0 β H → Good K T β st H → J.go i H
  yields : ∀ (i : Nat) (d : D) (β : Mu) (st : Sto) (H : Hp) (x : V) (H' : Hp), ds[i]? = some d → Le β0 H0 β H → Good K T β st H → J.yld i H x H' → (∀ b o, H b = some o → H' b = some o) ∧ R K β H' x d
  stops : ∀ (β : Mu) (st : Sto) (H : Hp), Le β0 H0 β H → Good K T β st H → J.stop ds.length H
def tDL (K : PySem.W.Frag) (P : Pm) (E : XK) (F : Fn (List D)) : TI := fun σ H Rr => ∃ β δ bx, Ev K β H σ δ ∧ Good K P.T β bx H ∧ OutX P K β H (F δ bx) E fun ds β' bx' H1 => Good K P.T β' bx' H1 → ∀ J, Wk K P.T β' H1 J ds → Rr J H1
theorem pi_imp {X : Cx} {tg it : Expr} {t t' : TI} (h : PI X tg it t) (k : ∀ σ H Q, t' σ H Q → t σ H Q) : PI X tg it t' := ⟨fun pins s σ H Q I q => h.run pins s σ H Q I (k σ H Q q)⟩
abbrev EI (X : Cx) (P : Pm) (E : XK) (tg it : Expr) (F : Fn (List D)) : Prop := PI X tg it (tDL X.K P E F)
def rgl (lo : Int) (n : Nat) : List D := (List.range n).map fun (i : Nat) => D.int (lo + i)
theorem rgl_get {lo : Int} {n i : Nat} {d : D} (h : (rgl lo n)[i]? = some d) : d = .int (lo + i) := by
  unfold rgl at h
  rw [List.getElem?_map] at h
  cases hr : (List.range n)[i]? with
  | none => rw [hr] at h; cases h
  | some j =>
    rw [hr] at h
    cases h
    obtain ⟨h1, h2⟩ := List.getElem?_eq_some_iff.mp hr
    rw [List.getElem_range] at h2
    rw [h2]
theorem rgl_len {lo : Int} {n : Nat} : (rgl lo n).length = n := by unfold rgl; rw [List.length_map, List.length_range]
section
variable {K : PySem.W.Frag} {T : Tb} {β : Mu} {H : Hp}
theorem wk_range (lo : Int) (n : Nat) : Wk K T β H (Itr lo n) (rgl lo n) := ⟨fun i β st H hi _ _ => by rw [rgl_len] at hi; exact hi, fun i d β st H x H' hd _ _ y => by
    obtain ⟨rfl, rfl⟩ := y
    rw [rgl_get hd]
    exact ⟨fun _ _ h => h, .int _⟩, fun β st H _ _ => by rw [rgl_len]; exact Nat.le_refl _⟩
theorem wk_list {a : Addr} {xs : List V} {ds : List D} (s : SL β H a xs) (ra : RA K β H xs ds) : Wk K T β H (Itl K a) ds := ⟨fun i β' st H' hi l _ => ⟨xs, xs[i]'(by rw [ra.length]; exact hi), (s.le l).sq, by simp⟩, fun i d β' st H' x H2 hd l g y => by
    obtain ⟨rfl, h⟩ := y
    obtain ⟨v, h1, h2⟩ := ra.get hd
    have := h xs (s.le l).sq
    rw [h1] at this
    cases this
    exact ⟨fun _ _ h => h, h2.le l⟩, fun β' st H' l _ => ⟨xs, (s.le l).sq, by rw [ra.length]; exact Nat.le_refl _⟩⟩
theorem wk_scr {a : Addr} {ns : List Int} (s : SS K β H a (ns.map V.int)) : Wk K T β H (Itl K a) (ns.map D.int) := ⟨fun i β' st H' hi l _ => ⟨ns.map V.int, (ns.map V.int)[i]'(by rw [List.length_map] at hi ⊢; exact hi), (s.le l).sq, by simp⟩, fun i d β' st H' x H2 hd l g y => by
    obtain ⟨rfl, h⟩ := y
    obtain ⟨v, h1, h2⟩ := (RA.ints (K := K) (β := β') (H := H2) ns).get hd
    have := h _ (s.le l).sq
    rw [h1] at this
    cases this
    exact ⟨fun _ _ h => h, h2⟩, fun β' st H' l _ => ⟨_, (s.le l).sq, by rw [List.length_map, List.length_map]; exact Nat.le_refl _⟩⟩
theorem wk_tup {a : Addr} {xs : List V} {ds : List D} (s : ST β H a xs) (ra : RA K β H xs ds) : Wk K T β H (Itt K a) ds := ⟨fun i β' st H' hi l _ => ⟨xs, xs[i]'(by rw [ra.length]; exact hi), (s.le l).sq, by simp⟩, fun i d β' st H' x H2 hd l g y => by
    obtain ⟨rfl, h⟩ := y
    obtain ⟨v, h1, h2⟩ := ra.get hd
    have := h xs (s.le l).sq
    rw [h1] at this
    cases this
    exact ⟨fun _ _ h => h, h2.le l⟩, fun β' st H' l _ => ⟨xs, (s.le l).sq, by rw [ra.length]; exact Nat.le_refl _⟩⟩
def signs (x : Str) : List D := x.cps.toList.map fun c => D.str ⟨#[c]⟩
theorem wk_str {x : Str} : Wk K T β H (Its x) (signs x) := ⟨fun i β st H hi _ _ => by simpa [signs, Its] using hi, fun i d β st H v H' hd _ _ y => by
    obtain ⟨rfl, c, hc, rfl⟩ := y
    unfold signs at hd
    rw [List.getElem?_map, Array.getElem?_toList, hc] at hd
    cases hd
    exact ⟨fun _ _ h => h, .str _⟩, fun β st H _ _ => by simp [signs, Its]⟩
def zipD : List D → List D → List D
  | x :: r, y :: t => .tup [x, y] :: zipD r t
  | _, _ => []
theorem zip_get : ∀ {ds es : List D} {i : Nat} {z : D}, (zipD ds es)[i]? = some z → ∃ x y, z = .tup [x, y] ∧ ds[i]? = some x ∧ es[i]? = some y
  | x :: r, y :: t, 0, z, h => by cases h; exact ⟨x, y, rfl, rfl, rfl⟩
  | x :: r, y :: t, i + 1, z, h => by
    obtain ⟨u, v, h1, h2, h3⟩ := zip_get (ds := r) (es := t) (i := i) h
    exact ⟨u, v, h1, h2, h3⟩
  | [], _, _, _, h => by simp [zipD] at h
  | _ :: _, [], _, _, h => by simp [zipD] at h
theorem zip_len : ∀ {ds es : List D}, (zipD ds es).length = min ds.length es.length
  | [], es => by simp [zipD]
  | _ :: _, [] => by simp [zipD]
  | x :: r, y :: t => by
    simp only [zipD, List.length_cons]
    rw [zip_len (ds := r) (es := t)]
    omega
theorem wk_zipL {a b : Addr} {xs ys : List V} {ds es : List D} (s : SL β H a xs) (s2 : SL β H b ys) (ra : RA K β H xs ds) (rb : RA K β H ys es) : Wk K T β H (Itz K a b) (zipD ds es) := ⟨fun i β' st H' hi l _ => by
    rw [zip_len] at hi
    exact ⟨xs, ys, xs[i]'(by rw [ra.length]; omega), ys[i]'(by rw [rb.length]; omega), (s.le l).sq, (s2.le l).sq, by simp, by simp⟩, fun i d β' st H' v H2 hd l g y => by
    obtain ⟨Tt, x, y, rfl, hT, rfl, h1, h2⟩ := y
    obtain ⟨p, q, rfl, h3, h4⟩ := zip_get hd
    obtain ⟨x', e1, r1⟩ := ra.get h3
    obtain ⟨y', e2, r2⟩ := rb.get h4
    have z1 := h1 xs (s.le l).sq
    have z2 := h2 ys (s2.le l).sq
    rw [e1] at z1
    rw [e2] at z2
    cases z1
    cases z2
    exact ⟨keep_new hT, .tup ⟨.inl upd_same, g.ne hT⟩ (.cons ((r1.le l).le (.new hT)) (.cons ((r2.le l).le (.new hT)) .nil))⟩, fun β' st H' l _ => by
    refine ⟨xs, ys, (s.le l).sq, (s2.le l).sq, ?_⟩
    rw [zip_len, ra.length, rb.length]
    omega⟩
theorem wk_zipT {a b : Addr} {xs ys : List V} {ds es : List D} (s : ST β H a xs) (s2 : ST β H b ys) (ra : RA K β H xs ds) (rb : RA K β H ys es) : Wk K T β H (ItzT K a b) (zipD ds es) := ⟨fun i β' st H' hi l _ => by
    rw [zip_len] at hi
    exact ⟨xs, ys, xs[i]'(by rw [ra.length]; omega), ys[i]'(by rw [rb.length]; omega), (s.le l).sq, (s2.le l).sq, by simp, by simp⟩, fun i d β' st H' v H2 hd l g y => by
    obtain ⟨Tt, x, y, rfl, hT, rfl, h1, h2⟩ := y
    obtain ⟨p, q, rfl, h3, h4⟩ := zip_get hd
    obtain ⟨x', e1, r1⟩ := ra.get h3
    obtain ⟨y', e2, r2⟩ := rb.get h4
    have z1 := h1 xs (s.le l).sq
    have z2 := h2 ys (s2.le l).sq
    rw [e1] at z1
    rw [e2] at z2
    cases z1
    cases z2
    exact ⟨keep_new hT, .tup ⟨.inl upd_same, g.ne hT⟩ (.cons ((r1.le l).le (.new hT)) (.cons ((r2.le l).le (.new hT)) .nil))⟩, fun β' st H' l _ => by
    refine ⟨xs, ys, (s.le l).sq, (s2.le l).sq, ?_⟩
    rw [zip_len, ra.length, rb.length]
    omega⟩
def enumD : Nat → List D → List D
  | _, [] => []
  | i, x :: r => .tup [.int (i : Nat), x] :: enumD (i + 1) r
theorem enum_get : ∀ {k : Nat} {ds : List D} {i : Nat} {z : D}, (enumD k ds)[i]? = some z → ∃ x, z = .tup [.int ((k + i : Nat) : Int), x] ∧ ds[i]? = some x
  | k, x :: r, 0, z, h => by cases h; exact ⟨x, rfl, rfl⟩
  | k, x :: r, i + 1, z, h => by
    obtain ⟨u, h1, h2⟩ := enum_get (k := k + 1) (ds := r) (i := i) h
    exact ⟨u, by rw [h1]; have : k + 1 + i = k + (i + 1) := by omega
                 rw [this], h2⟩
  | _, [], _, _, h => by simp [enumD] at h
theorem enum_len : ∀ {k : Nat} {ds : List D}, (enumD k ds).length = ds.length
  | _, [] => rfl
  | k, x :: r => by simp only [enumD, List.length_cons]; rw [enum_len (k := k + 1) (ds := r)]
theorem wk_enumL {a : Addr} {xs : List V} {ds : List D} (s : SL β H a xs) (ra : RA K β H xs ds) : Wk K T β H (Ite K a) (enumD 0 ds) := ⟨fun i β' st H' hi l _ => by
    rw [enum_len] at hi
    exact ⟨xs, xs[i]'(by rw [ra.length]; omega), (s.le l).sq, by simp⟩, fun i d β' st H' v H2 hd l g y => by
    obtain ⟨Tt, x, rfl, hT, rfl, h1⟩ := y
    obtain ⟨p, rfl, h3⟩ := enum_get hd
    obtain ⟨x', e1, r1⟩ := ra.get h3
    have z1 := h1 xs (s.le l).sq
    rw [e1] at z1
    cases z1
    rw [Nat.zero_add]
    exact ⟨keep_new hT, .tup ⟨.inl upd_same, g.ne hT⟩ (.cons (.int _) (.cons ((r1.le l).le (.new hT)) .nil))⟩, fun β' st H' l _ => ⟨xs, (s.le l).sq, by rw [enum_len, ra.length]; exact Nat.le_refl _⟩⟩
end
/-- a list, a tuple, a text -/
def iAny (K : PySem.W.Frag) (tl : TE) : TI := fun σ H Rr => tl σ H fun x H1 => (∃ a, x = .ref a ∧ (∃ xs, SqL K H1 a xs) ∧ Rr (Itl K a) H1) ∨ (∃ a, x = .ref a ∧ (∃ xs, SqT K H1 a xs) ∧ Rr (Itt K a) H1) ∨ (∃ w, x = .str w ∧ Rr (Its w) H1)
theorem pi_any {X : Cx} {tg l : Expr} {tl : TE} (hl : PE X l tl) : PI X tg l (iAny X.K tl) := by
  refine ⟨fun pins s σ H Rr I h => ?_⟩
  refine thn (hl.run pins s σ H _ I h) fun v s1 ⟨x, H1, I1, r1, q1⟩ => ?_
  rcases q1 with ⟨a, e, ⟨xs, hq⟩, q⟩ | ⟨a, e, ⟨xs, hq⟩, q⟩ | ⟨w, e, q⟩
  · subst e
    cases r1
    obtain ⟨its, rv, p, hz⟩ := I1.list hq
    refine wpAny_pyIter_list p.isList ?_
    refine ⟨s1.heap.objs.size, [s1.heap.objs.size], _, _, H1, rfl, I1.kept (t' := s1.toks) fun b o e => Heap.get?_push_of_some _ e, turn_list a _, ⟨_, Heap.get?_push_size _ rfl, rfl, rfl⟩, fun b hb => ?_, q⟩
    have e : b = s1.heap.objs.size := by simpa using hb
    subst e
    exact I1.fpOk (Nat.le_refl _) (I1.hok.fresh (Nat.le_refl _))
  · subst e
    cases r1
    obtain ⟨its, rv, p, hz⟩ := I1.tuple hq
    refine wpAny_pyIter_tuple (show s1.heap.IsTuple a its.toArray from p) ?_
    refine ⟨s1.heap.objs.size, [s1.heap.objs.size], _, _, H1, rfl, I1.kept (t' := s1.toks) fun b o e => Heap.get?_push_of_some _ e, turn_tuple a _, ⟨_, Heap.get?_push_size _ rfl, rfl, rfl⟩, fun b hb => ?_, q⟩
    have e : b = s1.heap.objs.size := by simpa using hb
    subst e
    exact I1.fpOk (Nat.le_refl _) (I1.hok.fresh (Nat.le_refl _))
  · subst e
    obtain ⟨t, rfl⟩ := r1
    cases ha : w.cps.all (· < 128)
    · exact wpAny_pyIter_wide ha (pi_one (tk := s1.toks) I1 _ (turn_str _ w t "str_iterator" (.inr rfl)) ⟨_, Heap.get?_push_size _ rfl, rfl, rfl⟩ q)
    · exact wpAny_pyIter_ascii ha (pi_one (tk := s1.toks) I1 _ (turn_str _ w t "str_ascii_iterator" (.inl rfl)) ⟨_, Heap.get?_push_size _ rfl, rfl, rfl⟩ q)
def wlk : D → Option (List D)
  | .lst l => some l
  | .tup l => some l
  | .scr l => some (l.map D.int)
  | .str x => some (signs x)
  | _ => none
def fWk (F : Fn D) : Fn (List D) := bnd F fun d => lft (wlk d)
def fRg1 (A : Fn (List D)) : Fn (List D) := bnd A fun ds => fun _ bx => match ds with
  | [.int j] => if -(2 ^ 62) ≤ j ∧ j < 2 ^ 62 then .ok (rgl 0 j.toNat) bx else .bad
  | _ => .bad
def fRg2 (A : Fn (List D)) : Fn (List D) := bnd A fun ds => fun _ bx => match ds with
  | [.int i, .int j] => if -(2 ^ 62) ≤ i ∧ i < 2 ^ 62 ∧ -(2 ^ 62) ≤ j ∧ j < 2 ^ 62 then .ok (rgl i (j - i).toNat) bx else .bad
  | _ => .bad
def fZip (A : Fn (List D)) : Fn (List D) := bnd A fun ds => fun _ bx => match ds with
  | [.lst l, .lst m] => .ok (zipD l m) bx
  | [.tup l, .tup m] => .ok (zipD l m) bx
  | _ => .bad
def fEnum (A : Fn (List D)) : Fn (List D) := bnd A fun ds => fun _ bx => match ds with
  | [.lst l] => .ok (enumD 0 l) bx
  | _ => .bad
section
variable {X : Cx} {P : Pm} {E : XK} {pos : Pos} {tg a b : Expr} {A : Fn (List D)} {F : Fn D}
theorem ei_any_imp {K : PySem.W.Frag} {P : Pm} {E : XK} {F : Fn D} : ∀ {σ : L2.St} {H : Hp} {Q : It → Hp → Prop}, tDL K P E (fWk F) σ H Q → iAny K (tD K P E F) σ H Q := by
  rintro σ H Q ⟨β, δ, bx, ev, g, o⟩
  refine d_bind ev g o fun β1 bx1 x d H1 l1 g1 r1 o1 => ?_
  obtain ⟨ds, hd, k⟩ := OutX.lft' o1
  have q := k β1 H1 .refl g1 g1
  cases r1 with
  | lst s ra => cases hd; exact .inl ⟨_, rfl, ⟨_, s.sq⟩, q _ (wk_list s ra)⟩
  | tup s ra => cases hd; exact .inr (.inl ⟨_, rfl, ⟨_, s.sq⟩, q _ (wk_tup s ra)⟩)
  | scr s => cases hd; exact .inl ⟨_, rfl, ⟨_, s.sq⟩, q _ (wk_scr s)⟩
  | str x => cases hd; exact .inr (.inr ⟨_, rfl, q _ wk_str⟩)
  | non => cases hd
  | bl _ => cases hd
  | int _ => cases hd
  | ref _ => cases hd
  | fn _ _ => cases hd
theorem ei_any (ha : ED X P E a F) : EI X P E tg a (fWk F) := pi_imp (pi_any ha) fun _ _ _ h => ei_any_imp h
theorem ei_rg1 {p : Pos} (hg : Gl X "range") (hm : X.mg "range" = none) (ha : EA X P E [a] A) (hs : starEach [a] X.env = [(false, eval a X.env)] := by rfl) : EI X P E tg (.Call (.Name "range" p) [a] [] pos) (fRg1 A) := by
  refine pi_imp (pi_range1 hg hm ha hs) ?_
  rintro σ H Q ⟨β, δ, bx, ev, g, o⟩
  refine a_bind ev g o fun β1 bx1 xs ds H1 l1 g1 r1 o1 => ?_
  split at o1
  · split at o1
    · rename_i j hj
      obtain ⟨v, rfl, r⟩ := r1.one
      exact ⟨j, by rw [r.int_inv], hj.1, hj.2, o1 β1 H1 .refl g1 g1 _ (wk_range _ _)⟩
    · exact o1.elim
  · exact o1.elim
theorem ei_rg2 {p : Pos} (hg : Gl X "range") (hm : X.mg "range" = none) (ha : EA X P E [a, b] A) (hs : starEach [a, b] X.env = [(false, eval a X.env), (false, eval b X.env)] := by rfl) (hs2 : starEach [b] X.env = [(false, eval b X.env)] := by rfl) : EI X P E tg (.Call (.Name "range" p) [a, b] [] pos) (fRg2 A) := by
  refine pi_imp (pi_range2 hg hm ha hs hs2) ?_
  rintro σ H Q ⟨β, δ, bx, ev, g, o⟩
  refine a_bind ev g o fun β1 bx1 xs ds H1 l1 g1 r1 o1 => ?_
  split at o1
  · split at o1
    · rename_i i j hj
      obtain ⟨v, w, rfl, r, r'⟩ := r1.two
      exact ⟨i, j, by rw [r.int_inv, r'.int_inv], hj, o1 β1 H1 .refl g1 g1 _ (wk_range _ _)⟩
    · exact o1.elim
  · exact o1.elim
theorem ei_zip {p tpos : Pos} {elts : List Expr} {kk : Nat} (hg : Gl X "zip") (hm : X.mg "zip" = none) (ha : EA X P E [a, b] A)
    (hs : starEach [a, b] X.env = (false, eval a X.env) :: starEach [b] X.env := by rfl) (hpl : (backTo pos (starEach [b] X.env)).any (·.1) = false := by rfl) : EI X P E (.Tuple elts kk tpos) (.Call (.Name "zip" p) [a, b] [] pos) (fZip A) := by
  refine pi_imp (pi_zipA hg hm ha hs hpl) ?_
  rintro σ H Q ⟨β, δ, bx, ev, g, o⟩
  refine a_bind ev g o fun β1 bx1 xs ds H1 l1 g1 r1 o1 => ?_
  split at o1
  · obtain ⟨v, w, rfl, r, r'⟩ := r1.two
    have q := o1 β1 H1 .refl g1 g1
    cases r with
    | lst s ra => cases r' with
      | lst s2 rb => exact ⟨_, _, _, _, rfl, .inl ⟨s.sq, s2.sq, q _ (wk_zipL s s2 ra rb)⟩⟩
  · obtain ⟨v, w, rfl, r, r'⟩ := r1.two
    have q := o1 β1 H1 .refl g1 g1
    cases r with
    | tup s ra => cases r' with
      | tup s2 rb => exact ⟨_, _, _, _, rfl, .inr ⟨s.sq, s2.sq, q _ (wk_zipT s s2 ra rb)⟩⟩
  · exact o1.elim
theorem ei_enum {p tpos : Pos} {elts : List Expr} {kk : Nat} (hg : Gl X "enumerate") (hm : X.mg "enumerate" = none) (ha : EA X P E [a] A) (hs : starEach [a] X.env = [(false, eval a X.env)] := by rfl) : EI X P E (.Tuple elts kk tpos) (.Call (.Name "enumerate" p) [a] [] pos) (fEnum A) := by
  refine pi_imp (pi_enum hg hm ha hs) ?_
  rintro σ H Q ⟨β, δ, bx, ev, g, o⟩
  refine a_bind ev g o fun β1 bx1 xs ds H1 l1 g1 r1 o1 => ?_
  split at o1
  · obtain ⟨v, rfl, r⟩ := r1.one
    have q := o1 β1 H1 .refl g1 g1
    cases r with
    | lst s ra => exact ⟨_, _, rfl, s.sq, q _ (wk_enumL s ra)⟩
  · exact o1.elim
end
/-! ### what a turn binds -/
abbrev Bd := Sto → List (Option D) → D → Option (List (Option D))
def bOne (i : Nat) : Bd := fun _ δ d => some (δ.set i (some d))
def bTup (is : List Nat) : Bd := fun bx δ d => (vs bx d).bind fun l => setAll is l δ
/-- the target t binds the slots is, by b -/
def GD (K : PySem.W.Frag) (t : TG) (is : List Nat) (b : Bd) : Prop := ∀ (T : Tb) (β : Mu) (st : Sto) (δ δ' : List (Option D)) (σ : L2.St) (H : Hp) (v : V) (d : D) (Q : L2.St → Hp → Prop), Ev K β H σ δ → Good K T β st H → R K β H v d → b st δ d = some δ' →
  (∀ σ', Ev K β H σ' δ' → (∀ vs, (∀ i ∈ is, i ∈ vs) → wipe σ' vs = wipe σ vs) → Q σ' H) → t v σ H Q
theorem wipe_get (σ : L2.St) : ∀ (vs : List Nat) (j : Nat), (wipe σ vs)[j]? = if j ∈ vs ∧ j < σ.length then some none else σ[j]?
  | [], j => by simp [wipe]
  | v :: vs, j => by
    show ((wipe σ vs).set v none)[j]? = _
    by_cases h : v = j
    · subst h
      by_cases hl : v < σ.length
      · rw [List.getElem?_set_self (by rw [wipe_length]; exact hl), if_pos ⟨List.mem_cons_self, hl⟩]
      · rw [List.getElem?_eq_none (by rw [List.length_set, wipe_length]; omega), if_neg (fun z => hl z.2), List.getElem?_eq_none (by omega)]
    · rw [List.getElem?_set_ne h, wipe_get σ vs j]
      by_cases hj : j ∈ vs ∧ j < σ.length
      · rw [if_pos hj, if_pos ⟨List.mem_cons_of_mem _ hj.1, hj.2⟩]
      · rw [if_neg hj, if_neg (fun z => hj ⟨(List.mem_cons.mp z.1).resolve_left (Ne.symm h), z.2⟩)]
theorem wipe_set {σ : L2.St} {i : Nat} {o : Option V} {vs : List Nat} (h : i ∈ vs) : wipe (σ.set i o) vs = wipe σ vs := by
  refine List.ext_getElem? fun j => ?_
  rw [wipe_get, wipe_get, List.length_set]
  by_cases hj : j ∈ vs ∧ j < σ.length
  · rw [if_pos hj, if_pos hj]
  · rw [if_neg hj, if_neg hj]
    by_cases e : i = j
    · subst e
      have : ¬ i < σ.length := fun z => hj ⟨h, z⟩
      rw [List.getElem?_eq_none (by rw [List.length_set]; omega), List.getElem?_eq_none (by omega)]
    · rw [List.getElem?_set_ne e]
theorem gd_one {K : PySem.W.Frag} (i : Nat) : GD K (gName i) [i] (bOne i) := fun T β st δ δ' σ H v d Q ev g r hb k => by
  cases hb
  exact k _ (ev.set i r) fun vs h => wipe_set (h i List.mem_cons_self)
theorem tNames_ofW {K : PySem.W.Frag} {β : Mu} {H : Hp} {Z : L2.St → Hp → Prop} : ∀ {is : List Nat} {ds : List D} {δ δ' : List (Option D)} {vs : List V} {σ : L2.St}, setAll is ds δ = some δ' → RA K β H vs ds → Ev K β H σ δ → (∀ σ', Ev K β H σ' δ' → (∀ ws, (∀ i ∈ is, i ∈ ws) → wipe σ' ws = wipe σ ws) → Z σ' H) → tNames is vs σ H Z
  | [], [], δ, δ', vs, σ, h, r, ev, k => by
    cases r
    cases h
    exact ⟨rfl, k σ ev fun _ _ => rfl⟩
  | [], _ :: _, _, _, _, _, h, _, _, _ => by cases h
  | _ :: _, [], _, _, _, _, h, _, _, _ => by cases h
  | i :: is, d :: ds, δ, δ', _, σ, h, .cons (v := v) (vs := vs) r ra, ev, k => ⟨v, vs, rfl, tNames_ofW (is := is) h ra (ev.set i r) fun σ' ev' hw => k σ' ev' fun ws hm => (hw ws fun j hj => hm j (List.mem_cons_of_mem _ hj)).trans (wipe_set (hm i List.mem_cons_self))⟩
abbrev gTL (K : PySem.W.Frag) (n : Nat) (is : List Nat) : TG := fun v σ H Q => gTup K n (tNames is) v σ H Q ∨ gLst K n (tNames is) v σ H Q
theorem gd_tup {K : PySem.W.Frag} (is : List Nat) {n : Nat} (hn : is.length = n) : GD K (gTL K n is) is (bTup is) := fun T β st δ δ' σ H v d Q ev g r hb k => by
  unfold bTup at hb
  cases hl : vs st d with
  | none => rw [hl] at hb; cases hb
  | some l =>
    rw [hl] at hb
    replace hb : setAll is l δ = some δ' := hb
    obtain ⟨a, xs, rfl, s, ra⟩ := r.vs g hl
    rcases s with s | s
    · exact .inr ⟨_, _, rfl, s, by rw [ra.length, ← hn]; exact setAll_len hb, tNames_ofW hb ra ev k⟩
    · exact .inl ⟨_, _, rfl, s, by rw [ra.length, ← hn]; exact setAll_len hb, tNames_ofW hb ra ev k⟩
theorem pg_tl {X : Cx} {is : List Nat} {kk : Nat} {p : Pos} {tgs : List Expr} {n : Nat} (hc : X.calm = true) (ht : PGs X tgs (tNames is)) (hn : (assignEach tgs X.env).length = n := by rfl) (hst : (assignEach tgs X.env).findIdx? (·.1) = none := by rfl) : PG X (.Tuple tgs kk p) (gTL X.K n is) :=
  pg_or (pg_tup hc ht hn hst) (pg_lst hc ht hn hst)
/-! ### for -/
def forL (b : Bd) (S : Sn) : List D → Sn
  | [], δ, bx => .nx δ bx
  | d :: r, δ, bx => match b bx δ d with
    | none => .bad
    | some δ1 => match S δ1 bx with
      | .nx δ' bx' => forL b S r δ' bx'
      | .rt e bx' => .rt e bx'
      | .er c e bx' => .er c e bx'
      | .bad => .bad
def sFor (b : Bd) (F : Fn (List D)) (S : Sn) : Sn := sOf F fun ds => forL b S ds
section
variable {X : Cx} {P : Pm} {E : XK} {pos : Pos}
theorem sd_for {t : TG} {is : List Nat} {b : Bd} {tg it : Expr} {body : List Stmt} {F : Fn (List D)} {S : Sn} (hp : PassesOwn (model X.prog X.w) X.A X.env X.xe) (hc : X.calm = true) (hi : EI X P E tg it F) (hg : PG X tg t) (hgd : GD X.K t is b) (hb : SSD X P E body S)
    (hs : ∀ x, foldedSetIterable it X.env x = pure x := by intro _; rfl) : SD X P E (.For tg it body [] pos) (sFor b F S) := by
  refine ps_imp (ps_for hp hc hi hg hb hs) ?_
  rintro Z σ H ⟨β, δ, bx, ev, g, o⟩
  refine ⟨β, δ, bx, ev, g, ?_⟩
  unfold sFor sOf at o
  cases hF : F δ bx with
  | bad =>
    rw [hF] at o
    exact o
  | err c d bx' =>
    rw [hF] at o
    exact o
  | ok ds bx1 =>
    rw [hF] at o
    intro β1 H1 l1 g1 _ J wk
    refine ⟨fun i m σ' H' => m = ds.length - i ∧ i ≤ ds.length ∧ ∃ β' δ' bx', Le β1 H1 β' H' ∧ Ev X.K β' H' σ' δ' ∧ Good X.K P.T β' bx' H' ∧ OutS X.K P β1 H1 (forL b S (ds.drop i) δ' bx') Z E, ⟨ds.length, rfl, Nat.zero_le _, β1, δ, bx1, .refl, ev.le l1, g1, OutS.le l1 (by simpa using o)⟩, ?_⟩
    rintro i m σ' H' ⟨rfl, hi, β', δ', bx', l, ev', g', o'⟩
    by_cases hlt : i < ds.length
    · refine .inr ⟨wk.goes i β' bx' H' hlt l g', fun σ2 H2 => ∃ β2 δ2 bx2, Le β1 H1 β2 H2 ∧ Ev X.K β2 H2 σ2 δ2 ∧ Good X.K P.T β2 bx2 H2 ∧ OutS X.K P β1 H1 (forL b S (ds.drop (i + 1)) δ2 bx2) Z E, fun σ2 H2 h => ⟨ds.length - (i + 1), by omega, rfl, hlt, h⟩, fun x H2 y => ?_⟩
      have hdi : ds[i]? = some ds[i] := List.getElem?_eq_getElem hlt
      obtain ⟨kp, rx⟩ := wk.yields i _ β' bx' H' x H2 hdi l g' y
      rw [List.drop_eq_getElem_cons hlt] at o'
      simp only [forL] at o'
      cases hbd : b bx' δ' ds[i] with
      | none =>
        rw [hbd] at o'
        exact o'.elim
      | some δ1 =>
        rw [hbd] at o'
        dsimp only at o'
        refine hgd P.T β' bx' δ' δ1 σ' H2 x _ _ (ev'.le (.of kp)) (g'.ext kp) rx hbd fun σ3 ev3 _ => ?_
        refine ⟨β', δ1, bx', ev3, g'.ext kp, ?_⟩
        have lk := l.trans (.of kp)
        cases hS : S δ1 bx' with
        | nx δ2 bx2 =>
          rw [hS] at o'
          exact fun β2 σ2 H4 l2 g2 ev2 => ⟨β2, δ2, bx2, lk.trans l2, ev2, g2, o'⟩
        | rt e b =>
          rw [hS] at o'
          exact fun β2 v H4 l2 g2 r => o' β2 v H4 (lk.trans l2) g2 r
        | er c e b =>
          rw [hS] at o'
          exact OutE.le lk o'
        | bad =>
          rw [hS] at o'
          exact o'
    · have e : i = ds.length := by omega
      subst e
      rw [List.drop_length] at o'
      exact .inl ⟨wk.stops β' bx' H' l g', o' β' σ' H' l g' ev'⟩
end
/-! ### list comprehensions -/
def unset : List Nat → List (Option D) → List (Option D)
  | [], δ => δ
  | i :: is, δ => (unset is δ).set i none
def lcGo (b : Bd) (δ : List (Option D)) (C : Fn Bool) (F : Fn D) : List D → Sto → List D → Res (List D)
  | [], bx, acc => .ok acc bx
  | d :: r, bx, acc => match b bx δ d with
    | none => .bad
    | some δ1 => match C δ1 bx with
      | .ok true bx1 => (match F δ1 bx1 with
        | .ok d bx2 => lcGo b δ C F r bx2 (acc ++ [d])
        | _ => .bad)
      | .ok false bx1 => lcGo b δ C F r bx1 acc
      | _ => .bad
def fLcA (is : List Nat) (b : Bd) (Fi : Fn (List D)) (C : Fn Bool) (F : Fn D) : Fn (List D) := bnd Fi fun ds => fun δ bx => if ds.length ≤ 1000000 then lcGo b (unset is δ) C F ds bx [] else .bad
def fLc (is : List Nat) (b : Bd) (Fi : Fn (List D)) (C : Fn Bool) (F : Fn D) : Fn D := bnd (fLcA is b Fi C F) fun l => pur (.lst l)
def fLcM (is : List Nat) (b : Bd) (Fi : Fn (List D)) (C : Fn Bool) (F : Fn D) : Fn D := bnd (fLcA is b Fi C F) fun l => fun _ bx => .ok (.ref bx.length) (bx ++ [.lst l])
theorem Ev.unset {K : PySem.W.Frag} {β : Mu} {H : Hp} {σ : L2.St} {δ : List (Option D)} (e : Ev K β H σ δ) : ∀ is : List Nat, Ev K β H (wipe σ is) (Ms.unset is δ)
  | [] => e
  | i :: is => (Ev.unset e is).none_ i
def LcK (K : PySem.W.Frag) (β : Mu) (H : Hp) (Q : VK) : List D → Mu → Sto → Hp → Prop := fun ds βi _ Hi => ∀ p xs, (∀ o, H p = some o → ∃ ps, o = .tbl ps) → p ∈ βi.ex → p ∉ β.ex → Hi p = some (.lst xs) → RA K βi Hi xs ds → Q (.ref p) Hi
theorem wipe_wipe (σ : L2.St) (is : List Nat) : wipe (wipe σ is) is = wipe σ is := by
  refine List.ext_getElem? fun j => ?_
  rw [wipe_get, wipe_length, wipe_get]
  by_cases hj : j ∈ is ∧ j < σ.length
  · rw [if_pos hj, if_pos hj]
  · rw [if_neg hj]
theorem hid_kp {K : PySem.W.Frag} {T : Tb} {β β' : Mu} {st : Sto} {H H' : Hp} {p : Addr} {l : List V} (le : Le β H β' H') (g : Good K T β st H) (hx : p ∈ β.ex) (h : H p = some (.lst l)) : H' p = some (.lst l) := le.kp _ _ h ((g.ex p hx).2 true) fun ps z => by cases z
theorem Le.cellAt {K : PySem.W.Frag} {T : Tb} {β βi : Mu} {st : Sto} {H Hi : Hp} {p : Addr} (l : Le β H βi Hi) (h0 : ∀ o, H p = some o → ∃ ps, o = .tbl ps) (g : Good K T βi st Hi) (hp : p ∈ βi.ex) : Le β H ((βi.back β.ex).cell p) Hi := ⟨fun k a b h => by
    obtain ⟨b', h1, h2⟩ := l.cs k a b h
    exact ⟨b', cell_old h1, h2⟩, fun k a b h n o ho => by
    rcases cell_get h with h | ⟨_, rfl, _⟩
    · exact l.nw k a b h n o ho
    · exact h0 o ho, fun _ h => h, fun e h n => (n h).elim, l.kp, l.dm⟩
theorem cellAt_ok {β βi : Mu} {p a : Addr} (s : ∀ e, e ∈ β.ex → e ∈ βi.ex) (hp : p ∈ βi.ex) (h : βi.ok a) : ((βi.back β.ex).cell p).ok a := by
  refine ⟨fun z => ?_, fun z => h.2 (s a z)⟩
  rcases List.mem_append.mp (show (a, true) ∈ βi.cs ++ [(p, true)] from z) with z | z
  · exact h.1 z
  · cases List.mem_singleton.mp z
    exact h.2 hp
mutual
theorem R.cellAt {K : PySem.W.Frag} {β βi : Mu} {H : Hp} {p : Addr} (s : ∀ e, e ∈ β.ex → e ∈ βi.ex) (hp : p ∈ βi.ex) : ∀ {v : V} {d : D}, R K βi H v d → R K ((βi.back β.ex).cell p) H v d
  | _, _, .non => .non
  | _, _, .bl b => .bl b
  | _, _, .int i => .int i
  | _, _, .str x => .str x
  | _, _, .lst h r => .lst ⟨h.1, cellAt_ok s hp h.2⟩ (RA.cellAt s hp r)
  | _, _, .tup h r => .tup ⟨h.1, cellAt_ok s hp h.2⟩ (RA.cellAt s hp r)
  | _, _, .ref h => .ref (cell_old h)
  | _, _, .fn h k => .fn h k
  | _, _, .scr h => .scr (h.imp (fun h => ⟨h.1, cellAt_ok s hp h.2⟩) id)
theorem RA.cellAt {K : PySem.W.Frag} {β βi : Mu} {H : Hp} {p : Addr} (s : ∀ e, e ∈ β.ex → e ∈ βi.ex) (hp : p ∈ βi.ex) : ∀ {vs : List V} {ds : List D}, RA K βi H vs ds → RA K ((βi.back β.ex).cell p) H vs ds
  | _, _, .nil => .nil
  | _, _, .cons h r => .cons (R.cellAt s hp h) (RA.cellAt s hp r)
end
theorem Good.cellAt {K : PySem.W.Frag} {T : Tb} {β βi : Mu} {st : Sto} {H : Hp} {p : Addr} {xs : List V} {ds : List D} (g : Good K T βi st H) (s : ∀ e, e ∈ β.ex → e ∈ βi.ex) (hp : p ∈ βi.ex) (np : p ∉ β.ex) (h : H p = some (.lst xs)) (r : RA K βi H xs ds) : Good K T ((βi.back β.ex).cell p) (st ++ [.lst ds]) H := by
  have nc := (g.ex p hp).2
  refine ⟨?_, fun k c b hk => ?_, fun i j c b hi hj => ?_, fun k c b hk => ?_, fun e he => ?_, g.tb⟩
  · show (βi.cs ++ [(p, true)]).length = _
    rw [List.length_append, List.length_append, g.ln]
    rfl
  · rcases cell_get hk with h' | ⟨rfl, rfl, rfl⟩
    · obtain ⟨cl, h1, h2⟩ := g.cs k c b h'
      refine ⟨cl, by rw [List.getElem?_append_left (List.getElem?_eq_some_iff.mp h1).1]; exact h1, ?_⟩
      cases cl with
      | dead => exact h2
      | lam m => exact h2
      | lst es =>
        obtain ⟨h3, ys, h4, h5⟩ := h2
        exact ⟨h3, ys, h4, h5.cellAt s hp⟩
    · refine ⟨.lst ds, ?_, rfl, xs, h, r.cellAt s hp⟩
      show (st ++ [.lst ds])[βi.cs.length]? = _
      rw [g.ln, List.getElem?_append_right (Nat.le_refl _), Nat.sub_self]
      rfl
  · rcases cell_get hi with h' | ⟨rfl, rfl, _⟩
    · rcases cell_get hj with h'' | ⟨rfl, rfl, _⟩
      · exact g.inj i j c b h' h''
      · exact (nc true (List.mem_of_getElem? h')).elim
    · rcases cell_get hj with h'' | ⟨rfl, _, _⟩
      · exact (nc b (List.mem_of_getElem? h'')).elim
      · rfl
  · rcases cell_get hk with h' | ⟨rfl, rfl, rfl⟩
    · exact g.sm k c b h'
    · exact ⟨_, h, fun ps z => by cases z⟩
  · obtain ⟨m, q⟩ := g.ex e (s e he)
    refine ⟨m, fun b z => ?_⟩
    rcases List.mem_append.mp (show (e, b) ∈ βi.cs ++ [(p, true)] from z) with z | z
    · exact q b z
    · cases List.mem_singleton.mp z
      exact np he
theorem lc_core_of {K : PySem.W.Frag} {P : Pm} {E : XK} {t : TG} {is : List Nat} {b : Bd} {Fi : Fn (List D)} {C : Fn Bool} {F : Fn D} (hgd : GD K t is b) {β : Mu} {δ : List (Option D)} {bx : Sto} {σ : L2.St} {H : Hp} {Q : VK} (ev : Ev K β H σ δ) (g : Good K P.T β bx H)
    (o : OutX P K β H (fLcA is b Fi C F δ bx) E (LcK K β H Q)) {tt : TT} (htt : ∀ σ2 H2 Q2, wipe σ2 is = wipe σ is → tDT K P E C σ2 H2 Q2 → tt σ2 H2 Q2) : tLc (tDL K P E Fi) t tt (tD K P E F) is σ H Q := by
  have o2 := x_bind o
  refine ⟨β, δ, bx, ev, g, ?_⟩
  cases hF : Fi δ bx with
  | bad =>
    rw [hF] at o2
    exact o2
  | err c d bx' =>
    rw [hF] at o2
    exact o2
  | ok ds bx1 =>
    rw [hF] at o2
    intro β1 H1 l1 g1 _ J wk Dd hD
    have o3 := o2 β1 H1 l1 g1 l1
    split at o3
    case isFalse => exact o3.elim
    case isTrue hn =>
    have hD0 : ∀ o, H Dd = some o → ∃ ps, o = .tbl ps := fun u e => by
      by_cases ht : ∃ ps, u = .tbl ps
      · exact ht
      · obtain ⟨o', z, _⟩ := l1.dm Dd u e fun ps z => ht ⟨ps, z⟩
        rw [hD] at z
        cases z
    have ev1 : Ev K (β1.hide Dd) (upd H1 Dd (.lst [])) (wipe σ is) (Ms.unset is δ) := ((ev.le l1).le (.hide hD)).unset is
    have le0 : Le β1 H1 (β1.hide Dd) (upd H1 Dd (.lst [])) := .hide hD
    refine ⟨fun i m Hc => m = ds.length - i ∧ i ≤ ds.length ∧ ∃ βi bx' acc as, Le β1 H1 βi Hc ∧ Dd ∈ βi.ex ∧ Ev K βi Hc (wipe σ is) (Ms.unset is δ) ∧ Good K P.T βi bx' Hc ∧ RA K βi Hc acc as ∧ Hc Dd = some (.lst acc) ∧ acc.length ≤ i ∧
      OutX P K β1 H1 (lcGo b (Ms.unset is δ) C F (ds.drop i) bx' as) E (LcK K β H Q),
      ⟨ds.length, rfl, Nat.zero_le _, β1.hide Dd, bx1, [], [], le0, List.mem_cons_self, ev1, g1.hide hD, .nil, upd_same, Nat.le_refl _, by simpa using o3⟩, ?_⟩
    rintro i m Hi ⟨rfl, hi, βi, bx', acc, as, li, hx, evi, gi, ra, hd, hl, oi⟩
    have nok : ∀ {β' : Mu}, Dd ∈ β'.ex → ¬ β'.ok Dd := fun h z => z.2 h
    by_cases hlt : i < ds.length
    · refine .inr ⟨wk.goes i βi bx' Hi hlt li gi, fun Hc => ∃ βi bx' acc as, Le β1 H1 βi Hc ∧ Dd ∈ βi.ex ∧ Ev K βi Hc (wipe σ is) (Ms.unset is δ) ∧ Good K P.T βi bx' Hc ∧ RA K βi Hc acc as ∧ Hc Dd = some (.lst acc) ∧ acc.length ≤ i + 1 ∧
        OutX P K β1 H1 (lcGo b (Ms.unset is δ) C F (ds.drop (i + 1)) bx' as) E (LcK K β H Q), fun H2 h => ⟨ds.length - (i + 1), by omega, rfl, hlt, h⟩, fun x H2 y => ?_⟩
      have hdi : ds[i]? = some ds[i] := List.getElem?_eq_getElem hlt
      obtain ⟨kp, rx⟩ := wk.yields i _ βi bx' Hi x H2 hdi li gi y
      have lk : Le βi Hi βi H2 := .of kp
      rw [List.drop_eq_getElem_cons hlt] at oi
      simp only [lcGo] at oi
      cases hbd : b bx' (Ms.unset is δ) ds[i] with
      | none =>
        rw [hbd] at oi
        exact oi.elim
      | some δ1 =>
        rw [hbd] at oi
        dsimp only at oi
        refine hgd P.T βi bx' _ δ1 _ H2 x _ _ (evi.le lk) (gi.ext kp) rx hbd fun σ3 ev3 hw => ?_
        refine ⟨(hw is fun _ h => h).trans (wipe_wipe σ is), htt _ _ _ ((hw is fun _ h => h).trans (wipe_wipe σ is)) ⟨βi, δ1, bx', ev3, gi.ext kp, ?_⟩⟩
        cases hC : C δ1 bx' with
        | bad =>
          rw [hC] at oi
          exact oi
        | err c d b =>
          rw [hC] at oi
          exact oi.elim
        | ok c bx2 =>
          rw [hC] at oi
          intro β3 H3 l3 g3
          cases c with
          | false =>
            dsimp only at oi
            refine iteF ⟨β3, bx2, acc, as, (li.trans lk).trans l3, l3.e1 _ hx, (evi.le lk).le l3, g3, (ra.le lk).le l3, ?_, by omega, oi⟩
            exact hid_kp l3 (gi.ext kp) hx (kp _ _ hd)
          | true =>
            dsimp only at oi
            refine iteT ⟨β3, δ1, bx2, ev3.le l3, g3, ?_⟩
            cases hE : F δ1 bx2 with
            | bad =>
              rw [hE] at oi
              exact oi
            | err c d b =>
              rw [hE] at oi
              exact oi.elim
            | ok d bx3 =>
              rw [hE] at oi
              intro β4 y H4 l4 g4 ry
              have hx3 := l3.e1 _ hx
              have hx4 := l4.e1 _ hx3
              have hd3 : H3 Dd = some (.lst acc) := hid_kp l3 (gi.ext kp) hx (kp _ _ hd)
              have hd4 : H4 Dd = some (.lst acc) := hid_kp l4 g3 hx3 hd3
              have la := ((li.trans lk).trans l3).trans l4
              refine ⟨acc, hd4, by rw [sizeLine_eq]; omega, β4, bx3, acc ++ [y], as ++ [d], la.updN hD hd4, hx4, (((evi.le lk).le l3).le l4).upd (nok hx4), g4.updX hx4 hd4, ((((ra.le lk).le l3).le l4).append (.cons ry .nil)).upd (nok hx4), upd_same, by rw [List.length_append]; simp; omega, oi⟩
    · have e : i = ds.length := by omega
      subst e
      rw [List.drop_length] at oi
      simp only [lcGo] at oi
      have nx : Dd ∉ β.ex := fun z => (g1.ne hD).2 (l1.e1 _ z)
      exact .inl ⟨wk.stops βi bx' Hi li gi, oi βi Hi li gi Dd acc hD0 hx nx hd ra⟩
section
variable {X : Cx} {P : Pm} {E : XK} {pos : Pos} {t : TG} {is : List Nat} {b : Bd} {tg iter elt : Expr} {scope : Scope} {Fi : Fn (List D)} {C : Fn Bool} {F : Fn D} {ifs : List Expr} {own : List (Str × Nat)}
theorem tLc_of (hgd : GD X.K t is b) : ∀ σ H Q, tD X.K P E (fLc is b Fi C F) σ H Q → tLc (tDL X.K P E Fi) t (tDT X.K P E C) (tD X.K P E F) is σ H Q := by
  rintro σ H Q ⟨β, δ, bx, ev, g, o⟩
  refine lc_core_of hgd ev g ?_ (fun _ _ _ _ h => h)
  unfold fLc bnd at o
  cases hF : fLcA is b Fi C F δ bx with
  | bad => rw [hF] at o; exact o
  | err c d bx' => rw [hF] at o; exact o
  | ok ds bx' =>
    rw [hF] at o
    exact fun βi Hi l gi p xs _ hp np h ra => o (βi.back β.ex) (.ref p) Hi l.back (gi.back l.e1) (.lst ⟨.inl h, fun z => (gi.ex p hp).2 true z, np⟩ (ra.back l.e1))
theorem tLcM_of (hgd : GD X.K t is b) : ∀ σ H Q, tD X.K P E (fLcM is b Fi C F) σ H Q → tLc (tDL X.K P E Fi) t (tDT X.K P E C) (tD X.K P E F) is σ H Q := by
  rintro σ H Q ⟨β, δ, bx, ev, g, o⟩
  refine lc_core_of hgd ev g ?_ (fun _ _ _ _ h => h)
  unfold fLcM bnd at o
  cases hF : fLcA is b Fi C F δ bx with
  | bad => rw [hF] at o; exact o
  | err c d bx' => rw [hF] at o; exact o
  | ok ds bx' =>
    rw [hF] at o
    exact fun βi Hi l gi p xs h0 hp np h ra => o ((βi.back β.ex).cell p) (.ref p) Hi (l.cellAt h0 gi hp) (gi.cellAt l.e1 hp np h ra) (.cell gi.ln)
abbrev blkX (X : Cx) (scope : Scope) (s : Shared) (H : Hp) (Cc : Addr) (cl : List (Str × Addr)) (fp : List Addr) : Cx := X.blk s H scope (compEnvC scope cl Cc X.env) fp
theorem ed_lc (hc : X.calm = true) (hN : X.N.Nodup) (hi : EI X P E tg iter Fi) (ok : BlkOk X.N X.env.scope scope own) (hgd : GD X.K t (own.map (·.2)) b)
    (hg : ∀ (s : Shared) (H : Hp) (Cc : Addr) (cl : List (Str × Addr)) (fp : List Addr), PG (blkX X scope s H Cc cl fp) tg t) (ht : ∀ (s : Shared) (H : Hp) (Cc : Addr) (cl : List (Str × Addr)) (fp : List Addr), PTs (blkX X scope s H Cc cl fp) ifs (tDT X.K P E C))
    (he : ∀ (s : Shared) (H : Hp) (Cc : Addr) (cl : List (Str × Addr)) (fp : List Addr), ED (blkX X scope s H Cc cl fp) P E elt F) (hs : ∀ x, foldedSetIterable iter X.env x = pure x := by intro _; rfl) :
    ED X P E (.ListComp elt [⟨tg, iter, ifs, 0⟩] scope pos) (fLc (own.map (·.2)) b Fi C F) := pe_imp (pe_lc hc hN hi ok hg ht he hs) (tLc_of hgd)
theorem ed_lcM (hc : X.calm = true) (hN : X.N.Nodup) (hi : EI X P E tg iter Fi) (ok : BlkOk X.N X.env.scope scope own) (hgd : GD X.K t (own.map (·.2)) b)
    (hg : ∀ (s : Shared) (H : Hp) (Cc : Addr) (cl : List (Str × Addr)) (fp : List Addr), PG (blkX X scope s H Cc cl fp) tg t) (ht : ∀ (s : Shared) (H : Hp) (Cc : Addr) (cl : List (Str × Addr)) (fp : List Addr), PTs (blkX X scope s H Cc cl fp) ifs (tDT X.K P E C))
    (he : ∀ (s : Shared) (H : Hp) (Cc : Addr) (cl : List (Str × Addr)) (fp : List Addr), ED (blkX X scope s H Cc cl fp) P E elt F) (hs : ∀ x, foldedSetIterable iter X.env x = pure x := by intro _; rfl) :
    ED X P E (.ListComp elt [⟨tg, iter, ifs, 0⟩] scope pos) (fLcM (own.map (·.2)) b Fi C F) := pe_imp (pe_lc hc hN hi ok hg ht he hs) (tLcM_of hgd)
theorem sd_setLc {i : Nat} {y : Str} {py spos : Pos} (hc : X.calm = true) (hN : X.N.Nodup) (hy : X.N[i]? = some y) (hyl : X.env.scope.names.lookup y = some .local)
    (hsw : swapsWith (.ListComp elt [⟨tg, iter, ifs, 0⟩] scope pos) (some (.Name y py)) spos.line X.env = pure true) (hi : EI X P E tg iter Fi) (ok : BlkOk X.N X.env.scope scope own) (hgd : GD X.K t (own.map (·.2)) b)
    (hg : ∀ (s : Shared) (H : Hp) (Cc : Addr) (cl : List (Str × Addr)) (fp : List Addr), PG (blkX X scope s H Cc cl fp) tg t) (ht : ∀ (s : Shared) (H : Hp) (Cc : Addr) (cl : List (Str × Addr)) (fp : List Addr), PTs (blkX X scope s H Cc cl fp) ifs (tDT X.K P E C))
    (he : ∀ (s : Shared) (H : Hp) (Cc : Addr) (cl : List (Str × Addr)) (fp : List Addr), ED (blkX X scope s H Cc cl fp) P E elt F) (hs : ∀ x, foldedSetIterable iter X.env x = pure x := by intro _; rfl) :
    SD X P E (.Assign [.Name y py] (.ListComp elt [⟨tg, iter, ifs, 0⟩] scope pos) spos) (sSet i (fLc (own.map (·.2)) b Fi C F)) := by
  refine ps_imp (ps_setLc (te := tD X.K P E F) hc hN hy hyl hsw hi ok hg ht he hs) ?_
  rintro Z σ H ⟨β, δ, bx, ev, g, o⟩
  refine tLc_of hgd σ H _ (sd_bind ev g o fun β1 bx' x d H1 l1 g1 r1 o1 => o1 _ _ H1 .refl g1 ((ev.le l1).set i r1))
theorem sd_setLcM {i : Nat} {y : Str} {py spos : Pos} (hc : X.calm = true) (hN : X.N.Nodup) (hy : X.N[i]? = some y) (hyl : X.env.scope.names.lookup y = some .local)
    (hsw : swapsWith (.ListComp elt [⟨tg, iter, ifs, 0⟩] scope pos) (some (.Name y py)) spos.line X.env = pure true) (hi : EI X P E tg iter Fi) (ok : BlkOk X.N X.env.scope scope own) (hgd : GD X.K t (own.map (·.2)) b)
    (hg : ∀ (s : Shared) (H : Hp) (Cc : Addr) (cl : List (Str × Addr)) (fp : List Addr), PG (blkX X scope s H Cc cl fp) tg t) (ht : ∀ (s : Shared) (H : Hp) (Cc : Addr) (cl : List (Str × Addr)) (fp : List Addr), PTs (blkX X scope s H Cc cl fp) ifs (tDT X.K P E C))
    (he : ∀ (s : Shared) (H : Hp) (Cc : Addr) (cl : List (Str × Addr)) (fp : List Addr), ED (blkX X scope s H Cc cl fp) P E elt F) (hs : ∀ x, foldedSetIterable iter X.env x = pure x := by intro _; rfl) :
    SD X P E (.Assign [.Name y py] (.ListComp elt [⟨tg, iter, ifs, 0⟩] scope pos) spos) (sSet i (fLcM (own.map (·.2)) b Fi C F)) := by
  refine ps_imp (ps_setLc (te := tD X.K P E F) hc hN hy hyl hsw hi ok hg ht he hs) ?_
  rintro Z σ H ⟨β, δ, bx, ev, g, o⟩
  refine tLcM_of hgd σ H _ (sd_bind ev g o fun β1 bx' x d H1 l1 g1 r1 o1 => o1 _ _ H1 .refl g1 ((ev.le l1).set i r1))
theorem et_yes : PTs X [] (tDT X.K P E (pur true)) := ⟨fun pins s σ H Q I ⟨β, δ, bx, ev, g, o⟩ => pts_nil.run pins s σ H Q I (o _ H .refl g)⟩
theorem et_one {c : Expr} (h : ET X P E c C) : PTs X [c] (tDT X.K P E C) := pts_one h
end
end Ms

end
section
set_option Elab.async false
set_option linter.all false
set_option maxRecDepth 100000
set_option maxHeartbeats 4000000
namespace Ms
open PySem PySem.Spec PyProof.Rows L2
/-- a def of the text that keeps its promise, by its name -/
structure Df (Pg : Program) (w : World) (K : PySem.W.Frag) (mg : Str → Option Value) (base : Heap) (P : Pm) (CX : CXT) (j : Nat) (x : Str) (st : Stmt) (ps : List Str) (m : List D → Sto → Res D) : Prop where
  ex : ∃ (f : Addr) (fd : FuncData), mg x = some (.ref f) ∧ Fun K x x st f fd ∧ L2.Binds K fd ps [] ∧ FnOk Pg w K mg base CX j f fd ps (spD K P ps.length m)
section
variable {X : Cx} {P : Pm} {E : XK} {pos : Pos} {es : List Expr} {A : Fn (List D)} {CX : CXT} {k : Nat} {st : Stmt} {ps : List Str} {m : List D → Sto → Res D} {x : Str} {p : Pos} {e : Expr} {kws : List Keyword}
theorem ed_callD (d : Df X.prog X.w X.K X.mg X.base P CX k x st ps m) (hr : Room k X.A) (hx : Passes CX X E) (hg : Gl X x) (ha : EA X P E (e :: es) A) (hA : ∀ δ bx ds bx', A δ bx = .ok ds bx' → ds.length = ps.length) (hn : (e :: es).length = ps.length := by rfl)
    (hdb : (x == ("__debug__" : Str)) = false := by decide) (he : starEach (e :: es) X.env = (false, eval e X.env) :: starEach es X.env := by rfl) (hpl : (backTo pos (starEach es X.env)).any (·.1) = false := by rfl) :
    ED X P E (.Call (.Name x p) (e :: es) [] pos) (fCall m A) := by
  obtain ⟨f, fd, h1, h2, h3, h4⟩ := d.ex
  exact ed_call h4 hr hg h1 h2.kp h3 hx hn ha hdb he hpl hA
theorem bindsK {K : PySem.W.Frag} {x qual : Str} {st : Stmt} {f : Addr} {fd : FuncData} {ps ks : List Str} {π : List Nat} (F : Fun K x qual st f fd)
    (h : ∀ (kV doc pm : Value) (an : Option Addr) (cdv ct : Value) (ws : List Value), ws.length = ks.length → bindArgs (PySem.W.fnOf x qual (defArgs st) (defBody st) (defScope st) .none kV doc pm an cdv ct) ⟨[], ks.zip ws⟩ = pure (ps.zip (pick .none π ws))) :
    ∀ (s : Shared) (ws : List Value), K.In s.heap → ws.length = ks.length → BindsTo s fd ⟨[], ks.zip ws⟩ (ps.zip (pick .none π ws)) := by
  obtain ⟨oc, od, kV, doc, pm, an, cdv, ct, osl, rfl, lk, hcd⟩ := F.ex
  exact fun s ws _ hl => .of_eq (h kV doc pm an cdv ct ws hl)
theorem ed_callDK {ks : List Str} (π : List Nat) (d : Df X.prog X.w X.K X.mg X.base P CX k x st ps m) (hr : Room k X.A) (hx : Passes CX X E) (hg : Gl X x)
    (hb : ∀ (kV doc pm : Value) (an : Option Addr) (cdv ct : Value) (ws : List Value), ws.length = ks.length → bindArgs (PySem.W.fnOf x x (defArgs st) (defBody st) (defScope st) .none kV doc pm an cdv ct) ⟨[], ks.zip ws⟩ = pure (ps.zip (pick .none π ws)))
    (ha : EK X P E kws A) (hA : ∀ δ bx ds bx', A δ bx = .ok ds bx' → ds.length = ks.length) (hp : π.length = ps.length := by rfl) (hall : (backToKw pos (keywordEach kws X.env)).all (·.1.isSome) = true := by rfl) (hks : (backToKw pos (keywordEach kws X.env)).filterMap (·.1) = ks := by rfl)
    (hdb : (x == ("__debug__" : Str)) = false := by decide) (hpl : ((backTo pos (starEach [] X.env)).any (·.1) || (backToKw pos (keywordEach kws X.env)).any (·.1.isNone)) = false := by rfl) :
    ED X P E (.Call (.Name x p) [] kws pos) (fCallK m π A) := by
  obtain ⟨f, fd, h1, h2, h3, h4⟩ := d.ex
  exact ed_callK π h4 hr hg h1 h2.kp (bindsK h2 hb) hx hp rfl ha hA hall hks hdb hpl
theorem ed_globS {w : Str} (hg : Gl X x) (hm : ∃ t, X.mg x = some (.str w t)) (hd : (x == ("__debug__" : Str)) = false := by decide) : ED X P E (.Name x pos) (pur (.str w)) := by
  obtain ⟨t, h⟩ := hm
  exact ed_c (v := .str w) (pe_glob hg h ⟨t, rfl⟩ hd) fun _ _ => .str w
theorem ed_globE {i : Int} (hg : Gl X x) (hm : ∃ t, X.mg x = some (.int i t)) (hd : (x == ("__debug__" : Str)) = false := by decide) : ED X P E (.Name x pos) (pur (.int i)) := by
  obtain ⟨t, h⟩ := hm
  exact ed_glob hg h hd
theorem sd_expr {F : Fn D} {e : Expr} (he : ED X P E e F) (hs : swapsWith e none pos.line X.env = pure false := by rfl) : SD X P E (.Expr e pos) (sDrop F) := by
  refine ps_imp (ps_expr he hs) ?_
  rintro Z σ H ⟨β, δ, bx, ev, g, o⟩
  exact sd_bind ev g o fun β1 bx' x d H1 l1 g1 r1 o1 => o1 _ _ H1 .refl g1 (ev.le l1)
theorem passX {W : WX} (tk : Takes X W) (hW : ∀ cls d σ H, E cls d H → W cls d σ H) : Passes (L2.CX X.prog X.w) X E := passes_call tk hW
end
theorem b_int : bootBuiltins ("int" : Str) = some (.type "int") := by decide +kernel
theorem b_bool : bootBuiltins ("bool" : Str) = some (.type "bool") := by decide +kernel
theorem b_list : bootBuiltins ("list" : Str) = some (.type "list") := by decide +kernel
theorem b_tuple : bootBuiltins ("tuple" : Str) = some (.type "tuple") := by decide +kernel
theorem b_len : bootBuiltins ("len" : Str) = some (.builtin "len") := by decide +kernel
theorem b_abs : bootBuiltins ("abs" : Str) = some (.builtin "abs") := by decide +kernel
theorem b_max : bootBuiltins ("max" : Str) = some (.builtin "max") := by decide +kernel
theorem b_min : bootBuiltins ("min" : Str) = some (.builtin "min") := by decide +kernel
theorem b_range : bootBuiltins ("range" : Str) = some (.type "range") := by decide +kernel
theorem b_all : bootBuiltins ("all" : Str) = some (.builtin "all") := by decide +kernel
theorem b_sum : bootBuiltins ("sum" : Str) = some (.builtin "sum") := by decide +kernel
section
variable {Pg : Program} {w : World} {K : PySem.W.Frag} {mg : Str → Option Value} {base : Heap} {P : Pm}
theorem df_ok {x : Str} {st : Stmt} {f : Addr} {fd : FuncData} {N ps : List Str} {k : Nat} {S : Sn} (hm : mg x = some (.ref f)) (F : Fun K x x st f fd) (B : L2.Binds K fd ps []) (sc : FnScope N ps (defScope st))
    (hb : ∀ (cdv : Value) (A : Around) (outer : List Env) (s : Shared) (H : Hp), Room k (A.deeper (envOfC x (defScope st) s.heap.objs.size f cdv)) →
      SSD (cxOf CX0 Pg w K mg base N x (defScope st) f cdv A outer s H E0).nox P E0 (defBody st) S) : Df Pg w K mg base P CX0 (k + 1) x st ps (fun ds bx => noErr (fnD N S ds bx)) :=
  ⟨f, fd, hm, F, B, fn_ok F sc rfl hb⟩
theorem df_okX {x : Str} {st : Stmt} {f : Addr} {fd : FuncData} {N ps : List Str} {k : Nat} {S : Sn} (hm : mg x = some (.ref f)) (F : Fun K x x st f fd) (B : L2.Binds K fd ps []) (sc : FnScope N ps (defScope st))
    (hb : ∀ (cdv : Value) (A : Around) (outer : List Env) (s : Shared) (H : Hp) (E : XK), Room k (A.deeper (envOfC x (defScope st) s.heap.objs.size f cdv)) →
      SSD (cxOf (L2.CX Pg w) Pg w K mg base N x (defScope st) f cdv A outer s H E) P E (defBody st) S) : Df Pg w K mg base P (L2.CX Pg w) (k + 1) x st ps (fnD N S) :=
  ⟨f, fd, hm, F, B, fn_okX F sc rfl hb⟩
end
end Ms

end
section
set_option Elab.async false
set_option linter.all false
set_option maxRecDepth 100000
set_option maxHeartbeats 4000000
namespace Ms
open PySem PySem.Spec PyProof.Rows L2
/-! ### defs that show data: nothing is being shown where they are called -/
structure FnG (Pg : Program) (w : World) (K : PySem.W.Frag) (mg : Str → Option Value) (base : Heap) (CX : CXT) (k : Nat) (f : Addr) (fd : FuncData) (ps : List Str) (sp : Sp) : Prop where
  len : ∀ vs H Q E, sp vs H Q E → vs.length = ps.length
  run : ∀ (A : Around) (outer : List Env) (s : Shared) (H : Hp) (args : Args) (us : List Value) (vs : List V) (Q : VK) (E : XK), A.guards = some [] → Room k A → Env0 Pg w K mg base A outer s H → BindsTo s fd args (ps.zip us) → Vals vs us → sp vs H Q E →
    codeAny (model Pg w) A (.call (.ref f) args) (CR CX outer Pg w H s Q E) s
structure DfG (Pg : Program) (w : World) (K : PySem.W.Frag) (mg : Str → Option Value) (base : Heap) (P : Pm) (CX : CXT) (j : Nat) (x : Str) (st : Stmt) (ps : List Str) (m : List D → Sto → Res D) : Prop where
  ex : ∃ (f : Addr) (fd : FuncData), mg x = some (.ref f) ∧ Fun K x x st f fd ∧ L2.Binds K fd ps [] ∧ FnG Pg w K mg base CX j f fd ps (spD K P ps.length m)
section
variable {X : Cx} {P : Pm} {E : XK} {pos : Pos} {es : List Expr} {A : Fn (List D)} {CX : CXT} {k : Nat} {st : Stmt} {ps : List Str} {m : List D → Sto → Res D} {x : Str} {p : Pos} {e : Expr}
theorem ed_callG (hga : X.A.guards = some []) (d : DfG X.prog X.w X.K X.mg X.base P CX k x st ps m) (hr : Room k X.A) (hx : Passes CX X E) (hg : Gl X x) (ha : EA X P E (e :: es) A) (hA : ∀ δ bx ds bx', A δ bx = .ok ds bx' → ds.length = ps.length)
    (hdb : (x == ("__debug__" : Str)) = false := by decide) (he : starEach (e :: es) X.env = (false, eval e X.env) :: starEach es X.env := by rfl) (hpl : (backTo pos (starEach es X.env)).any (·.1) = false := by rfl) :
    ED X P E (.Call (.Name x p) (e :: es) [] pos) (fCall m A) := by
  obtain ⟨f, fd, hm, hF, hb, F⟩ := d.ex
  refine ⟨fun pins s σ H Q I h => ?_⟩
  obtain ⟨β, δ, bx, ev, gd, o⟩ := h
  have o2 := x_bind o.x
  have h' : (tDA X.K P E A) σ H fun zs H1 => spD X.K P ps.length m zs H1 Q E := by
    refine ⟨β, δ, bx, ev, gd, ?_⟩
    cases hF : A δ bx with
    | ok ds bx' =>
      rw [hF] at o2
      exact fun β' vs H' l g' r => ⟨β', ds, bx', by rw [r.length]; exact hA _ _ _ _ hF, r, g', (o2 β' H' l g' l).out⟩
    | err c d bx' =>
      rw [hF] at o2
      exact o2
    | bad =>
      rw [hF] at o2
      exact o2
  refine wpAny_Call_Name_kw (ld_glob I hg hm ?_ hdb)
  refine PySem.W.callWith_K (h₀ := X.base) I.ok.mod.kin hF.kp (thn (ha.run pos pins s σ H _ I h') fun us s1 hs => ?_) he hpl
  obtain ⟨vs, H1, I1, r, q⟩ := hs
  refine ⟨I1.kIn, ?_⟩
  have hl : us.length = ps.length := by rw [← r.length]; exact F.len _ _ _ _ q
  have hbb := hb s1 us I1.kIn (by rw [List.append_nil]; exact hl)
  rw [List.append_nil] at hbb
  show wpAny _ _ (call (.ref f) us) _ _ _
  refine wpAny_call (codeAny_mono (F.run X.A X.stack s1 H1 ⟨us, []⟩ us vs Q E hga hr I1.env0 hbb r q) fun rr s' hq => ?_)
  match rr, hq with
  | .error er, hq => exact hx pins σ H1 s1 er s' I1 hq
  | .ok fl, hq =>
    cases fl
    all_goals first
      | exact I1.after hq
      | exact False.elim hq
end
section
variable {Pg : Program} {w : World} {K : PySem.W.Frag} {mg : Str → Option Value} {base : Heap} {P : Pm}
theorem fnG_ok {x qual : Str} {params : Arguments} {body : List Stmt} {scope : Scope} {f : Addr} {dV kV doc pm cdv ct oc : Value} {an od : Option Addr} {osl : Array (Option Value)} {N ps : List Str} {k : Nat} {S : Sn}
    (lk : K.lookup f = some ⟨oc, od, .func (PySem.W.fnOf x qual params body scope dV kV doc pm an cdv ct), osl⟩) (hcd : PySem.W.codeIn K cdv qual = true) (sc : FnScope N ps scope)
    (hb : ∀ (A : Around) (outer : List Env) (s : Shared) (H : Hp), A.guards = some [] → Room k (A.deeper (envOfC qual scope s.heap.objs.size f cdv)) →
      SSD (cxOf CX0 Pg w K mg base N qual scope f cdv A outer s H E0).nox P E0 body S) :
    FnG Pg w K mg base CX0 (k + 1) f (PySem.W.fnOf x qual params body scope dV kV doc pm an cdv ct) ps (spD K P ps.length fun ds bx => noErr (fnD N S ds bx)) := by
  refine ⟨fun vs H Q E h => spD_len _ _ _ _ h, fun A outer s H args us vs Q E hg hr e0 hbn r h => ?_⟩
  have hs : spD K P ps.length (fnD N S) vs H Q E0 := by
    obtain ⟨β, ds, bx, h1, h2, h3, o⟩ := h
    refine ⟨β, ds, bx, h1, h2, h3, ?_⟩
    replace o : Out K P β H (noErr (fnD N S ds bx)) Q E := o
    cases hF : fnD N S ds bx with
    | ok d bx' =>
      rw [hF] at o
      exact o
    | err c d bx' =>
      rw [hF] at o
      exact o.elim
    | bad =>
      rw [hF] at o
      exact o
  have z := LamX.run_ofS (CX := CX0) (E := E0) (Q := Q) lk hcd sc hr e0 hbn r (spD_len _ _ _ _ h) fun hr' => ⟨tDS K P E0 S, (hb A outer s H hg hr').nox, fn_end hs⟩
  refine codeAny_mono z fun rr s' hq => ?_
  match rr, hq with
  | .ok _, hq => exact hq
  | .error _, hq => exact False.elim hq
end
end Ms

end
section
set_option Elab.async false
set_option linter.all false
set_option maxRecDepth 100000
set_option maxHeartbeats 4000000
namespace Ms
open PySem PySem.Spec PyProof.Rows L2
/-! ### the end of a law whose defs show data: the law is called where nothing is being shown -/
abbrev tabE : Obj := { cls := .none, data := .fields #[] }
abbrev lstE (vs : List Value) : Obj := { cls := .type "list", data := .seq vs.toArray }
/-- what is tracked at the law's call: the tables, and the script if it is no object of the text -/
def H₀ (K : PySem.W.Frag) (a : Addr) (vs : List Value) (ns : List Int) (T : List Addr) : Hp := fun b =>
  if b ∈ T then some (.tbl #[]) else if b = a ∧ (K.lookup a).isNone = true then some (.frz (lstE vs) (.lst (ns.map V.int))) else none
section
variable {Pg : Program} {w : World} {K : PySem.W.Frag} {a : Addr} {vs : List Value} {ns : List Int} {T : List Addr} {h : Heap}
theorem H₀_tab {b : Addr} (hb : b ∈ T) : H₀ K a vs ns T b = some (.tbl #[]) := if_pos hb
theorem H₀_cases (b : Addr) : (b ∈ T ∧ H₀ K a vs ns T b = some (.tbl #[])) ∨ (b ∉ T ∧ b = a ∧ K.lookup a = none ∧ H₀ K a vs ns T b = some (.frz (lstE vs) (.lst (ns.map V.int)))) ∨ (b ∉ T ∧ H₀ K a vs ns T b = none) := by
  by_cases h1 : b ∈ T
  · exact .inl ⟨h1, if_pos h1⟩
  · by_cases h2 : b = a ∧ (K.lookup a).isNone = true
    · refine .inr (.inl ⟨h1, h2.1, Option.isNone_iff_eq_none.mp h2.2, ?_⟩)
      unfold H₀
      rw [if_neg h1, if_pos h2]
    · refine .inr (.inr ⟨h1, ?_⟩)
      unfold H₀
      rw [if_neg h1, if_neg h2]
theorem H₀_ok (hT : ∀ b, b ∈ T → h.get? b = some tabE) (ha : h.get? a = some (lstE vs)) (hi : IntsAre vs ns) (hl : ns.length ≤ sizeLine) : HOk Pg w (H₀ K a vs ns T) h := fun b o e => by
  rcases H₀_cases (K := K) (a := a) (vs := vs) (ns := ns) (T := T) b with ⟨h1, h2⟩ | ⟨_, rfl, _, h2⟩ | ⟨_, h2⟩
  · rw [h2] at e
    cases e
    exact hT b h1
  · rw [h2] at e
    cases e
    exact ⟨ha, by rw [List.length_map]; exact hl, vs, _, vals_ints hi, ha⟩
  · rw [h2] at e
    cases e
theorem H₀_seq (X : K.In h) (ha : h.get? a = some (lstE vs)) (hi : IntsAre vs ns) (hl : ns.length ≤ sizeLine) (aT : a ∉ T) : SqL K (H₀ K a vs ns T) a (ns.map V.int) := by
  rcases H₀_cases (K := K) (a := a) (vs := vs) (ns := ns) (T := T) a with ⟨h1, _⟩ | ⟨_, _, _, h2⟩ | ⟨_, h2⟩
  · exact (aT h1).elim
  · exact .inl (.inr ⟨_, h2⟩)
  · cases hk : K.lookup a with
    | none =>
      unfold H₀ at h2
      rw [if_neg aT, if_pos ⟨rfl, by rw [hk]; rfl⟩] at h2
      cases h2
    | some o =>
      have e := X a o hk
      rw [ha] at e
      cases e
      exact .inr ⟨_, vs.toArray, _, hk, rfl, rfl, rfl, by rw [List.size_toArray, hi.length]; exact hl, by simpa using vals_ints hi⟩
end
/-- the law's call, from what holds at any ground on which it may stand -/
theorem law_callG {Pg : Program} {w : World} {K : PySem.W.Frag} {mg mb : Str → Option Value} {fa a : Addr} {cs : List (Addr × Addr)} {s₁ : Shared} {vs : List Value} {ns : List Int}
    (KX : K.In s₁.heap) (hns : s₁.heap.Ns mainGlobals mg) (hb : s₁.heap.Ns builtinsNs mb) (hbb : ∀ x : Str, x ≠ "__name__" → mb x = bootBuiltins x) (hlim : s₁.heap.NoLimit) (hg : s₁.gens = #[])
    (hT : ∀ p ∈ cs, s₁.heap.get? p.2 = some tabE) (nT : ∀ p ∈ cs, K.lookup p.2 = none) (C : ∀ p ∈ cs, PySem.W.CodeHd s₁.heap p.1 p.2)
    (hbm : ∃ (bm : Addr) (ob : Obj), mg "__builtins__" = some (.ref bm) ∧ bm ≠ builtinsNs ∧ s₁.heap.get? bm = some ob ∧ ob.cls = .type "module" ∧ ob.dict = some builtinsNs ∧ ob.data = .plain)
    (ha : s₁.heap.get? a = some (lstE vs)) (hi : IntsAre vs ns) (hl : ns.length ≤ sizeLine)
    (call : ∀ (base : Heap) (H : Hp), Env0 Pg w K mg base callerA [] s₁ H → (∀ p ∈ cs, LamX.TabB base mg p.1 p.2) → (∀ p ∈ cs, H p.2 = some (.tbl #[])) → SqL K H a (ns.map V.int) →
      codeAny (model Pg w) callerA (.call (.ref fa) ⟨[.ref a], []⟩) (CR CX0 [] Pg w H s₁ (fun v _ => v = .bl true) E0) s₁) :
    codeAny (model Pg w) callerA (.call (.ref fa) ⟨[.ref a], []⟩) (fun r s' => r = .ok (.ret (.bool true)) ∧ OldK s₁.heap s'.heap ∧ s'.os = s₁.os ∧ AllBare s'.gens) s₁ := by
  obtain ⟨T, eT⟩ : ∃ T, T = cs.map (·.2) := ⟨_, rfl⟩
  have inT : ∀ p ∈ cs, p.2 ∈ T := fun p hp => eT ▸ List.mem_map.mpr ⟨p, hp, rfl⟩
  have ofT : ∀ b, b ∈ T → ∃ p ∈ cs, p.2 = b := fun b h => by
    rw [eT] at h
    exact List.mem_map.mp h
  have tT : ∀ b, b ∈ T → s₁.heap.get? b = some tabE := fun b h => by
    obtain ⟨p, hp, rfl⟩ := ofT b h
    exact hT p hp
  have aT : a ∉ T := fun z => by
    have q := (tT a z).symm.trans ha
    injection q with q
    have q2 := congrArg Obj.data q
    cases q2
  -- an object that is neither the script nor a table is not tracked
  have free : ∀ b, b ≠ a → b ∉ T → H₀ K a vs ns T b = none := fun b h1 h2 => by
    rcases H₀_cases (K := K) (a := a) (vs := vs) (ns := ns) (T := T) b with ⟨h, _⟩ | ⟨_, h, _⟩ | ⟨_, h⟩
    · exact (h2 h).elim
    · exact (h1 h).elim
    · exact h
  have plain : ∀ b o, s₁.heap.get? b = some o → (∀ its n, o.data ≠ .seq its n) → o.data ≠ .fields #[] → H₀ K a vs ns T b = none := fun b o e n1 n2 => by
    refine free b (fun z => ?_) fun z => ?_
    · rw [z, ha] at e
      cases e
      exact n1 _ _ rfl
    · rw [tT b z] at e
      cases e
      exact n2 rfl
  have nsOf : ∀ {b : Addr} {m : Str → Option Value}, s₁.heap.Ns b m → (hidT s₁.heap (H₀ K a vs ns T)).Ns b m := by
    rintro b m ⟨o, es, ep, e, d, r⟩
    refine ⟨o, es, ep, hidT_get e (plain b o e (fun its n z => ?_) fun z => ?_), d, r⟩ <;> rw [d] at z <;> cases z
  have KB : K.In (hidT s₁.heap (H₀ K a vs ns T)) := fun b o e => by
    refine hidT_get (KX b o e) ?_
    rcases H₀_cases (K := K) (a := a) (vs := vs) (ns := ns) (T := T) b with ⟨h, _⟩ | ⟨_, rfl, h, _⟩ | ⟨_, h⟩
    · obtain ⟨p, hp, rfl⟩ := ofT b h
      rw [nT p hp] at e
      cases e
    · rw [h] at e
      cases e
    · exact h
  have gOf : ∀ b, s₁.heap.get? b = some tabE → b ≠ mainGlobals := fun b e z => by
    obtain ⟨o, es, ep, e2, d, _⟩ := hns
    rw [← z, e] at e2
    cases e2
    cases d
  have TB : ∀ p ∈ cs, LamX.TabB (hidT s₁.heap (H₀ K a vs ns T)) mg p.1 p.2 := fun p hp => by
    refine ⟨?_, ?_, fun z => gOf _ (hT p hp) z.symm⟩
    · obtain ⟨o, us, file, tf, flags, tg, inF, text, tt, e1, r1, r2, r3, r⟩ := C p hp
      refine ⟨o, us, file, tf, flags, tg, inF, text, tt, hidT_get e1 (plain _ o e1 (fun its n z => ?_) fun z => ?_), r1, r2, r3, r⟩
      · rw [r2] at z
        cases z
      · rw [r2] at z
        cases z
        simp at r3
    · obtain ⟨bm, ob, b1, b2, b3, b4, b5, b6⟩ := hbm
      refine ⟨bm, ob, b1, b2, fun z => ?_, fun z => ?_, hidT_get b3 (plain _ ob b3 (fun its n z => ?_) fun z => ?_), b4, b5, b6⟩
      · obtain ⟨o, es, ep, e2, d, _⟩ := hns
        rw [← z, b3] at e2
        cases e2
        rw [b6] at d
        cases d
      · rw [z, hT p hp] at b3
        cases b3
        cases b6
      · rw [b6] at z
        cases z
      · rw [b6] at z
        cases z
  have hok : HOk Pg w (H₀ K a vs ns T) s₁.heap := H₀_ok tT ha hi hl
  have e0 : Env0 Pg w K mg (hidT s₁.heap (H₀ K a vs ns T)) callerA [] s₁ (H₀ K a vs ns T) :=
    ⟨rfl, ⟨KB, nsOf hns, ⟨mb, nsOf hb, hbb⟩, let ⟨mc, h1, h2⟩ := hlim; ⟨mc, nsOf h1, h2⟩⟩, fun b o e => of_hidT e, Nat.le_of_eq (hidT_size _ _), trivial, fun b h => (nomatch h), hok, .of_eq hg⟩
  refine codeAny_mono (call _ _ e0 TB (fun p hp => H₀_tab (inT p hp)) (H₀_seq KX ha hi hl aT)) fun r s' h => ?_
  match r, h with
  | .error _, h => exact h.elim
  | .ok .next, h => exact h.elim
  | .ok .brk, h => exact h.elim
  | .ok .cont, h => exact h.elim
  | .ok (.ret u), ⟨v, H', os, bare, un, hok', r', q⟩ =>
    have q' : v = .bl true := q
    subst q'
    obtain rfl : u = Value.bool true := r'
    have grown : ∀ p ∈ cs, ∃ more : Array Value, s'.heap.get? p.2 = some { cls := .none, data := .fields more } := fun p hp => by
      obtain ⟨more, z⟩ := un.tbls p.2 #[] (H₀_tab (inT p hp))
      exact ⟨_, hok' p.2 _ z⟩
    have stays : ∀ b o, b ∉ T → s₁.heap.get? b = some o → s'.heap.get? b = some o := fun b o nb e => by
      rcases H₀_cases (K := K) (a := a) (vs := vs) (ns := ns) (T := T) b with ⟨h, _⟩ | ⟨_, rfl, _, h⟩ | ⟨_, h⟩
      · exact (nb h).elim
      · obtain ⟨e2, _⟩ := hok' b _ (un.frzs b _ _ h)
        rw [ha] at e
        cases e
        exact e2
      · exact un.keep b o e h (fun z => nomatch z) (fun z => nomatch z)
    refine ⟨rfl, ⟨fun b o e => ?_, fun b o e => ?_⟩, os, bare⟩
    · by_cases hb : b ∈ T
      · obtain ⟨p, hp, rfl⟩ := ofT b hb
        obtain ⟨more, hm⟩ := grown p hp
        rw [hT p hp] at e
        cases e
        exact .inr (.inl ⟨((C p hp).tab (hT p hp)).isCodeTable, rfl, #[], more, rfl, by rw [Array.empty_append]; exact hm⟩)
      · exact .inl (stays b o hb e)
    · by_cases hb : b ∈ T
      · obtain ⟨p, hp, rfl⟩ := ofT b hb
        obtain ⟨more, hm⟩ := grown p hp
        exact ⟨_, hm⟩
      · exact ⟨o, stays b o hb e⟩
/-- what is asked of a law at the head's heap -/
def LawAt (l : PySem.W.OpenLaw) (w : World) (K : PySem.W.Frag) (n : Nat) (mg : Str → Option Value) (fa : Addr) (h : Heap) : Prop :=
  ∃ cs : List (Addr × Addr), (∀ p ∈ cs, h.get? p.2 = some tabE) ∧ (∀ p ∈ cs, K.lookup p.2 = none) ∧ (∀ p ∈ cs, PySem.W.CodeHd h p.1 p.2) ∧
    ∀ (base : Heap) (H : Hp) (s₁ : Shared) (a : Addr) (ns : List Int), ns.length ≤ n → Env0 l.prog w K mg base callerA [] s₁ H → (∀ p ∈ cs, LamX.TabB base mg p.1 p.2) → (∀ p ∈ cs, H p.2 = some (.tbl #[])) → SqL K H a (ns.map V.int) →
      codeAny (model l.prog w) callerA (.call (.ref fa) ⟨[.ref a], []⟩) (CR CX0 [] l.prog w H s₁ (fun v _ => v = .bl true) E0) s₁
theorem walkG {l : PySem.W.OpenLaw} {n : Nat} {q : Program} {loose : List Str} {XP : (Str → Option Value) → Heap → Prop} {YP : World → Heap → Prop} {d : DefRec} {K : Params → PySem.W.Frag}
    (hn : l.most = some n) (hn2 : n ≤ sizeLine) (hdf : d.params.defaults = []) (hY : ∀ (w : World) (h : Heap), YP w h → (K w.params).In h)
    (F : ∀ (w : World) (mg : Str → Option Value) (fa : Addr) (h : Heap), YP w h → (K w.params).In h → h.Ns mainGlobals mg → mg d.name = some (.ref fa) → LawAt l w (K w.params) n mg fa h) :
    PySem.W.WalkO q loose XP YP l.row.toRowW d [] (fun f vs => PySem.call f vs) := by
  refine Att.attach_callB hn hdf fun w s₀ s₁ mg mb fa o pm cd doc a vs ns G Y ho hd hcd hmg hobj hints hlen hbits hg => ?_
  have KX := hY w _ Y
  obtain ⟨cs, hT, nT, C, hc⟩ := F w mg fa _ Y KX G.T.g hmg
  exact law_callG KX G.T.g G.T.b G.T.builtins G.T.nolimit hg hT nT C G.T.bmain hobj hints (Nat.le_trans hlen hn2) fun base H e0 tb hH hS => hc base H s₁ a ns hlen e0 tb hH hS
end Ms

end
section
set_option Elab.async false
set_option linter.all false
set_option maxRecDepth 100000
set_option maxHeartbeats 4000000
namespace GenZ
open PySem PySem.Spec PyProof.Rows L2 LamX
/-! ### the walk of all, any -/
section
variable {prog : Program} {w : World} {A : Around} {I : Addr}
theorem all_loop (St : Nat → Shared → Prop) (Qt Qf : Shared → Prop)
    (step : ∀ n s, St n s → wpAny (model prog w) A.in1 (pyNext (.ref I)) (fun r s' => match r with | none => Qt s' | some v => ∃ b, v = .bool b ∧ (b = false → Qf s') ∧ (b = true → ∃ m, m < n ∧ St m s')) (fun _ _ => False) s) :
    ∀ (n : Nat) (s : Shared), St n s → codeAny (model prog w) A (.builtin "all.loop" ⟨[.ref I], []⟩) (fun r s' => (r = .ok (.ret (.bool true)) ∧ Qt s') ∨ (r = .ok (.ret (.bool false)) ∧ Qf s')) s := by
  intro n
  induction n using Nat.strongRecOn with
  | ind n ih =>
    intro s hst
    refine codeAny_builtin F.entry_all_loop ?_
    rw [Around.under_plainId F.plain_all_loop _]
    show wpAny _ A.in1 (pyNext (.ref I) >>= _) _ _ s
    refine wpAny_bind (wpAny_mono (step n s hst) (fun r s' h => ?_) fun _ _ z => z.elim)
    cases r with
    | none =>
      refine wpAny_bind (wpAny_rule (wpAny_pure ?_))
      exact .inl ⟨rfl, h⟩
    | some v =>
      obtain ⟨b, rfl, h1, h2⟩ := h
      refine wpAny_bind (wpAny_holding (wpAny_truthy_bool ?_))
      refine wpAny_bind (wpAny_letGo ?_)
      cases b with
      | true =>
        simp only [if_true]
        obtain ⟨m, hm, hs⟩ := h2 rfl
        exact wpAny_pure ⟨plainId_quiet F.plain_all_loop _, ih m hm s' hs⟩
      | false =>
        simp only [Bool.false_eq_true, if_false]
        refine wpAny_bind (wpAny_rule (wpAny_pure ?_))
        exact .inr ⟨rfl, h1 rfl⟩
end
/-! ### the frame of a generator expression -/
/-- the context of its element: the frame at C, the generator's object pinned -/
abbrev gnx (X : Cx) (A : Around) (s : Shared) (H : Hp) (env : Env) (fp : List Addr) (pn : List (Addr × Obj)) : Cx :=
  { X with A := A, s_0 := s, H_0 := H, env := env, outer := X.stack, stack := env :: X.stack, ex := fp, fn := fun _ => false, pn := pn, xe := fun _ _ => False }
abbrev gEnv (X : Cx) (scope : Scope) (C : Addr) (code : Value) : Env := genEnv scope (cloFrom X.env.cells scope.names []) C code builtinsNs X.env
structure GnOk (sc scope : Scope) : Prop where
  co : scope.isCoroutine = false
  cell : ∀ y ∈ scope.names, y.2 ≠ .cell
  dot : scope.names.lookup (".0" : Str) = some NameKind.local
section
variable {X : Cx} {pins : List (Addr × Obj)} {σ : L2.St} {H : Hp} {s s5 : Shared}
theorem gn_start {scope : Scope} {own : List (Str × Nat)} {fp : List Addr} {A : Around} {code : Value} {a : Addr} {go : Obj} {it : Value} (I : Inv X pins σ H s) (I5 : Inv X pins σ H s5) (ok : BlkOk X.N X.env.scope scope own) (G : GnOk X.env.scope scope) (hN : X.N.Nodup) (hfp : ∀ b ∈ fp, FpOk X pins H b ∧ b < s.heap.objs.size)
    (hh : A.handled = none) (hA : A.frames = some (gEnv X scope s.heap.objs.size code :: X.stack)) (kp : ∀ b o, s.heap.get? b = some o → s5.heap.get? b = some o) (hns : s5.heap.Ns s.heap.objs.size (fun y => if y = ".0" then some it else none)) (hos : s5.os = s.os)
    (ha : s5.heap.get? a = some go) (hal : s.heap.objs.size < a) (hgo : ∀ v, go.data ≠ .cell v) :
    Inv (gnx X A s H (gEnv X scope s.heap.objs.size code) fp [(a, go)]) [] (wipe σ (own.map (·.2))) H s5 := by
  have hfree : ∀ y ∈ scope.names, y.2 = .free → ∃ c, X.env.cells.lookup y.1 = some c := fun y hy e => by
    rcases ok.free y hy e with k | k
    · exact I.ok.has _ (.inl k)
    · exact I.ok.has _ (.inr k)
  have cm : ∀ {y c}, (y, c) ∈ cloFrom X.env.cells scope.names [] → X.env.cells.lookup y = some c ∧ c < s.heap.objs.size := fun {y c} hm => by
    rcases cloFrom_mem hm with hm | ⟨h1, rfl⟩
    · cases hm
    · obtain ⟨c, hc⟩ := hfree _ h1 rfl
      rw [hc]
      obtain ⟨w, z⟩ := I.cell _ _ hc
      exact ⟨rfl, z.lt⟩
  have cm2 : ∀ {y c}, (cloFrom X.env.cells scope.names []).lookup y = some c → X.env.cells.lookup y = some c ∧ c < s.heap.objs.size := fun {y c} e => cm (PySem.mem_of_lookup e)
  have look : ∀ {y}, scope.names.lookup y = some .free → ∃ c, (cloFrom X.env.cells scope.names []).lookup y = some c ∧ X.env.cells.lookup y = some c := fun {y} hl => by
    have hy : (y, NameKind.free) ∈ scope.names := PySem.mem_of_lookup hl
    obtain ⟨c', e'⟩ := mem_lookup (cloFrom_has (cells := X.env.cells) (acc := []) hy)
    exact ⟨c', e', (cm2 e').1⟩
  have okB : (gnx X A s H (gEnv X scope s.heap.objs.size code) fp [(a, go)]).Ok := by
    refine ⟨I.ok.mod, ok.kind, I.ok.glob, rfl, Nat.le_refl _, fun y z c e1 e2 => I.ok.inj y z c (cm2 e1).1 (cm2 e2).1, fun y hy => ?_, fun y c z e => absurd z Bool.false_ne_true, fun _ => hh, hA, .inr ⟨rfl, rfl⟩, fun b hb => ⟨Nat.ne_of_lt (hfp b hb).2, fun y c e z => (hfp b hb).1.2.2.2.2.1 y c (cm2 e).1 z⟩, I.bs, Nat.le_trans I.ok.bsz I.sz, fun b o e hb => ?_, fun b hb z => ?_, I.stack, I.stkFree⟩
    · have hy : scope.names.lookup y = some .cell ∨ scope.names.lookup y = some .free := hy
      rcases hy with hy | hy
      · exact absurd rfl (G.cell _ (PySem.mem_of_lookup hy))
      · obtain ⟨c, h1, _⟩ := look hy
        exact ⟨c, h1⟩
    · rcases (hfp b hb).1.2.2.2.1 with z | z
      · exact I.ok.noex b o e z
      · exact absurd (Nat.lt_of_lt_of_le (Heap.lt_size e) (Nat.le_trans I.ok.bsz z)) (Nat.lt_irrefl _)
    · rcases List.mem_cons.mp (I.stkSub b z) with z | z
      · exact (hfp b hb).1.2.1 z
      · exact (hfp b hb).1.2.2.1 z
  refine ⟨okB, hos, I5.bare, Un.kept kp, ⟨_, hns, fun i y av e1 e2 e3 => ?_⟩, fun y c e => ?_, I.hok.fresh (Nat.le_refl _), fun y c e => I.freeC y c (cm2 e).1, fun p hp => ?_, I5.hok, by rw [wipe_length]; exact I.len⟩
  · obtain ⟨e2, hne⟩ := wipe_some e2
    have no : ∀ k, scope.names.lookup y = some k → ¬ (k = .local ∨ k = .cell) := fun k e hh => by
      rcases ok.own _ (PySem.mem_of_lookup e) hh with e' | e'
      · obtain ⟨p, hp, hpy⟩ := List.mem_map.mp e'
        have e3 := ok.ix p hp
        have : p.1 = y := hpy
        rw [this] at e3
        exact hne (List.mem_map.mpr ⟨p, hp, nodup_ix hN e3 e1⟩)
      · exact e' (List.mem_of_getElem? e1)
    have e3 : Vis scope y := e3
    have hf : scope.names.lookup y = some .free := by
      rcases e3 with e3 | e3 | e3
      · exact absurd (.inl rfl) (no _ e3)
      · exact absurd (.inr rfl) (no _ e3)
      · exact e3
    obtain ⟨m, hn, hl⟩ := I.loc
    have hvis : Vis X.env.scope y := (ok.free _ (PySem.mem_of_lookup hf) rfl).elim (fun k => .inr (.inl k)) (fun k => .inr (.inr k))
    obtain ⟨w, r, q⟩ := hl i y av e1 e2 hvis
    refine ⟨w, r, .inr ⟨.inr hf, ?_⟩⟩
    obtain ⟨c, h1, h2⟩ := look hf
    rcases q with ⟨k, _⟩ | ⟨_, c', e', z⟩
    · have k : X.env.scope.names.lookup y = some .local := k
      rcases ok.free _ (PySem.mem_of_lookup hf) rfl with k' | k' <;> rw [show X.env.scope.names.lookup y = _ from k'] at k <;> cases k
    · rw [h2] at e'; cases e'
      exact ⟨c, h1, z.keeps kp⟩
  · obtain ⟨w, z⟩ := I.cell y c (cm2 e).1
    exact ⟨w, z.keeps kp⟩
  · have hp : p ∈ [(a, go)] ++ [] := hp
    rw [List.append_nil] at hp
    rw [List.mem_singleton.mp hp]
    refine ⟨ha, I.hok.fresh (Nat.le_of_lt hal), Nat.ne_of_gt hal, fun z => ?_, hgo⟩
    rcases List.mem_cons.mp (I.stkSub a z) with z | z
    · have := I.lt
      rw [← z] at this
      exact absurd (Nat.lt_trans this hal) (Nat.lt_irrefl _)
    · exact I.nofs (Nat.le_of_lt hal) z
end
/-! ### the loop of a generator expression -/
theorem inv_same {X : Cx} {pins : List (Addr × Obj)} {σ : L2.St} {H : Hp} {s s' : Shared} (I : Inv X pins σ H s) (e1 : s'.os = s.os) (e2 : AllBare s'.gens) (e3 : s'.heap = s.heap) : Inv X pins σ H s' :=
  ⟨I.ok, e1.trans I.os, e2, by rw [e3]; exact I.base, by rw [e3]; exact I.loc, by rw [e3]; exact I.cell, I.free, I.freeC, by rw [e3]; exact I.pin, by rw [e3]; exact I.hok, I.len⟩
/-- it ends -/
def GR (X : Cx) (Qt : Hp → Prop) : Nat → Shared → Shared → Prop := fun _ _ s => ∃ pins σ H, Inv X pins σ H s ∧ Qt H
/-- it hands out a test's answer -/
def GY (X : Cx) (Qf : Hp → Prop) : Protocol := fun _ _ v s kap => ∃ (b : Bool) (H : Hp), v = .bool b ∧ (∃ pins σ, Inv X pins σ H s) ∧ (b = false → Qf H) ∧ (b = true → ∀ s'', s''.os = s.os → AllBare s''.gens → s''.heap = s.heap → kap (.send .none) s'')
section
variable {X : Cx} {A : Around} {elt tg iter : Expr} {scope : Scope} {pos : Pos} {it : Addr} {fp : List Addr} {tn : Nat → Heap → Prop} {J : It} {g : TG} {te : TE} {vs : List Nat} {σ0 : L2.St} {W : Nat → Nat → Hp → Prop} {Qt Qf : Hp → Prop}
theorem gn_loop (hA : X.A = A.over (.compLoop (.GeneratorExp elt [⟨tg, iter, [], 0⟩] scope pos) 0 (.ref it) .none X.env) []) (hc : X.calm = true) (hco : X.env.scope.isCoroutine = false) (hfp : X.ex = fp) (hxe : X.xe = fun _ _ => False) (hpn : ∀ p ∈ X.pn, p.1 ∉ fp)
    (T : Turn X.prog X.w X.K tg J fp it tn) (pg : PG X tg g) (pe : PE X elt te)
    (turn : ∀ i m H, W i m H → (J.stop i H ∧ Qt H) ∨ (J.go i H ∧ ∃ m', m = m' + 1 ∧ ∃ Nx : Hp → Prop, (∀ H', Nx H' → ∃ k, k ≤ m' ∧ W (i + 1) k H') ∧ ∀ x H', J.yld i H x H' → g x (wipe σ0 vs) H' fun σ2 H2 => wipe σ2 vs = wipe σ0 vs ∧
      te σ2 H2 fun y H3 => ∃ b, y = .bl b ∧ (b = true → Nx H3) ∧ (b = false → Qf H3))) :
    ∀ (n m i : Nat) (H : Hp) (s s₀ : Shared), m ≤ n → Inv X [] (wipe σ0 vs) H s → tn i s.heap → (∀ b ∈ fp, H b = none) → W i m H →
      Seg (model X.prog X.w) A (fun n s₀ r s₁ => r = .ok .next ∧ GR X Qt n s₀ s₁) (GY X Qf) n s₀ (.compLoop (.GeneratorExp elt [⟨tg, iter, [], 0⟩] scope pos) 0 (.ref it) .none X.env)
        ((model X.prog X.w).den (.compLoop (.GeneratorExp elt [⟨tg, iter, [], 0⟩] scope pos) 0 (.ref it) .none X.env)) [] s := by
  have stat : ∀ {σ' : L2.St} {H' : Hp} {s' : Shared}, Inv X [] σ' H' s' → (∀ b ∈ fp, H' b = none) → ∀ b ∈ fp, FpOk X [] H' b := fun {σ' H' s'} I' hn b hb =>
    ⟨hn b hb, (I'.ok.exf b (by rw [hfp]; exact hb)).1, I'.ok.exfs b (by rw [hfp]; exact hb), .inl (by rw [hfp]; exact hb), fun x c e => (I'.ok.exf b (by rw [hfp]; exact hb)).2 x c e, fun p hp z => hpn p (by simpa using hp) (by rw [z]; exact hb)⟩
  intro n
  induction n with
  | zero =>
    intro m i H s s₀ hm I st nf w
    rcases turn i m H w with ⟨stop, qq⟩ | ⟨go, m', e, _⟩
    · show Seg _ A _ _ _ s₀ _ ((compTurn (.GeneratorExp elt [⟨tg, iter, [], 0⟩] scope pos) 0 (.ref it) .none X.env).onRaise (leaving X.env)) [] s
      rw [compTurn_gen, Sem.onRaise_eq_wrap]
      refine seg_bind_wrap (wpAny_standAt ?_)
      refine seg_bind_wrap ?_
      rw [← hA]
      refine wpAny_mono (T.done X rfl rfl rfl hc i [] s _ H (fun _ _ => False) I (stat I nf) st stop) (fun r s1 h => ?_) fun _ _ z => z.elim
      obtain ⟨rfl, I1⟩ := h
      exact seg_end (.ok .next) ⟨rfl, _, _, _, I1, qq⟩
    · omega
  | succ n ih =>
    intro m i H s s₀ hm I st nf w
    rcases turn i m H w with ⟨stop, qq⟩ | ⟨go, m', e, Nx, hNx, step⟩
    · show Seg _ A _ _ _ s₀ _ ((compTurn (.GeneratorExp elt [⟨tg, iter, [], 0⟩] scope pos) 0 (.ref it) .none X.env).onRaise (leaving X.env)) [] s
      rw [compTurn_gen, Sem.onRaise_eq_wrap]
      refine seg_bind_wrap (wpAny_standAt ?_)
      refine seg_bind_wrap ?_
      rw [← hA]
      refine wpAny_mono (T.done X rfl rfl rfl hc i [] s _ H (fun _ _ => False) I (stat I nf) st stop) (fun r s1 h => ?_) fun _ _ z => z.elim
      obtain ⟨rfl, I1⟩ := h
      exact seg_end (.ok .next) ⟨rfl, _, _, _, I1, qq⟩
    · subst e
      show Seg _ A _ _ _ s₀ _ ((compTurn (.GeneratorExp elt [⟨tg, iter, [], 0⟩] scope pos) 0 (.ref it) .none X.env).onRaise (leaving X.env)) [] s
      rw [compTurn_gen, Sem.onRaise_eq_wrap]
      refine seg_bind_wrap (wpAny_standAt ?_)
      refine seg_bind_wrap ?_
      rw [← hA]
      refine wpAny_mono (T.item X rfl rfl rfl hc i [] s _ H (fun _ _ => False) I (stat I nf) st go) (fun r s1 h => ?_) fun _ _ z => z.elim
      obtain ⟨u, rfl, h1⟩ := h
      refine seg_bind_wrap ?_
      rw [← hA]
      refine wpAny_mono h1 (fun _ s2 h => ?_) fun _ _ z => z.elim
      obtain ⟨x, H2, I2, r2, y2, st2, n2⟩ := h
      have I2' := I2.pinned (stat I2 n2) (T.obj _ _ st2)
      refine seg_bind_wrap ?_
      rw [← hA]
      refine wpAny_mono (pg.run _ s2 _ H2 x u _ I2' r2 (step x H2 y2)) (fun _ s3 h => ?_) fun _ _ z => by rw [hxe] at z; exact z.elim
      obtain ⟨σ3, H3, I3, hw, q3⟩ := h
      refine seg_bind_wrap (wpAny_tests_nil ?_)
      simp only [if_true]
      have hy : ∀ v, yieldOut X.env v = yieldValue v := fun v => by simp only [yieldOut, hco, Bool.false_eq_true, if_false]
      simp only [hy]
      rw [Sem.bind_eq_wrap', Sem.bind_eq_wrap', Sem.wrap_wrap, Sem.wrap_wrap]
      refine seg_wrap ?_
      rw [← hA]
      refine wpAny_mono (pe.run _ s3 σ3 H3 _ I3 q3) (fun v s4 h => ?_) fun _ _ z => by rw [hxe] at z; exact z.elim
      obtain ⟨yv, H4, I4, r4, b, rfl, ht, hf⟩ := h
      obtain rfl : v = Value.bool b := r4
      refine seg_at (seg_yield rfl rfl rfl ⟨b, H4, rfl, ⟨_, _, I4⟩, hf, fun hb s'' e1 e2 e3 => ?_⟩)
      obtain ⟨k, hk, w'⟩ := hNx H4 (ht hb)
      have pin' : ∀ b ∈ fp, ∀ o, s2.heap.get? b = some o → s4.heap.get? b = some o ∧ H4 b = none := fun b hb o e =>
        let z := I4.pin (b, o) (List.mem_append_right _ (List.mem_append_right _ (mem_pinsAt hb e)))
        ⟨z.1, z.2.1⟩
      have hl : (wipe σ0 vs).length = σ3.length := by rw [← hw, wipe_length]
      have I5 : Inv X [] (wipe σ0 vs) H4 s4 := (I4.unpinned (pins := [])).weak hl (fun j v e => by rw [← hw] at e; exact (wipe_some e).1)
      refine seg_again rfl (ih k (i + 1) H4 s'' s'' (by omega) (inv_same I5 e1 e2 e3) (by rw [e3]; exact T.keep _ _ _ st2 fun b hb o e => (pin' b hb o e).1) (fun b hb => ?_) w')
      obtain ⟨o, e, _⟩ := T.obj _ _ st2 b hb
      exact (pin' b hb o e).2
end
theorem gn_begin {X : Cx} {A : Around} {R : GenEnd} {Y : Protocol} {n : Nat} {s₀ s : Shared} {elt tg iter : Expr} {scope : Scope} {pos : Pos} {it : Addr} {fp : List Addr} {tn : Nat → Heap → Prop} {J : It} {env : Env}
    (T : Turn X.prog X.w X.K tg J fp it tn) (st : tn 0 s.heap)
    (loop : Seg (model X.prog X.w) A R Y n s₀ (.compLoop (.GeneratorExp elt [⟨tg, iter, [], 0⟩] scope pos) 0 (.ref it) .none env) ((model X.prog X.w).den (.compLoop (.GeneratorExp elt [⟨tg, iter, [], 0⟩] scope pos) 0 (.ref it) .none env)) [] s) :
    Seg (model X.prog X.w) A R Y n s₀ (.compStart (.GeneratorExp elt [⟨tg, iter, [], 0⟩] scope pos) 0 (.ref it) .none env) ((model X.prog X.w).den (.compStart (.GeneratorExp elt [⟨tg, iter, [], 0⟩] scope pos) 0 (.ref it) .none env)) [] s := by
  show Seg _ A _ _ _ s₀ _ ((compStart (.GeneratorExp elt [⟨tg, iter, [], 0⟩] scope pos) 0 (.ref it) .none env).onRaise (leaving env)) [] s
  unfold compStart
  rw [Sem.onRaise_eq_wrap]
  show Seg _ A _ _ _ s₀ _ ((ask >>= _).wrap _ _ _ _) [] s
  refine seg_bind_wrap (wpAny_askSetting ?_)
  split
  · exact seg_again rfl loop
  · first
      | exact seg_bind_wrap (wpAny_rule (seg_bind_wrap (wpAny_standAt (seg_bind_wrap (T.self _ 0 s _ _ st (seg_again rfl loop))))))
      | (refine seg_bind_wrap (wpAny_rule ?_); show Seg _ A _ _ _ s₀ _ ((standAt iter.pos >>= _).wrap _ _ _ _) [] s; exact seg_bind_wrap (wpAny_standAt (seg_bind_wrap (T.self _ 0 s _ _ st (seg_again rfl loop)))))
/-! ### all(.. for .. in ..) -/
theorem bare_setGen {s : Shared} {g : Nat} {x : GenState} (h : AllBare s.gens) (hx : x.bare = true) : AllBare (s.setGen g x).gens := by
  intro y hy
  have hy : y ∈ s.gens.setIfInBounds g x := hy
  rcases Array.mem_or_eq_of_mem_setIfInBounds hy with h1 | h1
  · exact h y h1
  · rw [h1]; exact hx
def tAllG (T : List (Addr × Str)) (wi : TI) (g : TG) (te : TE) (vs : List Nat) : TE := fun σ H Q => wi σ H fun J H1 => Tabs T H1 ∧ ∀ H2, ExtN H1 H2 → Tabs T H2 → ∃ W : Nat → Nat → Hp → Prop, (∃ m, W 0 m H2) ∧ ∀ i m H, W i m H →
  (J.stop i H ∧ Q (.bl true) H) ∨ (J.go i H ∧ ∃ m', m = m' + 1 ∧ ∃ Nx : Hp → Prop, (∀ H', Nx H' → ∃ k, k ≤ m' ∧ W (i + 1) k H') ∧ ∀ x H', J.yld i H x H' → g x (wipe σ vs) H' fun σ2 H2 => wipe σ2 vs = wipe σ vs ∧
    te σ2 H2 fun y H3 => ∃ b, y = .bl b ∧ (b = true → Nx H3) ∧ (b = false → Q (.bl false) H3))
section
variable {X : Cx} {elt tg iter : Expr} {scope : Scope} {own : List (Str × Nat)} {T : List (Addr × Str)} {c P : Addr} {p pos gpos : Pos} {wi : TI} {g : TG} {te : TE} {k : Nat}
theorem pe_allG (hr : Room (k + 2) X.A) (hc : X.calm = true) (hN : X.N.Nodup) (hg : Gl X "all") (hm : X.mg "all" = none) (hb : bootBuiltins "all" = some (.builtin "all")) (TB : TabB X.base X.mg c P) (hcode : X.env.code = .ref c)
    (hmT : (P, X.env.qual ++ "<genexpr>") ∈ T) (hu : ∀ p ∈ T, p.1 = P → p.2 = X.env.qual ++ "<genexpr>") (hi : PI X tg iter wi) (ok : BlkOk X.N X.env.scope scope own) (G : GnOk X.env.scope scope)
    (hpg : ∀ A s H C code fp pn, Room k A → PG (gnx X A s H (gEnv X scope C code) fp pn) tg g) (hpe : ∀ A s H C code fp pn, Room k A → PE (gnx X A s H (gEnv X scope C code) fp pn) elt te) (hs : ∀ v, genFold iter X.env v = pure v)
    (he : starEach [.GeneratorExp elt [⟨tg, iter, [], 0⟩] scope gpos] X.env = (false, eval (.GeneratorExp elt [⟨tg, iter, [], 0⟩] scope gpos) X.env) :: starEach [] X.env := by rfl) :
    PE X (.Call (.Name "all" p) [.GeneratorExp elt [⟨tg, iter, [], 0⟩] scope gpos] [] pos) (tAllG T wi g te (own.map (·.2))) := by
  refine ⟨fun pins s σ H Q I h => ?_⟩
  have hfree : ∀ y ∈ scope.names, y.2 = .free → ∃ c, X.env.cells.lookup y.1 = some c := fun y hy e => by
    rcases ok.free y hy e with k | k
    · exact I.ok.has _ (.inl k)
    · exact I.ok.has _ (.inr k)
  refine wpAny_Call_Name_kw (ld_blt I hg hm hb ?_)
  refine PyProof.Rows.callWith_builtin1 ?_ he (by rfl)
  rw [he]
  show wpAny _ _ (spliced ((false, eval (.GeneratorExp elt [⟨tg, iter, [], 0⟩] scope gpos) X.env) :: backTo pos (starEach [] X.env))) _ _ s
  refine Calls.spliced_cons (wpAny_GeneratorExp_make G.co (closure_ok hfree) G.cell G.dot ok.kind hr.depth ?_ hs)
  refine thn (hi.run pins s σ H _ I h) fun xv s1 hx => thn hx fun itv s2 h2 => ?_
  obtain ⟨it, fp, tn, J, H2, rfl, I2, T_, st2, f2, tabs, q⟩ := h2
  refine ⟨I2.nolimit, ?_⟩
  obtain ⟨ps, hP, ht, ha⟩ := tabs _ hmT
  have hP' : s2.heap.get? P = some { cls := .none, data := .fields ps } := I2.hok P _ hP
  have cd : PySem.W.CodeHd s2.heap c P := TB.code.keeps I2.bk
  have sz : ∀ b ∈ fp, b < s2.heap.objs.size := fun b hb => by
    obtain ⟨o, e, _⟩ := T_.obj _ _ st2 b hb
    exact Heap.lt_size e
  have fpP : ∀ b ∈ fp, b ≠ P := fun b hb z => by
    have := (f2 b hb).1
    rw [z, hP] at this
    cases this
  -- behind the code object
  have cont : ∀ (code : Value) (H3 : Hp) (s3 : Shared), Inv X pins σ H3 s3 → ExtN H2 H3 → Tabs T H3 → tn 0 s3.heap → (∀ b ∈ fp, FpOk X pins H3 b ∧ b < s3.heap.objs.size) →
      wpAny (model X.prog X.w) X.A (builtinsFor X.env.globals X.env.builtins) (fun bi s₄ => ∀ h', h'.Ns s₄.heap.objs.size (fun y => if y = ".0" then some (.ref it) else none) → Heap.SameBut s₄.heap.objs.size (s₄.heap.push { cls := .type "frame", data := .dict #[] }) h' →
        wpAny (model X.prog X.w) X.A (spliced (backTo pos (starEach [] X.env))) (fun vs s' => wpAny (model X.prog X.w) X.A (call (.builtin "all") (Value.ref h'.objs.size :: vs)) (EP X pins σ Q) X.xe s') X.xe { s₄ with
            gens := s₄.gens.push (.fresh (.compStart (.GeneratorExp elt [⟨tg, iter, [], 0⟩] scope gpos) 0 (.ref it) .none (genEnv scope (cloFrom X.env.cells scope.names []) s₄.heap.objs.size code bi X.env))),
            toks := s₄.toks + 1 + 1 + 1,
            heap := h'.push { cls := .type "generator", data := .fields #[.int s₄.gens.size 0, .str "<genexpr>" (s₄.toks + 1), .str (X.env.qual ++ "<genexpr>") (s₄.toks + 1 + 1)] } }) X.xe s3 := by
    intro code H3 s3 I3 ext3 tab3 st3 f3
    obtain ⟨bm, ob, e1, e2, e3, e4, e5, e6, e7, e8⟩ := TB.bm
    refine wpAny_builtinsFor (m := X.mg) (by rw [I3.ok.glob]; exact I3.mod.glob.keeps I3.bk) e1 e2 (I3.bk _ _ e5) e6 e7 e8 ?_
    intro h' hns hsb
    have hsz : h'.objs.size = s3.heap.objs.size + 1 := by rw [hsb.1, Heap.size_push]
    generalize hgo : ({ cls := .type "generator", data := .fields #[.int s3.gens.size 0, .str "<genexpr>" (s3.toks + 1), .str (X.env.qual ++ "<genexpr>") (s3.toks + 1 + 1)] } : Obj) = go
    have hgen : ∀ h : Heap, h.get? h'.objs.size = some go → h.IsGen h'.objs.size s3.gens.size := fun h e => ⟨go, _, _, e, by rw [← hgo], by rw [← hgo], by rw [← hgo]⟩
    have hgc : ∀ v, go.data ≠ .cell v := fun v z => by rw [← hgo] at z; cases z
    have hpush : (h'.push go).get? h'.objs.size = some go := by rw [← hgo]; exact Heap.get?_push_size _ rfl
    have keep' : ∀ b o, s3.heap.get? b = some o → h'.get? b = some o := fun b o e => hsb.extBut b o (Nat.ne_of_lt (Heap.lt_size e)) (Heap.get?_push_of_some _ e)
    have keep5 : ∀ b o, s3.heap.get? b = some o → (h'.push go).get? b = some o := fun b o e => Heap.get?_push_of_some _ (keep' b o e)
    generalize ha5 : h'.objs.size = a at hsz hgen hpush ⊢
    generalize hs5 : ({ s3 with
            gens := s3.gens.push (.fresh (.compStart (.GeneratorExp elt [⟨tg, iter, [], 0⟩] scope gpos) 0 (.ref it) .none (genEnv scope (cloFrom X.env.cells scope.names []) s3.heap.objs.size code builtinsNs X.env))),
            toks := s3.toks + 1 + 1 + 1,
            heap := h'.push go } : Shared) = s5
    have h5 : s5.heap = h'.push go := by rw [← hs5]
    have os5 : s5.os = s3.os := by rw [← hs5]
    have gn5 : s5.gens[s3.gens.size]? = some (.fresh (.compStart (.GeneratorExp elt [⟨tg, iter, [], 0⟩] scope gpos) 0 (.ref it) .none (gEnv X scope s3.heap.objs.size code))) := by rw [← hs5]; exact Array.getElem?_push_size ..
    have ba5 : AllBare s5.gens := by rw [← hs5]; exact I3.bare.push rfl
    have kp5 : ∀ b o, s3.heap.get? b = some o → s5.heap.get? b = some o := by rw [h5]; exact keep5
    have I5 : Inv X pins σ H3 s5 := I3.call' (ch := []) os5 (Un.kept kp5) (I3.hok.kept kp5) ba5 fun b z => by simp at z
    clear hs5
    obtain ⟨W, ⟨m0, w0⟩, turn⟩ := q H3 ext3 tab3
    -- the generator's frame
    generalize hcl : Code.compLoop (.GeneratorExp elt [⟨tg, iter, [], 0⟩] scope gpos) 0 (.ref it) .none (gEnv X scope s3.heap.objs.size code) = cl
    have hAf : (X.A.in1.in1.over cl []).frames = some (gEnv X scope s3.heap.objs.size code :: X.stack) := by
      rw [← hcl]
      have e : X.A.in1.in1.frames = some X.stack := I3.ok.frames
      show pushEnvs [gEnv X scope s3.heap.objs.size code] (pushEnvs [] X.A.in1.in1.frames) = _
      rw [e]
      rfl
    have hAr : Room k (X.A.in1.in1.over cl []) := by
      rw [← hcl]
      refine ⟨hr.hd, ?_, ?_⟩
      · have := hr.dp
        show X.A.depth + 1 + 3 * k + 5 < _
        omega
      · have := hr.un
        show X.A.units + 2 + 3 + 16 * k + 200 < _
        omega
    have IG : Inv (gnx X (X.A.in1.in1.over cl []) s3 H3 (gEnv X scope s3.heap.objs.size code) fp [(a, go)]) [] (wipe σ (own.map (·.2))) H3 s5 :=
      gn_start I3 I5 ok G hN f3 hAr.hd hAf kp5 (by rw [h5]; exact hns.push _) os5 (by rw [h5]; exact hpush) (by omega) hgc
    have hal : s3.heap.objs.size < a := by omega
    have R0 : hr.hd = hr.hd := rfl
    have I3' : Inv X pins σ H3 s3 := I3
    -- back in the def's context
    have back : ∀ {ps' : List (Addr × Obj)} {σ' : L2.St} {H' : Hp} {s' : Shared}, Inv (gnx X (X.A.in1.in1.over cl []) s3 H3 (gEnv X scope s3.heap.objs.size code) fp [(a, go)]) ps' σ' H' s' → Inv X pins σ H' s' := fun {ps' σ' H' s'} J => by
      refine I3.call' (ch := fp) J.os J.base J.hok J.bare fun b hb => ⟨(f3 b hb).1.2.2.2.1, (f3 b hb).1.2.1, (f3 b hb).1.2.2.2.2.1, (f3 b hb).1.2.2.2.2.2⟩
    have isg : ∀ {ps' : List (Addr × Obj)} {σ' : L2.St} {H' : Hp} {s' : Shared}, Inv (gnx X (X.A.in1.in1.over cl []) s3 H3 (gEnv X scope s3.heap.objs.size code) fp [(a, go)]) ps' σ' H' s' → s'.heap.IsGen a s3.gens.size := fun {ps' σ' H' s'} J =>
      hgen _ (J.pin (a, go) (List.mem_append_left _ (List.mem_singleton.mpr rfl))).1
    have seg0 : ∀ s'' : Shared, s''.os = s5.os → AllBare s''.gens → s''.heap = s5.heap → Seg (model X.prog X.w) X.A.in1.in1 (fun n s₀ r s₁ => r = .ok .next ∧ GR (gnx X (X.A.in1.in1.over cl []) s3 H3 (gEnv X scope s3.heap.objs.size code) fp [(a, go)]) (fun H => Q (.bl true) H) n s₀ s₁)
        (GY (gnx X (X.A.in1.in1.over cl []) s3 H3 (gEnv X scope s3.heap.objs.size code) fp [(a, go)]) (fun H => Q (.bl false) H)) m0 s'' (.compStart (.GeneratorExp elt [⟨tg, iter, [], 0⟩] scope gpos) 0 (.ref it) .none (gEnv X scope s3.heap.objs.size code))
        ((model X.prog X.w).den (.compStart (.GeneratorExp elt [⟨tg, iter, [], 0⟩] scope gpos) 0 (.ref it) .none (gEnv X scope s3.heap.objs.size code))) [] s'' := fun s'' z1 z2 z3 => by
      have st5 : tn 0 s''.heap := T_.keep _ _ _ st3 fun b _ o e => by rw [z3]; exact kp5 b o e
      refine gn_begin T_ st5 ?_
      refine gn_loop (X := gnx X (X.A.in1.in1.over cl []) s3 H3 (gEnv X scope s3.heap.objs.size code) fp [(a, go)]) (by rw [← hcl]) hc G.co rfl rfl (fun p hp z => ?_) T_ (hpg _ _ _ _ _ _ _ hAr) (hpe _ _ _ _ _ _ _ hAr) turn m0 m0 0 H3 s'' s'' (Nat.le_refl _) (inv_same IG z1 z2 z3) st5 (fun b hb => (f3 b hb).1.1) w0
      rw [List.mem_singleton.mp hp] at z
      exact Nat.lt_irrefl _ (Nat.lt_trans (f3 a z).2 hal)
    refine Calls.spliced_nil ?_
    refine call_function_tree F.kind_all F.plain_all F.entry_all (F.args_all1 _) ?_
    unfold Builtin.«all»
    refine wpAny_bind (m := oneArg "all" _) (wpAny_pure ?_)
    refine wpAny_bind (wpAny_pyIter_gen (isg IG) ?_)
    refine wpAny_pure ⟨plainId_quiet F.plain_all_loop _, ?_⟩
    refine codeAny_mono (all_loop (fun n s => ∃ gs, s.gens[s3.gens.size]? = some gs ∧ (∃ ps' σ' H', Inv (gnx X (X.A.in1.in1.over cl []) s3 H3 (gEnv X scope s3.heap.objs.size code) fp [(a, go)]) ps' σ' H' s) ∧
      gs.Goes (model X.prog X.w) X.A.in1.in1 (fun n s₀ r s₁ => r = .ok .next ∧ GR (gnx X (X.A.in1.in1.over cl []) s3 H3 (gEnv X scope s3.heap.objs.size code) fp [(a, go)]) (fun H => Q (.bl true) H) n s₀ s₁)
        (GY (gnx X (X.A.in1.in1.over cl []) s3 H3 (gEnv X scope s3.heap.objs.size code) fp [(a, go)]) (fun H => Q (.bl false) H)) n (.send .none) (s.setGen s3.gens.size .running))
      (fun s' => ∃ H', Inv X pins σ H' s' ∧ Q (.bl true) H') (fun s' => ∃ H', Inv X pins σ H' s' ∧ Q (.bl false) H') ?_ m0 s5 ⟨_, gn5, ⟨_, _, _, IG⟩, rfl, seg0 _ rfl (bare_setGen ba5 rfl) rfl⟩) fun r s' h => ?_
    · rintro n s ⟨gs, hgs, ⟨ps', σ', H', J⟩, hgo2⟩
      have hsize : s3.gens.size + 1 ≤ s.gens.size := by
        rcases Nat.lt_or_ge s3.gens.size s.gens.size with z | z
        · exact z
        · rw [Array.getElem?_eq_none z] at hgs
          cases hgs
      refine GenW.wpAny_gsz hsize ?_
      refine wpAny_pyNext_genexpQ (P := GR (gnx X (X.A.in1.in1.over cl []) s3 H3 (gEnv X scope s3.heap.objs.size code) fp [(a, go)]) (fun H => Q (.bl true) H)) hr.hd J.nolimit hr.depth (isg J) hgs hgo2 (fun v s₁ gs' hb hv => ?_) (fun s₁ hp h'' hk => ?_)
      · obtain ⟨b, H4, rfl, ⟨ps4, σ4, J4⟩, hf, ht⟩ := hv
        intro hsz4
        have J5 : Inv (gnx X (X.A.in1.in1.over cl []) s3 H3 (gEnv X scope s3.heap.objs.size code) fp [(a, go)]) ps4 σ4 H4 (s₁.setGen s3.gens.size gs') := inv_same J4 rfl (bare_setGen J4.bare hb) rfl
        refine ⟨b, rfl, fun e => ⟨H4, back J5, hf e⟩, fun e => ?_⟩
        have kk := ht e ((s₁.setGen s3.gens.size gs').setGen s3.gens.size .running) rfl (bare_setGen J5.bare rfl) rfl
        cases n with
        | zero => exact kk.elim
        | succ n =>
          have hlt : s3.gens.size < (s₁.setGen s3.gens.size gs').gens.size := hsz4
          refine ⟨n, Nat.lt_succ_self n, gs', ?_, ⟨_, _, _, J5⟩, kk⟩
          have hlt' : s3.gens.size < s₁.gens.size := by
            have : (s₁.setGen s3.gens.size gs').gens.size = s₁.gens.size := by simp [Shared.setGen]
            omega
          exact setGen_self (Array.getElem?_eq_getElem hlt')
      · obtain ⟨ps4, σ4, H4, J4, qq⟩ := hp
        intro _
        have J5 : Inv (gnx X (X.A.in1.in1.over cl []) s3 H3 (gEnv X scope s3.heap.objs.size code) fp [(a, go)]) ps4 σ4 H4 (s₁.setGen s3.gens.size .finished) := inv_same J4 rfl (bare_setGen J4.bare rfl) rfl
        exact ⟨H4, (back J5).kept hk, qq⟩
    · rcases h with ⟨rfl, H', J, qq⟩ | ⟨rfl, H', J, qq⟩
      · exact ⟨.bl true, H', J, rfl, qq⟩
      · exact ⟨.bl false, H', J, rfl, qq⟩
  cases hf : codeAmong gpos ps.toList with
  | none =>
    refine wpAny_genexprCodeX hcode (cd.code hP' ht) (cd.tab hP') hf fun c' h' tk hx hge hlt hco' hrec htab' _ => ?_
    obtain ⟨c2, oc, vs, t, e2, hoc, hd, hv⟩ := hrec
    cases e2
    have nC : H2 c' = none := I2.hok.fresh hge
    have I3 := inv_table (t' := tk) (more := #[rawInt gpos.line, rawInt gpos.col, .ref c']) (h' := h') I2 hP hx htab'.2 hge ⟨oc, vs, t, hoc, hd, hv⟩
    have hE : ExtN H2 (upd (upd H2 P (.tbl (ps ++ #[rawInt gpos.line, rawInt gpos.col, .ref c']))) c' (CodeO c' (X.env.qual ++ "<genexpr>"))) := fun b o e n => by
      rw [upd_ne (ne_of_none e nC), upd_ne (fun z => n ps (Option.some.inj (e.symm.trans (by rw [z]; exact hP))))]
      exact e
    have eL : (ps ++ #[rawInt gpos.line, rawInt gpos.col, .ref c']).toList = ps.toList ++ [rawInt gpos.line, rawInt gpos.col, .ref c'] := by simp
    refine cont _ _ _ I3 hE (fun p hp => ?_) (T_.keep _ _ _ st2 fun b hb o e => hx b o (fpP b hb) e) fun b hb => ⟨⟨?_, (f2 b hb).2⟩, ?_⟩
    · by_cases hb : p.1 = P
      · rw [hu p hp hb, hb]
        refine ⟨_, by rw [upd_ne (ne_of_none hP nC), upd_same], by rw [eL]; exact PySem.TriplesOk_snoc _ _ _ _ ht, fun p' cv hcv => ?_⟩
        rw [eL] at hcv
        rcases among_app _ ht hcv with z | z
        · obtain ⟨c0, e1, e2⟩ := ha p' cv z
          exact ⟨c0, e1, hE _ _ e2 codeO_ne⟩
        · exact ⟨c', z, upd_same⟩
      · obtain ⟨ps', a1, a2, a3⟩ := tabs p hp
        refine ⟨ps', by rw [upd_ne (ne_of_none a1 nC), upd_ne hb]; exact a1, a2, fun p' cv hcv => ?_⟩
        obtain ⟨c0, e1, e2⟩ := a3 p' cv hcv
        exact ⟨c0, e1, hE _ _ e2 codeO_ne⟩
    · have hlt2 := sz b hb
      rw [upd_ne (Nat.ne_of_lt (Nat.lt_of_lt_of_le hlt2 hge)), upd_ne (fpP b hb)]
      exact (f2 b hb).1
    · exact Nat.lt_of_lt_of_le (sz b hb) (Nat.le_trans hge (Nat.le_of_lt hlt))
  | some cv =>
    refine wpAny_genexprCode_hit hcode (cd.code hP' ht) hf ?_
    exact cont cv H2 s2 I2 (ExtN.refl H2) tabs st2 fun b hb => ⟨f2 b hb, sz b hb⟩
end
end GenZ

end
section
set_option Elab.async false
set_option linter.all false
set_option maxRecDepth 100000
set_option maxHeartbeats 4000000
namespace Ms
open PySem PySem.Spec PyProof.Rows L2
/-! ### all(.. for .. in ..) -/
def allGo (b : Bd) (δ : List (Option D)) (F : Fn D) : List D → Sto → Res D
  | [], bx => .ok (.bl true) bx
  | d :: r, bx => match b bx δ d with
    | none => .bad
    | some δ1 => match F δ1 bx with
      | .ok (.bl true) bx1 => allGo b δ F r bx1
      | .ok (.bl false) bx1 => .ok (.bl false) bx1
      | _ => .bad
def fAllG (is : List Nat) (b : Bd) (Fi : Fn (List D)) (F : Fn D) : Fn D := bnd Fi fun ds => fun δ bx => allGo b (unset is δ) F ds bx
theorem Good.extN {K : PySem.W.Frag} {T : Tb} {β : Mu} {st : Sto} {H H' : Hp} (g : Good K T β st H) (x : ∀ b o, H b = some o → (∀ ps, o ≠ .tbl ps) → H' b = some o) (t : LamX.Tabs T.tb H') : Good K T β st H' :=
  ⟨g.ln, fun k a b h => by
    obtain ⟨c, h1, h2⟩ := g.cs k a b h
    exact ⟨c, h1, h2.le (.ext x) (g.xk (.ext x)) fun xs z => x _ _ z (fun ps z => by cases z)⟩, g.inj, fun k a b h => by
    obtain ⟨o, z, t⟩ := g.sm k a b h
    exact ⟨o, x _ _ z t, t⟩, fun e he => by
    obtain ⟨⟨l, h⟩, n⟩ := g.ex e he
    exact ⟨⟨l, x _ _ h (fun ps z => by cases z)⟩, n⟩, t⟩
theorem tAll_of {K : PySem.W.Frag} {P : Pm} {E : XK} {t : TG} {is : List Nat} {b : Bd} {Fi : Fn (List D)} {F : Fn D} (hgd : GD K t is b) : ∀ σ H Q, tD K P E (fAllG is b Fi F) σ H Q → GenZ.tAllG P.T.tb (tDL K P E Fi) t (tD K P E F) is σ H Q := by
  rintro σ H Q ⟨β, δ, bx, ev, g, o⟩
  have o2 := x_bind o.x
  refine ⟨β, δ, bx, ev, g, ?_⟩
  cases hF : Fi δ bx with
  | bad =>
    rw [hF] at o2
    exact o2
  | err c d bx' =>
    rw [hF] at o2
    exact o2
  | ok ds bx1 =>
    rw [hF] at o2
    intro β1 H1 l1 g1 _ J wk
    refine ⟨g1.tb, fun H2 x t2 => ?_⟩
    have o3 := o2 β1 H1 l1 g1 l1
    have lx : Le β1 H1 β1 H2 := .ext x
    refine ⟨fun i m Hc => m = ds.length - i ∧ i ≤ ds.length ∧ ∃ βi bx', Le β1 H1 βi Hc ∧ Ev K βi Hc (wipe σ is) (Ms.unset is δ) ∧ Good K P.T βi bx' Hc ∧ OutX P K β1 H1 (allGo b (Ms.unset is δ) F (ds.drop i) bx') E fun d β' _ H' => ∀ v, R K β' H' v d → Q v H',
      ⟨ds.length, rfl, Nat.zero_le _, β1, bx1, lx, ((ev.le l1).le lx).unset is, g1.extN x t2, by simpa using o3⟩, ?_⟩
    rintro i m Hi ⟨rfl, hi, βi, bx', li, evi, gi, oi⟩
    by_cases hlt : i < ds.length
    · refine .inr ⟨wk.goes i βi bx' Hi hlt li gi, ds.length - (i + 1), by omega, fun Hc => ∃ βi bx', Le β1 H1 βi Hc ∧ Ev K βi Hc (wipe σ is) (Ms.unset is δ) ∧ Good K P.T βi bx' Hc ∧ OutX P K β1 H1 (allGo b (Ms.unset is δ) F (ds.drop (i + 1)) bx') E fun d β' _ H' => ∀ v, R K β' H' v d → Q v H',
        fun H2 h => ⟨ds.length - (i + 1), Nat.le_refl _, rfl, hlt, h⟩, fun x H2 y => ?_⟩
      have hdi : ds[i]? = some ds[i] := List.getElem?_eq_getElem hlt
      obtain ⟨kp, rx⟩ := wk.yields i _ βi bx' Hi x H2 hdi li gi y
      have lk : Le βi Hi βi H2 := .of kp
      rw [List.drop_eq_getElem_cons hlt] at oi
      simp only [allGo] at oi
      cases hbd : b bx' (Ms.unset is δ) ds[i] with
      | none =>
        rw [hbd] at oi
        exact oi.elim
      | some δ1 =>
        rw [hbd] at oi
        dsimp only at oi
        refine hgd P.T βi bx' _ δ1 _ H2 x _ _ (evi.le lk) (gi.ext kp) rx hbd fun σ3 ev3 hw => ?_
        refine ⟨(hw is fun _ h => h).trans (wipe_wipe σ is), βi, δ1, bx', ev3, gi.ext kp, ?_⟩
        cases hE : F δ1 bx' with
        | bad =>
          rw [hE] at oi
          exact oi
        | err c d b =>
          rw [hE] at oi
          exact oi.elim
        | ok d bx3 =>
          rw [hE] at oi
          intro β4 y H4 l4 g4 ry
          cases d with
          | bl c =>
            cases c with
            | true => exact ⟨true, ry.bl_inv, fun _ => ⟨β4, bx3, (li.trans lk).trans l4, (evi.le lk).le l4, g4, oi⟩, fun z => nomatch z⟩
            | false => exact ⟨false, ry.bl_inv, (fun z => nomatch z), fun _ => oi β4 H4 ((li.trans lk).trans l4) g4 _ (.bl false)⟩
          | _ => exact oi.elim
    · have e : i = ds.length := by omega
      subst e
      rw [List.drop_length] at oi
      exact .inl ⟨wk.stops βi bx' Hi li gi, oi βi Hi li gi _ (.bl true)⟩
section
variable {X : Cx} {elt tg iter : Expr} {scope : Scope} {own : List (Str × Nat)} {P : Pm} {E : XK} {c Pt : Addr} {p pos gpos : Pos} {t : TG} {b : Bd} {Fi : Fn (List D)} {F : Fn D} {k : Nat}
theorem ed_allG (hr : Room (k + 2) X.A) (hc : X.calm = true) (hN : X.N.Nodup) (hg : Gl X "all") (hm : X.mg "all" = none) (hb : bootBuiltins "all" = some (.builtin "all")) (TB : LamX.TabB X.base X.mg c Pt) (hcode : X.env.code = .ref c)
    (hmT : (Pt, X.env.qual ++ "<genexpr>") ∈ P.T.tb) (hu : ∀ p ∈ P.T.tb, p.1 = Pt → p.2 = X.env.qual ++ "<genexpr>") (hi : EI X P E tg iter Fi) (ok : BlkOk X.N X.env.scope scope own) (G : GenZ.GnOk X.env.scope scope) (hgd : GD X.K t (own.map (·.2)) b)
    (hpg : ∀ A s H C code fp pn, Room k A → PG (GenZ.gnx X A s H (GenZ.gEnv X scope C code) fp pn) tg t) (hpe : ∀ A s H C code fp pn, Room k A → ED (GenZ.gnx X A s H (GenZ.gEnv X scope C code) fp pn) P E elt F) (hs : ∀ v, genFold iter X.env v = pure v)
    (he : starEach [.GeneratorExp elt [⟨tg, iter, [], 0⟩] scope gpos] X.env = (false, eval (.GeneratorExp elt [⟨tg, iter, [], 0⟩] scope gpos) X.env) :: starEach [] X.env := by rfl) :
    ED X P E (.Call (.Name "all" p) [.GeneratorExp elt [⟨tg, iter, [], 0⟩] scope gpos] [] pos) (fAllG (own.map (·.2)) b Fi F) :=
  pe_imp (GenZ.pe_allG hr hc hN hg hm hb TB hcode hmT hu hi ok G hpg hpe hs he) (tAll_of hgd)
end
end Ms

end
section
set_option Elab.async false
set_option linter.all false
set_option maxRecDepth 100000
set_option maxHeartbeats 4000000
namespace Ms
open PySem PySem.Spec PyProof.Rows L2
/-! ### the end by a head that tells facts -/
theorem walkX {l : PySem.W.OpenLaw} {n : Nat} {q : Program} {loose : List Str} {XP : (Str → Option Value) → Heap → Prop} {YP : World → Heap → Prop} {d : DefRec}
    (hn : l.most = some n) (hn2 : n ≤ sizeLine) (hdf : d.params.defaults = [])
    (F : ∀ (w : World) (mg : Str → Option Value) (fa : Addr) (h : Heap), YP w h → h.Ns mainGlobals mg → mg d.name = some (.ref fa) → ∃ K : PySem.W.Frag, K.In h ∧ LawAt l w K n mg fa h) :
    PySem.W.WalkO q loose XP YP l.row.toRowW d [] (fun f vs => PySem.call f vs) := by
  refine Att.attach_callB hn hdf fun w s₀ s₁ mg mb fa o pm cd doc a vs ns G Y ho hd hcd hmg hobj hints hlen hbits hg => ?_
  obtain ⟨K, KX, cs, hT, nT, C, hc⟩ := F w mg fa _ Y G.T.g hmg
  exact law_callG KX G.T.g G.T.b G.T.builtins G.T.nolimit hg hT nT C G.T.bmain hobj hints (Nat.le_trans hlen hn2) fun base H e0 tb hH hS => hc base H s₁ a ns hlen e0 tb hH hS
section
variable {K : PySem.W.Frag} {h : Heap} {mg : Str → Option Value}
/-- a def's function object -/
theorem def_of {x : Str} {st : Stmt} {f : Addr} {fd : FuncData} (F : FunD K x x (defArgs st) (defBody st) (defScope st) [] [] f fd) :
    ∃ (oc : Value) (od : Option Addr) (kV doc pm : Value) (an : Option Addr) (c : Addr) (ct : Value) (osl : Array (Option Value)), K.lookup f = some ⟨oc, od, .func (PySem.W.fnOf x x (defArgs st) (defBody st) (defScope st) .none kV doc pm an (.ref c) ct), osl⟩ ∧
      PySem.W.codeIn K (.ref c) x = true ∧ PySem.W.keepIn K (.ref f) = true := by
  obtain ⟨oc, od, dV, kV, doc, pm, an, cdv, ct, osl, rfl, lk, hcd, hd, _⟩ := F.ex
  obtain ⟨c, rfl⟩ := He.codeIn_ref hcd
  rcases hd with ⟨_, rfl⟩ | ⟨z, _⟩
  · exact ⟨oc, od, kV, doc, pm, an, c, ct, osl, lk, hcd, F.kp⟩
  · exact (z rfl).elim
/-- a class of errors with its own __init__ -/
def lowB (K : PySem.W.Frag) (cn : Str) : Bool :=
  (match K.lookup (He.ga K cn) with
  | some ⟨.type t, _, .cls r, sl⟩ => decide (t = "type") && ((match r.mro with
      | .ref C' :: bm => decide (C' = He.ga K cn) && PySem.HandSPX.refsVE bm
      | _ => false) && (r.hasDict && (!r.hasDel && (match sl.toList with
      | [_, _, _, _, some (.builtin id), _] => decide (id = "ValueError.__new__")
      | _ => false))))
  | _ => false) &&
  (He.eqO (PySem.W.findIn K (.ref (He.ga K cn)) "__setattr__") (some (some (.builtin "object.__setattr__"))) && (He.eqO (PySem.W.findIn K (.ref (He.ga K cn)) "__getattribute__") (some (some (.builtin "BaseException.__getattribute__"))) &&
  (He.eqO (PySem.W.findIn K (.ref (He.ga K cn)) "__getattr__") (some none) && (He.eqO (PySem.W.findIn K (.ref (He.ga K cn)) "at") (some none) && (He.eqO (PySem.W.findIn K (.ref (He.ga K cn)) "__init__") (some (some (.ref (He.ma K (He.ga K cn) "__init__")))) &&
  (decide (PySem.W.typeIn K (.ref (He.ma K (He.ga K cn) "__init__")) = some (.type "function")) && (PySem.W.keepIn K (.ref (He.ga K cn)) && (decide (PySem.W.subIn K (.ref (He.ga K cn)) (.type "BaseException") = some true) && (decide (PySem.W.typeIn K (.ref (He.ga K cn)) = some (.type "type")) &&
  (PySem.W.hasDictIn K (He.ga K cn) && (decide (PySem.W.exmOne K (.ref (He.ga K cn)) (.ref (He.ga K cn)) = some true) && (match K.lookup (He.ma K (He.ga K cn) "__init__") with
  | some ⟨_, _, .func fd, _⟩ => decide (fd.kwdefaults = .none)
  | _ => false))))))))))))
theorem lowCls {C : Addr} (h : (match K.lookup C with
  | some ⟨.type t, _, .cls r, sl⟩ => decide (t = "type") && ((match r.mro with
      | .ref C' :: bm => decide (C' = C) && PySem.HandSPX.refsVE bm
      | _ => false) && (r.hasDict && (!r.hasDel && (match sl.toList with
      | [_, _, _, _, some (.builtin id), _] => decide (id = "ValueError.__new__")
      | _ => false))))
  | _ => false) = true) : ∃ nm q N bs bm sn sub ab col dd k0 k1 k2 k3 k5, K.lookup C = some (excClassObj nm q C N bs bm true sn sub ab col dd k0 k1 k2 k3 k5 "ValueError.__new__") ∧ PySem.HandSPX.refsVE bm = true := by
  cases q : K.lookup C with
  | none => rw [q] at h; cases h
  | some o =>
    rw [q] at h
    obtain ⟨oc, od, dt, sl⟩ := o
    cases oc with
    | type t =>
      cases dt with
      | cls r =>
        obtain ⟨nm, bs, mro, ns, qn, hdct, sn, sub, ab, col, hdel⟩ := r
        obtain ⟨h1, h2⟩ := He.ba h
        obtain ⟨h2, h3⟩ := He.ba h2
        obtain ⟨h3, h4⟩ := He.ba h3
        obtain ⟨h4, h5⟩ := He.ba h4
        have h1 := of_decide_eq_true h1
        subst h1
        cases mro with
        | nil => cases h2
        | cons m bm =>
          cases m with
          | ref C' =>
            obtain ⟨h6, h7⟩ := He.ba h2
            have h6 := of_decide_eq_true h6
            subst h6
            have h3 : hdct = true := h3
            subst h3
            have h4 : hdel = false := by
              have z : (!hdel) = true := h4
              simpa using z
            subst h4
            obtain ⟨sl⟩ := sl
            match sl, h5 with
            | [k0, k1, k2, k3, some (.builtin id), k5], h5 =>
              have h5 := of_decide_eq_true h5
              subst h5
              exact ⟨nm, qn, ns, bs, bm, sn, sub, ab, col, od, k0, k1, k2, k3, k5, rfl, h7⟩
          | _ => cases h2
      | _ => cases h
    | _ => cases dt <;> cases h
theorem low_of {cn qn : Str} {p1 p2 q1 q2 q3 q4 : Pos} {fd : FuncData} (X : K.In h) (G : h.Ns mainGlobals mg) (b : lowB K cn = true) (g : mg cn = some (.ref (He.ga K cn)))
    (F : FunD K "__init__" qn (PySem.RefX.iA p1 p2) (PySem.RefX.iB q1 q2 q3 q4) PySem.RefX.iS [] [] (He.fAd K (cn, some "__init__")) fd) : PySem.RefX.LowTxt cn qn K mg (He.ga K cn) (He.ma K (He.ga K cn) "__init__") := by
  unfold lowB at b
  obtain ⟨b0, b⟩ := He.ba b
  obtain ⟨b1, b⟩ := He.ba b
  obtain ⟨b2, b⟩ := He.ba b
  obtain ⟨b3, b⟩ := He.ba b
  obtain ⟨b4, b⟩ := He.ba b
  obtain ⟨b5, b⟩ := He.ba b
  obtain ⟨b6, b⟩ := He.ba b
  obtain ⟨b7, b⟩ := He.ba b
  obtain ⟨b8, b⟩ := He.ba b
  obtain ⟨b9, b⟩ := He.ba b
  obtain ⟨b10, b⟩ := He.ba b
  obtain ⟨b11, b12⟩ := He.ba b
  obtain ⟨nm, q, N, bs, bm, sn, sub, ab, col, dd, k0, k1, k2, k3, k5, e1, e2⟩ := lowCls b0
  refine { gC := g, cls := ⟨nm, q, N, bs, bm, sn, sub, ab, col, dd, k0, k1, k2, k3, k5, e1, e2⟩, sa := He.eqO_ok b1, ga := He.eqO_ok b2, gg := He.eqO_ok b3, noN := He.eqO_ok b4, iC := He.eqO_ok b5, tC := of_decide_eq_true b6, kC := b7, exC := of_decide_eq_true b8, tyC := of_decide_eq_true b9, hdC := b10, te := of_decide_eq_true b11, fn := ?_ }
  obtain ⟨oc, od, dV, kV, doc, pm, an, cdv, ct, osl, rfl, lk, hcd, hd, _⟩ := F.ex
  have lk' : K.lookup (He.ma K (He.ga K cn) "__init__") = some ⟨oc, od, .func (PySem.W.fnOf "__init__" qn (PySem.RefX.iA p1 p2) (PySem.RefX.iB q1 q2 q3 q4) PySem.RefX.iS dV kV doc pm an cdv ct), osl⟩ := lk
  rw [lk'] at b12
  have hk : kV = .none := of_decide_eq_true b12
  subst hk
  rcases hd with ⟨_, rfl⟩ | ⟨z, _⟩
  · exact ⟨oc, od, doc, pm, an, cdv, ct, osl, p1, p2, q1, q2, q3, q4, lk', hcd⟩
  · exact (z rfl).elim
end
theorem uT_of : ∀ {L : List (Addr × Str)}, (L.map (·.1)).Nodup → ∀ p ∈ L, ∀ q ∈ L, q.1 = p.1 → q.2 = p.2
  | [], _, p, h, _, _, _ => (nomatch h)
  | x :: L, n, p, hp, q, hq, e => by
    rw [List.map_cons, List.nodup_cons] at n
    rcases List.mem_cons.mp hp with h1 | h1
    · subst h1
      rcases List.mem_cons.mp hq with h2 | h2
      · rw [h2]
      · exact (n.1 (List.mem_map.mpr ⟨q, h2, e⟩)).elim
    · rcases List.mem_cons.mp hq with h2 | h2
      · subst h2
        exact (n.1 (List.mem_map.mpr ⟨p, h1, e.symm⟩)).elim
      · exact uT_of n.2 p h1 q h2 e
end Ms

end
section
set_option Elab.async false
set_option linter.all false
set_option maxRecDepth 100000
set_option maxHeartbeats 4000000
/-! Lambdas that are kept: in a list, in a name. -/
namespace Ms
open PySem PySem.Spec PyProof.Rows L2
/-- a lambda's object at f, made in a frame of these cells -/
def LamH (cells : List (Str × Addr)) (q : Str) (params : Arguments) (body : Expr) (scope : Scope) (f c' : Addr) : HO :=
  .ext fun h => ∃ pm ctv : Value, h.get? f = some (PySem.W.kla_obj "<lambda>" q params body scope (cloFrom cells scope.names []) pm c' ctv)
theorem lamH_ok {Pg : Program} {w : World} {H : Hp} {h : Heap} {cells : List (Str × Addr)} {q : Str} {params : Arguments} {body : Expr} {scope : Scope} {f c' : Addr} {pm ctv : Value}
    (e : h.get? f = some (PySem.W.kla_obj "<lambda>" q params body scope (cloFrom cells scope.names []) pm c' ctv)) : ObjOk Pg w H h f (LamH cells q params body scope f c') :=
  ⟨⟨pm, ctv, e⟩, ⟨_, e⟩, fun _ _ ⟨pm', ctv', e'⟩ st => ⟨pm', ctv', st _ e'⟩⟩
section
variable {X : Cx} {pins : List (Addr × Obj)} {σ : L2.St} {H : Hp} {s : Shared}
/-- it is made, and known from now on -/
theorem lam_new {T : List (Addr × Str)} {cd Pt : Addr} {params : Arguments} {body : Expr} {scope : Scope} {pos : Pos} {Er Q : Value → Shared → Prop} (I : Inv X pins σ H s) (B : LamX.TabB X.base X.mg cd Pt) (hcd : X.env.code = .ref cd)
    (hm : (Pt, X.env.qual ++ "<lambda>") ∈ T) (hu : ∀ q ∈ T, q.1 = Pt → q.2 = X.env.qual ++ "<lambda>") (hT : LamX.Tabs T H) (hd : defaultsOf params X.env = ([], [])) (hfr : ∀ y ∈ scope.names, y.2 = .free → ∃ c, X.env.cells.lookup y.1 = some c)
    (go : ∀ (f c' : Addr) (H1 : Hp) (s' : Shared), Inv X pins σ (upd H1 f (LamH X.env.cells (X.env.qual ++ "<lambda>") params body scope f c')) s' → H1 f = none → LamX.ExtN H H1 → LamX.Tabs T H1 → H1 c' = some (LamX.CodeO c' (X.env.qual ++ "<lambda>")) → Q (.ref f) s') :
    wpAny (model X.prog X.w) X.A (eval (.Lambda params body scope pos) X.env) Q Er s := by
  have ⟨ps, hP, ok, am⟩ := hT _ hm
  have bP := B.bm.keeps I.bk
  have hP2 : s.heap.get? Pt = some { cls := .none, data := .fields ps } := I.hok Pt _ hP
  apply PySem.W.kla_eval hd
  cases hc : codeAmong pos ps.toList with
  | some cv =>
    have ⟨c', ec, co⟩ := am pos cv hc
    subst ec
    refine PySem.W.kla_makeFunctionHit (P := Pt) (c := cd) (mg := X.mg) (ps := ps) (closure_ok hfr) I.ok.glob
      (I.mod.glob.keeps I.bk) hcd (B.code.keeps I.bk) hP2 ok hc bP fun ctv h' tk kp le => ?_
    have fresh : H h'.objs.size = none := I.hok.fresh le
    refine go h'.objs.size c' H _ (Inv.laid (t' := tk) I (fun b u e => Heap.get?_push_of_some _ (kp b u e)) le ?_) fresh (LamX.ExtN.refl H) hT co
    exact lamH_ok (Heap.get?_push_size _ rfl)
  | none =>
    refine PySem.W.kla_makeFunction (P := Pt) (c := cd) (mg := X.mg) (ps := ps) (closure_ok hfr) I.ok.glob
      (I.mod.glob.keeps I.bk) hcd (B.code.keeps I.bk) hP2 ok hc B.gP bP fun c' ctv h' tk xb ge lt rec_ tb => ?_
    obtain ⟨c2, oc, vs, t, e2, hoc, hdd, hv⟩ := rec_
    cases e2
    have nC : H c' = none := I.hok.fresh ge
    have sz : s.heap.objs.size ≤ h'.objs.size := Nat.le_trans ge (Nat.le_of_lt lt)
    have I0 := LamX.inv_table (t' := tk) (more := #[rawInt pos.line, rawInt pos.col, .ref c']) (h' := h') I hP (fun b u hb e => xb b u hb e) tb ge ⟨oc, vs, t, hoc, hdd, hv⟩
    have nP : Pt ≠ c' := ne_of_none hP nC
    have eL : (ps ++ #[rawInt pos.line, rawInt pos.col, .ref c']).toList = ps.toList ++ [rawInt pos.line, rawInt pos.col, .ref c'] := by simp
    have x0 : LamX.ExtN H (upd (upd H Pt (.tbl (ps ++ #[rawInt pos.line, rawInt pos.col, .ref c']))) c' (LamX.CodeO c' (X.env.qual ++ "<lambda>"))) := fun b u e n => by
      have b1 : b ≠ c' := ne_of_none e nC
      have b2 : b ≠ Pt := fun z => by
        rw [z, hP] at e
        exact n ps (Option.some.inj e).symm
      rw [upd_ne b1, upd_ne b2, e]
    have n1 : h'.objs.size ≠ c' := Nat.ne_of_gt lt
    have n2 : h'.objs.size ≠ Pt := Nat.ne_of_gt (Nat.lt_of_lt_of_le (Heap.lt_size hP2) sz)
    refine go h'.objs.size c' _ _ (Inv.laid (s := { s with heap := h', toks := tk }) (t' := tk) I0 (fun b u e => Heap.get?_push_of_some _ e) (Nat.le_refl _) (lamH_ok (Heap.get?_push_size _ rfl))) ?_ x0 (fun q hq => ?_) upd_same
    · rw [upd_ne n1, upd_ne n2]
      exact I.hok.fresh sz
    · by_cases z : q.1 = Pt
      · rw [hu q hq z, z]
        refine ⟨_, (upd_ne nP).trans upd_same, by rw [eL]; exact PySem.TriplesOk_snoc _ _ _ _ ok, fun p2 cv hcv => ?_⟩
        rw [eL] at hcv
        rcases LamX.among_app _ ok hcv with y | y
        · have ⟨c0, y1, y2⟩ := am p2 cv y
          exact ⟨c0, y1, x0 _ _ y2 LamX.codeO_ne⟩
        · exact ⟨c', y, upd_same⟩
      · have ⟨ps', a1, a2, a3⟩ := hT q hq
        refine ⟨ps', (upd_ne (ne_of_none a1 nC)).trans ((upd_ne z).trans a1), a2, fun p2 cv hcv => ?_⟩
        have ⟨c0, y1, y2⟩ := a3 p2 cv hcv
        exact ⟨c0, y1, x0 _ _ y2 LamX.codeO_ne⟩
end
/-! ### what knows of it -/
def fLam (n : Nat) : Fn D := fun _ bx => .ok (.ref bx.length) (bx ++ [.lam n])
def Mu.lam (β : Mu) (f : Addr) : Mu := ⟨β.cs ++ [(f, false)], β.ex⟩
theorem lam_get {β : Mu} {a c : Addr} {k : Nat} {b : Bool} (h : (β.lam a).cs[k]? = some (c, b)) : β.cs[k]? = some (c, b) ∨ (k = β.cs.length ∧ c = a ∧ b = false) := by
  have h' : (β.cs ++ [(a, false)])[k]? = some (c, b) := h
  by_cases hk : k < β.cs.length
  · exact .inl (by rwa [List.getElem?_append_left hk] at h')
  · rw [List.getElem?_append_right (by omega)] at h'
    by_cases hz : k - β.cs.length = 0
    · rw [hz] at h'
      cases h'
      exact .inr ⟨by omega, rfl, rfl⟩
    · rw [List.getElem?_eq_none (by simp; omega)] at h'
      cases h'
theorem lam_old {β : Mu} {a : Addr} {k : Nat} {p : Addr × Bool} (h : β.cs[k]? = some p) : (β.lam a).cs[k]? = some p := by
  show (β.cs ++ [(a, false)])[k]? = some p
  rw [List.getElem?_append_left (List.getElem?_eq_some_iff.mp h).1]
  exact h
section
variable {K : PySem.W.Frag} {T : Tb} {β : Mu} {st : Sto} {H H1 : Hp} {f : Addr} {o : HO} {n : Nat}
theorem lam_keep (x : LamX.ExtN H H1) (nf : H1 f = none) : ∀ b u, H b = some u → (∀ ps, u ≠ .tbl ps) → (upd H1 f o) b = some u := fun b u e t => keep_new nf _ _ (x b u e t)
theorem Le.lam (x : LamX.ExtN H H1) (nf : H1 f = none) : Le β H (β.lam f) (upd H1 f o) := by
  have kp := lam_keep (o := o) x nf
  refine ⟨fun k a b h => ⟨b, lam_old h, id⟩, fun k a b h z u hu => ?_, fun _ h => h, fun e h z => (z h).elim, fun b u h _ t => kp b u h t, fun b u h t => ⟨u, kp b u h t, t⟩⟩
  rcases lam_get h with h | ⟨_, rfl, _⟩
  · rw [z] at h
    cases h
  · by_cases q : ∃ ps, u = .tbl ps
    · exact q
    · have := x a u hu fun ps e => q ⟨ps, e⟩
      rw [nf] at this
      cases this
theorem Good.lam (g : Good K T β st H) (x : LamX.ExtN H H1) (nf : H1 f = none) (no : ∀ ps, o ≠ .tbl ps) (t : LamX.Tabs T.tb H1) (hl : T.lm n f (upd H1 f o)) : Good K T (β.lam f) (st ++ [.lam n]) (upd H1 f o) := by
  have kp := lam_keep (o := o) x nf
  have l : Le β H (β.lam f) (upd H1 f o) := .lam x nf
  have fr : ∀ u, H f = some u → (∀ ps, u ≠ .tbl ps) → False := fun u e z => by
    have := x f u e z
    rw [nf] at this
    cases this
  refine ⟨?_, fun k a b hk => ?_, fun i j a b hi hj => ?_, fun k a b hk => ?_, fun e he => ?_, t.ext (keep_new nf)⟩
  · show (β.cs ++ [(f, false)]).length = _
    rw [List.length_append, List.length_append, g.ln]
    rfl
  · rcases lam_get hk with h | ⟨rfl, rfl, rfl⟩
    · obtain ⟨c, h1, h2⟩ := g.cs k a b h
      refine ⟨c, by rw [List.getElem?_append_left (List.getElem?_eq_some_iff.mp h1).1]; exact h1, h2.le l (g.xk l) fun xs z => kp _ _ z fun ps q => by cases q⟩
    · exact ⟨.lam n, by rw [g.ln, List.getElem?_append_right (Nat.le_refl _), Nat.sub_self]; rfl, rfl, hl⟩
  · rcases lam_get hi with h | ⟨_, _, q⟩
    · rcases lam_get hj with h' | ⟨_, rfl, _⟩
      · exact g.inj i j a b h h'
      · obtain ⟨u, e, z⟩ := g.sm i a true h
        exact (fr u e z).elim
    · cases q
  · rcases lam_get hk with h | ⟨rfl, rfl, rfl⟩
    · obtain ⟨u, e, z⟩ := g.sm k a b h
      exact ⟨u, kp _ _ e z, z⟩
    · exact ⟨o, upd_same, no⟩
  · obtain ⟨⟨m, hm⟩, q⟩ := g.ex e he
    refine ⟨⟨m, kp _ _ hm fun ps z => by cases z⟩, fun b z => ?_⟩
    rcases List.mem_append.mp (show (e, b) ∈ β.cs ++ [(f, false)] from z) with z | z
    · exact q b z
    · cases List.mem_singleton.mp z
      exact fr _ hm fun ps z => by cases z
end
/-- lambda: body, as a value -/
theorem ed_lam {X : Cx} {P : Pm} {E : XK} {n : Nat} {params : Arguments} {body : Expr} {scope : Scope} {cd Pt : Addr} {pos : Pos} (B : LamX.TabB X.base X.mg cd Pt) (hcd : X.env.code = .ref cd) (hm : (Pt, X.env.qual ++ "<lambda>") ∈ P.T.tb)
    (hu : ∀ q ∈ P.T.tb, q.1 = Pt → q.2 = X.env.qual ++ "<lambda>") (L : LamX.LamS X.env.scope scope) (hd : defaultsOf params X.env = ([], []))
    (hl : ∀ f c' H, H f = some (LamH X.env.cells (X.env.qual ++ "<lambda>") params body scope f c') → H c' = some (LamX.CodeO c' (X.env.qual ++ "<lambda>")) → P.T.lm n f H) : ED X P E (.Lambda params body scope pos) (fLam n) := by
  refine ⟨fun pins s σ H Q I h => ?_⟩
  obtain ⟨β, δ, bx, ev, g, o⟩ := h
  refine lam_new I B hcd hm hu g.tb hd (L.has I.ok) fun f c' H1 s' I1 nf x t co => ?_
  have ne : c' ≠ f := ne_of_none co nf
  have no : ∀ ps, LamH X.env.cells (X.env.qual ++ "<lambda>") params body scope f c' ≠ .tbl ps := fun ps z => by
    unfold LamH at z
    cases z
  refine ⟨.ref f, _, I1, rfl, ?_⟩
  refine o (β.lam f) _ _ (.lam x nf) (g.lam x nf no t (hl f c' _ upd_same ((upd_ne ne).trans co))) (.ref (b := false) ?_)
  show (β.cs ++ [(f, false)])[bx.length]? = _
  rw [← g.ln, List.getElem?_append_right (Nat.le_refl _), Nat.sub_self]
  rfl
/-! ### it is called -/
section
variable {X : Cx} {pins : List (Addr × Obj)} {σ : L2.St} {H : Hp} {s : Shared}
/-- a(), where a holds the lambda, in a def that was entered at s -/
theorem lam_act {Ng : List Str} {qg a : Str} {sg : Scope} {g f c' : Addr} {cdg : Value} {params : Arguments} {body : Expr} {scope : Scope} {k : Nat} {Ex : XK} {tb : TE} {CXg : CXT} {Eg : XK} {pn : List (Addr × Obj)} {xe : Value → Shared → Prop} {W : WX} {p1 p2 : Pos}
    (I : Inv X pins σ H s) (L : LamX.LamS X.env.scope scope)
    (bd : ∀ (q : Str) (cl : List (Str × Addr)) (pm cv ctv : Value), bindArgs (PySem.W.kla_fn "<lambda>" q params body scope cl pm cv ctv) ⟨[], []⟩ = pure [])
    (tk : Takes ((cxOf CXg X.prog X.w X.K X.mg X.base Ng qg sg g cdg X.A X.stack s H Eg).tr pn xe) W) (eW : ∀ cls d σ' H', Ex cls d H' → W cls d σ' H') (hr : Room (k + 1) (X.A.deeper (envOfC qg sg s.heap.objs.size g cdg)))
    (hB : ∀ (A : Around) (outer : List Env) (s : Shared) (H : Hp), Room k (A.deeper (LamX.lamEnv X scope s.heap.objs.size f c')) → PE (LamX.lamCx X A outer s H Ex scope f c') body tb)
    (h0 : Ng[0]? = some a) (hv : Vis sg a) (hd : (a == ("__debug__" : Str)) = false := by decide) (hcd : (a == ("__classdict__" : Str)) = false := by decide) :
    PE ((cxOf CXg X.prog X.w X.K X.mg X.base Ng qg sg g cdg X.A X.stack s H Eg).tr pn xe) (.Call (.Name a p1) [] [] p2)
      (fun τ J Q => τ[0]? = some (some (.ref f)) ∧ J c' = some (LamX.CodeO c' (X.env.qual ++ "<lambda>")) ∧ J f = some (LamH X.env.cells (X.env.qual ++ "<lambda>") params body scope f c') ∧ tb σ J Q) := by
  refine ⟨fun pz sz τ J Q IZ ⟨hs, hc, hf, ht⟩ => ?_⟩
  have var := (pe_var (pos := p1) (i := 0) h0 hv hd hcd).run pz sz τ J (fun v H1 => v = .ref f ∧ H1 = J) IZ ⟨.ref f, hs, rfl, rfl⟩
  refine wpAny_Call_Name_kw (thn var fun u s1 hu => ?_)
  obtain ⟨v, J1, I1, r1, rfl, rfl⟩ := hu
  have eu : u = Value.ref f := r1
  subst eu
  obtain ⟨⟨pm, ctv, of1⟩, _, _⟩ := I1.hok f _ hf
  obtain ⟨⟨oc, vs, t, hoc, hdc, hvc⟩, _, _⟩ := I1.hok c' _ hc
  refine PySem.W.callWith_F0 ⟨_, _, _, _, of1⟩ ?_
  have un : Un (frs X.stack) [] H J1 s.heap s1.heap := I1.base
  have body_ : codeAny (model X.prog X.w) (X.A.deeper (envOfC qg sg s.heap.objs.size g cdg)) (.call (.ref f) ⟨[], []⟩)
      (CR (L2.CX X.prog X.w) (envOfC qg sg s.heap.objs.size g cdg :: X.stack) X.prog X.w J1 s1 Q Ex) s1 := by
    refine PySem.W.kla_callFunE hr.depth of1 rfl L.co L.gen rfl ⟨c', oc, vs, t, rfl, hoc, hdc, hvc⟩ ?_
    rw [bd]
    have own : ∀ y ∈ scope.names, y.2 ≠ .cell := fun y hy => (L.own y hy).2
    refine wpAny_pure (wpAny_newFunctionEnv own (fun y hy => absurd hy (by simp))
      (fun h₁ hns hsb => ⟨I1.nolimit.fresh _ hsb, ?_⟩) L.kind)
    have keeps : ∀ b o, s1.heap.get? b = some o → h₁.get? b = some o := fun b o e =>
      hsb.extBut b o (Nat.ne_of_lt (Heap.lt_size e)) (Heap.get?_push_of_some _ e)
    have J0 := LamX.lam_start2 (tk := s1.toks + ([] : List (Str × Value)).length) (c' := c') (f := f) (E := Ex) I L I1.env0 hr.hd un hns keeps
    have rn := (hB _ _ s1 J1 (hr.deeper _)).run [] _ _ J1 Q J0 ht
    refine PySem.W.kla_codeExpr (wpAny_mono rn (fun v s' hq => ?_) fun e s' hq => hq)
    obtain ⟨w', H', J', rv, q⟩ := hq
    exact ⟨w', H', J'.os, J'.bare, J'.base, J'.hok, rv, q⟩
  have ps := passes_call (E := Ex) tk eW
  refine wpAny_call (codeAny_mono body_ fun r s' hq => ?_)
  match r, hq with
  | .error e, hq => exact ps pz τ J1 s1 e s' I1 hq
  | .ok (.ret u), hq => exact I1.after hq
  | .ok .next, hq => exact False.elim hq
  | .ok .brk, hq => exact False.elim hq
  | .ok .cont, hq => exact False.elim hq
end
def fHeardV (F : Fn D) (B : Nat → Fn D) : Fn D := bnd F fun d => fun δ bx => match d with
  | .ref k => (match bx[k]? with
    | some (.lam n) => hRes (B n δ bx)
    | _ => .bad)
  | _ => .bad
theorem out_ofX {K : PySem.W.Frag} {P : Pm} {E : XK} {β : Mu} {H : Hp} {r : Res D} {Q : VK} (o : OutX P K β H r E fun d β' _ H' => ∀ v, R K β' H' v d → Q v H') : Out K P β H r Q E := by
  cases r with
  | ok d bx => exact fun β' v H' l g q => o β' H' l g v q
  | err c d bx => exact o
  | bad => exact o
theorem hres_of {K : PySem.W.Frag} {P : Pm} {E : XK} {β : Mu} {H : Hp} {r : Res D} {Q : VK} (h : Out K P β H (hRes r) Q E) :
    Out K P β H r (fun v H' => [V.str "told", v].length ≤ sizeLine ∧ ∀ p, H' p = none → Q (.ref p) (upd H' p (.tup [.str "told", v]))) (EHeard K (P.CR "Refused") Q) := by
  cases r with
  | ok d bx' => exact fun β' v H' l' g' r => ⟨le1000 (by show 2 ≤ 1000; omega), fun p hp => h _ _ _ (l'.trans (.new hp)) (g'.new hp) (.tup ⟨.inl upd_same, g'.ne hp⟩ (.cons (.str _) (.cons (r.le (.new hp)) .nil)))⟩
  | err c d bx' =>
    have o' : Out K P β H (if c = "Refused" then (if showOk d = true then .ok (.tup [.str "refused", .str d.py.shown, .bl true]) bx' else .bad) else .bad) Q E := h
    split at o'
    · rename_i hcn
      subst hcn
      split at o'
      · rename_i hs
        unfold showOk at hs
        simp only [Bool.and_eq_true, decide_eq_true_eq] at hs
        exact fun β' a v H' l' g' hx r => ⟨rfl, a, v, d.py, rfl, hx, r.dp hs.1.1.1, hs.1.1.2, d.noDict, hs.1.2, hs.2, fun p hp => o' _ _ _ (l'.trans (.new hp)) (g'.new hp) (.tup ⟨.inl upd_same, g'.ne hp⟩ (.cons (.str _) (.cons (.str _) (.cons (.bl _) .nil))))⟩
      · exact o'.elim
    · exact o'.elim
  | bad => exact h.elim
/-- x(y), y being one of the frame's lambdas -/
theorem ed_heardV {X : Cx} {P : Pm} {E : XK} {F : Fn D} {B : Nat → Fn D} {x a y : Str} {g : Addr} {k : Nat} {pg : Arguments} {bg : List Stmt} {sg : Scope} {dV kV doc pm cdv ct oc : Value} {an od : Option Addr} {osl : Array (Option Value)} {Ng : List Str}
    {p py pos : Pos} (hg : Gl X x) (hm : X.mg x = some (.ref g)) (hk : PySem.W.keepIn X.K (.ref g) = true)
    (lk : X.K.lookup g = some ⟨oc, od, .func (PySem.W.fnOf x x pg bg sg dV kV doc pm an cdv ct), osl⟩) (hcg : PySem.W.codeIn X.K cdv x = true) (hb : L2.Binds X.K (PySem.W.fnOf x x pg bg sg dV kV doc pm an cdv ct) [a] []) (Sg : FnScope Ng [a] sg) (hNg : Ng[0]? = some a) (hva : Vis sg a)
    (hG : LamX.GivesTo X Ng x sg g cdv bg a (X.env.qual ++ "<lambda>") (TTHeard X.K (P.CR "Refused"))) (hr : Room (k + 2) X.A)
    (h : ED X P E (.Name y py) F)
    (hl : ∀ n f H, P.T.lm n f H → ∃ (c' : Addr) (params : Arguments) (body : Expr) (scope : Scope), H f = some (LamH X.env.cells (X.env.qual ++ "<lambda>") params body scope f c') ∧ H c' = some (LamX.CodeO c' (X.env.qual ++ "<lambda>")) ∧ LamX.LamS X.env.scope scope ∧
      (∀ (q : Str) (cl : List (Str × Addr)) (pm cv ctv : Value), bindArgs (PySem.W.kla_fn "<lambda>" q params body scope cl pm cv ctv) ⟨[], []⟩ = pure []) ∧
      ∀ (A : Around) (outer : List Env) (s : Shared) (H : Hp) (E' : XK), Room k (A.deeper (LamX.lamEnv X scope s.heap.objs.size f c')) → ED (LamX.lamCx X A outer s H E' scope f c') P E' body (B n))
    (hdb : (x == ("__debug__" : Str)) = false := by decide) (hd : (a == ("__debug__" : Str)) = false := by decide) (hcd : (a == ("__classdict__" : Str)) = false := by decide) :
    ED X P E (.Call (.Name x p) [.Name y py] [] pos) (fHeardV F B) := by
  refine ⟨fun pins s σ H Q I h0 => ?_⟩
  obtain ⟨β, δ, bx, ev, gd, o⟩ := h0
  have arg : tD X.K P E F σ H fun v H1 => ∃ (f : Addr) (n : Nat) (β1 : Mu) (bx1 : Sto), v = .ref f ∧ P.T.lm n f H1 ∧ Ev X.K β1 H1 σ δ ∧ Good X.K P.T β1 bx1 H1 ∧ Out X.K P β1 H1 (hRes (B n δ bx1)) Q E := by
    refine d_bind ev gd o.x fun β1 bx1 v d H1 l1 g1 r1 o1 => ?_
    cases r1 with
    | ref hk =>
      rename_i f k b
      have ⟨c, h1, h2⟩ := g1.cs _ _ _ hk
      dsimp only at o1
      rw [h1] at o1
      cases c with
      | lam n => exact ⟨f, n, β1, bx1, rfl, h2.2, ev.le l1, g1, out_ofX o1⟩
      | lst _ => exact o1.elim
      | dead => exact o1.elim
    | non => exact o1.elim
    | bl _ => exact o1.elim
    | int _ => exact o1.elim
    | str _ => exact o1.elim
    | lst _ _ => exact o1.elim
    | tup _ _ => exact o1.elim
    | fn _ _ => exact o1.elim
    | scr _ => exact o1.elim
  have run := h.run pins s σ H _ I arg
  refine wpAny_Call_Name_kw (ld_glob I hg hm ?_ hdb)
  refine PySem.W.callWith_K (h₀ := X.base) I.ok.mod.kin hk ?_ (by rfl) (by rfl)
  show wpAny _ _ (spliced ((false, eval (.Name y py) X.env) :: backTo pos (starEach [] X.env))) _ _ s
  refine Calls.spliced_cons (thn run fun u s1 hu => ?_)
  obtain ⟨v, H1, I1, rv, f, n, β1, bx1, ev', hlm, ev1, g1, o1⟩ := hu
  subst ev'
  have eu : u = Value.ref f := rv
  subst eu
  obtain ⟨c', params, body, scope, hf, hc, L, bd, hB⟩ := hl n f H1 hlm
  refine Calls.spliced_nil ⟨I1.kIn, ?_⟩
  have call_ : codeAny (model X.prog X.w) X.A (.call (.ref g) ⟨[.ref f], []⟩) (CR C8.CX0 X.stack X.prog X.w H1 s1 Q C8.E0) s1 := by
    refine LamX.run_ofS (vs := [.ref f]) (us := [.ref f]) (ps := [a]) (N := Ng) lk hcg Sg hr I1.env0 (hb s1 [.ref f] I1.kIn rfl) (.cons rfl .nil) rfl fun hr' => ?_
    have ⟨t', ht', hq'⟩ := hG f c' s1 H1 Q (fun E' H' Q' => H' f = some (LamH X.env.cells (X.env.qual ++ "<lambda>") params body scope f c') ∧ tD X.K P E' (B n) σ H' Q')
      (fun W pn xe E' p1 p2 tk hW => lam_act I1 L bd tk hW hr' (fun A outer s H hr2 => hB A outer s H E' hr2) hNg hva hd hcd) hc ⟨hf, β1, δ, bx1, ev1, g1, hres_of o1⟩
    exact ⟨t', ht'.nox, hq'⟩
  refine wpAny_call (codeAny_mono call_ fun r s2 hq => ?_)
  match r, hq with
  | .error e, hq => exact False.elim hq
  | .ok (.ret u), hq => exact I1.after hq
  | .ok .next, hq => exact False.elim hq
  | .ok .brk, hq => exact False.elim hq
  | .ok .cont, hq => exact False.elim hq
end Ms

end
section
set_option Elab.async false
set_option linter.all false
set_option maxRecDepth 100000
set_option maxHeartbeats 4000000
namespace Ms
open PySem PySem.Spec PyProof.Rows L2
/-! ### defs, by whether nothing may be being shown where they are called -/
structure FnB (gd : Bool) (Pg : Program) (w : World) (K : PySem.W.Frag) (mg : Str → Option Value) (base : Heap) (CX : CXT) (k : Nat) (f : Addr) (fd : FuncData) (ps : List Str) (sp : Sp) : Prop where
  len : ∀ vs H Q E, sp vs H Q E → vs.length = ps.length
  run : ∀ (A : Around) (outer : List Env) (s : Shared) (H : Hp) (args : Args) (us : List Value) (vs : List V) (Q : VK) (E : XK), (gd = true → A.guards = some []) → Room k A → Env0 Pg w K mg base A outer s H → BindsTo s fd args (ps.zip us) → Vals vs us → sp vs H Q E →
    codeAny (model Pg w) A (.call (.ref f) args) (CR CX outer Pg w H s Q E) s
structure DfB (gd : Bool) (Pg : Program) (w : World) (K : PySem.W.Frag) (mg : Str → Option Value) (base : Heap) (P : Pm) (CX : CXT) (j : Nat) (x : Str) (st : Stmt) (ps : List Str) (m : List D → Sto → Res D) : Prop where
  ex : ∃ (f : Addr) (fd : FuncData), mg x = some (.ref f) ∧ Fun K x x st f fd ∧ L2.Binds K fd ps [] ∧ FnB gd Pg w K mg base CX j f fd ps (spD K P ps.length m)
section
variable {X : Cx} {P : Pm} {E : XK} {pos : Pos} {es : List Expr} {A : Fn (List D)} {CX : CXT} {k : Nat} {st : Stmt} {ps : List Str} {m : List D → Sto → Res D} {x : Str} {p : Pos} {e : Expr} {gd : Bool} {kws : List Keyword}
theorem ed_callB (hga : gd = true → X.A.guards = some []) (d : DfB gd X.prog X.w X.K X.mg X.base P CX k x st ps m) (hr : Room k X.A) (hx : Passes CX X E) (hg : Gl X x) (ha : EA X P E (e :: es) A) (hA : ∀ δ bx ds bx', A δ bx = .ok ds bx' → ds.length = ps.length)
    (hdb : (x == ("__debug__" : Str)) = false := by decide) (he : starEach (e :: es) X.env = (false, eval e X.env) :: starEach es X.env := by rfl) (hpl : (backTo pos (starEach es X.env)).any (·.1) = false := by rfl) :
    ED X P E (.Call (.Name x p) (e :: es) [] pos) (fCall m A) := by
  obtain ⟨f, fd, hm, hF, hb, F⟩ := d.ex
  refine ⟨fun pins s σ H Q I h => ?_⟩
  obtain ⟨β, δ, bx, ev, gd, o⟩ := h
  have o2 := x_bind o.x
  have h' : (tDA X.K P E A) σ H fun zs H1 => spD X.K P ps.length m zs H1 Q E := by
    refine ⟨β, δ, bx, ev, gd, ?_⟩
    cases hF : A δ bx with
    | ok ds bx' =>
      rw [hF] at o2
      exact fun β' vs H' l g' r => ⟨β', ds, bx', by rw [r.length]; exact hA _ _ _ _ hF, r, g', (o2 β' H' l g' l).out⟩
    | err c d bx' =>
      rw [hF] at o2
      exact o2
    | bad =>
      rw [hF] at o2
      exact o2
  refine wpAny_Call_Name_kw (ld_glob I hg hm ?_ hdb)
  refine PySem.W.callWith_K (h₀ := X.base) I.ok.mod.kin hF.kp (thn (ha.run pos pins s σ H _ I h') fun us s1 hs => ?_) he hpl
  obtain ⟨vs, H1, I1, r, q⟩ := hs
  refine ⟨I1.kIn, ?_⟩
  have hl : us.length = ps.length := by rw [← r.length]; exact F.len _ _ _ _ q
  have hbb := hb s1 us I1.kIn (by rw [List.append_nil]; exact hl)
  rw [List.append_nil] at hbb
  show wpAny _ _ (call (.ref f) us) _ _ _
  refine wpAny_call (codeAny_mono (F.run X.A X.stack s1 H1 ⟨us, []⟩ us vs Q E hga hr I1.env0 hbb r q) fun rr s' hq => ?_)
  match rr, hq with
  | .error er, hq => exact hx pins σ H1 s1 er s' I1 hq
  | .ok fl, hq =>
    cases fl
    all_goals first
      | exact I1.after hq
      | exact False.elim hq
theorem ed_callB0 (hga : gd = true → X.A.guards = some []) (d : DfB gd X.prog X.w X.K X.mg X.base P CX k x st [] m) (hr : Room k X.A) (hx : Passes CX X E) (hg : Gl X x) (hdb : (x == ("__debug__" : Str)) = false := by decide) :
    ED X P E (.Call (.Name x p) [] [] pos) (fCall m (pur [])) := by
  obtain ⟨f, fd, hm, hF, hb, F⟩ := d.ex
  refine ⟨fun pins s σ H Q I h => ?_⟩
  obtain ⟨β, δ, bx, ev, gd, o⟩ := h
  have h' : spD X.K P ([] : List Str).length m [] H Q E := ⟨β, [], bx, rfl, .nil, gd, o⟩
  refine wpAny_Call_Name_kw (ld_glob I hg hm ?_ hdb)
  refine PySem.W.callWith_K0 I.kIn hF.kp ?_
  have hbb := hb s [] I.kIn rfl
  show wpAny _ _ (call (.ref f) []) _ _ _
  refine wpAny_call (codeAny_mono (F.run X.A X.stack s H ⟨[], []⟩ [] [] Q E hga hr I.env0 hbb .nil h') fun rr s' hq => ?_)
  match rr, hq with
  | .error er, hq => exact hx pins σ H s er s' I hq
  | .ok fl, hq =>
    cases fl
    all_goals first
      | exact I.after hq
      | exact False.elim hq
theorem ed_callBK {ks : List Str} (π : List Nat) (hga : gd = true → X.A.guards = some []) (d : DfB gd X.prog X.w X.K X.mg X.base P CX k x st ps m) (hr : Room k X.A) (hx : Passes CX X E) (hg : Gl X x)
    (hb : ∀ (kV doc pm : Value) (an : Option Addr) (cdv ct : Value) (ws : List Value), ws.length = ks.length → bindArgs (PySem.W.fnOf x x (defArgs st) (defBody st) (defScope st) .none kV doc pm an cdv ct) ⟨[], ks.zip ws⟩ = pure (ps.zip (pick .none π ws)))
    (ha : EK X P E kws A) (hA : ∀ δ bx ds bx', A δ bx = .ok ds bx' → ds.length = ks.length) (hp : π.length = ps.length := by rfl) (hall : (backToKw pos (keywordEach kws X.env)).all (·.1.isSome) = true := by rfl) (hks : (backToKw pos (keywordEach kws X.env)).filterMap (·.1) = ks := by rfl)
    (hdb : (x == ("__debug__" : Str)) = false := by decide) (hpl : ((backTo pos (starEach [] X.env)).any (·.1) || (backToKw pos (keywordEach kws X.env)).any (·.1.isNone)) = false := by rfl) :
    ED X P E (.Call (.Name x p) [] kws pos) (fCallK m π A) := by
  obtain ⟨f, fd, hm, h2, hb0, F⟩ := d.ex
  have hbk := bindsK h2 hb
  refine ⟨fun pins s σ H Q I h => ?_⟩
  obtain ⟨β, δ, bx, ev, gd, o⟩ := h
  have o2 := x_bind o.x
  have h' : (tDA X.K P E A) σ H fun zs H1 => ∃ β ds bx, zs.length = ks.length ∧ RA X.K β H1 zs ds ∧ Good X.K P.T β bx H1 ∧ Out X.K P β H1 (m (pick .non π ds) bx) Q E := by
    refine ⟨β, δ, bx, ev, gd, ?_⟩
    cases hF : A δ bx with
    | ok ds bx' =>
      rw [hF] at o2
      exact fun β' vs H' l g' r => ⟨β', ds, bx', by rw [r.length]; exact hA _ _ _ _ hF, r, g', (o2 β' H' l g' l).out⟩
    | err c d bx' =>
      rw [hF] at o2
      exact o2
    | bad =>
      rw [hF] at o2
      exact o2
  refine wpAny_Call_Name_kw (ld_glob I hg hm ?_ hdb)
  refine PySem.W.callWith_KW0 (h₀ := X.base) I.ok.mod.kin h2.kp hall ?_ hpl
  refine thn (ha.run pos pins s σ H _ I h') fun ws s2 ⟨zs, H2, I2, rz, β2, ds, bx2, hl, ra, g2, o3⟩ => ⟨I2.kIn, ?_⟩
  rw [hks]
  have hl2 : ws.length = ks.length := by rw [← rz.length]; exact hl
  refine wpAny_call (codeAny_mono (F.run X.A X.stack s2 H2 ⟨[] ++ [], ks.zip ws⟩ (pick .none π ws) (pick .non π zs) Q E hga hr I2.env0 (hbk s2 ws I2.kIn hl2) (vals_pick rz π) ⟨β2, pick .non π ds, bx2, by unfold pick; rw [List.length_map]; exact hp, ra_pick ra π, g2, o3⟩) fun r s' hq => ?_)
  cases r with
  | error e => exact hx pins σ H2 s2 e s' I2 hq
  | ok fl =>
    cases fl with
    | ret u => exact I2.after hq
    | next => exact False.elim hq
    | brk => exact False.elim hq
    | cont => exact False.elim hq
end
section
variable {Pg : Program} {w : World} {K : PySem.W.Frag} {mg : Str → Option Value} {base : Heap} {P : Pm} {gd : Bool}
variable {x : Str} {st : Stmt} {f : Addr} {kV doc pm cdv ct oc : Value} {an od : Option Addr} {osl : Array (Option Value)} {N ps : List Str} {k : Nat} {S : Sn}
/-- a def that lets no error out -/
theorem df_B0 (lk : K.lookup f = some ⟨oc, od, .func (PySem.W.fnOf x x (defArgs st) (defBody st) (defScope st) .none kV doc pm an cdv ct), osl⟩) (hcd : PySem.W.codeIn K cdv x = true) (kp : PySem.W.keepIn K (.ref f) = true) (hm : mg x = some (.ref f)) (sc : FnScope N ps (defScope st))
    (hbd : ∀ (kV doc pm : Value) (an : Option Addr) (cdv ct : Value) (us : List Value), us.length = ps.length → bindArgs (PySem.W.fnOf x x (defArgs st) (defBody st) (defScope st) .none kV doc pm an cdv ct) ⟨us, []⟩ = pure (ps.zip us))
    (hb : ∀ (A : Around) (outer : List Env) (s : Shared) (H : Hp), (gd = true → A.guards = some []) → Room k (A.deeper (envOfC x (defScope st) s.heap.objs.size f cdv)) →
      SSD (cxOf CX0 Pg w K mg base N x (defScope st) f cdv A outer s H E0).nox P E0 (defBody st) S) :
    DfB gd Pg w K mg base P CX0 (k + 1) x st ps (fun ds bx => noErr (fnD N S ds bx)) := by
  have F0 := fun_mk (st := st) lk hcd kp
  refine ⟨f, _, hm, F0, F0.binds hbd, fun vs H Q E h => spD_len _ _ _ _ h, fun A outer s H args us vs Q E hg hr e0 hbn r h => ?_⟩
  have hs : spD K P ps.length (fnD N S) vs H Q E0 := by
    obtain ⟨β, ds, bx, h1, h2, h3, o⟩ := h
    refine ⟨β, ds, bx, h1, h2, h3, ?_⟩
    replace o : Out K P β H (noErr (fnD N S ds bx)) Q E := o
    cases hF : fnD N S ds bx with
    | ok d bx' =>
      rw [hF] at o
      exact o
    | err c d bx' =>
      rw [hF] at o
      exact o.elim
    | bad =>
      rw [hF] at o
      exact o
  have z := LamX.run_ofS (CX := CX0) (E := E0) (Q := Q) lk hcd sc hr e0 hbn r (spD_len _ _ _ _ h) fun hr' => ⟨tDS K P E0 S, (hb A outer s H hg hr').nox, fn_end hs⟩
  refine codeAny_mono z fun rr s' hq => ?_
  match rr, hq with
  | .ok _, hq => exact hq
  | .error _, hq => exact False.elim hq
/-- a def that may raise -/
theorem df_BX (lk : K.lookup f = some ⟨oc, od, .func (PySem.W.fnOf x x (defArgs st) (defBody st) (defScope st) .none kV doc pm an cdv ct), osl⟩) (hcd : PySem.W.codeIn K cdv x = true) (kp : PySem.W.keepIn K (.ref f) = true) (hm : mg x = some (.ref f)) (sc : FnScope N ps (defScope st))
    (hbd : ∀ (kV doc pm : Value) (an : Option Addr) (cdv ct : Value) (us : List Value), us.length = ps.length → bindArgs (PySem.W.fnOf x x (defArgs st) (defBody st) (defScope st) .none kV doc pm an cdv ct) ⟨us, []⟩ = pure (ps.zip us))
    (hb : ∀ (A : Around) (outer : List Env) (s : Shared) (H : Hp) (E : XK), (gd = true → A.guards = some []) → Room k (A.deeper (envOfC x (defScope st) s.heap.objs.size f cdv)) →
      SSD (cxOf (L2.CX Pg w) Pg w K mg base N x (defScope st) f cdv A outer s H E) P E (defBody st) S) :
    DfB gd Pg w K mg base P (L2.CX Pg w) (k + 1) x st ps (fnD N S) := by
  have F0 := fun_mk (st := st) lk hcd kp
  refine ⟨f, _, hm, F0, F0.binds hbd, fun vs H Q E h => spD_len _ _ _ _ h, fun A outer s H args us vs Q E hg hr e0 hbn r h => ?_⟩
  exact LamX.run_ofS (CX := L2.CX Pg w) (E := E) (Q := Q) lk hcd sc hr e0 hbn r (spD_len _ _ _ _ h) fun hr' => ⟨tDS K P E S, hb A outer s H E hg hr', fn_end h⟩
end
/-! ### what else is written in the texts -/
section
variable {X : Cx} {P : Pm} {E : XK} {pos : Pos} {a b : Expr} {F G : Fn D} {es : List Expr} {A : Fn (List D)}
def cIsB (neg : Bool) : Sto → D → D → Option D
  | _, .bl i, .bl j => some (.bl (if neg then !decide (i = j) else decide (i = j)))
  | _, _, _ => none
theorem opd_isB : OpD X P (fun x y H Q => ∃ a b, x = .bl a ∧ y = .bl b ∧ Q (.bl (decide (a = b))) H) (cIsB false) := by
  intro β bx H x y d e z Q g rx ry h k
  unfold cIsB at h
  split at h
  · cases h
    exact ⟨_, _, rx.bl_inv, ry.bl_inv, k _ H .refl g (.bl _)⟩
  · cases h
theorem opd_notB : OpD X P (fun x y H Q => ∃ a b, x = .bl a ∧ y = .bl b ∧ Q (.bl (!decide (a = b))) H) (cIsB true) := by
  intro β bx H x y d e z Q g rx ry h k
  unfold cIsB at h
  split at h
  · cases h
    exact ⟨_, _, rx.bl_inv, ry.bl_inv, k _ H .refl g (.bl _)⟩
  · cases h
theorem ed_isB (ha : ED X P E a F) (hb : ED X P E b G) : ED X P E (.Compare a [.Is] [b] pos) (f2 (cIsB false) F G) := ed_cmp op_isBl opd_isB ha hb (nomark _)
theorem ed_notB (ha : ED X P E a F) (hb : ED X P E b G) : ED X P E (.Compare a [.IsNot] [b] pos) (f2 (cIsB true) F G) := ed_cmp op_notBl opd_notB ha hb (nomark _)
theorem et_isB (ha : ED X P E a F) (hb : ED X P E b G) : ET X P E (.Compare a [.Is] [b] pos) (fB (f2 (cIsB false) F G)) := et_cmp op_isBl opd_isB ha hb (nomark _)
theorem et_notB (ha : ED X P E a F) (hb : ED X P E b G) : ET X P E (.Compare a [.IsNot] [b] pos) (fB (f2 (cIsB true) F G)) := et_cmp op_notBl opd_notB ha hb (nomark _)
/-- all(xs) of a list of answers -/
def toBls : List D → Option (List Bool)
  | [] => some []
  | .bl b :: r => (toBls r).map (b :: ·)
  | _ => none
theorem toBls_inv : ∀ {l : List D} {ns : List Bool}, toBls l = some ns → l = ns.map D.bl
  | [], ns, h => by cases h; rfl
  | .bl i :: r, ns, h => by
    simp only [toBls] at h
    cases hr : toBls r with
    | none => rw [hr] at h; cases h
    | some ms =>
      rw [hr] at h
      cases h
      rw [toBls_inv hr]
      rfl
  | .non :: _, _, h => by cases h
  | .int _ :: _, _, h => by cases h
  | .str _ :: _, _, h => by cases h
  | .lst _ :: _, _, h => by cases h
  | .tup _ :: _, _, h => by cases h
  | .ref _ :: _, _, h => by cases h
  | .fn _ :: _, _, h => by cases h
  | .scr _ :: _, _, h => by cases h
theorem toBls_map : ∀ ns : List Bool, toBls (ns.map D.bl) = some ns
  | [] => rfl
  | n :: r => by simp only [List.map_cons, toBls, toBls_map r, Option.map_some]
theorem RA.bls_inv {K : PySem.W.Frag} {β : Mu} {H : Hp} : ∀ {ns : List Bool} {vs : List V}, RA K β H vs (ns.map D.bl) → vs = ns.map V.bl
  | [], _, h => by cases h; rfl
  | n :: r, _, h => by
    cases h with
    | cons a b => rw [a.bl_inv, RA.bls_inv b]; rfl
def cAll (st : Sto) : List D → Option D
  | [d] => ((vl st d).bind toBls).map fun bs => .bl (bs.all id)
  | _ => none
theorem cd_all : CallD X P (rAll X.K) cAll := by
  intro β bx H xs ds z Q g r h k
  unfold cAll at h
  split at h
  · rename_i d
    obtain ⟨v, rfl, r1⟩ := r.one
    cases hl : vl bx d with
    | none => rw [hl] at h; cases h
    | some l =>
      rw [hl] at h
      replace h : (toBls l).map (fun bs => D.bl (bs.all id)) = some z := h
      cases hb : toBls l with
      | none => rw [hb] at h; cases h
      | some bs =>
        rw [hb] at h
        cases h
        have e := toBls_inv hb
        subst e
        obtain ⟨a, xs, rfl, s, ra⟩ := r1.vl g hl
        rw [ra.bls_inv] at s
        exact ⟨a, bs, rfl, .inl s, k _ H .refl g (.bl _)⟩
  · cases h
end
end Ms
namespace Ms
theorem noG {p : Prop} : (false = true → p) := fun z => nomatch z
theorem yesG {p : Prop} (h : p) : (true = true → p) := fun _ => h
end Ms

end
section
set_option Elab.async false
set_option linter.all false
set_option maxRecDepth 100000
set_option maxHeartbeats 4000000
namespace Ms
open PySem PySem.Spec PyProof.Rows L2
/-- a lambda of the text -/
structure LamI where
  params : Arguments
  body : Expr
  scope : Scope
/-- the n-th lambda of a frame of these cells stands at f -/
def lmOf (cells : List (Str × Addr)) (q : Str) (ls : List LamI) (n : Nat) (f : Addr) (H : Hp) : Prop :=
  ∃ (i : LamI) (c' : Addr), ls[n]? = some i ∧ H f = some (LamH cells q i.params i.body i.scope f c') ∧ H c' = some (LamX.CodeO c' q)
def tbOf (tb : List (Addr × Str)) (cells : List (Str × Addr)) (q : Str) (ls : List LamI) : Tb := ⟨tb, lmOf cells q ls, fun _ _ _ _ ⟨i, c', h1, h2, h3⟩ k => ⟨i, c', h1, k _ _ h2, k _ _ h3⟩⟩
def hideC : Cell → Cell
  | .lam _ => .dead
  | c => c
def hide (st : Sto) : Sto := st.map hideC
def hideR : Res D → Res D
  | .ok d st => .ok d (hide st)
  | .err c d st => .err c d (hide st)
  | .bad => .bad
theorem Good.hideL {K : PySem.W.Frag} {T T' : Tb} {β : Mu} {st : Sto} {H : Hp} (g : Good K T β st H) (e : T'.tb = T.tb) : Good K T' β (Ms.hide st) H := by
  refine ⟨by unfold Ms.hide; rw [List.length_map]; exact g.ln, fun k a b h => ?_, g.inj, g.sm, g.ex, by rw [e]; exact g.tb⟩
  obtain ⟨c, h1, h2⟩ := g.cs k a b h
  refine ⟨hideC c, by unfold Ms.hide; rw [List.getElem?_map, h1]; rfl, ?_⟩
  cases c with
  | lst ds => exact h2
  | dead => exact h2
  | lam n => exact h2.1
section
variable {Pg : Program} {w : World} {K : PySem.W.Frag} {mg : Str → Option Value} {base : Heap} {P : Pm} {gd : Bool}
variable {x : Str} {st : Stmt} {f : Addr} {kV doc pm cdv ct oc : Value} {an od : Option Addr} {osl : Array (Option Value)} {N ps : List Str} {k : Nat} {S : Sn}
/-- a def that keeps lambdas of its own, and lets no error out -/
theorem df_BL (lk : K.lookup f = some ⟨oc, od, .func (PySem.W.fnOf x x (defArgs st) (defBody st) (defScope st) .none kV doc pm an cdv ct), osl⟩) (hcd : PySem.W.codeIn K cdv x = true) (kp : PySem.W.keepIn K (.ref f) = true) (hm : mg x = some (.ref f)) (sc : FnScope N ps (defScope st))
    (hbd : ∀ (kV doc pm : Value) (an : Option Addr) (cdv ct : Value) (us : List Value), us.length = ps.length → bindArgs (PySem.W.fnOf x x (defArgs st) (defBody st) (defScope st) .none kV doc pm an cdv ct) ⟨us, []⟩ = pure (ps.zip us))
    (hb : ∀ (A : Around) (outer : List Env) (s : Shared) (H : Hp), (gd = true → A.guards = some []) → Room k (A.deeper (envOfC x (defScope st) s.heap.objs.size f cdv)) →
      ∃ T' : Tb, T'.tb = P.T.tb ∧ SSD (cxOf CX0 Pg w K mg base N x (defScope st) f cdv A outer s H E0).nox ⟨T', P.CR⟩ E0 (defBody st) S) :
    DfB gd Pg w K mg base P CX0 (k + 1) x st ps (fun ds bx => hideR (noErr (fnD N S ds (hide bx)))) := by
  have F0 := fun_mk (st := st) lk hcd kp
  refine ⟨f, _, hm, F0, F0.binds hbd, fun vs H Q E h => spD_len _ _ _ _ h, fun A outer s H args us vs Q E hg hr e0 hbn r h => ?_⟩
  have hs : ∀ T' : Tb, T'.tb = P.T.tb → spD K ⟨T', P.CR⟩ ps.length (fnD N S) vs H Q E0 := fun T' e => by
    obtain ⟨β, ds, bx, h1, h2, h3, o⟩ := h
    refine ⟨β, ds, hide bx, h1, h2, h3.hideL e, ?_⟩
    replace o : Out K P β H (hideR (noErr (fnD N S ds (hide bx)))) Q E := o
    cases hF : fnD N S ds (hide bx) with
    | ok d bx' =>
      rw [hF] at o
      exact fun β' v H' l g' r' => o β' v H' l (g'.hideL e.symm) r'
    | err c d bx' =>
      rw [hF] at o
      exact o.elim
    | bad =>
      rw [hF] at o
      exact o
  have z := LamX.run_ofS (CX := CX0) (E := E0) (Q := Q) lk hcd sc hr e0 hbn r (spD_len _ _ _ _ h) fun hr' => by
    obtain ⟨T', e, hb'⟩ := hb A outer s H hg hr'
    exact ⟨tDS K ⟨T', P.CR⟩ E0 S, hb'.nox, fn_end (hs T' e)⟩
  refine codeAny_mono z fun rr s' hq => ?_
  match rr, hq with
  | .ok _, hq => exact hq
  | .error _, hq => exact False.elim hq
end
/-- what is to be known of each lambda that is called -/
theorem hl_of {X : Cx} {P : Pm} {B : Nat → Fn D} {k : Nat} {ls : List LamI}
    (all : ∀ n i, ls[n]? = some i → LamX.LamS X.env.scope i.scope ∧ (∀ (q : Str) (cl : List (Str × Addr)) (pm cv ctv : Value), bindArgs (PySem.W.kla_fn "<lambda>" q i.params i.body i.scope cl pm cv ctv) ⟨[], []⟩ = pure []) ∧
      ∀ (A : Around) (outer : List Env) (s : Shared) (H : Hp) (E' : XK) (f c' : Addr), Room k (A.deeper (LamX.lamEnv X i.scope s.heap.objs.size f c')) → ED (LamX.lamCx X A outer s H E' i.scope f c') P E' i.body (B n)) (n : Nat) (f : Addr) (H : Hp)
    (h : lmOf X.env.cells (X.env.qual ++ "<lambda>") ls n f H) : ∃ (c' : Addr) (params : Arguments) (body : Expr) (scope : Scope), H f = some (LamH X.env.cells (X.env.qual ++ "<lambda>") params body scope f c') ∧ H c' = some (LamX.CodeO c' (X.env.qual ++ "<lambda>")) ∧ LamX.LamS X.env.scope scope ∧
      (∀ (q : Str) (cl : List (Str × Addr)) (pm cv ctv : Value), bindArgs (PySem.W.kla_fn "<lambda>" q params body scope cl pm cv ctv) ⟨[], []⟩ = pure []) ∧
      ∀ (A : Around) (outer : List Env) (s : Shared) (H : Hp) (E' : XK), Room k (A.deeper (LamX.lamEnv X scope s.heap.objs.size f c')) → ED (LamX.lamCx X A outer s H E' scope f c') P E' body (B n) := by
  obtain ⟨i, c', h1, h2, h3⟩ := h
  obtain ⟨a1, a2, a3⟩ := all n i h1
  exact ⟨c', i.params, i.body, i.scope, h2, h3, a1, a2, fun A outer s H E' hr => a3 A outer s H E' f c' hr⟩
end Ms

end
section
set_option Elab.async false
set_option linter.all false
set_option maxRecDepth 100000
set_option maxHeartbeats 4000000
/-! More of what the texts say. -/
namespace Ms
open PySem PySem.Spec PyProof.Rows L2
section
variable {X : Cx} {P : Pm} {E : XK} {F G : Fn D} {A : Fn (List D)} {a b : Expr} {pos : Pos}
/-! ### list(range(..)) -/
def rgOk (i j : Int) : Bool := decide (-(2 ^ 62) ≤ i) && decide (i < 2 ^ 62) && decide (-(2 ^ 62) ≤ j) && decide (j < 2 ^ 62) && decide ((j - i).toNat ≤ 1000000)
def cLstRg2 : Sto → D → D → Option D
  | _, .int i, .int j => if rgOk i j = true then some (.lst (rgl i (j - i).toNat)) else none
  | _, _, _ => none
def cLstRg1 : Sto → D → Option D
  | _, .int j => if rgOk 0 j = true then some (.lst (rgl 0 j.toNat)) else none
  | _, _ => none
theorem rgl_RA {K : PySem.W.Frag} {β : Mu} {H : Hp} {i : Int} {n : Nat} : RA K β H ((List.range n).map fun k => V.int (i + (k : Nat))) (rgl i n) := by
  have h : ∀ l : List Nat, RA K β H (l.map fun k => V.int (i + (k : Nat))) (l.map fun k => D.int (i + (k : Nat))) := fun l => by
    induction l with
    | nil => exact .nil
    | cons x r ih => exact .cons (.int _) ih
  unfold rgl
  exact h _
theorem rg_fits {i j : Int} (h : rgOk i j = true) : RgOk i j := by
  unfold rgOk at h
  simp only [Bool.and_eq_true, decide_eq_true_eq] at h
  obtain ⟨⟨⟨⟨h1, h2⟩, h3⟩, h4⟩, h5⟩ := h
  exact ⟨h1, h2, h3, h4, by omega⟩
theorem ed_listRg2 {p p2 pos2 : Pos} (hc : X.calm = true) (g1 : Gl X "list") (m1 : X.mg "list" = none) (g2 : Gl X "range") (m2 : X.mg "range" = none) (ha : ED X P E a F) (hb : ED X P E b G)
    (na : starEach [a, b] X.env = (false, eval a X.env) :: starEach [b] X.env := by rfl) (nb : starEach [b] X.env = (false, eval b X.env) :: starEach [] X.env := by rfl) (hp : (backTo pos2 (starEach [b] X.env)).any (·.1) = false := by rfl)
    (nc : starEach [.Call (.Name "range" p2) [a, b] [] pos2] X.env = (false, eval (.Call (.Name "range" p2) [a, b] [] pos2) X.env) :: starEach [] X.env := by rfl) :
    ED X P E (.Call (.Name "list" p) [.Call (.Name "range" p2) [a, b] [] pos2] [] pos) (f2 cLstRg2 F G) := by
  refine pe_imp (pe_listRg hc g1 m1 (prg_2 g2 m2 ha hb na nb hp) nc) ?_
  rintro σ H Q ⟨β, δ, bx, ev, g, o⟩
  refine d_bind ev g o.x fun β1 bx1 x d H1 l1 g1 r1 o1 => ?_
  refine d_bind (ev.le l1) g1 o1 fun β2 bx2 y e H2 l2 g2 r2 o2 => ?_
  obtain ⟨z, hz, kz⟩ := OutX.lft' o2
  unfold cLstRg2 at hz
  split at hz
  · rename_i i j
    split at hz
    · rename_i hr
      cases hz
      exact ⟨i, j, r1.int_inv, r2.int_inv, rg_fits hr, fun q hq => kz β2 _ (.new hq) (g2.new hq) _ (.lst ⟨.inl upd_same, g2.ne hq⟩ rgl_RA)⟩
    · cases hz
  · cases hz
theorem ed_listRg1 {p p2 pos2 : Pos} (hc : X.calm = true) (g1 : Gl X "list") (m1 : X.mg "list" = none) (g2 : Gl X "range") (m2 : X.mg "range" = none) (ha : ED X P E a F)
    (na : starEach [a] X.env = (false, eval a X.env) :: starEach [] X.env := by rfl)
    (nc : starEach [.Call (.Name "range" p2) [a] [] pos2] X.env = (false, eval (.Call (.Name "range" p2) [a] [] pos2) X.env) :: starEach [] X.env := by rfl) :
    ED X P E (.Call (.Name "list" p) [.Call (.Name "range" p2) [a] [] pos2] [] pos) (f1 cLstRg1 F) := by
  refine pe_imp (pe_listRg hc g1 m1 (prg_1 g2 m2 ha na) nc) ?_
  rintro σ H Q ⟨β, δ, bx, ev, g, o⟩
  refine d_bind ev g o.x fun β1 bx1 x d H1 l1 g1 r1 o1 => ?_
  obtain ⟨z, hz, kz⟩ := OutX.lft' o1
  unfold cLstRg1 at hz
  split at hz
  · rename_i j
    split at hz
    · rename_i hr
      cases hz
      refine ⟨j, r1.int_inv, rg_fits hr, fun q hq => kz β1 _ (.new hq) (g1.new hq) _ (.lst ⟨.inl upd_same, g1.ne hq⟩ ?_)⟩
      unfold rgV
      rw [Int.sub_zero]
      exact rgl_RA
    · cases hz
  · cases hz
/-! ### a list, so many times -/
def cRep : Sto → D → D → Option D
  | st, .ref k, .int n => (match st[k]? with
    | some (.lst l) => if -(2 ^ 63) ≤ n ∧ n < 2 ^ 63 ∧ l.length * n.toNat ≤ 1000000 then some (.lst (List.replicate n.toNat l).flatten) else none
    | _ => none)
  | _, _, _ => none
theorem RA.reps {K : PySem.W.Frag} {β : Mu} {H : Hp} {vs : List V} {ds : List D} (r : RA K β H vs ds) : ∀ n : Nat, RA K β H (List.replicate n vs).flatten (List.replicate n ds).flatten
  | 0 => .nil
  | n + 1 => by
    rw [List.replicate_succ, List.replicate_succ, List.flatten_cons, List.flatten_cons]
    exact r.append (RA.reps r n)
theorem opd_rep : OpD X P rRep cRep := by
  intro β bx H x y d e z Q g rx ry h k
  unfold cRep at h
  split at h
  · rename_i kk n
    split at h
    · rename_i l hl
      split at h
      · rename_i hb
        cases h
        obtain ⟨a, xs, rfl, hk, hH, ra⟩ := rx.live g hl
        refine ⟨a, n, xs, rfl, ry.int_inv, hH, hb.1, hb.2.1, by rw [ra.length]; exact leM hb.2.2, fun p hp => k _ _ (.new hp) (g.new hp) (.lst ⟨.inl upd_same, g.ne hp⟩ ?_)⟩
        exact RA.le (.new hp) (ra.reps _)
      · cases h
    · cases h
  · cases h
theorem ed_rep (ha : ED X P E a F) (hb : ED X P E b G) : ED X P E (.BinOp a .Mult b pos) (f2 cRep F G) := ed_bin op_rep opd_rep ha hb
/-! ### the greatest, the least -/
def maxI (n : Int) (ns : List Int) : Int := ns.foldl max n
def minI (n : Int) (ns : List Int) : Int := ns.foldl min n
theorem maxI_le : ∀ (ns : List Int) (n y : Int), y ∈ n :: ns → y ≤ maxI n ns
  | [], n, y, h => by cases List.mem_singleton.mp h; exact Int.le_refl _
  | m :: r, n, y, h => by
    have e : maxI n (m :: r) = maxI (max n m) r := rfl
    rw [e]
    rcases List.mem_cons.mp h with rfl | h
    · exact Int.le_trans (by omega : y ≤ max y m) (maxI_le r _ _ List.mem_cons_self)
    · rcases List.mem_cons.mp h with rfl | h
      · exact Int.le_trans (by omega : y ≤ max n y) (maxI_le r _ _ List.mem_cons_self)
      · exact maxI_le r _ _ (List.mem_cons_of_mem _ h)
theorem maxI_mem : ∀ (ns : List Int) (n : Int), maxI n ns ∈ n :: ns
  | [], n => List.mem_cons_self
  | m :: r, n => by
    have e : maxI n (m :: r) = maxI (max n m) r := rfl
    rw [e]
    rcases List.mem_cons.mp (maxI_mem r (max n m)) with h | h
    · rw [h]
      by_cases q : n ≤ m
      · rw [show max n m = m by omega]; simp
      · rw [show max n m = n by omega]; simp
    · exact List.mem_cons_of_mem _ (List.mem_cons_of_mem _ h)
theorem minI_le : ∀ (ns : List Int) (n y : Int), y ∈ n :: ns → minI n ns ≤ y
  | [], n, y, h => by cases List.mem_singleton.mp h; exact Int.le_refl _
  | m :: r, n, y, h => by
    have e : minI n (m :: r) = minI (min n m) r := rfl
    rw [e]
    rcases List.mem_cons.mp h with rfl | h
    · exact Int.le_trans (minI_le r _ _ List.mem_cons_self) (by omega : min y m ≤ y)
    · rcases List.mem_cons.mp h with rfl | h
      · exact Int.le_trans (minI_le r _ _ List.mem_cons_self) (by omega : min n y ≤ y)
      · exact minI_le r _ _ (List.mem_cons_of_mem _ h)
theorem minI_mem : ∀ (ns : List Int) (n : Int), minI n ns ∈ n :: ns
  | [], n => List.mem_cons_self
  | m :: r, n => by
    have e : minI n (m :: r) = minI (min n m) r := rfl
    rw [e]
    rcases List.mem_cons.mp (minI_mem r (min n m)) with h | h
    · rw [h]
      by_cases q : n ≤ m
      · rw [show min n m = n by omega]; simp
      · rw [show min n m = m by omega]; simp
    · exact List.mem_cons_of_mem _ (List.mem_cons_of_mem _ h)
def cMaxL (st : Sto) : List D → Option D
  | [d] => ((vl st d).bind toInts).bind fun ns => match ns with
    | n :: r => some (.int (maxI n r))
    | [] => none
  | _ => none
def cMinL (st : Sto) : List D → Option D
  | [d] => ((vl st d).bind toInts).bind fun ns => match ns with
    | n :: r => some (.int (minI n r))
    | [] => none
  | _ => none
theorem cd_maxL : CallD X P (rMax X.K) cMaxL := by
  intro β bx H xs ds z Q g r h k
  unfold cMaxL at h
  split at h
  · rename_i d
    obtain ⟨v, rfl, r1⟩ := r.one
    cases hn : (vl bx d).bind toInts with
    | none => rw [hn] at h; cases h
    | some ns =>
      rw [hn] at h
      match ns, hn, h with
      | n :: t, hn, h =>
        cases h
        obtain ⟨a, rfl, s⟩ := cd_ints g r1 hn
        refine ⟨a, n :: t, rfl, s, Nat.succ_pos _, fun m hm hle => ?_⟩
        have e : m = maxI n t := Int.le_antisymm (maxI_le t n m hm) (hle _ (maxI_mem t n))
        rw [e]
        exact k _ H .refl g (.int _)
  · cases h
theorem cd_minL : CallD X P (rMin X.K) cMinL := by
  intro β bx H xs ds z Q g r h k
  unfold cMinL at h
  split at h
  · rename_i d
    obtain ⟨v, rfl, r1⟩ := r.one
    cases hn : (vl bx d).bind toInts with
    | none => rw [hn] at h; cases h
    | some ns =>
      rw [hn] at h
      match ns, hn, h with
      | n :: t, hn, h =>
        cases h
        obtain ⟨a, rfl, s⟩ := cd_ints g r1 hn
        refine ⟨a, n :: t, rfl, s, Nat.succ_pos _, fun m hm hle => ?_⟩
        have e : m = minI n t := Int.le_antisymm (hle _ (minI_mem t n)) (minI_le t n m hm)
        rw [e]
        exact k _ H .refl g (.int _)
  · cases h
end
end Ms

end
section
set_option Elab.async false
set_option linter.all false
set_option maxRecDepth 100000
set_option maxHeartbeats 4000000
/-! try: return ("told", repr(ask())) except Refused as fault: .. -/
namespace Ms
open PySem PySem.Spec PyProof.Rows L2
def hResR : Res D → Res D
  | .ok d bx => if showOk d = true then .ok (.tup [.str "told", .str d.py.shown]) bx else .bad
  | .err c d bx => if c = "Refused" then (if showOk d = true then .ok (.tup [.str "refused", .str d.py.shown, .bl true]) bx else .bad) else .bad
  | .bad => .bad
def fHeardR (F : Fn D) : Fn D := fun δ bx => hResR (F δ bx)
def TTHeardR (K : PySem.W.Frag) (CR : Addr) : (XK → Hp → VK → Prop) → Hp → VK → Prop := fun tl H Q =>
  tl (EHeard K CR Q) H fun v H' => rRepr K [v] H' fun w H2 => [V.str "told", w].length ≤ sizeLine ∧ ∀ p, H2 p = none → Q (.ref p) (upd H2 p (.tup [.str "told", w]))
theorem nd_ask : (["ask", "fault"] : List Str).Nodup := by decide +kernel
theorem heard_givesR {X : Cx} {x q qn : Str} {sg : Scope} {g CR B fI : Addr} {cdg : Value} {k : Nat} {j1 j2 k1 k2 : Nat} {p0 p1 p2 p3 p4 p5 p6 p7 p8 p9 q1 q2 q3 q4 q5 q6 q7 q8 q9 r1 r2 : Pos}
    (hga : X.A.guards = some []) (hr : Room (k + 2) X.A) (T : PySem.RefX.LowTxt "Refused" qn X.K X.mg CR fI) (hne : CR ≠ B) (hk : PySem.W.kitOne X.K (.ref CR) (.ref B) = some true) (gB : X.mg "WreckError" = some (.ref B)) (gr : X.mg "repr" = none) (gi : X.mg "isinstance" = none)
    (s1 : sg.names.lookup ("Refused" : Str) = some .globalImplicit) (s2 : sg.names.lookup ("repr" : Str) = some .globalImplicit) (s3 : sg.names.lookup ("isinstance" : Str) = some .globalImplicit) (s4 : sg.names.lookup ("WreckError" : Str) = some .globalImplicit) (s5 : sg.names.lookup ("fault" : Str) = some .local) :
    LamX.GivesTo X ["ask", "fault"] x sg g cdg [.Try [.Return (some (.Tuple [.Constant (.str "told") j1 p0, .Call (.Name "repr" r1) [.Call (.Name "ask" p1) [] [] p2] [] r2] k1 p3)) p4]
      [.ExceptHandler (some (.Name "Refused" p5)) (some "fault") [.Return (some (.Tuple [.Constant (.str "refused") j2 p6, .Call (.Name "repr" p7) [.Attribute (.Name "fault" p8) "at" p9] [] q1, .Call (.Name "isinstance" q2) [.Name "fault" q3, .Name "WreckError" q4] [] q5] k2 q6)) q7] q8] [] [] q9] "ask" q (TTHeardR X.K CR) := by
  intro f c' s H Q tl act hc h
  have hga' : (X.A.deeper (envOfC x sg s.heap.objs.size g cdg)).guards = some [] := hga
  have hr' : Room (k + 1) (X.A.deeper (envOfC x sg s.heap.objs.size g cdg)) := hr.deeper _
  refine ⟨_, pss_one (ps_try_as (X := (cxOf C8.CX0 X.prog X.w X.K X.mg X.base ["ask", "fault"] x sg g cdg X.A X.stack s H C8.E0).nox) (i := 1) (c := .ref CR) (Wout := fun _ _ _ _ => False)
      (tb := fun W D σ H => ∃ Ech : XK, (∀ cls d σ' H', Ech cls d H' → σ'.length = 2 → W cls d σ' H') ∧ σ[0]? = some (some (.ref f)) ∧ H c' = some (LamX.CodeO c' q) ∧ tl Ech H fun v H' => rRepr X.K [v] H' fun w H2 => [V.str "told", w].length ≤ sizeLine ∧ ∀ p, H2 p = none → D.rt (.ref p) (upd H2 p (.tup [.str "told", w])))
      rfl rfl nd_ask rfl s5 ⟨s1, by decide, .inl T.gC⟩ LamX.takes0 (fun W pn xe tk _ => ?_) (fun a oe cls d pn hz hf => pss_one (ps_ret (pe_tup (pa_cons pe_str (pa_cons
        (pe_callB (show CallR (((cxOf C8.CX0 X.prog X.w X.K X.mg X.base ["ask", "fault"] x sg g cdg X.A X.stack s H C8.E0).nox).suite a ((a, oe) :: pn)) (.builtin "repr") (rRepr X.K) from call_repr (X := ((cxOf C8.CX0 X.prog X.w X.K X.mg X.base ["ask", "fault"] x sg g cdg X.A X.stack s H C8.E0).nox).suite a ((a, oe) :: pn)) hga' hr'.units) (by exact s2) (by exact gr) b_repr (pa_cons (pe_byLow (X := (cxOf C8.CX0 X.prog X.w X.K X.mg X.base ["ask", "fault"] x sg g cdg X.A X.stack s H C8.E0).nox) T hz hf (pv 1 rfl (.inl s5))) pa_nil))
        (pa_cons (pe_callB (call_isX (X := (cxOf C8.CX0 X.prog X.w X.K X.mg X.base ["ask", "fault"] x sg g cdg X.A X.stack s H C8.E0).nox) hz hf hne hk) (by exact s3) (by exact gi) b_isinstance (pa_cons (pv 1 rfl (.inl s5)) (pa_cons (pe_glob (v := .ref B) (by exact s4) (by exact gB) rfl) pa_nil))) pa_nil))))))), ?_⟩
  · refine ⟨fun pins s' σ H' D I h' => ?_⟩
    obtain ⟨Ech, hW, h1, h2, h3⟩ := h'
    have hp := act _ pn xe Ech p1 p2 (takes_len tk) fun cls d σ' H' he hl => hW cls d σ' H' he hl
    have hrp := pe_callB (show CallR (((cxOf C8.CX0 X.prog X.w X.K X.mg X.base ["ask", "fault"] x sg g cdg X.A X.stack s H C8.E0).nox).tr pn xe) (.builtin "repr") (rRepr X.K) from call_repr (X := ((cxOf C8.CX0 X.prog X.w X.K X.mg X.base ["ask", "fault"] x sg g cdg X.A X.stack s H C8.E0).nox).tr pn xe) hga' hr'.units) (p := r1) (pos := r2) (by exact s2) (by exact gr) b_repr (pa_cons hp pa_nil)
    have hq := pss_one (ps_ret (pos := p4) (pe_tup (x1 := k1) (pos := p3) (pa_cons (pe_str (x := "told") (j := j1) (pos := p0)) (pa_cons hrp pa_nil))))
    exact hq.run pins s' σ H' D I ⟨h1, h2, h3⟩
  · refine ⟨EHeard X.K CR Q, fun cls d σ' H' ⟨e1, dd, v, pd, e2, e3, e4, e5, e6, e7, e8, e9⟩ hl => ⟨true, ?_, fun _ a ha => ?_, fun z => nomatch z⟩, rfl, hc, h⟩
    · rw [e1]
      exact T.te
    · rw [e1]
      have h1 : (σ'.set 1 (some (V.ref a)))[1]? = some (some (V.ref a)) := List.getElem?_set_self (by omega)
      refine ⟨.ref a, h1, rfl, rfl, dd, v, e2, e3, v, pd, rfl, e4, e5, e6, e7, e8, .ref a, h1, rfl, rfl, ⟨dd, _, e2, e3⟩, le1000 (by show 3 ≤ 1000; omega), e9⟩
theorem hresR_of {K : PySem.W.Frag} {P : Pm} {E : XK} {β : Mu} {H : Hp} {r : Res D} {Q : VK} (h : Out K P β H (hResR r) Q E) :
    Out K P β H r (fun v H' => rRepr K [v] H' fun w H2 => [V.str "told", w].length ≤ sizeLine ∧ ∀ p, H2 p = none → Q (.ref p) (upd H2 p (.tup [.str "told", w]))) (EHeard K (P.CR "Refused") Q) := by
  cases r with
  | ok d bx' =>
    have o' : Out K P β H (if showOk d = true then .ok (.tup [.str "told", .str d.py.shown]) bx' else .bad) Q E := h
    split at o'
    · rename_i hs
      unfold showOk at hs
      simp only [Bool.and_eq_true, decide_eq_true_eq] at hs
      exact fun β' v H' l' g' r => ⟨v, d.py, rfl, r.dp hs.1.1.1, hs.1.1.2, d.noDict, hs.1.2, hs.2, le1000 (by show 2 ≤ 1000; omega), fun p hp => o' _ _ _ (l'.trans (.new hp)) (g'.new hp) (.tup ⟨.inl upd_same, g'.ne hp⟩ (.cons (.str _) (.cons (.str _) .nil)))⟩
    · exact o'.elim
  | err c d bx' =>
    have o' : Out K P β H (if c = "Refused" then (if showOk d = true then .ok (.tup [.str "refused", .str d.py.shown, .bl true]) bx' else .bad) else .bad) Q E := h
    split at o'
    · rename_i hcn
      subst hcn
      split at o'
      · rename_i hs
        unfold showOk at hs
        simp only [Bool.and_eq_true, decide_eq_true_eq] at hs
        exact fun β' a v H' l' g' hx r => ⟨rfl, a, v, d.py, rfl, hx, r.dp hs.1.1.1, hs.1.1.2, d.noDict, hs.1.2, hs.2, fun p hp => o' _ _ _ (l'.trans (.new hp)) (g'.new hp) (.tup ⟨.inl upd_same, g'.ne hp⟩ (.cons (.str _) (.cons (.str _) (.cons (.bl _) .nil))))⟩
      · exact o'.elim
    · exact o'.elim
  | bad => exact h.elim
end Ms

end
section
set_option Elab.async false
set_option linter.all false
set_option maxRecDepth 100000
set_option maxHeartbeats 4000000
/-! Truth of values; how many members a set has. -/
namespace Ms
open PySem PySem.Spec PyProof.Rows L2
section
variable {X : Cx} {P : Pm} {E : XK} {F G : Fn D} {A : Fn (List D)} {a b e : Expr} {pos : Pos}
def cTru (st : Sto) (d : D) : Option Bool := match d with
  | .non => some false
  | .bl b => some b
  | .int i => some (i != 0)
  | d => (vs st d).map fun l => !l.isEmpty
def fTru (F : Fn D) : Fn Bool := bnd F fun d => fun δ bx => lft (cTru bx d) δ bx
theorem RA.isEmpty {K : PySem.W.Frag} {β : Mu} {H : Hp} {vs : List V} {ds : List D} (r : RA K β H vs ds) : vs.isEmpty = ds.isEmpty := by
  cases r <;> rfl
theorem tru_of {K : PySem.W.Frag} {T : Tb} {β : Mu} {st : Sto} {H : Hp} {v : V} {d : D} {c : Bool} (g : Good K T β st H) (r : R K β H v d) (h : cTru st d = some c) : TruV K v H c := by
  have key : ∀ l, vs st d = some l → (some (!l.isEmpty) = some c) → TruV K v H c := fun l hl e => by
    obtain ⟨p, xs, rfl, s, ra⟩ := r.vs g hl
    have e' : c = !xs.isEmpty := by rw [ra.isEmpty]; exact (Option.some.inj e).symm
    rcases s with s | s
    · exact .inl ⟨xs, s, e'⟩
    · exact .inr (.inl ⟨xs, s, e'⟩)
  have key2 : (vs st d).map (fun l => !l.isEmpty) = some c → TruV K v H c := fun e => by
    cases hl : vs st d with
    | none => rw [hl] at e; cases e
    | some l => rw [hl] at e; exact key l hl e
  cases d with
  | non =>
    cases h
    cases r
    rfl
  | bl b =>
    cases h
    rw [r.bl_inv]
    rfl
  | int i =>
    cases h
    rw [r.int_inv]
    rfl
  | str _ => exact key2 h
  | lst _ => exact key2 h
  | tup _ => exact key2 h
  | ref _ => exact key2 h
  | fn _ => exact key2 h
  | scr _ => exact key2 h
theorem et_tru (h : ED X P E e F) (he : ∀ whole, isTrue e X.env whole = (do let v ← whole; standAt e.pos; holding [v] (truthy v)) := by intro _; rfl) : ET X P E e (fTru F) := by
  refine pt_imp (pt_truth h he) ?_
  rintro σ H Q ⟨β, δ, bx, ev, g, o⟩
  refine att_bind (α := Unit) ev g o fun β1 bx1 x d H1 l1 g1 r1 o1 => ?_
  cases hc : cTru bx1 d with
  | none =>
    rw [hc] at o1
    exact (show False from o1).elim
  | some c =>
    rw [hc] at o1
    exact ⟨c, tru_of g1 r1 hc, o1 _ H1 .refl g1⟩
/-! ### len(set(..)) -/
/-- how many unlike ones there are -/
def unl (ns : List Int) : Nat := (firstMet (fun i => ns.getD i 0) ns.length).length
theorem met_mem (val : Nat → Int) (i : Nat) (k : Int) : k ∈ firstMet val i ↔ ∃ j, j < i ∧ val j = k := by
  have h := firstMet_any val i k
  have h1 : (firstMet val i).any (· == k) = true ↔ k ∈ firstMet val i := by
    rw [List.any_eq_true]
    exact ⟨fun ⟨x, hx, e⟩ => by rw [← beq_iff_eq.mp e]; exact hx, fun hk => ⟨k, hk, beq_self_eq_true k⟩⟩
  rw [← h1, h, List.any_eq_true]
  constructor
  · rintro ⟨x, hx, e⟩
    obtain ⟨j, hj, rfl⟩ := List.mem_map.mp hx
    exact ⟨j, List.mem_range.mp hj, beq_iff_eq.mp e⟩
  · rintro ⟨j, hj, rfl⟩
    exact ⟨_, List.mem_map.mpr ⟨j, List.mem_range.mpr hj, rfl⟩, beq_self_eq_true _⟩
theorem met_nodup (val : Nat → Int) : ∀ i, (firstMet val i).Nodup
  | 0 => List.nodup_nil
  | i + 1 => by
    rw [firstMet_succ]
    unfold step_dedup
    have ih := met_nodup val i
    split
    · exact ih
    · rename_i hn
      rw [List.nodup_append]
      refine ⟨ih, by simp, fun x hx y hy => ?_⟩
      cases List.mem_singleton.mp hy
      intro z
      subst z
      exact hn (List.any_eq_true.mpr ⟨_, hx, beq_self_eq_true _⟩)
theorem unl_mem {ns : List Int} {k : Int} : k ∈ firstMet (fun i => ns.getD i 0) ns.length ↔ k ∈ ns := by
  rw [met_mem]
  constructor
  · rintro ⟨j, hj, rfl⟩
    rw [List.getD_eq_getElem?_getD, List.getElem?_eq_getElem hj]
    exact List.getElem_mem hj
  · intro h
    obtain ⟨j, hj, rfl⟩ := List.mem_iff_getElem.mp h
    exact ⟨j, hj, by simp [List.getD_eq_getElem?_getD, List.getElem?_eq_getElem hj]⟩
theorem unl_eq {ns ks : List Int} (hn : ks.Nodup) (h : ∀ k, k ∈ ks ↔ k ∈ ns) : ks.length = unl ns := by
  have p : ks.Perm (firstMet (fun i => ns.getD i 0) ns.length) := (List.perm_ext_iff_of_nodup hn (met_nodup _ _)).mpr fun k => by rw [h, unl_mem]
  exact p.length_eq
/-- len(set(a)), a being a list or a tuple of ints -/
theorem pe_lenSet {ta : TE} {p p2 q : Pos} (hg : Gl X "len") (hm : X.mg "len" = none) (hg2 : Gl X "set") (hm2 : X.mg "set" = none) (ha : PE X a ta) (hc : X.calm = true := by rfl)
    (na : starEach [a] X.env = (false, eval a X.env) :: starEach [] X.env := by rfl) :
    PE X (.Call (.Name "len" p) [.Call (.Name "set" p2) [a] [] q] [] pos) (fun σ H Q => ta σ H fun x H1 => ∃ (l : Addr) (ns : List Int), x = .ref l ∧ (SqL X.K H1 l (ns.map V.int) ∨ SqT X.K H1 l (ns.map V.int)) ∧ ns.length ≤ 4000 ∧ Q (.int (unl ns : Nat)) H1) := by
  refine ⟨fun pins s σ H Q I h => ?_⟩
  refine Call_ (ld_blt I hg hm boot_len (PyProof.Rows.callWith_builtin1 (PyProof.Rows.args_cons ?_ rfl) rfl rfl))
  refine Call_ (ld_blt I hg2 hm2 boot_set (PyProof.Rows.callWith_type1 (PyProof.Rows.args_cons (thn (ha.run pins s σ H _ I h) fun v s1 hu => PyProof.Rows.args_nil ?_) na) na rfl))
  obtain ⟨x, H1, I1, r1, l, ns, rfl, hq, hl, q1⟩ := hu
  cases r1
  rcases hq with hq | hq
  · obtain ⟨its, r, pl, hz⟩ := I1.list hq
    have size : its.toArray.size = ns.length := by rw [List.size_toArray, ← r.length, List.length_map]
    refine call_set_list (ns := ns) (I1.ok.hd hc) pl.isList (by simpa using r.ints) (by rw [size]; unfold scanBound; omega) fun h' tk st_ kp => PyProof.Rows.args_nil ?_
    rw [size] at st_
    obtain ⟨ob, es, ep, t, ho, hex, hd, _, _, _, hf, hn⟩ := st_
    have lim := firstMet_length_le (fun i => ns.getD i 0) ns.length
    have I2 : Inv X pins σ H1 { s1 with heap := h', toks := tk } := I1.kept fun b o e => kp b o (Heap.lt_size e) e
    refine call_len_set ho hex hd hf (by rw [hn]; omega) ⟨.int (unl ns : Nat), H1, I2.tok _, ⟨_, by rw [hn]; rfl⟩, q1⟩
  · obtain ⟨its, r, pl, hz⟩ := I1.tuple hq
    refine call_set_tupI ns (I1.ok.hd hc) pl (by simpa using r.ints) (by unfold scanBound; omega) fun h' tk c st_ le kp => PyProof.Rows.args_nil ?_
    obtain ⟨ob, es, ep, t, ho, hex, hd, hg_, nd, hm_, hb, hf, hn, _, _⟩ := st_
    have I2 : Inv X pins σ H1 { s1 with heap := h', toks := tk } := I1.kept kp
    have e : es.size = unl ns := by
      have := unl_eq (ns := ns) nd fun k => by rw [← hm_ k]; exact decide_eq_true_iff
      simpa using this
    refine call_len_set ho hex hd hf (by omega) ⟨.int (unl ns : Nat), H1, I2.tok _, ⟨_, by rw [e]⟩, q1⟩
def cLenSet (st : Sto) (d : D) : Option D := ((vs st d).bind toInts).bind fun ns => if ns.length ≤ 4000 then some (.int (unl ns : Nat)) else none
theorem ed_lenSet {p p2 q : Pos} (hg : Gl X "len") (hm : X.mg "len" = none) (hg2 : Gl X "set") (hm2 : X.mg "set" = none) (ha : ED X P E a F) (hc : X.calm = true := by rfl)
    (na : starEach [a] X.env = (false, eval a X.env) :: starEach [] X.env := by rfl) : ED X P E (.Call (.Name "len" p) [.Call (.Name "set" p2) [a] [] q] [] pos) (f1 cLenSet F) := by
  refine pe_imp (pe_lenSet hg hm hg2 hm2 ha hc na) ?_
  rintro σ H Q ⟨β, δ, bx, ev, g, o⟩
  refine d_bind ev g o.x fun β1 bx1 x d H1 l1 g1 r1 o1 => ?_
  obtain ⟨z, hz, kz⟩ := OutX.lft g1 o1
  unfold cLenSet at hz
  cases hl : vs bx1 d with
  | none => rw [hl] at hz; cases hz
  | some l =>
    rw [hl] at hz
    cases hn : toInts l with
    | none => simp only [Option.bind_some, hn] at hz; cases hz
    | some ns =>
      simp only [Option.bind_some, hn] at hz
      split at hz
      · rename_i hle
        cases hz
        have e := toInts_inv hn
        subst e
        obtain ⟨a, xs, rfl, s, ra⟩ := r1.vs g1 hl
        rw [ra.ints_inv] at s
        exact ⟨a, ns, rfl, s, hle, kz _ (.int _)⟩
      · cases hz
end
end Ms

end
section
set_option Elab.async false
set_option linter.all false
set_option maxRecDepth 100000
set_option maxHeartbeats 4000000
/-! A list comprehension whose block may call the frame's own lambdas: within it the frame stands as ever. -/
namespace Ms
open PySem PySem.Spec PyProof.Rows L2
/-- wherever the block Y stands, the frame X stands too -/
def OutI (X Y : Cx) (pins : List (Addr × Obj)) (σ : L2.St) : Prop := ∀ pn' σ' H' s', Inv Y pn' σ' H' s' → Inv X pins σ H' s'
/-- the environment of a block that starts at t -/
abbrev bEnv (X : Cx) (scope : Scope) (t : Shared) : Env := compEnvC scope (cellsFrom (t.heap.objs.size + 1) scope.names (cloFrom X.env.cells scope.names [])) t.heap.objs.size X.env
section
variable {X : Cx} {pins : List (Addr × Obj)} {σ : L2.St} {H : Hp} {s0 : Shared}
theorem outI_of {scope : Scope} {fp : List Addr} {t : Shared} {cenv : Env} (I : Inv X pins σ H t) (f : ∀ b ∈ fp, FpOk X pins H b) : OutI X (X.blk t H scope cenv fp) pins σ := fun _ _ _ _ J =>
  Inv.call' (ch := fp) I J.os J.base J.hok J.bare fun b hb => let z := (f b hb).2.2.2; ⟨z.1, (f b hb).2.1, z.2.1, z.2.2⟩
theorem lcO_core {Q : VK} {elt tg iter : Expr} {ifs : List Expr} {scope : Scope} {own : List (Str × Nat)} {pos pos' : Pos} {wi : TI} {g : TG} {tt : TT} {te : TE} {use : Option (Value → Sem Unit)} {Qf : Value → Shared → Prop}
    (hc : X.calm = true) (hN : X.N.Nodup) (I : Inv X pins σ H s0) (hi : PI X tg iter wi) (ok : BlkOk X.N X.env.scope scope own)
    (hb : ∀ (t : Shared) (H' : Hp) (Cc : Addr) (cl : List (Str × Addr)) (fp : List Addr), OutI X (blkX X scope t H' Cc cl fp) pins σ → PG (blkX X scope t H' Cc cl fp) tg g ∧ PTs (blkX X scope t H' Cc cl fp) ifs tt ∧ PE (blkX X scope t H' Cc cl fp) elt te)
    (hs : ∀ x, foldedSetIterable iter X.env x = pure x) (h : tLc wi g tt te (own.map (·.2)) σ H Q)
    (back : ∀ D C s' m H', Inv X pins σ H' s' → Q (.ref D) H' → s'.heap.Ns C m → FpOk X pins H' C → compPost (model X.prog X.w) X.A X.xe use Qf (.ref D) C (.ok .next) s') :
    wpAny (model X.prog X.w) X.A (comprehension (.ListComp elt [⟨tg, iter, ifs, 0⟩] scope pos) scope X.env pos' (newList []) false (eval iter X.env) use) Qf X.xe s0 := by
  have fr : ∀ y ∈ scope.names, y.2 = .free → ∃ c, X.env.cells.lookup y.1 = some c := fun y hy e => (ok.free y hy e).elim (fun k => I.ok.has _ (.inl k)) fun k => I.ok.has _ (.inr k)
  refine wpAny_comprehension_free (use := use) rfl hs (closure_ok fr) ok.kind (fun y hy e => (ok.uniq y hy).trans (by rw [e])) (thn (hi.run pins s0 σ H _ I h) fun _ _ hx => thn hx ?_)
  rintro _ sa ⟨it, fp, tn, J, Ha, rfl, Ia, T, sta, fpa, q⟩
  obtain ⟨D, hD⟩ : ∃ D, D = sa.heap.objs.size := ⟨_, rfl⟩
  have nD : Ha D = none := Ia.hok.fresh (Nat.le_of_eq hD.symm)
  obtain ⟨W, ⟨m0, w0⟩, turn⟩ := q D nD
  obtain ⟨Hb, hHb⟩ : ∃ Hb, Hb = upd Ha D (.lst []) := ⟨_, rfl⟩
  obtain ⟨sb, hsb⟩ : ∃ sb : Shared, sb = { sa with heap := sa.heap.push { cls := .type "list", data := .seq ([] : List Value).toArray } } := ⟨_, rfl⟩
  have kb : ∀ b o, sa.heap.get? b = some o → sb.heap.get? b = some o := fun b o e => by rw [hsb]; exact Heap.get?_push_of_some _ e
  have Ib : Inv X pins σ Hb sb := by
    rw [hsb, hHb]
    exact Ia.laid (t' := sa.toks) (fun b o e => Heap.get?_push_of_some _ e) (Nat.le_of_eq hD.symm) ⟨Nat.zero_le _, [], 0, .nil, by rw [hD]; exact Heap.get?_push_size _ rfl⟩
  have fpb : ∀ b ∈ fp, FpOk X pins Hb b ∧ b < sb.heap.objs.size := fun b m => by
    obtain ⟨o, e, _⟩ := T.obj _ _ sta b m
    have lt := Heap.lt_size e
    refine ⟨⟨?_, (fpa b m).2⟩, Heap.lt_size (kb b o e)⟩
    rw [hHb, upd_ne (by rw [hD]; exact Nat.ne_of_lt lt)]
    exact (fpa b m).1
  rw [← hHb] at w0
  have stb : tn 0 sb.heap := T.keep _ _ _ sta fun b _ o e => kb b o e
  have Ic : Inv (X.blk sb Hb scope (bEnv X scope sb) fp) [] (wipe σ (own.map (·.2))) Hb { sb with heap := pushCells (sb.heap.push { cls := .type "dict", data := .dict #[] }) scope.names } := block_start Ib ok hN fpb
  have out : OutI X (X.blk sb Hb scope (bEnv X scope sb) fp) pins σ := outI_of Ib fun b m => (fpb b m).1
  obtain ⟨pg, pt, pe⟩ : PG (X.blk sb Hb scope (bEnv X scope sb) fp) tg g ∧ PTs (X.blk sb Hb scope (bEnv X scope sb) fp) ifs tt ∧ PE (X.blk sb Hb scope (bEnv X scope sb) fp) elt te := hb sb Hb _ _ fp out
  obtain ⟨ce, hce⟩ : ∃ ce, ce = bEnv X scope sb := ⟨_, rfl⟩
  rw [← hce] at Ic out pg pt pe
  have cL : ce.locals = sb.heap.objs.size := by rw [hce]; rfl
  obtain ⟨s1, hs1⟩ : ∃ s1 : Shared, s1 = { sb with heap := pushCells (sb.heap.push { cls := .type "dict", data := .dict #[] }) scope.names } := ⟨_, rfl⟩
  rw [← hs1] at Ic
  have st1 : tn 0 s1.heap := T.keep _ _ _ stb fun b _ o e => by rw [hs1]; exact pushCells_keeps _ _ _ _ (Heap.get?_push_of_some _ e)
  have fpY : ∀ {σ' : L2.St} {H' : Hp} {s' : Shared}, Inv (X.blk sb Hb scope ce fp) [] σ' H' s' → (∀ b ∈ fp, H' b = none) → ∀ b ∈ fp, FpOk (X.blk sb Hb scope ce fp) [] H' b := fun {σ' H' s'} J nn b m =>
    ⟨nn b m, (J.ok.exf b m).1, J.ok.exfs b m, .inl m, fun x c e => (J.ok.exf b m).2 x c e, fun p hp => by cases hp⟩
  have loop : codeAny (model X.prog X.w) X.A (.compLoop (.ListComp elt [⟨tg, iter, ifs, 0⟩] scope pos) 0 (.ref it) (.ref D) ce) (compPost (model X.prog X.w) X.A X.xe use Qf (.ref D) sb.heap.objs.size) s1 := by
    refine compLoop_any (fun n s' => ∃ i H', Inv (X.blk sb Hb scope ce fp) [] (wipe σ (own.map (·.2))) H' s' ∧ tn i s'.heap ∧ (∀ b ∈ fp, H' b = none) ∧ W i n H') (fun n s2 hs2 => ?_) m0 ⟨0, Hb, Ic, st1, fun b m => (fpb b m).1.1, w0⟩
    obtain ⟨i, H2, I2, st2, n2, w2⟩ := hs2
    rcases turn i n H2 w2 with ⟨stop, qq⟩ | ⟨go, Nx, hNx, step⟩
    · refine thnF (T.done (X.blk sb Hb scope ce fp) rfl rfl rfl hc i [] s2 _ H2 (fun _ _ => False) I2 (fpY I2 n2) st2 stop) fun r s3 ⟨hr, I3⟩ => ?_
      rw [hr]
      have nC : H2 sb.heap.objs.size = none := by
        have z : H2 ce.locals = none := I3.free
        rwa [cL] at z
      obtain ⟨m, hn, _⟩ := I3.loc
      have hn : s3.heap.Ns ce.locals m := hn
      rw [cL] at hn
      exact back D sb.heap.objs.size s3 m H2 (out _ _ _ _ I3) qq hn (Ib.fpOk (Nat.le_refl _) nC)
    · refine thnF (T.item (X.blk sb Hb scope ce fp) rfl rfl rfl hc i [] s2 _ H2 (fun _ _ => False) I2 (fpY I2 n2) st2 go) fun r s3 ⟨u, hr, h3⟩ => ?_
      rw [hr]
      refine thnF h3 fun _ s4 ⟨x, H4, I4, r4, y4, st4, n4⟩ => ?_
      refine thnF (pg.run _ s4 _ H4 x u _ (I4.pinned (fpY I4 n4) (T.obj _ _ st4)) r4 (step x H4 y4)) fun _ s5 ⟨σ5, H5, I5, hw, q5⟩ => ?_
      refine thnF (pt.run _ s5 σ5 H5 _ I5 q5) fun b s6 ⟨H6, I6, q6⟩ => ?_
      have ends : ∀ {s' : Shared} {H' : Hp}, Inv (X.blk sb Hb scope ce fp) ([] ++ pinsAt fp s4.heap) σ5 H' s' → Nx H' → ∃ m, m < n ∧ ∃ i H', Inv (X.blk sb Hb scope ce fp) [] (wipe σ (own.map (·.2))) H' s' ∧ tn i s'.heap ∧ (∀ b ∈ fp, H' b = none) ∧ W i m H' := fun {s' H'} J nx => by
        obtain ⟨m', hm, w'⟩ := hNx H' nx
        have pin : ∀ b ∈ fp, ∀ o, s4.heap.get? b = some o → s'.heap.get? b = some o ∧ H' b = none := fun b m o e => by
          obtain ⟨z1, z2, _⟩ := J.pin (b, o) (List.mem_append_right _ (List.mem_append_right _ (mem_pinsAt m e)))
          exact ⟨z1, z2⟩
        refine ⟨m', hm, i + 1, H', (J.unpinned (pins := [])).weak (by rw [← hw, wipe_length]) (fun j v e => (wipe_some (by rw [hw]; exact e)).1), T.keep _ _ _ st4 fun b m o e => (pin b m o e).1, fun b m => ?_, w'⟩
        obtain ⟨o, e, _⟩ := T.obj _ _ st4 b m
        exact (pin b m o e).2
      cases b with
      | false => exact ends I6 q6
      | true => exact thnF (pe.run _ s6 σ5 H6 _ I6 q6) fun z s7 ⟨yv, H7, I7, r7, acc, hD7, hz7, nx⟩ => app_ok (X := X.blk sb Hb scope ce fp) I7 hD7 hz7 r7 fun s8 I8 => ends I8 nx
  refine wpAny_newObj_type (newEnv_comp ?_) (Nat.zero_le _)
  have fin := codeAny_compStart_list loop (T.self X.A 0 _ _ _ st1 loop)
  subst hce hs1 hsb hHb hD
  exact fin
/-- as a value -/
theorem pe_lcO {elt tg iter : Expr} {ifs : List Expr} {scope : Scope} {own : List (Str × Nat)} {pos : Pos} {wi : TI} {g : TG} {tt : L2.St → TT} {te : TE} (hc : X.calm = true) (hN : X.N.Nodup) (hi : PI X tg iter wi) (ok : BlkOk X.N X.env.scope scope own)
    (hb : ∀ (pins : List (Addr × Obj)) (σ : L2.St) (t : Shared) (H' : Hp) (Cc : Addr) (cl : List (Str × Addr)) (fp : List Addr), OutI X (blkX X scope t H' Cc cl fp) pins σ → PG (blkX X scope t H' Cc cl fp) tg g ∧ PTs (blkX X scope t H' Cc cl fp) ifs (tt σ) ∧ PE (blkX X scope t H' Cc cl fp) elt te)
    (hs : ∀ x, foldedSetIterable iter X.env x = pure x) : PE X (.ListComp elt [⟨tg, iter, ifs, 0⟩] scope pos) (fun σ H Q => tLc wi g (tt σ) te (own.map (·.2)) σ H Q) := by
  refine ⟨fun pins s σ H Q I h => ?_⟩
  rw [eval_ListComp]
  refine lcO_core hc hN I hi ok (hb pins σ) hs h fun D C s' m H' I' q hn ⟨f0, f1, f2, f3, f4, f5⟩ => ⟨m, hn, fun h'' k => ⟨.ref D, H', I'.turned (t' := s'.toks) (fun b o n e => (k.2 b n).trans e) f0 f1 f3 f4 f5, rfl, q⟩⟩
end
end Ms

end
section
set_option Elab.async false
set_option linter.all false
set_option maxRecDepth 100000
set_option maxHeartbeats 4000000
/-! Lambdas heard: a def that calls what it is given and tells what came of it, whatever it tells; also within a comprehension. -/
namespace Ms
open PySem PySem.Spec PyProof.Rows L2
def fHeardG (hR : Res D → Res D) (F : Fn D) : Fn D := fun δ bx => hR (F δ bx)
def fHeardVG (hR : Res D → Res D) (F : Fn D) (B : Nat → Fn D) : Fn D := bnd F fun d => fun δ bx => match d with
  | .ref k => (match bx[k]? with
    | some (.lam n) => hR (B n δ bx)
    | _ => .bad)
  | _ => .bad
/-- the same, amid a comprehension whose own names stand in the slots is -/
def fHeardVB (hR : Res D → Res D) (is : List Nat) (F : Fn D) (B : Nat → Fn D) : Fn D := bnd F fun d => fun δ bx => match d with
  | .ref k => (match bx[k]? with
    | some (.lam n) => hR (B n (unset is δ) bx)
    | _ => .bad)
  | _ => .bad
theorem Ev.unwipe {K : PySem.W.Frag} {β : Mu} {H : Hp} {σ : L2.St} {δ : List (Option D)} {is : List Nat} (e : Ev K β H (wipe σ is) δ) : Ev K β H σ δ := ⟨by rw [← e.len, wipe_length], fun i d h => by
  obtain ⟨v, h1, h2⟩ := e.at_ i d h
  exact ⟨v, (wipe_some h1).1, h2⟩⟩
section
variable {K : PySem.W.Frag} {P : Pm} {E : XK} {EK : VK → XK} {VQ : VK → VK} {TT : (XK → Hp → VK → Prop) → Hp → VK → Prop} {hR : Res D → Res D}
theorem heard_ofG (hTT : ∀ tl H Q, TT tl H Q = tl (EK Q) H (VQ Q)) (hof : ∀ β H r Q, Out K P β H (hR r) Q E → Out K P β H r (VQ Q) (EK Q)) {F : Fn D} {σ : L2.St} {H : Hp} {Q : VK} (h : tD K P E (fHeardG hR F) σ H Q) : LamX.tLam P.T.tb TT (fun E' => tD K P E' F) σ H Q := by
  obtain ⟨β, δ, bx, ev, g, o⟩ := h
  refine ⟨g.tb, fun H1 x t1 => ?_⟩
  have l : Le β H β H1 := .ext x
  have x' : ∀ b o, H b = some o → (∀ ps, o ≠ .tbl ps) → H1 b = some o := x
  have sm : ∀ (k : Nat) (a : Addr) (b : Bool), β.cs[k]? = some (a, b) → ∃ o, H1 a = some o ∧ ∀ ps, o ≠ .tbl ps := fun k a b h => by
    obtain ⟨o, z, t⟩ := g.sm k a b h
    exact ⟨o, x' _ _ z t, t⟩
  have g1 : Good K P.T β bx H1 := ⟨g.ln, fun k a b h => by
    obtain ⟨c, h1, h2⟩ := g.cs k a b h
    exact ⟨c, h1, h2.le l (g.xk l) fun xs z => x _ _ z (fun ps z => by cases z)⟩, g.inj, sm, fun e he => by
    obtain ⟨⟨l, h⟩, n⟩ := g.ex e he
    exact ⟨⟨l, x _ _ h (fun ps z => by cases z)⟩, n⟩, t1⟩
  rw [hTT]
  exact ⟨β, δ, bx, ev.le l, g1, hof _ _ _ _ (Out.le l o)⟩
end
section
variable {X : Cx} {P : Pm} {E : XK} {F : Fn D} {EK : VK → XK} {VQ : VK → VK} {TT : (XK → Hp → VK → Prop) → Hp → VK → Prop} {hR : Res D → Res D}
theorem ed_heardG {x a : Str} {g c Pt : Addr} {k : Nat} {pg : Arguments} {bg : List Stmt} {sg : Scope} {dV kV doc pm cdv ct oc : Value} {an od : Option Addr} {osl : Array (Option Value)} {Ng : List Str}
    {params : Arguments} {body : Expr} {scope : Scope} {p lpos pos : Pos} (hTT : ∀ tl H Q, TT tl H Q = tl (EK Q) H (VQ Q)) (hof : ∀ β H r Q, Out X.K P β H (hR r) Q E → Out X.K P β H r (VQ Q) (EK Q)) (hg : Gl X x) (hm : X.mg x = some (.ref g)) (hk : PySem.W.keepIn X.K (.ref g) = true)
    (lk : X.K.lookup g = some ⟨oc, od, .func (PySem.W.fnOf x x pg bg sg dV kV doc pm an cdv ct), osl⟩) (hcg : PySem.W.codeIn X.K cdv x = true) (hb : L2.Binds X.K (PySem.W.fnOf x x pg bg sg dV kV doc pm an cdv ct) [a] []) (Sg : FnScope Ng [a] sg) (hNg : Ng[0]? = some a) (hva : Vis sg a)
    (hG : LamX.GivesTo X Ng x sg g cdv bg a (X.env.qual ++ "<lambda>") TT)
    (TB : LamX.TabB X.base X.mg c Pt) (hcode : X.env.code = .ref c) (hmT : (Pt, X.env.qual ++ "<lambda>") ∈ P.T.tb) (hu : ∀ q ∈ P.T.tb, q.1 = Pt → q.2 = X.env.qual ++ "<lambda>") (hr : Room (k + 2) X.A) (L : LamX.LamS X.env.scope scope) (hdef : defaultsOf params X.env = ([], []))
    (hbind : ∀ (q : Str) (cl : List (Str × Addr)) (pm cv ctv : Value), bindArgs (PySem.W.kla_fn "<lambda>" q params body scope cl pm cv ctv) ⟨[], []⟩ = pure [])
    (hbody : ∀ (A : Around) (outer : List Env) (s : Shared) (H : Hp) (E' : XK) (f c' : Addr), Room k (A.deeper (LamX.lamEnv X scope s.heap.objs.size f c')) → ED (LamX.lamCx X A outer s H E' scope f c') P E' body F)
    (hdb : (x == ("__debug__" : Str)) = false := by decide) (hd : (a == ("__debug__" : Str)) = false := by decide) (hcd : (a == ("__classdict__" : Str)) = false := by decide) :
    ED X P E (.Call (.Name x p) [.Lambda params body scope lpos] [] pos) (fHeardG hR F) :=
  pe_imp (LamX.pe_lamcall (t := fun E' => tD X.K P E' F) hg hm hk lk hcg hb Sg hNg hva hG TB hcode hmT hu hr L hdef hbind hbody hdb hd hcd) fun _ _ _ h => heard_ofG hTT hof h
/-- what a kept lambda of the frame X is known for -/
def LamKnown (X : Cx) (P : Pm) (k : Nat) (B : Nat → Fn D) : Prop := ∀ n f H, P.T.lm n f H → ∃ (c' : Addr) (params : Arguments) (body : Expr) (scope : Scope), H f = some (LamH X.env.cells (X.env.qual ++ "<lambda>") params body scope f c') ∧ H c' = some (LamX.CodeO c' (X.env.qual ++ "<lambda>")) ∧ LamX.LamS X.env.scope scope ∧
      (∀ (q : Str) (cl : List (Str × Addr)) (pm cv ctv : Value), bindArgs (PySem.W.kla_fn "<lambda>" q params body scope cl pm cv ctv) ⟨[], []⟩ = pure []) ∧
      ∀ (A : Around) (outer : List Env) (s : Shared) (H : Hp) (E' : XK), Room k (A.deeper (LamX.lamEnv X scope s.heap.objs.size f c')) → ED (LamX.lamCx X A outer s H E' scope f c') P E' body (B n)
/-- the arg is one of the frame's lambdas -/
theorem lam_arg {K : PySem.W.Frag} {F : Fn D} {G : Nat → List (Option D) → Sto → Res D} {σ : L2.St} {H : Hp} {Q : VK} {β : Mu} {δ : List (Option D)} {bx : Sto} (ev : Ev K β H σ δ) (gd : Good K P.T β bx H)
    (o : Out K P β H (bnd F (fun d => fun δ bx => match d with
      | .ref k => (match bx[k]? with
        | some (.lam n) => hR (G n δ bx)
        | _ => .bad)
      | _ => .bad) δ bx) Q E) : tD K P E F σ H fun v H1 => ∃ (f : Addr) (n : Nat) (β1 : Mu) (bx1 : Sto), v = .ref f ∧ P.T.lm n f H1 ∧ Ev K β1 H1 σ δ ∧ Good K P.T β1 bx1 H1 ∧ Out K P β1 H1 (hR (G n δ bx1)) Q E := by
  refine d_bind ev gd o.x fun β1 bx1 v d H1 l1 g1 r1 o1 => ?_
  cases r1 with
  | ref hk =>
    have ⟨c, h1, h2⟩ := g1.cs _ _ _ hk
    dsimp only at o1
    rw [h1] at o1
    cases c with
    | lam n => exact ⟨_, n, β1, bx1, rfl, h2.2, ev.le l1, g1, out_ofX o1⟩
    | lst _ => exact o1.elim
    | dead => exact o1.elim
  | non => exact o1.elim
  | bl _ => exact o1.elim
  | int _ => exact o1.elim
  | str _ => exact o1.elim
  | lst _ _ => exact o1.elim
  | tup _ _ => exact o1.elim
  | fn _ _ => exact o1.elim
  | scr _ => exact o1.elim
/-- x(y), y being one of the frame's lambdas -/
theorem ed_heardVG {B : Nat → Fn D} {x a y : Str} {g : Addr} {k : Nat} {pg : Arguments} {bg : List Stmt} {sg : Scope} {dV kV doc pm cdv ct oc : Value} {an od : Option Addr} {osl : Array (Option Value)} {Ng : List Str}
    {p py pos : Pos} (hTT : ∀ tl H Q, TT tl H Q = tl (EK Q) H (VQ Q)) (hof : ∀ β H r Q, Out X.K P β H (hR r) Q E → Out X.K P β H r (VQ Q) (EK Q)) (hg : Gl X x) (hm : X.mg x = some (.ref g)) (hk : PySem.W.keepIn X.K (.ref g) = true)
    (lk : X.K.lookup g = some ⟨oc, od, .func (PySem.W.fnOf x x pg bg sg dV kV doc pm an cdv ct), osl⟩) (hcg : PySem.W.codeIn X.K cdv x = true) (hb : L2.Binds X.K (PySem.W.fnOf x x pg bg sg dV kV doc pm an cdv ct) [a] []) (Sg : FnScope Ng [a] sg) (hNg : Ng[0]? = some a) (hva : Vis sg a)
    (hG : LamX.GivesTo X Ng x sg g cdv bg a (X.env.qual ++ "<lambda>") TT) (hr : Room (k + 2) X.A) (h : ED X P E (.Name y py) F) (hl : LamKnown X P k B)
    (hdb : (x == ("__debug__" : Str)) = false := by decide) (hd : (a == ("__debug__" : Str)) = false := by decide) (hcd : (a == ("__classdict__" : Str)) = false := by decide) :
    ED X P E (.Call (.Name x p) [.Name y py] [] pos) (fHeardVG hR F B) := by
  refine ⟨fun pins s σ H Q I ⟨β, δ, bx, ev, gd, o⟩ => ?_⟩
  refine wpAny_Call_Name_kw (ld_glob I hg hm ?_ hdb)
  refine PySem.W.callWith_K (h₀ := X.base) I.ok.mod.kin hk ?_ (by rfl) (by rfl)
  show wpAny _ _ (spliced ((false, eval (.Name y py) X.env) :: backTo pos (starEach [] X.env))) _ _ s
  refine Calls.spliced_cons (thn (h.run pins s σ H _ I (lam_arg (G := fun n δ bx => B n δ bx) ev gd o)) fun u s1 hu => ?_)
  obtain ⟨v, H1, I1, rv, f, n, β1, bx1, rfl, hlm, ev1, g1, o1⟩ := hu
  have eu : u = Value.ref f := rv
  subst eu
  obtain ⟨c', params, body, scope, hf, hc, L, bd, hB⟩ := hl n f H1 hlm
  refine Calls.spliced_nil ⟨I1.kIn, ?_⟩
  have call_ : codeAny (model X.prog X.w) X.A (.call (.ref g) ⟨[.ref f], []⟩) (CR C8.CX0 X.stack X.prog X.w H1 s1 Q C8.E0) s1 := by
    refine LamX.run_ofS (vs := [.ref f]) (us := [.ref f]) (ps := [a]) (N := Ng) lk hcg Sg hr I1.env0 (hb s1 [.ref f] I1.kIn rfl) (.cons rfl .nil) rfl fun hr' => ?_
    have ⟨t', ht', hq'⟩ := hG f c' s1 H1 Q (fun E' H' Q' => H' f = some (LamH X.env.cells (X.env.qual ++ "<lambda>") params body scope f c') ∧ tD X.K P E' (B n) σ H' Q')
      (fun W pn xe E' p1 p2 tk hW => lam_act I1 L bd tk hW hr' (fun A outer s H hr2 => hB A outer s H E' hr2) hNg hva hd hcd) hc (by
        rw [hTT]
        exact ⟨hf, β1, δ, bx1, ev1, g1, hof _ _ _ _ o1⟩)
    exact ⟨t', ht'.nox, hq'⟩
  refine wpAny_call (codeAny_mono call_ fun r s2 hq => ?_)
  match r, hq with
  | .error e, hq => exact False.elim hq
  | .ok (.ret u), hq => exact I1.after hq
  | .ok .next, hq => exact False.elim hq
  | .ok .brk, hq => exact False.elim hq
  | .ok .cont, hq => exact False.elim hq
/-- the same in a comprehension's block -/
theorem pe_heardVB {scb : Scope} {tb : Shared} {Hb : Hp} {Cc : Addr} {cl : List (Str × Addr)} {fp : List Addr} {pins0 : List (Addr × Obj)} {σ0 : L2.St} {is : List Nat} (out : OutI X (blkX X scb tb Hb Cc cl fp) pins0 σ0)
    {B : Nat → Fn D} {x a y : Str} {g : Addr} {k : Nat} {pg : Arguments} {bg : List Stmt} {sg : Scope} {dV kV doc pm cdv ct oc : Value} {an od : Option Addr} {osl : Array (Option Value)} {Ng : List Str}
    {p py pos : Pos} (hTT : ∀ tl H Q, TT tl H Q = tl (EK Q) H (VQ Q)) (hof : ∀ β H r Q, Out X.K P β H (hR r) Q E → Out X.K P β H r (VQ Q) (EK Q)) (hg : Gl (blkX X scb tb Hb Cc cl fp) x) (hm : X.mg x = some (.ref g)) (hk : PySem.W.keepIn X.K (.ref g) = true)
    (lk : X.K.lookup g = some ⟨oc, od, .func (PySem.W.fnOf x x pg bg sg dV kV doc pm an cdv ct), osl⟩) (hcg : PySem.W.codeIn X.K cdv x = true) (hb : L2.Binds X.K (PySem.W.fnOf x x pg bg sg dV kV doc pm an cdv ct) [a] []) (Sg : FnScope Ng [a] sg) (hNg : Ng[0]? = some a) (hva : Vis sg a)
    (hG : LamX.GivesTo X Ng x sg g cdv bg a (X.env.qual ++ "<lambda>") TT) (hr : Room (k + 2) X.A) (h : ED (blkX X scb tb Hb Cc cl fp) P E (.Name y py) F) (hl : LamKnown X P k B)
    (hdb : (x == ("__debug__" : Str)) = false := by decide) (hd : (a == ("__debug__" : Str)) = false := by decide) (hcd : (a == ("__classdict__" : Str)) = false := by decide) :
    PE (blkX X scb tb Hb Cc cl fp) (.Call (.Name x p) [.Name y py] [] pos) (fun σ H Q => wipe σ is = wipe σ0 is ∧ tD X.K P E (fHeardVB hR is F B) σ H Q) := by
  refine ⟨fun pins s σ H Q I ⟨hw, β, δ, bx, ev, gd, o⟩ => ?_⟩
  refine wpAny_Call_Name_kw (ld_glob I hg hm ?_ hdb)
  refine PySem.W.callWith_K (h₀ := X.base) I.ok.mod.kin hk ?_ (by rfl) (by rfl)
  show wpAny _ _ (spliced ((false, eval (.Name y py) (blkX X scb tb Hb Cc cl fp).env) :: backTo pos (starEach [] (blkX X scb tb Hb Cc cl fp).env))) _ _ s
  refine Calls.spliced_cons (thn (h.run pins s σ H _ I (lam_arg (G := fun n δ bx => B n (unset is δ) bx) ev gd o)) fun u s1 hu => ?_)
  obtain ⟨v, H1, I1, rv, f, n, β1, bx1, rfl, hlm, ev1, g1, o1⟩ := hu
  have eu : u = Value.ref f := rv
  subst eu
  obtain ⟨c', params, body, scope, hf, hc, L, bd, hB⟩ := hl n f H1 hlm
  have IX := out _ _ _ _ I1
  have ev2 : Ev X.K β1 H1 σ0 (unset is δ) := Ev.unwipe (is := is) (by rw [← hw]; exact ev1.unset is)
  refine Calls.spliced_nil ⟨I1.kIn, ?_⟩
  have call_ : codeAny (model X.prog X.w) X.A (.call (.ref g) ⟨[.ref f], []⟩) (CR C8.CX0 X.stack X.prog X.w H1 s1 Q C8.E0) s1 := by
    refine LamX.run_ofS (vs := [.ref f]) (us := [.ref f]) (ps := [a]) (N := Ng) lk hcg Sg hr IX.env0 (hb s1 [.ref f] I1.kIn rfl) (.cons rfl .nil) rfl fun hr' => ?_
    have ⟨t', ht', hq'⟩ := hG f c' s1 H1 Q (fun E' H' Q' => H' f = some (LamH X.env.cells (X.env.qual ++ "<lambda>") params body scope f c') ∧ tD X.K P E' (B n) σ0 H' Q')
      (fun W pn xe E' p1 p2 tk hW => lam_act IX L bd tk hW hr' (fun A outer s H hr2 => hB A outer s H E' hr2) hNg hva hd hcd) hc (by
        rw [hTT]
        exact ⟨hf, β1, _, bx1, ev2, g1, hof _ _ _ _ o1⟩)
    exact ⟨t', ht'.nox, hq'⟩
  refine wpAny_call (codeAny_mono call_ fun r s2 hq => ?_)
  match r, hq with
  | .error e, hq => exact False.elim hq
  | .ok (.ret u), hq => exact I1.after hq
  | .ok .next, hq => exact False.elim hq
  | .ok .brk, hq => exact False.elim hq
  | .ok .cont, hq => exact False.elim hq
/-- held against data, in a comprehension's block -/
theorem et_cmpB {Y : Cx} {op : CmpOp} {r : R2} {f : Sto → D → D → Option D} {a b : Expr} {F G : Fn D} {pos : Pos} {Cn : L2.St → Prop} (ho : OpR Y (compareOp op) r) (hr : OpD Y P r f) (ha : PE Y a (fun σ H Q => Cn σ ∧ tD Y.K P E F σ H Q)) (hb : ED Y P E b G) (hm : behindInMarks op b = false) :
    PT Y (.Compare a [op] [b] pos) (fun σ H Q => Cn σ ∧ tDT Y.K P E (fB (f2 f F G)) σ H Q) :=
  pt_imp (pt_cmpR ho ha hb hm) fun σ H Q ⟨c, q⟩ => ⟨c, ed_tOp hr σ H _ (tB_of q)⟩
theorem et_neB {Y : Cx} {a b : Expr} {F G : Fn D} {pos : Pos} {Cn : L2.St → Prop} (hu : Y.A.units + 64 < cLine) (ha : PE Y a (fun σ H Q => Cn σ ∧ tD Y.K P E F σ H Q)) (hb : ED Y P E b G) : PT Y (.Compare a [.NotEq] [b] pos) (fun σ H Q => Cn σ ∧ tDT Y.K P E (fB (f2 cNeD F G)) σ H Q) :=
  et_cmpB (op_neD hu) opd_neD ha hb (nomark _)
theorem et_oneB {Y : Cx} {c : Expr} {C : Fn Bool} {Cn : L2.St → Prop} (h : PT Y c (fun σ H Q => Cn σ ∧ tDT Y.K P E C σ H Q)) : PTs Y [c] (fun σ H Q => Cn σ ∧ tDT Y.K P E C σ H Q) := pts_one h
theorem tLc_ofO {t : TG} {is : List Nat} {b : Bd} {Fi : Fn (List D)} {C : Fn Bool} (hgd : GD X.K t is b) : ∀ σ H Q, tD X.K P E (fLc is b Fi C F) σ H Q → tLc (tDL X.K P E Fi) t (fun σ2 H2 Q2 => wipe σ2 is = wipe σ is ∧ tDT X.K P E C σ2 H2 Q2) (tD X.K P E F) is σ H Q := by
  rintro σ H Q ⟨β, δ, bx, ev, g, o⟩
  refine lc_core_of hgd ev g ?_ fun _ _ _ w h => ⟨w, h⟩
  unfold fLc bnd at o
  cases hF : fLcA is b Fi C F δ bx with
  | bad => rw [hF] at o; exact o
  | err c d bx' => rw [hF] at o; exact o
  | ok ds bx' =>
    rw [hF] at o
    exact fun βi Hi l gi p xs _ hp np h ra => o (βi.back β.ex) (.ref p) Hi l.back (gi.back l.e1) (.lst ⟨.inl h, fun z => (gi.ex p hp).2 true z, np⟩ (ra.back l.e1))
/-- a comprehension whose test hears the frame's lambdas -/
theorem ed_lcO {t : TG} {b : Bd} {tg iter elt : Expr} {scope : Scope} {Fi : Fn (List D)} {C : Fn Bool} {ifs : List Expr} {own : List (Str × Nat)} {pos : Pos} (hc : X.calm = true) (hN : X.N.Nodup) (hi : EI X P E tg iter Fi) (ok : BlkOk X.N X.env.scope scope own) (hgd : GD X.K t (own.map (·.2)) b)
    (hg : ∀ (s : Shared) (H : Hp) (Cc : Addr) (cl : List (Str × Addr)) (fp : List Addr), PG (blkX X scope s H Cc cl fp) tg t)
    (ht : ∀ (pins : List (Addr × Obj)) (σ : L2.St) (s : Shared) (H : Hp) (Cc : Addr) (cl : List (Str × Addr)) (fp : List Addr), OutI X (blkX X scope s H Cc cl fp) pins σ → PTs (blkX X scope s H Cc cl fp) ifs (fun σ2 H2 Q2 => wipe σ2 (own.map (·.2)) = wipe σ (own.map (·.2)) ∧ tDT X.K P E C σ2 H2 Q2))
    (he : ∀ (s : Shared) (H : Hp) (Cc : Addr) (cl : List (Str × Addr)) (fp : List Addr), ED (blkX X scope s H Cc cl fp) P E elt F) (hs : ∀ x, foldedSetIterable iter X.env x = pure x := by intro _; rfl) :
    ED X P E (.ListComp elt [⟨tg, iter, ifs, 0⟩] scope pos) (fLc (own.map (·.2)) b Fi C F) :=
  pe_imp (pe_lcO (tt := fun σ σ2 H2 Q2 => wipe σ2 (own.map (·.2)) = wipe σ (own.map (·.2)) ∧ tDT X.K P E C σ2 H2 Q2) hc hN hi ok (fun pins σ s H Cc cl fp o => ⟨hg s H Cc cl fp, ht pins σ s H Cc cl fp o, he s H Cc cl fp⟩) hs) (tLc_ofO hgd)
end
end Ms
namespace Ms
open PySem PySem.Spec
/-! ### where a lambda stands in a text -/
inductive Nd where
  | s (x : Stmt) | e (x : Expr)
def kids : Nd → List Nd
  | .s (.Assign _ v _) => [.e v]
  | .s (.Expr v _) => [.e v]
  | .s (.Return (some v) _) => [.e v]
  | .s (.If t b o _) => .e t :: (b.map Nd.s ++ o.map Nd.s)
  | .s (.For _ t b o _) => .e t :: (b.map Nd.s ++ o.map Nd.s)
  | .s (.While t b o _) => .e t :: (b.map Nd.s ++ o.map Nd.s)
  | .e (.Call f as _ _) => .e f :: as.map Nd.e
  | .e (.List es _) => es.map Nd.e
  | .e (.Tuple es _ _) => es.map Nd.e
  | .e (.Compare a _ bs _) => .e a :: bs.map Nd.e
  | .e (.BoolOp _ vs _) => vs.map Nd.e
  | .e (.UnaryOp _ v _) => [.e v]
  | _ => []
def lamAt : List Nat → Nd → LamI
  | [], .e (.Lambda p b s _) => ⟨p, b, s⟩
  | i :: r, n => match (kids n)[i]? with
    | some k => lamAt r k
    | none => ⟨⟨[], [], none, [], [], none, []⟩, .Constant .none 0 ⟨0, 0, 0, 0⟩, ⟨.function, [], false, false, default⟩⟩
  | _, _ => ⟨⟨[], [], none, [], [], none, []⟩, .Constant .none 0 ⟨0, 0, 0, 0⟩, ⟨.function, [], false, false, default⟩⟩
def lamIn (ss : List Stmt) : List Nat → LamI
  | i :: r => match ss[i]? with
    | some x => lamAt r (.s x)
    | none => lamAt [] (.s (.Pass ⟨0, 0, 0, 0⟩))
  | [] => lamAt [] (.s (.Pass ⟨0, 0, 0, 0⟩))
end Ms

end
section
set_option Elab.async false
set_option linter.all false
set_option maxRecDepth 100000
set_option maxHeartbeats 4000000
namespace Ms
open PySem PySem.Spec PyProof.Rows L2
/-! ### what a mirror comes to, by what is wanted of it -/
def W {α : Type} (r : Res α) (Q : α → Sto → Prop) (E : Str → D → Sto → Prop) : Prop := match r with
  | .ok a bx => Q a bx
  | .err c d bx => E c d bx
  | .bad => False
def WS (r : Rs) (N : List (Option D) → Sto → Prop) (R : D → Sto → Prop) (E : Str → D → Sto → Prop) : Prop := match r with
  | .nx δ bx => N δ bx
  | .rt d bx => R d bx
  | .er c d bx => E c d bx
  | .bad => False
abbrev NoE : Str → D → Sto → Prop := fun _ _ _ => False
section
variable {α γ : Type} {δ : List (Option D)} {bx : Sto} {Q : α → Sto → Prop} {E : Str → D → Sto → Prop} {N : List (Option D) → Sto → Prop} {Rt : D → Sto → Prop}
theorem W.imp {r : Res α} {Q' : α → Sto → Prop} {E' : Str → D → Sto → Prop} (h : W r Q E) (k : ∀ a bx, Q a bx → Q' a bx) (e : ∀ c d bx, E c d bx → E' c d bx) : W r Q' E' := by
  cases r with
  | ok a bx => exact k _ _ h
  | err c d bx => exact e _ _ _ h
  | bad => exact h
theorem W.to {r : Res α} {Q' : α → Sto → Prop} {E' : Str → D → Sto → Prop} (h : W r Q NoE) (k : ∀ a bx, Q a bx → Q' a bx) : W r Q' E' := h.imp k fun _ _ _ z => z.elim
theorem WS.imp {r : Rs} {N' : List (Option D) → Sto → Prop} {R' : D → Sto → Prop} {E' : Str → D → Sto → Prop} (h : WS r N Rt E) (n : ∀ δ bx, N δ bx → N' δ bx) (k : ∀ a bx, Rt a bx → R' a bx) (e : ∀ c d bx, E c d bx → E' c d bx) : WS r N' R' E' := by
  cases r with
  | nx δ bx => exact n _ _ h
  | rt a bx => exact k _ _ h
  | er c d bx => exact e _ _ _ h
  | bad => exact h
theorem W.ok_iff {r : Res α} : (∃ a bx, r = .ok a bx ∧ Q a bx) ↔ W r Q NoE := by
  cases r with
  | ok a bx => exact ⟨fun ⟨_, _, e, h⟩ => by cases e; exact h, fun h => ⟨a, bx, rfl, h⟩⟩
  | err c d bx => exact ⟨fun ⟨_, _, e, _⟩ => (nomatch e), fun h => h.elim⟩
  | bad => exact ⟨fun ⟨_, _, e, _⟩ => (nomatch e), fun h => h.elim⟩
theorem W_ok {a : α} : W (.ok a bx) Q E ↔ Q a bx := Iff.rfl
theorem W_err {c : Str} {d : D} : W (.err c d bx : Res α) Q E ↔ E c d bx := Iff.rfl
theorem W_bad : W (.bad : Res α) Q E ↔ False := Iff.rfl
theorem W_pur {a : α} : W (pur a δ bx) Q E ↔ Q a bx := Iff.rfl
theorem W_bnd {F : Fn γ} {G : γ → Fn α} : W (bnd F G δ bx) Q E ↔ W (F δ bx) (fun a bx' => W (G a δ bx') Q E) E := by
  unfold bnd
  cases F δ bx <;> rfl
theorem W_lft {o : Option α} : W (lft o δ bx) Q E ↔ ∃ a, o = some a ∧ Q a bx := by
  cases o with
  | none => exact ⟨fun h => h.elim, fun ⟨_, e, _⟩ => (nomatch e)⟩
  | some a => exact ⟨fun h => ⟨a, rfl, h⟩, fun ⟨_, e, h⟩ => by cases e; exact h⟩
theorem WS_of {F : Fn α} {k : α → Sn} : WS (sOf F k δ bx) N Rt E ↔ W (F δ bx) (fun a bx' => WS (k a δ bx') N Rt E) E := by
  unfold sOf
  cases F δ bx <;> rfl
theorem WS_seq {S T : Sn} : WS (sSeq S T δ bx) N Rt E ↔ WS (S δ bx) (fun δ' bx' => WS (T δ' bx') N Rt E) Rt E := by
  unfold sSeq
  cases S δ bx <;> rfl
theorem WS_next : WS (sNext δ bx) N Rt E ↔ N δ bx := Iff.rfl
theorem WS_set {i : Nat} {F : Fn D} : WS (sSet i F δ bx) N Rt E ↔ W (F δ bx) (fun d bx' => N (δ.set i (some d)) bx') E := WS_of
theorem WS_ret {F : Fn D} : WS (sRet F δ bx) N Rt E ↔ W (F δ bx) Rt E := WS_of
theorem WS_drop {F : Fn D} : WS (sDrop F δ bx) N Rt E ↔ W (F δ bx) (fun _ bx' => N δ bx') E := WS_of
theorem WS_raise {c : Str} {F : Fn D} : WS (sRaise c F δ bx) N Rt E ↔ W (F δ bx) (fun d bx' => E c d bx') E := WS_of
theorem WS_if {C : Fn Bool} {S T : Sn} : WS (sIf C S T δ bx) N Rt E ↔ W (C δ bx) (fun c bx' => WS ((if c = true then S else T) δ bx') N Rt E) E := WS_of
theorem W_fnD {N : List Str} {S : Sn} {ds : List D} {Q : D → Sto → Prop} : W (fnD N S ds bx) Q E ↔ WS (S (ds.map some ++ List.replicate (N.length - ds.length) none) bx) (fun _ bx' => Q .non bx') Q E := by
  unfold fnD
  cases S (ds.map some ++ List.replicate (N.length - ds.length) none) bx <;> rfl
theorem W_noErr {r : Res D} {Q : D → Sto → Prop} : W (noErr r) Q E ↔ W r Q NoE := by
  cases r <;> rfl
theorem W_call {m : List D → Sto → Res D} {A : Fn (List D)} {Q : D → Sto → Prop} : W (fCall m A δ bx) Q E ↔ W (A δ bx) (fun ds bx' => W (m ds bx') Q E) E := W_bnd
theorem W_callK {m : List D → Sto → Res D} {π : List Nat} {A : Fn (List D)} {Q : D → Sto → Prop} : W (fCallK m π A δ bx) Q E ↔ W (A δ bx) (fun ds bx' => W (m (pick .non π ds) bx') Q E) E := W_bnd
theorem W_cons {F : Fn D} {A : Fn (List D)} {Q : List D → Sto → Prop} : W (fCons F A δ bx) Q E ↔ W (F δ bx) (fun d bx' => W (A δ bx') (fun ds bx'' => Q (d :: ds) bx'') E) E := by
  unfold fCons
  rw [W_bnd]
  refine iff_of_eq (congrArg (fun k => W (F δ bx) k E) (funext fun d => funext fun bx' => propext ?_))
  rw [W_bnd]
  rfl
theorem W_f1 {f : Sto → D → Option D} {F : Fn D} {Q : D → Sto → Prop} : W (f1 f F δ bx) Q E ↔ W (F δ bx) (fun d bx' => ∃ z, f bx' d = some z ∧ Q z bx') E := by
  unfold f1
  rw [W_bnd]
  exact iff_of_eq (congrArg (fun k => W (F δ bx) k E) (funext fun d => funext fun bx' => propext W_lft))
theorem W_fA {f : Sto → List D → Option D} {A : Fn (List D)} {Q : D → Sto → Prop} : W (fA f A δ bx) Q E ↔ W (A δ bx) (fun ds bx' => ∃ z, f bx' ds = some z ∧ Q z bx') E := by
  unfold fA
  rw [W_bnd]
  exact iff_of_eq (congrArg (fun k => W (A δ bx) k E) (funext fun d => funext fun bx' => propext W_lft))
theorem W_f2 {f : Sto → D → D → Option D} {F G : Fn D} {Q : D → Sto → Prop} : W (f2 f F G δ bx) Q E ↔ W (F δ bx) (fun d bx' => W (G δ bx') (fun e bx'' => ∃ z, f bx'' d e = some z ∧ Q z bx'') E) E := by
  unfold f2
  rw [W_bnd]
  refine iff_of_eq (congrArg (fun k => W (F δ bx) k E) (funext fun d => funext fun bx' => propext ?_))
  rw [W_bnd]
  exact iff_of_eq (congrArg (fun k => W (G δ bx') k E) (funext fun d => funext fun bx' => propext W_lft))
theorem W_B {F : Fn D} {Q : Bool → Sto → Prop} : W (fB F δ bx) Q E ↔ W (F δ bx) (fun d bx' => ∃ b, toB d = some b ∧ Q b bx') E := by
  unfold fB
  rw [W_bnd]
  exact iff_of_eq (congrArg (fun k => W (F δ bx) k E) (funext fun d => funext fun bx' => propext W_lft))
theorem W_ifT {C : Fn Bool} {A B : Fn α} : W (fIfT C A B δ bx) Q E ↔ W (C δ bx) (fun c bx' => W ((if c = true then A else B) δ bx') Q E) E := W_bnd
theorem W_ifB {F : Fn D} {A B : Fn α} : W (fIfB F A B δ bx) Q E ↔ W (F δ bx) (fun d bx' => ∃ b, toB d = some b ∧ W ((if b = true then A else B) δ bx') Q E) E := by
  unfold fIfB
  rw [W_bnd]
  refine iff_of_eq (congrArg (fun k => W (F δ bx) k E) (funext fun d => funext fun bx' => propext ?_))
  cases h : toB d with
  | none => exact ⟨fun h => h.elim, fun ⟨_, e, _⟩ => (nomatch e)⟩
  | some b =>
    cases b
    · exact ⟨fun h => ⟨false, rfl, h⟩, fun ⟨_, e, h⟩ => by cases e; exact h⟩
    · exact ⟨fun h => ⟨true, rfl, h⟩, fun ⟨_, e, h⟩ => by cases e; exact h⟩
theorem W_not {A : Fn Bool} {Q : Bool → Sto → Prop} : W (fNot A δ bx) Q E ↔ W (A δ bx) (fun c bx' => Q (!c) bx') E := W_bnd
theorem WS_unp {is : List Nat} {F : Fn D} : WS (sUnp is F δ bx) N Rt E ↔ W (F δ bx) (fun d bx' => ∃ δ', (vs bx' d).bind (fun l => setAll is l δ) = some δ' ∧ N δ' bx') E := by
  unfold sUnp
  rw [WS_of]
  refine iff_of_eq (congrArg (fun k => W (F δ bx) k E) (funext fun d => funext fun bx' => propext ?_))
  cases h : (vs bx' d).bind fun l => setAll is l δ with
  | none => exact ⟨fun h => h.elim, fun ⟨_, e, _⟩ => (nomatch e)⟩
  | some b => exact ⟨fun h => ⟨b, rfl, h⟩, fun ⟨_, e, h⟩ => by cases e; exact h⟩
theorem WS_par {i j : Nat} {A : Fn (List D)} : WS (sPar i j A δ bx) N Rt E ↔ W (A δ bx) (fun ds bx' => ∃ d e, ds = [d, e] ∧ N ((δ.set i (some d)).set j (some e)) bx') E := by
  unfold sPar
  rw [WS_of]
  refine iff_of_eq (congrArg (fun k => W (A δ bx) k E) (funext fun ds => funext fun bx' => propext ?_))
  match ds with
  | [d, e] => exact ⟨fun h => ⟨d, e, rfl, h⟩, fun ⟨_, _, e, h⟩ => by cases e; exact h⟩
  | [] => exact ⟨fun h => h.elim, fun ⟨_, _, e, _⟩ => (nomatch e)⟩
  | [_] => exact ⟨fun h => h.elim, fun ⟨_, _, e, _⟩ => (nomatch e)⟩
  | _ :: _ :: _ :: _ => exact ⟨fun h => h.elim, fun ⟨_, _, e, _⟩ => (nomatch e)⟩
theorem WS_for {b : Bd} {Fi : Fn (List D)} {S : Sn} : WS (sFor b Fi S δ bx) N Rt E ↔ W (Fi δ bx) (fun ds bx' => WS (forL b S ds δ bx') N Rt E) E := WS_of
theorem W_wk {F : Fn D} {Q : List D → Sto → Prop} : W (fWk F δ bx) Q E ↔ W (F δ bx) (fun d bx' => ∃ l, wlk d = some l ∧ Q l bx') E := by
  unfold fWk
  rw [W_bnd]
  exact iff_of_eq (congrArg (fun k => W (F δ bx) k E) (funext fun d => funext fun bx' => propext W_lft))
theorem W_po {F : Fn D} {Q : Option Int → Sto → Prop} : W (fPo F δ bx) Q E ↔ W (F δ bx) (fun d bx' => ∃ i, d = .int i ∧ Q (some i) bx') E := by
  unfold fPo
  rw [W_bnd]
  refine iff_of_eq (congrArg (fun k => W (F δ bx) k E) (funext fun d => funext fun bx' => propext ?_))
  cases d with
  | int i => exact ⟨fun h => ⟨i, rfl, h⟩, fun ⟨_, e, h⟩ => by cases e; exact h⟩
  | _ => exact ⟨fun h => h.elim, fun ⟨_, e, _⟩ => (nomatch e)⟩
theorem W_sl {F : Fn D} {A B : Fn (Option Int)} {Q : D → Sto → Prop} : W (fSl F A B δ bx) Q E ↔ W (F δ bx) (fun d bx1 => W (A δ bx1) (fun lo bx2 => W (B δ bx2) (fun hi bx3 => ∃ z, cSl bx3 d lo hi = some z ∧ Q z bx3) E) E) E := by
  unfold fSl
  rw [W_bnd]
  refine iff_of_eq (congrArg (fun k => W (F δ bx) k E) (funext fun d => funext fun bx' => propext ?_))
  rw [W_bnd]
  refine iff_of_eq (congrArg (fun k => W (A δ bx') k E) (funext fun d => funext fun bx' => propext ?_))
  rw [W_bnd]
  exact iff_of_eq (congrArg (fun k => W (B δ bx') k E) (funext fun d => funext fun bx' => propext W_lft))
theorem W_poN {Q : Option Int → Sto → Prop} : W (fPoN δ bx) Q E ↔ Q none bx := Iff.rfl
theorem W_chain {p q : Int → Int → Bool} {F G J : Fn D} {Q : D → Sto → Prop} : W (fChain p q F G J δ bx) Q E ↔ W (F δ bx) (fun d bx1 => W (G δ bx1) (fun e bx2 => ∃ i j, d = .int i ∧ e = .int j ∧ (if p i j = true then W (J δ bx2) (fun z bx3 => ∃ k, z = .int k ∧ Q (.bl (q j k)) bx3) E else Q (.bl false) bx2)) E) E := by
  unfold fChain
  rw [W_bnd]
  refine iff_of_eq (congrArg (fun k => W (F δ bx) k E) (funext fun d => funext fun bx1 => propext ?_))
  rw [W_bnd]
  refine iff_of_eq (congrArg (fun k => W (G δ bx1) k E) (funext fun e => funext fun bx2 => propext ?_))
  cases d with
  | int i =>
    cases e with
    | int j =>
      cases hp : p i j with
      | true =>
        simp only [iB, hp]
        rw [W_bnd]
        have : (∃ i_1 j_1, D.int i = D.int i_1 ∧ D.int j = D.int j_1 ∧ if p i_1 j_1 = true then W (J δ bx2) (fun z bx3 => ∃ k, z = .int k ∧ Q (.bl (q j_1 k)) bx3) E else Q (.bl false) bx2) ↔ W (J δ bx2) (fun z bx3 => ∃ k, z = .int k ∧ Q (.bl (q j k)) bx3) E := by
          refine ⟨fun ⟨i1, j1, e1, e2, h⟩ => ?_, fun h => ⟨i, j, rfl, rfl, ?_⟩⟩
          · cases e1
            cases e2
            rw [if_pos hp] at h
            exact h
          · rw [if_pos hp]
            exact h
        rw [this]
        refine iff_of_eq (congrArg (fun k => W (J δ bx2) k E) (funext fun z => funext fun bx3 => propext ?_))
        rw [W_lft]
        cases z with
        | int k => exact ⟨fun ⟨_, e, h⟩ => by cases e; exact ⟨k, rfl, h⟩, fun ⟨_, e, h⟩ => by cases e; exact ⟨_, rfl, h⟩⟩
        | _ => exact ⟨fun ⟨_, e, _⟩ => (nomatch e), fun ⟨_, e, _⟩ => (nomatch e)⟩
      | false =>
        simp only [iB, hp]
        refine ⟨fun h => ⟨i, j, rfl, rfl, ?_⟩, fun ⟨i1, j1, e1, e2, h⟩ => ?_⟩
        · rw [hp]
          exact h
        · cases e1
          cases e2
          rw [hp] at h
          exact h
    | _ => exact ⟨fun h => h.elim, fun ⟨_, _, _, e, _⟩ => (nomatch e)⟩
  | _ => cases e <;> exact ⟨fun h => h.elim, fun ⟨_, _, e, _⟩ => (nomatch e)⟩
theorem W_new {A : Fn (List D)} {Q : D → Sto → Prop} : W (fNew A δ bx) Q E ↔ W (A δ bx) (fun ds bx' => ds.length ≤ 1000000 ∧ Q (.ref bx'.length) (bx' ++ [.lst ds])) E := by
  unfold fNew
  rw [W_bnd]
  refine iff_of_eq (congrArg (fun k => W (A δ bx) k E) (funext fun ds => funext fun bx' => propext ?_))
  by_cases h : ds.length ≤ 1000000
  · rw [if_pos h]
    exact ⟨fun q => ⟨h, q⟩, fun q => q.2⟩
  · rw [if_neg h]
    exact ⟨fun q => q.elim, fun q => h q.1⟩
theorem W_newOf {F : Fn D} {Q : D → Sto → Prop} : W (fNewOf F δ bx) Q E ↔ W (F δ bx) (fun d bx' => ∃ l, vs bx' d = some l ∧ Q (.ref bx'.length) (bx' ++ [.lst l])) E := by
  unfold fNewOf
  rw [W_bnd]
  refine iff_of_eq (congrArg (fun k => W (F δ bx) k E) (funext fun d => funext fun bx' => propext ?_))
  cases h : vs bx' d with
  | none => exact ⟨fun h => h.elim, fun ⟨_, e, _⟩ => (nomatch e)⟩
  | some b => exact ⟨fun h => ⟨b, rfl, h⟩, fun ⟨_, e, h⟩ => by cases e; exact h⟩
theorem WS_put {F G J : Fn D} : WS (sPut F G J δ bx) N Rt E ↔ W (F δ bx) (fun e bx1 => W (G δ bx1) (fun d bx2 => W (J δ bx2) (fun i bx3 => ∃ k n l j, d = .ref k ∧ i = .int n ∧ bx3[k]? = some (.lst l) ∧ ixN l.length n = some j ∧ N δ (bx3.set k (.lst (l.set j e)))) E) E) E := by
  unfold sPut
  rw [WS_of]
  refine iff_of_eq (congrArg (fun k => W (F δ bx) k E) (funext fun e => funext fun bx1 => propext ?_))
  rw [WS_of]
  refine iff_of_eq (congrArg (fun k => W (G δ bx1) k E) (funext fun d => funext fun bx2 => propext ?_))
  rw [WS_of]
  refine iff_of_eq (congrArg (fun k => W (J δ bx2) k E) (funext fun i => funext fun bx3 => propext ?_))
  constructor
  · intro h
    split at h
    · split at h
      · split at h
        · exact ⟨_, _, _, _, rfl, rfl, by assumption, by assumption, h⟩
        · exact h.elim
      · exact h.elim
    · exact h.elim
  · rintro ⟨k, n, l, j, rfl, rfl, h1, h2, h3⟩
    simp only [h1, h2]
    exact h3
theorem WS_frz {i : Nat} : WS (sFrz i δ bx) N Rt E ↔ ∃ k l, δ[i]? = some (some (.ref k)) ∧ bx[k]? = some (.lst l) ∧ N (δ.set i (some (.lst l))) (bx.set k .dead) := by
  unfold sFrz
  constructor
  · intro h
    split at h
    · split at h
      · exact ⟨_, _, by assumption, by assumption, h⟩
      · exact h.elim
    · exact h.elim
  · rintro ⟨k, l, h1, h2, h3⟩
    simp only [h1, h2]
    exact h3
theorem WS_app {F G : Fn D} : WS (sApp F G δ bx) N Rt E ↔ W (F δ bx) (fun d bx1 => ∃ k l0, d = .ref k ∧ bx1[k]? = some (.lst l0) ∧ W (G δ bx1) (fun e bx2 => ∃ l, bx2[k]? = some (.lst l) ∧ l.length < 1000000 ∧ N δ (bx2.set k (.lst (l ++ [e])))) E) E := by
  unfold sApp
  rw [WS_of]
  refine iff_of_eq (congrArg (fun k => W (F δ bx) k E) (funext fun d => funext fun bx1 => propext ?_))
  have key : ∀ k, WS (sOf G (appK k) δ bx1) N Rt E ↔ W (G δ bx1) (fun e bx2 => ∃ l, bx2[k]? = some (.lst l) ∧ l.length < 1000000 ∧ N δ (bx2.set k (.lst (l ++ [e])))) E := fun k => by
    rw [WS_of]
    refine iff_of_eq (congrArg (fun k => W (G δ bx1) k E) (funext fun e => funext fun bx2 => propext ?_))
    unfold appK
    constructor
    · intro h
      split at h
      · split at h
        · exact ⟨_, by assumption, by assumption, h⟩
        · exact h.elim
      · exact h.elim
    · rintro ⟨l, h1, h2, h3⟩
      simp only [h1, h2, if_true]
      exact h3
  constructor
  · intro h
    split at h
    · split at h
      · exact ⟨_, _, rfl, by assumption, (key _).mp h⟩
      · exact h.elim
    · exact h.elim
  · rintro ⟨k, l0, rfl, h1, h2⟩
    simp only [h1]
    exact (key _).mpr h2
/-! ### loops -/
theorem for_rule {b : Bd} {S : Sn} {ds : List D} (I : Nat → List (Option D) → Sto → Prop) (h0 : I 0 δ bx) (hd : ∀ δ bx, I ds.length δ bx → N δ bx)
    (step : ∀ i d δ bx, ds[i]? = some d → I i δ bx → ∃ δ1, b bx δ d = some δ1 ∧ WS (S δ1 bx) (I (i + 1)) Rt E) : WS (forL b S ds δ bx) N Rt E := by
  induction ds generalizing δ bx I with
  | nil => exact hd _ _ h0
  | cons d r ih =>
    obtain ⟨δ1, e, h⟩ := step 0 d δ bx rfl h0
    simp only [forL, e]
    cases hS : S δ1 bx with
    | nx δ' bx' =>
      rw [hS] at h
      exact ih (fun i => I (i + 1)) h hd fun i d' δ bx hi hI => step (i + 1) d' δ bx hi hI
    | rt d' bx' => rw [hS] at h; exact h
    | er c d' bx' => rw [hS] at h; exact h
    | bad => rw [hS] at h; exact h
theorem lc_rule {b : Bd} {C : Fn Bool} {F : Fn D} {ds acc : List D} {Q : List D → Sto → Prop} (I : Nat → List D → Sto → Prop) (h0 : I 0 acc bx) (hd : ∀ acc bx, I ds.length acc bx → Q acc bx)
    (step : ∀ i d acc bx, ds[i]? = some d → I i acc bx → ∃ δ1, b bx δ d = some δ1 ∧ W (C δ1 bx) (fun c bx1 => if c = true then W (F δ1 bx1) (fun y bx2 => I (i + 1) (acc ++ [y]) bx2) NoE else I (i + 1) acc bx1) NoE) : W (lcGo b δ C F ds bx acc) Q E := by
  induction ds generalizing acc bx I with
  | nil => exact hd _ _ h0
  | cons d r ih =>
    obtain ⟨δ1, e, h⟩ := step 0 d acc bx rfl h0
    simp only [lcGo, e]
    cases hC : C δ1 bx with
    | bad => rw [hC] at h; exact h.elim
    | err _ _ _ => rw [hC] at h; exact h.elim
    | ok c bx1 =>
      rw [hC] at h
      replace h : if c = true then W (F δ1 bx1) (fun y bx2 => I 1 (acc ++ [y]) bx2) NoE else I 1 acc bx1 := h
      cases c with
      | false => exact ih (fun i => I (i + 1)) (by simpa using h) hd fun i d' acc bx hi hI => step (i + 1) d' acc bx hi hI
      | true =>
        rw [if_pos rfl] at h
        dsimp only
        cases hF : F δ1 bx1 with
        | bad => rw [hF] at h; exact h.elim
        | err _ _ _ => rw [hF] at h; exact h.elim
        | ok y bx2 =>
          rw [hF] at h
          exact ih (fun i => I (i + 1)) h hd fun i d' acc bx hi hI => step (i + 1) d' acc bx hi hI
/-- a comprehension that draws nothing -/
theorem lc_pure {b : Bd} {C : Fn Bool} {F : Fn D} {c : D → Bool} {f : D → D} : ∀ {ds acc : List D}, (∀ d ∈ ds, ∃ δ1, b bx δ d = some δ1 ∧ C δ1 bx = .ok (c d) bx ∧ (c d = true → F δ1 bx = .ok (f d) bx)) → lcGo b δ C F ds bx acc = .ok (acc ++ (ds.filter c).map f) bx
  | [], acc, _ => by simp [lcGo]
  | d :: r, acc, h => by
    obtain ⟨δ1, e, h1, h2⟩ := h d List.mem_cons_self
    have ih := fun acc => lc_pure (ds := r) (acc := acc) fun d hd => h d (List.mem_cons_of_mem _ hd)
    simp only [lcGo, e, h1]
    cases hc : c d with
    | true =>
      simp only [h2 hc]
      rw [ih, List.filter_cons_of_pos hc, List.map_cons, List.append_assoc]
      rfl
    | false =>
      simp only []
      rw [ih, List.filter_cons_of_neg (by simp [hc])]
theorem all_pure {b : Bd} {F : Fn D} {p : D → Bool} : ∀ {ds : List D}, (∀ d ∈ ds, ∃ δ1, b bx δ d = some δ1 ∧ F δ1 bx = .ok (.bl (p d)) bx) → allGo b δ F ds bx = .ok (.bl (ds.all p)) bx
  | [], _ => by simp [allGo]
  | d :: r, h => by
    obtain ⟨δ1, e, h1⟩ := h d List.mem_cons_self
    have ih := all_pure (ds := r) fun d hd => h d (List.mem_cons_of_mem _ hd)
    simp only [allGo, e, h1]
    cases hc : p d with
    | true => simp only []; rw [ih, List.all_cons, hc, Bool.true_and]
    | false => simp only []; rw [List.all_cons, hc, Bool.false_and]
end
end Ms

end
section
set_option Elab.async false
set_option linter.all false
set_option maxRecDepth 100000
set_option maxHeartbeats 4000000
/-! while, name += e, max(.., default=..), data in data, tuples repeated, {}.get(..) -/
namespace Ms
open PySem PySem.Spec PyProof.Rows L2
/-! ### while: so many turns at most -/
def whL (C : Fn Bool) (S : Sn) : Nat → Sn
  | 0 => fun _ _ => .bad
  | n + 1 => fun δ bx => match C δ bx with
    | .ok c bx1 => if c = true then (match S δ bx1 with
        | .nx δ' bx' => whL C S n δ' bx'
        | .rt e bx' => .rt e bx'
        | .er c e bx' => .er c e bx'
        | .bad => .bad) else .nx δ bx1
    | .err c d bx1 => .er c d bx1
    | .bad => .bad
def sWh (C : Fn Bool) (S : Sn) : Sn := whL C S 100000
section
variable {X : Cx} {P : Pm} {E : XK} {pos : Pos}
theorem sd_while {c : Expr} {body : List Stmt} {C : Fn Bool} {S : Sn} (hp : PassesOwn (model X.prog X.w) X.A X.env X.xe) (hc : ET X P E c C) (hb : SSD X P E body S) : SD X P E (.While c body [] pos) (sWh C S) := by
  refine ps_imp (ps_while hp hc hb) ?_
  rintro Z σ H ⟨β, δ, bx, ev, g, o⟩
  refine ⟨fun m σ' H' => ∃ β' δ' bx', Le β H β' H' ∧ Ev X.K β' H' σ' δ' ∧ Good X.K P.T β' bx' H' ∧ OutS X.K P β' H' (whL C S m δ' bx') Z E, ⟨100000, β, δ, bx, .refl, ev, g, o⟩, ?_⟩
  rintro m σ' H' ⟨β', δ', bx', l, ev', g', o'⟩
  refine ⟨β', δ', bx', ev', g', ?_⟩
  cases m with
  | zero => exact (show False from o').elim
  | succ n =>
    simp only [whL] at o'
    cases hC : C δ' bx' with
    | bad => rw [hC] at o'; exact o'
    | err c d b => rw [hC] at o'; exact o'
    | ok c bx1 =>
      rw [hC] at o'
      dsimp only at o'
      intro β2 H2 l2 g2
      cases c with
      | false =>
        rw [if_neg (by decide)] at o' ⊢
        exact o' β2 σ' H2 l2 g2 (ev'.le l2)
      | true =>
        rw [if_pos rfl] at o' ⊢
        refine ⟨fun σ3 H3 => ∃ β3 δ3 bx3, Le β H β3 H3 ∧ Ev X.K β3 H3 σ3 δ3 ∧ Good X.K P.T β3 bx3 H3 ∧ OutS X.K P β3 H3 (whL C S n δ3 bx3) Z E, fun σ3 H3 h => ⟨n, Nat.lt_succ_self n, h⟩, β2, δ', bx1, ev'.le l2, g2, ?_⟩
        cases hS : S δ' bx1 with
        | nx δ2 bx2 =>
          rw [hS] at o'
          exact fun β3 σ3 H4 l3 g3 ev3 => ⟨β3, δ2, bx2, (l.trans l2).trans l3, ev3, g3, OutS.le (l2.trans l3) o'⟩
        | rt e b =>
          rw [hS] at o'
          exact fun β3 v H4 l3 g3 r => o' β3 v H4 (l2.trans l3) g3 r
        | er c e b =>
          rw [hS] at o'
          exact OutE.le l2 o'
        | bad =>
          rw [hS] at o'
          exact o'
end
theorem while_rule {C : Fn Bool} {S : Sn} {N : List (Option D) → Sto → Prop} {Rt : D → Sto → Prop} {E : Str → D → Sto → Prop} (I : Nat → List (Option D) → Sto → Prop)
    (step : ∀ n δ bx, I n δ bx → W (C δ bx) (fun c bx1 => if c = true then ∃ m, n = m + 1 ∧ WS (S δ bx1) (I m) Rt E else N δ bx1) E) : ∀ (n k : Nat), n < k → ∀ δ bx, I n δ bx → WS (whL C S k δ bx) N Rt E := by
  intro n
  induction n with
  | zero =>
    intro k hk δ bx h
    obtain ⟨j, rfl⟩ : ∃ j, k = j + 1 := ⟨k - 1, by omega⟩
    have s := step 0 δ bx h
    simp only [whL]
    cases hC : C δ bx with
    | bad => rw [hC] at s; exact s
    | err c d b => rw [hC] at s; exact s
    | ok c bx1 =>
      rw [hC] at s
      replace s : if c = true then ∃ m, 0 = m + 1 ∧ WS (S δ bx1) (I m) Rt E else N δ bx1 := s
      cases c with
      | false => exact s
      | true =>
        rw [if_pos rfl] at s
        obtain ⟨m, e, _⟩ := s
        omega
  | succ n ih =>
    intro k hk δ bx h
    obtain ⟨j, rfl⟩ : ∃ j, k = j + 1 := ⟨k - 1, by omega⟩
    have s := step (n + 1) δ bx h
    simp only [whL]
    cases hC : C δ bx with
    | bad => rw [hC] at s; exact s
    | err c d b => rw [hC] at s; exact s
    | ok c bx1 =>
      rw [hC] at s
      replace s : if c = true then ∃ m, n + 1 = m + 1 ∧ WS (S δ bx1) (I m) Rt E else N δ bx1 := s
      cases c with
      | false => exact s
      | true =>
        rw [if_pos rfl] at s
        obtain ⟨m, e, s⟩ := s
        have e' : n = m := by omega
        subst e'
        dsimp only
        rw [if_pos rfl]
        cases hS : S δ bx1 with
        | nx δ2 bx2 =>
          rw [hS] at s
          exact ih j (by omega) δ2 bx2 s
        | rt e b => rw [hS] at s; exact s
        | er c e b => rw [hS] at s; exact s
        | bad => rw [hS] at s; exact s
theorem WS_wh {C : Fn Bool} {S : Sn} {δ : List (Option D)} {bx : Sto} {N : List (Option D) → Sto → Prop} {Rt : D → Sto → Prop} {E : Str → D → Sto → Prop} (I : Nat → List (Option D) → Sto → Prop) (n : Nat) (hn : n < 100000) (h0 : I n δ bx)
    (step : ∀ n δ bx, I n δ bx → W (C δ bx) (fun c bx1 => if c = true then ∃ m, n = m + 1 ∧ WS (S δ bx1) (I m) Rt E else N δ bx1) E) : WS (sWh C S δ bx) N Rt E := while_rule I step n _ hn δ bx h0
/-! ### name op= e, whole numbers -/
def sAug (i : Nat) (f : Int → Int → Int) (F : Fn D) : Sn := fun δ bx => match δ[i]? with
  | some (some (.int a)) => sOf F (fun d δ bx => match d with
      | .int b => .nx (δ.set i (some (.int (f a b)))) bx
      | _ => .bad) δ bx
  | _ => .bad
section
variable {X : Cx} {P : Pm} {E : XK} {pos : Pos}
theorem sd_aug {i : Nat} {x : Str} {e : Expr} {op : Operator} {f : Int → Int → Int} {F : Fn D} {pos' : Pos} (ho : PIp X op (ipI f)) (hN : X.N.Nodup) (hi : X.N[i]? = some x) (hx : Loc X.env.scope x) (he : ED X P E e F)
    (hf : X.fn x = true ∨ X.env.scope.names.lookup x = some .local := by first | exact .inl rfl | exact .inr rfl | assumption) : SD X P E (.AugAssign (.Name x pos') op e pos) (sAug i f F) := by
  refine ps_imp (ps_aug hN hi hx he ho hf) ?_
  rintro Z σ H ⟨β, δ, bx, ev, g, o⟩
  unfold sAug at o
  split at o
  · rename_i a hd
    obtain ⟨v, h1, r⟩ := ev.at_ i _ hd
    have := r.int_inv
    subst this
    refine ⟨.int a, h1, sd_bind ev g o fun β1 bx1 y d H1 l1 g1 r1 o1 => ?_⟩
    cases d with
    | int b =>
      have := r1.int_inv
      subst this
      exact ⟨a, b, rfl, rfl, o1 β1 _ H1 .refl g1 ((ev.le l1).set i (.int _))⟩
    | _ => exact (show False from o1).elim
  · exact (show False from o).elim
end
theorem WS_aug {i : Nat} {f : Int → Int → Int} {F : Fn D} {δ : List (Option D)} {bx : Sto} {N : List (Option D) → Sto → Prop} {Rt : D → Sto → Prop} {E : Str → D → Sto → Prop} : WS (sAug i f F δ bx) N Rt E ↔ ∃ a, δ[i]? = some (some (.int a)) ∧ W (F δ bx) (fun d bx' => ∃ b, d = .int b ∧ N (δ.set i (some (.int (f a b)))) bx') E := by
  unfold sAug
  constructor
  · intro h
    split at h
    · rename_i a ha
      refine ⟨a, ha, (WS_of.mp h).imp (fun d bx' q => ?_) fun _ _ _ q => q⟩
      cases d with
      | int b => exact ⟨b, rfl, q⟩
      | _ => exact (show False from q).elim
    · exact h.elim
  · rintro ⟨a, ha, h⟩
    simp only [ha]
    refine WS_of.mpr (h.imp (fun d bx' ⟨b, e, q⟩ => ?_) fun _ _ _ q => q)
    subst e
    exact q
/-! ### x in (a, b) -/
def inOk (d : D) : Bool := d.pure && SeqAt.shaped d.py && decide (d.py.depth ≤ 60)
def cInT (neg : Bool) (st : Sto) (d e : D) : Option D := match e with
  | .tup ds => if (inOk d && (D.tup ds).pure && SeqAt.shaped (D.tup ds).py) = true then some (.bl (if neg then !(ds.any fun z => PyData.eqv z.py d.py) else ds.any fun z => PyData.eqv z.py d.py)) else none
  | _ => none
theorem pyAll_any {q : PyData} : ∀ l : List D, (D.pyAll l).any (fun z => PyData.eqv z q) = l.any fun z => PyData.eqv z.py q
  | [] => rfl
  | d :: r => by simp only [D.pyAll, List.any_cons, pyAll_any r]
def rInT (K : PySem.W.Frag) (neg : Bool) : R2 := fun x y H Q => ∃ d ds, Dp K H x d ∧ Dp K H y (.tuple ds) ∧ SeqAt.shaped d = true ∧ d.depth ≤ 60 ∧ SeqAt.shaped (.tuple ds) = true ∧ Q (.bl (if neg then !(ds.any fun z => PyData.eqv z d) else ds.any fun z => PyData.eqv z d)) H
section
variable {X : Cx} {P : Pm} {E : XK} {pos : Pos} {a b : Expr} {F G : Fn D}
theorem op_inT (hu : X.A.units + 64 < cLine) : OpR X (compareOp .In) (rInT X.K false) := by
  intro pins s σ H x y v u Q I rx ry h
  obtain ⟨d, ds, hd, he, sd, dd, se, q⟩ := h
  obtain ⟨as, r1⟩ := Dp.reads I d x v hd rx
  obtain ⟨bs, r2⟩ := Dp.reads I (.tuple ds) y u he ry
  refine SeqAt.in_tuple_reads r2 r1 (SeqAt.canLay_of_shaped se) (SeqAt.canLay_of_shaped sd) ?_ ⟨.bl _, H, I, rfl, q⟩
  have := Nat.min_le_right (PyData.depthAll ds) d.depth
  omega
theorem op_notInT (hu : X.A.units + 64 < cLine) : OpR X (compareOp .NotIn) (rInT X.K true) := by
  intro pins s σ H x y v u Q I rx ry h
  obtain ⟨d, ds, hd, he, sd, dd, se, q⟩ := h
  obtain ⟨as, r1⟩ := Dp.reads I d x v hd rx
  obtain ⟨bs, r2⟩ := Dp.reads I (.tuple ds) y u he ry
  refine SeqAt.notIn_tuple_reads r2 r1 (SeqAt.canLay_of_shaped se) (SeqAt.canLay_of_shaped sd) ?_ ⟨.bl _, H, I, rfl, q⟩
  have := Nat.min_le_right (PyData.depthAll ds) d.depth
  omega
theorem opd_inT {neg : Bool} : OpD X P (rInT X.K neg) (cInT neg) := by
  intro β bx H x y d e z Q g rx ry h k
  unfold cInT at h
  split at h
  · rename_i ds
    split at h
    · rename_i hc
      cases h
      simp only [inOk, Bool.and_eq_true, decide_eq_true_eq] at hc
      refine ⟨d.py, D.pyAll ds, rx.dp hc.1.1.1.1, ry.dp hc.1.2, hc.1.1.1.2, hc.1.1.2, hc.2, ?_⟩
      rw [pyAll_any]
      exact k _ H .refl g (.bl _)
    · cases h
  · cases h
theorem ed_inT (hu : X.A.units + 64 < cLine) (ha : ED X P E a F) (hb : ED X P E b G) (hm : behindInMarks .In b = false := by rfl) : ED X P E (.Compare a [.In] [b] pos) (f2 (cInT false) F G) := ed_cmp (op_inT hu) opd_inT ha hb hm
end
/-! ### (a,) * n -/
def cRepT : Sto → D → D → Option D
  | _, .tup l, .int n => if l ≠ [] ∧ 2 ≤ n ∧ n ≤ 1000 ∧ l.length ≤ 1000 then some (.tup (List.replicate n.toNat l).flatten) else none
  | _, _, _ => none
theorem opd_repT {X : Cx} {P : Pm} : OpD X P (rRepT X.K) cRepT := by
  intro β bx H x y d e z Q g rx ry h k
  unfold cRepT at h
  split at h
  · rename_i l n
    split at h
    · rename_i hc
      cases h
      cases rx with
      | tup s ra =>
        have := ry.int_inv
        subst this
        refine ⟨_, n, _, rfl, rfl, s.sq, fun z => hc.1 (by
          subst z
          cases ra
          rfl), hc.2.1, hc.2.2.1, by rw [ra.length]; exact hc.2.2.2, fun p hp => k _ _ (.new hp) (g.new hp) (.tup ⟨.inl upd_same, g.ne hp⟩ ((RA.reps ra _).le (.new hp)))⟩
    · cases h
  · cases h
theorem ed_repT {X : Cx} {P : Pm} {E : XK} {pos : Pos} {a b : Expr} {F G : Fn D} (ha : ED X P E a F) (hb : ED X P E b G) : ED X P E (.BinOp a .Mult b pos) (f2 cRepT F G) := ed_bin op_repT opd_repT ha hb
/-! ### max(l, default=d) -/
def cMaxDf (st : Sto) (d e : D) : Option D := match (vl st d).bind toInts with
  | some (n :: r) => some (.int (r.foldl max n))
  | some [] => some e
  | none => none
theorem dp_ints {K : PySem.W.Frag} {H : Hp} : ∀ ns : List Int, DpAll K H (ns.map V.int) (ns.map PyData.int)
  | [] => .nil
  | n :: r => .cons (.int n) (dp_ints r)
theorem alike_ints (ns : List Int) : PySem.W.AlikeAll (ns.map PyData.int) := by
  refine ⟨fun x hx y hy => ?_, fun x hx => ?_⟩
  · obtain ⟨i, _, rfl⟩ := List.mem_map.mp hx
    obtain ⟨j, _, rfl⟩ := List.mem_map.mp hy
    rfl
  · obtain ⟨i, _, rfl⟩ := List.mem_map.mp hx
    exact fun z => by cases z
theorem pe_maxDf {X : Cx} {te td : TE} {e c : Expr} {p kp pos : Pos} (hu : X.A.units + 64 < cLine) (hg : Gl X "max") (hm : X.mg "max" = none) (hc : X.calm = true) (ha : PE X e te) (hd : PE X c td)
    (he : starEach [e] X.env = [(false, eval e X.env)] := by rfl) (hall : (backToKw pos (keywordEach [⟨some "default", c, kp⟩] X.env)).all (·.1.isSome) = true := by rfl)
    (hkw : (backToKw pos (keywordEach [⟨some "default", c, kp⟩] X.env)).any (·.1.isNone) = false := by rfl) (hplain : (backTo pos (starEach [e] X.env)).any (·.1) = false := by rfl) (hbt : backTo pos (starEach [e] X.env) = (false, eval e X.env) :: backTo pos (starEach [] X.env) := by rfl)
    (hfm : (backToKw pos (keywordEach [⟨some "default", c, kp⟩] X.env)).filterMap (·.1) = [("default" : Str)] := by rfl) :
    PE X (.Call (.Name "max" p) [e] [⟨some "default", c, kp⟩] pos) (fun σ H Q => te σ H fun x H1 => td σ H1 fun y H2 => ∃ (a : Addr) (ns : List Int), x = .ref a ∧ SqL X.K H2 a (ns.map V.int) ∧ (match ns with
      | n :: r => Q (.int (r.foldl max n)) H2
      | [] => Q y H2)) := by
  refine ⟨fun pins s σ H Q I h => ?_⟩
  refine wpAny_Call_Name_kw (ld_blt I hg hm b_max ?_ (by decide) (by decide))
  refine callWith_kw ?_ hbt hplain hall hkw
  rw [hbt]
  refine Calls.spliced_cons (thn (ha.run pins s σ H _ I h) fun u s1 ⟨x, H1, I1, rx, q1⟩ => Calls.spliced_nil ?_)
  refine kws_cons (thn (hd.run pins s1 σ H1 _ I1 q1) fun w s2 ⟨y, H2, I2, ry, a, ns, ex, hs, q2⟩ => kws_nil ?_)
  subst ex
  have eu : u = Value.ref a := rx
  subst eu
  rw [hfm]
  obtain ⟨its, rv, hl, _⟩ := I2.list hs
  obtain ⟨as, rs⟩ := Dp.readsAll I2 (ns.map PyData.int) _ its (dp_ints ns) rv
  refine PySem.W.max_list_default (vs := its.toArray) (xs := ns.map PyData.int) (I2.ok.hd hc) hl.isList rs (alike_ints ns) (by
    rw [PySem.W.ke_depthAll]
    omega) (fun e h' tk hk => ?_) fun z zs i v h' tk bs e hi r hk => ?_
  · have e' : ns = [] := List.map_eq_nil_iff.mp e
    subst e'
    exact ⟨y, H2, I2.kept hk, ry, q2⟩
  · cases ns with
    | nil => cases e
    | cons n t =>
      rw [List.map_cons] at e
      injection e with e1 e2
      subst e1 e2
      rw [PySem.W.maxD_ints] at r
      cases r
      exact ⟨.int _, H2, I2.kept hk, ⟨_, rfl⟩, q2⟩
theorem ed_maxDf {X : Cx} {P : Pm} {E : XK} {F G : Fn D} {e c : Expr} {p kp pos : Pos} (hu : X.A.units + 64 < cLine) (hc : X.calm = true) (hg : Gl X "max") (hm : X.mg "max" = none) (ha : ED X P E e F) (hd : ED X P E c G)
    (he : starEach [e] X.env = [(false, eval e X.env)] := by rfl) (hall : (backToKw pos (keywordEach [⟨some "default", c, kp⟩] X.env)).all (·.1.isSome) = true := by rfl)
    (hkw : (backToKw pos (keywordEach [⟨some "default", c, kp⟩] X.env)).any (·.1.isNone) = false := by rfl) (hplain : (backTo pos (starEach [e] X.env)).any (·.1) = false := by rfl) (hbt : backTo pos (starEach [e] X.env) = (false, eval e X.env) :: backTo pos (starEach [] X.env) := by rfl)
    (hfm : (backToKw pos (keywordEach [⟨some "default", c, kp⟩] X.env)).filterMap (·.1) = [("default" : Str)] := by rfl) : ED X P E (.Call (.Name "max" p) [e] [⟨some "default", c, kp⟩] pos) (f2 cMaxDf F G) := by
  refine pe_imp (pe_maxDf hu hg hm hc ha hd he hall hkw hplain hbt hfm) ?_
  rintro σ H Q ⟨β, δ, bx, ev, g, o⟩
  refine at_bind ev g o fun β1 bx1 x d H1 l1 g1 r1 o1 => at_bind (ev.le l1) g1 o1 fun β2 bx2 y e H2 l2 g2 r2 o2 => ?_
  cases hf : cMaxDf bx2 d e with
  | none =>
    rw [hf] at o2
    exact (show False from o2).elim
  | some z =>
    rw [hf] at o2
    unfold cMaxDf at hf
    cases hn : (vl bx2 d).bind toInts with
    | none => rw [hn] at hf; cases hf
    | some ns =>
      rw [hn] at hf
      obtain ⟨a, rfl, s⟩ := cd_ints g2 (r1.le l2) hn
      refine ⟨a, ns, rfl, s, ?_⟩
      cases ns with
      | nil =>
        cases hf
        exact o2 β2 y H2 .refl g2 r2
      | cons n t =>
        cases hf
        exact o2 β2 _ H2 .refl g2 (.int _)
/-! ### {}.get(k) -/
theorem ed_get0 {X : Cx} {P : Pm} {E : XK} {n : Int} {x : Nat} {kp dp apos cpos : Pos} (hu : X.A.units + 64 < cLine) (m : M1 X (.Dict [] [] dp) "get" apos (.Constant (.int n) x kp) cpos) : ED X P E (.Call (.Attribute (.Dict [] [] dp) "get" apos) [.Constant (.int n) x kp] [] cpos) (pur .non) := by
  refine pe_imp (pe_dget1 (by omega) pe_dnewK (pe_int (i := n)) m) ?_
  rintro σ H Q ⟨β, δ, bx, ev, g, o⟩
  intro p hp
  refine ⟨p, rfl, .inl ⟨[], .inl upd_same⟩, ?_⟩
  refine ⟨none, .inl ⟨[], .inl n, .inl upd_same, rfl, rfl⟩, ?_⟩
  exact o β _ _ (.new hp) (g.new hp) .non
end Ms

end
section
set_option Elab.async false
set_option linter.all false
set_option maxRecDepth 100000
set_option maxHeartbeats 4000000
/-! try: ask() except Refused as fault: return (repr(fault.at), isinstance(fault, WreckError)), and: return None -/
namespace Ms
open PySem PySem.Spec PyProof.Rows L2
def ERef (K : PySem.W.Frag) (CR : Addr) (Q : VK) : XK := fun cls d H' => cls = .ref CR ∧ ∃ dd v pd, d = some dd ∧ H' dd = some (.xd [(("at" : Str), v)]) ∧ Dp K H' v pd ∧ pd.showable = true ∧ pd.hasDict = false ∧ pd.depth ≤ 60 ∧ pd.shown.length ≤ sizeLine ∧
  ∀ p, H' p = none → Q (.ref p) (upd H' p (.tup [.str pd.shown, .bl true]))
def VRef (Q : VK) : VK := fun _ H' => Q .non H'
def TTRef (K : PySem.W.Frag) (CR : Addr) : (XK → Hp → VK → Prop) → Hp → VK → Prop := fun tl H Q => tl (ERef K CR Q) H (VRef Q)
def hResN : Res D → Res D
  | .ok _ bx => .ok .non bx
  | .err c d bx => if c = "Refused" then (if showOk d = true then .ok (.tup [.str d.py.shown, .bl true]) bx else .bad) else .bad
  | .bad => .bad
theorem refused_gives {X : Cx} {x q qn : Str} {sg : Scope} {g CR B fI : Addr} {cdg : Value} {k : Nat} {j1 k2 : Nat} {p1 p2 p3 p4 p5 p6 p7 p8 p9 q1 q2 q3 q4 q5 q6 q7 q8 q9 : Pos}
    (hga : X.A.guards = some []) (hr : Room (k + 2) X.A) (T : PySem.RefX.LowTxt "Refused" qn X.K X.mg CR fI) (hne : CR ≠ B) (hk : PySem.W.kitOne X.K (.ref CR) (.ref B) = some true) (gB : X.mg "WreckError" = some (.ref B)) (gr : X.mg "repr" = none) (gi : X.mg "isinstance" = none)
    (s1 : sg.names.lookup ("Refused" : Str) = some .globalImplicit) (s2 : sg.names.lookup ("repr" : Str) = some .globalImplicit) (s3 : sg.names.lookup ("isinstance" : Str) = some .globalImplicit) (s4 : sg.names.lookup ("WreckError" : Str) = some .globalImplicit) (s5 : sg.names.lookup ("fault" : Str) = some .local) :
    LamX.GivesTo X ["_law_ask", "fault"] x sg g cdg [.Try [.Expr (.Call (.Name "_law_ask" p1) [] [] p2) p4]
      [.ExceptHandler (some (.Name "Refused" p5)) (some "fault") [.Return (some (.Tuple [.Call (.Name "repr" p7) [.Attribute (.Name "fault" p8) "at" p9] [] q1, .Call (.Name "isinstance" q2) [.Name "fault" q3, .Name "WreckError" q4] [] q5] k2 q6)) q7] q8] [] [] q9, .Return (some (.Constant .none j1 p3)) p6] "_law_ask" q (TTRef X.K CR) := by
  intro f c' s H Q tl act hc h
  have hga' : (X.A.deeper (envOfC x sg s.heap.objs.size g cdg)).guards = some [] := hga
  have hr' : Room (k + 1) (X.A.deeper (envOfC x sg s.heap.objs.size g cdg)) := hr.deeper _
  refine ⟨_, pss_cons (ps_try_as (X := (cxOf C8.CX0 X.prog X.w X.K X.mg X.base ["_law_ask", "fault"] x sg g cdg X.A X.stack s H C8.E0).nox) (i := 1) (c := .ref CR) (Wout := fun _ _ _ _ => False)
      (tb := fun W D σ H => ∃ Ech : XK, (∀ cls d σ' H', Ech cls d H' → σ'.length = 2 → W cls d σ' H') ∧ σ[0]? = some (some (.ref f)) ∧ H c' = some (LamX.CodeO c' q) ∧ tl Ech H fun v H' => D.nx σ H')
      rfl rfl nd_heard rfl s5 ⟨s1, by decide, .inl T.gC⟩ LamX.takes0 (fun W pn xe tk _ => ?_) (fun a oe cls d pn hz hf => pss_one (ps_ret (pe_tup (pa_cons
        (pe_callB (show CallR (((cxOf C8.CX0 X.prog X.w X.K X.mg X.base ["_law_ask", "fault"] x sg g cdg X.A X.stack s H C8.E0).nox).suite a ((a, oe) :: pn)) (.builtin "repr") (rRepr X.K) from call_repr (X := ((cxOf C8.CX0 X.prog X.w X.K X.mg X.base ["_law_ask", "fault"] x sg g cdg X.A X.stack s H C8.E0).nox).suite a ((a, oe) :: pn)) hga' hr'.units) (by exact s2) (by exact gr) b_repr (pa_cons (pe_byLow (X := (cxOf C8.CX0 X.prog X.w X.K X.mg X.base ["_law_ask", "fault"] x sg g cdg X.A X.stack s H C8.E0).nox) T hz hf (pv 1 rfl (.inl s5))) pa_nil))
        (pa_cons (pe_callB (call_isX (X := (cxOf C8.CX0 X.prog X.w X.K X.mg X.base ["_law_ask", "fault"] x sg g cdg X.A X.stack s H C8.E0).nox) hz hf hne hk) (by exact s3) (by exact gi) b_isinstance (pa_cons (pv 1 rfl (.inl s5)) (pa_cons (pe_glob (v := .ref B) (by exact s4) (by exact gB) rfl) pa_nil))) pa_nil)))))) (pss_one (ps_ret pe_non)), ?_⟩
  · refine ⟨fun pins s' σ H' D I h' => ?_⟩
    obtain ⟨Ech, hW, h1, h2, h3⟩ := h'
    have hp := act _ pn xe Ech p1 p2 (takes_len tk) fun cls d σ' H' he hl => hW cls d σ' H' he hl
    exact (pss_one (ps_expr (pos := p4) hp)).run pins s' σ H' D I ⟨h1, h2, h3⟩
  · refine ⟨ERef X.K CR Q, fun cls d σ' H' ⟨e1, dd, v, pd, e2, e3, e4, e5, e6, e7, e8, e9⟩ hl => ⟨true, ?_, fun _ a ha => ?_, fun z => nomatch z⟩, rfl, hc, h⟩
    · rw [e1]
      exact T.te
    · rw [e1]
      have h1 : (σ'.set 1 (some (V.ref a)))[1]? = some (some (V.ref a)) := List.getElem?_set_self (by omega)
      refine ⟨.ref a, h1, rfl, rfl, dd, v, e2, e3, v, pd, rfl, e4, e5, e6, e7, e8, .ref a, h1, rfl, rfl, ⟨dd, _, e2, e3⟩, le1000 (by show 2 ≤ 1000; omega), e9⟩
theorem hresN_of {K : PySem.W.Frag} {P : Pm} {E : XK} {β : Mu} {H : Hp} {r : Res D} {Q : VK} (h : Out K P β H (hResN r) Q E) : Out K P β H r (VRef Q) (ERef K (P.CR "Refused") Q) := by
  cases r with
  | ok d bx' => exact fun β' v H' l' g' r => h β' .non H' l' g' .non
  | err c d bx' =>
    have o' : Out K P β H (if c = "Refused" then (if showOk d = true then .ok (.tup [.str d.py.shown, .bl true]) bx' else .bad) else .bad) Q E := h
    split at o'
    · rename_i hcn
      subst hcn
      split at o'
      · rename_i hs
        unfold showOk at hs
        simp only [Bool.and_eq_true, decide_eq_true_eq] at hs
        exact fun β' a v H' l' g' hx r => ⟨rfl, a, v, d.py, rfl, hx, r.dp hs.1.1.1, hs.1.1.2, d.noDict, hs.1.2, hs.2, fun p hp => o' _ _ _ (l'.trans (.new hp)) (g'.new hp) (.tup ⟨.inl upd_same, g'.ne hp⟩ (.cons (.str _) (.cons (.bl _) .nil)))⟩
      · exact o'.elim
    · exact o'.elim
  | bad => exact h.elim
/-! ### [x] * n, to grow or change -/
def fRepM (F G : Fn D) : Fn D := bnd F fun d => bnd G fun e => fun _ bx => match cRep bx d e with
  | some (.lst l) => .ok (.ref bx.length) (bx ++ [.lst l])
  | _ => .bad
theorem ed_repM {X : Cx} {P : Pm} {E : XK} {pos : Pos} {a b : Expr} {F G : Fn D} (ha : ED X P E a F) (hb : ED X P E b G) : ED X P E (.BinOp a .Mult b pos) (fRepM F G) := by
  refine pe_imp (pe_op op_rep ha hb) ?_
  rintro σ H Q ⟨β, δ, bx, ev, g, o⟩
  refine at_bind ev g o fun β1 bx1 x d H1 l1 g1 r1 o1 => at_bind (ev.le l1) g1 o1 fun β2 bx2 y e H2 l2 g2 r2 o2 => ?_
  have rx := r1.le l2
  split at o2
  · rename_i l hl
    unfold cRep at hl
    split at hl
    · rename_i kk n
      split at hl
      · rename_i m hm
        split at hl
        · rename_i hb
          cases hl
          obtain ⟨c, xs, rfl, hk, hH, ra⟩ := rx.live g2 hm
          refine ⟨c, n, xs, rfl, r2.int_inv, hH, hb.1, hb.2.1, by rw [ra.length]; exact leM hb.2.2, fun p hp => ?_⟩
          exact o2 _ _ _ (.cell hp) (g2.cell hp (ra.reps _)) (.cell g2.ln)
        · cases hl
      · cases hl
    · cases hl
  · exact (show False from o2).elim
theorem W_repM {F G : Fn D} {δ : List (Option D)} {bx : Sto} {Q : D → Sto → Prop} {E : Str → D → Sto → Prop} : W (fRepM F G δ bx) Q E ↔ W (F δ bx) (fun d bx' => W (G δ bx') (fun e bx'' => ∃ l, cRep bx'' d e = some (.lst l) ∧ Q (.ref bx''.length) (bx'' ++ [.lst l])) E) E := by
  unfold fRepM
  rw [W_bnd]
  refine iff_of_eq (congrArg (fun k => W (F δ bx) k E) (funext fun d => funext fun bx' => propext ?_))
  rw [W_bnd]
  refine iff_of_eq (congrArg (fun k => W (G δ bx') k E) (funext fun e => funext fun bx'' => propext ?_))
  constructor
  · intro h
    split at h
    · exact ⟨_, by assumption, h⟩
    · exact h.elim
  · rintro ⟨l, h1, h2⟩
    simp only [h1]
    exact h2
theorem et_inT {X : Cx} {P : Pm} {E : XK} {pos : Pos} {a b : Expr} {F G : Fn D} (hu : X.A.units + 64 < cLine) (ha : ED X P E a F) (hb : ED X P E b G) (hm : behindInMarks .In b = false := by rfl) : ET X P E (.Compare a [.In] [b] pos) (fB (f2 (cInT false) F G)) := et_cmp (op_inT hu) opd_inT ha hb hm
theorem b_str : bootBuiltins ("str" : Str) = some (.type "str") := by decide +kernel
end Ms

end
section
set_option Elab.async false
set_option linter.all false
set_option maxRecDepth 100000
set_option maxHeartbeats 4000000
/-! all(.. for .. in x), x a list that may still change (and does not while it is walked). -/
namespace Ms
open PySem PySem.Spec PyProof.Rows L2
open Classical
noncomputable def allGoR (k : Nat) (l0 : List D) (b : Bd) (δ : List (Option D)) (F : Fn D) : List D → Sto → Res D
  | [], bx => if bx[k]? = some (.lst l0) then .ok (.bl true) bx else .bad
  | d :: r, bx => if bx[k]? = some (.lst l0) then (match b bx δ d with
    | none => .bad
    | some δ1 => match F δ1 bx with
      | .ok (.bl true) bx1 => allGoR k l0 b δ F r bx1
      | .ok (.bl false) bx1 => .ok (.bl false) bx1
      | _ => .bad) else .bad
noncomputable def fAllGS (is : List Nat) (b : Bd) (F0 : Fn D) (F : Fn D) : Fn D := bnd F0 fun d => fun δ bx => match d with
  | .ref k => (match bx[k]? with
    | some (.lst l) => allGoR k l b (unset is δ) F l bx
    | _ => .bad)
  | d => (match wlk d with
    | some ds => allGo b (unset is δ) F ds bx
    | none => .bad)
theorem cell_live {K : PySem.W.Frag} {T : Tb} {β β' : Mu} {st : Sto} {H H' : Hp} {k : Nat} {a : Addr} {c : Bool} {l : List D} (h : β.cs[k]? = some (a, c)) (le : Le β H β' H') (g : Good K T β' st H') (e : st[k]? = some (.lst l)) : ∃ xs, H' a = some (.lst xs) ∧ RA K β' H' xs l := by
  obtain ⟨b', h1, _⟩ := le.cs k a c h
  obtain ⟨cl, h2, h3⟩ := g.cs k a b' h1
  rw [e] at h2
  cases h2
  obtain ⟨_, xs, h4, h5⟩ := h3
  exact ⟨xs, h4, h5⟩
theorem tAllS_of {K : PySem.W.Frag} {P : Pm} {E : XK} {t : TG} {is : List Nat} {b : Bd} {F0 : Fn D} {F : Fn D} (hgd : GD K t is b) : ∀ σ H Q, tD K P E (fAllGS is b F0 F) σ H Q → GenZ.tAllG P.T.tb (iAny K (tD K P E F0)) t (tD K P E F) is σ H Q := by
  rintro σ H Q ⟨β, δ, bx, ev, g, o⟩
  cases hF : F0 δ bx with
  | bad =>
    unfold fAllGS bnd at o
    rw [hF] at o
    exact o.elim
  | err c d bx' =>
    unfold fAllGS bnd at o
    rw [hF] at o
    exact ⟨β, δ, bx, ev, g, by rw [hF]; exact o⟩
  | ok d bx1 =>
    by_cases hd : ∃ k, d = .ref k
    · obtain ⟨k, rfl⟩ := hd
      have o2 := o.x
      unfold fAllGS bnd at o2
      rw [hF] at o2
      dsimp only at o2
      refine ⟨β, δ, bx, ev, g, ?_⟩
      rw [hF]
      intro β1 v H1 l1 g1 r1
      cases r1 with
      | ref hk =>
        rename_i a c
        cases hc : bx1[k]? with
        | none => rw [hc] at o2; exact (show False from o2).elim
        | some cl =>
          cases cl with
          | dead => rw [hc] at o2; exact (show False from o2).elim
          | lam n => rw [hc] at o2; exact (show False from o2).elim
          | lst l =>
            rw [hc] at o2
            dsimp only at o2
            have o3 := o2.le l1
            obtain ⟨xs, hx, ra⟩ := cell_live hk .refl g1 hc
            refine .inl ⟨a, rfl, ⟨xs, .inl (.inl hx)⟩, ?_⟩
            refine ⟨g1.tb, fun H2 x t2 => ?_⟩
            have lx : Le β1 H1 β1 H2 := .ext x
            refine ⟨fun i m Hc => m = l.length - i ∧ i ≤ l.length ∧ ∃ βi bx', Le β1 H1 βi Hc ∧ Ev K βi Hc (wipe σ is) (Ms.unset is δ) ∧ Good K P.T βi bx' Hc ∧ OutX P K β1 H1 (allGoR k l b (Ms.unset is δ) F (l.drop i) bx') E fun d β' _ H' => ∀ v, R K β' H' v d → Q v H',
              ⟨l.length, rfl, Nat.zero_le _, β1, bx1, lx, ((ev.le l1).le lx).unset is, g1.extN x t2, by simpa using o3⟩, ?_⟩
            rintro i m Hi ⟨rfl, hi, βi, bx', li, evi, gi, oi⟩
            by_cases hlt : i < l.length
            · rw [List.drop_eq_getElem_cons hlt] at oi
              simp only [allGoR] at oi
              by_cases hq : bx'[k]? = some (.lst l)
              · rw [if_pos hq] at oi
                obtain ⟨ys, hy, rb⟩ := cell_live hk li gi hq
                have hyl : i < ys.length := by rw [rb.length]; exact hlt
                refine .inr ⟨⟨ys, ys[i], .inl (.inl hy), by simp⟩, l.length - (i + 1), by omega, fun Hc => ∃ βi bx', Le β1 H1 βi Hc ∧ Ev K βi Hc (wipe σ is) (Ms.unset is δ) ∧ Good K P.T βi bx' Hc ∧ OutX P K β1 H1 (allGoR k l b (Ms.unset is δ) F (l.drop (i + 1)) bx') E fun d β' _ H' => ∀ v, R K β' H' v d → Q v H',
                  fun H2 h => ⟨l.length - (i + 1), Nat.le_refl _, rfl, hlt, h⟩, fun x H2 y => ?_⟩
                obtain ⟨rfl, hx2⟩ := y
                obtain ⟨w, e1, rw'⟩ := rb.get (List.getElem?_eq_getElem hlt)
                have := hx2 ys (.inl (.inl hy))
                rw [e1] at this
                cases this
                cases hbd : b bx' (Ms.unset is δ) l[i] with
                | none =>
                  rw [hbd] at oi
                  exact oi.elim
                | some δ1 =>
                  rw [hbd] at oi
                  dsimp only at oi
                  refine hgd P.T βi bx' _ δ1 _ _ _ _ _ evi gi rw' hbd fun σ3 ev3 hw => ?_
                  refine ⟨(hw is fun _ h => h).trans (wipe_wipe σ is), βi, δ1, bx', ev3, gi, ?_⟩
                  cases hE : F δ1 bx' with
                  | bad =>
                    rw [hE] at oi
                    exact oi
                  | err c d b =>
                    rw [hE] at oi
                    exact oi.elim
                  | ok d bx3 =>
                    rw [hE] at oi
                    intro β4 y H4 l4 g4 ry
                    cases d with
                    | bl c =>
                      cases c with
                      | true => exact ⟨true, ry.bl_inv, fun _ => ⟨β4, bx3, li.trans l4, evi.le l4, g4, oi⟩, fun z => nomatch z⟩
                      | false => exact ⟨false, ry.bl_inv, (fun z => nomatch z), fun _ => oi β4 H4 (li.trans l4) g4 _ (.bl false)⟩
                    | _ => exact oi.elim
              · rw [if_neg hq] at oi
                exact oi.elim
            · have e : i = l.length := by omega
              subst e
              rw [List.drop_length] at oi
              simp only [allGoR] at oi
              by_cases hq : bx'[k]? = some (.lst l)
              · rw [if_pos hq] at oi
                obtain ⟨ys, hy, rb⟩ := cell_live hk li gi hq
                exact .inl ⟨⟨ys, .inl (.inl hy), by rw [rb.length]; exact Nat.le_refl _⟩, oi βi Hi li gi _ (.bl true)⟩
              · rw [if_neg hq] at oi
                exact oi.elim
    · have e : fAllGS is b F0 F δ bx = fAllG is b (fWk F0) F δ bx := by
        unfold fAllGS fAllG fWk bnd
        rw [hF]
        dsimp only
        cases d with
        | ref k => exact (hd ⟨k, rfl⟩).elim
        | _ => first | rfl | (simp only [lft, wlk]) 
      have h : tD K P E (fAllG is b (fWk F0) F) σ H Q := ⟨β, δ, bx, ev, g, by rw [← e]; exact o⟩
      exact ei_any_imp (tAll_of hgd σ H Q h)
end Ms
namespace Ms
open PySem PySem.Spec PyProof.Rows L2
open Classical
section
variable {X : Cx} {elt tg iter : Expr} {scope : Scope} {own : List (Str × Nat)} {P : Pm} {E : XK} {c Pt : Addr} {p pos gpos : Pos} {t : TG} {b : Bd} {F0 F : Fn D} {k : Nat}
theorem ed_allGS (hr : Room (k + 2) X.A) (hc : X.calm = true) (hN : X.N.Nodup) (hg : Gl X "all") (hm : X.mg "all" = none) (hb : bootBuiltins "all" = some (.builtin "all")) (TB : LamX.TabB X.base X.mg c Pt) (hcode : X.env.code = .ref c)
    (hmT : (Pt, X.env.qual ++ "<genexpr>") ∈ P.T.tb) (hu : ∀ p ∈ P.T.tb, p.1 = Pt → p.2 = X.env.qual ++ "<genexpr>") (hi : ED X P E iter F0) (ok : BlkOk X.N X.env.scope scope own) (G : GenZ.GnOk X.env.scope scope) (hgd : GD X.K t (own.map (·.2)) b)
    (hpg : ∀ A s H C code fp pn, Room k A → PG (GenZ.gnx X A s H (GenZ.gEnv X scope C code) fp pn) tg t) (hpe : ∀ A s H C code fp pn, Room k A → ED (GenZ.gnx X A s H (GenZ.gEnv X scope C code) fp pn) P E elt F) (hs : ∀ v, genFold iter X.env v = pure v)
    (he : starEach [.GeneratorExp elt [⟨tg, iter, [], 0⟩] scope gpos] X.env = (false, eval (.GeneratorExp elt [⟨tg, iter, [], 0⟩] scope gpos) X.env) :: starEach [] X.env := by rfl) :
    ED X P E (.Call (.Name "all" p) [.GeneratorExp elt [⟨tg, iter, [], 0⟩] scope gpos] [] pos) (fAllGS (own.map (·.2)) b F0 F) :=
  pe_imp (GenZ.pe_allG hr hc hN hg hm hb TB hcode hmT hu (pi_any hi) ok G hpg hpe hs he) (tAllS_of hgd)
end
theorem W_allGS {is : List Nat} {b : Bd} {F0 F : Fn D} {δ : List (Option D)} {bx : Sto} {Q : D → Sto → Prop} {E : Str → D → Sto → Prop} : W (fAllGS is b F0 F δ bx) Q E ↔ W (F0 δ bx) (fun d bx' => W (match d with
  | .ref k => (match bx'[k]? with
    | some (.lst l) => allGoR k l b (unset is δ) F l bx'
    | _ => .bad)
  | d => (match wlk d with
    | some ds => allGo b (unset is δ) F ds bx'
    | none => .bad)) Q E) E := W_bnd
theorem allR_pure {k : Nat} {l0 : List D} {b : Bd} {F : Fn D} {p : D → Bool} {δ : List (Option D)} {bx : Sto} (hk : bx[k]? = some (.lst l0)) : ∀ {ds : List D}, (∀ d ∈ ds, ∃ δ1, b bx δ d = some δ1 ∧ F δ1 bx = .ok (.bl (p d)) bx) → allGoR k l0 b δ F ds bx = .ok (.bl (ds.all p)) bx
  | [], _ => by simp [allGoR, hk]
  | d :: r, h => by
    obtain ⟨δ1, e, h1⟩ := h d List.mem_cons_self
    have ih := allR_pure (p := p) (b := b) (F := F) (δ := δ) hk (ds := r) fun d hd => h d (List.mem_cons_of_mem _ hd)
    simp only [allGoR, if_pos hk, e, h1]
    cases hc : p d with
    | true => simp only []; rw [ih, List.all_cons, hc, Bool.true_and]
    | false => simp only []; rw [List.all_cons, hc, Bool.false_and]
/-! ### a, b, c = x, y, z -/
def sPar3 (i j l : Nat) (A : Fn (List D)) : Sn := sOf A fun ds δ bx => match ds with
  | [d, e, f] => .nx (((δ.set i (some d)).set j (some e)).set l (some f)) bx
  | _ => .bad
theorem RA.three {K : PySem.W.Frag} {β : Mu} {H : Hp} {xs : List V} {d e f : D} (r : RA K β H xs [d, e, f]) : ∃ u v w, xs = [u, v, w] ∧ R K β H u d ∧ R K β H v e ∧ R K β H w f := by
  cases r with
  | cons a b =>
    obtain ⟨v, w, rfl, h1, h2⟩ := b.two
    exact ⟨_, v, w, rfl, a, h1, h2⟩
theorem sd_par3 {X : Cx} {P : Pm} {E : XK} {pos : Pos} {a b c : Expr} {A : Fn (List D)} (i j l : Nat) {x y z : Str} {px py pz pt : Pos} {kt k2 pt2} (hc : X.calm = true) (hN : X.N.Nodup) (hi : X.N[i]? = some x) (hj : X.N[j]? = some y) (hl : X.N[l]? = some z) (hij : i ≠ j) (hil : i ≠ l) (hjl : j ≠ l)
    (hx : X.env.scope.names.lookup x = some .local) (hy : X.env.scope.names.lookup y = some .local) (hz : X.env.scope.names.lookup z = some .local) (ha : EA X P E [a, b, c] A)
    (hw : swappedStores [.Tuple [.Name x px, .Name y py, .Name z pz] kt pt] (.Tuple [a, b, c] k2 pt2) X.env = pure (some [x, y, z]))
    (hs : swapsWithSole [.Tuple [.Name x px, .Name y py, .Name z pz] kt pt] (.Tuple [a, b, c] k2 pt2) pos.line X.env = pure false := by rfl) :
    SD X P E (.Assign [.Tuple [.Name x px, .Name y py, .Name z pz] kt pt] (.Tuple [a, b, c] k2 pt2) pos) (sPar3 i j l A) := by
  refine ps_imp (ps_par3 hc hN hi hj hl hij hil hjl hx hy hz ha hw hs) ?_
  rintro Z σ H ⟨β, δ, bx, ev, g, o⟩
  refine sa_bind ev g o fun β1 bx' x ds H1 l1 g1 r1 o1 => ?_
  split at o1
  · obtain ⟨u, v, w, rfl, h1, h2, h3⟩ := RA.three r1
    exact ⟨u, v, w, rfl, o1 _ _ H1 .refl g1 ((((ev.le l1).set i h1).set j h2).set l h3)⟩
  · exact o1.elim
theorem WS_par3 {i j l : Nat} {A : Fn (List D)} {δ : List (Option D)} {bx : Sto} {N : List (Option D) → Sto → Prop} {Rt : D → Sto → Prop} {E : Str → D → Sto → Prop} : WS (sPar3 i j l A δ bx) N Rt E ↔ W (A δ bx) (fun ds bx' => ∃ d e f, ds = [d, e, f] ∧ N (((δ.set i (some d)).set j (some e)).set l (some f)) bx') E := by
  unfold sPar3
  rw [WS_of]
  refine iff_of_eq (congrArg (fun k => W (A δ bx) k E) (funext fun ds => funext fun bx' => propext ?_))
  match ds with
  | [d, e, f] => exact ⟨fun h => ⟨d, e, f, rfl, h⟩, fun ⟨_, _, _, e, h⟩ => by cases e; exact h⟩
  | [] => exact ⟨fun h => h.elim, fun ⟨_, _, _, e, _⟩ => (nomatch e)⟩
  | [_] => exact ⟨fun h => h.elim, fun ⟨_, _, _, e, _⟩ => (nomatch e)⟩
  | [_, _] => exact ⟨fun h => h.elim, fun ⟨_, _, _, e, _⟩ => (nomatch e)⟩
  | _ :: _ :: _ :: _ :: _ => exact ⟨fun h => h.elim, fun ⟨_, _, _, e, _⟩ => (nomatch e)⟩
end Ms

end
section
set_option Elab.async false
set_option linter.all false
set_option maxRecDepth 100000
set_option maxHeartbeats 4000000
/-! sorted(set(..)): of a list or a tuple of ints, fewer than 64 unlike ones -/
namespace Ms
open PySem PySem.Spec PyProof.Rows L2
theorem call_set_lstI {l : Addr} {items : Array Value} (ns : List Int) {Q : Value → Shared → Prop} (hh : A.handled = none) (hl : s.heap.IsList l items) (hit : IntsAre items.toList ns) (hb : ns.length + 1 < scanBound)
    (h : ∀ (h' : Heap) (tk c : Nat), SetR w h' s.heap.objs.size (fun j => decide (j ∈ ns)) c → c ≤ ns.length → (∀ b o, s.heap.get? b = some o → h'.get? b = some o) → Q (.ref s.heap.objs.size) { s with heap := h', toks := tk }) :
    wpAny (model P w) A (call (.type "set") [.ref l]) Q E s := by
  have hisz : items.size = ns.length := by
    have q := IntsAre.length hit
    rw [Array.length_toList] at q
    exact q
  obtain ⟨c, tl, hmro⟩ := F.called_set.mro
  have hmade := F.called_set.made
  have hsub := F.called_set.sub
  refine wpAny_call (codeAny_of_tree ?_)
  show wpAny _ _ (callAny (.type "set") _) _ _ _
  refine wpAny_pure ⟨Code.quiet_builtin _ (by decide +kernel), codeAny_builtin F.entry_type_call ?_⟩
  rw [Around.under_plain (weight_type_call_type "set" [.ref l] []) rfl]
  have h1 := F.called_set.notType
  have h2 := F.called_set.canCreate
  have hct := F.typeCall_set_1 (.ref l)
  repeat (any_goals (first | assumption | wp_step))

  refine codeAny_mono (code_set_led1 (.ref l) (E := E) (Q₁ := fun obj s₁ => obj = .ref s.heap.objs.size ∧ s₁ = { s with heap := s.heap.push { cls := .type "set", dict := none, data := .set #[] 0 (.fresh 0 0 (!w.params.followText "set-order")) } }) ⟨rfl, rfl⟩) fun r s₁ hr => ?_
  cases r with
  | error e => exact hr
  | ok fl =>
    cases fl with
    | ret obj =>
      obtain ⟨rfl, rfl⟩ := hr
      have hS : (s.heap.push { cls := .type "set", dict := none, data := .set #[] 0 (.fresh 0 0 (!w.params.followText "set-order")) }).get? s.heap.objs.size = some { cls := .type "set", dict := none, data := .set #[] 0 (.fresh 0 0 (!w.params.followText "set-order")) } := Heap.get?_push_size _ rfl
      have hT : Shared.TypeIs { s with heap := s.heap.push { cls := .type "set", dict := none, data := .set #[] 0 (.fresh 0 0 (!w.params.followText "set-order")) } } (.ref s.heap.objs.size) "set" := ⟨_, hS, rfl⟩
      have hli := F.called_set.init.lookup
      have hbi := F.called_set.init.bind (.ref s.heap.objs.size)
      repeat (any_goals (first | assumption | wp_step))

      refine codeAny_mono (codeAny_call_builtin (R := wants (fun r s₂ => r = .none ∧ ∃ h' tk c, s₂ = { s with heap := h', toks := tk } ∧ SetR w h' s.heap.objs.size (fun j => decide (j ∈ ns)) c ∧ c ≤ ns.length ∧
          (∀ b o, s.heap.get? b = some o → h'.get? b = some o)) E) F.called_set.init.plain F.entry_set_init (check_set_init_1 hT ?_)) fun r₂ s₂ hr₂ => ?_
      · obtain ⟨ol, hol, hcl, nl, hdl⟩ := hl
        obtain ⟨ocls, odict, odata, oslots⟩ := ol
        simp only at hcl hdl
        subst hcl; subst hdl
        have hol' : (s.heap.push { cls := .type "set", dict := none, data := .set #[] 0 (.fresh 0 0 (!w.params.followText "set-order")) }).get? l = some { cls := .type "list", dict := odict, data := .seq items nl, slots := oslots } := Heap.get?_push_of_some _ hol
        have hsls := F.sub_list_set
        have hslf := F.sub_list_frozenset
        have hne : (Value.type "list" == Value.type "dict") = false := by decide
        have hl1 : (s.heap.push { cls := .type "set", dict := none, data := .set #[] 0 (.fresh 0 0 (!w.params.followText "set-order")) }).IsList l items := ⟨_, hol', rfl, nl, rfl⟩
        unfold Builtin.«set.__init__» noKeywords Builtin.Frozenset.updateFrom
        generalize hPI : pyIter = PI
        wp_walk
        subst hPI

        refine wpAny_pyIter_list hl1 ?_
        refine wpAny_bind (wpAny_runValue ?_)
        have hlS : l < s.heap.objs.size := Heap.lt_size hol
        have hh3 : A.in1.in1.in1.handled = none := by simp [hh]
        have hz1 : (s.heap.push { cls := .type "set", dict := none, data := .set #[] 0 (.fresh 0 0 (!w.params.followText "set-order")) }).objs.size = s.heap.objs.size + 1 := Heap.size_push ..
        have hneI : l ≠ (s.heap.push { cls := .type "set", dict := none, data := .set #[] 0 (.fresh 0 0 (!w.params.followText "set-order")) }).objs.size := by
          rw [Heap.size_push]; exact Nat.ne_of_lt (Nat.lt_succ_of_lt hlS)
        have hSf : s.heap.objs.size ∉ [(s.heap.push { cls := .type "set", dict := none, data := .set #[] 0 (.fresh 0 0 (!w.params.followText "set-order")) }).objs.size, l] := by
          rw [Heap.size_push]; simp only [List.mem_cons, List.mem_singleton, List.not_mem_nil, or_false, not_or]
          exact ⟨Nat.ne_of_lt (Nat.lt_succ_self _), Nat.ne_of_gt hlS⟩
        have hval : ∀ (i : Nat) (v : Value), items[i]? = some v → ∃ k t, ns[i]? = some k ∧ v = .int k t := fun i v hv => by
          have hi : i < ns.length := by rw [← hisz]; exact (Array.getElem?_eq_some_iff.mp hv).1
          obtain ⟨t, e⟩ := PyProof.Rows.IntsAre.int_at hit i v (by rw [Array.getElem?_toList]; exact hv)
          refine ⟨ns[i], t, List.getElem?_eq_getElem hi, ?_⟩
          rw [e, List.getD_eq_getElem?_getD, List.getElem?_eq_getElem hi] <;> rfl
        refine set_update_ints ((Walks.list hh3 _ l hneI items).toS) s.heap.objs.size
          hSf ns hisz hb hval (items.size - 0) 0 _ (by omega) (Nat.zero_le _)
          ⟨⟨_, Heap.get?_push_size _ rfl, rfl, rfl⟩, (hl1.push _)⟩ ?hS0 ?hR
        case hS0 =>
          have hget : ((s.heap.push { cls := .type "set", dict := none, data := .set #[] 0 (.fresh 0 0 (!w.params.followText "set-order")) }).push { cls := .type "list_iterator", data := .fields #[.ref l, .int 0 0] }).get? s.heap.objs.size
              = some { cls := .type "set", dict := none, data := .set #[] 0 (.fresh 0 0 (!w.params.followText "set-order")) } := Heap.get?_push_of_some _ hS
          exact ⟨0, Nat.le_refl 0, setR_new_at hget⟩
        case hR =>
          intro s' c' hm hc' hS'
          obtain ⟨h', g2, d', tk', os'⟩ := s'
          have eg : g2 = s.gens := hm.gens
          have ed : d' = s.drawn := hm.drawn
          have eo : os' = s.os := hm.os
          subst eg; subst ed; subst eo
          show wpAny _ _ _ _ _ _
          refine wpAny_pure ?_
          show wpAny _ _ (ret Value.none) _ _ _
          rw [hisz] at hc'
          refine wpAny_pure ⟨rfl, h', tk', c', rfl, hS', hc', fun b o e => ?_⟩
          have hb0 : b < s.heap.objs.size := Heap.lt_size e
          have hb1 : b ≠ s.heap.objs.size := Nat.ne_of_lt hb0
          have hb2 : b ≠ (s.heap.push { cls := .type "set", dict := none, data := .set #[] 0 (.fresh 0 0 (!w.params.followText "set-order")) }).objs.size := by
            rw [Heap.size_push]; exact Nat.ne_of_lt (Nat.lt_succ_of_lt hb0)
          exact hm.heap b o (by simp only [List.mem_cons, List.mem_singleton, List.not_mem_nil, or_false, not_or]; exact ⟨hb1, hb2⟩) (Heap.get?_push_of_some _ (Heap.get?_push_of_some _ e))

      · cases r₂ with
        | error e => exact hr₂
        | ok fl₂ =>
          cases fl₂ with
          | ret r =>
            obtain ⟨rfl, h', tk, c', rfl, hS', hc', hk'⟩ := hr₂
            repeat (any_goals (first | assumption | wp_step))
            exact h _ _ _ hS' hc' hk'
          | _ => exact hr₂.elim
    | _ => exact hr.elim

/-- put in its place, once -/
def ins1 (k : Int) : List Int → List Int
  | [] => [k]
  | x :: r => if k < x then k :: x :: r else if k = x then x :: r else x :: ins1 k r
/-- the unlike ones, ascending -/
def usrt (ns : List Int) : List Int := ns.foldr ins1 []
theorem mem_ins1 {k j : Int} : ∀ {l : List Int}, j ∈ ins1 k l ↔ j = k ∨ j ∈ l
  | [] => by simp [ins1]
  | x :: r => by
    unfold ins1
    split
    · simp
    · split
      · rename_i h; subst h; simp
      · rw [List.mem_cons, mem_ins1, List.mem_cons]
        constructor
        · rintro (h | h | h)
          · exact .inr (.inl h)
          · exact .inl h
          · exact .inr (.inr h)
        · rintro (h | h | h)
          · exact .inr (.inl h)
          · exact .inl h
          · exact .inr (.inr h)
theorem ins1_sorted {k : Int} : ∀ {l : List Int}, l.Pairwise (· < ·) → (ins1 k l).Pairwise (· < ·)
  | [], _ => by simp [ins1]
  | x :: r, h => by
    obtain ⟨h1, h2⟩ := List.pairwise_cons.mp h
    unfold ins1
    split
    · rename_i hk
      refine List.pairwise_cons.mpr ⟨fun y hy => ?_, h⟩
      rcases List.mem_cons.mp hy with rfl | hy
      · exact hk
      · have := h1 y hy; omega
    · split
      · exact h
      · refine List.pairwise_cons.mpr ⟨fun y hy => ?_, ins1_sorted h2⟩
        rcases mem_ins1.mp hy with rfl | hy
        · omega
        · exact h1 y hy
theorem mem_usrt {j : Int} {ns : List Int} : j ∈ usrt ns ↔ j ∈ ns := by
  induction ns with
  | nil => simp [usrt]
  | cons x r ih =>
    show j ∈ ins1 x (usrt r) ↔ _
    rw [mem_ins1, ih, List.mem_cons]
theorem usrt_sorted {ns : List Int} : (usrt ns).Pairwise (· < ·) := by
  induction ns with
  | nil => exact .nil
  | cons x r ih => exact ins1_sorted ih
theorem sorted_ext : ∀ {l m : List Int}, l.Pairwise (· < ·) → m.Pairwise (· < ·) → (∀ k, k ∈ l ↔ k ∈ m) → l = m
  | [], [], _, _, _ => rfl
  | [], y :: s, _, _, h => by have := (h y).mpr List.mem_cons_self; cases this
  | x :: r, [], _, _, h => by have := (h x).mp List.mem_cons_self; cases this
  | x :: r, y :: s, a, b, h => by
    obtain ⟨a1, a2⟩ := List.pairwise_cons.mp a
    obtain ⟨b1, b2⟩ := List.pairwise_cons.mp b
    have e : x = y := by
      rcases List.mem_cons.mp ((h x).mp List.mem_cons_self) with e | e
      · exact e
      · rcases List.mem_cons.mp ((h y).mpr List.mem_cons_self) with e2 | e2
        · exact e2.symm
        · have := a1 y e2; have := b1 x e; omega
    subst e
    refine congrArg (x :: ·) (sorted_ext a2 b2 fun k => ?_)
    constructor
    · intro hk
      rcases List.mem_cons.mp ((h k).mp (List.mem_cons_of_mem _ hk)) with e | e
      · subst e; exact absurd (a1 _ hk) (by omega)
      · exact e
    · intro hk
      rcases List.mem_cons.mp ((h k).mpr (List.mem_cons_of_mem _ hk)) with e | e
      · subst e; exact absurd (b1 _ hk) (by omega)
      · exact e
theorem usrt_eq {ns l : List Int} (h : l.Pairwise (· < ·)) (m : ∀ k, k ∈ l ↔ k ∈ ns) : usrt ns = l := sorted_ext usrt_sorted h fun k => by rw [mem_usrt, m]
theorem usrt_nodup {ns : List Int} : (usrt ns).Nodup := usrt_sorted.imp fun h => by omega
section
variable {X : Cx} {P : Pm} {E : XK} {F : Fn D} {a : Expr} {pos : Pos}
theorem pe_sortSet {ta : TE} {p p2 q : Pos} (hg : Gl X "sorted") (hm : X.mg "sorted" = none) (hg2 : Gl X "set") (hm2 : X.mg "set" = none) (ha : PE X a ta) (hc : X.calm = true := by rfl)
    (na : starEach [a] X.env = (false, eval a X.env) :: starEach [] X.env := by rfl) :
    PE X (.Call (.Name "sorted" p) [.Call (.Name "set" p2) [a] [] q] [] pos) (fun σ H Q => ta σ H fun x H1 => ∃ (l : Addr) (ns : List Int), x = .ref l ∧ (SqL X.K H1 l (ns.map V.int) ∨ SqT X.K H1 l (ns.map V.int)) ∧ ns.length ≤ 4000 ∧ (usrt ns).length < 64 ∧ ∀ p, H1 p = none → Q (.ref p) (upd H1 p (.lst ((usrt ns).map V.int)))) := by
  refine ⟨fun pins s σ H Q I h => ?_⟩
  refine Call_ (ld_blt I hg hm (by decide +kernel : bootBuiltins ("sorted" : Str) = some (.builtin "sorted")) (PyProof.Rows.callWith_builtin1 (PyProof.Rows.args_cons ?_ rfl) rfl rfl))
  refine Call_ (ld_blt I hg2 hm2 boot_set (PyProof.Rows.callWith_type1 (PyProof.Rows.args_cons (thn (ha.run pins s σ H _ I h) fun v s1 hu => PyProof.Rows.args_nil ?_) na) na rfl))
  obtain ⟨x, H1, I1, r1, l, ns, rfl, hq, hl, h64, q1⟩ := hu
  cases r1
  have fin : ∀ (h' : Heap) (tk c : Nat), SetR X.w h' s1.heap.objs.size (fun j => decide (j ∈ ns)) c → c ≤ ns.length → (∀ b o, s1.heap.get? b = some o → h'.get? b = some o) →
      wpAny (model X.prog X.w) X.A (call (.builtin "sorted") [.ref s1.heap.objs.size]) (fun v s => ∃ (u : V) (H2 : Hp), Inv X pins σ H2 s ∧ RelV u v ∧ Q u H2) X.xe { s1 with heap := h', toks := tk } := by
    intro h' tk c R1 hcn k
    have I2 : Inv X pins σ H1 { s1 with heap := h', toks := tk } := I1.kept k
    have hcu : c = (usrt ns).length := by
      obtain ⟨o, es, ep, t, ho, hex, hdt, g, nd, hm2, hb, hf, hn, hr, hl2⟩ := R1
      have p : (es.toList.map keyOf).Perm (usrt ns) := (List.perm_ext_iff_of_nodup nd usrt_nodup).mpr fun k => by rw [← hm2 k, mem_usrt]; exact decide_eq_true_iff
      have z := p.length_eq
      rw [List.length_map, Array.length_toList, hn] at z
      exact z
    refine sorted_set R1 (I2.ok.hd hc) (by omega) fun s' p out cc ms kk g o hp hgt hi hs hm3 hl3 => ?_
    have hn : H1 p = none := I2.hok.fresh hp
    have em : usrt ns = ms := usrt_eq hs fun k => by rw [hm3 k]; exact decide_eq_true_iff
    have hlen : (ms.map V.int).length ≤ sizeLine := by rw [List.length_map, hl3, sizeLine_eq]; omega
    have J : Inv X pins σ (upd H1 p (.lst (ms.map V.int))) { ({ s1 with heap := h', toks := tk } : Shared) with heap := s'.heap, gens := s'.gens, drawn := s'.drawn, toks := s'.toks } :=
      I2.call (ch := []) (Un.laid kk hp hn) (I2.hok.laid kk hp ⟨hlen, out.toList, cc, vals_of_ints hi, hgt⟩) (by rw [g]; exact I2.bare) (fun _ z => nomatch z)
    have e : s' = { ({ s1 with heap := h', toks := tk } : Shared) with heap := s'.heap, gens := s'.gens, drawn := s'.drawn, toks := s'.toks } := by
      cases s'
      cases o
      rfl
    rw [e]
    refine ⟨.ref p, _, J, rfl, ?_⟩
    have := q1 p hn
    rw [em] at this
    exact this
  rcases hq with hq | hq
  · obtain ⟨its, r, pl, hz⟩ := I1.list hq
    refine call_set_lstI ns (I1.ok.hd hc) pl.isList (by simpa using r.ints) (by unfold scanBound; omega) fun h' tk c st_ le kp => PyProof.Rows.args_nil ?_
    exact fin h' tk c st_ le kp
  · obtain ⟨its, r, pl, hz⟩ := I1.tuple hq
    refine call_set_tupI ns (I1.ok.hd hc) pl (by simpa using r.ints) (by unfold scanBound; omega) fun h' tk c st_ le kp => PyProof.Rows.args_nil ?_
    exact fin h' tk c st_ le kp
def cSortSet (st : Sto) (d : D) : Option D := ((vs st d).bind toInts).bind fun ns => if ns.length ≤ 4000 ∧ (usrt ns).length < 64 then some (.lst ((usrt ns).map .int)) else none
theorem ed_sortSet {p p2 q : Pos} (hg : Gl X "sorted") (hm : X.mg "sorted" = none) (hg2 : Gl X "set") (hm2 : X.mg "set" = none) (ha : ED X P E a F) (hc : X.calm = true := by rfl)
    (na : starEach [a] X.env = (false, eval a X.env) :: starEach [] X.env := by rfl) : ED X P E (.Call (.Name "sorted" p) [.Call (.Name "set" p2) [a] [] q] [] pos) (f1 cSortSet F) := by
  refine pe_imp (pe_sortSet hg hm hg2 hm2 ha hc na) ?_
  rintro σ H Q ⟨β, δ, bx, ev, g, o⟩
  refine d_bind ev g o.x fun β1 bx1 x d H1 l1 g1 r1 o1 => ?_
  obtain ⟨z, hz, kz⟩ := OutX.lft' o1
  unfold cSortSet at hz
  cases hl : vs bx1 d with
  | none => rw [hl] at hz; cases hz
  | some l =>
    rw [hl] at hz
    cases hn : toInts l with
    | none => simp only [Option.bind_some, hn] at hz; cases hz
    | some ns =>
      simp only [Option.bind_some, hn] at hz
      split at hz
      · rename_i hle
        cases hz
        have e := toInts_inv hn
        subst e
        obtain ⟨a, xs, rfl, s, ra⟩ := r1.vs g1 hl
        rw [ra.ints_inv] at s
        exact ⟨a, ns, rfl, s, hle.1, hle.2, fun p hp => kz β1 _ (.new hp) (g1.new hp) _ (.lst ⟨.inl upd_same, g1.ne hp⟩ (RA.ints _))⟩
      · cases hz
end
theorem ev_sortSet {bx : Sto} {d : D} {l : List D} {ns : List Int} (h : vs bx d = some l) (hn : l = ns.map D.int) (h1 : ns.length ≤ 4000) (h2 : (usrt ns).length < 64) : cSortSet bx d = some (.lst ((usrt ns).map .int)) := by
  unfold cSortSet
  rw [h, hn]
  have : toInts (ns.map D.int) = some ns := by
    clear h hn h1 h2
    induction ns with
    | nil => rfl
    | cons x r ih => simp [toInts, ih]
  simp only [Option.bind_some, this]
  rw [if_pos ⟨h1, h2⟩]
end Ms

end
section
set_option Elab.async false
set_option linter.all false
set_option maxRecDepth 100000
set_option maxHeartbeats 4000000
/-! Lambdas that take args and keep nothing of the frame, called by a name that holds them. -/
namespace Ms
open PySem PySem.Spec PyProof.Rows L2
theorem run_lamA {CX : CXT} {P : Program} {w : World} {K : PySem.W.Frag} {mg : Str → Option Value} {base : Heap} {k : Nat} {q : Str} {params : Arguments} {body : Expr} {scope : Scope} {pm ctv : Value} {f c' : Addr} {ps : List Str} {A : Around} {outer : List Env} {s : Shared} {H : Hp} {us : List Value} {vs : List V} {Q : VK} {E : XK}
    (of1 : s.heap.get? f = some (PySem.W.kla_obj "<lambda>" q params body scope [] pm c' ctv)) (hcr : s.heap.CodeRec (.ref c') q) (S : FnScope ps ps scope) (hr : Room (k + 1) A) (e0 : Env0 P w K mg base A outer s H)
    (hb : bindArgs (PySem.W.kla_fn "<lambda>" q params body scope [] pm (.ref c') ctv) ⟨us, []⟩ = pure (ps.zip us)) (r : Vals vs us) (hl : vs.length = ps.length)
    (hbody : Room k (A.deeper (envOfC q scope s.heap.objs.size f (.ref c'))) → ∃ te, PE (cxOf CX P w K mg base ps q scope f (.ref c') A outer s H E) body te ∧ te (L2.start ps vs) H Q) :
    codeAny (model P w) A (.call (.ref f) ⟨us, []⟩) (CR CX outer P w H s Q E) s := by
  have lim : s.heap.NoLimit := e0.mod.nolimit.keeps fun b o e => (e0.bs b o e).1
  have hkind : ∀ y ∈ ps.zip us, scope.names.lookup y.1 = some .local ∨ (scope.names.lookup y.1 = some .cell ∧ ((cellsFrom (s.heap.objs.size + 1) scope.names []).lookup y.1).isSome = true) := fun ⟨n, v⟩ hy => by
    rcases S.par n (List.of_mem_zip hy).1 with z | z
    · exact .inl z
    · exact .inr ⟨z, PySem.W.cellsFrom_some _ _ _ (.inl z)⟩
  refine PySem.W.kla_callFunE hr.depth of1 rfl S.co S.gen rfl hcr ?_
  rw [hb]
  refine wpAny_pure ?_
  refine wpAny_newFunctionEnv_cells S.kind hkind fun env he s1 x => ?_
  subst he
  refine ⟨lim.keeps x.toInCall.keep, ?_⟩
  obtain ⟨te, ht, hq⟩ := hbody (hr.deeper _)
  have I : Inv (cxOf CX P w K mg base ps q scope f (.ref c') A outer s H E) [] (L2.start ps vs) H s1 := inv_start S hr.hd e0 hl r x
  refine PySem.W.kla_codeExpr (wpAny_mono (ht.run [] s1 (L2.start ps vs) H Q I hq) (fun v s' hs => ?_) fun e s' hs => hs)
  obtain ⟨v', H', J, rv, z⟩ := hs
  exact ⟨v', H', J.os, J.bare, J.base, J.hok, rv, z⟩
/-- a lambda of the text that takes args, and what it comes to -/
structure LamA (Pg : Program) (w : World) (K : PySem.W.Frag) (mg : Str → Option Value) (base : Heap) (P : Pm) (q : Str) (k : Nat) (i : LamI) (ps : List Str) (F : Fn D) : Prop where
  S : FnScope ps ps i.scope
  bd : ∀ (cl : List (Str × Addr)) (pm cv ctv : Value) (us : List Value), us.length = ps.length → bindArgs (PySem.W.kla_fn "<lambda>" q i.params i.body i.scope cl pm cv ctv) ⟨us, []⟩ = pure (ps.zip us)
  body : ∀ (A : Around) (outer : List Env) (s : Shared) (H : Hp) (E : XK) (f c' : Addr), Room k (A.deeper (envOfC q i.scope s.heap.objs.size f (.ref c'))) → ED (cxOf (L2.CX Pg w) Pg w K mg base ps q i.scope f (.ref c') A outer s H E) P E i.body F
theorem clo_none {cells : List (Str × Addr)} : ∀ {names : List (Str × NameKind)} {acc : List (Str × Addr)}, (∀ y ∈ names, y.2 ≠ .free) → cloFrom cells names acc = acc := by
  intro names
  induction names with
  | nil => intro acc _; rfl
  | cons y r ih =>
    intro acc h
    obtain ⟨n, k⟩ := y
    have hk : k ≠ .free := h _ List.mem_cons_self
    have hr := ih (acc := acc) fun z hz => h z (List.mem_cons_of_mem _ hz)
    cases k <;> first | exact absurd rfl hk | exact hr
def lamR (n : Nat) (F : Fn D) : List D → Sto → Res D := fun ds bx => if ds.length = n then F (ds.map some) bx else .bad
def fCallL (B : Nat → List D → Sto → Res D) (F : Fn D) (A : Fn (List D)) : Fn D := bnd F fun d => fun δ bx => match d with
  | .ref k => (match bx[k]? with
    | some (.lam n) => bnd A (fun ds => fun _ bx => B n ds bx) δ bx
    | _ => .bad)
  | _ => .bad
section
variable {X : Cx} {P : Pm} {E : XK} {pos : Pos} {es : List Expr} {A : Fn (List D)} {F : Fn D} {e : Expr} {k : Nat} {y : Str} {py : Pos} {cells : List (Str × Addr)} {q : Str} {ls : List LamI} {B : Nat → List D → Sto → Res D}
theorem ed_callL (hlm : P.T.lm = lmOf cells q ls) (all : ∀ n i, ls[n]? = some i → ∃ (ps : List Str) (G : Fn D), LamA X.prog X.w X.K X.mg X.base P q k i ps G ∧ B n = lamR ps.length G) (hr : Room (k + 1) X.A) (hx : Passes (L2.CX X.prog X.w) X E)
    (hF : ED X P E (.Name y py) F) (ha : EA X P E (e :: es) A) (he : starEach (e :: es) X.env = (false, eval e X.env) :: starEach es X.env := by rfl) (hpl : (backTo pos (starEach es X.env)).any (·.1) = false := by rfl) :
    ED X P E (.Call (.Name y py) (e :: es) [] pos) (fCallL B F A) := by
  refine ⟨fun pins s σ H Q I h => ?_⟩
  obtain ⟨β, δ, bx, ev, gd, o⟩ := h
  have h1 : tD X.K P E F σ H fun v H1 => ∃ (f : Addr) (n : Nat) (i : LamI) (c' : Addr), v = .ref f ∧ ls[n]? = some i ∧ H1 f = some (LamH cells q i.params i.body i.scope f c') ∧ H1 c' = some (LamX.CodeO c' q) ∧
      (tDA X.K P E A) σ H1 fun zs H2 => H2 f = some (LamH cells q i.params i.body i.scope f c') ∧ H2 c' = some (LamX.CodeO c' q) ∧ ∃ β2 ds bx2, RA X.K β2 H2 zs ds ∧ Good X.K P.T β2 bx2 H2 ∧ Out X.K P β2 H2 (B n ds bx2) Q E := by
    refine d_bind ev gd o.x fun β1 bx1 v d H1 l1 g1 r1 o1 => ?_
    cases r1 with
    | ref hk =>
      have ⟨c, h1, h2⟩ := g1.cs _ _ _ hk
      dsimp only at o1
      rw [h1] at o1
      cases c with
      | lam n =>
        have h3 := h2.2
        rw [hlm] at h3
        obtain ⟨i, c', hi, hf, hc⟩ := h3
        refine ⟨_, n, i, c', rfl, hi, hf, hc, a_bind (ev.le l1) g1 o1 fun β2 bx2 zs ds H2 l2 g2 r2 o2 => ⟨g1.xk l2 _ _ hf, g1.xk l2 _ _ hc, β2, ds, bx2, r2, g2, out_ofX o2⟩⟩
      | lst _ => exact o1.elim
      | dead => exact o1.elim
    | non => exact o1.elim
    | bl _ => exact o1.elim
    | int _ => exact o1.elim
    | str _ => exact o1.elim
    | lst _ _ => exact o1.elim
    | tup _ _ => exact o1.elim
    | fn _ _ => exact o1.elim
    | scr _ => exact o1.elim
  refine wpAny_Call_Name_kw (thn (hF.run pins s σ H _ I h1) fun u s1 hu => ?_)
  obtain ⟨v, H1, I1, rv, f, n, i, c', rfl, hi, hf, hc, ht⟩ := hu
  have eu : u = Value.ref f := rv
  subst eu
  obtain ⟨⟨pm1, ctv1, of1⟩, _, _⟩ := I1.hok f _ hf
  refine PySem.W.callWith_F ⟨_, _, _, _, of1⟩ (thn (ha.run pos pins s1 σ H1 _ I1 ht) fun us s2 hs => ?_) he hpl
  obtain ⟨vs, H2, I2, r, hf2, hc2, β2, ds, bx2, ra, g2, o2⟩ := hs
  obtain ⟨⟨pm, ctv, of2⟩, _, _⟩ := I2.hok f _ hf2
  obtain ⟨⟨oc, fv, t, hoc, hdc, hvc⟩, _, _⟩ := I2.hok c' _ hc2
  refine ⟨⟨_, _, _, _, of2⟩, ?_⟩
  obtain ⟨ps, G, LA, hB⟩ := all n i hi
  rw [clo_none LA.S.nofree] at of2
  rw [hB] at o2
  unfold lamR at o2
  split at o2
  · rename_i hlen
    have lv : vs.length = ps.length := by rw [ra.length, hlen]
    show wpAny _ _ (call (.ref f) us) _ _ _
    refine wpAny_call (codeAny_mono (run_lamA (CX := L2.CX X.prog X.w) (E := E) (Q := Q) (K := X.K) (mg := X.mg) (base := X.base) of2 ⟨c', oc, fv, t, rfl, hoc, hdc, hvc⟩ LA.S hr I2.env0 (LA.bd _ _ _ _ us (by rw [← r.length]; exact lv)) r lv fun hr' => ⟨_, LA.body _ _ _ _ E _ _ hr', ?_⟩) fun rr s' hq => ?_)
    · have es := ev_start (K := X.K) (β := β2) (H := H2) (N := ps) ra
      rw [hlen, Nat.sub_self, List.replicate_zero, List.append_nil] at es
      exact ⟨β2, ds.map some, bx2, es, g2, o2⟩
    · match rr, hq with
      | .error er, hq => exact hx pins σ H2 s2 er s' I2 hq
      | .ok (.ret u), hq => exact I2.after hq
      | .ok .next, hq => exact False.elim hq
      | .ok .brk, hq => exact False.elim hq
      | .ok .cont, hq => exact False.elim hq
  · exact o2.elim
end
/-- lambda x, ..: body, as a value -/
theorem ed_lamA {X : Cx} {P : Pm} {E : XK} {n : Nat} {params : Arguments} {body : Expr} {scope : Scope} {cd Pt : Addr} {pos : Pos} (B : LamX.TabB X.base X.mg cd Pt) (hcd : X.env.code = .ref cd) (hm : (Pt, X.env.qual ++ "<lambda>") ∈ P.T.tb)
    (hu : ∀ q ∈ P.T.tb, q.1 = Pt → q.2 = X.env.qual ++ "<lambda>") (hn : ∀ y ∈ scope.names, y.2 ≠ .free) (hd : defaultsOf params X.env = ([], []))
    (hl : ∀ f c' H, H f = some (LamH X.env.cells (X.env.qual ++ "<lambda>") params body scope f c') → H c' = some (LamX.CodeO c' (X.env.qual ++ "<lambda>")) → P.T.lm n f H) : ED X P E (.Lambda params body scope pos) (fLam n) := by
  refine ⟨fun pins s σ H Q I h => ?_⟩
  obtain ⟨β, δ, bx, ev, g, o⟩ := h
  refine lam_new I B hcd hm hu g.tb hd (fun y hy e => absurd e (hn y hy)) fun f c' H1 s' I1 nf x t co => ?_
  have ne : c' ≠ f := ne_of_none co nf
  have no : ∀ ps, LamH X.env.cells (X.env.qual ++ "<lambda>") params body scope f c' ≠ .tbl ps := fun ps z => by
    unfold LamH at z
    cases z
  refine ⟨.ref f, _, I1, rfl, ?_⟩
  refine o (β.lam f) _ _ (.lam x nf) (g.lam x nf no t (hl f c' _ upd_same ((upd_ne ne).trans co))) (.ref (b := false) ?_)
  show (β.cs ++ [(f, false)])[bx.length]? = _
  rw [← g.ln, List.getElem?_append_right (Nat.le_refl _), Nat.sub_self]
  rfl
end Ms

end
section
set_option Elab.async false
set_option linter.all false
set_option maxRecDepth 100000
set_option maxHeartbeats 4000000
/-! The program's functions as values, called by a name that holds one. -/
namespace Ms
open PySem PySem.Spec PyProof.Rows L2
def fnR (n : Nat) (m : List D → Sto → Res D) : List D → Sto → Res D := fun ds bx => if ds.length = n then m ds bx else .bad
def fnT : List (Str × (List D → Sto → Res D)) → Str → List D → Sto → Res D
  | [], _ => fun _ _ => .bad
  | (y, r) :: l, x => if x = y then r else fnT l x
def fCallF (B : Str → List D → Sto → Res D) (F : Fn D) (A : Fn (List D)) : Fn D := bnd F fun d => fun δ bx => match d with
  | .fn x => bnd A (fun ds => fun _ bx => B x ds bx) δ bx
  | _ => .bad
/-- a function of the text, where it lies and what it comes to -/
structure FnV (X : Cx) (P : Pm) (E : XK) (x : Str) (r : List D → Sto → Res D) : Prop where
  ex : ∃ (a : Addr) (CX : CXT) (k : Nat) (st : Stmt) (ps : List Str) (m : List D → Sto → Res D), DfB false X.prog X.w X.K X.mg X.base P CX k x st ps m ∧ Room k X.A ∧ Passes CX X E ∧ r = fnR ps.length m ∧
    PySem.W.nsIn X.K mainGlobals x = some (some (.ref a)) ∧ X.mg x = some (.ref a)
theorem fnT_cases {X : Cx} {P : Pm} {E : XK} {x : Str} : ∀ {l : List (Str × (List D → Sto → Res D))}, (∀ p ∈ l, FnV X P E p.1 p.2) → FnV X P E x (fnT l x) ∨ fnT l x = fun _ _ => .bad
  | [], _ => .inr rfl
  | (y, r) :: l, h => by
    unfold fnT
    by_cases q : x = y
    · rw [if_pos q]
      subst q
      exact .inl (h _ List.mem_cons_self)
    · rw [if_neg q]
      exact fnT_cases fun p hp => h p (List.mem_cons_of_mem _ hp)
section
variable {X : Cx} {P : Pm} {E : XK} {pos : Pos} {es : List Expr} {A : Fn (List D)} {F : Fn D} {e : Expr} {y x : Str} {py : Pos} {l : List (Str × (List D → Sto → Res D))}
theorem ed_fnv {a : Addr} (hg : Gl X x) (hm : X.mg x = some (.ref a)) (hn : PySem.W.nsIn X.K mainGlobals x = some (some (.ref a))) (hk : PySem.W.keepIn X.K (.ref a) = true) (hd : (x == ("__debug__" : Str)) = false := by decide) : ED X P E (.Name x py) (pur (.fn x)) :=
  ed_c (v := .ref a) (pe_glob hg hm rfl hd) fun _ _ => .fn hn hk
/-- a function of the text, where it lies -/
def Fv (K : PySem.W.Frag) (mg : Str → Option Value) (x : Str) : Prop := ∃ a : Addr, PySem.W.nsIn K mainGlobals x = some (some (.ref a)) ∧ mg x = some (.ref a) ∧ PySem.W.keepIn K (.ref a) = true
theorem ed_fnT (h : Fv X.K X.mg x) (hg : Gl X x) (hd : (x == ("__debug__" : Str)) = false := by decide) : ED X P E (.Name x py) (pur (.fn x)) := by
  obtain ⟨a, hn, hm, hk⟩ := h
  exact ed_fnv hg hm hn hk hd
theorem fnv_of {CX : CXT} {k : Nat} {st : Stmt} {ps : List Str} {m : List D → Sto → Res D} (h : Fv X.K X.mg x) (d : DfB false X.prog X.w X.K X.mg X.base P CX k x st ps m) (hr : Room k X.A) (hx : Passes CX X E) : FnV X P E x (fnR ps.length m) := by
  obtain ⟨a, hn, hm, hk⟩ := h
  exact ⟨⟨a, CX, k, st, ps, m, d, hr, hx, rfl, hn, hm⟩⟩
theorem ed_callF (all : ∀ p ∈ l, FnV X P E p.1 p.2) (hF : ED X P E (.Name y py) F) (ha : EA X P E (e :: es) A) (he : starEach (e :: es) X.env = (false, eval e X.env) :: starEach es X.env := by rfl) (hpl : (backTo pos (starEach es X.env)).any (·.1) = false := by rfl) :
    ED X P E (.Call (.Name y py) (e :: es) [] pos) (fCallF (fnT l) F A) := by
  refine ⟨fun pins s σ H Q I h => ?_⟩
  obtain ⟨β, δ, bx, ev, gd, o⟩ := h
  have h1 : tD X.K P E F σ H fun v H1 => ∃ (f : Addr) (x : Str), v = .ref f ∧ PySem.W.nsIn X.K mainGlobals x = some (some (.ref f)) ∧ PySem.W.keepIn X.K (.ref f) = true ∧
      (tDA X.K P E A) σ H1 fun zs H2 => ∃ β2 ds bx2, RA X.K β2 H2 zs ds ∧ Good X.K P.T β2 bx2 H2 ∧ Out X.K P β2 H2 (fnT l x ds bx2) Q E := by
    refine d_bind ev gd o.x fun β1 bx1 v d H1 l1 g1 r1 o1 => ?_
    cases r1 with
    | fn hn hk => exact ⟨_, _, rfl, hn, hk, a_bind (ev.le l1) g1 o1 fun β2 bx2 zs ds H2 l2 g2 r2 o2 => ⟨β2, ds, bx2, r2, g2, out_ofX o2⟩⟩
    | ref _ => exact o1.elim
    | non => exact o1.elim
    | bl _ => exact o1.elim
    | int _ => exact o1.elim
    | str _ => exact o1.elim
    | lst _ _ => exact o1.elim
    | tup _ _ => exact o1.elim
    | scr _ => exact o1.elim
  refine wpAny_Call_Name_kw (thn (hF.run pins s σ H _ I h1) fun u s1 hu => ?_)
  obtain ⟨v, H1, I1, rv, f, x, rfl, hn, hk, ht⟩ := hu
  have eu : u = Value.ref f := rv
  subst eu
  refine PySem.W.callWith_K (h₀ := X.base) I1.ok.mod.kin hk (thn (ha.run pos pins s1 σ H1 _ I1 ht) fun us s2 hs => ?_) he hpl
  obtain ⟨vs, H2, I2, r, β2, ds, bx2, ra, g2, o2⟩ := hs
  refine ⟨I2.kIn, ?_⟩
  rcases fnT_cases (x := x) all with ⟨a, CX, k, st, ps, m, Df, hr, hx, hB, hn', hm'⟩ | hB
  · rw [hB] at o2
    unfold fnR at o2
    split at o2
    · rename_i hlen
      have ea : a = f := by
        rw [hn] at hn'
        cases hn'
        rfl
      subst ea
      obtain ⟨f', fd, hm, hFn, hb, Fn⟩ := Df.ex
      have ef : f' = a := by
        rw [hm'] at hm
        cases hm
        rfl
      subst ef
      have lv : vs.length = ps.length := by rw [ra.length, hlen]
      have hbb := hb s2 us I2.kIn (by rw [List.append_nil, ← r.length]; exact lv)
      rw [List.append_nil] at hbb
      show wpAny _ _ (call (.ref f') us) _ _ _
      refine wpAny_call (codeAny_mono (Fn.run X.A X.stack s2 H2 ⟨us, []⟩ us vs Q E (fun z => by cases z) hr I2.env0 hbb r ⟨β2, ds, bx2, lv, ra, g2, o2⟩) fun rr s' hq => ?_)
      match rr, hq with
      | .error er, hq => exact hx pins σ H2 s2 er s' I2 hq
      | .ok fl, hq =>
        cases fl
        all_goals first
          | exact I2.after hq
          | exact False.elim hq
    · exact o2.elim
  · rw [hB] at o2
    exact o2.elim
end
section
variable {δ : List (Option D)} {bx : Sto} {Q : D → Sto → Prop} {E : Str → D → Sto → Prop} {B : Str → List D → Sto → Res D} {F : Fn D} {A : Fn (List D)}
theorem W_callF : W (fCallF B F A δ bx) Q E ↔ W (F δ bx) (fun d bx' => ∃ x, d = .fn x ∧ W (A δ bx') (fun ds bx'' => W (B x ds bx'') Q E) E) E := by
  unfold fCallF
  rw [W_bnd]
  cases F δ bx with
  | ok d bx' =>
    cases d with
    | fn x =>
      show W (bnd A (fun ds => fun _ bx => B x ds bx) δ bx') Q E ↔ ∃ y, D.fn x = .fn y ∧ _
      rw [W_bnd]
      exact ⟨fun h => ⟨x, rfl, h⟩, fun ⟨y, e, h⟩ => by cases e; exact h⟩
    | _ => exact ⟨fun h => h.elim, fun ⟨y, e, h⟩ => by cases e⟩
  | err c d bx' => exact Iff.rfl
  | bad => exact Iff.rfl
end
end Ms

end
section
set_option Elab.async false
set_option linter.all false
set_option maxRecDepth 100000
set_option maxHeartbeats 4000000
/-! max, min of a tuple of whole numbers. -/
namespace Ms
open PySem PySem.Spec PyProof.Rows L2
def rMaxT (K : PySem.W.Frag) : List V → Hp → VK → Prop := fun vs H Q => ∃ (a : Addr) (n : Int) (r : List Int), vs = [V.ref a] ∧ SqT K H a ((n :: r).map V.int) ∧ Q (.int (r.foldl max n)) H
def rMinT (K : PySem.W.Frag) : List V → Hp → VK → Prop := fun vs H Q => ∃ (a : Addr) (n : Int) (r : List Int), vs = [V.ref a] ∧ SqT K H a ((n :: r).map V.int) ∧ Q (.int (r.foldl min n)) H
section
variable {X : Cx} {P : Pm}
theorem cr_maxT (hu : X.A.units + 64 < cLine) (hc : X.calm = true) : CallR X (.builtin "max") (rMaxT X.K) := by
  intro pins s σ H vs us Q I r h
  obtain ⟨a, n, t, rfl, hs, q⟩ := h
  obtain ⟨its, rv, hl, _⟩ := I.tuple hs
  rw [Vals.ref1 r]
  obtain ⟨as, rs⟩ := Dp.readsAll I ((n :: t).map PyData.int) _ its (dp_ints (n :: t)) rv
  refine PySem.W.max_tuple_data (vs := its.toArray) (x := .int n) (xs := t.map PyData.int) (I.ok.hd hc) hl rs (alike_ints (n :: t)) (by
    have : PyData.depthAll ((n :: t).map PyData.int) ≤ 1 := by rw [PySem.W.ke_depthAll]; omega
    show X.A.units + 1 + PyData.depthAll ((n :: t).map PyData.int) < cLine
    omega) fun i v h' tk bs hi r hk => ?_
  rw [PySem.W.maxD_ints] at r
  cases r
  exact ⟨.int _, H, I.kept hk, ⟨_, rfl⟩, q⟩
theorem cr_minT (hu : X.A.units + 64 < cLine) (hc : X.calm = true) : CallR X (.builtin "min") (rMinT X.K) := by
  intro pins s σ H vs us Q I r h
  obtain ⟨a, n, t, rfl, hs, q⟩ := h
  obtain ⟨its, rv, hl, _⟩ := I.tuple hs
  rw [Vals.ref1 r]
  obtain ⟨as, rs⟩ := Dp.readsAll I ((n :: t).map PyData.int) _ its (dp_ints (n :: t)) rv
  refine PySem.W.min_tuple_data (vs := its.toArray) (x := .int n) (xs := t.map PyData.int) (I.ok.hd hc) hl rs (alike_ints (n :: t)) (by
    have : PyData.depthAll ((n :: t).map PyData.int) ≤ 1 := by rw [PySem.W.ke_depthAll]; omega
    show X.A.units + 1 + PyData.depthAll ((n :: t).map PyData.int) < cLine
    omega) fun i v h' tk bs hi r hk => ?_
  rw [PySem.W.minD_ints] at r
  cases r
  exact ⟨.int _, H, I.kept hk, ⟨_, rfl⟩, q⟩
def cMaxT (st : Sto) : List D → Option D
  | [.tup l] => (toInts l).bind fun ns => match ns with
    | n :: r => some (.int (r.foldl max n))
    | [] => none
  | _ => none
def cMinT (st : Sto) : List D → Option D
  | [.tup l] => (toInts l).bind fun ns => match ns with
    | n :: r => some (.int (r.foldl min n))
    | [] => none
  | _ => none
theorem cd_maxT : CallD X P (rMaxT X.K) cMaxT := by
  intro β bx H xs ds z Q g r h k
  unfold cMaxT at h
  split at h
  · rename_i l
    obtain ⟨v, rfl, r1⟩ := r.one
    cases hn : toInts l with
    | none => rw [hn] at h; cases h
    | some ns =>
      rw [hn] at h
      match ns, hn, h with
      | n :: t, hn, h =>
        cases h
        have e := toInts_inv hn
        subst e
        cases r1 with
        | tup s ra =>
          rw [ra.ints_inv] at s
          exact ⟨_, n, t, rfl, .inl s.1, k _ H .refl g (.int _)⟩
  · cases h
theorem cd_minT : CallD X P (rMinT X.K) cMinT := by
  intro β bx H xs ds z Q g r h k
  unfold cMinT at h
  split at h
  · rename_i l
    obtain ⟨v, rfl, r1⟩ := r.one
    cases hn : toInts l with
    | none => rw [hn] at h; cases h
    | some ns =>
      rw [hn] at h
      match ns, hn, h with
      | n :: t, hn, h =>
        cases h
        have e := toInts_inv hn
        subst e
        cases r1 with
        | tup s ra =>
          rw [ra.ints_inv] at s
          exact ⟨_, n, t, rfl, .inl s.1, k _ H .refl g (.int _)⟩
  · cases h
end
theorem ev_maxT2 {bx : Sto} {i j : Int} : cMaxT bx [.tup [.int i, .int j]] = some (.int (max i j)) := rfl
theorem ev_minT2 {bx : Sto} {i j : Int} : cMinT bx [.tup [.int i, .int j]] = some (.int (min i j)) := rfl
end Ms

end
section
set_option Elab.async false
set_option linter.all false
set_option maxRecDepth 100000
set_option maxHeartbeats 4000000
namespace K16
open PySem PySem.Spec PyProof.Rows L2 Ms
abbrev N__law_box : List Str := ["_law_script", "_law_k", "_law_cell", "_law_great"]
def S__law_box : Sn := (sSeq (sSet 2 (f2 cPlus (f2 cMul (pur (.int 7451)) (fVar 1)) (pur (.int 1061)))) (sSeq (sIf (fB (f2 (iB fun i j => decide (i < j)) (fVar 1) (fA cLen (fCons (fVar 0) (pur []))))) (sSeq (sSet 2 (fA cAbs (fCons (fA cInt (fCons (f2 cIx (fVar 0) (fVar 1)) (pur []))) (pur [])))) sNext) (sSeq (sIf (fB (f2 (iB fun i j => decide (j < i)) (fA cLen (fCons (fVar 0) (pur []))) (pur (.int 0)))) (sSeq (sSet 2 (f2 cPlus (fVar 2) (f2 cMul (f2 cMod (fA cInt (fCons (fA cAbs (fCons (fA cInt (fCons (f2 cIx (fVar 0) (f2 cMod (fA cInt (fCons (fVar 1) (pur []))) (fA cLen (fCons (fVar 0) (pur []))))) (pur []))) (pur []))) (pur []))) (pur (.int 2147483587))) (pur (.int 50461))))) sNext) sNext) sNext)) (sSeq (sSet 3 (fIfT (fB (f2 (iB fun i j => decide (j ≤ i)) (fVar 2) (f2 cPow (pur (.int 10)) (pur (.int 18))))) (fVar 2) (pur (.int 0)))) (sSeq (sRet (fNew (fCons (fVar 3) (fCons (f2 cPlus (f2 cMod (fA cInt (fCons (f2 cPlus (f2 cMul (f2 cMod (fA cInt (fCons (fVar 2) (pur []))) (pur (.int 2147483587))) (pur (.int 69761))) (f2 cMul (pur (.int 1061)) (fVar 1))) (pur []))) (pur (.int 2147483587))) (pur (.int 1))) (pur []))))) sNext))))
def m__law_box : List D → Sto → Res D := fun ds bx => noErr (fnD N__law_box S__law_box ds bx)

abbrev N__law_take : List Str := ["_law_box_here", "_law_many", "_law_digit", "_law_raw"]
def S__law_take : Sn := (sSeq (sIf (fB (f2 (iB fun i j => decide (j < i)) (f2 cIx (fVar 0) (pur (.int 0))) (pur (.int 0)))) (sSeq (sSet 2 (f2 cMod (fA cInt (fCons (f2 cIx (fVar 0) (pur (.int 0))) (pur []))) (fVar 1))) (sSeq (sPut (f2 cDiv (f2 cIx (fVar 0) (pur (.int 0))) (fVar 1)) (fVar 0) (pur (.int 0))) (sSeq (sRet (fVar 2)) sNext))) sNext) (sSeq (sSet 3 (f2 cMod (fA cInt (fCons (f2 cPlus (f2 cMul (f2 cIx (fVar 0) (pur (.int 1))) (pur (.int 40692))) (pur (.int 79))) (pur []))) (pur (.int 2147483399)))) (sSeq (sPut (f2 cPlus (f2 cMod (fA cInt (fCons (f2 cPlus (f2 cMul (fVar 3) (pur (.int 39373))) (pur (.int 31))) (pur []))) (pur (.int 2147483587))) (pur (.int 1))) (fVar 0) (pur (.int 1))) (sSeq (sRet (f2 cMod (fA cInt (fCons (f2 cDiv (f2 cPlus (f2 cMul (fVar 3) (pur (.int 2147483629))) (f2 cIx (fVar 0) (pur (.int 1)))) (pur (.int 8167))) (pur []))) (fVar 1))) sNext))))
def m__law_take : List D → Sto → Res D := fun ds bx => noErr (fnD N__law_take S__law_take ds bx)

abbrev N__law_tent : List Str := ["_law_box_here", "_law_most", "_law_rate", "_law_ticks", "_law_first"]
def S__law_tent : Sn := (sSeq (sPar3 2 3 4 (fCons (f2 cPlus (pur (.int 1)) (fCall m__law_take (fCons (fVar 0) (fCons (pur (.int 2)) (pur []))))) (fCons (fCall m__law_take (fCons (fVar 0) (fCons (f2 cPlus (fVar 1) (pur (.int 1))) (pur [])))) (fCons (f2 cSub (fCall m__law_take (fCons (fVar 0) (fCons (pur (.int 9)) (pur [])))) (pur (.int 4))) (pur []))))) (sSeq (sRet (fA cTup (fCons (fVar 4) (fCons (f2 cSub (f2 cPlus (fVar 4) (fCall m__law_take (fCons (fVar 0) (fCons (f2 cPlus (f2 cMul (f2 cMul (pur (.int 2)) (fVar 2)) (fVar 3)) (pur (.int 1))) (pur []))))) (f2 cMul (fVar 2) (fVar 3))) (fCons (fVar 2) (fCons (fVar 3) (pur []))))))) sNext))
def m__law_tent : List D → Sto → Res D := fun ds bx => noErr (fnD N__law_tent S__law_tent ds bx)

abbrev N__law_paths : List Str := ["_law_tent_here", "_law_first", "_law_last", "_law_rate", "_law_ticks", "_law_found", "_law_tick", "_law_longer", "_law_path", "_law_step"]
def S__law_paths : Sn := (sSeq (sUnp [1, 2, 3, 4] (fVar 0)) (sSeq (sSet 5 (fA cLst (fCons (fA cTup (fCons (fVar 1) (pur []))) (pur [])))) (sSeq (sFor (bOne 6) (fRg1 (fCons (fVar 4) (pur []))) (sSeq (sSet 7 (fA cLst (pur []))) (sSeq (sFor (bOne 8) (fWk (fVar 5)) (sSeq (sSet 7 (f2 cPlus (fVar 7) (fLc [9] (bOne 9) (fRg2 (fCons (f2 cSub (pur (.int 0)) (fVar 3)) (fCons (f2 cPlus (fVar 3) (pur (.int 1))) (pur [])))) (pur true) (f2 cPlus (fVar 8) (fA cTup (fCons (f2 cPlus (f2 cIx (fVar 8) (f1 cNeg (pur (.int 1)))) (fVar 9)) (pur []))))))) sNext)) (sSeq (sSet 5 (fLc [8] (bOne 8) (fWk (fVar 7)) (fB (f2 (iB fun i j => decide (i ≤ j)) (fA cAbs (fCons (f2 cSub (fVar 2) (f2 cIx (fVar 8) (f1 cNeg (pur (.int 1))))) (pur []))) (f2 cMul (fVar 3) (f2 cSub (f2 cSub (fVar 4) (fVar 6)) (pur (.int 1)))))) (fVar 8))) sNext)))) (sSeq (sRet (fVar 5)) sNext))))
def m__law_paths : List D → Sto → Res D := fun ds bx => noErr (fnD N__law_paths S__law_paths ds bx)

abbrev N__law_pick : List Str := ["_law_box_here", "_law_some"]
def S__law_pick : Sn := (sSeq (sRet (f2 cIx (fVar 1) (fCall m__law_take (fCons (fVar 0) (fCons (fA cLen (fCons (fVar 1) (pur []))) (pur [])))))) sNext)
def m__law_pick : List D → Sto → Res D := fun ds bx => noErr (fnD N__law_pick S__law_pick ds bx)

abbrev N_is_sequence : List Str := ["value"]
def S_is_sequence : Sn := (sSeq (sRet (f1 (cIsi2 "list" "tuple") (fVar 0))) sNext)
def m_is_sequence : List D → Sto → Res D := fun ds bx => noErr (fnD N_is_sequence S_is_sequence ds bx)

abbrev N_has_parts : List Str := ["value", "many"]
def S_has_parts : Sn := (sSeq (sRet (fIfB (fCall m_is_sequence (fCons (fVar 0) (pur []))) (f2 cEqD (fA cLen (fCons (fVar 0) (pur []))) (fVar 1)) (pur (.bl false)))) sNext)
def m_has_parts : List D → Sto → Res D := fun ds bx => noErr (fnD N_has_parts S_has_parts ds bx)

abbrev N_is_integer : List Str := ["value"]
def S_is_integer : Sn := (sSeq (sRet (fIfB (f1 (cIsi "int") (fVar 0)) (f1 cNot (f1 (cIsi "bool") (fVar 0))) (pur (.bl false)))) sNext)
def m_is_integer : List D → Sto → Res D := fun ds bx => noErr (fnD N_is_integer S_is_integer ds bx)

abbrev N_is_number : List Str := ["value"]
def S_is_number : Sn := (sSeq (sRet (fIfB (fCall m_is_integer (fCons (fVar 0) (pur []))) (f2 (iB fun i j => decide (j ≤ i)) (fVar 0) (pur (.int 0))) (pur (.bl false)))) sNext)
def m_is_number : List D → Sto → Res D := fun ds bx => noErr (fnD N_is_number S_is_number ds bx)

abbrev N_check_tent : List Str := ["value", "first", "last", "rate", "ticks"]
def S_check_tent : Sn := (sSeq (sIf (fNot (fB (fCall m_has_parts (fCons (fVar 0) (fCons (pur (.int 4)) (pur [])))))) (sSeq (sRaise "Refused" (fVar 0)) sNext) sNext) (sSeq (sUnp [1, 2, 3, 4] (fVar 0)) (sSeq (sIf (fIfT (fNot (fB (fCall m_is_integer (fCons (fVar 1) (pur []))))) (pur true) (fIfT (fNot (fB (fCall m_is_integer (fCons (fVar 2) (pur []))))) (pur true) (fIfT (fNot (fB (fCall m_is_number (fCons (fVar 3) (pur []))))) (pur true) (fNot (fB (fCall m_is_number (fCons (fVar 4) (pur [])))))))) (sSeq (sRaise "Refused" (fVar 0)) sNext) sNext) (sSeq (sIf (fIfT (fB (f2 cEqD (fVar 3) (pur (.int 0)))) (pur true) (fB (f2 (iB fun i j => decide (j < i)) (fA cAbs (fCons (f2 cSub (fVar 1) (fVar 2)) (pur []))) (f2 cMul (fVar 3) (fVar 4))))) (sSeq (sRaise "Refused" (fVar 0)) sNext) sNext) (sSeq (sRet (fA cTupOf (fCons (fVar 0) (pur [])))) sNext)))))
def m_check_tent : List D → Sto → Res D := fnD N_check_tent S_check_tent

abbrev N__high : List Str := ["tent", "tick", "first", "last", "rate", "ticks"]
def S__high : Sn := (sSeq (sUnp [2, 3, 4, 5] (fVar 0)) (sSeq (sRet (fA cMin (fCons (f2 cPlus (fVar 2) (f2 cMul (fVar 4) (fVar 1))) (fCons (f2 cPlus (fVar 3) (f2 cMul (fVar 4) (f2 cSub (fVar 5) (fVar 1)))) (pur []))))) sNext))
def m__high : List D → Sto → Res D := fun ds bx => noErr (fnD N__high S__high ds bx)

abbrev N_highest : List Str := ["tent", "first", "last", "rate", "ticks", "tick"]
def S_highest : Sn := (sSeq (sSet 0 (fCall m_check_tent (fCons (fVar 0) (pur [])))) (sSeq (sUnp [1, 2, 3, 4] (fVar 0)) (sSeq (sSet 5 (f2 cDiv (f2 cPlus (f2 cSub (fVar 2) (fVar 1)) (f2 cMul (fVar 3) (fVar 4))) (f2 cMul (pur (.int 2)) (fVar 3)))) (sSeq (sRet (fA cMax (fCons (fCall m__high (fCons (fVar 0) (fCons (fVar 5) (pur [])))) (fCons (fCall m__high (fCons (fVar 0) (fCons (fA cMin (fCons (f2 cPlus (fVar 5) (pur (.int 1))) (fCons (fVar 4) (pur [])))) (pur [])))) (pur []))))) sNext))))
def m_highest : List D → Sto → Res D := fnD N_highest S_highest

abbrev N_lowest : List Str := ["tent", "first", "last", "rate", "ticks"]
def S_lowest : Sn := (sSeq (sUnp [1, 2, 3, 4] (fCall m_check_tent (fCons (fVar 0) (pur [])))) (sSeq (sRet (f1 cNeg (fCall m_highest (fCons (fA cTup (fCons (f1 cNeg (fVar 1)) (fCons (f1 cNeg (fVar 2)) (fCons (fVar 3) (fCons (fVar 4) (pur [])))))) (pur []))))) sNext))
def m_lowest : List D → Sto → Res D := fnD N_lowest S_lowest

abbrev N_need_integer : List Str := ["value"]
def S_need_integer : Sn := (sSeq (sIf (fNot (fB (fCall m_is_integer (fCons (fVar 0) (pur []))))) (sSeq (sRaise "Refused" (fVar 0)) sNext) sNext) sNext)
def m_need_integer : List D → Sto → Res D := fnD N_need_integer S_need_integer

abbrev N__checked_limit : List Str := ["tent", "limit"]
def S__checked_limit : Sn := (sSeq (sSet 0 (fCall m_check_tent (fCons (fVar 0) (pur [])))) (sSeq (sDrop (fCall m_need_integer (fCons (fVar 1) (pur [])))) (sSeq (sRet (fVar 0)) sNext)))
def m__checked_limit : List D → Sto → Res D := fnD N__checked_limit S__checked_limit

abbrev N__low : List Str := ["tent", "tick", "first", "last", "rate", "ticks"]
def S__low : Sn := (sSeq (sUnp [2, 3, 4, 5] (fVar 0)) (sSeq (sRet (fA cMax (fCons (f2 cSub (fVar 2) (f2 cMul (fVar 4) (fVar 1))) (fCons (f2 cSub (fVar 3) (f2 cMul (fVar 4) (f2 cSub (fVar 5) (fVar 1)))) (pur []))))) sNext))
def m__low : List D → Sto → Res D := fun ds bx => noErr (fnD N__low S__low ds bx)

abbrev N_above_at : List Str := ["tent", "limit", "tick"]
def S_above_at : Sn := (sSeq (sSet 0 (fCall m__checked_limit (fCons (fVar 0) (fCons (fVar 1) (pur []))))) (sSeq (sRet (fA cTupOf (fCons (fLc [2] (bOne 2) (fRg1 (fCons (f2 cPlus (f2 cIx (fVar 0) (pur (.int 3))) (pur (.int 1))) (pur []))) (fB (f2 (iB fun i j => decide (j < i)) (fCall m__low (fCons (fVar 0) (fCons (fVar 2) (pur [])))) (fVar 1))) (fVar 2)) (pur [])))) sNext))
def m_above_at : List D → Sto → Res D := fnD N_above_at S_above_at

abbrev N_can_be_above : List Str := ["tent", "limit", "tick"]
def S_can_be_above : Sn := (sSeq (sSet 0 (fCall m__checked_limit (fCons (fVar 0) (fCons (fVar 1) (pur []))))) (sSeq (sRet (fA cTupOf (fCons (fLc [2] (bOne 2) (fRg1 (fCons (f2 cPlus (f2 cIx (fVar 0) (pur (.int 3))) (pur (.int 1))) (pur []))) (fB (f2 (iB fun i j => decide (j < i)) (fCall m__high (fCons (fVar 0) (fCons (fVar 2) (pur [])))) (fVar 1))) (fVar 2)) (pur [])))) sNext))
def m_can_be_above : List D → Sto → Res D := fnD N_can_be_above S_can_be_above

abbrev N__surely_behind : List Str := ["value", "limit", "rate"]
def S__surely_behind : Sn := (sSeq (sRet (fA cMax (fCons (pur (.int 0)) (fCons (f1 cNeg (f2 cDiv (f1 cNeg (f2 cSub (fVar 0) (fVar 1))) (fVar 2))) (pur []))))) sNext)
def m__surely_behind : List D → Sto → Res D := fun ds bx => noErr (fnD N__surely_behind S__surely_behind ds bx)

abbrev N__not_yet_behind : List Str := ["value", "limit", "rate"]
def S__not_yet_behind : Sn := (sSeq (sRet (fA cMax (fCons (pur (.int 0)) (fCons (f2 cPlus (f2 cDiv (f2 cSub (fVar 1) (fVar 0)) (fVar 2)) (pur (.int 1))) (pur []))))) sNext)
def m__not_yet_behind : List D → Sto → Res D := fun ds bx => noErr (fnD N__not_yet_behind S__not_yet_behind ds bx)

abbrev N_many_above : List Str := ["tent", "limit", "first", "last", "rate", "ticks", "surely", "not_yet"]
def S_many_above : Sn := (sSeq (sUnp [2, 3, 4, 5] (fCall m__checked_limit (fCons (fVar 0) (fCons (fVar 1) (pur []))))) (sSeq (sSet 6 (f2 cPlus (fCall m__surely_behind (fCons (fVar 2) (fCons (fVar 1) (fCons (fVar 4) (pur []))))) (fCall m__surely_behind (fCons (fVar 3) (fCons (fVar 1) (fCons (fVar 4) (pur []))))))) (sSeq (sSet 7 (f2 cPlus (fCall m__not_yet_behind (fCons (fVar 2) (fCons (fVar 1) (fCons (fVar 4) (pur []))))) (fCall m__not_yet_behind (fCons (fVar 3) (fCons (fVar 1) (fCons (fVar 4) (pur []))))))) (sSeq (sRet (fA cTup (fCons (fA cMin (fCons (f2 cPlus (fVar 5) (pur (.int 1))) (fCons (fVar 6) (pur [])))) (fCons (fA cMax (fCons (pur (.int 0)) (fCons (f2 cSub (f2 cPlus (fVar 5) (pur (.int 1))) (fVar 7)) (pur [])))) (pur []))))) sNext))))
def m_many_above : List D → Sto → Res D := fnD N_many_above S_many_above

abbrev N_is_within : List Str := ["value", "least", "most"]
def S_is_within : Sn := (sSeq (sRet (fIfB (fCall m_is_integer (fCons (fVar 0) (pur []))) (fChain (fun i j => decide (i ≤ j)) (fun i j => decide (i ≤ j)) (fVar 1) (fVar 0) (fVar 2)) (pur (.bl false)))) sNext)
def m_is_within : List D → Sto → Res D := fun ds bx => noErr (fnD N_is_within S_is_within ds bx)

abbrev N_need_within : List Str := ["value", "least", "most"]
def S_need_within : Sn := (sSeq (sIf (fNot (fB (fCall m_is_within (fCons (fVar 0) (fCons (fVar 1) (fCons (fVar 2) (pur []))))))) (sSeq (sRaise "Refused" (fVar 0)) sNext) sNext) sNext)
def m_need_within : List D → Sto → Res D := fnD N_need_within S_need_within

abbrev N__need_tick : List Str := ["tent", "tick"]
def S__need_tick : Sn := (sSeq (sDrop (fCall m_need_within (fCons (fVar 1) (fCons (pur (.int 0)) (fCons (f2 cIx (fVar 0) (pur (.int 3))) (pur [])))))) sNext)
def m__need_tick : List D → Sto → Res D := fnD N__need_tick S__need_tick

abbrev N__leg : List Str := ["start", "end", "ticks", "tick"]
def S__leg : Sn := (sSeq (sRet (fA cTupOf (fCons (fLc [3] (bOne 3) (fRg1 (fCons (fVar 2) (pur []))) (pur true) (f2 cPlus (fVar 0) (f2 cDiv (f2 cMul (f2 cSub (fVar 1) (fVar 0)) (fVar 3)) (fVar 2)))) (pur [])))) sNext)
def m__leg : List D → Sto → Res D := fun ds bx => noErr (fnD N__leg S__leg ds bx)

abbrev N_path_at : List Str := ["tent", "tick", "value", "first", "last", "_", "ticks"]
def S_path_at : Sn := (sSeq (sSet 0 (fCall m_check_tent (fCons (fVar 0) (pur [])))) (sSeq (sDrop (fCall m__need_tick (fCons (fVar 0) (fCons (fVar 1) (pur []))))) (sSeq (sDrop (fCall m_need_within (fCons (fVar 2) (fCons (fCall m__low (fCons (fVar 0) (fCons (fVar 1) (pur [])))) (fCons (fCall m__high (fCons (fVar 0) (fCons (fVar 1) (pur [])))) (pur [])))))) (sSeq (sUnp [3, 4, 5, 6] (fVar 0)) (sSeq (sRet (f2 cPlus (f2 cPlus (fCall m__leg (fCons (fVar 3) (fCons (fVar 2) (fCons (fVar 1) (pur []))))) (fCall m__leg (fCons (fVar 2) (fCons (fVar 4) (fCons (f2 cSub (fVar 6) (fVar 1)) (pur [])))))) (fA cTup (fCons (fVar 4) (pur []))))) sNext)))))
def m_path_at : List D → Sto → Res D := fnD N_path_at S_path_at

abbrev N__law_bent : List Str := ["_law_box_here", "_law_path", "_law_found", "_law_at", "_law_way"]
def S__law_bent : Sn := (sSeq (sPar3 2 3 4 (fCons (fNewOf (fVar 1)) (fCons (fCall m__law_take (fCons (fVar 0) (fCons (fA cLen (fCons (fVar 1) (pur []))) (pur [])))) (fCons (fCall m__law_take (fCons (fVar 0) (fCons (pur (.int 6)) (pur [])))) (pur []))))) (sSeq (sIf (fB (f2 cEqD (fVar 4) (pur (.int 0)))) (sSeq (sRet (fCall m__law_pick (fCons (fVar 0) (fCons (fA cLst (fCons (pur .non) (fCons (pur (.int 5)) (fCons (pur (.str "0")) (fCons (fA cTup (pur [])) (fCons (f2 cPlus (fVar 2) (fSl (fVar 2) (fPo (f1 cNeg (pur (.int 1)))) fPoN)) (fCons (fSl (fVar 2) (fPo (pur (.int 1))) fPoN) (fCons (f2 cPlus (f2 cPlus (fSl (fVar 2) fPoN (fPo (fVar 3))) (fA cLst (fCons (pur .non) (pur [])))) (fSl (fVar 2) (fPo (f2 cPlus (fVar 3) (pur (.int 1)))) fPoN)) (fCons (f2 cPlus (f2 cPlus (fSl (fVar 2) fPoN (fPo (fVar 3))) (fA cLst (fCons (pur (.bl true)) (pur [])))) (fSl (fVar 2) (fPo (f2 cPlus (fVar 3) (pur (.int 1)))) fPoN)) (pur [])))))))))) (pur []))))) sNext) sNext) (sSeq (sIf (fB (f2 (iB fun i j => decide (i < j)) (fVar 4) (pur (.int 3)))) (sSeq (sPut (f2 cPlus (f2 cIx (fVar 2) (fVar 3)) (fCall m__law_pick (fCons (fVar 0) (fCons (fA cLst (fCons (pur (.int 1)) (fCons (f2 cSub (pur (.int 0)) (pur (.int 1))) (fCons (pur (.int 3)) (pur []))))) (pur []))))) (fVar 2) (fVar 3)) sNext) sNext) (sSeq (sFrz 2) (sSeq (sRet (fIfT (fB (f2 cEqD (fVar 4) (pur (.int 3)))) (fA cTupOf (fCons (fVar 2) (pur []))) (fVar 2))) sNext)))))
def m__law_bent : List D → Sto → Res D := fun ds bx => noErr (fnD N__law_bent S__law_bent ds bx)

abbrev N__law_numbers : List Str := ["_law_paths_here", "_law_limit", "_law_counts", "_law_value", "_law_path"]
def S__law_numbers : Sn := (sSeq (sSet 2 (fLc [4] (bOne 4) (fWk (fVar 0)) (pur true) (fA cLen (fCons (fLc [3] (bOne 3) (fWk (fVar 4)) (fB (f2 (iB fun i j => decide (j < i)) (fVar 3) (fVar 1))) (fVar 3)) (pur []))))) (sSeq (sRet (fA cTup (fCons (fA cMinL (fCons (fVar 2) (pur []))) (fCons (fA cMaxL (fCons (fVar 2) (pur []))) (pur []))))) sNext))
def m__law_numbers : List D → Sto → Res D := fun ds bx => noErr (fnD N__law_numbers S__law_numbers ds bx)

abbrev N__law_is_path : List Str := ["_law_tent_here", "_law_value", "_law_first", "_law_last", "_law_rate", "_law_ticks", "_law_one", "_law_at"]
def S__law_is_path : Sn := (sSeq (sUnp [2, 3, 4, 5] (fVar 0)) (sSeq (sIf (fIfT (fNot (fB (f1 (cIsi2 "list" "tuple") (fVar 1)))) (pur true) (fB (f2 cNeD (fA cLen (fCons (fVar 1) (pur []))) (f2 cPlus (fVar 5) (pur (.int 1)))))) (sSeq (sRet (pur (.bl false))) sNext) sNext) (sSeq (sIf (fB (f2 cNeD (fLc [6] (bOne 6) (fWk (fVar 1)) (fIfT (fNot (fB (f1 (cIsi "int") (fVar 6)))) (pur true) (fB (f1 (cIsi "bool") (fVar 6)))) (fVar 6)) (fA cLst (pur [])))) (sSeq (sRet (pur (.bl false))) sNext) sNext) (sSeq (sIf (fIfT (fB (f2 cNeD (f2 cIx (fVar 1) (pur (.int 0))) (fVar 2))) (pur true) (fB (f2 cNeD (f2 cIx (fVar 1) (f1 cNeg (pur (.int 1)))) (fVar 3)))) (sSeq (sRet (pur (.bl false))) sNext) sNext) (sSeq (sRet (f2 cEqD (fLc [7] (bOne 7) (fRg1 (fCons (fVar 5) (pur []))) (fB (f2 (iB fun i j => decide (j < i)) (fA cAbs (fCons (f2 cSub (f2 cIx (fVar 1) (f2 cPlus (fVar 7) (pur (.int 1)))) (f2 cIx (fVar 1) (fVar 7))) (pur []))) (fVar 4))) (fVar 7)) (fA cLst (pur [])))) sNext)))))
def m__law_is_path : List D → Sto → Res D := fun ds bx => noErr (fnD N__law_is_path S__law_is_path ds bx)

abbrev N_values_at : List Str := ["tent", "tick"]
def S_values_at : Sn := (sSeq (sSet 0 (fCall m_check_tent (fCons (fVar 0) (pur [])))) (sSeq (sDrop (fCall m__need_tick (fCons (fVar 0) (fCons (fVar 1) (pur []))))) (sSeq (sRet (fA cTup (fCons (fCall m__low (fCons (fVar 0) (fCons (fVar 1) (pur [])))) (fCons (fCall m__high (fCons (fVar 0) (fCons (fVar 1) (pur [])))) (pur []))))) sNext)))
def m_values_at : List D → Sto → Res D := fnD N_values_at S_values_at

abbrev N_path_holds : List Str := ["tent", "value", "first", "last", "rate", "ticks", "part", "one", "other"]
def S_path_holds : Sn := (sSeq (sUnp [2, 3, 4, 5] (fCall m_check_tent (fCons (fVar 0) (pur [])))) (sSeq (sIf (fIfT (fNot (fB (fCall m_has_parts (fCons (fVar 1) (fCons (f2 cPlus (fVar 5) (pur (.int 1))) (pur [])))))) (pur true) (fNot (fB (fAllG [6] (bOne 6) (fWk (fVar 1)) (fCall m_is_integer (fCons (fVar 6) (pur []))))))) (sSeq (sRet (pur (.bl false))) sNext) sNext) (sSeq (sIf (fIfT (fB (f2 cNeD (f2 cIx (fVar 1) (pur (.int 0))) (fVar 2))) (pur true) (fB (f2 cNeD (f2 cIx (fVar 1) (f1 cNeg (pur (.int 1)))) (fVar 3)))) (sSeq (sRet (pur (.bl false))) sNext) sNext) (sSeq (sRet (fA cAll (fCons (fLc [7, 8] (bTup [7, 8]) (fZip (fCons (fVar 1) (fCons (fSl (fVar 1) (fPo (pur (.int 1))) fPoN) (pur [])))) (pur true) (f2 (iB fun i j => decide (i ≤ j)) (fA cAbs (fCons (f2 cSub (fVar 7) (fVar 8)) (pur []))) (fVar 4))) (pur [])))) sNext))))
def m_path_holds : List D → Sto → Res D := fnD N_path_holds S_path_holds

abbrev N__law_is_right : List Str := ["_law_box_here", "_law_tent_here", "_law_spans", "_law_paths_here", "_law_limit", "_law_told", "_law_due", "_law_low", "_law_high", "_law_tick", "_law_turn", "_law_value", "_law_path", "_law_some", "_law_bad"]
def S__law_is_right : Sn := (sSeq (sSet 4 (fCall m__law_pick (fCons (fVar 0) (fCons (fA cLst (fCons (f2 cIx (fVar 1) (pur (.int 0))) (fCons (f2 cIx (fVar 1) (pur (.int 1))) (fCons (f2 cSub (fA cMinT (fCons (fSl (fVar 1) fPoN (fPo (pur (.int 2)))) (pur []))) (pur (.int 1))) (fCons (f2 cPlus (fA cMaxT (fCons (fSl (fVar 1) fPoN (fPo (pur (.int 2)))) (pur []))) (fCall m__law_take (fCons (fVar 0) (fCons (pur (.int 3)) (pur []))))) (pur [])))))) (pur []))))) (sSeq (sSet 5 (fA cLst (fCons (fCall m_highest (fCons (fVar 1) (pur []))) (fCons (fCallK m_lowest [0] (fCons (fA cListOf (fCons (fVar 1) (pur []))) (pur []))) (fCons (fCall m_above_at (fCons (fVar 1) (fCons (fVar 4) (pur [])))) (fCons (fCallK m_can_be_above [1, 0] (fCons (fVar 4) (fCons (fVar 1) (pur [])))) (fCons (fCall m_many_above (fCons (fVar 1) (fCons (fVar 4) (pur [])))) (pur [])))))))) (sSeq (sSet 6 (fA cLst (fCons (fA cMaxL (fCons (fLc [7, 8] (bTup [7, 8]) (fWk (fVar 2)) (pur true) (fVar 8)) (pur []))) (fCons (fA cMinL (fCons (fLc [7, 8] (bTup [7, 8]) (fWk (fVar 2)) (pur true) (fVar 7)) (pur []))) (pur []))))) (sSeq (sSet 6 (f2 cPlus (fVar 6) (fA cLst (fCons (fA cTupOf (fCons (fLc [9] (bOne 9) (fRg1 (fCons (fA cLen (fCons (fVar 2) (pur []))) (pur []))) (fB (f2 (iB fun i j => decide (j < i)) (f2 cIx (f2 cIx (fVar 2) (fVar 9)) (pur (.int 0))) (fVar 4))) (fVar 9)) (pur []))) (fCons (fA cTupOf (fCons (fLc [9] (bOne 9) (fRg1 (fCons (fA cLen (fCons (fVar 2) (pur []))) (pur []))) (fB (f2 (iB fun i j => decide (j < i)) (f2 cIx (f2 cIx (fVar 2) (fVar 9)) (pur (.int 1))) (fVar 4))) (fVar 9)) (pur []))) (pur [])))))) (sSeq (sIf (fIfT (fB (f2 cNeD (fA cRepr (fCons (fSl (fVar 5) fPoN (fPo (pur (.int 4)))) (pur []))) (fA cRepr (fCons (fVar 6) (pur []))))) (pur true) (fIfT (fB (f2 cNeD (fA cRepr (fCons (f2 cIx (fVar 5) (pur (.int 4))) (pur []))) (fA cRepr (fCons (fA cTup (fCons (fA cLen (fCons (f2 cIx (fVar 6) (pur (.int 2))) (pur []))) (fCons (fA cLen (fCons (f2 cIx (fVar 6) (pur (.int 3))) (pur []))) (pur [])))) (pur []))))) (pur true) (fB (f2 cNeD (fCallK m_many_above [1, 0] (fCons (fVar 4) (fCons (fVar 1) (pur [])))) (f2 cIx (fVar 5) (pur (.int 4))))))) (sSeq (sRet (pur (.bl false))) sNext) sNext) (sSeq (sIf (fIfT (fB (f1 cNotN (fVar 3))) (fB (f2 cNeD (fA cRepr (fCons (f2 cIx (fVar 5) (pur (.int 4))) (pur []))) (fA cRepr (fCons (fCall m__law_numbers (fCons (fVar 3) (fCons (fVar 4) (pur [])))) (pur []))))) (pur false)) (sSeq (sRet (pur (.bl false))) sNext) sNext) (sSeq (sFor (bOne 10) (fRg1 (fCons (pur (.int 3)) (pur []))) (sSeq (sSet 9 (fCall m__law_take (fCons (fVar 0) (fCons (fA cLen (fCons (fVar 2) (pur []))) (pur []))))) (sSeq (sUnp [7, 8] (f2 cIx (fVar 2) (fVar 9))) (sSeq (sIf (fB (f2 cNeD (fA cRepr (fCons (fA cLst (fCons (fCall m_values_at (fCons (fVar 1) (fCons (fVar 9) (pur [])))) (fCons (fCallK m_values_at [1, 0] (fCons (fVar 9) (fCons (fA cListOf (fCons (fVar 1) (pur []))) (pur [])))) (pur [])))) (pur []))) (fA cRepr (fCons (f2 cRep (fNew (fCons (fA cTup (fCons (fVar 7) (fCons (fVar 8) (pur [])))) (pur []))) (pur (.int 2))) (pur []))))) (sSeq (sRet (pur (.bl false))) sNext) sNext) (sSeq (sSet 11 (f2 cPlus (fVar 7) (fCall m__law_take (fCons (fVar 0) (fCons (f2 cPlus (f2 cSub (fVar 8) (fVar 7)) (pur (.int 1))) (pur [])))))) (sSeq (sSet 12 (fCall m_path_at (fCons (fVar 1) (fCons (fVar 9) (fCons (fVar 11) (pur [])))))) (sSeq (sIf (fIfT (fNot (fB (f1 (cIsi "tuple") (fVar 12)))) (pur true) (fIfT (fNot (fB (fCall m__law_is_path (fCons (fVar 1) (fCons (fVar 12) (pur [])))))) (pur true) (fIfT (fB (f2 cNeD (f2 cIx (fVar 12) (fVar 9)) (fVar 11))) (pur true) (fB (f2 cNeD (fCallK m_path_at [2, 1, 0] (fCons (fVar 11) (fCons (fVar 9) (fCons (fVar 1) (pur []))))) (fVar 12)))))) (sSeq (sRet (pur (.bl false))) sNext) sNext) (sSeq (sSet 13 (fCall m__law_bent (fCons (fVar 0) (fCons (fVar 12) (pur []))))) (sSeq (sIf (fB (f2 cNeD (fA cRepr (fCons (fA cLst (fCons (fCall m_path_holds (fCons (fVar 1) (fCons (fVar 13) (pur [])))) (fCons (fCallK m_path_holds [1, 0] (fCons (fVar 13) (fCons (fVar 1) (pur [])))) (pur [])))) (pur []))) (fA cRepr (fCons (f2 cRep (fNew (fCons (fCall m__law_is_path (fCons (fVar 1) (fCons (fVar 13) (pur [])))) (pur []))) (pur (.int 2))) (pur []))))) (sSeq (sRet (pur (.bl false))) sNext) sNext) (sSeq (sSet 14 (fCall m__law_pick (fCons (fVar 0) (fCons (fA cLst (fCons (f2 cPlus (fVar 8) (pur (.int 1))) (fCons (f2 cSub (fVar 7) (pur (.int 1))) (fCons (pur .non) (fCons (pur (.bl true)) (fCons (pur (.str "0")) (pur []))))))) (pur []))))) (sSeq (sIf (fB (f2 cNeD (fHeardG hRes (fCall m_path_at (fCons (fVar 1) (fCons (fVar 9) (fCons (fVar 14) (pur [])))))) (fA cTup (fCons (pur (.str "refused")) (fCons (fA cRepr (fCons (fVar 14) (pur []))) (fCons (pur (.bl true)) (pur []))))))) (sSeq (sRet (pur (.bl false))) sNext) sNext) sNext))))))))))) (sSeq (sRet (pur (.bl true))) sNext))))))))
def m__law_is_right : List D → Sto → Res D := fun ds bx => noErr (fnD N__law_is_right S__law_is_right ds bx)

abbrev N__law_none_right : List Str := ["_law_box_here", "_law_tent_here", "_law_odd", "_law_asks", "_law_ask", "_law_bad", "_law_none"]
def B__law_none_right : Nat → Fn D
  | 0 => (fCall m_check_tent (fCons (fVar 2) (pur [])))
  | 1 => (fCall m_values_at (fCons (fVar 2) (fCons (pur .non) (pur []))))
  | 2 => (fCall m_highest (fCons (fVar 2) (pur [])))
  | 3 => (fCall m_lowest (fCons (fVar 2) (pur [])))
  | 4 => (fCall m_path_at (fCons (fVar 2) (fCons (pur .non) (fCons (pur .non) (pur [])))))
  | 5 => (fCall m_path_holds (fCons (fVar 2) (fCons (pur .non) (pur []))))
  | 6 => (fCall m_above_at (fCons (fVar 2) (fCons (pur .non) (pur []))))
  | 7 => (fCall m_can_be_above (fCons (fVar 2) (fCons (pur .non) (pur []))))
  | 8 => (fCall m_many_above (fCons (fVar 2) (fCons (pur .non) (pur []))))
  | _ => fun _ _ => .bad
def TF__law_none_right : List (Str × (List D → Sto → Res D)) := [("above_at", fnR 2 m_above_at), ("can_be_above", fnR 2 m_can_be_above), ("many_above", fnR 2 m_many_above)]
def S__law_none_right : Sn := (sSeq (sSet 2 (fCall m__law_pick (fCons (fVar 0) (fCons (fA cLst (fCons (pur .non) (fCons (fA cTup (pur [])) (fCons (pur (.str "tent")) (fCons (fSl (fVar 1) fPoN (fPo (pur (.int 3)))) (fCons (f2 cPlus (fVar 1) (fA cTup (fCons (pur (.int 0)) (pur [])))) (fCons (fA cTup (fCons (pur (.int 0)) (fCons (pur (.int 3)) (fCons (pur (.int 1)) (fCons (pur (.int 2)) (pur [])))))) (fCons (fA cTup (fCons (pur (.int 0)) (fCons (pur (.int 0)) (fCons (pur (.int 0)) (fCons (pur (.int 3)) (pur [])))))) (fCons (fA cTup (fCons (pur (.int 0)) (fCons (pur (.int 0)) (fCons (pur (.int 1)) (fCons (f2 cSub (pur (.int 0)) (pur (.int 1))) (pur [])))))) (fCons (fA cTup (fCons (pur .non) (fCons (pur (.int 0)) (fCons (pur (.int 1)) (fCons (pur (.int 1)) (pur [])))))) (fCons (fA cTup (fCons (pur (.int 0)) (fCons (pur (.bl true)) (fCons (pur (.int 1)) (fCons (pur (.int 1)) (pur [])))))) (fCons (fA cTup (fCons (pur (.int 0)) (fCons (pur (.int 0)) (fCons (pur (.bl true)) (fCons (pur (.int 1)) (pur [])))))) (fCons (fA cTup (fCons (pur (.int 0)) (fCons (pur (.int 0)) (fCons (pur (.int 1)) (fCons (pur .non) (pur [])))))) (pur [])))))))))))))) (pur []))))) (sSeq (sSet 3 (fNew (fCons (fLam 0) (pur [])))) (sSeq (sApp (fVar 3) (fLam 1)) (sSeq (sApp (fVar 3) (fLam 2)) (sSeq (sApp (fVar 3) (fLam 3)) (sSeq (sApp (fVar 3) (fLam 4)) (sSeq (sApp (fVar 3) (fLam 5)) (sSeq (sApp (fVar 3) (fLam 6)) (sSeq (sApp (fVar 3) (fLam 7)) (sSeq (sApp (fVar 3) (fLam 8)) (sSeq (sFrz 3) (sSeq (sIf (fB (f2 cNeD (fLc [4] (bOne 4) (fWk (fVar 3)) (fB (f2 cNeD (fHeardVB hRes [4] (fVar 4) B__law_none_right) (fA cTup (fCons (pur (.str "refused")) (fCons (fA cRepr (fCons (fVar 2) (pur []))) (fCons (pur (.bl true)) (pur []))))))) (fVar 4)) (fA cLst (pur [])))) (sSeq (sRet (pur (.bl false))) sNext) sNext) (sSeq (sSet 5 (fCall m__law_pick (fCons (fVar 0) (fCons (fA cLst (fCons (f2 cPlus (f2 cIx (fVar 1) (pur (.int 3))) (pur (.int 1))) (fCons (f2 cSub (pur (.int 0)) (pur (.int 1))) (fCons (pur .non) (fCons (pur (.bl true)) (fCons (pur (.str "0")) (pur []))))))) (pur []))))) (sSeq (sIf (fB (f2 cNeD (fHeardG hRes (fCall m_values_at (fCons (fVar 1) (fCons (fVar 5) (pur []))))) (fA cTup (fCons (pur (.str "refused")) (fCons (fA cRepr (fCons (fVar 5) (pur []))) (fCons (pur (.bl true)) (pur []))))))) (sSeq (sRet (pur (.bl false))) sNext) sNext) (sSeq (sIf (fB (f2 cNeD (fHeardG hRes (fCall m_path_at (fCons (fVar 1) (fCons (fVar 5) (fCons (pur .non) (pur [])))))) (fA cTup (fCons (pur (.str "refused")) (fCons (fA cRepr (fCons (fVar 5) (pur []))) (fCons (pur (.bl true)) (pur []))))))) (sSeq (sRet (pur (.bl false))) sNext) sNext) (sSeq (sSet 6 (fCall m__law_pick (fCons (fVar 0) (fCons (fA cLst (fCons (pur .non) (fCons (pur (.bl true)) (fCons (pur (.str "1")) (fCons (fA cTup (fCons (pur (.int 0)) (pur []))) (pur [])))))) (pur []))))) (sSeq (sFor (bOne 4) (fWk (fA cTup (fCons (pur (.fn "above_at")) (fCons (pur (.fn "can_be_above")) (fCons (pur (.fn "many_above")) (pur [])))))) (sSeq (sIf (fB (f2 cNeD (fHeardG hRes (fCallF (fnT TF__law_none_right) (fVar 4) (fCons (fVar 1) (fCons (fVar 6) (pur []))))) (fA cTup (fCons (pur (.str "refused")) (fCons (fA cRepr (fCons (fVar 6) (pur []))) (fCons (pur (.bl true)) (pur []))))))) (sSeq (sRet (pur (.bl false))) sNext) sNext) sNext)) (sSeq (sRet (fIfB (f2 cEqD (fCall m_check_tent (fCons (fA cListOf (fCons (fVar 1) (pur []))) (pur []))) (fVar 1)) (f2 cEqD (fCallK m_check_tent [0] (fCons (fVar 1) (pur []))) (fVar 1)) (pur (.bl false)))) sNext))))))))))))))))))
def m__law_none_right : List D → Sto → Res D := fun ds bx => hideR (noErr (fnD N__law_none_right S__law_none_right ds (hide bx)))

abbrev N__law_span : List Str := ["_law_tent_here", "_law_tick", "_law_first", "_law_last", "_law_rate", "_law_ticks", "_law_low", "_law_high", "_law_least", "_law_most", "_law_turn"]
def S__law_span : Sn := (sSeq (sUnp [2, 3, 4, 5] (fVar 0)) (sSeq (sUnp [6, 7, 8, 9] (fA cTup (fCons (fVar 2) (fCons (fVar 2) (fCons (fVar 3) (fCons (fVar 3) (pur []))))))) (sSeq (sFor (bOne 10) (fRg1 (fCons (fVar 1) (pur []))) (sSeq (sPar 6 7 (fCons (f2 cSub (fVar 6) (fVar 4)) (fCons (f2 cPlus (fVar 7) (fVar 4)) (pur [])))) sNext)) (sSeq (sFor (bOne 10) (fRg1 (fCons (f2 cSub (fVar 5) (fVar 1)) (pur []))) (sSeq (sPar 8 9 (fCons (f2 cSub (fVar 8) (fVar 4)) (fCons (f2 cPlus (fVar 9) (fVar 4)) (pur [])))) sNext)) (sSeq (sRet (fA cTup (fCons (fA cMax (fCons (fVar 6) (fCons (fVar 8) (pur [])))) (fCons (fA cMin (fCons (fVar 7) (fCons (fVar 9) (pur [])))) (pur []))))) sNext)))))
def m__law_span : List D → Sto → Res D := fun ds bx => noErr (fnD N__law_span S__law_span ds bx)

abbrev N_law : List Str := ["_law_script", "_law_k", "_law_box_here", "_law_tent_here", "_law_paths_here", "_law_spans", "_law_tick", "_law_values", "_law_path", "_law_more", "_law_limit", "_law_one", "_law_other"]
def S_law : Sn := (sSeq (sFor (bOne 1) (fRg1 (fCons (pur (.int 3)) (pur []))) (sSeq (sSet 2 (fCall m__law_box (fCons (fVar 0) (fCons (fVar 1) (pur []))))) (sSeq (sSet 3 (fCall m__law_tent (fCons (fVar 2) (fCons (pur (.int 4)) (pur []))))) (sSeq (sSet 4 (fCall m__law_paths (fCons (fVar 3) (pur [])))) (sSeq (sSet 5 (fNew (pur []))) (sSeq (sFor (bOne 6) (fRg1 (fCons (f2 cPlus (f2 cIx (fVar 3) (pur (.int 3))) (pur (.int 1))) (pur []))) (sSeq (sSet 7 (f1 cSortSet (fLc [8] (bOne 8) (fWk (fVar 4)) (pur true) (f2 cIx (fVar 8) (fVar 6))))) (sSeq (sIf (fB (f2 cNeD (fVar 7) (f2 cLstRg2 (f2 cIx (fVar 7) (pur (.int 0))) (f2 cPlus (f2 cIx (fVar 7) (f1 cNeg (pur (.int 1)))) (pur (.int 1)))))) (sSeq (sRet (pur (.bl false))) sNext) sNext) (sSeq (sApp (fVar 5) (fA cTup (fCons (f2 cIx (fVar 7) (pur (.int 0))) (fCons (f2 cIx (fVar 7) (f1 cNeg (pur (.int 1)))) (pur []))))) sNext)))) (sSeq (sFrz 5) (sSeq (sIf (fIfT (fNot (fB (fCall m__law_is_right (fCons (fVar 2) (fCons (fVar 3) (fCons (fVar 5) (fCons (fVar 4) (pur [])))))))) (pur true) (fNot (fB (fCall m__law_none_right (fCons (fVar 2) (fCons (fVar 3) (pur []))))))) (sSeq (sRet (pur (.bl false))) sNext) sNext) (sSeq (sSet 3 (fCall m__law_tent (fCons (fVar 2) (fCons (pur (.int 30)) (pur []))))) (sSeq (sSet 9 (f2 cPlus (fSl (fVar 3) fPoN (fPo (pur (.int 3)))) (fA cTup (fCons (f2 cPlus (f2 cIx (fVar 3) (pur (.int 3))) (pur (.int 1))) (pur []))))) (sSeq (sIf (fNot (fB (fCall m__law_is_right (fCons (fVar 2) (fCons (fVar 3) (fCons (fLc [6] (bOne 6) (fRg1 (fCons (f2 cPlus (f2 cIx (fVar 3) (pur (.int 3))) (pur (.int 1))) (pur []))) (pur true) (fCall m__law_span (fCons (fVar 3) (fCons (fVar 6) (pur []))))) (fCons (pur .non) (pur [])))))))) (sSeq (sRet (pur (.bl false))) sNext) sNext) (sSeq (sSet 10 (f2 cSub (f2 cPlus (f2 cIx (fVar 3) (pur (.int 0))) (fCall m__law_take (fCons (fVar 2) (fCons (pur (.int 5)) (pur []))))) (pur (.int 2)))) (sSeq (sPar 11 12 (fCons (fCall m_many_above (fCons (fVar 3) (fCons (fVar 10) (pur [])))) (fCons (fCall m_many_above (fCons (fVar 9) (fCons (fVar 10) (pur [])))) (pur [])))) (sSeq (sIf (fIfT (fB (f2 (iB fun i j => decide (i < j)) (fCall m_highest (fCons (fVar 9) (pur []))) (fCall m_highest (fCons (fVar 3) (pur []))))) (pur true) (fIfT (fB (f2 (iB fun i j => decide (j < i)) (fCall m_lowest (fCons (fVar 9) (pur []))) (fCall m_lowest (fCons (fVar 3) (pur []))))) (pur true) (fIfT (fB (f2 (iB fun i j => decide (j < i)) (f2 cIx (fVar 11) (pur (.int 0))) (f2 cIx (fVar 12) (pur (.int 0))))) (pur true) (fB (f2 (iB fun i j => decide (j < i)) (f2 cIx (fVar 11) (pur (.int 1))) (f2 cIx (fVar 12) (pur (.int 1)))))))) (sSeq (sRet (pur (.bl false))) sNext) sNext) sNext)))))))))))))) (sSeq (sRet (pur (.bl true))) sNext))
def m_law : List D → Sto → Res D := fun ds bx => noErr (fnD N_law S_law ds bx)
/-- what the mathematics gives: at every script the law's mirror is true -/
def LawIs : Prop := ∀ ns : List Int, ns.length ≤ 63 → ∃ st, m_law [.scr ns] [] = .ok (.bl true) st
end K16

end
section
set_option Elab.async false
set_option linter.all false
set_option maxRecDepth 100000
set_option maxHeartbeats 4000000
namespace K16
open PySem PySem.Spec PyProof.Rows L2 Ms
def topS (i : Nat) : Stmt := PySem.Challenge.pw_wrecktold_k16_whole_tents_by_all_paths.main.body.getD i (.Pass ⟨0, 0, 0, 0⟩)
structure Txt (K : PySem.W.Frag) (mg : Str → Option Value) (P : Pm) (fI_Refused : Addr) : Prop where
  abs : mg "abs" = none
  all : mg "all" = none
  bool : mg "bool" = none
  int : mg "int" = none
  isinstance : mg "isinstance" = none
  len : mg "len" = none
  list : mg "list" = none
  max : mg "max" = none
  min : mg "min" = none
  range : mg "range" = none
  repr : mg "repr" = none
  set : mg "set" = none
  sorted : mg "sorted" = none
  tuple : mg "tuple" = none
  zip : mg "zip" = none
  fv_above_at : Fv K mg "above_at"
  fv_can_be_above : Fv K mg "can_be_above"
  fv_many_above : Fv K mg "many_above"
  low_Refused : PySem.RefX.LowTxt "Refused" "Refused.__init__" K mg (P.CR "Refused") fI_Refused
  heard : ∃ (aH : Addr) (ocH kVH docH pmH cdH ctH : Value) (odH anH : Option Addr) (oslH : Array (Option Value)), mg "_law_heard" = some (.ref aH) ∧ PySem.W.keepIn K (.ref aH) = true ∧
    K.lookup aH = some ⟨ocH, odH, .func (PySem.W.fnOf "_law_heard" "_law_heard" (defArgs (topS 32)) (defBody (topS 32)) (defScope (topS 32)) .none kVH docH pmH anH cdH ctH), oslH⟩ ∧ PySem.W.codeIn K cdH "_law_heard" = true ∧
    L2.Binds K (PySem.W.fnOf "_law_heard" "_law_heard" (defArgs (topS 32)) (defBody (topS 32)) (defScope (topS 32)) .none kVH docH pmH anH cdH ctH) ["_law_ask"] []
  wr : ∃ B, mg "WreckError" = some (.ref B) ∧ P.CR "Refused" ≠ B ∧ PySem.W.kitOne K (.ref (P.CR "Refused")) (.ref B) = some true
theorem sc_heard : FnScope ["_law_ask", "fault"] ["_law_ask"] (defScope (topS 32)) := ⟨rfl, rfl, rfl, by decide +kernel, rfl, by decide +kernel, by decide +kernel⟩
theorem hrd {X : Cx} {P : Pm} {E : XK} {F : Fn D} {c Pt fI_Refused : Addr} {k : Nat} {params : Arguments} {body : Expr} {scope : Scope} {p lpos pos : Pos} (T : Txt X.K X.mg P fI_Refused) (hga : X.A.guards = some []) (hr : Room (k + 2) X.A)
    (TB : LamX.TabB X.base X.mg c Pt) (hcode : X.env.code = .ref c) (hmT : (Pt, X.env.qual ++ "<lambda>") ∈ P.T.tb) (hu : ∀ q ∈ P.T.tb, q.1 = Pt → q.2 = X.env.qual ++ "<lambda>") (L : LamX.LamS X.env.scope scope) (hdef : defaultsOf params X.env = ([], []))
    (hbind : ∀ (q : Str) (cl : List (Str × Addr)) (pm cv ctv : Value), bindArgs (PySem.W.kla_fn "<lambda>" q params body scope cl pm cv ctv) ⟨[], []⟩ = pure [])
    (hbody : ∀ (A : Around) (outer : List Env) (s : Shared) (H : Hp) (E' : XK) (f c' : Addr), Room k (A.deeper (LamX.lamEnv X scope s.heap.objs.size f c')) → ED (LamX.lamCx X A outer s H E' scope f c') P E' body F) (hg : Gl X "_law_heard" := by rfl) :
    ED X P E (.Call (.Name "_law_heard" p) [.Lambda params body scope lpos] [] pos) (fHeardG hRes F) := by
  obtain ⟨aH, ocH, kVH, docH, pmH, cdH, ctH, odH, anH, oslH, gH, kH, lH, cH, bH⟩ := T.heard
  obtain ⟨B, gB, ne, kit⟩ := T.wr
  exact ed_heardG (hTT := fun _ _ _ => rfl) (hof := fun _ _ _ _ h => hres_of h) hg gH kH lH cH bH sc_heard rfl (.inl rfl) (heard_gives (k := 0) hga (hr.mono (Nat.le_add_left 2 k)) T.low_Refused ne kit gB T.repr T.isinstance rfl rfl rfl rfl rfl rfl) TB hcode hmT hu hr L hdef hbind hbody
theorem hrdV {X : Cx} {P : Pm} {E : XK} {F : Fn D} {B : Nat → Fn D} {fI_Refused : Addr} {k : Nat} {y : Str} {p py pos : Pos} (T : Txt X.K X.mg P fI_Refused) (hga : X.A.guards = some []) (hr : Room (k + 2) X.A) (h : ED X P E (.Name y py) F)
    (ls : List LamI) (hlm : P.T.lm = lmOf X.env.cells (X.env.qual ++ "<lambda>") ls) (all : ∀ n i, ls[n]? = some i → LamX.LamS X.env.scope i.scope ∧ (∀ (q : Str) (cl : List (Str × Addr)) (pm cv ctv : Value), bindArgs (PySem.W.kla_fn "<lambda>" q i.params i.body i.scope cl pm cv ctv) ⟨[], []⟩ = pure []) ∧
      ∀ (A : Around) (outer : List Env) (s : Shared) (H : Hp) (E' : XK) (f c' : Addr), Room k (A.deeper (LamX.lamEnv X i.scope s.heap.objs.size f c')) → ED (LamX.lamCx X A outer s H E' i.scope f c') P E' i.body (B n)) (hg : Gl X "_law_heard" := by rfl) :
    ED X P E (.Call (.Name "_law_heard" p) [.Name y py] [] pos) (fHeardVG hRes F B) := by
  obtain ⟨aH, ocH, kVH, docH, pmH, cdH, ctH, odH, anH, oslH, gH, kH, lH, cH, bH⟩ := T.heard
  obtain ⟨B, gB, ne, kit⟩ := T.wr
  exact ed_heardVG (hTT := fun _ _ _ => rfl) (hof := fun _ _ _ _ h => hres_of h) hg gH kH lH cH bH sc_heard rfl (.inl rfl) (heard_gives (k := 0) hga (hr.mono (Nat.le_add_left 2 k)) T.low_Refused ne kit gB T.repr T.isinstance rfl rfl rfl rfl rfl rfl) hr h fun n f H h => hl_of all n f H (by rw [← hlm]; exact h)
theorem hrdB {X : Cx} {P : Pm} {E : XK} {F : Fn D} {B : Nat → Fn D} {fI_Refused : Addr} {k : Nat} {y : Str} {p py pos : Pos} {scb : Scope} {tb : Shared} {Hb : Hp} {Cc : Addr} {cl : List (Str × Addr)} {fp : List Addr} {pins0 : List (Addr × Obj)} {σ0 : L2.St} {is : List Nat} (T : Txt X.K X.mg P fI_Refused) (hga : X.A.guards = some []) (hr : Room (k + 2) X.A) (out : OutI X (blkX X scb tb Hb Cc cl fp) pins0 σ0) (h : ED (blkX X scb tb Hb Cc cl fp) P E (.Name y py) F)
    (ls : List LamI) (hlm : P.T.lm = lmOf X.env.cells (X.env.qual ++ "<lambda>") ls) (all : ∀ n i, ls[n]? = some i → LamX.LamS X.env.scope i.scope ∧ (∀ (q : Str) (cl : List (Str × Addr)) (pm cv ctv : Value), bindArgs (PySem.W.kla_fn "<lambda>" q i.params i.body i.scope cl pm cv ctv) ⟨[], []⟩ = pure []) ∧
      ∀ (A : Around) (outer : List Env) (s : Shared) (H : Hp) (E' : XK) (f c' : Addr), Room k (A.deeper (LamX.lamEnv X i.scope s.heap.objs.size f c')) → ED (LamX.lamCx X A outer s H E' i.scope f c') P E' i.body (B n)) (hg : Gl (blkX X scb tb Hb Cc cl fp) "_law_heard" := by rfl) :
    PE (blkX X scb tb Hb Cc cl fp) (.Call (.Name "_law_heard" p) [.Name y py] [] pos) (fun σ H Q => wipe σ is = wipe σ0 is ∧ tD X.K P E (fHeardVB hRes is F B) σ H Q) := by
  obtain ⟨aH, ocH, kVH, docH, pmH, cdH, ctH, odH, anH, oslH, gH, kH, lH, cH, bH⟩ := T.heard
  obtain ⟨B, gB, ne, kit⟩ := T.wr
  exact pe_heardVB (hTT := fun _ _ _ => rfl) (hof := fun _ _ _ _ h => hres_of h) out hg gH kH lH cH bH sc_heard rfl (.inl rfl) (heard_gives (k := 0) hga (hr.mono (Nat.le_add_left 2 k)) T.low_Refused ne kit gB T.repr T.isinstance rfl rfl rfl rfl rfl rfl) hr h fun n f H h => hl_of all n f H (by rw [← hlm]; exact h)
section
variable {Pg : Program} {w : World} {K : PySem.W.Frag} {mg : Str → Option Value} {base : Heap} {P : Pm} {fI_Refused : Addr}
theorem nd__law_box : N__law_box.Nodup := by decide +kernel
theorem sc__law_box : FnScope N__law_box ["_law_script", "_law_k"] (defScope (topS 29)) := ⟨rfl, rfl, rfl, by decide +kernel, rfl, by decide +kernel, by decide +kernel⟩
theorem ok__law_box {f : Addr} {oc kV doc pm cdv ct : Value} {od an : Option Addr} {osl : Array (Option Value)} (T : Txt K mg P fI_Refused)   (l29 : K.lookup f = some ⟨oc, od, .func (PySem.W.fnOf "_law_box" "_law_box" (defArgs (topS 29)) (defBody (topS 29)) (defScope (topS 29)) .none kV doc pm an cdv ct), osl⟩) (hcd : PySem.W.codeIn K cdv "_law_box" = true) (kp : PySem.W.keepIn K (.ref f) = true) (hm : mg "_law_box" = some (.ref f)) : DfB false Pg w K mg base P CX0 1 "_law_box" (topS 29) ["_law_script", "_law_k"] m__law_box :=
  df_B0 (gd := false) (N := N__law_box) (S := S__law_box) (k := 0) l29 hcd kp hm sc__law_box (fun _ _ _ _ _ _ us hl => match us, hl with | [_, _], _ => rfl) fun A outer s H hga hr => (ssd_cons (sd_set 2 nd__law_box rfl (.inl rfl) (ed_plus (ed_mul ed_int (ed_var 1)) ed_int))
      (ssd_cons (sd_if (et_lt (ed_var 1) (ed_blt call_lenA cd_len (by rfl) T.len b_len (ea_cons (ed_var 0) ea_nil))) (ssd_cons (sd_set 2 nd__law_box rfl (.inl rfl) (ed_blt call_abs cd_abs (by rfl) T.abs b_abs (ea_cons (ed_ty call_int1 cd_int (by rfl) T.int b_int (ea_cons (ed_ix (ed_var 0) (ed_var 1) (fun _ _ => rfl)) ea_nil)) ea_nil)))
      ssd_nil) (ssd_cons (sd_if (et_gt (ed_blt call_lenA cd_len (by rfl) T.len b_len (ea_cons (ed_var 0) ea_nil)) ed_int) (ssd_cons (sd_set 2 nd__law_box rfl (.inl rfl) (ed_plus (ed_var 2) (ed_mul (ed_mod (ed_ty call_int1 cd_int (by rfl) T.int b_int (ea_cons (ed_blt call_abs cd_abs (by rfl) T.abs b_abs (ea_cons (ed_ty call_int1 cd_int (by rfl) T.int b_int (ea_cons (ed_ix (ed_var 0) (ed_mod (ed_ty call_int1 cd_int (by rfl) T.int b_int (ea_cons (ed_var 1) ea_nil)) (ed_blt call_lenA cd_len (by rfl) T.len b_len (ea_cons (ed_var 0) ea_nil))) (fun _ _ => rfl)) ea_nil)) ea_nil)) ea_nil)) ed_int) ed_int)))
      ssd_nil) ssd_nil)
      ssd_nil))
      (ssd_cons (sd_set 3 nd__law_box rfl (.inl rfl) (ed_ifExp (et_ge (ed_var 2) (ed_pow ed_int ed_int)) (ed_var 2) ed_int))
      (ssd_cons (sd_ret (ed_lstM (ea_cons (ed_var 3) (ea_cons (ed_plus (ed_mod (ed_ty call_int1 cd_int (by rfl) T.int b_int (ea_cons (ed_plus (ed_mul (ed_mod (ed_ty call_int1 cd_int (by rfl) T.int b_int (ea_cons (ed_var 2) ea_nil)) ed_int) ed_int) (ed_mul ed_int (ed_var 1))) ea_nil)) ed_int) ed_int) ea_nil))))
      ssd_nil))))

theorem nd__law_take : N__law_take.Nodup := by decide +kernel
theorem sc__law_take : FnScope N__law_take ["_law_box_here", "_law_many"] (defScope (topS 30)) := ⟨rfl, rfl, rfl, by decide +kernel, rfl, by decide +kernel, by decide +kernel⟩
theorem ok__law_take {f : Addr} {oc kV doc pm cdv ct : Value} {od an : Option Addr} {osl : Array (Option Value)} (T : Txt K mg P fI_Refused)   (l30 : K.lookup f = some ⟨oc, od, .func (PySem.W.fnOf "_law_take" "_law_take" (defArgs (topS 30)) (defBody (topS 30)) (defScope (topS 30)) .none kV doc pm an cdv ct), osl⟩) (hcd : PySem.W.codeIn K cdv "_law_take" = true) (kp : PySem.W.keepIn K (.ref f) = true) (hm : mg "_law_take" = some (.ref f)) : DfB false Pg w K mg base P CX0 1 "_law_take" (topS 30) ["_law_box_here", "_law_many"] m__law_take :=
  df_B0 (gd := false) (N := N__law_take) (S := S__law_take) (k := 0) l30 hcd kp hm sc__law_take (fun _ _ _ _ _ _ us hl => match us, hl with | [_, _], _ => rfl) fun A outer s H hga hr => (ssd_cons (sd_if (et_gt (ed_ix (ed_var 0) ed_int (fun _ _ => rfl)) ed_int) (ssd_cons (sd_set 2 nd__law_take rfl (.inl rfl) (ed_mod (ed_ty call_int1 cd_int (by rfl) T.int b_int (ea_cons (ed_ix (ed_var 0) ed_int (fun _ _ => rfl)) ea_nil)) (ed_var 1)))
      (ssd_cons (sd_put (ed_div (ed_ix (ed_var 0) ed_int (fun _ _ => rfl)) (ed_var 1)) (ed_var 0) ed_int)
      (ssd_cons (sd_ret (ed_var 2))
      ssd_nil))) ssd_nil)
      (ssd_cons (sd_set 3 nd__law_take rfl (.inl rfl) (ed_mod (ed_ty call_int1 cd_int (by rfl) T.int b_int (ea_cons (ed_plus (ed_mul (ed_ix (ed_var 0) ed_int (fun _ _ => rfl)) ed_int) ed_int) ea_nil)) ed_int))
      (ssd_cons (sd_put (ed_plus (ed_mod (ed_ty call_int1 cd_int (by rfl) T.int b_int (ea_cons (ed_plus (ed_mul (ed_var 3) ed_int) ed_int) ea_nil)) ed_int) ed_int) (ed_var 0) ed_int)
      (ssd_cons (sd_ret (ed_mod (ed_ty call_int1 cd_int (by rfl) T.int b_int (ea_cons (ed_div (ed_plus (ed_mul (ed_var 3) ed_int) (ed_ix (ed_var 0) ed_int (fun _ _ => rfl))) ed_int) ea_nil)) (ed_var 1)))
      ssd_nil))))

theorem nd__law_tent : N__law_tent.Nodup := by decide +kernel
theorem sc__law_tent : FnScope N__law_tent ["_law_box_here", "_law_most"] (defScope (topS 33)) := ⟨rfl, rfl, rfl, by decide +kernel, rfl, by decide +kernel, by decide +kernel⟩
theorem ok__law_tent {f : Addr} {oc kV doc pm cdv ct : Value} {od an : Option Addr} {osl : Array (Option Value)} (T : Txt K mg P fI_Refused) (D__law_take : DfB false Pg w K mg base P CX0 1 "_law_take" (topS 30) ["_law_box_here", "_law_many"] m__law_take)  (l33 : K.lookup f = some ⟨oc, od, .func (PySem.W.fnOf "_law_tent" "_law_tent" (defArgs (topS 33)) (defBody (topS 33)) (defScope (topS 33)) .none kV doc pm an cdv ct), osl⟩) (hcd : PySem.W.codeIn K cdv "_law_tent" = true) (kp : PySem.W.keepIn K (.ref f) = true) (hm : mg "_law_tent" = some (.ref f)) : DfB false Pg w K mg base P CX0 2 "_law_tent" (topS 33) ["_law_box_here", "_law_most"] m__law_tent :=
  df_B0 (gd := false) (N := N__law_tent) (S := S__law_tent) (k := 1) l33 hcd kp hm sc__law_tent (fun _ _ _ _ _ _ us hl => match us, hl with | [_, _], _ => rfl) fun A outer s H hga hr => (ssd_cons (sd_par3 2 3 4 rfl nd__law_tent rfl rfl rfl (by decide) (by decide) (by decide) rfl rfl rfl (ea_cons (ed_plus ed_int (ed_callB noG D__law_take (hr.mono (by decide)) pass0' (by rfl) (ea_cons (ed_var 0) (ea_cons ed_int ea_nil)) (len_cons (len_cons (fun _ _ _ _ h => len_nil h))))) (ea_cons (ed_callB noG D__law_take (hr.mono (by decide)) pass0' (by rfl) (ea_cons (ed_var 0) (ea_cons (ed_plus (ed_var 1) ed_int) ea_nil)) (len_cons (len_cons (fun _ _ _ _ h => len_nil h)))) (ea_cons (ed_sub (ed_callB noG D__law_take (hr.mono (by decide)) pass0' (by rfl) (ea_cons (ed_var 0) (ea_cons ed_int ea_nil)) (len_cons (len_cons (fun _ _ _ _ h => len_nil h)))) ed_int) ea_nil))) (by rfl))
      (ssd_cons (sd_ret (ed_tup (ea_cons (ed_var 4) (ea_cons (ed_sub (ed_plus (ed_var 4) (ed_callB noG D__law_take (hr.mono (by decide)) pass0' (by rfl) (ea_cons (ed_var 0) (ea_cons (ed_plus (ed_mul (ed_mul ed_int (ed_var 2)) (ed_var 3)) ed_int) ea_nil)) (len_cons (len_cons (fun _ _ _ _ h => len_nil h))))) (ed_mul (ed_var 2) (ed_var 3))) (ea_cons (ed_var 2) (ea_cons (ed_var 3) ea_nil))))))
      ssd_nil))

theorem nd__law_paths : N__law_paths.Nodup := by decide +kernel
theorem sc__law_paths : FnScope N__law_paths ["_law_tent_here"] (defScope (topS 34)) := ⟨rfl, rfl, rfl, by decide +kernel, rfl, by decide +kernel, by decide +kernel⟩
theorem ok__law_paths {f : Addr} {oc kV doc pm cdv ct : Value} {od an : Option Addr} {osl : Array (Option Value)} (T : Txt K mg P fI_Refused)   (l34 : K.lookup f = some ⟨oc, od, .func (PySem.W.fnOf "_law_paths" "_law_paths" (defArgs (topS 34)) (defBody (topS 34)) (defScope (topS 34)) .none kV doc pm an cdv ct), osl⟩) (hcd : PySem.W.codeIn K cdv "_law_paths" = true) (kp : PySem.W.keepIn K (.ref f) = true) (hm : mg "_law_paths" = some (.ref f)) : DfB false Pg w K mg base P CX0 1 "_law_paths" (topS 34) ["_law_tent_here"] m__law_paths :=
  df_B0 (gd := false) (N := N__law_paths) (S := S__law_paths) (k := 0) l34 hcd kp hm sc__law_paths (fun _ _ _ _ _ _ us hl => match us, hl with | [_], _ => rfl) fun A outer s H hga hr => (ssd_cons (sd_unp [1, 2, 3, 4] rfl (pgs_cons (pg_name (i := 1) nd__law_paths rfl (.inl rfl)) (pgs_cons (pg_name (i := 2) nd__law_paths rfl (.inr rfl)) (pgs_cons (pg_name (i := 3) nd__law_paths rfl (.inr rfl)) (pgs_cons (pg_name (i := 4) nd__law_paths rfl (.inr rfl)) pgs_nil)))) rfl (ed_var 0))
      (ssd_cons (sd_set 5 nd__law_paths rfl (.inl rfl) (ed_lst (ea_cons (ed_tup (ea_cons (ed_var 1) ea_nil)) ea_nil)))
      (ssd_cons (sd_for PassesOwn.never rfl (ei_rg1 (by rfl) T.range (ea_cons (ed_var 4) ea_nil)) (pg_name (i := 6) nd__law_paths rfl (.inr rfl)) (gd_one 6) (ssd_cons (sd_set 7 nd__law_paths rfl (.inl rfl) (ed_lst ea_nil))
      (ssd_cons (sd_for PassesOwn.never rfl (ei_any (ed_var 5)) (pg_name (i := 8) nd__law_paths rfl (.inr rfl)) (gd_one 8) (ssd_cons (sd_set 7 nd__law_paths rfl (.inl rfl) (ed_plus (ed_var 7) (ed_lc (own := [("_law_step", 9)]) rfl nd__law_paths (ei_rg2 (by rfl) T.range (ea_cons (ed_sub ed_int (ed_var 3)) (ea_cons (ed_plus (ed_var 3) ed_int) ea_nil))) (blkOk_by (own := [("_law_step", 9)]) (N := N__law_paths) (sc := defScope (topS 34)) (by decide +kernel)) (gd_one 9) (fun _ _ _ _ _ => (pg_name (i := 9) nd__law_paths rfl (by first | exact .inl rfl | exact .inr rfl))) (fun _ _ _ _ _ => et_yes) (fun _ _ _ _ _ => (ed_plus (ed_var 8) (ed_tup (ea_cons (ed_plus (ed_ix (ed_var 8) (ed_neg ed_int) (fun _ _ => rfl)) (ed_var 9)) ea_nil)))))))
      ssd_nil))
      (ssd_cons (sd_setLc (i := 5) (own := [("_law_path", 8)]) rfl nd__law_paths rfl rfl (sw_true rfl rfl rfl (by decide +kernel)) (ei_any (ed_var 7)) (blkOk_by (own := [("_law_path", 8)]) (N := N__law_paths) (sc := defScope (topS 34)) (by decide +kernel)) (gd_one 8) (fun _ _ _ _ _ => (pg_name (i := 8) nd__law_paths rfl (by first | exact .inl rfl | exact .inr rfl))) (fun _ _ _ _ _ => (et_one (et_le (ed_blt call_abs cd_abs (by rfl) T.abs b_abs (ea_cons (ed_sub (ed_var 2) (ed_ix (ed_var 8) (ed_neg ed_int) (fun _ _ => rfl))) ea_nil)) (ed_mul (ed_var 3) (ed_sub (ed_sub (ed_var 4) (ed_var 6)) ed_int))))) (fun _ _ _ _ _ => (ed_var 8)))
      ssd_nil))))
      (ssd_cons (sd_ret (ed_var 5))
      ssd_nil))))

theorem nd__law_pick : N__law_pick.Nodup := by decide +kernel
theorem sc__law_pick : FnScope N__law_pick ["_law_box_here", "_law_some"] (defScope (topS 31)) := ⟨rfl, rfl, rfl, by decide +kernel, rfl, by decide +kernel, by decide +kernel⟩
theorem ok__law_pick {f : Addr} {oc kV doc pm cdv ct : Value} {od an : Option Addr} {osl : Array (Option Value)} (T : Txt K mg P fI_Refused) (D__law_take : DfB false Pg w K mg base P CX0 1 "_law_take" (topS 30) ["_law_box_here", "_law_many"] m__law_take)  (l31 : K.lookup f = some ⟨oc, od, .func (PySem.W.fnOf "_law_pick" "_law_pick" (defArgs (topS 31)) (defBody (topS 31)) (defScope (topS 31)) .none kV doc pm an cdv ct), osl⟩) (hcd : PySem.W.codeIn K cdv "_law_pick" = true) (kp : PySem.W.keepIn K (.ref f) = true) (hm : mg "_law_pick" = some (.ref f)) : DfB false Pg w K mg base P CX0 2 "_law_pick" (topS 31) ["_law_box_here", "_law_some"] m__law_pick :=
  df_B0 (gd := false) (N := N__law_pick) (S := S__law_pick) (k := 1) l31 hcd kp hm sc__law_pick (fun _ _ _ _ _ _ us hl => match us, hl with | [_, _], _ => rfl) fun A outer s H hga hr => (ssd_cons (sd_ret (ed_ix (ed_var 1) (ed_callB noG D__law_take (hr.mono (by decide)) pass0' (by rfl) (ea_cons (ed_var 0) (ea_cons (ed_blt call_lenA cd_len (by rfl) T.len b_len (ea_cons (ed_var 1) ea_nil)) ea_nil)) (len_cons (len_cons (fun _ _ _ _ h => len_nil h)))) (fun _ _ => rfl)))
      ssd_nil)

theorem nd_is_sequence : N_is_sequence.Nodup := by decide +kernel
theorem sc_is_sequence : FnScope N_is_sequence ["value"] (defScope (topS 7)) := ⟨rfl, rfl, rfl, by decide +kernel, rfl, by decide +kernel, by decide +kernel⟩
theorem ok_is_sequence {f : Addr} {oc kV doc pm cdv ct : Value} {od an : Option Addr} {osl : Array (Option Value)} (T : Txt K mg P fI_Refused)   (l7 : K.lookup f = some ⟨oc, od, .func (PySem.W.fnOf "is_sequence" "is_sequence" (defArgs (topS 7)) (defBody (topS 7)) (defScope (topS 7)) .none kV doc pm an cdv ct), osl⟩) (hcd : PySem.W.codeIn K cdv "is_sequence" = true) (kp : PySem.W.keepIn K (.ref f) = true) (hm : mg "is_sequence" = some (.ref f)) : DfB false Pg w K mg base P CX0 1 "is_sequence" (topS 7) ["value"] m_is_sequence :=
  df_B0 (gd := false) (N := N_is_sequence) (S := S_is_sequence) (k := 0) l7 hcd kp hm sc_is_sequence (fun _ _ _ _ _ _ us hl => match us, hl with | [_], _ => rfl) fun A outer s H hga hr => (ssd_cons (sd_ret (ed_isi2 (by rfl) T.isinstance b_isinstance (ed_var 0) (by rfl) T.list b_list (by rfl) T.tuple b_tuple))
      ssd_nil)

theorem nd_has_parts : N_has_parts.Nodup := by decide +kernel
theorem sc_has_parts : FnScope N_has_parts ["value", "many"] (defScope (topS 8)) := ⟨rfl, rfl, rfl, by decide +kernel, rfl, by decide +kernel, by decide +kernel⟩
theorem ok_has_parts {f : Addr} {oc kV doc pm cdv ct : Value} {od an : Option Addr} {osl : Array (Option Value)} (T : Txt K mg P fI_Refused) (D_is_sequence : DfB false Pg w K mg base P CX0 1 "is_sequence" (topS 7) ["value"] m_is_sequence)  (l8 : K.lookup f = some ⟨oc, od, .func (PySem.W.fnOf "has_parts" "has_parts" (defArgs (topS 8)) (defBody (topS 8)) (defScope (topS 8)) .none kV doc pm an cdv ct), osl⟩) (hcd : PySem.W.codeIn K cdv "has_parts" = true) (kp : PySem.W.keepIn K (.ref f) = true) (hm : mg "has_parts" = some (.ref f)) : DfB false Pg w K mg base P CX0 2 "has_parts" (topS 8) ["value", "many"] m_has_parts :=
  df_B0 (gd := false) (N := N_has_parts) (S := S_has_parts) (k := 1) l8 hcd kp hm sc_has_parts (fun _ _ _ _ _ _ us hl => match us, hl with | [_, _], _ => rfl) fun A outer s H hga hr => (ssd_cons (sd_ret (ed_and (ed_callB noG D_is_sequence (hr.mono (by decide)) pass0' (by rfl) (ea_cons (ed_var 0) ea_nil) (len_cons (fun _ _ _ _ h => len_nil h))) (ed_one (ed_eq hr.units (ed_blt call_lenA cd_len (by rfl) T.len b_len (ea_cons (ed_var 0) ea_nil)) (ed_var 1)))))
      ssd_nil)

theorem nd_is_integer : N_is_integer.Nodup := by decide +kernel
theorem sc_is_integer : FnScope N_is_integer ["value"] (defScope (topS 4)) := ⟨rfl, rfl, rfl, by decide +kernel, rfl, by decide +kernel, by decide +kernel⟩
theorem ok_is_integer {f : Addr} {oc kV doc pm cdv ct : Value} {od an : Option Addr} {osl : Array (Option Value)} (T : Txt K mg P fI_Refused)   (l4 : K.lookup f = some ⟨oc, od, .func (PySem.W.fnOf "is_integer" "is_integer" (defArgs (topS 4)) (defBody (topS 4)) (defScope (topS 4)) .none kV doc pm an cdv ct), osl⟩) (hcd : PySem.W.codeIn K cdv "is_integer" = true) (kp : PySem.W.keepIn K (.ref f) = true) (hm : mg "is_integer" = some (.ref f)) : DfB false Pg w K mg base P CX0 1 "is_integer" (topS 4) ["value"] m_is_integer :=
  df_B0 (gd := false) (N := N_is_integer) (S := S_is_integer) (k := 0) l4 hcd kp hm sc_is_integer (fun _ _ _ _ _ _ us hl => match us, hl with | [_], _ => rfl) fun A outer s H hga hr => (ssd_cons (sd_ret (ed_and (ed_isi (by rfl) T.isinstance b_isinstance (ed_var 0) (by rfl) T.int b_int) (ed_one (ed_not (ed_isi (by rfl) T.isinstance b_isinstance (ed_var 0) (by rfl) T.bool b_bool)))))
      ssd_nil)

theorem nd_is_number : N_is_number.Nodup := by decide +kernel
theorem sc_is_number : FnScope N_is_number ["value"] (defScope (topS 6)) := ⟨rfl, rfl, rfl, by decide +kernel, rfl, by decide +kernel, by decide +kernel⟩
theorem ok_is_number {f : Addr} {oc kV doc pm cdv ct : Value} {od an : Option Addr} {osl : Array (Option Value)} (T : Txt K mg P fI_Refused) (D_is_integer : DfB false Pg w K mg base P CX0 1 "is_integer" (topS 4) ["value"] m_is_integer)  (l6 : K.lookup f = some ⟨oc, od, .func (PySem.W.fnOf "is_number" "is_number" (defArgs (topS 6)) (defBody (topS 6)) (defScope (topS 6)) .none kV doc pm an cdv ct), osl⟩) (hcd : PySem.W.codeIn K cdv "is_number" = true) (kp : PySem.W.keepIn K (.ref f) = true) (hm : mg "is_number" = some (.ref f)) : DfB false Pg w K mg base P CX0 2 "is_number" (topS 6) ["value"] m_is_number :=
  df_B0 (gd := false) (N := N_is_number) (S := S_is_number) (k := 1) l6 hcd kp hm sc_is_number (fun _ _ _ _ _ _ us hl => match us, hl with | [_], _ => rfl) fun A outer s H hga hr => (ssd_cons (sd_ret (ed_and (ed_callB noG D_is_integer (hr.mono (by decide)) pass0' (by rfl) (ea_cons (ed_var 0) ea_nil) (len_cons (fun _ _ _ _ h => len_nil h))) (ed_one (ed_ge (ed_var 0) ed_int))))
      ssd_nil)

theorem nd_check_tent : N_check_tent.Nodup := by decide +kernel
theorem sc_check_tent : FnScope N_check_tent ["value"] (defScope (topS 12)) := ⟨rfl, rfl, rfl, by decide +kernel, rfl, by decide +kernel, by decide +kernel⟩
theorem ok_check_tent {f : Addr} {oc kV doc pm cdv ct : Value} {od an : Option Addr} {osl : Array (Option Value)} (T : Txt K mg P fI_Refused) (D_has_parts : DfB false Pg w K mg base P CX0 2 "has_parts" (topS 8) ["value", "many"] m_has_parts) (D_is_integer : DfB false Pg w K mg base P CX0 1 "is_integer" (topS 4) ["value"] m_is_integer) (D_is_number : DfB false Pg w K mg base P CX0 2 "is_number" (topS 6) ["value"] m_is_number)  (l12 : K.lookup f = some ⟨oc, od, .func (PySem.W.fnOf "check_tent" "check_tent" (defArgs (topS 12)) (defBody (topS 12)) (defScope (topS 12)) .none kV doc pm an cdv ct), osl⟩) (hcd : PySem.W.codeIn K cdv "check_tent" = true) (kp : PySem.W.keepIn K (.ref f) = true) (hm : mg "check_tent" = some (.ref f)) : DfB false Pg w K mg base P (L2.CX Pg w) 3 "check_tent" (topS 12) ["value"] m_check_tent :=
  df_BX (gd := false) (N := N_check_tent) (S := S_check_tent) (k := 2) l12 hcd kp hm sc_check_tent (fun _ _ _ _ _ _ us hl => match us, hl with | [_], _ => rfl) fun A outer s H E hga hr => (ssd_cons (sd_if (et_not (et_val (ed_callB noG D_has_parts (hr.mono (by decide)) pass0' (by rfl) (ea_cons (ed_var 0) (ea_cons ed_int ea_nil)) (len_cons (len_cons (fun _ _ _ _ h => len_nil h)))))) (ssd_cons (sd_raise rfl T.low_Refused hr (takes_of rfl rfl rfl rfl) (ed_var 0))
      ssd_nil) ssd_nil)
      (ssd_cons (sd_unp [1, 2, 3, 4] rfl (pgs_cons (pg_name (i := 1) nd_check_tent rfl (.inl rfl)) (pgs_cons (pg_name (i := 2) nd_check_tent rfl (.inl rfl)) (pgs_cons (pg_name (i := 3) nd_check_tent rfl (.inl rfl)) (pgs_cons (pg_name (i := 4) nd_check_tent rfl (.inl rfl)) pgs_nil)))) rfl (ed_var 0))
      (ssd_cons (sd_if (et_w (ew_or (et_not (et_val (ed_callB noG D_is_integer (hr.mono (by decide)) pass0' (by rfl) (ea_cons (ed_var 1) ea_nil) (len_cons (fun _ _ _ _ h => len_nil h))))) (ew_or (et_not (et_val (ed_callB noG D_is_integer (hr.mono (by decide)) pass0' (by rfl) (ea_cons (ed_var 2) ea_nil) (len_cons (fun _ _ _ _ h => len_nil h))))) (ew_or (et_not (et_val (ed_callB noG D_is_number (hr.mono (by decide)) pass0' (by rfl) (ea_cons (ed_var 3) ea_nil) (len_cons (fun _ _ _ _ h => len_nil h))))) (ew_or1 (et_not (et_val (ed_callB noG D_is_number (hr.mono (by decide)) pass0' (by rfl) (ea_cons (ed_var 4) ea_nil) (len_cons (fun _ _ _ _ h => len_nil h)))))))))) (ssd_cons (sd_raise rfl T.low_Refused hr (takes_of rfl rfl rfl rfl) (ed_var 0))
      ssd_nil) ssd_nil)
      (ssd_cons (sd_if (et_w (ew_or (et_eq hr.units (ed_var 3) ed_int) (ew_or1 (et_gt (ed_blt call_abs cd_abs (by rfl) T.abs b_abs (ea_cons (ed_sub (ed_var 1) (ed_var 2)) ea_nil)) (ed_mul (ed_var 3) (ed_var 4)))))) (ssd_cons (sd_raise rfl T.low_Refused hr (takes_of rfl rfl rfl rfl) (ed_var 0))
      ssd_nil) ssd_nil)
      (ssd_cons (sd_ret (ed_ty call_tuple_of cd_tupOf (by rfl) T.tuple b_tuple (ea_cons (ed_var 0) ea_nil)))
      ssd_nil)))))

theorem nd__high : N__high.Nodup := by decide +kernel
theorem sc__high : FnScope N__high ["tent", "tick"] (defScope (topS 14)) := ⟨rfl, rfl, rfl, by decide +kernel, rfl, by decide +kernel, by decide +kernel⟩
theorem ok__high {f : Addr} {oc kV doc pm cdv ct : Value} {od an : Option Addr} {osl : Array (Option Value)} (T : Txt K mg P fI_Refused)   (l14 : K.lookup f = some ⟨oc, od, .func (PySem.W.fnOf "_high" "_high" (defArgs (topS 14)) (defBody (topS 14)) (defScope (topS 14)) .none kV doc pm an cdv ct), osl⟩) (hcd : PySem.W.codeIn K cdv "_high" = true) (kp : PySem.W.keepIn K (.ref f) = true) (hm : mg "_high" = some (.ref f)) : DfB false Pg w K mg base P CX0 1 "_high" (topS 14) ["tent", "tick"] m__high :=
  df_B0 (gd := false) (N := N__high) (S := S__high) (k := 0) l14 hcd kp hm sc__high (fun _ _ _ _ _ _ us hl => match us, hl with | [_, _], _ => rfl) fun A outer s H hga hr => (ssd_cons (sd_unp [2, 3, 4, 5] rfl (pgs_cons (pg_name (i := 2) nd__high rfl (.inl rfl)) (pgs_cons (pg_name (i := 3) nd__high rfl (.inl rfl)) (pgs_cons (pg_name (i := 4) nd__high rfl (.inl rfl)) (pgs_cons (pg_name (i := 5) nd__high rfl (.inl rfl)) pgs_nil)))) rfl (ed_var 0))
      (ssd_cons (sd_ret (ed_blt (call_min2 rfl) cd_min (by rfl) T.min b_min (ea_cons (ed_plus (ed_var 2) (ed_mul (ed_var 4) (ed_var 1))) (ea_cons (ed_plus (ed_var 3) (ed_mul (ed_var 4) (ed_sub (ed_var 5) (ed_var 1)))) ea_nil))))
      ssd_nil))

theorem nd_highest : N_highest.Nodup := by decide +kernel
theorem sc_highest : FnScope N_highest ["tent"] (defScope (topS 18)) := ⟨rfl, rfl, rfl, by decide +kernel, rfl, by decide +kernel, by decide +kernel⟩
theorem ok_highest {f : Addr} {oc kV doc pm cdv ct : Value} {od an : Option Addr} {osl : Array (Option Value)} (T : Txt K mg P fI_Refused) (D_check_tent : DfB false Pg w K mg base P (L2.CX Pg w) 3 "check_tent" (topS 12) ["value"] m_check_tent) (D__high : DfB false Pg w K mg base P CX0 1 "_high" (topS 14) ["tent", "tick"] m__high)  (l18 : K.lookup f = some ⟨oc, od, .func (PySem.W.fnOf "highest" "highest" (defArgs (topS 18)) (defBody (topS 18)) (defScope (topS 18)) .none kV doc pm an cdv ct), osl⟩) (hcd : PySem.W.codeIn K cdv "highest" = true) (kp : PySem.W.keepIn K (.ref f) = true) (hm : mg "highest" = some (.ref f)) : DfB false Pg w K mg base P (L2.CX Pg w) 4 "highest" (topS 18) ["tent"] m_highest :=
  df_BX (gd := false) (N := N_highest) (S := S_highest) (k := 3) l18 hcd kp hm sc_highest (fun _ _ _ _ _ _ us hl => match us, hl with | [_], _ => rfl) fun A outer s H E hga hr => (ssd_cons (sd_set 0 nd_highest rfl (.inl rfl) (ed_callB noG D_check_tent (hr.mono (by decide)) (passX (takes_of rfl rfl rfl rfl) fun _ _ _ _ h => h) (by rfl) (ea_cons (ed_var 0) ea_nil) (len_cons (fun _ _ _ _ h => len_nil h))))
      (ssd_cons (sd_unp [1, 2, 3, 4] rfl (pgs_cons (pg_name (i := 1) nd_highest rfl (.inl rfl)) (pgs_cons (pg_name (i := 2) nd_highest rfl (.inl rfl)) (pgs_cons (pg_name (i := 3) nd_highest rfl (.inl rfl)) (pgs_cons (pg_name (i := 4) nd_highest rfl (.inl rfl)) pgs_nil)))) rfl (ed_var 0))
      (ssd_cons (sd_set 5 nd_highest rfl (.inl rfl) (ed_div (ed_plus (ed_sub (ed_var 2) (ed_var 1)) (ed_mul (ed_var 3) (ed_var 4))) (ed_mul ed_int (ed_var 3))))
      (ssd_cons (sd_ret (ed_blt (call_max2 rfl) cd_max (by rfl) T.max b_max (ea_cons (ed_callB noG D__high (hr.mono (by decide)) pass0' (by rfl) (ea_cons (ed_var 0) (ea_cons (ed_var 5) ea_nil)) (len_cons (len_cons (fun _ _ _ _ h => len_nil h)))) (ea_cons (ed_callB noG D__high (hr.mono (by decide)) pass0' (by rfl) (ea_cons (ed_var 0) (ea_cons (ed_blt (call_min2 rfl) cd_min (by rfl) T.min b_min (ea_cons (ed_plus (ed_var 5) ed_int) (ea_cons (ed_var 4) ea_nil))) ea_nil)) (len_cons (len_cons (fun _ _ _ _ h => len_nil h)))) ea_nil))))
      ssd_nil))))

theorem nd_lowest : N_lowest.Nodup := by decide +kernel
theorem sc_lowest : FnScope N_lowest ["tent"] (defScope (topS 19)) := ⟨rfl, rfl, rfl, by decide +kernel, rfl, by decide +kernel, by decide +kernel⟩
theorem ok_lowest {f : Addr} {oc kV doc pm cdv ct : Value} {od an : Option Addr} {osl : Array (Option Value)} (T : Txt K mg P fI_Refused) (D_check_tent : DfB false Pg w K mg base P (L2.CX Pg w) 3 "check_tent" (topS 12) ["value"] m_check_tent) (D_highest : DfB false Pg w K mg base P (L2.CX Pg w) 4 "highest" (topS 18) ["tent"] m_highest)  (l19 : K.lookup f = some ⟨oc, od, .func (PySem.W.fnOf "lowest" "lowest" (defArgs (topS 19)) (defBody (topS 19)) (defScope (topS 19)) .none kV doc pm an cdv ct), osl⟩) (hcd : PySem.W.codeIn K cdv "lowest" = true) (kp : PySem.W.keepIn K (.ref f) = true) (hm : mg "lowest" = some (.ref f)) : DfB false Pg w K mg base P (L2.CX Pg w) 5 "lowest" (topS 19) ["tent"] m_lowest :=
  df_BX (gd := false) (N := N_lowest) (S := S_lowest) (k := 4) l19 hcd kp hm sc_lowest (fun _ _ _ _ _ _ us hl => match us, hl with | [_], _ => rfl) fun A outer s H E hga hr => (ssd_cons (sd_unp [1, 2, 3, 4] rfl (pgs_cons (pg_name (i := 1) nd_lowest rfl (.inl rfl)) (pgs_cons (pg_name (i := 2) nd_lowest rfl (.inl rfl)) (pgs_cons (pg_name (i := 3) nd_lowest rfl (.inl rfl)) (pgs_cons (pg_name (i := 4) nd_lowest rfl (.inl rfl)) pgs_nil)))) rfl (ed_callB noG D_check_tent (hr.mono (by decide)) (passX (takes_of rfl rfl rfl rfl) fun _ _ _ _ h => h) (by rfl) (ea_cons (ed_var 0) ea_nil) (len_cons (fun _ _ _ _ h => len_nil h))))
      (ssd_cons (sd_ret (ed_neg (ed_callB noG D_highest (hr.mono (by decide)) (passX (takes_of rfl rfl rfl rfl) fun _ _ _ _ h => h) (by rfl) (ea_cons (ed_tup (ea_cons (ed_neg (ed_var 1)) (ea_cons (ed_neg (ed_var 2)) (ea_cons (ed_var 3) (ea_cons (ed_var 4) ea_nil))))) ea_nil) (len_cons (fun _ _ _ _ h => len_nil h)))))
      ssd_nil))

theorem nd_need_integer : N_need_integer.Nodup := by decide +kernel
theorem sc_need_integer : FnScope N_need_integer ["value"] (defScope (topS 9)) := ⟨rfl, rfl, rfl, by decide +kernel, rfl, by decide +kernel, by decide +kernel⟩
theorem ok_need_integer {f : Addr} {oc kV doc pm cdv ct : Value} {od an : Option Addr} {osl : Array (Option Value)} (T : Txt K mg P fI_Refused) (D_is_integer : DfB false Pg w K mg base P CX0 1 "is_integer" (topS 4) ["value"] m_is_integer)  (l9 : K.lookup f = some ⟨oc, od, .func (PySem.W.fnOf "need_integer" "need_integer" (defArgs (topS 9)) (defBody (topS 9)) (defScope (topS 9)) .none kV doc pm an cdv ct), osl⟩) (hcd : PySem.W.codeIn K cdv "need_integer" = true) (kp : PySem.W.keepIn K (.ref f) = true) (hm : mg "need_integer" = some (.ref f)) : DfB false Pg w K mg base P (L2.CX Pg w) 2 "need_integer" (topS 9) ["value"] m_need_integer :=
  df_BX (gd := false) (N := N_need_integer) (S := S_need_integer) (k := 1) l9 hcd kp hm sc_need_integer (fun _ _ _ _ _ _ us hl => match us, hl with | [_], _ => rfl) fun A outer s H E hga hr => (ssd_cons (sd_if (et_not (et_val (ed_callB noG D_is_integer (hr.mono (by decide)) pass0' (by rfl) (ea_cons (ed_var 0) ea_nil) (len_cons (fun _ _ _ _ h => len_nil h))))) (ssd_cons (sd_raise rfl T.low_Refused hr (takes_of rfl rfl rfl rfl) (ed_var 0))
      ssd_nil) ssd_nil)
      ssd_nil)

theorem nd__checked_limit : N__checked_limit.Nodup := by decide +kernel
theorem sc__checked_limit : FnScope N__checked_limit ["tent", "limit"] (defScope (topS 22)) := ⟨rfl, rfl, rfl, by decide +kernel, rfl, by decide +kernel, by decide +kernel⟩
theorem ok__checked_limit {f : Addr} {oc kV doc pm cdv ct : Value} {od an : Option Addr} {osl : Array (Option Value)} (T : Txt K mg P fI_Refused) (D_check_tent : DfB false Pg w K mg base P (L2.CX Pg w) 3 "check_tent" (topS 12) ["value"] m_check_tent) (D_need_integer : DfB false Pg w K mg base P (L2.CX Pg w) 2 "need_integer" (topS 9) ["value"] m_need_integer)  (l22 : K.lookup f = some ⟨oc, od, .func (PySem.W.fnOf "_checked_limit" "_checked_limit" (defArgs (topS 22)) (defBody (topS 22)) (defScope (topS 22)) .none kV doc pm an cdv ct), osl⟩) (hcd : PySem.W.codeIn K cdv "_checked_limit" = true) (kp : PySem.W.keepIn K (.ref f) = true) (hm : mg "_checked_limit" = some (.ref f)) : DfB false Pg w K mg base P (L2.CX Pg w) 4 "_checked_limit" (topS 22) ["tent", "limit"] m__checked_limit :=
  df_BX (gd := false) (N := N__checked_limit) (S := S__checked_limit) (k := 3) l22 hcd kp hm sc__checked_limit (fun _ _ _ _ _ _ us hl => match us, hl with | [_, _], _ => rfl) fun A outer s H E hga hr => (ssd_cons (sd_set 0 nd__checked_limit rfl (.inl rfl) (ed_callB noG D_check_tent (hr.mono (by decide)) (passX (takes_of rfl rfl rfl rfl) fun _ _ _ _ h => h) (by rfl) (ea_cons (ed_var 0) ea_nil) (len_cons (fun _ _ _ _ h => len_nil h))))
      (ssd_cons (sd_expr (ed_callB noG D_need_integer (hr.mono (by decide)) (passX (takes_of rfl rfl rfl rfl) fun _ _ _ _ h => h) (by rfl) (ea_cons (ed_var 1) ea_nil) (len_cons (fun _ _ _ _ h => len_nil h))))
      (ssd_cons (sd_ret (ed_var 0))
      ssd_nil)))

theorem nd__low : N__low.Nodup := by decide +kernel
theorem sc__low : FnScope N__low ["tent", "tick"] (defScope (topS 13)) := ⟨rfl, rfl, rfl, by decide +kernel, rfl, by decide +kernel, by decide +kernel⟩
theorem ok__low {f : Addr} {oc kV doc pm cdv ct : Value} {od an : Option Addr} {osl : Array (Option Value)} (T : Txt K mg P fI_Refused)   (l13 : K.lookup f = some ⟨oc, od, .func (PySem.W.fnOf "_low" "_low" (defArgs (topS 13)) (defBody (topS 13)) (defScope (topS 13)) .none kV doc pm an cdv ct), osl⟩) (hcd : PySem.W.codeIn K cdv "_low" = true) (kp : PySem.W.keepIn K (.ref f) = true) (hm : mg "_low" = some (.ref f)) : DfB false Pg w K mg base P CX0 1 "_low" (topS 13) ["tent", "tick"] m__low :=
  df_B0 (gd := false) (N := N__low) (S := S__low) (k := 0) l13 hcd kp hm sc__low (fun _ _ _ _ _ _ us hl => match us, hl with | [_, _], _ => rfl) fun A outer s H hga hr => (ssd_cons (sd_unp [2, 3, 4, 5] rfl (pgs_cons (pg_name (i := 2) nd__low rfl (.inl rfl)) (pgs_cons (pg_name (i := 3) nd__low rfl (.inl rfl)) (pgs_cons (pg_name (i := 4) nd__low rfl (.inl rfl)) (pgs_cons (pg_name (i := 5) nd__low rfl (.inl rfl)) pgs_nil)))) rfl (ed_var 0))
      (ssd_cons (sd_ret (ed_blt (call_max2 rfl) cd_max (by rfl) T.max b_max (ea_cons (ed_sub (ed_var 2) (ed_mul (ed_var 4) (ed_var 1))) (ea_cons (ed_sub (ed_var 3) (ed_mul (ed_var 4) (ed_sub (ed_var 5) (ed_var 1)))) ea_nil))))
      ssd_nil))

theorem nd_above_at : N_above_at.Nodup := by decide +kernel
theorem sc_above_at : FnScope N_above_at ["tent", "limit"] (defScope (topS 23)) := ⟨rfl, rfl, rfl, by decide +kernel, rfl, by decide +kernel, by decide +kernel⟩
theorem ok_above_at {f : Addr} {oc kV doc pm cdv ct : Value} {od an : Option Addr} {osl : Array (Option Value)} (T : Txt K mg P fI_Refused) (D__checked_limit : DfB false Pg w K mg base P (L2.CX Pg w) 4 "_checked_limit" (topS 22) ["tent", "limit"] m__checked_limit) (D__low : DfB false Pg w K mg base P CX0 1 "_low" (topS 13) ["tent", "tick"] m__low)  (l23 : K.lookup f = some ⟨oc, od, .func (PySem.W.fnOf "above_at" "above_at" (defArgs (topS 23)) (defBody (topS 23)) (defScope (topS 23)) .none kV doc pm an cdv ct), osl⟩) (hcd : PySem.W.codeIn K cdv "above_at" = true) (kp : PySem.W.keepIn K (.ref f) = true) (hm : mg "above_at" = some (.ref f)) : DfB false Pg w K mg base P (L2.CX Pg w) 5 "above_at" (topS 23) ["tent", "limit"] m_above_at :=
  df_BX (gd := false) (N := N_above_at) (S := S_above_at) (k := 4) l23 hcd kp hm sc_above_at (fun _ _ _ _ _ _ us hl => match us, hl with | [_, _], _ => rfl) fun A outer s H E hga hr => (ssd_cons (sd_set 0 nd_above_at rfl (.inr rfl) (ed_callB noG D__checked_limit (hr.mono (by decide)) (passX (takes_of rfl rfl rfl rfl) fun _ _ _ _ h => h) (by rfl) (ea_cons (ed_var 0) (ea_cons (ed_var 1) ea_nil)) (len_cons (len_cons (fun _ _ _ _ h => len_nil h)))))
      (ssd_cons (sd_ret (ed_ty call_tuple_of cd_tupOf (by rfl) T.tuple b_tuple (ea_cons (ed_lc (own := [("tick", 2)]) rfl nd_above_at (ei_rg1 (by rfl) T.range (ea_cons (ed_plus (ed_ix (ed_var 0) ed_int (fun _ _ => rfl)) ed_int) ea_nil)) (blkOk_by (own := [("tick", 2)]) (N := N_above_at) (sc := defScope (topS 23)) (by decide +kernel)) (gd_one 2) (fun _ _ _ _ _ => (pg_name (i := 2) nd_above_at rfl (by first | exact .inl rfl | exact .inr rfl))) (fun _ _ _ _ _ => (et_one (et_gt (ed_callB noG D__low (hr.mono (by decide)) pass0' (by rfl) (ea_cons (ed_var 0) (ea_cons (ed_var 2) ea_nil)) (len_cons (len_cons (fun _ _ _ _ h => len_nil h)))) (ed_var 1)))) (fun _ _ _ _ _ => (ed_var 2))) ea_nil)))
      ssd_nil))

theorem nd_can_be_above : N_can_be_above.Nodup := by decide +kernel
theorem sc_can_be_above : FnScope N_can_be_above ["tent", "limit"] (defScope (topS 24)) := ⟨rfl, rfl, rfl, by decide +kernel, rfl, by decide +kernel, by decide +kernel⟩
theorem ok_can_be_above {f : Addr} {oc kV doc pm cdv ct : Value} {od an : Option Addr} {osl : Array (Option Value)} (T : Txt K mg P fI_Refused) (D__checked_limit : DfB false Pg w K mg base P (L2.CX Pg w) 4 "_checked_limit" (topS 22) ["tent", "limit"] m__checked_limit) (D__high : DfB false Pg w K mg base P CX0 1 "_high" (topS 14) ["tent", "tick"] m__high)  (l24 : K.lookup f = some ⟨oc, od, .func (PySem.W.fnOf "can_be_above" "can_be_above" (defArgs (topS 24)) (defBody (topS 24)) (defScope (topS 24)) .none kV doc pm an cdv ct), osl⟩) (hcd : PySem.W.codeIn K cdv "can_be_above" = true) (kp : PySem.W.keepIn K (.ref f) = true) (hm : mg "can_be_above" = some (.ref f)) : DfB false Pg w K mg base P (L2.CX Pg w) 5 "can_be_above" (topS 24) ["tent", "limit"] m_can_be_above :=
  df_BX (gd := false) (N := N_can_be_above) (S := S_can_be_above) (k := 4) l24 hcd kp hm sc_can_be_above (fun _ _ _ _ _ _ us hl => match us, hl with | [_, _], _ => rfl) fun A outer s H E hga hr => (ssd_cons (sd_set 0 nd_can_be_above rfl (.inr rfl) (ed_callB noG D__checked_limit (hr.mono (by decide)) (passX (takes_of rfl rfl rfl rfl) fun _ _ _ _ h => h) (by rfl) (ea_cons (ed_var 0) (ea_cons (ed_var 1) ea_nil)) (len_cons (len_cons (fun _ _ _ _ h => len_nil h)))))
      (ssd_cons (sd_ret (ed_ty call_tuple_of cd_tupOf (by rfl) T.tuple b_tuple (ea_cons (ed_lc (own := [("tick", 2)]) rfl nd_can_be_above (ei_rg1 (by rfl) T.range (ea_cons (ed_plus (ed_ix (ed_var 0) ed_int (fun _ _ => rfl)) ed_int) ea_nil)) (blkOk_by (own := [("tick", 2)]) (N := N_can_be_above) (sc := defScope (topS 24)) (by decide +kernel)) (gd_one 2) (fun _ _ _ _ _ => (pg_name (i := 2) nd_can_be_above rfl (by first | exact .inl rfl | exact .inr rfl))) (fun _ _ _ _ _ => (et_one (et_gt (ed_callB noG D__high (hr.mono (by decide)) pass0' (by rfl) (ea_cons (ed_var 0) (ea_cons (ed_var 2) ea_nil)) (len_cons (len_cons (fun _ _ _ _ h => len_nil h)))) (ed_var 1)))) (fun _ _ _ _ _ => (ed_var 2))) ea_nil)))
      ssd_nil))

theorem nd__surely_behind : N__surely_behind.Nodup := by decide +kernel
theorem sc__surely_behind : FnScope N__surely_behind ["value", "limit", "rate"] (defScope (topS 25)) := ⟨rfl, rfl, rfl, by decide +kernel, rfl, by decide +kernel, by decide +kernel⟩
theorem ok__surely_behind {f : Addr} {oc kV doc pm cdv ct : Value} {od an : Option Addr} {osl : Array (Option Value)} (T : Txt K mg P fI_Refused)   (l25 : K.lookup f = some ⟨oc, od, .func (PySem.W.fnOf "_surely_behind" "_surely_behind" (defArgs (topS 25)) (defBody (topS 25)) (defScope (topS 25)) .none kV doc pm an cdv ct), osl⟩) (hcd : PySem.W.codeIn K cdv "_surely_behind" = true) (kp : PySem.W.keepIn K (.ref f) = true) (hm : mg "_surely_behind" = some (.ref f)) : DfB false Pg w K mg base P CX0 1 "_surely_behind" (topS 25) ["value", "limit", "rate"] m__surely_behind :=
  df_B0 (gd := false) (N := N__surely_behind) (S := S__surely_behind) (k := 0) l25 hcd kp hm sc__surely_behind (fun _ _ _ _ _ _ us hl => match us, hl with | [_, _, _], _ => rfl) fun A outer s H hga hr => (ssd_cons (sd_ret (ed_blt (call_max2 rfl) cd_max (by rfl) T.max b_max (ea_cons ed_int (ea_cons (ed_neg (ed_div (ed_neg (ed_sub (ed_var 0) (ed_var 1))) (ed_var 2))) ea_nil))))
      ssd_nil)

theorem nd__not_yet_behind : N__not_yet_behind.Nodup := by decide +kernel
theorem sc__not_yet_behind : FnScope N__not_yet_behind ["value", "limit", "rate"] (defScope (topS 26)) := ⟨rfl, rfl, rfl, by decide +kernel, rfl, by decide +kernel, by decide +kernel⟩
theorem ok__not_yet_behind {f : Addr} {oc kV doc pm cdv ct : Value} {od an : Option Addr} {osl : Array (Option Value)} (T : Txt K mg P fI_Refused)   (l26 : K.lookup f = some ⟨oc, od, .func (PySem.W.fnOf "_not_yet_behind" "_not_yet_behind" (defArgs (topS 26)) (defBody (topS 26)) (defScope (topS 26)) .none kV doc pm an cdv ct), osl⟩) (hcd : PySem.W.codeIn K cdv "_not_yet_behind" = true) (kp : PySem.W.keepIn K (.ref f) = true) (hm : mg "_not_yet_behind" = some (.ref f)) : DfB false Pg w K mg base P CX0 1 "_not_yet_behind" (topS 26) ["value", "limit", "rate"] m__not_yet_behind :=
  df_B0 (gd := false) (N := N__not_yet_behind) (S := S__not_yet_behind) (k := 0) l26 hcd kp hm sc__not_yet_behind (fun _ _ _ _ _ _ us hl => match us, hl with | [_, _, _], _ => rfl) fun A outer s H hga hr => (ssd_cons (sd_ret (ed_blt (call_max2 rfl) cd_max (by rfl) T.max b_max (ea_cons ed_int (ea_cons (ed_plus (ed_div (ed_sub (ed_var 1) (ed_var 0)) (ed_var 2)) ed_int) ea_nil))))
      ssd_nil)

theorem nd_many_above : N_many_above.Nodup := by decide +kernel
theorem sc_many_above : FnScope N_many_above ["tent", "limit"] (defScope (topS 27)) := ⟨rfl, rfl, rfl, by decide +kernel, rfl, by decide +kernel, by decide +kernel⟩
theorem ok_many_above {f : Addr} {oc kV doc pm cdv ct : Value} {od an : Option Addr} {osl : Array (Option Value)} (T : Txt K mg P fI_Refused) (D__checked_limit : DfB false Pg w K mg base P (L2.CX Pg w) 4 "_checked_limit" (topS 22) ["tent", "limit"] m__checked_limit) (D__surely_behind : DfB false Pg w K mg base P CX0 1 "_surely_behind" (topS 25) ["value", "limit", "rate"] m__surely_behind) (D__not_yet_behind : DfB false Pg w K mg base P CX0 1 "_not_yet_behind" (topS 26) ["value", "limit", "rate"] m__not_yet_behind)  (l27 : K.lookup f = some ⟨oc, od, .func (PySem.W.fnOf "many_above" "many_above" (defArgs (topS 27)) (defBody (topS 27)) (defScope (topS 27)) .none kV doc pm an cdv ct), osl⟩) (hcd : PySem.W.codeIn K cdv "many_above" = true) (kp : PySem.W.keepIn K (.ref f) = true) (hm : mg "many_above" = some (.ref f)) : DfB false Pg w K mg base P (L2.CX Pg w) 5 "many_above" (topS 27) ["tent", "limit"] m_many_above :=
  df_BX (gd := false) (N := N_many_above) (S := S_many_above) (k := 4) l27 hcd kp hm sc_many_above (fun _ _ _ _ _ _ us hl => match us, hl with | [_, _], _ => rfl) fun A outer s H E hga hr => (ssd_cons (sd_unp [2, 3, 4, 5] rfl (pgs_cons (pg_name (i := 2) nd_many_above rfl (.inl rfl)) (pgs_cons (pg_name (i := 3) nd_many_above rfl (.inl rfl)) (pgs_cons (pg_name (i := 4) nd_many_above rfl (.inl rfl)) (pgs_cons (pg_name (i := 5) nd_many_above rfl (.inl rfl)) pgs_nil)))) rfl (ed_callB noG D__checked_limit (hr.mono (by decide)) (passX (takes_of rfl rfl rfl rfl) fun _ _ _ _ h => h) (by rfl) (ea_cons (ed_var 0) (ea_cons (ed_var 1) ea_nil)) (len_cons (len_cons (fun _ _ _ _ h => len_nil h)))))
      (ssd_cons (sd_set 6 nd_many_above rfl (.inl rfl) (ed_plus (ed_callB noG D__surely_behind (hr.mono (by decide)) pass0' (by rfl) (ea_cons (ed_var 2) (ea_cons (ed_var 1) (ea_cons (ed_var 4) ea_nil))) (len_cons (len_cons (len_cons (fun _ _ _ _ h => len_nil h))))) (ed_callB noG D__surely_behind (hr.mono (by decide)) pass0' (by rfl) (ea_cons (ed_var 3) (ea_cons (ed_var 1) (ea_cons (ed_var 4) ea_nil))) (len_cons (len_cons (len_cons (fun _ _ _ _ h => len_nil h)))))))
      (ssd_cons (sd_set 7 nd_many_above rfl (.inl rfl) (ed_plus (ed_callB noG D__not_yet_behind (hr.mono (by decide)) pass0' (by rfl) (ea_cons (ed_var 2) (ea_cons (ed_var 1) (ea_cons (ed_var 4) ea_nil))) (len_cons (len_cons (len_cons (fun _ _ _ _ h => len_nil h))))) (ed_callB noG D__not_yet_behind (hr.mono (by decide)) pass0' (by rfl) (ea_cons (ed_var 3) (ea_cons (ed_var 1) (ea_cons (ed_var 4) ea_nil))) (len_cons (len_cons (len_cons (fun _ _ _ _ h => len_nil h)))))))
      (ssd_cons (sd_ret (ed_tup (ea_cons (ed_blt (call_min2 rfl) cd_min (by rfl) T.min b_min (ea_cons (ed_plus (ed_var 5) ed_int) (ea_cons (ed_var 6) ea_nil))) (ea_cons (ed_blt (call_max2 rfl) cd_max (by rfl) T.max b_max (ea_cons ed_int (ea_cons (ed_sub (ed_plus (ed_var 5) ed_int) (ed_var 7)) ea_nil))) ea_nil))))
      ssd_nil))))

theorem nd_is_within : N_is_within.Nodup := by decide +kernel
theorem sc_is_within : FnScope N_is_within ["value", "least", "most"] (defScope (topS 5)) := ⟨rfl, rfl, rfl, by decide +kernel, rfl, by decide +kernel, by decide +kernel⟩
theorem ok_is_within {f : Addr} {oc kV doc pm cdv ct : Value} {od an : Option Addr} {osl : Array (Option Value)} (T : Txt K mg P fI_Refused) (D_is_integer : DfB false Pg w K mg base P CX0 1 "is_integer" (topS 4) ["value"] m_is_integer)  (l5 : K.lookup f = some ⟨oc, od, .func (PySem.W.fnOf "is_within" "is_within" (defArgs (topS 5)) (defBody (topS 5)) (defScope (topS 5)) .none kV doc pm an cdv ct), osl⟩) (hcd : PySem.W.codeIn K cdv "is_within" = true) (kp : PySem.W.keepIn K (.ref f) = true) (hm : mg "is_within" = some (.ref f)) : DfB false Pg w K mg base P CX0 2 "is_within" (topS 5) ["value", "least", "most"] m_is_within :=
  df_B0 (gd := false) (N := N_is_within) (S := S_is_within) (k := 1) l5 hcd kp hm sc_is_within (fun _ _ _ _ _ _ us hl => match us, hl with | [_, _, _], _ => rfl) fun A outer s H hga hr => (ssd_cons (sd_ret (ed_and (ed_callB noG D_is_integer (hr.mono (by decide)) pass0' (by rfl) (ea_cons (ed_var 0) ea_nil) (len_cons (fun _ _ _ _ h => len_nil h))) (ed_one (ed_chain op_le op_le (ed_var 1) (ed_var 0) (ed_var 2)))))
      ssd_nil)

theorem nd_need_within : N_need_within.Nodup := by decide +kernel
theorem sc_need_within : FnScope N_need_within ["value", "least", "most"] (defScope (topS 10)) := ⟨rfl, rfl, rfl, by decide +kernel, rfl, by decide +kernel, by decide +kernel⟩
theorem ok_need_within {f : Addr} {oc kV doc pm cdv ct : Value} {od an : Option Addr} {osl : Array (Option Value)} (T : Txt K mg P fI_Refused) (D_is_within : DfB false Pg w K mg base P CX0 2 "is_within" (topS 5) ["value", "least", "most"] m_is_within)  (l10 : K.lookup f = some ⟨oc, od, .func (PySem.W.fnOf "need_within" "need_within" (defArgs (topS 10)) (defBody (topS 10)) (defScope (topS 10)) .none kV doc pm an cdv ct), osl⟩) (hcd : PySem.W.codeIn K cdv "need_within" = true) (kp : PySem.W.keepIn K (.ref f) = true) (hm : mg "need_within" = some (.ref f)) : DfB false Pg w K mg base P (L2.CX Pg w) 3 "need_within" (topS 10) ["value", "least", "most"] m_need_within :=
  df_BX (gd := false) (N := N_need_within) (S := S_need_within) (k := 2) l10 hcd kp hm sc_need_within (fun _ _ _ _ _ _ us hl => match us, hl with | [_, _, _], _ => rfl) fun A outer s H E hga hr => (ssd_cons (sd_if (et_not (et_val (ed_callB noG D_is_within (hr.mono (by decide)) pass0' (by rfl) (ea_cons (ed_var 0) (ea_cons (ed_var 1) (ea_cons (ed_var 2) ea_nil))) (len_cons (len_cons (len_cons (fun _ _ _ _ h => len_nil h))))))) (ssd_cons (sd_raise rfl T.low_Refused hr (takes_of rfl rfl rfl rfl) (ed_var 0))
      ssd_nil) ssd_nil)
      ssd_nil)

theorem nd__need_tick : N__need_tick.Nodup := by decide +kernel
theorem sc__need_tick : FnScope N__need_tick ["tent", "tick"] (defScope (topS 16)) := ⟨rfl, rfl, rfl, by decide +kernel, rfl, by decide +kernel, by decide +kernel⟩
theorem ok__need_tick {f : Addr} {oc kV doc pm cdv ct : Value} {od an : Option Addr} {osl : Array (Option Value)} (T : Txt K mg P fI_Refused) (D_need_within : DfB false Pg w K mg base P (L2.CX Pg w) 3 "need_within" (topS 10) ["value", "least", "most"] m_need_within)  (l16 : K.lookup f = some ⟨oc, od, .func (PySem.W.fnOf "_need_tick" "_need_tick" (defArgs (topS 16)) (defBody (topS 16)) (defScope (topS 16)) .none kV doc pm an cdv ct), osl⟩) (hcd : PySem.W.codeIn K cdv "_need_tick" = true) (kp : PySem.W.keepIn K (.ref f) = true) (hm : mg "_need_tick" = some (.ref f)) : DfB false Pg w K mg base P (L2.CX Pg w) 4 "_need_tick" (topS 16) ["tent", "tick"] m__need_tick :=
  df_BX (gd := false) (N := N__need_tick) (S := S__need_tick) (k := 3) l16 hcd kp hm sc__need_tick (fun _ _ _ _ _ _ us hl => match us, hl with | [_, _], _ => rfl) fun A outer s H E hga hr => (ssd_cons (sd_expr (ed_callB noG D_need_within (hr.mono (by decide)) (passX (takes_of rfl rfl rfl rfl) fun _ _ _ _ h => h) (by rfl) (ea_cons (ed_var 1) (ea_cons ed_int (ea_cons (ed_ix (ed_var 0) ed_int (fun _ _ => rfl)) ea_nil))) (len_cons (len_cons (len_cons (fun _ _ _ _ h => len_nil h))))))
      ssd_nil)

theorem nd__leg : N__leg.Nodup := by decide +kernel
theorem sc__leg : FnScope N__leg ["start", "end", "ticks"] (defScope (topS 20)) := ⟨rfl, rfl, rfl, by decide +kernel, rfl, by decide +kernel, by decide +kernel⟩
theorem ok__leg {f : Addr} {oc kV doc pm cdv ct : Value} {od an : Option Addr} {osl : Array (Option Value)} (T : Txt K mg P fI_Refused)   (l20 : K.lookup f = some ⟨oc, od, .func (PySem.W.fnOf "_leg" "_leg" (defArgs (topS 20)) (defBody (topS 20)) (defScope (topS 20)) .none kV doc pm an cdv ct), osl⟩) (hcd : PySem.W.codeIn K cdv "_leg" = true) (kp : PySem.W.keepIn K (.ref f) = true) (hm : mg "_leg" = some (.ref f)) : DfB false Pg w K mg base P CX0 1 "_leg" (topS 20) ["start", "end", "ticks"] m__leg :=
  df_B0 (gd := false) (N := N__leg) (S := S__leg) (k := 0) l20 hcd kp hm sc__leg (fun _ _ _ _ _ _ us hl => match us, hl with | [_, _, _], _ => rfl) fun A outer s H hga hr => (ssd_cons (sd_ret (ed_ty call_tuple_of cd_tupOf (by rfl) T.tuple b_tuple (ea_cons (ed_lc (own := [("tick", 3)]) rfl nd__leg (ei_rg1 (by rfl) T.range (ea_cons (ed_var 2) ea_nil)) (blkOk_by (own := [("tick", 3)]) (N := N__leg) (sc := defScope (topS 20)) (by decide +kernel)) (gd_one 3) (fun _ _ _ _ _ => (pg_name (i := 3) nd__leg rfl (by first | exact .inl rfl | exact .inr rfl))) (fun _ _ _ _ _ => et_yes) (fun _ _ _ _ _ => (ed_plus (ed_var 0) (ed_div (ed_mul (ed_sub (ed_var 1) (ed_var 0)) (ed_var 3)) (ed_var 2))))) ea_nil)))
      ssd_nil)

theorem nd_path_at : N_path_at.Nodup := by decide +kernel
theorem sc_path_at : FnScope N_path_at ["tent", "tick", "value"] (defScope (topS 21)) := ⟨rfl, rfl, rfl, by decide +kernel, rfl, by decide +kernel, by decide +kernel⟩
theorem ok_path_at {f : Addr} {oc kV doc pm cdv ct : Value} {od an : Option Addr} {osl : Array (Option Value)} (T : Txt K mg P fI_Refused) (D_check_tent : DfB false Pg w K mg base P (L2.CX Pg w) 3 "check_tent" (topS 12) ["value"] m_check_tent) (D__need_tick : DfB false Pg w K mg base P (L2.CX Pg w) 4 "_need_tick" (topS 16) ["tent", "tick"] m__need_tick) (D_need_within : DfB false Pg w K mg base P (L2.CX Pg w) 3 "need_within" (topS 10) ["value", "least", "most"] m_need_within) (D__low : DfB false Pg w K mg base P CX0 1 "_low" (topS 13) ["tent", "tick"] m__low) (D__high : DfB false Pg w K mg base P CX0 1 "_high" (topS 14) ["tent", "tick"] m__high) (D__leg : DfB false Pg w K mg base P CX0 1 "_leg" (topS 20) ["start", "end", "ticks"] m__leg)  (l21 : K.lookup f = some ⟨oc, od, .func (PySem.W.fnOf "path_at" "path_at" (defArgs (topS 21)) (defBody (topS 21)) (defScope (topS 21)) .none kV doc pm an cdv ct), osl⟩) (hcd : PySem.W.codeIn K cdv "path_at" = true) (kp : PySem.W.keepIn K (.ref f) = true) (hm : mg "path_at" = some (.ref f)) : DfB false Pg w K mg base P (L2.CX Pg w) 5 "path_at" (topS 21) ["tent", "tick", "value"] m_path_at :=
  df_BX (gd := false) (N := N_path_at) (S := S_path_at) (k := 4) l21 hcd kp hm sc_path_at (fun _ _ _ _ _ _ us hl => match us, hl with | [_, _, _], _ => rfl) fun A outer s H E hga hr => (ssd_cons (sd_set 0 nd_path_at rfl (.inl rfl) (ed_callB noG D_check_tent (hr.mono (by decide)) (passX (takes_of rfl rfl rfl rfl) fun _ _ _ _ h => h) (by rfl) (ea_cons (ed_var 0) ea_nil) (len_cons (fun _ _ _ _ h => len_nil h))))
      (ssd_cons (sd_expr (ed_callB noG D__need_tick (hr.mono (by decide)) (passX (takes_of rfl rfl rfl rfl) fun _ _ _ _ h => h) (by rfl) (ea_cons (ed_var 0) (ea_cons (ed_var 1) ea_nil)) (len_cons (len_cons (fun _ _ _ _ h => len_nil h)))))
      (ssd_cons (sd_expr (ed_callB noG D_need_within (hr.mono (by decide)) (passX (takes_of rfl rfl rfl rfl) fun _ _ _ _ h => h) (by rfl) (ea_cons (ed_var 2) (ea_cons (ed_callB noG D__low (hr.mono (by decide)) pass0' (by rfl) (ea_cons (ed_var 0) (ea_cons (ed_var 1) ea_nil)) (len_cons (len_cons (fun _ _ _ _ h => len_nil h)))) (ea_cons (ed_callB noG D__high (hr.mono (by decide)) pass0' (by rfl) (ea_cons (ed_var 0) (ea_cons (ed_var 1) ea_nil)) (len_cons (len_cons (fun _ _ _ _ h => len_nil h)))) ea_nil))) (len_cons (len_cons (len_cons (fun _ _ _ _ h => len_nil h))))))
      (ssd_cons (sd_unp [3, 4, 5, 6] rfl (pgs_cons (pg_name (i := 3) nd_path_at rfl (.inl rfl)) (pgs_cons (pg_name (i := 4) nd_path_at rfl (.inl rfl)) (pgs_cons (pg_name (i := 5) nd_path_at rfl (.inl rfl)) (pgs_cons (pg_name (i := 6) nd_path_at rfl (.inl rfl)) pgs_nil)))) rfl (ed_var 0))
      (ssd_cons (sd_ret (ed_plus (ed_plus (ed_callB noG D__leg (hr.mono (by decide)) pass0' (by rfl) (ea_cons (ed_var 3) (ea_cons (ed_var 2) (ea_cons (ed_var 1) ea_nil))) (len_cons (len_cons (len_cons (fun _ _ _ _ h => len_nil h))))) (ed_callB noG D__leg (hr.mono (by decide)) pass0' (by rfl) (ea_cons (ed_var 2) (ea_cons (ed_var 4) (ea_cons (ed_sub (ed_var 6) (ed_var 1)) ea_nil))) (len_cons (len_cons (len_cons (fun _ _ _ _ h => len_nil h)))))) (ed_tup (ea_cons (ed_var 4) ea_nil))))
      ssd_nil)))))

theorem nd__law_bent : N__law_bent.Nodup := by decide +kernel
theorem sc__law_bent : FnScope N__law_bent ["_law_box_here", "_law_path"] (defScope (topS 37)) := ⟨rfl, rfl, rfl, by decide +kernel, rfl, by decide +kernel, by decide +kernel⟩
theorem ok__law_bent {f : Addr} {oc kV doc pm cdv ct : Value} {od an : Option Addr} {osl : Array (Option Value)} (T : Txt K mg P fI_Refused) (D__law_take : DfB false Pg w K mg base P CX0 1 "_law_take" (topS 30) ["_law_box_here", "_law_many"] m__law_take) (D__law_pick : DfB false Pg w K mg base P CX0 2 "_law_pick" (topS 31) ["_law_box_here", "_law_some"] m__law_pick)  (l37 : K.lookup f = some ⟨oc, od, .func (PySem.W.fnOf "_law_bent" "_law_bent" (defArgs (topS 37)) (defBody (topS 37)) (defScope (topS 37)) .none kV doc pm an cdv ct), osl⟩) (hcd : PySem.W.codeIn K cdv "_law_bent" = true) (kp : PySem.W.keepIn K (.ref f) = true) (hm : mg "_law_bent" = some (.ref f)) : DfB false Pg w K mg base P CX0 3 "_law_bent" (topS 37) ["_law_box_here", "_law_path"] m__law_bent :=
  df_B0 (gd := false) (N := N__law_bent) (S := S__law_bent) (k := 2) l37 hcd kp hm sc__law_bent (fun _ _ _ _ _ _ us hl => match us, hl with | [_, _], _ => rfl) fun A outer s H hga hr => (ssd_cons (sd_par3 2 3 4 rfl nd__law_bent rfl rfl rfl (by decide) (by decide) (by decide) rfl rfl rfl (ea_cons (ed_listM (by rfl) T.list b_list (ed_var 1)) (ea_cons (ed_callB noG D__law_take (hr.mono (by decide)) pass0' (by rfl) (ea_cons (ed_var 0) (ea_cons (ed_blt call_lenA cd_len (by rfl) T.len b_len (ea_cons (ed_var 1) ea_nil)) ea_nil)) (len_cons (len_cons (fun _ _ _ _ h => len_nil h)))) (ea_cons (ed_callB noG D__law_take (hr.mono (by decide)) pass0' (by rfl) (ea_cons (ed_var 0) (ea_cons ed_int ea_nil)) (len_cons (len_cons (fun _ _ _ _ h => len_nil h)))) ea_nil))) (by rfl))
      (ssd_cons (sd_if (et_eq hr.units (ed_var 4) ed_int) (ssd_cons (sd_ret (ed_callB noG D__law_pick (hr.mono (by decide)) pass0' (by rfl) (ea_cons (ed_var 0) (ea_cons (ed_lst (ea_cons ed_non (ea_cons ed_int (ea_cons ed_str (ea_cons (ed_tup ea_nil) (ea_cons (ed_plus (ed_var 2) (ed_sl (ed_var 2) (epo_some (ed_neg ed_int)) epo_none)) (ea_cons (ed_sl (ed_var 2) (epo_some ed_int) epo_none) (ea_cons (ed_plus (ed_plus (ed_sl (ed_var 2) epo_none (epo_some (ed_var 3))) (ed_lst (ea_cons ed_non ea_nil))) (ed_sl (ed_var 2) (epo_some (ed_plus (ed_var 3) ed_int)) epo_none)) (ea_cons (ed_plus (ed_plus (ed_sl (ed_var 2) epo_none (epo_some (ed_var 3))) (ed_lst (ea_cons ed_bl ea_nil))) (ed_sl (ed_var 2) (epo_some (ed_plus (ed_var 3) ed_int)) epo_none)) ea_nil))))))))) ea_nil)) (len_cons (len_cons (fun _ _ _ _ h => len_nil h)))))
      ssd_nil) ssd_nil)
      (ssd_cons (sd_if (et_lt (ed_var 4) ed_int) (ssd_cons (sd_put (ed_plus (ed_ix (ed_var 2) (ed_var 3) (fun _ _ => rfl)) (ed_callB noG D__law_pick (hr.mono (by decide)) pass0' (by rfl) (ea_cons (ed_var 0) (ea_cons (ed_lst (ea_cons ed_int (ea_cons (ed_sub ed_int ed_int) (ea_cons ed_int ea_nil)))) ea_nil)) (len_cons (len_cons (fun _ _ _ _ h => len_nil h))))) (ed_var 2) (ed_var 3))
      ssd_nil) ssd_nil)
      (ssd_frz 2 (ssd_cons (sd_ret (ed_ifExp (et_eq hr.units (ed_var 4) ed_int) (ed_ty call_tuple_of cd_tupOf (by rfl) T.tuple b_tuple (ea_cons (ed_var 2) ea_nil)) (ed_var 2)))
      ssd_nil)))))

theorem nd__law_numbers : N__law_numbers.Nodup := by decide +kernel
theorem sc__law_numbers : FnScope N__law_numbers ["_law_paths_here", "_law_limit"] (defScope (topS 38)) := ⟨rfl, rfl, rfl, by decide +kernel, rfl, by decide +kernel, by decide +kernel⟩
theorem ok__law_numbers {f : Addr} {oc kV doc pm cdv ct : Value} {od an : Option Addr} {osl : Array (Option Value)} (T : Txt K mg P fI_Refused)   (l38 : K.lookup f = some ⟨oc, od, .func (PySem.W.fnOf "_law_numbers" "_law_numbers" (defArgs (topS 38)) (defBody (topS 38)) (defScope (topS 38)) .none kV doc pm an cdv ct), osl⟩) (hcd : PySem.W.codeIn K cdv "_law_numbers" = true) (kp : PySem.W.keepIn K (.ref f) = true) (hm : mg "_law_numbers" = some (.ref f)) : DfB false Pg w K mg base P CX0 1 "_law_numbers" (topS 38) ["_law_paths_here", "_law_limit"] m__law_numbers :=
  df_B0 (gd := false) (N := N__law_numbers) (S := S__law_numbers) (k := 0) l38 hcd kp hm sc__law_numbers (fun _ _ _ _ _ _ us hl => match us, hl with | [_, _], _ => rfl) fun A outer s H hga hr => (ssd_cons (sd_setLc (i := 2) (own := [("_law_path", 4)]) rfl nd__law_numbers rfl rfl (sw_true rfl rfl rfl (by decide +kernel)) (ei_any (ed_var 0)) (blkOk_by (own := [("_law_path", 4)]) (N := N__law_numbers) (sc := defScope (topS 38)) (by decide +kernel)) (gd_one 4) (fun _ _ _ _ _ => (pg_name (i := 4) nd__law_numbers rfl (by first | exact .inl rfl | exact .inr rfl))) (fun _ _ _ _ _ => et_yes) (fun _ _ _ _ _ => (ed_blt call_lenA cd_len (by rfl) T.len b_len (ea_cons (ed_lc (own := [("_law_value", 3)]) rfl nd__law_numbers (ei_any (ed_var 4)) (blkOk_by (own := [("_law_value", 3)]) (N := N__law_numbers) (by first | rfl | decide +kernel)) (gd_one 3) (fun _ _ _ _ _ => (pg_name (i := 3) nd__law_numbers rfl (by first | exact .inl rfl | exact .inr rfl))) (fun _ _ _ _ _ => (et_one (et_gt (ed_var 3) (ed_var 1)))) (fun _ _ _ _ _ => (ed_var 3))) ea_nil))))
      (ssd_cons (sd_ret (ed_tup (ea_cons (ed_blt (cr_min rfl) cd_minL (by rfl) T.min b_min (ea_cons (ed_var 2) ea_nil)) (ea_cons (ed_blt (cr_max rfl) cd_maxL (by rfl) T.max b_max (ea_cons (ed_var 2) ea_nil)) ea_nil))))
      ssd_nil))

theorem nd__law_is_path : N__law_is_path.Nodup := by decide +kernel
theorem sc__law_is_path : FnScope N__law_is_path ["_law_tent_here", "_law_value"] (defScope (topS 35)) := ⟨rfl, rfl, rfl, by decide +kernel, rfl, by decide +kernel, by decide +kernel⟩
theorem ok__law_is_path {f : Addr} {oc kV doc pm cdv ct : Value} {od an : Option Addr} {osl : Array (Option Value)} (T : Txt K mg P fI_Refused)   (l35 : K.lookup f = some ⟨oc, od, .func (PySem.W.fnOf "_law_is_path" "_law_is_path" (defArgs (topS 35)) (defBody (topS 35)) (defScope (topS 35)) .none kV doc pm an cdv ct), osl⟩) (hcd : PySem.W.codeIn K cdv "_law_is_path" = true) (kp : PySem.W.keepIn K (.ref f) = true) (hm : mg "_law_is_path" = some (.ref f)) : DfB false Pg w K mg base P CX0 1 "_law_is_path" (topS 35) ["_law_tent_here", "_law_value"] m__law_is_path :=
  df_B0 (gd := false) (N := N__law_is_path) (S := S__law_is_path) (k := 0) l35 hcd kp hm sc__law_is_path (fun _ _ _ _ _ _ us hl => match us, hl with | [_, _], _ => rfl) fun A outer s H hga hr => (ssd_cons (sd_unp [2, 3, 4, 5] rfl (pgs_cons (pg_name (i := 2) nd__law_is_path rfl (.inl rfl)) (pgs_cons (pg_name (i := 3) nd__law_is_path rfl (.inl rfl)) (pgs_cons (pg_name (i := 4) nd__law_is_path rfl (.inr rfl)) (pgs_cons (pg_name (i := 5) nd__law_is_path rfl (.inl rfl)) pgs_nil)))) rfl (ed_var 0))
      (ssd_cons (sd_if (et_w (ew_or (et_not (et_val (ed_isi2 (by rfl) T.isinstance b_isinstance (ed_var 1) (by rfl) T.list b_list (by rfl) T.tuple b_tuple))) (ew_or1 (et_ne hr.units (ed_blt call_lenA cd_len (by rfl) T.len b_len (ea_cons (ed_var 1) ea_nil)) (ed_plus (ed_var 5) ed_int))))) (ssd_cons (sd_ret ed_bl)
      ssd_nil) ssd_nil)
      (ssd_cons (sd_if (et_ne hr.units (ed_lc (own := [("_law_one", 6)]) rfl nd__law_is_path (ei_any (ed_var 1)) (blkOk_by (own := [("_law_one", 6)]) (N := N__law_is_path) (sc := defScope (topS 35)) (by decide +kernel)) (gd_one 6) (fun _ _ _ _ _ => (pg_name (i := 6) nd__law_is_path rfl (by first | exact .inl rfl | exact .inr rfl))) (fun _ _ _ _ _ => (et_one (et_w (ew_or (et_not (et_val (ed_isi (by rfl) T.isinstance b_isinstance (ed_var 6) (by rfl) T.int b_int))) (ew_or1 (et_val (ed_isi (by rfl) T.isinstance b_isinstance (ed_var 6) (by rfl) T.bool b_bool))))))) (fun _ _ _ _ _ => (ed_var 6))) (ed_lst ea_nil)) (ssd_cons (sd_ret ed_bl)
      ssd_nil) ssd_nil)
      (ssd_cons (sd_if (et_w (ew_or (et_ne hr.units (ed_ix (ed_var 1) ed_int (fun _ _ => rfl)) (ed_var 2)) (ew_or1 (et_ne hr.units (ed_ix (ed_var 1) (ed_neg ed_int) (fun _ _ => rfl)) (ed_var 3))))) (ssd_cons (sd_ret ed_bl)
      ssd_nil) ssd_nil)
      (ssd_cons (sd_ret (ed_eq hr.units (ed_lc (own := [("_law_at", 7)]) rfl nd__law_is_path (ei_rg1 (by rfl) T.range (ea_cons (ed_var 5) ea_nil)) (blkOk_by (own := [("_law_at", 7)]) (N := N__law_is_path) (sc := defScope (topS 35)) (by decide +kernel)) (gd_one 7) (fun _ _ _ _ _ => (pg_name (i := 7) nd__law_is_path rfl (by first | exact .inl rfl | exact .inr rfl))) (fun _ _ _ _ _ => (et_one (et_gt (ed_blt call_abs cd_abs (by rfl) T.abs b_abs (ea_cons (ed_sub (ed_ix (ed_var 1) (ed_plus (ed_var 7) ed_int) (fun _ _ => rfl)) (ed_ix (ed_var 1) (ed_var 7) (fun _ _ => rfl))) ea_nil)) (ed_var 4)))) (fun _ _ _ _ _ => (ed_var 7))) (ed_lst ea_nil)))
      ssd_nil)))))

theorem nd_values_at : N_values_at.Nodup := by decide +kernel
theorem sc_values_at : FnScope N_values_at ["tent", "tick"] (defScope (topS 17)) := ⟨rfl, rfl, rfl, by decide +kernel, rfl, by decide +kernel, by decide +kernel⟩
theorem ok_values_at {f : Addr} {oc kV doc pm cdv ct : Value} {od an : Option Addr} {osl : Array (Option Value)} (T : Txt K mg P fI_Refused) (D_check_tent : DfB false Pg w K mg base P (L2.CX Pg w) 3 "check_tent" (topS 12) ["value"] m_check_tent) (D__need_tick : DfB false Pg w K mg base P (L2.CX Pg w) 4 "_need_tick" (topS 16) ["tent", "tick"] m__need_tick) (D__low : DfB false Pg w K mg base P CX0 1 "_low" (topS 13) ["tent", "tick"] m__low) (D__high : DfB false Pg w K mg base P CX0 1 "_high" (topS 14) ["tent", "tick"] m__high)  (l17 : K.lookup f = some ⟨oc, od, .func (PySem.W.fnOf "values_at" "values_at" (defArgs (topS 17)) (defBody (topS 17)) (defScope (topS 17)) .none kV doc pm an cdv ct), osl⟩) (hcd : PySem.W.codeIn K cdv "values_at" = true) (kp : PySem.W.keepIn K (.ref f) = true) (hm : mg "values_at" = some (.ref f)) : DfB false Pg w K mg base P (L2.CX Pg w) 5 "values_at" (topS 17) ["tent", "tick"] m_values_at :=
  df_BX (gd := false) (N := N_values_at) (S := S_values_at) (k := 4) l17 hcd kp hm sc_values_at (fun _ _ _ _ _ _ us hl => match us, hl with | [_, _], _ => rfl) fun A outer s H E hga hr => (ssd_cons (sd_set 0 nd_values_at rfl (.inl rfl) (ed_callB noG D_check_tent (hr.mono (by decide)) (passX (takes_of rfl rfl rfl rfl) fun _ _ _ _ h => h) (by rfl) (ea_cons (ed_var 0) ea_nil) (len_cons (fun _ _ _ _ h => len_nil h))))
      (ssd_cons (sd_expr (ed_callB noG D__need_tick (hr.mono (by decide)) (passX (takes_of rfl rfl rfl rfl) fun _ _ _ _ h => h) (by rfl) (ea_cons (ed_var 0) (ea_cons (ed_var 1) ea_nil)) (len_cons (len_cons (fun _ _ _ _ h => len_nil h)))))
      (ssd_cons (sd_ret (ed_tup (ea_cons (ed_callB noG D__low (hr.mono (by decide)) pass0' (by rfl) (ea_cons (ed_var 0) (ea_cons (ed_var 1) ea_nil)) (len_cons (len_cons (fun _ _ _ _ h => len_nil h)))) (ea_cons (ed_callB noG D__high (hr.mono (by decide)) pass0' (by rfl) (ea_cons (ed_var 0) (ea_cons (ed_var 1) ea_nil)) (len_cons (len_cons (fun _ _ _ _ h => len_nil h)))) ea_nil))))
      ssd_nil)))

theorem nd_path_holds : N_path_holds.Nodup := by decide +kernel
theorem sc_path_holds : FnScope N_path_holds ["tent", "value"] (defScope (topS 15)) := ⟨rfl, rfl, rfl, by decide +kernel, rfl, by decide +kernel, by decide +kernel⟩
abbrev Q_path_holds : Str := (envOfC "path_holds" (defScope (topS 15)) 0 0 .none).qual ++ "<genexpr>"
theorem ok_path_holds {f c Pt : Addr} {oc kV doc pm ct : Value} {od an : Option Addr} {osl : Array (Option Value)} (T : Txt K mg P fI_Refused) (D_check_tent : DfB false Pg w K mg base P (L2.CX Pg w) 3 "check_tent" (topS 12) ["value"] m_check_tent) (D_has_parts : DfB false Pg w K mg base P CX0 2 "has_parts" (topS 8) ["value", "many"] m_has_parts) (D_is_integer : DfB false Pg w K mg base P CX0 1 "is_integer" (topS 4) ["value"] m_is_integer) (TB : LamX.TabB base mg c Pt) (mT : (Pt, Q_path_holds) ∈ P.T.tb) (uT : ∀ q ∈ P.T.tb, q.1 = Pt → q.2 = Q_path_holds) (l15 : K.lookup f = some ⟨oc, od, .func (PySem.W.fnOf "path_holds" "path_holds" (defArgs (topS 15)) (defBody (topS 15)) (defScope (topS 15)) .none kV doc pm an (.ref c) ct), osl⟩) (hcd : PySem.W.codeIn K (.ref c) "path_holds" = true) (kp : PySem.W.keepIn K (.ref f) = true) (hm : mg "path_holds" = some (.ref f)) : DfB false Pg w K mg base P (L2.CX Pg w) 4 "path_holds" (topS 15) ["tent", "value"] m_path_holds :=
  df_BX (gd := false) (N := N_path_holds) (S := S_path_holds) (k := 3) l15 hcd kp hm sc_path_holds (fun _ _ _ _ _ _ us hl => match us, hl with | [_, _], _ => rfl) fun A outer s H E hga hr => (ssd_cons (sd_unp [2, 3, 4, 5] rfl (pgs_cons (pg_name (i := 2) nd_path_holds rfl (.inl rfl)) (pgs_cons (pg_name (i := 3) nd_path_holds rfl (.inl rfl)) (pgs_cons (pg_name (i := 4) nd_path_holds rfl (.inr rfl)) (pgs_cons (pg_name (i := 5) nd_path_holds rfl (.inl rfl)) pgs_nil)))) rfl (ed_callB noG D_check_tent (hr.mono (by decide)) (passX (takes_of rfl rfl rfl rfl) fun _ _ _ _ h => h) (by rfl) (ea_cons (ed_var 0) ea_nil) (len_cons (fun _ _ _ _ h => len_nil h))))
      (ssd_cons (sd_if (et_w (ew_or (et_not (et_val (ed_callB noG D_has_parts (hr.mono (by decide)) pass0' (by rfl) (ea_cons (ed_var 1) (ea_cons (ed_plus (ed_var 5) ed_int) ea_nil)) (len_cons (len_cons (fun _ _ _ _ h => len_nil h)))))) (ew_or1 (et_not (et_val (ed_allG (own := [("part", 6)]) (k := 1) (hr.mono (by decide)) rfl nd_path_holds (by rfl) T.all b_all TB rfl mT uT (ei_any (ed_var 1)) (blkOk_by (own := [("part", 6)]) (N := N_path_holds) (sc := defScope (topS 15)) (by decide +kernel)) ⟨rfl, by decide, rfl⟩ (gd_one 6) (fun _ _ _ _ _ _ _ hr3 => (pg_name (i := 6) nd_path_holds rfl (by first | exact .inl rfl | exact .inr rfl))) (fun _ _ _ _ _ _ _ hr3 => (ed_callB noG D_is_integer (hr3.mono (by decide)) pass0' (by rfl) (ea_cons (ed_var 6) ea_nil) (len_cons (fun _ _ _ _ h => len_nil h)))) (by intro _; rfl))))))) (ssd_cons (sd_ret ed_bl)
      ssd_nil) ssd_nil)
      (ssd_cons (sd_if (et_w (ew_or (et_ne hr.units (ed_ix (ed_var 1) ed_int (fun _ _ => rfl)) (ed_var 2)) (ew_or1 (et_ne hr.units (ed_ix (ed_var 1) (ed_neg ed_int) (fun _ _ => rfl)) (ed_var 3))))) (ssd_cons (sd_ret ed_bl)
      ssd_nil) ssd_nil)
      (ssd_cons (sd_ret (ed_blt (cr_all rfl) cd_all (by rfl) T.all b_all (ea_cons (ed_lc (own := [("one", 7), ("other", 8)]) rfl nd_path_holds (ei_zip (by rfl) T.zip (ea_cons (ed_var 1) (ea_cons (ed_sl (ed_var 1) (epo_some ed_int) epo_none) ea_nil))) (blkOk_by (own := [("one", 7), ("other", 8)]) (N := N_path_holds) (sc := defScope (topS 15)) (by decide +kernel)) (gd_tup [7, 8] rfl) (fun _ _ _ _ _ => (pg_tl (is := [7, 8]) rfl (pgs_cons (pg_name (i := 7) nd_path_holds rfl (by first | exact .inl rfl | exact .inr rfl)) (pgs_cons (pg_name (i := 8) nd_path_holds rfl (by first | exact .inl rfl | exact .inr rfl)) pgs_nil)))) (fun _ _ _ _ _ => et_yes) (fun _ _ _ _ _ => (ed_le (ed_blt call_abs cd_abs (by rfl) T.abs b_abs (ea_cons (ed_sub (ed_var 7) (ed_var 8)) ea_nil)) (ed_var 4)))) ea_nil)))
      ssd_nil))))

theorem nd__law_is_right : N__law_is_right.Nodup := by decide +kernel
theorem sc__law_is_right : FnScope N__law_is_right ["_law_box_here", "_law_tent_here", "_law_spans", "_law_paths_here"] (defScope (topS 39)) := ⟨rfl, rfl, rfl, by decide +kernel, rfl, by decide +kernel, by decide +kernel⟩
abbrev Q__law_is_right : Str := (envOfC "_law_is_right" (defScope (topS 39)) 0 0 .none).qual ++ "<lambda>"
theorem ok__law_is_right {f c Pt : Addr} {oc kV doc pm ct : Value} {od an : Option Addr} {osl : Array (Option Value)} (T : Txt K mg P fI_Refused) (D__law_pick : DfB false Pg w K mg base P CX0 2 "_law_pick" (topS 31) ["_law_box_here", "_law_some"] m__law_pick) (D_highest : DfB false Pg w K mg base P (L2.CX Pg w) 4 "highest" (topS 18) ["tent"] m_highest) (D_lowest : DfB false Pg w K mg base P (L2.CX Pg w) 5 "lowest" (topS 19) ["tent"] m_lowest) (D_above_at : DfB false Pg w K mg base P (L2.CX Pg w) 5 "above_at" (topS 23) ["tent", "limit"] m_above_at) (D_can_be_above : DfB false Pg w K mg base P (L2.CX Pg w) 5 "can_be_above" (topS 24) ["tent", "limit"] m_can_be_above) (D_many_above : DfB false Pg w K mg base P (L2.CX Pg w) 5 "many_above" (topS 27) ["tent", "limit"] m_many_above) (D__law_take : DfB false Pg w K mg base P CX0 1 "_law_take" (topS 30) ["_law_box_here", "_law_many"] m__law_take) (D_path_at : DfB false Pg w K mg base P (L2.CX Pg w) 5 "path_at" (topS 21) ["tent", "tick", "value"] m_path_at) (D__law_bent : DfB false Pg w K mg base P CX0 3 "_law_bent" (topS 37) ["_law_box_here", "_law_path"] m__law_bent) (D__law_numbers : DfB false Pg w K mg base P CX0 1 "_law_numbers" (topS 38) ["_law_paths_here", "_law_limit"] m__law_numbers) (D__law_is_path : DfB false Pg w K mg base P CX0 1 "_law_is_path" (topS 35) ["_law_tent_here", "_law_value"] m__law_is_path) (D_values_at : DfB false Pg w K mg base P (L2.CX Pg w) 5 "values_at" (topS 17) ["tent", "tick"] m_values_at) (D_path_holds : DfB false Pg w K mg base P (L2.CX Pg w) 4 "path_holds" (topS 15) ["tent", "value"] m_path_holds) (TB : LamX.TabB base mg c Pt) (mT : (Pt, Q__law_is_right) ∈ P.T.tb) (uT : ∀ q ∈ P.T.tb, q.1 = Pt → q.2 = Q__law_is_right) (l39 : K.lookup f = some ⟨oc, od, .func (PySem.W.fnOf "_law_is_right" "_law_is_right" (defArgs (topS 39)) (defBody (topS 39)) (defScope (topS 39)) .none kV doc pm an (.ref c) ct), osl⟩) (hcd : PySem.W.codeIn K (.ref c) "_law_is_right" = true) (kp : PySem.W.keepIn K (.ref f) = true) (hm : mg "_law_is_right" = some (.ref f)) : DfB true Pg w K mg base P CX0 8 "_law_is_right" (topS 39) ["_law_box_here", "_law_tent_here", "_law_spans", "_law_paths_here"] m__law_is_right :=
  df_B0 (gd := true) (N := N__law_is_right) (S := S__law_is_right) (k := 7) l39 hcd kp hm sc__law_is_right (fun _ _ _ _ _ _ us hl => match us, hl with | [_, _, _, _], _ => rfl) fun A outer s H hga hr => (ssd_cons (sd_set 4 nd__law_is_right rfl (.inr rfl) (ed_callB noG D__law_pick (hr.mono (by decide)) pass0' (by rfl) (ea_cons (ed_var 0) (ea_cons (ed_lst (ea_cons (ed_ix (ed_var 1) ed_int (fun _ _ => rfl)) (ea_cons (ed_ix (ed_var 1) ed_int (fun _ _ => rfl)) (ea_cons (ed_sub (ed_blt (cr_minT hr.units rfl) cd_minT (by rfl) T.min b_min (ea_cons (ed_sl (ed_var 1) epo_none (epo_some ed_int)) ea_nil)) ed_int) (ea_cons (ed_plus (ed_blt (cr_maxT hr.units rfl) cd_maxT (by rfl) T.max b_max (ea_cons (ed_sl (ed_var 1) epo_none (epo_some ed_int)) ea_nil)) (ed_callB noG D__law_take (hr.mono (by decide)) pass0' (by rfl) (ea_cons (ed_var 0) (ea_cons ed_int ea_nil)) (len_cons (len_cons (fun _ _ _ _ h => len_nil h))))) ea_nil))))) ea_nil)) (len_cons (len_cons (fun _ _ _ _ h => len_nil h)))))
      (ssd_cons (sd_set 5 nd__law_is_right rfl (.inl rfl) (ed_lst (ea_cons (ed_callB noG D_highest (hr.mono (by decide)) passL (by rfl) (ea_cons (ed_var 1) ea_nil) (len_cons (fun _ _ _ _ h => len_nil h))) (ea_cons (ed_callBK (ks := ["tent"]) [0] noG D_lowest (hr.mono (by decide)) passL (by rfl) (fun _ _ _ _ _ _ ws hl => match ws, hl with | [_], _ => rfl) (ek_cons (ed_ty call_list_of cd_listOf (by rfl) T.list b_list (ea_cons (ed_var 1) ea_nil)) ek_nil) (len_cons (fun _ _ _ _ h => len_nil h))) (ea_cons (ed_callB noG D_above_at (hr.mono (by decide)) passL (by rfl) (ea_cons (ed_var 1) (ea_cons (ed_var 4) ea_nil)) (len_cons (len_cons (fun _ _ _ _ h => len_nil h)))) (ea_cons (ed_callBK (ks := ["limit", "tent"]) [1, 0] noG D_can_be_above (hr.mono (by decide)) passL (by rfl) (fun _ _ _ _ _ _ ws hl => match ws, hl with | [_, _], _ => rfl) (ek_cons (ed_var 4) (ek_cons (ed_var 1) ek_nil)) (len_cons (len_cons (fun _ _ _ _ h => len_nil h)))) (ea_cons (ed_callB noG D_many_above (hr.mono (by decide)) passL (by rfl) (ea_cons (ed_var 1) (ea_cons (ed_var 4) ea_nil)) (len_cons (len_cons (fun _ _ _ _ h => len_nil h)))) ea_nil)))))))
      (ssd_cons (sd_set 6 nd__law_is_right rfl (.inl rfl) (ed_lst (ea_cons (ed_blt (cr_max rfl) cd_maxL (by rfl) T.max b_max (ea_cons (ed_lc (own := [("_law_low", 7), ("_law_high", 8)]) rfl nd__law_is_right (ei_any (ed_var 2)) (blkOk_by (own := [("_law_low", 7), ("_law_high", 8)]) (N := N__law_is_right) (sc := defScope (topS 39)) (by decide +kernel)) (gd_tup [7, 8] rfl) (fun _ _ _ _ _ => (pg_tl (is := [7, 8]) rfl (pgs_cons (pg_name (i := 7) nd__law_is_right rfl (by first | exact .inl rfl | exact .inr rfl)) (pgs_cons (pg_name (i := 8) nd__law_is_right rfl (by first | exact .inl rfl | exact .inr rfl)) pgs_nil)))) (fun _ _ _ _ _ => et_yes) (fun _ _ _ _ _ => (ed_var 8))) ea_nil)) (ea_cons (ed_blt (cr_min rfl) cd_minL (by rfl) T.min b_min (ea_cons (ed_lc (own := [("_law_low", 7), ("_law_high", 8)]) rfl nd__law_is_right (ei_any (ed_var 2)) (blkOk_by (own := [("_law_low", 7), ("_law_high", 8)]) (N := N__law_is_right) (sc := defScope (topS 39)) (by decide +kernel)) (gd_tup [7, 8] rfl) (fun _ _ _ _ _ => (pg_tl (is := [7, 8]) rfl (pgs_cons (pg_name (i := 7) nd__law_is_right rfl (by first | exact .inl rfl | exact .inr rfl)) (pgs_cons (pg_name (i := 8) nd__law_is_right rfl (by first | exact .inl rfl | exact .inr rfl)) pgs_nil)))) (fun _ _ _ _ _ => et_yes) (fun _ _ _ _ _ => (ed_var 7))) ea_nil)) ea_nil))))
      (ssd_cons (sd_set 6 nd__law_is_right rfl (.inl rfl) (ed_plus (ed_var 6) (ed_lst (ea_cons (ed_ty call_tuple_of cd_tupOf (by rfl) T.tuple b_tuple (ea_cons (ed_lc (own := [("_law_tick", 9)]) rfl nd__law_is_right (ei_rg1 (by rfl) T.range (ea_cons (ed_blt call_lenA cd_len (by rfl) T.len b_len (ea_cons (ed_var 2) ea_nil)) ea_nil)) (blkOk_by (own := [("_law_tick", 9)]) (N := N__law_is_right) (sc := defScope (topS 39)) (by decide +kernel)) (gd_one 9) (fun _ _ _ _ _ => (pg_name (i := 9) nd__law_is_right rfl (by first | exact .inl rfl | exact .inr rfl))) (fun _ _ _ _ _ => (et_one (et_gt (ed_ix (ed_ix (ed_var 2) (ed_var 9) (fun _ _ => rfl)) ed_int (fun _ _ => rfl)) (ed_var 4)))) (fun _ _ _ _ _ => (ed_var 9))) ea_nil)) (ea_cons (ed_ty call_tuple_of cd_tupOf (by rfl) T.tuple b_tuple (ea_cons (ed_lc (own := [("_law_tick", 9)]) rfl nd__law_is_right (ei_rg1 (by rfl) T.range (ea_cons (ed_blt call_lenA cd_len (by rfl) T.len b_len (ea_cons (ed_var 2) ea_nil)) ea_nil)) (blkOk_by (own := [("_law_tick", 9)]) (N := N__law_is_right) (sc := defScope (topS 39)) (by decide +kernel)) (gd_one 9) (fun _ _ _ _ _ => (pg_name (i := 9) nd__law_is_right rfl (by first | exact .inl rfl | exact .inr rfl))) (fun _ _ _ _ _ => (et_one (et_gt (ed_ix (ed_ix (ed_var 2) (ed_var 9) (fun _ _ => rfl)) ed_int (fun _ _ => rfl)) (ed_var 4)))) (fun _ _ _ _ _ => (ed_var 9))) ea_nil)) ea_nil)))))
      (ssd_cons (sd_if (et_w (ew_or (et_ne hr.units (ed_blt (call_repr (hga rfl) hr.units) cd_repr (by rfl) T.repr b_repr (ea_cons (ed_sl (ed_var 5) epo_none (epo_some ed_int)) ea_nil)) (ed_blt (call_repr (hga rfl) hr.units) cd_repr (by rfl) T.repr b_repr (ea_cons (ed_var 6) ea_nil))) (ew_or (et_ne hr.units (ed_blt (call_repr (hga rfl) hr.units) cd_repr (by rfl) T.repr b_repr (ea_cons (ed_ix (ed_var 5) ed_int (fun _ _ => rfl)) ea_nil)) (ed_blt (call_repr (hga rfl) hr.units) cd_repr (by rfl) T.repr b_repr (ea_cons (ed_tup (ea_cons (ed_blt call_lenA cd_len (by rfl) T.len b_len (ea_cons (ed_ix (ed_var 6) ed_int (fun _ _ => rfl)) ea_nil)) (ea_cons (ed_blt call_lenA cd_len (by rfl) T.len b_len (ea_cons (ed_ix (ed_var 6) ed_int (fun _ _ => rfl)) ea_nil)) ea_nil))) ea_nil))) (ew_or1 (et_ne hr.units (ed_callBK (ks := ["limit", "tent"]) [1, 0] noG D_many_above (hr.mono (by decide)) passL (by rfl) (fun _ _ _ _ _ _ ws hl => match ws, hl with | [_, _], _ => rfl) (ek_cons (ed_var 4) (ek_cons (ed_var 1) ek_nil)) (len_cons (len_cons (fun _ _ _ _ h => len_nil h)))) (ed_ix (ed_var 5) ed_int (fun _ _ => rfl))))))) (ssd_cons (sd_ret ed_bl)
      ssd_nil) ssd_nil)
      (ssd_cons (sd_if (et_w (ew_and (et_notN (ed_var 3)) (ew_and1 (et_ne hr.units (ed_blt (call_repr (hga rfl) hr.units) cd_repr (by rfl) T.repr b_repr (ea_cons (ed_ix (ed_var 5) ed_int (fun _ _ => rfl)) ea_nil)) (ed_blt (call_repr (hga rfl) hr.units) cd_repr (by rfl) T.repr b_repr (ea_cons (ed_callB noG D__law_numbers (hr.mono (by decide)) pass0' (by rfl) (ea_cons (ed_var 3) (ea_cons (ed_var 4) ea_nil)) (len_cons (len_cons (fun _ _ _ _ h => len_nil h)))) ea_nil)))))) (ssd_cons (sd_ret ed_bl)
      ssd_nil) ssd_nil)
      (ssd_cons (sd_for PassesOwn.never rfl (ei_rg1 (by rfl) T.range (ea_cons ed_int ea_nil)) (pg_name (i := 10) nd__law_is_right rfl (.inl rfl)) (gd_one 10) (ssd_cons (sd_set 9 nd__law_is_right rfl (.inr rfl) (ed_callB noG D__law_take (hr.mono (by decide)) pass0' (by rfl) (ea_cons (ed_var 0) (ea_cons (ed_blt call_lenA cd_len (by rfl) T.len b_len (ea_cons (ed_var 2) ea_nil)) ea_nil)) (len_cons (len_cons (fun _ _ _ _ h => len_nil h)))))
      (ssd_cons (sd_unp [7, 8] rfl (pgs_cons (pg_name (i := 7) nd__law_is_right rfl (.inl rfl)) (pgs_cons (pg_name (i := 8) nd__law_is_right rfl (.inl rfl)) pgs_nil)) rfl (ed_ix (ed_var 2) (ed_var 9) (fun _ _ => rfl)))
      (ssd_cons (sd_if (et_ne hr.units (ed_blt (call_repr (hga rfl) hr.units) cd_repr (by rfl) T.repr b_repr (ea_cons (ed_lst (ea_cons (ed_callB noG D_values_at (hr.mono (by decide)) passL (by rfl) (ea_cons (ed_var 1) (ea_cons (ed_var 9) ea_nil)) (len_cons (len_cons (fun _ _ _ _ h => len_nil h)))) (ea_cons (ed_callBK (ks := ["tick", "tent"]) [1, 0] noG D_values_at (hr.mono (by decide)) passL (by rfl) (fun _ _ _ _ _ _ ws hl => match ws, hl with | [_, _], _ => rfl) (ek_cons (ed_var 9) (ek_cons (ed_ty call_list_of cd_listOf (by rfl) T.list b_list (ea_cons (ed_var 1) ea_nil)) ek_nil)) (len_cons (len_cons (fun _ _ _ _ h => len_nil h)))) ea_nil))) ea_nil)) (ed_blt (call_repr (hga rfl) hr.units) cd_repr (by rfl) T.repr b_repr (ea_cons (ed_rep (ed_lstM (ea_cons (ed_tup (ea_cons (ed_var 7) (ea_cons (ed_var 8) ea_nil))) ea_nil)) ed_int) ea_nil))) (ssd_cons (sd_ret ed_bl)
      ssd_nil) ssd_nil)
      (ssd_cons (sd_set 11 nd__law_is_right rfl (.inl rfl) (ed_plus (ed_var 7) (ed_callB noG D__law_take (hr.mono (by decide)) pass0' (by rfl) (ea_cons (ed_var 0) (ea_cons (ed_plus (ed_sub (ed_var 8) (ed_var 7)) ed_int) ea_nil)) (len_cons (len_cons (fun _ _ _ _ h => len_nil h))))))
      (ssd_cons (sd_set 12 nd__law_is_right rfl (.inl rfl) (ed_callB noG D_path_at (hr.mono (by decide)) passL (by rfl) (ea_cons (ed_var 1) (ea_cons (ed_var 9) (ea_cons (ed_var 11) ea_nil))) (len_cons (len_cons (len_cons (fun _ _ _ _ h => len_nil h))))))
      (ssd_cons (sd_if (et_w (ew_or (et_not (et_val (ed_isi (by rfl) T.isinstance b_isinstance (ed_var 12) (by rfl) T.tuple b_tuple))) (ew_or (et_not (et_val (ed_callB noG D__law_is_path (hr.mono (by decide)) pass0' (by rfl) (ea_cons (ed_var 1) (ea_cons (ed_var 12) ea_nil)) (len_cons (len_cons (fun _ _ _ _ h => len_nil h)))))) (ew_or (et_ne hr.units (ed_ix (ed_var 12) (ed_var 9) (fun _ _ => rfl)) (ed_var 11)) (ew_or1 (et_ne hr.units (ed_callBK (ks := ["value", "tick", "tent"]) [2, 1, 0] noG D_path_at (hr.mono (by decide)) passL (by rfl) (fun _ _ _ _ _ _ ws hl => match ws, hl with | [_, _, _], _ => rfl) (ek_cons (ed_var 11) (ek_cons (ed_var 9) (ek_cons (ed_var 1) ek_nil))) (len_cons (len_cons (len_cons (fun _ _ _ _ h => len_nil h))))) (ed_var 12))))))) (ssd_cons (sd_ret ed_bl)
      ssd_nil) ssd_nil)
      (ssd_cons (sd_set 13 nd__law_is_right rfl (.inl rfl) (ed_callB noG D__law_bent (hr.mono (by decide)) pass0' (by rfl) (ea_cons (ed_var 0) (ea_cons (ed_var 12) ea_nil)) (len_cons (len_cons (fun _ _ _ _ h => len_nil h)))))
      (ssd_cons (sd_if (et_ne hr.units (ed_blt (call_repr (hga rfl) hr.units) cd_repr (by rfl) T.repr b_repr (ea_cons (ed_lst (ea_cons (ed_callB noG D_path_holds (hr.mono (by decide)) passL (by rfl) (ea_cons (ed_var 1) (ea_cons (ed_var 13) ea_nil)) (len_cons (len_cons (fun _ _ _ _ h => len_nil h)))) (ea_cons (ed_callBK (ks := ["value", "tent"]) [1, 0] noG D_path_holds (hr.mono (by decide)) passL (by rfl) (fun _ _ _ _ _ _ ws hl => match ws, hl with | [_, _], _ => rfl) (ek_cons (ed_var 13) (ek_cons (ed_var 1) ek_nil)) (len_cons (len_cons (fun _ _ _ _ h => len_nil h)))) ea_nil))) ea_nil)) (ed_blt (call_repr (hga rfl) hr.units) cd_repr (by rfl) T.repr b_repr (ea_cons (ed_rep (ed_lstM (ea_cons (ed_callB noG D__law_is_path (hr.mono (by decide)) pass0' (by rfl) (ea_cons (ed_var 1) (ea_cons (ed_var 13) ea_nil)) (len_cons (len_cons (fun _ _ _ _ h => len_nil h)))) ea_nil)) ed_int) ea_nil))) (ssd_cons (sd_ret ed_bl)
      ssd_nil) ssd_nil)
      (ssd_cons (sd_set 14 nd__law_is_right rfl (.inr rfl) (ed_callB noG D__law_pick (hr.mono (by decide)) pass0' (by rfl) (ea_cons (ed_var 0) (ea_cons (ed_lst (ea_cons (ed_plus (ed_var 8) ed_int) (ea_cons (ed_sub (ed_var 7) ed_int) (ea_cons ed_non (ea_cons ed_bl (ea_cons ed_str ea_nil)))))) ea_nil)) (len_cons (len_cons (fun _ _ _ _ h => len_nil h)))))
      (ssd_cons (sd_if (et_ne hr.units (hrd (k := 5) T (hga rfl) (hr.mono (by decide)) TB rfl mT uT (LamX.lamS_by (sc := defScope (topS 39)) (by decide +kernel)) rfl (fun _ _ _ _ _ => rfl) fun A outer s H E f c hr2 => (ed_callB noG D_path_at (hr2.mono (by decide)) (passX (takes_of rfl rfl rfl rfl) fun _ _ _ _ h => h) (by rfl) (ea_cons (ed_var 1) (ea_cons (ed_var 9) (ea_cons (ed_var 14) ea_nil))) (len_cons (len_cons (len_cons (fun _ _ _ _ h => len_nil h)))))) (ed_tup (ea_cons ed_str (ea_cons (ed_blt (call_repr (hga rfl) hr.units) cd_repr (by rfl) T.repr b_repr (ea_cons (ed_var 14) ea_nil)) (ea_cons ed_bl ea_nil))))) (ssd_cons (sd_ret ed_bl)
      ssd_nil) ssd_nil)
      ssd_nil)))))))))))
      (ssd_cons (sd_ret ed_bl)
      ssd_nil))))))))

def LS__law_none_right : List LamI := [lamIn (defBody (topS 40)) [1, 0, 0], lamIn (defBody (topS 40)) [2, 0, 1], lamIn (defBody (topS 40)) [3, 0, 1], lamIn (defBody (topS 40)) [4, 0, 1], lamIn (defBody (topS 40)) [5, 0, 1], lamIn (defBody (topS 40)) [6, 0, 1], lamIn (defBody (topS 40)) [7, 0, 1], lamIn (defBody (topS 40)) [8, 0, 1], lamIn (defBody (topS 40)) [9, 0, 1]]
theorem nd__law_none_right : N__law_none_right.Nodup := by decide +kernel
theorem sc__law_none_right : FnScope N__law_none_right ["_law_box_here", "_law_tent_here"] (defScope (topS 40)) := ⟨rfl, rfl, rfl, by decide +kernel, rfl, by decide +kernel, by decide +kernel⟩
abbrev Q__law_none_right : Str := (envOfC "_law_none_right" (defScope (topS 40)) 0 0 .none).qual ++ "<lambda>"
theorem ok__law_none_right {f c Pt : Addr} {oc kV doc pm ct : Value} {od an : Option Addr} {osl : Array (Option Value)} (T : ∀ T' : Tb, Txt K mg ⟨T', P.CR⟩ fI_Refused) (D__law_pick : ∀ T' : Tb, T'.tb = P.T.tb → DfB false Pg w K mg base ⟨T', P.CR⟩ CX0 2 "_law_pick" (topS 31) ["_law_box_here", "_law_some"] m__law_pick) (D_check_tent : ∀ T' : Tb, T'.tb = P.T.tb → DfB false Pg w K mg base ⟨T', P.CR⟩ (L2.CX Pg w) 3 "check_tent" (topS 12) ["value"] m_check_tent) (D_values_at : ∀ T' : Tb, T'.tb = P.T.tb → DfB false Pg w K mg base ⟨T', P.CR⟩ (L2.CX Pg w) 5 "values_at" (topS 17) ["tent", "tick"] m_values_at) (D_highest : ∀ T' : Tb, T'.tb = P.T.tb → DfB false Pg w K mg base ⟨T', P.CR⟩ (L2.CX Pg w) 4 "highest" (topS 18) ["tent"] m_highest) (D_lowest : ∀ T' : Tb, T'.tb = P.T.tb → DfB false Pg w K mg base ⟨T', P.CR⟩ (L2.CX Pg w) 5 "lowest" (topS 19) ["tent"] m_lowest) (D_path_at : ∀ T' : Tb, T'.tb = P.T.tb → DfB false Pg w K mg base ⟨T', P.CR⟩ (L2.CX Pg w) 5 "path_at" (topS 21) ["tent", "tick", "value"] m_path_at) (D_path_holds : ∀ T' : Tb, T'.tb = P.T.tb → DfB false Pg w K mg base ⟨T', P.CR⟩ (L2.CX Pg w) 4 "path_holds" (topS 15) ["tent", "value"] m_path_holds) (D_above_at : ∀ T' : Tb, T'.tb = P.T.tb → DfB false Pg w K mg base ⟨T', P.CR⟩ (L2.CX Pg w) 5 "above_at" (topS 23) ["tent", "limit"] m_above_at) (D_can_be_above : ∀ T' : Tb, T'.tb = P.T.tb → DfB false Pg w K mg base ⟨T', P.CR⟩ (L2.CX Pg w) 5 "can_be_above" (topS 24) ["tent", "limit"] m_can_be_above) (D_many_above : ∀ T' : Tb, T'.tb = P.T.tb → DfB false Pg w K mg base ⟨T', P.CR⟩ (L2.CX Pg w) 5 "many_above" (topS 27) ["tent", "limit"] m_many_above) (TB : LamX.TabB base mg c Pt) (mT : (Pt, Q__law_none_right) ∈ P.T.tb) (uT : ∀ q ∈ P.T.tb, q.1 = Pt → q.2 = Q__law_none_right) (l40 : K.lookup f = some ⟨oc, od, .func (PySem.W.fnOf "_law_none_right" "_law_none_right" (defArgs (topS 40)) (defBody (topS 40)) (defScope (topS 40)) .none kV doc pm an (.ref c) ct), osl⟩) (hcd : PySem.W.codeIn K (.ref c) "_law_none_right" = true) (kp : PySem.W.keepIn K (.ref f) = true) (hm : mg "_law_none_right" = some (.ref f)) : DfB true Pg w K mg base P CX0 8 "_law_none_right" (topS 40) ["_law_box_here", "_law_tent_here"] m__law_none_right :=
  df_BL (gd := true) (N := N__law_none_right) (S := S__law_none_right) (k := 7) l40 hcd kp hm sc__law_none_right (fun _ _ _ _ _ _ us hl => match us, hl with | [_, _], _ => rfl) fun A outer s H hga hr => ⟨(tbOf P.T.tb ((cxOf CX0 Pg w K mg base N__law_none_right "_law_none_right" (defScope (topS 40)) f (.ref c) A outer s H E0).nox.env.cells) Q__law_none_right LS__law_none_right), rfl, have T := T (tbOf P.T.tb ((cxOf CX0 Pg w K mg base N__law_none_right "_law_none_right" (defScope (topS 40)) f (.ref c) A outer s H E0).nox.env.cells) Q__law_none_right LS__law_none_right); have D__law_pick := D__law_pick (tbOf P.T.tb ((cxOf CX0 Pg w K mg base N__law_none_right "_law_none_right" (defScope (topS 40)) f (.ref c) A outer s H E0).nox.env.cells) Q__law_none_right LS__law_none_right) rfl; have D_check_tent := D_check_tent (tbOf P.T.tb ((cxOf CX0 Pg w K mg base N__law_none_right "_law_none_right" (defScope (topS 40)) f (.ref c) A outer s H E0).nox.env.cells) Q__law_none_right LS__law_none_right) rfl; have D_values_at := D_values_at (tbOf P.T.tb ((cxOf CX0 Pg w K mg base N__law_none_right "_law_none_right" (defScope (topS 40)) f (.ref c) A outer s H E0).nox.env.cells) Q__law_none_right LS__law_none_right) rfl; have D_highest := D_highest (tbOf P.T.tb ((cxOf CX0 Pg w K mg base N__law_none_right "_law_none_right" (defScope (topS 40)) f (.ref c) A outer s H E0).nox.env.cells) Q__law_none_right LS__law_none_right) rfl; have D_lowest := D_lowest (tbOf P.T.tb ((cxOf CX0 Pg w K mg base N__law_none_right "_law_none_right" (defScope (topS 40)) f (.ref c) A outer s H E0).nox.env.cells) Q__law_none_right LS__law_none_right) rfl; have D_path_at := D_path_at (tbOf P.T.tb ((cxOf CX0 Pg w K mg base N__law_none_right "_law_none_right" (defScope (topS 40)) f (.ref c) A outer s H E0).nox.env.cells) Q__law_none_right LS__law_none_right) rfl; have D_path_holds := D_path_holds (tbOf P.T.tb ((cxOf CX0 Pg w K mg base N__law_none_right "_law_none_right" (defScope (topS 40)) f (.ref c) A outer s H E0).nox.env.cells) Q__law_none_right LS__law_none_right) rfl; have D_above_at := D_above_at (tbOf P.T.tb ((cxOf CX0 Pg w K mg base N__law_none_right "_law_none_right" (defScope (topS 40)) f (.ref c) A outer s H E0).nox.env.cells) Q__law_none_right LS__law_none_right) rfl; have D_can_be_above := D_can_be_above (tbOf P.T.tb ((cxOf CX0 Pg w K mg base N__law_none_right "_law_none_right" (defScope (topS 40)) f (.ref c) A outer s H E0).nox.env.cells) Q__law_none_right LS__law_none_right) rfl; have D_many_above := D_many_above (tbOf P.T.tb ((cxOf CX0 Pg w K mg base N__law_none_right "_law_none_right" (defScope (topS 40)) f (.ref c) A outer s H E0).nox.env.cells) Q__law_none_right LS__law_none_right) rfl; (ssd_cons (sd_set 2 nd__law_none_right rfl (.inr rfl) (ed_callB noG D__law_pick (hr.mono (by decide)) pass0' (by rfl) (ea_cons (ed_var 0) (ea_cons (ed_lst (ea_cons ed_non (ea_cons (ed_tup ea_nil) (ea_cons ed_str (ea_cons (ed_sl (ed_var 1) epo_none (epo_some ed_int)) (ea_cons (ed_plus (ed_var 1) (ed_tup (ea_cons ed_int ea_nil))) (ea_cons (ed_tup (ea_cons ed_int (ea_cons ed_int (ea_cons ed_int (ea_cons ed_int ea_nil))))) (ea_cons (ed_tup (ea_cons ed_int (ea_cons ed_int (ea_cons ed_int (ea_cons ed_int ea_nil))))) (ea_cons (ed_tup (ea_cons ed_int (ea_cons ed_int (ea_cons ed_int (ea_cons (ed_sub ed_int ed_int) ea_nil))))) (ea_cons (ed_tup (ea_cons ed_non (ea_cons ed_int (ea_cons ed_int (ea_cons ed_int ea_nil))))) (ea_cons (ed_tup (ea_cons ed_int (ea_cons ed_bl (ea_cons ed_int (ea_cons ed_int ea_nil))))) (ea_cons (ed_tup (ea_cons ed_int (ea_cons ed_int (ea_cons ed_bl (ea_cons ed_int ea_nil))))) (ea_cons (ed_tup (ea_cons ed_int (ea_cons ed_int (ea_cons ed_int (ea_cons ed_non ea_nil))))) ea_nil))))))))))))) ea_nil)) (len_cons (len_cons (fun _ _ _ _ h => len_nil h)))))
      (ssd_cons (sd_set 3 nd__law_none_right rfl (.inl rfl) (ed_lstM (ea_cons (ed_lam (n := 0) TB rfl mT uT (LamX.lamS_by (sc := defScope (topS 40)) (by decide +kernel)) rfl (fun f c H h1 h2 => ⟨_, c, rfl, h1, h2⟩)) ea_nil)))
      (ssd_cons (sd_app (ed_var 3) (ed_lam (n := 1) TB rfl mT uT (LamX.lamS_by (sc := defScope (topS 40)) (by decide +kernel)) rfl (fun f c H h1 h2 => ⟨_, c, rfl, h1, h2⟩)))
      (ssd_cons (sd_app (ed_var 3) (ed_lam (n := 2) TB rfl mT uT (LamX.lamS_by (sc := defScope (topS 40)) (by decide +kernel)) rfl (fun f c H h1 h2 => ⟨_, c, rfl, h1, h2⟩)))
      (ssd_cons (sd_app (ed_var 3) (ed_lam (n := 3) TB rfl mT uT (LamX.lamS_by (sc := defScope (topS 40)) (by decide +kernel)) rfl (fun f c H h1 h2 => ⟨_, c, rfl, h1, h2⟩)))
      (ssd_cons (sd_app (ed_var 3) (ed_lam (n := 4) TB rfl mT uT (LamX.lamS_by (sc := defScope (topS 40)) (by decide +kernel)) rfl (fun f c H h1 h2 => ⟨_, c, rfl, h1, h2⟩)))
      (ssd_cons (sd_app (ed_var 3) (ed_lam (n := 5) TB rfl mT uT (LamX.lamS_by (sc := defScope (topS 40)) (by decide +kernel)) rfl (fun f c H h1 h2 => ⟨_, c, rfl, h1, h2⟩)))
      (ssd_cons (sd_app (ed_var 3) (ed_lam (n := 6) TB rfl mT uT (LamX.lamS_by (sc := defScope (topS 40)) (by decide +kernel)) rfl (fun f c H h1 h2 => ⟨_, c, rfl, h1, h2⟩)))
      (ssd_cons (sd_app (ed_var 3) (ed_lam (n := 7) TB rfl mT uT (LamX.lamS_by (sc := defScope (topS 40)) (by decide +kernel)) rfl (fun f c H h1 h2 => ⟨_, c, rfl, h1, h2⟩)))
      (ssd_cons (sd_app (ed_var 3) (ed_lam (n := 8) TB rfl mT uT (LamX.lamS_by (sc := defScope (topS 40)) (by decide +kernel)) rfl (fun f c H h1 h2 => ⟨_, c, rfl, h1, h2⟩)))
      (ssd_frz 3 (ssd_cons (sd_if (et_ne hr.units (ed_lcO (own := [("_law_ask", 4)]) rfl nd__law_none_right (ei_any (ed_var 3)) (blkOk_by (own := [("_law_ask", 4)]) (N := N__law_none_right) (sc := defScope (topS 40)) (by decide +kernel)) (gd_one 4) (fun _ _ _ _ _ => (pg_name (i := 4) nd__law_none_right rfl (by first | exact .inl rfl | exact .inr rfl))) (fun pins σ s H Cc cl fp out => (et_oneB (et_neB hr.units (hrdB (k := 5) (is := [4]) T (hga rfl) (hr.mono (by decide)) out (ed_var 4) LS__law_none_right rfl (fun n i h => match n, h with
      | 0, h => by
        have h' := Option.some.inj (show some _ = some i from h)
        subst h'
        exact ⟨LamX.lamS_by (sc := defScope (topS 40)) (by decide +kernel), fun _ _ _ _ _ => rfl, fun A outer s H E f c hr2 => (ed_callB noG D_check_tent (hr2.mono (by decide)) (passX (takes_of rfl rfl rfl rfl) fun _ _ _ _ h => h) (by rfl) (ea_cons (ed_var 2) ea_nil) (len_cons (fun _ _ _ _ h => len_nil h)))⟩
      | 1, h => by
        have h' := Option.some.inj (show some _ = some i from h)
        subst h'
        exact ⟨LamX.lamS_by (sc := defScope (topS 40)) (by decide +kernel), fun _ _ _ _ _ => rfl, fun A outer s H E f c hr2 => (ed_callB noG D_values_at (hr2.mono (by decide)) (passX (takes_of rfl rfl rfl rfl) fun _ _ _ _ h => h) (by rfl) (ea_cons (ed_var 2) (ea_cons ed_non ea_nil)) (len_cons (len_cons (fun _ _ _ _ h => len_nil h))))⟩
      | 2, h => by
        have h' := Option.some.inj (show some _ = some i from h)
        subst h'
        exact ⟨LamX.lamS_by (sc := defScope (topS 40)) (by decide +kernel), fun _ _ _ _ _ => rfl, fun A outer s H E f c hr2 => (ed_callB noG D_highest (hr2.mono (by decide)) (passX (takes_of rfl rfl rfl rfl) fun _ _ _ _ h => h) (by rfl) (ea_cons (ed_var 2) ea_nil) (len_cons (fun _ _ _ _ h => len_nil h)))⟩
      | 3, h => by
        have h' := Option.some.inj (show some _ = some i from h)
        subst h'
        exact ⟨LamX.lamS_by (sc := defScope (topS 40)) (by decide +kernel), fun _ _ _ _ _ => rfl, fun A outer s H E f c hr2 => (ed_callB noG D_lowest (hr2.mono (by decide)) (passX (takes_of rfl rfl rfl rfl) fun _ _ _ _ h => h) (by rfl) (ea_cons (ed_var 2) ea_nil) (len_cons (fun _ _ _ _ h => len_nil h)))⟩
      | 4, h => by
        have h' := Option.some.inj (show some _ = some i from h)
        subst h'
        exact ⟨LamX.lamS_by (sc := defScope (topS 40)) (by decide +kernel), fun _ _ _ _ _ => rfl, fun A outer s H E f c hr2 => (ed_callB noG D_path_at (hr2.mono (by decide)) (passX (takes_of rfl rfl rfl rfl) fun _ _ _ _ h => h) (by rfl) (ea_cons (ed_var 2) (ea_cons ed_non (ea_cons ed_non ea_nil))) (len_cons (len_cons (len_cons (fun _ _ _ _ h => len_nil h)))))⟩
      | 5, h => by
        have h' := Option.some.inj (show some _ = some i from h)
        subst h'
        exact ⟨LamX.lamS_by (sc := defScope (topS 40)) (by decide +kernel), fun _ _ _ _ _ => rfl, fun A outer s H E f c hr2 => (ed_callB noG D_path_holds (hr2.mono (by decide)) (passX (takes_of rfl rfl rfl rfl) fun _ _ _ _ h => h) (by rfl) (ea_cons (ed_var 2) (ea_cons ed_non ea_nil)) (len_cons (len_cons (fun _ _ _ _ h => len_nil h))))⟩
      | 6, h => by
        have h' := Option.some.inj (show some _ = some i from h)
        subst h'
        exact ⟨LamX.lamS_by (sc := defScope (topS 40)) (by decide +kernel), fun _ _ _ _ _ => rfl, fun A outer s H E f c hr2 => (ed_callB noG D_above_at (hr2.mono (by decide)) (passX (takes_of rfl rfl rfl rfl) fun _ _ _ _ h => h) (by rfl) (ea_cons (ed_var 2) (ea_cons ed_non ea_nil)) (len_cons (len_cons (fun _ _ _ _ h => len_nil h))))⟩
      | 7, h => by
        have h' := Option.some.inj (show some _ = some i from h)
        subst h'
        exact ⟨LamX.lamS_by (sc := defScope (topS 40)) (by decide +kernel), fun _ _ _ _ _ => rfl, fun A outer s H E f c hr2 => (ed_callB noG D_can_be_above (hr2.mono (by decide)) (passX (takes_of rfl rfl rfl rfl) fun _ _ _ _ h => h) (by rfl) (ea_cons (ed_var 2) (ea_cons ed_non ea_nil)) (len_cons (len_cons (fun _ _ _ _ h => len_nil h))))⟩
      | 8, h => by
        have h' := Option.some.inj (show some _ = some i from h)
        subst h'
        exact ⟨LamX.lamS_by (sc := defScope (topS 40)) (by decide +kernel), fun _ _ _ _ _ => rfl, fun A outer s H E f c hr2 => (ed_callB noG D_many_above (hr2.mono (by decide)) (passX (takes_of rfl rfl rfl rfl) fun _ _ _ _ h => h) (by rfl) (ea_cons (ed_var 2) (ea_cons ed_non ea_nil)) (len_cons (len_cons (fun _ _ _ _ h => len_nil h))))⟩
      | n + 9, h => absurd (List.getElem?_eq_some_iff.mp h).1 (by
        have e : LS__law_none_right.length = 9 := rfl
        omega))) (ed_tup (ea_cons ed_str (ea_cons (ed_blt (call_repr (hga rfl) hr.units) cd_repr (by rfl) T.repr b_repr (ea_cons (ed_var 2) ea_nil)) (ea_cons ed_bl ea_nil))))))) (fun _ _ _ _ _ => (ed_var 4))) (ed_lst ea_nil)) (ssd_cons (sd_ret ed_bl)
      ssd_nil) ssd_nil)
      (ssd_cons (sd_set 5 nd__law_none_right rfl (.inr rfl) (ed_callB noG D__law_pick (hr.mono (by decide)) pass0' (by rfl) (ea_cons (ed_var 0) (ea_cons (ed_lst (ea_cons (ed_plus (ed_ix (ed_var 1) ed_int (fun _ _ => rfl)) ed_int) (ea_cons (ed_sub ed_int ed_int) (ea_cons ed_non (ea_cons ed_bl (ea_cons ed_str ea_nil)))))) ea_nil)) (len_cons (len_cons (fun _ _ _ _ h => len_nil h)))))
      (ssd_cons (sd_if (et_ne hr.units (hrd (k := 5) T (hga rfl) (hr.mono (by decide)) TB rfl mT uT (LamX.lamS_by (sc := defScope (topS 40)) (by decide +kernel)) rfl (fun _ _ _ _ _ => rfl) fun A outer s H E f c hr2 => (ed_callB noG D_values_at (hr2.mono (by decide)) (passX (takes_of rfl rfl rfl rfl) fun _ _ _ _ h => h) (by rfl) (ea_cons (ed_var 1) (ea_cons (ed_var 5) ea_nil)) (len_cons (len_cons (fun _ _ _ _ h => len_nil h))))) (ed_tup (ea_cons ed_str (ea_cons (ed_blt (call_repr (hga rfl) hr.units) cd_repr (by rfl) T.repr b_repr (ea_cons (ed_var 5) ea_nil)) (ea_cons ed_bl ea_nil))))) (ssd_cons (sd_ret ed_bl)
      ssd_nil) ssd_nil)
      (ssd_cons (sd_if (et_ne hr.units (hrd (k := 5) T (hga rfl) (hr.mono (by decide)) TB rfl mT uT (LamX.lamS_by (sc := defScope (topS 40)) (by decide +kernel)) rfl (fun _ _ _ _ _ => rfl) fun A outer s H E f c hr2 => (ed_callB noG D_path_at (hr2.mono (by decide)) (passX (takes_of rfl rfl rfl rfl) fun _ _ _ _ h => h) (by rfl) (ea_cons (ed_var 1) (ea_cons (ed_var 5) (ea_cons ed_non ea_nil))) (len_cons (len_cons (len_cons (fun _ _ _ _ h => len_nil h)))))) (ed_tup (ea_cons ed_str (ea_cons (ed_blt (call_repr (hga rfl) hr.units) cd_repr (by rfl) T.repr b_repr (ea_cons (ed_var 5) ea_nil)) (ea_cons ed_bl ea_nil))))) (ssd_cons (sd_ret ed_bl)
      ssd_nil) ssd_nil)
      (ssd_cons (sd_set 6 nd__law_none_right rfl (.inr rfl) (ed_callB noG D__law_pick (hr.mono (by decide)) pass0' (by rfl) (ea_cons (ed_var 0) (ea_cons (ed_lst (ea_cons ed_non (ea_cons ed_bl (ea_cons ed_str (ea_cons (ed_tup (ea_cons ed_int ea_nil)) ea_nil))))) ea_nil)) (len_cons (len_cons (fun _ _ _ _ h => len_nil h)))))
      (ssd_cons (sd_for PassesOwn.never rfl (ei_any (ed_tup (ea_cons (ed_fnT T.fv_above_at (by rfl)) (ea_cons (ed_fnT T.fv_can_be_above (by rfl)) (ea_cons (ed_fnT T.fv_many_above (by rfl)) ea_nil))))) (pg_name (i := 4) nd__law_none_right rfl (.inr rfl)) (gd_one 4) (ssd_cons (sd_if (et_ne hr.units (hrd (k := 5) T (hga rfl) (hr.mono (by decide)) TB rfl mT uT (LamX.lamS_by (sc := defScope (topS 40)) (by decide +kernel)) rfl (fun _ _ _ _ _ => rfl) fun A outer s H E f c hr2 => (ed_callF (l := TF__law_none_right) (fun p hp => by
        simp only [TF__law_none_right, List.mem_cons, List.not_mem_nil, or_false] at hp
        rcases hp with rfl | rfl | rfl
        · exact fnv_of (ps := ["tent", "limit"]) (m := m_above_at) T.fv_above_at D_above_at (hr2.mono (by decide)) (passX (takes_of rfl rfl rfl rfl) fun _ _ _ _ h => h)
        · exact fnv_of (ps := ["tent", "limit"]) (m := m_can_be_above) T.fv_can_be_above D_can_be_above (hr2.mono (by decide)) (passX (takes_of rfl rfl rfl rfl) fun _ _ _ _ h => h)
        · exact fnv_of (ps := ["tent", "limit"]) (m := m_many_above) T.fv_many_above D_many_above (hr2.mono (by decide)) (passX (takes_of rfl rfl rfl rfl) fun _ _ _ _ h => h)) (ed_var 4) (ea_cons (ed_var 1) (ea_cons (ed_var 6) ea_nil)))) (ed_tup (ea_cons ed_str (ea_cons (ed_blt (call_repr (hga rfl) hr.units) cd_repr (by rfl) T.repr b_repr (ea_cons (ed_var 6) ea_nil)) (ea_cons ed_bl ea_nil))))) (ssd_cons (sd_ret ed_bl)
      ssd_nil) ssd_nil)
      ssd_nil))
      (ssd_cons (sd_ret (ed_and (ed_eq hr.units (ed_callB noG D_check_tent (hr.mono (by decide)) passL (by rfl) (ea_cons (ed_ty call_list_of cd_listOf (by rfl) T.list b_list (ea_cons (ed_var 1) ea_nil)) ea_nil) (len_cons (fun _ _ _ _ h => len_nil h))) (ed_var 1)) (ed_one (ed_eq hr.units (ed_callBK (ks := ["value"]) [0] noG D_check_tent (hr.mono (by decide)) passL (by rfl) (fun _ _ _ _ _ _ ws hl => match ws, hl with | [_], _ => rfl) (ek_cons (ed_var 1) ek_nil) (len_cons (fun _ _ _ _ h => len_nil h))) (ed_var 1)))))
      ssd_nil))))))))))))))))))⟩

theorem nd__law_span : N__law_span.Nodup := by decide +kernel
theorem sc__law_span : FnScope N__law_span ["_law_tent_here", "_law_tick"] (defScope (topS 36)) := ⟨rfl, rfl, rfl, by decide +kernel, rfl, by decide +kernel, by decide +kernel⟩
theorem ok__law_span {f : Addr} {oc kV doc pm cdv ct : Value} {od an : Option Addr} {osl : Array (Option Value)} (T : Txt K mg P fI_Refused)   (l36 : K.lookup f = some ⟨oc, od, .func (PySem.W.fnOf "_law_span" "_law_span" (defArgs (topS 36)) (defBody (topS 36)) (defScope (topS 36)) .none kV doc pm an cdv ct), osl⟩) (hcd : PySem.W.codeIn K cdv "_law_span" = true) (kp : PySem.W.keepIn K (.ref f) = true) (hm : mg "_law_span" = some (.ref f)) : DfB false Pg w K mg base P CX0 1 "_law_span" (topS 36) ["_law_tent_here", "_law_tick"] m__law_span :=
  df_B0 (gd := false) (N := N__law_span) (S := S__law_span) (k := 0) l36 hcd kp hm sc__law_span (fun _ _ _ _ _ _ us hl => match us, hl with | [_, _], _ => rfl) fun A outer s H hga hr => (ssd_cons (sd_unp [2, 3, 4, 5] rfl (pgs_cons (pg_name (i := 2) nd__law_span rfl (.inl rfl)) (pgs_cons (pg_name (i := 3) nd__law_span rfl (.inl rfl)) (pgs_cons (pg_name (i := 4) nd__law_span rfl (.inl rfl)) (pgs_cons (pg_name (i := 5) nd__law_span rfl (.inl rfl)) pgs_nil)))) rfl (ed_var 0))
      (ssd_cons (sd_unp [6, 7, 8, 9] rfl (pgs_cons (pg_name (i := 6) nd__law_span rfl (.inl rfl)) (pgs_cons (pg_name (i := 7) nd__law_span rfl (.inl rfl)) (pgs_cons (pg_name (i := 8) nd__law_span rfl (.inl rfl)) (pgs_cons (pg_name (i := 9) nd__law_span rfl (.inl rfl)) pgs_nil)))) rfl (ed_tup (ea_cons (ed_var 2) (ea_cons (ed_var 2) (ea_cons (ed_var 3) (ea_cons (ed_var 3) ea_nil))))))
      (ssd_cons (sd_for PassesOwn.never rfl (ei_rg1 (by rfl) T.range (ea_cons (ed_var 1) ea_nil)) (pg_name (i := 10) nd__law_span rfl (.inl rfl)) (gd_one 10) (ssd_cons (sd_par 6 7 rfl nd__law_span rfl rfl (by decide) rfl rfl (ea_cons (ed_sub (ed_var 6) (ed_var 4)) (ea_cons (ed_plus (ed_var 7) (ed_var 4)) ea_nil)) (by rfl))
      ssd_nil))
      (ssd_cons (sd_for PassesOwn.never rfl (ei_rg1 (by rfl) T.range (ea_cons (ed_sub (ed_var 5) (ed_var 1)) ea_nil)) (pg_name (i := 10) nd__law_span rfl (.inl rfl)) (gd_one 10) (ssd_cons (sd_par 8 9 rfl nd__law_span rfl rfl (by decide) rfl rfl (ea_cons (ed_sub (ed_var 8) (ed_var 4)) (ea_cons (ed_plus (ed_var 9) (ed_var 4)) ea_nil)) (by rfl))
      ssd_nil))
      (ssd_cons (sd_ret (ed_tup (ea_cons (ed_blt (call_max2 rfl) cd_max (by rfl) T.max b_max (ea_cons (ed_var 6) (ea_cons (ed_var 8) ea_nil))) (ea_cons (ed_blt (call_min2 rfl) cd_min (by rfl) T.min b_min (ea_cons (ed_var 7) (ea_cons (ed_var 9) ea_nil))) ea_nil))))
      ssd_nil)))))

theorem nd_law : N_law.Nodup := by decide +kernel
theorem sc_law : FnScope N_law ["_law_script"] (defScope (topS 41)) := ⟨rfl, rfl, rfl, by decide +kernel, rfl, by decide +kernel, by decide +kernel⟩
theorem ok_law {f : Addr} {oc kV doc pm cdv ct : Value} {od an : Option Addr} {osl : Array (Option Value)} (T : Txt K mg P fI_Refused) (D__law_box : DfB false Pg w K mg base P CX0 1 "_law_box" (topS 29) ["_law_script", "_law_k"] m__law_box) (D__law_tent : DfB false Pg w K mg base P CX0 2 "_law_tent" (topS 33) ["_law_box_here", "_law_most"] m__law_tent) (D__law_paths : DfB false Pg w K mg base P CX0 1 "_law_paths" (topS 34) ["_law_tent_here"] m__law_paths) (D__law_is_right : DfB true Pg w K mg base P CX0 8 "_law_is_right" (topS 39) ["_law_box_here", "_law_tent_here", "_law_spans", "_law_paths_here"] m__law_is_right) (D_many_above : DfB false Pg w K mg base P (L2.CX Pg w) 5 "many_above" (topS 27) ["tent", "limit"] m_many_above) (D__law_none_right : DfB true Pg w K mg base P CX0 8 "_law_none_right" (topS 40) ["_law_box_here", "_law_tent_here"] m__law_none_right) (D__law_take : DfB false Pg w K mg base P CX0 1 "_law_take" (topS 30) ["_law_box_here", "_law_many"] m__law_take) (D_highest : DfB false Pg w K mg base P (L2.CX Pg w) 4 "highest" (topS 18) ["tent"] m_highest) (D_lowest : DfB false Pg w K mg base P (L2.CX Pg w) 5 "lowest" (topS 19) ["tent"] m_lowest) (D__law_span : DfB false Pg w K mg base P CX0 1 "_law_span" (topS 36) ["_law_tent_here", "_law_tick"] m__law_span)  (l41 : K.lookup f = some ⟨oc, od, .func (PySem.W.fnOf "law" "law" (defArgs (topS 41)) (defBody (topS 41)) (defScope (topS 41)) .none kV doc pm an cdv ct), osl⟩) (hcd : PySem.W.codeIn K cdv "law" = true) (kp : PySem.W.keepIn K (.ref f) = true) (hm : mg "law" = some (.ref f)) : DfB true Pg w K mg base P CX0 9 "law" (topS 41) ["_law_script"] m_law :=
  df_B0 (gd := true) (N := N_law) (S := S_law) (k := 8) l41 hcd kp hm sc_law (fun _ _ _ _ _ _ us hl => match us, hl with | [_], _ => rfl) fun A outer s H hga hr => (ssd_cons (sd_for PassesOwn.never rfl (ei_rg1 (by rfl) T.range (ea_cons ed_int ea_nil)) (pg_name (i := 1) nd_law rfl (.inl rfl)) (gd_one 1) (ssd_cons (sd_set 2 nd_law rfl (.inl rfl) (ed_callB noG D__law_box (hr.mono (by decide)) pass0' (by rfl) (ea_cons (ed_var 0) (ea_cons (ed_var 1) ea_nil)) (len_cons (len_cons (fun _ _ _ _ h => len_nil h)))))
      (ssd_cons (sd_set 3 nd_law rfl (.inr rfl) (ed_callB noG D__law_tent (hr.mono (by decide)) pass0' (by rfl) (ea_cons (ed_var 2) (ea_cons ed_int ea_nil)) (len_cons (len_cons (fun _ _ _ _ h => len_nil h)))))
      (ssd_cons (sd_set 4 nd_law rfl (.inl rfl) (ed_callB noG D__law_paths (hr.mono (by decide)) pass0' (by rfl) (ea_cons (ed_var 3) ea_nil) (len_cons (fun _ _ _ _ h => len_nil h))))
      (ssd_cons (sd_set 5 nd_law rfl (.inl rfl) (ed_lstM ea_nil))
      (ssd_cons (sd_for PassesOwn.never rfl (ei_rg1 (by rfl) T.range (ea_cons (ed_plus (ed_ix (ed_var 3) ed_int (fun _ _ => rfl)) ed_int) ea_nil)) (pg_name (i := 6) nd_law rfl (.inr rfl)) (gd_one 6) (ssd_cons (sd_set 7 nd_law rfl (.inl rfl) (ed_sortSet (by rfl) T.sorted (by rfl) T.set (ed_lc (own := [("_law_path", 8)]) rfl nd_law (ei_any (ed_var 4)) (blkOk_by (own := [("_law_path", 8)]) (N := N_law) (sc := defScope (topS 41)) (by decide +kernel)) (gd_one 8) (fun _ _ _ _ _ => (pg_name (i := 8) nd_law rfl (by first | exact .inl rfl | exact .inr rfl))) (fun _ _ _ _ _ => et_yes) (fun _ _ _ _ _ => (ed_ix (ed_var 8) (ed_var 6) (fun _ _ => rfl))))))
      (ssd_cons (sd_if (et_ne hr.units (ed_var 7) (ed_listRg2 rfl (by rfl) T.list (by rfl) T.range (ed_ix (ed_var 7) ed_int (fun _ _ => rfl)) (ed_plus (ed_ix (ed_var 7) (ed_neg ed_int) (fun _ _ => rfl)) ed_int))) (ssd_cons (sd_ret ed_bl)
      ssd_nil) ssd_nil)
      (ssd_cons (sd_app (ed_var 5) (ed_tup (ea_cons (ed_ix (ed_var 7) ed_int (fun _ _ => rfl)) (ea_cons (ed_ix (ed_var 7) (ed_neg ed_int) (fun _ _ => rfl)) ea_nil))))
      ssd_nil))))
      (ssd_frz 5 (ssd_cons (sd_if (et_w (ew_or (et_not (et_val (ed_callB (yesG (hga rfl)) D__law_is_right (hr.mono (by decide)) pass0' (by rfl) (ea_cons (ed_var 2) (ea_cons (ed_var 3) (ea_cons (ed_var 5) (ea_cons (ed_var 4) ea_nil)))) (len_cons (len_cons (len_cons (len_cons (fun _ _ _ _ h => len_nil h)))))))) (ew_or1 (et_not (et_val (ed_callB (yesG (hga rfl)) D__law_none_right (hr.mono (by decide)) pass0' (by rfl) (ea_cons (ed_var 2) (ea_cons (ed_var 3) ea_nil)) (len_cons (len_cons (fun _ _ _ _ h => len_nil h))))))))) (ssd_cons (sd_ret ed_bl)
      ssd_nil) ssd_nil)
      (ssd_cons (sd_set 3 nd_law rfl (.inr rfl) (ed_callB noG D__law_tent (hr.mono (by decide)) pass0' (by rfl) (ea_cons (ed_var 2) (ea_cons ed_int ea_nil)) (len_cons (len_cons (fun _ _ _ _ h => len_nil h)))))
      (ssd_cons (sd_set 9 nd_law rfl (.inl rfl) (ed_plus (ed_sl (ed_var 3) epo_none (epo_some ed_int)) (ed_tup (ea_cons (ed_plus (ed_ix (ed_var 3) ed_int (fun _ _ => rfl)) ed_int) ea_nil))))
      (ssd_cons (sd_if (et_not (et_val (ed_callB (yesG (hga rfl)) D__law_is_right (hr.mono (by decide)) pass0' (by rfl) (ea_cons (ed_var 2) (ea_cons (ed_var 3) (ea_cons (ed_lc (own := [("_law_tick", 6)]) rfl nd_law (ei_rg1 (by rfl) T.range (ea_cons (ed_plus (ed_ix (ed_var 3) ed_int (fun _ _ => rfl)) ed_int) ea_nil)) (blkOk_by (own := [("_law_tick", 6)]) (N := N_law) (sc := defScope (topS 41)) (by decide +kernel)) (gd_one 6) (fun _ _ _ _ _ => (pg_name (i := 6) nd_law rfl (by first | exact .inl rfl | exact .inr rfl))) (fun _ _ _ _ _ => et_yes) (fun _ _ _ _ _ => (ed_callB noG D__law_span (hr.mono (by decide)) pass0' (by rfl) (ea_cons (ed_var 3) (ea_cons (ed_var 6) ea_nil)) (len_cons (len_cons (fun _ _ _ _ h => len_nil h)))))) (ea_cons ed_non ea_nil)))) (len_cons (len_cons (len_cons (len_cons (fun _ _ _ _ h => len_nil h)))))))) (ssd_cons (sd_ret ed_bl)
      ssd_nil) ssd_nil)
      (ssd_cons (sd_set 10 nd_law rfl (.inl rfl) (ed_sub (ed_plus (ed_ix (ed_var 3) ed_int (fun _ _ => rfl)) (ed_callB noG D__law_take (hr.mono (by decide)) pass0' (by rfl) (ea_cons (ed_var 2) (ea_cons ed_int ea_nil)) (len_cons (len_cons (fun _ _ _ _ h => len_nil h))))) ed_int))
      (ssd_cons (sd_par 11 12 rfl nd_law rfl rfl (by decide) rfl rfl (ea_cons (ed_callB noG D_many_above (hr.mono (by decide)) passL (by rfl) (ea_cons (ed_var 3) (ea_cons (ed_var 10) ea_nil)) (len_cons (len_cons (fun _ _ _ _ h => len_nil h)))) (ea_cons (ed_callB noG D_many_above (hr.mono (by decide)) passL (by rfl) (ea_cons (ed_var 9) (ea_cons (ed_var 10) ea_nil)) (len_cons (len_cons (fun _ _ _ _ h => len_nil h)))) ea_nil)) (by rfl))
      (ssd_cons (sd_if (et_w (ew_or (et_lt (ed_callB noG D_highest (hr.mono (by decide)) passL (by rfl) (ea_cons (ed_var 9) ea_nil) (len_cons (fun _ _ _ _ h => len_nil h))) (ed_callB noG D_highest (hr.mono (by decide)) passL (by rfl) (ea_cons (ed_var 3) ea_nil) (len_cons (fun _ _ _ _ h => len_nil h)))) (ew_or (et_gt (ed_callB noG D_lowest (hr.mono (by decide)) passL (by rfl) (ea_cons (ed_var 9) ea_nil) (len_cons (fun _ _ _ _ h => len_nil h))) (ed_callB noG D_lowest (hr.mono (by decide)) passL (by rfl) (ea_cons (ed_var 3) ea_nil) (len_cons (fun _ _ _ _ h => len_nil h)))) (ew_or (et_gt (ed_ix (ed_var 11) ed_int (fun _ _ => rfl)) (ed_ix (ed_var 12) ed_int (fun _ _ => rfl))) (ew_or1 (et_gt (ed_ix (ed_var 11) ed_int (fun _ _ => rfl)) (ed_ix (ed_var 12) ed_int (fun _ _ => rfl)))))))) (ssd_cons (sd_ret ed_bl)
      ssd_nil) ssd_nil)
      ssd_nil))))))))))))))
      (ssd_cons (sd_ret ed_bl)
      ssd_nil))
end
end K16

end
section
set_option Elab.async false
set_option linter.all false
set_option maxRecDepth 100000
set_option maxHeartbeats 4000000
namespace K16
open PySem PySem.Spec PyProof.Rows L2 Ms
def dD__law_box : He.DefD := ⟨("_law_box", none), "_law_box", "_law_box", defArgs (topS 29), defBody (topS 29), defScope (topS 29), [], []⟩
def dD__law_take : He.DefD := ⟨("_law_take", none), "_law_take", "_law_take", defArgs (topS 30), defBody (topS 30), defScope (topS 30), [], []⟩
def dD__law_tent : He.DefD := ⟨("_law_tent", none), "_law_tent", "_law_tent", defArgs (topS 33), defBody (topS 33), defScope (topS 33), [], []⟩
def dD__law_paths : He.DefD := ⟨("_law_paths", none), "_law_paths", "_law_paths", defArgs (topS 34), defBody (topS 34), defScope (topS 34), [], []⟩
def dD__law_pick : He.DefD := ⟨("_law_pick", none), "_law_pick", "_law_pick", defArgs (topS 31), defBody (topS 31), defScope (topS 31), [], []⟩
def dD_is_sequence : He.DefD := ⟨("is_sequence", none), "is_sequence", "is_sequence", defArgs (topS 7), defBody (topS 7), defScope (topS 7), [], []⟩
def dD_has_parts : He.DefD := ⟨("has_parts", none), "has_parts", "has_parts", defArgs (topS 8), defBody (topS 8), defScope (topS 8), [], []⟩
def dD_is_integer : He.DefD := ⟨("is_integer", none), "is_integer", "is_integer", defArgs (topS 4), defBody (topS 4), defScope (topS 4), [], []⟩
def dD_is_number : He.DefD := ⟨("is_number", none), "is_number", "is_number", defArgs (topS 6), defBody (topS 6), defScope (topS 6), [], []⟩
def dD_check_tent : He.DefD := ⟨("check_tent", none), "check_tent", "check_tent", defArgs (topS 12), defBody (topS 12), defScope (topS 12), [], []⟩
def dD__high : He.DefD := ⟨("_high", none), "_high", "_high", defArgs (topS 14), defBody (topS 14), defScope (topS 14), [], []⟩
def dD_highest : He.DefD := ⟨("highest", none), "highest", "highest", defArgs (topS 18), defBody (topS 18), defScope (topS 18), [], []⟩
def dD_lowest : He.DefD := ⟨("lowest", none), "lowest", "lowest", defArgs (topS 19), defBody (topS 19), defScope (topS 19), [], []⟩
def dD_need_integer : He.DefD := ⟨("need_integer", none), "need_integer", "need_integer", defArgs (topS 9), defBody (topS 9), defScope (topS 9), [], []⟩
def dD__checked_limit : He.DefD := ⟨("_checked_limit", none), "_checked_limit", "_checked_limit", defArgs (topS 22), defBody (topS 22), defScope (topS 22), [], []⟩
def dD__low : He.DefD := ⟨("_low", none), "_low", "_low", defArgs (topS 13), defBody (topS 13), defScope (topS 13), [], []⟩
def dD_above_at : He.DefD := ⟨("above_at", none), "above_at", "above_at", defArgs (topS 23), defBody (topS 23), defScope (topS 23), [], []⟩
def dD_can_be_above : He.DefD := ⟨("can_be_above", none), "can_be_above", "can_be_above", defArgs (topS 24), defBody (topS 24), defScope (topS 24), [], []⟩
def dD__surely_behind : He.DefD := ⟨("_surely_behind", none), "_surely_behind", "_surely_behind", defArgs (topS 25), defBody (topS 25), defScope (topS 25), [], []⟩
def dD__not_yet_behind : He.DefD := ⟨("_not_yet_behind", none), "_not_yet_behind", "_not_yet_behind", defArgs (topS 26), defBody (topS 26), defScope (topS 26), [], []⟩
def dD_many_above : He.DefD := ⟨("many_above", none), "many_above", "many_above", defArgs (topS 27), defBody (topS 27), defScope (topS 27), [], []⟩
def dD_is_within : He.DefD := ⟨("is_within", none), "is_within", "is_within", defArgs (topS 5), defBody (topS 5), defScope (topS 5), [], []⟩
def dD_need_within : He.DefD := ⟨("need_within", none), "need_within", "need_within", defArgs (topS 10), defBody (topS 10), defScope (topS 10), [], []⟩
def dD__need_tick : He.DefD := ⟨("_need_tick", none), "_need_tick", "_need_tick", defArgs (topS 16), defBody (topS 16), defScope (topS 16), [], []⟩
def dD__leg : He.DefD := ⟨("_leg", none), "_leg", "_leg", defArgs (topS 20), defBody (topS 20), defScope (topS 20), [], []⟩
def dD_path_at : He.DefD := ⟨("path_at", none), "path_at", "path_at", defArgs (topS 21), defBody (topS 21), defScope (topS 21), [], []⟩
def dD__law_bent : He.DefD := ⟨("_law_bent", none), "_law_bent", "_law_bent", defArgs (topS 37), defBody (topS 37), defScope (topS 37), [], []⟩
def dD__law_numbers : He.DefD := ⟨("_law_numbers", none), "_law_numbers", "_law_numbers", defArgs (topS 38), defBody (topS 38), defScope (topS 38), [], []⟩
def dD__law_is_path : He.DefD := ⟨("_law_is_path", none), "_law_is_path", "_law_is_path", defArgs (topS 35), defBody (topS 35), defScope (topS 35), [], []⟩
def dD_values_at : He.DefD := ⟨("values_at", none), "values_at", "values_at", defArgs (topS 17), defBody (topS 17), defScope (topS 17), [], []⟩
def dD_path_holds : He.DefD := ⟨("path_holds", none), "path_holds", "path_holds", defArgs (topS 15), defBody (topS 15), defScope (topS 15), [], []⟩
def dD__law_is_right : He.DefD := ⟨("_law_is_right", none), "_law_is_right", "_law_is_right", defArgs (topS 39), defBody (topS 39), defScope (topS 39), [], []⟩
def dD__law_none_right : He.DefD := ⟨("_law_none_right", none), "_law_none_right", "_law_none_right", defArgs (topS 40), defBody (topS 40), defScope (topS 40), [], []⟩
def dD__law_span : He.DefD := ⟨("_law_span", none), "_law_span", "_law_span", defArgs (topS 36), defBody (topS 36), defScope (topS 36), [], []⟩
def dD_law : He.DefD := ⟨("law", none), "law", "law", defArgs (topS 41), defBody (topS 41), defScope (topS 41), [], []⟩
def dD__law_heard : He.DefD := ⟨("_law_heard", none), "_law_heard", "_law_heard", defArgs (topS 32), defBody (topS 32), defScope (topS 32), [], []⟩
def dI_Refused : He.DefD := ⟨("Refused", some "__init__"), "__init__", "Refused.__init__", PySem.RefX.iA ⟨6, 17, 6, 21⟩ ⟨6, 23, 6, 25⟩, PySem.RefX.iB ⟨7, 8, 7, 12⟩ ⟨7, 8, 7, 15⟩ ⟨7, 18, 7, 20⟩ ⟨7, 8, 7, 20⟩, PySem.RefX.iS, [], []⟩
def fn : List He.DefD := [dD__law_box, dD__law_take, dD__law_tent, dD__law_paths, dD__law_pick, dD_is_sequence, dD_has_parts, dD_is_integer, dD_is_number, dD_check_tent, dD__high, dD_highest, dD_lowest, dD_need_integer, dD__checked_limit, dD__low, dD_above_at, dD_can_be_above, dD__surely_behind, dD__not_yet_behind, dD_many_above, dD_is_within, dD_need_within, dD__need_tick, dD__leg, dD_path_at, dD__law_bent, dD__law_numbers, dD__law_is_path, dD_values_at, dD_path_holds, dD__law_is_right, dD__law_none_right, dD__law_span, dD_law, dD__law_heard, dI_Refused]
def fa : List He.Fa := [.glo "_law_box", .glo "_law_take", .glo "_law_tent", .glo "_law_paths", .glo "_law_pick", .glo "is_sequence", .glo "has_parts", .glo "is_integer", .glo "is_number", .glo "check_tent", .glo "_high", .glo "highest", .glo "lowest", .glo "need_integer", .glo "_checked_limit", .glo "_low", .glo "above_at", .glo "can_be_above", .glo "_surely_behind", .glo "_not_yet_behind", .glo "many_above", .glo "is_within", .glo "need_within", .glo "_need_tick", .glo "_leg", .glo "path_at", .glo "_law_bent", .glo "_law_numbers", .glo "_law_is_path", .glo "values_at", .glo "path_holds", .glo "_law_is_right", .glo "_law_none_right", .glo "_law_span", .glo "law", .glo "_law_heard", .glo "Refused", .glo "WreckError", .free "abs", .free "all", .free "bool", .free "int", .free "isinstance", .free "len", .free "list", .free "max", .free "min", .free "range", .free "repr", .free "set", .free "sorted", .free "tuple", .free "zip"]
def tf : List He.Defn := [("path_holds", none), ("_law_is_right", none), ("_law_none_right", none)]
def ex (K : PySem.W.Frag) : Bool := lowB K "Refused" && (decide (He.ga K "Refused" ≠ He.ga K "WreckError") && (decide (PySem.W.kitOne K (.ref (He.ga K "Refused")) (.ref (He.ga K "WreckError")) = some true) && (decide ((tf.map fun p => (He.cT K p).2).Nodup))))
theorem all_mk (MATH : LawIs) {l : PySem.W.OpenLaw} {w : World} {K : PySem.W.Frag} {h : Heap} {mg : Str → Option Value} {fa_ : Addr} (X : K.In h) (G : h.Ns mainGlobals mg) (hfa : mg "law" = some (.ref fa_)) (c : He.SaysX fa fn [] tf ex w h K) : LawAt l w K 63 mg fa_ h := by
  have cd := c.t.d
  have b0 := c.more
  unfold ex at b0
  obtain ⟨b_0, b0⟩ := He.ba b0
  obtain ⟨b_1, b0⟩ := He.ba b0
  obtain ⟨b_2, b0⟩ := He.ba b0
  have ndP := of_decide_eq_true b0
  have g29 := He.glo_ok X G (cd.fact 0 (f := .glo "_law_box") rfl)
  obtain ⟨fd29, FD29⟩ := cd.def_ 0 (d := dD__law_box) rfl
  obtain ⟨oc29, od29, kV29, dc29, pm29, an29, c29, ct29, sl29, l29, c29x, k29⟩ := def_of (x := "_law_box") (st := topS 29) FD29
  have g30 := He.glo_ok X G (cd.fact 1 (f := .glo "_law_take") rfl)
  obtain ⟨fd30, FD30⟩ := cd.def_ 1 (d := dD__law_take) rfl
  obtain ⟨oc30, od30, kV30, dc30, pm30, an30, c30, ct30, sl30, l30, c30x, k30⟩ := def_of (x := "_law_take") (st := topS 30) FD30
  have g33 := He.glo_ok X G (cd.fact 2 (f := .glo "_law_tent") rfl)
  obtain ⟨fd33, FD33⟩ := cd.def_ 2 (d := dD__law_tent) rfl
  obtain ⟨oc33, od33, kV33, dc33, pm33, an33, c33, ct33, sl33, l33, c33x, k33⟩ := def_of (x := "_law_tent") (st := topS 33) FD33
  have g34 := He.glo_ok X G (cd.fact 3 (f := .glo "_law_paths") rfl)
  obtain ⟨fd34, FD34⟩ := cd.def_ 3 (d := dD__law_paths) rfl
  obtain ⟨oc34, od34, kV34, dc34, pm34, an34, c34, ct34, sl34, l34, c34x, k34⟩ := def_of (x := "_law_paths") (st := topS 34) FD34
  have g31 := He.glo_ok X G (cd.fact 4 (f := .glo "_law_pick") rfl)
  obtain ⟨fd31, FD31⟩ := cd.def_ 4 (d := dD__law_pick) rfl
  obtain ⟨oc31, od31, kV31, dc31, pm31, an31, c31, ct31, sl31, l31, c31x, k31⟩ := def_of (x := "_law_pick") (st := topS 31) FD31
  have g7 := He.glo_ok X G (cd.fact 5 (f := .glo "is_sequence") rfl)
  obtain ⟨fd7, FD7⟩ := cd.def_ 5 (d := dD_is_sequence) rfl
  obtain ⟨oc7, od7, kV7, dc7, pm7, an7, c7, ct7, sl7, l7, c7x, k7⟩ := def_of (x := "is_sequence") (st := topS 7) FD7
  have g8 := He.glo_ok X G (cd.fact 6 (f := .glo "has_parts") rfl)
  obtain ⟨fd8, FD8⟩ := cd.def_ 6 (d := dD_has_parts) rfl
  obtain ⟨oc8, od8, kV8, dc8, pm8, an8, c8, ct8, sl8, l8, c8x, k8⟩ := def_of (x := "has_parts") (st := topS 8) FD8
  have g4 := He.glo_ok X G (cd.fact 7 (f := .glo "is_integer") rfl)
  obtain ⟨fd4, FD4⟩ := cd.def_ 7 (d := dD_is_integer) rfl
  obtain ⟨oc4, od4, kV4, dc4, pm4, an4, c4, ct4, sl4, l4, c4x, k4⟩ := def_of (x := "is_integer") (st := topS 4) FD4
  have g6 := He.glo_ok X G (cd.fact 8 (f := .glo "is_number") rfl)
  obtain ⟨fd6, FD6⟩ := cd.def_ 8 (d := dD_is_number) rfl
  obtain ⟨oc6, od6, kV6, dc6, pm6, an6, c6, ct6, sl6, l6, c6x, k6⟩ := def_of (x := "is_number") (st := topS 6) FD6
  have g12 := He.glo_ok X G (cd.fact 9 (f := .glo "check_tent") rfl)
  obtain ⟨fd12, FD12⟩ := cd.def_ 9 (d := dD_check_tent) rfl
  obtain ⟨oc12, od12, kV12, dc12, pm12, an12, c12, ct12, sl12, l12, c12x, k12⟩ := def_of (x := "check_tent") (st := topS 12) FD12
  have g14 := He.glo_ok X G (cd.fact 10 (f := .glo "_high") rfl)
  obtain ⟨fd14, FD14⟩ := cd.def_ 10 (d := dD__high) rfl
  obtain ⟨oc14, od14, kV14, dc14, pm14, an14, c14, ct14, sl14, l14, c14x, k14⟩ := def_of (x := "_high") (st := topS 14) FD14
  have g18 := He.glo_ok X G (cd.fact 11 (f := .glo "highest") rfl)
  obtain ⟨fd18, FD18⟩ := cd.def_ 11 (d := dD_highest) rfl
  obtain ⟨oc18, od18, kV18, dc18, pm18, an18, c18, ct18, sl18, l18, c18x, k18⟩ := def_of (x := "highest") (st := topS 18) FD18
  have g19 := He.glo_ok X G (cd.fact 12 (f := .glo "lowest") rfl)
  obtain ⟨fd19, FD19⟩ := cd.def_ 12 (d := dD_lowest) rfl
  obtain ⟨oc19, od19, kV19, dc19, pm19, an19, c19, ct19, sl19, l19, c19x, k19⟩ := def_of (x := "lowest") (st := topS 19) FD19
  have g9 := He.glo_ok X G (cd.fact 13 (f := .glo "need_integer") rfl)
  obtain ⟨fd9, FD9⟩ := cd.def_ 13 (d := dD_need_integer) rfl
  obtain ⟨oc9, od9, kV9, dc9, pm9, an9, c9, ct9, sl9, l9, c9x, k9⟩ := def_of (x := "need_integer") (st := topS 9) FD9
  have g22 := He.glo_ok X G (cd.fact 14 (f := .glo "_checked_limit") rfl)
  obtain ⟨fd22, FD22⟩ := cd.def_ 14 (d := dD__checked_limit) rfl
  obtain ⟨oc22, od22, kV22, dc22, pm22, an22, c22, ct22, sl22, l22, c22x, k22⟩ := def_of (x := "_checked_limit") (st := topS 22) FD22
  have g13 := He.glo_ok X G (cd.fact 15 (f := .glo "_low") rfl)
  obtain ⟨fd13, FD13⟩ := cd.def_ 15 (d := dD__low) rfl
  obtain ⟨oc13, od13, kV13, dc13, pm13, an13, c13, ct13, sl13, l13, c13x, k13⟩ := def_of (x := "_low") (st := topS 13) FD13
  have g23 := He.glo_ok X G (cd.fact 16 (f := .glo "above_at") rfl)
  obtain ⟨fd23, FD23⟩ := cd.def_ 16 (d := dD_above_at) rfl
  obtain ⟨oc23, od23, kV23, dc23, pm23, an23, c23, ct23, sl23, l23, c23x, k23⟩ := def_of (x := "above_at") (st := topS 23) FD23
  have g24 := He.glo_ok X G (cd.fact 17 (f := .glo "can_be_above") rfl)
  obtain ⟨fd24, FD24⟩ := cd.def_ 17 (d := dD_can_be_above) rfl
  obtain ⟨oc24, od24, kV24, dc24, pm24, an24, c24, ct24, sl24, l24, c24x, k24⟩ := def_of (x := "can_be_above") (st := topS 24) FD24
  have g25 := He.glo_ok X G (cd.fact 18 (f := .glo "_surely_behind") rfl)
  obtain ⟨fd25, FD25⟩ := cd.def_ 18 (d := dD__surely_behind) rfl
  obtain ⟨oc25, od25, kV25, dc25, pm25, an25, c25, ct25, sl25, l25, c25x, k25⟩ := def_of (x := "_surely_behind") (st := topS 25) FD25
  have g26 := He.glo_ok X G (cd.fact 19 (f := .glo "_not_yet_behind") rfl)
  obtain ⟨fd26, FD26⟩ := cd.def_ 19 (d := dD__not_yet_behind) rfl
  obtain ⟨oc26, od26, kV26, dc26, pm26, an26, c26, ct26, sl26, l26, c26x, k26⟩ := def_of (x := "_not_yet_behind") (st := topS 26) FD26
  have g27 := He.glo_ok X G (cd.fact 20 (f := .glo "many_above") rfl)
  obtain ⟨fd27, FD27⟩ := cd.def_ 20 (d := dD_many_above) rfl
  obtain ⟨oc27, od27, kV27, dc27, pm27, an27, c27, ct27, sl27, l27, c27x, k27⟩ := def_of (x := "many_above") (st := topS 27) FD27
  have g5 := He.glo_ok X G (cd.fact 21 (f := .glo "is_within") rfl)
  obtain ⟨fd5, FD5⟩ := cd.def_ 21 (d := dD_is_within) rfl
  obtain ⟨oc5, od5, kV5, dc5, pm5, an5, c5, ct5, sl5, l5, c5x, k5⟩ := def_of (x := "is_within") (st := topS 5) FD5
  have g10 := He.glo_ok X G (cd.fact 22 (f := .glo "need_within") rfl)
  obtain ⟨fd10, FD10⟩ := cd.def_ 22 (d := dD_need_within) rfl
  obtain ⟨oc10, od10, kV10, dc10, pm10, an10, c10, ct10, sl10, l10, c10x, k10⟩ := def_of (x := "need_within") (st := topS 10) FD10
  have g16 := He.glo_ok X G (cd.fact 23 (f := .glo "_need_tick") rfl)
  obtain ⟨fd16, FD16⟩ := cd.def_ 23 (d := dD__need_tick) rfl
  obtain ⟨oc16, od16, kV16, dc16, pm16, an16, c16, ct16, sl16, l16, c16x, k16⟩ := def_of (x := "_need_tick") (st := topS 16) FD16
  have g20 := He.glo_ok X G (cd.fact 24 (f := .glo "_leg") rfl)
  obtain ⟨fd20, FD20⟩ := cd.def_ 24 (d := dD__leg) rfl
  obtain ⟨oc20, od20, kV20, dc20, pm20, an20, c20, ct20, sl20, l20, c20x, k20⟩ := def_of (x := "_leg") (st := topS 20) FD20
  have g21 := He.glo_ok X G (cd.fact 25 (f := .glo "path_at") rfl)
  obtain ⟨fd21, FD21⟩ := cd.def_ 25 (d := dD_path_at) rfl
  obtain ⟨oc21, od21, kV21, dc21, pm21, an21, c21, ct21, sl21, l21, c21x, k21⟩ := def_of (x := "path_at") (st := topS 21) FD21
  have g37 := He.glo_ok X G (cd.fact 26 (f := .glo "_law_bent") rfl)
  obtain ⟨fd37, FD37⟩ := cd.def_ 26 (d := dD__law_bent) rfl
  obtain ⟨oc37, od37, kV37, dc37, pm37, an37, c37, ct37, sl37, l37, c37x, k37⟩ := def_of (x := "_law_bent") (st := topS 37) FD37
  have g38 := He.glo_ok X G (cd.fact 27 (f := .glo "_law_numbers") rfl)
  obtain ⟨fd38, FD38⟩ := cd.def_ 27 (d := dD__law_numbers) rfl
  obtain ⟨oc38, od38, kV38, dc38, pm38, an38, c38, ct38, sl38, l38, c38x, k38⟩ := def_of (x := "_law_numbers") (st := topS 38) FD38
  have g35 := He.glo_ok X G (cd.fact 28 (f := .glo "_law_is_path") rfl)
  obtain ⟨fd35, FD35⟩ := cd.def_ 28 (d := dD__law_is_path) rfl
  obtain ⟨oc35, od35, kV35, dc35, pm35, an35, c35, ct35, sl35, l35, c35x, k35⟩ := def_of (x := "_law_is_path") (st := topS 35) FD35
  have g17 := He.glo_ok X G (cd.fact 29 (f := .glo "values_at") rfl)
  obtain ⟨fd17, FD17⟩ := cd.def_ 29 (d := dD_values_at) rfl
  obtain ⟨oc17, od17, kV17, dc17, pm17, an17, c17, ct17, sl17, l17, c17x, k17⟩ := def_of (x := "values_at") (st := topS 17) FD17
  have g15 := He.glo_ok X G (cd.fact 30 (f := .glo "path_holds") rfl)
  obtain ⟨fd15, FD15⟩ := cd.def_ 30 (d := dD_path_holds) rfl
  obtain ⟨oc15, od15, kV15, dc15, pm15, an15, c15, ct15, sl15, l15, c15x, k15⟩ := def_of (x := "path_holds") (st := topS 15) FD15
  have g39 := He.glo_ok X G (cd.fact 31 (f := .glo "_law_is_right") rfl)
  obtain ⟨fd39, FD39⟩ := cd.def_ 31 (d := dD__law_is_right) rfl
  obtain ⟨oc39, od39, kV39, dc39, pm39, an39, c39, ct39, sl39, l39, c39x, k39⟩ := def_of (x := "_law_is_right") (st := topS 39) FD39
  have g40 := He.glo_ok X G (cd.fact 32 (f := .glo "_law_none_right") rfl)
  obtain ⟨fd40, FD40⟩ := cd.def_ 32 (d := dD__law_none_right) rfl
  obtain ⟨oc40, od40, kV40, dc40, pm40, an40, c40, ct40, sl40, l40, c40x, k40⟩ := def_of (x := "_law_none_right") (st := topS 40) FD40
  have g36 := He.glo_ok X G (cd.fact 33 (f := .glo "_law_span") rfl)
  obtain ⟨fd36, FD36⟩ := cd.def_ 33 (d := dD__law_span) rfl
  obtain ⟨oc36, od36, kV36, dc36, pm36, an36, c36, ct36, sl36, l36, c36x, k36⟩ := def_of (x := "_law_span") (st := topS 36) FD36
  have g41 := He.glo_ok X G (cd.fact 34 (f := .glo "law") rfl)
  obtain ⟨fd41, FD41⟩ := cd.def_ 34 (d := dD_law) rfl
  obtain ⟨oc41, od41, kV41, dc41, pm41, an41, c41, ct41, sl41, l41, c41x, k41⟩ := def_of (x := "law") (st := topS 41) FD41
  have g32 := He.glo_ok X G (cd.fact 35 (f := .glo "_law_heard") rfl)
  obtain ⟨fd32, FD32⟩ := cd.def_ 35 (d := dD__law_heard) rfl
  obtain ⟨oc32, od32, kV32, dc32, pm32, an32, c32, ct32, sl32, l32, c32x, k32⟩ := def_of (x := "_law_heard") (st := topS 32) FD32
  have gC_Refused := He.glo_ok X G (cd.fact 36 (f := .glo "Refused") rfl)
  obtain ⟨fdI_Refused, FI_Refused⟩ := cd.def_ 36 (d := dI_Refused) rfl
  have gB := He.glo_ok X G (cd.fact 37 (f := .glo "WreckError") rfl)
  have e15 : He.cT K ("path_holds", none) = (c15, He.tabOf K c15) := by
    unfold He.cT
    rw [He.codeOf_eq (p := ("path_holds", none)) l15 rfl]
  have m15 : (("path_holds", none) : He.Defn) ∈ tf := by simp [tf]
  have hP15 := c.empty _ m15
  have nP15 := c.out _ m15
  have hd15 := c.hd _ m15
  rw [e15] at hP15 nP15 hd15
  have e39 : He.cT K ("_law_is_right", none) = (c39, He.tabOf K c39) := by
    unfold He.cT
    rw [He.codeOf_eq (p := ("_law_is_right", none)) l39 rfl]
  have m39 : (("_law_is_right", none) : He.Defn) ∈ tf := by simp [tf]
  have hP39 := c.empty _ m39
  have nP39 := c.out _ m39
  have hd39 := c.hd _ m39
  rw [e39] at hP39 nP39 hd39
  have e40 : He.cT K ("_law_none_right", none) = (c40, He.tabOf K c40) := by
    unfold He.cT
    rw [He.codeOf_eq (p := ("_law_none_right", none)) l40 rfl]
  have m40 : (("_law_none_right", none) : He.Defn) ∈ tf := by simp [tf]
  have hP40 := c.empty _ m40
  have nP40 := c.out _ m40
  have hd40 := c.hd _ m40
  rw [e40] at hP40 nP40 hd40
  have e := hfa.symm.trans g41
  cases e
  refine ⟨[(c15, He.tabOf K c15), (c39, He.tabOf K c39), (c40, He.tabOf K c40)], fun p hp => ?_, fun p hp => ?_, fun p hp => ?_, fun base H s₁ a ns hn e0 TBs hH hS => ?_⟩
  · simp only [List.mem_cons, List.not_mem_nil, or_false] at hp
    rcases hp with rfl | rfl | rfl
    · exact hP15
    · exact hP39
    · exact hP40
  · simp only [List.mem_cons, List.not_mem_nil, or_false] at hp
    rcases hp with rfl | rfl | rfl
    · exact nP15
    · exact nP39
    · exact nP40
  · simp only [List.mem_cons, List.not_mem_nil, or_false] at hp
    rcases hp with rfl | rfl | rfl
    · exact PySem.W.codeHd_of_K X hd15
    · exact PySem.W.codeHd_of_K X hd39
    · exact PySem.W.codeHd_of_K X hd40
  · let TT : List (Addr × Str) := [(He.tabOf K c15, Q_path_holds), (He.tabOf K c39, Q__law_is_right), (He.tabOf K c40, Q__law_none_right)]
    let CRf : Str → Addr := fun x => He.ga K x
    have ndT : (TT.map (·.1)).Nodup := by
      have q := ndP
      simp only [tf, List.map_cons, List.map_nil, e15, e39, e40] at q
      exact q
    have low_Refused : PySem.RefX.LowTxt "Refused" "Refused.__init__" K mg (CRf "Refused") (He.ma K (He.ga K "Refused") "__init__") := low_of X G b_0 gC_Refused FI_Refused
    have T : ∀ T' : Tb, Txt K mg (Pm.mk T' CRf) (He.ma K (He.ga K "Refused") "__init__") := fun _ => { abs := He.free_ok X G (cd.fact 38 (f := .free "abs") rfl), all := He.free_ok X G (cd.fact 39 (f := .free "all") rfl), bool := He.free_ok X G (cd.fact 40 (f := .free "bool") rfl), int := He.free_ok X G (cd.fact 41 (f := .free "int") rfl), isinstance := He.free_ok X G (cd.fact 42 (f := .free "isinstance") rfl), len := He.free_ok X G (cd.fact 43 (f := .free "len") rfl), list := He.free_ok X G (cd.fact 44 (f := .free "list") rfl), max := He.free_ok X G (cd.fact 45 (f := .free "max") rfl), min := He.free_ok X G (cd.fact 46 (f := .free "min") rfl), range := He.free_ok X G (cd.fact 47 (f := .free "range") rfl), repr := He.free_ok X G (cd.fact 48 (f := .free "repr") rfl), set := He.free_ok X G (cd.fact 49 (f := .free "set") rfl), sorted := He.free_ok X G (cd.fact 50 (f := .free "sorted") rfl), tuple := He.free_ok X G (cd.fact 51 (f := .free "tuple") rfl), zip := He.free_ok X G (cd.fact 52 (f := .free "zip") rfl), low_Refused := low_Refused, fv_above_at := ⟨_, He.eqO_ok (cd.fact 16 (f := .glo "above_at") rfl), g23, k23⟩, fv_can_be_above := ⟨_, He.eqO_ok (cd.fact 17 (f := .glo "can_be_above") rfl), g24, k24⟩, fv_many_above := ⟨_, He.eqO_ok (cd.fact 20 (f := .glo "many_above") rfl), g27, k27⟩, heard := ⟨_, _, _, _, _, _, _, _, _, _, g32, k32, l32, c32x, (fun_mk (st := topS 32) l32 c32x k32).binds (ps := ["_law_ask"]) fun _ _ _ _ _ _ us hl => match us, hl with | [_], _ => rfl⟩, wr := ⟨_, gB, of_decide_eq_true b_1, of_decide_eq_true b_2⟩ }
    let TB0 : Tb := ⟨TT, fun _ _ _ => False, fun _ _ _ _ h _ => h⟩
    have D__law_box : ∀ T' : Tb, T'.tb = TT → DfB false l.prog w K mg base (Pm.mk T' CRf) CX0 1 "_law_box" (topS 29) ["_law_script", "_law_k"] m__law_box := fun T' eT => ok__law_box (Pg := l.prog) (w := w) (base := base) (P := Pm.mk T' CRf) (T T')   l29 c29x k29 g29
    have D__law_take : ∀ T' : Tb, T'.tb = TT → DfB false l.prog w K mg base (Pm.mk T' CRf) CX0 1 "_law_take" (topS 30) ["_law_box_here", "_law_many"] m__law_take := fun T' eT => ok__law_take (Pg := l.prog) (w := w) (base := base) (P := Pm.mk T' CRf) (T T')   l30 c30x k30 g30
    have D__law_tent : ∀ T' : Tb, T'.tb = TT → DfB false l.prog w K mg base (Pm.mk T' CRf) CX0 2 "_law_tent" (topS 33) ["_law_box_here", "_law_most"] m__law_tent := fun T' eT => ok__law_tent (Pg := l.prog) (w := w) (base := base) (P := Pm.mk T' CRf) (T T') (D__law_take T' eT)  l33 c33x k33 g33
    have D__law_paths : ∀ T' : Tb, T'.tb = TT → DfB false l.prog w K mg base (Pm.mk T' CRf) CX0 1 "_law_paths" (topS 34) ["_law_tent_here"] m__law_paths := fun T' eT => ok__law_paths (Pg := l.prog) (w := w) (base := base) (P := Pm.mk T' CRf) (T T')   l34 c34x k34 g34
    have D__law_pick : ∀ T' : Tb, T'.tb = TT → DfB false l.prog w K mg base (Pm.mk T' CRf) CX0 2 "_law_pick" (topS 31) ["_law_box_here", "_law_some"] m__law_pick := fun T' eT => ok__law_pick (Pg := l.prog) (w := w) (base := base) (P := Pm.mk T' CRf) (T T') (D__law_take T' eT)  l31 c31x k31 g31
    have D_is_sequence : ∀ T' : Tb, T'.tb = TT → DfB false l.prog w K mg base (Pm.mk T' CRf) CX0 1 "is_sequence" (topS 7) ["value"] m_is_sequence := fun T' eT => ok_is_sequence (Pg := l.prog) (w := w) (base := base) (P := Pm.mk T' CRf) (T T')   l7 c7x k7 g7
    have D_has_parts : ∀ T' : Tb, T'.tb = TT → DfB false l.prog w K mg base (Pm.mk T' CRf) CX0 2 "has_parts" (topS 8) ["value", "many"] m_has_parts := fun T' eT => ok_has_parts (Pg := l.prog) (w := w) (base := base) (P := Pm.mk T' CRf) (T T') (D_is_sequence T' eT)  l8 c8x k8 g8
    have D_is_integer : ∀ T' : Tb, T'.tb = TT → DfB false l.prog w K mg base (Pm.mk T' CRf) CX0 1 "is_integer" (topS 4) ["value"] m_is_integer := fun T' eT => ok_is_integer (Pg := l.prog) (w := w) (base := base) (P := Pm.mk T' CRf) (T T')   l4 c4x k4 g4
    have D_is_number : ∀ T' : Tb, T'.tb = TT → DfB false l.prog w K mg base (Pm.mk T' CRf) CX0 2 "is_number" (topS 6) ["value"] m_is_number := fun T' eT => ok_is_number (Pg := l.prog) (w := w) (base := base) (P := Pm.mk T' CRf) (T T') (D_is_integer T' eT)  l6 c6x k6 g6
    have D_check_tent : ∀ T' : Tb, T'.tb = TT → DfB false l.prog w K mg base (Pm.mk T' CRf) (L2.CX l.prog w) 3 "check_tent" (topS 12) ["value"] m_check_tent := fun T' eT => ok_check_tent (Pg := l.prog) (w := w) (base := base) (P := Pm.mk T' CRf) (T T') (D_has_parts T' eT) (D_is_integer T' eT) (D_is_number T' eT)  l12 c12x k12 g12
    have D__high : ∀ T' : Tb, T'.tb = TT → DfB false l.prog w K mg base (Pm.mk T' CRf) CX0 1 "_high" (topS 14) ["tent", "tick"] m__high := fun T' eT => ok__high (Pg := l.prog) (w := w) (base := base) (P := Pm.mk T' CRf) (T T')   l14 c14x k14 g14
    have D_highest : ∀ T' : Tb, T'.tb = TT → DfB false l.prog w K mg base (Pm.mk T' CRf) (L2.CX l.prog w) 4 "highest" (topS 18) ["tent"] m_highest := fun T' eT => ok_highest (Pg := l.prog) (w := w) (base := base) (P := Pm.mk T' CRf) (T T') (D_check_tent T' eT) (D__high T' eT)  l18 c18x k18 g18
    have D_lowest : ∀ T' : Tb, T'.tb = TT → DfB false l.prog w K mg base (Pm.mk T' CRf) (L2.CX l.prog w) 5 "lowest" (topS 19) ["tent"] m_lowest := fun T' eT => ok_lowest (Pg := l.prog) (w := w) (base := base) (P := Pm.mk T' CRf) (T T') (D_check_tent T' eT) (D_highest T' eT)  l19 c19x k19 g19
    have D_need_integer : ∀ T' : Tb, T'.tb = TT → DfB false l.prog w K mg base (Pm.mk T' CRf) (L2.CX l.prog w) 2 "need_integer" (topS 9) ["value"] m_need_integer := fun T' eT => ok_need_integer (Pg := l.prog) (w := w) (base := base) (P := Pm.mk T' CRf) (T T') (D_is_integer T' eT)  l9 c9x k9 g9
    have D__checked_limit : ∀ T' : Tb, T'.tb = TT → DfB false l.prog w K mg base (Pm.mk T' CRf) (L2.CX l.prog w) 4 "_checked_limit" (topS 22) ["tent", "limit"] m__checked_limit := fun T' eT => ok__checked_limit (Pg := l.prog) (w := w) (base := base) (P := Pm.mk T' CRf) (T T') (D_check_tent T' eT) (D_need_integer T' eT)  l22 c22x k22 g22
    have D__low : ∀ T' : Tb, T'.tb = TT → DfB false l.prog w K mg base (Pm.mk T' CRf) CX0 1 "_low" (topS 13) ["tent", "tick"] m__low := fun T' eT => ok__low (Pg := l.prog) (w := w) (base := base) (P := Pm.mk T' CRf) (T T')   l13 c13x k13 g13
    have D_above_at : ∀ T' : Tb, T'.tb = TT → DfB false l.prog w K mg base (Pm.mk T' CRf) (L2.CX l.prog w) 5 "above_at" (topS 23) ["tent", "limit"] m_above_at := fun T' eT => ok_above_at (Pg := l.prog) (w := w) (base := base) (P := Pm.mk T' CRf) (T T') (D__checked_limit T' eT) (D__low T' eT)  l23 c23x k23 g23
    have D_can_be_above : ∀ T' : Tb, T'.tb = TT → DfB false l.prog w K mg base (Pm.mk T' CRf) (L2.CX l.prog w) 5 "can_be_above" (topS 24) ["tent", "limit"] m_can_be_above := fun T' eT => ok_can_be_above (Pg := l.prog) (w := w) (base := base) (P := Pm.mk T' CRf) (T T') (D__checked_limit T' eT) (D__high T' eT)  l24 c24x k24 g24
    have D__surely_behind : ∀ T' : Tb, T'.tb = TT → DfB false l.prog w K mg base (Pm.mk T' CRf) CX0 1 "_surely_behind" (topS 25) ["value", "limit", "rate"] m__surely_behind := fun T' eT => ok__surely_behind (Pg := l.prog) (w := w) (base := base) (P := Pm.mk T' CRf) (T T')   l25 c25x k25 g25
    have D__not_yet_behind : ∀ T' : Tb, T'.tb = TT → DfB false l.prog w K mg base (Pm.mk T' CRf) CX0 1 "_not_yet_behind" (topS 26) ["value", "limit", "rate"] m__not_yet_behind := fun T' eT => ok__not_yet_behind (Pg := l.prog) (w := w) (base := base) (P := Pm.mk T' CRf) (T T')   l26 c26x k26 g26
    have D_many_above : ∀ T' : Tb, T'.tb = TT → DfB false l.prog w K mg base (Pm.mk T' CRf) (L2.CX l.prog w) 5 "many_above" (topS 27) ["tent", "limit"] m_many_above := fun T' eT => ok_many_above (Pg := l.prog) (w := w) (base := base) (P := Pm.mk T' CRf) (T T') (D__checked_limit T' eT) (D__surely_behind T' eT) (D__not_yet_behind T' eT)  l27 c27x k27 g27
    have D_is_within : ∀ T' : Tb, T'.tb = TT → DfB false l.prog w K mg base (Pm.mk T' CRf) CX0 2 "is_within" (topS 5) ["value", "least", "most"] m_is_within := fun T' eT => ok_is_within (Pg := l.prog) (w := w) (base := base) (P := Pm.mk T' CRf) (T T') (D_is_integer T' eT)  l5 c5x k5 g5
    have D_need_within : ∀ T' : Tb, T'.tb = TT → DfB false l.prog w K mg base (Pm.mk T' CRf) (L2.CX l.prog w) 3 "need_within" (topS 10) ["value", "least", "most"] m_need_within := fun T' eT => ok_need_within (Pg := l.prog) (w := w) (base := base) (P := Pm.mk T' CRf) (T T') (D_is_within T' eT)  l10 c10x k10 g10
    have D__need_tick : ∀ T' : Tb, T'.tb = TT → DfB false l.prog w K mg base (Pm.mk T' CRf) (L2.CX l.prog w) 4 "_need_tick" (topS 16) ["tent", "tick"] m__need_tick := fun T' eT => ok__need_tick (Pg := l.prog) (w := w) (base := base) (P := Pm.mk T' CRf) (T T') (D_need_within T' eT)  l16 c16x k16 g16
    have D__leg : ∀ T' : Tb, T'.tb = TT → DfB false l.prog w K mg base (Pm.mk T' CRf) CX0 1 "_leg" (topS 20) ["start", "end", "ticks"] m__leg := fun T' eT => ok__leg (Pg := l.prog) (w := w) (base := base) (P := Pm.mk T' CRf) (T T')   l20 c20x k20 g20
    have D_path_at : ∀ T' : Tb, T'.tb = TT → DfB false l.prog w K mg base (Pm.mk T' CRf) (L2.CX l.prog w) 5 "path_at" (topS 21) ["tent", "tick", "value"] m_path_at := fun T' eT => ok_path_at (Pg := l.prog) (w := w) (base := base) (P := Pm.mk T' CRf) (T T') (D_check_tent T' eT) (D__need_tick T' eT) (D_need_within T' eT) (D__low T' eT) (D__high T' eT) (D__leg T' eT)  l21 c21x k21 g21
    have D__law_bent : ∀ T' : Tb, T'.tb = TT → DfB false l.prog w K mg base (Pm.mk T' CRf) CX0 3 "_law_bent" (topS 37) ["_law_box_here", "_law_path"] m__law_bent := fun T' eT => ok__law_bent (Pg := l.prog) (w := w) (base := base) (P := Pm.mk T' CRf) (T T') (D__law_take T' eT) (D__law_pick T' eT)  l37 c37x k37 g37
    have D__law_numbers : ∀ T' : Tb, T'.tb = TT → DfB false l.prog w K mg base (Pm.mk T' CRf) CX0 1 "_law_numbers" (topS 38) ["_law_paths_here", "_law_limit"] m__law_numbers := fun T' eT => ok__law_numbers (Pg := l.prog) (w := w) (base := base) (P := Pm.mk T' CRf) (T T')   l38 c38x k38 g38
    have D__law_is_path : ∀ T' : Tb, T'.tb = TT → DfB false l.prog w K mg base (Pm.mk T' CRf) CX0 1 "_law_is_path" (topS 35) ["_law_tent_here", "_law_value"] m__law_is_path := fun T' eT => ok__law_is_path (Pg := l.prog) (w := w) (base := base) (P := Pm.mk T' CRf) (T T')   l35 c35x k35 g35
    have D_values_at : ∀ T' : Tb, T'.tb = TT → DfB false l.prog w K mg base (Pm.mk T' CRf) (L2.CX l.prog w) 5 "values_at" (topS 17) ["tent", "tick"] m_values_at := fun T' eT => ok_values_at (Pg := l.prog) (w := w) (base := base) (P := Pm.mk T' CRf) (T T') (D_check_tent T' eT) (D__need_tick T' eT) (D__low T' eT) (D__high T' eT)  l17 c17x k17 g17
    have D_path_holds : ∀ T' : Tb, T'.tb = TT → DfB false l.prog w K mg base (Pm.mk T' CRf) (L2.CX l.prog w) 4 "path_holds" (topS 15) ["tent", "value"] m_path_holds := fun T' eT => ok_path_holds (Pg := l.prog) (w := w) (base := base) (P := Pm.mk T' CRf) (T T') (D_check_tent T' eT) (D_has_parts T' eT) (D_is_integer T' eT) (TBs (c15, He.tabOf K c15) (by simp)) (show (He.tabOf K c15, Q_path_holds) ∈ T'.tb from by rw [eT]; simp [TT]) (fun q hq e => uT_of ndT (He.tabOf K c15, Q_path_holds) (by simp [TT]) q ((eT ▸ hq : q ∈ TT)) e) l15 c15x k15 g15
    have D__law_is_right : ∀ T' : Tb, T'.tb = TT → DfB true l.prog w K mg base (Pm.mk T' CRf) CX0 8 "_law_is_right" (topS 39) ["_law_box_here", "_law_tent_here", "_law_spans", "_law_paths_here"] m__law_is_right := fun T' eT => ok__law_is_right (Pg := l.prog) (w := w) (base := base) (P := Pm.mk T' CRf) (T T') (D__law_pick T' eT) (D_highest T' eT) (D_lowest T' eT) (D_above_at T' eT) (D_can_be_above T' eT) (D_many_above T' eT) (D__law_take T' eT) (D_path_at T' eT) (D__law_bent T' eT) (D__law_numbers T' eT) (D__law_is_path T' eT) (D_values_at T' eT) (D_path_holds T' eT) (TBs (c39, He.tabOf K c39) (by simp)) (show (He.tabOf K c39, Q__law_is_right) ∈ T'.tb from by rw [eT]; simp [TT]) (fun q hq e => uT_of ndT (He.tabOf K c39, Q__law_is_right) (by simp [TT]) q ((eT ▸ hq : q ∈ TT)) e) l39 c39x k39 g39
    have D__law_none_right := ok__law_none_right (Pg := l.prog) (w := w) (base := base) (P := Pm.mk TB0 CRf) (fun T' => T T') (fun T' eT => D__law_pick T' eT) (fun T' eT => D_check_tent T' eT) (fun T' eT => D_values_at T' eT) (fun T' eT => D_highest T' eT) (fun T' eT => D_lowest T' eT) (fun T' eT => D_path_at T' eT) (fun T' eT => D_path_holds T' eT) (fun T' eT => D_above_at T' eT) (fun T' eT => D_can_be_above T' eT) (fun T' eT => D_many_above T' eT) (TBs (c40, He.tabOf K c40) (by simp)) (show (He.tabOf K c40, Q__law_none_right) ∈ TT from by simp [TT]) (fun q hq e => uT_of ndT (He.tabOf K c40, Q__law_none_right) (by simp [TT]) q (hq) e) l40 c40x k40 g40
    have D__law_span : ∀ T' : Tb, T'.tb = TT → DfB false l.prog w K mg base (Pm.mk T' CRf) CX0 1 "_law_span" (topS 36) ["_law_tent_here", "_law_tick"] m__law_span := fun T' eT => ok__law_span (Pg := l.prog) (w := w) (base := base) (P := Pm.mk T' CRf) (T T')   l36 c36x k36 g36
    have D_law := ok_law (Pg := l.prog) (w := w) (base := base) (P := Pm.mk TB0 CRf) (T TB0) (D__law_box TB0 rfl) (D__law_tent TB0 rfl) (D__law_paths TB0 rfl) (D__law_is_right TB0 rfl) (D_many_above TB0 rfl) D__law_none_right (D__law_take TB0 rfl) (D_highest TB0 rfl) (D_lowest TB0 rfl) (D__law_span TB0 rfl)  l41 c41x k41 g41
    obtain ⟨st, hst⟩ := MATH ns hn
    obtain ⟨f0, fd0, hm0, hF0, hB0, F0⟩ := D_law.ex
    have e := hfa.symm.trans hm0
    cases e
    have bb := hB0 s₁ [.ref a] (e0.mod.kin.keeps fun b o e => (e0.bs b o e).1) rfl
    rw [List.append_nil] at bb
    refine F0.run callerA [] s₁ H ⟨[.ref a], []⟩ [.ref a] [.ref a] (fun v _ => v = .bl true) E0 (fun _ => rfl) ⟨rfl, by decide, by decide⟩ e0 bb (.cons rfl .nil) ⟨⟨[], []⟩, [.scr ns], [], rfl, .cons (.scr ?_) .nil, ⟨rfl, fun k a b z => by simp at z, fun i j a b z => by simp at z, fun k a b z => by simp at z, fun e z => (nomatch z), fun p hp => ?_⟩, ?_⟩
    · rcases hS with hS | hS
      · exact .inl ⟨hS, ⟨fun z => (nomatch z), fun z => (nomatch z)⟩⟩
      · exact .inr (.inr hS)
    · have hp' : p ∈ TT := hp
      simp only [TT, List.mem_cons, List.not_mem_nil, or_false] at hp'
      rcases hp' with rfl | rfl | rfl
      · exact LamX.TabS.nil (hH (c15, He.tabOf K c15) (by simp))
      · exact LamX.TabS.nil (hH (c39, He.tabOf K c39) (by simp))
      · exact LamX.TabS.nil (hH (c40, He.tabOf K c40) (by simp))
    · show Out K _ _ _ (m_law [.scr ns] []) _ _
      rw [hst]
      exact fun β' v H' _ _ r => r.bl_inv
abbrev Rw : PySem.W.OpenRow := PySem.W.OpenLaw.row PySem.Challenge.rw_wrecktold_k16_whole_tents_by_all_paths
def loose0 : List PySem.Str := ["is_integer", "is_within", "is_number", "is_sequence", "has_parts", "need_integer", "need_within", "check_tent", "_low", "_high", "path_holds", "_need_tick", "values_at", "highest", "lowest", "_leg"]
def loose1 : List PySem.Str := ["path_at", "_checked_limit", "above_at", "can_be_above", "_surely_behind", "_not_yet_behind", "many_above", "_law_box", "_law_take", "_law_pick", "_law_heard", "_law_tent", "_law_paths", "_law_is_path", "_law_span", "_law_bent"]
def loose2 : List PySem.Str := ["_law_numbers", "_law_is_right", "_law_none_right", "WreckError", "Refused"]
def loose : List PySem.Str := loose0 ++ loose1 ++ loose2
abbrev hk : PySem.W.Hook := He.hookX 5 fa fn [] tf ex
def ob (s : PySem.W.SharedT) : He.AlX := He.obsX 5 fa fn [] tf ex (HandSHeadRun.getT s)
theorem ob_eq (s : PySem.W.SharedT) : ob s = hk.obs s.abs := He.obsX_eq (HandSHeadRun.getT_eq s)
end K16

end
section
set_option Elab.async false
set_option linter.all false
set_option maxRecDepth 100000
set_option maxHeartbeats 4000000
namespace K16
open PySem PySem.Spec PyProof.Rows L2 Ms
theorem run (w : World) : HandSHeadRun.RunEq Rw (PySem.W.view Rw.prog [41]) hk ob 12000 loose w := by
  intro os
  kernel_rfl
end K16

end
section
set_option Elab.async false
set_option linter.all false
set_option maxRecDepth 100000
set_option maxHeartbeats 4000000
namespace Ms
open PySem PySem.Spec PyProof.Rows L2
section
variable {α γ : Type} {δ : List (Option D)} {bx : Sto} {E : Str → D → Sto → Prop} {N : List (Option D) → Sto → Prop} {Rt : D → Sto → Prop}
theorem W_var {i : Nat} {Q : D → Sto → Prop} : W (fVar i δ bx) Q E ↔ ∃ d, δ[i]? = some (some d) ∧ Q d bx := by
  unfold fVar
  constructor
  · intro h
    split at h
    · exact ⟨_, by assumption, h⟩
    · exact h.elim
  · rintro ⟨d, h1, h2⟩
    simp only [h1]
    exact h2
theorem W_rg1 {A : Fn (List D)} {Q : List D → Sto → Prop} : W (fRg1 A δ bx) Q E ↔ W (A δ bx) (fun ds bx' => ∃ j : Int, ds = [.int j] ∧ -(2 ^ 62) ≤ j ∧ j < 2 ^ 62 ∧ Q (rgl 0 j.toNat) bx') E := by
  unfold fRg1
  rw [W_bnd]
  refine iff_of_eq (congrArg (fun k => W (A δ bx) k E) (funext fun ds => funext fun bx' => propext ?_))
  constructor
  · intro h
    split at h
    · split at h
      · rename_i j hj
        exact ⟨j, rfl, hj.1, hj.2, h⟩
      · exact h.elim
    · exact h.elim
  · rintro ⟨j, rfl, h1, h2, h3⟩
    dsimp only
    rw [if_pos ⟨h1, h2⟩]
    exact h3
theorem W_rg2 {A : Fn (List D)} {Q : List D → Sto → Prop} : W (fRg2 A δ bx) Q E ↔ W (A δ bx) (fun ds bx' => ∃ i j : Int, ds = [.int i, .int j] ∧ (-(2 ^ 62) ≤ i ∧ i < 2 ^ 62 ∧ -(2 ^ 62) ≤ j ∧ j < 2 ^ 62) ∧ Q (rgl i (j - i).toNat) bx') E := by
  unfold fRg2
  rw [W_bnd]
  refine iff_of_eq (congrArg (fun k => W (A δ bx) k E) (funext fun ds => funext fun bx' => propext ?_))
  constructor
  · intro h
    split at h
    · split at h
      · rename_i i j hj
        exact ⟨i, j, rfl, hj, h⟩
      · exact h.elim
    · exact h.elim
  · rintro ⟨i, j, rfl, h1, h3⟩
    dsimp only
    rw [if_pos h1]
    exact h3
theorem W_zip {A : Fn (List D)} {Q : List D → Sto → Prop} : W (fZip A δ bx) Q E ↔ W (A δ bx) (fun ds bx' => ∃ l m, (ds = [.lst l, .lst m] ∨ ds = [.tup l, .tup m]) ∧ Q (zipD l m) bx') E := by
  unfold fZip
  rw [W_bnd]
  refine iff_of_eq (congrArg (fun k => W (A δ bx) k E) (funext fun ds => funext fun bx' => propext ?_))
  constructor
  · intro h
    split at h
    · exact ⟨_, _, .inl rfl, h⟩
    · exact ⟨_, _, .inr rfl, h⟩
    · exact h.elim
  · rintro ⟨l, m, rfl | rfl, h⟩
    · exact h
    · exact h
theorem W_enum {A : Fn (List D)} {Q : List D → Sto → Prop} : W (fEnum A δ bx) Q E ↔ W (A δ bx) (fun ds bx' => ∃ l, ds = [.lst l] ∧ Q (enumD 0 l) bx') E := by
  unfold fEnum
  rw [W_bnd]
  refine iff_of_eq (congrArg (fun k => W (A δ bx) k E) (funext fun ds => funext fun bx' => propext ?_))
  constructor
  · intro h
    split at h
    · exact ⟨_, rfl, h⟩
    · exact h.elim
  · rintro ⟨l, rfl, h⟩
    exact h
theorem W_lcA {is : List Nat} {b : Bd} {Fi : Fn (List D)} {C : Fn Bool} {F : Fn D} {Q : List D → Sto → Prop} : W (fLcA is b Fi C F δ bx) Q E ↔ W (Fi δ bx) (fun ds bx' => ds.length ≤ 1000000 ∧ W (lcGo b (unset is δ) C F ds bx' []) Q E) E := by
  unfold fLcA
  rw [W_bnd]
  refine iff_of_eq (congrArg (fun k => W (Fi δ bx) k E) (funext fun ds => funext fun bx' => propext ?_))
  by_cases h : ds.length ≤ 1000000
  · rw [if_pos h]
    exact ⟨fun q => ⟨h, q⟩, fun q => q.2⟩
  · rw [if_neg h]
    exact ⟨fun q => q.elim, fun q => h q.1⟩
theorem W_lc {is : List Nat} {b : Bd} {Fi : Fn (List D)} {C : Fn Bool} {F : Fn D} {Q : D → Sto → Prop} : W (fLc is b Fi C F δ bx) Q E ↔ W (fLcA is b Fi C F δ bx) (fun l bx' => Q (.lst l) bx') E := W_bnd
theorem W_lcM {is : List Nat} {b : Bd} {Fi : Fn (List D)} {C : Fn Bool} {F : Fn D} {Q : D → Sto → Prop} : W (fLcM is b Fi C F δ bx) Q E ↔ W (fLcA is b Fi C F δ bx) (fun l bx' => Q (.ref bx'.length) (bx' ++ [.lst l])) E := W_bnd
theorem W_allG {is : List Nat} {b : Bd} {Fi : Fn (List D)} {F : Fn D} {Q : D → Sto → Prop} : W (fAllG is b Fi F δ bx) Q E ↔ W (Fi δ bx) (fun ds bx' => W (allGo b (unset is δ) F ds bx') Q E) E := W_bnd
theorem W_heard {F : Fn D} {Q : D → Sto → Prop} : W (fHeard F δ bx) Q E ↔ W (F δ bx) (fun d bx' => Q (.tup [.str "told", d]) bx') (fun c d bx' => c = "Refused" ∧ showOk d = true ∧ Q (.tup [.str "refused", .str d.py.shown, .bl true]) bx') := by
  unfold fHeard hRes
  cases F δ bx with
  | ok d bx' => exact Iff.rfl
  | bad => exact Iff.rfl
  | err c d bx' =>
    constructor
    · intro h
      dsimp only at h
      split at h
      · split at h
        · exact ⟨by assumption, by assumption, h⟩
        · exact h.elim
      · exact h.elim
    · rintro ⟨h1, h2, h3⟩
      dsimp only
      rw [if_pos h1, if_pos h2]
      exact h3
/-! ### operations on what is known -/
theorem ev_plus {i j : Int} : cPlus bx (.int i) (.int j) = some (.int (i + j)) := rfl
theorem ev_sub {i j : Int} : cSub bx (.int i) (.int j) = some (.int (i - j)) := by simp [iI]
theorem ev_mulR {i j : Int} (h : -(2 ^ 64) < j ∧ j < 2 ^ 64) : cMul bx (.int i) (.int j) = some (.int (i * j)) := if_pos (Bool.or_eq_true_iff.mpr (.inr (decide_eq_true h)))
theorem ev_mulL {i j : Int} (h : -(2 ^ 64) < i ∧ i < 2 ^ 64) : cMul bx (.int i) (.int j) = some (.int (i * j)) := if_pos (Bool.or_eq_true_iff.mpr (.inl (decide_eq_true h)))
theorem ev_mod {i j : Int} (h : 0 < j) : cMod bx (.int i) (.int j) = some (.int (i % j)) := by simp [iI, h]
theorem ev_div {i j : Int} (h : 0 < j) (h2 : j < 1073741824) : cDiv bx (.int i) (.int j) = some (.int (i / j)) := by simp [iI, h, h2]
theorem ev_pow {i j : Int} (h : 0 ≤ j ∧ j ≤ 1000000 ∧ i.natAbs < 2 ^ 64) : cPow bx (.int i) (.int j) = some (.int (i ^ j.toNat)) := by simp [iI, decide_eq_true h]
theorem ev_iB {p : Int → Int → Bool} {i j : Int} : iB p bx (.int i) (.int j) = some (.bl (p i j)) := rfl
theorem ev_toB {b : Bool} : toB (.bl b) = some b := rfl
theorem ev_not {b : Bool} : cNot bx (.bl b) = some (.bl (!b)) := rfl
theorem ev_neg {i : Int} : cNeg bx (.int i) = some (.int (-i)) := rfl
theorem ev_isN {d : D} : cIsN bx d = some (.bl (isNon d)) := rfl
theorem ev_notN {d : D} : cNotN bx d = some (.bl (!isNon d)) := rfl
theorem ev_isB {n a b : Bool} : cIsB n bx (.bl a) (.bl b) = some (.bl (if n then !decide (a = b) else decide (a = b))) := rfl
theorem vs_lst {l : List D} : vs bx (.lst l) = some l := rfl
theorem vs_tup {l : List D} : vs bx (.tup l) = some l := rfl
theorem vs_scr {l : List Int} : vs bx (.scr l) = some (l.map D.int) := rfl
theorem vs_ref {k : Nat} {l : List D} (h : bx[k]? = some (.lst l)) : vs bx (.ref k) = some l := by simp [vs, vl, h]
theorem vs_int {i : Int} : vs bx (.int i) = none := rfl
theorem vs_non : vs bx .non = none := rfl
theorem vs_bl {b : Bool} : vs bx (.bl b) = none := rfl
theorem vs_str {x : Str} : vs bx (.str x) = none := rfl
theorem ev_ix {d : D} {i : Int} {l : List D} (h : vs bx d = some l) : cIx bx d (.int i) = atI l i := by
  unfold cIx
  rw [h]
theorem ixN_nat {n k : Nat} (h : k < n) : ixN n (k : Int) = some k := by
  unfold ixN
  rw [if_pos (by omega), if_pos (by omega)]
  congr 1
theorem atI_nat {l : List D} {k : Nat} {d : D} (h : l[k]? = some d) : atI l (k : Int) = some d := by
  unfold atI
  rw [ixN_nat (List.getElem?_eq_some_iff.mp h).1]
  exact h
theorem atI_int {l : List D} {i : Int} {d : D} (h0 : 0 ≤ i) (h : l[i.toNat]? = some d) : atI l i = some d := by
  have e : i = (i.toNat : Int) := by omega
  rw [e]
  exact atI_nat h
theorem ev_len {d : D} {l : List D} (h : vs bx d = some l) : cLen bx [d] = some (.int l.length) := by
  simp only [cLen, h]
theorem ev_int {i : Int} : cInt bx [.int i] = some (.int i) := rfl
theorem ev_abs {i : Int} : cAbs bx [.int i] = some (.int (if i < 0 then -i else i)) := rfl
theorem ev_max {i j : Int} : cMax bx [.int i, .int j] = some (.int (if j > i then j else i)) := rfl
theorem ev_min {i j : Int} : cMin bx [.int i, .int j] = some (.int (if j < i then j else i)) := rfl
theorem ev_tup {l : List D} (h : l.length ≤ 1000) : cTup bx l = some (.tup l) := if_pos h
theorem ev_lst {l : List D} (h : l.length ≤ 1000) : cLst bx l = some (.lst l) := if_pos h
theorem ev_listOf {d : D} {l : List D} (h : vs bx d = some l) : cListOf bx [d] = some (.lst l) := by simp [cListOf, h]
theorem ev_tupOfL {l : List D} : cTupOf bx [.lst l] = some (.tup l) := rfl
theorem ev_tupOfT {l : List D} : cTupOf bx [.tup l] = some (.tup l) := rfl
theorem ev_eqI {i j : Int} : cEqD bx (.int i) (.int j) = some (.bl (i == j)) := by
  simp [cEqD, eqOk, dr, D.pure, D.py, SeqAt.shaped, PyData.canLay0, PyData.depth, PyData.eqv]
theorem ev_neI {i j : Int} : cNeD bx (.int i) (.int j) = some (.bl (!(i == j))) := by
  simp [cNeD, eqOk, dr, D.pure, D.py, SeqAt.shaped, PyData.canLay0, PyData.depth, PyData.eqv]
theorem ev_isi {T t : String} {d : D} {b : Bool} (h : d.ty bx = some t) (k : kitB t T = some b) : cIsi T bx d = some (.bl b) := by
  unfold cIsi
  rw [h]
  show (kitB t T).map D.bl = _
  rw [k]
  rfl
theorem ev_isi2 {T U t : String} {d : D} {b c : Bool} (h : d.ty bx = some t) (k : kitB t T = some b) (k2 : kitB t U = some c) : cIsi2 T U bx d = some (.bl (b || c)) := by
  unfold cIsi2
  rw [h]
  show (match kitB t T, kitB t U with | some p, some q => some (D.bl (p || q)) | _, _ => none) = _
  rw [k, k2]
end
theorem kb1 : kitB "int" "int" = some true := by decide +kernel
theorem kb2 : kitB "bool" "int" = some true := by decide +kernel
theorem kb3 : kitB "NoneType" "int" = some false := by decide +kernel
theorem kb4 : kitB "tuple" "int" = some false := by decide +kernel
theorem kb5 : kitB "list" "int" = some false := by decide +kernel
theorem kb6 : kitB "str" "int" = some false := by decide +kernel
theorem ka1 : kitB "int" "bool" = some false := by decide +kernel
theorem ka2 : kitB "bool" "bool" = some true := by decide +kernel
theorem ka3 : kitB "NoneType" "bool" = some false := by decide +kernel
theorem ka4 : kitB "tuple" "bool" = some false := by decide +kernel
theorem ka5 : kitB "list" "bool" = some false := by decide +kernel
theorem ka6 : kitB "str" "bool" = some false := by decide +kernel
theorem kc1 : kitB "int" "list" = some false := by decide +kernel
theorem kc2 : kitB "bool" "list" = some false := by decide +kernel
theorem kc3 : kitB "NoneType" "list" = some false := by decide +kernel
theorem kc4 : kitB "tuple" "list" = some false := by decide +kernel
theorem kc5 : kitB "list" "list" = some true := by decide +kernel
theorem kc6 : kitB "str" "list" = some false := by decide +kernel
theorem kd1 : kitB "int" "tuple" = some false := by decide +kernel
theorem kd2 : kitB "bool" "tuple" = some false := by decide +kernel
theorem kd3 : kitB "NoneType" "tuple" = some false := by decide +kernel
theorem kd4 : kitB "tuple" "tuple" = some true := by decide +kernel
theorem kd5 : kitB "list" "tuple" = some false := by decide +kernel
theorem kd6 : kitB "str" "tuple" = some false := by decide +kernel
theorem ks1 : kitB "int" "str" = some false := by decide +kernel
theorem ks2 : kitB "bool" "str" = some false := by decide +kernel
theorem ks3 : kitB "NoneType" "str" = some false := by decide +kernel
theorem ks4 : kitB "tuple" "str" = some false := by decide +kernel
theorem ks5 : kitB "list" "str" = some false := by decide +kernel
theorem ks6 : kitB "str" "str" = some true := by decide +kernel
/-- data of one piece: no list that grows, no def -/
def D.cl : D → Bool
  | .ref _ => false
  | .fn _ => false
  | .scr _ => false
  | _ => true
def isI : D → Bool
  | .int _ => true
  | _ => false
def isS : D → Bool
  | .lst _ => true
  | .tup _ => true
  | _ => false
theorem isi_int {bx : Sto} {d : D} (h : d.cl = true) : cIsi "int" bx d = some (.bl (match d with | .int _ => true | .bl _ => true | _ => false)) := by
  cases d <;> first | (cases h; done) | exact ev_isi rfl (by first | exact kb1 | exact kb2 | exact kb3 | exact kb4 | exact kb5 | exact kb6)
theorem isi_bool {bx : Sto} {d : D} (h : d.cl = true) : cIsi "bool" bx d = some (.bl (match d with | .bl _ => true | _ => false)) := by
  cases d <;> first | (cases h; done) | exact ev_isi rfl (by first | exact ka1 | exact ka2 | exact ka3 | exact ka4 | exact ka5 | exact ka6)
theorem isi_tup {bx : Sto} {d : D} (h : d.cl = true) : cIsi "tuple" bx d = some (.bl (match d with | .tup _ => true | _ => false)) := by
  cases d <;> first | (cases h; done) | exact ev_isi rfl (by first | exact kd1 | exact kd2 | exact kd3 | exact kd4 | exact kd5 | exact kd6)
theorem isi_str {bx : Sto} {d : D} (h : d.cl = true) : cIsi "str" bx d = some (.bl (match d with | .str _ => true | _ => false)) := by
  cases d <;> first | (cases h; done) | exact ev_isi rfl (by first | exact ks1 | exact ks2 | exact ks3 | exact ks4 | exact ks5 | exact ks6)
theorem isi_seq {bx : Sto} {d : D} (h : d.cl = true) : cIsi2 "list" "tuple" bx d = some (.bl (isS d)) := by
  cases d <;> first
    | (cases h; done)
    | exact ev_isi2 (b := false) (c := false) rfl (by first | exact kc1 | exact kc2 | exact kc3 | exact kc6) (by first | exact kd1 | exact kd2 | exact kd3 | exact kd6)
    | exact ev_isi2 (b := true) (c := false) rfl kc5 kd5
    | exact ev_isi2 (b := false) (c := true) rfl kc4 kd4
/-! ### the box that a law draws from -/
/-- behind some draws: the box at b is a box, the cells beside it are as they were -/
structure Ext (b : Nat) (st st' : Sto) : Prop where
  ln : st.length ≤ st'.length
  bx : ∃ g r : Int, st'[b]? = some (.lst [.int g, .int r])
  sm : ∀ k : Nat, k < st.length → k ≠ b → st'[k]? = st[k]?
theorem Ext.refl {b : Nat} {st : Sto} (h : ∃ g r : Int, st[b]? = some (.lst [.int g, .int r])) : Ext b st st := ⟨Nat.le_refl _, h, fun _ _ _ => rfl⟩
theorem Ext.trans {b : Nat} {s1 s2 s3 : Sto} (h : Ext b s1 s2) (k : Ext b s2 s3) : Ext b s1 s3 := ⟨Nat.le_trans h.ln k.ln, k.bx, fun i hi hb => (k.sm i (Nat.lt_of_lt_of_le hi h.ln) hb).trans (h.sm i hi hb)⟩
/-- one draw -/
def sTake (c1 c2 m1 c3 c4 m2 c5 c6 : Int) : Sn := (sSeq (sIf (fB (f2 (iB fun i j => decide (j < i)) (f2 cIx (fVar 0) (pur (.int 0))) (pur (.int 0)))) (sSeq (sSet 2 (f2 cMod (fA cInt (fCons (f2 cIx (fVar 0) (pur (.int 0))) (pur []))) (fVar 1))) (sSeq (sPut (f2 cDiv (f2 cIx (fVar 0) (pur (.int 0))) (fVar 1)) (fVar 0) (pur (.int 0))) (sSeq (sRet (fVar 2)) sNext))) sNext) (sSeq (sSet 3 (f2 cMod (fA cInt (fCons (f2 cPlus (f2 cMul (f2 cIx (fVar 0) (pur (.int 1))) (pur (.int c1))) (pur (.int c2))) (pur []))) (pur (.int m1)))) (sSeq (sPut (f2 cPlus (f2 cMod (fA cInt (fCons (f2 cPlus (f2 cMul (fVar 3) (pur (.int c3))) (pur (.int c4))) (pur []))) (pur (.int m2))) (pur (.int 1))) (fVar 0) (pur (.int 1))) (sSeq (sRet (f2 cMod (fA cInt (fCons (f2 cDiv (f2 cPlus (f2 cMul (fVar 3) (pur (.int c5))) (f2 cIx (fVar 0) (pur (.int 1)))) (pur (.int c6))) (pur []))) (fVar 1))) sNext))))
theorem take_WS {c1 c2 m1 c3 c4 m2 c5 c6 : Int} (h1 : -(2 ^ 64) < c1 ∧ c1 < 2 ^ 64) (h3 : -(2 ^ 64) < c3 ∧ c3 < 2 ^ 64) (h5 : -(2 ^ 64) < c5 ∧ c5 < 2 ^ 64) (hm1 : 0 < m1) (hm2 : 0 < m2) (h6 : 0 < c6 ∧ c6 < 1073741824)
    {b : Nat} {st : Sto} {n : Int} (hb : ∃ g r : Int, st[b]? = some (.lst [.int g, .int r])) (hn : 0 < n) (hn2 : n < 1073741824) {Rt : D → Sto → Prop} {N : List (Option D) → Sto → Prop} {E : Str → D → Sto → Prop}
    (k : ∀ (i : Int) (st' : Sto), 0 ≤ i → i < n → Ext b st st' → st'.length = st.length → Rt (.int i) st') :
    WS (sTake c1 c2 m1 c3 c4 m2 c5 c6 [some (.ref b), some (.int n), none, none] st) N Rt E := by
  obtain ⟨g, r, hb⟩ := hb
  have hlt : b < st.length := (List.getElem?_eq_some_iff.mp hb).1
  have v := vs_ref hb
  have ext : ∀ g' r' : Int, Ext b st (st.set b (.lst [.int g', .int r'])) := fun g' r' => ⟨by rw [List.length_set]; exact Nat.le_refl _, ⟨g', r', List.getElem?_set_self hlt⟩, fun k _ hk => List.getElem?_set_ne (Ne.symm hk)⟩
  have a0 : ∀ x y : Int, atI [D.int x, D.int y] 0 = some (.int x) := fun _ _ => rfl
  have a1 : ∀ x y : Int, atI [D.int x, D.int y] 1 = some (.int y) := fun _ _ => rfl
  unfold sTake
  by_cases hg : 0 < g
  · simp only [WS_seq, WS_if, WS_set, WS_ret, WS_put, WS_next, W_B, W_f2, W_fA, W_cons, W_pur, W_var, ev_ix v, a0, ev_iB, ev_toB, ev_int, ev_mod hn, ev_div hn hn2, hg, decide_true, if_true, Option.some.injEq, exists_eq_left', List.getElem?_cons_zero, List.getElem?_cons_succ, List.set_cons_zero, List.set_cons_succ]
    refine ⟨b, 0, _, 0, rfl, rfl, hb, rfl, k _ _ (Int.emod_nonneg _ (by omega)) (Int.emod_lt_of_pos _ hn) (ext _ _) (by rw [List.length_set])⟩
  · simp only [WS_seq, WS_if, WS_set, WS_ret, WS_put, WS_next, W_B, W_f2, W_fA, W_cons, W_pur, W_var, ev_ix v, a0, a1, ev_iB, ev_toB, ev_int, ev_mod hm1, ev_mod hm2, ev_mulR h1, ev_mulR h3, ev_plus, hg, decide_false, Bool.false_eq_true, if_false, Option.some.injEq, exists_eq_left', List.getElem?_cons_zero, List.getElem?_cons_succ, List.set_cons_zero, List.set_cons_succ]
    refine ⟨b, 1, _, 1, rfl, rfl, hb, rfl, ?_⟩
    have v' := fun x => vs_ref (bx := st.set b (.lst [D.int g, x])) (k := b) (l := [D.int g, x]) (List.getElem?_set_self hlt)
    simp only [WS_seq, WS_ret, WS_next, W_f2, W_fA, W_cons, W_pur, W_var, ev_mulR h5, ev_plus, ev_ix (v' _), ev_int, ev_mod hn, ev_div h6.1 h6.2, List.set_cons_succ, List.set_cons_zero, a1, Option.some.injEq, exists_eq_left', List.getElem?_cons_zero, List.getElem?_cons_succ]
    exact k _ _ (Int.emod_nonneg _ (by omega)) (Int.emod_lt_of_pos _ hn) (ext _ _) (by rw [List.length_set])
end Ms

end
section
set_option Elab.async false
set_option linter.all false
set_option maxRecDepth 100000
set_option maxHeartbeats 4000000
namespace Ms
open PySem PySem.Spec PyProof.Rows L2
/-- the box that a script gives for its k-th round -/
def sBox (A B M C M2 C2 B2 M3 : Int) : Sn := (sSeq (sSet 2 (f2 cPlus (f2 cMul (pur (.int A)) (fVar 1)) (pur (.int B)))) (sSeq (sIf (fB (f2 (iB fun i j => decide (i < j)) (fVar 1) (fA cLen (fCons (fVar 0) (pur []))))) (sSeq (sSet 2 (fA cAbs (fCons (fA cInt (fCons (f2 cIx (fVar 0) (fVar 1)) (pur []))) (pur [])))) sNext) (sSeq (sIf (fB (f2 (iB fun i j => decide (j < i)) (fA cLen (fCons (fVar 0) (pur []))) (pur (.int 0)))) (sSeq (sSet 2 (f2 cPlus (fVar 2) (f2 cMul (f2 cMod (fA cInt (fCons (fA cAbs (fCons (fA cInt (fCons (f2 cIx (fVar 0) (f2 cMod (fA cInt (fCons (fVar 1) (pur []))) (fA cLen (fCons (fVar 0) (pur []))))) (pur []))) (pur []))) (pur []))) (pur (.int M))) (pur (.int C))))) sNext) sNext) sNext)) (sSeq (sSet 3 (fIfT (fB (f2 (iB fun i j => decide (j ≤ i)) (fVar 2) (f2 cPow (pur (.int 10)) (pur (.int 18))))) (fVar 2) (pur (.int 0)))) (sSeq (sRet (fNew (fCons (fVar 3) (fCons (f2 cPlus (f2 cMod (fA cInt (fCons (f2 cPlus (f2 cMul (f2 cMod (fA cInt (fCons (fVar 2) (pur []))) (pur (.int M2))) (pur (.int C2))) (f2 cMul (pur (.int B2)) (fVar 1))) (pur []))) (pur (.int M3))) (pur (.int 1))) (pur []))))) sNext))))
theorem W_if' {α : Type} {c : Bool} {A B : Fn α} {δ : List (Option D)} {bx : Sto} {Q : α → Sto → Prop} {E : Str → D → Sto → Prop} (h : c = true → W (A δ bx) Q E) (k : c = false → W (B δ bx) Q E) : W ((if c = true then A else B) δ bx) Q E := by
  cases c with
  | true => exact h rfl
  | false => exact k rfl
theorem WS_if' {c : Bool} {A B : Sn} {δ : List (Option D)} {bx : Sto} {N : List (Option D) → Sto → Prop} {R : D → Sto → Prop} {E : Str → D → Sto → Prop} (h : c = true → WS (A δ bx) N R E) (k : c = false → WS (B δ bx) N R E) : WS ((if c = true then A else B) δ bx) N R E := by
  cases c with
  | true => exact h rfl
  | false => exact k rfl
theorem box_WS {A B M C M2 C2 B2 M3 : Int} (hA : -(2 ^ 64) < A ∧ A < 2 ^ 64) (hC : -(2 ^ 64) < C ∧ C < 2 ^ 64) (hC2 : -(2 ^ 64) < C2 ∧ C2 < 2 ^ 64) (hB2 : -(2 ^ 64) < B2 ∧ B2 < 2 ^ 64) (hM : 0 < M) (hM2 : 0 < M2) (hM3 : 0 < M3) {ns : List Int} {k : Nat} {st : Sto}
    {Rt : D → Sto → Prop} {N : List (Option D) → Sto → Prop} {E : Str → D → Sto → Prop} (h : ∀ g r : Int, Rt (.ref st.length) (st ++ [.lst [.int g, .int r]])) :
    WS (sBox A B M C M2 C2 B2 M3 [some (.scr ns), some (.int k), none, none] st) N Rt E := by
  have fin : ∀ (cell : Int), WS ((sSeq (sSet 3 (fIfT (fB (f2 (iB fun i j => decide (j ≤ i)) (fVar 2) (f2 cPow (pur (.int 10)) (pur (.int 18))))) (fVar 2) (pur (.int 0)))) (sSeq (sRet (fNew (fCons (fVar 3) (fCons (f2 cPlus (f2 cMod (fA cInt (fCons (f2 cPlus (f2 cMul (f2 cMod (fA cInt (fCons (fVar 2) (pur []))) (pur (.int M2))) (pur (.int C2))) (f2 cMul (pur (.int B2)) (fVar 1))) (pur []))) (pur (.int M3))) (pur (.int 1))) (pur []))))) sNext)) [some (.scr ns), some (.int k), some (.int cell), none] st) N Rt E := fun cell => by
    simp only [WS_seq, WS_set, W_ifT, W_B, W_f2, W_pur, W_var, ev_pow (i := 10) (j := 18) (by decide), ev_iB, ev_toB, Option.some.injEq, exists_eq_left', List.getElem?_cons_zero, List.getElem?_cons_succ, List.set_cons_zero, List.set_cons_succ]
    refine W_if' (fun _ => ?_) (fun _ => ?_) <;>
    · simp only [W_var, W_pur, WS_ret, W_new, W_cons, W_f2, W_fA, ev_int, ev_mod hM2, ev_mod hM3, ev_mulR hC2, ev_mulL hB2, ev_plus, Option.some.injEq, exists_eq_left', List.getElem?_cons_zero, List.getElem?_cons_succ, List.set_cons_zero, List.set_cons_succ, List.length_cons, List.length_nil]
      exact ⟨by decide, h _ _⟩
  unfold sBox
  have v : vs st (.scr ns) = some (ns.map D.int) := vs_scr
  have vl : cLen st [.scr ns] = some (.int ns.length) := by rw [ev_len v, List.length_map]
  simp only [WS_seq (S := sSet 2 _), WS_set, W_f2, W_pur, W_var, ev_mulL hA, ev_plus, Option.some.injEq, exists_eq_left', List.getElem?_cons_zero, List.getElem?_cons_succ, List.set_cons_zero, List.set_cons_succ]
  rw [WS_seq]
  simp only [WS_if, W_B, W_f2, W_fA, W_cons, W_pur, W_var, vl, ev_iB, ev_toB, Option.some.injEq, exists_eq_left', List.getElem?_cons_zero, List.getElem?_cons_succ, List.set_cons_zero, List.set_cons_succ]
  refine WS_if' (fun hk => ?_) (fun hk => ?_)
  · have hk := of_decide_eq_true hk
    have hk' : k < ns.length := by omega
    have e : atI (ns.map D.int) (k : Int) = some (.int ns[k]) := atI_nat (by rw [List.getElem?_map, List.getElem?_eq_getElem hk']; rfl)
    simp only [WS_seq (T := sNext), WS_set, WS_next, W_f2, W_fA, W_cons, W_pur, W_var, ev_ix v, e, ev_int, ev_abs, Option.some.injEq, exists_eq_left', List.getElem?_cons_zero, List.getElem?_cons_succ, List.set_cons_zero, List.set_cons_succ]
    exact fin _
  · rw [WS_seq]
    simp only [WS_if, W_B, W_f2, W_fA, W_cons, W_pur, W_var, vl, ev_iB, ev_toB, Option.some.injEq, exists_eq_left', List.getElem?_cons_zero, List.getElem?_cons_succ, List.set_cons_zero, List.set_cons_succ]
    refine WS_if' (fun hz => ?_) (fun hz => ?_)
    · have hz := of_decide_eq_true hz
      have hz' : 0 < ns.length := by omega
      have hm : k % ns.length < ns.length := Nat.mod_lt _ hz'
      have e : atI (ns.map D.int) ((k : Int) % (ns.length : Int)) = some (.int ns[k % ns.length]) := by
        have e1 : (k : Int) % (ns.length : Int) = ((k % ns.length : Nat) : Int) := by simp
        rw [e1]
        exact atI_nat (by rw [List.getElem?_map, List.getElem?_eq_getElem hm]; rfl)
      simp only [WS_seq (T := sNext), WS_set, WS_next, W_f2, W_fA, W_cons, W_pur, W_var, vl, ev_ix v, ev_mod hz, ev_mod hM, ev_mulR hC, ev_plus, e, ev_int, ev_abs, Option.some.injEq, exists_eq_left', List.getElem?_cons_zero, List.getElem?_cons_succ, List.set_cons_zero, List.set_cons_succ]
      exact fin _
    · simp only [WS_next]
      exact fin _
end Ms

end
section
set_option Elab.async false
set_option linter.all false
set_option maxRecDepth 100000
set_option maxHeartbeats 4000000
namespace Ms
open PySem PySem.Spec PyProof.Rows L2
/-! ### what can be shown, and its text -/
mutual
def plain : PyData → Bool
  | .none | .bool _ | .int _ => true
  | .list xs | .tuple xs => plainAll xs
  | .str _ | .dict _ => false
def plainAll : List PyData → Bool
  | [] => true
  | x :: xs => plain x && plainAll xs
end
theorem ok_of (s : String) : PyData.strOk (Str.ofString s) = true := by
  rw [Str.ofString_eq_toList]
  unfold PyData.strOk
  simp only [List.all_toArray, List.all_map, List.all_eq_true, Function.comp, decide_eq_true_eq]
  intro c _
  have h := c.valid
  simp only [UInt32.isValidChar, Nat.isValidChar] at h
  show c.val.toNat < 1114112
  omega
theorem ok_append {x y : Str} (hx : PyData.strOk x = true) (hy : PyData.strOk y = true) : PyData.strOk (x ++ y) = true := by
  unfold PyData.strOk at hx hy ⊢
  rw [PySem.Str.cps_append, Array.all_append, hx, hy]
  rfl
theorem ok_from : ∀ (ts : List Str) (k : Nat) (acc : Str), PyData.strOk acc = true → (∀ t ∈ ts, PyData.strOk t = true) → PyData.strOk (textFrom k acc ts) = true
  | [], _, _, h, _ => h
  | t :: ts, k, acc, h, ht => by
    unfold textFrom
    exact ok_from ts _ _ (ok_append (ok_append h (ok_of _)) (ht t List.mem_cons_self)) fun x hx => ht x (List.mem_cons_of_mem _ hx)
theorem ok_join (sep : Str) (hs : PyData.strOk sep = true) : ∀ ts : List Str, (∀ t ∈ ts, PyData.strOk t = true) → PyData.strOk (Str.join sep ts) = true
  | [], _ => by simp [Str.join, Str.empty, PyData.strOk]
  | [x], h => h x List.mem_cons_self
  | x :: y :: r, h => ok_append (ok_append (h x List.mem_cons_self) hs) (ok_join sep hs (y :: r) fun z hz => h z (List.mem_cons_of_mem _ hz))
mutual
theorem shown_ok : ∀ d : PyData, plain d = true → PyData.strOk d.shown = true
  | .none, _ => ok_of _
  | .bool b, _ => by cases b <;> exact ok_of _
  | .int i, _ => ok_of _
  | .list xs, h => by
    simp only [PyData.shown, listText]
    exact ok_append (ok_from _ _ _ (ok_of _) (shown_oks xs (by simpa only [plain] using h))) (ok_of _)
  | .tuple xs, h => by
    simp only [PyData.shown, tupleText]
    refine ok_append (ok_append (ok_of _) (ok_join _ (ok_of _) _ (shown_oks xs (by simpa only [plain] using h)))) ?_
    split <;> exact ok_of _
  | .str _, h => by simp only [plain] at h; cases h
  | .dict _, h => by simp only [plain] at h; cases h
theorem shown_oks : ∀ xs : List PyData, plainAll xs = true → ∀ t ∈ PyData.shownAll xs, PyData.strOk t = true
  | [], _, _, h => by simp only [PyData.shownAll] at h; cases h
  | x :: xs, hp, t, h => by
    simp only [plainAll, Bool.and_eq_true] at hp
    simp only [PyData.shownAll, List.mem_cons] at h
    rcases h with rfl | h
    · exact shown_ok x hp.1
    · exact shown_oks xs hp.2 t h
end
/-- small enough to be shown -/
structure Fit (d : D) (a b : Nat) : Prop where
  pu : d.pure = true
  pl : plain d.py = true
  sh : d.py.showable = true
  la : d.py.canLay0 = true
  si : d.py.intsShort 13 = true
  de : d.py.depth ≤ a
  we : d.py.weight ≤ b
structure Fits (l : List D) (a b : Nat) : Prop where
  pu : D.pureAll l = true
  pl : plainAll (D.pyAll l) = true
  sh : PyData.showableAll (D.pyAll l) = true
  la : PyData.canLayAll0 (D.pyAll l) = true
  si : PyData.intsShortAll 13 (D.pyAll l) = true
  de : PyData.depthAll (D.pyAll l) ≤ a
  we : PyData.weightAll (D.pyAll l) ≤ l.length * (b + 1)
theorem Fits.of {a b : Nat} : ∀ {l : List D}, (∀ d ∈ l, Fit d a b) → Fits l a b
  | [], _ => ⟨rfl, by simp [D.pyAll, plainAll], by simp [D.pyAll, PyData.showableAll], by simp [D.pyAll, PyData.canLayAll0], by simp [D.pyAll, PyData.intsShortAll], by simp [D.pyAll, PyData.depthAll], by simp [D.pyAll, PyData.weightAll]⟩
  | d :: r, h => by
    have h1 := h d List.mem_cons_self
    have h2 := Fits.of (l := r) fun x hx => h x (List.mem_cons_of_mem _ hx)
    refine ⟨?_, ?_, ?_, ?_, ?_, ?_, ?_⟩
    · simp [D.pureAll, h1.pu, h2.pu]
    · simp [D.pyAll, plainAll, h1.pl, h2.pl]
    · simp [D.pyAll, PyData.showableAll, h1.sh, h2.sh]
    · simp [D.pyAll, PyData.canLayAll0, h1.la, h2.la]
    · simp [D.pyAll, PyData.intsShortAll, h1.si, h2.si]
    · simp only [D.pyAll, PyData.depthAll]
      exact Nat.max_le.mpr ⟨h1.de, h2.de⟩
    · have e1 := h1.we
      have e2 := h2.we
      simp only [D.pyAll, PyData.weightAll, List.length_cons, Nat.succ_mul]
      omega
theorem Fit.lst {l : List D} {a b : Nat} (h : ∀ d ∈ l, Fit d a b) : Fit (.lst l) (a + 1) (l.length * (b + 1)) := by
  have f := Fits.of h
  exact ⟨f.pu, by simp only [D.py, plain]; exact f.pl, by simp only [D.py, PyData.showable]; exact f.sh, by simp only [D.py, PyData.canLay0]; exact f.la, by simp only [D.py, PyData.intsShort]; exact f.si, by simp only [D.py, PyData.depth]; have := f.de; omega, by simp only [D.py, PyData.weight]; exact f.we⟩
theorem Fit.tup {l : List D} {a b : Nat} (h : ∀ d ∈ l, Fit d a b) : Fit (.tup l) (a + 1) (l.length * (b + 1)) := by
  have f := Fits.of h
  exact ⟨f.pu, by simp only [D.py, plain]; exact f.pl, by simp only [D.py, PyData.showable]; exact f.sh, by simp only [D.py, PyData.canLay0]; exact f.la, by simp only [D.py, PyData.intsShort]; exact f.si, by simp only [D.py, PyData.depth]; have := f.de; omega, by simp only [D.py, PyData.weight]; exact f.we⟩
theorem Fit.int {i : Int} (h : -1000000000 ≤ i ∧ i ≤ 1000000000) : Fit (.int i) 0 31 := by
  have n : i.natAbs ≤ 1000000000 := by omega
  have l : i.natAbs.log2 < 30 := by
    by_cases z : i.natAbs = 0
    · rw [z]; decide
    · exact (Nat.log2_lt z).mpr (by omega)
  refine ⟨rfl, rfl, ?_, rfl, ?_, Nat.le_refl _, ?_⟩
  · simp only [D.py, PyData.showable, decide_eq_true_eq]; omega
  · simp only [D.py, PyData.intsShort, decide_eq_true_eq]; exact PyData.shown_int_le (by omega)
  · simp only [D.py, PyData.weight]; split <;> omega
theorem Fit.bl (c : Bool) : Fit (.bl c) 0 31 := ⟨rfl, rfl, rfl, rfl, rfl, Nat.le_refl _, by simp [D.py, PyData.weight]⟩
theorem Fit.non : Fit .non 0 31 := ⟨rfl, rfl, rfl, rfl, rfl, Nat.le_refl _, by simp [D.py, PyData.weight]⟩
/-- it can be shown -/
structure Sh (d : D) : Prop where
  ok : showOk d = true
  st : PyData.strOk d.py.shown = true
theorem Fit.ok {d : D} {a b : Nat} (h : Fit d a b) (ha : a ≤ 60) (hb : b ≤ 1048576) : Sh d := by
  have de := h.de
  have we := h.we
  have l : PyData.layable0 d.py = true := by
    unfold PyData.layable0
    simp only [Bool.and_eq_true, decide_eq_true_eq]
    refine ⟨⟨h.la, by omega⟩, by omega⟩
  have f := PyData.shown_fits_of_layable0 (B := 13) (by decide) (by decide) l h.si
  have k : showOk d = true := by
    unfold showOk
    simp only [Bool.and_eq_true, decide_eq_true_eq]
    exact ⟨⟨⟨h.pu, h.sh⟩, by omega⟩, f⟩
  exact ⟨k, shown_ok _ h.pl⟩
theorem dr_pure {st : Sto} {d : D} (h : d.pure = true) : dr st d = d := by
  cases d <;> first | rfl | cases h
theorem Sh.repr {d : D} {bx : Sto} (h : Sh d) : cRepr bx [d] = some (.str d.py.shown) := by
  have k := h.ok
  have p : d.pure = true := by
    unfold showOk at k
    simp only [Bool.and_eq_true] at k
    exact k.1.1.1
  unfold cRepr
  dsimp only
  rw [dr_pure p]
  unfold showOk at k
  rw [if_pos k]
theorem Sh.non : Sh .non := Fit.non.ok (by decide) (by decide)
theorem Sh.bl (b : Bool) : Sh (.bl b) := (Fit.bl b).ok (by decide) (by decide)
theorem Sh.int {i : Int} (h : -1000000000 ≤ i ∧ i ≤ 1000000000) : Sh (.int i) := (Fit.int h).ok (by decide) (by decide)
theorem ev_eqS {x : Str} {bx : Sto} (hx : PyData.strOk x = true) : cEqD bx (.str x) (.str x) = some (.bl true) := by
  simp [cEqD, eqOk, dr, D.pure, D.py, SeqAt.shaped, PyData.canLay0, PyData.depth, PyData.eqv, hx]
theorem ev_neS {x : Str} {bx : Sto} (hx : PyData.strOk x = true) : cNeD bx (.str x) (.str x) = some (.bl false) := by
  simp [cNeD, eqOk, dr, D.pure, D.py, SeqAt.shaped, PyData.canLay0, PyData.depth, PyData.eqv, hx]
theorem ev_said {x y : Str} {bx : Sto} (hx : PyData.strOk x = true) (hy : PyData.strOk y = true) : cEqD bx (.tup [.str y, .str x, .bl true]) (.tup [.str y, .str x, .bl true]) = some (.bl true) := by
  simp [cEqD, eqOk, dr, D.pure, D.pureAll, D.py, D.pyAll, SeqAt.shaped, PyData.canLay0, PyData.canLayAll0, PyData.depth, PyData.depthAll, PyData.eqv, PyData.eqvAll, hx, hy]
theorem ev_neSaid {x y : Str} {bx : Sto} (hx : PyData.strOk x = true) (hy : PyData.strOk y = true) : cNeD bx (.tup [.str y, .str x, .bl true]) (.tup [.str y, .str x, .bl true]) = some (.bl false) := by
  simp [cNeD, eqOk, dr, D.pure, D.pureAll, D.py, D.pyAll, SeqAt.shaped, PyData.canLay0, PyData.canLayAll0, PyData.depth, PyData.depthAll, PyData.eqv, PyData.eqvAll, hx, hy]
/-- what is asked for, and refused -/
theorem W_check {F : Fn D} {δ : List (Option D)} {bx : Sto} {i : Nat} {d : D} {Q : Bool → Sto → Prop} {E : Str → D → Sto → Prop} (h : F δ bx = .err "Refused" d bx) (f : Sh d) (hi : δ[i]? = some (some d)) (q : Q false bx) :
    W (fB (f2 cNeD (fHeard F) (fA cTup (fCons (pur (.str "refused")) (fCons (fA cRepr (fCons (fVar i) (pur []))) (fCons (pur (.bl true)) (pur [])))))) δ bx) Q E := by
  rw [W_B, W_f2, W_heard, h]
  refine ⟨rfl, f.ok, ?_⟩
  simp only [W_fA, W_cons, W_pur, W_var, hi, f.repr, Option.some.injEq, exists_eq_left']
  refine ⟨_, ev_tup (by show 3 ≤ 1000; decide), _, ev_neSaid f.st (ok_of "refused"), _, rfl, q⟩
end Ms

end
section
set_option Elab.async false
set_option linter.all false
set_option maxRecDepth 100000
set_option maxHeartbeats 4000000
/-! Lists that are shown alike are alike, where their items are of a few kinds. -/
namespace Ms
open PySem PySem.Spec PyProof.Rows L2
abbrev cds (x : Str) : List Nat := x.cps.toList
def jn : List (List Nat) → List Nat
  | [] => []
  | t :: r => 44 :: 32 :: (t ++ jn r)
theorem cds_append (x y : Str) : cds (x ++ y) = cds x ++ cds y := by
  unfold cds
  rw [PySem.Str.cps_append, Array.toList_append]
theorem from_cds : ∀ (ts : List Str) (k : Nat) (acc : Str), 0 < k → cds (textFrom k acc ts) = cds acc ++ jn (ts.map cds)
  | [], _, _, _ => by simp [textFrom, jn]
  | t :: ts, k, acc, hk => by
    unfold textFrom
    rw [from_cds ts (k + 1) _ (Nat.succ_pos k), cds_append, cds_append, if_pos hk]
    have e : cds ((", " : String) : Str) = [44, 32] := by decide +kernel
    rw [e]
    simp [jn]
def body : List (List Nat) → List Nat
  | [] => []
  | t :: r => t ++ jn r
theorem list_cds (ts : List Str) : cds (listText ts) = 91 :: (body (ts.map cds) ++ [93]) := by
  unfold listText
  rw [cds_append]
  have e1 : cds (("]" : String) : Str) = [93] := by decide +kernel
  have e2 : cds (("[" : String) : Str) = [91] := by decide +kernel
  rw [e1]
  cases ts with
  | nil =>
    show cds (("[" : String) : Str) ++ [93] = _
    rw [e2]
    rfl
  | cons t r =>
    show cds (textFrom 1 (("[" : String) ++ (if 0 > 0 then ", " else "" : String) ++ t) r) ++ [93] = _
    rw [from_cds r 1 _ Nat.one_pos, cds_append, cds_append, e2]
    have e3 : cds (((if 0 > 0 then ", " else "" : String) : Str)) = [] := by decide +kernel
    rw [e3]
    simp [body]
/-- no sign that parts -/
def free (t : List Nat) : Prop := ∀ c ∈ t, c ≠ 44 ∧ c ≠ 93
theorem part_eq : ∀ {t u x y : List Nat} {p q : Nat}, free t → free u → (p = 44 ∨ p = 93) → (q = 44 ∨ q = 93) → t ++ p :: x = u ++ q :: y → t = u ∧ p :: x = q :: y
  | [], [], _, _, _, _, _, _, _, _, h => ⟨rfl, h⟩
  | [], b :: u, _, _, p, _, _, fu, hp, _, h => by
    have e : p = b := (List.cons.inj h).1
    have := fu b List.mem_cons_self
    omega
  | a :: t, [], _, _, _, q, ft, _, _, hq, h => by
    have e : a = q := (List.cons.inj h).1
    have := ft a List.mem_cons_self
    omega
  | a :: t, b :: u, _, _, _, _, ft, fu, hp, hq, h => by
    obtain ⟨e1, e2⟩ := List.cons.inj h
    obtain ⟨r1, r2⟩ := part_eq (fun c hc => ft c (List.mem_cons_of_mem _ hc)) (fun c hc => fu c (List.mem_cons_of_mem _ hc)) hp hq e2
    exact ⟨by rw [e1, r1], r2⟩
theorem jn_head (r : List (List Nat)) : ∃ p x, jn r ++ [93] = p :: x ∧ (p = 44 ∨ p = 93) := by
  cases r with
  | nil => exact ⟨93, [], rfl, .inr rfl⟩
  | cons t r => exact ⟨44, _, rfl, .inl rfl⟩
theorem jn_inj : ∀ {r s : List (List Nat)}, (∀ t ∈ r, free t) → (∀ t ∈ s, free t) → jn r ++ [93] = jn s ++ [93] → r = s
  | [], [], _, _, _ => rfl
  | [], _ :: _, _, _, h => by simp [jn] at h
  | _ :: _, [], _, _, h => by simp [jn] at h
  | t :: r, u :: s, hr, hs, h => by
    have h' : t ++ (jn r ++ [93]) = u ++ (jn s ++ [93]) := by
      simp only [jn, List.cons_append, List.append_assoc] at h
      exact (List.cons.inj (List.cons.inj h).2).2
    obtain ⟨p, x, e1, hp⟩ := jn_head r
    obtain ⟨q, y, e2, hq⟩ := jn_head s
    rw [e1, e2] at h'
    obtain ⟨a, b⟩ := part_eq (hr t List.mem_cons_self) (hs u List.mem_cons_self) hp hq h'
    rw [← e1, ← e2] at b
    rw [a, jn_inj (fun t ht => hr t (List.mem_cons_of_mem _ ht)) (fun t ht => hs t (List.mem_cons_of_mem _ ht)) b]
theorem list_inj {ts us : List Str} (ht : ∀ t ∈ ts, free (cds t)) (hu : ∀ t ∈ us, free (cds t)) (h0 : ts ≠ []) (h1 : us ≠ []) (h : listText ts = listText us) : ts = us := by
  have e := congrArg cds h
  rw [list_cds, list_cds] at e
  have e2 := (List.cons.inj e).2
  have key : ts.map cds = us.map cds := by
    match ts, us, h0, h1, ht, hu, e2 with
    | t :: r, u :: s, _, _, ht, hu, e2 =>
      simp only [List.map_cons, body, List.append_assoc] at e2
      obtain ⟨p, x, g1, hp⟩ := jn_head (r.map cds)
      obtain ⟨q, y, g2, hq⟩ := jn_head (s.map cds)
      rw [g1, g2] at e2
      obtain ⟨a, b⟩ := part_eq (ht t List.mem_cons_self) (hu u List.mem_cons_self) hp hq e2
      rw [← g1, ← g2] at b
      have := jn_inj (fun z hz => by obtain ⟨w, hw, rfl⟩ := List.mem_map.mp hz; exact ht w (List.mem_cons_of_mem _ hw)) (fun z hz => by obtain ⟨w, hw, rfl⟩ := List.mem_map.mp hz; exact hu w (List.mem_cons_of_mem _ hw)) b
      rw [List.map_cons, List.map_cons, a, this]
  have inj : ∀ {a b : List Str}, a.map cds = b.map cds → a = b := by
    intro a
    induction a with
    | nil => intro b h; cases b with
      | nil => rfl
      | cons _ _ => cases h
    | cons x r ih => intro b h; cases b with
      | nil => cases h
      | cons y s =>
        obtain ⟨e1, e2⟩ := List.cons.inj h
        rw [ih e2]
        congr 1
        exact str_eq_of_lists e1
  exact inj key
/-- what is shown, item by item -/
theorem pyAll_shown (l : List D) : PyData.shownAll (D.pyAll l) = l.map fun d => d.py.shown := by
  induction l with
  | nil => rfl
  | cons d r ih => simp only [D.pyAll, PyData.shownAll, List.map_cons, ih]
/-- items of some kinds, told apart by what is shown -/
structure Kinds (M : D → Prop) : Prop where
  fr : ∀ d, M d → free (cds d.py.shown)
  inj : ∀ d e, M d → M e → d.py.shown = e.py.shown → d = e
theorem Kinds.lst {M : D → Prop} (k : Kinds M) {l m : List D} (hl : ∀ d ∈ l, M d) (hm : ∀ d ∈ m, M d) (h0 : l ≠ []) (h1 : m ≠ []) (h : (D.lst l).py.shown = (D.lst m).py.shown) : l = m := by
  simp only [D.py, PyData.shown, pyAll_shown] at h
  have e := list_inj (fun t ht => by obtain ⟨d, hd, rfl⟩ := List.mem_map.mp ht; exact k.fr d (hl d hd)) (fun t ht => by obtain ⟨d, hd, rfl⟩ := List.mem_map.mp ht; exact k.fr d (hm d hd)) (by simpa using h0) (by simpa using h1) h
  clear h h0 h1
  induction l generalizing m with
  | nil => cases m with
    | nil => rfl
    | cons _ _ => cases e
  | cons x r ih => cases m with
    | nil => cases e
    | cons y s =>
      obtain ⟨e1, e2⟩ := List.cons.inj e
      rw [k.inj x y (hl x List.mem_cons_self) (hm y List.mem_cons_self) e1, ih (fun d hd => hl d (List.mem_cons_of_mem _ hd)) (fun d hd => hm d (List.mem_cons_of_mem _ hd)) e2]
end Ms

end
section
set_option Elab.async false
set_option linter.all false
set_option maxRecDepth 100000
set_option maxHeartbeats 4000000
/-! What many laws want of the mathematics over mirrors. -/
namespace Ms
open PySem PySem.Spec PyProof.Rows L2
theorem W.eq {α : Type} {r : Res α} {x : α} {bx : Sto} (h : W r (fun a b => a = x ∧ b = bx) NoE) : r = .ok x bx := by
  cases r with
  | ok a b => obtain ⟨rfl, rfl⟩ := h; rfl
  | err _ _ _ => exact h.elim
  | bad => exact h.elim
theorem W.eqE {r : Res D} {c : Str} {x : D} {bx : Sto} (h : W r (fun _ _ => False) (fun c' d b => c' = c ∧ d = x ∧ b = bx)) : r = .err c x bx := by
  cases r with
  | ok a b => exact h.elim
  | err _ _ _ => obtain ⟨rfl, rfl, rfl⟩ := h; rfl
  | bad => exact h.elim
theorem eNat (a b : Nat) : ((a : Int) == (b : Int)) = (a == b) := by
  rw [Bool.eq_iff_iff, beq_iff_eq, beq_iff_eq]
  exact ⟨fun h => by omega, fun h => by omega⟩
theorem pure_cl {d : D} (h : d.pure = true) : d.cl = true := by cases d <;> first | rfl | cases h
theorem pureAll_mem {d : D} : ∀ {l : List D}, D.pureAll l = true → d ∈ l → d.pure = true
  | x :: r, h, hd => by
    have h' := Bool.and_eq_true_iff.mp (show (x.pure && D.pureAll r) = true from h)
    rcases List.mem_cons.mp hd with rfl | hd
    · exact h'.1
    · exact pureAll_mem h'.2 hd
structure Sm (d : D) : Prop where
  pu : d.pure = true
  la : d.py.canLay0 = true
  de : d.py.depth ≤ 2
theorem sm_all : ∀ {l : List D}, (∀ d ∈ l, Sm d) → D.pureAll l = true ∧ PyData.canLayAll0 (D.pyAll l) = true ∧ PyData.depthAll (D.pyAll l) ≤ 2
  | [], _ => ⟨rfl, by simp [D.pyAll, PyData.canLayAll0], by simp [D.pyAll, PyData.depthAll]⟩
  | d :: r, h => by
    have h1 := h d List.mem_cons_self
    obtain ⟨a, b, c⟩ := sm_all (l := r) fun x hx => h x (List.mem_cons_of_mem _ hx)
    refine ⟨by simp [D.pureAll, h1.pu, a], by simp [D.pyAll, PyData.canLayAll0, h1.la, b], ?_⟩
    simp only [D.pyAll, PyData.depthAll]
    exact Nat.max_le.mpr ⟨h1.de, c⟩
theorem eq_nil {l : List D} {bx : Sto} (h : ∀ d ∈ l, Sm d) : cEqD bx (.lst l) (.lst []) = some (.bl l.isEmpty) := by
  obtain ⟨a, b, c⟩ := sm_all h
  have sh : SeqAt.shaped (D.lst l).py = true := by
    unfold SeqAt.shaped
    simp only [D.py, PyData.canLay0, PyData.depth, b, Bool.true_and, decide_eq_true_eq]
    omega
  have ok : eqOk (.lst l) (.lst []) = true := by
    unfold eqOk
    rw [sh]
    simp [D.pure, a, D.pureAll, D.py, D.pyAll, SeqAt.shaped, PyData.canLay0, PyData.canLayAll0, PyData.depth, PyData.depthAll]
  have e : PyData.eqv (D.lst l).py (D.lst []).py = l.isEmpty := by
    cases l with
    | nil => simp [D.py, D.pyAll, PyData.eqv, PyData.eqvAll]
    | cons x r => simp [D.py, D.pyAll, PyData.eqv, PyData.eqvAll]
  show (if eqOk (.lst l) (.lst []) = true then some (D.bl (PyData.eqv (D.lst l).py (D.lst []).py)) else none) = _
  rw [if_pos ok, e]
theorem ne_nil {l : List D} {bx : Sto} (h : ∀ d ∈ l, Sm d) : cNeD bx (.lst l) (.lst []) = some (.bl (!l.isEmpty)) := by
  have e := eq_nil (bx := bx) h
  have z : (if eqOk (.lst l) (.lst []) = true then some (D.bl (PyData.eqv (D.lst l).py (D.lst []).py)) else none) = some (D.bl l.isEmpty) := e
  show (if eqOk (.lst l) (.lst []) = true then some (D.bl (!PyData.eqv (D.lst l).py (D.lst []).py)) else none) = _
  by_cases q : eqOk (.lst l) (.lst []) = true
  · rw [if_pos q] at z ⊢
    have := D.bl.inj (Option.some.inj z)
    rw [this]
  · rw [if_neg q] at z
    cases z
theorem Sm.int {i : Int} : Sm (.int i) := ⟨rfl, rfl, Nat.zero_le _⟩
theorem Sm.bl {b : Bool} : Sm (.bl b) := ⟨rfl, rfl, Nat.zero_le _⟩
theorem Sm.non : Sm .non := ⟨rfl, rfl, Nat.zero_le _⟩
theorem filt_nil {l : List D} {c : D → Bool} : (l.filter c).isEmpty = l.all fun d => !c d := by
  rw [Bool.eq_iff_iff, List.isEmpty_iff, List.filter_eq_nil_iff, List.all_eq_true]
  exact ⟨fun h d hd => by simpa using h d hd, fun h d hd => by simpa using h d hd⟩
abbrev Bx (b : Nat) (st : Sto) : Prop := ∃ g r : Int, st[b]? = some (.lst [.int g, .int r])
theorem ext_set {b c : Nat} {st bx : Sto} {x : Cell} (h : Ext b st bx) (hc : st.length ≤ c) (hb : b < st.length) : Ext b st (bx.set c x) := by
  refine ⟨by rw [List.length_set]; exact h.ln, ?_, fun k q1 q2 => ?_⟩
  · obtain ⟨g, r, e⟩ := h.bx
    exact ⟨g, r, by rw [List.getElem?_set_ne (by omega)]; exact e⟩
  · rw [List.getElem?_set_ne (by omega)]
    exact h.sm k q1 q2
theorem pureAll_of : ∀ {l : List D}, (∀ d ∈ l, d.pure = true) → D.pureAll l = true
  | [], _ => rfl
  | d :: r, h => by
    show (d.pure && D.pureAll r) = true
    rw [h d List.mem_cons_self, pureAll_of fun x hx => h x (List.mem_cons_of_mem _ hx)]
    rfl
theorem ne_nilT {l : List D} {bx : Sto} (h : ∀ d ∈ l, Sm d) : cNeD bx (.tup l) (.tup []) = some (.bl (!l.isEmpty)) := by
  obtain ⟨a, b, c⟩ := sm_all h
  have sh : SeqAt.shaped (D.tup l).py = true := by
    unfold SeqAt.shaped
    simp only [D.py, PyData.canLay0, PyData.depth, b, Bool.true_and, decide_eq_true_eq]
    omega
  have ok : eqOk (.tup l) (.tup []) = true := by
    unfold eqOk
    rw [sh]
    simp [D.pure, a, D.pureAll, D.py, D.pyAll, SeqAt.shaped, PyData.canLay0, PyData.canLayAll0, PyData.depth, PyData.depthAll]
  have e : PyData.eqv (D.tup l).py (D.tup []).py = l.isEmpty := by
    cases l with
    | nil => simp [D.py, D.pyAll, PyData.eqv, PyData.eqvAll]
    | cons x r => simp [D.py, D.pyAll, PyData.eqv, PyData.eqvAll]
  show (if eqOk (.tup l) (.tup []) = true then some (D.bl (!PyData.eqv (D.tup l).py (D.tup []).py)) else none) = _
  rw [if_pos ok, e]
theorem ne_nilR {l : List D} {bx : Sto} {c : Nat} (hc : bx[c]? = some (.lst l)) (h : ∀ d ∈ l, Sm d) : cNeD bx (.ref c) (.lst []) = some (.bl (!l.isEmpty)) := by
  have e : cNeD bx (.ref c) (.lst []) = cNeD bx (.lst l) (.lst []) := by
    unfold cNeD
    simp only [dr, hc]
    rfl
  rw [e]
  exact ne_nil h
/-- kept shut while it is applied -/
structure Th (p : Prop) : Prop where
  h : p
theorem atI_last {l : List D} (h : l ≠ []) : ∃ d, d ∈ l ∧ atI l (-1) = some d := by
  have hp : 0 < l.length := List.length_pos_iff.mpr h
  have hi : l.length - 1 < l.length := by omega
  refine ⟨l[l.length - 1], List.getElem_mem hi, ?_⟩
  unfold atI ixN
  rw [if_neg (by decide), if_pos (by omega)]
  have e : (-1 + (l.length : Int)).toNat = l.length - 1 := by omega
  rw [e]
  exact List.getElem?_eq_getElem hi
theorem W_tru {F : Fn D} {δ : List (Option D)} {bx : Sto} {Q : Bool → Sto → Prop} {E : Str → D → Sto → Prop} : W (fTru F δ bx) Q E ↔ W (F δ bx) (fun d bx' => ∃ b, cTru bx' d = some b ∧ Q b bx') E := by
  unfold fTru
  rw [W_bnd]
  exact iff_of_eq (congrArg (fun k => W (F δ bx) k E) (funext fun d => funext fun bx' => propext W_lft))
theorem ev_truB {b : Bool} {bx : Sto} : cTru bx (.bl b) = some b := rfl
theorem W_lam {n : Nat} {δ : List (Option D)} {bx : Sto} {Q : D → Sto → Prop} {E : Str → D → Sto → Prop} : W (fLam n δ bx) Q E ↔ Q (.ref bx.length) (bx ++ [.lam n]) := Iff.rfl
theorem W_hideR {r : Res D} {Q : D → Sto → Prop} (h : W r (fun d st => Q d (hide st)) NoE) : W (hideR r) Q NoE := by
  cases r with
  | ok d st => exact h
  | err c d st => exact h.elim
  | bad => exact h.elim
theorem hide_bx {b : Nat} {st : Sto} (h : Bx b st) : Bx b (hide st) := by
  obtain ⟨g, r, e⟩ := h
  exact ⟨g, r, by unfold hide; rw [List.getElem?_map, e]; rfl⟩
theorem heardG_ref {F : Fn D} {δ : List (Option D)} {bx : Sto} {d : D} (h : F δ bx = .err "Refused" d bx) (f : Sh d) : fHeardG hResR F δ bx = .ok (.tup [.str "refused", .str d.py.shown, .bl true]) bx := by
  unfold fHeardG
  rw [h]
  unfold hResR
  dsimp only
  rw [if_pos rfl, if_pos f.ok]
theorem heardVB_ref {is : List Nat} {F : Fn D} {B : Nat → Fn D} {δ : List (Option D)} {bx : Sto} {d : D} {k n : Nat} (hF : F δ bx = .ok (.ref k) bx) (hk : bx[k]? = some (.lam n)) (h : B n (unset is δ) bx = .err "Refused" d bx) (f : Sh d) : fHeardVB hResR is F B δ bx = .ok (.tup [.str "refused", .str d.py.shown, .bl true]) bx := by
  unfold fHeardVB bnd
  rw [hF]
  dsimp only
  rw [hk]
  dsimp only
  rw [h]
  unfold hResR
  dsimp only
  rw [if_pos rfl, if_pos f.ok]
theorem sh_by {d : D} (h : showOk d = true) (k : PyData.strOk d.py.shown = true) : Sh d := ⟨h, k⟩
theorem said_ne {x : Str} {bx : Sto} (h : PyData.strOk x = true) : cNeD bx (.tup [.str "refused", .str x, .bl true]) (.tup [.str "refused", .str x, .bl true]) = some (.bl false) := ev_neSaid h (ok_of "refused")
theorem said_eq {x : Str} {bx : Sto} (h : PyData.strOk x = true) : cEqD bx (.tup [.str "refused", .str x, .bl true]) (.tup [.str "refused", .str x, .bl true]) = some (.bl true) := ev_said h (ok_of "refused")
theorem at_end {bx : Sto} {x : Cell} {k : Nat} (h : k = bx.length) : (bx ++ [x])[k]? = some x := by
  rw [h, List.getElem?_append_right (Nat.le_refl _), Nat.sub_self]
  rfl
theorem at_old {bx : Sto} {x y : Cell} {k : Nat} (h : bx[k]? = some y) : (bx ++ [x])[k]? = some y := by
  rw [List.getElem?_append_left (List.getElem?_eq_some_iff.mp h).1]
  exact h
theorem at_ne {bx : Sto} {x y : Cell} {k j : Nat} (h : bx[k]? = some y) (n : j ≠ k) : (bx.set j x)[k]? = some y := by
  rw [List.getElem?_set_ne n]
  exact h
theorem Fit.mono {d : D} {a b a' b' : Nat} (h : Fit d a b) (ha : a ≤ a') (hb : b ≤ b') : Fit d a' b' := ⟨h.pu, h.pl, h.sh, h.la, h.si, Nat.le_trans h.de ha, Nat.le_trans h.we hb⟩
theorem sh_two {p : Bool} : Sh (.lst [.bl p, .bl p]) := (Fit.lst (a := 0) (b := 31) (by
  simp only [List.mem_cons, List.not_mem_nil, or_false, forall_eq_or_imp, forall_eq]
  exact ⟨Fit.bl _, Fit.bl _⟩)).ok (by decide) (by show 2 * 32 ≤ 1048576; decide)
end Ms

end
section
set_option Elab.async false
set_option linter.all false
set_option maxRecDepth 100000
set_option maxHeartbeats 4000000
/-! What can be shown, texts within. -/
namespace Ms
open PySem PySem.Spec PyProof.Rows L2
structure Fw (d : D) (a b : Nat) : Prop where
  pu : d.pure = true
  st : PyData.strOk d.py.shown = true
  sh : d.py.showable = true
  la : d.py.canLay0 = true
  si : d.py.intsShort 13 = true
  de : d.py.depth ≤ a
  we : d.py.weight ≤ b
structure Fws (l : List D) (a b : Nat) : Prop where
  pu : D.pureAll l = true
  st : ∀ t ∈ PyData.shownAll (D.pyAll l), PyData.strOk t = true
  sh : PyData.showableAll (D.pyAll l) = true
  la : PyData.canLayAll0 (D.pyAll l) = true
  si : PyData.intsShortAll 13 (D.pyAll l) = true
  de : PyData.depthAll (D.pyAll l) ≤ a
  we : PyData.weightAll (D.pyAll l) ≤ l.length * (b + 1)
theorem Fws.of {a b : Nat} : ∀ {l : List D}, (∀ d ∈ l, Fw d a b) → Fws l a b
  | [], _ => ⟨rfl, by simp [D.pyAll, PyData.shownAll], by simp [D.pyAll, PyData.showableAll], by simp [D.pyAll, PyData.canLayAll0], by simp [D.pyAll, PyData.intsShortAll], by simp [D.pyAll, PyData.depthAll], by simp [D.pyAll, PyData.weightAll]⟩
  | d :: r, h => by
    have h1 := h d List.mem_cons_self
    have h2 := Fws.of (l := r) fun x hx => h x (List.mem_cons_of_mem _ hx)
    refine ⟨?_, ?_, ?_, ?_, ?_, ?_, ?_⟩
    · simp [D.pureAll, h1.pu, h2.pu]
    · intro t ht
      simp only [D.pyAll, PyData.shownAll, List.mem_cons] at ht
      rcases ht with rfl | ht
      · exact h1.st
      · exact h2.st t ht
    · simp [D.pyAll, PyData.showableAll, h1.sh, h2.sh]
    · simp [D.pyAll, PyData.canLayAll0, h1.la, h2.la]
    · simp [D.pyAll, PyData.intsShortAll, h1.si, h2.si]
    · simp only [D.pyAll, PyData.depthAll]
      exact Nat.max_le.mpr ⟨h1.de, h2.de⟩
    · have e1 := h1.we
      have e2 := h2.we
      simp only [D.pyAll, PyData.weightAll, List.length_cons, Nat.succ_mul]
      omega
theorem Fw.lst {l : List D} {a b : Nat} (h : ∀ d ∈ l, Fw d a b) : Fw (.lst l) (a + 1) (l.length * (b + 1)) := by
  have f := Fws.of h
  refine ⟨f.pu, ?_, by simp only [D.py, PyData.showable]; exact f.sh, by simp only [D.py, PyData.canLay0]; exact f.la, by simp only [D.py, PyData.intsShort]; exact f.si, by simp only [D.py, PyData.depth]; have := f.de; omega, by simp only [D.py, PyData.weight]; exact f.we⟩
  simp only [D.py, PyData.shown, listText]
  exact ok_append (ok_from _ _ _ (ok_of _) f.st) (ok_of _)
theorem Fw.tup {l : List D} {a b : Nat} (h : ∀ d ∈ l, Fw d a b) : Fw (.tup l) (a + 1) (l.length * (b + 1)) := by
  have f := Fws.of h
  refine ⟨f.pu, ?_, by simp only [D.py, PyData.showable]; exact f.sh, by simp only [D.py, PyData.canLay0]; exact f.la, by simp only [D.py, PyData.intsShort]; exact f.si, by simp only [D.py, PyData.depth]; have := f.de; omega, by simp only [D.py, PyData.weight]; exact f.we⟩
  simp only [D.py, PyData.shown, tupleText]
  refine ok_append (ok_append (ok_of _) (ok_join _ (ok_of _) _ f.st)) ?_
  split <;> exact ok_of _
theorem Fw.ok {d : D} {a b : Nat} (h : Fw d a b) (ha : a ≤ 60) (hb : b ≤ 1048576) : Sh d := by
  have de := h.de
  have we := h.we
  have l : PyData.layable0 d.py = true := by
    unfold PyData.layable0
    simp only [Bool.and_eq_true, decide_eq_true_eq]
    refine ⟨⟨h.la, by omega⟩, by omega⟩
  have f := PyData.shown_fits_of_layable0 (B := 13) (by decide) (by decide) l h.si
  have k : showOk d = true := by
    unfold showOk
    simp only [Bool.and_eq_true, decide_eq_true_eq]
    exact ⟨⟨⟨h.pu, h.sh⟩, by omega⟩, f⟩
  exact ⟨k, h.st⟩
theorem Fit.fw {d : D} {a b : Nat} (h : Fit d a b) : Fw d a b := ⟨h.pu, shown_ok _ h.pl, h.sh, h.la, h.si, h.de, h.we⟩
theorem Fw.mono {d : D} {a b a' b' : Nat} (h : Fw d a b) (ha : a ≤ a') (hb : b ≤ b') : Fw d a' b' := ⟨h.pu, h.st, h.sh, h.la, h.si, Nat.le_trans h.de ha, Nat.le_trans h.we hb⟩
/-- one text, by looking -/
def fwB (d : D) (b : Nat) : Bool := d.pure && PyData.strOk d.py.shown && d.py.showable && d.py.canLay0 && d.py.intsShort 13 && decide (d.py.depth ≤ 0) && decide (d.py.weight ≤ b)
theorem Fw.by {d : D} {b : Nat} (h : fwB d b = true) : Fw d 0 b := by
  unfold fwB at h
  simp only [Bool.and_eq_true, decide_eq_true_eq] at h
  exact ⟨h.1.1.1.1.1.1, h.1.1.1.1.1.2, h.1.1.1.1.2, h.1.1.1.2, h.1.1.2, h.1.2, h.2⟩
theorem ev_neSaid2 {x : Str} {bx : Sto} (hx : PyData.strOk x = true) : cNeD bx (.tup [.str x, .bl true]) (.tup [.str x, .bl true]) = some (.bl false) := by
  simp [cNeD, eqOk, dr, D.pure, D.pureAll, D.py, D.pyAll, SeqAt.shaped, PyData.canLay0, PyData.canLayAll0, PyData.depth, PyData.depthAll, PyData.eqv, PyData.eqvAll, hx]
theorem heardVB_refN {is : List Nat} {F : Fn D} {B : Nat → Fn D} {δ : List (Option D)} {bx bx' : Sto} {d : D} {k n : Nat} (hF : F δ bx = .ok (.ref k) bx) (hk : bx[k]? = some (.lam n)) (h : B n (unset is δ) bx = .err "Refused" d bx') (f : Sh d) : fHeardVB hResN is F B δ bx = .ok (.tup [.str d.py.shown, .bl true]) bx' := by
  unfold fHeardVB bnd
  rw [hF]
  dsimp only
  rw [hk]
  dsimp only
  rw [h]
  unfold hResN
  dsimp only
  rw [if_pos rfl, if_pos f.ok]
end Ms

end
section
set_option Elab.async false
set_option linter.all false
set_option maxRecDepth 100000
set_option maxHeartbeats 4000000
/-! A list of the frame's lambdas. -/
namespace Ms
open PySem PySem.Spec PyProof.Rows L2
structure Asks (N : Nat → Prop) (c : Nat) (s : Sto) (l : List D) : Prop where
  at_ : s[c]? = some (.lst l)
  all : ∀ d ∈ l, ∃ k n, d = .ref k ∧ k ≠ c ∧ s[k]? = some (.lam n) ∧ N n
theorem asks_new {N : Nat → Prop} {n : Nat} {δ : List (Option D)} {s : Sto} {Q : D → Sto → Prop} {E : Str → D → Sto → Prop} (hn : N n) (k : Asks N (s.length + 1) (s ++ [.lam n] ++ [.lst [.ref s.length]]) [.ref s.length] → Q (.ref (s.length + 1)) (s ++ [.lam n] ++ [.lst [.ref s.length]])) : W (fNew (fCons (fLam n) (pur [])) δ s) Q E := by
  simp only [W_new, W_cons, W_lam, W_pur]
  refine ⟨by simp, ?_⟩
  have e : (s ++ [Cell.lam n]).length = s.length + 1 := by rw [List.length_append]; rfl
  rw [e]
  refine k ⟨at_end (by rw [List.length_append]; rfl), fun d hd => ?_⟩
  cases List.mem_singleton.mp hd
  exact ⟨s.length, n, rfl, by omega, at_old (at_end rfl), hn⟩
theorem asks_app {N : Nat → Prop} {c n i : Nat} {s : Sto} {l : List D} {δ : List (Option D)} {N' : List (Option D) → Sto → Prop} {Rt : D → Sto → Prop} {E : Str → D → Sto → Prop} (h : Asks N c s l) (hn : N n) (hi : δ[i]? = some (some (.ref c))) (hl : l.length < 1000)
    (k : Asks N c ((s ++ [Cell.lam n]).set c (Cell.lst (l ++ [D.ref s.length]))) (l ++ [D.ref s.length]) → N' δ ((s ++ [Cell.lam n]).set c (Cell.lst (l ++ [D.ref s.length])))) : WS (sApp (fVar i) (fLam n) δ s) N' Rt E := by
  have lt := (List.getElem?_eq_some_iff.mp h.at_).1
  rw [WS_app]
  simp only [W_var, hi, Option.some.injEq, exists_eq_left']
  refine ⟨c, l, rfl, h.at_, ?_⟩
  rw [W_lam]
  refine ⟨l, at_old h.at_, by omega, k ⟨List.getElem?_set_self (by rw [List.length_append]; omega), fun d hd => ?_⟩⟩
  rcases List.mem_append.mp hd with q | q
  · obtain ⟨j, m, e1, e2, e3, e4⟩ := h.all d q
    exact ⟨j, m, e1, e2, at_ne (at_old e3) (Ne.symm e2), e4⟩
  · cases List.mem_singleton.mp q
    exact ⟨s.length, n, rfl, by omega, at_ne (at_end rfl) (by omega), hn⟩
theorem ext_more {b c : Nat} {s0 s : Sto} {x y : Cell} (h : Ext b s0 s) (hc : s0.length ≤ c) (hb : b < s0.length) : Ext b s0 ((s ++ [x]).set c y) := by
  refine ext_set ⟨by rw [List.length_append]; have := h.ln; omega, ?_, fun k q1 q2 => ?_⟩ hc hb
  · obtain ⟨g, r, e⟩ := h.bx
    exact ⟨g, r, at_old e⟩
  · have := h.ln
    rw [List.getElem?_append_left (by omega)]
    exact h.sm k q1 q2
theorem ext_plus {b : Nat} {s0 s ys : Sto} (h : Ext b s0 s) : Ext b s0 (s ++ ys) := by
  have := h.ln
  refine ⟨by rw [List.length_append]; omega, ?_, fun k q1 q2 => ?_⟩
  · obtain ⟨g, r, e⟩ := h.bx
    exact ⟨g, r, by rw [List.getElem?_append_left (List.getElem?_eq_some_iff.mp e).1]; exact e⟩
  · rw [List.getElem?_append_left (by omega)]
    exact h.sm k q1 q2
/-- all of them refuse the same -/
theorem asks_none {N : Nat → Prop} {c i : Nat} {s : Sto} {l : List D} {x : D} {δ : List (Option D)} {B : Nat → Fn D} {G : Fn D} (h : Asks N c s l) (hx : Sh x) (hi : i < δ.length) (hlen : (δ.set i none).length = δ.length)
    (hB : ∀ n d, N n → B n (unset [i] ((unset [i] δ).set i (some d))) (s.set c .dead) = .err "Refused" x (s.set c .dead))
    (hG : ∀ d, G ((unset [i] δ).set i (some d)) (s.set c .dead) = .ok (.tup [.str x.py.shown, .bl true]) (s.set c .dead)) (acc : List D) :
    lcGo (bOne i) (unset [i] δ) (fB (f2 cNeD (fHeardVB hResN [i] (fVar i) B) G)) (fVar i) l (s.set c .dead) acc = .ok acc (s.set c .dead) := by
  rw [lc_pure (c := fun _ => false) (f := fun d => d)]
  · rw [List.filter_eq_nil_iff.mpr (fun _ _ => by simp), List.map_nil, List.append_nil]
  · intro d hd
    obtain ⟨k, n, rfl, e2, e3, e4⟩ := h.all d hd
    refine ⟨_, rfl, W.eq ?_, fun q => (nomatch q)⟩
    have lk : ((unset [i] δ).set i (some (.ref k)))[i]? = some (some (.ref k)) := List.getElem?_set_self (by show i < (δ.set i none).length; rw [hlen]; exact hi)
    have fv : fVar i ((unset [i] δ).set i (some (.ref k))) (s.set c .dead) = .ok (.ref k) (s.set c .dead) := W.eq (by rw [W_var]; exact ⟨_, lk, rfl, rfl⟩)
    have hv : fHeardVB hResN [i] (fVar i) B ((unset [i] δ).set i (some (.ref k))) (s.set c .dead) = .ok (.tup [.str x.py.shown, .bl true]) (s.set c .dead) := heardVB_refN fv (at_ne e3 (Ne.symm e2)) (hB n _ e4) hx
    rw [W_B, W_f2, hv]
    simp only [W_ok]
    rw [hG]
    exact ⟨_, ev_neSaid2 hx.st, false, rfl, rfl, rfl⟩
theorem ev_slL {l : List D} {a b : Option Int} {bx : Sto} : cSl bx (.lst l) a b = some (.lst (Ms.cutD l a b)) := rfl
theorem ev_slT {l : List D} {a b : Option Int} {bx : Sto} : cSl bx (.tup l) a b = some (.tup (Ms.cutD l a b)) := rfl
end Ms

end
section
/-! Tents: what is between two values at a rate. No kit here. -/
set_option Elab.async false
set_option linter.all false
set_option maxRecDepth 100000
namespace Tent
def lo (a z r n t : Int) : Int := max (a - r * t) (z - r * (n - t))
def hi (a z r n t : Int) : Int := min (a + r * t) (z + r * (n - t))
/-- the program's way to the greatest -/
def topT (a z r n : Int) : Int := (z - a + r * n) / (2 * r)
def topV (a z r n : Int) : Int := max (hi a z r n (topT a z r n)) (hi a z r n (min (topT a z r n + 1) n))
structure Ok (a z r n : Int) : Prop where
  hr : r = 1 ∨ r = 2
  n0 : 0 ≤ n
  d1 : a - z ≤ r * n
  d2 : z - a ≤ r * n
theorem top_in {a z r n : Int} (h : Ok a z r n) : 0 ≤ topT a z r n ∧ topT a z r n ≤ n := by
  obtain ⟨hr, n0, d1, d2⟩ := h
  unfold topT
  rcases hr with rfl | rfl
  · constructor <;> omega
  · constructor <;> omega
theorem top_ge {a z r n : Int} (h : Ok a z r n) {t : Int} (t0 : 0 ≤ t) (t1 : t ≤ n) : hi a z r n t ≤ topV a z r n := by
  obtain ⟨hr, n0, d1, d2⟩ := h
  unfold topV hi topT
  rcases hr with rfl | rfl <;> omega
theorem top_at {a z r n : Int} (h : Ok a z r n) : ∃ t, 0 ≤ t ∧ t ≤ n ∧ topV a z r n = hi a z r n t := by
  have hT := top_in h
  have n0 := h.n0
  unfold topV
  by_cases q : hi a z r n (topT a z r n) ≤ hi a z r n (min (topT a z r n + 1) n)
  · exact ⟨min (topT a z r n + 1) n, by omega, by omega, by omega⟩
  · exact ⟨topT a z r n, by omega, by omega, by omega⟩
theorem lo_neg {a z r n t : Int} (hr : r = 1 ∨ r = 2) : lo a z r n t = -hi (-a) (-z) r n t := by
  unfold lo hi
  rcases hr with rfl | rfl <;> omega
theorem ok_neg {a z r n : Int} (h : Ok a z r n) : Ok (-a) (-z) r n := ⟨h.hr, h.n0, by have := h.d2; omega, by have := h.d1; omega⟩
theorem lo_le_hi {a z r n t : Int} (h : Ok a z r n) (t0 : 0 ≤ t) (t1 : t ≤ n) : lo a z r n t ≤ hi a z r n t := by
  obtain ⟨hr, n0, d1, d2⟩ := h
  unfold lo hi
  rcases hr with rfl | rfl <;> omega
/-! ### how many -/
def sureB (v l r : Int) : Int := max 0 (-(-(v - l) / r))
def notB (v l r : Int) : Int := max 0 ((l - v) / r + 1)
def many (a z r n l : Int) : Int × Int := (min (n + 1) (sureB a l r + sureB z l r), max 0 (n + 1 - (notB a l r + notB z l r)))
theorem count_mid : ∀ (m p q : Nat), ((List.range m).filter fun t => decide (p ≤ t) && decide (t < q)).length = min q m - p
  | 0, p, q => by simp
  | m + 1, p, q => by
    rw [List.range_succ, List.filter_append, List.length_append, count_mid m p q]
    by_cases h : p ≤ m ∧ m < q
    · have e : ([m].filter fun t => decide (p ≤ t) && decide (t < q)) = [m] := by simp [h]
      rw [e]
      simp only [List.length_singleton]
      omega
    · have e : ([m].filter fun t => decide (p ≤ t) && decide (t < q)) = [] := by
        simp only [List.filter_cons, List.filter_nil]
        rw [if_neg]
        simp only [Bool.and_eq_true, decide_eq_true_eq]
        exact h
      rw [e]
      simp only [List.length_nil]
      omega
theorem count_not {α : Type} (p : α → Bool) : ∀ l : List α, (l.filter p).length + (l.filter fun x => !p x).length = l.length
  | [] => rfl
  | x :: l => by
    have := count_not p l
    cases h : p x <;> simp [h] <;> omega
theorem many_hi {a z r l : Int} {n : Nat} (h : Ok a z r n) : (((List.range (n + 1)).filter fun (t : Nat) => decide (l < hi a z r n (t : Int))).length : Int) = (many a z r n l).2 := by
  obtain ⟨hr, n0, d1, d2⟩ := h
  have e : (List.range (n + 1)).filter (fun t : Nat => decide (l < hi a z r n (t : Int))) = (List.range (n + 1)).filter (fun t : Nat => decide ((notB a l r).toNat ≤ t) && decide (t < ((n : Int) + 1 - notB z l r).toNat)) := by
    refine List.filter_congr fun t ht => ?_
    have ht := List.mem_range.mp ht
    rw [Bool.eq_iff_iff]
    simp only [Bool.and_eq_true, decide_eq_true_eq]
    unfold hi notB
    rcases hr with rfl | rfl <;> omega
  rw [e, count_mid]
  unfold many
  have p1 : 0 ≤ notB a l r := by unfold notB; omega
  have p2 : 0 ≤ notB z l r := by unfold notB; omega
  show _ = max 0 ((n : Int) + 1 - (notB a l r + notB z l r))
  omega
theorem many_lo {a z r l : Int} {n : Nat} (h : Ok a z r n) : (((List.range (n + 1)).filter fun (t : Nat) => decide (l < lo a z r n (t : Int))).length : Int) = (many a z r n l).1 := by
  obtain ⟨hr, n0, d1, d2⟩ := h
  have e : (List.range (n + 1)).filter (fun t : Nat => decide (l < lo a z r n (t : Int))) = (List.range (n + 1)).filter (fun t : Nat => !(decide ((sureB a l r).toNat ≤ t) && decide (t < ((n : Int) + 1 - sureB z l r).toNat))) := by
    refine List.filter_congr fun t ht => ?_
    have ht := List.mem_range.mp ht
    rw [Bool.eq_iff_iff]
    simp only [Bool.not_eq_true', Bool.and_eq_false_iff, decide_eq_true_eq, decide_eq_false_iff_not]
    unfold lo sureB
    rcases hr with rfl | rfl <;> omega
  have cn := count_not (fun t : Nat => decide ((sureB a l r).toNat ≤ t) && decide (t < ((n : Int) + 1 - sureB z l r).toNat)) (List.range (n + 1))
  rw [count_mid, List.length_range] at cn
  rw [e]
  have p1 : 0 ≤ sureB a l r := by unfold sureB; omega
  have p2 : 0 ≤ sureB z l r := by unfold sureB; omega
  unfold many
  show _ = min ((n : Int) + 1) (sureB a l r + sureB z l r)
  omega
/-! ### a path through a value -/
def gv (s e t i : Int) : Int := s + (e - s) * i / t
def leg (s e : Int) (t : Nat) : List Int := (List.range t).map fun (k : Nat) => gv s e t k
def path (a z v : Int) (n t : Nat) : List Int := leg a v t ++ leg v z (n - t) ++ [z]
theorem step_div {x e r t : Int} (t0 : 0 < t) (h1 : e ≤ r * t) (h2 : -(r * t) ≤ e) : (x + e) / t - x / t ≤ r ∧ -r ≤ (x + e) / t - x / t := by
  have a1 : (x + e) / t ≤ (x + r * t) / t := Int.ediv_le_ediv t0 (by omega)
  have a2 : (x + (-r) * t) / t ≤ (x + e) / t := Int.ediv_le_ediv t0 (by rw [Int.neg_mul]; omega)
  rw [Int.add_mul_ediv_right _ _ (by omega)] at a1 a2
  omega
theorem gv_step {s e r t i : Int} (t0 : 0 < t) (h1 : e - s ≤ r * t) (h2 : -(r * t) ≤ e - s) : gv s e t (i + 1) - gv s e t i ≤ r ∧ -r ≤ gv s e t (i + 1) - gv s e t i := by
  unfold gv
  rw [Int.mul_add, Int.mul_one]
  have := step_div (x := (e - s) * i) t0 h1 h2
  omega
theorem gv_end {s e t : Int} (t0 : 0 < t) : gv s e t t = e := by
  unfold gv
  rw [Int.mul_ediv_cancel _ (by omega)]
  omega
theorem gv_zero {s e t : Int} : gv s e t 0 = s := by
  unfold gv
  rw [Int.mul_zero, Int.zero_ediv]
  omega
def pv (a z v : Int) (n t : Nat) (i : Nat) : Int := if i < t then gv a v t i else if i < n then gv v z ((n : Int) - t) ((i : Int) - t) else z
theorem leg_len {s e : Int} {t : Nat} : (leg s e t).length = t := by simp [leg]
theorem leg_get {s e : Int} {t i : Nat} (h : i < t) : (leg s e t)[i]? = some (gv s e t i) := by
  unfold leg
  rw [List.getElem?_map, List.getElem?_range h]
  rfl
theorem path_len {a z v : Int} {n t : Nat} (h : t ≤ n) : (path a z v n t).length = n + 1 := by
  unfold path
  rw [List.length_append, List.length_append, leg_len, leg_len, List.length_singleton]
  omega
theorem path_get {a z v : Int} {n t i : Nat} (h : t ≤ n) (hi : i ≤ n) : (path a z v n t)[i]? = some (pv a z v n t i) := by
  unfold path pv
  by_cases q : i < t
  · rw [if_pos q, List.append_assoc, List.getElem?_append_left (by rw [leg_len]; exact q), leg_get q]
  · rw [if_neg q, List.append_assoc, List.getElem?_append_right (by rw [leg_len]; omega), leg_len]
    by_cases p : i < n
    · rw [if_pos p, List.getElem?_append_left (by rw [leg_len]; omega), leg_get (by omega)]
      have e1 : ((n - t : Nat) : Int) = (n : Int) - t := by omega
      have e2 : ((i - t : Nat) : Int) = (i : Int) - t := by omega
      rw [e1, e2]
    · rw [if_neg p, List.getElem?_append_right (by rw [leg_len]; omega), leg_len]
      have e : i - t - (n - t) = 0 := by omega
      rw [e]
      rfl
structure In (a z r v : Int) (n t : Nat) : Prop where
  ok : Ok a z r n
  tn : t ≤ n
  l : lo a z r n t ≤ v
  h : v ≤ hi a z r n t
theorem In.d {a z r v : Int} {n t : Nat} (h : In a z r v n t) : v - a ≤ r * t ∧ -(r * t) ≤ v - a ∧ z - v ≤ r * ((n : Int) - t) ∧ -(r * ((n : Int) - t)) ≤ z - v := by
  obtain ⟨⟨hr, n0, d1, d2⟩, tn, l, h⟩ := h
  unfold lo at l
  unfold hi at h
  rcases hr with rfl | rfl <;> omega
theorem pv_t {a z r v : Int} {n t : Nat} (h : In a z r v n t) : pv a z v n t t = v := by
  have d := h.d
  have := h.tn
  unfold pv
  rw [if_neg (by omega)]
  by_cases q : t < n
  · rw [if_pos q, show (t : Int) - t = 0 by omega, gv_zero]
  · rw [if_neg q]
    have e : (n : Int) - t = 0 := by omega
    rw [e, Int.mul_zero] at d
    omega
theorem pv_0 {a z r v : Int} {n t : Nat} (h : In a z r v n t) : pv a z v n t 0 = a := by
  by_cases q : t = 0
  · have e := pv_t h
    have d := h.d
    subst q
    rw [e]
    have : r * ((0 : Nat) : Int) = 0 := by simp
    omega
  · unfold pv
    rw [if_pos (by omega)]
    exact gv_zero
theorem pv_n {a z r v : Int} {n t : Nat} (h : In a z r v n t) : pv a z v n t n = z := by
  have := h.tn
  unfold pv
  rw [if_neg (by omega), if_neg (by omega)]
theorem pv_step {a z r v : Int} {n t i : Nat} (h : In a z r v n t) (hi : i < n) : pv a z v n t (i + 1) - pv a z v n t i ≤ r ∧ -r ≤ pv a z v n t (i + 1) - pv a z v n t i := by
  have d := h.d
  have tn := h.tn
  by_cases q : i < t
  · have e1 : pv a z v n t i = gv a v t i := by unfold pv; rw [if_pos q]
    have e2 : pv a z v n t (i + 1) = gv a v t ((i : Int) + 1) := by
      by_cases p : i + 1 < t
      · unfold pv
        rw [if_pos p]
        rfl
      · have e : i + 1 = t := by omega
        rw [e, pv_t h, show (i : Int) + 1 = (t : Int) by omega, gv_end (by omega)]
    rw [e1, e2]
    exact gv_step (by omega) d.1 d.2.1
  · have e1 : pv a z v n t i = gv v z ((n : Int) - t) ((i : Int) - t) := by unfold pv; rw [if_neg q, if_pos hi]
    have e2 : pv a z v n t (i + 1) = gv v z ((n : Int) - t) (((i : Int) - t) + 1) := by
      by_cases p : i + 1 < n
      · unfold pv
        rw [if_neg (by omega), if_pos p]
        congr 1
        omega
      · have e : i + 1 = n := by omega
        rw [e, pv_n h, show ((i : Int) - t) + 1 = (n : Int) - t by omega, gv_end (by omega)]
    rw [e1, e2]
    exact gv_step (by omega) d.2.2.1 d.2.2.2
/-! ### all paths, and what they come to -/
def ext1 (r : Int) (p : List Int) : List (List Int) := (List.range (2 * r + 1).toNat).map fun (k : Nat) => p ++ [p.getLastD 0 + (-r + (k : Int))]
def stepP (z r : Int) (left : Int) (ps : List (List Int)) : List (List Int) := (ps.flatMap (ext1 r)).filter fun p => decide ((z - p.getLastD 0).natAbs ≤ r * left)
def paths (a z r : Int) (n : Nat) : Nat → List (List Int)
  | 0 => [[a]]
  | k + 1 => stepP z r ((n : Int) - (k : Int) - 1) (paths a z r n k)
end Tent

end
section
set_option Elab.async false
set_option linter.all false
set_option maxRecDepth 100000
set_option maxHeartbeats 4000000
namespace K16
open PySem PySem.Spec PyProof.Rows L2 Ms
theorem m_int {d : D} {bx : Sto} (h : d.cl = true) : m_is_integer [d] bx = .ok (.bl (isI d)) bx := W.eq (by
  unfold m_is_integer S_is_integer N_is_integer
  simp only [WS_seq, WS_if, WS_set, WS_ret, WS_drop, WS_raise, WS_next, WS_unp, WS_par, WS_for, W_B, W_f1, W_f2, W_fA, W_cons, W_pur, W_var, W_not, W_ifT, W_ifB, W_call, W_callK, W_chain, W_wk, W_sl, W_po, W_poN, W_ok, W_err, W_noErr, W_fnD, ev_plus, ev_sub, ev_iB, ev_toB, ev_not, ev_neg, ev_isN, ev_notN, ev_isB, ev_int, ev_abs, ev_max, ev_min, ev_eqI, ev_neI, Ms.isNon, Option.some.injEq, exists_eq_left', List.getElem?_cons_zero, List.getElem?_cons_succ, List.set_cons_zero, List.set_cons_succ, List.map_cons, List.map_nil, List.cons_append, List.nil_append, List.length_cons, List.length_nil, List.reduceReplicate, Nat.reduceAdd, Nat.reduceSub, Bool.not_true, Bool.not_false, Bool.false_eq_true, Bool.true_eq_false, if_true, if_false, decide_true, decide_false, D.int.injEq, D.bl.injEq, D.ref.injEq, exists_and_left, isi_int h, isi_bool h]
  cases d <;> first | (cases h; done) | simp [WS_seq, WS_if, WS_set, WS_ret, WS_drop, WS_raise, WS_next, WS_unp, WS_par, WS_for, W_B, W_f1, W_f2, W_fA, W_cons, W_pur, W_var, W_not, W_ifT, W_ifB, W_call, W_callK, W_chain, W_wk, W_sl, W_po, W_poN, W_ok, W_err, W_noErr, W_fnD, ev_plus, ev_sub, ev_iB, ev_toB, ev_not, ev_neg, ev_isN, ev_notN, ev_isB, ev_int, ev_abs, ev_max, ev_min, ev_eqI, ev_neI, Ms.isNon, Option.some.injEq, exists_eq_left', List.getElem?_cons_zero, List.getElem?_cons_succ, List.set_cons_zero, List.set_cons_succ, List.map_cons, List.map_nil, List.cons_append, List.nil_append, List.length_cons, List.length_nil, List.reduceReplicate, Nat.reduceAdd, Nat.reduceSub, Bool.not_true, Bool.not_false, Bool.false_eq_true, Bool.true_eq_false, if_true, if_false, decide_true, decide_false, D.int.injEq, D.bl.injEq, D.ref.injEq, exists_and_left, isi_bool h, isI])
def inR : D → Int → Int → Bool
  | .int i, a, b => decide (a ≤ i) && decide (i ≤ b)
  | _, _, _ => false
theorem m_within {d : D} {a b : Int} {bx : Sto} (h : d.cl = true) : m_is_within [d, .int a, .int b] bx = .ok (.bl (inR d a b)) bx := W.eq (by
  unfold m_is_within S_is_within N_is_within
  simp only [WS_seq, WS_if, WS_set, WS_ret, WS_drop, WS_raise, WS_next, WS_unp, WS_par, WS_for, W_B, W_f1, W_f2, W_fA, W_cons, W_pur, W_var, W_not, W_ifT, W_ifB, W_call, W_callK, W_chain, W_wk, W_sl, W_po, W_poN, W_ok, W_err, W_noErr, W_fnD, ev_plus, ev_sub, ev_iB, ev_toB, ev_not, ev_neg, ev_isN, ev_notN, ev_isB, ev_int, ev_abs, ev_max, ev_min, ev_eqI, ev_neI, Ms.isNon, Option.some.injEq, exists_eq_left', List.getElem?_cons_zero, List.getElem?_cons_succ, List.set_cons_zero, List.set_cons_succ, List.map_cons, List.map_nil, List.cons_append, List.nil_append, List.length_cons, List.length_nil, List.reduceReplicate, Nat.reduceAdd, Nat.reduceSub, Bool.not_true, Bool.not_false, Bool.false_eq_true, Bool.true_eq_false, if_true, if_false, decide_true, decide_false, D.int.injEq, D.bl.injEq, D.ref.injEq, exists_and_left, m_int h]
  cases d with
  | int i =>
    by_cases q : a ≤ i
    · simp [WS_seq, WS_if, WS_set, WS_ret, WS_drop, WS_raise, WS_next, WS_unp, WS_par, WS_for, W_B, W_f1, W_f2, W_fA, W_cons, W_pur, W_var, W_not, W_ifT, W_ifB, W_call, W_callK, W_chain, W_wk, W_sl, W_po, W_poN, W_ok, W_err, W_noErr, W_fnD, ev_plus, ev_sub, ev_iB, ev_toB, ev_not, ev_neg, ev_isN, ev_notN, ev_isB, ev_int, ev_abs, ev_max, ev_min, ev_eqI, ev_neI, Ms.isNon, Option.some.injEq, exists_eq_left', List.getElem?_cons_zero, List.getElem?_cons_succ, List.set_cons_zero, List.set_cons_succ, List.map_cons, List.map_nil, List.cons_append, List.nil_append, List.length_cons, List.length_nil, List.reduceReplicate, Nat.reduceAdd, Nat.reduceSub, Bool.not_true, Bool.not_false, Bool.false_eq_true, Bool.true_eq_false, if_true, if_false, decide_true, decide_false, D.int.injEq, D.bl.injEq, D.ref.injEq, exists_and_left, isI, inR, q]
      try (intros; omega)
    · simp [WS_seq, WS_if, WS_set, WS_ret, WS_drop, WS_raise, WS_next, WS_unp, WS_par, WS_for, W_B, W_f1, W_f2, W_fA, W_cons, W_pur, W_var, W_not, W_ifT, W_ifB, W_call, W_callK, W_chain, W_wk, W_sl, W_po, W_poN, W_ok, W_err, W_noErr, W_fnD, ev_plus, ev_sub, ev_iB, ev_toB, ev_not, ev_neg, ev_isN, ev_notN, ev_isB, ev_int, ev_abs, ev_max, ev_min, ev_eqI, ev_neI, Ms.isNon, Option.some.injEq, exists_eq_left', List.getElem?_cons_zero, List.getElem?_cons_succ, List.set_cons_zero, List.set_cons_succ, List.map_cons, List.map_nil, List.cons_append, List.nil_append, List.length_cons, List.length_nil, List.reduceReplicate, Nat.reduceAdd, Nat.reduceSub, Bool.not_true, Bool.not_false, Bool.false_eq_true, Bool.true_eq_false, if_true, if_false, decide_true, decide_false, D.int.injEq, D.bl.injEq, D.ref.injEq, exists_and_left, isI, inR, q]
  | _ => first | (cases h; done) | simp [WS_seq, WS_if, WS_set, WS_ret, WS_drop, WS_raise, WS_next, WS_unp, WS_par, WS_for, W_B, W_f1, W_f2, W_fA, W_cons, W_pur, W_var, W_not, W_ifT, W_ifB, W_call, W_callK, W_chain, W_wk, W_sl, W_po, W_poN, W_ok, W_err, W_noErr, W_fnD, ev_plus, ev_sub, ev_iB, ev_toB, ev_not, ev_neg, ev_isN, ev_notN, ev_isB, ev_int, ev_abs, ev_max, ev_min, ev_eqI, ev_neI, Ms.isNon, Option.some.injEq, exists_eq_left', List.getElem?_cons_zero, List.getElem?_cons_succ, List.set_cons_zero, List.set_cons_succ, List.map_cons, List.map_nil, List.cons_append, List.nil_append, List.length_cons, List.length_nil, List.reduceReplicate, Nat.reduceAdd, Nat.reduceSub, Bool.not_true, Bool.not_false, Bool.false_eq_true, Bool.true_eq_false, if_true, if_false, decide_true, decide_false, D.int.injEq, D.bl.injEq, D.ref.injEq, exists_and_left, isI, inR])
theorem m_seq {d : D} {bx : Sto} (h : d.cl = true) : m_is_sequence [d] bx = .ok (.bl (isS d)) bx := W.eq (by
  unfold m_is_sequence S_is_sequence N_is_sequence
  simp only [WS_seq, WS_if, WS_set, WS_ret, WS_drop, WS_raise, WS_next, WS_unp, WS_par, WS_for, W_B, W_f1, W_f2, W_fA, W_cons, W_pur, W_var, W_not, W_ifT, W_ifB, W_call, W_callK, W_chain, W_wk, W_sl, W_po, W_poN, W_ok, W_err, W_noErr, W_fnD, ev_plus, ev_sub, ev_iB, ev_toB, ev_not, ev_neg, ev_isN, ev_notN, ev_isB, ev_int, ev_abs, ev_max, ev_min, ev_eqI, ev_neI, Ms.isNon, Option.some.injEq, exists_eq_left', List.getElem?_cons_zero, List.getElem?_cons_succ, List.set_cons_zero, List.set_cons_succ, List.map_cons, List.map_nil, List.cons_append, List.nil_append, List.length_cons, List.length_nil, List.reduceReplicate, Nat.reduceAdd, Nat.reduceSub, Bool.not_true, Bool.not_false, Bool.false_eq_true, Bool.true_eq_false, if_true, if_false, decide_true, decide_false, D.int.injEq, D.bl.injEq, D.ref.injEq, exists_and_left, isi_seq h]
  simp [WS_seq, WS_if, WS_set, WS_ret, WS_drop, WS_raise, WS_next, WS_unp, WS_par, WS_for, W_B, W_f1, W_f2, W_fA, W_cons, W_pur, W_var, W_not, W_ifT, W_ifB, W_call, W_callK, W_chain, W_wk, W_sl, W_po, W_poN, W_ok, W_err, W_noErr, W_fnD, ev_plus, ev_sub, ev_iB, ev_toB, ev_not, ev_neg, ev_isN, ev_notN, ev_isB, ev_int, ev_abs, ev_max, ev_min, ev_eqI, ev_neI, Ms.isNon, Option.some.injEq, exists_eq_left', List.getElem?_cons_zero, List.getElem?_cons_succ, List.set_cons_zero, List.set_cons_succ, List.map_cons, List.map_nil, List.cons_append, List.nil_append, List.length_cons, List.length_nil, List.reduceReplicate, Nat.reduceAdd, Nat.reduceSub, Bool.not_true, Bool.not_false, Bool.false_eq_true, Bool.true_eq_false, if_true, if_false, decide_true, decide_false, D.int.injEq, D.bl.injEq, D.ref.injEq, exists_and_left])
def hasP : D → Nat → Bool
  | .lst l, n => l.length == n
  | .tup l, n => l.length == n
  | _, _ => false
theorem m_has {d : D} {n : Nat} {bx : Sto} (h : d.cl = true) : m_has_parts [d, .int n] bx = .ok (.bl (hasP d n)) bx := W.eq (by
  unfold m_has_parts S_has_parts N_has_parts
  simp only [WS_seq, WS_if, WS_set, WS_ret, WS_drop, WS_raise, WS_next, WS_unp, WS_par, WS_for, W_B, W_f1, W_f2, W_fA, W_cons, W_pur, W_var, W_not, W_ifT, W_ifB, W_call, W_callK, W_chain, W_wk, W_sl, W_po, W_poN, W_ok, W_err, W_noErr, W_fnD, ev_plus, ev_sub, ev_iB, ev_toB, ev_not, ev_neg, ev_isN, ev_notN, ev_isB, ev_int, ev_abs, ev_max, ev_min, ev_eqI, ev_neI, Ms.isNon, Option.some.injEq, exists_eq_left', List.getElem?_cons_zero, List.getElem?_cons_succ, List.set_cons_zero, List.set_cons_succ, List.map_cons, List.map_nil, List.cons_append, List.nil_append, List.length_cons, List.length_nil, List.reduceReplicate, Nat.reduceAdd, Nat.reduceSub, Bool.not_true, Bool.not_false, Bool.false_eq_true, Bool.true_eq_false, if_true, if_false, decide_true, decide_false, D.int.injEq, D.bl.injEq, D.ref.injEq, exists_and_left, m_seq h]
  cases d <;> first
    | (cases h; done)
    | simp [WS_seq, WS_if, WS_set, WS_ret, WS_drop, WS_raise, WS_next, WS_unp, WS_par, WS_for, W_B, W_f1, W_f2, W_fA, W_cons, W_pur, W_var, W_not, W_ifT, W_ifB, W_call, W_callK, W_chain, W_wk, W_sl, W_po, W_poN, W_ok, W_err, W_noErr, W_fnD, ev_plus, ev_sub, ev_iB, ev_toB, ev_not, ev_neg, ev_isN, ev_notN, ev_isB, ev_int, ev_abs, ev_max, ev_min, ev_eqI, ev_neI, Ms.isNon, Option.some.injEq, exists_eq_left', List.getElem?_cons_zero, List.getElem?_cons_succ, List.set_cons_zero, List.set_cons_succ, List.map_cons, List.map_nil, List.cons_append, List.nil_append, List.length_cons, List.length_nil, List.reduceReplicate, Nat.reduceAdd, Nat.reduceSub, Bool.not_true, Bool.not_false, Bool.false_eq_true, Bool.true_eq_false, if_true, if_false, decide_true, decide_false, D.int.injEq, D.bl.injEq, D.ref.injEq, exists_and_left, isS, hasP, ev_len vs_lst, ev_len vs_tup, eNat])
theorem within_ok {d : D} {a b : Int} {bx : Sto} (h : d.cl = true) (k : inR d a b = true) : m_need_within [d, .int a, .int b] bx = .ok .non bx := W.eq (by
  unfold m_need_within S_need_within N_need_within
  simp only [WS_seq, WS_if, WS_set, WS_ret, WS_drop, WS_raise, WS_next, WS_unp, WS_par, WS_for, W_B, W_f1, W_f2, W_fA, W_cons, W_pur, W_var, W_not, W_ifT, W_ifB, W_call, W_callK, W_chain, W_wk, W_sl, W_po, W_poN, W_ok, W_err, W_noErr, W_fnD, ev_plus, ev_sub, ev_iB, ev_toB, ev_not, ev_neg, ev_isN, ev_notN, ev_isB, ev_int, ev_abs, ev_max, ev_min, ev_eqI, ev_neI, Ms.isNon, Option.some.injEq, exists_eq_left', List.getElem?_cons_zero, List.getElem?_cons_succ, List.set_cons_zero, List.set_cons_succ, List.map_cons, List.map_nil, List.cons_append, List.nil_append, List.length_cons, List.length_nil, List.reduceReplicate, Nat.reduceAdd, Nat.reduceSub, Bool.not_true, Bool.not_false, Bool.false_eq_true, Bool.true_eq_false, if_true, if_false, decide_true, decide_false, D.int.injEq, D.bl.injEq, D.ref.injEq, exists_and_left, m_within h, k, and_self])
theorem within_bad {d : D} {a b : Int} {bx : Sto} (h : d.cl = true) (k : inR d a b = false) : m_need_within [d, .int a, .int b] bx = .err "Refused" d bx := W.eqE (by
  unfold m_need_within S_need_within N_need_within
  simp only [WS_seq, WS_if, WS_set, WS_ret, WS_drop, WS_raise, WS_next, WS_unp, WS_par, WS_for, W_B, W_f1, W_f2, W_fA, W_cons, W_pur, W_var, W_not, W_ifT, W_ifB, W_call, W_callK, W_chain, W_wk, W_sl, W_po, W_poN, W_ok, W_err, W_noErr, W_fnD, ev_plus, ev_sub, ev_iB, ev_toB, ev_not, ev_neg, ev_isN, ev_notN, ev_isB, ev_int, ev_abs, ev_max, ev_min, ev_eqI, ev_neI, Ms.isNon, Option.some.injEq, exists_eq_left', List.getElem?_cons_zero, List.getElem?_cons_succ, List.set_cons_zero, List.set_cons_succ, List.map_cons, List.map_nil, List.cons_append, List.nil_append, List.length_cons, List.length_nil, List.reduceReplicate, Nat.reduceAdd, Nat.reduceSub, Bool.not_true, Bool.not_false, Bool.false_eq_true, Bool.true_eq_false, if_true, if_false, decide_true, decide_false, D.int.injEq, D.bl.injEq, D.ref.injEq, exists_and_left, m_within h, k, and_self])
/-- a list, as a list or a tuple -/
def Seq2 (d : D) (l : List D) : Prop := d = .lst l ∨ d = .tup l
theorem Seq2.cl {d : D} {l : List D} (h : Seq2 d l) : d.cl = true := by rcases h with rfl | rfl <;> rfl
theorem Seq2.vs {d : D} {l : List D} (h : Seq2 d l) (bx : Sto) : vs bx d = some l := by rcases h with rfl | rfl <;> rfl
theorem Seq2.wlk {d : D} {l : List D} (h : Seq2 d l) : wlk d = some l := by rcases h with rfl | rfl <;> rfl
theorem Seq2.isS {d : D} {l : List D} (h : Seq2 d l) : isS d = true := by rcases h with rfl | rfl <;> rfl
theorem Seq2.has {d : D} {l : List D} (h : Seq2 d l) (n : Nat) : hasP d n = (l.length == n) := by rcases h with rfl | rfl <;> rfl
theorem Seq2.tupOf {d : D} {l : List D} (h : Seq2 d l) (bx : Sto) : cTupOf bx [d] = some (.tup l) := by rcases h with rfl | rfl <;> rfl
def rg (lo : Int) (n : Nat) : List Int := (List.range n).map fun (i : Nat) => lo + (i : Int)
theorem rgl_eq {lo : Int} {n : Nat} : rgl lo n = (rg lo n).map D.int := by
  unfold rgl rg
  rw [List.map_map]
  rfl
theorem mem_rg {lo x : Int} {n : Nat} : x ∈ rg lo n ↔ lo ≤ x ∧ x < lo + n := by
  unfold rg
  rw [List.mem_map]
  constructor
  · rintro ⟨i, hi, rfl⟩
    have := List.mem_range.mp hi
    omega
  · rintro ⟨h1, h2⟩
    exact ⟨(x - lo).toNat, List.mem_range.mpr (by omega), by omega⟩
theorem rg_len {lo : Int} {n : Nat} : (rg lo n).length = n := by simp [rg]
theorem rg_sorted {lo : Int} {n : Nat} : (rg lo n).Pairwise (· < ·) := by
  unfold rg
  rw [List.pairwise_map]
  exact List.pairwise_lt_range.imp fun h => by omega
theorem rg_take {lo : Int} {n k : Nat} (h : k ≤ n) : (rg lo n).take k = rg lo k := by
  unfold rg
  rw [← List.map_take, List.take_range, Nat.min_eq_left h]
/-- a comprehension over whole numbers -/
theorem filt_ints {l : List Int} {c : D → Bool} {f : D → D} {p : Int → Bool} {g : Int → Int} (hc : ∀ i, c (.int i) = p i) (hf : ∀ i, f (.int i) = .int (g i)) : ((l.map D.int).filter c).map f = ((l.filter p).map g).map D.int := by
  rw [List.filter_map, List.map_map, List.map_map]
  have e : (c ∘ D.int) = p := funext hc
  rw [e]
  exact List.map_congr_left fun i _ => hf i
theorem lcI {j : Nat} {δ : List (Option D)} {bx : Sto} {C : Fn Bool} {F : Fn D} {l : List Int} {p : Int → Bool} {g : Int → Int} (h : ∀ w ∈ l, C (δ.set j (some (.int w))) bx = .ok (p w) bx ∧ (p w = true → F (δ.set j (some (.int w))) bx = .ok (.int (g w)) bx)) :
    lcGo (bOne j) δ C F (l.map D.int) bx [] = .ok (((l.filter p).map g).map D.int) bx := by
  rw [lc_pure (c := fun d => match d with | .int w => p w | _ => false) (f := fun d => match d with | .int w => .int (g w) | _ => .non) fun d hd => ⟨_, rfl, by
    obtain ⟨w, hw, rfl⟩ := List.mem_map.mp hd
    exact h w hw⟩]
  rw [List.nil_append, filt_ints (p := p) (g := g) (fun _ => rfl) (fun _ => rfl)]
theorem lcI1 {j : Nat} {δ : List (Option D)} {bx : Sto} {F : Fn D} {l : List Int} {g : Int → Int} (h : ∀ w ∈ l, F (δ.set j (some (.int w))) bx = .ok (.int (g w)) bx) :
    lcGo (bOne j) δ (pur true) F (l.map D.int) bx [] = .ok ((l.map g).map D.int) bx := by
  rw [lcI (p := fun _ => true) (g := g) fun w hw => ⟨rfl, fun _ => h w hw⟩]
  have ef : (l.filter fun _ => true) = l := List.filter_eq_self.mpr fun _ _ => rfl
  rw [ef]
theorem take_succ {α : Type} {l : List α} {i : Nat} {x : α} (h : l[i]? = some x) : l.take (i + 1) = l.take i ++ [x] := by rw [List.take_add_one, h]; rfl
theorem take_ok {b : Nat} {st : Sto} {n : Int} (hb : Bx b st) (hn : 0 < n) (hn2 : n < 1073741824) : W (m__law_take [.ref b, .int n] st) (fun r st' => ∃ i, r = .int i ∧ 0 ≤ i ∧ i < n ∧ Ext b st st' ∧ st'.length = st.length) NoE := by
  unfold m__law_take
  rw [W_noErr, W_fnD]
  exact take_WS (c1 := 40692) (c2 := 79) (m1 := 2147483399) (c3 := 39373) (c4 := 31) (m2 := 2147483587) (c5 := 2147483629) (c6 := 8167) (by decide) (by decide) (by decide) (by decide) (by decide) (by decide) hb hn hn2 fun i st' h1 h2 h3 h4 => ⟨i, rfl, h1, h2, h3, h4⟩
theorem box_ok {ns : List Int} {k : Nat} {st : Sto} : W (m__law_box [.scr ns, .int k] st) (fun r st' => r = .ref st.length ∧ ∃ g r : Int, st' = st ++ [.lst [.int g, .int r]]) NoE := by
  unfold m__law_box
  rw [W_noErr, W_fnD]
  exact box_WS (A := 7451) (B := 1061) (M := 2147483587) (C := 50461) (M2 := 2147483587) (C2 := 69761) (B2 := 1061) (M3 := 2147483587) (by decide) (by decide) (by decide) (by decide) (by decide) (by decide) (by decide) fun g r => ⟨rfl, g, r, rfl⟩
theorem pick_ok {b : Nat} {st : Sto} {d : D} {l : List D} (hb : Bx b st) (hd : d = .lst l ∨ d = .tup l) (hl : l ≠ []) (hl2 : l.length < 1073741824) : W (m__law_pick [.ref b, d] st) (fun r st' => r ∈ l ∧ Ext b st st' ∧ st'.length = st.length) NoE := by
  have hp : 0 < l.length := List.length_pos_iff.mpr hl
  unfold m__law_pick S__law_pick N__law_pick
  have v : ∀ bx, vs bx d = some l := fun bx => by rcases hd with rfl | rfl <;> rfl
  simp only [WS_seq, WS_if, WS_set, WS_ret, WS_drop, WS_raise, WS_next, WS_unp, WS_par, WS_for, W_B, W_f1, W_f2, W_fA, W_cons, W_pur, W_var, W_not, W_ifT, W_ifB, W_call, W_callK, W_chain, W_wk, W_sl, W_po, W_poN, W_ok, W_err, W_noErr, W_fnD, ev_plus, ev_sub, ev_iB, ev_toB, ev_not, ev_neg, ev_isN, ev_notN, ev_isB, ev_int, ev_abs, ev_max, ev_min, ev_eqI, ev_neI, Ms.isNon, Option.some.injEq, exists_eq_left', List.getElem?_cons_zero, List.getElem?_cons_succ, List.set_cons_zero, List.set_cons_succ, List.map_cons, List.map_nil, List.cons_append, List.nil_append, List.length_cons, List.length_nil, List.reduceReplicate, Nat.reduceAdd, Nat.reduceSub, Bool.not_true, Bool.not_false, Bool.false_eq_true, Bool.true_eq_false, if_true, if_false, decide_true, decide_false, D.int.injEq, D.bl.injEq, D.ref.injEq, exists_and_left, ev_len (v _)]
  refine (take_ok hb (by omega) (by omega)).to fun r st' ⟨i, e, h0, h1, h2, h3⟩ => ?_
  subst e
  have hi : i.toNat < l.length := by omega
  have e : atI l i = some l[i.toNat] := atI_int h0 (List.getElem?_eq_getElem hi)
  simp only [ev_ix (v _), e, Option.some.injEq, exists_eq_left']
  exact ⟨List.getElem_mem hi, h2, h3⟩


def isNum : D → Bool
  | .int i => decide (0 ≤ i)
  | _ => false
theorem m_num {d : D} {bx : Sto} (h : d.cl = true) : m_is_number [d] bx = .ok (.bl (isNum d)) bx := W.eq (by
  unfold m_is_number S_is_number N_is_number
  simp only [WS_seq, WS_if, WS_set, WS_ret, WS_drop, WS_raise, WS_next, WS_unp, WS_par, WS_for, W_B, W_f1, W_f2, W_fA, W_cons, W_pur, W_var, W_not, W_ifT, W_ifB, W_call, W_callK, W_chain, W_wk, W_sl, W_po, W_poN, W_ok, W_err, W_noErr, W_fnD, ev_plus, ev_sub, ev_iB, ev_toB, ev_not, ev_neg, ev_isN, ev_notN, ev_isB, ev_int, ev_abs, ev_max, ev_min, ev_eqI, ev_neI, Ms.isNon, Option.some.injEq, exists_eq_left', List.getElem?_cons_zero, List.getElem?_cons_succ, List.set_cons_zero, List.set_cons_succ, List.map_cons, List.map_nil, List.cons_append, List.nil_append, List.length_cons, List.length_nil, List.reduceReplicate, Nat.reduceAdd, Nat.reduceSub, Bool.not_true, Bool.not_false, Bool.false_eq_true, Bool.true_eq_false, if_true, if_false, decide_true, decide_false, D.int.injEq, D.bl.injEq, D.ref.injEq, exists_and_left, m_int h]
  cases d <;> first | (cases h; done) | simp [WS_seq, WS_if, WS_set, WS_ret, WS_drop, WS_raise, WS_next, WS_unp, WS_par, WS_for, W_B, W_f1, W_f2, W_fA, W_cons, W_pur, W_var, W_not, W_ifT, W_ifB, W_call, W_callK, W_chain, W_wk, W_sl, W_po, W_poN, W_ok, W_err, W_noErr, W_fnD, ev_plus, ev_sub, ev_iB, ev_toB, ev_not, ev_neg, ev_isN, ev_notN, ev_isB, ev_int, ev_abs, ev_max, ev_min, ev_eqI, ev_neI, Ms.isNon, Option.some.injEq, exists_eq_left', List.getElem?_cons_zero, List.getElem?_cons_succ, List.set_cons_zero, List.set_cons_succ, List.map_cons, List.map_nil, List.cons_append, List.nil_append, List.length_cons, List.length_nil, List.reduceReplicate, Nat.reduceAdd, Nat.reduceSub, Bool.not_true, Bool.not_false, Bool.false_eq_true, Bool.true_eq_false, if_true, if_false, decide_true, decide_false, D.int.injEq, D.bl.injEq, D.ref.injEq, exists_and_left, isI, isNum])
theorem needI_ok {d : D} {bx : Sto} (h : d.cl = true) (k : isI d = true) : m_need_integer [d] bx = .ok .non bx := W.eq (by
  unfold m_need_integer S_need_integer N_need_integer
  simp only [WS_seq, WS_if, WS_set, WS_ret, WS_drop, WS_raise, WS_next, WS_unp, WS_par, WS_for, W_B, W_f1, W_f2, W_fA, W_cons, W_pur, W_var, W_not, W_ifT, W_ifB, W_call, W_callK, W_chain, W_wk, W_sl, W_po, W_poN, W_ok, W_err, W_noErr, W_fnD, ev_plus, ev_sub, ev_iB, ev_toB, ev_not, ev_neg, ev_isN, ev_notN, ev_isB, ev_int, ev_abs, ev_max, ev_min, ev_eqI, ev_neI, Ms.isNon, Option.some.injEq, exists_eq_left', List.getElem?_cons_zero, List.getElem?_cons_succ, List.set_cons_zero, List.set_cons_succ, List.map_cons, List.map_nil, List.cons_append, List.nil_append, List.length_cons, List.length_nil, List.reduceReplicate, Nat.reduceAdd, Nat.reduceSub, Bool.not_true, Bool.not_false, Bool.false_eq_true, Bool.true_eq_false, if_true, if_false, decide_true, decide_false, D.int.injEq, D.bl.injEq, D.ref.injEq, exists_and_left, m_int h, k, and_self])
theorem needI_bad {d : D} {bx : Sto} (h : d.cl = true) (k : isI d = false) : m_need_integer [d] bx = .err "Refused" d bx := W.eqE (by
  unfold m_need_integer S_need_integer N_need_integer
  simp only [WS_seq, WS_if, WS_set, WS_ret, WS_drop, WS_raise, WS_next, WS_unp, WS_par, WS_for, W_B, W_f1, W_f2, W_fA, W_cons, W_pur, W_var, W_not, W_ifT, W_ifB, W_call, W_callK, W_chain, W_wk, W_sl, W_po, W_poN, W_ok, W_err, W_noErr, W_fnD, ev_plus, ev_sub, ev_iB, ev_toB, ev_not, ev_neg, ev_isN, ev_notN, ev_isB, ev_int, ev_abs, ev_max, ev_min, ev_eqI, ev_neI, Ms.isNon, Option.some.injEq, exists_eq_left', List.getElem?_cons_zero, List.getElem?_cons_succ, List.set_cons_zero, List.set_cons_succ, List.map_cons, List.map_nil, List.cons_append, List.nil_append, List.length_cons, List.length_nil, List.reduceReplicate, Nat.reduceAdd, Nat.reduceSub, Bool.not_true, Bool.not_false, Bool.false_eq_true, Bool.true_eq_false, if_true, if_false, decide_true, decide_false, D.int.injEq, D.bl.injEq, D.ref.injEq, exists_and_left, m_int h, k, and_self])
/-! ### tents -/
def tl (a z r n : Int) : List D := [.int a, .int z, .int r, .int n]
theorem mulr {r : Int} (hr : r = 1 ∨ r = 2) (bx : Sto) (j : Int) : cMul bx (.int r) (.int j) = some (.int (r * j)) := ev_mulL (by omega)
theorem check_ok {a z r n : Int} {d : D} (h : Seq2 d (tl a z r n)) (o : Tent.Ok a z r n) (bx : Sto) : m_check_tent [d] bx = .ok (.tup (tl a z r n)) bx := W.eq (by
  have hp : m_has_parts [d, .int 4] bx = .ok (.bl true) bx := by rw [show (4 : Int) = ((4 : Nat) : Int) from rfl, m_has h.cl, h.has]; rfl
  obtain ⟨hr, n0, d1, d2⟩ := o
  have ir : isNum (.int r) = true := by unfold isNum; simp; omega
  have i_n : isNum (.int n) = true := by unfold isNum; simp; omega
  have ab : ((if a - z < 0 then -(a - z) else a - z) > r * n) = False := by
    apply eq_false
    split <;> omega
  have r0 : (r == 0) = false := by rcases hr with rfl | rfl <;> rfl
  unfold m_check_tent S_check_tent N_check_tent
  rw [W_fnD, WS_seq, WS_if]
  simp only [WS_next, W_B, W_f1, W_f2, W_fA, W_cons, W_pur, W_var, W_not, W_ifT, W_ifB, W_call, W_callK, W_chain, W_wk, W_sl, W_po, W_poN, W_ok, W_err, W_noErr, W_fnD, ev_plus, ev_sub, ev_iB, ev_toB, ev_not, ev_neg, ev_isN, ev_notN, ev_isB, ev_int, ev_abs, ev_max, ev_min, ev_eqI, ev_neI, Ms.isNon, Option.some.injEq, exists_eq_left', List.getElem?_cons_zero, List.getElem?_cons_succ, List.set_cons_zero, List.set_cons_succ, List.map_cons, List.map_nil, List.cons_append, List.nil_append, List.length_cons, List.length_nil, List.reduceReplicate, Nat.reduceAdd, Nat.reduceSub, Bool.not_true, Bool.not_false, Bool.false_eq_true, Bool.true_eq_false, if_true, if_false, decide_true, decide_false, D.int.injEq, D.bl.injEq, D.ref.injEq, exists_and_left, hp]
  rw [WS_seq, WS_unp]
  simp only [WS_next, W_B, W_f1, W_f2, W_fA, W_cons, W_pur, W_var, W_not, W_ifT, W_ifB, W_call, W_callK, W_chain, W_wk, W_sl, W_po, W_poN, W_ok, W_err, W_noErr, W_fnD, ev_plus, ev_sub, ev_iB, ev_toB, ev_not, ev_neg, ev_isN, ev_notN, ev_isB, ev_int, ev_abs, ev_max, ev_min, ev_eqI, ev_neI, Ms.isNon, Option.some.injEq, exists_eq_left', List.getElem?_cons_zero, List.getElem?_cons_succ, List.set_cons_zero, List.set_cons_succ, List.map_cons, List.map_nil, List.cons_append, List.nil_append, List.length_cons, List.length_nil, List.reduceReplicate, Nat.reduceAdd, Nat.reduceSub, Bool.not_true, Bool.not_false, Bool.false_eq_true, Bool.true_eq_false, if_true, if_false, decide_true, decide_false, D.int.injEq, D.bl.injEq, D.ref.injEq, exists_and_left, h.vs, tl, Option.bind_some, setAll]
  rw [WS_seq, WS_if]
  simp only [WS_next, W_B, W_f1, W_f2, W_fA, W_cons, W_pur, W_var, W_not, W_ifT, W_ifB, W_call, W_callK, W_chain, W_wk, W_sl, W_po, W_poN, W_ok, W_err, W_noErr, W_fnD, ev_plus, ev_sub, ev_iB, ev_toB, ev_not, ev_neg, ev_isN, ev_notN, ev_isB, ev_int, ev_abs, ev_max, ev_min, ev_eqI, ev_neI, Ms.isNon, Option.some.injEq, exists_eq_left', List.getElem?_cons_zero, List.getElem?_cons_succ, List.set_cons_zero, List.set_cons_succ, List.map_cons, List.map_nil, List.cons_append, List.nil_append, List.length_cons, List.length_nil, List.reduceReplicate, Nat.reduceAdd, Nat.reduceSub, Bool.not_true, Bool.not_false, Bool.false_eq_true, Bool.true_eq_false, if_true, if_false, decide_true, decide_false, D.int.injEq, D.bl.injEq, D.ref.injEq, exists_and_left, m_int (d := .int a) rfl, m_int (d := .int z) rfl, m_num (d := .int r) rfl, m_num (d := .int n) rfl, isI, ir, i_n]
  rw [WS_seq, WS_if]
  simp only [WS_next, W_B, W_f1, W_f2, W_fA, W_cons, W_pur, W_var, W_not, W_ifT, W_ifB, W_call, W_callK, W_chain, W_wk, W_sl, W_po, W_poN, W_ok, W_err, W_noErr, W_fnD, ev_plus, ev_sub, ev_iB, ev_toB, ev_not, ev_neg, ev_isN, ev_notN, ev_isB, ev_int, ev_abs, ev_max, ev_min, ev_eqI, ev_neI, Ms.isNon, Option.some.injEq, exists_eq_left', List.getElem?_cons_zero, List.getElem?_cons_succ, List.set_cons_zero, List.set_cons_succ, List.map_cons, List.map_nil, List.cons_append, List.nil_append, List.length_cons, List.length_nil, List.reduceReplicate, Nat.reduceAdd, Nat.reduceSub, Bool.not_true, Bool.not_false, Bool.false_eq_true, Bool.true_eq_false, if_true, if_false, decide_true, decide_false, D.int.injEq, D.bl.injEq, D.ref.injEq, exists_and_left, r0, mulr hr]
  rw [if_neg (by simpa using ab), WS_next, WS_seq, WS_ret]
  simp only [WS_next, W_B, W_f1, W_f2, W_fA, W_cons, W_pur, W_var, W_not, W_ifT, W_ifB, W_call, W_callK, W_chain, W_wk, W_sl, W_po, W_poN, W_ok, W_err, W_noErr, W_fnD, ev_plus, ev_sub, ev_iB, ev_toB, ev_not, ev_neg, ev_isN, ev_notN, ev_isB, ev_int, ev_abs, ev_max, ev_min, ev_eqI, ev_neI, Ms.isNon, Option.some.injEq, exists_eq_left', List.getElem?_cons_zero, List.getElem?_cons_succ, List.set_cons_zero, List.set_cons_succ, List.map_cons, List.map_nil, List.cons_append, List.nil_append, List.length_cons, List.length_nil, List.reduceReplicate, Nat.reduceAdd, Nat.reduceSub, Bool.not_true, Bool.not_false, Bool.false_eq_true, Bool.true_eq_false, if_true, if_false, decide_true, decide_false, D.int.injEq, D.bl.injEq, D.ref.injEq, exists_and_left]
  exact ⟨_, h.tupOf bx, rfl, trivial⟩)
theorem maxE {i j : Int} : (if j > i then j else i) = max i j := by split <;> omega
theorem minE {i j : Int} : (if j < i then j else i) = min i j := by split <;> omega
theorem low_ok {a z r n t : Int} (hr : r = 1 ∨ r = 2) (bx : Sto) : m__low [.tup (tl a z r n), .int t] bx = .ok (.int (Tent.lo a z r n t)) bx := W.eq (by
  unfold m__low S__low N__low
  rw [W_noErr, W_fnD, WS_seq, WS_unp]
  simp only [WS_next, W_B, W_f1, W_f2, W_fA, W_cons, W_pur, W_var, W_not, W_ifT, W_ifB, W_call, W_callK, W_chain, W_wk, W_sl, W_po, W_poN, W_ok, W_err, W_noErr, W_fnD, ev_plus, ev_sub, ev_iB, ev_toB, ev_not, ev_neg, ev_isN, ev_notN, ev_isB, ev_int, ev_abs, ev_max, ev_min, ev_eqI, ev_neI, Ms.isNon, Option.some.injEq, exists_eq_left', List.getElem?_cons_zero, List.getElem?_cons_succ, List.set_cons_zero, List.set_cons_succ, List.map_cons, List.map_nil, List.cons_append, List.nil_append, List.length_cons, List.length_nil, List.reduceReplicate, Nat.reduceAdd, Nat.reduceSub, Bool.not_true, Bool.not_false, Bool.false_eq_true, Bool.true_eq_false, if_true, if_false, decide_true, decide_false, D.int.injEq, D.bl.injEq, D.ref.injEq, exists_and_left, vs_tup, tl, Option.bind_some, setAll]
  rw [WS_seq, WS_ret]
  simp only [WS_next, W_B, W_f1, W_f2, W_fA, W_cons, W_pur, W_var, W_not, W_ifT, W_ifB, W_call, W_callK, W_chain, W_wk, W_sl, W_po, W_poN, W_ok, W_err, W_noErr, W_fnD, ev_plus, ev_sub, ev_iB, ev_toB, ev_not, ev_neg, ev_isN, ev_notN, ev_isB, ev_int, ev_abs, ev_max, ev_min, ev_eqI, ev_neI, Ms.isNon, Option.some.injEq, exists_eq_left', List.getElem?_cons_zero, List.getElem?_cons_succ, List.set_cons_zero, List.set_cons_succ, List.map_cons, List.map_nil, List.cons_append, List.nil_append, List.length_cons, List.length_nil, List.reduceReplicate, Nat.reduceAdd, Nat.reduceSub, Bool.not_true, Bool.not_false, Bool.false_eq_true, Bool.true_eq_false, if_true, if_false, decide_true, decide_false, D.int.injEq, D.bl.injEq, D.ref.injEq, exists_and_left, mulr hr, maxE, minE]
  exact ⟨rfl, trivial⟩)
theorem high_ok {a z r n t : Int} (hr : r = 1 ∨ r = 2) (bx : Sto) : m__high [.tup (tl a z r n), .int t] bx = .ok (.int (Tent.hi a z r n t)) bx := W.eq (by
  unfold m__high S__high N__high
  rw [W_noErr, W_fnD, WS_seq, WS_unp]
  simp only [WS_next, W_B, W_f1, W_f2, W_fA, W_cons, W_pur, W_var, W_not, W_ifT, W_ifB, W_call, W_callK, W_chain, W_wk, W_sl, W_po, W_poN, W_ok, W_err, W_noErr, W_fnD, ev_plus, ev_sub, ev_iB, ev_toB, ev_not, ev_neg, ev_isN, ev_notN, ev_isB, ev_int, ev_abs, ev_max, ev_min, ev_eqI, ev_neI, Ms.isNon, Option.some.injEq, exists_eq_left', List.getElem?_cons_zero, List.getElem?_cons_succ, List.set_cons_zero, List.set_cons_succ, List.map_cons, List.map_nil, List.cons_append, List.nil_append, List.length_cons, List.length_nil, List.reduceReplicate, Nat.reduceAdd, Nat.reduceSub, Bool.not_true, Bool.not_false, Bool.false_eq_true, Bool.true_eq_false, if_true, if_false, decide_true, decide_false, D.int.injEq, D.bl.injEq, D.ref.injEq, exists_and_left, vs_tup, tl, Option.bind_some, setAll]
  rw [WS_seq, WS_ret]
  simp only [WS_next, W_B, W_f1, W_f2, W_fA, W_cons, W_pur, W_var, W_not, W_ifT, W_ifB, W_call, W_callK, W_chain, W_wk, W_sl, W_po, W_poN, W_ok, W_err, W_noErr, W_fnD, ev_plus, ev_sub, ev_iB, ev_toB, ev_not, ev_neg, ev_isN, ev_notN, ev_isB, ev_int, ev_abs, ev_max, ev_min, ev_eqI, ev_neI, Ms.isNon, Option.some.injEq, exists_eq_left', List.getElem?_cons_zero, List.getElem?_cons_succ, List.set_cons_zero, List.set_cons_succ, List.map_cons, List.map_nil, List.cons_append, List.nil_append, List.length_cons, List.length_nil, List.reduceReplicate, Nat.reduceAdd, Nat.reduceSub, Bool.not_true, Bool.not_false, Bool.false_eq_true, Bool.true_eq_false, if_true, if_false, decide_true, decide_false, D.int.injEq, D.bl.injEq, D.ref.injEq, exists_and_left, mulr hr, maxE, minE]
  exact ⟨rfl, trivial⟩)
theorem highest_ok {a z r n : Int} {d : D} (h : Seq2 d (tl a z r n)) (o : Tent.Ok a z r n) (bx : Sto) : m_highest [d] bx = .ok (.int (Tent.topV a z r n)) bx := W.eq (by
  have hr := o.hr
  have dv : ∀ (bx : Sto) (x : Int), cDiv bx (.int x) (.int (2 * r)) = some (.int (x / (2 * r))) := fun bx x => ev_div (by omega) (by omega)
  have m2 : ∀ bx : Sto, cMul bx (.int 2) (.int r) = some (.int (2 * r)) := fun bx => ev_mulL (by decide)
  unfold m_highest S_highest N_highest
  rw [W_fnD, WS_seq, WS_set]
  simp only [WS_next, W_B, W_f1, W_f2, W_fA, W_cons, W_pur, W_var, W_not, W_ifT, W_ifB, W_call, W_callK, W_chain, W_wk, W_sl, W_po, W_poN, W_ok, W_err, W_noErr, W_fnD, ev_plus, ev_sub, ev_iB, ev_toB, ev_not, ev_neg, ev_isN, ev_notN, ev_isB, ev_int, ev_abs, ev_max, ev_min, ev_eqI, ev_neI, Ms.isNon, Option.some.injEq, exists_eq_left', List.getElem?_cons_zero, List.getElem?_cons_succ, List.set_cons_zero, List.set_cons_succ, List.map_cons, List.map_nil, List.cons_append, List.nil_append, List.length_cons, List.length_nil, List.reduceReplicate, Nat.reduceAdd, Nat.reduceSub, Bool.not_true, Bool.not_false, Bool.false_eq_true, Bool.true_eq_false, if_true, if_false, decide_true, decide_false, D.int.injEq, D.bl.injEq, D.ref.injEq, exists_and_left, check_ok h o]
  rw [WS_seq, WS_unp]
  simp only [WS_next, W_B, W_f1, W_f2, W_fA, W_cons, W_pur, W_var, W_not, W_ifT, W_ifB, W_call, W_callK, W_chain, W_wk, W_sl, W_po, W_poN, W_ok, W_err, W_noErr, W_fnD, ev_plus, ev_sub, ev_iB, ev_toB, ev_not, ev_neg, ev_isN, ev_notN, ev_isB, ev_int, ev_abs, ev_max, ev_min, ev_eqI, ev_neI, Ms.isNon, Option.some.injEq, exists_eq_left', List.getElem?_cons_zero, List.getElem?_cons_succ, List.set_cons_zero, List.set_cons_succ, List.map_cons, List.map_nil, List.cons_append, List.nil_append, List.length_cons, List.length_nil, List.reduceReplicate, Nat.reduceAdd, Nat.reduceSub, Bool.not_true, Bool.not_false, Bool.false_eq_true, Bool.true_eq_false, if_true, if_false, decide_true, decide_false, D.int.injEq, D.bl.injEq, D.ref.injEq, exists_and_left, vs_tup, tl, Option.bind_some, setAll]
  rw [WS_seq, WS_set]
  simp only [WS_next, W_B, W_f1, W_f2, W_fA, W_cons, W_pur, W_var, W_not, W_ifT, W_ifB, W_call, W_callK, W_chain, W_wk, W_sl, W_po, W_poN, W_ok, W_err, W_noErr, W_fnD, ev_plus, ev_sub, ev_iB, ev_toB, ev_not, ev_neg, ev_isN, ev_notN, ev_isB, ev_int, ev_abs, ev_max, ev_min, ev_eqI, ev_neI, Ms.isNon, Option.some.injEq, exists_eq_left', List.getElem?_cons_zero, List.getElem?_cons_succ, List.set_cons_zero, List.set_cons_succ, List.map_cons, List.map_nil, List.cons_append, List.nil_append, List.length_cons, List.length_nil, List.reduceReplicate, Nat.reduceAdd, Nat.reduceSub, Bool.not_true, Bool.not_false, Bool.false_eq_true, Bool.true_eq_false, if_true, if_false, decide_true, decide_false, D.int.injEq, D.bl.injEq, D.ref.injEq, exists_and_left, mulr hr, m2, dv]
  rw [WS_seq, WS_ret]
  have hh := fun (t : Int) (bx : Sto) => high_ok (a := a) (z := z) (n := n) (t := t) hr bx
  unfold tl at hh
  simp only [WS_next, W_B, W_f1, W_f2, W_fA, W_cons, W_pur, W_var, W_not, W_ifT, W_ifB, W_call, W_callK, W_chain, W_wk, W_sl, W_po, W_poN, W_ok, W_err, W_noErr, W_fnD, ev_plus, ev_sub, ev_iB, ev_toB, ev_not, ev_neg, ev_isN, ev_notN, ev_isB, ev_int, ev_abs, ev_max, ev_min, ev_eqI, ev_neI, Ms.isNon, Option.some.injEq, exists_eq_left', List.getElem?_cons_zero, List.getElem?_cons_succ, List.set_cons_zero, List.set_cons_succ, List.map_cons, List.map_nil, List.cons_append, List.nil_append, List.length_cons, List.length_nil, List.reduceReplicate, Nat.reduceAdd, Nat.reduceSub, Bool.not_true, Bool.not_false, Bool.false_eq_true, Bool.true_eq_false, if_true, if_false, decide_true, decide_false, D.int.injEq, D.bl.injEq, D.ref.injEq, exists_and_left, hh, maxE, minE]
  exact ⟨rfl, trivial⟩)
theorem lowest_ok {a z r n : Int} {d : D} (h : Seq2 d (tl a z r n)) (o : Tent.Ok a z r n) (bx : Sto) : m_lowest [d] bx = .ok (.int (-Tent.topV (-a) (-z) r n)) bx := W.eq (by
  unfold m_lowest S_lowest N_lowest
  rw [W_fnD, WS_seq, WS_unp]
  simp only [WS_next, W_B, W_f1, W_f2, W_fA, W_cons, W_pur, W_var, W_not, W_ifT, W_ifB, W_call, W_callK, W_chain, W_wk, W_sl, W_po, W_poN, W_ok, W_err, W_noErr, W_fnD, ev_plus, ev_sub, ev_iB, ev_toB, ev_not, ev_neg, ev_isN, ev_notN, ev_isB, ev_int, ev_abs, ev_max, ev_min, ev_eqI, ev_neI, Ms.isNon, Option.some.injEq, exists_eq_left', List.getElem?_cons_zero, List.getElem?_cons_succ, List.set_cons_zero, List.set_cons_succ, List.map_cons, List.map_nil, List.cons_append, List.nil_append, List.length_cons, List.length_nil, List.reduceReplicate, Nat.reduceAdd, Nat.reduceSub, Bool.not_true, Bool.not_false, Bool.false_eq_true, Bool.true_eq_false, if_true, if_false, decide_true, decide_false, D.int.injEq, D.bl.injEq, D.ref.injEq, exists_and_left, check_ok h o]
  simp only [vs_tup, tl, Option.bind_some, setAll, WS_next, W_B, W_f1, W_f2, W_fA, W_cons, W_pur, W_var, W_not, W_ifT, W_ifB, W_call, W_callK, W_chain, W_wk, W_sl, W_po, W_poN, W_ok, W_err, W_noErr, W_fnD, ev_plus, ev_sub, ev_iB, ev_toB, ev_not, ev_neg, ev_isN, ev_notN, ev_isB, ev_int, ev_abs, ev_max, ev_min, ev_eqI, ev_neI, Ms.isNon, Option.some.injEq, exists_eq_left', List.getElem?_cons_zero, List.getElem?_cons_succ, List.set_cons_zero, List.set_cons_succ, List.map_cons, List.map_nil, List.cons_append, List.nil_append, List.length_cons, List.length_nil, List.reduceReplicate, Nat.reduceAdd, Nat.reduceSub, Bool.not_true, Bool.not_false, Bool.false_eq_true, Bool.true_eq_false, if_true, if_false, decide_true, decide_false, D.int.injEq, D.bl.injEq, D.ref.injEq, exists_and_left]
  rw [WS_seq, WS_ret]
  have hh := fun (bx : Sto) => highest_ok (.inr rfl) (Tent.ok_neg o) bx
  unfold tl at hh
  simp only [WS_next, W_B, W_f1, W_f2, W_fA, W_cons, W_pur, W_var, W_not, W_ifT, W_ifB, W_call, W_callK, W_chain, W_wk, W_sl, W_po, W_poN, W_ok, W_err, W_noErr, W_fnD, ev_plus, ev_sub, ev_iB, ev_toB, ev_not, ev_neg, ev_isN, ev_notN, ev_isB, ev_int, ev_abs, ev_max, ev_min, ev_eqI, ev_neI, Ms.isNon, Option.some.injEq, exists_eq_left', List.getElem?_cons_zero, List.getElem?_cons_succ, List.set_cons_zero, List.set_cons_succ, List.map_cons, List.map_nil, List.cons_append, List.nil_append, List.length_cons, List.length_nil, List.reduceReplicate, Nat.reduceAdd, Nat.reduceSub, Bool.not_true, Bool.not_false, Bool.false_eq_true, Bool.true_eq_false, if_true, if_false, decide_true, decide_false, D.int.injEq, D.bl.injEq, D.ref.injEq, exists_and_left, ev_tup (show [D.int (-a), D.int (-z), D.int r, D.int n].length ≤ 1000 by show 4 ≤ 1000; decide), hh, and_self])
theorem limit_ok {a z r n l : Int} {d : D} (h : Seq2 d (tl a z r n)) (o : Tent.Ok a z r n) (bx : Sto) : m__checked_limit [d, .int l] bx = .ok (.tup (tl a z r n)) bx := W.eq (by
  unfold m__checked_limit S__checked_limit N__checked_limit
  rw [W_fnD, WS_seq, WS_set]
  simp only [WS_next, W_B, W_f1, W_f2, W_fA, W_cons, W_pur, W_var, W_not, W_ifT, W_ifB, W_call, W_callK, W_chain, W_wk, W_sl, W_po, W_poN, W_ok, W_err, W_noErr, W_fnD, ev_plus, ev_sub, ev_iB, ev_toB, ev_not, ev_neg, ev_isN, ev_notN, ev_isB, ev_int, ev_abs, ev_max, ev_min, ev_eqI, ev_neI, Ms.isNon, Option.some.injEq, exists_eq_left', List.getElem?_cons_zero, List.getElem?_cons_succ, List.set_cons_zero, List.set_cons_succ, List.map_cons, List.map_nil, List.cons_append, List.nil_append, List.length_cons, List.length_nil, List.reduceReplicate, Nat.reduceAdd, Nat.reduceSub, Bool.not_true, Bool.not_false, Bool.false_eq_true, Bool.true_eq_false, if_true, if_false, decide_true, decide_false, D.int.injEq, D.bl.injEq, D.ref.injEq, exists_and_left, check_ok h o]
  rw [WS_seq, WS_drop]
  simp only [WS_next, W_B, W_f1, W_f2, W_fA, W_cons, W_pur, W_var, W_not, W_ifT, W_ifB, W_call, W_callK, W_chain, W_wk, W_sl, W_po, W_poN, W_ok, W_err, W_noErr, W_fnD, ev_plus, ev_sub, ev_iB, ev_toB, ev_not, ev_neg, ev_isN, ev_notN, ev_isB, ev_int, ev_abs, ev_max, ev_min, ev_eqI, ev_neI, Ms.isNon, Option.some.injEq, exists_eq_left', List.getElem?_cons_zero, List.getElem?_cons_succ, List.set_cons_zero, List.set_cons_succ, List.map_cons, List.map_nil, List.cons_append, List.nil_append, List.length_cons, List.length_nil, List.reduceReplicate, Nat.reduceAdd, Nat.reduceSub, Bool.not_true, Bool.not_false, Bool.false_eq_true, Bool.true_eq_false, if_true, if_false, decide_true, decide_false, D.int.injEq, D.bl.injEq, D.ref.injEq, exists_and_left, needI_ok (d := .int l) rfl rfl]
  rw [WS_seq, WS_ret]
  simp only [WS_next, W_B, W_f1, W_f2, W_fA, W_cons, W_pur, W_var, W_not, W_ifT, W_ifB, W_call, W_callK, W_chain, W_wk, W_sl, W_po, W_poN, W_ok, W_err, W_noErr, W_fnD, ev_plus, ev_sub, ev_iB, ev_toB, ev_not, ev_neg, ev_isN, ev_notN, ev_isB, ev_int, ev_abs, ev_max, ev_min, ev_eqI, ev_neI, Ms.isNon, Option.some.injEq, exists_eq_left', List.getElem?_cons_zero, List.getElem?_cons_succ, List.set_cons_zero, List.set_cons_succ, List.map_cons, List.map_nil, List.cons_append, List.nil_append, List.length_cons, List.length_nil, List.reduceReplicate, Nat.reduceAdd, Nat.reduceSub, Bool.not_true, Bool.not_false, Bool.false_eq_true, Bool.true_eq_false, if_true, if_false, decide_true, decide_false, D.int.injEq, D.bl.injEq, D.ref.injEq, exists_and_left, and_self])
theorem limit_bad1 {d e x : D} {bx : Sto} (h : m_check_tent [d] bx = .err "Refused" x bx) : m__checked_limit [d, e] bx = .err "Refused" x bx := W.eqE (by
  unfold m__checked_limit S__checked_limit N__checked_limit
  simp only [WS_seq, WS_if, WS_set, WS_ret, WS_drop, WS_raise, WS_next, WS_unp, WS_par, WS_for, W_B, W_f1, W_f2, W_fA, W_cons, W_pur, W_var, W_not, W_ifT, W_ifB, W_call, W_callK, W_chain, W_wk, W_sl, W_po, W_poN, W_ok, W_err, W_noErr, W_fnD, ev_plus, ev_sub, ev_iB, ev_toB, ev_not, ev_neg, ev_isN, ev_notN, ev_isB, ev_int, ev_abs, ev_max, ev_min, ev_eqI, ev_neI, Ms.isNon, Option.some.injEq, exists_eq_left', List.getElem?_cons_zero, List.getElem?_cons_succ, List.set_cons_zero, List.set_cons_succ, List.map_cons, List.map_nil, List.cons_append, List.nil_append, List.length_cons, List.length_nil, List.reduceReplicate, Nat.reduceAdd, Nat.reduceSub, Bool.not_true, Bool.not_false, Bool.false_eq_true, Bool.true_eq_false, if_true, if_false, decide_true, decide_false, D.int.injEq, D.bl.injEq, D.ref.injEq, exists_and_left, h, and_self])
theorem limit_bad2 {a z r n : Int} {d e : D} (h : Seq2 d (tl a z r n)) (o : Tent.Ok a z r n) (he : e.cl = true) (hi : isI e = false) (bx : Sto) : m__checked_limit [d, e] bx = .err "Refused" e bx := W.eqE (by
  unfold m__checked_limit S__checked_limit N__checked_limit
  rw [W_fnD, WS_seq, WS_set]
  simp only [WS_next, W_B, W_f1, W_f2, W_fA, W_cons, W_pur, W_var, W_not, W_ifT, W_ifB, W_call, W_callK, W_chain, W_wk, W_sl, W_po, W_poN, W_ok, W_err, W_noErr, W_fnD, ev_plus, ev_sub, ev_iB, ev_toB, ev_not, ev_neg, ev_isN, ev_notN, ev_isB, ev_int, ev_abs, ev_max, ev_min, ev_eqI, ev_neI, Ms.isNon, Option.some.injEq, exists_eq_left', List.getElem?_cons_zero, List.getElem?_cons_succ, List.set_cons_zero, List.set_cons_succ, List.map_cons, List.map_nil, List.cons_append, List.nil_append, List.length_cons, List.length_nil, List.reduceReplicate, Nat.reduceAdd, Nat.reduceSub, Bool.not_true, Bool.not_false, Bool.false_eq_true, Bool.true_eq_false, if_true, if_false, decide_true, decide_false, D.int.injEq, D.bl.injEq, D.ref.injEq, exists_and_left, check_ok h o]
  rw [WS_seq, WS_drop]
  simp only [WS_next, W_B, W_f1, W_f2, W_fA, W_cons, W_pur, W_var, W_not, W_ifT, W_ifB, W_call, W_callK, W_chain, W_wk, W_sl, W_po, W_poN, W_ok, W_err, W_noErr, W_fnD, ev_plus, ev_sub, ev_iB, ev_toB, ev_not, ev_neg, ev_isN, ev_notN, ev_isB, ev_int, ev_abs, ev_max, ev_min, ev_eqI, ev_neI, Ms.isNon, Option.some.injEq, exists_eq_left', List.getElem?_cons_zero, List.getElem?_cons_succ, List.set_cons_zero, List.set_cons_succ, List.map_cons, List.map_nil, List.cons_append, List.nil_append, List.length_cons, List.length_nil, List.reduceReplicate, Nat.reduceAdd, Nat.reduceSub, Bool.not_true, Bool.not_false, Bool.false_eq_true, Bool.true_eq_false, if_true, if_false, decide_true, decide_false, D.int.injEq, D.bl.injEq, D.ref.injEq, exists_and_left, needI_bad he hi, and_self])
theorem surely_ok {v l r : Int} (hr : r = 1 ∨ r = 2) (bx : Sto) : m__surely_behind [.int v, .int l, .int r] bx = .ok (.int (Tent.sureB v l r)) bx := W.eq (by
  have dv : ∀ (bx : Sto) (x : Int), cDiv bx (.int x) (.int r) = some (.int (x / r)) := fun bx x => ev_div (by omega) (by omega)
  unfold m__surely_behind S__surely_behind N__surely_behind
  rw [W_noErr, W_fnD, WS_seq, WS_ret]
  simp only [WS_next, W_B, W_f1, W_f2, W_fA, W_cons, W_pur, W_var, W_not, W_ifT, W_ifB, W_call, W_callK, W_chain, W_wk, W_sl, W_po, W_poN, W_ok, W_err, W_noErr, W_fnD, ev_plus, ev_sub, ev_iB, ev_toB, ev_not, ev_neg, ev_isN, ev_notN, ev_isB, ev_int, ev_abs, ev_max, ev_min, ev_eqI, ev_neI, Ms.isNon, Option.some.injEq, exists_eq_left', List.getElem?_cons_zero, List.getElem?_cons_succ, List.set_cons_zero, List.set_cons_succ, List.map_cons, List.map_nil, List.cons_append, List.nil_append, List.length_cons, List.length_nil, List.reduceReplicate, Nat.reduceAdd, Nat.reduceSub, Bool.not_true, Bool.not_false, Bool.false_eq_true, Bool.true_eq_false, if_true, if_false, decide_true, decide_false, D.int.injEq, D.bl.injEq, D.ref.injEq, exists_and_left, dv, maxE]
  exact ⟨rfl, trivial⟩)
theorem notyet_ok {v l r : Int} (hr : r = 1 ∨ r = 2) (bx : Sto) : m__not_yet_behind [.int v, .int l, .int r] bx = .ok (.int (Tent.notB v l r)) bx := W.eq (by
  have dv : ∀ (bx : Sto) (x : Int), cDiv bx (.int x) (.int r) = some (.int (x / r)) := fun bx x => ev_div (by omega) (by omega)
  unfold m__not_yet_behind S__not_yet_behind N__not_yet_behind
  rw [W_noErr, W_fnD, WS_seq, WS_ret]
  simp only [WS_next, W_B, W_f1, W_f2, W_fA, W_cons, W_pur, W_var, W_not, W_ifT, W_ifB, W_call, W_callK, W_chain, W_wk, W_sl, W_po, W_poN, W_ok, W_err, W_noErr, W_fnD, ev_plus, ev_sub, ev_iB, ev_toB, ev_not, ev_neg, ev_isN, ev_notN, ev_isB, ev_int, ev_abs, ev_max, ev_min, ev_eqI, ev_neI, Ms.isNon, Option.some.injEq, exists_eq_left', List.getElem?_cons_zero, List.getElem?_cons_succ, List.set_cons_zero, List.set_cons_succ, List.map_cons, List.map_nil, List.cons_append, List.nil_append, List.length_cons, List.length_nil, List.reduceReplicate, Nat.reduceAdd, Nat.reduceSub, Bool.not_true, Bool.not_false, Bool.false_eq_true, Bool.true_eq_false, if_true, if_false, decide_true, decide_false, D.int.injEq, D.bl.injEq, D.ref.injEq, exists_and_left, dv, maxE]
  exact ⟨rfl, trivial⟩)
theorem many_ok {a z r n l : Int} {d : D} (h : Seq2 d (tl a z r n)) (o : Tent.Ok a z r n) (bx : Sto) : m_many_above [d, .int l] bx = .ok (.tup [.int (Tent.many a z r n l).1, .int (Tent.many a z r n l).2]) bx := W.eq (by
  have hr := o.hr
  unfold m_many_above S_many_above N_many_above
  rw [W_fnD, WS_seq, WS_unp]
  simp only [WS_next, W_B, W_f1, W_f2, W_fA, W_cons, W_pur, W_var, W_not, W_ifT, W_ifB, W_call, W_callK, W_chain, W_wk, W_sl, W_po, W_poN, W_ok, W_err, W_noErr, W_fnD, ev_plus, ev_sub, ev_iB, ev_toB, ev_not, ev_neg, ev_isN, ev_notN, ev_isB, ev_int, ev_abs, ev_max, ev_min, ev_eqI, ev_neI, Ms.isNon, Option.some.injEq, exists_eq_left', List.getElem?_cons_zero, List.getElem?_cons_succ, List.set_cons_zero, List.set_cons_succ, List.map_cons, List.map_nil, List.cons_append, List.nil_append, List.length_cons, List.length_nil, List.reduceReplicate, Nat.reduceAdd, Nat.reduceSub, Bool.not_true, Bool.not_false, Bool.false_eq_true, Bool.true_eq_false, if_true, if_false, decide_true, decide_false, D.int.injEq, D.bl.injEq, D.ref.injEq, exists_and_left, limit_ok h o]
  simp only [vs_tup, tl, Option.bind_some, setAll, WS_next, W_B, W_f1, W_f2, W_fA, W_cons, W_pur, W_var, W_not, W_ifT, W_ifB, W_call, W_callK, W_chain, W_wk, W_sl, W_po, W_poN, W_ok, W_err, W_noErr, W_fnD, ev_plus, ev_sub, ev_iB, ev_toB, ev_not, ev_neg, ev_isN, ev_notN, ev_isB, ev_int, ev_abs, ev_max, ev_min, ev_eqI, ev_neI, Ms.isNon, Option.some.injEq, exists_eq_left', List.getElem?_cons_zero, List.getElem?_cons_succ, List.set_cons_zero, List.set_cons_succ, List.map_cons, List.map_nil, List.cons_append, List.nil_append, List.length_cons, List.length_nil, List.reduceReplicate, Nat.reduceAdd, Nat.reduceSub, Bool.not_true, Bool.not_false, Bool.false_eq_true, Bool.true_eq_false, if_true, if_false, decide_true, decide_false, D.int.injEq, D.bl.injEq, D.ref.injEq, exists_and_left]
  rw [WS_seq, WS_set]
  simp only [WS_next, W_B, W_f1, W_f2, W_fA, W_cons, W_pur, W_var, W_not, W_ifT, W_ifB, W_call, W_callK, W_chain, W_wk, W_sl, W_po, W_poN, W_ok, W_err, W_noErr, W_fnD, ev_plus, ev_sub, ev_iB, ev_toB, ev_not, ev_neg, ev_isN, ev_notN, ev_isB, ev_int, ev_abs, ev_max, ev_min, ev_eqI, ev_neI, Ms.isNon, Option.some.injEq, exists_eq_left', List.getElem?_cons_zero, List.getElem?_cons_succ, List.set_cons_zero, List.set_cons_succ, List.map_cons, List.map_nil, List.cons_append, List.nil_append, List.length_cons, List.length_nil, List.reduceReplicate, Nat.reduceAdd, Nat.reduceSub, Bool.not_true, Bool.not_false, Bool.false_eq_true, Bool.true_eq_false, if_true, if_false, decide_true, decide_false, D.int.injEq, D.bl.injEq, D.ref.injEq, exists_and_left, surely_ok hr]
  rw [WS_seq, WS_set]
  simp only [WS_next, W_B, W_f1, W_f2, W_fA, W_cons, W_pur, W_var, W_not, W_ifT, W_ifB, W_call, W_callK, W_chain, W_wk, W_sl, W_po, W_poN, W_ok, W_err, W_noErr, W_fnD, ev_plus, ev_sub, ev_iB, ev_toB, ev_not, ev_neg, ev_isN, ev_notN, ev_isB, ev_int, ev_abs, ev_max, ev_min, ev_eqI, ev_neI, Ms.isNon, Option.some.injEq, exists_eq_left', List.getElem?_cons_zero, List.getElem?_cons_succ, List.set_cons_zero, List.set_cons_succ, List.map_cons, List.map_nil, List.cons_append, List.nil_append, List.length_cons, List.length_nil, List.reduceReplicate, Nat.reduceAdd, Nat.reduceSub, Bool.not_true, Bool.not_false, Bool.false_eq_true, Bool.true_eq_false, if_true, if_false, decide_true, decide_false, D.int.injEq, D.bl.injEq, D.ref.injEq, exists_and_left, notyet_ok hr]
  rw [WS_seq, WS_ret]
  simp only [WS_next, W_B, W_f1, W_f2, W_fA, W_cons, W_pur, W_var, W_not, W_ifT, W_ifB, W_call, W_callK, W_chain, W_wk, W_sl, W_po, W_poN, W_ok, W_err, W_noErr, W_fnD, ev_plus, ev_sub, ev_iB, ev_toB, ev_not, ev_neg, ev_isN, ev_notN, ev_isB, ev_int, ev_abs, ev_max, ev_min, ev_eqI, ev_neI, Ms.isNon, Option.some.injEq, exists_eq_left', List.getElem?_cons_zero, List.getElem?_cons_succ, List.set_cons_zero, List.set_cons_succ, List.map_cons, List.map_nil, List.cons_append, List.nil_append, List.length_cons, List.length_nil, List.reduceReplicate, Nat.reduceAdd, Nat.reduceSub, Bool.not_true, Bool.not_false, Bool.false_eq_true, Bool.true_eq_false, if_true, if_false, decide_true, decide_false, D.int.injEq, D.bl.injEq, D.ref.injEq, exists_and_left, maxE, minE]
  exact ⟨_, ev_tup (by show 2 ≤ 1000; decide), rfl, trivial⟩)
theorem tick_ok {a z r n t : Int} (h0 : 0 ≤ t) (h1 : t ≤ n) (bx : Sto) : m__need_tick [.tup (tl a z r n), .int t] bx = .ok .non bx := W.eq (by
  have k : inR (.int t) 0 n = true := by unfold inR; simp; omega
  have ix : ∀ bx, cIx bx (.tup (tl a z r n)) (.int 3) = some (.int n) := fun bx => by rw [ev_ix vs_tup]; rfl
  unfold m__need_tick S__need_tick N__need_tick
  rw [W_fnD, WS_seq, WS_drop]
  simp only [WS_next, W_B, W_f1, W_f2, W_fA, W_cons, W_pur, W_var, W_not, W_ifT, W_ifB, W_call, W_callK, W_chain, W_wk, W_sl, W_po, W_poN, W_ok, W_err, W_noErr, W_fnD, ev_plus, ev_sub, ev_iB, ev_toB, ev_not, ev_neg, ev_isN, ev_notN, ev_isB, ev_int, ev_abs, ev_max, ev_min, ev_eqI, ev_neI, Ms.isNon, Option.some.injEq, exists_eq_left', List.getElem?_cons_zero, List.getElem?_cons_succ, List.set_cons_zero, List.set_cons_succ, List.map_cons, List.map_nil, List.cons_append, List.nil_append, List.length_cons, List.length_nil, List.reduceReplicate, Nat.reduceAdd, Nat.reduceSub, Bool.not_true, Bool.not_false, Bool.false_eq_true, Bool.true_eq_false, if_true, if_false, decide_true, decide_false, D.int.injEq, D.bl.injEq, D.ref.injEq, exists_and_left, ix, within_ok (d := .int t) rfl k, and_self])
theorem tick_bad {a z r n : Int} {e : D} (he : e.cl = true) (k : inR e 0 n = false) (bx : Sto) : m__need_tick [.tup (tl a z r n), e] bx = .err "Refused" e bx := W.eqE (by
  have ix : ∀ bx, cIx bx (.tup (tl a z r n)) (.int 3) = some (.int n) := fun bx => by rw [ev_ix vs_tup]; rfl
  unfold m__need_tick S__need_tick N__need_tick
  rw [W_fnD, WS_seq, WS_drop]
  simp only [WS_next, W_B, W_f1, W_f2, W_fA, W_cons, W_pur, W_var, W_not, W_ifT, W_ifB, W_call, W_callK, W_chain, W_wk, W_sl, W_po, W_poN, W_ok, W_err, W_noErr, W_fnD, ev_plus, ev_sub, ev_iB, ev_toB, ev_not, ev_neg, ev_isN, ev_notN, ev_isB, ev_int, ev_abs, ev_max, ev_min, ev_eqI, ev_neI, Ms.isNon, Option.some.injEq, exists_eq_left', List.getElem?_cons_zero, List.getElem?_cons_succ, List.set_cons_zero, List.set_cons_succ, List.map_cons, List.map_nil, List.cons_append, List.nil_append, List.length_cons, List.length_nil, List.reduceReplicate, Nat.reduceAdd, Nat.reduceSub, Bool.not_true, Bool.not_false, Bool.false_eq_true, Bool.true_eq_false, if_true, if_false, decide_true, decide_false, D.int.injEq, D.bl.injEq, D.ref.injEq, exists_and_left, ix, within_bad he k, and_self])
theorem values_ok {a z r n t : Int} {d : D} (h : Seq2 d (tl a z r n)) (o : Tent.Ok a z r n) (h0 : 0 ≤ t) (h1 : t ≤ n) (bx : Sto) : m_values_at [d, .int t] bx = .ok (.tup [.int (Tent.lo a z r n t), .int (Tent.hi a z r n t)]) bx := W.eq (by
  unfold m_values_at S_values_at N_values_at
  rw [W_fnD, WS_seq, WS_set]
  simp only [WS_next, W_B, W_f1, W_f2, W_fA, W_cons, W_pur, W_var, W_not, W_ifT, W_ifB, W_call, W_callK, W_chain, W_wk, W_sl, W_po, W_poN, W_ok, W_err, W_noErr, W_fnD, ev_plus, ev_sub, ev_iB, ev_toB, ev_not, ev_neg, ev_isN, ev_notN, ev_isB, ev_int, ev_abs, ev_max, ev_min, ev_eqI, ev_neI, Ms.isNon, Option.some.injEq, exists_eq_left', List.getElem?_cons_zero, List.getElem?_cons_succ, List.set_cons_zero, List.set_cons_succ, List.map_cons, List.map_nil, List.cons_append, List.nil_append, List.length_cons, List.length_nil, List.reduceReplicate, Nat.reduceAdd, Nat.reduceSub, Bool.not_true, Bool.not_false, Bool.false_eq_true, Bool.true_eq_false, if_true, if_false, decide_true, decide_false, D.int.injEq, D.bl.injEq, D.ref.injEq, exists_and_left, check_ok h o]
  rw [WS_seq, WS_drop]
  simp only [WS_next, W_B, W_f1, W_f2, W_fA, W_cons, W_pur, W_var, W_not, W_ifT, W_ifB, W_call, W_callK, W_chain, W_wk, W_sl, W_po, W_poN, W_ok, W_err, W_noErr, W_fnD, ev_plus, ev_sub, ev_iB, ev_toB, ev_not, ev_neg, ev_isN, ev_notN, ev_isB, ev_int, ev_abs, ev_max, ev_min, ev_eqI, ev_neI, Ms.isNon, Option.some.injEq, exists_eq_left', List.getElem?_cons_zero, List.getElem?_cons_succ, List.set_cons_zero, List.set_cons_succ, List.map_cons, List.map_nil, List.cons_append, List.nil_append, List.length_cons, List.length_nil, List.reduceReplicate, Nat.reduceAdd, Nat.reduceSub, Bool.not_true, Bool.not_false, Bool.false_eq_true, Bool.true_eq_false, if_true, if_false, decide_true, decide_false, D.int.injEq, D.bl.injEq, D.ref.injEq, exists_and_left, tick_ok h0 h1]
  rw [WS_seq, WS_ret]
  simp only [WS_next, W_B, W_f1, W_f2, W_fA, W_cons, W_pur, W_var, W_not, W_ifT, W_ifB, W_call, W_callK, W_chain, W_wk, W_sl, W_po, W_poN, W_ok, W_err, W_noErr, W_fnD, ev_plus, ev_sub, ev_iB, ev_toB, ev_not, ev_neg, ev_isN, ev_notN, ev_isB, ev_int, ev_abs, ev_max, ev_min, ev_eqI, ev_neI, Ms.isNon, Option.some.injEq, exists_eq_left', List.getElem?_cons_zero, List.getElem?_cons_succ, List.set_cons_zero, List.set_cons_succ, List.map_cons, List.map_nil, List.cons_append, List.nil_append, List.length_cons, List.length_nil, List.reduceReplicate, Nat.reduceAdd, Nat.reduceSub, Bool.not_true, Bool.not_false, Bool.false_eq_true, Bool.true_eq_false, if_true, if_false, decide_true, decide_false, D.int.injEq, D.bl.injEq, D.ref.injEq, exists_and_left, low_ok o.hr, high_ok o.hr]
  exact ⟨_, ev_tup (by show 2 ≤ 1000; decide), rfl, trivial⟩)
theorem values_bad {a z r n : Int} {d e : D} (h : Seq2 d (tl a z r n)) (o : Tent.Ok a z r n) (he : e.cl = true) (k : inR e 0 n = false) (bx : Sto) : m_values_at [d, e] bx = .err "Refused" e bx := W.eqE (by
  unfold m_values_at S_values_at N_values_at
  rw [W_fnD, WS_seq, WS_set]
  simp only [WS_next, W_B, W_f1, W_f2, W_fA, W_cons, W_pur, W_var, W_not, W_ifT, W_ifB, W_call, W_callK, W_chain, W_wk, W_sl, W_po, W_poN, W_ok, W_err, W_noErr, W_fnD, ev_plus, ev_sub, ev_iB, ev_toB, ev_not, ev_neg, ev_isN, ev_notN, ev_isB, ev_int, ev_abs, ev_max, ev_min, ev_eqI, ev_neI, Ms.isNon, Option.some.injEq, exists_eq_left', List.getElem?_cons_zero, List.getElem?_cons_succ, List.set_cons_zero, List.set_cons_succ, List.map_cons, List.map_nil, List.cons_append, List.nil_append, List.length_cons, List.length_nil, List.reduceReplicate, Nat.reduceAdd, Nat.reduceSub, Bool.not_true, Bool.not_false, Bool.false_eq_true, Bool.true_eq_false, if_true, if_false, decide_true, decide_false, D.int.injEq, D.bl.injEq, D.ref.injEq, exists_and_left, check_ok h o]
  rw [WS_seq, WS_drop]
  simp only [WS_next, W_B, W_f1, W_f2, W_fA, W_cons, W_pur, W_var, W_not, W_ifT, W_ifB, W_call, W_callK, W_chain, W_wk, W_sl, W_po, W_poN, W_ok, W_err, W_noErr, W_fnD, ev_plus, ev_sub, ev_iB, ev_toB, ev_not, ev_neg, ev_isN, ev_notN, ev_isB, ev_int, ev_abs, ev_max, ev_min, ev_eqI, ev_neI, Ms.isNon, Option.some.injEq, exists_eq_left', List.getElem?_cons_zero, List.getElem?_cons_succ, List.set_cons_zero, List.set_cons_succ, List.map_cons, List.map_nil, List.cons_append, List.nil_append, List.length_cons, List.length_nil, List.reduceReplicate, Nat.reduceAdd, Nat.reduceSub, Bool.not_true, Bool.not_false, Bool.false_eq_true, Bool.true_eq_false, if_true, if_false, decide_true, decide_false, D.int.injEq, D.bl.injEq, D.ref.injEq, exists_and_left, tick_bad he k, and_self])
end K16

end
section
set_option Elab.async false
set_option linter.all false
set_option maxRecDepth 100000
set_option maxHeartbeats 4000000
namespace K16
open PySem PySem.Spec PyProof.Rows L2 Ms
theorem rgl_rg {n : Nat} : rgl 0 n = (rg 0 n).map D.int := rgl_eq
theorem ix3 {a z r n : Int} (bx : Sto) : cIx bx (.tup (tl a z r n)) (.int 3) = some (.int n) := by rw [ev_ix vs_tup]; rfl
theorem above_ok {a z r l : Int} {n : Nat} {d : D} (h : Seq2 d (tl a z r n)) (o : Tent.Ok a z r n) (n40 : n ≤ 40) (bx : Sto) : m_above_at [d, .int l] bx = .ok (.tup (((rg 0 (n + 1)).filter fun t => decide (l < Tent.lo a z r n t)).map D.int)) bx := W.eq (by
  unfold m_above_at S_above_at N_above_at
  rw [W_fnD, WS_seq, WS_set]
  simp only [WS_next, W_B, W_f1, W_f2, W_fA, W_cons, W_pur, W_var, W_not, W_ifT, W_ifB, W_call, W_callK, W_chain, W_wk, W_sl, W_po, W_poN, W_ok, W_err, W_noErr, W_fnD, ev_plus, ev_sub, ev_iB, ev_toB, ev_not, ev_neg, ev_isN, ev_notN, ev_isB, ev_int, ev_abs, ev_max, ev_min, ev_eqI, ev_neI, Ms.isNon, Option.some.injEq, exists_eq_left', List.getElem?_cons_zero, List.getElem?_cons_succ, List.set_cons_zero, List.set_cons_succ, List.map_cons, List.map_nil, List.cons_append, List.nil_append, List.length_cons, List.length_nil, List.reduceReplicate, Nat.reduceAdd, Nat.reduceSub, Bool.not_true, Bool.not_false, Bool.false_eq_true, Bool.true_eq_false, if_true, if_false, decide_true, decide_false, D.int.injEq, D.bl.injEq, D.ref.injEq, exists_and_left, limit_ok h o]
  rw [WS_seq, WS_ret, W_fA, W_cons, W_lc, W_lcA]
  simp only [WS_next, W_B, W_f1, W_f2, W_fA, W_cons, W_pur, W_var, W_not, W_ifT, W_ifB, W_call, W_callK, W_chain, W_wk, W_sl, W_po, W_poN, W_ok, W_err, W_noErr, W_fnD, ev_plus, ev_sub, ev_iB, ev_toB, ev_not, ev_neg, ev_isN, ev_notN, ev_isB, ev_int, ev_abs, ev_max, ev_min, ev_eqI, ev_neI, Ms.isNon, Option.some.injEq, exists_eq_left', List.getElem?_cons_zero, List.getElem?_cons_succ, List.set_cons_zero, List.set_cons_succ, List.map_cons, List.map_nil, List.cons_append, List.nil_append, List.length_cons, List.length_nil, List.reduceReplicate, Nat.reduceAdd, Nat.reduceSub, Bool.not_true, Bool.not_false, Bool.false_eq_true, Bool.true_eq_false, if_true, if_false, decide_true, decide_false, D.int.injEq, D.bl.injEq, D.ref.injEq, exists_and_left, ix3, W_rg1]
  refine ⟨_, rfl, by omega, by omega, ?_⟩
  have tn : ((n : Int) + 1).toNat = n + 1 := by omega
  rw [tn, rgl_rg]
  refine ⟨by rw [List.length_map, rg_len]; omega, ?_⟩
  rw [lcI (p := fun t => decide (l < Tent.lo a z r n t)) (g := fun t => t) fun w hw => ⟨W.eq (by simp only [unset, List.foldl_cons, List.foldl_nil, WS_next, W_B, W_f1, W_f2, W_fA, W_cons, W_pur, W_var, W_not, W_ifT, W_ifB, W_call, W_callK, W_chain, W_wk, W_sl, W_po, W_poN, W_ok, W_err, W_noErr, W_fnD, ev_plus, ev_sub, ev_iB, ev_toB, ev_not, ev_neg, ev_isN, ev_notN, ev_isB, ev_int, ev_abs, ev_max, ev_min, ev_eqI, ev_neI, Ms.isNon, Option.some.injEq, exists_eq_left', List.getElem?_cons_zero, List.getElem?_cons_succ, List.set_cons_zero, List.set_cons_succ, List.map_cons, List.map_nil, List.cons_append, List.nil_append, List.length_cons, List.length_nil, List.reduceReplicate, Nat.reduceAdd, Nat.reduceSub, Bool.not_true, Bool.not_false, Bool.false_eq_true, Bool.true_eq_false, if_true, if_false, decide_true, decide_false, D.int.injEq, D.bl.injEq, D.ref.injEq, exists_and_left, low_ok o.hr, and_self]), fun _ => W.eq (by simp only [unset, List.foldl_cons, List.foldl_nil, WS_next, W_B, W_f1, W_f2, W_fA, W_cons, W_pur, W_var, W_not, W_ifT, W_ifB, W_call, W_callK, W_chain, W_wk, W_sl, W_po, W_poN, W_ok, W_err, W_noErr, W_fnD, ev_plus, ev_sub, ev_iB, ev_toB, ev_not, ev_neg, ev_isN, ev_notN, ev_isB, ev_int, ev_abs, ev_max, ev_min, ev_eqI, ev_neI, Ms.isNon, Option.some.injEq, exists_eq_left', List.getElem?_cons_zero, List.getElem?_cons_succ, List.set_cons_zero, List.set_cons_succ, List.map_cons, List.map_nil, List.cons_append, List.nil_append, List.length_cons, List.length_nil, List.reduceReplicate, Nat.reduceAdd, Nat.reduceSub, Bool.not_true, Bool.not_false, Bool.false_eq_true, Bool.true_eq_false, if_true, if_false, decide_true, decide_false, D.int.injEq, D.bl.injEq, D.ref.injEq, exists_and_left, and_self])⟩, W_ok, List.map_id']
  exact ⟨_, ev_tupOfL, rfl, rfl⟩)
theorem can_ok {a z r l : Int} {n : Nat} {d : D} (h : Seq2 d (tl a z r n)) (o : Tent.Ok a z r n) (n40 : n ≤ 40) (bx : Sto) : m_can_be_above [d, .int l] bx = .ok (.tup (((rg 0 (n + 1)).filter fun t => decide (l < Tent.hi a z r n t)).map D.int)) bx := W.eq (by
  unfold m_can_be_above S_can_be_above N_can_be_above
  rw [W_fnD, WS_seq, WS_set]
  simp only [WS_next, W_B, W_f1, W_f2, W_fA, W_cons, W_pur, W_var, W_not, W_ifT, W_ifB, W_call, W_callK, W_chain, W_wk, W_sl, W_po, W_poN, W_ok, W_err, W_noErr, W_fnD, ev_plus, ev_sub, ev_iB, ev_toB, ev_not, ev_neg, ev_isN, ev_notN, ev_isB, ev_int, ev_abs, ev_max, ev_min, ev_eqI, ev_neI, Ms.isNon, Option.some.injEq, exists_eq_left', List.getElem?_cons_zero, List.getElem?_cons_succ, List.set_cons_zero, List.set_cons_succ, List.map_cons, List.map_nil, List.cons_append, List.nil_append, List.length_cons, List.length_nil, List.reduceReplicate, Nat.reduceAdd, Nat.reduceSub, Bool.not_true, Bool.not_false, Bool.false_eq_true, Bool.true_eq_false, if_true, if_false, decide_true, decide_false, D.int.injEq, D.bl.injEq, D.ref.injEq, exists_and_left, limit_ok h o]
  rw [WS_seq, WS_ret, W_fA, W_cons, W_lc, W_lcA]
  simp only [WS_next, W_B, W_f1, W_f2, W_fA, W_cons, W_pur, W_var, W_not, W_ifT, W_ifB, W_call, W_callK, W_chain, W_wk, W_sl, W_po, W_poN, W_ok, W_err, W_noErr, W_fnD, ev_plus, ev_sub, ev_iB, ev_toB, ev_not, ev_neg, ev_isN, ev_notN, ev_isB, ev_int, ev_abs, ev_max, ev_min, ev_eqI, ev_neI, Ms.isNon, Option.some.injEq, exists_eq_left', List.getElem?_cons_zero, List.getElem?_cons_succ, List.set_cons_zero, List.set_cons_succ, List.map_cons, List.map_nil, List.cons_append, List.nil_append, List.length_cons, List.length_nil, List.reduceReplicate, Nat.reduceAdd, Nat.reduceSub, Bool.not_true, Bool.not_false, Bool.false_eq_true, Bool.true_eq_false, if_true, if_false, decide_true, decide_false, D.int.injEq, D.bl.injEq, D.ref.injEq, exists_and_left, ix3, W_rg1]
  refine ⟨_, rfl, by omega, by omega, ?_⟩
  have tn : ((n : Int) + 1).toNat = n + 1 := by omega
  rw [tn, rgl_rg]
  refine ⟨by rw [List.length_map, rg_len]; omega, ?_⟩
  rw [lcI (p := fun t => decide (l < Tent.hi a z r n t)) (g := fun t => t) fun w hw => ⟨W.eq (by simp only [unset, List.foldl_cons, List.foldl_nil, WS_next, W_B, W_f1, W_f2, W_fA, W_cons, W_pur, W_var, W_not, W_ifT, W_ifB, W_call, W_callK, W_chain, W_wk, W_sl, W_po, W_poN, W_ok, W_err, W_noErr, W_fnD, ev_plus, ev_sub, ev_iB, ev_toB, ev_not, ev_neg, ev_isN, ev_notN, ev_isB, ev_int, ev_abs, ev_max, ev_min, ev_eqI, ev_neI, Ms.isNon, Option.some.injEq, exists_eq_left', List.getElem?_cons_zero, List.getElem?_cons_succ, List.set_cons_zero, List.set_cons_succ, List.map_cons, List.map_nil, List.cons_append, List.nil_append, List.length_cons, List.length_nil, List.reduceReplicate, Nat.reduceAdd, Nat.reduceSub, Bool.not_true, Bool.not_false, Bool.false_eq_true, Bool.true_eq_false, if_true, if_false, decide_true, decide_false, D.int.injEq, D.bl.injEq, D.ref.injEq, exists_and_left, high_ok o.hr, and_self]), fun _ => W.eq (by simp only [unset, List.foldl_cons, List.foldl_nil, WS_next, W_B, W_f1, W_f2, W_fA, W_cons, W_pur, W_var, W_not, W_ifT, W_ifB, W_call, W_callK, W_chain, W_wk, W_sl, W_po, W_poN, W_ok, W_err, W_noErr, W_fnD, ev_plus, ev_sub, ev_iB, ev_toB, ev_not, ev_neg, ev_isN, ev_notN, ev_isB, ev_int, ev_abs, ev_max, ev_min, ev_eqI, ev_neI, Ms.isNon, Option.some.injEq, exists_eq_left', List.getElem?_cons_zero, List.getElem?_cons_succ, List.set_cons_zero, List.set_cons_succ, List.map_cons, List.map_nil, List.cons_append, List.nil_append, List.length_cons, List.length_nil, List.reduceReplicate, Nat.reduceAdd, Nat.reduceSub, Bool.not_true, Bool.not_false, Bool.false_eq_true, Bool.true_eq_false, if_true, if_false, decide_true, decide_false, D.int.injEq, D.bl.injEq, D.ref.injEq, exists_and_left, and_self])⟩, W_ok, List.map_id']
  exact ⟨_, ev_tupOfL, rfl, rfl⟩)
theorem leg_ok {s e : Int} {t : Nat} (t40 : t ≤ 40) (bx : Sto) : m__leg [.int s, .int e, .int t] bx = .ok (.tup ((Tent.leg s e t).map D.int)) bx := W.eq (by
  unfold m__leg S__leg N__leg
  rw [W_noErr, W_fnD, WS_seq, WS_ret, W_fA, W_cons, W_lc, W_lcA]
  simp only [WS_next, W_B, W_f1, W_f2, W_fA, W_cons, W_pur, W_var, W_not, W_ifT, W_ifB, W_call, W_callK, W_chain, W_wk, W_sl, W_po, W_poN, W_ok, W_err, W_noErr, W_fnD, ev_plus, ev_sub, ev_iB, ev_toB, ev_not, ev_neg, ev_isN, ev_notN, ev_isB, ev_int, ev_abs, ev_max, ev_min, ev_eqI, ev_neI, Ms.isNon, Option.some.injEq, exists_eq_left', List.getElem?_cons_zero, List.getElem?_cons_succ, List.set_cons_zero, List.set_cons_succ, List.map_cons, List.map_nil, List.cons_append, List.nil_append, List.length_cons, List.length_nil, List.reduceReplicate, Nat.reduceAdd, Nat.reduceSub, Bool.not_true, Bool.not_false, Bool.false_eq_true, Bool.true_eq_false, if_true, if_false, decide_true, decide_false, D.int.injEq, D.bl.injEq, D.ref.injEq, exists_and_left, W_rg1]
  refine ⟨_, rfl, by omega, by omega, ?_⟩
  have tn : ((t : Int)).toNat = t := by omega
  rw [tn, rgl_rg]
  refine ⟨by rw [List.length_map, rg_len]; omega, ?_⟩
  rw [lcI1 (g := fun k => Tent.gv s e t k) fun w hw => W.eq (by
    have hm := mem_rg.mp hw
    have ml : ∀ (bx : Sto) (x : Int), cMul bx (.int x) (.int w) = some (.int (x * w)) := fun bx x => ev_mulR (by omega)
    have dv : ∀ (bx : Sto) (x : Int), cDiv bx (.int x) (.int (t : Int)) = some (.int (x / t)) := fun bx x => ev_div (by omega) (by omega)
    simp only [unset, List.foldl_cons, List.foldl_nil, WS_next, W_B, W_f1, W_f2, W_fA, W_cons, W_pur, W_var, W_not, W_ifT, W_ifB, W_call, W_callK, W_chain, W_wk, W_sl, W_po, W_poN, W_ok, W_err, W_noErr, W_fnD, ev_plus, ev_sub, ev_iB, ev_toB, ev_not, ev_neg, ev_isN, ev_notN, ev_isB, ev_int, ev_abs, ev_max, ev_min, ev_eqI, ev_neI, Ms.isNon, Option.some.injEq, exists_eq_left', List.getElem?_cons_zero, List.getElem?_cons_succ, List.set_cons_zero, List.set_cons_succ, List.map_cons, List.map_nil, List.cons_append, List.nil_append, List.length_cons, List.length_nil, List.reduceReplicate, Nat.reduceAdd, Nat.reduceSub, Bool.not_true, Bool.not_false, Bool.false_eq_true, Bool.true_eq_false, if_true, if_false, decide_true, decide_false, D.int.injEq, D.bl.injEq, D.ref.injEq, exists_and_left, ml, dv]
    exact ⟨rfl, trivial⟩), W_ok]
  refine ⟨_, ev_tupOfL, ?_, rfl⟩
  have e : (rg 0 t).map (fun k => Tent.gv s e t k) = Tent.leg s e t := by
    unfold Tent.leg rg
    rw [List.map_map]
    simp only [Int.zero_add]
    rfl
  rw [e])
theorem pathAt_ok {a z r v : Int} {n t : Nat} {d : D} (h : Seq2 d (tl a z r n)) (i : Tent.In a z r v n t) (n40 : n ≤ 40) (bx : Sto) : m_path_at [d, .int t, .int v] bx = .ok (.tup ((Tent.path a z v n t).map D.int)) bx := W.eq (by
  have o := i.ok
  have k : inR (.int v) (Tent.lo a z r n t) (Tent.hi a z r n t) = true := by
    have := i.l
    have := i.h
    unfold inR
    simp
    omega
  have tn := i.tn
  unfold m_path_at S_path_at N_path_at
  rw [W_fnD, WS_seq, WS_set]
  simp only [WS_next, W_B, W_f1, W_f2, W_fA, W_cons, W_pur, W_var, W_not, W_ifT, W_ifB, W_call, W_callK, W_chain, W_wk, W_sl, W_po, W_poN, W_ok, W_err, W_noErr, W_fnD, ev_plus, ev_sub, ev_iB, ev_toB, ev_not, ev_neg, ev_isN, ev_notN, ev_isB, ev_int, ev_abs, ev_max, ev_min, ev_eqI, ev_neI, Ms.isNon, Option.some.injEq, exists_eq_left', List.getElem?_cons_zero, List.getElem?_cons_succ, List.set_cons_zero, List.set_cons_succ, List.map_cons, List.map_nil, List.cons_append, List.nil_append, List.length_cons, List.length_nil, List.reduceReplicate, Nat.reduceAdd, Nat.reduceSub, Bool.not_true, Bool.not_false, Bool.false_eq_true, Bool.true_eq_false, if_true, if_false, decide_true, decide_false, D.int.injEq, D.bl.injEq, D.ref.injEq, exists_and_left, check_ok h o]
  rw [WS_seq, WS_drop]
  simp only [WS_next, W_B, W_f1, W_f2, W_fA, W_cons, W_pur, W_var, W_not, W_ifT, W_ifB, W_call, W_callK, W_chain, W_wk, W_sl, W_po, W_poN, W_ok, W_err, W_noErr, W_fnD, ev_plus, ev_sub, ev_iB, ev_toB, ev_not, ev_neg, ev_isN, ev_notN, ev_isB, ev_int, ev_abs, ev_max, ev_min, ev_eqI, ev_neI, Ms.isNon, Option.some.injEq, exists_eq_left', List.getElem?_cons_zero, List.getElem?_cons_succ, List.set_cons_zero, List.set_cons_succ, List.map_cons, List.map_nil, List.cons_append, List.nil_append, List.length_cons, List.length_nil, List.reduceReplicate, Nat.reduceAdd, Nat.reduceSub, Bool.not_true, Bool.not_false, Bool.false_eq_true, Bool.true_eq_false, if_true, if_false, decide_true, decide_false, D.int.injEq, D.bl.injEq, D.ref.injEq, exists_and_left, tick_ok (a := a) (z := z) (r := r) (n := n) (t := t) (by omega) (by omega)]
  rw [WS_seq, WS_drop]
  simp only [WS_next, W_B, W_f1, W_f2, W_fA, W_cons, W_pur, W_var, W_not, W_ifT, W_ifB, W_call, W_callK, W_chain, W_wk, W_sl, W_po, W_poN, W_ok, W_err, W_noErr, W_fnD, ev_plus, ev_sub, ev_iB, ev_toB, ev_not, ev_neg, ev_isN, ev_notN, ev_isB, ev_int, ev_abs, ev_max, ev_min, ev_eqI, ev_neI, Ms.isNon, Option.some.injEq, exists_eq_left', List.getElem?_cons_zero, List.getElem?_cons_succ, List.set_cons_zero, List.set_cons_succ, List.map_cons, List.map_nil, List.cons_append, List.nil_append, List.length_cons, List.length_nil, List.reduceReplicate, Nat.reduceAdd, Nat.reduceSub, Bool.not_true, Bool.not_false, Bool.false_eq_true, Bool.true_eq_false, if_true, if_false, decide_true, decide_false, D.int.injEq, D.bl.injEq, D.ref.injEq, exists_and_left, low_ok o.hr, high_ok o.hr, within_ok (d := .int v) rfl k]
  rw [WS_seq, WS_unp]
  simp only [vs_tup, tl, Option.bind_some, setAll, WS_next, W_B, W_f1, W_f2, W_fA, W_cons, W_pur, W_var, W_not, W_ifT, W_ifB, W_call, W_callK, W_chain, W_wk, W_sl, W_po, W_poN, W_ok, W_err, W_noErr, W_fnD, ev_plus, ev_sub, ev_iB, ev_toB, ev_not, ev_neg, ev_isN, ev_notN, ev_isB, ev_int, ev_abs, ev_max, ev_min, ev_eqI, ev_neI, Ms.isNon, Option.some.injEq, exists_eq_left', List.getElem?_cons_zero, List.getElem?_cons_succ, List.set_cons_zero, List.set_cons_succ, List.map_cons, List.map_nil, List.cons_append, List.nil_append, List.length_cons, List.length_nil, List.reduceReplicate, Nat.reduceAdd, Nat.reduceSub, Bool.not_true, Bool.not_false, Bool.false_eq_true, Bool.true_eq_false, if_true, if_false, decide_true, decide_false, D.int.injEq, D.bl.injEq, D.ref.injEq, exists_and_left]
  rw [WS_seq, WS_ret]
  have e : (n : Int) - (t : Int) = ((n - t : Nat) : Int) := by omega
  simp only [WS_next, W_B, W_f1, W_f2, W_fA, W_cons, W_pur, W_var, W_not, W_ifT, W_ifB, W_call, W_callK, W_chain, W_wk, W_sl, W_po, W_poN, W_ok, W_err, W_noErr, W_fnD, ev_plus, ev_sub, ev_iB, ev_toB, ev_not, ev_neg, ev_isN, ev_notN, ev_isB, ev_int, ev_abs, ev_max, ev_min, ev_eqI, ev_neI, Ms.isNon, Option.some.injEq, exists_eq_left', List.getElem?_cons_zero, List.getElem?_cons_succ, List.set_cons_zero, List.set_cons_succ, List.map_cons, List.map_nil, List.cons_append, List.nil_append, List.length_cons, List.length_nil, List.reduceReplicate, Nat.reduceAdd, Nat.reduceSub, Bool.not_true, Bool.not_false, Bool.false_eq_true, Bool.true_eq_false, if_true, if_false, decide_true, decide_false, D.int.injEq, D.bl.injEq, D.ref.injEq, exists_and_left, leg_ok (s := a) (e := v) (t := t) (by omega), e, leg_ok (s := v) (e := z) (t := n - t) (by omega)]
  have p1 : ∀ (bx : Sto) (A B : List D), A.length ≤ 100 → B.length ≤ 100 → cPlus bx (.tup A) (.tup B) = some (.tup (A ++ B)) := fun bx A B h k => if_pos (by omega)
  refine ⟨_, p1 _ _ _ (by rw [List.length_map, Tent.leg_len]; omega) (by rw [List.length_map, Tent.leg_len]; omega), _, ev_tup (by show 1 ≤ 1000; decide), _, p1 _ _ _ (by rw [List.length_append, List.length_map, List.length_map, Tent.leg_len, Tent.leg_len]; omega) (by show 1 ≤ 100; decide), ?_, trivial⟩
  unfold Tent.path
  rw [List.map_append, List.map_append]
  rfl)
theorem pathAt_bad1 {a z r : Int} {n : Nat} {d e f : D} (h : Seq2 d (tl a z r n)) (o : Tent.Ok a z r n) (he : e.cl = true) (k : inR e 0 n = false) (bx : Sto) : m_path_at [d, e, f] bx = .err "Refused" e bx := W.eqE (by
  unfold m_path_at S_path_at N_path_at
  rw [W_fnD, WS_seq, WS_set]
  simp only [WS_next, W_B, W_f1, W_f2, W_fA, W_cons, W_pur, W_var, W_not, W_ifT, W_ifB, W_call, W_callK, W_chain, W_wk, W_sl, W_po, W_poN, W_ok, W_err, W_noErr, W_fnD, ev_plus, ev_sub, ev_iB, ev_toB, ev_not, ev_neg, ev_isN, ev_notN, ev_isB, ev_int, ev_abs, ev_max, ev_min, ev_eqI, ev_neI, Ms.isNon, Option.some.injEq, exists_eq_left', List.getElem?_cons_zero, List.getElem?_cons_succ, List.set_cons_zero, List.set_cons_succ, List.map_cons, List.map_nil, List.cons_append, List.nil_append, List.length_cons, List.length_nil, List.reduceReplicate, Nat.reduceAdd, Nat.reduceSub, Bool.not_true, Bool.not_false, Bool.false_eq_true, Bool.true_eq_false, if_true, if_false, decide_true, decide_false, D.int.injEq, D.bl.injEq, D.ref.injEq, exists_and_left, check_ok h o]
  rw [WS_seq, WS_drop]
  simp only [WS_next, W_B, W_f1, W_f2, W_fA, W_cons, W_pur, W_var, W_not, W_ifT, W_ifB, W_call, W_callK, W_chain, W_wk, W_sl, W_po, W_poN, W_ok, W_err, W_noErr, W_fnD, ev_plus, ev_sub, ev_iB, ev_toB, ev_not, ev_neg, ev_isN, ev_notN, ev_isB, ev_int, ev_abs, ev_max, ev_min, ev_eqI, ev_neI, Ms.isNon, Option.some.injEq, exists_eq_left', List.getElem?_cons_zero, List.getElem?_cons_succ, List.set_cons_zero, List.set_cons_succ, List.map_cons, List.map_nil, List.cons_append, List.nil_append, List.length_cons, List.length_nil, List.reduceReplicate, Nat.reduceAdd, Nat.reduceSub, Bool.not_true, Bool.not_false, Bool.false_eq_true, Bool.true_eq_false, if_true, if_false, decide_true, decide_false, D.int.injEq, D.bl.injEq, D.ref.injEq, exists_and_left, tick_bad he k, and_self])
theorem pathAt_bad2 {a z r : Int} {n t : Nat} {d f : D} (h : Seq2 d (tl a z r n)) (o : Tent.Ok a z r n) (tn : t ≤ n) (he : f.cl = true) (k : inR f (Tent.lo a z r n t) (Tent.hi a z r n t) = false) (bx : Sto) : m_path_at [d, .int t, f] bx = .err "Refused" f bx := W.eqE (by
  unfold m_path_at S_path_at N_path_at
  rw [W_fnD, WS_seq, WS_set]
  simp only [WS_next, W_B, W_f1, W_f2, W_fA, W_cons, W_pur, W_var, W_not, W_ifT, W_ifB, W_call, W_callK, W_chain, W_wk, W_sl, W_po, W_poN, W_ok, W_err, W_noErr, W_fnD, ev_plus, ev_sub, ev_iB, ev_toB, ev_not, ev_neg, ev_isN, ev_notN, ev_isB, ev_int, ev_abs, ev_max, ev_min, ev_eqI, ev_neI, Ms.isNon, Option.some.injEq, exists_eq_left', List.getElem?_cons_zero, List.getElem?_cons_succ, List.set_cons_zero, List.set_cons_succ, List.map_cons, List.map_nil, List.cons_append, List.nil_append, List.length_cons, List.length_nil, List.reduceReplicate, Nat.reduceAdd, Nat.reduceSub, Bool.not_true, Bool.not_false, Bool.false_eq_true, Bool.true_eq_false, if_true, if_false, decide_true, decide_false, D.int.injEq, D.bl.injEq, D.ref.injEq, exists_and_left, check_ok h o]
  rw [WS_seq, WS_drop]
  simp only [WS_next, W_B, W_f1, W_f2, W_fA, W_cons, W_pur, W_var, W_not, W_ifT, W_ifB, W_call, W_callK, W_chain, W_wk, W_sl, W_po, W_poN, W_ok, W_err, W_noErr, W_fnD, ev_plus, ev_sub, ev_iB, ev_toB, ev_not, ev_neg, ev_isN, ev_notN, ev_isB, ev_int, ev_abs, ev_max, ev_min, ev_eqI, ev_neI, Ms.isNon, Option.some.injEq, exists_eq_left', List.getElem?_cons_zero, List.getElem?_cons_succ, List.set_cons_zero, List.set_cons_succ, List.map_cons, List.map_nil, List.cons_append, List.nil_append, List.length_cons, List.length_nil, List.reduceReplicate, Nat.reduceAdd, Nat.reduceSub, Bool.not_true, Bool.not_false, Bool.false_eq_true, Bool.true_eq_false, if_true, if_false, decide_true, decide_false, D.int.injEq, D.bl.injEq, D.ref.injEq, exists_and_left, tick_ok (a := a) (z := z) (r := r) (n := n) (t := t) (by omega) (by omega)]
  rw [WS_seq, WS_drop]
  simp only [WS_next, W_B, W_f1, W_f2, W_fA, W_cons, W_pur, W_var, W_not, W_ifT, W_ifB, W_call, W_callK, W_chain, W_wk, W_sl, W_po, W_poN, W_ok, W_err, W_noErr, W_fnD, ev_plus, ev_sub, ev_iB, ev_toB, ev_not, ev_neg, ev_isN, ev_notN, ev_isB, ev_int, ev_abs, ev_max, ev_min, ev_eqI, ev_neI, Ms.isNon, Option.some.injEq, exists_eq_left', List.getElem?_cons_zero, List.getElem?_cons_succ, List.set_cons_zero, List.set_cons_succ, List.map_cons, List.map_nil, List.cons_append, List.nil_append, List.length_cons, List.length_nil, List.reduceReplicate, Nat.reduceAdd, Nat.reduceSub, Bool.not_true, Bool.not_false, Bool.false_eq_true, Bool.true_eq_false, if_true, if_false, decide_true, decide_false, D.int.injEq, D.bl.injEq, D.ref.injEq, exists_and_left, low_ok o.hr, high_ok o.hr, within_bad he k, and_self])
end K16

end
section
set_option Elab.async false
set_option linter.all false
set_option maxRecDepth 100000
set_option maxHeartbeats 4000000
namespace K16
open PySem PySem.Spec PyProof.Rows L2 Ms
theorem check_badP {d : D} (h : d.cl = true) (k : hasP d 4 = false) (bx : Sto) : m_check_tent [d] bx = .err "Refused" d bx := W.eqE (by
  have hp : m_has_parts [d, .int 4] bx = .ok (.bl false) bx := by rw [show (4 : Int) = ((4 : Nat) : Int) from rfl, m_has h, k]
  unfold m_check_tent S_check_tent N_check_tent
  rw [W_fnD, WS_seq, WS_if]
  simp only [WS_seq, WS_if, WS_set, WS_ret, WS_drop, WS_raise, WS_next, WS_unp, WS_par, WS_for, W_B, W_f1, W_f2, W_fA, W_cons, W_pur, W_var, W_not, W_ifT, W_ifB, W_call, W_callK, W_chain, W_wk, W_sl, W_po, W_poN, W_ok, W_err, W_noErr, W_fnD, ev_plus, ev_sub, ev_iB, ev_toB, ev_not, ev_neg, ev_isN, ev_notN, ev_isB, ev_int, ev_abs, ev_max, ev_min, ev_eqI, ev_neI, Ms.isNon, Option.some.injEq, exists_eq_left', List.getElem?_cons_zero, List.getElem?_cons_succ, List.set_cons_zero, List.set_cons_succ, List.map_cons, List.map_nil, List.cons_append, List.nil_append, List.length_cons, List.length_nil, List.reduceReplicate, Nat.reduceAdd, Nat.reduceSub, Bool.not_true, Bool.not_false, Bool.false_eq_true, Bool.true_eq_false, if_true, if_false, decide_true, decide_false, D.int.injEq, D.bl.injEq, D.ref.injEq, exists_and_left, hp, and_self])
theorem check_bad4 {x y u w : D} (hx : x.cl = true) (hy : y.cl = true) (hu : u.cl = true) (hw : w.cl = true) (k : (isI x && (isI y && (isNum u && isNum w))) = false) (bx : Sto) : m_check_tent [.tup [x, y, u, w]] bx = .err "Refused" (.tup [x, y, u, w]) bx := W.eqE (by
  have hp : m_has_parts [.tup [x, y, u, w], .int 4] bx = .ok (.bl true) bx := by
    have h : (D.tup [x, y, u, w]).cl = true := rfl
    rw [show (4 : Int) = ((4 : Nat) : Int) from rfl, m_has h]
    rfl
  unfold m_check_tent S_check_tent N_check_tent
  rw [W_fnD, WS_seq, WS_if]
  simp only [WS_next, W_B, W_f1, W_f2, W_fA, W_cons, W_pur, W_var, W_not, W_ifT, W_ifB, W_call, W_callK, W_chain, W_wk, W_sl, W_po, W_poN, W_ok, W_err, W_noErr, W_fnD, ev_plus, ev_sub, ev_iB, ev_toB, ev_not, ev_neg, ev_isN, ev_notN, ev_isB, ev_int, ev_abs, ev_max, ev_min, ev_eqI, ev_neI, Ms.isNon, Option.some.injEq, exists_eq_left', List.getElem?_cons_zero, List.getElem?_cons_succ, List.set_cons_zero, List.set_cons_succ, List.map_cons, List.map_nil, List.cons_append, List.nil_append, List.length_cons, List.length_nil, List.reduceReplicate, Nat.reduceAdd, Nat.reduceSub, Bool.not_true, Bool.not_false, Bool.false_eq_true, Bool.true_eq_false, if_true, if_false, decide_true, decide_false, D.int.injEq, D.bl.injEq, D.ref.injEq, exists_and_left, hp]
  rw [WS_seq, WS_unp]
  simp only [WS_next, W_B, W_f1, W_f2, W_fA, W_cons, W_pur, W_var, W_not, W_ifT, W_ifB, W_call, W_callK, W_chain, W_wk, W_sl, W_po, W_poN, W_ok, W_err, W_noErr, W_fnD, ev_plus, ev_sub, ev_iB, ev_toB, ev_not, ev_neg, ev_isN, ev_notN, ev_isB, ev_int, ev_abs, ev_max, ev_min, ev_eqI, ev_neI, Ms.isNon, Option.some.injEq, exists_eq_left', List.getElem?_cons_zero, List.getElem?_cons_succ, List.set_cons_zero, List.set_cons_succ, List.map_cons, List.map_nil, List.cons_append, List.nil_append, List.length_cons, List.length_nil, List.reduceReplicate, Nat.reduceAdd, Nat.reduceSub, Bool.not_true, Bool.not_false, Bool.false_eq_true, Bool.true_eq_false, if_true, if_false, decide_true, decide_false, D.int.injEq, D.bl.injEq, D.ref.injEq, exists_and_left, vs_tup, Option.bind_some, setAll]
  rw [WS_seq, WS_if]
  simp only [WS_next, W_B, W_f1, W_f2, W_fA, W_cons, W_pur, W_var, W_not, W_ifT, W_ifB, W_call, W_callK, W_chain, W_wk, W_sl, W_po, W_poN, W_ok, W_err, W_noErr, W_fnD, ev_plus, ev_sub, ev_iB, ev_toB, ev_not, ev_neg, ev_isN, ev_notN, ev_isB, ev_int, ev_abs, ev_max, ev_min, ev_eqI, ev_neI, Ms.isNon, Option.some.injEq, exists_eq_left', List.getElem?_cons_zero, List.getElem?_cons_succ, List.set_cons_zero, List.set_cons_succ, List.map_cons, List.map_nil, List.cons_append, List.nil_append, List.length_cons, List.length_nil, List.reduceReplicate, Nat.reduceAdd, Nat.reduceSub, Bool.not_true, Bool.not_false, Bool.false_eq_true, Bool.true_eq_false, if_true, if_false, decide_true, decide_false, D.int.injEq, D.bl.injEq, D.ref.injEq, exists_and_left, m_int hx, m_int hy, m_num hu, m_num hw]
  cases e1 : isI x <;> cases e2 : isI y <;> cases e3 : isNum u <;> cases e4 : isNum w <;> simp [e1, e2, e3, e4] at k <;> simp [WS_seq, WS_if, WS_set, WS_ret, WS_drop, WS_raise, WS_next, WS_unp, WS_par, WS_for, W_B, W_f1, W_f2, W_fA, W_cons, W_pur, W_var, W_not, W_ifT, W_ifB, W_call, W_callK, W_chain, W_wk, W_sl, W_po, W_poN, W_ok, W_err, W_noErr, W_fnD, ev_plus, ev_sub, ev_iB, ev_toB, ev_not, ev_neg, ev_isN, ev_notN, ev_isB, ev_int, ev_abs, ev_max, ev_min, ev_eqI, ev_neI, Ms.isNon, Option.some.injEq, exists_eq_left', List.getElem?_cons_zero, List.getElem?_cons_succ, List.set_cons_zero, List.set_cons_succ, List.map_cons, List.map_nil, List.cons_append, List.nil_append, List.length_cons, List.length_nil, List.reduceReplicate, Nat.reduceAdd, Nat.reduceSub, Bool.not_true, Bool.not_false, Bool.false_eq_true, Bool.true_eq_false, if_true, if_false, decide_true, decide_false, D.int.injEq, D.bl.injEq, D.ref.injEq, exists_and_left, m_int hx, m_int hy, m_num hu, m_num hw, e1, e2, e3, e4])
theorem check_bad5 {x y u w : Int} (u0 : 0 ≤ u) (u9 : u ≤ 9) (w0 : 0 ≤ w) (k : u = 0 ∨ u * w < x - y ∨ u * w < y - x) (bx : Sto) : m_check_tent [.tup [.int x, .int y, .int u, .int w]] bx = .err "Refused" (.tup [.int x, .int y, .int u, .int w]) bx := W.eqE (by
  have hp : m_has_parts [.tup [.int x, .int y, .int u, .int w], .int 4] bx = .ok (.bl true) bx := by
    have h : (D.tup [.int x, .int y, .int u, .int w]).cl = true := rfl
    rw [show (4 : Int) = ((4 : Nat) : Int) from rfl, m_has h]
    rfl
  have iu : isNum (.int u) = true := by unfold isNum; simp; omega
  have iw : isNum (.int w) = true := by unfold isNum; simp; omega
  have ml : ∀ (bx : Sto) (j : Int), cMul bx (.int u) (.int j) = some (.int (u * j)) := fun bx j => ev_mulL (by omega)
  unfold m_check_tent S_check_tent N_check_tent
  rw [W_fnD, WS_seq, WS_if]
  simp only [WS_next, W_B, W_f1, W_f2, W_fA, W_cons, W_pur, W_var, W_not, W_ifT, W_ifB, W_call, W_callK, W_chain, W_wk, W_sl, W_po, W_poN, W_ok, W_err, W_noErr, W_fnD, ev_plus, ev_sub, ev_iB, ev_toB, ev_not, ev_neg, ev_isN, ev_notN, ev_isB, ev_int, ev_abs, ev_max, ev_min, ev_eqI, ev_neI, Ms.isNon, Option.some.injEq, exists_eq_left', List.getElem?_cons_zero, List.getElem?_cons_succ, List.set_cons_zero, List.set_cons_succ, List.map_cons, List.map_nil, List.cons_append, List.nil_append, List.length_cons, List.length_nil, List.reduceReplicate, Nat.reduceAdd, Nat.reduceSub, Bool.not_true, Bool.not_false, Bool.false_eq_true, Bool.true_eq_false, if_true, if_false, decide_true, decide_false, D.int.injEq, D.bl.injEq, D.ref.injEq, exists_and_left, hp]
  rw [WS_seq, WS_unp]
  simp only [WS_next, W_B, W_f1, W_f2, W_fA, W_cons, W_pur, W_var, W_not, W_ifT, W_ifB, W_call, W_callK, W_chain, W_wk, W_sl, W_po, W_poN, W_ok, W_err, W_noErr, W_fnD, ev_plus, ev_sub, ev_iB, ev_toB, ev_not, ev_neg, ev_isN, ev_notN, ev_isB, ev_int, ev_abs, ev_max, ev_min, ev_eqI, ev_neI, Ms.isNon, Option.some.injEq, exists_eq_left', List.getElem?_cons_zero, List.getElem?_cons_succ, List.set_cons_zero, List.set_cons_succ, List.map_cons, List.map_nil, List.cons_append, List.nil_append, List.length_cons, List.length_nil, List.reduceReplicate, Nat.reduceAdd, Nat.reduceSub, Bool.not_true, Bool.not_false, Bool.false_eq_true, Bool.true_eq_false, if_true, if_false, decide_true, decide_false, D.int.injEq, D.bl.injEq, D.ref.injEq, exists_and_left, vs_tup, Option.bind_some, setAll]
  rw [WS_seq, WS_if]
  simp only [WS_next, W_B, W_f1, W_f2, W_fA, W_cons, W_pur, W_var, W_not, W_ifT, W_ifB, W_call, W_callK, W_chain, W_wk, W_sl, W_po, W_poN, W_ok, W_err, W_noErr, W_fnD, ev_plus, ev_sub, ev_iB, ev_toB, ev_not, ev_neg, ev_isN, ev_notN, ev_isB, ev_int, ev_abs, ev_max, ev_min, ev_eqI, ev_neI, Ms.isNon, Option.some.injEq, exists_eq_left', List.getElem?_cons_zero, List.getElem?_cons_succ, List.set_cons_zero, List.set_cons_succ, List.map_cons, List.map_nil, List.cons_append, List.nil_append, List.length_cons, List.length_nil, List.reduceReplicate, Nat.reduceAdd, Nat.reduceSub, Bool.not_true, Bool.not_false, Bool.false_eq_true, Bool.true_eq_false, if_true, if_false, decide_true, decide_false, D.int.injEq, D.bl.injEq, D.ref.injEq, exists_and_left, m_int (d := .int x) rfl, m_int (d := .int y) rfl, m_num (d := .int u) rfl, m_num (d := .int w) rfl, isI, iu, iw]
  rw [WS_seq, WS_if]
  by_cases q : u = 0
  · subst q
    simp only [WS_seq, WS_if, WS_set, WS_ret, WS_drop, WS_raise, WS_next, WS_unp, WS_par, WS_for, W_B, W_f1, W_f2, W_fA, W_cons, W_pur, W_var, W_not, W_ifT, W_ifB, W_call, W_callK, W_chain, W_wk, W_sl, W_po, W_poN, W_ok, W_err, W_noErr, W_fnD, ev_plus, ev_sub, ev_iB, ev_toB, ev_not, ev_neg, ev_isN, ev_notN, ev_isB, ev_int, ev_abs, ev_max, ev_min, ev_eqI, ev_neI, Ms.isNon, Option.some.injEq, exists_eq_left', List.getElem?_cons_zero, List.getElem?_cons_succ, List.set_cons_zero, List.set_cons_succ, List.map_cons, List.map_nil, List.cons_append, List.nil_append, List.length_cons, List.length_nil, List.reduceReplicate, Nat.reduceAdd, Nat.reduceSub, Bool.not_true, Bool.not_false, Bool.false_eq_true, Bool.true_eq_false, if_true, if_false, decide_true, decide_false, D.int.injEq, D.bl.injEq, D.ref.injEq, exists_and_left, beq_self_eq_true, and_self]
  · have q' : (u == 0) = false := by simpa using q
    have ab : (decide (u * w < (if x - y < 0 then -(x - y) else x - y))) = true := by
      apply decide_eq_true
      rcases k with k | k | k
      · exact absurd k q
      · split <;> omega
      · split <;> omega
    simp only [WS_seq, WS_if, WS_set, WS_ret, WS_drop, WS_raise, WS_next, WS_unp, WS_par, WS_for, W_B, W_f1, W_f2, W_fA, W_cons, W_pur, W_var, W_not, W_ifT, W_ifB, W_call, W_callK, W_chain, W_wk, W_sl, W_po, W_poN, W_ok, W_err, W_noErr, W_fnD, ev_plus, ev_sub, ev_iB, ev_toB, ev_not, ev_neg, ev_isN, ev_notN, ev_isB, ev_int, ev_abs, ev_max, ev_min, ev_eqI, ev_neI, Ms.isNon, Option.some.injEq, exists_eq_left', List.getElem?_cons_zero, List.getElem?_cons_succ, List.set_cons_zero, List.set_cons_succ, List.map_cons, List.map_nil, List.cons_append, List.nil_append, List.length_cons, List.length_nil, List.reduceReplicate, Nat.reduceAdd, Nat.reduceSub, Bool.not_true, Bool.not_false, Bool.false_eq_true, Bool.true_eq_false, if_true, if_false, decide_true, decide_false, D.int.injEq, D.bl.injEq, D.ref.injEq, exists_and_left, q', ml, ab, and_self])
section
variable {d e f x : D} {bx : Sto} (h : m_check_tent [d] bx = .err "Refused" x bx)
include h
theorem highest_err : m_highest [d] bx = .err "Refused" x bx := W.eqE (by
  unfold m_highest S_highest N_highest
  simp only [WS_seq, WS_if, WS_set, WS_ret, WS_drop, WS_raise, WS_next, WS_unp, WS_par, WS_for, W_B, W_f1, W_f2, W_fA, W_cons, W_pur, W_var, W_not, W_ifT, W_ifB, W_call, W_callK, W_chain, W_wk, W_sl, W_po, W_poN, W_ok, W_err, W_noErr, W_fnD, ev_plus, ev_sub, ev_iB, ev_toB, ev_not, ev_neg, ev_isN, ev_notN, ev_isB, ev_int, ev_abs, ev_max, ev_min, ev_eqI, ev_neI, Ms.isNon, Option.some.injEq, exists_eq_left', List.getElem?_cons_zero, List.getElem?_cons_succ, List.set_cons_zero, List.set_cons_succ, List.map_cons, List.map_nil, List.cons_append, List.nil_append, List.length_cons, List.length_nil, List.reduceReplicate, Nat.reduceAdd, Nat.reduceSub, Bool.not_true, Bool.not_false, Bool.false_eq_true, Bool.true_eq_false, if_true, if_false, decide_true, decide_false, D.int.injEq, D.bl.injEq, D.ref.injEq, exists_and_left, h, and_self])
theorem lowest_err : m_lowest [d] bx = .err "Refused" x bx := W.eqE (by
  unfold m_lowest S_lowest N_lowest
  simp only [WS_seq, WS_if, WS_set, WS_ret, WS_drop, WS_raise, WS_next, WS_unp, WS_par, WS_for, W_B, W_f1, W_f2, W_fA, W_cons, W_pur, W_var, W_not, W_ifT, W_ifB, W_call, W_callK, W_chain, W_wk, W_sl, W_po, W_poN, W_ok, W_err, W_noErr, W_fnD, ev_plus, ev_sub, ev_iB, ev_toB, ev_not, ev_neg, ev_isN, ev_notN, ev_isB, ev_int, ev_abs, ev_max, ev_min, ev_eqI, ev_neI, Ms.isNon, Option.some.injEq, exists_eq_left', List.getElem?_cons_zero, List.getElem?_cons_succ, List.set_cons_zero, List.set_cons_succ, List.map_cons, List.map_nil, List.cons_append, List.nil_append, List.length_cons, List.length_nil, List.reduceReplicate, Nat.reduceAdd, Nat.reduceSub, Bool.not_true, Bool.not_false, Bool.false_eq_true, Bool.true_eq_false, if_true, if_false, decide_true, decide_false, D.int.injEq, D.bl.injEq, D.ref.injEq, exists_and_left, h, and_self])
theorem values_err : m_values_at [d, e] bx = .err "Refused" x bx := W.eqE (by
  unfold m_values_at S_values_at N_values_at
  simp only [WS_seq, WS_if, WS_set, WS_ret, WS_drop, WS_raise, WS_next, WS_unp, WS_par, WS_for, W_B, W_f1, W_f2, W_fA, W_cons, W_pur, W_var, W_not, W_ifT, W_ifB, W_call, W_callK, W_chain, W_wk, W_sl, W_po, W_poN, W_ok, W_err, W_noErr, W_fnD, ev_plus, ev_sub, ev_iB, ev_toB, ev_not, ev_neg, ev_isN, ev_notN, ev_isB, ev_int, ev_abs, ev_max, ev_min, ev_eqI, ev_neI, Ms.isNon, Option.some.injEq, exists_eq_left', List.getElem?_cons_zero, List.getElem?_cons_succ, List.set_cons_zero, List.set_cons_succ, List.map_cons, List.map_nil, List.cons_append, List.nil_append, List.length_cons, List.length_nil, List.reduceReplicate, Nat.reduceAdd, Nat.reduceSub, Bool.not_true, Bool.not_false, Bool.false_eq_true, Bool.true_eq_false, if_true, if_false, decide_true, decide_false, D.int.injEq, D.bl.injEq, D.ref.injEq, exists_and_left, h, and_self])
theorem pathAt_err : m_path_at [d, e, f] bx = .err "Refused" x bx := W.eqE (by
  unfold m_path_at S_path_at N_path_at
  simp only [WS_seq, WS_if, WS_set, WS_ret, WS_drop, WS_raise, WS_next, WS_unp, WS_par, WS_for, W_B, W_f1, W_f2, W_fA, W_cons, W_pur, W_var, W_not, W_ifT, W_ifB, W_call, W_callK, W_chain, W_wk, W_sl, W_po, W_poN, W_ok, W_err, W_noErr, W_fnD, ev_plus, ev_sub, ev_iB, ev_toB, ev_not, ev_neg, ev_isN, ev_notN, ev_isB, ev_int, ev_abs, ev_max, ev_min, ev_eqI, ev_neI, Ms.isNon, Option.some.injEq, exists_eq_left', List.getElem?_cons_zero, List.getElem?_cons_succ, List.set_cons_zero, List.set_cons_succ, List.map_cons, List.map_nil, List.cons_append, List.nil_append, List.length_cons, List.length_nil, List.reduceReplicate, Nat.reduceAdd, Nat.reduceSub, Bool.not_true, Bool.not_false, Bool.false_eq_true, Bool.true_eq_false, if_true, if_false, decide_true, decide_false, D.int.injEq, D.bl.injEq, D.ref.injEq, exists_and_left, h, and_self])
theorem holds_err : m_path_holds [d, e] bx = .err "Refused" x bx := W.eqE (by
  unfold m_path_holds S_path_holds N_path_holds
  simp only [WS_seq, WS_if, WS_set, WS_ret, WS_drop, WS_raise, WS_next, WS_unp, WS_par, WS_for, W_B, W_f1, W_f2, W_fA, W_cons, W_pur, W_var, W_not, W_ifT, W_ifB, W_call, W_callK, W_chain, W_wk, W_sl, W_po, W_poN, W_ok, W_err, W_noErr, W_fnD, ev_plus, ev_sub, ev_iB, ev_toB, ev_not, ev_neg, ev_isN, ev_notN, ev_isB, ev_int, ev_abs, ev_max, ev_min, ev_eqI, ev_neI, Ms.isNon, Option.some.injEq, exists_eq_left', List.getElem?_cons_zero, List.getElem?_cons_succ, List.set_cons_zero, List.set_cons_succ, List.map_cons, List.map_nil, List.cons_append, List.nil_append, List.length_cons, List.length_nil, List.reduceReplicate, Nat.reduceAdd, Nat.reduceSub, Bool.not_true, Bool.not_false, Bool.false_eq_true, Bool.true_eq_false, if_true, if_false, decide_true, decide_false, D.int.injEq, D.bl.injEq, D.ref.injEq, exists_and_left, h, and_self])
theorem above_err : m_above_at [d, e] bx = .err "Refused" x bx := W.eqE (by
  unfold m_above_at S_above_at N_above_at
  simp only [WS_seq, WS_if, WS_set, WS_ret, WS_drop, WS_raise, WS_next, WS_unp, WS_par, WS_for, W_B, W_f1, W_f2, W_fA, W_cons, W_pur, W_var, W_not, W_ifT, W_ifB, W_call, W_callK, W_chain, W_wk, W_sl, W_po, W_poN, W_ok, W_err, W_noErr, W_fnD, ev_plus, ev_sub, ev_iB, ev_toB, ev_not, ev_neg, ev_isN, ev_notN, ev_isB, ev_int, ev_abs, ev_max, ev_min, ev_eqI, ev_neI, Ms.isNon, Option.some.injEq, exists_eq_left', List.getElem?_cons_zero, List.getElem?_cons_succ, List.set_cons_zero, List.set_cons_succ, List.map_cons, List.map_nil, List.cons_append, List.nil_append, List.length_cons, List.length_nil, List.reduceReplicate, Nat.reduceAdd, Nat.reduceSub, Bool.not_true, Bool.not_false, Bool.false_eq_true, Bool.true_eq_false, if_true, if_false, decide_true, decide_false, D.int.injEq, D.bl.injEq, D.ref.injEq, exists_and_left, limit_bad1 h, and_self])
theorem can_err : m_can_be_above [d, e] bx = .err "Refused" x bx := W.eqE (by
  unfold m_can_be_above S_can_be_above N_can_be_above
  simp only [WS_seq, WS_if, WS_set, WS_ret, WS_drop, WS_raise, WS_next, WS_unp, WS_par, WS_for, W_B, W_f1, W_f2, W_fA, W_cons, W_pur, W_var, W_not, W_ifT, W_ifB, W_call, W_callK, W_chain, W_wk, W_sl, W_po, W_poN, W_ok, W_err, W_noErr, W_fnD, ev_plus, ev_sub, ev_iB, ev_toB, ev_not, ev_neg, ev_isN, ev_notN, ev_isB, ev_int, ev_abs, ev_max, ev_min, ev_eqI, ev_neI, Ms.isNon, Option.some.injEq, exists_eq_left', List.getElem?_cons_zero, List.getElem?_cons_succ, List.set_cons_zero, List.set_cons_succ, List.map_cons, List.map_nil, List.cons_append, List.nil_append, List.length_cons, List.length_nil, List.reduceReplicate, Nat.reduceAdd, Nat.reduceSub, Bool.not_true, Bool.not_false, Bool.false_eq_true, Bool.true_eq_false, if_true, if_false, decide_true, decide_false, D.int.injEq, D.bl.injEq, D.ref.injEq, exists_and_left, limit_bad1 h, and_self])
theorem many_err : m_many_above [d, e] bx = .err "Refused" x bx := W.eqE (by
  unfold m_many_above S_many_above N_many_above
  simp only [WS_seq, WS_if, WS_set, WS_ret, WS_drop, WS_raise, WS_next, WS_unp, WS_par, WS_for, W_B, W_f1, W_f2, W_fA, W_cons, W_pur, W_var, W_not, W_ifT, W_ifB, W_call, W_callK, W_chain, W_wk, W_sl, W_po, W_poN, W_ok, W_err, W_noErr, W_fnD, ev_plus, ev_sub, ev_iB, ev_toB, ev_not, ev_neg, ev_isN, ev_notN, ev_isB, ev_int, ev_abs, ev_max, ev_min, ev_eqI, ev_neI, Ms.isNon, Option.some.injEq, exists_eq_left', List.getElem?_cons_zero, List.getElem?_cons_succ, List.set_cons_zero, List.set_cons_succ, List.map_cons, List.map_nil, List.cons_append, List.nil_append, List.length_cons, List.length_nil, List.reduceReplicate, Nat.reduceAdd, Nat.reduceSub, Bool.not_true, Bool.not_false, Bool.false_eq_true, Bool.true_eq_false, if_true, if_false, decide_true, decide_false, D.int.injEq, D.bl.injEq, D.ref.injEq, exists_and_left, limit_bad1 h, and_self])
end
section
variable {a z r n : Int} {d e : D} (h : Seq2 d (tl a z r n)) (o : Tent.Ok a z r n) (he : e.cl = true) (hi : isI e = false) (bx : Sto)
include h o he hi
theorem above_bad2 : m_above_at [d, e] bx = .err "Refused" e bx := W.eqE (by
  unfold m_above_at S_above_at N_above_at
  simp only [WS_seq, WS_if, WS_set, WS_ret, WS_drop, WS_raise, WS_next, WS_unp, WS_par, WS_for, W_B, W_f1, W_f2, W_fA, W_cons, W_pur, W_var, W_not, W_ifT, W_ifB, W_call, W_callK, W_chain, W_wk, W_sl, W_po, W_poN, W_ok, W_err, W_noErr, W_fnD, ev_plus, ev_sub, ev_iB, ev_toB, ev_not, ev_neg, ev_isN, ev_notN, ev_isB, ev_int, ev_abs, ev_max, ev_min, ev_eqI, ev_neI, Ms.isNon, Option.some.injEq, exists_eq_left', List.getElem?_cons_zero, List.getElem?_cons_succ, List.set_cons_zero, List.set_cons_succ, List.map_cons, List.map_nil, List.cons_append, List.nil_append, List.length_cons, List.length_nil, List.reduceReplicate, Nat.reduceAdd, Nat.reduceSub, Bool.not_true, Bool.not_false, Bool.false_eq_true, Bool.true_eq_false, if_true, if_false, decide_true, decide_false, D.int.injEq, D.bl.injEq, D.ref.injEq, exists_and_left, limit_bad2 h o he hi, and_self])
theorem can_bad2 : m_can_be_above [d, e] bx = .err "Refused" e bx := W.eqE (by
  unfold m_can_be_above S_can_be_above N_can_be_above
  simp only [WS_seq, WS_if, WS_set, WS_ret, WS_drop, WS_raise, WS_next, WS_unp, WS_par, WS_for, W_B, W_f1, W_f2, W_fA, W_cons, W_pur, W_var, W_not, W_ifT, W_ifB, W_call, W_callK, W_chain, W_wk, W_sl, W_po, W_poN, W_ok, W_err, W_noErr, W_fnD, ev_plus, ev_sub, ev_iB, ev_toB, ev_not, ev_neg, ev_isN, ev_notN, ev_isB, ev_int, ev_abs, ev_max, ev_min, ev_eqI, ev_neI, Ms.isNon, Option.some.injEq, exists_eq_left', List.getElem?_cons_zero, List.getElem?_cons_succ, List.set_cons_zero, List.set_cons_succ, List.map_cons, List.map_nil, List.cons_append, List.nil_append, List.length_cons, List.length_nil, List.reduceReplicate, Nat.reduceAdd, Nat.reduceSub, Bool.not_true, Bool.not_false, Bool.false_eq_true, Bool.true_eq_false, if_true, if_false, decide_true, decide_false, D.int.injEq, D.bl.injEq, D.ref.injEq, exists_and_left, limit_bad2 h o he hi, and_self])
theorem many_bad2 : m_many_above [d, e] bx = .err "Refused" e bx := W.eqE (by
  unfold m_many_above S_many_above N_many_above
  simp only [WS_seq, WS_if, WS_set, WS_ret, WS_drop, WS_raise, WS_next, WS_unp, WS_par, WS_for, W_B, W_f1, W_f2, W_fA, W_cons, W_pur, W_var, W_not, W_ifT, W_ifB, W_call, W_callK, W_chain, W_wk, W_sl, W_po, W_poN, W_ok, W_err, W_noErr, W_fnD, ev_plus, ev_sub, ev_iB, ev_toB, ev_not, ev_neg, ev_isN, ev_notN, ev_isB, ev_int, ev_abs, ev_max, ev_min, ev_eqI, ev_neI, Ms.isNon, Option.some.injEq, exists_eq_left', List.getElem?_cons_zero, List.getElem?_cons_succ, List.set_cons_zero, List.set_cons_succ, List.map_cons, List.map_nil, List.cons_append, List.nil_append, List.length_cons, List.length_nil, List.reduceReplicate, Nat.reduceAdd, Nat.reduceSub, Bool.not_true, Bool.not_false, Bool.false_eq_true, Bool.true_eq_false, if_true, if_false, decide_true, decide_false, D.int.injEq, D.bl.injEq, D.ref.injEq, exists_and_left, limit_bad2 h o he hi, and_self])
end
end K16

end
section
set_option Elab.async false
set_option linter.all false
set_option maxRecDepth 100000
set_option maxHeartbeats 4000000
namespace Tent
def at0 (p : List Int) (t : Nat) : Int := (p[t]?).getD 0
def cnt (l : Int) (p : List Int) : Nat := (p.filter fun v => decide (l < v)).length
def span (l h : Int) : List Int := (List.range (h - l + 1).toNat).map fun (k : Nat) => l + (k : Int)
def lims (a z : Int) : List Int := [a, z, min a z - 1, max a z, max a z + 1, max a z + 2]
def chkT (P : List (List Int)) (l h : Int) (t : Nat) : Bool := let vs := P.map fun p => at0 p t
  vs.all (fun v => decide (l ≤ v) && decide (v ≤ h)) && (span l h).all fun x => vs.any fun v => decide (v = x)
def chkL (P : List (List Int)) (m : Int × Int) (l : Int) : Bool := let cs := P.map fun p => ((cnt l p : Nat) : Int)
  cs.all (fun c => decide (m.1 ≤ c) && decide (c ≤ m.2)) && (cs.any fun c => decide (c = m.1)) && (cs.any fun c => decide (c = m.2))
def chk (a z r : Int) (n : Nat) : Bool := let P := paths a z r n n
  (P.all fun p => decide (p.length = n + 1)) && ((List.range (n + 1)).all fun t => chkT P (lo a z r n t) (hi a z r n t) t) && ((lims a z).all fun l => chkL P (many a z r n l) l)
def chkA (a : Int) : Bool := ([1, 2] : List Int).all fun r => (List.range 5).all fun n => (List.range (2 * r * n + 1).toNat).all fun (k : Nat) => chk a (a + (k : Int) - r * n) r n
theorem chk0 : chkA 0 = true := by decide +kernel
theorem chk_of {z r : Int} {n : Nat} (o : Ok 0 z r n) (n4 : n ≤ 4) : chk 0 z r n = true := by
  have c := chk0
  unfold chkA at c
  have hr := o.hr
  have c1 := List.all_eq_true.mp c r (by rcases hr with rfl | rfl <;> simp)
  have c2 := List.all_eq_true.mp c1 n (List.mem_range.mpr (by omega))
  have d1 := o.d1
  have d2 := o.d2
  have c3 := List.all_eq_true.mp c2 (z + r * n).toNat (List.mem_range.mpr (by rcases hr with rfl | rfl <;> omega))
  have e : 0 + (((z + r * n).toNat : Nat) : Int) - r * n = z := by rcases hr with rfl | rfl <;> omega
  rw [e] at c3
  exact c3
/-! ### moved up or down -/
def up (a : Int) (p : List Int) : List Int := p.map (a + ·)
theorem last_up {a : Int} : ∀ {p : List Int}, p ≠ [] → (up a p).getLastD 0 = a + p.getLastD 0
  | [], h => absurd rfl h
  | [x], _ => rfl
  | x :: y :: p, _ => by
    have := last_up (a := a) (p := y :: p) (by simp)
    simpa [up, List.getLastD] using this
theorem ext1_up {a r : Int} {p : List Int} (h : p ≠ []) : ext1 r (up a p) = (ext1 r p).map (up a) := by
  unfold ext1
  rw [List.map_map]
  refine List.map_congr_left fun k _ => ?_
  show up a p ++ [_] = up a (p ++ [_])
  rw [last_up h]
  unfold up
  rw [List.map_append]
  simp only [List.map_cons, List.map_nil]
  congr 2
  omega
theorem ext1_ne {r : Int} {p q : List Int} (h : q ∈ ext1 r p) : q ≠ [] := by
  unfold ext1 at h
  obtain ⟨k, _, rfl⟩ := List.mem_map.mp h
  simp
theorem step_ne {z r left : Int} {ps : List (List Int)} : ∀ q ∈ stepP z r left ps, q ≠ [] := fun q hq => by
  unfold stepP at hq
  obtain ⟨p, _, h⟩ := List.mem_flatMap.mp (List.mem_filter.mp hq).1
  exact ext1_ne h
theorem flat_up {a r : Int} : ∀ {ps : List (List Int)}, (∀ p ∈ ps, p ≠ []) → (ps.map (up a)).flatMap (ext1 r) = (ps.flatMap (ext1 r)).map (up a)
  | [], _ => rfl
  | p :: ps, h => by
    have ih := flat_up (a := a) (r := r) (ps := ps) fun q hq => h q (List.mem_cons_of_mem _ hq)
    rw [List.map_cons, List.flatMap_cons, List.flatMap_cons, List.map_append, ih, ext1_up (h p List.mem_cons_self)]
theorem step_up {a z r left : Int} {ps : List (List Int)} (h : ∀ p ∈ ps, p ≠ []) : stepP z r left (ps.map (up a)) = (stepP (z - a) r left ps).map (up a) := by
  unfold stepP
  rw [flat_up h, List.filter_map]
  congr 1
  refine List.filter_congr fun p hp => ?_
  obtain ⟨q, _, hq⟩ := List.mem_flatMap.mp hp
  show decide ((z - (up a p).getLastD 0).natAbs ≤ r * left) = _
  rw [last_up (ext1_ne hq)]
  congr 3
  omega
theorem paths_ne {a z r : Int} {n : Nat} : ∀ k, ∀ q ∈ paths a z r n k, q ≠ []
  | 0, q, h => by
    cases List.mem_singleton.mp h
    simp
  | k + 1, q, h => step_ne q h
theorem paths_up {a z r : Int} {n : Nat} : ∀ k, paths a z r n k = (paths 0 (z - a) r n k).map (up a)
  | 0 => by
    show [[a]] = [[a + 0]]
    rw [Int.add_zero]
  | k + 1 => by
    show stepP z r _ (paths a z r n k) = _
    rw [paths_up k, step_up (paths_ne k)]
    rfl
theorem ok_0 {a z r n : Int} (o : Ok a z r n) : Ok 0 (z - a) r n := ⟨o.hr, o.n0, by have := o.d1; omega, by have := o.d2; omega⟩
theorem lo_up {a z r n t : Int} : lo a z r n t = a + lo 0 (z - a) r n t := by
  unfold lo
  omega
theorem hi_up {a z r n t : Int} : hi a z r n t = a + hi 0 (z - a) r n t := by
  unfold hi
  omega
theorem at_up {a : Int} {p : List Int} {t : Nat} (h : t < p.length) : at0 (up a p) t = a + at0 p t := by
  unfold at0 up
  rw [List.getElem?_map, List.getElem?_eq_getElem h]
  rfl
theorem cnt_up {a l : Int} {p : List Int} : cnt l (up a p) = cnt (l - a) p := by
  unfold cnt up
  rw [List.filter_map, List.length_map]
  congr 1
  refine List.filter_congr fun x _ => ?_
  show decide (l < a + x) = _
  rw [Bool.eq_iff_iff, decide_eq_true_eq, decide_eq_true_eq]
  omega
theorem many_up {a z r n l : Int} : many a z r n l = many 0 (z - a) r n (l - a) := by
  unfold many sureB notB
  have e1 : a - l = 0 - (l - a) := by omega
  have e2 : z - l = z - a - (l - a) := by omega
  have e3 : l - a = l - a - 0 := by omega
  have e4 : l - z = l - a - (z - a) := by omega
  rw [e1, e2, e4]
  simp only [Int.sub_zero]
/-- what is asked of all paths -/
theorem all_paths {a z r : Int} {n : Nat} (o : Ok a z r n) (n4 : n ≤ 4) :
    (∀ p ∈ paths a z r n n, p.length = n + 1) ∧
    (∀ t ≤ n, (∀ p ∈ paths a z r n n, lo a z r n t ≤ at0 p t ∧ at0 p t ≤ hi a z r n t) ∧ ∀ x, lo a z r n t ≤ x → x ≤ hi a z r n t → ∃ p ∈ paths a z r n n, at0 p t = x) ∧
    (∀ l ∈ lims a z, (∀ p ∈ paths a z r n n, (many a z r n l).1 ≤ cnt l p ∧ (cnt l p : Int) ≤ (many a z r n l).2) ∧ (∃ p ∈ paths a z r n n, (cnt l p : Int) = (many a z r n l).1) ∧ (∃ p ∈ paths a z r n n, (cnt l p : Int) = (many a z r n l).2)) := by
  have c := chk_of (ok_0 o) n4
  unfold chk at c
  simp only [Bool.and_eq_true] at c
  obtain ⟨⟨c1, c2⟩, c3⟩ := c
  have F1 : ∀ p ∈ paths 0 (z - a) r n n, p.length = n + 1 := fun p hp => of_decide_eq_true (List.all_eq_true.mp c1 p hp)
  rw [paths_up n]
  refine ⟨fun p hp => ?_, fun t ht => ?_, fun l hl => ?_⟩
  · obtain ⟨q, hq, rfl⟩ := List.mem_map.mp hp
    unfold up
    rw [List.length_map]
    exact F1 q hq
  · have d := List.all_eq_true.mp c2 t (List.mem_range.mpr (by omega))
    unfold chkT at d
    simp only [Bool.and_eq_true] at d
    obtain ⟨d1, d2⟩ := d
    refine ⟨fun p hp => ?_, fun x h0 h1 => ?_⟩
    · obtain ⟨q, hq, rfl⟩ := List.mem_map.mp hp
      have e := List.all_eq_true.mp d1 _ (List.mem_map.mpr ⟨q, hq, rfl⟩)
      simp only [Bool.and_eq_true, decide_eq_true_eq] at e
      rw [at_up (by rw [F1 q hq]; omega), lo_up, hi_up]
      omega
    · rw [lo_up] at h0
      rw [hi_up] at h1
      have e := List.all_eq_true.mp d2 (x - a) (by
        unfold span
        refine List.mem_map.mpr ⟨(x - a - lo 0 (z - a) r n t).toNat, List.mem_range.mpr (by omega), by omega⟩)
      obtain ⟨v, hv, ev⟩ := List.any_eq_true.mp e
      obtain ⟨q, hq, rfl⟩ := List.mem_map.mp hv
      have ev := of_decide_eq_true ev
      exact ⟨_, List.mem_map.mpr ⟨q, hq, rfl⟩, by rw [at_up (by rw [F1 q hq]; omega), ev]; omega⟩
  · have hl' : l - a ∈ lims 0 (z - a) := by
      unfold lims at hl ⊢
      simp only [List.mem_cons, List.not_mem_nil, or_false] at hl ⊢
      omega
    have d := List.all_eq_true.mp c3 _ hl'
    unfold chkL at d
    simp only [Bool.and_eq_true] at d
    obtain ⟨⟨d1, d2⟩, d3⟩ := d
    rw [many_up]
    refine ⟨fun p hp => ?_, ?_, ?_⟩
    · obtain ⟨q, hq, rfl⟩ := List.mem_map.mp hp
      have e := List.all_eq_true.mp d1 _ (List.mem_map.mpr ⟨q, hq, rfl⟩)
      simp only [Bool.and_eq_true, decide_eq_true_eq] at e
      rw [cnt_up]
      exact e
    · obtain ⟨v, hv, ev⟩ := List.any_eq_true.mp d2
      obtain ⟨q, hq, rfl⟩ := List.mem_map.mp hv
      exact ⟨_, List.mem_map.mpr ⟨q, hq, rfl⟩, by rw [cnt_up]; exact of_decide_eq_true ev⟩
    · obtain ⟨v, hv, ev⟩ := List.any_eq_true.mp d3
      obtain ⟨q, hq, rfl⟩ := List.mem_map.mp hv
      exact ⟨_, List.mem_map.mpr ⟨q, hq, rfl⟩, by rw [cnt_up]; exact of_decide_eq_true ev⟩
end Tent

end
section
set_option Elab.async false
set_option linter.all false
set_option maxRecDepth 100000
set_option maxHeartbeats 4000000
namespace K16
open PySem PySem.Spec PyProof.Rows L2 Ms
def pD (p : List Int) : D := .tup (p.map D.int)
theorem ix_last {p : List Int} (h : p ≠ []) (bx : Sto) : cIx bx (pD p) (.int (-1)) = some (.int (p.getLastD 0)) := by
  have hp : 0 < p.length := List.length_pos_iff.mpr h
  unfold pD
  rw [ev_ix vs_tup]
  show atI (p.map D.int) (-1) = _
  unfold atI ixN
  rw [if_neg (by decide), List.length_map, if_pos (by omega)]
  have e : (-1 + (p.length : Int)).toNat = p.length - 1 := by omega
  show (p.map D.int)[(-1 + (p.length : Int)).toNat]? = _
  rw [e, List.getElem?_map, ← List.getLast?_eq_getElem?]
  cases hq : p.getLast? with
  | none => exact absurd (List.getLast?_eq_none_iff.mp hq) h
  | some y =>
    rw [List.getLastD_eq_getLast?, hq]
    rfl
theorem map_get {α : Type} {f : α → D} {S : List α} {i : Nat} {d : D} (h : (S.map f)[i]? = some d) : ∃ y, S[i]? = some y ∧ d = f y := by
  rw [List.getElem?_map] at h
  cases e : S[i]? with
  | none => rw [e] at h; cases h
  | some y =>
    rw [e] at h
    exact ⟨y, rfl, (Option.some.inj h).symm⟩
/-- a comprehension over what is not changed -/
theorem lcF {α : Type} {j : Nat} {δ : List (Option D)} {bx : Sto} {C : Fn Bool} {F : Fn D} {l : List α} {f : α → D} {p : α → Bool} {g : α → D} (h : ∀ w ∈ l, C (δ.set j (some (f w))) bx = .ok (p w) bx ∧ (p w = true → F (δ.set j (some (f w))) bx = .ok (g w) bx)) :
    lcGo (bOne j) δ C F (l.map f) bx [] = .ok ((l.filter p).map g) bx := by
  have key : W (lcGo (bOne j) δ C F (l.map f) bx []) (fun acc st => acc = (l.filter p).map g ∧ st = bx) NoE := by
    refine lc_rule (fun i acc st => acc = ((l.take i).filter p).map g ∧ st = bx) ⟨rfl, rfl⟩ ?_ ?_
    · rintro acc st ⟨rfl, rfl⟩
      rw [List.length_map, List.take_length]
      exact ⟨rfl, rfl⟩
    · rintro i d acc st hd ⟨rfl, rfl⟩
      obtain ⟨w, hw, rfl⟩ := map_get hd
      obtain ⟨h1, h2⟩ := h w (List.mem_of_getElem? hw)
      refine ⟨_, rfl, ?_⟩
      rw [h1, W_ok, take_succ hw, List.filter_append, List.map_append]
      cases hp : p w with
      | true =>
        rw [if_pos rfl, h2 hp, W_ok]
        simp [hp]
      | false =>
        rw [if_neg (by decide)]
        simp [hp]
  obtain ⟨acc, st, e, e1, e2⟩ := W.ok_iff.mpr key
  rw [e, e1, e2]
theorem ext_len {r : Int} (hr : r = 1 ∨ r = 2) (p : List Int) : (Tent.ext1 r p).length ≤ 5 := by
  unfold Tent.ext1
  rw [List.length_map, List.length_range]
  omega
theorem flat_len {r : Int} (hr : r = 1 ∨ r = 2) : ∀ ps : List (List Int), (ps.flatMap (Tent.ext1 r)).length ≤ 5 * ps.length
  | [] => Nat.le_refl _
  | p :: ps => by
    have := flat_len hr ps
    have := ext_len hr p
    rw [List.flatMap_cons, List.length_append, List.length_cons]
    omega
theorem paths_len {a z r : Int} {n : Nat} (hr : r = 1 ∨ r = 2) : ∀ k, (Tent.paths a z r n k).length ≤ 5 ^ k
  | 0 => Nat.le_refl _
  | k + 1 => by
    have h1 := paths_len (a := a) (z := z) (n := n) hr k
    have h2 := flat_len hr (Tent.paths a z r n k)
    have h3 : (Tent.paths a z r n (k + 1)).length ≤ ((Tent.paths a z r n k).flatMap (Tent.ext1 r)).length := List.length_filter_le _ _
    rw [Nat.pow_succ]
    omega
theorem plen {a z r : Int} {n : Nat} : ∀ k, ∀ p ∈ Tent.paths a z r n k, p.length = k + 1
  | 0, p, h => by
    cases List.mem_singleton.mp h
    rfl
  | k + 1, p, h => by
    obtain ⟨q, hq, hp⟩ := List.mem_flatMap.mp (List.mem_filter.mp h).1
    have := plen k q hq
    obtain ⟨i, _, rfl⟩ := List.mem_map.mp hp
    rw [List.length_append, this]
    rfl
theorem flat_take {r : Int} {P : List (List Int)} {i : Nat} {p : List Int} (h : P[i]? = some p) : (P.take (i + 1)).flatMap (Tent.ext1 r) = (P.take i).flatMap (Tent.ext1 r) ++ Tent.ext1 r p := by
  rw [take_succ h, List.flatMap_append]
  simp
theorem paths_ok {a z r : Int} {n : Nat} (o : Tent.Ok a z r n) (n4 : n ≤ 4) (bx : Sto) : Th (W (m__law_paths [.tup (tl a z r n)] bx) (fun x st => x = .lst ((Tent.paths a z r n n).map pD) ∧ st = bx) NoE) := by
  constructor
  have hr := o.hr
  unfold m__law_paths S__law_paths N__law_paths
  rw [W_noErr, W_fnD, WS_seq, WS_unp]
  simp only [WS_next, W_B, W_f1, W_f2, W_fA, W_cons, W_pur, W_var, W_not, W_ifT, W_ifB, W_call, W_callK, W_chain, W_wk, W_sl, W_po, W_poN, W_ok, W_err, W_noErr, W_fnD, ev_plus, ev_sub, ev_iB, ev_toB, ev_not, ev_neg, ev_isN, ev_notN, ev_isB, ev_int, ev_abs, ev_max, ev_min, ev_eqI, ev_neI, Ms.isNon, Option.some.injEq, exists_eq_left', List.getElem?_cons_zero, List.getElem?_cons_succ, List.set_cons_zero, List.set_cons_succ, List.map_cons, List.map_nil, List.cons_append, List.nil_append, List.length_cons, List.length_nil, List.reduceReplicate, Nat.reduceAdd, Nat.reduceSub, Bool.not_true, Bool.not_false, Bool.false_eq_true, Bool.true_eq_false, if_true, if_false, decide_true, decide_false, D.int.injEq, D.bl.injEq, D.ref.injEq, exists_and_left, vs_tup, tl, Option.bind_some, setAll]
  rw [WS_seq, WS_set]
  simp only [WS_next, W_B, W_f1, W_f2, W_fA, W_cons, W_pur, W_var, W_not, W_ifT, W_ifB, W_call, W_callK, W_chain, W_wk, W_sl, W_po, W_poN, W_ok, W_err, W_noErr, W_fnD, ev_plus, ev_sub, ev_iB, ev_toB, ev_not, ev_neg, ev_isN, ev_notN, ev_isB, ev_int, ev_abs, ev_max, ev_min, ev_eqI, ev_neI, Ms.isNon, Option.some.injEq, exists_eq_left', List.getElem?_cons_zero, List.getElem?_cons_succ, List.set_cons_zero, List.set_cons_succ, List.map_cons, List.map_nil, List.cons_append, List.nil_append, List.length_cons, List.length_nil, List.reduceReplicate, Nat.reduceAdd, Nat.reduceSub, Bool.not_true, Bool.not_false, Bool.false_eq_true, Bool.true_eq_false, if_true, if_false, decide_true, decide_false, D.int.injEq, D.bl.injEq, D.ref.injEq, exists_and_left]
  refine ⟨_, ev_tup (by show 1 ≤ 1000; decide), _, ev_lst (by show 1 ≤ 1000; decide), ?_⟩
  rw [WS_seq, WS_for]
  simp only [WS_next, W_B, W_f1, W_f2, W_fA, W_cons, W_pur, W_var, W_not, W_ifT, W_ifB, W_call, W_callK, W_chain, W_wk, W_sl, W_po, W_poN, W_ok, W_err, W_noErr, W_fnD, ev_plus, ev_sub, ev_iB, ev_toB, ev_not, ev_neg, ev_isN, ev_notN, ev_isB, ev_int, ev_abs, ev_max, ev_min, ev_eqI, ev_neI, Ms.isNon, Option.some.injEq, exists_eq_left', List.getElem?_cons_zero, List.getElem?_cons_succ, List.set_cons_zero, List.set_cons_succ, List.map_cons, List.map_nil, List.cons_append, List.nil_append, List.length_cons, List.length_nil, List.reduceReplicate, Nat.reduceAdd, Nat.reduceSub, Bool.not_true, Bool.not_false, Bool.false_eq_true, Bool.true_eq_false, if_true, if_false, decide_true, decide_false, D.int.injEq, D.bl.injEq, D.ref.injEq, exists_and_left, W_rg1]
  refine ⟨_, rfl, by omega, by omega, ?_⟩
  have tn : ((n : Int)).toNat = n := by omega
  rw [tn, rgl_rg]
  refine for_rule (fun k δ st => st = bx ∧ ∃ x6 x7 x8 x9, δ = [some (.tup [.int a, .int z, .int r, .int n]), some (.int a), some (.int z), some (.int r), some (.int n), some (.lst ((Tent.paths a z r n k).map pD)), x6, x7, x8, x9]) ⟨rfl, _, _, _, _, rfl⟩ ?_ ?_
  · rintro δ st ⟨rfl, x6, x7, x8, x9, rfl⟩
    rw [WS_seq, WS_ret]
    simp only [WS_next, W_B, W_f1, W_f2, W_fA, W_cons, W_pur, W_var, W_not, W_ifT, W_ifB, W_call, W_callK, W_chain, W_wk, W_sl, W_po, W_poN, W_ok, W_err, W_noErr, W_fnD, ev_plus, ev_sub, ev_iB, ev_toB, ev_not, ev_neg, ev_isN, ev_notN, ev_isB, ev_int, ev_abs, ev_max, ev_min, ev_eqI, ev_neI, Ms.isNon, Option.some.injEq, exists_eq_left', List.getElem?_cons_zero, List.getElem?_cons_succ, List.set_cons_zero, List.set_cons_succ, List.map_cons, List.map_nil, List.cons_append, List.nil_append, List.length_cons, List.length_nil, List.reduceReplicate, Nat.reduceAdd, Nat.reduceSub, Bool.not_true, Bool.not_false, Bool.false_eq_true, Bool.true_eq_false, if_true, if_false, decide_true, decide_false, D.int.injEq, D.bl.injEq, D.ref.injEq, exists_and_left, List.length_map, rg_len, and_self]
  · rintro k d δ st hd ⟨rfl, x6, x7, x8, x9, rfl⟩
    obtain ⟨w, hw, rfl⟩ := map_get hd
    have hk : w = (k : Int) ∧ k < n := by
      unfold rg at hw
      rw [List.getElem?_map] at hw
      have hi : k < n := by
        by_cases q : k < n
        · exact q
        · rw [List.getElem?_eq_none (by rw [List.length_range]; omega)] at hw
          cases hw
      rw [List.getElem?_range hi] at hw
      have : (0 : Int) + (k : Int) = w := Option.some.inj hw
      exact ⟨by omega, hi⟩
    obtain ⟨rfl, hk⟩ := hk
    refine ⟨_, rfl, ?_⟩
    rw [WS_seq, WS_set]
    simp only [WS_next, W_B, W_f1, W_f2, W_fA, W_cons, W_pur, W_var, W_not, W_ifT, W_ifB, W_call, W_callK, W_chain, W_wk, W_sl, W_po, W_poN, W_ok, W_err, W_noErr, W_fnD, ev_plus, ev_sub, ev_iB, ev_toB, ev_not, ev_neg, ev_isN, ev_notN, ev_isB, ev_int, ev_abs, ev_max, ev_min, ev_eqI, ev_neI, Ms.isNon, Option.some.injEq, exists_eq_left', List.getElem?_cons_zero, List.getElem?_cons_succ, List.set_cons_zero, List.set_cons_succ, List.map_cons, List.map_nil, List.cons_append, List.nil_append, List.length_cons, List.length_nil, List.reduceReplicate, Nat.reduceAdd, Nat.reduceSub, Bool.not_true, Bool.not_false, Bool.false_eq_true, Bool.true_eq_false, if_true, if_false, decide_true, decide_false, D.int.injEq, D.bl.injEq, D.ref.injEq, exists_and_left]
    refine ⟨_, ev_lst (by decide), ?_⟩
    have pl : (Tent.paths a z r n k).length ≤ 125 := by
      have h1 := paths_len (a := a) (z := z) (n := n) hr k
      have h2 : 5 ^ k ≤ 5 ^ 3 := Nat.pow_le_pow_right (by decide) (by omega)
      omega
    have pne := Tent.paths_ne (a := a) (z := z) (r := r) (n := n) k
    have pl5 := plen (a := a) (z := z) (r := r) (n := n) k
    obtain ⟨P, hP⟩ : ∃ P, P = Tent.paths a z r n k := ⟨_, rfl⟩
    have hS : Tent.paths a z r n (k + 1) = Tent.stepP z r ((n : Int) - (k : Int) - 1) P := by rw [hP]; rfl
    rw [← hP] at pl pne pl5 ⊢
    rw [hS]
    clear hP hS
    rw [WS_seq, WS_for]
    simp only [WS_next, W_B, W_f1, W_f2, W_fA, W_cons, W_pur, W_var, W_not, W_ifT, W_ifB, W_call, W_callK, W_chain, W_wk, W_sl, W_po, W_poN, W_ok, W_err, W_noErr, W_fnD, ev_plus, ev_sub, ev_iB, ev_toB, ev_not, ev_neg, ev_isN, ev_notN, ev_isB, ev_int, ev_abs, ev_max, ev_min, ev_eqI, ev_neI, Ms.isNon, Option.some.injEq, exists_eq_left', List.getElem?_cons_zero, List.getElem?_cons_succ, List.set_cons_zero, List.set_cons_succ, List.map_cons, List.map_nil, List.cons_append, List.nil_append, List.length_cons, List.length_nil, List.reduceReplicate, Nat.reduceAdd, Nat.reduceSub, Bool.not_true, Bool.not_false, Bool.false_eq_true, Bool.true_eq_false, if_true, if_false, decide_true, decide_false, D.int.injEq, D.bl.injEq, D.ref.injEq, exists_and_left]
    refine ⟨_, rfl, ?_⟩
    refine for_rule (fun i δ s' => s' = st ∧ ∃ x8 x9, δ = [some (.tup [.int a, .int z, .int r, .int n]), some (.int a), some (.int z), some (.int r), some (.int n), some (.lst (P.map pD)), some (.int k), some (.lst (((P.take i).flatMap (Tent.ext1 r)).map pD)), x8, x9]) ⟨rfl, _, _, rfl⟩ ?_ ?_
    · rintro δ s' ⟨rfl, x8, x9, rfl⟩
      rw [List.length_map, List.take_length]
      rw [WS_seq, WS_set, W_lc, W_lcA]
      simp only [WS_next, W_B, W_f1, W_f2, W_fA, W_cons, W_pur, W_var, W_not, W_ifT, W_ifB, W_call, W_callK, W_chain, W_wk, W_sl, W_po, W_poN, W_ok, W_err, W_noErr, W_fnD, ev_plus, ev_sub, ev_iB, ev_toB, ev_not, ev_neg, ev_isN, ev_notN, ev_isB, ev_int, ev_abs, ev_max, ev_min, ev_eqI, ev_neI, Ms.isNon, Option.some.injEq, exists_eq_left', List.getElem?_cons_zero, List.getElem?_cons_succ, List.set_cons_zero, List.set_cons_succ, List.map_cons, List.map_nil, List.cons_append, List.nil_append, List.length_cons, List.length_nil, List.reduceReplicate, Nat.reduceAdd, Nat.reduceSub, Bool.not_true, Bool.not_false, Bool.false_eq_true, Bool.true_eq_false, if_true, if_false, decide_true, decide_false, D.int.injEq, D.bl.injEq, D.ref.injEq, exists_and_left]
      have fl := flat_len hr P
      refine ⟨_, rfl, by rw [List.length_map]; omega, ?_⟩
      rw [lcF (p := fun p => decide ((z - p.getLastD 0).natAbs ≤ r * ((n : Int) - (k : Int) - 1))) (g := pD) fun p hp => ?_, W_ok]
      · exact ⟨rfl, _, _, _, _, rfl⟩
      · obtain ⟨q, _, hq⟩ := List.mem_flatMap.mp hp
        have il := fun bx => ix_last (Tent.ext1_ne hq) bx
        refine ⟨W.eq ?_, fun _ => W.eq ?_⟩
        · simp only [unset, List.foldl_cons, List.foldl_nil, WS_next, W_B, W_f1, W_f2, W_fA, W_cons, W_pur, W_var, W_not, W_ifT, W_ifB, W_call, W_callK, W_chain, W_wk, W_sl, W_po, W_poN, W_ok, W_err, W_noErr, W_fnD, ev_plus, ev_sub, ev_iB, ev_toB, ev_not, ev_neg, ev_isN, ev_notN, ev_isB, ev_int, ev_abs, ev_max, ev_min, ev_eqI, ev_neI, Ms.isNon, Option.some.injEq, exists_eq_left', List.getElem?_cons_zero, List.getElem?_cons_succ, List.set_cons_zero, List.set_cons_succ, List.map_cons, List.map_nil, List.cons_append, List.nil_append, List.length_cons, List.length_nil, List.reduceReplicate, Nat.reduceAdd, Nat.reduceSub, Bool.not_true, Bool.not_false, Bool.false_eq_true, Bool.true_eq_false, if_true, if_false, decide_true, decide_false, D.int.injEq, D.bl.injEq, D.ref.injEq, exists_and_left, il, mulr hr]
          refine ⟨?_, trivial⟩
          congr 1
          apply propext
          split <;> omega
        · simp only [unset, List.foldl_cons, List.foldl_nil, WS_next, W_B, W_f1, W_f2, W_fA, W_cons, W_pur, W_var, W_not, W_ifT, W_ifB, W_call, W_callK, W_chain, W_wk, W_sl, W_po, W_poN, W_ok, W_err, W_noErr, W_fnD, ev_plus, ev_sub, ev_iB, ev_toB, ev_not, ev_neg, ev_isN, ev_notN, ev_isB, ev_int, ev_abs, ev_max, ev_min, ev_eqI, ev_neI, Ms.isNon, Option.some.injEq, exists_eq_left', List.getElem?_cons_zero, List.getElem?_cons_succ, List.set_cons_zero, List.set_cons_succ, List.map_cons, List.map_nil, List.cons_append, List.nil_append, List.length_cons, List.length_nil, List.reduceReplicate, Nat.reduceAdd, Nat.reduceSub, Bool.not_true, Bool.not_false, Bool.false_eq_true, Bool.true_eq_false, if_true, if_false, decide_true, decide_false, D.int.injEq, D.bl.injEq, D.ref.injEq, exists_and_left, and_self]
    · rintro i d δ s' hd ⟨rfl, x8, x9, rfl⟩
      obtain ⟨p, hp, rfl⟩ := map_get hd
      refine ⟨_, rfl, ?_⟩
      have pm := List.mem_of_getElem? hp
      rw [WS_seq, WS_set, W_f2, W_var]
      simp only [WS_next, W_B, W_f1, W_f2, W_fA, W_cons, W_pur, W_var, W_not, W_ifT, W_ifB, W_call, W_callK, W_chain, W_wk, W_sl, W_po, W_poN, W_ok, W_err, W_noErr, W_fnD, ev_plus, ev_sub, ev_iB, ev_toB, ev_not, ev_neg, ev_isN, ev_notN, ev_isB, ev_int, ev_abs, ev_max, ev_min, ev_eqI, ev_neI, Ms.isNon, Option.some.injEq, exists_eq_left', List.getElem?_cons_zero, List.getElem?_cons_succ, List.set_cons_zero, List.set_cons_succ, List.map_cons, List.map_nil, List.cons_append, List.nil_append, List.length_cons, List.length_nil, List.reduceReplicate, Nat.reduceAdd, Nat.reduceSub, Bool.not_true, Bool.not_false, Bool.false_eq_true, Bool.true_eq_false, if_true, if_false, decide_true, decide_false, D.int.injEq, D.bl.injEq, D.ref.injEq, exists_and_left]
      rw [W_lc, W_lcA]
      simp only [WS_next, W_B, W_f1, W_f2, W_fA, W_cons, W_pur, W_var, W_not, W_ifT, W_ifB, W_call, W_callK, W_chain, W_wk, W_sl, W_po, W_poN, W_ok, W_err, W_noErr, W_fnD, ev_plus, ev_sub, ev_iB, ev_toB, ev_not, ev_neg, ev_isN, ev_notN, ev_isB, ev_int, ev_abs, ev_max, ev_min, ev_eqI, ev_neI, Ms.isNon, Option.some.injEq, exists_eq_left', List.getElem?_cons_zero, List.getElem?_cons_succ, List.set_cons_zero, List.set_cons_succ, List.map_cons, List.map_nil, List.cons_append, List.nil_append, List.length_cons, List.length_nil, List.reduceReplicate, Nat.reduceAdd, Nat.reduceSub, Bool.not_true, Bool.not_false, Bool.false_eq_true, Bool.true_eq_false, if_true, if_false, decide_true, decide_false, D.int.injEq, D.bl.injEq, D.ref.injEq, exists_and_left, W_rg2]
      refine ⟨_, _, rfl, by omega, ?_⟩
      have e1 : (r + 1 - (0 - r)).toNat = (2 * r + 1).toNat := by omega
      have e2 : rgl (0 - r) (2 * r + 1).toNat = (List.range (2 * r + 1).toNat).map fun (k : Nat) => D.int (0 - r + (k : Int)) := rfl
      rw [e1, e2]
      refine ⟨by rw [List.length_map, List.length_range]; omega, ?_⟩
      have il := fun bx => ix_last (pne p pm) bx
      have pl6 := pl5 p pm
      have p1 : ∀ (bx : Sto) (A B : List D), A.length ≤ 1000 → B.length ≤ 1000 → cPlus bx (.tup A) (.tup B) = some (.tup (A ++ B)) := fun bx A B h k => if_pos (by omega)
      have p2 : ∀ (bx : Sto) (A B : List D), A.length ≤ 1000 → B.length ≤ 1000 → cPlus bx (.lst A) (.lst B) = some (.lst (A ++ B)) := fun bx A B h k => if_pos (by omega)
      rw [lcF (p := fun _ => true) (g := fun (k : Nat) => pD (p ++ [p.getLastD 0 + (0 - r + (k : Int))])) fun w hw => ?_, W_ok]
      · have fl := flat_len hr (P.take i)
        have tl5 : (P.take i).length ≤ P.length := by rw [List.length_take]; omega
        refine ⟨_, p2 _ _ _ (by rw [List.length_map]; omega) (by rw [List.length_map]; refine Nat.le_trans (List.length_filter_le _ _) ?_; rw [List.length_range]; omega), rfl, some (pD p), x9, ?_⟩
        have ef : (List.range (2 * r + 1).toNat).filter (fun _ => true) = List.range (2 * r + 1).toNat := List.filter_eq_self.mpr fun _ _ => rfl
        have ee : (Tent.ext1 r p).map pD = (List.range (2 * r + 1).toNat).map fun (k : Nat) => pD (p ++ [p.getLastD 0 + (0 - r + (k : Int))]) := by
          unfold Tent.ext1
          rw [List.map_map]
          refine List.map_congr_left fun k _ => ?_
          show pD (p ++ [p.getLastD 0 + (-r + (k : Int))]) = _
          rw [show -r + (k : Int) = 0 - r + (k : Int) by omega]
        rw [flat_take hp, List.map_append, ef, ee]
      · refine ⟨rfl, fun _ => W.eq ?_⟩
        simp only [unset, List.foldl_cons, List.foldl_nil, WS_next, W_B, W_f1, W_f2, W_fA, W_cons, W_pur, W_var, W_not, W_ifT, W_ifB, W_call, W_callK, W_chain, W_wk, W_sl, W_po, W_poN, W_ok, W_err, W_noErr, W_fnD, ev_plus, ev_sub, ev_iB, ev_toB, ev_not, ev_neg, ev_isN, ev_notN, ev_isB, ev_int, ev_abs, ev_max, ev_min, ev_eqI, ev_neI, Ms.isNon, Option.some.injEq, exists_eq_left', List.getElem?_cons_zero, List.getElem?_cons_succ, List.set_cons_zero, List.set_cons_succ, List.map_cons, List.map_nil, List.cons_append, List.nil_append, List.length_cons, List.length_nil, List.reduceReplicate, Nat.reduceAdd, Nat.reduceSub, Bool.not_true, Bool.not_false, Bool.false_eq_true, Bool.true_eq_false, if_true, if_false, decide_true, decide_false, D.int.injEq, D.bl.injEq, D.ref.injEq, exists_and_left, il]
        refine ⟨_, ev_tup (by show 1 ≤ 1000; decide), ?_⟩
        refine ⟨_, p1 _ _ _ (by rw [List.length_map]; omega) (by show 1 ≤ 1000; decide), ?_, trivial⟩
        unfold pD
        rw [List.map_append]
        rfl
end K16

end
section
set_option Elab.async false
set_option linter.all false
set_option maxRecDepth 100000
set_option maxHeartbeats 4000000
namespace K16
open PySem PySem.Spec PyProof.Rows L2 Ms
def absI (x : Int) : Int := if x < 0 then -x else x
def unI : D → Int
  | .int i => i
  | _ => 0
def stepB (r : Int) (xs : List Int) : Bool := (xs.zip (xs.drop 1)).all fun p => decide (absI (p.1 - p.2) ≤ r)
def isPI (a z r : Int) (xs : List Int) : Bool := (xs.headD 0 == a) && ((xs.getLastD 0 == z) && stepB r xs)
def isP (a z r : Int) (n : Nat) (v : D) : Bool := match v with
  | .lst l => (l.length == n + 1) && (l.all isI && isPI a z r (l.map unI))
  | .tup l => (l.length == n + 1) && (l.all isI && isPI a z r (l.map unI))
  | _ => false
theorem isP_seq {a z r : Int} {n : Nat} {v : D} {l : List D} (h : Seq2 v l) : isP a z r n v = ((l.length == n + 1) && (l.all isI && isPI a z r (l.map unI))) := by rcases h with rfl | rfl <;> rfl
theorem ints_of {l : List D} (h : l.all isI = true) : l = (l.map unI).map D.int := by
  rw [List.map_map]
  have e : l.map (D.int ∘ unI) = l.map id := List.map_congr_left fun x hx => by
    have := List.all_eq_true.mp h x hx
    cases x <;> first | (cases this; done) | rfl
  rw [e, List.map_id]
structure Wf (v : D) : Prop where
  cl : v.cl = true
  el : ∀ l, Seq2 v l → l.length ≤ 1000 ∧ ∀ x ∈ l, x.cl = true ∧ Sm x
theorem ix0 {v : D} {xs : List Int} (h : Seq2 v (xs.map D.int)) (ne : xs ≠ []) (bx : Sto) : cIx bx v (.int 0) = some (.int (xs.headD 0)) := by
  rw [ev_ix (h.vs bx)]
  cases xs with
  | nil => exact absurd rfl ne
  | cons x l => exact atI_int (i := 0) (by decide) rfl
theorem ixL {v : D} {xs : List Int} (h : Seq2 v (xs.map D.int)) (ne : xs ≠ []) (bx : Sto) : cIx bx v (.int (-1)) = some (.int (xs.getLastD 0)) := by
  have := ix_last ne bx
  unfold pD at this
  rw [ev_ix vs_tup] at this
  rw [ev_ix (h.vs bx)]
  exact this
theorem ixA {v : D} {xs : List Int} (h : Seq2 v (xs.map D.int)) {i : Int} (h0 : 0 ≤ i) (h1 : i < xs.length) (bx : Sto) : cIx bx v (.int i) = some (.int ((xs[i.toNat]?).getD 0)) := by
  rw [ev_ix (h.vs bx)]
  refine atI_int h0 ?_
  rw [List.getElem?_map, List.getElem?_eq_getElem (by omega)]
  rfl
theorem zipD_eq : ∀ l m : List D, zipD l m = (l.zip m).map fun p => .tup [p.1, p.2]
  | [], _ => by simp [zipD]
  | _ :: _, [] => by simp [zipD]
  | x :: r, y :: t => by simp [zipD, zipD_eq r t]
theorem cut1 (l : List D) : Ms.cutD l (some 1) none = l.drop 1 := by
  unfold Ms.cutD HT.sIx
  cases l with
  | nil => rfl
  | cons x r =>
    simp
    try (rw [List.take_of_length_le]; omega)
theorem zip_ints (xs : List Int) : (xs.map D.int).zip ((xs.map D.int).drop 1) = (xs.zip (xs.drop 1)).map fun p => (D.int p.1, D.int p.2) := by
  rw [← List.map_drop, List.zip_map]
  rfl
theorem holds_ok {a z r : Int} {n : Nat} {d v : D} (h : Seq2 d (tl a z r n)) (o : Tent.Ok a z r n) (wf : Wf v) (bx : Sto) : m_path_holds [d, v] bx = .ok (.bl (isP a z r n v)) bx := W.eq (by
  have hp : m_has_parts [v, .int ((n : Int) + 1)] bx = .ok (.bl (hasP v (n + 1))) bx := by
    rw [show ((n : Int) + 1) = ((n + 1 : Nat) : Int) by omega, m_has wf.cl]
  unfold m_path_holds S_path_holds N_path_holds
  rw [W_fnD, WS_seq, WS_unp]
  simp only [WS_next, W_B, W_f1, W_f2, W_fA, W_cons, W_pur, W_var, W_not, W_ifT, W_ifB, W_call, W_callK, W_chain, W_wk, W_sl, W_po, W_poN, W_ok, W_err, W_noErr, W_fnD, ev_plus, ev_sub, ev_iB, ev_toB, ev_not, ev_neg, ev_isN, ev_notN, ev_isB, ev_int, ev_abs, ev_max, ev_min, ev_eqI, ev_neI, Ms.isNon, Option.some.injEq, exists_eq_left', List.getElem?_cons_zero, List.getElem?_cons_succ, List.set_cons_zero, List.set_cons_succ, List.map_cons, List.map_nil, List.cons_append, List.nil_append, List.length_cons, List.length_nil, List.reduceReplicate, Nat.reduceAdd, Nat.reduceSub, Bool.not_true, Bool.not_false, Bool.false_eq_true, Bool.true_eq_false, if_true, if_false, decide_true, decide_false, D.int.injEq, D.bl.injEq, D.ref.injEq, exists_and_left, check_ok h o]
  simp only [vs_tup, tl, Option.bind_some, setAll, WS_next, W_B, W_f1, W_f2, W_fA, W_cons, W_pur, W_var, W_not, W_ifT, W_ifB, W_call, W_callK, W_chain, W_wk, W_sl, W_po, W_poN, W_ok, W_err, W_noErr, W_fnD, ev_plus, ev_sub, ev_iB, ev_toB, ev_not, ev_neg, ev_isN, ev_notN, ev_isB, ev_int, ev_abs, ev_max, ev_min, ev_eqI, ev_neI, Ms.isNon, Option.some.injEq, exists_eq_left', List.getElem?_cons_zero, List.getElem?_cons_succ, List.set_cons_zero, List.set_cons_succ, List.map_cons, List.map_nil, List.cons_append, List.nil_append, List.length_cons, List.length_nil, List.reduceReplicate, Nat.reduceAdd, Nat.reduceSub, Bool.not_true, Bool.not_false, Bool.false_eq_true, Bool.true_eq_false, if_true, if_false, decide_true, decide_false, D.int.injEq, D.bl.injEq, D.ref.injEq, exists_and_left]
  rw [WS_seq, WS_if]
  simp only [WS_next, W_B, W_f1, W_f2, W_fA, W_cons, W_pur, W_var, W_not, W_ifT, W_ifB, W_call, W_callK, W_chain, W_wk, W_sl, W_po, W_poN, W_ok, W_err, W_noErr, W_fnD, ev_plus, ev_sub, ev_iB, ev_toB, ev_not, ev_neg, ev_isN, ev_notN, ev_isB, ev_int, ev_abs, ev_max, ev_min, ev_eqI, ev_neI, Ms.isNon, Option.some.injEq, exists_eq_left', List.getElem?_cons_zero, List.getElem?_cons_succ, List.set_cons_zero, List.set_cons_succ, List.map_cons, List.map_nil, List.cons_append, List.nil_append, List.length_cons, List.length_nil, List.reduceReplicate, Nat.reduceAdd, Nat.reduceSub, Bool.not_true, Bool.not_false, Bool.false_eq_true, Bool.true_eq_false, if_true, if_false, decide_true, decide_false, D.int.injEq, D.bl.injEq, D.ref.injEq, exists_and_left, hp]
  cases hv : hasP v (n + 1) with
  | false =>
    have e : isP a z r n v = false := by
      cases v with
      | lst l =>
        have hv' : (l.length == n + 1) = false := hv
        unfold isP
        dsimp only
        rw [hv', Bool.false_and]
      | tup l =>
        have hv' : (l.length == n + 1) = false := hv
        unfold isP
        dsimp only
        rw [hv', Bool.false_and]
      | _ => rfl
    rw [e]
    simp only [WS_seq, WS_if, WS_set, WS_ret, WS_drop, WS_raise, WS_next, WS_unp, WS_par, WS_for, W_B, W_f1, W_f2, W_fA, W_cons, W_pur, W_var, W_not, W_ifT, W_ifB, W_call, W_callK, W_chain, W_wk, W_sl, W_po, W_poN, W_ok, W_err, W_noErr, W_fnD, ev_plus, ev_sub, ev_iB, ev_toB, ev_not, ev_neg, ev_isN, ev_notN, ev_isB, ev_int, ev_abs, ev_max, ev_min, ev_eqI, ev_neI, Ms.isNon, Option.some.injEq, exists_eq_left', List.getElem?_cons_zero, List.getElem?_cons_succ, List.set_cons_zero, List.set_cons_succ, List.map_cons, List.map_nil, List.cons_append, List.nil_append, List.length_cons, List.length_nil, List.reduceReplicate, Nat.reduceAdd, Nat.reduceSub, Bool.not_true, Bool.not_false, Bool.false_eq_true, Bool.true_eq_false, if_true, if_false, decide_true, decide_false, D.int.injEq, D.bl.injEq, D.ref.injEq, exists_and_left, and_self]
  | true =>
    have hl : ∃ l, Seq2 v l ∧ l.length = n + 1 := by
      cases v with
      | lst l => exact ⟨l, .inl rfl, by simpa [hasP] using hv⟩
      | tup l => exact ⟨l, .inr rfl, by simpa [hasP] using hv⟩
      | _ => cases hv
    obtain ⟨l, hs, len⟩ := hl
    obtain ⟨l1000, el⟩ := wf.el l hs
    rw [isP_seq hs, len, beq_self_eq_true, Bool.true_and]
    simp only [WS_next, W_B, W_f1, W_f2, W_fA, W_cons, W_pur, W_var, W_not, W_ifT, W_ifB, W_call, W_callK, W_chain, W_wk, W_sl, W_po, W_poN, W_ok, W_err, W_noErr, W_fnD, ev_plus, ev_sub, ev_iB, ev_toB, ev_not, ev_neg, ev_isN, ev_notN, ev_isB, ev_int, ev_abs, ev_max, ev_min, ev_eqI, ev_neI, Ms.isNon, Option.some.injEq, exists_eq_left', List.getElem?_cons_zero, List.getElem?_cons_succ, List.set_cons_zero, List.set_cons_succ, List.map_cons, List.map_nil, List.cons_append, List.nil_append, List.length_cons, List.length_nil, List.reduceReplicate, Nat.reduceAdd, Nat.reduceSub, Bool.not_true, Bool.not_false, Bool.false_eq_true, Bool.true_eq_false, if_true, if_false, decide_true, decide_false, D.int.injEq, D.bl.injEq, D.ref.injEq, exists_and_left, W_allG, hs.wlk]
    rw [all_pure (p := isI) fun x hx => ⟨_, rfl, W.eq (by simp only [WS_seq, WS_if, WS_set, WS_ret, WS_drop, WS_raise, WS_next, WS_unp, WS_par, WS_for, W_B, W_f1, W_f2, W_fA, W_cons, W_pur, W_var, W_not, W_ifT, W_ifB, W_call, W_callK, W_chain, W_wk, W_sl, W_po, W_poN, W_ok, W_err, W_noErr, W_fnD, ev_plus, ev_sub, ev_iB, ev_toB, ev_not, ev_neg, ev_isN, ev_notN, ev_isB, ev_int, ev_abs, ev_max, ev_min, ev_eqI, ev_neI, Ms.isNon, Option.some.injEq, exists_eq_left', List.getElem?_cons_zero, List.getElem?_cons_succ, List.set_cons_zero, List.set_cons_succ, List.map_cons, List.map_nil, List.cons_append, List.nil_append, List.length_cons, List.length_nil, List.reduceReplicate, Nat.reduceAdd, Nat.reduceSub, Bool.not_true, Bool.not_false, Bool.false_eq_true, Bool.true_eq_false, if_true, if_false, decide_true, decide_false, D.int.injEq, D.bl.injEq, D.ref.injEq, exists_and_left, unset, m_int (el x hx).1, and_self])⟩]
    cases hi : l.all isI with
    | false => simp only [WS_seq, WS_if, WS_set, WS_ret, WS_drop, WS_raise, WS_next, WS_unp, WS_par, WS_for, W_B, W_f1, W_f2, W_fA, W_cons, W_pur, W_var, W_not, W_ifT, W_ifB, W_call, W_callK, W_chain, W_wk, W_sl, W_po, W_poN, W_ok, W_err, W_noErr, W_fnD, ev_plus, ev_sub, ev_iB, ev_toB, ev_not, ev_neg, ev_isN, ev_notN, ev_isB, ev_int, ev_abs, ev_max, ev_min, ev_eqI, ev_neI, Ms.isNon, Option.some.injEq, exists_eq_left', List.getElem?_cons_zero, List.getElem?_cons_succ, List.set_cons_zero, List.set_cons_succ, List.map_cons, List.map_nil, List.cons_append, List.nil_append, List.length_cons, List.length_nil, List.reduceReplicate, Nat.reduceAdd, Nat.reduceSub, Bool.not_true, Bool.not_false, Bool.false_eq_true, Bool.true_eq_false, if_true, if_false, decide_true, decide_false, D.int.injEq, D.bl.injEq, D.ref.injEq, exists_and_left, Bool.false_and, and_self]
    | true =>
      have li := ints_of hi
      obtain ⟨xs, hxs⟩ : ∃ xs, xs = l.map unI := ⟨_, rfl⟩
      rw [← hxs] at li ⊢
      have xl : xs.length = n + 1 := by rw [hxs, List.length_map, len]
      subst li
      have ne : xs ≠ [] := fun z => by rw [z] at xl; cases xl
      simp only [WS_next, W_B, W_f1, W_f2, W_fA, W_cons, W_pur, W_var, W_not, W_ifT, W_ifB, W_call, W_callK, W_chain, W_wk, W_sl, W_po, W_poN, W_ok, W_err, W_noErr, W_fnD, ev_plus, ev_sub, ev_iB, ev_toB, ev_not, ev_neg, ev_isN, ev_notN, ev_isB, ev_int, ev_abs, ev_max, ev_min, ev_eqI, ev_neI, Ms.isNon, Option.some.injEq, exists_eq_left', List.getElem?_cons_zero, List.getElem?_cons_succ, List.set_cons_zero, List.set_cons_succ, List.map_cons, List.map_nil, List.cons_append, List.nil_append, List.length_cons, List.length_nil, List.reduceReplicate, Nat.reduceAdd, Nat.reduceSub, Bool.not_true, Bool.not_false, Bool.false_eq_true, Bool.true_eq_false, if_true, if_false, decide_true, decide_false, D.int.injEq, D.bl.injEq, D.ref.injEq, exists_and_left, Bool.true_and]
      rw [WS_seq, WS_if]
      simp only [WS_next, W_B, W_f1, W_f2, W_fA, W_cons, W_pur, W_var, W_not, W_ifT, W_ifB, W_call, W_callK, W_chain, W_wk, W_sl, W_po, W_poN, W_ok, W_err, W_noErr, W_fnD, ev_plus, ev_sub, ev_iB, ev_toB, ev_not, ev_neg, ev_isN, ev_notN, ev_isB, ev_int, ev_abs, ev_max, ev_min, ev_eqI, ev_neI, Ms.isNon, Option.some.injEq, exists_eq_left', List.getElem?_cons_zero, List.getElem?_cons_succ, List.set_cons_zero, List.set_cons_succ, List.map_cons, List.map_nil, List.cons_append, List.nil_append, List.length_cons, List.length_nil, List.reduceReplicate, Nat.reduceAdd, Nat.reduceSub, Bool.not_true, Bool.not_false, Bool.false_eq_true, Bool.true_eq_false, if_true, if_false, decide_true, decide_false, D.int.injEq, D.bl.injEq, D.ref.injEq, exists_and_left, ix0 hs ne, ixL hs ne]
      unfold isPI
      cases e1 : (xs.headD 0 == a) with
      | false => simp only [WS_seq, WS_if, WS_set, WS_ret, WS_drop, WS_raise, WS_next, WS_unp, WS_par, WS_for, W_B, W_f1, W_f2, W_fA, W_cons, W_pur, W_var, W_not, W_ifT, W_ifB, W_call, W_callK, W_chain, W_wk, W_sl, W_po, W_poN, W_ok, W_err, W_noErr, W_fnD, ev_plus, ev_sub, ev_iB, ev_toB, ev_not, ev_neg, ev_isN, ev_notN, ev_isB, ev_int, ev_abs, ev_max, ev_min, ev_eqI, ev_neI, Ms.isNon, Option.some.injEq, exists_eq_left', List.getElem?_cons_zero, List.getElem?_cons_succ, List.set_cons_zero, List.set_cons_succ, List.map_cons, List.map_nil, List.cons_append, List.nil_append, List.length_cons, List.length_nil, List.reduceReplicate, Nat.reduceAdd, Nat.reduceSub, Bool.not_true, Bool.not_false, Bool.false_eq_true, Bool.true_eq_false, if_true, if_false, decide_true, decide_false, D.int.injEq, D.bl.injEq, D.ref.injEq, exists_and_left, Bool.false_and, and_self]
      | true =>
        simp only [WS_next, W_B, W_f1, W_f2, W_fA, W_cons, W_pur, W_var, W_not, W_ifT, W_ifB, W_call, W_callK, W_chain, W_wk, W_sl, W_po, W_poN, W_ok, W_err, W_noErr, W_fnD, ev_plus, ev_sub, ev_iB, ev_toB, ev_not, ev_neg, ev_isN, ev_notN, ev_isB, ev_int, ev_abs, ev_max, ev_min, ev_eqI, ev_neI, Ms.isNon, Option.some.injEq, exists_eq_left', List.getElem?_cons_zero, List.getElem?_cons_succ, List.set_cons_zero, List.set_cons_succ, List.map_cons, List.map_nil, List.cons_append, List.nil_append, List.length_cons, List.length_nil, List.reduceReplicate, Nat.reduceAdd, Nat.reduceSub, Bool.not_true, Bool.not_false, Bool.false_eq_true, Bool.true_eq_false, if_true, if_false, decide_true, decide_false, D.int.injEq, D.bl.injEq, D.ref.injEq, exists_and_left, ixL hs ne, Bool.true_and]
        cases e2 : (xs.getLastD 0 == z) with
        | false => simp only [WS_seq, WS_if, WS_set, WS_ret, WS_drop, WS_raise, WS_next, WS_unp, WS_par, WS_for, W_B, W_f1, W_f2, W_fA, W_cons, W_pur, W_var, W_not, W_ifT, W_ifB, W_call, W_callK, W_chain, W_wk, W_sl, W_po, W_poN, W_ok, W_err, W_noErr, W_fnD, ev_plus, ev_sub, ev_iB, ev_toB, ev_not, ev_neg, ev_isN, ev_notN, ev_isB, ev_int, ev_abs, ev_max, ev_min, ev_eqI, ev_neI, Ms.isNon, Option.some.injEq, exists_eq_left', List.getElem?_cons_zero, List.getElem?_cons_succ, List.set_cons_zero, List.set_cons_succ, List.map_cons, List.map_nil, List.cons_append, List.nil_append, List.length_cons, List.length_nil, List.reduceReplicate, Nat.reduceAdd, Nat.reduceSub, Bool.not_true, Bool.not_false, Bool.false_eq_true, Bool.true_eq_false, if_true, if_false, decide_true, decide_false, D.int.injEq, D.bl.injEq, D.ref.injEq, exists_and_left, Bool.false_and, and_self]
        | true =>
          simp only [WS_next, W_B, W_f1, W_f2, W_fA, W_cons, W_pur, W_var, W_not, W_ifT, W_ifB, W_call, W_callK, W_chain, W_wk, W_sl, W_po, W_poN, W_ok, W_err, W_noErr, W_fnD, ev_plus, ev_sub, ev_iB, ev_toB, ev_not, ev_neg, ev_isN, ev_notN, ev_isB, ev_int, ev_abs, ev_max, ev_min, ev_eqI, ev_neI, Ms.isNon, Option.some.injEq, exists_eq_left', List.getElem?_cons_zero, List.getElem?_cons_succ, List.set_cons_zero, List.set_cons_succ, List.map_cons, List.map_nil, List.cons_append, List.nil_append, List.length_cons, List.length_nil, List.reduceReplicate, Nat.reduceAdd, Nat.reduceSub, Bool.not_true, Bool.not_false, Bool.false_eq_true, Bool.true_eq_false, if_true, if_false, decide_true, decide_false, D.int.injEq, D.bl.injEq, D.ref.injEq, exists_and_left, Bool.true_and]
          have e2 : ∃ y, cSl bx v (some 1) none = some y ∧ ((v = .tup (xs.map D.int) ∧ y = .tup ((xs.map D.int).drop 1)) ∨ (v = .lst (xs.map D.int) ∧ y = .lst ((xs.map D.int).drop 1))) := by
            rcases hs with rfl | rfl
            · exact ⟨_, rfl, .inr ⟨rfl, by rw [cut1]⟩⟩
            · exact ⟨_, rfl, .inl ⟨rfl, by rw [cut1]⟩⟩
          obtain ⟨y, e2, e3⟩ := e2
          rw [WS_seq, WS_ret, W_fA, W_cons, W_lc, W_lcA]
          simp only [WS_next, W_B, W_f1, W_f2, W_fA, W_cons, W_pur, W_var, W_not, W_ifT, W_ifB, W_call, W_callK, W_chain, W_wk, W_sl, W_po, W_poN, W_ok, W_err, W_noErr, W_fnD, ev_plus, ev_sub, ev_iB, ev_toB, ev_not, ev_neg, ev_isN, ev_notN, ev_isB, ev_int, ev_abs, ev_max, ev_min, ev_eqI, ev_neI, Ms.isNon, Option.some.injEq, exists_eq_left', List.getElem?_cons_zero, List.getElem?_cons_succ, List.set_cons_zero, List.set_cons_succ, List.map_cons, List.map_nil, List.cons_append, List.nil_append, List.length_cons, List.length_nil, List.reduceReplicate, Nat.reduceAdd, Nat.reduceSub, Bool.not_true, Bool.not_false, Bool.false_eq_true, Bool.true_eq_false, if_true, if_false, decide_true, decide_false, D.int.injEq, D.bl.injEq, D.ref.injEq, exists_and_left, W_zip, e2]
          refine ⟨xs.map D.int, (xs.map D.int).drop 1, ?_, by rw [zip_len, List.length_drop]; omega, ?_⟩
          · rcases e3 with ⟨rfl, rfl⟩ | ⟨rfl, rfl⟩
            · exact .inr rfl
            · exact .inl rfl
          · rw [zipD_eq, zip_ints, List.map_map, lc_pure (c := fun _ => true) (f := fun d => match d with | .tup [.int x, .int y] => .bl (decide (absI (x - y) ≤ r)) | d => d)]
            · rw [W_ok]
              have ef : ((xs.zip (xs.drop 1)).map ((fun p : D × D => D.tup [p.1, p.2]) ∘ fun p : Int × Int => (D.int p.1, D.int p.2))).filter (fun _ => true) = (xs.zip (xs.drop 1)).map ((fun p : D × D => D.tup [p.1, p.2]) ∘ fun p : Int × Int => (D.int p.1, D.int p.2)) := List.filter_eq_self.mpr fun _ _ => rfl
              rw [ef, List.nil_append, List.map_map]
              have e4 : ∀ bx, cAll bx [.lst ((xs.zip (xs.drop 1)).map ((fun d => match d with | .tup [.int x, .int y] => D.bl (decide (absI (x - y) ≤ r)) | d => d) ∘ ((fun p : D × D => D.tup [p.1, p.2]) ∘ fun p : Int × Int => (D.int p.1, D.int p.2))))] = some (.bl (stepB r xs)) := fun bx => by
                have e5 : (xs.zip (xs.drop 1)).map ((fun d => match d with | .tup [.int x, .int y] => D.bl (decide (absI (x - y) ≤ r)) | d => d) ∘ ((fun p : D × D => D.tup [p.1, p.2]) ∘ fun p : Int × Int => (D.int p.1, D.int p.2))) = ((xs.zip (xs.drop 1)).map fun p => decide (absI (p.1 - p.2) ≤ r)).map D.bl := by
                  rw [List.map_map]
                  rfl
                rw [e5]
                unfold cAll stepB
                simp only [vl, Option.bind_some, toBls_map, Option.map_some, List.all_map]
                rfl
              simp only [WS_next, W_B, W_f1, W_f2, W_fA, W_cons, W_pur, W_var, W_not, W_ifT, W_ifB, W_call, W_callK, W_chain, W_wk, W_sl, W_po, W_poN, W_ok, W_err, W_noErr, W_fnD, ev_plus, ev_sub, ev_iB, ev_toB, ev_not, ev_neg, ev_isN, ev_notN, ev_isB, ev_int, ev_abs, ev_max, ev_min, ev_eqI, ev_neI, Ms.isNon, Option.some.injEq, exists_eq_left', List.getElem?_cons_zero, List.getElem?_cons_succ, List.set_cons_zero, List.set_cons_succ, List.map_cons, List.map_nil, List.cons_append, List.nil_append, List.length_cons, List.length_nil, List.reduceReplicate, Nat.reduceAdd, Nat.reduceSub, Bool.not_true, Bool.not_false, Bool.false_eq_true, Bool.true_eq_false, if_true, if_false, decide_true, decide_false, D.int.injEq, D.bl.injEq, D.ref.injEq, exists_and_left, e4, and_self]
            · intro d hd
              obtain ⟨⟨x, y⟩, hxy, rfl⟩ := List.mem_map.mp hd
              refine ⟨_, rfl, rfl, fun _ => W.eq ?_⟩
              simp only [WS_seq, WS_if, WS_set, WS_ret, WS_drop, WS_raise, WS_next, WS_unp, WS_par, WS_for, W_B, W_f1, W_f2, W_fA, W_cons, W_pur, W_var, W_not, W_ifT, W_ifB, W_call, W_callK, W_chain, W_wk, W_sl, W_po, W_poN, W_ok, W_err, W_noErr, W_fnD, ev_plus, ev_sub, ev_iB, ev_toB, ev_not, ev_neg, ev_isN, ev_notN, ev_isB, ev_int, ev_abs, ev_max, ev_min, ev_eqI, ev_neI, Ms.isNon, Option.some.injEq, exists_eq_left', List.getElem?_cons_zero, List.getElem?_cons_succ, List.set_cons_zero, List.set_cons_succ, List.map_cons, List.map_nil, List.cons_append, List.nil_append, List.length_cons, List.length_nil, List.reduceReplicate, Nat.reduceAdd, Nat.reduceSub, Bool.not_true, Bool.not_false, Bool.false_eq_true, Bool.true_eq_false, if_true, if_false, decide_true, decide_false, D.int.injEq, D.bl.injEq, D.ref.injEq, exists_and_left, unset]
              exact ⟨rfl, trivial⟩)
theorem step_eq {r : Int} {xs : List Int} {n : Nat} (h : xs.length = n + 1) : ((rg 0 n).filter fun i => decide (r < absI ((xs[(i + 1).toNat]?).getD 0 - (xs[i.toNat]?).getD 0))).isEmpty = stepB r xs := by
  rw [Bool.eq_iff_iff, List.isEmpty_iff, List.filter_eq_nil_iff]
  unfold stepB
  rw [List.all_eq_true]
  have ab : ∀ x y : Int, absI (x - y) = absI (y - x) := fun x y => by
    unfold absI
    split <;> split <;> omega
  constructor
  · intro H p hp
    obtain ⟨i, hi, e⟩ := List.getElem_of_mem hp
    rw [List.length_zip, List.length_drop] at hi
    have := H (i : Int) (mem_rg.mpr (by omega))
    rw [show ((i : Int) + 1).toNat = i + 1 by omega, Int.toNat_natCast, List.getElem?_eq_getElem (by omega), List.getElem?_eq_getElem (by omega)] at this
    subst e
    simp only [List.getElem_zip, List.getElem_drop, Option.getD_some, decide_eq_true_eq] at this ⊢
    have e1 : xs[1 + i] = xs[i + 1] := by congr 1; omega
    rw [e1, ab]
    omega
  · intro H i hi
    have hm := mem_rg.mp hi
    have := H (xs[i.toNat]'(by omega), xs[i.toNat + 1]'(by omega)) (by
      refine List.mem_iff_getElem.mpr ⟨i.toNat, by rw [List.length_zip, List.length_drop]; omega, ?_⟩
      rw [List.getElem_zip, List.getElem_drop]
      have e1 : xs[1 + i.toNat]'(by omega) = xs[i.toNat + 1]'(by omega) := by congr 1; omega
      rw [e1])
    rw [show (i + 1).toNat = i.toNat + 1 by omega, List.getElem?_eq_getElem (by omega), List.getElem?_eq_getElem (by omega)]
    simp only [Option.getD_some, decide_eq_true_eq] at this ⊢
    rw [ab] at this
    omega
theorem isPath_ok {a z r : Int} {n : Nat} {v : D} (n40 : n ≤ 40) (wf : Wf v) (bx : Sto) : m__law_is_path [.tup (tl a z r n), v] bx = .ok (.bl (isP a z r n v)) bx := W.eq (by
  unfold m__law_is_path S__law_is_path N__law_is_path
  rw [W_noErr, W_fnD, WS_seq, WS_unp]
  simp only [WS_next, W_B, W_f1, W_f2, W_fA, W_cons, W_pur, W_var, W_not, W_ifT, W_ifB, W_call, W_callK, W_chain, W_wk, W_sl, W_po, W_poN, W_ok, W_err, W_noErr, W_fnD, ev_plus, ev_sub, ev_iB, ev_toB, ev_not, ev_neg, ev_isN, ev_notN, ev_isB, ev_int, ev_abs, ev_max, ev_min, ev_eqI, ev_neI, Ms.isNon, Option.some.injEq, exists_eq_left', List.getElem?_cons_zero, List.getElem?_cons_succ, List.set_cons_zero, List.set_cons_succ, List.map_cons, List.map_nil, List.cons_append, List.nil_append, List.length_cons, List.length_nil, List.reduceReplicate, Nat.reduceAdd, Nat.reduceSub, Bool.not_true, Bool.not_false, Bool.false_eq_true, Bool.true_eq_false, if_true, if_false, decide_true, decide_false, D.int.injEq, D.bl.injEq, D.ref.injEq, exists_and_left, vs_tup, tl, Option.bind_some, setAll]
  rw [WS_seq, WS_if]
  simp only [WS_next, W_B, W_f1, W_f2, W_fA, W_cons, W_pur, W_var, W_not, W_ifT, W_ifB, W_call, W_callK, W_chain, W_wk, W_sl, W_po, W_poN, W_ok, W_err, W_noErr, W_fnD, ev_plus, ev_sub, ev_iB, ev_toB, ev_not, ev_neg, ev_isN, ev_notN, ev_isB, ev_int, ev_abs, ev_max, ev_min, ev_eqI, ev_neI, Ms.isNon, Option.some.injEq, exists_eq_left', List.getElem?_cons_zero, List.getElem?_cons_succ, List.set_cons_zero, List.set_cons_succ, List.map_cons, List.map_nil, List.cons_append, List.nil_append, List.length_cons, List.length_nil, List.reduceReplicate, Nat.reduceAdd, Nat.reduceSub, Bool.not_true, Bool.not_false, Bool.false_eq_true, Bool.true_eq_false, if_true, if_false, decide_true, decide_false, D.int.injEq, D.bl.injEq, D.ref.injEq, exists_and_left, isi_seq wf.cl]
  cases hs : isS v with
  | false =>
    have e : isP a z r n v = false := by
      cases v <;> first | (cases hs; done) | rfl
    rw [e]
    simp only [WS_seq, WS_if, WS_set, WS_ret, WS_drop, WS_raise, WS_next, WS_unp, WS_par, WS_for, W_B, W_f1, W_f2, W_fA, W_cons, W_pur, W_var, W_not, W_ifT, W_ifB, W_call, W_callK, W_chain, W_wk, W_sl, W_po, W_poN, W_ok, W_err, W_noErr, W_fnD, ev_plus, ev_sub, ev_iB, ev_toB, ev_not, ev_neg, ev_isN, ev_notN, ev_isB, ev_int, ev_abs, ev_max, ev_min, ev_eqI, ev_neI, Ms.isNon, Option.some.injEq, exists_eq_left', List.getElem?_cons_zero, List.getElem?_cons_succ, List.set_cons_zero, List.set_cons_succ, List.map_cons, List.map_nil, List.cons_append, List.nil_append, List.length_cons, List.length_nil, List.reduceReplicate, Nat.reduceAdd, Nat.reduceSub, Bool.not_true, Bool.not_false, Bool.false_eq_true, Bool.true_eq_false, if_true, if_false, decide_true, decide_false, D.int.injEq, D.bl.injEq, D.ref.injEq, exists_and_left, and_self]
  | true =>
    have hl : ∃ l, Seq2 v l := by
      cases v with
      | lst l => exact ⟨l, .inl rfl⟩
      | tup l => exact ⟨l, .inr rfl⟩
      | _ => cases hs
    obtain ⟨l, hs'⟩ := hl
    obtain ⟨l1000, el⟩ := wf.el l hs'
    rw [isP_seq hs']
    simp only [WS_next, W_B, W_f1, W_f2, W_fA, W_cons, W_pur, W_var, W_not, W_ifT, W_ifB, W_call, W_callK, W_chain, W_wk, W_sl, W_po, W_poN, W_ok, W_err, W_noErr, W_fnD, ev_plus, ev_sub, ev_iB, ev_toB, ev_not, ev_neg, ev_isN, ev_notN, ev_isB, ev_int, ev_abs, ev_max, ev_min, ev_eqI, ev_neI, Ms.isNon, Option.some.injEq, exists_eq_left', List.getElem?_cons_zero, List.getElem?_cons_succ, List.set_cons_zero, List.set_cons_succ, List.map_cons, List.map_nil, List.cons_append, List.nil_append, List.length_cons, List.length_nil, List.reduceReplicate, Nat.reduceAdd, Nat.reduceSub, Bool.not_true, Bool.not_false, Bool.false_eq_true, Bool.true_eq_false, if_true, if_false, decide_true, decide_false, D.int.injEq, D.bl.injEq, D.ref.injEq, exists_and_left, ev_len (hs'.vs _)]
    cases hn : (l.length == n + 1) with
    | false =>
      have e : (((l.length : Nat) : Int) == (n : Int) + 1) = false := by
        simp at hn ⊢
        omega
      simp only [WS_seq, WS_if, WS_set, WS_ret, WS_drop, WS_raise, WS_next, WS_unp, WS_par, WS_for, W_B, W_f1, W_f2, W_fA, W_cons, W_pur, W_var, W_not, W_ifT, W_ifB, W_call, W_callK, W_chain, W_wk, W_sl, W_po, W_poN, W_ok, W_err, W_noErr, W_fnD, ev_plus, ev_sub, ev_iB, ev_toB, ev_not, ev_neg, ev_isN, ev_notN, ev_isB, ev_int, ev_abs, ev_max, ev_min, ev_eqI, ev_neI, Ms.isNon, Option.some.injEq, exists_eq_left', List.getElem?_cons_zero, List.getElem?_cons_succ, List.set_cons_zero, List.set_cons_succ, List.map_cons, List.map_nil, List.cons_append, List.nil_append, List.length_cons, List.length_nil, List.reduceReplicate, Nat.reduceAdd, Nat.reduceSub, Bool.not_true, Bool.not_false, Bool.false_eq_true, Bool.true_eq_false, if_true, if_false, decide_true, decide_false, D.int.injEq, D.bl.injEq, D.ref.injEq, exists_and_left, e, Bool.false_and, and_self]
    | true =>
      have len : l.length = n + 1 := by simpa using hn
      have e : (((l.length : Nat) : Int) == (n : Int) + 1) = true := by
        simp
        omega
      simp only [WS_next, W_B, W_f1, W_f2, W_fA, W_cons, W_pur, W_var, W_not, W_ifT, W_ifB, W_call, W_callK, W_chain, W_wk, W_sl, W_po, W_poN, W_ok, W_err, W_noErr, W_fnD, ev_plus, ev_sub, ev_iB, ev_toB, ev_not, ev_neg, ev_isN, ev_notN, ev_isB, ev_int, ev_abs, ev_max, ev_min, ev_eqI, ev_neI, Ms.isNon, Option.some.injEq, exists_eq_left', List.getElem?_cons_zero, List.getElem?_cons_succ, List.set_cons_zero, List.set_cons_succ, List.map_cons, List.map_nil, List.cons_append, List.nil_append, List.length_cons, List.length_nil, List.reduceReplicate, Nat.reduceAdd, Nat.reduceSub, Bool.not_true, Bool.not_false, Bool.false_eq_true, Bool.true_eq_false, if_true, if_false, decide_true, decide_false, D.int.injEq, D.bl.injEq, D.ref.injEq, exists_and_left, e, Bool.true_and]
      rw [WS_seq, WS_if, W_B, W_f2, W_lc, W_lcA]
      simp only [WS_next, W_B, W_f1, W_f2, W_fA, W_cons, W_pur, W_var, W_not, W_ifT, W_ifB, W_call, W_callK, W_chain, W_wk, W_sl, W_po, W_poN, W_ok, W_err, W_noErr, W_fnD, ev_plus, ev_sub, ev_iB, ev_toB, ev_not, ev_neg, ev_isN, ev_notN, ev_isB, ev_int, ev_abs, ev_max, ev_min, ev_eqI, ev_neI, Ms.isNon, Option.some.injEq, exists_eq_left', List.getElem?_cons_zero, List.getElem?_cons_succ, List.set_cons_zero, List.set_cons_succ, List.map_cons, List.map_nil, List.cons_append, List.nil_append, List.length_cons, List.length_nil, List.reduceReplicate, Nat.reduceAdd, Nat.reduceSub, Bool.not_true, Bool.not_false, Bool.false_eq_true, Bool.true_eq_false, if_true, if_false, decide_true, decide_false, D.int.injEq, D.bl.injEq, D.ref.injEq, exists_and_left, hs'.wlk]
      refine ⟨by omega, ?_⟩
      rw [lc_pure (c := fun x => !isI x) (f := fun x => x) fun x hx => ⟨_, rfl, by
        have hc := (el x hx).1
        refine ⟨W.eq ?_, fun _ => W.eq ?_⟩
        · simp only [unset, List.foldl_cons, List.foldl_nil, WS_next, W_B, W_f1, W_f2, W_fA, W_cons, W_pur, W_var, W_not, W_ifT, W_ifB, W_call, W_callK, W_chain, W_wk, W_sl, W_po, W_poN, W_ok, W_err, W_noErr, W_fnD, ev_plus, ev_sub, ev_iB, ev_toB, ev_not, ev_neg, ev_isN, ev_notN, ev_isB, ev_int, ev_abs, ev_max, ev_min, ev_eqI, ev_neI, Ms.isNon, Option.some.injEq, exists_eq_left', List.getElem?_cons_zero, List.getElem?_cons_succ, List.set_cons_zero, List.set_cons_succ, List.map_cons, List.map_nil, List.cons_append, List.nil_append, List.length_cons, List.length_nil, List.reduceReplicate, Nat.reduceAdd, Nat.reduceSub, Bool.not_true, Bool.not_false, Bool.false_eq_true, Bool.true_eq_false, if_true, if_false, decide_true, decide_false, D.int.injEq, D.bl.injEq, D.ref.injEq, exists_and_left, isi_int hc, isi_bool hc]
          cases x <;> first | (cases hc; done) | simp [WS_seq, WS_if, WS_set, WS_ret, WS_drop, WS_raise, WS_next, WS_unp, WS_par, WS_for, W_B, W_f1, W_f2, W_fA, W_cons, W_pur, W_var, W_not, W_ifT, W_ifB, W_call, W_callK, W_chain, W_wk, W_sl, W_po, W_poN, W_ok, W_err, W_noErr, W_fnD, ev_plus, ev_sub, ev_iB, ev_toB, ev_not, ev_neg, ev_isN, ev_notN, ev_isB, ev_int, ev_abs, ev_max, ev_min, ev_eqI, ev_neI, Ms.isNon, Option.some.injEq, exists_eq_left', List.getElem?_cons_zero, List.getElem?_cons_succ, List.set_cons_zero, List.set_cons_succ, List.map_cons, List.map_nil, List.cons_append, List.nil_append, List.length_cons, List.length_nil, List.reduceReplicate, Nat.reduceAdd, Nat.reduceSub, Bool.not_true, Bool.not_false, Bool.false_eq_true, Bool.true_eq_false, if_true, if_false, decide_true, decide_false, D.int.injEq, D.bl.injEq, D.ref.injEq, exists_and_left, isI, isi_bool hc]
        · simp only [unset, List.foldl_cons, List.foldl_nil, WS_next, W_B, W_f1, W_f2, W_fA, W_cons, W_pur, W_var, W_not, W_ifT, W_ifB, W_call, W_callK, W_chain, W_wk, W_sl, W_po, W_poN, W_ok, W_err, W_noErr, W_fnD, ev_plus, ev_sub, ev_iB, ev_toB, ev_not, ev_neg, ev_isN, ev_notN, ev_isB, ev_int, ev_abs, ev_max, ev_min, ev_eqI, ev_neI, Ms.isNon, Option.some.injEq, exists_eq_left', List.getElem?_cons_zero, List.getElem?_cons_succ, List.set_cons_zero, List.set_cons_succ, List.map_cons, List.map_nil, List.cons_append, List.nil_append, List.length_cons, List.length_nil, List.reduceReplicate, Nat.reduceAdd, Nat.reduceSub, Bool.not_true, Bool.not_false, Bool.false_eq_true, Bool.true_eq_false, if_true, if_false, decide_true, decide_false, D.int.injEq, D.bl.injEq, D.ref.injEq, exists_and_left, and_self]⟩, W_ok, List.nil_append, List.map_id']
      have sm : ∀ d ∈ l.filter (fun x => !isI x), Sm d := fun d hd => (el d (List.mem_filter.mp hd).1).2
      refine ⟨_, ev_lst (by decide), _, ne_nil sm, _, rfl, ?_⟩
      rw [filt_nil]
      have en : (l.all fun d => !!isI d) = l.all isI := by
        refine List.all_congr rfl fun x => ?_
        exact Bool.not_not _
      rw [en]
      cases hi : l.all isI with
      | false =>
        simp only [WS_seq, WS_if, WS_set, WS_ret, WS_drop, WS_raise, WS_next, WS_unp, WS_par, WS_for, W_B, W_f1, W_f2, W_fA, W_cons, W_pur, W_var, W_not, W_ifT, W_ifB, W_call, W_callK, W_chain, W_wk, W_sl, W_po, W_poN, W_ok, W_err, W_noErr, W_fnD, ev_plus, ev_sub, ev_iB, ev_toB, ev_not, ev_neg, ev_isN, ev_notN, ev_isB, ev_int, ev_abs, ev_max, ev_min, ev_eqI, ev_neI, Ms.isNon, Option.some.injEq, exists_eq_left', List.getElem?_cons_zero, List.getElem?_cons_succ, List.set_cons_zero, List.set_cons_succ, List.map_cons, List.map_nil, List.cons_append, List.nil_append, List.length_cons, List.length_nil, List.reduceReplicate, Nat.reduceAdd, Nat.reduceSub, Bool.not_true, Bool.not_false, Bool.false_eq_true, Bool.true_eq_false, if_true, if_false, decide_true, decide_false, D.int.injEq, D.bl.injEq, D.ref.injEq, exists_and_left, Bool.false_and, and_self]
      | true =>
        rw [if_neg (by decide), WS_next]
        have li := ints_of hi
        obtain ⟨xs, hxs⟩ : ∃ xs, xs = l.map unI := ⟨_, rfl⟩
        rw [← hxs] at li ⊢
        have xl : xs.length = n + 1 := by rw [hxs, List.length_map, len]
        subst li
        have ne : xs ≠ [] := fun z => by rw [z] at xl; cases xl
        simp only [WS_next, W_B, W_f1, W_f2, W_fA, W_cons, W_pur, W_var, W_not, W_ifT, W_ifB, W_call, W_callK, W_chain, W_wk, W_sl, W_po, W_poN, W_ok, W_err, W_noErr, W_fnD, ev_plus, ev_sub, ev_iB, ev_toB, ev_not, ev_neg, ev_isN, ev_notN, ev_isB, ev_int, ev_abs, ev_max, ev_min, ev_eqI, ev_neI, Ms.isNon, Option.some.injEq, exists_eq_left', List.getElem?_cons_zero, List.getElem?_cons_succ, List.set_cons_zero, List.set_cons_succ, List.map_cons, List.map_nil, List.cons_append, List.nil_append, List.length_cons, List.length_nil, List.reduceReplicate, Nat.reduceAdd, Nat.reduceSub, Bool.not_true, Bool.not_false, Bool.false_eq_true, Bool.true_eq_false, if_true, if_false, decide_true, decide_false, D.int.injEq, D.bl.injEq, D.ref.injEq, exists_and_left, Bool.true_and]
        rw [WS_seq, WS_if]
        simp only [WS_next, W_B, W_f1, W_f2, W_fA, W_cons, W_pur, W_var, W_not, W_ifT, W_ifB, W_call, W_callK, W_chain, W_wk, W_sl, W_po, W_poN, W_ok, W_err, W_noErr, W_fnD, ev_plus, ev_sub, ev_iB, ev_toB, ev_not, ev_neg, ev_isN, ev_notN, ev_isB, ev_int, ev_abs, ev_max, ev_min, ev_eqI, ev_neI, Ms.isNon, Option.some.injEq, exists_eq_left', List.getElem?_cons_zero, List.getElem?_cons_succ, List.set_cons_zero, List.set_cons_succ, List.map_cons, List.map_nil, List.cons_append, List.nil_append, List.length_cons, List.length_nil, List.reduceReplicate, Nat.reduceAdd, Nat.reduceSub, Bool.not_true, Bool.not_false, Bool.false_eq_true, Bool.true_eq_false, if_true, if_false, decide_true, decide_false, D.int.injEq, D.bl.injEq, D.ref.injEq, exists_and_left, ix0 hs' ne, ixL hs' ne]
        unfold isPI
        cases e1 : (xs.headD 0 == a) with
        | false => simp only [WS_seq, WS_if, WS_set, WS_ret, WS_drop, WS_raise, WS_next, WS_unp, WS_par, WS_for, W_B, W_f1, W_f2, W_fA, W_cons, W_pur, W_var, W_not, W_ifT, W_ifB, W_call, W_callK, W_chain, W_wk, W_sl, W_po, W_poN, W_ok, W_err, W_noErr, W_fnD, ev_plus, ev_sub, ev_iB, ev_toB, ev_not, ev_neg, ev_isN, ev_notN, ev_isB, ev_int, ev_abs, ev_max, ev_min, ev_eqI, ev_neI, Ms.isNon, Option.some.injEq, exists_eq_left', List.getElem?_cons_zero, List.getElem?_cons_succ, List.set_cons_zero, List.set_cons_succ, List.map_cons, List.map_nil, List.cons_append, List.nil_append, List.length_cons, List.length_nil, List.reduceReplicate, Nat.reduceAdd, Nat.reduceSub, Bool.not_true, Bool.not_false, Bool.false_eq_true, Bool.true_eq_false, if_true, if_false, decide_true, decide_false, D.int.injEq, D.bl.injEq, D.ref.injEq, exists_and_left, Bool.false_and, and_self]
        | true =>
          simp only [WS_next, W_B, W_f1, W_f2, W_fA, W_cons, W_pur, W_var, W_not, W_ifT, W_ifB, W_call, W_callK, W_chain, W_wk, W_sl, W_po, W_poN, W_ok, W_err, W_noErr, W_fnD, ev_plus, ev_sub, ev_iB, ev_toB, ev_not, ev_neg, ev_isN, ev_notN, ev_isB, ev_int, ev_abs, ev_max, ev_min, ev_eqI, ev_neI, Ms.isNon, Option.some.injEq, exists_eq_left', List.getElem?_cons_zero, List.getElem?_cons_succ, List.set_cons_zero, List.set_cons_succ, List.map_cons, List.map_nil, List.cons_append, List.nil_append, List.length_cons, List.length_nil, List.reduceReplicate, Nat.reduceAdd, Nat.reduceSub, Bool.not_true, Bool.not_false, Bool.false_eq_true, Bool.true_eq_false, if_true, if_false, decide_true, decide_false, D.int.injEq, D.bl.injEq, D.ref.injEq, exists_and_left, ixL hs' ne, Bool.true_and]
          cases e2 : (xs.getLastD 0 == z) with
          | false => simp only [WS_seq, WS_if, WS_set, WS_ret, WS_drop, WS_raise, WS_next, WS_unp, WS_par, WS_for, W_B, W_f1, W_f2, W_fA, W_cons, W_pur, W_var, W_not, W_ifT, W_ifB, W_call, W_callK, W_chain, W_wk, W_sl, W_po, W_poN, W_ok, W_err, W_noErr, W_fnD, ev_plus, ev_sub, ev_iB, ev_toB, ev_not, ev_neg, ev_isN, ev_notN, ev_isB, ev_int, ev_abs, ev_max, ev_min, ev_eqI, ev_neI, Ms.isNon, Option.some.injEq, exists_eq_left', List.getElem?_cons_zero, List.getElem?_cons_succ, List.set_cons_zero, List.set_cons_succ, List.map_cons, List.map_nil, List.cons_append, List.nil_append, List.length_cons, List.length_nil, List.reduceReplicate, Nat.reduceAdd, Nat.reduceSub, Bool.not_true, Bool.not_false, Bool.false_eq_true, Bool.true_eq_false, if_true, if_false, decide_true, decide_false, D.int.injEq, D.bl.injEq, D.ref.injEq, exists_and_left, Bool.false_and, and_self]
          | true =>
            simp only [WS_next, W_B, W_f1, W_f2, W_fA, W_cons, W_pur, W_var, W_not, W_ifT, W_ifB, W_call, W_callK, W_chain, W_wk, W_sl, W_po, W_poN, W_ok, W_err, W_noErr, W_fnD, ev_plus, ev_sub, ev_iB, ev_toB, ev_not, ev_neg, ev_isN, ev_notN, ev_isB, ev_int, ev_abs, ev_max, ev_min, ev_eqI, ev_neI, Ms.isNon, Option.some.injEq, exists_eq_left', List.getElem?_cons_zero, List.getElem?_cons_succ, List.set_cons_zero, List.set_cons_succ, List.map_cons, List.map_nil, List.cons_append, List.nil_append, List.length_cons, List.length_nil, List.reduceReplicate, Nat.reduceAdd, Nat.reduceSub, Bool.not_true, Bool.not_false, Bool.false_eq_true, Bool.true_eq_false, if_true, if_false, decide_true, decide_false, D.int.injEq, D.bl.injEq, D.ref.injEq, exists_and_left, Bool.true_and]
            rw [WS_seq, WS_ret, W_f2, W_lc, W_lcA]
            simp only [WS_next, W_B, W_f1, W_f2, W_fA, W_cons, W_pur, W_var, W_not, W_ifT, W_ifB, W_call, W_callK, W_chain, W_wk, W_sl, W_po, W_poN, W_ok, W_err, W_noErr, W_fnD, ev_plus, ev_sub, ev_iB, ev_toB, ev_not, ev_neg, ev_isN, ev_notN, ev_isB, ev_int, ev_abs, ev_max, ev_min, ev_eqI, ev_neI, Ms.isNon, Option.some.injEq, exists_eq_left', List.getElem?_cons_zero, List.getElem?_cons_succ, List.set_cons_zero, List.set_cons_succ, List.map_cons, List.map_nil, List.cons_append, List.nil_append, List.length_cons, List.length_nil, List.reduceReplicate, Nat.reduceAdd, Nat.reduceSub, Bool.not_true, Bool.not_false, Bool.false_eq_true, Bool.true_eq_false, if_true, if_false, decide_true, decide_false, D.int.injEq, D.bl.injEq, D.ref.injEq, exists_and_left, W_rg1]
            refine ⟨_, rfl, by omega, by omega, ?_⟩
            have tn : ((n : Int)).toNat = n := by omega
            rw [tn, rgl_rg]
            refine ⟨by rw [List.length_map, rg_len]; omega, ?_⟩
            rw [lcI (p := fun i => decide (r < absI ((xs[(i + 1).toNat]?).getD 0 - (xs[i.toNat]?).getD 0))) (g := fun t => t) fun w hw => ⟨W.eq (by
              have hm := mem_rg.mp hw
              simp only [unset, List.foldl_cons, List.foldl_nil, WS_next, W_B, W_f1, W_f2, W_fA, W_cons, W_pur, W_var, W_not, W_ifT, W_ifB, W_call, W_callK, W_chain, W_wk, W_sl, W_po, W_poN, W_ok, W_err, W_noErr, W_fnD, ev_plus, ev_sub, ev_iB, ev_toB, ev_not, ev_neg, ev_isN, ev_notN, ev_isB, ev_int, ev_abs, ev_max, ev_min, ev_eqI, ev_neI, Ms.isNon, Option.some.injEq, exists_eq_left', List.getElem?_cons_zero, List.getElem?_cons_succ, List.set_cons_zero, List.set_cons_succ, List.map_cons, List.map_nil, List.cons_append, List.nil_append, List.length_cons, List.length_nil, List.reduceReplicate, Nat.reduceAdd, Nat.reduceSub, Bool.not_true, Bool.not_false, Bool.false_eq_true, Bool.true_eq_false, if_true, if_false, decide_true, decide_false, D.int.injEq, D.bl.injEq, D.ref.injEq, exists_and_left, ixA hs' (i := w) (by omega) (by omega), ixA hs' (i := w + 1) (by omega) (by omega)]
              exact ⟨rfl, trivial⟩), fun _ => W.eq (by simp only [unset, List.foldl_cons, List.foldl_nil, WS_next, W_B, W_f1, W_f2, W_fA, W_cons, W_pur, W_var, W_not, W_ifT, W_ifB, W_call, W_callK, W_chain, W_wk, W_sl, W_po, W_poN, W_ok, W_err, W_noErr, W_fnD, ev_plus, ev_sub, ev_iB, ev_toB, ev_not, ev_neg, ev_isN, ev_notN, ev_isB, ev_int, ev_abs, ev_max, ev_min, ev_eqI, ev_neI, Ms.isNon, Option.some.injEq, exists_eq_left', List.getElem?_cons_zero, List.getElem?_cons_succ, List.set_cons_zero, List.set_cons_succ, List.map_cons, List.map_nil, List.cons_append, List.nil_append, List.length_cons, List.length_nil, List.reduceReplicate, Nat.reduceAdd, Nat.reduceSub, Bool.not_true, Bool.not_false, Bool.false_eq_true, Bool.true_eq_false, if_true, if_false, decide_true, decide_false, D.int.injEq, D.bl.injEq, D.ref.injEq, exists_and_left, and_self])⟩, W_ok, List.map_id']
            refine ⟨_, ev_lst (by decide), _, eq_nil (fun d hd => by
              obtain ⟨i, _, rfl⟩ := List.mem_map.mp hd
              exact Sm.int), ?_, rfl⟩
            rw [← step_eq xl]
            congr 1
            rw [List.isEmpty_map])
end K16

end
section
set_option Elab.async false
set_option linter.all false
set_option maxRecDepth 100000
set_option maxHeartbeats 4000000
namespace K16
open PySem PySem.Spec PyProof.Rows L2 Ms
theorem minI_spec : ∀ (r : List Int) (n : Int), (minI n r = n ∨ minI n r ∈ r) ∧ minI n r ≤ n ∧ ∀ x ∈ r, minI n r ≤ x
  | [], n => ⟨.inl rfl, Int.le_refl _, fun x h => by cases h⟩
  | y :: r, n => by
    have ih := minI_spec r (min n y)
    show (minI (min n y) r = n ∨ minI (min n y) r ∈ y :: r) ∧ minI (min n y) r ≤ n ∧ ∀ x ∈ y :: r, minI (min n y) r ≤ x
    obtain ⟨h1, h2, h3⟩ := ih
    refine ⟨?_, by omega, fun x hx => ?_⟩
    · rcases h1 with h | h
      · by_cases q : n ≤ y
        · exact .inl (by omega)
        · exact .inr (by rw [h, show min n y = y by omega]; exact List.mem_cons_self)
      · exact .inr (List.mem_cons_of_mem _ h)
    · rcases List.mem_cons.mp hx with rfl | hx
      · omega
      · exact h3 x hx
theorem ev_minL {l : List Int} {m : Int} {bx : Sto} (hm : m ∈ l) (hl : ∀ x ∈ l, m ≤ x) : cMinL bx [.lst (l.map D.int)] = some (.int m) := by
  cases l with
  | nil => cases hm
  | cons n r =>
    unfold cMinL
    simp only [vl, Option.bind_some, toInts_map]
    obtain ⟨h1, h2, h3⟩ := minI_spec r n
    have : minI n r = m := by
      have a : minI n r ≤ m := by
        rcases List.mem_cons.mp hm with rfl | h
        · exact h2
        · exact h3 m h
      have b : m ≤ minI n r := hl _ (by
        rcases h1 with h | h
        · rw [h]; exact List.mem_cons_self
        · exact List.mem_cons_of_mem _ h)
      omega
    rw [this]
theorem maxI_spec : ∀ (r : List Int) (n : Int), (maxI n r = n ∨ maxI n r ∈ r) ∧ n ≤ maxI n r ∧ ∀ x ∈ r, x ≤ maxI n r
  | [], n => ⟨.inl rfl, Int.le_refl _, fun x h => by cases h⟩
  | y :: r, n => by
    have ih := maxI_spec r (max n y)
    show (maxI (max n y) r = n ∨ maxI (max n y) r ∈ y :: r) ∧ n ≤ maxI (max n y) r ∧ ∀ x ∈ y :: r, x ≤ maxI (max n y) r
    obtain ⟨h1, h2, h3⟩ := ih
    refine ⟨?_, by omega, fun x hx => ?_⟩
    · rcases h1 with h | h
      · by_cases q : y ≤ n
        · exact .inl (by omega)
        · exact .inr (by rw [h, show max n y = y by omega]; exact List.mem_cons_self)
      · exact .inr (List.mem_cons_of_mem _ h)
    · rcases List.mem_cons.mp hx with rfl | hx
      · omega
      · exact h3 x hx
theorem ev_maxL {l : List Int} {m : Int} {bx : Sto} (hm : m ∈ l) (hl : ∀ x ∈ l, x ≤ m) : cMaxL bx [.lst (l.map D.int)] = some (.int m) := by
  cases l with
  | nil => cases hm
  | cons n r =>
    unfold cMaxL
    simp only [vl, Option.bind_some, toInts_map]
    obtain ⟨h1, h2, h3⟩ := maxI_spec r n
    have : maxI n r = m := by
      have a : m ≤ maxI n r := by
        rcases List.mem_cons.mp hm with rfl | h
        · exact h2
        · exact h3 m h
      have b : maxI n r ≤ m := hl _ (by
        rcases h1 with h | h
        · rw [h]; exact List.mem_cons_self
        · exact List.mem_cons_of_mem _ h)
      omega
    rw [this]
theorem span_ok {a z r : Int} {n t : Nat} (tn : t ≤ n) (n40 : n ≤ 40) (hr : r = 1 ∨ r = 2) (bx : Sto) : m__law_span [.tup (tl a z r n), .int t] bx = .ok (.tup [.int (Tent.lo a z r n t), .int (Tent.hi a z r n t)]) bx := W.eq (by
  unfold m__law_span S__law_span N__law_span
  rw [W_noErr, W_fnD, WS_seq, WS_unp]
  simp only [WS_next, W_B, W_f1, W_f2, W_fA, W_cons, W_pur, W_var, W_not, W_ifT, W_ifB, W_call, W_callK, W_chain, W_wk, W_sl, W_po, W_poN, W_ok, W_err, W_noErr, W_fnD, ev_plus, ev_sub, ev_iB, ev_toB, ev_not, ev_neg, ev_isN, ev_notN, ev_isB, ev_int, ev_abs, ev_max, ev_min, ev_eqI, ev_neI, Ms.isNon, Option.some.injEq, exists_eq_left', List.getElem?_cons_zero, List.getElem?_cons_succ, List.set_cons_zero, List.set_cons_succ, List.map_cons, List.map_nil, List.cons_append, List.nil_append, List.length_cons, List.length_nil, List.reduceReplicate, Nat.reduceAdd, Nat.reduceSub, Bool.not_true, Bool.not_false, Bool.false_eq_true, Bool.true_eq_false, if_true, if_false, decide_true, decide_false, D.int.injEq, D.bl.injEq, D.ref.injEq, exists_and_left, vs_tup, tl, Option.bind_some, setAll]
  rw [WS_seq, WS_unp]
  simp only [WS_next, W_B, W_f1, W_f2, W_fA, W_cons, W_pur, W_var, W_not, W_ifT, W_ifB, W_call, W_callK, W_chain, W_wk, W_sl, W_po, W_poN, W_ok, W_err, W_noErr, W_fnD, ev_plus, ev_sub, ev_iB, ev_toB, ev_not, ev_neg, ev_isN, ev_notN, ev_isB, ev_int, ev_abs, ev_max, ev_min, ev_eqI, ev_neI, Ms.isNon, Option.some.injEq, exists_eq_left', List.getElem?_cons_zero, List.getElem?_cons_succ, List.set_cons_zero, List.set_cons_succ, List.map_cons, List.map_nil, List.cons_append, List.nil_append, List.length_cons, List.length_nil, List.reduceReplicate, Nat.reduceAdd, Nat.reduceSub, Bool.not_true, Bool.not_false, Bool.false_eq_true, Bool.true_eq_false, if_true, if_false, decide_true, decide_false, D.int.injEq, D.bl.injEq, D.ref.injEq, exists_and_left]
  refine ⟨_, ev_tup (by show 4 ≤ 1000; decide), _, rfl, ?_⟩
  rw [WS_seq, WS_for]
  simp only [WS_next, W_B, W_f1, W_f2, W_fA, W_cons, W_pur, W_var, W_not, W_ifT, W_ifB, W_call, W_callK, W_chain, W_wk, W_sl, W_po, W_poN, W_ok, W_err, W_noErr, W_fnD, ev_plus, ev_sub, ev_iB, ev_toB, ev_not, ev_neg, ev_isN, ev_notN, ev_isB, ev_int, ev_abs, ev_max, ev_min, ev_eqI, ev_neI, Ms.isNon, Option.some.injEq, exists_eq_left', List.getElem?_cons_zero, List.getElem?_cons_succ, List.set_cons_zero, List.set_cons_succ, List.map_cons, List.map_nil, List.cons_append, List.nil_append, List.length_cons, List.length_nil, List.reduceReplicate, Nat.reduceAdd, Nat.reduceSub, Bool.not_true, Bool.not_false, Bool.false_eq_true, Bool.true_eq_false, if_true, if_false, decide_true, decide_false, D.int.injEq, D.bl.injEq, D.ref.injEq, exists_and_left, W_rg1]
  refine ⟨_, rfl, by omega, by omega, ?_⟩
  have tt : ((t : Int)).toNat = t := by omega
  rw [tt]
  refine for_rule (fun k δ st => st = bx ∧ ∃ x10, δ = [some (.tup [.int a, .int z, .int r, .int n]), some (.int t), some (.int a), some (.int z), some (.int r), some (.int n), some (.int (a - r * k)), some (.int (a + r * k)), some (.int z), some (.int z), x10]) ⟨rfl, none, by simp⟩ ?_ ?_
  · rintro δ st ⟨rfl, x10, rfl⟩
    rw [WS_seq, WS_for]
    simp only [WS_next, W_B, W_f1, W_f2, W_fA, W_cons, W_pur, W_var, W_not, W_ifT, W_ifB, W_call, W_callK, W_chain, W_wk, W_sl, W_po, W_poN, W_ok, W_err, W_noErr, W_fnD, ev_plus, ev_sub, ev_iB, ev_toB, ev_not, ev_neg, ev_isN, ev_notN, ev_isB, ev_int, ev_abs, ev_max, ev_min, ev_eqI, ev_neI, Ms.isNon, Option.some.injEq, exists_eq_left', List.getElem?_cons_zero, List.getElem?_cons_succ, List.set_cons_zero, List.set_cons_succ, List.map_cons, List.map_nil, List.cons_append, List.nil_append, List.length_cons, List.length_nil, List.reduceReplicate, Nat.reduceAdd, Nat.reduceSub, Bool.not_true, Bool.not_false, Bool.false_eq_true, Bool.true_eq_false, if_true, if_false, decide_true, decide_false, D.int.injEq, D.bl.injEq, D.ref.injEq, exists_and_left, W_rg1]
    refine ⟨_, rfl, by omega, by omega, ?_⟩
    have tt2 : ((n : Int) - t).toNat = n - t := by omega
    rw [tt2]
    have lr : ∀ m : Nat, (rgl 0 m).length = m := fun m => by rw [rgl_rg, List.length_map, rg_len]
    rw [lr]
    refine for_rule (fun k δ s' => s' = st ∧ ∃ x10, δ = [some (.tup [.int a, .int z, .int r, .int n]), some (.int t), some (.int a), some (.int z), some (.int r), some (.int n), some (.int (a - r * t)), some (.int (a + r * t)), some (.int (z - r * k)), some (.int (z + r * k)), x10]) ⟨rfl, x10, by simp⟩ ?_ ?_
    · rintro δ s' ⟨rfl, x10, rfl⟩
      rw [lr, WS_seq, WS_ret]
      have e : ((n - t : Nat) : Int) = (n : Int) - t := by omega
      simp only [WS_next, W_B, W_f1, W_f2, W_fA, W_cons, W_pur, W_var, W_not, W_ifT, W_ifB, W_call, W_callK, W_chain, W_wk, W_sl, W_po, W_poN, W_ok, W_err, W_noErr, W_fnD, ev_plus, ev_sub, ev_iB, ev_toB, ev_not, ev_neg, ev_isN, ev_notN, ev_isB, ev_int, ev_abs, ev_max, ev_min, ev_eqI, ev_neI, Ms.isNon, Option.some.injEq, exists_eq_left', List.getElem?_cons_zero, List.getElem?_cons_succ, List.set_cons_zero, List.set_cons_succ, List.map_cons, List.map_nil, List.cons_append, List.nil_append, List.length_cons, List.length_nil, List.reduceReplicate, Nat.reduceAdd, Nat.reduceSub, Bool.not_true, Bool.not_false, Bool.false_eq_true, Bool.true_eq_false, if_true, if_false, decide_true, decide_false, D.int.injEq, D.bl.injEq, D.ref.injEq, exists_and_left, maxE, minE, e]
      exact ⟨_, ev_tup (by show 2 ≤ 1000; decide), rfl, trivial⟩
    · rintro k d δ s' hd ⟨rfl, x10, rfl⟩
      refine ⟨_, rfl, ?_⟩
      rw [WS_seq, WS_par]
      simp only [WS_next, W_B, W_f1, W_f2, W_fA, W_cons, W_pur, W_var, W_not, W_ifT, W_ifB, W_call, W_callK, W_chain, W_wk, W_sl, W_po, W_poN, W_ok, W_err, W_noErr, W_fnD, ev_plus, ev_sub, ev_iB, ev_toB, ev_not, ev_neg, ev_isN, ev_notN, ev_isB, ev_int, ev_abs, ev_max, ev_min, ev_eqI, ev_neI, Ms.isNon, Option.some.injEq, exists_eq_left', List.getElem?_cons_zero, List.getElem?_cons_succ, List.set_cons_zero, List.set_cons_succ, List.map_cons, List.map_nil, List.cons_append, List.nil_append, List.length_cons, List.length_nil, List.reduceReplicate, Nat.reduceAdd, Nat.reduceSub, Bool.not_true, Bool.not_false, Bool.false_eq_true, Bool.true_eq_false, if_true, if_false, decide_true, decide_false, D.int.injEq, D.bl.injEq, D.ref.injEq, exists_and_left]
      refine ⟨_, _, rfl, trivial, some d, ?_⟩
      have e1 : z - r * ((k + 1 : Nat) : Int) = z - r * (k : Int) - r := by rcases hr with rfl | rfl <;> omega
      have e2 : z + r * ((k + 1 : Nat) : Int) = z + r * (k : Int) + r := by rcases hr with rfl | rfl <;> omega
      rw [e1, e2]
  · rintro k d δ st hd ⟨rfl, x10, rfl⟩
    refine ⟨_, rfl, ?_⟩
    rw [WS_seq, WS_par]
    simp only [WS_next, W_B, W_f1, W_f2, W_fA, W_cons, W_pur, W_var, W_not, W_ifT, W_ifB, W_call, W_callK, W_chain, W_wk, W_sl, W_po, W_poN, W_ok, W_err, W_noErr, W_fnD, ev_plus, ev_sub, ev_iB, ev_toB, ev_not, ev_neg, ev_isN, ev_notN, ev_isB, ev_int, ev_abs, ev_max, ev_min, ev_eqI, ev_neI, Ms.isNon, Option.some.injEq, exists_eq_left', List.getElem?_cons_zero, List.getElem?_cons_succ, List.set_cons_zero, List.set_cons_succ, List.map_cons, List.map_nil, List.cons_append, List.nil_append, List.length_cons, List.length_nil, List.reduceReplicate, Nat.reduceAdd, Nat.reduceSub, Bool.not_true, Bool.not_false, Bool.false_eq_true, Bool.true_eq_false, if_true, if_false, decide_true, decide_false, D.int.injEq, D.bl.injEq, D.ref.injEq, exists_and_left]
    refine ⟨_, _, rfl, trivial, some d, ?_⟩
    have e1 : a - r * ((k + 1 : Nat) : Int) = a - r * (k : Int) - r := by rcases hr with rfl | rfl <;> omega
    have e2 : a + r * ((k + 1 : Nat) : Int) = a + r * (k : Int) + r := by rcases hr with rfl | rfl <;> omega
    rw [e1, e2])
theorem numbers_ok {a z r l : Int} {n : Nat} (o : Tent.Ok a z r n) (n4 : n ≤ 4) (hl : l ∈ Tent.lims a z) (bx : Sto) : m__law_numbers [.lst ((Tent.paths a z r n n).map pD), .int l] bx = .ok (.tup [.int (Tent.many a z r n l).1, .int (Tent.many a z r n l).2]) bx := W.eq (by
  obtain ⟨F1, _, F3⟩ := Tent.all_paths o n4
  obtain ⟨c1, ⟨p1, hp1, e1⟩, ⟨p2, hp2, e2⟩⟩ := F3 l hl
  have pl : (Tent.paths a z r n n).length ≤ 625 := by
    have h1 := paths_len (a := a) (z := z) (n := n) o.hr n
    have h2 : 5 ^ n ≤ 5 ^ 4 := Nat.pow_le_pow_right (by decide) (by omega)
    omega
  unfold m__law_numbers S__law_numbers N__law_numbers
  rw [W_noErr, W_fnD, WS_seq, WS_set, W_lc, W_lcA]
  simp only [WS_next, W_B, W_f1, W_f2, W_fA, W_cons, W_pur, W_var, W_not, W_ifT, W_ifB, W_call, W_callK, W_chain, W_wk, W_sl, W_po, W_poN, W_ok, W_err, W_noErr, W_fnD, ev_plus, ev_sub, ev_iB, ev_toB, ev_not, ev_neg, ev_isN, ev_notN, ev_isB, ev_int, ev_abs, ev_max, ev_min, ev_eqI, ev_neI, Ms.isNon, Option.some.injEq, exists_eq_left', List.getElem?_cons_zero, List.getElem?_cons_succ, List.set_cons_zero, List.set_cons_succ, List.map_cons, List.map_nil, List.cons_append, List.nil_append, List.length_cons, List.length_nil, List.reduceReplicate, Nat.reduceAdd, Nat.reduceSub, Bool.not_true, Bool.not_false, Bool.false_eq_true, Bool.true_eq_false, if_true, if_false, decide_true, decide_false, D.int.injEq, D.bl.injEq, D.ref.injEq, exists_and_left]
  refine ⟨_, rfl, by rw [List.length_map]; omega, ?_⟩
  rw [lcF (p := fun _ => true) (g := fun p => .int (Tent.cnt l p)) fun p hp => ⟨rfl, fun _ => W.eq (by
    have p5 := F1 p hp
    simp only [unset, List.foldl_cons, List.foldl_nil, WS_next, W_B, W_f1, W_f2, W_fA, W_cons, W_pur, W_var, W_not, W_ifT, W_ifB, W_call, W_callK, W_chain, W_wk, W_sl, W_po, W_poN, W_ok, W_err, W_noErr, W_fnD, ev_plus, ev_sub, ev_iB, ev_toB, ev_not, ev_neg, ev_isN, ev_notN, ev_isB, ev_int, ev_abs, ev_max, ev_min, ev_eqI, ev_neI, Ms.isNon, Option.some.injEq, exists_eq_left', List.getElem?_cons_zero, List.getElem?_cons_succ, List.set_cons_zero, List.set_cons_succ, List.map_cons, List.map_nil, List.cons_append, List.nil_append, List.length_cons, List.length_nil, List.reduceReplicate, Nat.reduceAdd, Nat.reduceSub, Bool.not_true, Bool.not_false, Bool.false_eq_true, Bool.true_eq_false, if_true, if_false, decide_true, decide_false, D.int.injEq, D.bl.injEq, D.ref.injEq, exists_and_left, W_lc, W_lcA, pD]
    refine ⟨_, rfl, by rw [List.length_map]; omega, ?_⟩
    rw [lcI (p := fun v => decide (l < v)) (g := fun t => t) fun w hw => ⟨W.eq (by simp only [unset, List.foldl_cons, List.foldl_nil, WS_next, W_B, W_f1, W_f2, W_fA, W_cons, W_pur, W_var, W_not, W_ifT, W_ifB, W_call, W_callK, W_chain, W_wk, W_sl, W_po, W_poN, W_ok, W_err, W_noErr, W_fnD, ev_plus, ev_sub, ev_iB, ev_toB, ev_not, ev_neg, ev_isN, ev_notN, ev_isB, ev_int, ev_abs, ev_max, ev_min, ev_eqI, ev_neI, Ms.isNon, Option.some.injEq, exists_eq_left', List.getElem?_cons_zero, List.getElem?_cons_succ, List.set_cons_zero, List.set_cons_succ, List.map_cons, List.map_nil, List.cons_append, List.nil_append, List.length_cons, List.length_nil, List.reduceReplicate, Nat.reduceAdd, Nat.reduceSub, Bool.not_true, Bool.not_false, Bool.false_eq_true, Bool.true_eq_false, if_true, if_false, decide_true, decide_false, D.int.injEq, D.bl.injEq, D.ref.injEq, exists_and_left, and_self]), fun _ => W.eq (by simp only [unset, List.foldl_cons, List.foldl_nil, WS_next, W_B, W_f1, W_f2, W_fA, W_cons, W_pur, W_var, W_not, W_ifT, W_ifB, W_call, W_callK, W_chain, W_wk, W_sl, W_po, W_poN, W_ok, W_err, W_noErr, W_fnD, ev_plus, ev_sub, ev_iB, ev_toB, ev_not, ev_neg, ev_isN, ev_notN, ev_isB, ev_int, ev_abs, ev_max, ev_min, ev_eqI, ev_neI, Ms.isNon, Option.some.injEq, exists_eq_left', List.getElem?_cons_zero, List.getElem?_cons_succ, List.set_cons_zero, List.set_cons_succ, List.map_cons, List.map_nil, List.cons_append, List.nil_append, List.length_cons, List.length_nil, List.reduceReplicate, Nat.reduceAdd, Nat.reduceSub, Bool.not_true, Bool.not_false, Bool.false_eq_true, Bool.true_eq_false, if_true, if_false, decide_true, decide_false, D.int.injEq, D.bl.injEq, D.ref.injEq, exists_and_left, and_self])⟩, W_ok, List.map_id']
    refine ⟨_, ev_len vs_lst, ?_, rfl⟩
    rw [List.length_map]
    rfl)⟩, W_ok]
  have ef : (Tent.paths a z r n n).filter (fun _ => true) = Tent.paths a z r n n := List.filter_eq_self.mpr fun _ _ => rfl
  have ei : ((Tent.paths a z r n n).map fun p => D.int (Tent.cnt l p)) = ((Tent.paths a z r n n).map fun p => ((Tent.cnt l p : Nat) : Int)).map D.int := by
    rw [List.map_map]
    rfl
  rw [ef, ei, WS_seq, WS_ret]
  simp only [WS_next, W_B, W_f1, W_f2, W_fA, W_cons, W_pur, W_var, W_not, W_ifT, W_ifB, W_call, W_callK, W_chain, W_wk, W_sl, W_po, W_poN, W_ok, W_err, W_noErr, W_fnD, ev_plus, ev_sub, ev_iB, ev_toB, ev_not, ev_neg, ev_isN, ev_notN, ev_isB, ev_int, ev_abs, ev_max, ev_min, ev_eqI, ev_neI, Ms.isNon, Option.some.injEq, exists_eq_left', List.getElem?_cons_zero, List.getElem?_cons_succ, List.set_cons_zero, List.set_cons_succ, List.map_cons, List.map_nil, List.cons_append, List.nil_append, List.length_cons, List.length_nil, List.reduceReplicate, Nat.reduceAdd, Nat.reduceSub, Bool.not_true, Bool.not_false, Bool.false_eq_true, Bool.true_eq_false, if_true, if_false, decide_true, decide_false, D.int.injEq, D.bl.injEq, D.ref.injEq, exists_and_left]
  refine ⟨_, ev_minL (m := (Tent.many a z r n l).1) (List.mem_map.mpr ⟨p1, hp1, e1⟩) (fun x hx => ?_), _, ev_maxL (m := (Tent.many a z r n l).2) (List.mem_map.mpr ⟨p2, hp2, e2⟩) (fun x hx => ?_), _, ev_tup (by show 2 ≤ 1000; decide), rfl, trivial⟩
  · obtain ⟨p, hp, rfl⟩ := List.mem_map.mp hx
    exact (c1 p hp).1
  · obtain ⟨p, hp, rfl⟩ := List.mem_map.mp hx
    exact (c1 p hp).2)
theorem tent_ok {b : Nat} {m : Nat} {st : Sto} (hb : Bx b st) (m40 : m ≤ 40) : W (m__law_tent [.ref b, .int m] st) (fun x st' => ∃ (a z r : Int) (n : Nat), x = .tup (tl a z r n) ∧ Tent.Ok a z r n ∧ n ≤ m ∧ -4 ≤ a ∧ a ≤ 4 ∧ Ext b st st') NoE := by
  unfold m__law_tent S__law_tent N__law_tent
  rw [W_noErr, W_fnD, WS_seq, WS_par3]
  simp only [WS_next, W_B, W_f1, W_f2, W_fA, W_cons, W_pur, W_var, W_not, W_ifT, W_ifB, W_call, W_callK, W_chain, W_wk, W_sl, W_po, W_poN, W_ok, W_err, W_noErr, W_fnD, ev_plus, ev_sub, ev_iB, ev_toB, ev_not, ev_neg, ev_isN, ev_notN, ev_isB, ev_int, ev_abs, ev_max, ev_min, ev_eqI, ev_neI, Ms.isNon, Option.some.injEq, exists_eq_left', List.getElem?_cons_zero, List.getElem?_cons_succ, List.set_cons_zero, List.set_cons_succ, List.map_cons, List.map_nil, List.cons_append, List.nil_append, List.length_cons, List.length_nil, List.reduceReplicate, Nat.reduceAdd, Nat.reduceSub, Bool.not_true, Bool.not_false, Bool.false_eq_true, Bool.true_eq_false, if_true, if_false, decide_true, decide_false, D.int.injEq, D.bl.injEq, D.ref.injEq, exists_and_left]
  refine (take_ok hb (by decide) (by decide)).to fun x s1 ⟨i, e, i0, i1, y1, l1⟩ => ?_
  subst e
  simp only [ev_plus, Option.some.injEq, exists_eq_left']
  refine (take_ok y1.bx (by omega) (by omega)).to fun x s2 ⟨n, e, n0, n1, y2, l2⟩ => ?_
  subst e
  refine (take_ok y2.bx (by decide) (by decide)).to fun x s3 ⟨j, e, j0, j1, y3, l3⟩ => ?_
  subst e
  simp only [ev_sub, Option.some.injEq, exists_eq_left']
  refine ⟨_, _, _, rfl, ?_⟩
  obtain ⟨r, hr⟩ : ∃ r, r = 1 + i := ⟨_, rfl⟩
  rw [← hr]
  have r12 : r = 1 ∨ r = 2 := by omega
  obtain ⟨k, hk⟩ : ∃ k : Nat, (k : Int) = n := ⟨n.toNat, by omega⟩
  rw [← hk] at n0 n1 ⊢
  rw [WS_seq, WS_ret]
  simp only [WS_next, W_B, W_f1, W_f2, W_fA, W_cons, W_pur, W_var, W_not, W_ifT, W_ifB, W_call, W_callK, W_chain, W_wk, W_sl, W_po, W_poN, W_ok, W_err, W_noErr, W_fnD, ev_plus, ev_sub, ev_iB, ev_toB, ev_not, ev_neg, ev_isN, ev_notN, ev_isB, ev_int, ev_abs, ev_max, ev_min, ev_eqI, ev_neI, Ms.isNon, Option.some.injEq, exists_eq_left', List.getElem?_cons_zero, List.getElem?_cons_succ, List.set_cons_zero, List.set_cons_succ, List.map_cons, List.map_nil, List.cons_append, List.nil_append, List.length_cons, List.length_nil, List.reduceReplicate, Nat.reduceAdd, Nat.reduceSub, Bool.not_true, Bool.not_false, Bool.false_eq_true, Bool.true_eq_false, if_true, if_false, decide_true, decide_false, D.int.injEq, D.bl.injEq, D.ref.injEq, exists_and_left, mulr r12, ev_mulL (show -(2 ^ 64) < (2 : Int) ∧ (2 : Int) < 2 ^ 64 by decide), ev_mulL (show -(2 ^ 64) < (2 * r : Int) ∧ (2 * r : Int) < 2 ^ 64 by omega)]
  refine (take_ok y3.bx (by rcases r12 with rfl | rfl <;> omega) (by rcases r12 with rfl | rfl <;> omega)).to fun x s4 ⟨w, e, w0, w1, y4, l4⟩ => ?_
  subst e
  simp only [ev_plus, ev_sub, Option.some.injEq, exists_eq_left']
  refine ⟨_, ev_tup (by show 4 ≤ 1000; decide), j - 4, j - 4 + w - r * k, r, k, rfl, ⟨r12, by omega, ?_, ?_⟩, by omega, by omega, by omega, ((y1.trans y2).trans y3).trans y4⟩
  · rcases r12 with rfl | rfl <;> omega
  · rcases r12 with rfl | rfl <;> omega
end K16

end
section
set_option Elab.async false
set_option linter.all false
set_option maxRecDepth 100000
set_option maxHeartbeats 4000000
namespace K16
open PySem PySem.Spec PyProof.Rows L2 Ms
def SmE (x : D) : Prop := x = .non ∨ x = .bl true ∨ ∃ i : Int, x = .int i ∧ -100000 ≤ i ∧ i ≤ 100000
def GV (v : D) : Prop := Wf v ∧ Sh v
theorem SmE.w {x : D} (h : SmE x) : Fw x 0 31 ∧ x.cl = true ∧ Sm x := by
  rcases h with rfl | rfl | ⟨i, rfl, h0, h1⟩
  · exact ⟨Fit.non.fw, rfl, Sm.non⟩
  · exact ⟨(Fit.bl true).fw, rfl, Sm.bl⟩
  · exact ⟨(Fit.int (by omega)).fw, rfl, Sm.int⟩
theorem gv_seq {v : D} {l : List D} (h : Seq2 v l) (hl : l.length ≤ 100) (he : ∀ x ∈ l, SmE x) : GV v := by
  refine ⟨⟨h.cl, fun m hm => ?_⟩, ?_⟩
  · have e : m = l := by
      rcases h with rfl | rfl <;> rcases hm with e | e <;> cases e <;> rfl
    subst e
    exact ⟨by omega, fun x hx => ⟨(he x hx).w.2.1, (he x hx).w.2.2⟩⟩
  · have f : ∀ d ∈ l, Fw d 0 31 := fun d hd => (he d hd).w.1
    rcases h with rfl | rfl
    · exact (Fw.lst f).ok (by decide) (by omega)
    · exact (Fw.tup f).ok (by decide) (by omega)
theorem gv_plain {v : D} (h1 : v.cl = true) (h2 : isS v = false) (h3 : Sh v) : GV v := ⟨⟨h1, fun l hl => by rw [hl.isS] at h2; cases h2⟩, h3⟩
theorem cut_mem {l : List D} {lo hi : Option Int} : ∀ x ∈ Ms.cutD l lo hi, x ∈ l := fun x hx => by
  unfold Ms.cutD at hx
  exact List.mem_of_mem_drop (List.mem_of_mem_take hx)
theorem cut_len {l : List D} {lo hi : Option Int} : (Ms.cutD l lo hi).length ≤ l.length := by
  unfold Ms.cutD
  rw [List.length_take, List.length_drop]
  omega
def BI (b : Nat) (t w : Int) (xs : List Int) (bx : Sto) (δ' : List (Option D)) (st : Sto) : Prop := ∃ l : List D, δ' = [some (.ref b), some (pD xs), some (.ref bx.length), some (.int t), some (.int w)] ∧ Ext b bx st ∧ st[bx.length]? = some (.lst l) ∧ l.length ≤ 41 ∧ ∀ x ∈ l, SmE x
theorem bent_ok {b : Nat} {bx : Sto} {xs : List Int} (hb : Bx b bx) (ne : xs ≠ []) (hl : xs.length ≤ 41) (hx : ∀ x ∈ xs, -2000 ≤ x ∧ x ≤ 2000) : W (m__law_bent [.ref b, pD xs] bx) (fun v st => GV v ∧ Ext b bx st) NoE := by
  have hp : 0 < xs.length := List.length_pos_iff.mpr ne
  have bl : b < bx.length := by
    obtain ⟨g, r, e⟩ := hb
    exact (List.getElem?_eq_some_iff.mp e).1
  unfold m__law_bent S__law_bent N__law_bent
  rw [W_noErr, W_fnD, WS_seq, WS_par3, W_cons, W_newOf]
  simp only [WS_next, W_B, W_f1, W_f2, W_fA, W_cons, W_pur, W_var, W_not, W_ifT, W_ifB, W_call, W_callK, W_chain, W_wk, W_sl, W_po, W_poN, W_ok, W_err, W_noErr, W_fnD, ev_plus, ev_sub, ev_iB, ev_toB, ev_not, ev_neg, ev_isN, ev_notN, ev_isB, ev_int, ev_abs, ev_max, ev_min, ev_eqI, ev_neI, Ms.isNon, Option.some.injEq, exists_eq_left', List.getElem?_cons_zero, List.getElem?_cons_succ, List.set_cons_zero, List.set_cons_succ, List.map_cons, List.map_nil, List.cons_append, List.nil_append, List.length_cons, List.length_nil, List.reduceReplicate, Nat.reduceAdd, Nat.reduceSub, Bool.not_true, Bool.not_false, Bool.false_eq_true, Bool.true_eq_false, if_true, if_false, decide_true, decide_false, D.int.injEq, D.bl.injEq, D.ref.injEq, exists_and_left]
  refine ⟨xs.map D.int, rfl, ?_⟩
  have le : ∀ bx, cLen bx [pD xs] = some (.int xs.length) := fun bx => by
    rw [ev_len (show vs bx (pD xs) = some (xs.map D.int) from rfl), List.length_map]
  simp only [le, Option.some.injEq, exists_eq_left']
  have z0 : Ext b bx (bx ++ [Cell.lst (xs.map D.int)]) := ext_plus (Ext.refl hb)
  have c0 : (bx ++ [Cell.lst (xs.map D.int)])[bx.length]? = some (.lst (xs.map D.int)) := at_end rfl
  have k0 : (bx ++ [Cell.lst (xs.map D.int)]).length = bx.length + 1 := by simp
  revert z0 c0 k0
  generalize bx ++ [Cell.lst (xs.map D.int)] = s0
  intro z0 c0 k0
  refine (take_ok z0.bx (by omega) (by omega)).to fun x s1 ⟨t, e, t0, t1, y1, l1⟩ => ?_
  subst e
  refine (take_ok y1.bx (by decide) (by decide)).to fun x s2 ⟨w, e, w0, w1, y2, l2⟩ => ?_
  subst e
  have z2 := (z0.trans y1).trans y2
  have c2 : s2[bx.length]? = some (.lst (xs.map D.int)) := (y2.sm _ (by omega) (by omega)).trans ((y1.sm _ (by omega) (by omega)).trans c0)
  have k2 : s2.length = bx.length + 1 := by omega
  clear y1 y2 l1 l2 z0 c0 k0
  refine ⟨_, _, _, rfl, ?_⟩
  rw [WS_seq, WS_if]
  simp only [WS_next, W_B, W_f1, W_f2, W_fA, W_cons, W_pur, W_var, W_not, W_ifT, W_ifB, W_call, W_callK, W_chain, W_wk, W_sl, W_po, W_poN, W_ok, W_err, W_noErr, W_fnD, ev_plus, ev_sub, ev_iB, ev_toB, ev_not, ev_neg, ev_isN, ev_notN, ev_isB, ev_int, ev_abs, ev_max, ev_min, ev_eqI, ev_neI, Ms.isNon, Option.some.injEq, exists_eq_left', List.getElem?_cons_zero, List.getElem?_cons_succ, List.set_cons_zero, List.set_cons_succ, List.map_cons, List.map_nil, List.cons_append, List.nil_append, List.length_cons, List.length_nil, List.reduceReplicate, Nat.reduceAdd, Nat.reduceSub, Bool.not_true, Bool.not_false, Bool.false_eq_true, Bool.true_eq_false, if_true, if_false, decide_true, decide_false, D.int.injEq, D.bl.injEq, D.ref.injEq, exists_and_left]
  have em : ∀ x ∈ xs.map D.int, SmE x := fun x h => by
    obtain ⟨i, hi, rfl⟩ := List.mem_map.mp h
    have := hx i hi
    exact .inr (.inr ⟨i, rfl, by omega, by omega⟩)
  cases hw : (w == 0) with
  | true =>
    rw [if_pos rfl]
    have vr : vl s2 (.ref bx.length) = some (xs.map D.int) := by
      show (match s2[bx.length]? with | some (.lst l) => some l | _ => none) = _
      rw [c2]
    have sr : ∀ lo hi, cSl s2 (.ref bx.length) lo hi = some (.lst (Ms.cutD (xs.map D.int) lo hi)) := fun lo hi => by
      unfold cSl
      rw [vr]
    rw [WS_seq, WS_ret]
    simp only [WS_next, W_B, W_f1, W_f2, W_fA, W_cons, W_pur, W_var, W_not, W_ifT, W_ifB, W_call, W_callK, W_chain, W_wk, W_sl, W_po, W_poN, W_ok, W_err, W_noErr, W_fnD, ev_plus, ev_sub, ev_iB, ev_toB, ev_not, ev_neg, ev_isN, ev_notN, ev_isB, ev_int, ev_abs, ev_max, ev_min, ev_eqI, ev_neI, Ms.isNon, Option.some.injEq, exists_eq_left', List.getElem?_cons_zero, List.getElem?_cons_succ, List.set_cons_zero, List.set_cons_succ, List.map_cons, List.map_nil, List.cons_append, List.nil_append, List.length_cons, List.length_nil, List.reduceReplicate, Nat.reduceAdd, Nat.reduceSub, Bool.not_true, Bool.not_false, Bool.false_eq_true, Bool.true_eq_false, if_true, if_false, decide_true, decide_false, D.int.injEq, D.bl.injEq, D.ref.injEq, exists_and_left, sr]
    have p2 : ∀ (bx : Sto) (A B : List D), A.length ≤ 1000 → B.length ≤ 1000 → cPlus bx (.lst A) (.lst B) = some (.lst (A ++ B)) := fun bx A B h k => if_pos (by omega)
    have p3 : ∀ (B : List D), B.length ≤ 1000 → cPlus s2 (.ref bx.length) (.lst B) = some (.lst (xs.map D.int ++ B)) := fun B h => by
      show (match vl s2 (.ref bx.length), vl s2 (.lst B) with | some l, some m => if l.length + m.length ≤ 1000000 then some (D.lst (l ++ m)) else none | _, _ => none) = _
      rw [vr]
      exact if_pos (by rw [List.length_map]; omega)
    have cl : ∀ lo hi, (Ms.cutD (xs.map D.int) lo hi).length ≤ 41 := fun lo hi => Nat.le_trans cut_len (by rw [List.length_map]; exact hl)
    have cm : ∀ lo hi, ∀ x ∈ Ms.cutD (xs.map D.int) lo hi, SmE x := fun lo hi x h => em x (cut_mem x h)
    have cl1 := cl none (some t)
    have cl2 := cl (some (t + 1)) none
    have cl3 := cl (some (-1)) none
    have cl4 := cl (some 1) none
    have xl : (xs.map D.int).length ≤ 41 := by rw [List.length_map]; exact hl
    refine ⟨_, ev_tup (by decide), _, p3 _ (by omega), _, ev_lst (by show 1 ≤ 1000; decide), _, p2 _ _ _ (by omega) (by show 1 ≤ 1000; decide), _, p2 _ _ _ (by rw [List.length_append]; show _ + 1 ≤ 1000; omega) (by omega), _, ev_lst (by show 1 ≤ 1000; decide), _, p2 _ _ _ (by omega) (by show 1 ≤ 1000; decide), _, p2 _ _ _ (by rw [List.length_append]; show _ + 1 ≤ 1000; omega) (by omega), _, ev_lst (by show 8 ≤ 1000; decide), ?_⟩
    refine (pick_ok z2.bx (.inl rfl) (by simp) (by show 8 < _; decide)).to fun v s3 ⟨q3, y3, l3⟩ => ?_
    refine ⟨?_, z2.trans y3⟩
    simp only [List.mem_cons, List.not_mem_nil, or_false] at q3
    rcases q3 with rfl | rfl | rfl | rfl | rfl | rfl | rfl | rfl
    · exact gv_plain rfl rfl Sh.non
    · exact gv_plain rfl rfl (Sh.int (by decide))
    · exact gv_plain rfl rfl (sh_by (by decide +kernel) (by decide +kernel))
    · exact gv_seq (.inr rfl) (by decide) (fun x h => by cases h)
    · refine gv_seq (.inl rfl) (by rw [List.length_append]; omega) fun x h => ?_
      rcases List.mem_append.mp h with h | h
      · exact em x h
      · exact cm _ _ x h
    · exact gv_seq (.inl rfl) (by omega) (cm _ _)
    · refine gv_seq (.inl rfl) (by rw [List.length_append, List.length_append]; show _ + 1 + _ ≤ 100; omega) fun x h => ?_
      rcases List.mem_append.mp h with h | h
      · rcases List.mem_append.mp h with h | h
        · exact cm _ _ x h
        · exact .inl (List.mem_singleton.mp h)
      · exact cm _ _ x h
    · refine gv_seq (.inl rfl) (by rw [List.length_append, List.length_append]; show _ + 1 + _ ≤ 100; omega) fun x h => ?_
      rcases List.mem_append.mp h with h | h
      · rcases List.mem_append.mp h with h | h
        · exact cm _ _ x h
        · exact .inr (.inl (List.mem_singleton.mp h))
      · exact cm _ _ x h
  | false =>
    rw [if_neg (by decide), WS_next]
    rw [WS_seq]
    refine WS.imp (N := BI b t w xs bx) (Rt := fun _ _ => False) (E := NoE) ?_ (fun δ' st h => ?_) (fun _ _ z => False.elim z) (fun _ _ _ z => False.elim z)
    · rw [WS_if]
      simp only [WS_next, W_B, W_f1, W_f2, W_fA, W_cons, W_pur, W_var, W_not, W_ifT, W_ifB, W_call, W_callK, W_chain, W_wk, W_sl, W_po, W_poN, W_ok, W_err, W_noErr, W_fnD, ev_plus, ev_sub, ev_iB, ev_toB, ev_not, ev_neg, ev_isN, ev_notN, ev_isB, ev_int, ev_abs, ev_max, ev_min, ev_eqI, ev_neI, Ms.isNon, Option.some.injEq, exists_eq_left', List.getElem?_cons_zero, List.getElem?_cons_succ, List.set_cons_zero, List.set_cons_succ, List.map_cons, List.map_nil, List.cons_append, List.nil_append, List.length_cons, List.length_nil, List.reduceReplicate, Nat.reduceAdd, Nat.reduceSub, Bool.not_true, Bool.not_false, Bool.false_eq_true, Bool.true_eq_false, if_true, if_false, decide_true, decide_false, D.int.injEq, D.bl.injEq, D.ref.injEq, exists_and_left]
      cases hw3 : decide (w < 3) with
      | false =>
        rw [if_neg (by decide), WS_next]
        exact ⟨xs.map D.int, rfl, z2, c2, by rw [List.length_map]; exact hl, em⟩
      | true =>
        rw [if_pos rfl, WS_seq, WS_put]
        simp only [WS_next, W_B, W_f1, W_f2, W_fA, W_cons, W_pur, W_var, W_not, W_ifT, W_ifB, W_call, W_callK, W_chain, W_wk, W_sl, W_po, W_poN, W_ok, W_err, W_noErr, W_fnD, ev_plus, ev_sub, ev_iB, ev_toB, ev_not, ev_neg, ev_isN, ev_notN, ev_isB, ev_int, ev_abs, ev_max, ev_min, ev_eqI, ev_neI, Ms.isNon, Option.some.injEq, exists_eq_left', List.getElem?_cons_zero, List.getElem?_cons_succ, List.set_cons_zero, List.set_cons_succ, List.map_cons, List.map_nil, List.cons_append, List.nil_append, List.length_cons, List.length_nil, List.reduceReplicate, Nat.reduceAdd, Nat.reduceSub, Bool.not_true, Bool.not_false, Bool.false_eq_true, Bool.true_eq_false, if_true, if_false, decide_true, decide_false, D.int.injEq, D.bl.injEq, D.ref.injEq, exists_and_left]
        have tl : t.toNat < xs.length := by omega
        have ixr : ∀ {s : Sto}, s[bx.length]? = some (.lst (xs.map D.int)) → cIx s (.ref bx.length) (.int t) = some (.int xs[t.toNat]) := fun {s} h => by
          rw [ev_ix (vs_ref h)]
          refine atI_int t0 ?_
          rw [List.getElem?_map, List.getElem?_eq_getElem tl]
          rfl
        refine ⟨_, ixr c2, _, ev_lst (by show 3 ≤ 1000; decide), ?_⟩
        refine (pick_ok z2.bx (.inl rfl) (by simp) (by show 3 < _; decide)).to fun v s3 ⟨q3, y3, l3⟩ => ?_
        have hv : ∃ i : Int, v = .int i ∧ -1 ≤ i ∧ i ≤ 3 := by
          simp only [List.mem_cons, List.not_mem_nil, or_false] at q3
          rcases q3 with rfl | rfl | rfl
          · exact ⟨_, rfl, by decide, by decide⟩
          · exact ⟨_, rfl, by decide, by decide⟩
          · exact ⟨_, rfl, by decide, by decide⟩
        obtain ⟨i, rfl, i0, i1⟩ := hv
        have c3 := (y3.sm bx.length (by omega) (by omega)).trans c2
        have hix : ixN (xs.map D.int).length t = some t.toNat := by
          unfold ixN
          rw [if_pos t0, if_pos (by rw [List.length_map]; omega)]
        simp only [ev_plus, Option.some.injEq, exists_eq_left']
        refine ⟨_, c3, _, hix, ?_⟩
        refine ⟨(xs.map D.int).set t.toNat (.int (xs[t.toNat] + i)), rfl, ext_set (z2.trans y3) (Nat.le_refl _) bl, List.getElem?_set_self (by omega), by rw [List.length_set, List.length_map]; exact hl, fun x h => ?_⟩
        rcases List.mem_or_eq_of_mem_set h with h | h
        · exact em x h
        · have := hx _ (List.getElem_mem tl)
          exact .inr (.inr ⟨_, h, by omega, by omega⟩)
    · obtain ⟨l, rfl, z3, c3, l41, el⟩ := h
      rw [WS_seq, WS_frz]
      refine ⟨bx.length, l, rfl, c3, ?_⟩
      have z4 : Ext b bx (st.set bx.length .dead) := ext_set z3 (Nat.le_refl _) bl
      rw [WS_seq, WS_ret]
      simp only [WS_next, W_B, W_f1, W_f2, W_fA, W_cons, W_pur, W_var, W_not, W_ifT, W_ifB, W_call, W_callK, W_chain, W_wk, W_sl, W_po, W_poN, W_ok, W_err, W_noErr, W_fnD, ev_plus, ev_sub, ev_iB, ev_toB, ev_not, ev_neg, ev_isN, ev_notN, ev_isB, ev_int, ev_abs, ev_max, ev_min, ev_eqI, ev_neI, Ms.isNon, Option.some.injEq, exists_eq_left', List.getElem?_cons_zero, List.getElem?_cons_succ, List.set_cons_zero, List.set_cons_succ, List.map_cons, List.map_nil, List.cons_append, List.nil_append, List.length_cons, List.length_nil, List.reduceReplicate, Nat.reduceAdd, Nat.reduceSub, Bool.not_true, Bool.not_false, Bool.false_eq_true, Bool.true_eq_false, if_true, if_false, decide_true, decide_false, D.int.injEq, D.bl.injEq, D.ref.injEq, exists_and_left]
      cases (w == 3) with
      | true =>
        rw [if_pos rfl]
        simp only [WS_next, W_B, W_f1, W_f2, W_fA, W_cons, W_pur, W_var, W_not, W_ifT, W_ifB, W_call, W_callK, W_chain, W_wk, W_sl, W_po, W_poN, W_ok, W_err, W_noErr, W_fnD, ev_plus, ev_sub, ev_iB, ev_toB, ev_not, ev_neg, ev_isN, ev_notN, ev_isB, ev_int, ev_abs, ev_max, ev_min, ev_eqI, ev_neI, Ms.isNon, Option.some.injEq, exists_eq_left', List.getElem?_cons_zero, List.getElem?_cons_succ, List.set_cons_zero, List.set_cons_succ, List.map_cons, List.map_nil, List.cons_append, List.nil_append, List.length_cons, List.length_nil, List.reduceReplicate, Nat.reduceAdd, Nat.reduceSub, Bool.not_true, Bool.not_false, Bool.false_eq_true, Bool.true_eq_false, if_true, if_false, decide_true, decide_false, D.int.injEq, D.bl.injEq, D.ref.injEq, exists_and_left]
        exact ⟨_, ev_tupOfL, gv_seq (.inr rfl) (by omega) el, z4⟩
      | false =>
        rw [if_neg (by decide)]
        simp only [WS_next, W_B, W_f1, W_f2, W_fA, W_cons, W_pur, W_var, W_not, W_ifT, W_ifB, W_call, W_callK, W_chain, W_wk, W_sl, W_po, W_poN, W_ok, W_err, W_noErr, W_fnD, ev_plus, ev_sub, ev_iB, ev_toB, ev_not, ev_neg, ev_isN, ev_notN, ev_isB, ev_int, ev_abs, ev_max, ev_min, ev_eqI, ev_neI, Ms.isNon, Option.some.injEq, exists_eq_left', List.getElem?_cons_zero, List.getElem?_cons_succ, List.set_cons_zero, List.set_cons_succ, List.map_cons, List.map_nil, List.cons_append, List.nil_append, List.length_cons, List.length_nil, List.reduceReplicate, Nat.reduceAdd, Nat.reduceSub, Bool.not_true, Bool.not_false, Bool.false_eq_true, Bool.true_eq_false, if_true, if_false, decide_true, decide_false, D.int.injEq, D.bl.injEq, D.ref.injEq, exists_and_left]
        exact ⟨gv_seq (.inl rfl) (by omega) el, z4⟩
end K16

end
section
set_option Elab.async false
set_option linter.all false
set_option maxRecDepth 100000
set_option maxHeartbeats 4000000
namespace K16
open PySem PySem.Spec PyProof.Rows L2 Ms
theorem pure_dr {d : D} (h : d.pure = true) (bx : Sto) : dr bx d = d := by
  cases d <;> first | (cases h; done) | rfl
theorem Fw.self {d : D} {a b : Nat} (h : Fw d a b) (ha : a ≤ 20) (bx : Sto) : cEqD bx d d = some (.bl true) ∧ cNeD bx d d = some (.bl false) := by
  have sh : SeqAt.shaped d.py = true := by
    have := h.de
    unfold SeqAt.shaped
    rw [h.la]
    simp
    omega
  have ok : eqOk d d = true := by
    unfold eqOk
    rw [sh, h.pu]
    rfl
  unfold cEqD cNeD
  rw [pure_dr h.pu, if_pos ok, if_pos ok, SeqAt.eqv_refl _ h.la]
  exact ⟨rfl, rfl⟩
/-- what comes after stays shut -/
theorem WS_hide {S T : Sn} {δ : List (Option D)} {bx : Sto} {N : List (Option D) → Sto → Prop} {Rt : D → Sto → Prop} {E : Str → D → Sto → Prop} : WS (sSeq S T δ bx) N Rt E ↔ ∀ T', T' = T → WS (S δ bx) (fun δ' bx' => WS (T' δ' bx') N Rt E) Rt E := WS_seq.trans ⟨fun h T' e => e ▸ h, fun h => h T rfl⟩
/-- what a setup's numbers are -/
structure Tn (a z r : Int) (n : Nat) : Prop where
  o : Tent.Ok a z r n
  n31 : n ≤ 31
  a0 : -4 ≤ a
  a1 : a ≤ 4
theorem Tn.rng {a z r : Int} {n : Nat} (h : Tn a z r n) : -100 ≤ z ∧ z ≤ 100 := by
  obtain ⟨⟨hr, n0, d1, d2⟩, n31, a0, a1⟩ := h
  rcases hr with rfl | rfl <;> omega
theorem Tn.lohi {a z r t : Int} {n : Nat} (h : Tn a z r n) (t0 : 0 ≤ t) (t1 : t ≤ n) : -300 ≤ Tent.lo a z r n t ∧ Tent.lo a z r n t ≤ Tent.hi a z r n t ∧ Tent.hi a z r n t ≤ 300 := by
  have hz := h.rng
  obtain ⟨⟨hr, n0, d1, d2⟩, n31, a0, a1⟩ := h
  unfold Tent.lo Tent.hi
  rcases hr with rfl | rfl <;> omega
theorem Tn.top {a z r : Int} {n : Nat} (h : Tn a z r n) : -300 ≤ Tent.topV a z r n ∧ Tent.topV a z r n ≤ 300 := by
  obtain ⟨t, t0, t1, e⟩ := Tent.top_at h.o
  have := h.lohi t0 t1
  rw [e]
  omega
theorem Tn.bot {a z r : Int} {n : Nat} (h : Tn a z r n) : -300 ≤ -Tent.topV (-a) (-z) r n ∧ -Tent.topV (-a) (-z) r n ≤ 300 := by
  obtain ⟨t, t0, t1, e⟩ := Tent.top_at (Tent.ok_neg h.o)
  have := h.lohi t0 t1
  rw [e, ← Tent.lo_neg h.o.hr]
  omega
def SP (a z r : Int) (n : Nat) : List D := (rg 0 (n + 1)).map fun t => .tup [.int (Tent.lo a z r n t), .int (Tent.hi a z r n t)]
theorem sp_len {a z r : Int} {n : Nat} : (SP a z r n).length = n + 1 := by
  unfold SP
  rw [List.length_map, rg_len]
theorem sp_ix {a z r t : Int} {n : Nat} (t0 : 0 ≤ t) (t1 : t ≤ n) (bx : Sto) : cIx bx (.lst (SP a z r n)) (.int t) = some (.tup [.int (Tent.lo a z r n t), .int (Tent.hi a z r n t)]) := by
  rw [ev_ix vs_lst]
  refine atI_int t0 ?_
  unfold SP rg
  rw [List.getElem?_map, List.getElem?_map, List.getElem?_range (by omega)]
  show some (D.tup [.int (Tent.lo a z r n (0 + (t.toNat : Int))), .int (Tent.hi a z r n (0 + (t.toNat : Int)))]) = _
  rw [show 0 + (t.toNat : Int) = t by omega]
theorem pr0 {x v : Int} {bx : Sto} : cIx bx (.tup [.int x, .int v]) (.int 0) = some (.int x) := by rw [ev_ix vs_tup]; rfl
theorem pr1 {x v : Int} {bx : Sto} : cIx bx (.tup [.int x, .int v]) (.int 1) = some (.int v) := by rw [ev_ix vs_tup]; rfl
theorem tix0 {a z r n : Int} (bx : Sto) : cIx bx (.tup (tl a z r n)) (.int 0) = some (.int a) := by rw [ev_ix vs_tup]; rfl
theorem tix1 {a z r n : Int} (bx : Sto) : cIx bx (.tup (tl a z r n)) (.int 1) = some (.int z) := by rw [ev_ix vs_tup]; rfl
theorem count_rg {p : Int → Bool} : ∀ m : Nat, ((rg 0 m).filter p).length = ((List.range m).filter fun (t : Nat) => p (t : Int)).length := fun m => by
  unfold rg
  rw [List.filter_map, List.length_map]
  congr 1
  refine List.filter_congr fun x _ => ?_
  show p (0 + (x : Int)) = _
  rw [Int.zero_add]
def loL (a z r l : Int) (n : Nat) : List Int := (rg 0 (n + 1)).filter fun t => decide (l < Tent.lo a z r n t)
def hiL (a z r l : Int) (n : Nat) : List Int := (rg 0 (n + 1)).filter fun t => decide (l < Tent.hi a z r n t)
theorem loL_len {a z r l : Int} {n : Nat} (h : Tn a z r n) : ((loL a z r l n).length : Int) = (Tent.many a z r n l).1 := by
  unfold loL
  rw [count_rg, ← Tent.many_lo h.o]
theorem hiL_len {a z r l : Int} {n : Nat} (h : Tn a z r n) : ((hiL a z r l n).length : Int) = (Tent.many a z r n l).2 := by
  unfold hiL
  rw [count_rg, ← Tent.many_hi h.o]
theorem ints_fw {l : List Int} (hl : l.length ≤ 100) (h : ∀ x ∈ l, -100000 ≤ x ∧ x ≤ 100000) : Fw (.tup (l.map D.int)) 1 3200 :=
  (Fw.tup (a := 0) (b := 31) fun d hd => by
    obtain ⟨i, hi, rfl⟩ := List.mem_map.mp hd
    have := h i hi
    exact (Fit.int (by omega)).fw).mono (by decide) (by rw [List.length_map]; omega)
theorem rg_small {n : Nat} {p : Int → Bool} (h : n ≤ 31) : ∀ x ∈ (rg 0 (n + 1)).filter p, -100000 ≤ x ∧ x ≤ 100000 := fun x hx => by
  have := mem_rg.mp (List.mem_filter.mp hx).1
  omega
theorem rg_flen {n : Nat} {p : Int → Bool} (h : n ≤ 31) : ((rg 0 (n + 1)).filter p).length ≤ 100 := by
  have := List.length_filter_le p (rg 0 (n + 1))
  rw [rg_len] at this
  omega
def told4 (a z r l : Int) (n : Nat) : List D := [.int (Tent.topV a z r n), .int (-Tent.topV (-a) (-z) r n), .tup ((loL a z r l n).map D.int), .tup ((hiL a z r l n).map D.int)]
def manyD (a z r l : Int) (n : Nat) : D := .tup ([(Tent.many a z r n l).1, (Tent.many a z r n l).2].map D.int)
theorem told_sh {a z r l : Int} {n : Nat} (h : Tn a z r n) : Sh (.lst (told4 a z r l n)) := by
  refine (Fw.lst (a := 1) (b := 3200) fun d hd => ?_).ok (by decide) (by show 4 * 3201 ≤ _; decide)
  have ht := h.top
  have hb := h.bot
  unfold told4 at hd
  simp only [List.mem_cons, List.not_mem_nil, or_false] at hd
  rcases hd with rfl | rfl | rfl | rfl
  · exact (Fit.int (by omega)).fw.mono (by decide) (by decide)
  · exact (Fit.int (by omega)).fw.mono (by decide) (by decide)
  · exact ints_fw (rg_flen h.n31) (rg_small h.n31)
  · exact ints_fw (rg_flen h.n31) (rg_small h.n31)
theorem many_fw {a z r l : Int} {n : Nat} (h : Tn a z r n) : Fw (manyD a z r l n) 1 3200 := by
  refine ints_fw (by show 2 ≤ 100; decide) fun x hx => ?_
  have e1 := loL_len (l := l) h
  have e2 := hiL_len (l := l) h
  have f1 : (loL a z r l n).length ≤ 100 := rg_flen h.n31
  have f2 : (hiL a z r l n).length ≤ 100 := rg_flen h.n31
  simp only [List.mem_cons, List.not_mem_nil, or_false] at hx
  rcases hx with rfl | rfl <;> omega
theorem rpE {bx : Sto} {v : D} {m : Int} (h0 : 0 ≤ m) (h1 : m ≤ 9) : cRep (bx ++ [Cell.lst [v]]) (.ref bx.length) (.int m) = some (.lst (List.replicate m.toNat v)) := by
  unfold cRep
  dsimp only
  rw [at_end rfl]
  dsimp only
  rw [if_pos ⟨by omega, by omega, by show 1 * _ ≤ _; omega⟩]
  congr 2
  exact List.flatten_replicate_singleton
theorem W_rep1 {v : D} {δ : List (Option D)} {bx : Sto} {F : Fn D} {Q : D → Sto → Prop} {E : Str → D → Sto → Prop} {m : Int} (k : Nat) (hm : m = (k : Int)) (k9 : k ≤ 9) (hF : F δ bx = .ok v bx) (q : Q (.lst (List.replicate k v)) (bx ++ [Cell.lst [v]])) : W (fNew (fCons F (pur [])) δ bx) (fun d bx' => ∃ z, cRep bx' d (.int m) = some z ∧ Q z bx') E := by
  rw [W_new, W_cons, hF, W_ok]
  simp only [W_pur]
  refine ⟨by show 1 ≤ 1000000; decide, _, rpE (v := v) (m := m) (by omega) (by omega), ?_⟩
  have e : m.toNat = k := by omega
  rw [e]
  exact q
/-! ### the path that is told -/
theorem pv_near {a z r v : Int} {n t : Nat} (h : Tent.In a z r v n t) : ∀ i : Nat, i ≤ n → Tent.pv a z v n t i - a ≤ r * i ∧ a - Tent.pv a z v n t i ≤ r * i
  | 0, _ => by
    rw [Tent.pv_0 h]
    have : r * ((0 : Nat) : Int) = 0 := by simp
    omega
  | i + 1, hi => by
    have ih := pv_near h i (by omega)
    have st := Tent.pv_step h (i := i) (by omega)
    have hr := h.ok.hr
    rcases hr with rfl | rfl <;> omega
theorem path_small {a z r v : Int} {n t : Nat} (hT : Tn a z r n) (h : Tent.In a z r v n t) : ∀ x ∈ Tent.path a z v n t, -2000 ≤ x ∧ x ≤ 2000 := fun x hx => by
  obtain ⟨i, hi, e⟩ := List.getElem_of_mem hx
  rw [Tent.path_len h.tn] at hi
  have g := Tent.path_get (a := a) (z := z) (v := v) h.tn (i := i) (by omega)
  rw [List.getElem?_eq_getElem (by rw [Tent.path_len h.tn]; exact hi), e] at g
  have e2 := Option.some.inj g
  have nr := pv_near h i (by omega)
  have hr := h.ok.hr
  have a0 := hT.a0
  have a1 := hT.a1
  have n31 := hT.n31
  rw [e2]
  rcases hr with rfl | rfl <;> omega
theorem path_ne {a z v : Int} {n t : Nat} (h : t ≤ n) : Tent.path a z v n t ≠ [] := fun e => by
  have := Tent.path_len (a := a) (z := z) (v := v) h
  rw [e] at this
  cases this
theorem path_isPI {a z r v : Int} {n t : Nat} (h : Tent.In a z r v n t) : isPI a z r (Tent.path a z v n t) = true := by
  have len := Tent.path_len (a := a) (z := z) (v := v) h.tn
  have g0 := Tent.path_get (a := a) (z := z) (v := v) h.tn (i := 0) (by omega)
  have gn := Tent.path_get (a := a) (z := z) (v := v) h.tn (i := n) (Nat.le_refl _)
  rw [Tent.pv_0 h] at g0
  rw [Tent.pv_n h] at gn
  have h1 : (Tent.path a z v n t).headD 0 = a := by
    cases e : Tent.path a z v n t with
    | nil => exact absurd e (path_ne h.tn)
    | cons x l =>
      rw [e] at g0
      exact Option.some.inj g0
  have h2 : (Tent.path a z v n t).getLastD 0 = z := by
    rw [List.getLastD_eq_getLast?, List.getLast?_eq_getElem?, len]
    show ((Tent.path a z v n t)[n]?).getD 0 = z
    rw [gn]
    rfl
  have h3 : stepB r (Tent.path a z v n t) = true := by
    rw [← step_eq len, List.isEmpty_iff, List.filter_eq_nil_iff]
    intro i hi
    have hm := mem_rg.mp hi
    have p1 := Tent.path_get (a := a) (z := z) (v := v) h.tn (i := i.toNat) (by omega)
    have p2 := Tent.path_get (a := a) (z := z) (v := v) h.tn (i := i.toNat + 1) (by omega)
    rw [show (i + 1).toNat = i.toNat + 1 by omega, p1, p2]
    have st := Tent.pv_step h (i := i.toNat) (by omega)
    simp only [Option.getD_some, decide_eq_true_eq]
    unfold absI
    split <;> omega
  unfold isPI
  rw [h1, h2, h3]
  simp
theorem path_isP {a z r v : Int} {n t : Nat} (h : Tent.In a z r v n t) : isP a z r n (pD (Tent.path a z v n t)) = true := by
  unfold pD
  rw [isP_seq (.inr rfl), List.length_map, Tent.path_len h.tn, beq_self_eq_true, Bool.true_and]
  have e1 : ((Tent.path a z v n t).map D.int).all isI = true := by
    rw [List.all_map]
    exact List.all_eq_true.mpr fun x _ => rfl
  have e2 : ((Tent.path a z v n t).map D.int).map unI = Tent.path a z v n t := by
    rw [List.map_map]
    exact List.map_id _
  rw [e1, e2, path_isPI h]
  rfl
theorem path_gv {a z r v : Int} {n t : Nat} (hT : Tn a z r n) (h : Tent.In a z r v n t) : GV (pD (Tent.path a z v n t)) := by
  have n31 := hT.n31
  refine gv_seq (.inr rfl) (by rw [List.length_map, Tent.path_len h.tn]; omega) fun x hx => ?_
  obtain ⟨i, hi, rfl⟩ := List.mem_map.mp hx
  have := path_small hT h i hi
  exact .inr (.inr ⟨i, rfl, by omega, by omega⟩)
theorem path_fw {a z r v : Int} {n t : Nat} (hT : Tn a z r n) (h : Tent.In a z r v n t) : Fw (pD (Tent.path a z v n t)) 1 3200 := by
  have n31 := hT.n31
  refine ints_fw (by rw [Tent.path_len h.tn]; omega) fun x hx => ?_
  have := path_small hT h x hx
  omega
theorem path_ix {a z r v : Int} {n t : Nat} (h : Tent.In a z r v n t) (bx : Sto) : cIx bx (pD (Tent.path a z v n t)) (.int t) = some (.int v) := by
  unfold pD
  rw [ev_ix vs_tup]
  refine atI_int (by omega) ?_
  rw [List.getElem?_map, Int.toNat_natCast, Tent.path_get h.tn h.tn, Tent.pv_t h]
  rfl
end K16

end
section
set_option Elab.async false
set_option linter.all false
set_option maxRecDepth 100000
set_option maxHeartbeats 4000000
namespace K16
open PySem PySem.Spec PyProof.Rows L2 Ms
theorem said_no {F : Fn D} {δ : List (Option D)} {bx : Sto} {x : D} {i : Nat} (h : F δ bx = .err "Refused" x bx) (f : Sh x) (hi : δ[i]? = some (some x)) : fB (f2 cNeD (fHeardG hRes F) (fA cTup (fCons (pur (.str "refused")) (fCons (fA cRepr (fCons (fVar i) (pur []))) (fCons (pur (.bl true)) (pur [])))))) δ bx = .ok false bx := W.eq (W_check h f hi ⟨rfl, rfl⟩)
theorem cutT2 {a z r n : Int} (bx : Sto) : cSl bx (.tup (tl a z r n)) none (some 2) = some (.tup [.int a, .int z]) := rfl
theorem tup_list {l : List D} {bx : Sto} : cListOf bx [.tup l] = some (.lst l) := ev_listOf vs_tup
theorem due_hi {a z r : Int} {n : Nat} (h : Tn a z r n) (bx : Sto) : cMaxL bx [.lst (((rg 0 (n + 1)).map fun t => Tent.hi a z r n t).map D.int)] = some (.int (Tent.topV a z r n)) := by
  obtain ⟨t, t0, t1, e⟩ := Tent.top_at h.o
  refine ev_maxL (List.mem_map.mpr ⟨t, mem_rg.mpr (by omega), e.symm⟩) fun x hx => ?_
  obtain ⟨u, hu, rfl⟩ := List.mem_map.mp hx
  have := mem_rg.mp hu
  exact Tent.top_ge h.o (by omega) (by omega)
theorem due_lo {a z r : Int} {n : Nat} (h : Tn a z r n) (bx : Sto) : cMinL bx [.lst (((rg 0 (n + 1)).map fun t => Tent.lo a z r n t).map D.int)] = some (.int (-Tent.topV (-a) (-z) r n)) := by
  obtain ⟨t, t0, t1, e⟩ := Tent.top_at (Tent.ok_neg h.o)
  refine ev_minL (List.mem_map.mpr ⟨t, mem_rg.mpr (by omega), by rw [e, Tent.lo_neg h.o.hr]⟩) fun x hx => ?_
  obtain ⟨u, hu, rfl⟩ := List.mem_map.mp hx
  have := mem_rg.mp hu
  rw [Tent.lo_neg h.o.hr]
  have := Tent.top_ge (Tent.ok_neg h.o) (t := u) (by omega) (by omega)
  omega
def told5 (a z r l : Int) (n : Nat) : List D := told4 a z r l n ++ [manyD a z r l n]
theorem t5_sl {a z r l : Int} {n : Nat} (bx : Sto) : cSl bx (.lst (told5 a z r l n)) none (some 4) = some (.lst (told4 a z r l n)) := rfl
theorem t5_ix {a z r l : Int} {n : Nat} (bx : Sto) : cIx bx (.lst (told5 a z r l n)) (.int 4) = some (manyD a z r l n) := by
  rw [ev_ix vs_lst]
  exact atI_int (i := 4) (by decide) rfl
theorem t4_ix2 {a z r l : Int} {n : Nat} (bx : Sto) : cIx bx (.lst (told4 a z r l n)) (.int 2) = some (.tup ((loL a z r l n).map D.int)) := by
  rw [ev_ix vs_lst]
  exact atI_int (i := 2) (by decide) rfl
theorem t4_ix3 {a z r l : Int} {n : Nat} (bx : Sto) : cIx bx (.lst (told4 a z r l n)) (.int 3) = some (.tup ((hiL a z r l n).map D.int)) := by
  rw [ev_ix vs_lst]
  exact atI_int (i := 3) (by decide) rfl
def Dr (b : Nat) (a z r l : Int) (n : Nat) (pd : D) (x5 x6 x7 x8 x9 x10 x11 x12 x13 x14 : Option D) : List (Option D) := [some (.ref b), some (.tup (tl a z r n)), some (.lst (SP a z r n)), some pd, some (.int l), x5, x6, x7, x8, x9, x10, x11, x12, x13, x14]
def RJ (b : Nat) (a z r l : Int) (n : Nat) (pd : D) (bx : Sto) (_ : Nat) (δ : List (Option D)) (st : Sto) : Prop := Ext b bx st ∧ ∃ x5 x6 x7 x8 x9 x10 x11 x12 x13 x14, δ = Dr b a z r l n pd x5 x6 x7 x8 x9 x10 x11 x12 x13 x14
theorem right_ok {b n : Nat} {a z r : Int} {bx : Sto} {pd : D} (hb : Bx b bx) (h : Tn a z r n) (hpd : pd = .non ∨ (n ≤ 4 ∧ pd = .lst ((Tent.paths a z r n n).map pD))) : Th (W (m__law_is_right [.ref b, .tup (tl a z r n), .lst (SP a z r n), pd] bx) (fun x st => x = .bl true ∧ Ext b bx st) NoE) := by
  constructor
  have o := h.o
  have n31 := h.n31
  unfold m__law_is_right S__law_is_right N__law_is_right
  rw [W_noErr, W_fnD, WS_hide]
  intro T5 hT5
  rw [WS_set]
  simp only [WS_next, W_B, W_f1, W_f2, W_fA, W_cons, W_pur, W_var, W_not, W_ifT, W_ifB, W_call, W_callK, W_chain, W_wk, W_sl, W_po, W_poN, W_ok, W_err, W_noErr, W_fnD, ev_plus, ev_sub, ev_iB, ev_toB, ev_not, ev_neg, ev_isN, ev_notN, ev_isB, ev_int, ev_abs, ev_max, ev_min, ev_eqI, ev_neI, Ms.isNon, Option.some.injEq, exists_eq_left', List.getElem?_cons_zero, List.getElem?_cons_succ, List.set_cons_zero, List.set_cons_succ, List.map_cons, List.map_nil, List.cons_append, List.nil_append, List.length_cons, List.length_nil, List.reduceReplicate, Nat.reduceAdd, Nat.reduceSub, Bool.not_true, Bool.not_false, Bool.false_eq_true, Bool.true_eq_false, if_true, if_false, decide_true, decide_false, D.int.injEq, D.bl.injEq, D.ref.injEq, exists_and_left, tix0, tix1, cutT2, ev_minT2, ev_maxT2]
  refine (take_ok hb (by decide) (by decide)).to fun x s1 ⟨i, e, i0, i1, y1, l1⟩ => ?_
  subst e
  simp only [ev_plus, Option.some.injEq, exists_eq_left']
  refine ⟨_, ev_lst (by show 4 ≤ 1000; decide), ?_⟩
  refine (pick_ok y1.bx (.inl rfl) (by simp) (by show 4 < _; decide)).to fun x s2 ⟨q2, y2, l2⟩ => ?_
  have hl : ∃ l : Int, x = .int l ∧ l ∈ Tent.lims a z := by
    simp only [List.mem_cons, List.not_mem_nil, or_false] at q2
    unfold Tent.lims
    rcases q2 with rfl | rfl | rfl | rfl
    · exact ⟨_, rfl, by simp⟩
    · exact ⟨_, rfl, by simp⟩
    · exact ⟨_, rfl, by simp⟩
    · refine ⟨_, rfl, ?_⟩
      simp only [List.mem_cons, List.not_mem_nil, or_false]
      omega
  obtain ⟨l, rfl, hl⟩ := hl
  have z2 := y1.trans y2
  clear y1 y2 l1 l2 q2
  rw [hT5]
  clear hT5 T5
  rw [WS_hide]
  intro T6 hT6
  have pk1 : ∀ x y : D, Ms.pick .non [1, 0] [x, y] = [y, x] := fun _ _ => rfl
  have pk0 : ∀ x : D, Ms.pick .non [0] [x] = [x] := fun _ => rfl
  rw [WS_set]
  simp only [WS_next, W_B, W_f1, W_f2, W_fA, W_cons, W_pur, W_var, W_not, W_ifT, W_ifB, W_call, W_callK, W_chain, W_wk, W_sl, W_po, W_poN, W_ok, W_err, W_noErr, W_fnD, ev_plus, ev_sub, ev_iB, ev_toB, ev_not, ev_neg, ev_isN, ev_notN, ev_isB, ev_int, ev_abs, ev_max, ev_min, ev_eqI, ev_neI, Ms.isNon, Option.some.injEq, exists_eq_left', List.getElem?_cons_zero, List.getElem?_cons_succ, List.set_cons_zero, List.set_cons_succ, List.map_cons, List.map_nil, List.cons_append, List.nil_append, List.length_cons, List.length_nil, List.reduceReplicate, Nat.reduceAdd, Nat.reduceSub, Bool.not_true, Bool.not_false, Bool.false_eq_true, Bool.true_eq_false, if_true, if_false, decide_true, decide_false, D.int.injEq, D.bl.injEq, D.ref.injEq, exists_and_left, pk0, pk1, tup_list, highest_ok (.inr rfl) o, lowest_ok (.inl rfl) o, above_ok (.inr rfl) o (by omega), can_ok (.inr rfl) o (by omega), many_ok (.inr rfl) o]
  refine ⟨_, ev_lst (by show 5 ≤ 1000; decide), ?_⟩
  have e5 : D.lst [D.int (Tent.topV a z r n), D.int (-Tent.topV (-a) (-z) r n), D.tup (((rg 0 (n + 1)).filter fun t => decide (l < Tent.lo a z r n t)).map D.int), D.tup (((rg 0 (n + 1)).filter fun t => decide (l < Tent.hi a z r n t)).map D.int), D.tup [D.int (Tent.many a z r n l).1, D.int (Tent.many a z r n l).2]] = .lst (told5 a z r l n) := rfl
  rw [e5]
  clear e5
  rw [hT6]
  clear hT6 T6
  rw [WS_hide]
  intro T7 hT7
  have lc7 : ∀ (δ : List (Option D)) (bx : Sto), 8 < δ.length → lcGo (bTup [7, 8]) δ (pur true) (fVar 8) (SP a z r n) bx [] = .ok (((rg 0 (n + 1)).map fun t => Tent.hi a z r n t).map D.int) bx := fun δ bx hδ => by
    rw [lc_pure (c := fun _ => true) (f := fun d => match d with | .tup [x, y] => y | d => d) fun d hd => by
      unfold SP at hd
      obtain ⟨t, _, rfl⟩ := List.mem_map.mp hd
      refine ⟨_, rfl, rfl, fun _ => W.eq ?_⟩
      rw [W_var]
      exact ⟨_, List.getElem?_set_self (by rw [List.length_set]; exact hδ), rfl, rfl⟩]
    have ef : (SP a z r n).filter (fun _ => true) = SP a z r n := List.filter_eq_self.mpr fun _ _ => rfl
    rw [ef, List.nil_append]
    unfold SP
    rw [List.map_map, List.map_map]
    rfl
  have lc8 : ∀ (δ : List (Option D)) (bx : Sto), 8 < δ.length → lcGo (bTup [7, 8]) δ (pur true) (fVar 7) (SP a z r n) bx [] = .ok (((rg 0 (n + 1)).map fun t => Tent.lo a z r n t).map D.int) bx := fun δ bx hδ => by
    rw [lc_pure (c := fun _ => true) (f := fun d => match d with | .tup [x, y] => x | d => d) fun d hd => by
      unfold SP at hd
      obtain ⟨t, _, rfl⟩ := List.mem_map.mp hd
      refine ⟨_, rfl, rfl, fun _ => W.eq ?_⟩
      rw [W_var]
      exact ⟨_, by rw [List.getElem?_set_ne (by decide)]; exact List.getElem?_set_self (by omega), rfl, rfl⟩]
    have ef : (SP a z r n).filter (fun _ => true) = SP a z r n := List.filter_eq_self.mpr fun _ _ => rfl
    rw [ef, List.nil_append]
    unfold SP
    rw [List.map_map, List.map_map]
    rfl
  rw [WS_set]
  simp only [WS_next, W_B, W_f1, W_f2, W_fA, W_cons, W_pur, W_var, W_not, W_ifT, W_ifB, W_call, W_callK, W_chain, W_wk, W_sl, W_po, W_poN, W_ok, W_err, W_noErr, W_fnD, ev_plus, ev_sub, ev_iB, ev_toB, ev_not, ev_neg, ev_isN, ev_notN, ev_isB, ev_int, ev_abs, ev_max, ev_min, ev_eqI, ev_neI, Ms.isNon, Option.some.injEq, exists_eq_left', List.getElem?_cons_zero, List.getElem?_cons_succ, List.set_cons_zero, List.set_cons_succ, List.map_cons, List.map_nil, List.cons_append, List.nil_append, List.length_cons, List.length_nil, List.reduceReplicate, Nat.reduceAdd, Nat.reduceSub, Bool.not_true, Bool.not_false, Bool.false_eq_true, Bool.true_eq_false, if_true, if_false, decide_true, decide_false, D.int.injEq, D.bl.injEq, D.ref.injEq, exists_and_left, W_lc, W_lcA]
  refine ⟨_, rfl, by rw [sp_len]; omega, ?_⟩
  rw [lc7 _ _ (by simp [unset]), W_ok]
  refine ⟨_, due_hi h s2, _, rfl, by rw [sp_len]; omega, ?_⟩
  rw [lc8 _ _ (by simp [unset]), W_ok]
  refine ⟨_, due_lo h s2, _, ev_lst (by show 2 ≤ 1000; decide), ?_⟩
  clear lc7 lc8
  rw [hT7]
  clear hT7 T7
  rw [WS_hide]
  intro T8 hT8
  have tn : ((n : Int) + 1).toNat = n + 1 := by omega
  have ls : ∀ bx, cLen bx [.lst (SP a z r n)] = some (.int ((n : Int) + 1)) := fun bx => by
    rw [ev_len vs_lst, sp_len]
    rfl
  rw [WS_set]
  simp only [WS_next, W_B, W_f1, W_f2, W_fA, W_cons, W_pur, W_var, W_not, W_ifT, W_ifB, W_call, W_callK, W_chain, W_wk, W_sl, W_po, W_poN, W_ok, W_err, W_noErr, W_fnD, ev_plus, ev_sub, ev_iB, ev_toB, ev_not, ev_neg, ev_isN, ev_notN, ev_isB, ev_int, ev_abs, ev_max, ev_min, ev_eqI, ev_neI, Ms.isNon, Option.some.injEq, exists_eq_left', List.getElem?_cons_zero, List.getElem?_cons_succ, List.set_cons_zero, List.set_cons_succ, List.map_cons, List.map_nil, List.cons_append, List.nil_append, List.length_cons, List.length_nil, List.reduceReplicate, Nat.reduceAdd, Nat.reduceSub, Bool.not_true, Bool.not_false, Bool.false_eq_true, Bool.true_eq_false, if_true, if_false, decide_true, decide_false, D.int.injEq, D.bl.injEq, D.ref.injEq, exists_and_left, W_lc, W_lcA, W_rg1, ls]
  refine ⟨_, rfl, by omega, by omega, ?_⟩
  rw [tn, rgl_rg]
  refine ⟨by rw [List.length_map, rg_len]; omega, ?_⟩
  rw [lcI (p := fun t => decide (l < Tent.lo a z r n t)) (g := fun t => t) fun w hw => ⟨W.eq (by
    have hm := mem_rg.mp hw
    simp only [unset, List.foldl_cons, List.foldl_nil, WS_next, W_B, W_f1, W_f2, W_fA, W_cons, W_pur, W_var, W_not, W_ifT, W_ifB, W_call, W_callK, W_chain, W_wk, W_sl, W_po, W_poN, W_ok, W_err, W_noErr, W_fnD, ev_plus, ev_sub, ev_iB, ev_toB, ev_not, ev_neg, ev_isN, ev_notN, ev_isB, ev_int, ev_abs, ev_max, ev_min, ev_eqI, ev_neI, Ms.isNon, Option.some.injEq, exists_eq_left', List.getElem?_cons_zero, List.getElem?_cons_succ, List.set_cons_zero, List.set_cons_succ, List.map_cons, List.map_nil, List.cons_append, List.nil_append, List.length_cons, List.length_nil, List.reduceReplicate, Nat.reduceAdd, Nat.reduceSub, Bool.not_true, Bool.not_false, Bool.false_eq_true, Bool.true_eq_false, if_true, if_false, decide_true, decide_false, D.int.injEq, D.bl.injEq, D.ref.injEq, exists_and_left, sp_ix (a := a) (z := z) (r := r) (n := n) (t := w) (by omega) (by omega), pr0, and_self]), fun _ => W.eq (by simp only [unset, List.foldl_cons, List.foldl_nil, WS_next, W_B, W_f1, W_f2, W_fA, W_cons, W_pur, W_var, W_not, W_ifT, W_ifB, W_call, W_callK, W_chain, W_wk, W_sl, W_po, W_poN, W_ok, W_err, W_noErr, W_fnD, ev_plus, ev_sub, ev_iB, ev_toB, ev_not, ev_neg, ev_isN, ev_notN, ev_isB, ev_int, ev_abs, ev_max, ev_min, ev_eqI, ev_neI, Ms.isNon, Option.some.injEq, exists_eq_left', List.getElem?_cons_zero, List.getElem?_cons_succ, List.set_cons_zero, List.set_cons_succ, List.map_cons, List.map_nil, List.cons_append, List.nil_append, List.length_cons, List.length_nil, List.reduceReplicate, Nat.reduceAdd, Nat.reduceSub, Bool.not_true, Bool.not_false, Bool.false_eq_true, Bool.true_eq_false, if_true, if_false, decide_true, decide_false, D.int.injEq, D.bl.injEq, D.ref.injEq, exists_and_left, and_self])⟩, W_ok, List.map_id']
  refine ⟨_, ev_tupOfL, _, rfl, by omega, by omega, ?_⟩
  rw [tn, rgl_rg]
  refine ⟨by rw [List.length_map, rg_len]; omega, ?_⟩
  rw [lcI (p := fun t => decide (l < Tent.hi a z r n t)) (g := fun t => t) fun w hw => ⟨W.eq (by
    have hm := mem_rg.mp hw
    simp only [unset, List.foldl_cons, List.foldl_nil, WS_next, W_B, W_f1, W_f2, W_fA, W_cons, W_pur, W_var, W_not, W_ifT, W_ifB, W_call, W_callK, W_chain, W_wk, W_sl, W_po, W_poN, W_ok, W_err, W_noErr, W_fnD, ev_plus, ev_sub, ev_iB, ev_toB, ev_not, ev_neg, ev_isN, ev_notN, ev_isB, ev_int, ev_abs, ev_max, ev_min, ev_eqI, ev_neI, Ms.isNon, Option.some.injEq, exists_eq_left', List.getElem?_cons_zero, List.getElem?_cons_succ, List.set_cons_zero, List.set_cons_succ, List.map_cons, List.map_nil, List.cons_append, List.nil_append, List.length_cons, List.length_nil, List.reduceReplicate, Nat.reduceAdd, Nat.reduceSub, Bool.not_true, Bool.not_false, Bool.false_eq_true, Bool.true_eq_false, if_true, if_false, decide_true, decide_false, D.int.injEq, D.bl.injEq, D.ref.injEq, exists_and_left, sp_ix (a := a) (z := z) (r := r) (n := n) (t := w) (by omega) (by omega), pr1, and_self]), fun _ => W.eq (by simp only [unset, List.foldl_cons, List.foldl_nil, WS_next, W_B, W_f1, W_f2, W_fA, W_cons, W_pur, W_var, W_not, W_ifT, W_ifB, W_call, W_callK, W_chain, W_wk, W_sl, W_po, W_poN, W_ok, W_err, W_noErr, W_fnD, ev_plus, ev_sub, ev_iB, ev_toB, ev_not, ev_neg, ev_isN, ev_notN, ev_isB, ev_int, ev_abs, ev_max, ev_min, ev_eqI, ev_neI, Ms.isNon, Option.some.injEq, exists_eq_left', List.getElem?_cons_zero, List.getElem?_cons_succ, List.set_cons_zero, List.set_cons_succ, List.map_cons, List.map_nil, List.cons_append, List.nil_append, List.length_cons, List.length_nil, List.reduceReplicate, Nat.reduceAdd, Nat.reduceSub, Bool.not_true, Bool.not_false, Bool.false_eq_true, Bool.true_eq_false, if_true, if_false, decide_true, decide_false, D.int.injEq, D.bl.injEq, D.ref.injEq, exists_and_left, and_self])⟩, W_ok, List.map_id']
  refine ⟨_, ev_tupOfL, _, ev_lst (by show 2 ≤ 1000; decide), _, (show cPlus _ (.lst _) (.lst _) = some (.lst (told4 a z r l n)) from rfl), ?_⟩
  rw [hT8]
  clear hT8 T8
  rw [WS_hide]
  intro T9 hT9
  have sd := told_sh (l := l) h
  have mf := many_fw (l := l) h
  have ms : Sh (manyD a z r l n) := mf.ok (by decide) (by decide)
  have ll : ∀ bx, cLen bx [.tup ((loL a z r l n).map D.int)] = some (.int (Tent.many a z r n l).1) := fun bx => by
    rw [ev_len vs_tup, List.length_map, loL_len h]
  have lh : ∀ bx, cLen bx [.tup ((hiL a z r l n).map D.int)] = some (.int (Tent.many a z r n l).2) := fun bx => by
    rw [ev_len vs_tup, List.length_map, hiL_len h]
  have mt : ∀ bx, cTup bx [.int (Tent.many a z r n l).1, .int (Tent.many a z r n l).2] = some (manyD a z r l n) := fun bx => ev_tup (by show 2 ≤ 1000; decide)
  have mm : ∀ bx, m_many_above [.tup (tl a z r n), .int l] bx = .ok (manyD a z r l n) bx := fun bx => many_ok (.inr rfl) o bx
  have mn : ∀ bx, cNeD bx (manyD a z r l n) (manyD a z r l n) = some (.bl false) := fun bx => (K16.Fw.self mf (by decide) bx).2
  rw [WS_if]
  simp only [WS_next, W_B, W_f1, W_f2, W_fA, W_cons, W_pur, W_var, W_not, W_ifT, W_ifB, W_call, W_callK, W_chain, W_wk, W_sl, W_po, W_poN, W_ok, W_err, W_noErr, W_fnD, ev_plus, ev_sub, ev_iB, ev_toB, ev_not, ev_neg, ev_isN, ev_notN, ev_isB, ev_int, ev_abs, ev_max, ev_min, ev_eqI, ev_neI, Ms.isNon, Option.some.injEq, exists_eq_left', List.getElem?_cons_zero, List.getElem?_cons_succ, List.set_cons_zero, List.set_cons_succ, List.map_cons, List.map_nil, List.cons_append, List.nil_append, List.length_cons, List.length_nil, List.reduceReplicate, Nat.reduceAdd, Nat.reduceSub, Bool.not_true, Bool.not_false, Bool.false_eq_true, Bool.true_eq_false, if_true, if_false, decide_true, decide_false, D.int.injEq, D.bl.injEq, D.ref.injEq, exists_and_left, t5_sl, t5_ix, t4_ix2, t4_ix3, sd.repr, ev_neS sd.st, ms.repr, ev_neS ms.st, ll, lh, mt, mm, mn, pk1]
  rw [hT9]
  clear hT9 T9
  rw [WS_hide]
  intro T10 hT10
  refine WS.imp (N := fun δ' st => δ' = Dr b a z r l n pd (some (.lst (told5 a z r l n))) (some (.lst (told4 a z r l n))) none none none none none none none none ∧ st = s2) (Rt := fun _ _ => False) (E := NoE) ?_ (fun δ' st hh => ?_) (fun _ _ z => False.elim z) (fun _ _ _ z => False.elim z)
  · rw [WS_if]
    rcases hpd with rfl | ⟨n4, rfl⟩
    · simp only [WS_seq, WS_if, WS_set, WS_ret, WS_drop, WS_raise, WS_next, WS_unp, WS_par, WS_for, W_B, W_f1, W_f2, W_fA, W_cons, W_pur, W_var, W_not, W_ifT, W_ifB, W_call, W_callK, W_chain, W_wk, W_sl, W_po, W_poN, W_ok, W_err, W_noErr, W_fnD, ev_plus, ev_sub, ev_iB, ev_toB, ev_not, ev_neg, ev_isN, ev_notN, ev_isB, ev_int, ev_abs, ev_max, ev_min, ev_eqI, ev_neI, Ms.isNon, Option.some.injEq, exists_eq_left', List.getElem?_cons_zero, List.getElem?_cons_succ, List.set_cons_zero, List.set_cons_succ, List.map_cons, List.map_nil, List.cons_append, List.nil_append, List.length_cons, List.length_nil, List.reduceReplicate, Nat.reduceAdd, Nat.reduceSub, Bool.not_true, Bool.not_false, Bool.false_eq_true, Bool.true_eq_false, if_true, if_false, decide_true, decide_false, D.int.injEq, D.bl.injEq, D.ref.injEq, exists_and_left]
      exact ⟨rfl, trivial⟩
    · simp only [WS_seq, WS_if, WS_set, WS_ret, WS_drop, WS_raise, WS_next, WS_unp, WS_par, WS_for, W_B, W_f1, W_f2, W_fA, W_cons, W_pur, W_var, W_not, W_ifT, W_ifB, W_call, W_callK, W_chain, W_wk, W_sl, W_po, W_poN, W_ok, W_err, W_noErr, W_fnD, ev_plus, ev_sub, ev_iB, ev_toB, ev_not, ev_neg, ev_isN, ev_notN, ev_isB, ev_int, ev_abs, ev_max, ev_min, ev_eqI, ev_neI, Ms.isNon, Option.some.injEq, exists_eq_left', List.getElem?_cons_zero, List.getElem?_cons_succ, List.set_cons_zero, List.set_cons_succ, List.map_cons, List.map_nil, List.cons_append, List.nil_append, List.length_cons, List.length_nil, List.reduceReplicate, Nat.reduceAdd, Nat.reduceSub, Bool.not_true, Bool.not_false, Bool.false_eq_true, Bool.true_eq_false, if_true, if_false, decide_true, decide_false, D.int.injEq, D.bl.injEq, D.ref.injEq, exists_and_left, t5_ix, ms.repr, numbers_ok o n4 hl]
      have mt2 : D.tup [.int (Tent.many a z r n l).1, .int (Tent.many a z r n l).2] = manyD a z r l n := rfl
      simp only [mt2, WS_seq, WS_if, WS_set, WS_ret, WS_drop, WS_raise, WS_next, WS_unp, WS_par, WS_for, W_B, W_f1, W_f2, W_fA, W_cons, W_pur, W_var, W_not, W_ifT, W_ifB, W_call, W_callK, W_chain, W_wk, W_sl, W_po, W_poN, W_ok, W_err, W_noErr, W_fnD, ev_plus, ev_sub, ev_iB, ev_toB, ev_not, ev_neg, ev_isN, ev_notN, ev_isB, ev_int, ev_abs, ev_max, ev_min, ev_eqI, ev_neI, Ms.isNon, Option.some.injEq, exists_eq_left', List.getElem?_cons_zero, List.getElem?_cons_succ, List.set_cons_zero, List.set_cons_succ, List.map_cons, List.map_nil, List.cons_append, List.nil_append, List.length_cons, List.length_nil, List.reduceReplicate, Nat.reduceAdd, Nat.reduceSub, Bool.not_true, Bool.not_false, Bool.false_eq_true, Bool.true_eq_false, if_true, if_false, decide_true, decide_false, D.int.injEq, D.bl.injEq, D.ref.injEq, exists_and_left, ms.repr, ev_neS ms.st]
      exact ⟨rfl, trivial⟩
  · obtain ⟨rfl, rfl⟩ := hh
    rw [hT10]
    clear hT10 T10 ll lh mt mm mn
    rw [WS_hide]
    intro T11 hT11
    unfold Dr
    rw [WS_for]
    simp only [WS_next, W_B, W_f1, W_f2, W_fA, W_cons, W_pur, W_var, W_not, W_ifT, W_ifB, W_call, W_callK, W_chain, W_wk, W_sl, W_po, W_poN, W_ok, W_err, W_noErr, W_fnD, ev_plus, ev_sub, ev_iB, ev_toB, ev_not, ev_neg, ev_isN, ev_notN, ev_isB, ev_int, ev_abs, ev_max, ev_min, ev_eqI, ev_neI, Ms.isNon, Option.some.injEq, exists_eq_left', List.getElem?_cons_zero, List.getElem?_cons_succ, List.set_cons_zero, List.set_cons_succ, List.map_cons, List.map_nil, List.cons_append, List.nil_append, List.length_cons, List.length_nil, List.reduceReplicate, Nat.reduceAdd, Nat.reduceSub, Bool.not_true, Bool.not_false, Bool.false_eq_true, Bool.true_eq_false, if_true, if_false, decide_true, decide_false, D.int.injEq, D.bl.injEq, D.ref.injEq, exists_and_left, W_rg1]
    refine ⟨_, rfl, by decide, by decide, ?_⟩
    refine for_rule (RJ b a z r l n pd bx) ⟨z2, _, _, _, _, _, _, _, _, _, _, rfl⟩ ?_ ?_
    · rintro δ st ⟨z3, x5, x6, x7, x8, x9, x10, x11, x12, x13, x14, rfl⟩
      rw [hT11, WS_seq, WS_ret]
      unfold Dr
      simp only [WS_next, W_B, W_f1, W_f2, W_fA, W_cons, W_pur, W_var, W_not, W_ifT, W_ifB, W_call, W_callK, W_chain, W_wk, W_sl, W_po, W_poN, W_ok, W_err, W_noErr, W_fnD, ev_plus, ev_sub, ev_iB, ev_toB, ev_not, ev_neg, ev_isN, ev_notN, ev_isB, ev_int, ev_abs, ev_max, ev_min, ev_eqI, ev_neI, Ms.isNon, Option.some.injEq, exists_eq_left', List.getElem?_cons_zero, List.getElem?_cons_succ, List.set_cons_zero, List.set_cons_succ, List.map_cons, List.map_nil, List.cons_append, List.nil_append, List.length_cons, List.length_nil, List.reduceReplicate, Nat.reduceAdd, Nat.reduceSub, Bool.not_true, Bool.not_false, Bool.false_eq_true, Bool.true_eq_false, if_true, if_false, decide_true, decide_false, D.int.injEq, D.bl.injEq, D.ref.injEq, exists_and_left]
      exact ⟨trivial, z3⟩
    · rintro i d δ st hd ⟨z3, x5, x6, x7, x8, x9, x10, x11, x12, x13, x14, rfl⟩
      unfold Dr
      refine ⟨_, rfl, ?_⟩
      clear hT11 T11
      rw [WS_hide]
      intro T1 hT1
      rw [WS_set]
      simp only [WS_next, W_B, W_f1, W_f2, W_fA, W_cons, W_pur, W_var, W_not, W_ifT, W_ifB, W_call, W_callK, W_chain, W_wk, W_sl, W_po, W_poN, W_ok, W_err, W_noErr, W_fnD, ev_plus, ev_sub, ev_iB, ev_toB, ev_not, ev_neg, ev_isN, ev_notN, ev_isB, ev_int, ev_abs, ev_max, ev_min, ev_eqI, ev_neI, Ms.isNon, Option.some.injEq, exists_eq_left', List.getElem?_cons_zero, List.getElem?_cons_succ, List.set_cons_zero, List.set_cons_succ, List.map_cons, List.map_nil, List.cons_append, List.nil_append, List.length_cons, List.length_nil, List.reduceReplicate, Nat.reduceAdd, Nat.reduceSub, Bool.not_true, Bool.not_false, Bool.false_eq_true, Bool.true_eq_false, if_true, if_false, decide_true, decide_false, D.int.injEq, D.bl.injEq, D.ref.injEq, exists_and_left, ls]
      refine (take_ok z3.bx (by omega) (by omega)).to fun x s4 ⟨t, e, t0, t1, y4, l4⟩ => ?_
      subst e
      obtain ⟨k, hk⟩ : ∃ k : Nat, (k : Int) = t := ⟨t.toNat, by omega⟩
      subst hk
      have kn : k ≤ n := by omega
      have z4 := z3.trans y4
      rw [hT1]
      clear hT1 T1
      rw [WS_hide]
      intro T1 hT1
      rw [WS_unp]
      simp only [WS_next, W_B, W_f1, W_f2, W_fA, W_cons, W_pur, W_var, W_not, W_ifT, W_ifB, W_call, W_callK, W_chain, W_wk, W_sl, W_po, W_poN, W_ok, W_err, W_noErr, W_fnD, ev_plus, ev_sub, ev_iB, ev_toB, ev_not, ev_neg, ev_isN, ev_notN, ev_isB, ev_int, ev_abs, ev_max, ev_min, ev_eqI, ev_neI, Ms.isNon, Option.some.injEq, exists_eq_left', List.getElem?_cons_zero, List.getElem?_cons_succ, List.set_cons_zero, List.set_cons_succ, List.map_cons, List.map_nil, List.cons_append, List.nil_append, List.length_cons, List.length_nil, List.reduceReplicate, Nat.reduceAdd, Nat.reduceSub, Bool.not_true, Bool.not_false, Bool.false_eq_true, Bool.true_eq_false, if_true, if_false, decide_true, decide_false, D.int.injEq, D.bl.injEq, D.ref.injEq, exists_and_left, sp_ix (a := a) (z := z) (r := r) (n := n) (t := k) t0 (by omega), vs_tup, Option.bind_some, setAll]
      have lh := h.lohi (t := k) t0 (by omega)
      rw [hT1]
      clear hT1 T1
      rw [WS_hide]
      intro T1 hT1
      rw [WS_if]
      have vf : Fw (.tup ([Tent.lo a z r n k, Tent.hi a z r n k].map D.int)) 1 3200 := ints_fw (by show 2 ≤ 100; decide) fun x hx => by
        simp only [List.mem_cons, List.not_mem_nil, or_false] at hx
        omega
      have vs2 : Sh (.lst [.tup ([Tent.lo a z r n k, Tent.hi a z r n k].map D.int), .tup ([Tent.lo a z r n k, Tent.hi a z r n k].map D.int)]) := by
        refine (Fw.lst (a := 1) (b := 3200) fun d hd => ?_).ok (by decide) (by show 2 * 3201 ≤ _; decide)
        simp only [List.mem_cons, List.not_mem_nil, or_false] at hd
        rcases hd with rfl | rfl <;> exact vf
      simp only [WS_next, W_B, W_f1, W_f2, W_fA, W_cons, W_pur, W_var, W_not, W_ifT, W_ifB, W_call, W_callK, W_chain, W_wk, W_sl, W_po, W_poN, W_ok, W_err, W_noErr, W_fnD, ev_plus, ev_sub, ev_iB, ev_toB, ev_not, ev_neg, ev_isN, ev_notN, ev_isB, ev_int, ev_abs, ev_max, ev_min, ev_eqI, ev_neI, Ms.isNon, Option.some.injEq, exists_eq_left', List.getElem?_cons_zero, List.getElem?_cons_succ, List.set_cons_zero, List.set_cons_succ, List.map_cons, List.map_nil, List.cons_append, List.nil_append, List.length_cons, List.length_nil, List.reduceReplicate, Nat.reduceAdd, Nat.reduceSub, Bool.not_true, Bool.not_false, Bool.false_eq_true, Bool.true_eq_false, if_true, if_false, decide_true, decide_false, D.int.injEq, D.bl.injEq, D.ref.injEq, exists_and_left, pk1, tup_list, values_ok (.inr rfl) o (t := k) t0 (by omega), values_ok (.inl rfl) o (t := k) t0 (by omega)]
      refine ⟨_, ev_lst (by show 2 ≤ 1000; decide), _, vs2.repr, ?_⟩
      refine W_rep1 (v := .tup ([Tent.lo a z r n k, Tent.hi a z r n k].map D.int)) 2 rfl (by decide) (W.eq (by
        simp only [WS_next, W_B, W_f1, W_f2, W_fA, W_cons, W_pur, W_var, W_not, W_ifT, W_ifB, W_call, W_callK, W_chain, W_wk, W_sl, W_po, W_poN, W_ok, W_err, W_noErr, W_fnD, ev_plus, ev_sub, ev_iB, ev_toB, ev_not, ev_neg, ev_isN, ev_notN, ev_isB, ev_int, ev_abs, ev_max, ev_min, ev_eqI, ev_neI, Ms.isNon, Option.some.injEq, exists_eq_left', List.getElem?_cons_zero, List.getElem?_cons_succ, List.set_cons_zero, List.set_cons_succ, List.map_cons, List.map_nil, List.cons_append, List.nil_append, List.length_cons, List.length_nil, List.reduceReplicate, Nat.reduceAdd, Nat.reduceSub, Bool.not_true, Bool.not_false, Bool.false_eq_true, Bool.true_eq_false, if_true, if_false, decide_true, decide_false, D.int.injEq, D.bl.injEq, D.ref.injEq, exists_and_left]
        exact ⟨_, ev_tup (by show 2 ≤ 1000; decide), rfl, trivial⟩)) ?_
      refine ⟨_, vs2.repr, _, ev_neS vs2.st, _, rfl, ?_⟩
      rw [if_neg (by decide), WS_next, hT1]
      clear hT1 T1 vs2 vf
      have z5 : Ext b bx (s4 ++ [Cell.lst [D.tup ([Tent.lo a z r n k, Tent.hi a z r n k].map D.int)]]) := ext_plus z4
      revert z5
      generalize s4 ++ [Cell.lst [D.tup ([Tent.lo a z r n k, Tent.hi a z r n k].map D.int)]] = s5
      intro z5
      rw [WS_hide]
      intro T1 hT1
      rw [WS_set]
      simp only [WS_next, W_B, W_f1, W_f2, W_fA, W_cons, W_pur, W_var, W_not, W_ifT, W_ifB, W_call, W_callK, W_chain, W_wk, W_sl, W_po, W_poN, W_ok, W_err, W_noErr, W_fnD, ev_plus, ev_sub, ev_iB, ev_toB, ev_not, ev_neg, ev_isN, ev_notN, ev_isB, ev_int, ev_abs, ev_max, ev_min, ev_eqI, ev_neI, Ms.isNon, Option.some.injEq, exists_eq_left', List.getElem?_cons_zero, List.getElem?_cons_succ, List.set_cons_zero, List.set_cons_succ, List.map_cons, List.map_nil, List.cons_append, List.nil_append, List.length_cons, List.length_nil, List.reduceReplicate, Nat.reduceAdd, Nat.reduceSub, Bool.not_true, Bool.not_false, Bool.false_eq_true, Bool.true_eq_false, if_true, if_false, decide_true, decide_false, D.int.injEq, D.bl.injEq, D.ref.injEq, exists_and_left]
      refine (take_ok z5.bx (by omega) (by omega)).to fun x s6 ⟨w, e, w0, w1, y6, l6⟩ => ?_
      subst e
      simp only [ev_plus, Option.some.injEq, exists_eq_left']
      obtain ⟨v, hv⟩ : ∃ v, v = Tent.lo a z r n k + w := ⟨_, rfl⟩
      rw [← hv]
      have hI : Tent.In a z r v n k := ⟨o, kn, by omega, by omega⟩
      have z6 := z5.trans y6
      clear y6 l6 hv w0 w1
      rw [hT1]
      clear hT1 T1
      rw [WS_hide]
      intro T1 hT1
      have pa : ∀ bx, m_path_at [.tup (tl a z r n), .int k, .int v] bx = .ok (pD (Tent.path a z v n k)) bx := fun bx => pathAt_ok (.inr rfl) hI (by omega) bx
      have pg := path_gv h hI
      rw [WS_set]
      simp only [WS_next, W_B, W_f1, W_f2, W_fA, W_cons, W_pur, W_var, W_not, W_ifT, W_ifB, W_call, W_callK, W_chain, W_wk, W_sl, W_po, W_poN, W_ok, W_err, W_noErr, W_fnD, ev_plus, ev_sub, ev_iB, ev_toB, ev_not, ev_neg, ev_isN, ev_notN, ev_isB, ev_int, ev_abs, ev_max, ev_min, ev_eqI, ev_neI, Ms.isNon, Option.some.injEq, exists_eq_left', List.getElem?_cons_zero, List.getElem?_cons_succ, List.set_cons_zero, List.set_cons_succ, List.map_cons, List.map_nil, List.cons_append, List.nil_append, List.length_cons, List.length_nil, List.reduceReplicate, Nat.reduceAdd, Nat.reduceSub, Bool.not_true, Bool.not_false, Bool.false_eq_true, Bool.true_eq_false, if_true, if_false, decide_true, decide_false, D.int.injEq, D.bl.injEq, D.ref.injEq, exists_and_left, pa]
      rw [hT1]
      clear hT1 T1
      rw [WS_hide]
      intro T1 hT1
      have ist : ∀ bx, cIsi "tuple" bx (pD (Tent.path a z v n k)) = some (.bl true) := fun bx => isi_tup rfl
      have ip : ∀ bx, m__law_is_path [.tup (tl a z r n), pD (Tent.path a z v n k)] bx = .ok (.bl true) bx := fun bx => by rw [isPath_ok (by omega) pg.1, path_isP hI]
      have pk2 : ∀ x y z : D, Ms.pick .non [2, 1, 0] [x, y, z] = [z, y, x] := fun _ _ _ => rfl
      have pn : ∀ bx, cNeD bx (pD (Tent.path a z v n k)) (pD (Tent.path a z v n k)) = some (.bl false) := fun bx => (K16.Fw.self (path_fw h hI) (by decide) bx).2
      have vn : (v == v) = true := beq_self_eq_true v
      rw [WS_if]
      simp only [WS_next, W_B, W_f1, W_f2, W_fA, W_cons, W_pur, W_var, W_not, W_ifT, W_ifB, W_call, W_callK, W_chain, W_wk, W_sl, W_po, W_poN, W_ok, W_err, W_noErr, W_fnD, ev_plus, ev_sub, ev_iB, ev_toB, ev_not, ev_neg, ev_isN, ev_notN, ev_isB, ev_int, ev_abs, ev_max, ev_min, ev_eqI, ev_neI, Ms.isNon, Option.some.injEq, exists_eq_left', List.getElem?_cons_zero, List.getElem?_cons_succ, List.set_cons_zero, List.set_cons_succ, List.map_cons, List.map_nil, List.cons_append, List.nil_append, List.length_cons, List.length_nil, List.reduceReplicate, Nat.reduceAdd, Nat.reduceSub, Bool.not_true, Bool.not_false, Bool.false_eq_true, Bool.true_eq_false, if_true, if_false, decide_true, decide_false, D.int.injEq, D.bl.injEq, D.ref.injEq, exists_and_left, ist, ip, path_ix hI, vn, pk2, pa, pn]
      rw [hT1]
      clear hT1 T1
      rw [WS_hide]
      intro T1 hT1
      rw [WS_set]
      simp only [WS_next, W_B, W_f1, W_f2, W_fA, W_cons, W_pur, W_var, W_not, W_ifT, W_ifB, W_call, W_callK, W_chain, W_wk, W_sl, W_po, W_poN, W_ok, W_err, W_noErr, W_fnD, ev_plus, ev_sub, ev_iB, ev_toB, ev_not, ev_neg, ev_isN, ev_notN, ev_isB, ev_int, ev_abs, ev_max, ev_min, ev_eqI, ev_neI, Ms.isNon, Option.some.injEq, exists_eq_left', List.getElem?_cons_zero, List.getElem?_cons_succ, List.set_cons_zero, List.set_cons_succ, List.map_cons, List.map_nil, List.cons_append, List.nil_append, List.length_cons, List.length_nil, List.reduceReplicate, Nat.reduceAdd, Nat.reduceSub, Bool.not_true, Bool.not_false, Bool.false_eq_true, Bool.true_eq_false, if_true, if_false, decide_true, decide_false, D.int.injEq, D.bl.injEq, D.ref.injEq, exists_and_left]
      refine (bent_ok z6.bx (path_ne hI.tn) (by rw [Tent.path_len hI.tn]; omega) (path_small h hI)).to fun sm s7 ⟨gs, y7⟩ => ?_
      have z7 := z6.trans y7
      rw [hT1]
      clear hT1 T1
      rw [WS_hide]
      intro T1 hT1
      rw [WS_if]
      simp only [WS_next, W_B, W_f1, W_f2, W_fA, W_cons, W_pur, W_var, W_not, W_ifT, W_ifB, W_call, W_callK, W_chain, W_wk, W_sl, W_po, W_poN, W_ok, W_err, W_noErr, W_fnD, ev_plus, ev_sub, ev_iB, ev_toB, ev_not, ev_neg, ev_isN, ev_notN, ev_isB, ev_int, ev_abs, ev_max, ev_min, ev_eqI, ev_neI, Ms.isNon, Option.some.injEq, exists_eq_left', List.getElem?_cons_zero, List.getElem?_cons_succ, List.set_cons_zero, List.set_cons_succ, List.map_cons, List.map_nil, List.cons_append, List.nil_append, List.length_cons, List.length_nil, List.reduceReplicate, Nat.reduceAdd, Nat.reduceSub, Bool.not_true, Bool.not_false, Bool.false_eq_true, Bool.true_eq_false, if_true, if_false, decide_true, decide_false, D.int.injEq, D.bl.injEq, D.ref.injEq, exists_and_left, pk1, holds_ok (.inr rfl) o gs.1, isPath_ok (n := n) (by omega) gs.1]
      obtain ⟨p, hp⟩ : ∃ p, p = isP a z r n sm := ⟨_, rfl⟩
      rw [← hp]
      have s2b := sh_two (p := p)
      refine ⟨_, ev_lst (by show 2 ≤ 1000; decide), _, s2b.repr, ?_⟩
      refine W_rep1 (v := .bl p) 2 rfl (by decide) (W.eq (by
        simp only [WS_next, W_B, W_f1, W_f2, W_fA, W_cons, W_pur, W_var, W_not, W_ifT, W_ifB, W_call, W_callK, W_chain, W_wk, W_sl, W_po, W_poN, W_ok, W_err, W_noErr, W_fnD, ev_plus, ev_sub, ev_iB, ev_toB, ev_not, ev_neg, ev_isN, ev_notN, ev_isB, ev_int, ev_abs, ev_max, ev_min, ev_eqI, ev_neI, Ms.isNon, Option.some.injEq, exists_eq_left', List.getElem?_cons_zero, List.getElem?_cons_succ, List.set_cons_zero, List.set_cons_succ, List.map_cons, List.map_nil, List.cons_append, List.nil_append, List.length_cons, List.length_nil, List.reduceReplicate, Nat.reduceAdd, Nat.reduceSub, Bool.not_true, Bool.not_false, Bool.false_eq_true, Bool.true_eq_false, if_true, if_false, decide_true, decide_false, D.int.injEq, D.bl.injEq, D.ref.injEq, exists_and_left, isPath_ok (n := n) (by omega) gs.1, ← hp, and_self])) ?_
      refine ⟨_, s2b.repr, _, ev_neS s2b.st, _, rfl, ?_⟩
      rw [if_neg (by decide), WS_next, hT1]
      clear hT1 T1
      have z8 : Ext b bx (s7 ++ [Cell.lst [D.bl p]]) := ext_plus z7
      revert z8
      generalize s7 ++ [Cell.lst [D.bl p]] = s8
      intro z8
      rw [WS_hide]
      intro T1 hT1
      rw [WS_set]
      simp only [WS_next, W_B, W_f1, W_f2, W_fA, W_cons, W_pur, W_var, W_not, W_ifT, W_ifB, W_call, W_callK, W_chain, W_wk, W_sl, W_po, W_poN, W_ok, W_err, W_noErr, W_fnD, ev_plus, ev_sub, ev_iB, ev_toB, ev_not, ev_neg, ev_isN, ev_notN, ev_isB, ev_int, ev_abs, ev_max, ev_min, ev_eqI, ev_neI, Ms.isNon, Option.some.injEq, exists_eq_left', List.getElem?_cons_zero, List.getElem?_cons_succ, List.set_cons_zero, List.set_cons_succ, List.map_cons, List.map_nil, List.cons_append, List.nil_append, List.length_cons, List.length_nil, List.reduceReplicate, Nat.reduceAdd, Nat.reduceSub, Bool.not_true, Bool.not_false, Bool.false_eq_true, Bool.true_eq_false, if_true, if_false, decide_true, decide_false, D.int.injEq, D.bl.injEq, D.ref.injEq, exists_and_left]
      refine ⟨_, ev_lst (by show 5 ≤ 1000; decide), ?_⟩
      refine (pick_ok z8.bx (.inl rfl) (by simp) (by show 5 < _; decide)).to fun bad s9 ⟨q9, y9, l9⟩ => ?_
      have z9 := z8.trans y9
      have hb9 : bad.cl = true ∧ inR bad (Tent.lo a z r n k) (Tent.hi a z r n k) = false ∧ Sh bad := by
        simp only [List.mem_cons, List.not_mem_nil, or_false] at q9
        rcases q9 with rfl | rfl | rfl | rfl | rfl
        · exact ⟨rfl, by unfold inR; simp; omega, Sh.int (by omega)⟩
        · exact ⟨rfl, by unfold inR; simp; omega, Sh.int (by omega)⟩
        · exact ⟨rfl, rfl, Sh.non⟩
        · exact ⟨rfl, rfl, Sh.bl _⟩
        · exact ⟨rfl, rfl, sh_by (by decide +kernel) (by decide +kernel)⟩
      obtain ⟨b1, b2, b3⟩ := hb9
      rw [hT1]
      clear hT1 T1
      rw [WS_seq, WS_if]
      rw [said_no (x := bad) (i := 14) (W.eqE (by simp only [WS_next, W_B, W_f1, W_f2, W_fA, W_cons, W_pur, W_var, W_not, W_ifT, W_ifB, W_call, W_callK, W_chain, W_wk, W_sl, W_po, W_poN, W_ok, W_err, W_noErr, W_fnD, ev_plus, ev_sub, ev_iB, ev_toB, ev_not, ev_neg, ev_isN, ev_notN, ev_isB, ev_int, ev_abs, ev_max, ev_min, ev_eqI, ev_neI, Ms.isNon, Option.some.injEq, exists_eq_left', List.getElem?_cons_zero, List.getElem?_cons_succ, List.set_cons_zero, List.set_cons_succ, List.map_cons, List.map_nil, List.cons_append, List.nil_append, List.length_cons, List.length_nil, List.reduceReplicate, Nat.reduceAdd, Nat.reduceSub, Bool.not_true, Bool.not_false, Bool.false_eq_true, Bool.true_eq_false, if_true, if_false, decide_true, decide_false, D.int.injEq, D.bl.injEq, D.ref.injEq, exists_and_left, pathAt_bad2 (.inr rfl) o kn b1 b2, and_self])) b3 rfl, W_ok, if_neg (by decide), WS_next, WS_next]
      exact ⟨z9, _, _, _, _, _, _, _, _, _, _, rfl⟩
end K16

end
section
set_option Elab.async false
set_option linter.all false
set_option maxRecDepth 100000
set_option maxHeartbeats 4000000
namespace K16
open PySem PySem.Spec PyProof.Rows L2 Ms
theorem heardVB_ref {is : List Nat} {F : Fn D} {B : Nat → Fn D} {δ : List (Option D)} {bx : Sto} {d : D} {k n : Nat} (hF : F δ bx = .ok (.ref k) bx) (hk : bx[k]? = some (.lam n)) (h : B n (unset is δ) bx = .err "Refused" d bx) (f : Sh d) : fHeardVB hRes is F B δ bx = .ok (.tup [.str "refused", .str d.py.shown, .bl true]) bx := by
  unfold fHeardVB bnd
  rw [hF]
  dsimp only
  rw [hk]
  dsimp only
  rw [h]
  unfold hRes
  dsimp only
  rw [if_pos rfl, if_pos f.ok]
theorem b_err {n : Nat} {x : D} {x0 x1 x3 x4 x5 x6 : Option D} {bx : Sto} (hn : n < 9) (h : m_check_tent [x] bx = .err "Refused" x bx) : B__law_none_right n [x0, x1, some x, x3, x4, x5, x6] bx = .err "Refused" x bx := by
  have : n = 0 ∨ n = 1 ∨ n = 2 ∨ n = 3 ∨ n = 4 ∨ n = 5 ∨ n = 6 ∨ n = 7 ∨ n = 8 := by omega
  rcases this with rfl | rfl | rfl | rfl | rfl | rfl | rfl | rfl | rfl
  · exact W.eqE (by unfold B__law_none_right; simp only [WS_next, W_B, W_f1, W_f2, W_fA, W_cons, W_pur, W_var, W_not, W_ifT, W_ifB, W_call, W_callK, W_chain, W_wk, W_sl, W_po, W_poN, W_ok, W_err, W_noErr, W_fnD, ev_plus, ev_sub, ev_iB, ev_toB, ev_not, ev_neg, ev_isN, ev_notN, ev_isB, ev_int, ev_abs, ev_max, ev_min, ev_eqI, ev_neI, Ms.isNon, Option.some.injEq, exists_eq_left', List.getElem?_cons_zero, List.getElem?_cons_succ, List.set_cons_zero, List.set_cons_succ, List.map_cons, List.map_nil, List.cons_append, List.nil_append, List.length_cons, List.length_nil, List.reduceReplicate, Nat.reduceAdd, Nat.reduceSub, Bool.not_true, Bool.not_false, Bool.false_eq_true, Bool.true_eq_false, if_true, if_false, decide_true, decide_false, D.int.injEq, D.bl.injEq, D.ref.injEq, exists_and_left, h, and_self])
  · exact W.eqE (by unfold B__law_none_right; simp only [WS_next, W_B, W_f1, W_f2, W_fA, W_cons, W_pur, W_var, W_not, W_ifT, W_ifB, W_call, W_callK, W_chain, W_wk, W_sl, W_po, W_poN, W_ok, W_err, W_noErr, W_fnD, ev_plus, ev_sub, ev_iB, ev_toB, ev_not, ev_neg, ev_isN, ev_notN, ev_isB, ev_int, ev_abs, ev_max, ev_min, ev_eqI, ev_neI, Ms.isNon, Option.some.injEq, exists_eq_left', List.getElem?_cons_zero, List.getElem?_cons_succ, List.set_cons_zero, List.set_cons_succ, List.map_cons, List.map_nil, List.cons_append, List.nil_append, List.length_cons, List.length_nil, List.reduceReplicate, Nat.reduceAdd, Nat.reduceSub, Bool.not_true, Bool.not_false, Bool.false_eq_true, Bool.true_eq_false, if_true, if_false, decide_true, decide_false, D.int.injEq, D.bl.injEq, D.ref.injEq, exists_and_left, values_err h, and_self])
  · exact W.eqE (by unfold B__law_none_right; simp only [WS_next, W_B, W_f1, W_f2, W_fA, W_cons, W_pur, W_var, W_not, W_ifT, W_ifB, W_call, W_callK, W_chain, W_wk, W_sl, W_po, W_poN, W_ok, W_err, W_noErr, W_fnD, ev_plus, ev_sub, ev_iB, ev_toB, ev_not, ev_neg, ev_isN, ev_notN, ev_isB, ev_int, ev_abs, ev_max, ev_min, ev_eqI, ev_neI, Ms.isNon, Option.some.injEq, exists_eq_left', List.getElem?_cons_zero, List.getElem?_cons_succ, List.set_cons_zero, List.set_cons_succ, List.map_cons, List.map_nil, List.cons_append, List.nil_append, List.length_cons, List.length_nil, List.reduceReplicate, Nat.reduceAdd, Nat.reduceSub, Bool.not_true, Bool.not_false, Bool.false_eq_true, Bool.true_eq_false, if_true, if_false, decide_true, decide_false, D.int.injEq, D.bl.injEq, D.ref.injEq, exists_and_left, highest_err h, and_self])
  · exact W.eqE (by unfold B__law_none_right; simp only [WS_next, W_B, W_f1, W_f2, W_fA, W_cons, W_pur, W_var, W_not, W_ifT, W_ifB, W_call, W_callK, W_chain, W_wk, W_sl, W_po, W_poN, W_ok, W_err, W_noErr, W_fnD, ev_plus, ev_sub, ev_iB, ev_toB, ev_not, ev_neg, ev_isN, ev_notN, ev_isB, ev_int, ev_abs, ev_max, ev_min, ev_eqI, ev_neI, Ms.isNon, Option.some.injEq, exists_eq_left', List.getElem?_cons_zero, List.getElem?_cons_succ, List.set_cons_zero, List.set_cons_succ, List.map_cons, List.map_nil, List.cons_append, List.nil_append, List.length_cons, List.length_nil, List.reduceReplicate, Nat.reduceAdd, Nat.reduceSub, Bool.not_true, Bool.not_false, Bool.false_eq_true, Bool.true_eq_false, if_true, if_false, decide_true, decide_false, D.int.injEq, D.bl.injEq, D.ref.injEq, exists_and_left, lowest_err h, and_self])
  · exact W.eqE (by unfold B__law_none_right; simp only [WS_next, W_B, W_f1, W_f2, W_fA, W_cons, W_pur, W_var, W_not, W_ifT, W_ifB, W_call, W_callK, W_chain, W_wk, W_sl, W_po, W_poN, W_ok, W_err, W_noErr, W_fnD, ev_plus, ev_sub, ev_iB, ev_toB, ev_not, ev_neg, ev_isN, ev_notN, ev_isB, ev_int, ev_abs, ev_max, ev_min, ev_eqI, ev_neI, Ms.isNon, Option.some.injEq, exists_eq_left', List.getElem?_cons_zero, List.getElem?_cons_succ, List.set_cons_zero, List.set_cons_succ, List.map_cons, List.map_nil, List.cons_append, List.nil_append, List.length_cons, List.length_nil, List.reduceReplicate, Nat.reduceAdd, Nat.reduceSub, Bool.not_true, Bool.not_false, Bool.false_eq_true, Bool.true_eq_false, if_true, if_false, decide_true, decide_false, D.int.injEq, D.bl.injEq, D.ref.injEq, exists_and_left, pathAt_err h, and_self])
  · exact W.eqE (by unfold B__law_none_right; simp only [WS_next, W_B, W_f1, W_f2, W_fA, W_cons, W_pur, W_var, W_not, W_ifT, W_ifB, W_call, W_callK, W_chain, W_wk, W_sl, W_po, W_poN, W_ok, W_err, W_noErr, W_fnD, ev_plus, ev_sub, ev_iB, ev_toB, ev_not, ev_neg, ev_isN, ev_notN, ev_isB, ev_int, ev_abs, ev_max, ev_min, ev_eqI, ev_neI, Ms.isNon, Option.some.injEq, exists_eq_left', List.getElem?_cons_zero, List.getElem?_cons_succ, List.set_cons_zero, List.set_cons_succ, List.map_cons, List.map_nil, List.cons_append, List.nil_append, List.length_cons, List.length_nil, List.reduceReplicate, Nat.reduceAdd, Nat.reduceSub, Bool.not_true, Bool.not_false, Bool.false_eq_true, Bool.true_eq_false, if_true, if_false, decide_true, decide_false, D.int.injEq, D.bl.injEq, D.ref.injEq, exists_and_left, holds_err h, and_self])
  · exact W.eqE (by unfold B__law_none_right; simp only [WS_next, W_B, W_f1, W_f2, W_fA, W_cons, W_pur, W_var, W_not, W_ifT, W_ifB, W_call, W_callK, W_chain, W_wk, W_sl, W_po, W_poN, W_ok, W_err, W_noErr, W_fnD, ev_plus, ev_sub, ev_iB, ev_toB, ev_not, ev_neg, ev_isN, ev_notN, ev_isB, ev_int, ev_abs, ev_max, ev_min, ev_eqI, ev_neI, Ms.isNon, Option.some.injEq, exists_eq_left', List.getElem?_cons_zero, List.getElem?_cons_succ, List.set_cons_zero, List.set_cons_succ, List.map_cons, List.map_nil, List.cons_append, List.nil_append, List.length_cons, List.length_nil, List.reduceReplicate, Nat.reduceAdd, Nat.reduceSub, Bool.not_true, Bool.not_false, Bool.false_eq_true, Bool.true_eq_false, if_true, if_false, decide_true, decide_false, D.int.injEq, D.bl.injEq, D.ref.injEq, exists_and_left, above_err h, and_self])
  · exact W.eqE (by unfold B__law_none_right; simp only [WS_next, W_B, W_f1, W_f2, W_fA, W_cons, W_pur, W_var, W_not, W_ifT, W_ifB, W_call, W_callK, W_chain, W_wk, W_sl, W_po, W_poN, W_ok, W_err, W_noErr, W_fnD, ev_plus, ev_sub, ev_iB, ev_toB, ev_not, ev_neg, ev_isN, ev_notN, ev_isB, ev_int, ev_abs, ev_max, ev_min, ev_eqI, ev_neI, Ms.isNon, Option.some.injEq, exists_eq_left', List.getElem?_cons_zero, List.getElem?_cons_succ, List.set_cons_zero, List.set_cons_succ, List.map_cons, List.map_nil, List.cons_append, List.nil_append, List.length_cons, List.length_nil, List.reduceReplicate, Nat.reduceAdd, Nat.reduceSub, Bool.not_true, Bool.not_false, Bool.false_eq_true, Bool.true_eq_false, if_true, if_false, decide_true, decide_false, D.int.injEq, D.bl.injEq, D.ref.injEq, exists_and_left, can_err h, and_self])
  · exact W.eqE (by unfold B__law_none_right; simp only [WS_next, W_B, W_f1, W_f2, W_fA, W_cons, W_pur, W_var, W_not, W_ifT, W_ifB, W_call, W_callK, W_chain, W_wk, W_sl, W_po, W_poN, W_ok, W_err, W_noErr, W_fnD, ev_plus, ev_sub, ev_iB, ev_toB, ev_not, ev_neg, ev_isN, ev_notN, ev_isB, ev_int, ev_abs, ev_max, ev_min, ev_eqI, ev_neI, Ms.isNon, Option.some.injEq, exists_eq_left', List.getElem?_cons_zero, List.getElem?_cons_succ, List.set_cons_zero, List.set_cons_succ, List.map_cons, List.map_nil, List.cons_append, List.nil_append, List.length_cons, List.length_nil, List.reduceReplicate, Nat.reduceAdd, Nat.reduceSub, Bool.not_true, Bool.not_false, Bool.false_eq_true, Bool.true_eq_false, if_true, if_false, decide_true, decide_false, D.int.injEq, D.bl.injEq, D.ref.injEq, exists_and_left, many_err h, and_self])
def odds (a z r n : Int) : List D := [.non, .tup [], .str "tent", .tup [.int a, .int z, .int r], .tup [.int a, .int z, .int r, .int n, .int 0], .tup [.int 0, .int 3, .int 1, .int 2], .tup [.int 0, .int 0, .int 0, .int 3], .tup [.int 0, .int 0, .int 1, .int (-1)], .tup [.non, .int 0, .int 1, .int 1], .tup [.int 0, .bl true, .int 1, .int 1], .tup [.int 0, .int 0, .bl true, .int 1], .tup [.int 0, .int 0, .int 1, .non]]
theorem odd_ok {a z r : Int} {n : Nat} (h : Tn a z r n) : ∀ x ∈ odds a z r n, (∀ bx, m_check_tent [x] bx = .err "Refused" x bx) ∧ Sh x := fun x hx => by
  have hz := h.rng
  have n31 := h.n31
  have a0 := h.a0
  have a1 := h.a1
  have hr := h.o.hr
  have sm : ∀ i : Int, -100000 ≤ i → i ≤ 100000 → SmE (.int i) := fun i h0 h1 => .inr (.inr ⟨i, rfl, h0, h1⟩)
  unfold odds at hx
  simp only [List.mem_cons, List.not_mem_nil, or_false] at hx
  rcases hx with rfl | rfl | rfl | rfl | rfl | rfl | rfl | rfl | rfl | rfl | rfl | rfl
  · exact ⟨fun bx => check_badP rfl rfl bx, Sh.non⟩
  · exact ⟨fun bx => check_badP rfl rfl bx, (gv_seq (.inr rfl) (by decide) (fun x h => by cases h)).2⟩
  · exact ⟨fun bx => check_badP rfl rfl bx, sh_by (by decide +kernel) (by decide +kernel)⟩
  · refine ⟨fun bx => check_badP rfl rfl bx, (gv_seq (.inr rfl) (by show 3 ≤ 100; decide) fun x hx => ?_).2⟩
    simp only [List.mem_cons, List.not_mem_nil, or_false] at hx
    rcases hx with rfl | rfl | rfl <;> exact sm _ (by omega) (by omega)
  · refine ⟨fun bx => check_badP rfl rfl bx, (gv_seq (.inr rfl) (by show 5 ≤ 100; decide) fun x hx => ?_).2⟩
    simp only [List.mem_cons, List.not_mem_nil, or_false] at hx
    rcases hx with rfl | rfl | rfl | rfl | rfl <;> exact sm _ (by omega) (by omega)
  · exact ⟨fun bx => check_bad5 (by decide) (by decide) (by decide) (by decide) bx, sh_by (by decide +kernel) (by decide +kernel)⟩
  · exact ⟨fun bx => check_bad5 (by decide) (by decide) (by decide) (by decide) bx, sh_by (by decide +kernel) (by decide +kernel)⟩
  · exact ⟨fun bx => check_bad4 rfl rfl rfl rfl rfl bx, sh_by (by decide +kernel) (by decide +kernel)⟩
  · exact ⟨fun bx => check_bad4 rfl rfl rfl rfl rfl bx, sh_by (by decide +kernel) (by decide +kernel)⟩
  · exact ⟨fun bx => check_bad4 rfl rfl rfl rfl rfl bx, sh_by (by decide +kernel) (by decide +kernel)⟩
  · exact ⟨fun bx => check_bad4 rfl rfl rfl rfl rfl bx, sh_by (by decide +kernel) (by decide +kernel)⟩
  · exact ⟨fun bx => check_bad4 rfl rfl rfl rfl rfl bx, sh_by (by decide +kernel) (by decide +kernel)⟩
theorem fn1 : fnT TF__law_none_right "above_at" = fnR 2 m_above_at := by
  unfold TF__law_none_right fnT
  rw [if_pos rfl]
theorem fn2 : fnT TF__law_none_right "can_be_above" = fnR 2 m_can_be_above := by
  unfold TF__law_none_right fnT
  rw [if_neg (by decide)]
  unfold fnT
  rw [if_pos rfl]
theorem fn3 : fnT TF__law_none_right "many_above" = fnR 2 m_many_above := by
  unfold TF__law_none_right fnT
  rw [if_neg (by decide)]
  unfold fnT
  rw [if_neg (by decide)]
  unfold fnT
  rw [if_pos rfl]
theorem ask_step {N : Nat → Prop} {b c n i : Nat} {s s0 : Sto} {l : List D} {δ : List (Option D)} {T : Sn} {N' : List (Option D) → Sto → Prop} {Rt : D → Sto → Prop} {E : Str → D → Sto → Prop} (h : Asks N c s l) (z : Ext b s0 s) (hcl : s0.length ≤ c) (hlt : b < s0.length) (hn : N n) (hi : δ[i]? = some (some (.ref c))) (hl : l.length < 100)
    (k : ∀ s' l', Asks N c s' l' → Ext b s0 s' → l'.length = l.length + 1 → WS (T δ s') N' Rt E) : WS (sSeq (sApp (fVar i) (fLam n)) T δ s) N' Rt E := by
  rw [WS_seq]
  exact asks_app h hn hi (by omega) fun A => k _ _ A (ext_more z hcl hlt) (by rw [List.length_append]; rfl)
def NJ (b : Nat) (a z r : Int) (n : Nat) (odd : D) (L : List D) (bad non : D) (s : Sto) (_ : Nat) (δ : List (Option D)) (st : Sto) : Prop := ∃ x4, δ = [some (.ref b), some (.tup (tl a z r n)), some odd, some (.lst L), x4, some bad, some non] ∧ st = s
theorem none_ok {b n : Nat} {a z r : Int} {bx : Sto} (hb : Bx b bx) (h : Tn a z r n) : Th (W (m__law_none_right [.ref b, .tup (tl a z r n)] bx) (fun x st => x = .bl true ∧ Bx b st) NoE) := by
  constructor
  have o := h.o
  unfold m__law_none_right
  refine W_hideR ?_
  have hb := hide_bx hb
  obtain ⟨s0, hs0⟩ : ∃ s, s = hide bx := ⟨_, rfl⟩
  rw [← hs0] at hb ⊢
  clear hs0
  have hlt : b < s0.length := by
    obtain ⟨g, r, e⟩ := hb
    exact (List.getElem?_eq_some_iff.mp e).1
  unfold S__law_none_right N__law_none_right
  rw [W_noErr, W_fnD, WS_hide]
  intro T1 hT1
  rw [WS_set]
  have u4 : ∀ (bx : Sto) (x y u w : D), cTup bx [x, y, u, w] = some (.tup [x, y, u, w]) := fun _ _ _ _ _ => ev_tup (by show 4 ≤ 1000; decide)
  have u1 : ∀ (bx : Sto) (x : D), cTup bx [x] = some (.tup [x]) := fun _ _ => ev_tup (by show 1 ≤ 1000; decide)
  have u0 : ∀ (bx : Sto), cTup bx [] = some (.tup []) := fun _ => ev_tup (by decide)
  have s3 : ∀ bx, cSl bx (.tup (tl a z r n)) none (some 3) = some (.tup [.int a, .int z, .int r]) := fun _ => rfl
  have p5 : ∀ bx, cPlus bx (.tup (tl a z r n)) (.tup [.int 0]) = some (.tup [.int a, .int z, .int r, .int n, .int 0]) := fun _ => rfl
  simp only [WS_next, W_B, W_f1, W_f2, W_fA, W_cons, W_pur, W_var, W_not, W_ifT, W_ifB, W_call, W_callK, W_chain, W_wk, W_sl, W_po, W_poN, W_ok, W_err, W_noErr, W_fnD, ev_plus, ev_sub, ev_iB, ev_toB, ev_not, ev_neg, ev_isN, ev_notN, ev_isB, ev_int, ev_abs, ev_max, ev_min, ev_eqI, ev_neI, Ms.isNon, Option.some.injEq, exists_eq_left', List.getElem?_cons_zero, List.getElem?_cons_succ, List.set_cons_zero, List.set_cons_succ, List.map_cons, List.map_nil, List.cons_append, List.nil_append, List.length_cons, List.length_nil, List.reduceReplicate, Nat.reduceAdd, Nat.reduceSub, Bool.not_true, Bool.not_false, Bool.false_eq_true, Bool.true_eq_false, if_true, if_false, decide_true, decide_false, D.int.injEq, D.bl.injEq, D.ref.injEq, exists_and_left, u4, u1, u0, s3, p5]
  refine ⟨_, ev_lst (by show 12 ≤ 1000; decide), ?_⟩
  refine (pick_ok (l := odds a z r n) hb (.inl rfl) (by simp [odds]) (by show 12 < _; decide)).to fun odd s1 ⟨q1, y1, k1⟩ => ?_
  obtain ⟨ho, fo⟩ := odd_ok h odd q1
  clear q1 k1
  rw [hT1]
  clear hT1 T1
  rw [WS_seq, WS_set]
  refine asks_new (N := fun n => n < 9) (by decide) fun A0 => ?_
  simp only [WS_next, W_B, W_f1, W_f2, W_fA, W_cons, W_pur, W_var, W_not, W_ifT, W_ifB, W_call, W_callK, W_chain, W_wk, W_sl, W_po, W_poN, W_ok, W_err, W_noErr, W_fnD, ev_plus, ev_sub, ev_iB, ev_toB, ev_not, ev_neg, ev_isN, ev_notN, ev_isB, ev_int, ev_abs, ev_max, ev_min, ev_eqI, ev_neI, Ms.isNon, Option.some.injEq, exists_eq_left', List.getElem?_cons_zero, List.getElem?_cons_succ, List.set_cons_zero, List.set_cons_succ, List.map_cons, List.map_nil, List.cons_append, List.nil_append, List.length_cons, List.length_nil, List.reduceReplicate, Nat.reduceAdd, Nat.reduceSub, Bool.not_true, Bool.not_false, Bool.false_eq_true, Bool.true_eq_false, if_true, if_false, decide_true, decide_false, D.int.injEq, D.bl.injEq, D.ref.injEq, exists_and_left]
  obtain ⟨ca, hca⟩ : ∃ ca, ca = s1.length + 1 := ⟨_, rfl⟩
  have z0 : Ext b s0 (s1 ++ [Cell.lam 0] ++ [Cell.lst [D.ref s1.length]]) := ext_plus (ext_plus y1)
  have hcl : s0.length ≤ ca := by have := y1.ln; omega
  rw [← hca] at A0 ⊢
  have ll0 : [D.ref s1.length].length = 1 := rfl
  revert A0 z0 ll0
  generalize s1 ++ [Cell.lam 0] ++ [Cell.lst [D.ref s1.length]] = t0
  generalize [D.ref s1.length] = L0
  intro A0 z0 ll0
  refine ask_step A0 z0 hcl hlt (by decide) rfl (by omega) fun t1 L1 A1 z1 ll1 => ?_
  refine ask_step A1 z1 hcl hlt (by decide) rfl (by omega) fun t2 L2 A2 z2 ll2 => ?_
  refine ask_step A2 z2 hcl hlt (by decide) rfl (by omega) fun t3 L3 A3 z3 ll3 => ?_
  refine ask_step A3 z3 hcl hlt (by decide) rfl (by omega) fun t4 L4 A4 z4 ll4 => ?_
  refine ask_step A4 z4 hcl hlt (by decide) rfl (by omega) fun t5 L5 A5 z5 ll5 => ?_
  refine ask_step A5 z5 hcl hlt (by decide) rfl (by omega) fun t6 L6 A6 z6 ll6 => ?_
  refine ask_step A6 z6 hcl hlt (by decide) rfl (by omega) fun t7 L7 A7 z7 ll7 => ?_
  refine ask_step A7 z7 hcl hlt (by decide) rfl (by omega) fun t8 L8 A8 z8 ll8 => ?_
  clear A0 A1 A2 A3 A4 A5 A6 A7 z0 z1 z2 z3 z4 z5 z6 z7
  rw [WS_seq, WS_frz]
  refine ⟨ca, L8, rfl, A8.at_, ?_⟩
  have z9 := ext_set (x := .dead) z8 hcl hlt
  have lams : ∀ d ∈ L8, ∃ k n, d = D.ref k ∧ (t8.set ca .dead)[k]? = some (.lam n) ∧ n < 9 := fun d hd => by
    obtain ⟨k, n, e1, e2, e3, e4⟩ := A8.all d hd
    exact ⟨k, n, e1, at_ne e3 (Ne.symm e2), e4⟩
  revert z9 lams
  generalize t8.set ca .dead = s9
  intro z9 lams
  clear A8 z8
  rw [WS_hide]
  intro T1 hT1
  rw [WS_if, W_B, W_f2, W_lc, W_lcA]
  simp only [WS_next, W_B, W_f1, W_f2, W_fA, W_cons, W_pur, W_var, W_not, W_ifT, W_ifB, W_call, W_callK, W_chain, W_wk, W_sl, W_po, W_poN, W_ok, W_err, W_noErr, W_fnD, ev_plus, ev_sub, ev_iB, ev_toB, ev_not, ev_neg, ev_isN, ev_notN, ev_isB, ev_int, ev_abs, ev_max, ev_min, ev_eqI, ev_neI, Ms.isNon, Option.some.injEq, exists_eq_left', List.getElem?_cons_zero, List.getElem?_cons_succ, List.set_cons_zero, List.set_cons_succ, List.map_cons, List.map_nil, List.cons_append, List.nil_append, List.length_cons, List.length_nil, List.reduceReplicate, Nat.reduceAdd, Nat.reduceSub, Bool.not_true, Bool.not_false, Bool.false_eq_true, Bool.true_eq_false, if_true, if_false, decide_true, decide_false, D.int.injEq, D.bl.injEq, D.ref.injEq, exists_and_left]
  refine ⟨L8, rfl, by omega, ?_⟩
  rw [lc_pure (c := fun _ => false) (f := fun d => d) fun d hd => by
    obtain ⟨k, m, rfl, hk, hm⟩ := lams d hd
    refine ⟨_, rfl, W.eq ?_, fun q => (nomatch q)⟩
    rw [W_B, W_f2, heardVB_ref (d := odd) (n := m) (W.eq (by rw [W_var]; exact ⟨_, rfl, rfl, rfl⟩)) hk (b_err hm (ho _)) fo, W_ok]
    simp only [unset, List.foldl_cons, List.foldl_nil, WS_next, W_B, W_f1, W_f2, W_fA, W_cons, W_pur, W_var, W_not, W_ifT, W_ifB, W_call, W_callK, W_chain, W_wk, W_sl, W_po, W_poN, W_ok, W_err, W_noErr, W_fnD, ev_plus, ev_sub, ev_iB, ev_toB, ev_not, ev_neg, ev_isN, ev_notN, ev_isB, ev_int, ev_abs, ev_max, ev_min, ev_eqI, ev_neI, Ms.isNon, Option.some.injEq, exists_eq_left', List.getElem?_cons_zero, List.getElem?_cons_succ, List.set_cons_zero, List.set_cons_succ, List.map_cons, List.map_nil, List.cons_append, List.nil_append, List.length_cons, List.length_nil, List.reduceReplicate, Nat.reduceAdd, Nat.reduceSub, Bool.not_true, Bool.not_false, Bool.false_eq_true, Bool.true_eq_false, if_true, if_false, decide_true, decide_false, D.int.injEq, D.bl.injEq, D.ref.injEq, exists_and_left, fo.repr]
    exact ⟨_, ev_tup (by show 3 ≤ 1000; decide), _, said_ne fo.st, _, rfl, rfl, trivial⟩, W_ok]
  have ef : ∀ l : List D, l.filter (fun _ => false) = [] := fun l => by simp
  rw [ef, List.map_nil, List.append_nil]
  refine ⟨_, ev_lst (by decide), _, ne_nil (fun _ h => by cases h), _, rfl, ?_⟩
  rw [if_neg (by decide), WS_next, hT1]
  clear hT1 T1
  rw [WS_hide]
  intro T1 hT1
  rw [WS_set]
  simp only [WS_next, W_B, W_f1, W_f2, W_fA, W_cons, W_pur, W_var, W_not, W_ifT, W_ifB, W_call, W_callK, W_chain, W_wk, W_sl, W_po, W_poN, W_ok, W_err, W_noErr, W_fnD, ev_plus, ev_sub, ev_iB, ev_toB, ev_not, ev_neg, ev_isN, ev_notN, ev_isB, ev_int, ev_abs, ev_max, ev_min, ev_eqI, ev_neI, Ms.isNon, Option.some.injEq, exists_eq_left', List.getElem?_cons_zero, List.getElem?_cons_succ, List.set_cons_zero, List.set_cons_succ, List.map_cons, List.map_nil, List.cons_append, List.nil_append, List.length_cons, List.length_nil, List.reduceReplicate, Nat.reduceAdd, Nat.reduceSub, Bool.not_true, Bool.not_false, Bool.false_eq_true, Bool.true_eq_false, if_true, if_false, decide_true, decide_false, D.int.injEq, D.bl.injEq, D.ref.injEq, exists_and_left, ix3]
  refine ⟨_, ev_lst (by show 5 ≤ 1000; decide), ?_⟩
  refine (pick_ok z9.bx (.inl rfl) (by simp) (by show 5 < _; decide)).to fun bad s10 ⟨q10, y10, k10⟩ => ?_
  have n31 := h.n31
  have hb9 : bad.cl = true ∧ inR bad 0 n = false ∧ Sh bad := by
    simp only [List.mem_cons, List.not_mem_nil, or_false] at q10
    rcases q10 with rfl | rfl | rfl | rfl | rfl
    · exact ⟨rfl, by unfold inR; simp; omega, Sh.int (by omega)⟩
    · exact ⟨rfl, by unfold inR; simp, Sh.int (by omega)⟩
    · exact ⟨rfl, rfl, Sh.non⟩
    · exact ⟨rfl, rfl, Sh.bl _⟩
    · exact ⟨rfl, rfl, sh_by (by decide +kernel) (by decide +kernel)⟩
  obtain ⟨b1, b2, b3⟩ := hb9
  have z10 := z9.trans y10
  clear q10 y10 k10
  rw [hT1]
  clear hT1 T1
  rw [WS_seq, WS_if]
  rw [said_no (x := bad) (i := 5) (W.eqE (by simp only [WS_next, W_B, W_f1, W_f2, W_fA, W_cons, W_pur, W_var, W_not, W_ifT, W_ifB, W_call, W_callK, W_chain, W_wk, W_sl, W_po, W_poN, W_ok, W_err, W_noErr, W_fnD, ev_plus, ev_sub, ev_iB, ev_toB, ev_not, ev_neg, ev_isN, ev_notN, ev_isB, ev_int, ev_abs, ev_max, ev_min, ev_eqI, ev_neI, Ms.isNon, Option.some.injEq, exists_eq_left', List.getElem?_cons_zero, List.getElem?_cons_succ, List.set_cons_zero, List.set_cons_succ, List.map_cons, List.map_nil, List.cons_append, List.nil_append, List.length_cons, List.length_nil, List.reduceReplicate, Nat.reduceAdd, Nat.reduceSub, Bool.not_true, Bool.not_false, Bool.false_eq_true, Bool.true_eq_false, if_true, if_false, decide_true, decide_false, D.int.injEq, D.bl.injEq, D.ref.injEq, exists_and_left, values_bad (.inr rfl) o b1 b2, and_self])) b3 rfl, W_ok, if_neg (by decide), WS_next, WS_seq, WS_if]
  rw [said_no (x := bad) (i := 5) (W.eqE (by simp only [WS_next, W_B, W_f1, W_f2, W_fA, W_cons, W_pur, W_var, W_not, W_ifT, W_ifB, W_call, W_callK, W_chain, W_wk, W_sl, W_po, W_poN, W_ok, W_err, W_noErr, W_fnD, ev_plus, ev_sub, ev_iB, ev_toB, ev_not, ev_neg, ev_isN, ev_notN, ev_isB, ev_int, ev_abs, ev_max, ev_min, ev_eqI, ev_neI, Ms.isNon, Option.some.injEq, exists_eq_left', List.getElem?_cons_zero, List.getElem?_cons_succ, List.set_cons_zero, List.set_cons_succ, List.map_cons, List.map_nil, List.cons_append, List.nil_append, List.length_cons, List.length_nil, List.reduceReplicate, Nat.reduceAdd, Nat.reduceSub, Bool.not_true, Bool.not_false, Bool.false_eq_true, Bool.true_eq_false, if_true, if_false, decide_true, decide_false, D.int.injEq, D.bl.injEq, D.ref.injEq, exists_and_left, pathAt_bad1 (.inr rfl) o b1 b2, and_self])) b3 rfl, W_ok, if_neg (by decide), WS_next]
  rw [WS_hide]
  intro T1 hT1
  rw [WS_set]
  simp only [WS_next, W_B, W_f1, W_f2, W_fA, W_cons, W_pur, W_var, W_not, W_ifT, W_ifB, W_call, W_callK, W_chain, W_wk, W_sl, W_po, W_poN, W_ok, W_err, W_noErr, W_fnD, ev_plus, ev_sub, ev_iB, ev_toB, ev_not, ev_neg, ev_isN, ev_notN, ev_isB, ev_int, ev_abs, ev_max, ev_min, ev_eqI, ev_neI, Ms.isNon, Option.some.injEq, exists_eq_left', List.getElem?_cons_zero, List.getElem?_cons_succ, List.set_cons_zero, List.set_cons_succ, List.map_cons, List.map_nil, List.cons_append, List.nil_append, List.length_cons, List.length_nil, List.reduceReplicate, Nat.reduceAdd, Nat.reduceSub, Bool.not_true, Bool.not_false, Bool.false_eq_true, Bool.true_eq_false, if_true, if_false, decide_true, decide_false, D.int.injEq, D.bl.injEq, D.ref.injEq, exists_and_left, u1]
  refine ⟨_, ev_lst (by show 4 ≤ 1000; decide), ?_⟩
  refine (pick_ok z10.bx (.inl rfl) (by simp) (by show 4 < _; decide)).to fun non s11 ⟨q11, y11, k11⟩ => ?_
  have hn9 : non.cl = true ∧ isI non = false ∧ Sh non := by
    simp only [List.mem_cons, List.not_mem_nil, or_false] at q11
    rcases q11 with rfl | rfl | rfl | rfl
    · exact ⟨rfl, rfl, Sh.non⟩
    · exact ⟨rfl, rfl, Sh.bl _⟩
    · exact ⟨rfl, rfl, sh_by (by decide +kernel) (by decide +kernel)⟩
    · exact ⟨rfl, rfl, sh_by (by decide +kernel) (by decide +kernel)⟩
  obtain ⟨c1, c2, c3⟩ := hn9
  have z11 := z10.trans y11
  clear q11 y11 k11
  rw [hT1]
  clear hT1 T1
  rw [WS_hide]
  intro T1 hT1
  rw [WS_for, W_wk]
  simp only [WS_next, W_B, W_f1, W_f2, W_fA, W_cons, W_pur, W_var, W_not, W_ifT, W_ifB, W_call, W_callK, W_chain, W_wk, W_sl, W_po, W_poN, W_ok, W_err, W_noErr, W_fnD, ev_plus, ev_sub, ev_iB, ev_toB, ev_not, ev_neg, ev_isN, ev_notN, ev_isB, ev_int, ev_abs, ev_max, ev_min, ev_eqI, ev_neI, Ms.isNon, Option.some.injEq, exists_eq_left', List.getElem?_cons_zero, List.getElem?_cons_succ, List.set_cons_zero, List.set_cons_succ, List.map_cons, List.map_nil, List.cons_append, List.nil_append, List.length_cons, List.length_nil, List.reduceReplicate, Nat.reduceAdd, Nat.reduceSub, Bool.not_true, Bool.not_false, Bool.false_eq_true, Bool.true_eq_false, if_true, if_false, decide_true, decide_false, D.int.injEq, D.bl.injEq, D.ref.injEq, exists_and_left]
  refine ⟨_, ev_tup (by show 3 ≤ 1000; decide), _, rfl, ?_⟩
  refine for_rule (NJ b a z r n odd L8 bad non s11) ⟨_, rfl, rfl⟩ ?_ ?_
  · rintro δ st ⟨x4, rfl, rfl⟩
    rw [hT1, WS_seq, WS_ret]
    have pk0 : ∀ x : D, Ms.pick .non [0] [x] = [x] := fun _ => rfl
    have tf : Fw (.tup (tl a z r n)) 1 3200 := ints_fw (l := [a, z, r, n]) (by show 4 ≤ 100; decide) fun x hx => by
      have hz := h.rng
      have a0 := h.a0
      have a1 := h.a1
      have hr := o.hr
      simp only [List.mem_cons, List.not_mem_nil, or_false] at hx
      omega
    have te : ∀ bx, cEqD bx (.tup (tl a z r n)) (.tup (tl a z r n)) = some (.bl true) := fun bx => (K16.Fw.self tf (by decide) bx).1
    simp only [WS_next, W_B, W_f1, W_f2, W_fA, W_cons, W_pur, W_var, W_not, W_ifT, W_ifB, W_call, W_callK, W_chain, W_wk, W_sl, W_po, W_poN, W_ok, W_err, W_noErr, W_fnD, ev_plus, ev_sub, ev_iB, ev_toB, ev_not, ev_neg, ev_isN, ev_notN, ev_isB, ev_int, ev_abs, ev_max, ev_min, ev_eqI, ev_neI, Ms.isNon, Option.some.injEq, exists_eq_left', List.getElem?_cons_zero, List.getElem?_cons_succ, List.set_cons_zero, List.set_cons_succ, List.map_cons, List.map_nil, List.cons_append, List.nil_append, List.length_cons, List.length_nil, List.reduceReplicate, Nat.reduceAdd, Nat.reduceSub, Bool.not_true, Bool.not_false, Bool.false_eq_true, Bool.true_eq_false, if_true, if_false, decide_true, decide_false, D.int.injEq, D.bl.injEq, D.ref.injEq, exists_and_left, pk0, tup_list, check_ok (.inl rfl) o, check_ok (.inr rfl) o, te]
    exact ⟨trivial, hide_bx z11.bx⟩
  · rintro i d δ st hd ⟨x4, rfl, rfl⟩
    refine ⟨_, rfl, ?_⟩
    have hF : ∃ x, d = .fn x ∧ ∀ bx, fnT TF__law_none_right x [.tup (tl a z r n), non] bx = .err "Refused" non bx := by
      have hm := List.mem_of_getElem? hd
      simp only [List.mem_cons, List.not_mem_nil, or_false] at hm
      rcases hm with rfl | rfl | rfl
      · exact ⟨_, rfl, fun bx => by rw [fn1]; exact above_bad2 (.inr rfl) o c1 c2 bx⟩
      · exact ⟨_, rfl, fun bx => by rw [fn2]; exact can_bad2 (.inr rfl) o c1 c2 bx⟩
      · exact ⟨_, rfl, fun bx => by rw [fn3]; exact many_bad2 (.inr rfl) o c1 c2 bx⟩
    obtain ⟨x, rfl, hF⟩ := hF
    rw [WS_seq, WS_if]
    rw [said_no (x := non) (i := 6) (W.eqE (by
      rw [W_callF, W_var]
      refine ⟨_, rfl, _, rfl, ?_⟩
      simp only [WS_next, W_B, W_f1, W_f2, W_fA, W_cons, W_pur, W_var, W_not, W_ifT, W_ifB, W_call, W_callK, W_chain, W_wk, W_sl, W_po, W_poN, W_ok, W_err, W_noErr, W_fnD, ev_plus, ev_sub, ev_iB, ev_toB, ev_not, ev_neg, ev_isN, ev_notN, ev_isB, ev_int, ev_abs, ev_max, ev_min, ev_eqI, ev_neI, Ms.isNon, Option.some.injEq, exists_eq_left', List.getElem?_cons_zero, List.getElem?_cons_succ, List.set_cons_zero, List.set_cons_succ, List.map_cons, List.map_nil, List.cons_append, List.nil_append, List.length_cons, List.length_nil, List.reduceReplicate, Nat.reduceAdd, Nat.reduceSub, Bool.not_true, Bool.not_false, Bool.false_eq_true, Bool.true_eq_false, if_true, if_false, decide_true, decide_false, D.int.injEq, D.bl.injEq, D.ref.injEq, exists_and_left, hF, and_self])) c3 rfl, W_ok, if_neg (by decide), WS_next, WS_next]
    exact ⟨_, rfl, rfl⟩
end K16

end
section
set_option Elab.async false
set_option linter.all false
set_option maxRecDepth 100000
set_option maxHeartbeats 4000000
namespace K16
open PySem PySem.Spec PyProof.Rows L2 Ms
theorem ok_more {a z r n : Int} (o : Tent.Ok a z r n) : Tent.Ok a z r (n + 1) := by
  obtain ⟨hr, n0, d1, d2⟩ := o
  refine ⟨hr, by omega, ?_, ?_⟩ <;> rcases hr with rfl | rfl <;> omega
theorem top_more {a z r n : Int} (o : Tent.Ok a z r n) : Tent.topV a z r n ≤ Tent.topV a z r (n + 1) := by
  obtain ⟨t, t0, t1, e⟩ := Tent.top_at o
  have h1 := Tent.top_ge (ok_more o) (t := t) t0 (by omega)
  have h2 : Tent.hi a z r n t ≤ Tent.hi a z r (n + 1) t := by
    have hr := o.hr
    unfold Tent.hi
    rcases hr with rfl | rfl <;> omega
  omega
theorem many_more {a z r n l : Int} : (Tent.many a z r n l).1 ≤ (Tent.many a z r (n + 1) l).1 ∧ (Tent.many a z r n l).2 ≤ (Tent.many a z r (n + 1) l).2 := by
  unfold Tent.many
  constructor
  · show min (n + 1) _ ≤ min (n + 1 + 1) _
    omega
  · show max 0 (n + 1 - _) ≤ max 0 (n + 1 + 1 - _)
    omega
theorem vals_eq {a z r : Int} {n t : Nat} (h : Tn a z r n) (n4 : n ≤ 4) (tn : t ≤ n) : usrt ((Tent.paths a z r n n).map fun p => Tent.at0 p t) = rg (Tent.lo a z r n t) (Tent.hi a z r n t + 1 - Tent.lo a z r n t).toNat := by
  obtain ⟨_, F2, _⟩ := Tent.all_paths h.o n4
  obtain ⟨g1, g2⟩ := F2 t tn
  have lh := h.lohi (t := t) (by omega) (by omega)
  refine usrt_eq rg_sorted fun k => ?_
  rw [mem_rg, List.mem_map]
  constructor
  · rintro ⟨h1, h2⟩
    obtain ⟨p, hp, e⟩ := g2 k h1 (by omega)
    exact ⟨p, hp, e⟩
  · rintro ⟨p, hp, rfl⟩
    have := g1 p hp
    omega
theorem pix {p : List Int} {t : Nat} (h : t < p.length) (bx : Sto) : cIx bx (pD p) (.int t) = some (.int (Tent.at0 p t)) := by
  unfold pD Tent.at0
  rw [ev_ix vs_tup]
  refine atI_int (by omega) ?_
  rw [Int.toNat_natCast, List.getElem?_map, List.getElem?_eq_getElem h]
  rfl
theorem lst_fw {l : List Int} (hl : l.length ≤ 1000) (h : ∀ x ∈ l, -100000 ≤ x ∧ x ≤ 100000) : Fw (.lst (l.map D.int)) 1 32000 :=
  (Fw.lst (a := 0) (b := 31) fun d hd => by
    obtain ⟨i, hi, rfl⟩ := List.mem_map.mp hd
    have := h i hi
    exact (Fit.int (by omega)).fw).mono (by decide) (by rw [List.length_map]; omega)
theorem rg_head {lo : Int} {m : Nat} (h : 0 < m) : (rg lo m).headD 0 = lo := by
  unfold rg
  cases m with
  | zero => omega
  | succ m =>
    rw [List.range_succ_eq_map]
    simp
theorem rg_last {lo : Int} {m : Nat} (h : 0 < m) : (rg lo m).getLastD 0 = lo + m - 1 := by
  unfold rg
  cases m with
  | zero => omega
  | succ m =>
    rw [List.range_succ, List.map_append, List.getLastD_eq_getLast?]
    simp
    omega
theorem sp_take {a z r : Int} {n k : Nat} (h : k ≤ n) : (SP a z r n).take (k + 1) = (SP a z r n).take k ++ [.tup [.int (Tent.lo a z r n k), .int (Tent.hi a z r n k)]] := by
  refine take_succ ?_
  unfold SP rg
  rw [List.getElem?_map, List.getElem?_map, List.getElem?_range (by omega)]
  show some (D.tup [.int (Tent.lo a z r n (0 + (k : Int))), .int (Tent.hi a z r n (0 + (k : Int)))]) = _
  rw [Int.zero_add]
def Dz (ns : List Int) (δ : List (Option D)) : Prop := ∃ x1 x2 x3 x4 x5 x6 x7 x8 x9 x10 x11 x12, δ = [some (.scr ns), x1, x2, x3, x4, x5, x6, x7, x8, x9, x10, x11, x12]
def PJ (ns : List Int) (b : Nat) (a z r : Int) (n c : Nat) (x1 x9 x10 x11 x12 : Option D) (k : Nat) (δ : List (Option D)) (st : Sto) : Prop :=
  Bx b st ∧ b < c ∧ st[c]? = some (.lst ((SP a z r n).take k)) ∧ ∃ x6 x7 x8, δ = [some (.scr ns), x1, some (.ref b), some (.tup (tl a z r n)), some (.lst ((Tent.paths a z r n n).map pD)), some (.ref c), x6, x7, x8, x9, x10, x11, x12]
theorem math : LawIs := fun ns hns => by
  have key : W (m_law [.scr ns] []) (fun a _ => a = .bl true) NoE := by
    unfold m_law
    unfold S_law N_law
    rw [W_noErr, W_fnD, WS_hide]
    intro TE hTE
    rw [WS_for]
    simp only [WS_next, W_B, W_f1, W_f2, W_fA, W_cons, W_pur, W_var, W_not, W_ifT, W_ifB, W_call, W_callK, W_chain, W_wk, W_sl, W_po, W_poN, W_ok, W_err, W_noErr, W_fnD, ev_plus, ev_sub, ev_iB, ev_toB, ev_not, ev_neg, ev_isN, ev_notN, ev_isB, ev_int, ev_abs, ev_max, ev_min, ev_eqI, ev_neI, Ms.isNon, Option.some.injEq, exists_eq_left', List.getElem?_cons_zero, List.getElem?_cons_succ, List.set_cons_zero, List.set_cons_succ, List.map_cons, List.map_nil, List.cons_append, List.nil_append, List.length_cons, List.length_nil, List.reduceReplicate, Nat.reduceAdd, Nat.reduceSub, Bool.not_true, Bool.not_false, Bool.false_eq_true, Bool.true_eq_false, if_true, if_false, decide_true, decide_false, D.int.injEq, D.bl.injEq, D.ref.injEq, exists_and_left, W_rg1]
    refine ⟨_, rfl, by decide, by decide, ?_⟩
    refine for_rule (fun i δ bx' => Dz ns δ) ⟨_, _, _, _, _, _, _, _, _, _, _, _, rfl⟩ ?_ ?_
    · rintro δ bx' ⟨x1, x2, x3, x4, x5, x6, x7, x8, x9, x10, x11, x12, rfl⟩
      rw [hTE, WS_seq, WS_ret]
      simp only [WS_next, W_B, W_f1, W_f2, W_fA, W_cons, W_pur, W_var, W_not, W_ifT, W_ifB, W_call, W_callK, W_chain, W_wk, W_sl, W_po, W_poN, W_ok, W_err, W_noErr, W_fnD, ev_plus, ev_sub, ev_iB, ev_toB, ev_not, ev_neg, ev_isN, ev_notN, ev_isB, ev_int, ev_abs, ev_max, ev_min, ev_eqI, ev_neI, Ms.isNon, Option.some.injEq, exists_eq_left', List.getElem?_cons_zero, List.getElem?_cons_succ, List.set_cons_zero, List.set_cons_succ, List.map_cons, List.map_nil, List.cons_append, List.nil_append, List.length_cons, List.length_nil, List.reduceReplicate, Nat.reduceAdd, Nat.reduceSub, Bool.not_true, Bool.not_false, Bool.false_eq_true, Bool.true_eq_false, if_true, if_false, decide_true, decide_false, D.int.injEq, D.bl.injEq, D.ref.injEq, exists_and_left]
    · rintro i d δ bx' hd ⟨x1, x2, x3, x4, x5, x6, x7, x8, x9, x10, x11, x12, rfl⟩
      have e := rgl_get hd
      rw [Int.zero_add] at e
      subst e
      refine ⟨_, rfl, ?_⟩
      clear hTE TE
      rw [WS_hide]
      intro T1 hT1
      rw [WS_set]
      simp only [WS_next, W_B, W_f1, W_f2, W_fA, W_cons, W_pur, W_var, W_not, W_ifT, W_ifB, W_call, W_callK, W_chain, W_wk, W_sl, W_po, W_poN, W_ok, W_err, W_noErr, W_fnD, ev_plus, ev_sub, ev_iB, ev_toB, ev_not, ev_neg, ev_isN, ev_notN, ev_isB, ev_int, ev_abs, ev_max, ev_min, ev_eqI, ev_neI, Ms.isNon, Option.some.injEq, exists_eq_left', List.getElem?_cons_zero, List.getElem?_cons_succ, List.set_cons_zero, List.set_cons_succ, List.map_cons, List.map_nil, List.cons_append, List.nil_append, List.length_cons, List.length_nil, List.reduceReplicate, Nat.reduceAdd, Nat.reduceSub, Bool.not_true, Bool.not_false, Bool.false_eq_true, Bool.true_eq_false, if_true, if_false, decide_true, decide_false, D.int.injEq, D.bl.injEq, D.ref.injEq, exists_and_left]
      refine box_ok.to fun rr s0 h0 => ?_
      have h0' : ∃ b, rr = .ref b ∧ Bx b s0 := by
        obtain ⟨e, g, r', e'⟩ := h0
        exact ⟨_, e, g, r', by rw [e', List.getElem?_append_right (Nat.le_refl _), Nat.sub_self]; rfl⟩
      obtain ⟨b, rfl, hb⟩ := h0'
      clear h0
      rw [hT1]
      clear hT1 T1
      rw [WS_hide]
      intro T1 hT1
      rw [WS_set]
      simp only [WS_next, W_B, W_f1, W_f2, W_fA, W_cons, W_pur, W_var, W_not, W_ifT, W_ifB, W_call, W_callK, W_chain, W_wk, W_sl, W_po, W_poN, W_ok, W_err, W_noErr, W_fnD, ev_plus, ev_sub, ev_iB, ev_toB, ev_not, ev_neg, ev_isN, ev_notN, ev_isB, ev_int, ev_abs, ev_max, ev_min, ev_eqI, ev_neI, Ms.isNon, Option.some.injEq, exists_eq_left', List.getElem?_cons_zero, List.getElem?_cons_succ, List.set_cons_zero, List.set_cons_succ, List.map_cons, List.map_nil, List.cons_append, List.nil_append, List.length_cons, List.length_nil, List.reduceReplicate, Nat.reduceAdd, Nat.reduceSub, Bool.not_true, Bool.not_false, Bool.false_eq_true, Bool.true_eq_false, if_true, if_false, decide_true, decide_false, D.int.injEq, D.bl.injEq, D.ref.injEq, exists_and_left]
      refine (tent_ok (m := 4) hb (by decide)).to fun x s1 h1 => ?_
      obtain ⟨a, z, r, n, e, o, n4, a0, a1, y1⟩ := h1
      subst e
      have hT : Tn a z r n := ⟨o, by omega, a0, a1⟩
      rw [hT1]
      clear hT1 T1
      rw [WS_hide]
      intro T1 hT1
      rw [WS_set]
      simp only [WS_next, W_B, W_f1, W_f2, W_fA, W_cons, W_pur, W_var, W_not, W_ifT, W_ifB, W_call, W_callK, W_chain, W_wk, W_sl, W_po, W_poN, W_ok, W_err, W_noErr, W_fnD, ev_plus, ev_sub, ev_iB, ev_toB, ev_not, ev_neg, ev_isN, ev_notN, ev_isB, ev_int, ev_abs, ev_max, ev_min, ev_eqI, ev_neI, Ms.isNon, Option.some.injEq, exists_eq_left', List.getElem?_cons_zero, List.getElem?_cons_succ, List.set_cons_zero, List.set_cons_succ, List.map_cons, List.map_nil, List.cons_append, List.nil_append, List.length_cons, List.length_nil, List.reduceReplicate, Nat.reduceAdd, Nat.reduceSub, Bool.not_true, Bool.not_false, Bool.false_eq_true, Bool.true_eq_false, if_true, if_false, decide_true, decide_false, D.int.injEq, D.bl.injEq, D.ref.injEq, exists_and_left]
      have hk := paths_ok o n4 s1
      revert hk
      generalize m__law_paths [.tup (tl a z r n)] s1 = R
      intro hk
      refine hk.h.to fun x st hh => ?_
      obtain ⟨e1, e2⟩ := hh
      subst e1 e2
      clear hk R
      rw [hT1]
      clear hT1 T1
      rw [WS_hide]
      intro T1 hT1
      rw [WS_set, W_new]
      simp only [WS_next, W_B, W_f1, W_f2, W_fA, W_cons, W_pur, W_var, W_not, W_ifT, W_ifB, W_call, W_callK, W_chain, W_wk, W_sl, W_po, W_poN, W_ok, W_err, W_noErr, W_fnD, ev_plus, ev_sub, ev_iB, ev_toB, ev_not, ev_neg, ev_isN, ev_notN, ev_isB, ev_int, ev_abs, ev_max, ev_min, ev_eqI, ev_neI, Ms.isNon, Option.some.injEq, exists_eq_left', List.getElem?_cons_zero, List.getElem?_cons_succ, List.set_cons_zero, List.set_cons_succ, List.map_cons, List.map_nil, List.cons_append, List.nil_append, List.length_cons, List.length_nil, List.reduceReplicate, Nat.reduceAdd, Nat.reduceSub, Bool.not_true, Bool.not_false, Bool.false_eq_true, Bool.true_eq_false, if_true, if_false, decide_true, decide_false, D.int.injEq, D.bl.injEq, D.ref.injEq, exists_and_left]
      refine ⟨by decide, ?_⟩
      have hb2 : Bx b (st ++ [Cell.lst []]) := (ext_plus (Ext.refl y1.bx)).bx
      have hc2 : (st ++ [Cell.lst []])[st.length]? = some (.lst []) := at_end rfl
      have bc : b < st.length := by
        obtain ⟨g, r', e⟩ := y1.bx
        exact (List.getElem?_eq_some_iff.mp e).1
      revert hb2 hc2 bc
      generalize st ++ [Cell.lst []] = s2
      generalize st.length = c
      intro hb2 hc2 bc
      rw [hT1]
      clear hT1 T1
      rw [WS_hide]
      intro T1 hT1
      rw [WS_for]
      simp only [WS_next, W_B, W_f1, W_f2, W_fA, W_cons, W_pur, W_var, W_not, W_ifT, W_ifB, W_call, W_callK, W_chain, W_wk, W_sl, W_po, W_poN, W_ok, W_err, W_noErr, W_fnD, ev_plus, ev_sub, ev_iB, ev_toB, ev_not, ev_neg, ev_isN, ev_notN, ev_isB, ev_int, ev_abs, ev_max, ev_min, ev_eqI, ev_neI, Ms.isNon, Option.some.injEq, exists_eq_left', List.getElem?_cons_zero, List.getElem?_cons_succ, List.set_cons_zero, List.set_cons_succ, List.map_cons, List.map_nil, List.cons_append, List.nil_append, List.length_cons, List.length_nil, List.reduceReplicate, Nat.reduceAdd, Nat.reduceSub, Bool.not_true, Bool.not_false, Bool.false_eq_true, Bool.true_eq_false, if_true, if_false, decide_true, decide_false, D.int.injEq, D.bl.injEq, D.ref.injEq, exists_and_left, ix3, W_rg1]
      refine ⟨_, rfl, by omega, by omega, ?_⟩
      have tn : ((n : Int) + 1).toNat = n + 1 := by omega
      rw [tn, rgl_rg]
      refine for_rule (PJ ns b a z r n c (some (.int i)) x9 x10 x11 x12) ⟨hb2, bc, hc2, _, _, _, rfl⟩ ?_ ?_
      · rintro δ s3 ⟨hb3, bc3, hc3, x6, x7, x8, rfl⟩
        rw [List.length_map, rg_len, List.take_of_length_le (by rw [sp_len]; omega)] at hc3
        rw [hT1]
        clear hT1 T1
        rw [WS_hide]
        intro T1 hT1
        rw [WS_frz]
        refine ⟨c, SP a z r n, rfl, hc3, ?_⟩
        have hb4 : Bx b (s3.set c .dead) := by
          obtain ⟨g, r', e⟩ := hb3
          exact ⟨g, r', at_ne e (by omega)⟩
        revert hb4
        generalize s3.set c .dead = s4
        intro hb4
        rw [hT1]
        clear hT1 T1 hb3 hc3 hb2 hc2
        rw [WS_hide]
        intro T1 hT1
        rw [WS_if]
        simp only [WS_next, W_B, W_f1, W_f2, W_fA, W_cons, W_pur, W_var, W_not, W_ifT, W_ifB, W_call, W_callK, W_chain, W_wk, W_sl, W_po, W_poN, W_ok, W_err, W_noErr, W_fnD, ev_plus, ev_sub, ev_iB, ev_toB, ev_not, ev_neg, ev_isN, ev_notN, ev_isB, ev_int, ev_abs, ev_max, ev_min, ev_eqI, ev_neI, Ms.isNon, Option.some.injEq, exists_eq_left', List.getElem?_cons_zero, List.getElem?_cons_succ, List.set_cons_zero, List.set_cons_succ, List.map_cons, List.map_nil, List.cons_append, List.nil_append, List.length_cons, List.length_nil, List.reduceReplicate, Nat.reduceAdd, Nat.reduceSub, Bool.not_true, Bool.not_false, Bool.false_eq_true, Bool.true_eq_false, if_true, if_false, decide_true, decide_false, D.int.injEq, D.bl.injEq, D.ref.injEq, exists_and_left]
        have hk := right_ok (pd := .lst ((Tent.paths a z r n n).map pD)) hb4 hT (.inr ⟨n4, rfl⟩)
        revert hk
        generalize m__law_is_right [.ref b, .tup (tl a z r n), .lst (SP a z r n), .lst ((Tent.paths a z r n n).map pD)] s4 = R
        intro hk
        refine hk.h.to fun x st hh => ?_
        obtain ⟨e1, y⟩ := hh
        clear hk R
        subst e1
        refine ⟨_, rfl, ?_⟩
        rw [if_neg (by decide)]
        simp only [WS_next, W_B, W_f1, W_f2, W_fA, W_cons, W_pur, W_var, W_not, W_ifT, W_ifB, W_call, W_callK, W_chain, W_wk, W_sl, W_po, W_poN, W_ok, W_err, W_noErr, W_fnD, ev_plus, ev_sub, ev_iB, ev_toB, ev_not, ev_neg, ev_isN, ev_notN, ev_isB, ev_int, ev_abs, ev_max, ev_min, ev_eqI, ev_neI, Ms.isNon, Option.some.injEq, exists_eq_left', List.getElem?_cons_zero, List.getElem?_cons_succ, List.set_cons_zero, List.set_cons_succ, List.map_cons, List.map_nil, List.cons_append, List.nil_append, List.length_cons, List.length_nil, List.reduceReplicate, Nat.reduceAdd, Nat.reduceSub, Bool.not_true, Bool.not_false, Bool.false_eq_true, Bool.true_eq_false, if_true, if_false, decide_true, decide_false, D.int.injEq, D.bl.injEq, D.ref.injEq, exists_and_left]
        have hk := none_ok y.bx hT
        revert hk
        generalize m__law_none_right [.ref b, .tup (tl a z r n)] st = R
        intro hk
        refine hk.h.to fun x st2 hh => ?_
        obtain ⟨e1, hb5⟩ := hh
        clear hk R y
        subst e1
        refine ⟨_, rfl, ?_⟩
        rw [if_neg (by decide), WS_next, hT1]
        clear hT1 T1 hb4
        rw [WS_hide]
        intro T1 hT1
        rw [WS_set]
        simp only [WS_next, W_B, W_f1, W_f2, W_fA, W_cons, W_pur, W_var, W_not, W_ifT, W_ifB, W_call, W_callK, W_chain, W_wk, W_sl, W_po, W_poN, W_ok, W_err, W_noErr, W_fnD, ev_plus, ev_sub, ev_iB, ev_toB, ev_not, ev_neg, ev_isN, ev_notN, ev_isB, ev_int, ev_abs, ev_max, ev_min, ev_eqI, ev_neI, Ms.isNon, Option.some.injEq, exists_eq_left', List.getElem?_cons_zero, List.getElem?_cons_succ, List.set_cons_zero, List.set_cons_succ, List.map_cons, List.map_nil, List.cons_append, List.nil_append, List.length_cons, List.length_nil, List.reduceReplicate, Nat.reduceAdd, Nat.reduceSub, Bool.not_true, Bool.not_false, Bool.false_eq_true, Bool.true_eq_false, if_true, if_false, decide_true, decide_false, D.int.injEq, D.bl.injEq, D.ref.injEq, exists_and_left]
        refine (tent_ok (m := 30) hb5 (by decide)).to fun x s6 h1 => ?_
        obtain ⟨a, z, r, n, e, o, n30, a0, a1, y6⟩ := h1
        subst e
        have hT : Tn a z r n := ⟨o, by omega, a0, a1⟩
        rw [hT1]
        clear hT1 T1
        rw [WS_hide]
        intro T1 hT1
        rw [WS_set]
        have s3 : ∀ bx, cSl bx (.tup (tl a z r n)) none (some 3) = some (.tup [.int a, .int z, .int r]) := fun _ => rfl
        have p4 : ∀ bx, cPlus bx (.tup [.int a, .int z, .int r]) (.tup [.int ((n : Int) + 1)]) = some (.tup (tl a z r ((n : Int) + 1))) := fun _ => rfl
        simp only [WS_next, W_B, W_f1, W_f2, W_fA, W_cons, W_pur, W_var, W_not, W_ifT, W_ifB, W_call, W_callK, W_chain, W_wk, W_sl, W_po, W_poN, W_ok, W_err, W_noErr, W_fnD, ev_plus, ev_sub, ev_iB, ev_toB, ev_not, ev_neg, ev_isN, ev_notN, ev_isB, ev_int, ev_abs, ev_max, ev_min, ev_eqI, ev_neI, Ms.isNon, Option.some.injEq, exists_eq_left', List.getElem?_cons_zero, List.getElem?_cons_succ, List.set_cons_zero, List.set_cons_succ, List.map_cons, List.map_nil, List.cons_append, List.nil_append, List.length_cons, List.length_nil, List.reduceReplicate, Nat.reduceAdd, Nat.reduceSub, Bool.not_true, Bool.not_false, Bool.false_eq_true, Bool.true_eq_false, if_true, if_false, decide_true, decide_false, D.int.injEq, D.bl.injEq, D.ref.injEq, exists_and_left, s3, ix3]
        refine ⟨_, ev_tup (by show 1 ≤ 1000; decide), _, p4 _, ?_⟩
        rw [hT1]
        clear hT1 T1
        rw [WS_hide]
        intro T1 hT1
        rw [WS_if]
        simp only [WS_next, W_B, W_f1, W_f2, W_fA, W_cons, W_pur, W_var, W_not, W_ifT, W_ifB, W_call, W_callK, W_chain, W_wk, W_sl, W_po, W_poN, W_ok, W_err, W_noErr, W_fnD, ev_plus, ev_sub, ev_iB, ev_toB, ev_not, ev_neg, ev_isN, ev_notN, ev_isB, ev_int, ev_abs, ev_max, ev_min, ev_eqI, ev_neI, Ms.isNon, Option.some.injEq, exists_eq_left', List.getElem?_cons_zero, List.getElem?_cons_succ, List.set_cons_zero, List.set_cons_succ, List.map_cons, List.map_nil, List.cons_append, List.nil_append, List.length_cons, List.length_nil, List.reduceReplicate, Nat.reduceAdd, Nat.reduceSub, Bool.not_true, Bool.not_false, Bool.false_eq_true, Bool.true_eq_false, if_true, if_false, decide_true, decide_false, D.int.injEq, D.bl.injEq, D.ref.injEq, exists_and_left, W_lc, W_lcA, ix3, W_rg1]
        refine ⟨_, rfl, by omega, by omega, ?_⟩
        have tn : ((n : Int) + 1).toNat = n + 1 := by omega
        rw [tn, rgl_rg]
        refine ⟨by rw [List.length_map, rg_len]; omega, ?_⟩
        rw [lcF (p := fun _ => true) (g := fun t => .tup [.int (Tent.lo a z r n t), .int (Tent.hi a z r n t)]) fun t ht => ⟨rfl, fun _ => W.eq (by
          have hm := mem_rg.mp ht
          obtain ⟨k, hk⟩ : ∃ k : Nat, (k : Int) = t := ⟨t.toNat, by omega⟩
          subst hk
          simp only [unset, List.foldl_cons, List.foldl_nil, WS_next, W_B, W_f1, W_f2, W_fA, W_cons, W_pur, W_var, W_not, W_ifT, W_ifB, W_call, W_callK, W_chain, W_wk, W_sl, W_po, W_poN, W_ok, W_err, W_noErr, W_fnD, ev_plus, ev_sub, ev_iB, ev_toB, ev_not, ev_neg, ev_isN, ev_notN, ev_isB, ev_int, ev_abs, ev_max, ev_min, ev_eqI, ev_neI, Ms.isNon, Option.some.injEq, exists_eq_left', List.getElem?_cons_zero, List.getElem?_cons_succ, List.set_cons_zero, List.set_cons_succ, List.map_cons, List.map_nil, List.cons_append, List.nil_append, List.length_cons, List.length_nil, List.reduceReplicate, Nat.reduceAdd, Nat.reduceSub, Bool.not_true, Bool.not_false, Bool.false_eq_true, Bool.true_eq_false, if_true, if_false, decide_true, decide_false, D.int.injEq, D.bl.injEq, D.ref.injEq, exists_and_left, span_ok (a := a) (z := z) (r := r) (n := n) (t := k) (by omega) (by omega) o.hr, and_self])⟩, W_ok]
        have ef : (rg 0 (n + 1)).filter (fun _ => true) = rg 0 (n + 1) := List.filter_eq_self.mpr fun _ _ => rfl
        have es : ((rg 0 (n + 1)).map fun t => D.tup [.int (Tent.lo a z r n t), .int (Tent.hi a z r n t)]) = SP a z r n := rfl
        rw [ef, es]
        have hk := right_ok (pd := .non) y6.bx hT (.inl rfl)
        revert hk
        generalize m__law_is_right [.ref b, .tup (tl a z r n), .lst (SP a z r n), .non] s6 = R
        intro hk
        refine hk.h.to fun x s7 hh => ?_
        obtain ⟨e1, y7⟩ := hh
        clear hk R
        subst e1
        refine ⟨_, rfl, ?_⟩
        rw [if_neg (by decide), WS_next, hT1]
        clear hT1 T1
        rw [WS_hide]
        intro T1 hT1
        rw [WS_set]
        simp only [WS_next, W_B, W_f1, W_f2, W_fA, W_cons, W_pur, W_var, W_not, W_ifT, W_ifB, W_call, W_callK, W_chain, W_wk, W_sl, W_po, W_poN, W_ok, W_err, W_noErr, W_fnD, ev_plus, ev_sub, ev_iB, ev_toB, ev_not, ev_neg, ev_isN, ev_notN, ev_isB, ev_int, ev_abs, ev_max, ev_min, ev_eqI, ev_neI, Ms.isNon, Option.some.injEq, exists_eq_left', List.getElem?_cons_zero, List.getElem?_cons_succ, List.set_cons_zero, List.set_cons_succ, List.map_cons, List.map_nil, List.cons_append, List.nil_append, List.length_cons, List.length_nil, List.reduceReplicate, Nat.reduceAdd, Nat.reduceSub, Bool.not_true, Bool.not_false, Bool.false_eq_true, Bool.true_eq_false, if_true, if_false, decide_true, decide_false, D.int.injEq, D.bl.injEq, D.ref.injEq, exists_and_left, tix0]
        refine (take_ok y7.bx (by decide) (by decide)).to fun x s8 ⟨w, e, w0, w1, y8, l8⟩ => ?_
        subst e
        simp only [ev_plus, ev_sub, Option.some.injEq, exists_eq_left']
        obtain ⟨l, hl⟩ : ∃ l, l = a + w - 2 := ⟨_, rfl⟩
        rw [← hl]
        have o2 := ok_more o
        rw [hT1]
        clear hT1 T1
        rw [WS_hide]
        intro T1 hT1
        rw [WS_par]
        simp only [WS_next, W_B, W_f1, W_f2, W_fA, W_cons, W_pur, W_var, W_not, W_ifT, W_ifB, W_call, W_callK, W_chain, W_wk, W_sl, W_po, W_poN, W_ok, W_err, W_noErr, W_fnD, ev_plus, ev_sub, ev_iB, ev_toB, ev_not, ev_neg, ev_isN, ev_notN, ev_isB, ev_int, ev_abs, ev_max, ev_min, ev_eqI, ev_neI, Ms.isNon, Option.some.injEq, exists_eq_left', List.getElem?_cons_zero, List.getElem?_cons_succ, List.set_cons_zero, List.set_cons_succ, List.map_cons, List.map_nil, List.cons_append, List.nil_append, List.length_cons, List.length_nil, List.reduceReplicate, Nat.reduceAdd, Nat.reduceSub, Bool.not_true, Bool.not_false, Bool.false_eq_true, Bool.true_eq_false, if_true, if_false, decide_true, decide_false, D.int.injEq, D.bl.injEq, D.ref.injEq, exists_and_left, many_ok (.inr rfl) o, many_ok (.inr rfl) o2]
        refine ⟨_, _, rfl, ?_⟩
        rw [hT1]
        clear hT1 T1
        have tm1 := top_more o
        have tm2 := top_more (Tent.ok_neg o)
        have mm := many_more (a := a) (z := z) (r := r) (n := n) (l := l)
        have d1 : decide (Tent.topV a z r ((n : Int) + 1) < Tent.topV a z r n) = false := decide_eq_false (by omega)
        have d2 : decide (-Tent.topV (-a) (-z) r n < -Tent.topV (-a) (-z) r ((n : Int) + 1)) = false := decide_eq_false (by omega)
        have d3 : decide ((Tent.many a z r ((n : Int) + 1) l).1 < (Tent.many a z r n l).1) = false := decide_eq_false (by omega)
        have d4 : decide ((Tent.many a z r ((n : Int) + 1) l).2 < (Tent.many a z r n l).2) = false := decide_eq_false (by omega)
        rw [WS_seq, WS_if]
        simp only [WS_next, W_B, W_f1, W_f2, W_fA, W_cons, W_pur, W_var, W_not, W_ifT, W_ifB, W_call, W_callK, W_chain, W_wk, W_sl, W_po, W_poN, W_ok, W_err, W_noErr, W_fnD, ev_plus, ev_sub, ev_iB, ev_toB, ev_not, ev_neg, ev_isN, ev_notN, ev_isB, ev_int, ev_abs, ev_max, ev_min, ev_eqI, ev_neI, Ms.isNon, Option.some.injEq, exists_eq_left', List.getElem?_cons_zero, List.getElem?_cons_succ, List.set_cons_zero, List.set_cons_succ, List.map_cons, List.map_nil, List.cons_append, List.nil_append, List.length_cons, List.length_nil, List.reduceReplicate, Nat.reduceAdd, Nat.reduceSub, Bool.not_true, Bool.not_false, Bool.false_eq_true, Bool.true_eq_false, if_true, if_false, decide_true, decide_false, D.int.injEq, D.bl.injEq, D.ref.injEq, exists_and_left, highest_ok (.inr rfl) o, highest_ok (.inr rfl) o2, lowest_ok (.inr rfl) o, lowest_ok (.inr rfl) o2, d1, d2, pr0, pr1, d3, d4]
        exact ⟨_, _, _, _, _, _, _, _, _, _, _, _, rfl⟩
      · rintro k d δ s3 hd ⟨hb3, bc3, hc3, x6, x7, x8, rfl⟩
        clear hT1 T1
        obtain ⟨w, hw, rfl⟩ := map_get hd
        have hk : w = (k : Int) ∧ k < n + 1 := by
          unfold rg at hw
          rw [List.getElem?_map] at hw
          have hi : k < n + 1 := by
            by_cases q : k < n + 1
            · exact q
            · rw [List.getElem?_eq_none (by rw [List.length_range]; omega)] at hw
              cases hw
          rw [List.getElem?_range hi] at hw
          have : (0 : Int) + (k : Int) = w := Option.some.inj hw
          exact ⟨by omega, hi⟩
        obtain ⟨rfl, hk⟩ := hk
        have lh := hT.lohi (t := k) (by omega) (by omega)
        have pl := paths_len (a := a) (z := z) (n := n) o.hr n
        have p5 : 5 ^ n ≤ 5 ^ 4 := Nat.pow_le_pow_right (by decide) n4
        have F1 := (Tent.all_paths o n4).1
        have ve := vals_eq hT n4 (t := k) (by omega)
        obtain ⟨lo, hlo⟩ : ∃ lo, lo = Tent.lo a z r n k := ⟨_, rfl⟩
        obtain ⟨hi, hhi⟩ : ∃ hi, hi = Tent.hi a z r n k := ⟨_, rfl⟩
        obtain ⟨m, hm⟩ : ∃ m, m = (hi + 1 - lo).toNat := ⟨_, rfl⟩
        rw [← hlo, ← hhi] at lh ve
        rw [← hm] at ve
        have m0 : 0 < m := by omega
        have m20 : m ≤ 40 := by
          have hr := o.hr
          unfold Tent.lo at hlo
          unfold Tent.hi at hhi
          rcases hr with rfl | rfl <;> omega
        refine ⟨_, rfl, ?_⟩
        rw [WS_hide]
        intro T1 hT1
        rw [WS_set, W_f1, W_lc, W_lcA]
        simp only [WS_next, W_B, W_f1, W_f2, W_fA, W_cons, W_pur, W_var, W_not, W_ifT, W_ifB, W_call, W_callK, W_chain, W_wk, W_sl, W_po, W_poN, W_ok, W_err, W_noErr, W_fnD, ev_plus, ev_sub, ev_iB, ev_toB, ev_not, ev_neg, ev_isN, ev_notN, ev_isB, ev_int, ev_abs, ev_max, ev_min, ev_eqI, ev_neI, Ms.isNon, Option.some.injEq, exists_eq_left', List.getElem?_cons_zero, List.getElem?_cons_succ, List.set_cons_zero, List.set_cons_succ, List.map_cons, List.map_nil, List.cons_append, List.nil_append, List.length_cons, List.length_nil, List.reduceReplicate, Nat.reduceAdd, Nat.reduceSub, Bool.not_true, Bool.not_false, Bool.false_eq_true, Bool.true_eq_false, if_true, if_false, decide_true, decide_false, D.int.injEq, D.bl.injEq, D.ref.injEq, exists_and_left]
        refine ⟨_, rfl, by rw [List.length_map]; omega, ?_⟩
        rw [lcF (p := fun _ => true) (g := fun p => .int (Tent.at0 p k)) fun p hp => ⟨rfl, fun _ => W.eq (by
          have := F1 p hp
          simp only [unset, List.foldl_cons, List.foldl_nil, WS_next, W_B, W_f1, W_f2, W_fA, W_cons, W_pur, W_var, W_not, W_ifT, W_ifB, W_call, W_callK, W_chain, W_wk, W_sl, W_po, W_poN, W_ok, W_err, W_noErr, W_fnD, ev_plus, ev_sub, ev_iB, ev_toB, ev_not, ev_neg, ev_isN, ev_notN, ev_isB, ev_int, ev_abs, ev_max, ev_min, ev_eqI, ev_neI, Ms.isNon, Option.some.injEq, exists_eq_left', List.getElem?_cons_zero, List.getElem?_cons_succ, List.set_cons_zero, List.set_cons_succ, List.map_cons, List.map_nil, List.cons_append, List.nil_append, List.length_cons, List.length_nil, List.reduceReplicate, Nat.reduceAdd, Nat.reduceSub, Bool.not_true, Bool.not_false, Bool.false_eq_true, Bool.true_eq_false, if_true, if_false, decide_true, decide_false, D.int.injEq, D.bl.injEq, D.ref.injEq, exists_and_left, pix (p := p) (t := k) (by omega), and_self])⟩, W_ok]
        have ef : (Tent.paths a z r n n).filter (fun _ => true) = Tent.paths a z r n n := List.filter_eq_self.mpr fun _ _ => rfl
        have ei : ((Tent.paths a z r n n).map fun p => D.int (Tent.at0 p k)) = ((Tent.paths a z r n n).map fun p => Tent.at0 p k).map D.int := by
          rw [List.map_map]
          rfl
        refine ⟨_, ev_sortSet vs_lst (by rw [ef]; exact ei) (by rw [List.length_map]; omega) (by rw [ve, rg_len]; omega), ?_⟩
        rw [ve, hT1]
        clear hT1 T1
        rw [WS_hide]
        intro T1 hT1
        have ne : rg lo m ≠ [] := fun e => by
          have := congrArg List.length e
          rw [rg_len] at this
          simp at this
          omega
        have i0 : ∀ bx, cIx bx (.lst ((rg lo m).map D.int)) (.int 0) = some (.int lo) := fun bx => by rw [ix0 (.inl rfl) ne, rg_head m0]
        have iL : ∀ bx, cIx bx (.lst ((rg lo m).map D.int)) (.int (-1)) = some (.int hi) := fun bx => by
          rw [ixL (.inl rfl) ne, rg_last m0]
          congr 2
          omega
        have lr : ∀ bx, cLstRg2 bx (.int lo) (.int (hi + 1)) = some (.lst ((rg lo m).map D.int)) := fun bx => by
          show (if rgOk lo (hi + 1) = true then some (D.lst (rgl lo (hi + 1 - lo).toNat)) else none) = _
          rw [if_pos (by unfold rgOk; simp; omega), rgl_eq, ← hm]
        have vf : Fw (.lst ((rg lo m).map D.int)) 1 32000 := lst_fw (by rw [rg_len]; omega) fun x hx => by
          have := mem_rg.mp hx
          omega
        have vn : ∀ bx, cNeD bx (.lst ((rg lo m).map D.int)) (.lst ((rg lo m).map D.int)) = some (.bl false) := fun bx => (K16.Fw.self vf (by decide) bx).2
        rw [WS_if]
        simp only [WS_next, W_B, W_f1, W_f2, W_fA, W_cons, W_pur, W_var, W_not, W_ifT, W_ifB, W_call, W_callK, W_chain, W_wk, W_sl, W_po, W_poN, W_ok, W_err, W_noErr, W_fnD, ev_plus, ev_sub, ev_iB, ev_toB, ev_not, ev_neg, ev_isN, ev_notN, ev_isB, ev_int, ev_abs, ev_max, ev_min, ev_eqI, ev_neI, Ms.isNon, Option.some.injEq, exists_eq_left', List.getElem?_cons_zero, List.getElem?_cons_succ, List.set_cons_zero, List.set_cons_succ, List.map_cons, List.map_nil, List.cons_append, List.nil_append, List.length_cons, List.length_nil, List.reduceReplicate, Nat.reduceAdd, Nat.reduceSub, Bool.not_true, Bool.not_false, Bool.false_eq_true, Bool.true_eq_false, if_true, if_false, decide_true, decide_false, D.int.injEq, D.bl.injEq, D.ref.injEq, exists_and_left, i0, iL, lr, vn]
        rw [hT1]
        clear hT1 T1
        rw [WS_seq, WS_app]
        simp only [WS_next, W_B, W_f1, W_f2, W_fA, W_cons, W_pur, W_var, W_not, W_ifT, W_ifB, W_call, W_callK, W_chain, W_wk, W_sl, W_po, W_poN, W_ok, W_err, W_noErr, W_fnD, ev_plus, ev_sub, ev_iB, ev_toB, ev_not, ev_neg, ev_isN, ev_notN, ev_isB, ev_int, ev_abs, ev_max, ev_min, ev_eqI, ev_neI, Ms.isNon, Option.some.injEq, exists_eq_left', List.getElem?_cons_zero, List.getElem?_cons_succ, List.set_cons_zero, List.set_cons_succ, List.map_cons, List.map_nil, List.cons_append, List.nil_append, List.length_cons, List.length_nil, List.reduceReplicate, Nat.reduceAdd, Nat.reduceSub, Bool.not_true, Bool.not_false, Bool.false_eq_true, Bool.true_eq_false, if_true, if_false, decide_true, decide_false, D.int.injEq, D.bl.injEq, D.ref.injEq, exists_and_left, i0, iL]
        refine ⟨_, hc3, _, ev_tup (by show 2 ≤ 1000; decide), _, hc3, by rw [List.length_take]; omega, ?_⟩
        have c3 : c < s3.length := (List.getElem?_eq_some_iff.mp hc3).1
        refine ⟨?_, bc3, ?_, _, _, _, rfl⟩
        · obtain ⟨g, r', e⟩ := hb3
          exact ⟨g, r', at_ne e (by omega)⟩
        · rw [List.getElem?_set_self c3, sp_take (by omega), hlo, hhi]
  obtain ⟨a, st, e, rfl⟩ := W.ok_iff.mpr key
  exact ⟨st, e⟩
end K16

end
set_option Elab.async false
set_option maxRecDepth 100000
set_option maxHeartbeats 0
open PySem PySem.W PySem.Calls PyProof.Rows in
theorem PySem.Challenge.cw_wrecktold_k16_whole_tents_by_all_paths_holds : PySem.Challenge.rw_wrecktold_k16_whole_tents_by_all_paths.Holds := by
  w_on; o_law
  refine HandSHeadRun.head_any (r := OpenLaw.row PySem.Challenge.rw_wrecktold_k16_whole_tents_by_all_paths) (q := view (OpenLaw.row PySem.Challenge.rw_wrecktold_k16_whole_tents_by_all_paths).prog [41]) (H := K16.hk) (ob := K16.ob) (M := 12000) (loose := K16.loose) (d := HandSHeadRun.topDef (OpenLaw.row PySem.Challenge.rw_wrecktold_k16_whole_tents_by_all_paths).prog 41) (kwd := []) K16.ob_eq
    (by kernel_rfl) (fun s => by kernel_rfl) K16.run (by kernel_rfl) (by kernel_rfl) (by kernel_rfl) (by rfl) (by first | assumption | decide +kernel) (by decide +kernel) ⟨rfl, rfl, rfl, rfl, rfl, by decide +kernel⟩ ?hw ?hc
  case hw => w_witness2
  case hc =>
    refine Ms.walkX (l := PySem.Challenge.rw_wrecktold_k16_whole_tents_by_all_paths) (n := 63) rfl (by decide) (by kernel_rfl) ?F
    intro w mg fa h Y G hmg0
    obtain ⟨K, KX, c⟩ := Y
    have hmg : mg ("law" : PySem.Str) = some (.ref fa) := by
      have e : (HandSHeadRun.topDef (OpenLaw.row PySem.Challenge.rw_wrecktold_k16_whole_tents_by_all_paths).prog 41).name = ("law" : PySem.Str) := by kernel_rfl
      rw [← e]
      exact hmg0
    exact ⟨K, KX, K16.all_mk K16.math KX G hmg c⟩

